import PyProof.Rows.All
import Wide.All
import OpenK.AllK
import Wide.FinOn
import PyProof.EqAt
import PyProof.EqKinds
import PyProof.TupleCall
import KE.BitLaws
import PyQl16
import PyProof.Rows.StrCut
import PyProof.Rows.StrFirst
import PyProof.Rows.StrStrike
import PyProof.Rows.StrItems
import PyProof.Rows.StrPhrases
import PyProof.StrLawsTight
import PyProof.StrLawsReplace
import KE.IntTextLaws
import PyProof.ExcBaseAll.Exception
import PyProof.StrCalls6
import PyProof.DictRoadsH
import PyProof.MeetsDict
import PyProof.DictItems
import PyProof.ExcClass
import PyProof.DictTruth
import PyProof.MeetsDictList
import PyProof.ListStr
import KE.KRevIter
import PyProof.EnumMake
import PyProof.EnumIter
import KE.IntBitsLaws
import Open.SpecLaws
import KE.OsHead
import KE.OsGo
import PySem.Challenge.RW_plainsettings_s01_answers
set_option Elab.async false
set_option linter.all false
set_option autoImplicit true
set_option maxRecDepth 100000
set_option maxHeartbeats 4000000
def Ox:=@if_neg
def Oy:=@if_pos
def Oz:=@PySem.wpAny_bind
def OA:=@List.mem_cons
def OB:=@List.length_cons
def OC:=@Option.some.injEq
def OD:=@PySem.Heap.get?_push_of_some
def OE:=@Nat.le_refl
def OF:=@True.intro
def OG:=@Prod.mk.injEq
def OH:=@List.mem_append
def OI:=@Option.map_eq_some_iff
def OJ:=@PySem.F.plainAttrs_list
def OK:=@PySem.wpAny_pure
def OL:=@Ne.symm
def OM:=@List.mem_cons_of_mem
def ON:=@List.length_append
def OO:=@decide_eq_true
def OP:=@List.map_cons
def OQ:=@Option.some.inj
def OR:=@List.nodup_cons
def OS:=@List.cons_append
def OT:=@List.cons.injEq
def OU:=@PySem.Heap.get?_push_size
def OV:=@List.getElem?_eq_some_iff
def OW:=@PySem.F.slot_list_append
def OX:=@PySem.F.type_list_append
def OY:=@PySem.Heap.lt_size
def OZ:=@List.nodup_append
def O0:=@List.length_map
def O1:=@Nat.zero_le
def O2:=@List.mem_cons_self
def O3:=@decide_eq_false
def O4:=@Bool.and_eq_true
def O5:=@PySem.boot_len
def O6:=@List.length_drop
def O7:=@List.getElem?_eq_getElem
def O8:=@List.size_toArray
def O9:=@Nat.le_trans
def Pa:=@List.length_nil
def Pb:=@Nat.lt_of_lt_of_le
def Pc:=@decide_eq_true_eq
def Pd:=@Option.bind_some
def Pe:=@Bool.false_ne_true
def Pf:=@List.not_mem_nil
def Pg:=@List.length_take
def Ph:=@exists_eq_left'
def Pj:=@List.getElem?_cons_zero
def Pk:=@List.getElem?_cons_succ
def Pl:=@List.mem_append_right
def Pn:=@List.append_nil
def Po:=@PySem.mem_of_lookup
def Pp:=@List.nil_append
def Pq:=@exists_and_left
def Pr:=@Nat.ne_of_lt
def Pt:=@Nat.pow_add
def Pu:=@List.dropWhile_cons_of_pos
def Pw:=@congrArg
def Px:=@exists_eq_left
def Py:=@PySem.Heap.get?_update_other
def Pz:=@Nat.mul_le_mul_right
def PB:=@Nat.pow_le_pow_right
def PD:=@PySem.Heap.size_push
def PF:=@List.dropWhile_cons_of_neg
def PJ:=@List.drop_eq_getElem_cons
def PK:=@List.all_eq_true
def PL:=@Int.toNat_natCast
def PM:=@PySem.PassesOwn.leaving
def PN:=@List.take_add_one
def PQ:=@List.mem_append_left
def PR:=@PySem.Calls.callWith_builtin
def PU:=@List.take_of_length_le
def PV:=@PySem.Calls.spliced_cons
def PX:=@List.map_nil
def PY:=@not_or
def PZ:=@true_and
def P0:=@PySem.Obj.data_mapFields
def P1:=@PySem.F.slot_list_extend
def P2:=@PySem.F.type_list_extend
def P4:=@List.map_map
def P5:=@and_true
def P6:=@UInt8.toNat_inj
def P7:=@List.getElem?_eq_none
def P8:=@PySem.wpAny_field
def P9:=@of_decide_eq_true
def Qa:=@PySem.wpAny_mono
def Qb:=@Bool.eq_iff_iff
def Qc:=@List.mem_of_getElem?
def Qd:=@PySem.wpAny_setField_rec
def Qe:=@List.set_cons_zero
def Qg:=@List.set_cons_succ
def Qh:=@PySem.PassesOwn.never
def Qi:=@PySem.wpAny_truthy_bool
def Qj:=@Bool.true_and
def Qk:=@List.mem_map
def Ql:=@Or.inl
def Qm:=@PySem.Heap.get?_update_self
def Qn:=@PySem.W.kia_one
def Qo:=@List.find?_cons
def Qp:=@List.map_append
def Qq:=@PyProof.Rows.callWith_type1
def Qr:=@PySem.wpAny_Call_Name_kw
def Qs:=@or_false
def Qt:=@List.takeWhile_cons_of_pos
def Qu:=@PySem.Calls.spliced_nil
def Qv:=@List.getElem?_map
def Qw:=@and_assoc
def Qx:=@List.map_congr_left
def Qy:=@List.perm_iff_count
def Qz:=@if_true
def QA:=@PySem.F.slot_dict_itemiterator_next
def QB:=@exists_eq_right'
def QC:=@Nat.lt_irrefl
def QD:=@Nat.pow_pos
def QE:=@PySem.wpAny_holding
def QF:=@PySem.Calls.evalArgs_plain
def QG:=@List.count_append
def QH:=@LawfulBEq.eq_of_beq
def QI:=@exists_eq_right
def QJ:=@PySem.F.slot_str_startswith
def QK:=@PySem.F.type_str_startswith
def QL:=@List.length_pos_iff
def QM:=@PySem.Heap.SameBut.update
def QN:=@List.dropWhile_sublist
def QO:=@List.drop_eq_nil_of_le
def QP:=@List.sum_cons
def QQ:=@List.take_length
def QR:=@Nat.lt_of_le_of_lt
def QS:=@PySem.Obj.isFreed_of_fields
def QT:=@List.dropLast_concat
def QU:=@Nat.min_eq_left
def QV:=@PySem.wpAny_typeNameOfWhole_itemiter
def QW:=@List.count_cons
def QX:=@List.append_assoc
def QY:=@List.getLast?_eq_some_getLast
def QZ:=@PySem.wpAny_callSpecial?_slot
def Q0:=@beq_eq_false_iff_ne
def Q1:=@Array.length_toList
def Q2:=@Nat.mul_le_mul_left
def Q3:=@List.lookup_cons
def Q4:=@List.drop_zero
def Q5:=@PySem.typeIs_str
def Q6:=@decide_true
def Q7:=@Nat.ne_of_gt
def Q8:=@Nat.mul_lt_mul_of_pos_right
def Q9:=@List.mem_singleton
def Ra:=@of_decide_eq_false
def Rb:=@Int.natAbs_natCast
def Rc:=@PySem.wpAny_passesOwn
def Rf:=@Array.getElem?_eq_some_iff
def Rg:=@PySem.wpAny_newObj_type
def Rh:=@List.getElem?_eq_none_iff
def Ri:=@List.length_dropLast
def Rj:=@Classical.byContradiction
def Rk:=@PySem.wpAny_typeNameOf_itemiter
def Rl:=@Option.map_map
def Rm:=@Nat.le_of_lt
def Ro:=@List.length_eq_zero_iff
def Rp:=@Option.bind_eq_some_iff
def Rq:=@decide_eq_false_iff_not
def Rr:=@PySem.Paired.length
def Rt:=@PySem.wpAny_standAt
def Ru:=@PySem.wpAny_execs_nil
def Rw:=@PySem.W.callWith_K
def Rx:=@Option.isSome_some
def Ry:=@if_false
def Rz:=@PySem.wpAny_pyIter_list
def RA:=@PySem.wpAny_loadPart_at
def RB:=@PySem.wpAny_dictEntries
def RC:=@PySem.codeAny_mono
def RD:=@PySem.W.methodCall_KW
def RF:=@Array.getElem?_toList
def RG:=@Nat.pow_succ
def RH:=@PySem.F.slot_enumerate_next
def RI:=@PySem.wpAny_execs_cons
def RJ:=@beq_iff_eq
def RK:=@PySem.wpAny_call_entry
def RL:=@List.drop_length
def RM:=@Int.fdiv_eq_ediv_of_nonneg
def RN:=@List.all_cons
def RO:=@List.takeWhile_cons_of_neg
def RP:=@Nat.log2_lt
def RQ:=@PySem.evalArgs_none
def RR:=@Option.map_some
def RS:=@Array.getElem?_eq_getElem
def RU:=@PySem.Calls.Constant_str
def RV:=@List.all_map
def RX:=@Bool.false_eq_true
def RY:=@PySem.tupleKind_room_in1
def RZ:=@Nat.lt_or_ge
def R0:=@PySem.call_meets
def R3:=@List.getLast?_cons_cons
def R4:=@List.reverse_cons
def R5:=@Nat.le_of_succ_le
def R7:=@List.getElem?_set_self
def R8:=@Option.map_eq_none_iff
def R9:=@PyProof.Rows.strSub_mk
def Sa:=@PySem.wpAny_isOneOf_itemiter
def Sb:=@List.Sublist.length_le
def Sd:=@List.getElem?_dropLast
def Se:=@List.any_cons
def Sf:=@Nat.lt_succ_self
def Sg:=@PySem.F.plainAttrs_str
def Sh:=@Nat.min_eq_right
def Si:=@PySem.wpAny_isTrue_Compare1
def Sj:=@PySem.F.slot_dict_get
def Sk:=@List.eq_nil_or_concat
def Sl:=@List.concat_eq_append
def Sm:=@List.length_filter_le
def Sn:=@PySem.F.slot_list_pop
def So:=@PySem.F.type_list_pop
def Sr:=@PySem.F.args_dict_itemiterator_next_1
def Ss:=@List.getElem?_set_ne
def Su:=@PySem.wpAny_Name
def Sv:=@PySem.wpAny_loadName_local
def Sw:=@Nat.le_of_eq
def Sx:=@PySem.pushCells_keeps
def Sy:=@PySem.size_of_entries
def Sz:=@List.getLast?_concat
def SA:=@Bool.or_eq_true
def SD:=@PySem.F.entry_dict_itemiterator_next
def SE:=@Int.natCast_mul
def SF:=@List.mem_of_mem_drop
def SG:=@Bool.and_eq_true_iff
def SH:=@List.mem_of_mem_take
def SJ:=@Bool.or_eq_false_iff
def SK:=@List.drop_eq_nil_iff
def SM:=@List.filterMap_cons
def SN:=@PySem.wpAny_loadName_cell
def SO:=@PySem.W.plainGet_of
def SQ:=@PySem.W.callWith_K0
def SR:=@ne_true_of_eq_false
def SS:=@PySem.wpAny_isSubtype_exc
def SU:=@PySem.wpAny_setField
def SW:=@PySem.F.slot_dict_setdefault
def SX:=@List.drop_drop
def SY:=@List.dropLast_concat_getLast
def S7:=@PySem.W.length_le_weightAllW
def S8:=@Array.append_assoc
def S9:=@PySem.F.args_str_split_2
def Ta:=@List.contains_cons
def Tb:=@PySem.F.called_enumerate
def Tc:=@PyProof.Rows.Constant_none
def Td:=@PySem.Calls.Name_function_global
def Te:=@Bool.false_or
def Tf:=@Nat.length_toDigits_le_iff
def Tg:=@Nat.mul_assoc
def Th:=@PySem.wpAny_attempt
def Ti:=@PySem.F.slot_str_partition
def Tj:=@PySem.F.type_str_partition
def Tn:=@List.flatten_cons
def To:=@Nat.lt_succ_of_lt
def Tp:=@PySem.wpAny_Call_method
def Tq:=@PySem.F.entry_str_split
def Tr:=@List.length_range
def Ts:=@Bool.not_eq_true'
def Tt:=@List.getElem?_append_left
def Tu:=@PySem.F.excBase_Exception
def Tv:=@PySem.wpAny_excMatches_sub_self
def Tw:=@List.getLast?_eq_getElem?
def Tx:=@Nat.lt_trans
def Tz:=@PySem.call_meetsIn
def TB:=@PySem.F.slot_str_split
def TC:=@Nat.mul_le_mul_right_iff
def TF:=@PySem.wpAny_isInstance
def TH:=@Nat.sub_self
def TJ:=@Nat.pow_lt_pow_iff_right
def TK:=@PySem.F.args_dict_get_2
def TM:=@PySem.F.plainAttrs_dict
def TN:=@PySem.F.args_enumerate_next_1
def TQ:=@List.of_mem_zip
def TR:=@PySem.wpAny_specialOf
def TU:=@Nat.two_pow_pos
def TV:=@List.drop_left'
def TX:=@PySem.wpAny_dictEpoch
def TY:=@PySem.wpAny_pyNext_range_end
def TZ:=@PySem.wpAny_pyIter_rangeiter
def T1:=@PyProof.noPylong_small
def T2:=@PySem.sizeLine_eq
def T3:=@PySem.W.cellsFrom_some
def T5:=@List.range_succ_eq_map
def T6:=@PySem.F.entry_dict_get
def T7:=@Array.getElem?_eq_none
def T8:=@Nat.mul_pos
def T9:=@PySem.codeAny_handlers_suite
def Ua:=@PySem.F.slot_dict_items_iter
def Ub:=@PySem.wpAny_letGo
def Uc:=@PySem.F.entry_enumerate_next
def Ud:=@PySem.F.slot_str_lower
def Ue:=@PySem.F.type_str_lower
def Ug:=@List.nodup_nil
def Ui:=@List.take_append_drop
def Uj:=@PySem.codeAny_handlers_test
def Uk:=@PySem.wpAny_notOrdered_dict
def Ul:=@PySem.builtinLookup_eq_fast
def Um:=@List.dropLast_eq_take
def Uo:=@List.Perm.refl
def Up:=@PySem.F.slot_str_join
def Uq:=@PySem.F.type_str_join
def Us:=@PySem.wpAny_call
def Uv:=@PySem.IntMulOk.of_le
def Uw:=@List.cons.inj
def Uy:=@List.map_take
def Uz:=@List.map_drop
def UB:=@List.replicate_succ
def UC:=@List.toList_toArray
def UD:=@Nat.toDigits_ne_nil
def UG:=@List.length_reverse
def UJ:=@List.mem_filterMap
def UK:=@PySem.Call_method0
def UL:=@PySem.Call_method1
def UM:=@Or.inr
def UN:=@PySem.plain_len
def UO:=@decide_eq_true_iff
def UP:=@Nat.mul_comm
def US:=@List.map_id'
def UT:=@UInt8.toNat_ofNat'
def UX:=@propext
def UZ:=@PySem.W.kitx_list
def U0:=@PySem.W.kitx_dict
def U2:=@Option.isSome_map
def U3:=@List.flatMap_cons
def U4:=@not_false_eq_true
def U9:=@Nat.one_mul
def Vb:=@Option.getD_none
def Vd:=@List.filter_cons
def Ve:=@List.mem_flatten
def Vf:=@Nat.lt_log2_self
def Vi:=@decide_eq_decide
def Vn:=@List.mem_filter
def Vs:=@List.foldl_cons
def Vt:=@List.head?_cons
def VA:=@Int.natCast_add
def VB:=@List.range_succ
def VC:=@List.sum_append
def VD:=@List.take_left'
section
open PySem PySem.W PyProof.Rows
namespace Ps
def qv : Program := { PySem.Challenge.pw_plainsettings_s01_answers with main := { PySem.Challenge.pw_plainsettings_s01_answers.main with body := [PySem.Challenge.pw_plainsettings_s01_answers.main.body.getD 175 (.Pass ⟨0,0,0,0⟩)] } }
def qloose : List PySem.Str := [Str.ofString "TEXT",Str.ofString "WHOLE",Str.ofString "REAL",Str.ofString "TRUTH",Str.ofString "DAY",Str.ofString "LIST",Str.ofString "TABLE",Str.ofString "WRITTEN",Str.ofString "BY_KEYS",Str.ofString "ON_THE_WAY",Str.ofString "BY_LINE",Str.ofString "Value",Str.ofString "written",Str.ofString "empty_table",Str.ofString "empty_list",Str.ofString "count_of",Str.ofString "is_character",Str.ofString "shortest_length",Str.ofString "utf8_of",Str.ofString "later_byte",Str.ofString "length_told_by",Str.ofString "bits_of_first",Str.ofString "is_one_character",Str.ofString "is_utf8",Str.ofString "Malformed",Str.ofString "CannotBe",Str.ofString "TooLarge",Str.ofString "NothingThere",Str.ofString "NoPath",Str.ofString "TooLong",Str.ofString "OtherKind",Str.ofString "TAB",Str.ofString "LINE_FEED",Str.ofString "CARRIAGE_RETURN",Str.ofString "SPACE",Str.ofString "DOUBLE_QUOTE",Str.ofString "NUMBER_SIGN",Str.ofString "SINGLE_QUOTE",Str.ofString "PLUS",Str.ofString "COMMA",Str.ofString "MINUS",Str.ofString "POINT",Str.ofString "ZERO",Str.ofString "COLON",Str.ofString "EQUALS",Str.ofString "AT_SIGN",Str.ofString "LEFT_BRACKET",Str.ofString "BACKSLASH",Str.ofString "RIGHT_BRACKET",Str.ofString "UNDERSCORE",Str.ofString "SMALL_U",Str.ofString "LEFT_BRACE",Str.ofString "RIGHT_BRACE",Str.ofString "DELETE",Str.ofString "DIGITS",Str.ofString "END",Str.ofString "is_blank",Str.ofString "is_control",Str.ofString "is_digit",Str.ofString "is_letter",Str.ofString "is_key_sign",Str.ofString "is_word_sign",Str.ofString "bytes_of",Str.ofString "MOST_KEYS",Str.ofString "ESCAPES",Str.ofString "CODE_LENGTHS",Str.ofString "is_quote",Str.ofString "read_string",Str.ofString "read_as_it_is",Str.ofString "read_with_escapes",Str.ofString "read_escape",Str.ofString "read_hexadecimal",Str.ofString "hexadecimal_digit",Str.ofString "read_keys",Str.ofString "read_key",Str.ofString "read_bare_key",Str.ofString "Scan",Str.ofString "put_setting",Str.ofString "through_setting_key",Str.ofString "table_of_line",Str.ofString "row_of_line",Str.ofString "before_last",Str.ofString "through_line_key",Str.ofString "MONTH_LENGTHS",Str.ofString "DAYS_TO_1970",Str.ofString "day_number",Str.ofString "has_form_of_day",Str.ofString "is_leap_year",Str.ofString "month_length",Str.ofString "days_before_year",Str.ofString "INFINITY",Str.ofString "NAN",Str.ofString "SIGN_BIT",Str.ofString "LOWEST_PLACE",Str.ofString "HIGHEST_REACH",Str.ofString "LOWEST_REACH",Str.ofString "number_of",Str.ofString "power_of_ten",Str.ofString "nearest_double",Str.ofString "rounded_quotient",Str.ofString "lowest_bit_place",Str.ofString "divided_at",Str.ofString "rounded_half_even",Str.ofString "SIGNS_FROM_PLUS",Str.ofString "BASES",Str.ofString "HIGHEST_WHOLE",Str.ofString "read_word",Str.ofString "value_of_word",Str.ofString "without_sign",Str.ofString "joined_digits",Str.ofString "leading_digits",Str.ofString "signed",Str.ofString "whole_number",Str.ofString "real_number",Str.ofString "unsigned_real",Str.ofString "exponent_of",Str.ofString "MOST_DEEP",Str.ofString "Holder",Str.ofString "read_value",Str.ofString "begin_value",Str.ofString "begin_holder",Str.ofString "go_to_value",Str.ofString "add_value",Str.ofString "put_into",Str.ofString "NOTHING",Str.ofString "TABLE_LINE",Str.ofString "ROW_LINE",Str.ofString "SETTING",Str.ofString "Line",Str.ofString "split_lines",Str.ofString "without_return",Str.ofString "has_control",Str.ofString "read_line",Str.ofString "is_at_end",Str.ofString "read_heading",Str.ofString "read_setting",Str.ofString "value_at",Str.ofString "keys_of_path",Str.ofString "member",Str.ofString "numbered_member",Str.ofString "is_number",Str.ofString "Reading",Str.ofString "told_once",Str.ofString "tell",Str.ofString "pieces_of_list",Str.ofString "pieces_of_table",Str.ofString "tell_plain",Str.ofString "tell_text",Str.ofString "hexadecimal",Str.ofString "ST_READ",Str.ofString "ST_TOLD",Str.ofString "ST_KIND",Str.ofString "ST_COUNT",Str.ofString "ST_WHOLE",Str.ofString "ST_REAL",Str.ofString "MOST_BYTES",Str.ofString "MOST_TOLD",Str.ofString "Store",Str.ofString "check_at_most",Str.ofString "answer_or_refusal",Str.ofString "answer_of"]
end Ps
namespace Ps
theorem said : PySem.Challenge.rw_plainsettings_s01_answers.wellSaid = true := by decide +kernel
theorem opens : (chainsOk qv && opensWell PySem.Challenge.rw_plainsettings_s01_answers.prog) = true := by decide +kernel
end Ps
end
namespace L2
open PySem PySem.Spec PyProof.Rows
abbrev Key:=Sum Int Str
def oJ:Key->Value->Bool
 | .inl k,v=>Value.isInt k v
 | .inr x,v=>Value.isStrOf x v
def LP(w:World):Key->Int
 | .inl k=>hashInt k
 | .inr x=>hashStr w x
theorem dv:∀ {k:Key} {v:Value},oJ k v=true->(∃ i t,k=Sum.inl i/\v=Value.int i t)\/(∃ x t,k=Sum.inr x/\v=Value.str x t)
 | .inl i,v,h=>by obtain⟨t,e⟩:=Value.isInt_shape (k:=i) (v:=v) h;exact .inl ⟨i,t,rfl,e⟩
 | .inr x,v,h=>by obtain⟨t,e⟩:=Value.isStrOf_shape (x:=x) (v:=v) h;exact .inr ⟨x,t,rfl,e⟩
theorem Gq(i:Int)(t:Tok):oJ (.inl i) (.int i t)=true:=by simp[oJ,Value.isInt]
theorem Gb(x:Str)(t:Tok):oJ (.inr x) (.str x t)=true:=by simp[oJ,Value.isStrOf]
theorem Lg(a b:Int):decide ((Sum.inl a:Key)=Sum.inl b)=(a==b):=by
 by_cases e:a=b;.subst e;simp
 .have h:¬ (Sum.inl a:Key)=Sum.inl b:=fun q=>e (Sum.inl.inj q);rw[O3 h];exact(Q0.mpr e).symm
theorem K5(a b:Str):decide ((Sum.inr a:Key)=Sum.inr b)=decide (a=b):=by
 by_cases e:a=b;.subst e;simp
 .have h:¬ (Sum.inr a:Key)=Sum.inr b:=fun q=>e (Sum.inr.inj q);rw[O3 h,O3 e]
theorem LC(a:Int)(b:Str):decide ((Sum.inl a:Key)=Sum.inr b)=false:=O3 (fun q=>nomatch q)
theorem K2(a:Str)(b:Int):decide ((Sum.inr a:Key)=Sum.inl b)=false:=O3 (fun q=>nomatch q)
def cI(prog:Program)(w:World):PySem.KeyKind prog w Key where
 is:=oJ
 hash:=LP w
 inj:=fun v a b ha f=>by
  rcases dv ha with⟨i,t,rfl,rfl⟩ | ⟨x,t,rfl,rfl⟩
  .rcases dv f with⟨j,u,rfl,e⟩ | ⟨y,u,rfl,e⟩;.injection e with c _;rw[c]
   .exact nomatch e
  .rcases dv f with⟨j,u,rfl,e⟩ | ⟨y,u,rfl,e⟩;.exact nomatch e
   .injection e with c _;rw[c]
 byValue:=fun k v h=>by rcases dv h with⟨i,t,rfl,rfl⟩ | ⟨x,t,rfl,rfl⟩<;>rfl
 pyHash:=fun d h=>by
  rcases dv d with⟨i,t,rfl,rfl⟩ | ⟨x,t,rfl,rfl⟩;.exact wpAny_pyHash_int h
  .exact wpAny_pyHash_str h
 eqBool:=fun g d h=>by
  rcases dv g with⟨i,t,rfl,rfl⟩ | ⟨x,t,rfl,rfl⟩
  .rcases dv d with⟨j,u,rfl,rfl⟩ | ⟨y,u,rfl,rfl⟩;.rw[Lg]at h;exact wpAny_eqBool_int h
   .rw[LC]at h;exact SeqAt.EqAt.int_str i t y u _ _ _ _ h
  .rcases dv d with⟨j,u,rfl,rfl⟩ | ⟨y,u,rfl,rfl⟩;.rw[K2]at h;exact SeqAt.EqAt.str_int x t j u _ _ _ _ h
   .rw[K5]at h;exact wpAny_eqBool_str h
 «strs»:=fun k x t v h=>by
  rcases dv h with⟨i,u,rfl,e⟩ | ⟨y,u,rfl,e⟩;.exact nomatch e
  .injection e with c _
   subst c;cases v<;>rfl
theorem Ar(prog:Program)(w:World)(i:Int)(t:Tok):(cI prog w).is (.inl i) (.int i t)=true:=Gq i t
theorem BD(prog:Program)(w:World)(x:Str)(t:Tok):(cI prog w).is (.inr x) (.str x t)=true:=Gb x t
end L2
namespace L2
open PySem PySem.Spec PyProof.Rows
inductive V where
 | ba | bl (b:Bool) | int (i:Int) | str (x:Str) | byt (b:Array UInt8) | Kv (b:UInt64) | ref (a:Addr) | ty (n:String)
 deriving DecidableEq
def RelV:V->Value->Prop
 | .ba,u=>u=Value.none
 | .bl b,u=>u=Value.bool b
 | .int i,u=>∃ t,u=Value.int i t
 | .str x,u=>∃ t,u=Value.str x t
 | .byt b,u=>∃ t,u=Value.bytes b t
 | .Kv b,u=>∃ t,u=Value.float b t
 | .ref a,u=>u=Value.ref a
 | .ty n,u=>u=Value.type n
abbrev Vals:List V->List Value->Prop:=Paired RelV
theorem Vals.length{xs:List V}{us:List Value}(r:Vals xs us):xs.length=us.length:=Rr r
theorem Vals.get:∀ {xs:List V} {us:List Value} {i:Nat} {x:V},Vals xs us->xs[i]?=some x->∃ u,us[i]?=some u/\RelV x u
 | _,_,_,_,.nil,e=>by simp at e
 | _,_,0,_,.cons r _,e=>by simp at e;subst e;exact⟨_,rfl,r⟩
 | _,_,i+1,x,.cons _ t,e=>by obtain⟨u,h1,h2⟩:=Vals.get (i:=i) (x:=x) t (by simpa using e);exact⟨u,by simpa using h1,h2⟩
theorem Vals.set{x:V}{u:Value}(r:RelV x u):∀ {xs:List V} {us:List Value} (i:Nat),Vals xs us->Vals (xs.set i x) (us.set i u)
 | _,_,_,.nil=>.nil
 | _,_,0,.cons _ t=>.cons r t
 | _,_,i+1,.cons q t=>.cons q (Vals.set r i t)
theorem Vals.append:∀ {xs b:List V} {us a:List Value},Vals xs us->Vals b a->Vals (xs++b) (us++a)
 | _,_,_,_,.nil,s=>s
 | _,_,_,_,.cons r t,s=>.cons r (Vals.append t s)
theorem Vals.take:∀ {xs:List V} {us:List Value} (n:Nat),Vals xs us->Vals (xs.take n) (us.take n)
 | _,_,0,_=>.nil
 | _,_,_+1,.nil=>.nil
 | _,_,n+1,.cons r t=>.cons r (Vals.take n t)
theorem Vals.drop:∀ {xs:List V} {us:List Value} (n:Nat),Vals xs us->Vals (xs.drop n) (us.drop n)
 | _,_,0,r=>r
 | _,_,_+1,.nil=>.nil
 | _,_,n+1,.cons _ t=>Vals.drop n t
theorem Vals.none_of:∀ {xs:List V} {us:List Value} {i:Nat},Vals xs us->xs[i]?=none->us[i]?=none:=fun {xs us i} r e=>by have h1:=r.length;have h2:xs.length<=i:=Rh.mp e;exact Rh.mpr (by omega)
def m3:Option V->Option Value->Prop
 | some v,some u=>RelV v u
 | none,none=>True
 | _,_=>False
def KV{a:Type}:List (a×V)->List (a×Value)->Prop:=Paired fun(p:a×V) (q:a×Value)=>p.1=q.1/\RelV p.2 q.2
def kV:Key->V
 | .inl i=>.int i
 | .inr x=>.str x
inductive HO where
 | lst (xs:List V)
 | tup (xs:List V)
 | dK (kvs:List (Key×V)) | dT (kvs:List (List Key×V))
 | set (S:Int->Bool) (n:Nat)
 | ins (C dx:Addr) (fs:List (Str×V))
 | own (x:Addr)
 | xd (fs:List (Str×V))
 | met (f x:Addr)
 | Nz (lo hi:Int)
 | jP (o:Obj) (u:HO)
 | Je (ps:Array Value)
 | ext (φ:Heap->Prop)
abbrev Hp:=Addr->Option HO
def upd(H:Hp)(a:Addr)(o:HO):Hp:=fun b=>if b=a then some o else H b
theorem ai{H:Hp}{a:Addr}{o:HO}:upd H a o a=some o:=by unfold upd;rw[Oy rfl]
theorem aq{H:Hp}{a b:Addr}{o:HO}(h:b≠a):upd H a o b=H b:=by unfold upd;rw[Ox h]
theorem cx{H:Hp}{a:Addr}{o u:HO}:upd (upd H a o) a u=upd H a u:=by funext b;unfold upd;split<;>rfl
theorem cH{H:Hp}{a b:Addr}{o u:HO}(h:H a=some o)(c:H b=some u)(d:o≠u):a≠b:=by intro e;subst e;rw[h]at c;exact d (OQ c)
theorem aj{H:Hp}{a b:Addr}{o:HO}(h:H a=some o)(c:H b=none):a≠b:=by intro e;subst e;rw[h]at c;cases c
section
variable (P:Program)(w:World)
def cG(H:Hp)(h:Heap)(a:Addr):HO->Prop
 | .lst xs=>xs.length<=sizeLine/\∃ (b:List Value) (n:Nat),Vals xs b/\h.get? a=some { cls:=.type "list",data:=.seq b.toArray n }
 | .tup xs=>xs.length<=sizeLine/\∃ b:List Value,Vals xs b/\IsTup h a b.toArray
 | .dK kvs=>kvs.length<=sizeLine/\(a==sysModules)=false/\∃ vs,KV kvs vs/\h.DictOf (cI P w) a vs
 | .dT kvs=>kvs.length<=sizeLine/\(a==sysModules)=false/\∃ xs:List (List Key×Addr×Value),
    Paired (fun(p:List Key×V) (q:List Key×Addr×Value)=>p.1=q.1/\H q.2.1=some (.tup (p.1.map kV))/\RelV p.2 q.2.2) kvs xs /\
    ∃ o d e,h.get? a=some o/\o.ExactDict/\o.data=.dict d e/\d.toList=xs.map (entryOfKey (tupleKind (cI P w)))/\(xs.map (·.1)).Nodup
 | .set S n=>h.SetOf (intKind P w) a S n
 | .ins C dx fs=>H dx=some (.own a)/\fs.length<=1000/\dx≠a/\h.get? a=some (PySem.W.instObj C dx) /\ ∃ c,h.Ns1 dx c/\(∀ f,m3 (fs.lookup f) (c f))/\PySem.Within c (fs.map (·.1))
 | .own _=>∃ o,h.get? a=some o
 | .xd fs=>∃ c,h.Ns1 a c/\∀ f,m3 (fs.lookup f) (c f)
 | .Nz lo hi=>∃ t u v,h.get? a=some { cls:=.type "range",data:=.fields #[.int lo t,.int hi u,.int 1 v] }
 | .jP o u=>h.get? a=some o/\cG H h a u
 | .Je ps=>h.get? a=some { cls:=.none,data:=.fields ps }
 | .met f x=>h.get? a=some (PySem.W.methodObj (.ref f) (.ref x))
 | .ext φ=>φ h/\(∃ o,h.get? a=some o)/\∀ h1 h2:Heap,φ h1->(∀ o,h1.get? a=some o->h2.get? a=some o)->φ h2
def k8(H:Hp)(h:Heap):Prop:=∀ a o,H a=some o->cG P w H h a o
end
section
variable {P:Program}{w:World}{H s:Hp}{h h':Heap}{a:Addr}{o:HO}
theorem cG.lt(x:cG P w H h a o):a<h.objs.size:=by
 cases o with
 | lst xs=>obtain⟨_,_,_,_,e⟩:=x;exact OY e
 | tup xs=>obtain⟨_,_,_,p⟩:=x;exact p.lt
 | dK kvs=>obtain⟨_,_,_,_,o,_,_,e,_⟩:=x;exact OY e
 | dT kvs=>obtain⟨_,_,_,_,o,_,_,e,_⟩:=x;exact OY e
 | set S n=>obtain⟨o,_,_,_,e,_⟩:=x;exact OY e
 | ins C dx fs=>obtain⟨_,_,_,e,_⟩:=x;exact OY e
 | own y=>obtain⟨_,e⟩:=x;exact OY e
 | xd fs=>obtain⟨_,⟨_,_,_,e,_⟩,_⟩:=x;exact OY e
 | Nz lo hi=>obtain⟨_,_,_,e⟩:=x;exact OY e
 | jP b u=>obtain⟨e,_⟩:=x;exact OY e
 | Je ps=>exact OY (show h.get? a=some _ from x)
 | met f y=>exact OY (show h.get? a=some _ from x)
 | ext φ=>obtain⟨_,⟨_,e⟩,_⟩:=x;exact OY e
theorem Paired.K7{e g:Type}{F G:e->g->Prop}:∀ {c:List e} {d:List g},Paired F c d->(∀ a b,F a b->G a b)->Paired G c d
 | _,_,.nil,_=>.nil
 | _,_,.cons r t,f=>.cons (f _ _ r) (Paired.K7 t f)
theorem cG.br(x:cG P w H h a o)(k:∀ b u,(b=a\/H b=some (.own a))->h.get? b=some u->h'.get? b=some u)
 (E:∀ b,H b=some (.own a)->s b=some (.own a)) (F:∀ b xs,H b=some (.tup xs)->s b=some (.tup xs)):cG P w s h' a o:=by
 induction o with
 | lst xs=>obtain⟨z,l,n,r,e⟩:=x;exact⟨z,l,n,r,k _ _ (.inl rfl) e⟩
 | tup xs=>obtain⟨z,l,r,g,e,c⟩:=x;exact⟨z,l,r,g,k _ _ (.inl rfl) e,c⟩
 | dK kvs=>obtain⟨z,y,vs,r,g,j,i,e,c⟩:=x;exact⟨z,y,vs,r,g,j,i,k _ _ (.inl rfl) e,c⟩
 | dT kvs=>obtain⟨z,y,xs,r,g,j,i,e,c⟩:=x;exact⟨z,y,xs,Paired.K7 r fun p q z=>⟨z.1,F _ _ z.2.1,z.2.2⟩,g,j,i,k _ _ (.inl rfl) e,c⟩
 | set S n=>obtain⟨g,j,i,t,e,c⟩:=x;exact⟨g,j,i,t,k _ _ (.inl rfl) e,c⟩
 | ins C dx fs=>obtain⟨d,z,I,e,m,⟨A,j,i,D,c⟩,r⟩:=x;exact⟨E _ d,z,I,k _ _ (.inl rfl) e,m,⟨A,j,i,k _ _ (.inr d) D,c⟩,r⟩
 | own y=>obtain⟨g,e⟩:=x;exact⟨g,k _ _ (.inl rfl) e⟩
 | xd fs=>obtain⟨m,⟨A,j,i,e,c⟩,r⟩:=x;exact⟨m,⟨A,j,i,k _ _ (.inl rfl) e,c⟩,r⟩
 | Nz lo hi=>obtain⟨t,u,v,e⟩:=x;exact⟨t,u,v,k _ _ (.inl rfl) e⟩
 | jP g u G=>obtain⟨e,q⟩:=x;exact⟨k _ _ (.inl rfl) e,G q⟩
 | Je ps=>have e:h.get? a=some { cls:=.none,data:=.fields ps }:=x;show h'.get? a=some { cls:=.none,data:=.fields ps };exact k a _ (.inl rfl) e
 | met f y=>have e:h.get? a=some (PySem.W.methodObj (.ref f) (.ref y)):=x;show h'.get? a=some (PySem.W.methodObj (.ref f) (.ref y));exact k a _ (.inl rfl) e
 | ext φ=>obtain⟨p,⟨o,e⟩,B⟩:=x;exact⟨B _ _ p fun o q=>k _ _ (.inl rfl) q,⟨o,k _ _ (.inl rfl) e⟩,B⟩
theorem k8.lt(x:k8 P w H h)(e:H a=some o):a<h.objs.size:=(x a o e).lt
theorem k8.fresh(x:k8 P w H h)(e:h.objs.size<=a):H a=none:=by
 cases q:H a with
 | none=>rfl
 | some u=>exact absurd (Pb (x.lt q) e) (QC _)
theorem k8.kept(x:k8 P w H h)(k:∀ b u,h.get? b=some u->h'.get? b=some u):k8 P w H h':=fun a o e=>(x a o e).br (fun b u _ q=>k b u q) (fun _ q=>q) fun _ _ q=>q
theorem k8.laid(x:k8 P w H h)(k:∀ b u,h.get? b=some u->h'.get? b=some u)(g:h.objs.size<=a)(d:cG P w (upd H a o) h' a o):k8 P w (upd H a o) h':=fun b u e=>by
 have hn:=x.fresh g;by_cases f:b=a;.subst f;rw[ai]at e;cases e;exact d
 .rw[aq f]at e;exact(x b u e).br (fun c v _ q=>k c v q) (fun c q=>by rw[aq (aj q hn)];exact q) fun c xs q=>by rw[aq (aj q hn)];exact q
end
def Rd(H:Hp)(a:Addr)(u:HO):Prop:=H a=some u\/∃ o,H a=some (.jP o u)
theorem Rd.of{H:Hp}{a:Addr}{u:HO}(h:H a=some u):Rd H a u:=.inl h
theorem Rd.ok{P:Program}{w:World}{H:Hp}{h:Heap}{a:Addr}{u:HO}(r:Rd H a u)(x:k8 P w H h):cG P w H h a u:=by
 rcases r with r | ⟨o,r⟩;.exact x a u r
 .obtain⟨_,q⟩:=x a _ r;exact q
def Kx:Option HO->Prop
 | some (.lst _)=>True
 | some (.dK _)=>True
 | some (.dT _)=>True
 | some (.set _ _)=>True
 | some (.ins _ _ _)=>True
 | some (.ext _)=>True
 | _=>False
section
variable {P:Program}{w:World}{H:Hp}{h h':Heap}{x e:Addr}{t:HO}
theorem k8.write(p:k8 P w H h)(i:Kx (H x))(m:e=x\/H e=some (.own x))(k:∀ b u,b≠e->h.get? b=some u->h'.get? b=some u)(j:∃ u,h'.get? e=some u)
 (l:cG P w (upd H x t) h' x t):k8 P w (upd H x t) h':=fun b u q=>by
 have d:∀ c y,H c=some (.own y)->c≠x:=fun c y r z=>by subst z;rw[r]at i;exact i
 have f:∀ c xs,H c=some (.tup xs)->c≠x:=fun c xs r z=>by subst z;rw[r]at i;exact i
 by_cases g:b=x;.subst g;rw[ai]at q;cases q;exact l
 .rw[aq g]at q;by_cases a:b=e
  .have n:H b=some (.own x):=by
    rcases m with z | z;.exact absurd (a.trans z) g
    .rw[a];exact z
   rw[q]at n;cases n;obtain⟨v,o⟩:=j;exact⟨v,by rw[a];exact o⟩
  .refine(p b u q).br (fun c v hc r=>k c v ?_ r) (fun c r=>by rw[aq (d c b r)];exact r) fun c xs r=>by rw[aq (f c xs r)];exact r
   rcases hc with rfl | hc;.exact a
   .rintro rfl;rcases m with z | z;.exact d c b hc z
    .rw[hc]at z;cases z;exact g rfl
end
structure Un(fs ex:List Addr)(H H':Hp)(h h':Heap):Prop where
 keep:∀ b o,h.get? b=some o->H b=none->b∉fs->b∉ex->h'.get? b=some o
 slot:∀ b o,h.get? b=some o->H b=none->b∈fs->b∉ex->∃ sl,h'.get? b=some { o with slots:=sl }
 free:∀ b o,h.get? b=some o->H b=none->b∉ex->H' b=none
 there:∀ b o,h.get? b=some o->b∉ex->∃ o',h'.get? b=some o'
 rA:∀ b xs,H b=some (.tup xs)->H' b=some (.tup xs)
 px:∀ b o u,H b=some (.jP o u)->H' b=some (.jP o u)
 rB:∀ b ps,H b=some (.Je ps)->∃ more,H' b=some (.Je (ps++more))
section
variable {y v ex t:List Addr}{H s m:Hp}{h w p h':Heap}{a x e:Addr}{o:HO}
theorem Un.any(u:Un y ex H s h w){b:Addr}{c:Obj}(q:h.get? b=some c)(n:H b=none)(hx:b∉ex):∃ f,w.get? b=some { c with slots:=f }:=by
 by_cases d:b∈y;.exact u.slot b c q n d hx
 .exact⟨c.slots,u.keep b c q n d hx⟩
theorem Un.trans(a:Un y ex H s h w)(b:Un y ex s m w p):Un y ex H m h p where
 keep:=fun c d q n hc hx=>b.keep c d (a.keep c d q n hc hx) (a.free c d q n hx) hc hx
 slot:=fun c d q n hc hx=>by obtain⟨r,f⟩:=a.slot c d q n hc hx;obtain⟨j,g⟩:=b.slot c _ f (a.free c d q n hx) hc hx;exact⟨j,g⟩
 free:=fun c d q n hx=>by obtain⟨i,f⟩:=a.there c d q hx;exact b.free c i f (a.free c d q n hx) hx
 there:=fun c d q hx=>by obtain⟨i,f⟩:=a.there c d q hx;exact b.there c i f hx
 rA:=fun c xs q=>b.rA c xs (a.rA c xs q)
 px:=fun c d xs q=>b.px c d xs (a.px c d xs q)
 rB:=fun c ps q=>by obtain⟨k,f⟩:=a.rB c ps q;obtain⟨l,g⟩:=b.rB c _ f;exact⟨k++l,by rw[g,S8]⟩
theorem Un.kept(k:∀ b u,h.get? b=some u->h'.get? b=some u):Un y ex H H h h':=⟨fun b c q _ _ _=>k b c q,fun b c q _ _ _=>⟨c.slots,k b c q⟩,fun _ _ _ n _=>n,fun b c q _=>⟨c,k b c q⟩,fun _ _ q=>q,fun _ _ _ q=>q,fun _ ps q=>⟨#[],by rw[q];simp⟩⟩
theorem Un.refl:Un y ex H H h h:=Un.kept fun _ _ q=>q
theorem Un.laid(k:∀ b u,h.get? b=some u->h'.get? b=some u)(c:h.objs.size<=a)(hn:H a=none):Un y ex H (upd H a o) h h' where
 keep:=fun b u q _ _ _=>k b u q
 slot:=fun b u q _ _ _=>⟨u.slots,k b u q⟩
 free:=fun b u q n _=>by rw[aq (Pr (Pb (OY q) c))];exact n
 there:=fun b u q _=>⟨u,k b u q⟩
 rA:=fun b xs q=>by rw[aq (aj q hn)];exact q
 px:=fun b u xs q=>by rw[aq (aj q hn)];exact q
 rB:=fun b ps q=>⟨#[],by rw[aq (aj q hn),q];simp⟩
theorem Un.write(d:Kx (H x))(j:e=x\/H e=some (.own x))(k:∀ b u,b≠e->h.get? b=some u->h'.get? b=some u)(f:∃ u,h'.get? e=some u):Un y ex H (upd H x o) h h':=by
 have hx:∀ b,H b=none->b≠x:=fun b n z=>by subst z;rw[n]at d;exact d
 have i:∀ b,H b=none->b≠e:=fun b n z=>by
  subst z;rcases j with r | r;.exact hx b n r
  .rw[n]at r;cases r
 have g:∀ b u,H b=some u->¬ Kx (some u)->b≠x:=fun b u q l z=>by subst z;rw[q]at d;exact l d
 refine⟨fun b u q n _ _=>k b u (i b n) q,fun b u q n _ _=>⟨u.slots,k b u (i b n) q⟩,fun b u q n _=>by rw[aq (hx b n)];exact n,fun b u q _=>?_,fun b xs q=>by rw[aq (g b _ q fun z=>z)];exact q,fun b u xs q=>by rw[aq (g b _ q fun z=>z)];exact q,fun b ps q=>⟨#[],by rw[aq (g b _ q fun z=>z),q];simp⟩⟩;by_cases c:b=e;.subst c;exact f
 .exact⟨u,k b u c q⟩
theorem Un.mono(u:Un y ex H s h w)(hs:∀ b∈y,b∈v)(hx:∀ b∈ex,b∈t):Un v t H s h w:=⟨fun b d q n f c=>u.keep b d q n (fun z=>f (hs b z)) fun z=>c (hx b z),fun _ _ q n _ c=>u.any q n fun z=>c (hx _ z),fun b d q n c=>u.free b d q n fun z=>c (hx b z),fun b d q c=>u.there b d q fun z=>c (hx b z),u.rA,u.px,u.rB⟩
end
def Nt(h:Heap)(H:Hp):List Addr:=(List.range h.objs.size).filter fun a=>(H a).isSome
def zS(h:Heap)(H:Hp):Heap:=PySem.W.hideAll h (Nt h H)
theorem F6(h:Heap)(H:Hp):(zS h H).objs.size=h.objs.size:=PySem.W.hideAll_size _ _
theorem G4{h:Heap}{H:Hp}{b:Addr}{o:Obj}(e:h.get? b=some o)(n:H b=none):(zS h H).get? b=some o:=PySem.W.hideAll_get _ e fun a=>by have q:(H b).isSome=true:=(Vn.mp a).2;rw[n]at q;simp at q
theorem JF{h:Heap}{H:Hp}{b:Addr}{o:Obj}(e:(zS h H).get? b=some o):h.get? b=some o/\H b=none:=by
 have a:h.get? b=some o:=PySem.W.of_hideAll (Nt h H) e;refine⟨a,?_⟩;cases q:H b with
 | none=>rfl
 | some x=>have c:b∈Nt h H:=Vn.mpr ⟨List.mem_range.mpr (OY a),by simp[q]⟩;have z:(zS h H).get? b=none:=PySem.W.hideAll_none (Nt h H) c;rw[z]at e;cases e
def JP(g h:Heap)(L:Addr):List (Addr×Obj):=(List.range h.objs.size).filterMap fun a=>if a=L\/(g.get? a).isSome=true then none else(h.get? a).map fun o=>(a,o)
def rest(g h:Heap)(L d:Addr):List (Addr×Obj):=(JP g h L).filter fun p=>decide (p.1≠d)
end L2
namespace L2
open PySem PySem.Spec PyProof.Rows
structure Mod(K:PySem.W.Frag)(mg:Str->Option Value)(base:Heap):Prop where
 Lz:K.In base
 glob:base.Ns mainGlobals mg
 blt:∃ mb,base.Ns builtinsNs mb/\∀ x:Str,x≠"__name__"->mb x=bootBuiltins x
 nolimit:base.NoLimit
structure Cx where
 prog:Program
 w:World
 K:PySem.W.Frag
 mg:Str->Option Value
 base:Heap
 A:Around
 N:List Str
 tX:Shared
 LD:Hp
 env:Env
 outer:List Env
 stack:List Env
 ex:List Addr
 fn:Str->Bool
 calm:Bool
 pn:List (Addr×Obj)
 xe:Value->Shared->Prop
def vc(l:List Env):List Addr:=l.filterMap (·.frame)
abbrev Cx.fs(X:Cx):List Addr:=vc X.outer
def Kf(sc:Scope)(x:Str):Prop:=sc.names.lookup x=some .local\/sc.names.lookup x=some .cell\/sc.names.lookup x=some .free
def Loc(sc:Scope)(x:Str):Prop:=sc.names.lookup x=some .local\/sc.names.lookup x=some .cell
def Look(a:Env)(h:Heap)(m:Str->Option Value)(x:Str)(u:Value):Prop:=(a.kindOf x=some .local/\m x=some u)\/((a.kindOf x=some .cell\/a.kindOf x=some .free)/\∃ c,a.cells.lookup x=some c/\h.IsCell c (some u))
structure Cx.Ok(X:Cx):Prop where
 mod:Mod X.K X.mg X.base
 kind:X.env.scope.kind=.function
 glob:X.env.globals=mainGlobals
 blt:X.env.builtins=builtinsNs
 above:X.tX.heap.objs.size<=X.env.locals
 inj:∀ x y c,X.env.cells.lookup x=some c->X.env.cells.lookup y=some c->x=y
 has:∀ x,(X.env.kindOf x=some .cell\/X.env.kindOf x=some .free)->∃ c,X.env.cells.lookup x=some c
 LV:∀ x c,X.fn x=true->X.env.cells.lookup x=some c->X.tX.heap.objs.size<=c
 hd:X.calm=true->X.A.handled=none
 frames:X.A.frames=some X.stack
 vD:X.stack=X.outer\/(X.stack=X.env::X.outer/\X.env.frame=some X.env.locals)
 Mj:∀ b∈X.ex,b≠X.env.locals/\∀ x c,X.env.cells.lookup x=some c->c≠b
 bs:∀ b o,X.base.get? b=some o->X.tX.heap.get? b=some o/\X.LD b=none
 FZ:X.base.objs.size<=X.tX.heap.objs.size
 DE:∀ b o,X.base.get? b=some o->b∉X.ex
 B2:∀ b∈X.ex,b∉X.fs
 oH:X.tX.heap.FunFrames X.base X.outer
 Jf:∀ b∈X.fs,X.LD b=none
structure Inv(X:Cx)(pins:List (Addr×Obj))(σ:List (Option V))(H:Hp)(s:Shared):Prop where
 ok:X.Ok
 os:s.os=X.tX.os
 bare:AllBare s.gens
 base:Un X.fs X.ex X.LD H X.tX.heap s.heap
 loc:∃ m,s.heap.Ns X.env.locals m/\∀ (i:Nat) (x:Str) (v:V),X.N[i]?=some x->σ[i]?=some (some v)->Kf X.env.scope x->∃ u,RelV v u/\Look X.env s.heap m x u
 cell:∀ x c,X.env.cells.lookup x=some c->∃ v,s.heap.IsCell c v
 free:H X.env.locals=none
 gG:∀ x c,X.env.cells.lookup x=some c->H c=none
 pin:∀ p∈X.pn++pins,s.heap.get? p.1=some p.2/\H p.1=none/\p.1≠X.env.locals/\p.1∉X.fs/\∀ v,p.2.data≠.cell v
 de:k8 X.prog X.w H s.heap
 len:σ.length=X.N.length
section
variable {X:Cx}{g:List (Addr×Obj)}{f:List (Option V)}{H Z:Hp}{s:Shared}{h':Heap}
theorem Cx.Ok.NH(c:X.Ok){b:Addr}{o:Obj}(e:X.base.get? b=some o):b∉X.fs:=fun a=>by have:=(c.oH.mem a).1;rw[e]at this;cases this
theorem Inv.bs(I:Inv X g f H s):∀ b o,X.base.get? b=some o->s.heap.get? b=some o/\H b=none:=fun b o e=>⟨I.base.keep b o (I.ok.bs b o e).1 (I.ok.bs b o e).2 (I.ok.NH e) (I.ok.DE b o e),I.base.free b o (I.ok.bs b o e).1 (I.ok.bs b o e).2 (I.ok.DE b o e)⟩
theorem Inv.bk(I:Inv X g f H s):∀ b o,X.base.get? b=some o->s.heap.get? b=some o:=fun b o e=>(I.bs b o e).1
theorem Inv.mod(I:Inv X g f H s):Mod X.K X.mg X.base:=I.ok.mod
theorem Inv.lZ(I:Inv X g f H s):X.K.In s.heap:=I.ok.mod.Lz.keeps I.bk
theorem Inv.nolimit(I:Inv X g f H s):s.heap.NoLimit:=I.ok.mod.nolimit.keeps I.bk
theorem Inv.fr(I:Inv X g f H s):∃ m,Fr X.base X.env.locals s.heap m:=
 let ⟨m,hn,_⟩:=I.loc
 ⟨m,hn,I.bk,O9 I.ok.FZ I.ok.above⟩
theorem Inv.lt(I:Inv X g f H s):X.env.locals<s.heap.objs.size:=let ⟨_,hn,_⟩:=I.loc;hn.lt
theorem Inv.sz(I:Inv X g f H s):X.tX.heap.objs.size<=s.heap.objs.size:=O9 I.ok.above (Rm I.lt)
theorem Inv.Ob(I:Inv X g f H s){a:Addr}(h:s.heap.objs.size<=a):a∉X.fs:=fun b=>by obtain⟨_,o,c,_⟩:=I.ok.oH.mem b;exact absurd (Pb (OY c) (O9 I.sz h)) (QC _)
theorem Inv.Mm(I:Inv X g f H s):∀ x c,X.env.cells.lookup x=some c->c≠X.env.locals:=fun x c e z=>by obtain⟨v,o,d,hd⟩:=I.cell x c e;obtain⟨m,⟨j,i,h,b,a,_⟩,_⟩:=I.loc;rw[z,b]at d;cases d;rw[a]at hd;cases hd
theorem Inv.oH(I:Inv X g f H s):s.heap.FunFrames X.base X.outer:=by
 have a:∀ (l:List Env),(∀ b∈vc l,b∈X.fs)->X.tX.heap.FunFrames X.base l->s.heap.FunFrames X.base l:=by
  intro l
  induction l with
  | nil=>intro _ _;trivial
  | cons env r k=>intro hs hl;obtain⟨h,⟨L,o,hf,hn,i,hd⟩,j⟩:=hl;have c:L∈X.fs:=hs L (by unfold vc;rw[SM,hf];exact O2);obtain⟨m,e⟩:=I.base.slot L o i (I.ok.Jf L c) c fun z=>I.ok.B2 L z c;exact⟨h,⟨L,_,hf,hn,e,hd⟩,k (fun b d=>hs b (by unfold vc;rw[SM,hf];exact OM _ d)) j⟩
 exact a X.outer (fun _ d=>d) I.ok.oH
theorem Inv.stack(I:Inv X g f H s):s.heap.FunFrames X.base X.stack:=by
 rcases I.ok.vD with e | ⟨e,hf⟩;.rw[e];exact I.oH
 .rw[e];obtain⟨m,hn,_⟩:=I.loc;refine .cons (by rw[I.ok.kind];decide) hf hn ?_ I.oH;exact Heap.get?_none_of_le (O9 I.ok.FZ I.ok.above)
theorem Inv.yC(I:Inv X g f H s):∀ b∈vc X.stack,b∈X.env.locals::X.fs:=fun b a=>by
 rcases I.ok.vD with e | ⟨e,hf⟩;.rw[e]at a;exact OM _ a
 .rw[e]at a;unfold vc at a;rw[SM,hf]at a;exact a
theorem Inv.yQ(I:Inv X g f H s):∀ b∈vc X.stack,H b=none:=fun b a=>by
 rcases OA.mp (I.yC b a) with e | a;.rw[e];exact I.free
 .obtain⟨_,o,c,_⟩:=I.ok.oH.mem a;exact I.base.free b o c (I.ok.Jf b a) fun z=>I.ok.B2 b z a
theorem Inv.step{g':Array GenState}{t':Nat}{d':Drawn}{ch:List Addr}(I:Inv X g f H s)
 (j:∀ b∈ch,(b∈X.ex\/X.tX.heap.objs.size<=b)/\b≠X.env.locals/\(∀ x c,X.env.cells.lookup x=some c->c≠b)/\∀ p∈X.pn++g,p.1≠b)
 (t:∀ b o,b≠X.env.locals->b∉X.fs->b∉ch->s.heap.get? b=some o->H b=none->h'.get? b=some o)
 (C:∀ b o,b≠X.env.locals->b∈X.fs->b∉ch->s.heap.get? b=some o->H b=none->∃ R,h'.get? b=some { o with slots:=R }) (a:∀ b o,b∉ch->s.heap.get? b=some o->H b=none->Z b=none)
 (E:∀ b o,b∉ch->s.heap.get? b=some o->∃ N,h'.get? b=some N)
 (P:∀ b xs,H b=some (.tup xs)->Z b=some (.tup xs)) (J:∀ b o u,H b=some (.jP o u)->Z b=some (.jP o u)) (O:∀ b ps,H b=some (.Je ps)->∃ L,Z b=some (.Je (ps++L)))
 (ns:∀ m,s.heap.Ns X.env.locals m->h'.Ns X.env.locals m) (Q:k8 X.prog X.w Z h') (hg:AllBare g'):
 Inv X g f Z { s with heap:=h',gens:=g',drawn:=d',toks:=t' }:=by
 have M:∀ b o,X.tX.heap.get? b=some o->b≠X.env.locals:=fun b o e=>Pr (Pb (OY e) I.ok.above);have B:∀ b o,X.tX.heap.get? b=some o->b∉X.ex->b∉ch:=fun b o e hx D=>by
  rcases(j b D).1 with z | z;.exact hx z
  .exact absurd (Pb (OY e) z) (QC _)
 have h:∀ x c,X.env.cells.lookup x=some c->∀ v,s.heap.IsCell c v->h'.IsCell c v:=fun x c e v ⟨o,F,hd⟩=>by
  have y:c∉ch:=fun z=>(j c z).2.2.1 x c e rfl;by_cases hc:c∈X.fs;.obtain⟨R,q⟩:=C c o (I.Mm x c e) hc y F (I.gG x c e);exact⟨_,q,hd⟩
  .exact⟨o,t c o (I.Mm x c e) hc y F (I.gG x c e),hd⟩
 refine⟨I.ok,I.os,hg,⟨fun b o e n D hx=>?_,fun b o e n D hx=>?_,fun b o e n hx=>?_,fun b o e hx=>?_,fun b xs e=>P b xs (I.base.rA b xs e),fun b o xs e=>J b o xs (I.base.px b o xs e),fun b ps e=>?_⟩,?_,fun x c e=>?_,?_,fun x c e=>?_,fun p U=>?_,Q,I.len⟩;.exact t b o (M b o e) D (B b o e hx) (I.base.keep b o e n D hx) (I.base.free b o e n hx)
 .obtain⟨R,A⟩:=I.base.slot b o e n D hx;obtain⟨T,G⟩:=C b _ (M b o e) D (B b o e hx) A (I.base.free b o e n hx);exact⟨T,G⟩
 .obtain⟨N,A⟩:=I.base.there b o e hx;exact a b N (B b o e hx) A (I.base.free b o e n hx)
 .obtain⟨N,A⟩:=I.base.there b o e hx;exact E b N (B b o e hx) A
 .obtain⟨m1,A⟩:=I.base.rB b ps e;obtain⟨m2,G⟩:=O b _ A;exact⟨m1++m2,by rw[G,S8]⟩
 .obtain⟨m,hn,hl⟩:=I.loc;refine⟨m,ns m hn,fun i x v A G e3=>?_⟩;obtain⟨u,r,l⟩:=hl i x v A G e3;refine⟨u,r,?_⟩;rcases l with l | ⟨k,c,e,z⟩;.exact .inl l
  .exact .inr ⟨k,c,e,h x c e _ z⟩
 .obtain⟨v,z⟩:=I.cell x c e;exact⟨v,h x c e v z⟩
 .obtain⟨m,⟨o,_,_,F,_⟩,_⟩:=I.loc;exact a _ o (fun z=>(j _ z).2.1 rfl) F I.free
 .obtain⟨v,o,F,hd⟩:=I.cell x c e;exact a c o (fun z=>(j c z).2.2.1 x c e rfl) F (I.gG x c e)
 .obtain⟨e,n,W,Y,d⟩:=I.pin p U;have y:p.1∉ch:=fun z=>(j p.1 z).2.2.2 p U rfl;exact⟨t p.1 p.2 W Y y e n,a p.1 p.2 y e n,W,Y,d⟩
theorem Inv.un{t':Nat}(I:Inv X g f H s)(u:Un X.fs [] H Z s.heap h')(i:k8 X.prog X.w Z h'):Inv X g f Z { s with heap:=h',toks:=t' }:=by obtain⟨m,⟨o,v,t,j,r⟩,_⟩:=id I.loc;obtain⟨B,k⟩:=u.any j I.free (by simp);exact I.step (g':=s.gens) (d':=s.drawn) (ch:=[]) (fun _ z=>nomatch z) (fun b o _ h _ e n=>u.keep b o e n h (by simp)) (fun b o _ h _ e n=>u.slot b o e n h (by simp)) (fun b o _ e n=>u.free b o e n (by simp)) (fun b o _ e=>u.there b o e (by simp)) u.rA u.px u.rB (fun y l=>by obtain⟨A,d,c,a,p⟩:=l;rw[j]at a;cases a;exact⟨_,d,c,k,p⟩) i I.bare
theorem Inv.call{g':Array GenState}{t':Nat}{d':Drawn}{ch:List Addr}(I:Inv X g f H s)(u:Un (vc X.stack) ch H Z s.heap h')(k:k8 X.prog X.w Z h')(t:AllBare g')
 (a:∀ b∈ch,(b∈X.ex\/X.tX.heap.objs.size<=b)/\b≠X.env.locals/\(∀ x c,X.env.cells.lookup x=some c->c≠b)/\∀ p∈X.pn++g,p.1≠b):
 Inv X g f Z { s with heap:=h',gens:=g',drawn:=d',toks:=t' }:=by
 obtain⟨m,⟨o,B,A,l,r⟩,_⟩:=id I.loc;obtain⟨E,j⟩:=u.any l I.free fun z=>(a _ z).2.1 rfl;exact I.step (ch:=ch) a (fun b o j q hc e n=>u.keep b o e n (fun z=>(OA.mp (I.yC b z)).elim j q) hc) (fun b o _ _ hc e n=>u.any e n hc) (fun b o hc e n=>u.free b o e n hc) (fun b o hc e=>u.there b o e hc) u.rA u.px u.rB (fun C v=>by obtain⟨D,i,h,d,y⟩:=v;rw[l]at d;cases d;exact⟨_,i,h,j,y⟩) k t
theorem Inv.turned{t':Nat}{a:Addr}(I:Inv X g f H s)(k:∀ b o,b≠a->s.heap.get? b=some o->h'.get? b=some o)(hn:H a=none)(h:a≠X.env.locals)
 (h1:a∈X.ex\/X.tX.heap.objs.size<=a) (h2:∀ x c,X.env.cells.lookup x=some c->c≠a) (l:∀ p∈X.pn++g,p.1≠a):Inv X g f H { s with heap:=h',toks:=t' }:=by
 have d:∀ b u,H b=some u->b≠a:=fun b u e z=>by rw[z,hn]at e;cases e
 refine I.step (g':=s.gens) (d':=s.drawn) (ch:=[a]) (fun b t=>?_) (fun b o _ _ hc e _=>k b o (fun z=>hc (by simp[z])) e) (fun b o _ _ hc e _=>⟨o.slots,k b o (fun z=>hc (by simp[z])) e⟩) (fun _ _ _ _ n=>n) (fun b o hc e=>⟨o,k b o (fun z=>hc (by simp[z])) e⟩) (fun _ _ e=>e) (fun _ _ _ e=>e) (fun b ps e=>⟨#[],by rw[e];simp⟩) (fun m w=>?_) (fun b u e=>?_) I.bare
 .have e:b=a:=by simpa using t
  subst e;exact⟨h1,h,h2,l⟩
 .obtain⟨o,j,i,y,r⟩:=w;exact⟨o,j,i,k _ o (OL h) y,r⟩
 .refine(I.de b u e).br (fun c v hc q=>k c v ?_ q) (fun _ q=>q) fun _ _ q=>q;rcases hc with z | z;.rw[z];exact d b u e
  .exact d c _ z
theorem Inv.tok(I:Inv X g f H s)(t:Nat):Inv X g f H { s with toks:=t }:=I.un (h':=s.heap) (t':=t) Un.refl I.de
theorem Inv.kept{t':Nat}(I:Inv X g f H s)(k:∀ b u,s.heap.get? b=some u->h'.get? b=some u):Inv X g f H { s with heap:=h',toks:=t' }:=I.un (Un.kept k) (I.de.kept k)
theorem Inv.laid{a:Addr}{o:HO}{t':Nat}(I:Inv X g f H s)(k:∀ b u,s.heap.get? b=some u->h'.get? b=some u)(c:s.heap.objs.size<=a)(d:cG X.prog X.w (upd H a o) h' a o): Inv X g f (upd H a o) { s with heap:=h',toks:=t' }:=I.un (Un.laid k c (I.de.fresh c)) (I.de.laid k c d)
theorem Inv.write{x e:Addr}{o:HO}{t':Nat}(I:Inv X g f H s)(h:Kx (H x))(d:e=x\/H e=some (.own x))(k:∀ b u,b≠e->s.heap.get? b=some u->h'.get? b=some u)(a:∃ u,h'.get? e=some u) (c:cG X.prog X.w (upd H x o) h' x o):Inv X g f (upd H x o) { s with heap:=h',toks:=t' }:=I.un (Un.write h d k a) (I.de.write h d k a c)
theorem Inv.weak{a:List (Option V)}(I:Inv X g f H s)(hl:a.length=f.length)(w:∀ (i:Nat) v,a[i]?=some (some v)->f[i]?=some (some v)):Inv X g a H s:=⟨I.ok,I.os,I.bare,I.base,let ⟨m,hn,b⟩:=I.loc;⟨m,hn,fun i x v c d e=>b i x v c (w i v d) e⟩,I.cell,I.free,I.gG,I.pin,I.de,hl.trans I.len⟩
theorem Inv.D8{a:List (Addr×Obj)}(I:Inv X g f H s)(h:∀ p∈a,s.heap.get? p.1=some p.2/\H p.1=none/\p.1≠X.env.locals/\p.1∉X.fs/\∀ v,p.2.data≠.cell v):Inv X a f H s:=⟨I.ok,I.os,I.bare,I.base,I.loc,I.cell,I.free,I.gG,fun p b=>(OH.mp b).elim (fun z=>I.pin p (PQ _ z)) (h p),I.de,I.len⟩
theorem vP{N:List Str}(e:N.Nodup){i j:Nat}{x:Str}(a:N[i]?=some x)(b:N[j]?=some x):i=j:=by obtain⟨h1,c⟩:=OV.mp a;obtain⟨h2,d⟩:=OV.mp b;exact(List.getElem_inj e).mp (c.trans d.symm)
theorem E7{M:Model}{A:Around}{E:Value->Shared->Prop}{i:Nat}{x:Str}{v:V}{u:Value}{Q:Unit->Shared->Prop}(I:Inv X g f H s)(hN:X.N.Nodup)(U:X.N[i]?=some x)(hx:Loc X.env.scope x)(r:RelV v u)
 (h:∀ s',Inv X g (f.set i (some v)) H s'->(∃ a,Heap.SameBut a s.heap s'.heap/\(a=X.env.locals\/X.env.cells.lookup x=some a))->Q () s') (hf:X.fn x=true\/X.env.scope.names.lookup x=some .local:=by first | exact .inl rfl | exact .inr rfl | assumption):wpAny M A (storeName X.env x u) Q E s:=by
 obtain⟨m,hn,hl⟩:=id I.loc;have T:(X.env.scope.kind==.class || (X.env.scope.kind==.module&&X.env.locals != X.env.globals))=false:=by rw[I.ok.kind];rfl
 have D:i<f.length:=by rw[I.len];exact(OV.mp U).1
 have G:=I.Mm;have t:∀ {a:Addr} {h':Heap},(∃ o,s.heap.get? a=some o/\H a=none)->Heap.SameBut a s.heap h'->k8 X.prog X.w H h':=fun {a h'} ha hs b ob e=>by
  obtain⟨_,_,B⟩:=ha;refine(I.de b ob e).br (fun c w' hc q=>(hs.2 c ?_).trans q) (fun _ q=>q) fun _ _ q=>q;rintro rfl;rcases hc with rfl | hc;.rw[B]at e;cases e
  .rw[B]at hc;cases hc
 rcases hx with F | F
 .refine wpAny_storeName_local F hn (fun h' a0 hs=>?_) T;obtain⟨oL,_,_,a3,_⟩:=id hn;refine h _ ⟨I.ok,I.os,I.bare,⟨fun b o e n J hx=>?_,fun b o e n J hx=>?_,I.base.free,fun b o e hx=>?_,I.base.rA,I.base.px,I.base.rB⟩,⟨_,a0,fun j y v' l C e3=>?_⟩,fun y c e=>?_,I.free,I.gG,fun p hp=>?_,t ⟨oL,a3,I.free⟩ hs,by simpa using I.len⟩ ⟨_,hs,.inl rfl⟩;.exact(hs.2 b (Pr (Pb (OY e) I.ok.above))).trans (I.base.keep b o e n J hx)
  .obtain⟨sl,l⟩:=I.base.slot b o e n J hx;exact⟨sl,(hs.2 b (Pr (Pb (OY e) I.ok.above))).trans l⟩
  .obtain⟨o',l⟩:=I.base.there b o e hx;exact⟨o',(hs.2 b (Pr (Pb (OY e) I.ok.above))).trans l⟩
  .by_cases O:j=i;.subst O;rw[U]at l;cases l;rw[R7 D]at C;cases C;exact⟨u,r,.inl ⟨F,by simp⟩⟩
   .rw[Ss (OL O)]at C;obtain⟨u',r',q⟩:=hl j y v' l C e3;refine⟨u',r',?_⟩;rcases q with⟨k,e⟩ | ⟨k,c,e,z⟩;.refine .inl ⟨k,?_⟩;have:y≠x:=fun e=>O (vP hN l (e▸U));simp[this,e]
    .exact .inr ⟨k,c,e,z.sameBut hs (G y c e)⟩
  .obtain⟨w',z⟩:=I.cell y c e;exact⟨w',z.sameBut hs (G y c e)⟩
  .obtain⟨e,n,ne,nf,d⟩:=I.pin p hp;exact⟨(hs.2 p.1 ne).trans e,n,ne,nf,d⟩
 .have L:X.fn x=true:=by
   rcases hf with z | z;.exact z
   .rw[z]at F;cases F
  obtain⟨c,hc⟩:=I.ok.has x (.inl F);obtain⟨w',z⟩:=I.cell x c hc;refine wpAny_storeName_cell I.ok.kind F hc z (fun h' P hs=>?_);obtain⟨oc,W,Y⟩:=id z;refine h { s with heap:=h' } ⟨I.ok,I.os,I.bare,⟨fun b o e n J hx=>?_,fun b o e n J hx=>?_,I.base.free,fun b o e hx=>?_,I.base.rA,I.base.px,I.base.rB⟩,⟨m,hn.sameBut hs (OL (G x c hc)),fun j y v' l C e3=>?_⟩,fun y c' e=>?_,I.free,I.gG,fun p hp=>?_,t ⟨oc,W,I.gG x c hc⟩ hs,by simpa using I.len⟩ ⟨c,hs,.inr hc⟩;.exact(hs.2 b (Pr (Pb (OY e) (I.ok.LV x c L hc)))).trans (I.base.keep b o e n J hx)
  .obtain⟨sl,l⟩:=I.base.slot b o e n J hx;exact⟨sl,(hs.2 b (Pr (Pb (OY e) (I.ok.LV x c L hc)))).trans l⟩
  .obtain⟨o',l⟩:=I.base.there b o e hx;exact⟨o',(hs.2 b (Pr (Pb (OY e) (I.ok.LV x c L hc)))).trans l⟩
  .by_cases O:j=i;.subst O;rw[U]at l;cases l;rw[R7 D]at C;cases C;exact⟨u,r,.inr ⟨.inl F,c,hc,P⟩⟩
   .rw[Ss (OL O)]at C;obtain⟨u',r',q⟩:=hl j y v' l C e3;refine⟨u',r',?_⟩;rcases q with q | ⟨k,c',e,z'⟩;.exact .inl q
    .refine .inr ⟨k,c',e,z'.sameBut hs ?_⟩;rintro rfl;exact O (vP hN l (I.ok.inj _ _ _ e hc▸U))
  .by_cases R:c'=c;.subst R;exact⟨_,P⟩
   .obtain⟨w2,z2⟩:=I.cell y c' e;exact⟨w2,z2.sameBut hs R⟩
  .obtain⟨e,n,ne,nf,d⟩:=I.pin p hp;refine⟨(hs.2 p.1 ?_).trans e,n,ne,nf,d⟩;intro q;rw[q,W]at e;have q':oc=p.2:=OQ e;exact d w' (by rw[<-q'];exact Y)
theorem pX{M:Model}{A:Around}{E:Value->Shared->Prop}{i:Nat}{x:Str}{v:V}{u:Value}{Q:Unit->Shared->Prop}(I:Inv X g f H s)(b:X.N.Nodup)(c:X.N[i]?=some x)(hx:Loc X.env.scope x)(r:RelV v u)
 (h:∀ s',Inv X g (f.set i (some v)) H s'->Q () s') (hf:X.fn x=true\/X.env.scope.names.lookup x=some .local:=by first | exact .inl rfl | exact .inr rfl | assumption):wpAny M A (storeName X.env x u) Q E s:=
 E7 I b c hx r (fun s' a _=>h s' a) hf
theorem Inv.KD{s':Shared}{ch:List Addr}(I:Inv X g f H s)(l:s'.os=s.os)(u:Un (vc X.stack) ch H Z s.heap s'.heap)(d:k8 X.prog X.w Z s'.heap)(k:AllBare s'.gens)
 (a:∀ b∈ch,(b∈X.ex\/X.tX.heap.objs.size<=b)/\b≠X.env.locals/\(∀ x c,X.env.cells.lookup x=some c->c≠b)/\∀ p∈X.pn++g,p.1≠b):Inv X g f Z s':=by
 obtain⟨h',i,h,j,m⟩:=s';have e:m=s.os:=l;subst e;exact I.call (g':=i) (t':=j) (d':=h) u d k a
end
abbrev XK:=Value->Option Addr->Hp->Prop
abbrev St:=List (Option V)
abbrev VK:=V->Hp->Prop
abbrev TE:=St->Hp->VK->Prop
abbrev TT:=St->Hp->(Bool->Hp->Prop)->Prop
abbrev TA:=St->Hp->(List V->Hp->Prop)->Prop
structure Ends where
 nx:St->Hp->Prop
 rt:VK
 bk:St->Hp->Prop:=fun _ _=>False
 ct:St->Hp->Prop:=fun _ _=>False
abbrev TS:=Ends->St->Hp->Prop
def EP(X:Cx)(a:List (Addr×Obj))(c:St)(Q:VK)(u:Value)(s':Shared):Prop:=∃ v b,Inv X a c b s'/\RelV v u/\Q v b
def TP(X:Cx)(a:List (Addr×Obj))(d:St)(Q:Bool->Hp->Prop)(b:Bool)(s':Shared):Prop:=∃ c,Inv X a d c s'/\Q b c
def AP(X:Cx)(a:List (Addr×Obj))(c:St)(Q:List V->Hp->Prop)(us:List Value)(s':Shared):Prop:=∃ vs b,Inv X a c b s'/\Vals vs us/\Q vs b
def SP(X:Cx)(b:List (Addr×Obj))(D:Ends)(f:Flow)(s':Shared):Prop:=
 match f with
 | .next=>∃ a c,Inv X b a c s'/\D.nx a c
 | .brk=>∃ a c,Inv X b a c s'/\D.bk a c
 | .cont=>∃ a c,Inv X b a c s'/\D.ct a c
 | .ret u=>∃ v a c,Inv X b a c s'/\RelV v u/\D.rt v c
def PE(X:Cx)(e:Expr)(t:TE):Prop:=∀ (a:List (Addr×Obj)) (s:Shared) (b:St) (H:Hp) (Q:VK),Inv X a b H s->t b H Q->wpAny (model X.prog X.w) X.A (eval e X.env) (EP X a b Q) X.xe s
def PT(X:Cx)(e:Expr)(t:TT):Prop:=∀ (a:List (Addr×Obj)) (s:Shared) (b:St) (H:Hp) (Q:Bool->Hp->Prop),Inv X a b H s->t b H Q->wpAny (model X.prog X.w) X.A (isTrue e X.env (eval e X.env)) (TP X a b Q) X.xe s
def PW(X:Cx)(e:Expr)(t:TT):Prop:=∀ (b:Sem Value) (a:List (Addr×Obj)) (s:Shared) (c:St) (H:Hp) (Q:Bool->Hp->Prop),Inv X a c H s->t c H Q->wpAny (model X.prog X.w) X.A (isTrue e X.env b) (TP X a c Q) X.xe s
theorem PW.pt{X:Cx}{e:Expr}{t:TT}(h:PW X e t):PT X e t:=h _
def PA(X:Cx)(d:List Expr)(t:TA):Prop:=∀ (b:Pos) (a:List (Addr×Obj)) (s:Shared) (c:St) (H:Hp) (Q:List V->Hp->Prop),Inv X a c H s->t c H Q->wpAny (model X.prog X.w) X.A (spliced (backTo b (starEach d X.env))) (AP X a c Q) X.xe s
def PS(X:Cx)(c:Stmt)(t:TS):Prop:=∀ (a:List (Addr×Obj)) (s:Shared) (b:St) (H:Hp) (D:Ends),Inv X a b H s->t D b H->wpAny (model X.prog X.w) X.A (exec c X.env) (SP X a D) X.xe s
def wH(X:Cx)(c:List Stmt)(t:TS):Prop:=∀ (a:List (Addr×Obj)) (s:Shared) (b:St) (H:Hp) (D:Ends),Inv X a b H s->t D b H->wpAny (model X.prog X.w) X.A (execs c X.env) (SP X a D) X.xe s
theorem cj{c:Type}{t:Sem c}{Q b:c->Shared->Prop}{M:Model}{A:Around}{E:Value->Shared->Prop}{s:Shared}(h:wpAny M A t Q E s)(d:∀ a s,Q a s->b a s):wpAny M A t b E s:=Qa h d fun _ _ x=>x
end L2
namespace L2
open PySem PySem.Spec PyProof.Rows
section
variable {X:Cx}
def hU(i:Nat):TE:=fun a H Q=>∃ v,a[i]?=some (some v)/\Q v H
def tC(v:V):TE:=fun _ H Q=>Q v H
theorem K6{i:Nat}{x:Str}{z:Pos}(j:X.N[i]?=some x)(n:Kf X.env.scope x)(hd:(x==("__debug__":Str))=false:=by decide)(g:(x==("__classdict__":Str))=false:=by decide):PE X (.Name x z) (hU i):=by
 intro f s o H Q I h;obtain⟨v,e,h⟩:=h;obtain⟨m,hn,hl⟩:=I.loc;obtain⟨u,r,l⟩:=hl i x v j e n;have b:EP X f o Q u s:=⟨v,H,I,r,h⟩
 rcases l with⟨d,k⟩ | ⟨d,c,hc,a⟩;.exact Su (Sv I.ok.kind d hn k b) hd
 .rcases d with d | d;.exact Su (SN I.ok.kind d hc a b) hd
  .exact Su (wpAny_loadName_free I.ok.kind d hc a b g) hd
theorem aw{i j z}:PE X (.Constant (.int i) j z) (tC (.int i)):=fun _ _ _ H _ I h=>wpAny_Constant_int ⟨.int i,H,I.tok _,⟨_,rfl⟩,h⟩
theorem qw{b j z}:PE X (.Constant (.bool b) j z) (tC (.bl b)):=fun _ _ _ H _ I h=>Constant_bool ⟨.bl b,H,I,rfl,h⟩
theorem eX{j z}:PE X (.Constant .none j z) (tC .ba):=fun _ _ _ H _ I h=>Tc ⟨.ba,H,I,rfl,h⟩
theorem cP{x j z}:PE X (.Constant (.str x) j z) (tC (.str x)):=fun _ _ _ H _ I h=>RU ⟨.str x,H,I.tok _,⟨_,rfl⟩,h⟩
def Gl(X:Cx)(x:Str):Prop:=X.env.kindOf x=some .globalImplicit
theorem ji{E:Value->Shared->Prop}{a:List (Addr×Obj)}{s:Shared}{d:St}{H:Hp}{x:Str}{u:Value}{z:Pos}{Q:Value->Shared->Prop}(I:Inv X a d H s)(b:Gl X x)(c:X.mg x=some u)(h:Q u s)
 (hd:(x==("__debug__":Str))=false:=by decide):wpAny (model X.prog X.w) X.A (eval (.Name x z) X.env) Q E s:=
 Td I.ok.kind b (Calls.loadGlobal_global (by rw[I.ok.glob];exact I.mod.glob.keeps I.bk) c h) hd
theorem lK{E:Value->Shared->Prop}{a:List (Addr×Obj)}{s:Shared}{e:St}{H:Hp}{x:Str}{u:Value}{z:Pos}{Q:Value->Shared->Prop}(I:Inv X a e H s)(b:Gl X x)(c:X.mg x=none)(d:bootBuiltins x=some u)(h:Q u s)
 (hn:x≠"__name__":=by decide) (hd:(x==("__debug__":Str))=false:=by decide):wpAny (model X.prog X.w) X.A (eval (.Name x z) X.env) Q E s:=by
 obtain⟨f,h1,h2⟩:=I.mod.blt;exact Td I.ok.kind b (Calls.loadGlobal_builtin (by rw[I.ok.glob];exact I.mod.glob.keeps I.bk) c (by rw[I.ok.blt];exact h1.keeps I.bk) ((h2 x hn).trans d) h) hd
theorem uj{x:Str}{v:V}{u:Value}{z:Pos}(a:Gl X x)(b:X.mg x=some u)(r:RelV v u)(hd:(x==("__debug__":Str))=false:=by decide):PE X (.Name x z) (tC v):=fun _ _ _ H _ I h=>ji I a b ⟨v,H,I,r,h⟩ hd
def Ov(o g:TE)(k:Int->Int->Hp->Prop):St->Hp->Prop:=fun a H=>o a H fun x b=>g a b fun y c=>∃ i j,x=.int i/\y=.int j/\k i j c
variable {a b:Expr}{o g:TE}{z:Pos}
def PC(X:Cx)(h:CmpOp)(a b:Expr)(t:TE):Prop:=∀ (c:List (Addr×Obj)) (s:Shared) (f:St) (H:Hp) (Q:VK),Inv X c f H s->t f H Q -> wpAny (model X.prog X.w) X.A (eval a X.env) (fun v d=>wpAny (model X.prog X.w) X.A (eval b X.env) (fun u e=>wpAny (model X.prog X.w) X.A (compareOp h v u) (EP X c f Q) X.xe e) X.xe d) X.xe s
theorem Bk(b:Expr){c:CmpOp}(h:c≠.In)(h2:c≠.NotIn):behindInMarks c b=false:=by
 have d:(c==CmpOp.In)=false:=by cases c<;>first | rfl | exact absurd rfl h
 have e:(c==CmpOp.NotIn)=false:=by cases c<;>first | rfl | exact absurd rfl h2
 cases b<;>simp[behindInMarks,d,e]
def Jw(p:Int->Int->Bool)(o g:TE):TE:=fun d H Q=>Ov o g (fun i j c=>Q (.bl (p i j)) c) d H
def H0(o:TE):TE:=fun d H Q=>o d H fun x c=>Q (.bl (decide (x=.ba))) c
def Ef(o:TE):TE:=fun d H Q=>o d H fun x c=>Q (.bl (!decide (x=.ba))) c
theorem RelV.Bw{x:V}{v:Value}(r:RelV x v):(v==Value.none)=decide (x=.ba):=by
 cases x with
 | ba=>cases r;rfl
 | bl _=>cases r;rfl
 | int _=>obtain⟨t,rfl⟩:=r;rfl
 | str _=>obtain⟨t,rfl⟩:=r;rfl
 | byt _=>obtain⟨t,rfl⟩:=r;rfl
 | Kv _=>obtain⟨t,rfl⟩:=r;rfl
 | ref _=>cases r;rfl
 | ty _=>cases r;rfl
theorem l5{j pos'}(ha:PE X a o):PC X .Is a (.Constant .none j pos') (H0 o):=by intro c s k H Q I h;refine cj (ha c s k H _ I h) fun v l ⟨x,d,e,i,f⟩=>?_;exact Tc (is_none_gen ⟨.bl _,d,e,by rw[i.Bw];rfl,f⟩)
theorem qz{j pos'}(ha:PE X a o):PC X .IsNot a (.Constant .none j pos') (Ef o):=by intro c s k H Q I h;refine cj (ha c s k H _ I h) fun v l ⟨x,d,e,i,f⟩=>?_;exact Tc (isnot_none_gen ⟨.bl _,d,e,by rw[i.Bw];rfl,f⟩)
def tB(t:TE):TT:=fun e H Q=>t e H fun x d=>∃ c,x=.bl c/\Q c d
theorem eV{f:CmpOp}{t:TE}(h:PC X f a b t)(h1:behindInMarks f b=false:=by first | exact Bk _ (by decide) (by decide) | rfl):PT X (.Compare a [f] [b] z) (tB t):=by intro e s m H Q I hw;refine Si (cj (h e s m H _ I hw) fun v n h1=>cj h1 fun u p h2=>cj h2 fun c r ⟨x,i,j,l,k⟩=>?_) h1;obtain⟨d,rfl,q⟩:=k;cases l;exact Qi ⟨i,j,q⟩
theorem bK{e:Expr}{t:TE}(h:PE X e t)(k:∀ c,isTrue e X.env c=(do let v <-c;standAt e.pos;holding [v] (truthy v)):=by intro _;rfl):PT X e (tB t):=by intro f s n H Q I hw;refine isTrue_plain (cj (h f s n H _ I hw) fun v p ⟨x,i,j,m,l⟩=>?_) (k _);obtain⟨d,rfl,q⟩:=l;cases m;exact Qi ⟨i,j,q⟩
variable {f Z:TT}{n:List Expr}
def tU(t u:TT):TT:=fun e H Q=>t e H fun c d=>if c=true then u e d Q else Q false d
def FC(t u:TT):TT:=fun e H Q=>t e H fun c d=>if c=true then Q true d else u e d Q
def uv(t:TT):TT:=fun e H Q=>t e H fun c d=>Q (!c) d
theorem lh(ha:PT X a f):PW X (.BoolOp .And [a] z) f:=by
 intro k d s i H Q I h;refine isTrue_and (cj (ha d s i H Q I h) fun c j e=>?_);cases c with
 | true=>exact isTrue_and_nil e
 | false=>exact e
theorem fk(ha:PT X a f):PW X (.BoolOp .Or [a] z) f:=by
 intro k d s i H Q I h;refine isTrue_or (cj (ha d s i H Q I h) fun c j e=>?_);cases c with
 | false=>exact isTrue_or_nil e
 | true=>exact e
theorem pN(ha:PT X a f)(l:PW X (.BoolOp .And (b::n) z) Z):PW X (.BoolOp .And (a::b::n) z) (tU f Z):=by
 intro p d s k H Q I h;refine isTrue_and (cj (ha d s k H _ I h) fun c m ⟨e,i,j⟩=>?_);cases c with
 | true=>exact l p d m k e Q i j
 | false=>exact⟨e,i,j⟩
theorem fS(ha:PT X a f)(l:PW X (.BoolOp .Or (b::n) z) Z):PW X (.BoolOp .Or (a::b::n) z) (FC f Z):=by
 intro p d s k H Q I h;refine isTrue_or (cj (ha d s k H _ I h) fun c m ⟨e,i,j⟩=>?_);cases c with
 | true=>exact⟨e,i,j⟩
 | false=>exact l p d m k e Q i j
theorem ie(ha:PT X a f):PT X (.UnaryOp .Not a z) (uv f):=by intro d s i H Q I h;exact isTrue_not (ha d s i H (fun c e=>Q (!c) e) I h)
def nJ(o g:TE):TE:=fun e H Q=>o e H fun x d=>∃ c,x=.bl c/\if c=true then g e d Q else Q (.bl false) d
def uB(o g:TE):TE:=fun e H Q=>o e H fun x d=>∃ c,x=.bl c/\if c=true then Q (.bl true) d else g e d Q
def oO(o:TE):TE:=fun e H Q=>o e H fun x d=>∃ c,x=.bl c/\Q (.bl (!c)) d
theorem iw{op}{t:TE}(h:PE X a t):PE X (.BoolOp op [a] z) t:=fun c s d H Q I hw=>BoolOp_one (h c s d H Q I hw)
theorem Di(ha:PE X a o)(l:PE X (.BoolOp .And (b::n) z) g):PE X (.BoolOp .And (a::b::n) z) (nJ o g):=by
 intro d s k H Q I h;refine BoolOp_and (cj (ha d s k H _ I h) fun v p ⟨x,i,j,m,e⟩=>?_);obtain⟨c,rfl,e⟩:=e;cases m;refine Qi ?_;cases c with
 | true=>exact l d p k i Q j e
 | false=>exact⟨.bl false,i,j,rfl,e⟩
theorem kQ(ha:PE X a o)(l:PE X (.BoolOp .Or (b::n) z) g):PE X (.BoolOp .Or (a::b::n) z) (uB o g):=by
 intro d s k H Q I h;refine BoolOp_or (cj (ha d s k H _ I h) fun v p ⟨x,i,j,m,e⟩=>?_);obtain⟨c,rfl,e⟩:=e;cases m;refine Qi ?_;cases c with
 | false=>exact l d p k i Q j e
 | true=>exact⟨.bl true,i,j,rfl,e⟩
def GH(t:TT)(o g:TE):TE:=fun d H Q=>t d H fun c e=>if c=true then o d e Q else g d e Q
theorem pZ{c:Expr}(hc:PT X c f)(ha:PE X a o)(p:PE X b g):PE X (.IfExp c a b z) (GH f o g):=by
 intro e s i H Q I h;refine wpAny_IfExp (cj (hc e s i H _ I h) fun d m ⟨j,k,l⟩=>?_);cases d with
 | true=>exact ha e m i j Q k l
 | false=>exact p e m i j Q k l
end
end L2
namespace L2
open PySem PySem.Spec PyProof.Rows
def bB(K:PySem.W.Frag)(H:Hp)(a:Addr)(xs:List V):Prop:=Rd H a (.lst xs) \/ ∃ (o:Obj) (b:Array Value) (n:Nat),K.lookup a=some o/\o.cls=.type "list"/\o.dict=none/\o.data=.seq b n/\b.size<=sizeLine/\Vals xs b.toList
def iJ(K:PySem.W.Frag)(H:Hp)(a:Addr)(xs:List V):Prop:=Rd H a (.tup xs) \/ ∃ (o:Obj) (b:Array Value) (n:Nat),K.lookup a=some o/\o.cls=.type "tuple"/\o.data=.seq b n/\b.size<=sizeLine/\Vals xs b.toList
def NU:Value->Option V
 | .none=>some .ba
 | .bool b=>some (.bl b)
 | .int i _=>some (.int i)
 | .str x _=>some (.str x)
 | .bytes b _=>some (.byt b)
 | .float b _=>some (.Kv b)
 | .ref a=>some (.ref a)
 | .type n=>some (.ty n)
 | _=>none
theorem RelV.abs{x:V}{u:Value}(r:RelV x u):NU u=some x:=by
 cases x with
 | ba=>cases r;rfl
 | bl _=>cases r;rfl
 | int _=>obtain⟨t,rfl⟩:=r;rfl
 | str _=>obtain⟨t,rfl⟩:=r;rfl
 | byt _=>obtain⟨t,rfl⟩:=r;rfl
 | Kv _=>obtain⟨t,rfl⟩:=r;rfl
 | ref _=>cases r;rfl
 | ty _=>cases r;rfl
theorem RelV.inj{x y:V}{u:Value}(r:RelV x u)(q:RelV y u):x=y:=OQ (r.abs.symm.trans q.abs)
theorem Vals.inj:∀ {xs a:List V} {us:List Value},Vals xs us->Vals a us->xs=a
 | _,_,_,.nil,.nil=>rfl
 | _,_,_,.cons r t,.cons b c=>by rw[r.inj b,Vals.inj t c]
section
variable {X:Cx}{x:List (Addr×Obj)}{w:St}{H:Hp}{s:Shared}{a:Addr}{y v:List V}
theorem bB.of{K:PySem.W.Frag}(h:H a=some (.lst y)):bB K H a y:=.inl (.inl h)
theorem iJ.of{K:PySem.W.Frag}(h:H a=some (.tup y)):iJ K H a y:=.inl (.inl h)
theorem Inv.list(I:Inv X x w H s)(h:bB X.K H a y):∃ b:List Value,Vals y b/\PlainL s.heap a b.toArray/\y.length<=sizeLine:=by
 rcases h with h | ⟨o,b,n,c,hc,hd,hs,d,r⟩;.obtain⟨z,b,n,r,e⟩:=h.ok I.de;exact⟨b,r,⟨_,n,e,rfl,rfl,rfl⟩,z⟩
 .refine⟨b.toList,r,⟨o,n,I.lZ a o c,hc,hd,by simpa using hs⟩,?_⟩;have e:=r.length;simp only[Q1]at e;omega
theorem Inv.tuple(I:Inv X x w H s)(h:iJ X.K H a y):∃ b:List Value,Vals y b/\IsTup s.heap a b.toArray/\y.length<=sizeLine:=by
 rcases h with h | ⟨o,b,n,c,hc,hs,d,r⟩;.obtain⟨z,b,r,p⟩:=h.ok I.de;exact⟨b,r,p,z⟩
 .refine⟨b.toList,r,⟨o,I.lZ a o c,hc,n,by simpa using hs⟩,?_⟩;have e:=r.length;simp only[Q1]at e;omega
theorem Inv.AV(I:Inv X x w H s)(h:bB X.K H a y)(i:bB X.K H a v):y=v:=by
 obtain⟨c,r,⟨o,n,e,_,_,d⟩,_⟩:=I.list h;obtain⟨b,j,⟨l,k,g,_,_,f⟩,_⟩:=I.list i;rw[e]at g;cases g;rw[d]at f;injection f with d1 _;have:c=b:=by simpa using Pw Array.toList d1
 subst this;exact r.inj j
theorem Inv.Fz(I:Inv X x w H s)(h:iJ X.K H a y)(i:iJ X.K H a v):y=v:=by
 obtain⟨c,r,⟨o,e,_,n,d⟩,_⟩:=I.tuple h;obtain⟨b,j,⟨l,g,_,k,f⟩,_⟩:=I.tuple i;rw[e]at g;cases g;rw[d]at f;injection f with d1 _;have:c=b:=by simpa using Pw Array.toList d1
 subst this;exact r.inj j
end
abbrev Cx.tH(X:Cx)(E:Value->Shared->Prop):Cx:={ X with xe:=E }
abbrev Cx.IZ(X:Cx):Cx:=X.tH fun _ _=>False
theorem Cx.Ok.tH{X:Cx}(a:X.Ok)(E:Value->Shared->Prop):(X.tH E).Ok:=⟨a.mod,a.kind,a.glob,a.blt,a.above,a.inj,a.has,a.LV,a.hd,a.frames,a.vD,a.Mj,a.bs,a.FZ,a.DE,a.B2,a.oH,a.Jf⟩
theorem Cx.Ok.ky{X:Cx}{E:Value->Shared->Prop}(a:(X.tH E).Ok):X.Ok:=⟨a.mod,a.kind,a.glob,a.blt,a.above,a.inj,a.has,a.LV,a.hd,a.frames,a.vD,a.Mj,a.bs,a.FZ,a.DE,a.B2,a.oH,a.Jf⟩
section
variable {X:Cx}{y:List (Addr×Obj)}{x:St}{H:Hp}{s:Shared}{E:Value->Shared->Prop}
theorem Inv.tH(I:Inv X y x H s)(E:Value->Shared->Prop):Inv (X.tH E) y x H s:=⟨I.ok.tH E,I.os,I.bare,I.base,I.loc,I.cell,I.free,I.gG,I.pin,I.de,I.len⟩
theorem Inv.ky(I:Inv (X.tH E) y x H s):Inv X y x H s:=⟨I.ok.ky,I.os,I.bare,I.base,I.loc,I.cell,I.free,I.gG,I.pin,I.de,I.len⟩
theorem SP.ky{D:Ends}{f:Flow}{s':Shared}(h:SP (X.tH E) y D f s'):SP X y D f s':=by
 cases f with
 | next=>obtain⟨a,b,I,q⟩:=h;exact⟨a,b,I.ky,q⟩
 | brk=>obtain⟨a,b,I,q⟩:=h;exact⟨a,b,I.ky,q⟩
 | cont=>obtain⟨a,b,I,q⟩:=h;exact⟨a,b,I.ky,q⟩
 | ret u=>obtain⟨v,a,b,I,r,q⟩:=h;exact⟨v,a,b,I.ky,r,q⟩
theorem PE.IZ{e:Expr}{t:TE}(h:PE X.IZ e t):PE X e t:=fun y s x H Q I hw=>Qa (h y s x H Q (I.tH _) hw) (fun _ _ ⟨v,a,b,r,q⟩=>⟨v,a,b.ky,r,q⟩) fun _ _ z=>False.elim z
theorem PT.IZ{e:Expr}{t:TT}(h:PT X.IZ e t):PT X e t:=fun y s x H Q I hw=>Qa (h y s x H Q (I.tH _) hw) (fun _ _ ⟨a,b,q⟩=>⟨a,b.ky,q⟩) fun _ _ z=>False.elim z
theorem wH.IZ{a:List Stmt}{t:TS}(h:wH X.IZ a t):wH X a t:=fun y s x H D I hw=>Qa (h y s x H D (I.tH _) hw) (fun _ _ q=>q.ky) fun _ _ z=>False.elim z
end
section
variable {X:Cx}{r:Stmt}{w:List Stmt}{t u:TS}{e:Expr}{y:TE}{z:Pos}
def kX:TS:=fun D a H=>D.nx a H
def mu(t u:TS):TS:=fun D a H=>t { D with nx:=u D } a H
theorem aD:wH X [] kX:=fun _ _ a H _ I h=>Ru ⟨a,H,I,h⟩
theorem af(h1:PS X r t)(h2:wH X w u):wH X (r::w) (mu t u):=by
 intro a s i H D I h;refine RI (cj (h1 a s i H { D with nx:=u D } I h) fun f g q=>?_);cases f with
 | next=>obtain⟨b,c,d,q⟩:=q;exact h2 a g b c D d q
 | ret v=>exact q
 | brk=>exact q
 | cont=>exact q
theorem ag(h1:PS X r t):wH X [r] t:=by
 intro a s b H D I h;refine RI (cj (h1 a s b H D I h) fun f c q=>?_);cases f with
 | next=>exact Ru q
 | ret v=>exact q
 | brk=>exact q
 | cont=>exact q
theorem Inv.quiet{a:List (Addr×Obj)}{b:St}{H:Hp}{s:Shared}(I:Inv X a b H s):interactive X.env=false:=by simp[interactive,I.ok.kind]
def jY(y:TE):TS:=fun D a H=>y a H fun _ b=>D.nx a b
theorem aN(f:PE X e y)(hs:swapsWith e none z.line X.env=pure false:=by rfl):PS X (.Expr e z) (jY y):=by intro a s b H D I h;exact wpAny_Expr_any (cj (f a s b H _ I h) fun v j ⟨x,c,d,i,g⟩=>⟨b,c,d,g⟩) I.quiet hs
def rE(y:TE):TS:=fun D a H=>y a H D.rt
theorem ay(f:PE X e y):PS X (.Return (some e) z) (rE y):=by intro a s b H D I h;exact wpAny_Return_some (cj (f a s b H _ I h) fun v j ⟨x,c,d,i,g⟩=>⟨x,b,c,d,i,g⟩)
def nB:TS:=fun D _ H=>D.rt .ba H
theorem JM:PS X (.Return none z) nB:=fun _ _ a H _ I h=>wpAny_Return_none ⟨.ba,a,H,I,rfl,h⟩
def rX(c:TT)(t u:TS):TS:=fun D a H=>c a H fun b d=>if b=true then t D a d else u D a d
theorem aK{c:Expr}{a b:List Stmt}{m:TT}(hc:PT X c m)(ha:wH X a t)(n:wH X b u):PS X (.If c a b z) (rX m t u):=by
 intro f s g H D I h;refine wpAny_If (cj (hc f s g H _ I h) fun d l ⟨i,j,k⟩=>?_);cases d with
 | true=>exact ha f l g i D j k
 | false=>exact n f l g i D j k
def LY:TS:=fun _ _ _=>False
theorem Ih:PS X r LY:=fun _ _ _ _ _ _ h=>h.elim
end
abbrev TG:=V->St->Hp->(St->Hp->Prop)->Prop
abbrev K8:=List V->St->Hp->(St->Hp->Prop)->Prop
def PG(X:Cx)(a:Expr)(t:TG):Prop:=∀ (b:List (Addr×Obj)) (s:Shared) (e:St) (H:Hp) (v:V) (u:Value) (Q:St->Hp->Prop),Inv X b e H s->RelV v u->t v e H Q -> wpAny (model X.prog X.w) X.A (assign a X.env u) (fun _ s'=>∃ c d,Inv X b c d s'/\Q c d) X.xe s
def Nw(X:Cx)(e:List Expr)(t:K8):Prop:=∀ (a:List (Addr×Obj)) (s:Shared) (d:St) (H:Hp) (vs:List V) (us:List Value) (Q:St->Hp->Prop),Inv X a d H s->Vals vs us->t vs d H Q -> wpAny (model X.prog X.w) X.A (assignInOrder ((assignEach e X.env).map (·.2)) us) (fun _ s'=>∃ b c,Inv X a b c s'/\Q b c) X.xe s
abbrev Nu:=V->V->Hp->VK->Prop
def Ot(X:Cx)(c:Operator)(t:Nu):Prop:=∀ (a:List (Addr×Obj)) (s:Shared) (b:St) (H:Hp) (x y:V) (v u:Value) (Q:VK),Inv X a b H s->RelV x v->RelV y u->t x y H Q -> wpAny (model X.prog X.w) X.A (inplaceOp c v u) (EP X a b Q) X.xe s
section
variable {X:Cx}{p:Pos}
def jd(i:Nat):TG:=fun v a H Q=>Q (a.set i (some v)) H
theorem cA{i:Nat}{x:Str}(c:X.N.Nodup)(d:X.N[i]?=some x)(hx:Loc X.env.scope x)(hf:X.fn x=true\/X.env.scope.names.lookup x=some .local:=by first | exact .inl rfl | exact .inr rfl | assumption):PG X (.Name x p) (jd i):=by intro a s e H v u Q I r h;exact wpAny_assign_Name (pX I c d hx r (fun s' b=>⟨_,H,b,h⟩) hf)
def NZ:K8:=fun vs a H Q=>vs=[]/\Q a H
def MU(t:TG)(u:K8):K8:=fun vs c H Q=>∃ v r,vs=v::r/\t v c H fun a b=>u r a b Q
theorem DS:Nw X [] NZ:=by intro a s b H vs us Q I r h;obtain⟨e,h⟩:=h;subst e;cases r;exact assignInOrder_nil ⟨b,H,I,h⟩
theorem pS{e:Expr}{b:List Expr}{t:TG}{u:K8}(h1:PG X e t)(h2:Nw X b u)
 (hs:(assignEach (e::b) X.env).map (·.2)=assign e X.env::(assignEach b X.env).map (·.2):=by rfl):Nw X (e::b) (MU t u):=by
 intro a s l H vs us Q I r h;obtain⟨v,m,g,h⟩:=h;subst g;cases r with
 | cons r j=>rw[hs];refine assignInOrder_cons (cj (h1 a s l H _ _ _ I r h) fun _ k ⟨c,d,f,i⟩=>?_);exact h2 a k c d _ _ Q f j i
def NG(K:PySem.W.Frag)(n:Nat)(t:K8):TG:=fun v b H Q=>∃ a xs,v=.ref a/\iJ K H a xs/\xs.length=n/\t xs b H Q
theorem Iq{d:List Expr}{k:Nat}{t:K8}{n:Nat}(hc:X.calm=true)(h:Nw X d t)
 (hn:(assignEach d X.env).length=n:=by rfl) (f:(assignEach d X.env).findIdx? (·.1)=none:=by rfl):PG X (.Tuple d k p) (NG X.K n t):=by
 intro c s i H v u Q I r hw;obtain⟨a,xs,l,q,hl,hw⟩:=hw;subst l;cases r;obtain⟨x,g,w,y⟩:=I.tuple q;refine assign_Tuple_tuple (I.ok.hd hc) w (by simp[hn,<-hl,g.length]) f fun m hx=>?_;have j:Inv X c i H { s with heap:=m }:=I.kept (t':=s.toks) fun b o e=>hx b o (Pr (OY e)) e;exact h c _ i H xs _ Q j (by simpa using g) hw
def pG(c:TE)(g:TG):TS:=fun D a H=>c a H fun x b=>g x a b D.nx
theorem CK{i:Nat}{x:Str}{e:Expr}{c:TE}{a:Pos}(j:X.N.Nodup)(l:X.N[i]?=some x)(hx:Loc X.env.scope x)(k:PE X e c)(hs:swapsWith e (some (.Name x a)) p.line X.env=pure false:=by rfl)(hf:X.fn x=true\/X.env.scope.names.lookup x=some .local:=by first | exact .inl rfl | exact .inr rfl | assumption):
 PS X (.Assign [.Name x a] e p) (pG c (jd i)):=by
 intro b s o H D I h;refine wpAny_Assign_Name (cj (k b s o H _ I h) fun v q ⟨y,d,f,n,m⟩=>?_) hs;exact pX f j l hx n (fun r g=>⟨_,d,g,m⟩) hf
def vd(i:Nat)(d:TE)(e:Nu):TS:=fun D a H=>∃ x,a[i]?=some (some x)/\d a H fun y b=>e x y b fun z c=>D.nx (a.set i (some z)) c
theorem G1{i:Nat}{x:Str}{e:Expr}{B:TE}{n:Operator}{C:Nu}{f:Pos}(P:X.N.Nodup)(t:X.N[i]?=some x)(hx:Loc X.env.scope x)(Q:PE X e B)(T:Ot X n C)(hf:X.fn x=true\/X.env.scope.names.lookup x=some .local:=by first | exact .inl rfl | exact .inr rfl | assumption):
 PS X (.AugAssign (.Name x f) n e p) (vd i B C):=by
 intro a s E H D I h;obtain⟨v,O,h⟩:=h;obtain⟨m,hn,hl⟩:=I.loc;have o:Kf X.env.scope x:=by rcases hx with k | k;exact .inl k;exact .inr (.inl k)
 obtain⟨u,r,l⟩:=hl i x v t O o;refine wpAny_AugAssign_Name ?_;have q:wpAny (model X.prog X.w) X.A (eval e X.env) (fun w g=>wpAny (model X.prog X.w) X.A (inplaceOp n u w) (fun r j=>wpAny (model X.prog X.w) X.A (storeName X.env x r) (fun _=>SP X a D .next) X.xe j) X.xe g) X.xe s:=by refine cj (Q a s E H _ I h) fun w s1 ⟨y,F,J,Y,U⟩=>?_;refine cj (T a s1 E F v y u w _ J r Y U) fun z s2 ⟨zv,G,L,Z,W⟩=>?_;exact pX L P t hx Z (fun s3 M=>⟨_,G,M,W⟩) hf
 rcases l with⟨b,R⟩ | ⟨b,c,hc,d⟩;.exact Sv I.ok.kind b hn R q
 .rcases b with b | b;.exact SN I.ok.kind b hc d q
  .rcases hx with k | k;.have:X.env.scope.names.lookup x=some .free:=b;rw[k]at this;cases this
   .have:X.env.scope.names.lookup x=some .free:=b;rw[k]at this;cases this
def Ka(f:Int->Int->Int):Nu:=fun x y H Q=>∃ i j,x=.int i/\y=.int j/\Q (.int (f i j)) H
theorem Ho:Ot X .Add (Ka fun i j=>i+j):=by intro a s g H x y v u Q I d e h;obtain⟨i,j,b,c,q⟩:=h;subst b c;obtain⟨t,rfl⟩:=d;obtain⟨f,rfl⟩:=e;exact iadd_int ⟨.int _,H,I.tok _,⟨_,rfl⟩,q⟩
end
section
variable {X:Cx}{z:Pos}
def Hm(c:TT)(h:TS):TS:=fun D a H=>∃ W:Nat->St->Hp->Prop,(∃ m,W m a H)/\∀ m a H,W m a H -> c a H fun b f=>if b=true then ∃ N:St->Hp->Prop,(∀ d e,N d e->∃ g,g<m/\W g d e)/\h { D with nx:=N,ct:=N,bk:=D.nx } a f else D.nx a f
theorem eG{c:Expr}{g:List Stmt}{G:TT}{F:TS}(E:PassesOwn (model X.prog X.w) X.A X.env X.xe)(hc:PT X c G)(L:wH X g F):PS X (.While c g [] z) (Hm G F):=by
 intro a s R H D I h;obtain⟨W,⟨M,P⟩,j⟩:=h;refine wpAny_While (codeAny_whileLoop (fun n s'=>∃ k u,Inv X a k u s'/\W n k u) ?_ M ⟨R,H,I,P⟩);rintro n s1 ⟨e,x,J,Q⟩;refine Rc E (cj (hc a s1 e x _ J (j n e x Q)) fun b O ⟨y,B,l⟩=>?_);cases b with
 | true=>
   obtain⟨N,C,l⟩:=l;rw[Oy rfl];refine Rc E (cj (L a O e y _ B l) fun f T m=>?_);cases f with
   | next=>obtain⟨d,i,o,r⟩:=m;obtain⟨q,p,t⟩:=C d i r;exact⟨q,p,d,i,o,t⟩
   | cont=>obtain⟨d,i,o,r⟩:=m;obtain⟨q,p,t⟩:=C d i r;exact⟨q,p,d,i,o,t⟩
   | brk=>exact m
   | ret v=>exact m
 | false=>rw[Ox Pe];exact Ru ⟨e,y,B,l⟩
end
structure It where
 go:Nat->Hp->Prop
 KL:Nat->Hp->V->Hp->Prop
 stop:Nat->Hp->Prop
def vx(X:Cx)(a:List (Addr×Obj))(H:Hp)(b:Addr):Prop:=H b=none/\b≠X.env.locals/\b∉X.fs/\(b∈X.ex\/X.tX.heap.objs.size<=b)/\(∀ x c,X.env.cells.lookup x=some c->c≠b)/\∀ p∈X.pn++a,p.1≠b
theorem Inv.C4{X:Cx}{a:List (Addr×Obj)}{h:St}{H f:Hp}{s:Shared}{b:Addr}(I:Inv X a h H s)(d:s.heap.objs.size<=b)(hn:f b=none):vx X a f b:=by
 refine⟨hn,Q7 (Pb I.lt d),I.Ob d,.inr (O9 I.sz d),fun x c e z=>?_,fun p g z=>?_⟩;.obtain⟨v,q⟩:=I.cell x c e;exact absurd (Pb q.lt (by rw[z];exact d)) (QC _)
 .exact absurd (Pb (OY (I.pin p g).1) (by rw[z];exact d)) (QC _)
structure Turn(P:Program)(w:World)(K:PySem.W.Frag)(tg:Expr)(J:It)(fp:List Addr)(it:Addr)(tn:Nat->Heap->Prop):Prop where
 mem:it∈fp
 obj:∀ i h,tn i h->∀ b∈fp,∃ o,h.get? b=some o/\∀ v,o.data≠.cell v
 keep:∀ i h h',tn i h->(∀ b∈fp,∀ o,h.get? b=some o->h'.get? b=some o)->tn i h'
 item:∀ (X:Cx),X.prog=P->X.w=w->X.K=K->X.calm=true->∀ (i:Nat) (pins:List (Addr×Obj)) (s:Shared) (σ:St) (H:Hp) (E:Value->Shared->Prop),Inv X pins σ H s->(∀ b∈fp,vx X pins H b)->tn i s.heap->J.go i H -> wpAny (model P w) X.A (pyNext (.ref it)) (fun r s1=>∃ u,r=some u /\ wpAny (model P w) X.A (letOwnedTupleGo tg (.ref it) u) (fun _ s2=>∃ x H',Inv X pins σ H' s2/\RelV x u/\J.KL i H x H'/\tn (i+1) s2.heap/\∀ b∈fp,H' b=none) E s1) E s
 done:∀ (X:Cx),X.prog=P->X.w=w->X.K=K->X.calm=true->∀ (i:Nat) (pins:List (Addr×Obj)) (s:Shared) (σ:St) (H:Hp) (E:Value->Shared->Prop),Inv X pins σ H s->(∀ b∈fp,vx X pins H b)->tn i s.heap->J.stop i H -> wpAny (model P w) X.A (pyNext (.ref it)) (fun r s1=>r=none/\Inv X pins σ H s1) E s
 self:∀ (A:Around) (i:Nat) (s:Shared) (Q:Value->Shared->Prop) (E:Value->Shared->Prop),tn i s.heap->Q (.ref it) s->wpAny (model P w) A (pyIter (.ref it)) Q E s
abbrev TI:=St->Hp->(It->Hp->Prop)->Prop
def Nq(X:Cx)(a:List (Addr×Obj))(j:St)(i:Expr)(R:It->Hp->Prop)(d:Value)(g:Shared):Prop:=∃ (f:Addr) (e:List Addr) (h:Nat->Heap->Prop) (J:It) (c:Hp),d=.ref f/\Inv X a j c g/\Turn X.prog X.w X.K i J e f h/\h 0 g.heap/\(∀ b∈e,vx X a c b)/\R J c
def PI(X:Cx)(e b:Expr)(f:TI):Prop:=∀ (a:List (Addr×Obj)) (s:Shared) (c:St) (H:Hp) (R:It->Hp->Prop),Inv X a c H s->f c H R -> wpAny (model X.prog X.w) X.A (eval b X.env) (fun v d=>wpAny (model X.prog X.w) X.A (pyIter v) (Nq X a c e R) X.xe d) X.xe s
theorem Bg{M:Model}{A:Around}{E:Value->Shared->Prop}{s:Shared}{c:Expr}{b:Addr}{u:Value}{o:Obj}{n:String}{vs:Array Value}{Q:Unit->Shared->Prop}(d:s.heap.get? b=some o)(hc:o.cls=.type n)(hd:o.data=.fields vs)
 (hn:["enumerate","zip","dict_itemiterator","dict_reverseitemiterator","odict_iterator","itertools.zip_longest","itertools.pairwise"].contains n=false) (a:Q () s):wpAny M A (letOwnedTupleGo c (.ref b) u) Q E s:=by
 unfold letOwnedTupleGo;cases c<;>first
  | exact OK a
  | (cases u<;>first
      | exact OK a
      | (
        refine Oz (wpAny_load d ?_);rw[hc,hd];show wpAny M A (if (["enumerate","zip","dict_itemiterator","dict_reverseitemiterator","odict_iterator","itertools.zip_longest","itertools.pairwise"].contains n&&vs[0]?==some (rawInt _))=true then _ else _) Q E s;rw[Ox (by intro h;rw[hn,Bool.false_and]at h;cases h)];exact OK a))
def Mn(K:PySem.W.Frag)(a:Addr):It:=⟨fun i H=>∃ xs x,bB K H a xs/\xs[i]?=some x,fun i H x b=>b=H/\∀ xs,bB K H a xs->xs[i]?=some x,fun i H=>∃ xs,bB K H a xs/\xs.length<=i⟩
def MD(K:PySem.W.Frag)(a:Addr):It:=⟨fun i H=>∃ xs x,iJ K H a xs/\xs[i]?=some x,fun i H x b=>b=H/\∀ xs,iJ K H a xs->xs[i]?=some x,fun i H=>∃ xs,iJ K H a xs/\xs.length<=i⟩
def Ku(b:Int)(n:Nat):It:=⟨fun i _=>i<n,fun i H x a=>a=H/\x=.int (b+i),fun i _=>n<=i⟩
theorem GB{P:Program}{w:World}{K:PySem.W.Frag}{tg:Expr}(a l:Addr):Turn P w K tg (Mn K a) [l] l (fun i h=>h.IsListIter l a i) where
 mem:=by simp
 obj:=fun i h f b j=>by
  have e:b=l:=by simpa using j
  subst e;obtain⟨o,e,c,d⟩:=f;exact⟨o,e,fun v z=>by rw[d]at z;cases z⟩
 keep:=fun i h n f k=>f.at fun o e=>k l (by simp) o e
 item:=by intro X D hw C hc i g s L H E I hf f F;subst D hw C;obtain⟨xs,x,q,hx⟩:=F;obtain⟨G,J,p,T⟩:=I.list q;obtain⟨u,Q,U⟩:=J.get hx;obtain⟨r,t,O,y,A,B⟩:=hf l (by simp);refine wpAny_pyNext_list_item f p.isList (x:=u) (by simpa using Q) fun n m Y=>?_;have M:Inv X g L H { s with heap:=n }:=I.turned (t':=s.toks) (fun b o j e=>(Y.2 b j).trans e) r t y A B;obtain⟨o,e,c,d⟩:=id m;exact⟨u,rfl,Bg (s:={ s with heap:=n }) e c d (by decide) ⟨x,H,M,U,⟨rfl,fun ys R=>by rw[I.AV R q];exact hx⟩,m,fun b j=>(hf b j).1⟩⟩
 done:=by intro X D hw C hc i g s L H E I hf f F;subst D hw C;obtain⟨xs,q,hx⟩:=F;obtain⟨G,J,p,T⟩:=I.list q;obtain⟨r,t,O,y,A,B⟩:=hf l (by simp);have hl:=J.length;exact wpAny_pyNext_list_end (I.ok.hd hc) f p.isList (by simp;omega) fun n N=>⟨rfl,I.turned (t':=s.toks) (fun b o j e=>N b o j e) r t y A B⟩
 self:=fun _ _ _ _ _ f h=>wpAny_pyIter_listiter f h
theorem Ck{P:Program}{w:World}{K:PySem.W.Frag}{tg:Expr}(a l:Addr):Turn P w K tg (MD K a) [l] l (fun i h=>h.IsTupleIter l a i) where
 mem:=by simp
 obj:=fun i h f b j=>by
  have e:b=l:=by simpa using j
  subst e;obtain⟨o,e,c,d⟩:=f;exact⟨o,e,fun v z=>by rw[d]at z;cases z⟩
 keep:=fun i h q f k=>f.at fun o e=>k l (by simp) o e
 item:=by intro X F hw D hc i g s L H E I hf f G;subst F hw D;obtain⟨xs,x,r,hx⟩:=G;obtain⟨m,J,p,T⟩:=I.tuple r;obtain⟨u,Q,U⟩:=J.get hx;obtain⟨t,y,O,A,B,C⟩:=hf l (by simp);refine wpAny_pyNext_tuple_item f (show s.heap.IsTuple a m.toArray from p) (x:=u) (by simpa using Q) fun q n Y=>?_;have M:Inv X g L H { s with heap:=q }:=I.turned (t':=s.toks) (fun b o j e=>(Y.2 b j).trans e) t y A B C;obtain⟨o,e,c,d⟩:=id n;exact⟨u,rfl,Bg (s:={ s with heap:=q }) e c d (by decide) ⟨x,H,M,U,⟨rfl,fun ys R=>by rw[I.Fz R r];exact hx⟩,n,fun b j=>(hf b j).1⟩⟩
 done:=by intro X F hw D hc i g s L H E I hf f G;subst F hw D;obtain⟨xs,r,hx⟩:=G;obtain⟨m,J,p,T⟩:=I.tuple r;obtain⟨t,y,O,A,B,C⟩:=hf l (by simp);have hl:=J.length;exact wpAny_pyNext_tuple_end (I.ok.hd hc) f (show s.heap.IsTuple a m.toArray from p) (by simp;omega) fun q N=>⟨rfl,I.turned (t':=s.toks) (fun b o j e=>N b o j e) t y A B C⟩
 self:=fun _ _ _ _ _ f h=>wpAny_pyIter_tupleiter f h
theorem Dq{P:Program}{w:World}{K:PySem.W.Frag}{M:Expr}(c:Addr)(l:Int)(n:Nat):Turn P w K M (Ku l n) [c] c (fun i h=>IsRangeIter h c (l+(i:Nat) * 1) ((n:Int) - (i:Nat)) 1) where
 mem:=by simp
 obj:=fun i h a b f=>by
  have e:b=c:=by simpa using f
  subst e;exact⟨_,a,fun v z=>by have N:Data.fields _=Data.cell v:=z;cases N⟩
 keep:=fun i h j a k=>k c (by simp) _ a
 item:=by intro X y hw x hc i d s C H E I hf a A;subst y hw x;obtain⟨m,p,G,q,r,u⟩:=hf c (by simp);have W:=Walks.range (prog:=X.prog) (w:=X.w) (I.ok.hd hc) c l 1 n;refine W.item i s _ _ A a fun v j B J g L=>?_;obtain⟨t,rfl⟩:=J;have D:Inv X d C H { s with heap:=j,toks:=B }:=I.turned (fun b o f e=>L b o (by simpa using f) e) m p q r u;refine⟨_,rfl,Bg (s:={ s with heap:=j,toks:=B }) (n:="range_iterator") g rfl rfl (by decide) ⟨.int (l+i),H,D,⟨t,?_⟩,⟨rfl,rfl⟩,g,fun b f=>(hf b f).1⟩⟩;rw[Int.mul_one]
 done:=by intro X y hw x hc i d s C H E I hf a A;subst y hw x;obtain⟨m,p,G,q,r,u⟩:=hf c (by simp);exact TY (I.ok.hd hc) a (by have:n<=i:=A;omega) fun j F=>⟨rfl,I.turned (t':=s.toks) (fun b o f e=>F b o f e) m p q r u⟩
 self:=fun _ _ _ _ _ a h=>TZ a h
end L2
namespace L2
open PySem PySem.Spec PyProof.Rows
section
variable {X:Cx}{y:Expr}
def KN(K:PySem.W.Frag)(tl:TE):TI:=fun c H R=>tl c H fun x b=>∃ a,x=.ref a/\(∃ xs,bB K b a xs)/\R (Mn K a) b
def Nj(K:PySem.W.Frag)(tl:TE):TI:=fun c H R=>tl c H fun x b=>∃ a,x=.ref a/\(∃ xs,iJ K b a xs)/\R (MD K a) b
theorem jW{l:Expr}{tl:TE}(hl:PE X l tl):PI X y l (KN X.K tl):=by
 intro c s r H R I h;refine cj (hl c s r H _ I h) fun v f ⟨x,g,d,n,m⟩=>?_;obtain⟨a,e,⟨xs,j⟩,q⟩:=m;subst e;cases n;obtain⟨k,u,p,t⟩:=d.list j;refine Rz p.isList ?_;refine⟨f.heap.objs.size,[f.heap.objs.size],_,_,g,rfl,d.kept (t':=f.toks) fun b o e=>OD _ e,GB a _,⟨_,OU _ rfl,rfl,rfl⟩,fun b i=>?_,q⟩;have e:b=f.heap.objs.size:=by simpa using i
 subst e;exact d.C4 (OE _) (d.de.fresh (OE _))
theorem Cv{l:Expr}{tl:TE}(hl:PE X l tl):PI X y l (Nj X.K tl):=by
 intro c s r H R I h;refine cj (hl c s r H _ I h) fun v d ⟨x,i,f,n,m⟩=>?_;obtain⟨a,e,⟨xs,k⟩,q⟩:=m;subst e;cases n;obtain⟨g,u,p,t⟩:=f.tuple k;refine wpAny_pyIter_tuple (show d.heap.IsTuple a g.toArray from p) ?_;refine⟨d.heap.objs.size,[d.heap.objs.size],_,_,i,rfl,f.kept (t':=d.toks) fun b o e=>OD _ e,Ck a _,⟨_,OU _ rfl,rfl,rfl⟩,fun b j=>?_,q⟩;have e:b=d.heap.objs.size:=by simpa using j
 subst e;exact f.C4 (OE _) (f.de.fresh (OE _))
theorem BJ{d:List (Addr×Obj)}{h:St}{H:Hp}{s:Shared}{R:It->Hp->Prop}{E:Value->Shared->Prop}{a c:Int}{t u v:Tok}{g:Nat}(I:Inv X d h H s)(h1:-(2 ^ 62)<=a)(h2:a<2 ^ 62)(k:-(2 ^ 62)<=c)(l:c<2 ^ 62)
 (q:R (Ku a (c - a).toNat) H):wpAny (model X.prog X.w) X.A (pyIter (.ref s.heap.objs.size)) (Nq X d h y R) E { s with heap:=s.heap.push { cls:=.type "range",data:=.fields #[.int a t,.int c u,.int 1 v] },toks:=g }:=by
 refine wpAny_pyIter_range (IsRange.new ..) (small_one h1 h2 k l) ?_;have f:Inv X d h H { s with heap:=s.heap.push { cls:=.type "range",data:=.fields #[.int a t,.int c u,.int 1 v] },toks:=g }:=I.kept fun b o e=>OD _ e;refine⟨(s.heap.push { cls:=.type "range",data:=.fields #[.int a t,.int c u,.int 1 v] }).objs.size,[(s.heap.push { cls:=.type "range",data:=.fields #[.int a t,.int c u,.int 1 v] }).objs.size],_,_,H,rfl,f.kept (t':=g) fun b o e=>OD _ e,Dq _ a (c - a).toNat,?_,fun b m=>?_,q⟩
 .have i:a+((0:Nat):Int) * 1=a:=by simp
  have j:(((c - a).toNat:Nat):Int) - ((0:Nat):Int)=Builtin.Range.rangeSize a c 1:=by rw[rangeSize_one];split<;>omega
  show IsRangeIter _ _ (a+((0:Nat):Int) * 1) ((((c - a).toNat:Nat):Int) - ((0:Nat):Int)) 1;rw[i,j];exact OU _ rfl
 .have e:b=(s.heap.push { cls:=.type "range",data:=.fields #[.int a t,.int c u,.int 1 v] }).objs.size:=by simpa using m
  subst e;exact f.C4 (OE _) (f.de.fresh (OE _))
def Na(b:TA):TI:=fun c H R=>b c H fun vs a=>∃ j:Int,vs=[.int j]/\-(2 ^ 62)<=j/\j<2 ^ 62/\R (Ku 0 j.toNat) a
def Mu(b:TA):TI:=fun c H R=>b c H fun vs a=>∃ i j:Int,vs=[.int i,.int j]/\(-(2 ^ 62)<=i/\i<2 ^ 62/\-(2 ^ 62)<=j/\j<2 ^ 62)/\R (Ku i (j - i).toNat) a
theorem ET{a:Expr}{f:TA}{p c:Pos}(i:Gl X "range")(k:X.mg "range"=none)(ha:PA X [a] f)(hs:starEach [a] X.env=[(false,eval a X.env)]:=by rfl):PI X y (.Call (.Name "range" p) [a] [] c) (Na f):=by
 intro b s o H R I h;refine Call_ (lK I i k boot_range (Qq (cj (ha c b s o H _ I h) fun us v ⟨vs,u,g,m,d⟩=>?_) hs rfl));obtain⟨j,e,d,l,q⟩:=d;subst e;cases m with
 | cons r n=>cases n;obtain⟨t,rfl⟩:=r;exact call_range_1 (BJ g (by omega) (by omega) d l (by simpa using q))
theorem FH{a b:Expr}{l:TA}{p f:Pos}(n:Gl X "range")(o:X.mg "range"=none)(ha:PA X [a,b] l)(hs:starEach [a,b] X.env=[(false,eval a X.env),(false,eval b X.env)]:=by rfl)(c:starEach [b] X.env=[(false,eval b X.env)]:=by rfl):
 PI X y (.Call (.Name "range" p) [a,b] [] f) (Mu l):=by
 intro d s A H R I h;refine Call_ (lK I n o boot_range (Qq (cj (ha f d s A H _ I h) fun us C ⟨vs,B,m,z,g⟩=>?_) (by rw[hs,c]) (by rw[c];rfl)));obtain⟨i,j,e,⟨g,u,v,w⟩,q⟩:=g;subst e;cases z with
 | cons r k=>
   cases k with
   | cons x k=>cases k;obtain⟨t,rfl⟩:=r;obtain⟨D,rfl⟩:=x;exact call_range_2 (BJ m g u v w q)
def Mq(k:TI)(g:TG)(j:TS):TS:=fun D a H=>k a H fun J f=>∃ W:Nat->Nat->St->Hp->Prop,(∃ m,W 0 m a f)/\∀ i m a H,W i m a H -> (J.stop i H/\D.nx a H)\/(J.go i H/\∃ N:St->Hp->Prop,(∀ c b,N c b->∃ e,e<m/\W (i+1) e c b)/\∀ x b,J.KL i H x b->g x a b fun d h=>j { D with nx:=N,ct:=N,bk:=D.nx } d h)
def vF(a:List Addr)(h:Heap):List (Addr×Obj):=a.filterMap fun b=>(h.get? b).map fun o=>(b,o)
theorem pF{a:List Addr}{h:Heap}{b:Addr}{o:Obj}(c:b∈a)(e:h.get? b=some o):(b,o)∈vF a h:=UJ.mpr ⟨b,c,by rw[e];rfl⟩
theorem Gk{a:List Addr}{h:Heap}{p:Addr×Obj}(f:p∈vF a h):p.1∈a/\h.get? p.1=some p.2:=by
 obtain⟨b,d,e⟩:=UJ.mp f;cases q:h.get? b with
 | none=>rw[q]at e;cases e
 | some o=>rw[q]at e;have c:(b,o)=p:=OQ e;subst c;exact⟨d,q⟩
theorem Inv.pinned{a:List (Addr×Obj)}{h:St}{H:Hp}{s:Shared}{c:List Addr}(I:Inv X a h H s)(hf:∀ b∈c,vx X a H b)(l:∀ b∈c,∃ o,s.heap.get? b=some o/\∀ v,o.data≠.cell v):Inv X (a++vF c s.heap) h H s:=I.D8 fun p m=>(OH.mp m).elim (fun z=>I.pin p (Pl _ z)) fun z=>by obtain⟨g,e⟩:=Gk z;obtain⟨i,j,k,_⟩:=hf p.1 g;obtain⟨o,f,d⟩:=l p.1 g;rw[e]at f;cases f;exact⟨e,i,j,k,d⟩
theorem Inv.qG{pins c:List (Addr×Obj)}{a:St}{H:Hp}{s:Shared}(I:Inv X (pins++c) a H s):Inv X pins a H s:=I.D8 fun p b=>I.pin p (Pl _ (PQ _ b))
theorem ic{q:Expr}{E:List Stmt}{wi:TI}{g:TG}{tb:TS}{a3:Pos}(O:PassesOwn (model X.prog X.w) X.A X.env X.xe)(hc:X.calm=true)(hi:PI X y q wi)(hg:PG X y g)(p:wH X E tb)
 (hs:∀ x,foldedSetIterable q X.env x=pure x:=by intro _;rfl):PS X (.For y q E [] a3) (Mq wi g tb):=by
 intro a s σ H D I h;refine wpAny_For (cj (hi a s σ H _ I h) fun v s1 h1=>cj h1 fun a6 s2 h2=>?_) hs;obtain⟨it,L,tn,J,H2,e,I2,T,a4,f2,W,⟨m0,w0⟩,U⟩:=h2;subst e;have t:∀ {C:Hp},(∀ b∈L,C b=none)->∀ b∈L,vx X a C b:=fun hn b p=>⟨hn b p,(f2 b p).2⟩
 refine codeAny_forLoop_any (fun n s'=>∃ i z C,Inv X a z C s'/\tn i s'.heap/\(∀ b∈L,C b=none)/\W i n z C) ?_ m0 ⟨0,σ,H2,I2,a4,fun b p=>(f2 b p).1,w0⟩;rintro n s3 ⟨i,B,Y,I3,Q,M,w3⟩;rcases U i n B Y w3 with⟨stop,qn⟩ | ⟨go,N,hN,R⟩;.refine Rc O (cj (T.done X rfl rfl rfl hc i a s3 B Y X.xe I3 (t M) Q stop) fun r s4 ⟨hr,I4⟩=>?_);subst hr;exact Ru ⟨B,Y,I4,qn⟩
 .refine Rc O (cj (T.item X rfl rfl rfl hc i a s3 B Y X.xe I3 (t M) Q go) fun r s4 ⟨u,hr,h4⟩=>?_);subst hr;refine Rc O (cj h4 fun _ s5 ⟨x,H5,I5,r5,y5,G,a0⟩=>?_);have Z:=I5.pinned (t a0) (T.obj _ _ G);refine Rc O (cj (hg _ s5 B H5 x u _ Z r5 (R x H5 y5)) fun _ s6 ⟨a5,H6,I6,q6⟩=>?_);refine Rc O (cj (p _ s6 a5 H6 _ I6 q6) fun f s7 F=>?_);have l:∀ {c:St} {j:Hp},Inv X (a++vF L s5.heap) c j s7->N c j->∃ m,m<n/\∃ i z C,Inv X a z C s7/\tn i s7.heap/\(∀ b∈L,C b=none)/\W i m z C:=fun {c j} k P=>by
   obtain⟨m',hm,w7⟩:=hN c j P;refine⟨m',hm,i+1,c,j,k.qG,T.keep _ _ _ G fun b p o e=>(k.pin (b,o) (Pl _ (Pl _ (pF p e)))).1,fun b p=>?_,w7⟩;obtain⟨o,e,d⟩:=T.obj _ _ G b p;exact(k.pin (b,o) (Pl _ (Pl _ (pF p e)))).2.1
  cases f with
  | next=>obtain⟨c,j,k,P⟩:=F;exact l k P
  | cont=>obtain⟨c,j,k,P⟩:=F;exact l k P
  | brk=>obtain⟨c,j,k,F⟩:=F;exact⟨c,j,k.qG,F⟩
  | ret v=>obtain⟨x7,c,j,k,r7,F⟩:=F;exact⟨x7,c,j,k.qG,r7,F⟩
end
theorem jG{K:PySem.W.Frag}{a:Addr}{xs:List V}{g:TG}{n:TS}{D:Ends}{b:St}{H:Hp}(c:Nat->St->Hp->Prop)(o:c 0 b H)(hl:∀ i b H,i<=xs.length->c i b H->bB K H a xs)
 (hs:∀ i x b H,xs[i]?=some x->c i b H->g x b H fun h k=>n { D with nx:=c (i+1),ct:=c (i+1),bk:=D.nx } h k) (hd:∀ b H,c xs.length b H->D.nx b H):
 ∃ W:Nat->Nat->St->Hp->Prop,(∃ m,W 0 m b H)/\∀ i m b H,W i m b H -> ((Mn K a).stop i H/\D.nx b H)\/((Mn K a).go i H/\∃ N:St->Hp->Prop,(∀ f d,N f d->∃ l,l<m/\W (i+1) l f d)/\∀ x d,(Mn K a).KL i H x d->g x b d fun h k=>n { D with nx:=N,ct:=N,bk:=D.nx } h k):=by
 refine⟨fun i m b H=>m=xs.length - i/\i<=xs.length/\c i b H,⟨xs.length,by simp,O1 _,o⟩,?_⟩;rintro i m b H ⟨rfl,r,p⟩;have q:=hl i b H r p;by_cases j:i<xs.length;.refine .inr ⟨⟨xs,xs[i],q,by simp[j]⟩,c (i+1),fun f d s=>⟨xs.length - (i+1),by omega,rfl,j,s⟩,fun x d y=>?_⟩;obtain⟨e,y⟩:=y;subst e;exact hs i x b _ (y xs q) p
 .have e:i=xs.length:=by omega
  subst e;exact .inl ⟨⟨xs,q,OE _⟩,hd b H p⟩
theorem Ey{K:PySem.W.Frag}{a:Addr}{xs:List V}{g:TG}{n:TS}{D:Ends}{b:St}{H:Hp}(c:Nat->St->Hp->Prop)(o:c 0 b H)(hl:∀ i b H,i<=xs.length->c i b H->iJ K H a xs)
 (hs:∀ i x b H,xs[i]?=some x->c i b H->g x b H fun h k=>n { D with nx:=c (i+1),ct:=c (i+1),bk:=D.nx } h k) (hd:∀ b H,c xs.length b H->D.nx b H):
 ∃ W:Nat->Nat->St->Hp->Prop,(∃ m,W 0 m b H)/\∀ i m b H,W i m b H -> ((MD K a).stop i H/\D.nx b H)\/((MD K a).go i H/\∃ N:St->Hp->Prop,(∀ f d,N f d->∃ l,l<m/\W (i+1) l f d)/\∀ x d,(MD K a).KL i H x d->g x b d fun h k=>n { D with nx:=N,ct:=N,bk:=D.nx } h k):=by
 refine⟨fun i m b H=>m=xs.length - i/\i<=xs.length/\c i b H,⟨xs.length,by simp,O1 _,o⟩,?_⟩;rintro i m b H ⟨rfl,r,p⟩;have q:=hl i b H r p;by_cases j:i<xs.length;.refine .inr ⟨⟨xs,xs[i],q,by simp[j]⟩,c (i+1),fun f d s=>⟨xs.length - (i+1),by omega,rfl,j,s⟩,fun x d y=>?_⟩;obtain⟨e,y⟩:=y;subst e;exact hs i x b _ (y xs q) p
 .have e:i=xs.length:=by omega
  subst e;exact .inl ⟨⟨xs,q,OE _⟩,hd b H p⟩
theorem Fh{j:Int}{n:Nat}{g:TG}{o:TS}{D:Ends}{a:St}{H:Hp}(c:Nat->St->Hp->Prop)(q:c 0 a H)
 (hs:∀ i a H,i<n->c i a H->g (.int (j+i)) a H fun h k=>o { D with nx:=c (i+1),ct:=c (i+1),bk:=D.nx } h k) (hd:∀ a H,c n a H->D.nx a H):
 ∃ W:Nat->Nat->St->Hp->Prop,(∃ m,W 0 m a H)/\∀ i m a H,W i m a H -> ((Ku j n).stop i H/\D.nx a H)\/((Ku j n).go i H/\∃ N:St->Hp->Prop,(∀ f b,N f b->∃ l,l<m/\W (i+1) l f b)/\∀ x b,(Ku j n).KL i H x b->g x a b fun h k=>o { D with nx:=N,ct:=N,bk:=D.nx } h k):=by
 refine⟨fun i m a H=>m=n - i/\i<=n/\c i a H,⟨n,by simp,O1 _,q⟩,?_⟩;rintro i m a H ⟨rfl,s,p⟩;by_cases d:i<n;.refine .inr ⟨d,c (i+1),fun f b r=>⟨n - (i+1),by omega,rfl,d,r⟩,fun x b y=>?_⟩;obtain⟨e,y⟩:=y;subst e y;exact hs i a _ d p
 .have e:i=n:=by omega
  subst e;exact .inl ⟨OE _,hd a H p⟩
end L2
namespace L2
open PySem PySem.Spec PyProof.Rows
abbrev R2:=V->V->Hp->VK->Prop
def pb(X:Cx)(f:Value->Value->Sem Value)(r:R2):Prop:=∀ (a:List (Addr×Obj)) (s:Shared) (b:St) (H:Hp) (x y:V) (v u:Value) (Q:VK),Inv X a b H s->RelV x v->RelV y u->r x y H Q -> wpAny (model X.prog X.w) X.A (f v u) (EP X a b Q) X.xe s
def N1(X:Cx)(f:Value->Sem Value)(r:V->Hp->VK->Prop):Prop:=∀ (a:List (Addr×Obj)) (s:Shared) (b:St) (H:Hp) (x:V) (v:Value) (Q:VK),Inv X a b H s->RelV x v->r x H Q -> wpAny (model X.prog X.w) X.A (f v) (EP X a b Q) X.xe s
def jI(X:Cx)(f:Value)(r:List V->Hp->VK->Prop):Prop:=∀ (a:List (Addr×Obj)) (s:Shared) (b:St) (H:Hp) (xs:List V) (us:List Value) (Q:VK),Inv X a b H s->Vals xs us->r xs H Q -> wpAny (model X.prog X.w) X.A (call f us) (EP X a b Q) X.xe s
def Cg(r:R2)(d e:TE):TE:=fun a H Q=>d a H fun x b=>e a b fun y c=>r x y c Q
def GX(r:V->Hp->VK->Prop)(b:TE):TE:=fun c H Q=>b c H fun x a=>r x a Q
def rI(C:Int->Int->Prop)(g:Int->Int->V):R2:=fun x y H Q=>∃ i j,x=.int i/\y=.int j/\C i j/\Q (g i j) H
def yb(g:Int->Int->V):R2:=fun x y H Q=>∃ i j,x=.int i/\y=.int j/\Q (g i j) H
def rU(g:Int->V):V->Hp->VK->Prop:=fun x H Q=>∃ i,x=.int i/\Q (g i) H
section
variable {X:Cx}{a b c:Expr}{z o n:TE}{p:Pos}
theorem KZ(ha:PE X a z)(r:PE X b o){d:List (Addr×Obj)}{s:Shared}{g:St}{H:Hp}{R:V->V->Hp->Prop}(I:Inv X d g H s)
 (h:z g H fun x l=>o g l fun y e=>R x y e) {Q:Value->Shared->Prop} {f:Value->Value->Sem Value}
 (hf:∀ v u k x y e,Inv X d g e k->RelV x v->RelV y u->R x y e->wpAny (model X.prog X.w) X.A (f v u) Q X.xe k):
 wpAny (model X.prog X.w) X.A (eval a X.env) (fun v i=>wpAny (model X.prog X.w) X.A (eval b X.env) (fun u j=>wpAny (model X.prog X.w) X.A (f v u) Q X.xe j) X.xe i) X.xe s:=by
 refine cj (ha d s g H _ I h) fun v E ⟨x,l,m,C,t⟩=>?_;refine cj (r d E g l _ m t) fun u k ⟨y,e,q,D,B⟩=>?_;exact hf v u k x y e q C D B
theorem aS{e:Operator}{r:R2}(j:pb X (binaryOp e) r)(ha:PE X a z)(i:PE X b o):PE X (.BinOp a e b p) (Cg r z o):=by intro d s t H Q I h;exact wpAny_BinOp (KZ ha i I h fun v u m x y f g k l q=>j d m t f x y v u Q g k l q)
theorem eK{e:UnaryOp}{r:V->Hp->VK->Prop}(j:N1 X (unaryOp e) r)(ha:PE X a z):PE X (.UnaryOp e a p) (GX r z):=by intro d s f H Q I h;exact UnaryOp_ (cj (ha d s f H _ I h) fun v m ⟨x,g,i,l,k⟩=>j d m f g x v Q i l k)
theorem Kj{f:Value->Value->Sem Value}{C:Int->Int->Prop}{g:Int->Int->Int}
 (d:∀ (i j:Int) (t u:Tok) (s:Shared) (Q:Value->Shared->Prop) (E:Value->Shared->Prop),C i j->Q (.int (g i j) s.toks) { s with toks:=s.toks+1 }->wpAny (model X.prog X.w) X.A (f (.int i t) (.int j u)) Q E s):
 pb X f (rI C fun i j=>.int (g i j)):=by
 intro e s r H x y v u Q I k l h;obtain⟨i,j,rfl,rfl,hc,q⟩:=h;obtain⟨t,rfl⟩:=k;obtain⟨m,rfl⟩:=l;exact d i j t m s _ _ hc ⟨.int (g i j),H,I.tok _,⟨_,rfl⟩,q⟩
theorem Mg{f:Value->Value->Sem Value}{g:Int->Int->Int}
 (d:∀ (i j:Int) (t u:Tok) (s:Shared) (Q:Value->Shared->Prop) (E:Value->Shared->Prop),Q (.int (g i j) s.toks) { s with toks:=s.toks+1 }->wpAny (model X.prog X.w) X.A (f (.int i t) (.int j u)) Q E s):
 pb X f (yb fun i j=>.int (g i j)):=by
 intro e s r H x y v u Q I k l h;obtain⟨i,j,rfl,rfl,q⟩:=h;obtain⟨t,rfl⟩:=k;obtain⟨m,rfl⟩:=l;exact d i j t m s _ _ ⟨.int (g i j),H,I.tok _,⟨_,rfl⟩,q⟩
theorem JY{f:Value->Value->Sem Value}{g:Int->Int->Bool}
 (d:∀ (i j:Int) (t u:Tok) (s:Shared) (Q:Value->Shared->Prop) (E:Value->Shared->Prop),Q (.bool (g i j)) s->wpAny (model X.prog X.w) X.A (f (.int i t) (.int j u)) Q E s):
 pb X f (yb fun i j=>.bl (g i j)):=by
 intro e s r H x y v u Q I k l h;obtain⟨i,j,rfl,rfl,q⟩:=h;obtain⟨t,rfl⟩:=k;obtain⟨m,rfl⟩:=l;exact d i j t m s _ _ ⟨.bl (g i j),H,I,rfl,q⟩
def Mp(i j:Int):Prop:=0<j/\j<1073741824
def Mr(i j:Int):Prop:=0<=j/\j<=1000000/\i.natAbs<2 ^ 64
def LL(i j:Int):Prop:=(-(2 ^ 64)<i/\i<2 ^ 64)\/(-(2 ^ 64)<j/\j<2 ^ 64)
theorem LL.ok{i j:Int}(h:LL i j):IntMulOk i j:=by
 rcases h with⟨h1,h2⟩ | ⟨h1,h2⟩;.exact .of_left (intBits_le_64 h1 h2)
 .exact .of_right (intBits_le_64 h1 h2)
theorem Cu(k:Nat):(0:Int)<=2 ^ k:=by rw[two_pow_cast];exact Int.natCast_nonneg _
theorem cE:pb X (binaryOp .Add) (yb fun i j=>.int (i+j)):=Mg fun _ _ _ _ _ _ _ q=>add_int q
theorem gS:pb X (binaryOp .Sub) (yb fun i j=>.int (i - j)):=Mg fun _ _ _ _ _ _ _ q=>sub_int q
theorem rG:pb X (binaryOp .Mult) (rI LL fun i j=>.int (i * j)):=Kj fun _ _ _ _ _ _ _ hc q=>mul_int q hc.ok
theorem ui:pb X (binaryOp .FloorDiv) (rI Mp fun i j=>.int (i / j)):=Kj fun i j _ _ _ _ _ hc q=>by have h1:(0:Int)<j:=hc.1;have h2:j<1073741824:=hc.2;exact floordiv_int (by omega) (by rw[RM i (by omega)];exact q) (.inl (T1 (by omega)))
theorem oZ:pb X (binaryOp .Mod) (rI (fun _ j=>0<j) fun i j=>.int (i % j)):=Kj fun i j _ _ _ _ _ hc q=>by have h1:(0:Int)<j:=hc;exact mod_int' (by omega) (by rw[Int.fmod_eq_emod_of_nonneg i (by omega)];exact q)
theorem Lj:pb X (binaryOp .Pow) (rI Mr fun i j=>.int (i ^ j.toNat)):=Kj fun _ _ _ _ _ _ _ hc q=>pow_int_small hc.1 hc.2.1 hc.2.2 q
theorem IS:pb X (binaryOp .LShift) (rI Mr fun i j=>.int (i * 2 ^ j.toNat)):=Kj fun _ _ _ _ _ _ _ hc q=>lshift_int_small hc.1 hc.2.1 hc.2.2 q
theorem nc:pb X (binaryOp .RShift) (rI (fun _ j=>0<=j) fun i j=>.int (i / 2 ^ j.toNat)):=Kj fun i j _ _ _ _ _ hc q=>rshift_int hc (by rw[RM i (Cu _)];exact q)
theorem ze:pb X (binaryOp .BitAnd) (yb fun i j=>.int (Builtin.bitAnd i j)):=Mg fun _ _ _ _ _ _ _ q=>and_int q
theorem Ou{f:Value->Sem Value}{g:Int->Int}
 (d:∀ (i:Int) (t:Tok) (s:Shared) (Q:Value->Shared->Prop) (E:Value->Shared->Prop),Q (.int (g i) s.toks) { s with toks:=s.toks+1 }->wpAny (model X.prog X.w) X.A (f (.int i t)) Q E s):
 N1 X f (rU fun i=>.int (g i)):=by
 intro e s k H x v Q I j h;obtain⟨i,rfl,q⟩:=h;obtain⟨t,rfl⟩:=j;exact d i t s _ _ ⟨.int (g i),H,I.tok _,⟨_,rfl⟩,q⟩
theorem cR:N1 X (unaryOp .USub) (rU fun i=>.int (-i)):=Ou fun _ _ _ _ _ q=>neg_int q
end
def tA:V->V->Bool
 | .ba,.ba=>true | .ba,.int _=>true | .int _,.ba=>true | .ba,.bl _=>true | .bl _,.ba=>true | .ba,.str _=>true | .str _,.ba=>true
 | .int _,.int _=>true | .bl _,.bl _=>true | .str _,.str _=>true | .byt _,.byt _=>true
 | .int _,.str _=>true | .str _,.int _=>true | .bl _,.str _=>true | .str _,.bl _=>true
 | _,_=>false
def Ht:R2:=fun x y H Q=>tA x y=true/\Q (.bl (decide (x=y))) H
def GQ:R2:=fun x y H Q=>tA x y=true/\Q (.bl (!decide (x=y))) H
theorem Ep{i j:Int}:decide (V.int i=V.int j)=(i==j):=by rw[Qb];simp
theorem GK{i j:Bool}:decide (V.bl i=V.bl j)=(i==j):=by rw[Qb];simp
theorem D2{i j:Str}:decide (V.str i=V.str j)=(i==j):=by rw[Qb];simp
theorem DK{i j:Array UInt8}:decide (V.byt i=V.byt j)=(i.toList==j.toList):=by rw[Qb];cases i;cases j;simp
section
variable {X:Cx}{a b c:Expr}{p w n:TE}{o:Pos}
theorem bP{d:List (Addr×Obj)}{g:St}{H:Hp}{s:Shared}{Q:VK}{k f:Bool}(I:Inv X d g H s)(q:Q (.bl k) H)(e:k=f):EP X d g Q (.bool f) s:=by subst e;exact⟨.bl k,H,I,rfl,q⟩
theorem aV:pb X (compareOp .Eq) Ht:=by
 intro g s k H x y v u Q I f d h;obtain⟨hs,q⟩:=h;cases x with
 | ba=>
   cases f;cases y with
   | ba=>cases d;exact PySem.EqNone.eq_none_none (bP I q (by simp))
   | bl j=>cases d;exact PySem.EqNone.eq_none_bool (bP I q (by simp))
   | int j=>obtain⟨e,rfl⟩:=d;exact PySem.EqNone.eq_none_int (bP I q (by simp))
   | str j=>obtain⟨e,rfl⟩:=d;exact PySem.EqNone.eq_none_str (bP I q (by simp))
   | _=>exact absurd (show false=true from hs) Pe
 | bl i=>
   cases f;cases y with
   | ba=>cases d;exact PySem.EqNone.eq_bool_none (bP I q (by simp))
   | bl j=>cases d;exact eq_bool (bP I q GK)
   | str j=>obtain⟨e,rfl⟩:=d;exact PySem.EqMixed.eq_bool_str (bP I q (by simp))
   | _=>exact absurd (show false=true from hs) Pe
 | int i=>
   obtain⟨t,rfl⟩:=f;cases y with
   | ba=>cases d;exact PySem.EqNone.eq_int_none (bP I q (by simp))
   | int j=>obtain⟨e,rfl⟩:=d;exact eq_int (bP I q Ep)
   | str j=>obtain⟨e,rfl⟩:=d;exact PySem.EqMixed.eq_int_str (bP I q (by simp))
   | _=>exact absurd (show false=true from hs) Pe
 | str i=>
   obtain⟨t,rfl⟩:=f;cases y with
   | ba=>cases d;exact PySem.EqNone.eq_str_none (bP I q (by simp))
   | bl j=>cases d;exact PySem.EqMixed.eq_str_bool (bP I q (by simp))
   | int j=>obtain⟨e,rfl⟩:=d;exact PySem.EqMixed.eq_str_int (bP I q (by simp))
   | str j=>obtain⟨e,rfl⟩:=d;exact eq_str (bP I q D2)
   | _=>exact absurd (show false=true from hs) Pe
 | byt i=>
   obtain⟨t,rfl⟩:=f;cases y with
   | byt j=>obtain⟨e,rfl⟩:=d;exact PySem.W.eq_bytes (bP I q DK)
   | _=>exact absurd (show false=true from hs) Pe
 | _=>cases y<;>exact absurd (show false=true from hs) Pe
theorem je:pb X (compareOp .NotEq) GQ:=by
 intro g s k H x y v u Q I f d h;obtain⟨hs,q⟩:=h;cases x with
 | ba=>
   cases f;cases y with
   | ba=>cases d;exact PySem.EqNone.ne_none_none (bP I q (by simp))
   | bl j=>cases d;exact PySem.EqNone.ne_none_bool (bP I q (by simp))
   | int j=>obtain⟨e,rfl⟩:=d;exact PySem.EqNone.ne_none_int (bP I q (by simp))
   | str j=>obtain⟨e,rfl⟩:=d;exact PySem.EqNone.ne_none_str (bP I q (by simp))
   | _=>exact absurd (show false=true from hs) Pe
 | bl i=>
   cases f;cases y with
   | ba=>cases d;exact PySem.EqNone.ne_bool_none (bP I q (by simp))
   | bl j=>cases d;exact ne_bool (bP I q (Pw not GK))
   | str j=>obtain⟨e,rfl⟩:=d;exact PySem.EqMixed.ne_bool_str (bP I q (by simp))
   | _=>exact absurd (show false=true from hs) Pe
 | int i=>
   obtain⟨t,rfl⟩:=f;cases y with
   | ba=>cases d;exact PySem.EqNone.ne_int_none (bP I q (by simp))
   | int j=>obtain⟨e,rfl⟩:=d;exact ne_int (bP I q (Pw not Ep))
   | str j=>obtain⟨e,rfl⟩:=d;exact PySem.EqMixed.ne_int_str (bP I q (by simp))
   | _=>exact absurd (show false=true from hs) Pe
 | str i=>
   obtain⟨t,rfl⟩:=f;cases y with
   | ba=>cases d;exact PySem.EqNone.ne_str_none (bP I q (by simp))
   | bl j=>cases d;exact PySem.EqMixed.ne_str_bool (bP I q (by simp))
   | int j=>obtain⟨e,rfl⟩:=d;exact PySem.EqMixed.ne_str_int (bP I q (by simp))
   | str j=>obtain⟨e,rfl⟩:=d;exact ne_str (bP I q (Pw not D2))
   | _=>exact absurd (show false=true from hs) Pe
 | byt i=>
   obtain⟨t,rfl⟩:=f;cases y with
   | byt j=>obtain⟨e,rfl⟩:=d;exact PySem.W.ne_bytes (bP I q (Pw not DK))
   | _=>exact absurd (show false=true from hs) Pe
 | _=>cases y<;>exact absurd (show false=true from hs) Pe
theorem gV:pb X (compareOp .Lt) (yb fun i j=>.bl (decide (i<j))):=JY fun _ _ _ _ _ _ _ q=>lt_int q
theorem ja:pb X (compareOp .LtE) (yb fun i j=>.bl (decide (i<=j))):=JY fun _ _ _ _ _ _ _ q=>le_int q
theorem hW:pb X (compareOp .Gt) (yb fun i j=>.bl (decide (j<i))):=JY fun _ _ _ _ _ _ _ q=>gt_int q
theorem KU:pb X (compareOp .GtE) (yb fun i j=>.bl (decide (j<=i))):=JY fun _ _ _ _ _ _ _ q=>ge_int q
theorem aE(b:Expr){d:CmpOp}(h:d≠.In:=by decide)(h2:d≠.NotIn:=by decide):behindInMarks d b=false:=by
 have e:(d==CmpOp.In)=false:=by cases d<;>first | rfl | exact absurd rfl h
 have f:(d==CmpOp.NotIn)=false:=by cases d<;>first | rfl | exact absurd rfl h2
 cases b<;>simp[behindInMarks,e,f]
theorem ck{e:CmpOp}{r:R2}(k:pb X (compareOp e) r)(ha:PE X a p)(i:PE X b w)(j:behindInMarks e b=false):PE X (.Compare a [e] [b] o) (Cg r p w):=by intro d s z H Q I h;exact wpAny_Compare1 (KZ ha i I h fun v u t x y f g l m q=>k d t z f x y v u Q g l m q) j
def mq(t:TE):TT:=fun e H Q=>t e H fun x d=>∃ k,x=.bl k/\Q k d
theorem aC{f:CmpOp}{r:R2}(C:pb X (compareOp f) r)(ha:PE X a p)(A:PE X b w)(B:behindInMarks f b=false):PT X (.Compare a [f] [b] o) (mq (Cg r p w)):=by intro d s g H Q I h;refine Si (cj (ha d s g H _ I h) fun v M ⟨x,i,m,G,D⟩=>cj (A d M g i _ m D) fun u N ⟨y,j,q,J,E⟩=>cj (C d N g j x y v u _ q G J E) fun c O ⟨z,l,t,L,k,e,F⟩=>?_) B;subst e;cases L;exact Qi ⟨l,t,F⟩
def iR(r i:R2)(p w n:TE):TE:=fun d H Q=>p d H fun x f=>w d f fun y g=>r x y g fun z e=>∃ k,z=.bl k /\ (if k=true then n d e fun j h=>i y j h Q else Q (.bl false) e)
theorem pQ{l g:CmpOp}{r A:R2}(N:pb X (compareOp l) r)(j:pb X (compareOp g) A)(ha:PE X a p)(L:PE X b w)(hc:PE X c n)
 (M:lastMarks [l,g] [b,c]=false:=by with_unfolding_all rfl):PE X (.Compare a [l,g] [b,c] o) (iR r A p w n):=by
 intro f s i H Q I h;refine Compare_chain (cj (ha f s i H _ I h) fun v Y ⟨x,C,F,T,O⟩=>chain_link (cj (L f Y i C _ F O) fun u Z ⟨y,D,G,B,P⟩=>cj (N f Z i D x y v u _ G T B P) fun d s3 ⟨z,m,q,U,k,e,t⟩=>?_)) M;subst e;cases U;refine Qi ?_;cases k with
 | false=>exact ite_ff ⟨.bl false,m,q,rfl,t⟩
 | true=>exact ite_tt (chain_last (cj (hc f s3 i m _ q t) fun w' s4 ⟨z',E,J,W,R⟩=>j f s4 i E y z' u w' Q J B W R))
theorem kR{l g:CmpOp}{r A:R2}(T:pb X (compareOp l) r)(j:pb X (compareOp g) A)(ha:PE X a p)(P:PE X b w)(hc:PE X c n)
 (R:lastMarks [l,g] [b,c]=false:=by with_unfolding_all rfl):PT X (.Compare a [l,g] [b,c] o) (mq (iR r A p w n)):=by
 intro f s i H Q I h;refine isTrue_chain (cj (ha f s i H _ I h) fun v s1 ⟨x,C,G,r1,W⟩=>test_link (cj (P f s1 i C _ G W) fun u s2 ⟨y,D,J,B,Y⟩=>cj (T f s2 i D x y v u _ J r1 B Y) fun d s3 ⟨z,m,q,r3,k,e,t⟩=>?_)) R;subst e;cases r3;refine Qi ?_;cases k with
 | false=>obtain⟨k',N,U⟩:=t;cases N;exact ite_ff ⟨m,q,U⟩
 | true=>refine ite_tt (test_last (cj (hc f s3 i m _ q t) fun w' s4 ⟨z',E,L,r4,Z⟩=>cj (j f s4 i E y z' u w' _ L B r4 Z) fun d' s5 ⟨z2,F,M,r5,k2,O,q5⟩=>?_));subst O;cases r5;exact Qi ⟨F,M,q5⟩
theorem uW:(sizeLine:Nat)<2 ^ 63:=by rw[T2];decide
theorem pB:pb X (binaryOp .Add) (fun x y H Q=>∃ i j,x=.str i/\y=.str j/\i.length+j.length<=sizeLine/\Q (.str (i++j)) H):=by intro d s m H x y v u Q I f g h;obtain⟨i,j,rfl,rfl,e,q⟩:=h;obtain⟨t,rfl⟩:=f;obtain⟨k,rfl⟩:=g;exact add_str (fun k l=>⟨.str (i++j),H,I.tok _,⟨_,rfl⟩,q⟩) e
theorem vals1{x:V}{us:List Value}(r:Vals [x] us):∃ u,us=[u]/\RelV x u:=by
 cases r with
 | cons d e=>cases e;exact⟨_,rfl,d⟩
theorem vals2{x y:V}{us:List Value}(r:Vals [x,y] us):∃ u d,us=[u,d]/\RelV x u/\RelV y d:=by
 cases r with
 | cons e f=>
   cases f with
   | cons g h=>cases h;exact⟨_,_,rfl,e,g⟩
theorem FJ(hc:X.calm=true):jI X (.builtin "max") (fun xs H Q=>∃ i j,xs=[.int i,.int j]/\Q (.int (if j>i then j else i)) H):=by
 intro e s v H xs us Q I r h;obtain⟨i,j,rfl,q⟩:=h;obtain⟨u,m,rfl,⟨t,rfl⟩,⟨g,rfl⟩⟩:=vals2 r;refine max_two_ints (I.ok.hd hc) fun f l k=>⟨_,H,I.kept k,?_,q⟩
 by_cases d:j>i;.rw[Oy d,Oy d];exact⟨_,rfl⟩
 .rw[Ox d,Ox d];exact⟨_,rfl⟩
theorem E6(hc:X.calm=true):jI X (.builtin "min") (fun xs H Q=>∃ i j,xs=[.int i,.int j]/\Q (.int (if j<i then j else i)) H):=by
 intro e s v H xs us Q I r h;obtain⟨i,j,rfl,q⟩:=h;obtain⟨u,m,rfl,⟨t,rfl⟩,⟨g,rfl⟩⟩:=vals2 r;refine min_two_ints (I.ok.hd hc) fun f l k=>⟨_,H,I.kept k,?_,q⟩
 by_cases d:j<i;.rw[Oy d,Oy d];exact⟨_,rfl⟩
 .rw[Ox d,Ox d];exact⟨_,rfl⟩
theorem lp:jI X (.type "str") (fun xs H Q=>∃ i,xs=[.int i]/\i.natAbs.log2<1920/\Q (.str (toString i)) H):=by intro d s f H xs us Q I r h;obtain⟨i,rfl,e,q⟩:=h;obtain⟨u,rfl,t,rfl⟩:=vals1 r;exact PySem.P.str_of_int e ⟨.str _,H,I.tok _,⟨_,rfl⟩,q⟩
theorem Bq:jI X (.builtin "ord") (fun xs H Q=>∃ x,xs=[.str x]/\x.length=1/\Q (.int (x.cps.getD 0 0:Nat)) H):=by intro d s f H xs us Q I r h;obtain⟨x,rfl,e,q⟩:=h;obtain⟨u,rfl,t,rfl⟩:=vals1 r;exact ord_of_one e ⟨.int _,H,I.tok _,⟨_,rfl⟩,q⟩
end
end L2
namespace L2
open PySem PySem.Spec PyProof.Rows
structure De(h:Heap)(x dx C:Addr)(mA:Str->Option Value):Prop where
 obj:h.get? x=some (PySem.W.instObj C dx)
 ns:h.Ns1 dx mA
 ne:dx≠x
theorem F8{h:Heap}{c:Addr}{f:Str->Option Value}(n:h.Ns1 c f):∃ g,h.get? c=some g/\∀ name,PySem.W.lookIn name g=some (f name):=by
 obtain⟨o,d,p,l,hd,j,_,k⟩:=n;refine⟨o,l,fun name=>?_⟩;have e:=k name;unfold nsFind findBy at e;rw[<-Array.find?_toList]at e;unfold PySem.W.lookIn;rw[hd];dsimp only;split;.rename_i y q;rw[q]at e;exact Pw some e
 .rename_i q;rw[q]at e;have a:d.toList.any (·.refKey)=false:=by
   rw[List.any_eq_false];intro y m;obtain⟨z,t,b⟩:=j y (Array.mem_toList_iff.mp m);simp[DictEntry.refKey,b]
  have i:¬ d.toList.any (·.refKey)=true:=by rw[a];exact Pe
  rw[Ox i];exact Pw some e
theorem De.look{h:Heap}{x b C:Addr}{c:Str->Option Value}(I:De h x b C c):∃ a,PySem.W.InstAt h x (PySem.W.instObj C b) C (some a)/\∀ name,PySem.W.lookIn name a=some (c name):=
 let ⟨a,d,hl⟩:=F8 I.ns
 ⟨a,⟨I.obj,rfl,rfl,d⟩,hl⟩
section
variable {prog:Program}{w:World}{A:Around}{E:Value->Shared->Prop}{s:Shared}{K:PySem.W.Frag}{x q C f:Addr}{u:Str->Option Value}{z:Str}{v:Value}
theorem get_map{a:Bool}{Q:Value->Shared->Prop}(X:K.In s.heap)(I:De s.heap x q C u)(c:PySem.W.plainGet K C z=true)(d:PySem.W.hasDictIn K C=true)
 (ha:PySem.W.findIn K (.ref C) z=some none) (e:u z=some v) (b:PySem.W.handedIn v=true) (h:Q v { s with toks:=s.toks+1 }):
 wpAny (model prog w) A (getAttr (.ref x) z a) Q E s:=by
 obtain⟨g,J,hl⟩:=I.look;exact PySem.W.get_value X J (SO c).1 (PySem.W.findObj_own d ha rfl (by rw[hl,e])) b h
theorem GZ{e:Sem Bool}{Q:Value×List Value->Shared->Prop}(X:K.In s.heap)(I:De s.heap x q C u)(a:PySem.W.plainGet K C z=true)
 (hf:PySem.W.findIn K (.ref C) z=some (some (.ref f))) (b:PySem.W.isFn K (.ref f)=true) (c:u z=none) (h:Q (.ref f,[.ref x]) s):
 wpAny (model prog w) A (getMethod (.ref x) z e) Q E s:=by
 obtain⟨d,J,hl⟩:=I.look;exact PySem.W.method_fn X J (SO a).1 (SO a).2 hf (RJ.mp b) (by show(PySem.W.lookIn z d).map (·.isSome)=some false;rw[hl,c];rfl) h
theorem JI{l:List Str}{Q:Unit->Shared->Prop}(X:K.In s.heap)(I:De s.heap x q C u)
 (hs:PySem.W.findIn K (.ref C) "__setattr__"=some (some (.builtin "object.__setattr__"))) (p:PySem.W.plainOver K C=true) (B:PySem.W.takerIn K C z=some none) (o:PySem.W.hasDictIn K C=true)
 (hw:PySem.Within u l) (t:l.length<=sizeLine)
 (h:∀ e,De e x q C (fun y=>if y=z then some v else u y)->Heap.SameBut q s.heap e->Q () { s with heap:=e,toks:=s.toks+2 }):
 wpAny (model prog w) A (setAttr (.ref x) z v) Q E s:=by
 obtain⟨G,J,hl⟩:=I.look;refine PySem.W.set_plain X J hs (PySem.W.osa_open (s:={ s with toks:=s.toks+1 }) (r:=none) X J p B fun b=>?_);obtain⟨D,hc,i⟩:=PySem.W.any_some o;have hx:s.heap.get? x=some ⟨.ref C,some q,.plain,#[]⟩:=I.obj;refine Oz (OK (Oz (Oz (wpAny_loadPart hx (Oz (PySem.W.Looks.here (s:={ s with toks:=s.toks+1 }) (PySem.W.looks_clsIn X hc) ?_))))));rw[i];refine OK (a:=some q) (Oz (OK (Oz ?_)));refine wpAny_nsSet1 (s:={ s with toks:=s.toks+1 }) I.ns fun e c d=>?_;obtain⟨F,n,m,k,j,g⟩:=c.count (PySem.Within.cons z v hw);refine Oz (wpAny_lookBehind k (by rw[j];exact pastItsLine_dict (O9 g (by rw[OB];omega))) ?_);exact OK (h _ ⟨(d.2 _ (OL I.ne)).trans I.obj,c,I.ne⟩ d)
theorem IB{R:Result->Shared->Prop}{vs:List Value}{a:List (Str×Value)}(X:K.In s.heap)(c:PySem.W.makesIn K C=true)
 (b:PySem.W.findIn K (.ref C) "__init__"=some (some (.ref f))) (hf:PySem.W.typeIn K (.ref f)=some (.type "function"))
 (h:codeAny (model prog w) (A.under (.builtin "type.__call__" ⟨.ref C::vs,a⟩)) (.call (.ref f) ⟨.ref (s.heap.objs.size+1)::vs,a⟩) (PySem.W.InitBack (s.heap.objs.size+1) R) { s with heap:=(s.heap.push PySem.W.emptyDict).push (PySem.W.instObj C s.heap.objs.size) }):
 codeAny (model prog w) A (.call (.ref C) ⟨vs,a⟩) R s:=by
 obtain⟨e,g,d,t,i⟩:=s;exact PySem.W.make_core (PySem.W.makes_of X c) (PySem.W.looks_findIn X b) (fun self=>PySem.W.bind_fn X self hf) (.inl rfl) h
end
def kI(f:Str)(v:V):List (Str×V)->List (Str×V)
 | []=>[(f,v)]
 | (g,x)::r=>if g=f then(g,v)::r else(g,x)::kI f v r
theorem sL(f g:Str)(v:V):∀ c:List (Str×V),(kI f v c).lookup g=if g=f then some v else c.lookup g
 | []=>by
   show List.lookup g [(f,v)]=_;by_cases h:g=f;.have a:(g==f)=true:=RJ.mpr h;simp only[List.lookup,a,Oy h]
   .have a:(g==f)=false:=Q0.mpr h;simp only[List.lookup,a,Ox h]
 | (k,x)::r=>by
   have d:=sL f g v r;rw[show kI f v ((k,x)::r)=(if k=f then(k,v)::r else(k,x)::kI f v r) from rfl];by_cases b:k=f
   .rw[Oy b];by_cases h:g=k;.have a:(g==k)=true:=RJ.mpr h;simp only[List.lookup,a,Oy (h.trans b)]
    .have a:(g==k)=false:=Q0.mpr h;simp only[List.lookup,a,Ox (fun e:g=f=>h (e.trans b.symm))]
   .rw[Ox b];by_cases h:g=k;.have a:(g==k)=true:=RJ.mpr h;simp only[List.lookup,a,Ox (fun e:g=f=>b (h.symm.trans e))]
    .have a:(g==k)=false:=Q0.mpr h;simp only[List.lookup,a];exact d
theorem sy(f:Str)(v:V):∀ a:List (Str×V),f∈(kI f v a).map (·.1)/\∀ g,g∈a.map (·.1)->g∈(kI f v a).map (·.1)
 | []=>⟨by simp[kI],fun g h=>by simp at h⟩
 | (k,x)::r=>by
   obtain⟨c,d⟩:=sy f v r;rw[show kI f v ((k,x)::r)=(if k=f then(k,v)::r else(k,x)::kI f v r) from rfl];by_cases b:k=f;.rw[Oy b];subst b;exact⟨by simp,fun g h=>by simpa using h⟩
   .rw[Ox b];refine⟨?_,fun g h=>?_⟩;.rw[OP];exact OM _ c
    .rw[OP]at h |-;rcases OA.mp h with e | e;.exact OA.mpr (.inl e)
     .exact OM _ (d g e)
theorem sW(f:Str)(v:V):∀ a:List (Str×V),(kI f v a).length<=a.length+1
 | []=>by simp[kI]
 | (k,x)::r=>by
   have c:=sW f v r;rw[show kI f v ((k,x)::r)=(if k=f then(k,v)::r else(k,x)::kI f v r) from rfl];by_cases b:k=f;.rw[Oy b,OB,OB];omega
   .rw[Ox b,OB,OB];omega
theorem m3.some_of{v:V}{o:Option Value}(r:m3 (some v) o):∃ u,o=some u/\RelV v u:=by
 cases o with
 | none=>exact(show False from r).elim
 | some u=>exact⟨u,rfl,r⟩
theorem m3.none_of{o:Option Value}(r:m3 none o):o=none:=by
 cases o with
 | none=>rfl
 | some u=>exact(show False from r).elim
theorem F4{v:V}{u:Value}(r:RelV v u):PySem.W.handedIn u=true:=by
 cases v with
 | ba=>cases (show u=Value.none from r);rfl
 | bl b=>cases (show u=Value.bool b from r);rfl
 | int i=>obtain⟨t,e⟩:=(show ∃ t,u=Value.int i t from r);cases e;rfl
 | str x=>obtain⟨t,e⟩:=(show ∃ t,u=Value.str x t from r);cases e;rfl
 | byt b=>obtain⟨t,e⟩:=(show ∃ t,u=Value.bytes b t from r);cases e;rfl
 | Kv b=>obtain⟨t,e⟩:=(show ∃ t,u=Value.float b t from r);cases e;rfl
 | ref a=>cases (show u=Value.ref a from r);rfl
 | ty n=>cases (show u=Value.type n from r);rfl
section
variable {P:Program}{w:World}{H t:Hp}{h u:Heap}{a C x:Addr}{y v:List (Str×V)}
theorem uk(c:k8 P w H h)(e:H a=some (.ins C x y)):∃ b,De h a x C b/\(∀ f,m3 (y.lookup f) (b f))/\PySem.Within b (y.map (·.1))/\y.length<=1000/\H x=some (.own a):=by
 obtain⟨d,z,g,i,b,n,r,q⟩:=(show cG P w H h a (.ins C x y) from c a _ e)
 exact⟨b,⟨i,n,g⟩,r,q,z,d⟩
end
structure xn(K:PySem.W.Frag)(C:Addr):Prop where
 pg:PySem.W.plainGet K C Str.empty=true
 hd:PySem.W.hasDictIn K C=true
 po:PySem.W.plainOver K C=true
 sa:PySem.W.findIn K (.ref C) "__setattr__"=some (some (.builtin "object.__setattr__"))
theorem xn.get{K:PySem.W.Frag}{C:Addr}(c:xn K C)(f:Str):PySem.W.plainGet K C f=true:=c.pg
def da(K:PySem.W.Frag)(C:Addr)(f:Str):Prop:=PySem.W.findIn K (.ref C) f=some none
theorem da.MS{K:PySem.W.Frag}{C:Addr}{f:Str}(n:da K C f):PySem.W.takerIn K C f=some none:=by unfold PySem.W.takerIn;rw[show PySem.W.findIn K (.ref C) f=some none from n];rfl
structure Meth(K:PySem.W.Frag)(C:Addr)(m:Str)(f:Addr):Prop where
 at_:PySem.W.findIn K (.ref C) m=some (some (.ref f))
 fn:PySem.W.isFn K (.ref f)=true
 kp:PySem.W.keepIn K (.ref f)=true
section
variable {X:Cx}{t:List (Addr×Obj)}{j:St}{H:Hp}{s:Shared}{a C i:Addr}{p:List (Str×V)}{f:Str}{v:V}{A:Around}{E:Value->Shared->Prop}
theorem uP{b:Bool}{Q:Value->Shared->Prop}(I:Inv X t j H s)(e:H a=some (.ins C i p))(c:xn X.K C)(n:da X.K C f)(l:p.lookup f=some v)
 (h:∀ u s',Inv X t j H s'->RelV v u->Q u s'):wpAny (model X.prog X.w) A (getAttr (.ref a) f b) Q E s:=by
 obtain⟨k,O,r,_,_,_⟩:=uk I.de e;obtain⟨u,g,d⟩:=m3.some_of (v:=v) (o:=k f) (by rw[<-l];exact r f);exact get_map I.lZ O (c.get f) c.hd n g (F4 d) (h u _ (I.tok _) d)
theorem ly{m:Str}{g:Addr}{d:Sem Bool}{Q:Value×List Value->Shared->Prop}(I:Inv X t j H s)(e:H a=some (.ins C i p))(c:xn X.K C)(k:Meth X.K C m g)(l:p.lookup m=none)
 (h:Q (.ref g,[.ref a]) s):wpAny (model X.prog X.w) A (getMethod (.ref a) m d) Q E s:=by
 obtain⟨b,O,r,_,_,_⟩:=uk I.de e;have hn:b m=none:=m3.none_of (by rw[<-l];exact r m);exact GZ I.lZ O (c.get m) k.at_ k.fn hn h
theorem wu{y:V}{u:Value}{Q:Unit->Shared->Prop}(I:Inv X t j H s)(e:H a=some (.ins C i p))(c:xn X.K C)(n:da X.K C f)(hl:p.length<1000)(L:RelV y u)
 (h:∀ s',Inv X t j (upd H a (.ins C i (kI f y p))) s'->Q () s'):wpAny (model X.prog X.w) A (setAttr (.ref a) f u) Q E s:=by
 obtain⟨l,O,r,m,_,k⟩:=uk I.de e;have J:(p.map (·.1)).length<=sizeLine:=by rw[O0,T2];omega
 refine JI I.lZ O c.sa c.po n.MS c.hd m J fun D d M=>h _ ?_;have hd:∃ o,D.get? i=some o:=let ⟨o,_,_,B,_⟩:=d.ns;⟨o,B⟩;refine I.write (x:=a) (e:=i) (by rw[e];exact OF) (.inr k) (fun b q F z=>(M.2 b F).trans z) hd ?_;refine⟨by rw[aq O.ne];exact k,?_,O.ne,d.obj,_,d.ns,fun g=>?_,fun g G=>?_⟩;.have:=sW f y p;omega
 .show m3 ((kI f y p).lookup g) (if g=f then some u else l g);rw[sL];by_cases q:g=f;.rw[Oy q,Oy q];exact L
  .rw[Ox q,Ox q];exact r g
 .by_cases q:g=f;.rw[q];exact(sy f y p).1
  .refine(sy f y p).2 g (m g fun z=>G ?_);show(if g=f then some u else l g)=none;rw[Ox q];exact z
theorem Inv.made(I:Inv X t j H s):Inv X t j (upd (upd H s.heap.objs.size (.own (s.heap.objs.size+1))) (s.heap.objs.size+1) (.ins C s.heap.objs.size []))
 { s with heap:=(s.heap.push PySem.W.emptyDict).push (PySem.W.instObj C s.heap.objs.size) }:=by
 have c:(s.heap.push PySem.W.emptyDict).get? s.heap.objs.size=some PySem.W.emptyDict:=OU s.heap rfl;have h:((s.heap.push PySem.W.emptyDict).push (PySem.W.instObj C s.heap.objs.size)).get? (s.heap.objs.size+1)=some (PySem.W.instObj C s.heap.objs.size):=by
  have:=OU (s.heap.push PySem.W.emptyDict) (o:=PySem.W.instObj C s.heap.objs.size) rfl
  rwa [PD]at this
 have k:(s.heap.push PySem.W.emptyDict).Ns s.heap.objs.size (fun _=>none):=⟨PySem.W.emptyDict,#[],_,c,rfl,(fun e l=>absurd l (by simp)),fun _=>rfl⟩
 have g:=I.laid (a:=s.heap.objs.size) (o:=.own (s.heap.objs.size+1)) (h':=s.heap.push PySem.W.emptyDict) (t':=s.toks) (fun b u q=>OD _ q) (OE _) ⟨_,c⟩;refine g.laid (a:=s.heap.objs.size+1) (o:=.ins C s.heap.objs.size []) (t':=s.toks) (fun b u q=>OD _ q) (Sw (PD _ _)) ?_;have d:s.heap.objs.size≠s.heap.objs.size+1:=Pr (Sf _);refine⟨by rw[aq d,ai],O1 _,d,h,fun _=>none,(Heap.Ns1.of_empty k).at fun o q=>OD _ q,fun _=>OF,fun y m=>absurd rfl m⟩
theorem Jz{prog:Program}{w:World}{b:Env}{e:Expr}{f:Str}{d:Pos}{s:Shared}{Q:Value->Shared->Prop}(g:attributeBase e f b (eval e b)=eval e b)
 (h:wpAny (model prog w) A (eval e b) (fun o c=>wpAny (model prog w) A (getAttr o f true) Q E c) E s):wpAny (model prog w) A (eval (.Attribute e f d) b) Q E s:=
 Attribute_any_ h (by rw[arm_eval_Attribute,g])
end
def tT(K:PySem.W.Frag)(e:TE)(f:Str):TE:=fun g H Q=>e g H fun x b=>∃ a C d c v,x=.ref a/\b a=some (.ins C d c)/\xn K C/\da K C f/\c.lookup f=some v/\Q v b
def uF(K:PySem.W.Frag)(h i:TE)(f:Str):TS:=fun D c H=>i c H fun y g=>h c g fun x d=>∃ a C e b,x=.ref a/\d a=some (.ins C e b)/\xn K C/\da K C f/\b.length<1000 /\ D.nx c (upd d a (.ins C e (kI f y b)))
def MB(X:Cx)(c:Operator)(d:V->V->Hp->VK->Prop):Prop:=∀ (a:List (Addr×Obj)) (s:Shared) (b:St) (H:Hp) (x y:V) (u v:Value) (Q:VK),Inv X a b H s->RelV x u->RelV y v->d x y H Q->wpAny (model X.prog X.w) X.A (inplaceOp c u v) (EP X a b Q) X.xe s
def hB(K:PySem.W.Frag)(l m:TE)(k:V->V->Hp->VK->Prop)(f:Str):TS:=fun D d H=>l d H fun x e=>∃ a C j h v,x=.ref a/\e a=some (.ins C j h)/\xn K C/\da K C f/\h.lookup f=some v /\ m d e fun y i=>k v y i fun z g=>∃ c b,g a=some (.ins C c b)/\b.length<1000/\D.nx d (upd g a (.ins C c (kI f z b)))
section
variable {X:Cx}{o e w:Expr}{f:Str}{r p k:Pos}{m g:TE}
theorem aM(A:PE X e m)(z:attributeBase e f X.env (eval e X.env)=eval e X.env):PE X (.Attribute e f r) (tT X.K m f):=by intro b s E H Q I h;refine Jz z (cj (A b s E H _ I h) fun u J ⟨x,d,i,D,a,C,F,G,v,y,t,c,n,l,q⟩=>?_);subst y;obtain rfl:u=Value.ref a:=D;exact uP i t c n l fun M L j B=>⟨v,d,j,B,q⟩
theorem dm(ha:PE X o m)(B:PE X w g)(hs:swapsWith w (some (.Attribute o f p)) r.line X.env=pure false):PS X (.Assign [.Attribute o f p] w r) (uF X.K m g f):=by intro b s d H D I h;refine plainObj_wpAny_Assign_Attribute (cj (B b s d H _ I h) fun u L ⟨y,i,j,J,q⟩=>cj (ha b L d i _ j q) fun E P ⟨x,M,t,G,a,C,N,O,A,z,c,n,l,F⟩=>?_) hs;subst A;obtain rfl:E=Value.ref a:=G;exact wu t z c n l J fun Q v=>⟨d,_,v,F⟩
theorem sd{t:Operator}{A:V->V->Hp->VK->Prop}(ha:PE X o m)(R:PE X w g)(j:MB X t A):PS X (.AugAssign (.Attribute o f k) t w r) (hB X.K m g A f):=by intro b s d H D I h;refine wpAny_AugAssign_AttributeAny (cj (ha b s d H _ I h) fun U s1 ⟨x,B,F,rx,a,C,dx,fs,v,P,O,c,n,l,q⟩=>?_);subst P;obtain rfl:U=Value.ref a:=rx;refine uP F O c n l fun u s2 G Z=>cj (R b s2 d B _ G q) fun w3 s3 ⟨y,E,J,ry,W⟩=>cj (j b s3 d E v y u w3 _ J Z ry W) fun w4 s4 ⟨z,H3,L,rz,N,Q,i,T,Y⟩=>?_;exact wu L i c n T rz fun s5 M=>⟨d,_,M,Y⟩
def vN:V->V->Hp->VK->Prop:=fun x y H Q=>∃ i j,x=.int i/\y=.int j/\Q (.int (i+j)) H
theorem CP:MB X .Add vN:=by
 rintro pins s σ H x y u v Q I b c ⟨i,j,rfl,rfl,q⟩;obtain⟨t,rfl⟩:=(show ∃ t,u=Value.int i t from b)
 obtain⟨a,rfl⟩:=(show ∃ a,v=Value.int j a from c)
 exact PyProof.Rows.iadd_int ⟨.int (i+j),H,I.tok _,⟨_,rfl⟩,q⟩
end
section
variable {X:Cx}{v:List (Addr×Obj)}{r:St}{H:Hp}{s:Shared}{A:Around}{E:Value->Shared->Prop}{Q:Value->Shared->Prop}{c:Value}{b:Bool}
inductive rW (K:PySem.W.Frag) (H:Hp):V->Value->Prop where
 | ba:rW K H .ba (.type "NoneType")
 | bl (x:Bool):rW K H (.bl x) (.type "bool")
 | int (i:Int):rW K H (.int i) (.type "int")
 | str (x:Str):rW K H (.str x) (.type "str")
 | Kv (x:UInt64):rW K H (.Kv x) (.type "float")
 | lst {a:Addr} {xs:List V} (e:H a=some (.lst xs)):rW K H (.ref a) (.type "list")
 | jP {a:Addr} {o:Obj} {xs:List V} (e:H a=some (.jP o (.lst xs))):rW K H (.ref a) (.type "list")
 | tup {a:Addr} {xs:List V} (e:H a=some (.tup xs)):rW K H (.ref a) (.type "tuple")
 | dK {a:Addr} {kvs:List (Key×V)} (e:H a=some (.dK kvs)):rW K H (.ref a) (.type "dict")
 | dT {a:Addr} {kvs:List (List Key×V)} (e:H a=some (.dT kvs)):rW K H (.ref a) (.type "dict")
 | ins {a C dx:Addr} {fs:List (Str×V)} (e:H a=some (.ins C dx fs)) (cl:xn K C) (ha:PySem.W.findIn K (.ref C) "__class__"=some (some (.builtin "object.__class__")))
    (hn:PySem.W.specialIn K (.builtin "object.__class__") "__get__"=some (some (.builtin "getset_descriptor.__get__"))) (htk:PySem.W.takesIn K (.builtin "object.__class__")=some true)
    (hm:PySem.W.mroIn K C (.type "object")=some true):rW K H (.ref a) (.ref C)
theorem EV{x:V}{u t:Value}(I:Inv X v r H s)(f:RelV x u)(m:rW X.K H x t)(e:PySem.W.kitOne X.K t c=some b)(h:∀ l,Q (.bool b) { s with toks:=l }):
 wpAny (model X.prog X.w) A (call (.builtin "isinstance") [u,c]) Q E s:=by
 cases m with
 | ba=>cases (show u=Value.none from f);exact Qn PySem.W.kitx_none I.lZ OF e (fun z=>nomatch z) h
 | bl y=>cases (show u=Value.bool y from f);exact Qn PySem.W.kitx_bool I.lZ OF e (fun z=>nomatch z) h
 | int i=>obtain⟨t,q⟩:=(show ∃ t,u=Value.int i t from f);cases q;exact Qn PySem.W.kitx_int I.lZ OF e (fun z=>nomatch z) h
 | str y=>obtain⟨t,q⟩:=(show ∃ t,u=Value.str y t from f);cases q;exact Qn PySem.W.kitx_str I.lZ OF e (fun z=>nomatch z) h
 | Kv y=>obtain⟨t,q⟩:=(show ∃ t,u=Value.float y t from f);cases q;exact Qn PySem.W.kitx_float I.lZ OF e (fun z=>nomatch z) h
 | @lst a xs d=>
   cases (show u=Value.ref a from f);obtain⟨_,_,n,_,h1⟩:=(show cG X.prog X.w H s.heap a (.lst xs) from I.de a _ d)
   exact Qn UZ I.lZ ⟨_,h1,rfl⟩ e (fun z=>nomatch z) h
 | @jP a k xs d=>
   cases (show u=Value.ref a from f);obtain⟨_,_,_,n,_,h1⟩:=(show cG X.prog X.w H s.heap a (.jP k (.lst xs)) from I.de a _ d)
   exact Qn UZ I.lZ ⟨_,h1,rfl⟩ e (fun z=>nomatch z) h
 | @tup a xs d=>
   cases (show u=Value.ref a from f);obtain⟨_,_,_,p⟩:=(show cG X.prog X.w H s.heap a (.tup xs) from I.de a _ d)
   obtain⟨o,h1,h2,_⟩:=p;exact Qn PySem.W.kitx_tuple I.lZ ⟨o,h1,h2⟩ e (fun z=>nomatch z) h
 | @dK a kvs d=>
   cases (show u=Value.ref a from f);obtain⟨_,_,vs,_,p⟩:=(show cG X.prog X.w H s.heap a (.dK kvs) from I.de a _ d)
   obtain⟨o,j,g,h1,h2,_⟩:=p;exact Qn U0 I.lZ ⟨o,h1,h2.1⟩ e (fun z=>nomatch z) h
 | @dT a kvs d=>
   cases (show u=Value.ref a from f);obtain⟨_,_,xs,_,o,j,g,h1,h2,_⟩:=(show cG X.prog X.w H s.heap a (.dT kvs) from I.de a _ d)
   exact Qn U0 I.lZ ⟨o,h1,h2.1⟩ e (fun z=>nomatch z) h
 | @ins a C dx fs d cl ha hn htk hm=>cases (show u=Value.ref a from f);obtain⟨B,O,_⟩:=uk I.de d;obtain⟨D,J,_⟩:=O.look;exact Qn (PySem.W.kitx_own (cl.get _) cl.hd ha hn htk hm) I.lZ J e (fun z=>nomatch z) h
end
end L2
namespace L2
open PySem PySem.Spec PyProof.Rows
structure dO(k:Nat)(A:Around):Prop where
 hd:A.handled=none
 dp:A.depth+3 * k+5<recursionLimit
 un:A.units+16 * k+200<cLine
theorem dO.mono{j k:Nat}{A:Around}(r:dO k A)(h:j<=k):dO j A:=⟨r.hd,by have:=r.dp;omega,by have:=r.un;omega⟩
theorem dO.zz{j k:Nat}{A:Around}(r:dO k A)(h:j<=k:=by decide):dO j A:=r.mono h
theorem dO.deeper{k:Nat}{A:Around}(r:dO (k+1) A)(a:Env):dO k (A.deeper a):=⟨r.hd,by have:=r.dp;show A.depth+1+3 * k+5<_;omega,by have:=r.un;show A.units+3+16 * k+200<_;omega⟩
theorem dO.in1{k:Nat}{A:Around}(r:dO (k+1) A):dO k A.in1:=⟨r.hd,by have:=r.dp;show A.depth+3 * k+5<_;omega,by have:=r.un;show A.units+1+16 * k+200<_;omega⟩
theorem Cq{A:Around}{C:Addr}{us:List Value}{a:List (Str×Value)}:(A.under (.builtin "type.__call__" ⟨.ref C::us,a⟩)).depth=A.depth+1:=by first | rfl | simp[Around.under,Code.weight,Code.isCreation,Code.isGuard,Code.isCaller,Code.frames,Code.isFrame,guardIds]
theorem Cs{A:Around}{C:Addr}{us:List Value}{a:List (Str×Value)}:(A.under (.builtin "type.__call__" ⟨.ref C::us,a⟩)).units=A.units+1:=by first | rfl | simp[Around.under,Code.cUnits,Code.frames,Code.isFrame]
theorem dO.make{k:Nat}{A:Around}(r:dO (k+1) A)(C:Addr)(us:List Value)(a:List (Str×Value)):dO k (A.under (.builtin "type.__call__" ⟨.ref C::us,a⟩)):=⟨r.hd,by have:=r.dp;rw[Cq];omega,by have:=r.un;rw[Cs];omega⟩
theorem dO.depth{k:Nat}{A:Around}(r:dO k A):A.depth<recursionLimit:=by have:=r.dp;omega
theorem dO.units{k:Nat}{A:Around}(r:dO k A):A.units+64<cLine:=by have:=r.un;omega
def kH:TA:=fun _ H Q=>Q [] H
def gN(d:TE)(e:TA):TA:=fun a H Q=>d a H fun x b=>e a b fun xs c=>Q (x::xs) c
section
variable {X:Cx}{e:Expr}{es:List Expr}{w:TE}{t:TA}{y:Pos}
theorem ah:PA X [] kH:=fun _ _ _ _ H Q I h=>Qu ⟨[],H,I,.nil,h⟩
theorem ae(ha:PE X e w)(i:PA X es t)(hs:starEach (e::es) X.env=(false,eval e X.env)::starEach es X.env:=by rfl):PA X (e::es) (gN w t):=by intro y a s b H Q I h;rw[hs];show wpAny _ _ (spliced ((false,eval e X.env)::backTo y (starEach es X.env))) _ _ s;refine PV (cj (ha a s b H _ I h) fun u n ⟨x,c,f,l,j⟩=>?_);exact cj (i y a n b c _ f j) fun us o ⟨xs,d,g,m,k⟩=>⟨x::xs,d,g,.cons l m,k⟩
def vL(t:TA):TE:=fun b H Q=>t b H fun xs a=>xs.length<=sizeLine/\∀ p,a p=none->Q (.ref p) (upd a p (.tup xs))
def tQ(t:TA):TE:=fun b H Q=>t b H fun xs a=>xs.length<=sizeLine/\∀ p,a p=none->Q (.ref p) (upd a p (.lst xs))
theorem Ll{i}(h:PA X es t):PE X (.Tuple es i y) (vL t):=by intro a s j H Q I g;refine wpAny_Tuple_spliced (cj (h y a s j H _ I g) fun us c ⟨xs,d,f,r,z,q⟩=>⟨by rw[<-r.length];exact z,?_⟩);have hf:d c.heap.objs.size=none:=f.de.fresh (OE _);refine⟨.ref c.heap.objs.size,upd d c.heap.objs.size (.tup xs),f.laid (t':=c.toks) (fun b u e=>OD _ e) (OE _) ?_,rfl,q _ hf⟩;exact⟨z,us,r,⟨_,OU _ rfl,rfl,_,rfl⟩⟩
theorem aZ(h:PA X es t):PE X (.List es y) (tQ t):=by intro a s i H Q I g;refine wpAny_List_spliced (cj (h y a s i H _ I g) fun us c ⟨xs,d,f,r,z,q⟩=>⟨by rw[<-r.length];exact z,?_⟩);have hf:d c.heap.objs.size=none:=f.de.fresh (OE _);refine⟨.ref c.heap.objs.size,upd d c.heap.objs.size (.lst xs),f.laid (t':=c.toks) (fun b u e=>OD _ e) (OE _) ?_,rfl,q _ hf⟩;exact⟨z,us,0,r,OU _ rfl⟩
end
abbrev Sp:=List V->Hp->VK->XK->Prop
abbrev Gp:=List Env->Hp->Shared->XK->Value->Shared->Prop
structure wV(P:Program)(w:World)(K:PySem.W.Frag)(mg:Str->Option Value)(base:Heap)(A:Around)(outer:List Env)(s:Shared)(H:Hp):Prop where
 frames:A.frames=some outer
 mod:Mod K mg base
 bs:∀ b o,base.get? b=some o->s.heap.get? b=some o/\H b=none
 FZ:base.objs.size<=s.heap.objs.size
 oH:s.heap.FunFrames base outer
 Jf:∀ b∈vc outer,H b=none
 de:k8 P w H s.heap
 bare:AllBare s.gens
def CE(a:List Env)(P:Program)(w:World)(H:Hp)(s:Shared)(Q:VK)(u:Value)(s':Shared):Prop:=∃ v b,s'.os=s.os/\AllBare s'.gens/\Un (vc a) [] H b s.heap s'.heap/\k8 P w b s'.heap/\RelV v u/\Q v b
def CR(CX:Gp)(a:List Env)(P:Program)(w:World)(H:Hp)(s:Shared)(Q:VK)(E:XK)(r:Result)(s':Shared):Prop:=
 match r with
 | .ok (.ret u)=>CE a P w H s Q u s'
 | .ok _=>False
 | .error e=>CX a H s E e s'
structure jD(P:Program)(w:World)(K:PySem.W.Frag)(mg:Str->Option Value)(base:Heap)(CX:Gp)(k:Nat)(f:Addr)(fd:FuncData)(ps:List Str)(sp:Sp):Prop where
 len:∀ vs H Q E,sp vs H Q E->vs.length=ps.length
 run:∀ (A:Around) (outer:List Env) (s:Shared) (H:Hp) (args:Args) (us:List Value) (vs:List V) (Q:VK) (E:XK),dO k A->wV P w K mg base A outer s H->BindsTo s fd args (ps.zip us)->Vals vs us->sp vs H Q E -> codeAny (model P w) A (.call (.ref f) args) (CR CX outer P w H s Q E) s
theorem jD.mono{P:Program}{w:World}{K:PySem.W.Frag}{mg:Str->Option Value}{base:Heap}{CX:Gp}{j k:Nat}{f:Addr}{b:FuncData}{ps:List Str}{sp:Sp}(F:jD P w K mg base CX j f b ps sp)(h:j<=k): jD P w K mg base CX k f b ps sp:=⟨F.len,fun A a s H args us vs Q E c=>F.run A a s H args us vs Q E (c.mono h)⟩
theorem wV.make{P:Program}{w:World}{K:PySem.W.Frag}{mg:Str->Option Value}{base:Heap}{A:Around}{a:List Env}{s:Shared}{H:Hp}(e:wV P w K mg base A a s H)(C:Addr)(us:List Value)(b:List (Str×Value)): wV P w K mg base (A.under (.builtin "type.__call__" ⟨.ref C::us,b⟩)) a s H:=⟨by first | exact e.frames | (simpa[Around.under,Code.envs,Code.isFrame,pushEnvs]using e.frames),e.mod,e.bs,e.FZ,e.oH,e.Jf,e.de,e.bare⟩
theorem wV.in1{P:Program}{w:World}{K:PySem.W.Frag}{mg:Str->Option Value}{base:Heap}{A:Around}{a:List Env}{s:Shared}{H:Hp}(e:wV P w K mg base A a s H): wV P w K mg base A.in1 a s H:=⟨e.frames,e.mod,e.bs,e.FZ,e.oH,e.Jf,e.de,e.bare⟩
section
variable {X:Cx}{y:List (Addr×Obj)}{x:St}{H:Hp}{s p:Shared}
theorem Inv.Le(I:Inv X y x H s):wV X.prog X.w X.K X.mg X.base X.A X.stack s H:=⟨I.ok.frames,I.ok.mod,I.bs,O9 I.ok.FZ I.sz,I.stack,I.yQ,I.de,I.bare⟩
theorem Inv.after{Q:VK}{u:Value}(I:Inv X y x H s)(h:CE X.stack X.prog X.w H s Q u p):EP X y x Q u p:=by obtain⟨v,f,j,a,k,c,r,q⟩:=h;obtain⟨i,g,d,t,e⟩:=p;obtain rfl:e=s.os:=j;exact⟨v,f,I.call (h':=i) (g':=g) (d':=d) (t':=t) (ch:=[]) k c a (fun b z=>absurd z (by simp)),r,q⟩
end
def kg(sp:Sp)(a:List V)(E:XK)(t:TA):TE:=fun c H Q=>t c H fun vs b=>sp (vs++a) b Q E
def l8(C:Addr)(m:Str)(sp:Sp)(b:List V)(E:XK)(h:TE)(t:TA):TE:=fun e H Q=>h e H fun x c=>∃ a g d,x=.ref a/\c a=some (.ins C g d)/\d.lookup m=none /\ t e c fun vs f=>sp (x::(vs++b)) f Q E
def ml(C:Addr)(sp:Sp)(c:List V)(E:XK)(t:TA):TE:=fun e H Q=>t e H fun vs b=>∀ x a,b x=none->b a=none->a≠x -> sp (.ref x::(vs++c)) (upd (upd b a (.own x)) x (.ins C a [])) (fun v d=>v=.ba/\Q (.ref x) d) E
def Binds(K:PySem.W.Frag)(b:FuncData)(ps:List Str)(a:List Value):Prop:=∀ (s:Shared) (us:List Value),K.In s.heap->(us++a).length=ps.length->BindsTo s b ⟨us,[]⟩ (ps.zip (us++a))
theorem Binds.all{K:PySem.W.Frag}{a:FuncData}{ps:List Str}(h:∀ us:List Value,us.length=ps.length->bindArgs a ⟨us,[]⟩=pure (ps.zip us)):Binds K a ps []:=fun s us _ hl=>by rw[Pn]at hl |-;exact .of_eq (h us hl)
def Passes(CX:Gp)(X:Cx)(E:XK):Prop:=∀ (a:List (Addr×Obj)) (b:St) (H:Hp) (s:Shared) (e:Value) (s':Shared),Inv X a b H s->CX X.stack H s E e s'->X.xe e s'
section
variable {X:Cx}{d:Gp}{k:Nat}{f C:Addr}{fd:FuncData}{i:List Str}{g:Sp}{y:List V}{n:List Value}{E:XK}{x m:Str}{p z j:Pos}{e o:Expr}{es:List Expr}{b:TE}{t:TA}
theorem CI{a:List (Addr×Obj)}{l:St}{H:Hp}{s:Shared}{Q:VK}{us:List Value}{vs:List V}(F:jD X.prog X.w X.K X.mg X.base d k f fd i g)(D:dO k X.A)(B:Binds X.K fd i n)(hd:Vals y n)(hx:Passes d X E)
 (I:Inv X a l H s) (r:Vals vs us) (h:g (vs++y) H Q E):wpAny (model X.prog X.w) X.A (call (.ref f) us) (EP X a l Q) X.xe s:=by
 have q:Vals (vs++y) (us++n):=r.append hd;have hl:(us++n).length=i.length:=by rw[<-q.length];exact F.len _ _ _ _ h
 refine Us (RC (F.run X.A X.stack s H ⟨us,[]⟩ (us++n) (vs++y) Q E D I.Le (B s us I.lZ hl) q h) fun r s' c=>?_);cases r with
 | error e=>exact hx a l H s e s' I c
 | ok v=>
   cases v with
   | ret u=>exact I.after c
   | next=>exact False.elim c
   | brk=>exact False.elim c
   | cont=>exact False.elim c
theorem J0(F:jD X.prog X.w X.K X.mg X.base d k f fd i g)(L:dO k X.A)(D:Gl X x)(J:X.mg x=some (.ref f))(G:PySem.W.keepIn X.K (.ref f)=true)(v:Binds X.K fd i n)(hd:Vals y n)(hx:Passes d X E)
 (ha:PA X (e::es) t) (c:(x==("__debug__":Str))=false:=by decide) (B:starEach (e::es) X.env=(false,eval e X.env)::starEach es X.env:=by rfl) (l:(backTo z (starEach es X.env)).any (·.1)=false:=by rfl):
 PE X (.Call (.Name x p) (e::es) [] z) (kg g y E t):=by
 intro a s M H Q I h;refine Qr (ji I D J ?_ c);refine Rw (h₀:=X.base) I.ok.mod.Lz G (cj (ha z a s M H _ I h) fun us O ⟨vs,N,u,r,q⟩=>⟨u.lZ,?_⟩) B l;exact CI F L v hd hx u r q
theorem lA{G:Sem Bool}(Y:PE X o b)(c:xn X.K C)(M:Meth X.K C m f)(F:jD X.prog X.w X.K X.mg X.base d k f fd i g)(Z:dO k X.A)(U:Binds X.K fd i n)(hd:Vals y n)(hx:Passes d X E)(ha:PA X (e::es) t)
 (D:starEach (e::es) X.env=(false,eval e X.env)::starEach es X.env:=by rfl) (B:(backTo z (starEach es X.env)).any (·.1)=false:=by rfl)
 (ht:eval (.Call (.Attribute o m j) (e::es) [] z) X.env=(do
   let N <-eval o X.env
   standAt j.atName
   let (f,first) <-holding [N] (getMethod N m G)
   callWith z f first (backTo z (starEach (e::es) X.env)) (backToKw z (keywordEach [] X.env))):=by rfl):
 PE X (.Call (.Attribute o m j) (e::es) [] z) (l8 C m g y E b t):=by
 intro v s O H Q I h;refine RD (pl:=G) (cj (Y v s O H _ I h) fun u s1 ⟨x,P,J,rx,a,dx,fs,T,R,l,q⟩=>?_) ht;subst T;obtain rfl:u=Value.ref a:=rx;refine ly J R c M l ?_;refine Rw (first:=[.ref a]) (h₀:=X.base) I.ok.mod.Lz M.kp (cj (ha z v s1 O P _ J q) fun us s2 ⟨vs,H2,L,r,q2⟩=>⟨L.lZ,?_⟩) D B;exact CI (us:=.ref a::us) (vs:=.ref a::vs) F Z U hd hx L (.cons rfl r) q2
theorem bL{B:Sem Bool}(N:PE X o b)(c:xn X.K C)(D:Meth X.K C m f)(F:jD X.prog X.w X.K X.mg X.base d k f fd i g)(O:dO k X.A)(M:Binds X.K fd i n)(hd:Vals y n)(hx:Passes d X E)
 (P:eval (.Call (.Attribute o m j) [] [] z) X.env=(do
   let G <-eval o X.env
   standAt j.atName
   let (f,first) <-holding [G] (getMethod G m B)
   callWith z f first (backTo z (starEach [] X.env)) (backToKw z (keywordEach [] X.env))):=by rfl):
 PE X (.Call (.Attribute o m j) [] [] z) (l8 C m g y E b kH):=by
 intro r s T H Q I h;refine RD (pl:=B) (cj (N r s T H _ I h) fun u s1 ⟨x,U,v,R,a,Y,Z,L,J,l,q⟩=>?_) P;subst L;obtain rfl:u=Value.ref a:=R;refine ly v J c D l ?_;exact SQ (first:=[.ref a]) v.lZ D.kp (CI (us:=[.ref a]) (vs:=[.ref a]) F O M hd hx v (.cons rfl .nil) q)
structure Mk(K:PySem.W.Frag)(C f:Addr):Prop where
 makes:PySem.W.makesIn K C=true
 init:PySem.W.findIn K (.ref C) "__init__"=some (some (.ref f))
 fn:PySem.W.isFn K (.ref f)=true
 kp:PySem.W.keepIn K (.ref C)=true
theorem Ai{c:List (Addr×Obj)}{B:St}{H:Hp}{s:Shared}{Q:VK}{us:List Value}{vs:List V}(M:Mk X.K C f)(F:jD X.prog X.w X.K X.mg X.base d k f fd i g)(T:dO (k+1) X.A)(R:Binds X.K fd i n)(hd:Vals y n)
 (hx:Passes d X E) (I:Inv X c B H s) (r:Vals vs us)
 (h:∀ x q,H x=none->H q=none->q≠x->g (.ref x::(vs++y)) (upd (upd H q (.own x)) x (.ins C q [])) (fun v L=>v=.ba/\Q (.ref x) L) E):
 wpAny (model X.prog X.w) X.A (call (.ref C) us) (EP X c B Q) X.xe s:=by
 have D:=h (s.heap.objs.size+1) s.heap.objs.size (I.de.fresh (Nat.le_succ _)) (I.de.fresh (OE _)) (Pr (Sf _));have l:=Inv.made (C:=C) I;have G:Vals (V.ref (s.heap.objs.size+1)::(vs++y)) (Value.ref (s.heap.objs.size+1)::(us++n)):=.cons rfl (r.append hd);have hl:(Value.ref (s.heap.objs.size+1)::us++n).length=i.length:=by have e:=G.length;rw[F.len _ _ _ _ D]at e;exact e.symm
 refine Us (IB (f:=f) I.lZ M.makes M.init (RJ.mp M.fn) (RC (F.run _ X.stack _ _ ⟨Value.ref (s.heap.objs.size+1)::us,[]⟩ (Value.ref (s.heap.objs.size+1)::(us++n)) _ _ E (T.make C us []) (l.Le.make C us []) (R _ (Value.ref (s.heap.objs.size+1)::us) l.lZ hl) G D) fun r s' a=>?_));cases r with
 | error e=>exact hx c B _ _ e s' l a
 | ok P=>
   cases P with
   | ret u=>obtain⟨v,J,N,W,O,U⟩:=l.after a;subst O;exact⟨W,⟨V.ref (s.heap.objs.size+1),J,N,rfl,U⟩⟩
   | next=>exact False.elim a
   | brk=>exact False.elim a
   | cont=>exact False.elim a
theorem gQ(M:Mk X.K C f)(F:jD X.prog X.w X.K X.mg X.base d k f fd i g)(J:dO (k+1) X.A)(D:Gl X x)(G:X.mg x=some (.ref C))(v:Binds X.K fd i n)(hd:Vals y n)(hx:Passes d X E)
 (ha:PA X (e::es) t) (c:(x==("__debug__":Str))=false:=by decide) (B:starEach (e::es) X.env=(false,eval e X.env)::starEach es X.env:=by rfl) (l:(backTo z (starEach es X.env)).any (·.1)=false:=by rfl):
 PE X (.Call (.Name x p) (e::es) [] z) (ml C g y E t):=by
 intro a s L H Q I h;refine Qr (ji I D G ?_ c);refine Rw (h₀:=X.base) I.ok.mod.Lz M.kp (cj (ha z a s L H _ I h) fun us O ⟨vs,N,u,r,q⟩=>⟨u.lZ,?_⟩) B l;exact Ai M F J v hd hx u r q
theorem BY(M:Mk X.K C f)(F:jD X.prog X.w X.K X.mg X.base d k f fd i g)(u:dO (k+1) X.A)(q:Gl X x)(r:X.mg x=some (.ref C))(l:Binds X.K fd i n)(hd:Vals y n)(hx:Passes d X E)
 (a:(x==("__debug__":Str))=false:=by decide):PE X (.Call (.Name x p) [] [] z) (ml C g y E kH):=by
 intro c s v H Q I h;refine Qr (ji I q r ?_ a);exact SQ I.lZ M.kp (Ai (us:=[]) M F u l hd hx I .nil h)
end
structure jk(N P:List Str)(sc:Scope):Prop where
 kind:sc.kind=.function
 co:sc.isCoroutine=false
 gen:sc.isGenerator=false
 nd:N.Nodup
 pre:N.take P.length=P
 par:∀ x∈P,sc.names.lookup x=some .local\/sc.names.lookup x=some .cell
 LN:∀ y∈sc.names,y.2≠.free
theorem xM{b:Str->Option NameKind}{x:Str}:∀ {a:List (Str×Value)} {m:Str->Option Value},(∀ v,(x,v)∉a)->bindL b a m x=m x
 | [],_,_=>rfl
 | (n,v)::r,m,h=>by
   unfold bindL;rw[xM fun w hw=>h w (OM _ hw)];split
   .have:x≠n:=by rintro rfl;exact h v O2
    simp[this]
   .rfl
theorem xK{b:Str->Option NameKind}{x:Str}:∀ {a:List (Str×Value)} {m:Str->Option Value},(∀ v,(x,v)∉a)->bindC b a m x=m x
 | [],_,_=>rfl
 | (n,v)::r,m,h=>by
   unfold bindC;rw[xK fun w hw=>h w (OM _ hw)];split;.rfl
   .have:x≠n:=by rintro rfl;exact h v O2
    simp[this]
theorem yw{a:Str->Option NameKind}{x:Str}{v:Value}:∀ {P:List Str} {vs:List Value} {i:Nat} {m:Str->Option Value},P.Nodup->P[i]?=some x->vs[i]?=some v->a x=some .local ->
 bindL a (P.zip vs) m x=some v
 | [],_,_,_,_,h,_,_=>by simp at h
 | _::_,[],_,_,_,_,h,_=>by simp at h
 | p::P,w::vs,0,m,nd,h1,h2,b=>by simp at h1 h2;subst h1 h2;show bindL a ((p,w)::P.zip vs) m p=_;unfold bindL;rw[xM fun v c=>(OR.mp nd).1 (TQ c).1,Oy b];simp
 | p::P,w::vs,i+1,m,nd,h1,h2,b=>by show bindL a ((p,w)::P.zip vs) m x=_;unfold bindL;exact yw (i:=i) (OR.mp nd).2 (by simpa using h1) (by simpa using h2) b
theorem xI{a:Str->Option NameKind}{x:Str}{v:Value}:∀ {P:List Str} {vs:List Value} {i:Nat} {m:Str->Option Value},P.Nodup->P[i]?=some x->vs[i]?=some v->a x≠some .local ->
 bindC a (P.zip vs) m x=some v
 | [],_,_,_,_,h,_,_=>by simp at h
 | _::_,[],_,_,_,_,h,_=>by simp at h
 | p::P,w::vs,0,m,nd,h1,h2,b=>by simp at h1 h2;subst h1 h2;show bindC a ((p,w)::P.zip vs) m p=_;unfold bindC;rw[xK fun v c=>(OR.mp nd).1 (TQ c).1,Ox b];simp
 | p::P,w::vs,i+1,m,nd,h1,h2,b=>by show bindC a ((p,w)::P.zip vs) m x=_;unfold bindC;exact xI (i:=i) (OR.mp nd).2 (by simpa using h1) (by simpa using h2) b
def start(N:List Str)(vs:List V):St:=vs.map some++List.replicate (N.length - vs.length) none
def o9(CX:Gp)(P:Program)(w:World)(K:PySem.W.Frag)(mg:Str->Option Value)(base:Heap)(N:List Str)(b:Str)(a:Scope)(f:Addr)(d:Value)(A:Around)(outer:List Env)(s:Shared)(H:Hp)(E:XK):Cx where
 prog:=P
 w:=w
 K:=K
 mg:=mg
 base:=base
 A:=A.deeper (envOfC b a s.heap.objs.size f d)
 N:=N
 tX:=s
 LD:=H
 env:=envOfC b a s.heap.objs.size f d
 outer:=outer
 stack:=envOfC b a s.heap.objs.size f d::outer
 ex:=[]
 calm:=true
 fn:=fun _=>true
 pn:=[]
 xe:=fun e s'=>wpAny (model P w) (A.deeper (envOfC b a s.heap.objs.size f d)) (leaving (envOfC b a s.heap.objs.size f d) e) (fun _ c=>CX outer H s E e c) (fun g c=>CX outer H s E g c) s'
theorem AL{sc:Scope}{n:Nat}{x:Str}(h:sc.names.lookup x=some .cell):∃ c,(cellsFrom n sc.names []).lookup x=some c:=by have q:=T3 sc.names n [] (.inl h);exact Option.isSome_iff_exists.mp q
theorem FW{CX:Gp}{P:Program}{w:World}{K:PySem.W.Frag}{mg:Str->Option Value}{base:Heap}{N ps:List Str}{j:Str}{d:Scope}{f:Addr}{C:Value}{A:Around}{g:List Env}{s I:Shared}{H:Hp}{E:XK}{us:List Value}{vs:List V}
 (S:jk N ps d) (hd:A.handled=none) (l:wV P w K mg base A g s H) (hl:vs.length=ps.length) (r:Vals vs us)
 (x:InCallC s s.heap.objs.size (bindL (envOfC j d s.heap.objs.size f C).kindOf (ps.zip us) fun _=>none) (cellsFrom (s.heap.objs.size+1) d.names []) (bindC (envOfC j d s.heap.objs.size f C).kindOf (ps.zip us) fun _=>none) I):
 Inv (o9 CX P w K mg base N j d f C A g s H E) [] (start N vs) H I:=by
 have J:ps.length<=N.length:=by have:=Pw List.length S.pre;rw[Pg]at this;omega
 obtain⟨h1,O,rfl,F⟩:=x.done;have o:∀ b:Addr,b∉(o9 CX P w K mg base N j d f C A g s H E).ex:=fun b z=>absurd (show b∈([]:List Addr) from z) (by simp);refine⟨⟨l.mod,S.kind,rfl,rfl,OE _,fun y z c h1 h2=>?_,fun y m=>?_,fun y c _ h=>?_,fun _=>hd,Around.frames_deeper l.frames,.inr ⟨rfl,rfl⟩,fun b z=>absurd z (o b),l.bs,l.FZ,fun b _ _=>o b,fun b z=>absurd z (o b),l.oH,l.Jf⟩,
  rfl,l.bare,Un.kept F,⟨_,x.toInCall.ns,fun i y v h1 h2 M=>?_⟩,fun y c h=>⟨_,x.cell y c h⟩,l.de.fresh (OE _),fun y c h=>?_,fun p t=>absurd (show p∈([]:List (Addr×Obj)) from t) (by simp),l.de.kept F,?_⟩
 .exact name_of_addr x.apart (Po h1) (Po h2)
 .have m:d.names.lookup y=some .cell\/d.names.lookup y=some .free:=m;rcases m with m | m;.exact AL m
  .exact absurd rfl (S.LN _ (Po m))
 .exact Rm (x.above y c (Po h))
 .have D:i<vs.length:=by
   unfold start at h2;by_cases D:i<vs.length;.exact D
   .rw[List.getElem?_append_right (by simpa using D)]at h2;rw[List.getElem?_replicate]at h2;split at h2<;>cases h2
  have ha:vs[i]?=some v:=by
   unfold start at h2;rw[Tt (by simpa using D),Qv]at h2;cases e:vs[i]? with
   | none=>rw[e]at h2;cases h2
   | some a=>rw[e]at h2;cases h2;rfl
  obtain⟨u,G,L⟩:=r.get ha;have t:ps[i]?=some y:=by rw[<-S.pre,List.getElem?_take_of_lt (by omega)];exact h1
  have B:ps.Nodup:=by rw[<-S.pre];exact S.nd.sublist (List.take_sublist _ _)
  refine⟨u,L,?_⟩;rcases S.par y (Qc t) with k | k;.exact .inl ⟨k,yw B t G k⟩
  .obtain⟨c,e⟩:=AL (n:=s.heap.objs.size+1) k;refine .inr ⟨.inl k,c,e,?_⟩;have q:=x.cell y c e;rw[xI B t G (by show d.names.lookup y≠_;rw[k];decide)]at q;exact q
 .exact l.de.fresh (Rm (x.above y c (Po h)))
 .unfold start;show _=N.length;rw[ON,O0,List.length_replicate];omega
theorem He{CX:Gp}{P:Program}{w:World}{K:PySem.W.Frag}{mg:Str->Option Value}{base:Heap}{k:Nat}{f:Addr}{name d:Str}{params:Arguments}{h:List Stmt}{a:Scope}{U kV p X g T oc:Value}{R od:Option Addr}
 {M:Array (Option Value)} {N ps:List Str} {sp:Sp} (lk:K.lookup f=some ⟨oc,od,.func (PySem.W.fnOf name d params h a U kV p X R g T),M⟩) (F:PySem.W.codeIn K g d=true) (S:jk N ps a)
 (D:∀ vs H Q E,sp vs H Q E->vs.length=ps.length)
 (l:∀ (A:Around) (c:List Env) (s:Shared) (H:Hp) (vs:List V) (Q:VK) (E:XK),dO k (A.deeper (envOfC d a s.heap.objs.size f g))->sp vs H Q E -> ∃ t,wH (o9 CX P w K mg base N d a f g A c s H E) h t/\t { nx:=fun _ j=>Q .ba j,rt:=Q } (start N vs) H):
 jD P w K mg base CX (k+1) f (PySem.W.fnOf name d params h a U kV p X R g T) ps sp:=by
 refine⟨D,fun A c s H args us vs Q E G z hb r C=>?_⟩;have hl:=D _ _ _ _ C;have KX:K.In s.heap:=z.mod.Lz.keeps fun b o e=>(z.bs b o e).1;have L:s.heap.NoLimit:=z.mod.nolimit.keeps fun b o e=>(z.bs b o e).1;have m:∀ y∈ps.zip us,a.names.lookup y.1=some .local\/(a.names.lookup y.1=some .cell/\((cellsFrom (s.heap.objs.size+1) a.names []).lookup y.1).isSome=true):=fun⟨n,v⟩ hy=>by
  rcases S.par n (TQ hy).1 with q | q;.exact .inl q
  .exact .inr ⟨q,T3 _ _ _ (.inl q)⟩
 refine codeAny_call_function G.depth (KX _ _ lk) rfl S.co S.gen rfl (PySem.W.codeRec_of KX F) (hb _ _ _ _ ?_);refine wpAny_newFunctionEnv_cells S.kind m fun Z he Y x=>?_;subst he;refine⟨L.keeps x.toInCall.keep,codeAny_func ?_⟩;obtain⟨t,ht,hq⟩:=l A c s H vs Q E (G.deeper _) C;have I:Inv (o9 CX P w K mg base N d a f g A c s H E) [] (start N vs) H Y:=FW S G.hd z hl r x;refine Qa (ht [] Y (start N vs) H _ I hq) (fun fl s' hs=>?_) fun e s' hs=>hs;have B:∀ {i:St} {j:Hp} {v:V} {u:Value},Inv (o9 CX P w K mg base N d a f g A c s H E) [] i j s'->RelV v u->Q v j->CE c P w H s Q u s':=fun {i j v u} J O q=>⟨v,j,J.os,J.bare,J.base,J.de,O,q⟩
 cases fl with
 | ret u=>obtain⟨v,i,j,J,O,q⟩:=hs;exact B J O q
 | next=>obtain⟨i,j,J,q⟩:=hs;exact B (v:=V.ba) (u:=Value.none) J rfl q
 | brk=>obtain⟨_,_,_,q⟩:=hs;exact False.elim q
 | cont=>obtain⟨_,_,_,q⟩:=hs;exact False.elim q
end L2
namespace L2
open PySem PySem.Spec PyProof.Rows
section
variable {X:Cx}{x:Str}{p z:Pos}{e:Expr}{es:List Expr}{t:TA}{y T:String}{r:List V->Hp->VK->Prop}
def Fl(r:List V->Hp->VK->Prop)(t:TA):TE:=fun b H Q=>t b H fun vs a=>r vs a Q
theorem aT(hc:jI X (.builtin y) r)(j:Gl X x)(k:X.mg x=none)(l:bootBuiltins x=some (.builtin y))(ha:PA X (e::es) t)(hn:x≠"__name__":=by decide)(b:(x==("__debug__":Str))=false:=by decide)
 (i:starEach (e::es) X.env=(false,eval e X.env)::starEach es X.env:=by rfl) (c:(backTo z (starEach es X.env)).any (·.1)=false:=by rfl):PE X (.Call (.Name x p) (e::es) [] z) (Fl r t):=by
 intro a s d H Q I h;refine Qr (lK I j k l ?_ hn b);exact PyProof.Rows.callWith_builtin1 (cj (ha z a s d H _ I h) fun us o ⟨vs,f,g,n,m⟩=>hc a o d f vs us Q g n m) i c
theorem fJ(hc:jI X (.type T) r)(j:Gl X x)(k:X.mg x=none)(l:bootBuiltins x=some (.type T))(ha:PA X (e::es) t)(hn:x≠"__name__":=by decide)(b:(x==("__debug__":Str))=false:=by decide)
 (i:starEach (e::es) X.env=(false,eval e X.env)::starEach es X.env:=by rfl) (c:(backTo z (starEach es X.env)).any (·.1)=false:=by rfl):PE X (.Call (.Name x p) (e::es) [] z) (Fl r t):=by
 intro a s d H Q I h;refine Qr (lK I j k l ?_ hn b);exact Qq (cj (ha z a s d H _ I h) fun us o ⟨vs,f,g,n,m⟩=>hc a o d f vs us Q g n m) i c
end
end L2
namespace HT
open PySem PyProof.Rows
section
variable {prog:Program}{w:World}{A:Around}{E:Value->Shared->Prop}{s:Shared}
def jv(n d:Nat):Option Int->Nat
 | none=>d
 | some v=>if v<0 then(v+(n:Int)).toNat else min v.toNat n
theorem qA(n d:Nat):jv n d none=d:=rfl
theorem lI(n d k:Nat):jv n d (some (k:Int))=min k n:=by show(if (k:Int)<0 then((k:Int)+(n:Int)).toNat else min (k:Int).toNat n)=min k n;rw[Ox (by omega),PL]
theorem IG(n d:Nat)(hd:d<=n)(o:Option Int):jv n d o<=n:=by
 cases o with
 | none=>exact hd
 | some v=>
   show(if v<0 then(v+(n:Int)).toNat else min v.toNat n)<=n;by_cases a:v<0;.rw[Oy a];omega
   .rw[Ox a];exact Nat.min_le_right _ _
end
end HT
namespace L2
open PySem PySem.Spec PyProof.Rows
abbrev TO:=St->Hp->(Option Int->Hp->Prop)->Prop
def PO(X:Cx)(e:Option Expr)(t:TO):Prop:=∀ (a:List (Addr×Obj)) (s:Shared) (b:St) (H:Hp) (Q:Option Int->Hp->Prop),Inv X a b H s->t b H Q -> wpAny (model X.prog X.w) X.A (evalPart e X.env) (fun u s'=>∃ o c,Inv X a b c s'/\IsPart u o/\Q o c) X.xe s
def y8:TO:=fun _ H Q=>Q none H
def EM(t:TE):TO:=fun b H Q=>t b H fun x a=>∃ i,x=.int i/\Q (some i) a
section
variable {X:Cx}{e:Expr}{p:TE}{z y:Option Expr}{o n:TO}{m k:Pos}
theorem jm:PO X none y8:=by intro a s b H Q I h;rw[evalPart_none];exact OK ⟨none,H,I,.none,h⟩
theorem bN(h:PE X e p):PO X (some e) (EM p):=by intro a s g H Q I hw;rw[evalPart_some];refine cj (h a s g H _ I hw) fun u j ⟨x,b,c,f,d⟩=>?_;obtain⟨i,rfl,q⟩:=d;obtain⟨t,rfl⟩:=f;exact⟨some i,b,c,.int i t,q⟩
def N7(X:Cx)(r:V->Option Int->Option Int->Hp->VK->Prop):Prop:=∀ (a:List (Addr×Obj)) (s:Shared) (f:St) (H:Hp) (x:V) (v c d:Value) (z y:Option Int) (b:Addr) (Q:VK),Inv X a f H s->RelV x v->s.heap.IsSliceOf b c d .none->IsPart c z->IsPart d y->r x z y H Q -> ∃ T g,typeLookup (.type T) "__getitem__"=pure (some (.builtin g))/\s.TypeIs v T/\wpAny (model X.prog X.w) X.A (getItem v (.ref b)) (EP X a f Q) X.xe s
def Nv(r:V->Option Int->Option Int->Hp->VK->Prop)(p:TE)(o n:TO):TE:=fun a H Q=>p a H fun x b=>o a b fun l c=>n a c fun u d=>r x l u d Q
theorem cF{r:V->Option Int->Option Int->Hp->VK->Prop}(L:N7 X r)(G:PE X e p)(hl:PO X z o)(N:PO X y n):PE X (.Subscript e (.Slice z y none k) m) (Nv r p o n):=by intro a s d H Q I h;refine Subscript_ (cj (G a s d H _ I h) fun v Z ⟨x,j,B,Y,R⟩=>?_);refine wpAny_Slice (cj (hl a Z d j _ B R) fun f s2 ⟨l,t,C,O,U⟩=>cj (N a s2 d t _ C U) fun g c ⟨u,i,D,P,W⟩=>?_);rw[evalPart_none];refine OK ?_;have E:Inv X a d i { c with heap:=c.heap.push { cls:=.type "slice",data:=.fields #[f,g,.none] } }:=D.kept (t':=c.toks) fun b ob q=>OD _ q;obtain⟨T,id,F,M,J⟩:=L a { c with heap:=c.heap.push { cls:=.type "slice",data:=.fields #[f,g,.none] } } d i x v f g l u c.heap.objs.size Q E Y (Heap.IsSliceOf.new ..) O P W;show wpAny (model X.prog X.w) X.A (subscriptTail e (.Slice z y none k) v (.ref c.heap.objs.size)) (EP X a d Q) X.xe { c with heap:=c.heap.push { cls:=.type "slice",data:=.fields #[f,g,.none] } };exact tail_any (ops:=[.ref c.heap.objs.size,v]) M F J (by with_unfolding_all rfl)
def oz(xs:List V)(z y:Option Int):List V:=(xs.drop (HT.jv xs.length 0 z)).take (HT.jv xs.length xs.length y - HT.jv xs.length 0 z)
theorem Bl(xs:List V)(z y:Option Int):(oz xs z y).length<=xs.length:=by unfold oz;rw[Pg,O6];omega
end
end L2
namespace L2
open PySem PySem.Spec PyProof.Rows
def KO(n:Nat)(i:Int):Option Nat:=if 0<=i then(if i<n then some i.toNat else none) else if -(n:Int)<=i then some (i+n).toNat else none
def AY{a:Type}(xs:List a)(i:Int):Option a:=(KO xs.length i).bind fun j=>xs[j]?
theorem Jm{n:Nat}{i:Int}{j:Nat}(h:KO n i=some j):seqIndex? i n=some j/\j<n/\-(n:Int)<=i/\i<n:=by
 unfold KO at h;by_cases a:0<=i
 .rw[Oy a]at h;by_cases h1:i<n;.rw[Oy h1]at h;have e:i.toNat=j:=OQ h;exact⟨by rw[seqIndex_of a h1,e],by omega,by omega,h1⟩
  .rw[Ox h1]at h;cases h
 .rw[Ox a]at h;by_cases h1:-(n:Int)<=i;.rw[Oy h1]at h;have e:(i+n).toNat=j:=OQ h;exact⟨by rw[seqIndex_neg (by omega) h1,e],by omega,h1,by omega⟩
  .rw[Ox h1]at h;cases h
theorem yP{a:Type}{xs:List a}{i:Int}{v:a}(h:AY xs i=some v):∃ j,seqIndex? i xs.length=some j/\xs[j]?=some v/\j<xs.length/\-(xs.length:Int)<=i/\i<xs.length:=by
 unfold AY at h;cases e:KO xs.length i with
 | none=>rw[e]at h;cases h
 | some j=>rw[e]at h;obtain⟨h1,h2,b,c⟩:=Jm e;exact⟨j,h1,h,h2,b,c⟩
theorem gW{a:Type}{xs:List a}{j:Nat}{v:a}(h:xs[j]?=some v):AY xs (j:Int)=some v:=by
 have b:j<xs.length:=(OV.mp h).1;have e:KO xs.length (j:Int)=some j:=by unfold KO;rw[Oy (by omega),Oy (by omega)];simp
 unfold AY;rw[e];exact h
theorem qT{a:Type}(xs:List a)(v:a):AY (xs++[v]) (-1)=some v:=by
 have hl:(xs++[v]).length=xs.length+1:=by simp
 have e:KO (xs++[v]).length (-1)=some xs.length:=by unfold KO;rw[hl,Ox (by decide),Oy (by omega)];congr 1;omega
 unfold AY;rw[e];show(xs++[v])[xs.length]?=some v;simp
def JN(b:Expr):Prop:=∀ o i,subscripted b false o i=operate [o,i] (getItem o i)
def Nn(X:Cx)(r:R2):Prop:=∀ (c a:Expr) (b:List (Addr×Obj)) (s:Shared) (d:St) (H:Hp) (x y:V) (v u:Value) (Q:VK),Inv X b d H s->RelV x v->RelV y u->r x y H Q -> subscripted a false v u=operate [v,u] (getItem v u)->wpAny (model X.prog X.w) X.A (subscriptTail c a v u) (EP X b d Q) X.xe s
def CZ(X:Cx)(c:String)(r:V->List V->Hp->VK->Prop):Prop:=∀ (a:List (Addr×Obj)) (s:Shared) (b:St) (H:Hp) (x:V) (xs:List V) (v:Value) (us:List Value) (Q:VK),Inv X a b H s->RelV x v->Vals xs us->r x xs H Q -> wpAny (model X.prog X.w) X.A (call (.builtin c) (v::us)) (EP X a b Q) X.xe s
section
variable {X:Cx}{a b:Expr}{U Y:TE}{Z:Pos}
theorem cT{r:R2}(g:Nn X r)(ha:PE X a U)(f:PE X b Y)(hs:JN b):PE X (.Subscript a b Z) (Cg r U Y):=by intro c s l H Q I h;exact Subscript_ (KZ ha f I h fun v u k x y d e i j q=>g a b c k l d x y v u Q e i j q (hs _ _))
def wW(K:PySem.W.Frag):R2:=fun x y H Q=>∃ p xs i v,x=.ref p/\y=.int i/\bB K H p xs/\AY xs i=some v/\Q v H
def Fb(K:PySem.W.Frag):R2:=fun x y H Q=>∃ p xs i v,x=.ref p/\y=.int i/\iJ K H p xs/\AY xs i=some v/\Q v H
def MZ:R2:=fun x y H Q=>∃ z i c,x=.str z/\y=.int i/\z.length<=sizeLine/\AY z.cps.toList i=some c/\Q (.str ⟨#[c]⟩) H
theorem ff:Nn X (wW X.K):=by
 intro m l c s A H x y v u Q I F G h hs;obtain⟨p,xs,i,z,rfl,rfl,E,D,q⟩:=h;cases F;obtain⟨t,rfl⟩:=G;obtain⟨f,r,g,L⟩:=I.list E;obtain⟨j,h1,h2,J,B,C⟩:=yP D;obtain⟨w,n,k⟩:=r.get h2;have hl:=r.length;have hn:=uW;have d:EP X c A Q w s:=⟨z,H,I,k,q⟩
 by_cases o:0<=i
 .have e:i.toNat=j:=by
   rw[seqIndex_of o C]at h1;exact OQ h1
  exact item_listR g.isList o (by omega) (by rw[e];simpa using n) d hs
 .have e:(i+(f.toArray.size:Int)).toNat=j:=by
   rw[seqIndex_neg (by omega) B]at h1;rw[O8,<-hl];exact OQ h1
  exact subscriptTail_builtinR (x:=w) g.isList.typeIs slot_list_getitem.lookup (wpAny_getItem_list_neg (Q:=fun r s'=>r=w/\EP X c A Q r s') g.isList (by omega) (by rw[O8]<;>omega) (by omega) (by rw[e];simpa using n) ⟨rfl,d⟩) hs
theorem gu:Nn X (Fb X.K):=by
 intro g f c s l H x y v u Q I B C h hs;obtain⟨p,xs,i,z,rfl,rfl,o,n,q⟩:=h;cases B;obtain⟨t,rfl⟩:=C;obtain⟨A,r,k,G⟩:=I.tuple o;obtain⟨j,h1,h2,D,E,F⟩:=yP n;obtain⟨w,m,e⟩:=r.get h2;have hl:=r.length;have hn:=uW;have d:EP X c l Q w s:=⟨z,H,I,e,q⟩
 exact subscriptTail_builtinR (x:=w) k.typeIs slot_tuple_getitem.lookup (getItem_tuple (j:=j) (Q:=fun r s'=>r=w/\EP X c l Q r s') k (by omega) (by omega) (by rw[O8,<-hl];exact h1) (by simpa using m) ⟨rfl,d⟩) hs
theorem z7:Nn X MZ:=by
 intro e d f s B H x y v u Q I o p h hs;obtain⟨z,i,c,rfl,rfl,w,n,q⟩:=h;obtain⟨t,rfl⟩:=o;obtain⟨A,rfl⟩:=p;obtain⟨j,h1,h2,r,l,m⟩:=yP n;have hl:z.cps.toList.length=z.length:=by simp[Str.length]
 rw[hl]at h1 l m;have hn:=uW;exact tail_any (Q5 s z t) slot_str_getitem.lookup (getItem_str (c:=c) (by have g:decide (i < -(2 ^ 63:Int))=false:=O3 (by omega);have k:decide (i≥2 ^ 63)=false:=O3 (by omega);rw[g,k,Bool.or_false]) (by rw[h1];simpa using h2) ⟨.str ⟨#[c]⟩,H,I.tok _,⟨_,rfl⟩,q⟩) hs
theorem Inv.lst{d:List (Addr×Obj)}{f:St}{H:Hp}{s:Shared}{p:Addr}{xs:List V}(I:Inv X d f H s)(h:H p=some (.lst xs)):
 ∃ (c:List Value) (n:Nat),Vals xs c/\s.heap.get? p=some { cls:=.type "list",data:=.seq c.toArray n }/\xs.length<=sizeLine:=by
 obtain⟨z,c,n,r,e⟩:=I.de p _ h;exact⟨c,n,r,e,z⟩
theorem zo(d c:Option Int)(n:Nat):(sliceBounds d c none n).1=((HT.jv n 0 d:Nat):Int)/\(sliceBounds d c none n).2.1=((HT.jv n n c:Nat):Int)/\(sliceBounds d c none n).2.2=1:=by
 refine⟨?_,?_,rfl⟩
 .cases d with
  | none=>simp[sliceBounds,HT.jv]
  | some i=>
    simp only[sliceBounds,HT.jv,Vb,show(1:Int)>0 by decide,Qz];by_cases h:i<0;.simp only[h,Qz]<;>omega
    .simp only[h,Ry]<;>omega
 .cases c with
  | none=>simp[sliceBounds,HT.jv]
  | some i=>
    simp only[sliceBounds,HT.jv,Vb,show(1:Int)>0 by decide,Qz];by_cases h:i<0;.simp only[h,Qz]<;>omega
    .simp only[h,Ry]<;>omega
theorem xg(c:List Value)(d e:Option Int):slicePick c.toArray d e none=((c.drop (HT.jv c.length 0 d)).take (HT.jv c.length c.length e - HT.jv c.length 0 d)).toArray:=by obtain⟨h1,h2,f⟩:=zo d e c.toArray.size;unfold slicePick;rw[h1,h2,f];simp only[sliceRange_one,pick_run,O8]<;>rfl
def Ko(K:PySem.W.Frag):V->Option Int->Option Int->Hp->VK->Prop:=fun x d c H Q=>∃ a xs,x=.ref a/\bB K H a xs/\∀ p,H p=none->Q (.ref p) (upd H p (.lst (oz xs d c)))
theorem ow:N7 X (Ko X.K):=by intro g s y H x v u w d e p Q I m hs k l h;obtain⟨a,xs,rfl,hx,q⟩:=h;cases m;obtain⟨j,r,f,i⟩:=I.list hx;have c:=r.length;refine⟨"list",_,slot_list_getitem.lookup,f.isList.typeIs,?_⟩;refine wpAny_getItem_list_slice f.isList hs k l .none (by simp) ?_ (by rw[O8]<;>omega);rw[xg,<-c];refine⟨.ref s.heap.objs.size,_,I.laid (t':=s.toks) (o:=.lst (oz xs d e)) (fun b n q=>OD _ q) (OE _) ?_,rfl,q _ (I.de.fresh (OE _))⟩;exact⟨O9 (Bl xs d e) i,_,0,(r.drop (HT.jv xs.length 0 d)).take (HT.jv xs.length xs.length e - HT.jv xs.length 0 d),OU _ rfl⟩
theorem aO:jI X (.builtin "len") (fun xs H Q=>∃ p d,xs=[.ref p]/\(bB X.K H p d\/iJ X.K H p d)/\Q (.int d.length) H):=by
 intro j s m H xs us Q I r h;obtain⟨p,d,rfl,e,q⟩:=h;obtain⟨u,rfl,l⟩:=vals1 r;cases l;have hn:=uW;rcases e with e | e
 .obtain⟨f,i,g,k⟩:=I.list e;have c:=i.length;exact Calls.call_len_list g.isList (by simp only[O8]<;>omega) ⟨.int d.length,H,I.tok _,⟨s.toks+1,by rw[O8,c]⟩,q⟩
 .obtain⟨f,i,g,k⟩:=I.tuple e;have c:=i.length;exact len_tuple g (by simp only[O8]<;>omega) ⟨.int d.length,H,I.tok _,⟨s.toks+1,by rw[O8,c]⟩,q⟩
theorem hF:jI X (.builtin "len") (fun xs H Q=>∃ z,xs=[.str z]/\z.length<=sizeLine/\Q (.int z.length) H):=by intro c s e H xs us Q I r h;obtain⟨z,rfl,d,q⟩:=h;obtain⟨u,rfl,t,rfl⟩:=vals1 r;have hn:=uW;exact len_str (by omega) ⟨.int z.length,H,I.tok _,⟨_,rfl⟩,q⟩
theorem kC:jI X (.type "tuple") (fun xs H Q=>∃ p f,xs=[.ref p]/\((bB X.K H p f/\∀ l,H l=none->Q (.ref l) (upd H l (.tup f)))\/(iJ X.K H p f/\Q (.ref p) H))):=by
 intro c s v H xs us Q I r h;obtain⟨p,f,rfl,h⟩:=h;obtain⟨u,rfl,z⟩:=vals1 r;cases z;rcases h with⟨i,q⟩ | ⟨i,q⟩
 .obtain⟨d,k,j,t⟩:=I.list i;have n:=k.length;refine call_tuple_list j.isList (fun g y=>?_) (by simp only[O8]<;>omega);have m:Inv X c v H { s with heap:=g }:=I.kept (t':=s.toks) y;have x:Inv X c v (upd H g.objs.size (.tup f)) { s with heap:=g.push { cls:=.type "tuple",data:=.seq d.toArray } }:=
   m.laid (t':=s.toks) (fun b o e=>OD _ e) (OE _) (show cG X.prog X.w _ _ _ (.tup f) from⟨t,d,k,IsTup.new _ _⟩)
  exact⟨.ref g.objs.size,_,x,rfl,q _ (m.de.fresh (OE _))⟩
 .obtain⟨d,k,j,t⟩:=I.tuple i;exact call_tuple_same j ⟨.ref p,H,I,rfl,q⟩
def Mi(K:PySem.W.Frag)(T:String)(x:V)(H:Hp):Prop:=match x with
 | .str _=>T="str"
 | .int _=>T="int"
 | .ref p=>(T="list"/\∃ xs,bB K H p xs)\/(T="tuple"/\∃ o,K.lookup p=some o/\o.cls=.type "tuple"/\o.dict=none) \/ (T="dict"/\((∃ c,H p=some (.dK c))\/∃ c,H p=some (.dT c)))\/(T="set"/\∃ S n,H p=some (.set S n))
 | _=>False
theorem Hd{g:List (Addr×Obj)}{w:St}{H:Hp}{s:Shared}{T:String}{x:V}{v:Value}(I:Inv X g w H s)(r:RelV x v)(h:Mi X.K T x H):
 s.TypeIs v T/\∀ a,v=.ref a->∃ l,s.heap.get? a=some l/\l.dict=none:=by
 cases x with
 | str z=>obtain⟨t,rfl⟩:=r;cases (show T="str" from h);exact⟨Q5 s z t,fun _ e=>nomatch e⟩
 | int i=>obtain⟨t,rfl⟩:=r;cases (show T="int" from h);exact⟨typeIs_int s i t,fun _ e=>nomatch e⟩
 | ref p=>
   cases r;rcases h with⟨rfl,xs,q⟩ | ⟨rfl,o,d,hc,hd⟩ | ⟨rfl,d⟩ | ⟨rfl,S,n,d⟩
   .obtain⟨u,_,m,_⟩:=I.list q;refine⟨m.isList.typeIs,fun a e=>?_⟩;cases e;obtain⟨o,n,e,c,hd,_⟩:=m;exact⟨o,e,hd⟩
   .refine⟨⟨o,I.lZ p o d,hc⟩,fun a e=>?_⟩;cases e;exact⟨o,I.lZ _ o d,hd⟩
   .have z:∃ o,s.heap.get? p=some o/\o.ExactDict:=by
     rcases d with⟨k,d⟩ | ⟨k,d⟩;.obtain⟨_,_,_,_,o,_,_,e,f,_⟩:=I.de p _ d;exact⟨o,e,f⟩
     .obtain⟨_,_,_,_,o,_,_,e,f,_⟩:=I.de p _ d;exact⟨o,e,f⟩
    obtain⟨o,e,f⟩:=z;refine⟨⟨o,e,f.1⟩,fun a j=>?_⟩;cases j;exact⟨o,e,f.2.1⟩
   .obtain⟨o,_,_,_,e,f,_⟩:=I.de p _ d;refine⟨⟨o,e,f.1⟩,fun a j=>?_⟩;cases j;exact⟨o,e,f.2.1⟩
 | _=>exact False.elim h
def zW(K:PySem.W.Frag)(T:String)(r:V->List V->Hp->VK->Prop)(f:TE):TE:=fun d H Q=>f d H fun x c=>Mi K T x c/\r x [] c Q
def GF(K:PySem.W.Frag)(T:String)(r:V->List V->Hp->VK->Prop)(f:TE)(t:TA):TE:=fun d H Q=>f d H fun x c=>Mi K T x c/\t d c fun xs e=>r x xs e Q
variable {o e:Expr}{es:List Expr}{f:TE}{t:TA}{k:Str}{g m:Pos}{T d:String}{r:V->List V->Hp->VK->Prop}
theorem CL(A:PlainAttrs T)(l:Slot T k d)(n:typeOf (.builtin d)=pure (.type "method_descriptor"))(y:CZ X d r)(z:PE X o f)
 (i:attributeBase o k X.env (eval o X.env)=eval o X.env:=by rfl) (j:(g.endLine==m.line)=true:=by rfl):PE X (.Call (.Attribute o k g) [] [] m) (zW X.K T r f):=by
 intro c s u H Q I h;refine wpAny_Call_method0_late i j (cj (z c s u H _ I h) fun v C ⟨x,w,p,q,D,B⟩=>?_);obtain⟨h1,h2⟩:=Hd p q D;exact⟨T,d,A,l,n,h1,h2,PR rfl (RQ (y c C u w x [] v [] Q p q .nil B))⟩
theorem df(F:PlainAttrs T)(p:Slot T k d)(q:typeOf (.builtin d)=pure (.type "method_descriptor"))(D:CZ X d r)(E:PE X o f)(ha:PA X (e::es) t)
 (j:attributeBase o k X.env (eval o X.env)=eval o X.env:=by rfl)
 (n:((backTo m (starEach (e::es) X.env)).all (fun x=>!x.1)&&(backToKw m (keywordEach [] X.env)).all (fun x=>x.1.isSome) && decide ((e::es).length+([]:List Keyword).length+(if ([]:List Keyword).isEmpty then 0 else 1)<30))=true:=by rfl)
 (l:(g.endLine==m.line)=true:=by rfl) (hs:starEach (e::es) X.env=(false,eval e X.env)::starEach es X.env:=by rfl) (i:(backTo m (starEach es X.env)).any (·.1)=false:=by rfl):
 PE X (.Call (.Attribute o k g) (e::es) [] m) (GF X.K T r f t):=by
 intro c s u H Q I h;refine wpAny_Call_method_late j n l rfl (cj (E c s u H _ I h) fun v M ⟨x,A,w,z,O,G⟩=>?_);obtain⟨h1,h2⟩:=Hd w z O;refine⟨T,d,F,p,q,h1,h2,?_⟩;have y:=ha m c M u A _ w G;rw[hs]at y |-;refine PR (by show(false || (backTo m (starEach es X.env)).any (·.1))=false;rw[i]<;>rfl) (QF ?_);exact cj y fun us N ⟨vs,B,C,L,J⟩=>D c N u B x vs v us Q C z L J
end
end L2
namespace L2
open PySem PySem.Spec PyProof.Rows
def N8(X:Cx)(c:String)(r:V->List V->Hp->VK->Prop):Prop:=∀ (a:List (Addr×Obj)) (s:Shared) (b:St) (H:Hp) (x:V) (xs:List V) (v:Value) (us:List Value) (Q:VK),Inv X a b H s->RelV x v->Vals xs us->r x xs H Q -> wpAny (model X.prog X.w) X.A (call (.builtin c) (v::us)) (EP X a b Q) X.xe s
theorem Vals.one:∀ {x:V} {us:List Value},Vals [x] us->∃ u,us=[u]/\RelV x u | _,_,.cons r .nil=>⟨_,rfl,r⟩
theorem Vals.two:∀ {x y:V} {us:List Value},Vals [x,y] us->∃ u v,us=[u,v]/\RelV x u/\RelV y v | _,_,_,.cons r (.cons q .nil)=>⟨_,_,rfl,r,q⟩
theorem Vals.zero:∀ {us:List Value},Vals [] us->us=[] | _,.nil=>rfl
theorem Vals.dropLast{xs:List V}{us:List Value}(h:Vals xs us):Vals xs.dropLast us.dropLast:=by
 induction h with
 | nil=>exact .nil
 | cons r t a=>
   cases t with
   | nil=>exact .nil
   | cons q b=>exact .cons r a
theorem Vals.eraseIdx:∀ {xs:List V} {us:List Value} (i:Nat),Vals xs us->Vals (xs.eraseIdx i) (us.eraseIdx i)
 | _,_,_,.nil=>.nil
 | _,_,0,.cons _ t=>t
 | _,_,i+1,.cons r t=>.cons r (Vals.eraseIdx i t)
theorem Vals.reverse{xs:List V}{us:List Value}(h:Vals xs us):Vals xs.reverse us.reverse:=by
 induction h with
 | nil=>exact .nil
 | cons r t a=>rw[R4,R4];exact Vals.append a (.cons r .nil)
theorem Vals.rep{xs:List V}{us:List Value}(h:Vals xs us):∀ k:Nat,Vals (List.replicate k xs).flatten (List.replicate k us).flatten
 | 0=>.nil
 | k+1=>by rw[UB,UB,Tn,Tn];exact Vals.append h (Vals.rep h k)
theorem Cp{d:Type}(l:List d):l.eraseIdx (l.length - 1)=l.dropLast:=by
 induction l with
 | nil=>rfl
 | cons a r c=>
   cases r with
   | nil=>rfl
   | cons b r=>
     have e:(a::b::r).length - 1=((b::r).length - 1)+1:=by have h1:(a::b::r).length=r.length+2:=rfl;have h2:(b::r).length=r.length+1:=rfl;omega
     rw[e,List.eraseIdx_cons_succ,c]
     all_goals rfl
section
variable {X:Cx}{y:List (Addr×Obj)}{w:St}{H:Hp}{s:Shared}{l b:Addr}{t v p:List V}
theorem Inv.LB{a its':List Value}{n:Nat}{f:Array Value->Array Value}{j:Nat}(I:Inv X y w H s)(c:H l=some (.lst t))
 (e:s.heap.get? l=some { cls:=.type "list",data:=.seq a.toArray n }) (hf:f a.toArray=its'.toArray) (h:Vals v its') (i:v.length<=sizeLine):
 Inv X y w (upd H l (.lst v)) { s with heap:=s.heap.update l (Obj.mapSeq f),toks:=j }:=by
 have q:=PySem.IsL.update e f;rw[hf]at q;refine I.write (x:=l) (e:=l) (by rw[c];exact trivial) (.inl rfl) (fun k u d g=>(Py s.heap (Obj.mapSeq f) (OL d)).trans g) ⟨_,q⟩ ?_;exact⟨i,its',_,h,q⟩
theorem Inv.NJ{a:List Value}{t':Nat}(I:Inv X y w H s)(c:Vals v a)(d:v.length<=sizeLine):
 Inv X y w (upd H s.heap.objs.size (.lst v)) { s with heap:=s.heap.push { cls:=.type "list",data:=.seq a.toArray },toks:=t' }:=
 I.laid (fun _ _ q=>OD _ q) (OE _) ⟨d,a,0,c,OU _ rfl⟩
theorem Inv.fresh(I:Inv X y w H s):H s.heap.objs.size=none:=I.de.fresh (OE _)
theorem Inv.F1(I:Inv X y w H s)(c:H l=some (.lst t)):t.length<=sizeLine/\∃ (a:List Value) (n:Nat),Vals t a/\t.length=a.length/\s.heap.get? l=some { cls:=.type "list",data:=.seq a.toArray n }:=by obtain⟨z,a,n,r,e⟩:=I.de l _ c;exact⟨z,a,n,r,r.length,e⟩
theorem Hr{n:Nat}(h:n<=sizeLine):Builtin.List.listTooLong n=false:=by unfold Builtin.List.listTooLong;exact O3 (by omega)
end
section
variable {X:Cx}
def gm:V->List V->Hp->VK->Prop:=fun x vs H Q=>∃ l xs y,x=.ref l/\vs=[y]/\H l=some (.lst xs)/\xs.length<sizeLine/\Q .ba (upd H l (.lst (xs++[y])))
theorem bw:N8 X "list.append" gm:=by intro d s k H x vs v us Q I i g h;obtain⟨l,xs,y,rfl,rfl,b,j,q⟩:=h;cases i;obtain⟨u,rfl,f⟩:=g.one;obtain⟨z,a,n,r,hl,e⟩:=I.F1 b;refine R0 F.slot_list_append ⟨_,e,rfl⟩ F.entry_list_append (F.args_list_append_2 _ _) (PySem.list_append l a.toArray n u (by rw[O8];omega)) ⟨e,?_⟩;refine⟨.ba,_,I.LB (its':=a++[u]) b e (by simp) (r.append (.cons f .nil)) ?_,rfl,q⟩;rw[ON,List.length_singleton];omega
def jr:V->List V->Hp->VK->Prop:=fun x vs H Q=>∃ l b xs a,x=.ref l/\vs=[.ref b]/\H l=some (.lst xs)/\H b=some (.lst a)/\xs.length+a.length<=sizeLine/\Q .ba (upd H l (.lst (xs++a)))
theorem fF:N8 X "list.extend" jr:=by
 intro j s E H x vs v us Q I A y h;obtain⟨l,b,xs,D,rfl,rfl,g,m,B,q⟩:=h;cases A;obtain⟨u,rfl,w⟩:=y.one;cases w;obtain⟨z,c,n,r,hl,e⟩:=I.F1 g;obtain⟨C,a,p,t,o,k⟩:=I.F1 m;have f:c.toArray.size+a.toArray.size<=sizeLine:=by rw[O8,O8];omega
 have d:¬ (!c.toArray.isEmpty&&Builtin.List.listTooLong (c.toArray.size+a.toArray.size))=true:=by rw[Hr f,Bool.and_false];exact Pe
 refine R0 F.slot_list_extend ⟨_,e,rfl⟩ F.entry_list_extend (F.args_list_extend_2 _ _) (AutoSeq1.list_extend_list_list_0 l c.toArray n b a.toArray p d (by rw[O8];omega) (by omega)) ⟨e,k,?_⟩;refine⟨.ba,_,I.LB (its':=c++a) g e (by simp) (r.append t) ?_,rfl,q⟩;rw[ON];omega
def zL:V->List V->Hp->VK->Prop:=fun x vs H Q=>∃ l xs y,x=.ref l/\vs=[]/\H l=some (.lst xs)/\xs[xs.length - 1]?=some y/\Q y (upd H l (.lst xs.dropLast))
theorem Dd:N8 X "list.pop" zL:=by
 intro g s p H x vs v us Q I o m h;obtain⟨l,xs,y,rfl,rfl,d,j,q⟩:=h;cases o;have b:=m.zero;subst b;obtain⟨z,a,n,r,hl,e⟩:=I.F1 d;obtain⟨u,i,k⟩:=r.get j;have c:a.toArray[a.toArray.size - 1]?=some u:=by show a.toArray[a.length - 1]?=some u;rw[<-RF,<-hl];exact i
 refine R0 F.slot_list_pop ⟨_,e,rfl⟩ F.entry_list_pop (F.args_list_pop_1 _) (MeetsSeq.list_pop_last l a.toArray n u c (by rw[O8];omega)) ⟨e,?_⟩;refine⟨y,_,I.LB (its':=a.dropLast) d e ?_ r.dropLast ?_,k,q⟩;.show a.toArray.eraseIdxIfInBounds (a.toArray.size - 1)=a.dropLast.toArray;rw[O8,List.eraseIdxIfInBounds_toArray,Cp]
 .rw[Ri];omega
def M9:R2:=fun x y H Q=>∃ l b xs a,x=.ref l/\y=.ref b/\H l=some (.lst xs)/\H b=some (.lst a)/\xs.length+a.length<=sizeLine/\∀ p,H p=none->Q (.ref p) (upd H p (.lst (xs++a)))
theorem C5:pb X (binaryOp .Add) M9:=by
 intro d s D H x y v u Q I o p h;obtain⟨l,b,xs,C,rfl,rfl,j,i,t,q⟩:=h;cases o;cases p;obtain⟨z,c,n,r,hl,e⟩:=I.F1 j;obtain⟨B,a,w,m,k,f⟩:=I.F1 i;refine PySem.P.add_list e f ?_ (by rw[O8,O8];omega);have g:c.toArray++a.toArray=(c++a).toArray:=by simp
 rw[g];exact⟨.ref _,_,I.NJ (t':=s.toks) (r.append m) (by rw[ON];omega),rfl,q _ I.fresh⟩
end
end L2
namespace L2
open PySem PySem.Spec PyProof.Rows
theorem Vals.ints:∀ {a:List Int} {us:List Value},Vals (a.map V.int) us->IntsAre us a
 | [],us,h=>by rw[PX]at h;cases h;exact IntsAre.nil
 | n::a,us,h=>by
   rw[OP]at h;cases h with
   | cons r t=>obtain⟨k,rfl⟩:=r;exact IntsAre.cons n k (Vals.ints t)
theorem Vals.strs:∀ {xs:List Str} {us:List Value},Vals (xs.map V.str) us->StrsAre us xs
 | [],us,h=>by rw[PX]at h;cases h;exact StrsAre.nil
 | x::xs,us,h=>by
   rw[OP]at h;cases h with
   | cons r t=>obtain⟨k,rfl⟩:=r;exact StrsAre.cons x k (Vals.strs t)
theorem Vals.ND:∀ {a:List Bool} {us:List Value},Vals (a.map V.bl) us->us=a.map Value.bool
 | [],us,h=>by rw[PX]at h;cases h;rfl
 | b::a,us,h=>by
   rw[OP]at h;cases h with
   | cons r t=>cases r;rw[Vals.ND t,OP]
theorem Vals.Ld{a:Addr}{us:List Value}(r:Vals [V.ref a] us):us=[Value.ref a]:=by
 cases r with
 | cons r t=>cases t;cases r;rfl
section
variable {prog:Program}{w:World}{A:Around}{E:Value->Shared->Prop}{s:Shared}{l:Addr}{z:List Value}{ns:List Int}{Q:Value->Shared->Prop}
theorem J8(g:A.handled=none)(hl:s.heap.IsList l z.toArray)(f:IntsAre z ns)
 (h:∀ a d c,(∀ b o,s.heap.get? b=some o->a.get? b=some o)->Q (.int ns.sum c) { s with heap:=a,toks:=d }):wpAny (model prog w) A (call (.builtin "sum") [.ref l]) Q E s:=by
 obtain⟨xs,e⟩:=f.allInts.items;have hn:numsOf (intItems xs).toList=ns:=by rw[<-e];exact f.numsOf
 rw[nums_intItems]at hn;rw[e]at hl;refine PySem.sum_intListG g hl fun a d c i=>?_;have:=h a d c i;rw[preSum_eq,PU (by simp),hn];exact this
end
section
variable {X:Cx}
def MH(K:PySem.W.Frag):List V->Hp->VK->Prop:=fun vs H Q=>∃ (a:Addr) (b:List Int),vs=[V.ref a]/\bB K H a (b.map V.int)/\Q (.int b.sum) H
theorem Lp(hc:X.calm=true):jI X (.builtin "sum") (MH X.K):=by intro b s k H vs us Q I r h;obtain⟨a,g,rfl,hs,q⟩:=h;obtain⟨d,e,hl,_⟩:=I.list hs;rw[Vals.Ld r];exact J8 (I.ok.hd hc) hl.isList e.ints fun f j i c=>⟨.int _,H,I.kept c,⟨_,rfl⟩,q⟩
end
theorem A6{prog:Program}{w:World}{A:Around}{E:Value->Shared->Prop}{s:Shared}{l:Addr}{b:Array Value}{Q:Value->Shared->Prop}(hl:s.heap.IsList l b)
 (h:∀ a:Shared,a={ s with heap:=s.heap.push { cls:=.type "list_iterator",data:=.fields #[.ref l,.int 0 0] } } -> (a.heap.IsListIter s.heap.objs.size l 0/\a.heap.IsList l b)->l≠s.heap.objs.size->Q (.ref s.heap.objs.size) a):wpAny (model prog w) A (pyIter (.ref l)) Q E s:=by
 have c:l<s.heap.objs.size:=by obtain⟨_,e,_⟩:=hl;exact OY e
 exact Rz hl (h _ rfl ⟨⟨_,OU _ rfl,rfl,rfl⟩,hl.push _⟩ (Pr c))
theorem sN{prog:Program}{w:World}{A:Around}{f:List Bool}{a:List Value}(e:a=f.map Value.bool):
 TruthOf prog w A (fun i v=>a.toArray[i]?=some v) (fun i=>f.getD i false):=fun i v s Q E k j=>by
 have d:a[i]?=some v:=by simpa using k
 rw[e,Qv]at d;obtain⟨b,g,rfl⟩:=OI.mp d;have h:f.getD i false=b:=by rw[List.getD_eq_getElem?_getD,g]<;>rfl
 have c:Q (f.getD i false) s:=j;rw[h]at c;exact Qi c
theorem any_range:∀ a:List Bool,(List.range a.length).any (fun i=>a.getD i false)=a.any id
 | []=>rfl
 | b::a=>by
   rw[OB,T5,Se,List.any_map,Se,<-any_range a]
   all_goals rfl
theorem all_range:∀ a:List Bool,(List.range a.length).all (fun i=>a.getD i false)=a.all id
 | []=>rfl
 | b::a=>by
   rw[OB,T5,RN,RV,RN,<-all_range a]
   all_goals rfl
section
variable {X:Cx}
def MF(K:PySem.W.Frag):List V->Hp->VK->Prop:=fun vs H Q=>∃ (a:Addr) (b:List Bool),vs=[V.ref a]/\bB K H a (b.map V.bl)/\Q (.bl (b.any id)) H
def M6(K:PySem.W.Frag):List V->Hp->VK->Prop:=fun vs H Q=>∃ (a:Addr) (b:List Bool),vs=[V.ref a]/\bB K H a (b.map V.bl)/\Q (.bl (b.all id)) H
theorem Lq(hc:X.calm=true):jI X (.builtin "any") (MF X.K):=by
 intro i s w H vs us Q I r h;obtain⟨a,t,rfl,hs,q⟩:=h;obtain⟨e,n,hl,_⟩:=I.list hs;rw[Vals.Ld r];have g:=n.ND;refine call_any_walk (A6 hl.isList fun j l p d=>?_);subst l;refine⟨_,_,_,_,_,_,_,rfl,Walks.list (A:=X.A.in1) (I.ok.hd hc) _ a d e.toArray,p,sN g,fun u v m=>?_⟩;refine⟨.bl _,H,I.kept fun b o f=>m b o (fun c=>?_) (OD _ f),?_,q⟩
 .rcases OA.mp c with k | c;.exact absurd (k▸OY f) (QC _)
  .cases c
 .show Value.bool _=Value.bool _;rw[<-any_range,g,O8,O0]
theorem Hv(hc:X.calm=true):jI X (.builtin "all") (M6 X.K):=by
 intro i s w H vs us Q I r h;obtain⟨a,t,rfl,hs,q⟩:=h;obtain⟨e,n,hl,_⟩:=I.list hs;rw[Vals.Ld r];have g:=n.ND;refine call_all_walk (A6 hl.isList fun j l p d=>?_);subst l;refine⟨_,_,_,_,_,_,_,rfl,Walks.list (A:=X.A.in1) (I.ok.hd hc) _ a d e.toArray,p,sN g,fun u v m=>?_⟩;refine⟨.bl _,H,I.kept fun b o f=>m b o (fun c=>?_) (OD _ f),?_,q⟩
 .rcases OA.mp c with k | c;.exact absurd (k▸OY f) (QC _)
  .cases c
 .show Value.bool _=Value.bool _;rw[<-all_range,g,O8,O0]
end
mutual
inductive Dp (K:PySem.W.Frag) (H:Hp):V->PyData->Prop
 | ba:Dp K H .ba .none
 | bl (b:Bool):Dp K H (.bl b) (.bool b)
 | int (i:Int):Dp K H (.int i) (.int i)
 | str (x:Str):Dp K H (.str x) (.str x)
 | lst {a:Addr} {xs:List V} {ds:List PyData}:bB K H a xs->yo K H xs ds->Dp K H (.ref a) (.list ds)
 | tup {a:Addr} {xs:List V} {ds:List PyData}:iJ K H a xs->yo K H xs ds->Dp K H (.ref a) (.tuple ds)
inductive yo (K:PySem.W.Frag) (H:Hp):List V->List PyData->Prop
 | nil:yo K H [] []
 | cons {v:V} {vs:List V} {d:PyData} {ds:List PyData}:Dp K H v d->yo K H vs ds->yo K H (v::vs) (d::ds)
end
section
variable {X:Cx}{z:List (Addr×Obj)}{y:St}{H:Hp}{s:Shared}
mutual
theorem Dp.reads(I:Inv X z y H s):∀ (d:PyData) (v:V) (u:Value),Dp X.K H v d->RelV v u->∃ as,Reads s.heap u d as
 | .none,_,_,h,r=>by cases h;cases r;exact⟨_,Reads.none⟩
 | .bool b,_,_,h,r=>by cases h;cases r;exact⟨_,Reads.bool b⟩
 | .int i,_,_,h,r=>by cases h;obtain⟨t,rfl⟩:=r;exact⟨_,Reads.int i t⟩
 | .str x,_,_,h,r=>by cases h;obtain⟨t,rfl⟩:=r;exact⟨_,Reads.str x t⟩
 | .list ds,_,_,h,r=>by
   cases h with
   | lst hs ha=>cases r;obtain⟨its,rv,⟨o,n,ho,hc,_,hd⟩,_⟩:=I.list hs;obtain⟨as,hr⟩:=Dp.readsAll I ds _ its ha rv;exact⟨_,Reads.list ho hc hd hr⟩
 | .tuple ds,_,_,h,r=>by
   cases h with
   | tup hs ha=>cases r;obtain⟨its,rv,⟨o,ho,hc,n,hd⟩,_⟩:=I.tuple hs;obtain⟨as,hr⟩:=Dp.readsAll I ds _ its ha rv;exact⟨_,Reads.tuple ho hc hd hr⟩
 | .dict _,_,_,h,_=>by cases h
theorem Dp.readsAll(I:Inv X z y H s):∀ (ds:List PyData) (vs:List V) (us:List Value),yo X.K H vs ds->Vals vs us->∃ as,ReadsAll s.heap us ds as
 | [],_,_,h,r=>by cases h;cases r;exact⟨_,ReadsAll.nil⟩
 | d::ds,_,_,h,r=>by
   cases h with
   | cons h1 h2=>
     cases r with
     | cons r1 r2=>obtain⟨as,q1⟩:=Dp.reads I d _ _ h1 r1;obtain⟨bs,q2⟩:=Dp.readsAll I ds _ _ h2 r2;exact⟨_,ReadsAll.cons q1 q2⟩
end
end
end L2
namespace L2
open PySem PySem.Spec PyProof.Rows
abbrev IW(h:Heap)(c:Addr)(v:Option Value):Prop:=h.IsCell c v
def NX(a sc:Scope):Scope:={ a with names:=a.names.map fun(n,k)=>if (k==.free&&sc.kind==.function&&sc.names.lookup n==some .cell) then(n,.cell) else(n,k) }
def cB(a:List (Str×Addr)):List (Str×NameKind)->List (Str×Addr)->List (Str×Addr)
 | [],acc=>acc
 | (n,k)::r,acc=>if k==.free then cB a r ((n,(a.lookup n).getD 0)::acc) else cB a r acc
theorem qe(g:Env)(f:Str×NameKind->List (Str×Addr)->Sem (ForInStep (List (Str×Addr))))
 (hf:∀ n k c,f (n,k) c=if k==.free then(do let a <-cellOf g n;pure (.yield ((n,a)::c))) else pure (.yield c)):
 ∀ (b:List (Str×NameKind)) (d:List (Str×Addr)),(∀ y∈b,y.2=.free->∃ c,g.cells.lookup y.1=some c)->forIn b d f=pure (cB g.cells b d)
 | [],d,_=>by rw[List.forIn_nil];rfl
 | (n,k)::r,d,h=>by
   rw[List.forIn_cons,hf];have j:=fun d=>qe g f hf r d fun y m=>h y (OM _ m);unfold cB;by_cases i:(k==NameKind.free)=true
   .rw[Oy i,Oy i];obtain⟨c,hc⟩:=h (n,k) O2 (by simpa using i);have e:cellOf g n=pure c:=by unfold cellOf;rw[hc]
    rw[e];have l:(g.cells.lookup n).getD 0=c:=by rw[hc];rfl
    rw[l];exact j _
   .rw[Ox i,Ox i];exact j _
theorem C0{a:Scope}{b:Env}(h:∀ y∈a.names,y.2=.free->∃ c,b.cells.lookup y.1=some c):closureFor a b=pure (cB b.cells a.names []):=by simp only[closureFor];rw[qe b _ (fun n k c=>rfl) a.names [] h];rfl
theorem mem_lookup{a:Type}:∀ {l:List (Str×a)} {n:Str} {c:a},(n,c)∈l->∃ b,l.lookup n=some b
 | (k,v)::r,n,c,h=>by
   rw[Q3];cases d:n==k with
   | true=>exact⟨_,rfl⟩
   | false=>
     rcases OA.mp h with e | h;.cases e;simp at d
     .exact mem_lookup h
theorem kh{a:List (Str×Addr)}:∀ {b:List (Str×NameKind)} {d:List (Str×Addr)} {n:Str} {c:Addr},(n,c)∈cB a b d->(n,c)∈d\/((n,.free)∈b/\c=(a.lookup n).getD 0)
 | [],_,_,_,h=>.inl h
 | (m,k)::r,d,n,c,h=>by
   unfold cB at h;split at h
   .rename_i f;have f:k=.free:=by simpa using f
    rcases kh h with h | ⟨h1,h2⟩
    .rcases OA.mp h with e | h;.cases e;exact .inr ⟨f▸O2,rfl⟩
     .exact .inl h
    .exact .inr ⟨OM _ h1,h2⟩
   .rcases kh h with h | ⟨h1,h2⟩;.exact .inl h
    .exact .inr ⟨OM _ h1,h2⟩
theorem nN{b:List (Str×Addr)}:∀ {c:List (Str×NameKind)} {a:List (Str×Addr)} {p:Str×Addr},p∈a->p∈cB b c a
 | [],_,_,h=>h
 | (m,k)::r,a,p,h=>by
   unfold cB;split;.exact nN (OM _ h)
   .exact nN h
theorem mQ{cells:List (Str×Addr)}:∀ {a:List (Str×NameKind)} {acc:List (Str×Addr)} {n:Str},(n,.free)∈a->(n,(cells.lookup n).getD 0)∈cB cells a acc
 | (m,k)::r,acc,n,h=>by
   unfold cB;rcases OA.mp h with e | h;.cases e;exact nN O2
   .split;.exact mQ h
    .exact mQ h
theorem kT:∀ {a:List (Str×NameKind)} {h:Heap} {b:List (Str×Addr)} {x:Str} {c:Addr},(x,c)∈cellsFrom h.objs.size a b ->
 (x,c)∈b\/((x,.cell)∈a/\h.objs.size<=c/\IW (pushCells h a) c none)
 | [],_,_,_,_,h=>.inl h
 | (n,k)::r,h,b,x,c,hm=>by
   unfold cellsFrom at hm;unfold pushCells;split at hm
   .rename_i d;rw[Oy d];have d:k=.cell:=by simpa using d
    rw[<-PD h { cls:=.type "cell",data:=.cell none }]at hm;rcases kT hm with hm | ⟨h1,h2,f⟩
    .rcases OA.mp hm with e | hm;.cases e;exact .inr ⟨d▸O2,OE _,_,Sx r _ _ _ (OU _ rfl),rfl⟩
     .exact .inl hm
    .rw[PD]at h2;exact .inr ⟨OM _ h1,R5 h2,f⟩
   .rename_i d;rw[Ox d];rcases kT hm with hm | ⟨h1,h2,f⟩;.exact .inl hm
    .exact .inr ⟨OM _ h1,h2,f⟩
theorem nY:∀ {names:List (Str×NameKind)} {n:Nat} {a:List (Str×Addr)} {p:Str×Addr},p∈a->p∈cellsFrom n names a
 | [],_,_,_,h=>h
 | (m,k)::r,n,a,p,h=>by
   unfold cellsFrom;split;.exact nY (OM _ h)
   .exact nY h
theorem rD:∀ {a:List (Str×NameKind)} {n:Nat} {acc:List (Str×Addr)} {x:Str},(x,.cell)∈a->∃ c,(x,c)∈cellsFrom n a acc
 | (m,k)::r,n,acc,x,h=>by
   unfold cellsFrom;rcases OA.mp h with e | h;.cases e;exact⟨n,nY O2⟩
   .split;.exact rD h
    .exact rD h
theorem sk:∀ {f:List (Str×NameKind)} {h:Heap} {d:List (Str×Addr)} {x y:Str} {c:Addr},(∀ p∈d,p.2<h.objs.size)->(∀ x y c,(x,c)∈d->(y,c)∈d->x=y) ->
 (x,c)∈cellsFrom h.objs.size f d->(y,c)∈cellsFrom h.objs.size f d->x=y
 | [],_,_,_,_,_,_,hi,h1,h2=>hi _ _ _ h1 h2
 | (n,k)::r,h,d,x,y,c,hl,hi,h1,h2=>by
   unfold cellsFrom at h1 h2;split at h1
   .rename_i g;rw[Oy g]at h2;rw[<-PD h { cls:=.type "cell",data:=.cell none }]at h1 h2;refine sk (h:=h.push _) (fun p i=>?_) (fun x y c a b=>?_) h1 h2
    .rw[PD];rcases OA.mp i with rfl | i;.exact Sf _
     .exact To (hl p i)
    .rcases OA.mp a with e | a<;>rcases OA.mp b with j | b;.cases e;cases j;rfl
     .cases e;exact absurd (hl _ b) (QC _)
     .cases j;exact absurd (hl _ a) (QC _)
     .exact hi _ _ _ a b
   .rename_i g;rw[Ox g]at h2;exact sk hl hi h1 h2
theorem Bz{M:Model}{A:Around}{E:Value->Shared->Prop}{s:Shared}{b:Scope}{e:Addr}{a:List (Str×Addr)}{j:Str}{i:Option Addr}{g:Value}{f:Env}{d:Addr}{Q:Env->Shared->Prop}
 (h:Q (newEnv b s.heap.objs.size e (cellsFrom (s.heap.objs.size+1) b.names a) j i g (some f) d) { s with heap:=pushCells (s.heap.push { cls:=.type "dict",data:=.dict #[] }) b.names }):
 wpAny M A (newFunctionEnv b e a [] j i g (some f) d) Q E s:=by
 simp only[newFunctionEnv,Rx,Qz];refine Oz (wpAny_alloc ?_);refine Oz (wpAny_layCells _ (fun n k c=>rfl) b.names a _ _ ?_);rw[show({ s with heap:=s.heap.push { cls:=.type "dict",data:=.dict #[] } }:Shared).heap.objs.size=s.heap.objs.size+1 from PD ..];rw[List.forIn_nil];exact Oz (OK (OK h))
theorem nD{sc:Scope}:∀ {c:List (Str×NameKind)} {x:Str} {k:NameKind},
 (c.map fun(n,k)=>if (k==NameKind.free&&sc.kind==.function&&sc.names.lookup n==some .cell) then(n,NameKind.cell) else(n,k)).lookup x=some k ->
 ∃ d,c.lookup x=some d/\(k=d\/(d=.free/\k=.cell))
 | [],_,_,h=>by simp at h
 | (n,a)::r,x,k,h=>by
   have e:=@nD sc r x k;have b:List.lookup x ((if (a==NameKind.free&&sc.kind==.function&&sc.names.lookup n==some .cell)=true then(n,NameKind.cell) else(n,a))::(r.map _))=some k:=h;cases hx:x==n with
   | true=>
     simp only[Q3,hx];by_cases hc:(a==NameKind.free&&sc.kind==.function&&sc.names.lookup n==some .cell)=true;.rw[Oy hc]at b;simp only[Q3,hx]at b;cases b;simp only[O4,RJ]at hc;exact⟨a,rfl,.inr ⟨hc.1.1,rfl⟩⟩
     .rw[Ox hc]at b;simp only[Q3,hx]at b;cases b;exact⟨_,rfl,.inl rfl⟩
   | false=>
     simp only[Q3,hx];by_cases hc:(a==NameKind.free&&sc.kind==.function&&sc.names.lookup n==some .cell)=true;.rw[Oy hc]at b;simp only[Q3,hx]at b;exact e b
     .rw[Ox hc]at b;simp only[Q3,hx]at b;exact e b
structure qo(N:List Str)(sc scope:Scope)(own:List (Str×Nat)):Prop where
 kind:scope.kind=.function
 uniq:∀ y∈scope.names,scope.names.lookup y.1=some y.2
 ix:∀ p∈own,N[p.2]?=some p.1
 free:∀ y∈scope.names,y.2=.free->sc.names.lookup y.1=some .cell\/sc.names.lookup y.1=some .free
 own:∀ y∈scope.names,y.2=.local\/y.2=.cell->y.1∈own.map (·.1)\/y.1∉N
def wipe(a:St):List Nat->St
 | []=>a
 | v::vs=>(wipe a vs).set v none
theorem mK(a:St):∀ vs:List Nat,(wipe a vs).length=a.length
 | []=>rfl
 | v::vs=>by unfold wipe;rw[List.length_set,mK a vs]
theorem rn{b:St}{i:Nat}{x:V}:∀ {vs:List Nat},(wipe b vs)[i]?=some (some x)->b[i]?=some (some x)/\i∉vs
 | [],h=>⟨h,by simp⟩
 | v::vs,h=>by
   unfold wipe at h;by_cases a:v=i
   .subst a;by_cases c:v<(wipe b vs).length;.rw[R7 c]at h;cases h
    .rw[P7 (by simpa using c)]at h;cases h
   .rw[Ss a]at h;obtain⟨h1,h2⟩:=rn h;exact⟨h1,by simp only[OA,PY];exact⟨fun e=>a e.symm,h2⟩⟩
abbrev Cx.Cj(X:Cx)(s:Shared)(H:Hp)(a:Scope)(b:Env)(c:List Addr):Cx:={ X with tX:=s,LD:=H,env:=b,outer:=X.stack,ex:=c,fn:=fun x=>a.names.lookup x==some .cell,pn:=[],xe:=fun _ _=>False }
section
variable {X:Cx}{x:List (Addr×Obj)}{l:St}{H:Hp}{s:Shared}
theorem Aq{d:Scope}{Z:List (Str×Nat)}{fp:List Addr}(I:Inv X x l H s)(L:qo X.N X.env.scope d Z)(hN:X.N.Nodup)(t:∀ b∈fp,vx X x H b/\b<s.heap.objs.size):
 Inv (X.Cj s H d (compEnvC d (cellsFrom (s.heap.objs.size+1) d.names (cB X.env.cells d.names [])) s.heap.objs.size X.env) fp) [] (wipe l (Z.map (·.2))) H { s with heap:=pushCells (s.heap.push { cls:=.type "dict",data:=.dict #[] }) d.names }:=by
 have M:∀ y∈d.names,y.2=.free->∃ c,X.env.cells.lookup y.1=some c:=fun y C e=>by
  rcases L.free y C e with k | k;.exact I.ok.has _ (.inl k)
  .exact I.ok.has _ (.inr k)
 generalize g:compEnvC d (cellsFrom (s.heap.objs.size+1) d.names (cB X.env.cells d.names [])) s.heap.objs.size X.env=f;have kp:∀ b o,s.heap.get? b=some o->(pushCells (s.heap.push { cls:=.type "dict",data:=.dict #[] }) d.names).get? b=some o:=fun b o e=>Sx _ _ _ _ (OD _ e);have hL:f.locals=s.heap.objs.size:=by rw[<-g];rfl
 have h:f.cells=cellsFrom (s.heap.objs.size+1) d.names (cB X.env.cells d.names []):=by rw[<-g];rfl
 have Q:f.scope=NX d X.env.scope:=by rw[<-g];rfl
 rw[<-PD s.heap { cls:=.type "dict",data:=.dict #[] }]at h;have U:∀ {y c},(y,c)∈cB X.env.cells d.names []->X.env.cells.lookup y=some c/\c<s.heap.objs.size:=fun {y c} u=>by
  rcases kh u with u | ⟨h1,rfl⟩;.cases u
  .obtain⟨c,hc⟩:=M _ h1 rfl;rw[hc];obtain⟨w,z⟩:=I.cell _ _ hc;exact⟨rfl,z.lt⟩
 have R:∀ {y c},f.cells.lookup y=some c->(X.env.cells.lookup y=some c/\c<s.heap.objs.size)\/(s.heap.objs.size+1<=c/\IW (pushCells (s.heap.push { cls:=.type "dict",data:=.dict #[] }) d.names) c none):=fun {y c} e=>by
  rw[h]at e;rcases kT (Po e) with u | ⟨_,h2,h3⟩;.exact .inl (U u)
  .rw[PD]at h2;exact .inr ⟨h2,h3⟩
 have J:∀ {y},d.names.lookup y=some .free->∃ c,f.cells.lookup y=some c/\X.env.cells.lookup y=some c:=fun {y} hl=>by
  have C:(y,NameKind.free)∈d.names:=Po hl;obtain⟨c',j⟩:=mem_lookup (nY (names:=d.names) (n:=(s.heap.push { cls:=.type "dict",data:=.dict #[] }).objs.size) (mQ (cells:=X.env.cells) (acc:=[]) C));rw[<-h]at j;refine⟨c',j,?_⟩;rw[h]at j;rcases kT (Po j) with u | ⟨h1,_,_⟩;.exact(U u).1
  .have:=L.uniq _ h1;rw[hl]at this;cases this
 have a4:(X.Cj s H d f fp).Ok:=by
  refine⟨I.ok.mod,by show f.scope.kind=_;rw[Q];exact L.kind,by show f.globals=_;rw[<-g];exact I.ok.glob,by show f.builtins=_;rw[<-g];exact I.ok.blt,by show s.heap.objs.size<=f.locals;rw[hL];exact OE _,fun y z c D E=>?_,fun y C=>?_,fun y c z e=>?_,I.ok.hd,I.ok.frames,.inl rfl,fun b F=>⟨?_,fun y c e z=>?_⟩,I.bs,O9 I.ok.FZ I.sz,fun b o e F=>?_,fun b F z=>?_,I.stack,I.yQ⟩;.have D:f.cells.lookup y=some c:=D;have E:f.cells.lookup z=some c:=E;rw[h]at D E;refine sk (fun p T=>?_) (fun y z c a b=>I.ok.inj y z c (U a).1 (U b).1) (Po D) (Po E);rw[PD];exact To (U (y:=p.1) (c:=p.2) T).2
  .show ∃ c,f.cells.lookup y=some c;have v:∀ k,f.kindOf y=some k->(k=.cell\/k=.free)->∃ c,f.cells.lookup y=some c:=fun k O P=>by
    unfold Env.kindOf at O;rw[Q]at O;obtain⟨G,e,r⟩:=nD O;have:G=.cell\/G=.free:=by
     rcases r with rfl | ⟨rfl,_⟩;.exact P
     .exact .inr rfl
    rcases this with rfl | rfl;.obtain⟨c,u⟩:=rD (n:=(s.heap.push { cls:=.type "dict",data:=.dict #[] }).objs.size) (acc:=cB X.env.cells d.names []) (Po e);obtain⟨c',j⟩:=mem_lookup u;exact⟨c',by rw[h];exact j⟩
    .obtain⟨c,h1,_⟩:=J e;exact⟨c,h1⟩
   rcases C with C | C;.exact v _ C (.inl rfl)
   .exact v _ C (.inr rfl)
  .have z:(d.names.lookup y==some NameKind.cell)=true:=z;have z:d.names.lookup y=some .cell:=by simpa using z
   have e:f.cells.lookup y=some c:=e;rw[h]at e;rcases kT (Po e) with u | ⟨_,h2,_⟩
   .rcases kh u with u | ⟨h1,_⟩;.cases u
    .have q:=L.uniq _ h1;rw[z]at q;cases q
   .rw[PD]at h2;exact R5 h2
  .show b≠f.locals;rw[hL];exact Pr (t b F).2
  .have e:f.cells.lookup y=some c:=e;rcases R e with⟨h1,_⟩ | ⟨h1,_⟩;.exact(t b F).1.2.2.2.2.1 y c h1 z
   .have h2:s.heap.objs.size+1<=b:=by rw[<-z];exact h1
    exact absurd (Pb (t b F).2 (R5 h2)) (QC _)
  .rcases(t b F).1.2.2.2.1 with z | z;.exact I.ok.DE b o e z
   .exact absurd (Pb (OY e) (O9 I.ok.FZ z)) (QC _)
  .rcases OA.mp (I.yC b z) with z | z;.exact(t b F).1.2.1 z
   .exact(t b F).1.2.2.1 z
 refine⟨a4,rfl,I.bare,Un.kept kp,⟨fun _=>none,?_,fun i y av D E A=>?_⟩,fun y c e=>?_,?_,fun y c e=>?_,fun p T=>?_,I.de.kept kp,by rw[mK];exact I.len⟩;.show Heap.Ns _ f.locals _;rw[hL];exact Heap.Ns.keeps (Heap.Ns.new ..) fun b o e=>Sx _ _ _ _ e
 .obtain⟨E,a0⟩:=rn E;have B:d.names.lookup y=some .free/\(f.kindOf y=some .cell\/f.kindOf y=some .free):=by
   have v:∀ k,f.scope.names.lookup y=some k->k=.local\/k=.cell\/k=.free->d.names.lookup y=some .free/\(f.kindOf y=some .cell\/f.kindOf y=some .free):=fun k O P=>by
    have W:=O;rw[Q]at O;obtain⟨G,e,r⟩:=nD O;have no:¬ (G=.local\/G=.cell):=fun hh=>by
     rcases L.own _ (Po e) hh with j | j;.obtain⟨p,T,a3⟩:=Qk.mp j;have A:=L.ix p T;have:p.1=y:=a3;rw[this]at A;exact a0 (Qk.mpr ⟨p,T,vP hN A D⟩)
     .exact j (Qc D)
    rcases r with rfl | ⟨rfl,rfl⟩
    .rcases P with rfl | rfl | rfl;.exact absurd (.inl rfl) no
     .exact absurd (.inr rfl) no
     .exact⟨e,.inr W⟩
    .exact⟨e,.inl W⟩
   have A:Kf f.scope y:=A;rcases A with A | A | A;.exact v _ A (.inl rfl)
   .exact v _ A (.inr (.inl rfl))
   .exact v _ A (.inr (.inr rfl))
  obtain⟨m,hn,hl⟩:=I.loc;have Y:Kf X.env.scope y:=(L.free _ (Po B.1) rfl).elim (fun k=>.inr (.inl k)) (fun k=>.inr (.inr k));obtain⟨w,r,q⟩:=hl i y av D E Y;refine⟨w,r,.inr ⟨B.2,?_⟩⟩;obtain⟨c,h1,h2⟩:=J B.1;rcases q with⟨k,_⟩ | ⟨_,c',j,z⟩;.have k:X.env.scope.names.lookup y=some .local:=k;rcases L.free _ (Po B.1) rfl with G | G<;>rw[show X.env.scope.names.lookup y=_ from G]at k<;>cases k
  .rw[h2]at j;cases j;exact⟨c,h1,z.keeps kp⟩
 .have e:f.cells.lookup y=some c:=e;rcases R e with⟨h1,_⟩ | ⟨_,z⟩;.obtain⟨w,z⟩:=I.cell y c h1;exact⟨w,z.keeps kp⟩
  .exact⟨_,z⟩
 .show H f.locals=none;rw[hL];exact I.de.fresh (OE _)
 .have e:f.cells.lookup y=some c:=e;rcases R e with⟨h1,_⟩ | ⟨h1,_⟩;.exact I.gG y c h1
  .exact I.de.fresh (R5 h1)
 .exact absurd (show p∈([]:List (Addr×Obj))++[] from T) (by simp)
theorem LJ{E:Value->Shared->Prop}{D:Addr}{xs:List V}{y:V}{v:Value}{Q:Value->Shared->Prop}(I:Inv X x l H s)(d:H D=some (.lst xs))(k:xs.length<sizeLine)(r:RelV y v)
 (h:∀ s',Inv X x l (upd H D (.lst (xs++[y]))) s'->Q .none s'):wpAny (model X.prog X.w) X.A (call (.builtin "list.append") [.ref D,v]) Q E s:=by
 obtain⟨m,c,n,f,e⟩:=I.de D _ d;have hl:=f.length;refine append_at (hsz:=by rw[O8];omega) e fun g o a=>?_;refine h { s with heap:=g } (I.write (t':=s.toks) (by rw[d];trivial) (.inl rfl) (fun b u i q=>(o.2 b i).trans q) ⟨_,a⟩ ⟨by rw[ON];exact k,c++[v],n+1,f.append (.cons r .nil),?_⟩);rw[a];simp
def NY(X:Cx)(a:List Expr)(t:TT):Prop:=∀ (x:List (Addr×Obj)) (s:Shared) (l:St) (H:Hp) (Q:Bool->Hp->Prop),Inv X x l H s->t l H Q -> wpAny (model X.prog X.w) X.A (forIn a true fun c r=>if r=true then do let ok <-isTrue c X.env (eval c X.env);pure (ForInStep.yield ok) else pure (ForInStep.yield r)) (TP X x l Q) X.xe s
def Dh:TT:=fun _ H Q=>Q true H
theorem oh:NY X [] Dh:=fun _ _ _ H _ I h=>wpAny_tests_nil ⟨H,I,h⟩
end
theorem Gj{c:Type}{t:Sem c}{Q b:c->Shared->Prop}{M:Model}{A:Around}{E:Value->Shared->Prop}{s:Shared}(h:wpAny M A t Q (fun _ _=>False) s)(d:∀ a s,Q a s->b a s):wpAny M A t b E s:=Qa h d fun _ _ z=>False.elim z
theorem y4{prog:Program}{w:World}{A:Around}{R:Result->Shared->Prop}{s:Shared}{y b o:Expr}{B:List Expr}{f:Scope}{G:Pos}{J u:Value}{a:Env}(I:Nat->Shared->Prop)
 (H:∀ n s,I n s->wpAny (model prog w) A (pyNext J) (fun r g=>match r with
   | none=>R (.ok .next) g
   | some v=>wpAny (model prog w) A (letOwnedTupleGo b J v) (fun _ i=>wpAny (model prog w) A (assign b a v) (fun _ p=>
      wpAny (model prog w) A (forIn B true fun c r=>if r=true then do let F <-isTrue c a (eval c a);pure (ForInStep.yield F) else pure (ForInStep.yield r)) (fun F j=>
       if F=true then wpAny (model prog w) A (eval y a) (fun x q=>wpAny (model prog w) A (call (.builtin "list.append") [u,x]) (fun _ t=>∃ m,m<n/\I m t) (notedBy (model prog w) A a fun e s'=>R (.error e) s') q) (notedBy (model prog w) A a fun e s'=>R (.error e) s') j
       else ∃ m,m<n/\I m j) (notedBy (model prog w) A a fun e s'=>R (.error e) s') p) (notedBy (model prog w) A a fun e s'=>R (.error e) s') i) (notedBy (model prog w) A a fun e s'=>R (.error e) s') g) (notedBy (model prog w) A a fun e s'=>R (.error e) s') s)
 (n:Nat) (h:I n s):
 codeAny (model prog w) A (.compLoop (.ListComp y [⟨b,o,B,0⟩] f G) 0 J u a) R s:=by
 refine codeAny_loop rfl I (fun n s L=>?_) n h;show wpAny _ A ((compTurn (.ListComp y [⟨b,o,B,0⟩] f G) 0 J u a).onRaise (fun x=>do noteFrame x a;theTreesLotGoes x)) _ _ s;refine wpAny_noted ?_;rw[compTurn_list];refine Oz (Rt (Oz (Qa (H n s L) (fun r g k=>?_) fun _ _ d=>d)));cases r with
 | none=>exact OK k
 | some v=>
   refine Oz (Qa k (fun _ i z=>?_) fun _ _ d=>d);refine Oz (Qa z (fun _ p C=>Oz (Qa C (fun F j l=>?_) fun _ _ d=>d)) fun _ _ d=>d);cases F with
   | false=>exact OK ⟨rfl,l⟩
   | true=>exact Oz (Oz (Qa l (fun x q D=>Oz (Qa D (fun _ t E=>OK (OK ⟨rfl,E⟩)) fun _ _ d=>d)) fun _ _ d=>d))
section
variable {X:Cx}
def Mc(q:TI)(g:TG)(p:TT)(o:TE)(vs:List Nat):TE:=fun f H Q=>q f H fun J h=>∀ D,h D=none->∃ W:Nat->Nat->Hp->Prop,(∃ m,W 0 m (upd h D (.lst [])))/\∀ i m H,W i m H -> (J.stop i H/\Q (.ref D) H)\/(J.go i H/\∃ e:Hp->Prop,(∀ d,e d->∃ l,l<m/\W (i+1) l d)/\∀ x d,J.KL i H x d->g x (wipe f vs) d fun c n=>wipe c vs=wipe f vs/\p c n fun b j=>if b=true then o c j fun y k=>∃ a,k D=some (.lst a)/\a.length<sizeLine/\e (upd k D (.lst (a++[y]))) else e j)
theorem JX{l:List (Addr×Obj)}{s:Shared}{R:St}{H:Hp}{Q:VK}{O tg E:Expr}{P:List Expr}{a:Scope}{G:List (Str×Nat)}{a4 b3:Pos}{wi:TI}{g:TG}{tt:TT}{te:TE}{use:Option (Value->Sem Unit)}{Qf:Value->Shared->Prop}
 (hc:X.calm=true) (hN:X.N.Nodup) (I:Inv X l R H s) (hi:PI X tg E wi) (ok:qo X.N X.env.scope a G)
 (hg:∀ (s:Shared) (H:Hp) (C:Addr) (cl:List (Str×Addr)) (f:List Addr),PG (X.Cj s H a (compEnvC a cl C X.env) f) tg g) (ht:∀ (s:Shared) (H:Hp) (C:Addr) (cl:List (Str×Addr)) (f:List Addr),NY (X.Cj s H a (compEnvC a cl C X.env) f) P tt)
 (he:∀ (s:Shared) (H:Hp) (C:Addr) (cl:List (Str×Addr)) (f:List Addr),PE (X.Cj s H a (compEnvC a cl C X.env) f) O te) (hs:∀ x,foldedSetIterable E X.env x=pure x)
 (h:Mc wi g tt te (G.map (·.2)) R H Q)
 (c5:∀ D C s' m B,Inv X l R B s'->Q (.ref D) B->s'.heap.Ns C m->vx X l B C->compPost (model X.prog X.w) X.A X.xe use Qf (.ref D) C (.ok .next) s'):
 wpAny (model X.prog X.w) X.A (comprehension (.ListComp O [⟨tg,E,P,0⟩] a a4) a X.env b3 (newList []) false (eval E X.env) use) Qf X.xe s:=by
 have a3:∀ y∈a.names,y.2=.free->∃ c,X.env.cells.lookup y.1=some c:=fun y hy e=>by
  rcases ok.free y hy e with k | k;.exact I.ok.has _ (.inl k)
  .exact I.ok.has _ (.inr k)
 refine wpAny_comprehension_free (use:=use) rfl hs (C0 a3) ok.kind (fun y hy e=>by rw[ok.uniq y hy,e]) (cj (hi l s R H _ I h) fun xv s1 hx=>cj hx fun d4 s2 h2=>?_);obtain⟨it,f,tn,J,Y,e,I2,T,b4,f2,q⟩:=h2;subst e;refine Rg (Bz ?_) (by show 0<=sizeLine;decide);generalize hD:s2.heap.objs.size=D;have c3:Y D=none:=I2.de.fresh (Sw hD);obtain⟨W,⟨m0,w0⟩,b8⟩:=q D c3;generalize a9:({ s2 with heap:=s2.heap.push { cls:=.type "list",data:=.seq ([]:List Value).toArray } }:Shared)=d;have I3:Inv X l R (upd Y D (.lst [])) d:=by rw[<-a9];refine I2.laid (t':=s2.toks) (fun b o e=>OD _ e) (Sw hD) ⟨O1 _,[],0,.nil,?_⟩;rw[<-hD];exact OU _ rfl
 have h3:d.heap=s2.heap.push { cls:=.type "list",data:=.seq ([]:List Value).toArray }:=by rw[<-a9]
 have sz:∀ b∈f,b<s2.heap.objs.size:=fun b t=>by obtain⟨o,e,_⟩:=T.obj _ _ b4 b t;exact OY e
 have f3:∀ b∈f,vx X l (upd Y D (.lst [])) b/\b<d.heap.objs.size:=fun b t=>by have a8:=sz b t;refine⟨⟨?_,(f2 b t).2⟩,by rw[h3,PD];exact To a8⟩;rw[aq (by rw[<-hD];exact Pr a8)];exact(f2 b t).1
 have c9:tn 0 d.heap:=T.keep _ _ _ b4 fun b _ o e=>by rw[h3];exact OD _ e
 have I4:=Aq I3 ok hN f3;have pg:=hg d (upd Y D (.lst [])) d.heap.objs.size (cellsFrom (d.heap.objs.size+1) a.names (cB X.env.cells a.names [])) f;have pt:=ht d (upd Y D (.lst [])) d.heap.objs.size (cellsFrom (d.heap.objs.size+1) a.names (cB X.env.cells a.names [])) f;have pe:=he d (upd Y D (.lst [])) d.heap.objs.size (cellsFrom (d.heap.objs.size+1) a.names (cB X.env.cells a.names [])) f;show codeAny _ _ (.compStart (.ListComp O [⟨tg,E,P,0⟩] a a4) 0 (.ref it) (.ref D) (compEnvC a (cellsFrom (d.heap.objs.size+1) a.names (cB X.env.cells a.names [])) d.heap.objs.size X.env)) (compPost (model X.prog X.w) X.A X.xe use Qf (.ref D) d.heap.objs.size) { d with heap:=pushCells (d.heap.push { cls:=.type "dict",data:=.dict #[] }) a.names };have b2:∀ b∈f,(upd Y D (.lst [])) b=none:=fun b t=>(f3 b t).1.1;generalize c6:compEnvC a (cellsFrom (d.heap.objs.size+1) a.names (cB X.env.cells a.names [])) d.heap.objs.size X.env=F at I4 pg pt pe |-;have cL:F.locals=d.heap.objs.size:=by subst c6;rfl
 generalize d3:upd Y D (.lst [])=M at I3 I4 pg pt pe w0 b2 f3;generalize c7:({ d with heap:=pushCells (d.heap.push { cls:=.type "dict",data:=.dict #[] }) a.names }:Shared)=s4 at I4 |-;have b5:tn 0 s4.heap:=T.keep _ _ _ c9 fun b _ o e=>by rw[<-c7];exact Sx _ _ _ _ (OD _ e)
 have L:∀ {b9:St} {B:Hp} {s':Shared},Inv (X.Cj d M a F f) [] b9 B s'->(∀ b∈f,B b=none)->∀ b∈f,vx (X.Cj d M a F f) [] B b:=fun {b9 B s'} I' hn b t=>⟨hn b t,(I'.ok.Mj b t).1,I'.ok.B2 b t,.inl t,fun x c e=>(I'.ok.Mj b t).2 x c e,fun p hp=>absurd (show p∈([]:List (Addr×Obj))++[] from hp) (by simp)⟩
 have Z:codeAny (model X.prog X.w) X.A (.compLoop (.ListComp O [⟨tg,E,P,0⟩] a a4) 0 (.ref it) (.ref D) F) (compPost (model X.prog X.w) X.A X.xe use Qf (.ref D) d.heap.objs.size) s4:=by
  refine y4 (fun n s'=>∃ i B,Inv (X.Cj d M a F f) [] (wipe R (G.map (·.2))) B s'/\tn i s'.heap/\(∀ b∈f,B b=none)/\W i n B) ?_ m0 ⟨0,M,I4,b5,b2,w0⟩;rintro n s5 ⟨i,H5,I5,b6,n5,w5⟩;rcases b8 i n H5 w5 with⟨stop,qq⟩ | ⟨go,Nx,c4,b7⟩
  .have td:=T.done (X.Cj d M a F f) rfl rfl rfl hc i [] s5 _ H5 (fun _ _=>False) I5 (L I5 n5) b6 stop;refine Gj td fun r s6 ⟨hr,I6⟩=>?_;subst hr;have I7:Inv X l R H5 s6:=I3.KD (ch:=f) I6.os I6.base I6.de I6.bare fun b t=>⟨(f3 b t).1.2.2.2.1,(f3 b t).1.2.1,(f3 b t).1.2.2.2.2.1,(f3 b t).1.2.2.2.2.2⟩
   have nC:H5 d.heap.objs.size=none:=by have z:H5 F.locals=none:=I6.free;rw[cL]at z;exact z
   obtain⟨m,hn,_⟩:=I6.loc;have hn:s6.heap.Ns F.locals m:=hn;rw[cL]at hn;exact c5 D d.heap.objs.size s6 m H5 I7 qq hn (I3.C4 (OE _) nC)
  .have ti:=T.item (X.Cj d M a F f) rfl rfl rfl hc i [] s5 _ H5 (fun _ _=>False) I5 (L I5 n5) b6 go;refine Gj ti fun r s6 ⟨u,hr,h6⟩=>?_;subst hr;refine Gj h6 fun _ s7 ⟨x,H7,I7,r7,y7,a5,n7⟩=>?_;have c2:=I7.pinned (L I7 n7) (T.obj _ _ a5);refine Gj (pg _ s7 _ H7 x u _ c2 r7 (b7 x H7 y7)) fun _ s8 ⟨U,H8,I8,b0,q8⟩=>?_;refine Gj (pt _ s8 U H8 _ I8 q8) fun b s9 ⟨H9,I9,q9⟩=>?_;have a6:∀ {s':Shared} {B:Hp},Inv (X.Cj d M a F f) ([]++vF f s7.heap) U B s'->Nx B->∃ m,m<n/\∃ i B,Inv (X.Cj d M a F f) [] (wipe R (G.map (·.2))) B s'/\tn i s'.heap/\(∀ b∈f,B b=none)/\W i m B:=fun {s' B} I' nx=>by
    obtain⟨m',hm,w'⟩:=c4 B nx;have a0:∀ b∈f,∀ o,s7.heap.get? b=some o->s'.heap.get? b=some o/\B b=none:=fun b t o e=>
     let z:=I'.pin (b,o) (Pl _ (Pl _ (pF t e)))
     ⟨z.1,z.2.1⟩
    have hl:(wipe R (G.map (·.2))).length=U.length:=by rw[<-b0,mK]
    refine⟨m',hm,i+1,B,(I'.qG (pins:=[])).weak hl (fun j v e=>?_),T.keep _ _ _ a5 fun b t o e=>(a0 b t o e).1,fun b t=>?_,w'⟩;.rw[<-b0]at e;exact(rn e).1
    .obtain⟨o,e,_⟩:=T.obj _ _ a5 b t;exact(a0 b t o e).2
   cases b with
   | false=>simp only[RX,Ry]at q9 |-;exact a6 I9 q9
   | true=>simp only[Qz]at q9 |-;refine Gj (pe _ s9 U H9 _ I9 q9) fun z d5 ⟨yv,d0,c0,c8,d2,a7,b1,nx⟩=>?_;exact LJ (X:=X.Cj d M a F f) c0 a7 b1 c8 fun d6 c1=>a6 c1 nx
 exact codeAny_compStart_list Z (T.self X.A 0 _ _ _ b5 Z)
theorem xS{i n c:Expr}{k:List Expr}{a:Scope}{own:List (Str×Nat)}{l:Pos}{u:TI}{g:TG}{t:TT}{r:TE}(hc:X.calm=true)(G:X.N.Nodup)(O:PI X n c u)(R:qo X.N X.env.scope a own)
 (M:∀ (s:Shared) (H:Hp) (C:Addr) (d:List (Str×Addr)) (j:List Addr),PG (X.Cj s H a (compEnvC a d C X.env) j) n g) (P:∀ (s:Shared) (H:Hp) (C:Addr) (d:List (Str×Addr)) (j:List Addr),NY (X.Cj s H a (compEnvC a d C X.env) j) k t)
 (L:∀ (s:Shared) (H:Hp) (C:Addr) (d:List (Str×Addr)) (j:List Addr),PE (X.Cj s H a (compEnvC a d C X.env) j) i r) (hs:∀ x,foldedSetIterable c X.env x=pure x:=by intro _;rfl):
 PE X (.ListComp i [⟨n,c,k,0⟩] a l) (Mc u g t r (own.map (·.2))):=by
 intro p s Y H Q I h;rw[eval_ListComp];refine JX hc G I O R M P L hs h fun D C s' m v w q hn f=>⟨m,hn,fun F T=>?_⟩
 obtain⟨y,z,U,A,B,E⟩:=f;exact⟨.ref D,v,w.turned (t':=s'.toks) (fun b o J e=>(T.2 b J).trans e) y z A B E,rfl,q⟩
end
end L2
namespace L2
open PySem PySem.Spec PyProof.Rows
end L2
namespace L2
open PySem PySem.Spec PyProof.Rows
section
variable {x:Type}[DecidableEq x]
def bR(a:List (x×V))(k:x):Option V:=(a.find? fun b=>decide (b.1=k)).map (·.2)
def putK(a:List (x×V))(k:x)(v:V):List (x×V):=if (a.any fun b=>decide (b.1=k))=true then a.map (fun b=>if b.1=k then(b.1,v) else b) else a++[(k,v)]
def KJ(a:List (x×V))(k:x):List (x×V):=a.filter fun b=>decide (b.1≠k)
theorem u5{p:x×V}{r:List (x×V)}{k:x}(e:p.1=k):bR (p::r) k=some p.2:=by simp[bR,Qo,e]
theorem vm{p:x×V}{r:List (x×V)}{k:x}(e:¬ p.1=k):bR (p::r) k=bR r k:=by simp[bR,Qo,e]
theorem vv(k:x):∀ a:List (x×V),(a.any fun b=>decide (b.1=k))=(bR a k).isSome
 | []=>rfl
 | p::r=>by
   rw[Se];by_cases e:p.1=k;.simp only[u5 e,OO e,Bool.true_or,Rx]
   .rw[vm e,O3 e,Te];exact vv k r
theorem sZ(a:List (x×V))(k:x)(v:V):(putK a k v).length<=a.length+1:=by
 unfold putK;split;.rw[O0];omega
 .rw[ON,OB,Pa];omega
theorem m3.kM{o:Option V}{u:Option Value}(r:m3 o u):o.isSome=u.isSome:=by
 cases o with
 | none=>cases u with
   | none=>rfl
   | some _=>exact(show False from r).elim
 | some _=>cases u with
   | none=>exact(show False from r).elim
   | some _=>rfl
theorem m3.getD{o:Option V}{u:Option Value}{d:V}{a:Value}(r:m3 o u)(b:RelV d a):RelV (o.getD d) (u.getD a):=by
 cases o with
 | none=>cases u with
   | none=>exact b
   | some _=>exact(show False from r).elim
 | some _=>cases u with
   | none=>exact(show False from r).elim
   | some _=>exact r
theorem KV.val{a:List (x×V)}{vs:List (x×Value)}(r:KV a vs)(k:x):m3 (bR a k) (valueAt vs k):=by
 unfold KV at r
 induction r with
 | nil=>exact OF
 | @cons p q ps d h t f=>
   obtain⟨h1,h2⟩:=h;by_cases e:p.1=k
   .have c:q.1=k:=h1.symm.trans e;have b:valueAt (q::d) k=some q.2:=by simp[valueAt,Qo,c]
    rw[u5 e,b];exact h2
   .have c:¬ q.1=k:=fun z=>e (h1.trans z);have b:valueAt (q::d) k=valueAt d k:=by simp[valueAt,Qo,c]
    rw[vm e,b];exact f
theorem KV.any{a:List (x×V)}{vs:List (x×Value)}(r:KV a vs)(k:x):(a.any fun b=>decide (b.1=k))=vs.any fun b=>decide (b.1=k):=by
 unfold KV at r
 induction r with
 | nil=>rfl
 | cons h t c=>rw[Se,Se,c,h.1]
theorem KV.Lm{b:List (x×V)}{vs:List (x×Value)}(r:KV b vs)(k:x){y:V}{u:Value}(d:RelV y u):
 KV (b.map fun a=>if a.1=k then(a.1,y) else a) (vs.map fun a=>if a.1=k then(a.1,u) else a):=by
 unfold KV at r |-
 induction r with
 | nil=>exact .nil
 | @cons p q ps f h t c=>
   rw[OP,OP];refine .cons ?_ c;obtain⟨h1,h2⟩:=h;by_cases e:p.1=k;.rw[Oy e,Oy (h1.symm.trans e)];exact⟨h1,d⟩
   .rw[Ox e,Ox (fun z=>e (h1.trans z))];exact⟨h1,h2⟩
theorem KV.put{a:List (x×V)}{vs:List (x×Value)}(r:KV a vs)(k:x){y:V}{u:Value}(b:RelV y u):KV (putK a k y) (stored vs k u):=by
 unfold putK stored;rw[r.any k];by_cases e:(vs.any fun c=>decide (c.1=k))=true;.rw[Oy e,Oy e];exact r.Lm k b
 .rw[Ox e,Ox e];exact Paired.snoc r ⟨rfl,b⟩
theorem KV.drop{c:List (x×V)}{vs:List (x×Value)}(r:KV c vs)(k:x):KV (KJ c k) (without vs k):=by
 unfold KV at r |-;unfold KJ without
 induction r with
 | nil=>exact .nil
 | @cons p q ps g h t d=>
   obtain⟨h1,h2⟩:=h;rw[Vd,Vd];by_cases e:p.1=k
   .have a:¬ decide (p.1≠k)=true:=by simp[e]
    have b:¬ decide (q.1≠k)=true:=by simp[h1.symm.trans e]
    rw[Ox a,Ox b];exact d
   .have f:¬ q.1=k:=fun z=>e (h1.trans z);have a:decide (p.1≠k)=true:=by simp[e]
    have b:decide (q.1≠k)=true:=by simp[f]
    rw[Oy a,Oy b];exact .cons ⟨h1,h2⟩ d
theorem KV.keys{a:List (x×V)}{vs:List (x×Value)}(r:KV a vs):a.map (·.1)=vs.map (·.1):=by
 unfold KV at r
 induction r with
 | nil=>rfl
 | cons h t b=>rw[OP,OP,b,h.1]
theorem KV.length{a:List (x×V)}{vs:List (x×Value)}(r:KV a vs):a.length=vs.length:=Rr r
end
theorem sS{P:Program}{w:World}{k:Key}{u:Value}(r:RelV (kV k) u):(cI P w).is k u=true:=by
 cases k with
 | inl i=>obtain⟨t,e⟩:=(show ∃ t,u=Value.int i t from r);subst e;exact Ar P w i t
 | inr x=>obtain⟨t,e⟩:=(show ∃ t,u=Value.str x t from r);subst e;exact BD P w x t
theorem xF{P:Program}{w:World}:∀ {a:List Key} {us:List Value},Vals (a.map kV) us->ItemsAre (cI P w) a us
 | [],_,r=>by rw[PX]at r;cases r;exact .nil
 | k::a,_,r=>by
   rw[OP]at r;cases r with
   | cons h t=>exact .cons (sS h) (xF t)
abbrev KT(H:Hp):List (List Key×V)->List (List Key×Addr×Value)->Prop:=Paired fun p q=>p.1=q.1/\H q.2.1=some (.tup (p.1.map kV))/\RelV p.2 q.2.2
theorem KT.val{H:Hp}{a:List (List Key×V)}{xs:List (List Key×Addr×Value)}(r:KT H a xs)(k:List Key):m3 (bR a k) ((atKey xs k).map (·.2)):=by
 induction r with
 | nil=>exact OF
 | @cons p q ps d h t f=>
   obtain⟨h1,_,h2⟩:=h;by_cases e:p.1=k
   .have c:q.1=k:=h1.symm.trans e;have b:atKey (q::d) k=some q.2:=by simp[atKey,Qo,c]
    rw[u5 e,b];exact h2
   .have c:¬ q.1=k:=fun z=>e (h1.trans z);have b:atKey (q::d) k=atKey d k:=by simp[atKey,Qo,c]
    rw[vm e,b];exact f
theorem KT.Lm{H:Hp}{a:List (List Key×V)}{xs:List (List Key×Addr×Value)}(r:KT H a xs)(k:List Key){y:V}{u:Value}(f:RelV y u):
 KT H (a.map fun b=>if b.1=k then(b.1,y) else b) (xs.map (putAt k u)):=by
 induction r with
 | nil=>exact .nil
 | @cons p q ps g h t d=>
   rw[OP,OP];refine .cons ?_ d;obtain⟨h1,h2,c⟩:=h;unfold putAt;by_cases e:p.1=k;.rw[Oy e,Oy (h1.symm.trans e)];exact⟨h1,h2,f⟩
   .rw[Ox e,Ox (fun z=>e (h1.trans z))];exact⟨h1,h2,c⟩
theorem KT.put{H:Hp}{a:List (List Key×V)}{xs:List (List Key×Addr×Value)}(r:KT H a xs)(k:List Key){b:Addr}{y:V}{u:Value}(d:H b=some (.tup (k.map kV)))(c:RelV y u):
 KT H (putK a k y) (storedH xs k b u):=by
 have e:(a.any fun f=>decide (f.1=k))=(atKey xs k).isSome:=by rw[vv,(r.val k).kM,U2]
 unfold putK storedH;rw[e];by_cases q:(atKey xs k).isSome=true;.rw[Oy q,Oy q];exact r.Lm k c
 .rw[Ox q,Ox q];exact Paired.snoc r ⟨rfl,d,c⟩
theorem KT.keeps{H c:Hp}{a:List (List Key×V)}{xs:List (List Key×Addr×Value)}(r:KT H a xs)(e:∀ b d,H b=some (.tup d)->c b=some (.tup d)):KT c a xs:=Paired.K7 r fun _ _ z=>⟨z.1,e _ _ z.2.1,z.2.2⟩
section
variable {P:Program}{w:World}{H:Hp}{h:Heap}{a:Addr}
theorem Kz{u:HO}(b:k8 P w H h)(e:Rd H a u):cG P w H h a u:=e.ok b
theorem DY{b:List (Key×V)}(c:k8 P w H h)(e:Rd H a (.dK b)):b.length<=sizeLine/\(a==sysModules)=false/\∃ vs,KV b vs/\h.DictOf (cI P w) a vs:=show cG P w H h a (.dK b) from Kz c e
theorem Ng{b:List (Key×V)}(c:k8 P w H h)(e:H a=some (.dK b)):b.length<=sizeLine/\(a==sysModules)=false/\∃ vs,KV b vs/\h.DictOf (cI P w) a vs:=DY c (.inl e)
theorem vz{c:List Key}(f:k8 P w H h)(e:H a=some (.tup (c.map kV))):(tupleKind (cI P w)).is h c a:=by
 obtain⟨_,b,r,o,h1,h2,n,d⟩:=(show cG P w H h a (.tup (c.map kV)) from f a _ e)
 exact⟨o,b.toArray,n,h1,h2,d,by simpa using xF r⟩
theorem DR{b:List (List Key×V)}(f:k8 P w H h)(e:Rd H a (.dT b)):b.length<=sizeLine/\(a==sysModules)=false /\
 ∃ xs,KT H b xs/\h.DictOfH (tupleKind (cI P w)) a xs:=by
 obtain⟨z,y,xs,r,o,i,g,h1,h2,j,k,n⟩:=(show cG P w H h a (.dT b) from Kz f e)
 refine⟨z,y,xs,r,o,i,g,h1,h2,j,k,fun x hx=>?_,n⟩;have c:∀ {l:List (List Key×V)} {m:List (List Key×Addr×Value)},KT H l m->∀ x∈m,(tupleKind (cI P w)).is h x.1 x.2.1:=by
  intro l m q
  induction q with
  | nil=>intro x hx;exact nomatch hx
  | @cons p q ps u d t s=>
    intro x hx;rcases OA.mp hx with e | hx
    .subst e;exact vz f (by rw[<-d.1];exact d.2.1)
    .exact s x hx
 exact c r x hx
theorem KG{b:List (List Key×V)}(c:k8 P w H h)(e:H a=some (.dT b)):b.length<=sizeLine/\(a==sysModules)=false /\ ∃ xs,KT H b xs/\h.DictOfH (tupleKind (cI P w)) a xs:=DR c (.inl e)
end
def vT(H:Hp)(a:Addr)(y:V)(r:Option V):Prop:=(∃ c k,Rd H a (.dK c)/\y=kV k/\r=bR c k)\/∃ c k b,Rd H a (.dT c)/\y=.ref b/\H b=some (.tup (k.map kV))/\r=bR c k
def Cy(H:Hp)(a:Addr)(y v:V)(d:Hp):Prop:=
 (∃ c k,H a=some (.dK c)/\y=kV k/\c.length<sizeLine/\d=upd H a (.dK (putK c k v))) \/
 ∃ c k b,H a=some (.dT c)/\y=.ref b/\H b=some (.tup (k.map kV))/\c.length<sizeLine/\d=upd H a (.dT (putK c k v))
theorem vT.k{H:Hp}{a:Addr}{b:List (Key×V)}{k:Key}(e:H a=some (.dK b)):vT H a (kV k) (bR b k):=.inl ⟨b,k,.inl e,rfl,rfl⟩
theorem vT.t{H:Hp}{a b:Addr}{c:List (List Key×V)}{k:List Key}(e:H a=some (.dT c))(d:H b=some (.tup (k.map kV))):vT H a (.ref b) (bR c k):=.inr ⟨c,k,b,.inl e,rfl,d,rfl⟩
theorem Cy.k{H:Hp}{a:Addr}{b:List (Key×V)}{k:Key}{v:V}(e:H a=some (.dK b))(hl:b.length<sizeLine):Cy H a (kV k) v (upd H a (.dK (putK b k v))):=.inl ⟨b,k,e,rfl,hl,rfl⟩
theorem Cy.t{H:Hp}{a b:Addr}{c:List (List Key×V)}{k:List Key}{v:V}(e:H a=some (.dT c))(d:H b=some (.tup (k.map kV)))(hl:c.length<sizeLine): Cy H a (.ref b) v (upd H a (.dT (putK c k v))):=.inr ⟨c,k,b,e,rfl,d,hl,rfl⟩
section
variable {X:Cx}{t:List (Addr×Obj)}{p:St}{H:Hp}{s:Shared}{a:Addr}{y v:V}{u r:Value}{o:Option V}{A:Around}{E:Value->Shared->Prop}
theorem Inv.big(I:Inv X t p H s):sysModules<s.heap.objs.size:=by have h:mainGlobals<s.heap.objs.size:=(I.mod.glob.keeps I.bk).lt;exact Tx (by decide) h
theorem N6{Q:Value->Shared->Prop}(n:A.units+1<cLine)(I:Inv X t p H s)(g:vT H a y o)(j:RelV y u)(h:∀ s',Inv X t p H s'->Q (.bool o.isSome) s'):
 wpAny (model X.prog X.w) A (compareOp .In u (.ref a)) Q E s:=by
 rcases g with⟨i,k,e,f,l⟩ | ⟨i,k,b,e,f,m,l⟩;.subst f;obtain⟨z,hd,vs,c,d⟩:=DY I.de e;refine wpAny_in_of (sS j) hd d.mapOf ?_;rw[<-(c.val k).kM,<-l];exact h _ (I.tok _)
 .subst f;cases (show u=Value.ref b from j);obtain⟨z,hd,xs,c,d⟩:=DR I.de e;refine wpAny_in_heap (RY n) (vz I.de m) hd d ?_;have q:=(c.val k).kM;rw[U2]at q;rw[<-q,<-l];exact h _ (I.tok _)
theorem zF{c:Heap}{j:Nat}{f:HO}(I:Inv X t p H s)(i:Kx (H a))(hs:Heap.SameBut a s.heap c)(h:∃ q,c.get? a=some q)(d:cG X.prog X.w (upd H a f) c a f):
 Inv X t p (upd H a f) { s with heap:=c,toks:=j }:=
 I.write (x:=a) (e:=a) i (.inl rfl) (fun b q g z=>(hs.2 b g).trans z) h d
theorem Mf{P:Program}{w:World}{e:Hp}{d:Heap}{b:List (Key×V)}{vs:List (Key×Value)}(z:b.length<=sizeLine)(hd:(a==sysModules)=false)(c:KV b vs)(f:d.DictOf (cI P w) a vs): cG P w e d a (.dK b):=⟨z,hd,vs,c,f⟩
theorem Ff{D:Hp}{Q:Unit->Shared->Prop}(W:A.units+1<cLine)(I:Inv X t p H s)(g:Cy H a y v D)(M:RelV y u)(L:RelV v r)(h:∀ s',Inv X t p D s'->Q () s'):
 wpAny (model X.prog X.w) A (setItem (.ref a) u r) Q E s:=by
 rcases g with⟨d,k,e,x,l,n⟩ | ⟨d,k,b,e,x,F,l,n⟩
 .subst x n;obtain⟨z,hd,vs,f,m⟩:=Ng I.de e;have C:vs.length<=sizeLine:=by rw[<-f.length];exact z
  have hl:(putK d k v).length<=sizeLine:=by have:=sZ d k v;omega
  refine wpAny_setItem_pairs (hsz:=C) (sS M) m fun J i hs=>h _ ?_;have U:∃ q,J.get? a=some q:=let ⟨q,_,_,j,_⟩:=i;⟨q,j⟩;exact zF I (by rw[e];exact OF) hs U (Mf hl hd (f.put k L) i)
 .subst x n;cases (show u=Value.ref b from M);obtain⟨z,hd,xs,f,m⟩:=KG I.de e;have C:xs.length<=sizeLine:=by rw[<-Rr f];exact z
  have hl:(putK d k v).length<=sizeLine:=by have:=sZ d k v;omega
  refine wpAny_setItem_heap (hsz:=C) (RY W) (vz I.de F) m fun J i hs=>h _ ?_;obtain⟨q,O,N,j,h2,P,R,_,T⟩:=i;refine zF I (by rw[e];exact OF) hs ⟨q,j⟩ ⟨hl,hd,_,(f.put k F L).keeps fun c Y G=>?_,q,O,N,j,h2,P,R,T⟩;rw[aq (cH G e (fun z=>nomatch z))];exact G
end
def Ni(i:Expr):Prop:=∀ b a,subscripted i false b a=operate [b,a] (getItem b a)
theorem JU{prog:Program}{w:World}{A:Around}{E:Value->Shared->Prop}{s:Shared}{g:Env}{b a:Expr}{m:Pos}{T p:String}{Q:Value->Shared->Prop}
 (hl:typeLookup (.type T) "__getitem__"=pure (some (.builtin p))) (hs:Ni a)
 (h:wpAny (model prog w) A (eval b g) (fun o e=>wpAny (model prog w) A (eval a g) (fun i c=>c.TypeIs o T/\wpAny (model prog w) A (getItem o i) Q E c) E e) E s):
 wpAny (model prog w) A (eval (.Subscript b a m) g) Q E s:=by
 refine Subscript_ (Qa h (fun o e k=>Qa k (fun i c d=>?_) fun _ _ x=>x) fun _ _ x=>x);obtain⟨n,d⟩:=d;unfold subscriptTail;refine Oz ?_;rw[getitemInPython_of_ne n.not_modules];refine Oz (TR n hl ?_);have j:wpAny (model prog w) A (subscripted a false o i) (fun r f=>wpAny (model prog w) A (letTemporaryGo b o r >>= fun _=>pure r) Q E f) E c:=by rw[hs o i];exact wpAny_operating (Qa d (fun r f l=>Oz (wpAny_letTemporaryGo (OK l))) fun _ _ x=>x)
 first
  | exact OK (Oz j)
  | exact Oz (OK (Oz j))
  | exact Oz j
def Im(f e:TE):TE:=fun c H Q=>f c H fun y d=>e c d fun x b=>∃ a o,x=.ref a/\vT b a y o/\Q (.bl o.isSome) b
def AG(g i h:TE):TS:=fun D b H=>h b H fun v d=>g b d fun x e=>i b e fun y f=>∃ a c,x=.ref a/\Cy f a y v c/\D.nx b c
section
variable {X:Cx}{o i e z:Expr}{t w m:Pos}{p q n:TE}
theorem LO(C:X.A.units+1<cLine)(v:PE X i q)(B:PE X o p):PC X .In i o (Im q p):=by intro b s c H Q I h;refine cj (v b s c H _ I h) fun M L ⟨y,d,j,J,E⟩=>cj (B b L c d _ j E) fun u N ⟨x,f,k,G,a,D,r,g,F⟩=>?_;subst r;obtain rfl:u=Value.ref a:=G;exact N6 C k g J fun O l=>⟨.bl D.isSome,f,l,rfl,F⟩
theorem Kd(J:X.A.units+1<cLine)(G:PE X o p)(F:PE X i q)(L:PE X z n)(hs:swapsWith z (some (.Subscript o i w)) t.line X.env=pure false):
 PS X (.Assign [.Subscript o i w] z t) (AG p q n):=by
 intro b s c H D I h;refine wpAny_Assign_Subscript (cj (L b s c H _ I h) fun r T ⟨v,d,k,P,M⟩=>cj (G b T c d _ k M) fun u U ⟨x,f,l,Q,N⟩=>cj (F b U c f _ l N) fun Y Z ⟨y,W,B,R,a,j,E,g,O⟩=>?_) hs;subst E;obtain rfl:u=Value.ref a:=Q;exact Ff J B g R P fun s4 C=>⟨c,j,C,O⟩
end
theorem Ib{P:Program}{w:World}{H:Hp}(h:Heap)(a:sysModules<h.objs.size):cG P w H (h.push { cls:=.type "dict",data:=.dict #[] }) h.objs.size (.dT []):=⟨O1 _,Q0.mpr (OL (Pr a)),[],.nil,_,#[],0,OU _ rfl,⟨rfl,rfl,rfl⟩,rfl,rfl,Ug⟩
def Lr:TE:=fun _ H Q=>∀ p,H p=none->Q (.ref p) (upd H p (.dT []))
section
variable {X:Cx}{z:Pos}
theorem HK:PE X (.Dict [] [] z) Lr:=fun b s d H Q I h=>wpAny_Dict_empty ⟨.ref s.heap.objs.size,_,I.laid (a:=s.heap.objs.size) (o:=.dT []) (t':=s.toks) (fun _ _ q=>OD _ q) (OE _) (Ib s.heap I.big),rfl,h _ (I.de.fresh (OE _))⟩
end
structure M1(X:Cx)(o:Expr)(m:Str)(apos:Pos)(e:Expr)(cpos:Pos):Prop where
 base:attributeBase o m X.env (eval o X.env)=eval o X.env
 z9:((backTo cpos (starEach [e] X.env)).all (fun x=>!x.1)&&(backToKw cpos (keywordEach [] X.env)).all (fun x=>x.1.isSome) && decide (([e]:List Expr).length+([]:List Keyword).length+(if ([]:List Keyword).isEmpty then 0 else 1)<30))=true
 line:(apos.endLine==cpos.line)=true
 trees:backTo cpos (starEach [e] X.env)=[(false,eval e X.env)]
structure M2(X:Cx)(o:Expr)(m:Str)(apos:Pos)(e f:Expr)(cpos:Pos):Prop where
 base:attributeBase o m X.env (eval o X.env)=eval o X.env
 z9:((backTo cpos (starEach [e,f] X.env)).all (fun x=>!x.1)&&(backToKw cpos (keywordEach [] X.env)).all (fun x=>x.1.isSome) && decide (([e,f]:List Expr).length+([]:List Keyword).length+(if ([]:List Keyword).isEmpty then 0 else 1)<30))=true
 line:(apos.endLine==cpos.line)=true
 trees:backTo cpos (starEach [e,f] X.env)=[(false,eval e X.env),(false,eval f X.env)]
def NN(H:Hp)(a:Addr):Prop:=(∃ b,Rd H a (.dK b))\/∃ b,Rd H a (.dT b)
theorem Hs{X:Cx}{g:List (Addr×Obj)}{i:St}{H:Hp}{s:Shared}{a:Addr}(I:Inv X g i H s)(d:NN H a):
 s.TypeIs (.ref a) "dict"/\(∀ b,Value.ref a=.ref b->∃ c,s.heap.get? b=some c/\c.dict=none)/\(a==sysModules)=false:=by
 rcases d with⟨h,e⟩ | ⟨h,e⟩;.obtain⟨_,hd,vs,_,f⟩:=DY I.de e;refine⟨f.typeIs,fun b q=>?_,hd⟩;cases q;obtain⟨c,_,_,h1,h2,_⟩:=f;exact⟨c,h1,h2.2.1⟩
 .obtain⟨_,hd,xs,_,f⟩:=DR I.de e;refine⟨f.typeIs,fun b q=>?_,hd⟩;cases q;obtain⟨c,_,_,h1,h2,_⟩:=f;exact⟨c,h1,h2.2.1⟩
section
variable {X:Cx}{x:List (Addr×Obj)}{v:St}{H:Hp}{s:Shared}{a:Addr}{y d:V}{u r:Value}{o:Option V}{A:Around}{E:Value->Shared->Prop}
theorem Lx{Q:Value->Shared->Prop}(q:A.units+1<cLine)(I:Inv X x v H s)(g:vT H a y o)(m:RelV y u)(h:∀ n s',Inv X x v H s'->RelV (o.getD .ba) n->Q n s'):
 wpAny (model X.prog X.w) A (call (.builtin "dict.get") [.ref a,u]) Q E s:=by
 rcases g with⟨j,k,e,i,l⟩ | ⟨j,k,b,e,i,p,l⟩;.subst i;obtain⟨z,hd,vs,c,f⟩:=DY I.de e;refine Tz Sj f.typeIs T6 (TK _ _) (meets_dict_get (cI X.prog X.w) a (sS m) hd) ⟨_,f.mapOf,h _ _ (I.tok _) ?_⟩;rw[l];exact(c.val k).getD rfl
 .subst i;cases (show u=Value.ref b from m);obtain⟨z,hd,xs,c,f⟩:=DR I.de e;refine Tz Sj f.typeIs T6 (TK _ _) (meetsH_dict_get (tupleKind (cI X.prog X.w)) a b hd) ⟨RY q,k,xs,vz I.de p,f,h _ _ (I.tok _) ?_⟩;rw[l];exact(c.val k).getD rfl
end
def IX(e f:TE):TE:=fun d H Q=>e d H fun x b=>∃ a,x=.ref a/\NN b a/\f d b fun y c=>∃ o,vT c a y o/\Q (o.getD .ba) c
section
variable {X:Cx}{o e f:Expr}{w z:Pos}{t v r:TE}
theorem Jb(D:X.A.units+1<cLine)(C:PE X o t)(B:PE X e v)(m:M1 X o "get" w e z):PE X (.Call (.Attribute o "get" w) [e] [] z) (IX t v):=by intro b s j H Q I h;refine Tp m.base m.z9 m.line TM Sj PySem.F.type_dict_get (cj (C b s j H _ I h) fun u M ⟨x,k,i,J,a,q,d,E⟩=>?_);subst q;obtain rfl:u=Value.ref a:=J;obtain⟨N,O,_⟩:=Hs i d;refine⟨N,O,?_⟩;rw[m.trees];refine PR rfl (QF (PV (cj (B b M j k _ i E) fun P T ⟨y,l,n,L,R,g,G⟩=>Qu ?_)));exact Lx D n g L fun W U p c=>⟨_,l,p,c,G⟩
end
end L2
namespace L2
open PySem PySem.Spec PyProof.Rows
section
variable {X:Cx}
theorem p8{g:List (Addr×Obj)}{D:St}{H:Hp}{s:Shared}(I:Inv X g D H s):∀ {ps:List Addr} {f:List (Key×V)},Paired (fun p d=>iJ X.K H p [kV d.1,d.2]) ps f ->
 ∃ c:List (Key×Value),KV f c/\c.length=ps.length/\∀ (j:Nat) (q:Key×Value),c[j]?=some q->∃ (b:Addr) (u:Value),ps[j]?=some b/\IsTup s.heap b #[u,q.2]/\oJ q.1 u=true
 | _,_,.nil=>⟨[],.nil,rfl,fun j q e=>by simp at e⟩
 | _,_,.cons (a:=p) (b:=d) h t=>by
   obtain⟨c,r,hl,o⟩:=p8 I t;obtain⟨x,A,v,_⟩:=I.tuple h;obtain⟨u,y,n,z,B⟩:=vals2 A;subst n;refine⟨(d.1,y)::c,.cons ⟨rfl,B⟩ r,by rw[OB,OB,hl],fun j q e=>?_⟩;cases j with
   | zero=>have i:(d.1,y)=q:=OQ e;subst i;exact⟨p,u,rfl,v,sS (P:=X.prog) (w:=X.w) z⟩
   | succ j=>obtain⟨b,C,k,l,m⟩:=o j q (by simpa using e);exact⟨b,C,by simpa using k,l,m⟩
end
end L2
namespace L2
open PySem PySem.Spec PyProof.Rows
theorem uo:bootBuiltins "reversed"=some (.type "reversed"):=by decide +kernel
section
variable {X:Cx}{y:List (Addr×Obj)}{t:St}{H:Hp}{s:Shared}{h':Heap}
theorem Inv.rk{t':Nat}{ch:List Addr}{T:Addr}{ob:HO}(I:Inv X y t H s)(k:∀ b o,b∉ch->s.heap.get? b=some o->h'.get? b=some o)(hf:∀ b∈ch,vx X y H b)(g:s.heap.objs.size<=T)
 (f:cG X.prog X.w (upd H T ob) h' T ob):Inv X y t (upd H T ob) { s with heap:=h',toks:=t' }:=by
 have hn:H T=none:=I.de.fresh g;have d:∀ b u,H b=some u->b∉ch:=fun b u e z=>by have q:=(hf b z).1;rw[q]at e;cases e
 refine I.step (g':=s.gens) (d':=s.drawn) (ch:=ch) (fun b a=>⟨(hf b a).2.2.2.1,(hf b a).2.1,(hf b a).2.2.2.2.1,(hf b a).2.2.2.2.2⟩) (fun b o _ _ hc e _=>k b o hc e) (fun b o _ _ hc e _=>⟨o.slots,k b o hc e⟩) (fun b o _ e n=>?_) (fun b o hc e=>⟨o,k b o hc e⟩) (fun b xs e=>?_) (fun b o u e=>?_) (fun b ps e=>⟨#[],?_⟩) (fun m j=>?_) (fun b u e=>?_) I.bare;.rw[aq (Pr (Pb (OY e) g))];exact n
 .rw[aq (aj e hn)];exact e
 .rw[aq (aj e hn)];exact e
 .rw[aq (aj e hn),e];simp
 .obtain⟨o,i,h,l,r⟩:=j;exact⟨o,i,h,k _ o (fun z=>(hf _ z).2.1 rfl) l,r⟩
 .by_cases a:b=T;.subst a;rw[ai]at e;cases e;exact f
  .rw[aq a]at e;refine(I.de b u e).br (fun c v hc q=>k c v ?_ q) (fun c q=>by rw[aq (aj q hn)];exact q) fun c xs q=>by rw[aq (aj q hn)];exact q
   rcases hc with z | z;.rw[z];exact d b u e
   .exact d c _ z
theorem Inv.lock{d:Addr}{u:HO}(I:Inv X y t H s)(h:H d=some u)(c:Kx (some u)):∃ a,Inv X y t (upd H d (.jP a u)) s:=by
 have x:=I.de d u h;have g:∃ a,s.heap.get? d=some a:=by
  cases u with
  | lst xs=>obtain⟨_,_,_,_,e⟩:=x;exact⟨_,e⟩
  | dK kvs=>obtain⟨_,_,_,_,o,_,_,e,_⟩:=x;exact⟨o,e⟩
  | dT kvs=>obtain⟨_,_,_,_,o,_,_,e,_⟩:=x;exact⟨o,e⟩
  | set S n=>obtain⟨o,_,_,_,e,_⟩:=x;exact⟨o,e⟩
  | ins C dx fs=>obtain⟨_,_,_,e,_⟩:=x;exact⟨_,e⟩
  | ext φ=>obtain⟨_,⟨_,e⟩,_⟩:=x;exact⟨_,e⟩
  | _=>exact False.elim c
 obtain⟨a,e⟩:=g;have f:cG X.prog X.w (upd H d (.jP a u)) s.heap d (.jP a u):=by
  refine⟨e,x.br (fun b v _ q=>q) (fun b q=>?_) fun b xs q=>?_⟩;.rw[aq (fun z=>by rw[z,h]at q;cases q;exact c)];exact q
  .rw[aq (fun z=>by rw[z,h]at q;cases q;exact c)];exact q
 exact⟨a,I.write (x:=d) (e:=d) (t':=s.toks) (h':=s.heap) (by rw[h];exact c) (.inl rfl) (fun b v _ q=>q) ⟨a,e⟩ f⟩
theorem Inv.ED{d:Addr}{u:HO}(I:Inv X y t H s)(h:H d=some u)(c:Kx (some u)):∀ a b,X.LD d≠some (.jP a b):=fun a b e=>by have q:=I.base.px d a b e;rw[h]at q;cases q;exact c
theorem Inv.unlock{d:Addr}{w:Obj}{u:HO}(I:Inv X y t H s)(h:H d=some (.jP w u))(hn:∀ j k,X.LD d≠some (.jP j k)):Inv X y t (upd H d u) s:=by
 have a:∀ b o,H b=some o->(∀ j k,o≠.jP j k)->b≠d:=fun b o e i z=>by rw[z,h]at e;cases e;exact i _ _ rfl
 have f:∀ b,H b=none->b≠d:=fun b e z=>by rw[z,h]at e;cases e
 refine⟨I.ok,I.os,I.bare,⟨I.base.keep,I.base.slot,fun b o e n hx=>?_,I.base.there,fun b xs e=>?_,fun b o x e=>?_,fun b ps e=>?_⟩,I.loc,I.cell,?_,fun x c e=>?_,fun p l=>?_,fun b o e=>?_,I.len⟩;.rw[aq (f b (I.base.free b o e n hx))];exact I.base.free b o e n hx
 .have q:=I.base.rA b xs e;rw[aq (a b _ q (fun _ _ z=>nomatch z))];exact q
 .have q:=I.base.px b o x e;rw[aq (fun z=>by rw[z]at e;exact hn _ _ e)];exact q
 .obtain⟨m,q⟩:=I.base.rB b ps e;exact⟨m,by rw[aq (a b _ q (fun _ _ z=>nomatch z))];exact q⟩
 .rw[aq (f _ I.free)];exact I.free
 .rw[aq (f c (I.gG x c e))];exact I.gG x c e
 .obtain⟨e,n,r⟩:=I.pin p l;exact⟨e,by rw[aq (f _ n)];exact n,r⟩
 .by_cases g:b=d;.rw[g,ai]at e;cases e;rw[g];obtain⟨_,x⟩:=I.de d _ h;exact x.br (fun c v _ q=>q) (fun c q=>by rw[aq (a c _ q (fun _ _ z=>nomatch z))];exact q) fun c xs q=>by rw[aq (a c _ q (fun _ _ z=>nomatch z))];exact q
  .rw[aq g]at e;exact(I.de b o e).br (fun c v _ q=>q) (fun c q=>by rw[aq (a c _ q (fun _ _ z=>nomatch z))];exact q) fun c xs q=>by rw[aq (a c _ q (fun _ _ z=>nomatch z))];exact q
end
def ME(t:TS):TS:=fun D e H=>∃ d u,H d=some u/\Kx (some u)/\∀ c,t ⟨fun b a=>a d=some (.jP c u)/\D.nx b (upd a d u),fun v a=>a d=some (.jP c u)/\D.rt v (upd a d u),fun b a=>a d=some (.jP c u)/\D.bk b (upd a d u),fun b a=>a d=some (.jP c u)/\D.ct b (upd a d u)⟩ e (upd H d (.jP c u))
section
variable {X:Cx}
theorem JV{j:Stmt}{t:TS}(h:PS X j t):PS X j (ME t):=by
 intro g s m H D I hw;obtain⟨d,u,hd,c,hw⟩:=hw;obtain⟨l,k⟩:=I.lock hd c;refine cj (h g s m _ _ k (hw l)) fun f n q=>?_;cases f with
 | next=>obtain⟨a,i,b,e,q⟩:=q;exact⟨a,_,b.unlock e (I.ED hd c),q⟩
 | brk=>obtain⟨a,i,b,e,q⟩:=q;exact⟨a,_,b.unlock e (I.ED hd c),q⟩
 | cont=>obtain⟨a,i,b,e,q⟩:=q;exact⟨a,_,b.unlock e (I.ED hd c),q⟩
 | ret v=>obtain⟨x,a,i,b,r,e,q⟩:=q;exact⟨x,a,_,b.unlock e (I.ED hd c),r,q⟩
theorem yG{d:Expr}{a:List (Addr×Obj)}{f:St}{H:Hp}{s:Shared}{R:It->Hp->Prop}{J:It}{c:Nat->Heap->Prop}{tk:Nat}(I:Inv X a f H s)(o:Obj)
 (T:Turn X.prog X.w X.K d J [s.heap.objs.size] s.heap.objs.size c) (h:c 0 (s.heap.push o)) (q:R J H):Nq X a f d R (.ref s.heap.objs.size) { s with heap:=s.heap.push o,toks:=tk }:=by
 refine⟨s.heap.objs.size,[s.heap.objs.size],c,J,H,rfl,I.kept fun b i e=>OD _ e,T,h,fun b g=>?_,q⟩;have e:b=s.heap.objs.size:=by simpa using g
 subst e;exact I.C4 (OE _) (I.de.fresh (OE _))
end
def NA(b c:Int)(n:Nat):It:=⟨fun i _=>i<n,fun i H x a=>a=H/\x=.int (b+(i:Nat) * c),fun i _=>n<=i⟩
theorem BG{P:Program}{w:World}{K:PySem.W.Frag}{O:Expr}(d:Addr)(m c:Int)(n:Nat):Turn P w K O (NA m c n) [d] d (fun i h=>IsRangeIter h d (m+(i:Nat) * c) ((n:Int) - (i:Nat)) c) where
 mem:=by simp
 obj:=fun i h a b g=>by
  have e:b=d:=by simpa using g
  subst e;exact⟨_,a,fun v z=>nomatch z⟩
 keep:=fun i h l a k=>k d (by simp) _ a
 item:=by intro X B hw y hc i f s F H E I hf a C;subst B hw y;obtain⟨p,q,L,r,u,x⟩:=hf d (by simp);have W:=Walks.range (prog:=X.prog) (w:=X.w) (I.ok.hd hc) d m c n;refine W.item i s _ _ C a fun v l D M j N=>?_;obtain⟨t,rfl⟩:=M;have G:Inv X f F H { s with heap:=l,toks:=D }:=I.turned (fun b o g e=>N b o (by simpa using g) e) p q r u x;exact⟨_,rfl,Bg (s:={ s with heap:=l,toks:=D }) (n:="range_iterator") j rfl rfl (by decide) ⟨.int (m+(i:Nat) * c),H,G,⟨t,rfl⟩,⟨rfl,rfl⟩,j,fun b g=>(hf b g).1⟩⟩
 done:=by intro X B hw y hc i f s F H E I hf a C;subst B hw y;obtain⟨p,q,L,r,u,x⟩:=hf d (by simp);exact TY (I.ok.hd hc) a (by have:n<=i:=C;omega) fun l J=>⟨rfl,I.turned (t':=s.toks) (fun b o g e=>J b o g e) p q r u x⟩
 self:=fun A i s Q E a h=>TZ a h
def Ny(i j c:Int)(n:Nat):Prop:=c≠0/\c.natAbs<1073741824/\Builtin.Range.small i j c=true/\Builtin.Range.rangeSize i j c=n
theorem Ny.neg{i j:Int}(ha:-(2 ^ 62)<=i)(a:i<2 ^ 62)(c:-(2 ^ 62)<=j)(b:j<2 ^ 62):Ny i j (-1) (i - j).toNat:=⟨by decide,by decide,PySem.W.small_down ha a c b,PySem.W.rangeSize_downNat i j⟩
def MY(b:TA):TI:=fun d H R=>b d H fun vs a=>∃ (i j c:Int) (n:Nat),vs=[.int i,.int j,.int c]/\Ny i j c n/\R (NA i c n) a
section
variable {X:Cx}{z:Expr}
theorem FL{a b c:Expr}{x:TA}{p f:Pos}(L:Gl X "range")(M:X.mg "range"=none)(ha:PA X [a,b,c] x)
 (hs:starEach [a,b,c] X.env=(false,eval a X.env)::starEach [b,c] X.env:=by rfl) (m:(backTo f (starEach [b,c] X.env)).any (·.1)=false:=by rfl):
 PI X z (.Call (.Name "range" p) [a,b,c] [] f) (MY x):=by
 intro d s y H R I h;refine Call_ (lK I L M boot_range (Qq (cj (ha f d s y H _ I h) fun us l ⟨vs,A,B,P,N⟩=>?_) hs m));obtain⟨i,j,k,n,e,⟨D,E,F,c3⟩,q⟩:=N;subst e;cases P with
 | cons r g=>
   cases g with
   | cons O g=>
     cases g with
     | cons u g=>
       cases g;obtain⟨t,rfl⟩:=r;obtain⟨w,rfl⟩:=O;obtain⟨v,rfl⟩:=u;refine call_range_3 D ?_ (.inl (T1 E));refine wpAny_pyIter_range (IsRange.new ..) F ?_;have C:Inv X d y A { l with heap:=l.heap.push { cls:=.type "range",data:=.fields #[.int i t,.int j w,.int k v] } }:=B.kept (t':=l.toks) fun b o e=>OD _ e;refine yG (tk:=l.toks) C _ (BG _ i k n) ?_ q;have G:i+((0:Nat):Int) * k=i:=by simp
       have J:(n:Int) - ((0:Nat):Int)=Builtin.Range.rangeSize i j k:=by rw[c3];simp
       show IsRangeIter _ _ (i+((0:Nat):Int) * k) ((n:Int) - ((0:Nat):Int)) k;rw[G,J];exact OU _ rfl
end
def MT(x:Str):It:=⟨fun i _=>i<x.cps.size,fun i H v a=>a=H/\∃ c,x.cps[i]?=some c/\v=.str ⟨#[c]⟩,fun i _=>x.cps.size<=i⟩
theorem Ah{P:Program}{w:World}{K:PySem.W.Frag}{tg:Expr}(f:Addr)(x:Str)(t:Tok)(p:String)(j:p="str_ascii_iterator"\/p="str_iterator"):
 Turn P w K tg (MT x) [f] f (fun i h=>h.IsStrIter f p x t i) where
 mem:=by simp
 obj:=fun i h a b g=>by
  have e:b=f:=by simpa using g
  subst e;obtain⟨o,e,c,d⟩:=a;exact⟨o,e,fun v z=>by rw[d]at z;cases z⟩
 keep:=fun i h m a k=>let ⟨o,ho,r⟩:=a;⟨o,k f (by simp) o ho,r⟩
 item:=by
  intro X J hw G hc i l s R H E I hf a M;subst J hw G;obtain⟨q,y,Z,B,C,D⟩:=hf f (by simp);have W:Walks X.prog X.w X.A f [f] [f] x.cps.size (SignAt x) (fun i h=>h.IsStrIter f p x t i):=by
   rcases j with e | e;.rw[e];exact Walks.strAscii (I.ok.hd hc) f x t
   .rw[e];exact Walks.strWide (I.ok.hd hc) f x t
  have N:["enumerate","zip","dict_itemiterator","dict_reverseitemiterator","odict_iterator","itertools.zip_longest","itertools.pairwise"].contains p=false:=by
   rcases j with e | e;.rw[e];decide
   .rw[e];decide
  refine W.item i s _ _ M a fun v m O hv n kk=>?_;obtain⟨c,u,L,rfl⟩:=hv;have T:Inv X l R H { s with heap:=m,toks:=O }:=I.turned (fun b o g e=>kk b o (by simpa using g) e) q y B C D;obtain⟨oi,e,U,Y⟩:=id n;exact⟨_,rfl,Bg (s:={ s with heap:=m,toks:=O }) e U Y N ⟨.str ⟨#[c]⟩,H,T,⟨u,rfl⟩,⟨rfl,c,L,rfl⟩,n,fun b g=>(hf b g).1⟩⟩
 done:=by
  intro X J hw G hc i l s R H E I hf a M;subst J hw G;obtain⟨q,y,Z,B,C,D⟩:=hf f (by simp);have hx:x.cps[i]?=none:=T7 M;rcases j with e | e
  .rw[e]at a;exact wpAny_pyNext_ascii_end (I.ok.hd hc) a hx fun m F=>⟨rfl,I.turned (t':=s.toks) (fun b o g e=>F b o g e) q y B C D⟩
  .rw[e]at a;exact wpAny_pyNext_wide_end (I.ok.hd hc) a hx fun m F=>⟨rfl,I.turned (t':=s.toks) (fun b o g e=>F b o g e) q y B C D⟩
 self:=fun A i s Q E a h=>by
  rcases j with e | e;.rw[e]at a;exact wpAny_pyIter_striter_ascii a h
  .rw[e]at a;exact wpAny_pyIter_striter_wide a h
def Mx(b:TE):TI:=fun c H R=>b c H fun v a=>∃ x,v=.str x/\R (MT x) a
theorem C7{X:Cx}{j e:Expr}{d:TE}(g:PE X e d):PI X j e (Mx d):=by
 intro a s l H R I h;refine cj (g a s l H _ I h) fun v c ⟨y,m,b,i,x,f,q⟩=>?_;subst f;obtain⟨t,rfl⟩:=i;cases ha:x.cps.all (·<128);.exact wpAny_pyIter_wide ha (yG (tk:=c.toks) b _ (Ah _ x t "str_iterator" (.inr rfl)) ⟨_,OU _ rfl,rfl,rfl⟩ q)
 .exact wpAny_pyIter_ascii ha (yG (tk:=c.toks) b _ (Ah _ x t "str_ascii_iterator" (.inl rfl)) ⟨_,OU _ rfl,rfl,rfl⟩ q)
theorem uZ{f g:Type}{G:f->g->Prop}{c:List f}{d:List g}(h:Paired G c d):∀ {i:Nat} {a:f},c[i]?=some a->∃ b,d[i]?=some b/\G a b:=by
 induction h with
 | nil=>intro i a e;simp at e
 | @cons a b c d r t k=>
   intro i l e;cases i with
   | zero=>simp only[Pj,OC]at e;subst e;exact⟨b,rfl,r⟩
   | succ j=>simp only[Pk]at e |-;exact k e
section
variable {X:Cx}{y:List (Addr×Obj)}{x:St}{H:Hp}{s:Shared}{d:Addr}{o:Obj}
theorem Inv.N4{a:List (List Key×V)}(I:Inv X y x H s)(h:H d=some (.jP o (.dT a))):
 (d==sysModules)=false/\s.heap.get? d=some o/\o.ExactDict/\∃ (c:Array DictEntry) (f:Nat),o.data=.dict c f/\c.size=a.length /\ ∀ (i:Nat) (k:List Key) (v:V),a[i]?=some (k,v)->∃ (j:DictEntry) (q:Addr),c[i]?=some j/\j.key=.ref q/\H q=some (.tup (k.map kV)):=by
 obtain⟨hd,z,hs,xs,n,A,c,f,m,hx,g,l,_⟩:=I.de d _ h;rw[hd]at m;cases m;refine⟨hs,hd,hx,c,f,g,?_,fun i k v e=>?_⟩;.have u:c.size=xs.length:=Sy l;have w:a.length=xs.length:=Rr n;omega
 .obtain⟨b,r,t,p,_⟩:=uZ n e;have q:=entry_at l i;rw[r]at q;exact⟨_,b.2.1,q,rfl,p⟩
end
theorem Er{o:Obj}{d b:Array DictEntry}{c a:Nat}(h:o.data=.dict d c)(e:o.data=.dict b a):b=d/\a=c:=by rw[h]at e;cases e;exact⟨rfl,rfl⟩
end L2
section
namespace Bits
open PySem PyProof.Rows
theorem AN{x:Int}(k:Nat)(hx:0<=x):Builtin.bitAnd x (2 ^ k - 1)=x % 2 ^ k:=by
 obtain⟨n,rfl⟩:=Int.eq_ofNat_of_zero_le hx;have a:0<2 ^ k:=TU k;rw[two_pow_cast];have e:((2 ^ k:Nat):Int) - 1=((2 ^ k - 1:Nat):Int):=by generalize (2:Nat) ^ k=m at a;omega
 rw[e,bitAnd_pp (by omega) (by omega),PL,PL,Nat.and_two_pow_sub_one_eq_mod]
 first
  | rfl
  | exact Int.natCast_emod _ _
  | simp
end Bits
end
section
namespace TL
open PySem PySem.Builtin PySem.Builtin.Str PySem.StrLaws
abbrev tl(x:Str):List Nat:=x.cps.toList
def pre(S l:List Nat):Bool:=l.take S.length==S
def Me(S:List Nat):Nat->List Nat->List Nat->List (List Nat)
 | _,acc,[]=>[acc]
 | 0,acc,c::r=>if pre S (c::r)=true then acc::Me S (S.length - 1) [] r else Me S 0 (acc++[c]) r
 | k+1,acc,_::r=>Me S k acc r
def par(S:List Nat):List Nat->List Nat->Option (List Nat×List Nat)
 | _,[]=>none
 | acc,c::r=>if pre S (c::r)=true then some (acc,(c::r).drop S.length) else par S (acc++[c]) r
theorem yy{S a r:List Nat}{c:Nat}(h:pre S (c::r)=true):Me S 0 a (c::r)=a::Me S (S.length - 1) [] r:=by show(if pre S (c::r)=true then a::Me S (S.length - 1) [] r else Me S 0 (a++[c]) r)=_;rw[Oy h]
end TL
end
namespace L2
open PySem PySem.Spec PyProof.Rows
theorem Jp{n:Nat}(h:n<=16777216):Builtin.Str.tooLong n=false:=by
 have e:(2:Nat) ^ 24=16777216:=by decide
 unfold Builtin.Str.tooLong sizeLine;exact O3 (by omega)
theorem xt:∀ l:List (Str×Tok),Vals ((l.map (·.1)).map V.str) (strValues l)
 | []=>.nil
 | p::r=>.cons ⟨p.2,rfl⟩ (xt r)
theorem lH:∀ {a:List Str} {us:List Value},Vals (a.map V.str) us->StrsAre us a
 | [],_,.nil=>.nil
 | y::a,_,.cons r t=>by obtain⟨k,rfl⟩:=r;exact .cons y k (lH t)
def vU(a:List Str):Hp->VK->Prop:=fun H Q=>∀ p,H p=none->Q (.ref p) (upd H p (.lst (a.map V.str)))
section
variable {X:Cx}{w:List (Addr×Obj)}{r:St}{H:Hp}{s:Shared}{Q:VK}
theorem rY{l:List (Str×Tok)}{ys:List Str}{k:Nat}(I:Inv X w r H s)(e:l.map (·.1)=ys)(c:ys.length<=sizeLine)(h:vU ys H Q):
 EP X w r Q (.ref s.heap.objs.size) { s with toks:=k,heap:=s.heap.push { cls:=.type "list",data:=.seq (strValues l).toArray } }:=by
 have a:=I.de.fresh (OE _);refine⟨.ref s.heap.objs.size,upd H s.heap.objs.size (.lst (ys.map V.str)),I.laid (fun b u q=>OD _ q) (OE _) ⟨by rw[O0];exact c,strValues l,_,?_,OU _ rfl⟩,rfl,h _ a⟩;rw[<-e];exact xt l
theorem wC{x y z:Str}{t u v:Tok}{k:Nat}(I:Inv X w r H s)(h:∀ p,H p=none->Q (.ref p) (upd H p (.tup [.str x,.str y,.str z]))):
 EP X w r Q (.ref s.heap.objs.size) { s with toks:=k,heap:=s.heap.push { cls:=.type "tuple",data:=.seq [Value.str x t,.str y u,.str z v].toArray } }:=by
 have a:=I.de.fresh (OE _);exact⟨.ref s.heap.objs.size,upd H s.heap.objs.size (.tup [.str x,.str y,.str z]),I.laid (fun b u q=>OD _ q) (OE _) ⟨by show 3<=sizeLine;decide,[Value.str x t,.str y u,.str z v],.cons ⟨t,rfl⟩ (.cons ⟨u,rfl⟩ (.cons ⟨v,rfl⟩ .nil)),_,OU _ rfl,rfl,_,rfl⟩,rfl,h _ a⟩
end
section
variable {X:Cx}
theorem GP:CZ X "str.split" (fun x xs H Q=>∃ a b,x=.str a/\xs=[.str b]/\(b.length==0)=false/\a.length+2<=sizeLine/\vU (Txt.split a b) H Q):=by
 intro c s m H x xs v us Q I j d h;obtain⟨a,b,rfl,rfl,e,g,h⟩:=h;obtain⟨t,rfl⟩:=j;cases d with
 | cons i d=>
   cases d;obtain⟨u,rfl⟩:=i;have hl:(Txt.split a b).length<=sizeLine:=O9 (PyProof.Rows.split_le a b) g;have hn:(Builtin.Str.partsBetween a (Builtin.Str.occurrences a b 0 a.length (a.length+1)) b.length).length<=sizeLine:=by have n:=StrLaws.occ_length_le a b 0 a.length (a.length+1);rw[length_partsBetween];omega
   cases h1:(decide (a.length<b.length) || decide (Builtin.Str.strKind a<Builtin.Str.strKind b))
   .cases hf:(Builtin.Str.occurrences a b 0 a.length (a.length+1)).isEmpty;.refine R0 TB (Q5 _ _ _) Tq (S9 _ _) (meets_str_split_sep a b t u h1 e hf (by omega) hn) ?_;show EP X c m Q (.ref s.heap.objs.size) { s with toks:=_,heap:=s.heap.push { cls:=.type "list",data:=.seq (strsFrom s.toks (Builtin.Str.partsBetween a (Builtin.Str.occurrences a b 0 a.length (a.length+1)) b.length)).toArray } };rw[strsFrom_eq];exact rY (ys:=Txt.split a b) I ((numbered_texts _ _).trans ((Ox (SR h1)).trans (Ox (SR hf))).symm) hl h
    .refine R0 TB (Q5 _ _ _) Tq (S9 _ _) (meets_str_split_not_found a b t u h1 e hf) ?_;exact rY (l:=[(a,t)]) (ys:=Txt.split a b) (k:=s.toks) I ((Ox (SR h1)).trans (Oy hf)).symm hl h
   .refine R0 TB (Q5 _ _ _) Tq (S9 _ _) (meets_str_split_cannot_occur a b t u h1) ?_;exact rY (l:=[(a,t)]) (ys:=Txt.split a b) (k:=s.toks) I (Oy h1).symm hl h
theorem pV:CZ X "str.partition" (fun x xs H Q=>∃ a b,x=.str a/\xs=[.str b]/\(b.length==0)=false/\a.length<=sizeLine /\
 ∀ p,H p=none->Q (.ref p) (upd H p (.tup [.str (Txt.partition a b).1,.str (Txt.partition a b).2.1,.str (Txt.partition a b).2.2]))):=by
 intro d s k H x xs v us Q I j c h;obtain⟨a,b,rfl,rfl,e,f,h⟩:=h;obtain⟨t,rfl⟩:=j;cases c with
 | cons g c=>
   cases c;obtain⟨u,rfl⟩:=g;refine R0 F.slot_str_partition (Q5 _ _ _) F.entry_str_partition (F.args_str_partition_2 _ _) (meets_str_partition a b t u e f) ?_;unfold Txt.partition at h;revert h;cases Builtin.Str.occurrences a b 0 a.length 1 with
   | nil=>intro h;exact wC I h
   | cons i r=>intro h;exact wC I h
theorem DX:CZ X "str.join" (fun x xs H Q=>∃ a p,∃ c:List Str,x=.str a/\xs=[.ref p]/\(bB X.K H p (c.map V.str)\/iJ X.K H p (c.map V.str)) /\
 (c.map (·.length)).sum+c.length * a.length<=16777216/\Q (.str (Txt.join a c)) H):=by
 intro i s u H x xs v us Q I q e h;obtain⟨a,p,c,rfl,rfl,d,g,h⟩:=h;obtain⟨t,rfl⟩:=q;cases e with
 | cons m e=>
   cases e;cases m;rcases d with d | d
   .obtain⟨b,r,⟨o,n,j,hc,_,hd⟩,_⟩:=I.list d;exact PyProof.Rows.join_list (items:=b.toArray) ⟨o,j,hc,n,hd⟩ (by rw[UC];exact lH r) g fun f k=>⟨.str _,H,I.tok k,⟨f,rfl⟩,h⟩
   .obtain⟨b,r,l,_⟩:=I.tuple d;exact PyProof.Rows.join_tuple (items:=b.toArray) l (by rw[UC];exact lH r) g fun f k=>⟨.str _,H,I.tok k,⟨f,rfl⟩,h⟩
theorem Om{c:String}{C:Str->Prop}{g:Str->V} (b:∀ (a:Str) (t:Tok) (s:Shared) (Q:Value->Shared->Prop),C a->(∀ (u:Value) (k:Nat),RelV (g a) u->Q u { s with toks:=k }) ->
 wpAny (model X.prog X.w) X.A (call (.builtin c) [.str a t]) Q X.xe s):CZ X c (fun x xs H Q=>∃ a,x=.str a/\xs=[]/\C a/\Q (g a) H):=by
 intro d s i H x xs v us Q I f e h;obtain⟨a,rfl,rfl,hc,h⟩:=h;obtain⟨t,rfl⟩:=f;cases e;exact b a t s _ hc fun u k r=>⟨g a,H,I.tok k,r,h⟩
theorem Cb:CZ X "str.lower" (fun x xs H Q=>∃ a,x=.str a/\xs=[]/\a.length<=5592405/\Q (.str (Txt.lower a)) H):=Om (C:=fun a=>a.length<=5592405) (g:=fun a=>.str (Txt.lower a)) fun a _ s _ hc h=>PySem.SC.lower (Jp (by have h1:a.length<=5592405:=hc;have:=PyProof.Rows.len_lower a;omega)) (h _ (s.toks+1) ⟨_,rfl⟩)
theorem Dj:CZ X "str.isdigit" (fun x xs H Q=>∃ a,x=.str a/\xs=[]/\True/\Q (.bl (Txt.isdigit a)) H):=Om (C:=fun _=>True) (g:=fun a=>.bl (Txt.isdigit a)) fun _ _ s _ _ h=>PySem.SC.isdigit (h _ s.toks rfl)
theorem Oj{e:String}{g:Str->Str->V} (c:∀ (a b:Str) (t u:Tok) (s:Shared) (Q:Value->Shared->Prop),(∀ (v:Value) (k:Nat),RelV (g a b) v->Q v { s with toks:=k }) ->
 wpAny (model X.prog X.w) X.A (call (.builtin e) [.str a t,.str b u]) Q X.xe s):CZ X e (fun x xs H Q=>∃ a b,x=.str a/\xs=[.str b]/\Q (g a b) H):=by
 intro f s l H x xs v us Q I j d h;obtain⟨a,b,rfl,rfl,h⟩:=h;obtain⟨t,rfl⟩:=j;cases d with
 | cons i d=>cases d;obtain⟨u,rfl⟩:=i;exact c a b t u s _ fun v k r=>⟨g a b,H,I.tok k,r,h⟩
theorem fZ:CZ X "str.startswith" (fun x xs H Q=>∃ a b,x=.str a/\xs=[.str b]/\Q (.bl (Txt.startswith a b)) H):=Oj (g:=fun a b=>.bl (Txt.startswith a b)) fun _ _ _ _ s _ h=>PySem.SC.startswith (h _ s.toks rfl)
theorem JK:CZ X "str.find" (fun x xs H Q=>∃ a b,x=.str a/\xs=[.str b]/\Q (.int (Txt.find a b)) H):=Oj (g:=fun a b=>.int (Txt.find a b)) fun _ _ _ _ s _ h=>PySem.SC.find (h _ (s.toks+1) ⟨_,rfl⟩)
theorem lN:jI X (.type "int") (fun xs H Q=>∃ a n,xs=[.str a]/\PySem.intText? a=some n/\a.length<=640/\Q (.int n) H):=by
 intro c s e H xs us Q I b h;obtain⟨a,n,rfl,hn,hl,h⟩:=h;cases b with
 | cons d b=>cases b;obtain⟨t,rfl⟩:=d;exact PySem.W.KIN.call_text hn hl ⟨.int n,H,I.tok _,⟨_,rfl⟩,h⟩
end
section
variable {X:Cx}{o e:Expr}{z w:TE}
def Oo(r:V->List V->Hp->VK->Prop)(z:TE):TE:=fun c H Q=>z c H fun x b=>(∃ a,x=.str a)/\r x [] b Q
def Oa(r:V->List V->Hp->VK->Prop)(z w:TE):TE:=fun b H Q=>z b H fun x c=>(∃ a,x=.str a)/\w b c fun y d=>r x [y] d Q
theorem IM{k:String}{name:Str}{b g:Pos}{r:V->List V->Hp->VK->Prop}(j:Slot "str" name k)(A:typeOf (.builtin k)=pure (.type "method_descriptor"))(i:CZ X k r)(u:PE X o z)
 (d:attributeBase o name X.env (eval o X.env)=eval o X.env:=by rfl) (f:(b.endLine==g.line)=true:=by rfl):PE X (.Call (.Attribute o name b) [] [] g) (Oo r z):=by
 intro c s n H Q I h;refine UK d f (cj (u c s n H _ I h) fun v y ⟨x,p,q,m,l⟩=>?_);obtain⟨⟨a,rfl⟩,l⟩:=l;obtain⟨t,rfl⟩:=_root_.id m;exact⟨"str",_,Sg,j,A,Q5 _ _ _,(fun _ e=>nomatch e),PR rfl (RQ (i c y n p _ [] _ [] Q q m .nil l))⟩
theorem mU{k:String}{name:Str}{c g:Pos}{r:V->List V->Hp->VK->Prop}(j:Slot "str" name k)(M:typeOf (.builtin k)=pure (.type "method_descriptor"))(i:CZ X k r)(D:PE X o z)(C:PE X e w)
 (hs:starEach [e] X.env=[(false,eval e X.env)]:=by rfl) (d:attributeBase o name X.env (eval o X.env)=eval o X.env:=by rfl) (f:(c.endLine==g.line)=true:=by rfl):
 PE X (.Call (.Attribute o name c) [e] [] g) (Oa r z w):=by
 intro b s m H Q I h;refine UL d hs f (cj (D b s m H _ I h) fun v J ⟨x,p,A,n,l⟩=>?_);obtain⟨⟨a,rfl⟩,l⟩:=l;obtain⟨t,rfl⟩:=_root_.id n;refine⟨"str",_,Sg,j,M,Q5 _ _ _,(fun _ e=>nomatch e),PR rfl (QF (PV ?_))⟩;exact cj (C b J m p _ A l) fun u L ⟨y,q,B,G,E⟩=>Qu (i b L m q _ [y] _ [u] Q B n (.cons G .nil) E)
end
end L2
namespace L2
open PySem PySem.Spec PyProof.Rows
section
variable {X:Cx}
theorem DI:pb X (compareOp .In) (fun x y H Q=>∃ (c:Nat) (z:Str),x=.str ⟨#[c]⟩/\y=.str z/\Q (.bl (decide (c∈z.cps.toList))) H):=by intro a s f H x y v u Q I b d h;obtain⟨c,z,rfl,rfl,q⟩:=h;obtain⟨t,rfl⟩:=b;obtain⟨e,rfl⟩:=d;exact PyProof.Rows.in_str (bP I q (PySem.StrLaws.found_one z c).symm)
end
theorem IsPart.raw{v:Value}{o:Option Int}(p:IsPart v o):∃ l:Option (Int×Tok),v=partValue l/\l.map (·.1)=o:=by
 cases p with
 | none=>exact⟨none,rfl,rfl⟩
 | int i t=>exact⟨some (i,t),rfl,rfl⟩
def A8(n d:Nat):Option Int->Int
 | none=>(d:Int)
 | some i=>max 0 (min (if i<0 then i+(n:Int) else i) (n:Int))
theorem BQ(n d:Nat)(o:Option Int):A8 n d o=((HT.jv n d o:Nat):Int):=by
 cases o with
 | none=>rfl
 | some v=>
   show max (0:Int) (min (if v<0 then v+(n:Int) else v) (n:Int))=(((if v<0 then(v+(n:Int)).toNat else min v.toNat n):Nat):Int);by_cases a:v<0;.simp only[Oy a];omega
   .simp only[Ox a];omega
theorem GC(a b:Option Int)(n:Nat):Builtin.Str.strSliceIndices a b 1 n=sliceRange (A8 n 0 a) (A8 n n b) 1:=by
 have h1:((1:Int)>0)=True:=by simp
 cases a<;>cases b<;>first
  | rfl
  | (simp only[Builtin.Str.strSliceIndices,A8,h1,Qz];rfl)
  | simp[Builtin.Str.strSliceIndices,A8]
theorem NR(a b:Option Int)(n:Nat):Builtin.Str.strSliceIndices a b 1 n=(List.range (HT.jv n n b - HT.jv n 0 a)).map (fun k=>HT.jv n 0 a+k):=by
 rw[GC,BQ,BQ];generalize HT.jv n 0 a=p;generalize HT.jv n n b=q;simp only[sliceRange,show((1:Int)>0)=True from by simp,Qz];by_cases c:(p:Int)<q
 .have d:(((q:Int) - p+1 - 1) / 1).toNat=q - p:=by first | omega | (simp;done) | (simp;omega)
  simp only[c,Qz,d];refine Qx fun k _=>?_;omega
 .have:q - p=0:=by omega
  simp[c,this]
def lE(z:Str)(a b:Option Int):Str:=⟨((z.cps.toList.drop (HT.jv z.length 0 a)).take (HT.jv z.length z.length b - HT.jv z.length 0 a)).toArray⟩
theorem oK(z:Str)(a b:Option Int):PySem.StrLaws.sliceText z a b=lE z a b:=by
 have h1:HT.jv z.length 0 a<=z.length:=HT.IG _ _ (O1 _) _;have h2:HT.jv z.length z.length b<=z.length:=HT.IG _ _ (OE _) _;have c:HT.jv z.length 0 a<=max (HT.jv z.length 0 a) (HT.jv z.length z.length b):=Nat.le_max_left _ _;have d:max (HT.jv z.length 0 a) (HT.jv z.length z.length b)<=z.length:=Nat.max_le.mpr ⟨h1,h2⟩;have hd:max (HT.jv z.length 0 a) (HT.jv z.length z.length b) - HT.jv z.length 0 a=HT.jv z.length z.length b - HT.jv z.length 0 a:=by omega
 have e:Builtin.Str.strSliceIndices a b 1 z.length =
  Builtin.Str.strSliceIndices (some ((HT.jv z.length 0 a:Nat):Int)) (some ((max (HT.jv z.length 0 a) (HT.jv z.length z.length b):Nat):Int)) 1 z.length:=by
  rw[PySem.StrLaws.strSliceIndices_plain c d,hd,NR]
 have f:PySem.StrLaws.sliceText z a b =
  PySem.StrLaws.sliceText z (some ((HT.jv z.length 0 a:Nat):Int)) (some ((max (HT.jv z.length 0 a) (HT.jv z.length z.length b):Nat):Int)):=by
  unfold PySem.StrLaws.sliceText;rw[e]
 rw[f,PySem.StrLaws.sliceText_nat z c d,hd];rfl
theorem Ax(z:Str)(a b:Option Int):(lE z a b).length<=z.length:=by show(((z.cps.toList.drop (HT.jv z.length 0 a)).take (HT.jv z.length z.length b - HT.jv z.length 0 a)).toArray).size<=z.cps.size;rw[O8,Pg,O6,Q1];omega
def MX:V->Option Int->Option Int->Hp->VK->Prop:=fun x b a H Q=>∃ z,x=.str z/\z.length<=sizeLine/\Q (.str (lE z b a)) H
theorem jN{X:Cx}:N7 X MX:=by
 intro a s m H x v r w o n p Q I k hs i j h;obtain⟨z,rfl,f,q⟩:=h;obtain⟨t,rfl⟩:=k;obtain⟨g,e,b,d⟩:=hs;obtain⟨l,rfl,rfl⟩:=IsPart.raw i;obtain⟨u,rfl,rfl⟩:=IsPart.raw j;refine⟨"str",_,F.slot_str_getitem.lookup,Q5 _ _ _,?_⟩;refine wpAny_getItem_str_slice (l:=l) (u:=u) (st:=none) ⟨g,e,b,d⟩ rfl ?_;have hl:(PySem.StrLaws.sliceText z (l.map (·.1)) (u.map (·.1))).length<=sizeLine:=by rw[oK];exact O9 (Ax z _ _) f
 rw[<-oK]at q;unfold PySem.StrLaws.sliceText at q hl;show Made.post (if ((1:Int)==1&&(Builtin.Str.strSliceIndices (l.map (·.1)) (u.map (·.1)) 1 z.length).length==z.length)=true then Made.val (.str z t) else Made.str ⟨((Builtin.Str.strSliceIndices (l.map (·.1)) (u.map (·.1)) 1 z.length).filterMap (z.cps[·]?)).toArray⟩) (EP X a m Q) s;by_cases c:((1:Int)==1&&(Builtin.Str.strSliceIndices (l.map (·.1)) (u.map (·.1)) 1 z.length).length==z.length)=true;.rw[Oy c]at q |-;exact⟨.str z,H,I,⟨t,rfl⟩,q⟩
 .rw[Ox c]at q hl |-;exact⟨hl,.str _,H,I.tok _,⟨_,rfl⟩,q⟩
end L2
namespace Att
open PySem PySem.W PySem.Calls PyProof.Rows
end Att
namespace L2
open PySem PySem.Spec PyProof.Rows
end L2
namespace L2
open PySem PySem.Spec PyProof.Rows
end L2
namespace L2
open PySem PySem.Spec PyProof.Rows
def inClass(s:Stmt)(j:Nat):Stmt:=match s with
 | .ClassDef _ _ _ body _ _ _ _ _ _ _=>body.getD j (.Pass ⟨0,0,0,0⟩)
 | _=>.Pass ⟨0,0,0,0⟩
def oa(s:Stmt):Arguments:=match s with
 | .FunctionDef _ a _ _ _ _ _ _ _ _=>a
 | _=>{ posonlyargs:=[],args:=[],vararg:=none,kwonlyargs:=[],kw_defaults:=[],kwarg:=none,defaults:=[] }
def gR(s:Stmt):List Stmt:=match s with
 | .FunctionDef _ _ b _ _ _ _ _ _ _=>b
 | _=>[]
def bf(s:Stmt):Scope:=match s with
 | .FunctionDef _ _ _ _ _ _ sc _ _ _=>sc
 | _=>{ kind:=.function,names:=[],isGenerator:=false,isCoroutine:=false }
abbrev Oh:Gp:=fun _ _ _ _ _ _=>False
abbrev E0:XK:=fun _ _ _=>False
structure Jd(K:PySem.W.Frag)(x qual:Str)(st:Stmt)(f:Addr)(fd:FuncData):Prop where
 ex:∃ (oc:Value) (od:Option Addr) (kV doc pm:Value) (an:Option Addr) (cdv ct:Value) (osl:Array (Option Value)),fd=PySem.W.fnOf x qual (oa st) (gR st) (bf st) .none kV doc pm an cdv ct/\K.lookup f=some ⟨oc,od,.func fd,osl⟩/\PySem.W.codeIn K cdv qual=true
 kp:PySem.W.keepIn K (.ref f)=true
section
variable {P:Program}{w:World}{K:PySem.W.Frag}{mg:Str->Option Value}{base:Heap}
theorem Jd.ok{x b:Str}{e:Stmt}{f:Addr}{l:FuncData}{N ps:List Str}{k:Nat}{sp:Sp}(F:Jd K x b e f l)(S:jk N ps (bf e))(j:∀ vs H Q E,sp vs H Q E->vs.length=ps.length)
 (d:∀ (c:Value) (A:Around) (a:List Env) (s:Shared) (H:Hp) (vs:List V) (Q:VK) (E:XK),dO k (A.deeper (envOfC b (bf e) s.heap.objs.size f c))->sp vs H Q E -> ∃ t,wH (o9 Oh P w K mg base N b (bf e) f c A a s H E).IZ (gR e) t/\t { nx:=fun _ m=>Q .ba m,rt:=Q } (start N vs) H):jD P w K mg base Oh (k+1) f l ps sp:=by
 obtain⟨v,y,kV,n,z,r,c,u,p,rfl,lk,g⟩:=F.ex;refine He lk g S j fun A a s H vs Q E o i=>?_;obtain⟨t,h,q⟩:=d c A a s H vs Q E o i;exact⟨t,h.IZ,q⟩
theorem Jd.binds{x a:Str}{d:Stmt}{f:Addr}{j:FuncData}{ps:List Str}(F:Jd K x a d f j)
 (h:∀ (kV c i:Value) (e:Option Addr) (b g:Value) (us:List Value),us.length=ps.length->bindArgs (PySem.W.fnOf x a (oa d) (gR d) (bf d) .none kV c i e b g) ⟨us,[]⟩=pure (ps.zip us)):Binds K j ps []:=by
 obtain⟨m,n,kV,c,i,e,b,g,l,rfl,lk,k⟩:=F.ex;exact .all (h kV c i e b g)
end
theorem xC{A:Around}{k:Nat}(a:dO k A):A.units+1<cLine:=QR (Nat.add_le_add_left (by decide:1<=64) _) a.units
section
variable {X:Cx}
theorem pv(i:Nat){x:Str}{b:Pos}(c:X.N[i]?=some x:=by rfl)(d:Kf X.env.scope x:=by first | exact Ql rfl | exact UM (Ql rfl) | exact UM (UM rfl))(hd:(x==("__debug__":Str))=false:=by decide) (a:(x==("__classdict__":Str))=false:=by decide):PE X (.Name x b) (hU i):=K6 c d hd a
end
theorem uK{A B:Prop}(h:B):if false=true then A else B:=by rw[Ox Pe];exact h
theorem Bb{A B:Prop}(h:A):if true=true then A else B:=by rw[Oy rfl];exact h
theorem M7{c A B:Prop}[Decidable c](h1:c->A)(h2:¬ c->B):if c then A else B:=by
 by_cases h:c;.rw[Oy h];exact h1 h
 .rw[Ox h];exact h2 h
theorem jS{c A B:Prop}[Decidable c](hc:c)(h:B):if (!decide c)=true then A else B:=by rw[OO hc];exact uK h
def aB(H a:Hp):Prop:=∀ b o,H b=some o->a b=some o
theorem aB.refl(H:Hp):aB H H:=fun _ _ h=>h
theorem aB.trans{H d e:Hp}(a:aB H d)(b:aB d e):aB H e:=fun c o h=>b c o (a c o h)
theorem aB.free{H a:Hp}(e:aB H a){l:Addr}(h:a l=Option.none):H l=Option.none:=by
 cases q:H l with
 | none=>rfl
 | some o=>rw[e l o q]at h;cases h
theorem aB.seq{K:PySem.W.Frag}{H b:Hp}{a:Addr}{xs:List V}(e:aB H b)(h:bB K H a xs):bB K b a xs:=by
 rcases h with(h | ⟨o,h⟩) | h;.exact .inl (.inl (e _ _ h))
 .exact .inl (.inr ⟨o,e _ _ h⟩)
 .exact .inr h
theorem aB.made{H c:Hp}{x a C:Addr}(d:H x=Option.none)(f:H a=Option.none)(k:∀ b o,(upd (upd H a (.own x)) x (.ins C a [])) b=some o->b≠x->c b=some o):aB H c:=fun b o e=>k b o (by rw[aq (aj e d),aq (aj e f)];exact e) (aj e d)
end L2
namespace Ps
open Ql16 Ql16Neutral
theorem of_eq(x:Nat)(c:UInt8):UInt8.ofNat x=c↔x % 256=c.toNat:=by
 constructor;.intro h;rw[<-h];simp
 .intro h;apply P6.mp;simp;exact h
def bM(x:Nat):Nat:=if x<0x80 then 1 else if 0xC0<=x/\x<0xE0 then 2 else if 0xE0<=x/\x<0xF0 then 3 else if 0xF0<=x/\x<0xF8 then 4 else 0
def bq(x L:Nat):Nat:=if L=1 then x else if L=2 then x % 32 else if L=3 then x % 16 else x % 8
def shortest(n:Nat):Nat:=if n<0x80 then 1 else if n<0x800 then 2 else if n<0x10000 then 3 else 4
def hZ:Nat->List Nat->Option Nat
 | n,[]=>some n
 | n,s::r=>if s / 64=2 then hZ (n * 64+s % 64) r else none
def yq(l:List Nat):Bool:=match l with
 | []=>false
 | x::r=>match hZ (bq x (r.length+1)) r with
   | none=>false
   | some n=>scalar n&&decide (shortest n=r.length+1)
def aI(b:Bytes):List Nat:=b.map UInt8.toNat
theorem M5(h:n<0x80):encode n=l↔∃ x,l=[x]/\x.toNat=n:=by
 unfold encode;rw[Oy h];constructor;.intro e;subst e;exact⟨_,rfl,by simp;omega⟩
 .rintro⟨x,rfl,e⟩;rw[(of_eq n x).mpr (by omega)]
theorem Oc(h1:0x80<=n)(h:n<0x800):encode n=l↔∃ x a,l=[x,a]/\x.toNat=0xC0+n / 64/\a.toNat=0x80+n % 64:=by
 unfold encode;rw[Ox (by omega),Oy h];constructor;.intro e;subst e;exact⟨_,_,rfl,by simp;omega,by simp;omega⟩
 .rintro⟨x,a,rfl,b,c⟩;rw[(of_eq _ x).mpr (by omega),(of_eq _ a).mpr (by omega)]
theorem NK(h1:0x800<=n)(h:n<0x10000):encode n=l↔∃ x a b,l=[x,a,b]/\x.toNat=0xE0+n / 4096/\a.toNat=0x80+n / 64 % 64/\b.toNat=0x80+n % 64:=by
 unfold encode;rw[Ox (by omega),Ox (by omega),Oy h];constructor;.intro e;subst e;exact⟨_,_,_,rfl,by simp;omega,by simp;omega,by simp;omega⟩
 .rintro⟨x,a,b,rfl,c,d,f⟩;rw[(of_eq _ x).mpr (by omega),(of_eq _ a).mpr (by omega),(of_eq _ b).mpr (by omega)]
theorem NM(h1:0x10000<=n)(h:n<=0x10FFFF):encode n=l↔∃ x a b c,l=[x,a,b,c]/\x.toNat=0xF0+n / 262144/\a.toNat=0x80+n / 4096 % 64/\b.toNat=0x80+n / 64 % 64/\c.toNat=0x80+n % 64:=by
 unfold encode;rw[Ox (by omega),Ox (by omega),Ox (by omega)];constructor;.intro e;subst e;exact⟨_,_,_,_,rfl,by simp;omega,by simp;omega,by simp;omega,by simp;omega⟩
 .rintro⟨x,a,b,c,rfl,d,f,g,i⟩;rw[(of_eq _ x).mpr (by omega),(of_eq _ a).mpr (by omega),(of_eq _ b).mpr (by omega),(of_eq _ c).mpr (by omega)]
theorem sC(h:scalar n=true):n<=0x10FFFF:=by unfold scalar at h;simp at h;exact h.1
theorem fe(hs:scalar n=true):encode n=l ↔
 ((n<0x80/\∃ x,l=[x]/\x.toNat=n)\/(0x80<=n/\n<0x800/\∃ x a,l=[x,a]/\x.toNat=0xC0+n / 64/\a.toNat=0x80+n % 64) \/
  (0x800<=n/\n<0x10000/\∃ x a b,l=[x,a,b]/\x.toNat=0xE0+n / 4096/\a.toNat=0x80+n / 64 % 64/\b.toNat=0x80+n % 64) \/
  (0x10000<=n/\∃ x a b c,l=[x,a,b,c]/\x.toNat=0xF0+n / 262144/\a.toNat=0x80+n / 4096 % 64/\b.toNat=0x80+n / 64 % 64/\c.toNat=0x80+n % 64)):=by
 have hl:=sC hs;by_cases h1:n<0x80
 .rw[M5 h1];constructor;.intro h;exact .inl ⟨h1,h⟩
  .rintro(h | h | h | h);.exact h.2
   .omega
   .omega
   .omega
 .by_cases h2:n<0x800
  .rw[Oc (by omega) h2];constructor;.intro h;exact .inr (.inl ⟨by omega,h2,h⟩)
   .rintro(h | h | h | h);.omega
    .exact h.2.2
    .omega
    .omega
  .by_cases d:n<0x10000
   .rw[NK (by omega) d];constructor;.intro h;exact .inr (.inr (.inl ⟨by omega,d,h⟩))
    .rintro(h | h | h | h);.omega
     .omega
     .exact h.2.2
     .omega
   .rw[NM (by omega) hl];constructor;.intro h;exact .inr (.inr (.inr ⟨by omega,h⟩))
    .rintro(h | h | h | h);.omega
     .omega
     .omega
     .exact h.2
def seen(b:Bytes):Option Nat:=match b with
 | []=>none
 | c::r=>if bM c.toNat≠0/\bM c.toNat<=r.length+1/\yq (aI ((c::r).take (bM c.toNat)))=true then some (bM c.toNat) else none
theorem tY(a:pair c.toNat (r.getD 0 0).toNat (r.getD 1 0).toNat (r.getD 2 0).toNat=(n,L)):
 (lead (c::r)).map (·.2)=if scalar n=true/\encode n=(c::r).take L then some L else none:=by
 unfold lead;simp only[a];split<;>rfl
theorem Jy(b:Bytes):(lead b).map (·.2)=seen b:=by
 cases b with
 | nil=>rfl
 | cons c r=>
   have hc:=c.toNat_lt;unfold seen;simp only;by_cases h1:c.toNat<128
   .have t:pair c.toNat (r.getD 0 0).toNat (r.getD 1 0).toNat (r.getD 2 0).toNat=(c.toNat,1):=by unfold pair;rw[Oy h1]
    have s:bM c.toNat=1:=by unfold bM;rw[Oy h1]
    rw[tY t,s];have e:(c::r).take 1=[c]:=rfl;rw[e];congr 1;apply UX;have D:scalar c.toNat=true:=by unfold scalar;simp;omega
    rw[M5 h1];constructor;.rintro⟨a,_⟩;refine⟨by decide,by omega,?_⟩;show(match hZ (bq c.toNat 1) []with | none=>false | some n=>scalar n&&decide (shortest n=1))=true;simp only[hZ,bq,Qz,D,Qj,Pc];unfold shortest;rw[Oy h1]
    .intro _;exact⟨D,c,rfl,rfl⟩
   .by_cases h2:c.toNat<224
    .have t:pair c.toNat (r.getD 0 0).toNat (r.getD 1 0).toNat (r.getD 2 0).toNat=(c.toNat % 32 * 64+(r.getD 0 0).toNat % 64,2):=by unfold pair;rw[Ox h1,Oy h2]
     rw[tY t];by_cases J:c.toNat<192
     .have s:bM c.toNat=0:=by unfold bM;rw[Ox h1,Ox (by omega),Ox (by omega),Ox (by omega)]
      rw[s,Ox,Ox (by simp)];rintro⟨hs,i⟩;rw[fe hs]at i;rcases i with⟨q,x,f,g⟩ | ⟨j,l,x,a,f,g,o⟩ | ⟨j,l,x,a,b,f,g⟩ | ⟨j,x,a,b,d,f,g⟩;.have:=Pw List.head? f;simp at this;subst this;omega
      .have:=Pw List.head? f;simp at this;subst this;omega
      .have:=Pw List.length f;simp at this;omega
      .have:=Pw List.length f;simp at this;omega
     .have s:bM c.toNat=2:=by unfold bM;rw[Ox h1,Oy (by omega)]
      rw[s];cases r with
      | nil=>
        rw[Ox,Ox (by simp)];rintro⟨hs,i⟩;rw[fe hs]at i;rcases i with⟨q,x,f,g⟩ | ⟨j,l,x,a,f,g,o⟩ | ⟨j,l,x,a,b,f,g⟩ | ⟨j,x,a,b,d,f,g⟩;.simp at f;subst f;omega
        .simp at f
        .simp at f
        .simp at f
      | cons a r=>
        have ha:=a.toNat_lt;have e:(c::a::r).take 2=[c,a]:=rfl;have v:((a::r).getD 0 0)=a:=rfl;rw[e,v];congr 1;apply UX;show _↔_/\_/\(match hZ (bq c.toNat 2) [a.toNat]with | none=>false | some n=>scalar n&&decide (shortest n=2))=true;simp only[hZ,bq,show ¬ ((2:Nat)=1) by decide,Ry,Qz];constructor
        .rintro⟨hs,i⟩;rw[fe hs]at i;rcases i with⟨q,x,f,g⟩ | ⟨j,l,x,u,f,g,o⟩ | ⟨j,l,x,u,b,f,g⟩ | ⟨j,x,u,b,d,f,g⟩;.simp at f
         .simp at f;obtain⟨rfl,rfl⟩:=f;refine⟨by decide,by simp,?_⟩;rw[Oy (by omega)];simp only[hs,Qj,Pc];unfold shortest;rw[Ox (by omega),Oy (by omega)]
         .simp at f
         .simp at f
        .rintro⟨_,_,h⟩;by_cases m:a.toNat / 64=2
         .rw[Oy m]at h;simp only[O4,Pc]at h;refine⟨h.1,?_⟩;have k:=h.2;unfold shortest at k;rw[fe h.1];refine .inr (.inl ⟨?_,?_,c,a,rfl,?_,?_⟩)
          all_goals (first | omega | (split at k<;>first | omega | (split at k<;>first | omega | (split at k<;>omega))))
         .rw[Ox m]at h;simp at h
    .by_cases C:c.toNat<240
     .have t:pair c.toNat (r.getD 0 0).toNat (r.getD 1 0).toNat (r.getD 2 0).toNat=(c.toNat % 16 * 4096+(r.getD 1 0).toNat % 64+(r.getD 0 0).toNat % 64 * 64,3):=by unfold pair;rw[Ox h1,Ox h2,Oy C]
      rw[tY t];have s:bM c.toNat=3:=by unfold bM;rw[Ox h1,Ox (by omega),Oy (by omega)]
      rw[s];clear t;rcases r with _ | ⟨a,_ | ⟨b,r⟩⟩
      ·
       rw[Ox,Ox (by simp)];rintro⟨hs,i⟩;rw[fe hs]at i;rcases i with⟨q,x,f,g⟩ | ⟨j,l,x,a,f,g,o⟩ | ⟨j,l,x,a,b,f,g⟩ | ⟨j,x,a,b,d,f,g⟩;.simp at f;subst f;omega
       .simp at f
       .simp at f
       .simp at f
      ·
       rw[Ox,Ox (by simp)];rintro⟨hs,i⟩;rw[fe hs]at i;rcases i with⟨q,x,f,g⟩ | ⟨j,l,x,a,f,g,o⟩ | ⟨j,l,x,a,b,f,g⟩ | ⟨j,x,a,b,d,f,g⟩;.simp at f
       .simp at f;obtain⟨rfl,rfl⟩:=f;omega
       .simp at f
       .simp at f
      ·
       have ha:=a.toNat_lt;have G:=b.toNat_lt;have e:(c::a::b::r).take 3=[c,a,b]:=rfl;have v:((a::b::r).getD 0 0)=a:=rfl;have B:((a::b::r).getD 1 0)=b:=rfl;rw[e,v,B];have w:(c.toNat % 16 * 64+a.toNat % 64) * 64+b.toNat % 64=c.toNat % 16 * 4096+b.toNat % 64+a.toNat % 64 * 64:=by omega
       congr 1;apply UX;show _↔_/\_/\(match hZ (bq c.toNat 3) [a.toNat,b.toNat]with | none=>false | some n=>scalar n&&decide (shortest n=3))=true;simp only[hZ,bq,show ¬ ((3:Nat)=1) by decide,show ¬ ((3:Nat)=2) by decide,Ry,Qz];constructor
       .rintro⟨hs,i⟩;rw[fe hs]at i;rcases i with⟨q,x,f,g⟩ | ⟨j,l,x,u,f,g,o⟩ | ⟨j,l,x,u,A,f,g,o,z⟩ | ⟨j,x,u,A,d,f,g⟩;.simp at f
        .simp at f
        .simp at f;obtain⟨rfl,rfl,rfl⟩:=f;refine⟨by decide,by simp,?_⟩;rw[Oy (by omega),Oy (by omega)];simp only;rw[w];simp only[hs,Qj,Pc];unfold shortest;rw[Ox (by omega),Ox (by omega),Oy (by omega)]
        .simp at f
       .rintro⟨_,_,h⟩;by_cases m:a.toNat / 64=2
        .rw[Oy m]at h;by_cases p:b.toNat / 64=2
         .rw[Oy p]at h;simp only at h;rw[w]at h;simp only[O4,Pc]at h;refine⟨h.1,?_⟩;have k:=h.2;unfold shortest at k;rw[fe h.1];refine .inr (.inr (.inl ⟨?_,?_,c,a,b,rfl,?_,?_,?_⟩))
          all_goals (first | omega | (split at k<;>first | omega | (split at k<;>first | omega | (split at k<;>omega))))
         .rw[Ox p]at h;simp at h
        .rw[Ox m]at h;simp at h
     .have t:pair c.toNat (r.getD 0 0).toNat (r.getD 1 0).toNat (r.getD 2 0).toNat=(c.toNat % 8 * 262144+(r.getD 2 0).toNat % 64+(r.getD 1 0).toNat % 64 * 64+(r.getD 0 0).toNat % 64 * 4096,4):=by unfold pair;rw[Ox h1,Ox h2,Ox C]
      rw[tY t];by_cases L:c.toNat<248
      .have s:bM c.toNat=4:=by unfold bM;rw[Ox h1,Ox (by omega),Ox (by omega),Oy (by omega)]
       rw[s];clear t;rcases r with _ | ⟨a,_ | ⟨b,_ | ⟨d,r⟩⟩⟩
       ·
        rw[Ox,Ox (by simp)];rintro⟨hs,i⟩;rw[fe hs]at i;rcases i with⟨q,x,f,g⟩ | ⟨j,l,x,a,f,g,o⟩ | ⟨j,l,x,a,b,f,g⟩ | ⟨j,x,a,b,d,f,g⟩;.simp at f;subst f;omega
        .simp at f
        .simp at f
        .simp at f
       ·
        rw[Ox,Ox (by simp)];rintro⟨hs,i⟩;rw[fe hs]at i;rcases i with⟨q,x,f,g⟩ | ⟨j,l,x,a,f,g,o⟩ | ⟨j,l,x,a,b,f,g⟩ | ⟨j,x,a,b,d,f,g⟩;.simp at f
        .simp at f;obtain⟨rfl,rfl⟩:=f;omega
        .simp at f
        .simp at f
       ·
        rw[Ox,Ox (by simp)];rintro⟨hs,i⟩;rw[fe hs]at i;rcases i with⟨q,x,f,g⟩ | ⟨j,l,x,a,f,g,o⟩ | ⟨j,l,x,a,b,f,g⟩ | ⟨j,x,a,b,d,f,g⟩;.simp at f
        .simp at f
        .simp at f;obtain⟨rfl,rfl,rfl⟩:=f;omega
        .simp at f
       ·
        have ha:=a.toNat_lt;have G:=b.toNat_lt;have hd:=d.toNat_lt;have e:(c::a::b::d::r).take 4=[c,a,b,d]:=rfl;have v:((a::b::d::r).getD 0 0)=a:=rfl;have B:((a::b::d::r).getD 1 0)=b:=rfl;have F:((a::b::d::r).getD 2 0)=d:=rfl;rw[e,v,B,F];have w:((c.toNat % 8 * 64+a.toNat % 64) * 64+b.toNat % 64) * 64+d.toNat % 64=c.toNat % 8 * 262144+d.toNat % 64+b.toNat % 64 * 64+a.toNat % 64 * 4096:=by omega
        congr 1;apply UX;show _↔_/\_/\(match hZ (bq c.toNat 4) [a.toNat,b.toNat,d.toNat]with | none=>false | some n=>scalar n&&decide (shortest n=4))=true;simp only[hZ,bq,show ¬ ((4:Nat)=1) by decide,show ¬ ((4:Nat)=2) by decide,show ¬ ((4:Nat)=3) by decide,Ry,Qz];constructor
        .rintro⟨hs,i⟩;rw[fe hs]at i;rcases i with⟨q,x,f,g⟩ | ⟨j,l,x,u,f,g,o⟩ | ⟨j,l,x,u,A,f,g,o,z⟩ | ⟨j,x,u,A,I,f,g,o,z,E⟩;.simp at f
         .simp at f
         .simp at f
         .simp at f;obtain⟨rfl,rfl,rfl,rfl⟩:=f;refine⟨by decide,by simp,?_⟩;rw[Oy (by omega),Oy (by omega),Oy (by omega)];simp only;rw[w];simp only[hs,Qj,Pc];unfold shortest;rw[Ox (by omega),Ox (by omega),Ox (by omega)]
        .rintro⟨_,_,h⟩;by_cases m:a.toNat / 64=2
         .rw[Oy m]at h;by_cases p:b.toNat / 64=2
          .rw[Oy p]at h;by_cases y:d.toNat / 64=2
           .rw[Oy y]at h;simp only at h;rw[w]at h;simp only[O4,Pc]at h;refine⟨h.1,?_⟩;have k:=h.2;unfold shortest at k;rw[fe h.1];refine .inr (.inr (.inr ⟨?_,c,a,b,d,rfl,?_,?_,?_,?_⟩))
            all_goals (first | omega | (split at k<;>first | omega | (split at k<;>first | omega | (split at k<;>omega))))
           .rw[Ox y]at h;simp at h
          .rw[Ox p]at h;simp at h
         .rw[Ox m]at h;simp at h
      .have s:bM c.toNat=0:=by unfold bM;rw[Ox h1,Ox (by omega),Ox (by omega),Ox (by omega)]
       rw[s,Ox,Ox (by simp)];rintro⟨hs,i⟩;have H:=sC hs;rw[fe hs]at i;rcases i with⟨q,x,f,g⟩ | ⟨j,l,x,a,f,g,o⟩ | ⟨j,l,x,a,b,f,g,o,z⟩ | ⟨j,x,a,b,d,f,g,o,z,E⟩;.have:=Pw List.head? f;simp at this;subst this;omega
       .have:=Pw List.head? f;simp at this;subst this;omega
       .have:=Pw List.head? f;simp at this;subst this;omega
       .have:=Pw List.head? f;simp at this;subst this;omega
theorem HS(h:seen b=some L):0<L/\L<=b.length:=by
 unfold seen at h;split at h;.cases h
 .split at h;.rename_i a;cases h;exact⟨by omega,by simp;omega⟩
  .cases h
theorem oj(k:Nat)(b:Bytes):utf8 (k+1) b=(match seen b with | none=>b.isEmpty | some L=>utf8 k (b.drop L)):=by rw[utf8,<-Jy];cases lead b<;>rfl
theorem Fi:∀ (k:Nat) (b:Bytes),b.length<=k->utf8 k b=utf8 b.length b
 | k,b,h=>by
   induction k using Nat.strongRecOn generalizing b with
   | ind k a=>
     by_cases d:b.length=k;.rw[d]
     .cases k with
      | zero=>omega
      | succ k=>
        cases b with
        | nil=>show utf8 (k+1) []=utf8 0 [];rw[oj];rfl
        | cons c r=>
          have hl:(c::r).length=r.length+1:=rfl;rw[hl,oj,oj];cases hs:seen (c::r) with
          | none=>rfl
          | some L=>
            have e:=HS hs;have hd:((c::r).drop L).length<=r.length:=by rw[O6];simp at e |-;omega
            simp only;rw[a k (by omega) _ (by simp at h;omega)];by_cases f:r.length<k+1;.rw[a r.length (by omega) _ hd]
            .omega
end Ps
namespace Ps
open Ql16
theorem aY(b:Bytes):(skip b).length<=b.length:=by unfold skip;exact(QN _).length_le
theorem yi:∀ (k n:Nat) (b:Bytes) (x:Nat) (s:Bytes),hexes k n b=some (x,s)->s.length<=b.length
 | 0,n,b,x,s,h=>by simp[hexes]at h;rw[h.2];exact OE _
 | k+1,n,[],x,s,h=>by simp[hexes]at h
 | k+1,n,c::r,x,s,h=>by
   unfold hexes at h;split at h;.have:=yi k _ r x s h;simp;omega
   .simp at h
theorem pH(h:escape b=some (x,s)):s.length<b.length:=by
 unfold escape at h;split at h;.simp at h
 .rename_i c r
  repeat' split at h
  all_goals first
   | (simp only[OC,OG]at h;obtain⟨_,rfl⟩:=h;simp;done)
   | (simp at h;done)
   | skip
  rename_i n s' a hs;simp only[OC,OG]at h;obtain⟨_,rfl⟩:=h;have:=yi _ _ _ _ _ a;simp;omega
theorem pA:∀ (k:Nat) (b x s:Bytes),quoted k b=some (x,s)->s.length<b.length
 | 0,b,x,s,h=>by simp[quoted]at h
 | k+1,[],x,s,h=>by simp[quoted]at h
 | k+1,c::r,x,s,h=>by
   unfold quoted at h;split at h;.simp only[OC,OG]at h;obtain⟨_,rfl⟩:=h;simp
   .split at h
    .split at h;.rename_i y t d;rw[OI]at h;obtain⟨⟨p,q⟩,h1,h2⟩:=h;simp only[OG]at h2;obtain⟨_,rfl⟩:=h2;have a:=pA k _ _ _ h1;have b:=pH d;simp;omega
     .simp at h
    .rw[OI]at h;obtain⟨⟨p,q⟩,h1,h2⟩:=h;simp only[OG]at h2;obtain⟨_,rfl⟩:=h2;have a:=pA k _ _ _ h1;simp;omega
theorem UN:∀ (b x s:Bytes),plain b=some (x,s)->s.length<b.length
 | [],x,s,h=>by simp[plain]at h
 | c::r,x,s,h=>by
   unfold plain at h;split at h;.simp only[OC,OG]at h;obtain⟨_,rfl⟩:=h;simp
   .rw[OI]at h;obtain⟨⟨p,q⟩,h1,h2⟩:=h;simp only[OG]at h2;obtain⟨_,rfl⟩:=h2;have a:=UN _ _ _ h1;simp;omega
theorem vo(h:string b=some (x,s)):s.length<b.length:=by
 unfold string at h;split at h;.have:=pA _ _ _ _ h;simp;omega
 .have:=UN _ _ _ h;simp;omega
 .simp at h
theorem zO{p:UInt8->Bool}{c:UInt8}{r:Bytes}(h:p c=true):((c::r).dropWhile p).length<(c::r).length:=by rw[Pu h];have:=(QN (l:=r) p).length_le;simp;omega
theorem um(h:key b=some (x,s)):s.length<b.length:=by
 unfold key at h;split at h
 .split at h;.exact vo h
  .split at h;.rename_i a;simp only[OC,OG]at h;obtain⟨_,rfl⟩:=h;exact zO a
   .simp at h
 .simp at h
theorem kY:∀ (k:Nat) (b:Bytes) (x:List Bytes) (s:Bytes),keys k b=some (x,s)->s.length<b.length
 | 0,b,x,s,h=>by simp[keys]at h
 | k+1,b,x,s,h=>by
   unfold keys at h;split at h;.simp at h
   .rename_i y r d;have a:=um d;have b1:=aY b;have b2:=aY r;split at h;.rename_i s' hs;rw[OI]at h;obtain⟨⟨p,q⟩,h1,h2⟩:=h;simp only[OG]at h2;obtain⟨_,rfl⟩:=h2;have c:=kY k _ _ _ h1;rw[hs]at b2;simp at b2;omega
    .simp only[OC,OG]at h;obtain⟨_,rfl⟩:=h;omega
mutual
theorem jt:∀ (k d:Nat) (b:Bytes) (v:Node) (t:Bytes),value k d b=some (v,t)->t.length<=b.length
 | 0,d,b,v,t,h=>by simp[value]at h
 | k+1,d,[],v,t,h=>by simp[value]at h
 | k+1,d,c::r,v,t,h=>by
   unfold value at h;simp only at h;split at h;.rw[OI]at h;obtain⟨⟨p,q⟩,h1,h2⟩:=h;simp only[OG]at h2;obtain⟨_,rfl⟩:=h2;exact Rm (vo h1)
   .split at h
    .split at h;.simp at h
     .rw[OI]at h;obtain⟨⟨p,q⟩,h1,h2⟩:=h;simp only[OG]at h2;obtain⟨_,rfl⟩:=h2;have:=xQ k _ _ _ _ h1;simp;omega
    .split at h
     .split at h;.simp at h
      .have b1:=aY r;split at h;.rename_i s hs;simp only[OC,OG]at h;obtain⟨_,rfl⟩:=h;rw[hs]at b1;simp at b1 |-;omega
       .rw[OI]at h;obtain⟨⟨p,q⟩,h1,h2⟩:=h;simp only[OG]at h2;obtain⟨_,rfl⟩:=h2;have:=pairs_len k _ _ _ _ _ h1;simp;omega
     .rw[OI]at h;obtain⟨n,h1,h2⟩:=h;simp only[OG]at h2;obtain⟨_,rfl⟩:=h2;exact(QN _).length_le
theorem xQ:∀ (k d:Nat) (b:Bytes) (v:List Node) (t:Bytes),items k d b=some (v,t)->t.length<=b.length
 | 0,d,b,v,t,h=>by simp[items]at h
 | k+1,d,b,v,t,h=>by
   unfold items at h;have b1:=aY b;split at h;.rename_i s hs;simp only[OC,OG]at h;obtain⟨_,rfl⟩:=h;rw[hs]at b1;simp at b1;omega
   .split at h;.simp at h
    .rename_i v' t' hv;have a:=jt k _ _ _ _ hv;have b2:=aY t';split at h;.rename_i r hr;simp only[OC,OG]at h;obtain⟨_,rfl⟩:=h;rw[hr]at b2;simp at b2;omega
     .rename_i r hr;rw[OI]at h;obtain⟨⟨p,q⟩,h1,h2⟩:=h;simp only[OG]at h2;obtain⟨_,rfl⟩:=h2;have c:=xQ k _ _ _ _ h1;rw[hr]at b2;simp at b2;omega
     .simp at h
theorem pairs_len:∀ (k d:Nat) (b:Bytes) (es:Entries) (v:Entries) (t:Bytes),pairs k d b es=some (v,t)->t.length<=b.length
 | 0,d,b,es,v,t,h=>by simp[pairs]at h
 | k+1,d,b,es,v,t,h=>by
   unfold pairs at h;split at h
   .rename_i ks s hk;have a0:=kY _ _ _ _ hk;have b0:=aY s;split at h;.simp at h
    .rename_i v' t' hv;have a:=jt k _ _ _ _ hv;have b2:=aY t';split at h;.simp at h
     .split at h;.rename_i r hr;simp only[OC,OG]at h;obtain⟨_,rfl⟩:=h;rw[hr]at b2;simp at b2 a0;omega
      .rename_i r hr;have c:=pairs_len k _ _ _ _ _ h;rw[hr]at b2;simp at b2 a0;omega
      .simp at h
   .simp at h
end
end Ps
namespace Ps
open Ql16
def SV(n:Nat):Prop:=∀ (b:Bytes),b.length<=n->∀ (d k a:Nat),2 * n+1<=k->2 * n+1<=a->value k d b=value a d b
def SI(n:Nat):Prop:=∀ (b:Bytes),b.length<=n->∀ (d k a:Nat),2 * n+2<=k->2 * n+2<=a->items k d b=items a d b
def SP(n:Nat):Prop:=∀ (b:Bytes),b.length<=n->∀ (d k c:Nat) (a:Entries),2 * n+2<=k->2 * n+2<=c->pairs k d b a=pairs c d b a
theorem JR(n:Nat)(f:∀ m,m<n->SI m)(g:∀ m,m<n->SP m):SV n:=by
 intro b h d k a h1 h2;obtain⟨k,rfl⟩:∃ j,k=j+1:=⟨k - 1,by omega⟩
 obtain⟨a,rfl⟩:∃ j,a=j+1:=⟨a - 1,by omega⟩
 cases b with
 | nil=>rfl
 | cons c r=>
   have e:r.length<n:=by simp at h;omega
   unfold value;simp only;split;.rfl
   .split
    .cases d with
     | zero=>rfl
     | succ d=>simp only;rw[f _ e r (OE _) d k a (by omega) (by omega)]
    .split
     .cases d with
      | zero=>rfl
      | succ d=>
        simp only;have hs:=aY r;split;.rfl
        .rw[g _ e (skip r) hs d k a [] (by omega) (by omega)]
     .rfl
theorem JS(n:Nat)(f:SV n)(e:∀ m,m<n->SI m):SI n:=by
 intro b i d k c h1 h2;obtain⟨k,rfl⟩:∃ j,k=j+1:=⟨k - 1,by omega⟩
 obtain⟨c,rfl⟩:∃ j,c=j+1:=⟨c - 1,by omega⟩
 unfold items;have hs:=aY b;split;.rfl
 .rw[f (skip b) (by omega) d k c (by omega) (by omega)];split;.rfl
  .rename_i v t h;have a:=jt _ _ _ _ _ h;have b2:=aY t;split;.rfl
   .rename_i r g;have hl:r.length<n:=by rw[g]at b2;simp at b2;omega
    rw[e _ hl r (OE _) d k c (by omega) (by omega)]
   .rfl
theorem Kc(n:Nat)(g:SV n)(f:∀ m,m<n->SP m):SP n:=by
 intro b q d k c p h1 h2;obtain⟨k,rfl⟩:∃ j,k=j+1:=⟨k - 1,by omega⟩
 obtain⟨c,rfl⟩:∃ j,c=j+1:=⟨c - 1,by omega⟩
 unfold pairs;split
 .rename_i u s h;have e:=kY _ _ _ _ h;have o:=aY s;simp at e;rw[g (skip s) (by omega) d k c (by omega) (by omega)];split;.rfl
  .rename_i v t l;have a:=jt _ _ _ _ _ l;have b2:=aY t;split;.rfl
   .split;.rfl
    .rename_i r i;have hl:r.length<n:=by rw[i]at b2;simp at b2;omega
     rw[f _ hl r (OE _) d k c _ (by omega) (by omega)]
    .rfl
 .rfl
theorem CY(n:Nat):SV n/\SI n/\SP n:=by
 induction n using Nat.strongRecOn with
 | ind n a=>have v:=JR n (fun m h=>(a m h).2.1) fun m h=>(a m h).2.2;exact⟨v,JS n v fun m h=>(a m h).2.1,Kc n v fun m h=>(a m h).2.2⟩
def dF(d:Nat)(b:Bytes):Reads Node:=value (2 * b.length+2) d b
def uA(d:Nat)(b:Bytes):Reads (List Node):=items (2 * b.length+2) d b
def uU(d:Nat)(b:Bytes)(a:Entries):Reads Entries:=pairs (2 * b.length+2) d b a
theorem EH(h:2 * b.length+1<=k):value k d b=dF d b:=(CY b.length).1 b (OE _) d k _ h (by omega)
theorem DJ(h:2 * b.length+2<=k):items k d b=uA d b:=(CY b.length).2.1 b (OE _) d k _ h (by omega)
theorem D4(h:2 * b.length+2<=k):pairs k d b es=uU d b es:=(CY b.length).2.2 b (OE _) d k _ es h (by omega)
theorem Fm(b:Bytes):valueOf b=dF NEST b:=rfl
theorem Dr(h:c=34\/c=39):dF d (c::r)=(string (c::r)).map fun x=>(.text x.1,x.2):=by show value (2 * (c::r).length+1+1) d (c::r)=_;unfold value;simp only;rw[Oy h]
theorem zG:dF 0 (91::r)=none:=by show value (2 * (r.length+1)+1+1) 0 (91::r)=_;unfold value;simp
theorem sH:dF (d+1) (91::r)=(uA d r).map fun x=>(.list x.1,x.2):=by show value (2 * (r.length+1)+1+1) (d+1) (91::r)=_;unfold value;simp;rw[DJ (by omega)]
theorem xi:dF 0 (123::r)=none:=by show value (2 * (r.length+1)+1+1) 0 (123::r)=_;unfold value;simp
theorem wX(h:skip r=125::s):dF (d+1) (123::r)=some (.table 3 [],s):=by show value (2 * (r.length+1)+1+1) (d+1) (123::r)=_;unfold value;simp[h]
theorem oS(h:∀ s,skip r≠125::s):dF (d+1) (123::r)=(uU d (skip r) []).map fun x=>(.table 3 x.1,x.2):=by have hs:=aY r;show value (2 * (r.length+1)+1+1) (d+1) (123::r)=_;unfold value;simp;rw[<-D4 (k:=2 * (r.length+1)+1) (by omega)]
theorem AJ(h:∀ c r,b=c::r->c≠34/\c≠39/\c≠91/\c≠123)(f:b≠[]):dF d b=(wordOf (b.takeWhile wordByte)).map fun n=>(n,b.dropWhile wordByte):=by
 cases b with
 | nil=>exact absurd rfl f
 | cons c r=>obtain⟨h1,h2,a,e⟩:=h c r rfl;show value (2 * (c::r).length+1+1) d (c::r)=_;unfold value;simp only;rw[Ox (by simp[h1,h2]),Ox a,Ox e]
theorem Dy:dF d []=none:=rfl
theorem wb(h:skip b=93::r):uA d b=some ([],r):=by show items (2 * b.length+1+1) d b=_;unfold items;simp[h]
def lO(d:Nat)(v:Node)(t:Bytes):Reads (List Node):=match skip t with
 | 93::r=>some ([v],r)
 | 44::r=>(uA d r).map fun y=>(v::y.1,y.2)
 | _=>none
theorem ye(h:∀ r,skip b≠93::r):uA d b=(dF d (skip b)).bind fun x=>lO d x.1 x.2:=by
 have hs:=aY b;show items (2 * b.length+1+1) d b=_;unfold items;split;.rename_i r c;exact absurd c (h r)
 .rw[EH (by omega)];cases e:dF d (skip b) with
  | none=>rfl
  | some x=>
    obtain⟨v,t⟩:=x;have a:=jt _ _ _ _ _ e;have b2:=aY t;simp only[Pd];unfold lO;generalize skip t=q at b2 |-;split;.rfl
    .rename_i r;simp at b2;rw[DJ (by omega)];rfl
    .split;.rename_i r h1 h2;exact(h1 r rfl).elim
     .rename_i r h1 h2;exact(h2 r rfl).elim
     .rfl
def kG(d:Nat)(b:List Bytes)(a:Entries)(v:Node)(t:Bytes):Reads Entries:=match put v b a with
 | none=>none
 | some a=>match skip t with
   | 125::r=>some (a,r)
   | 44::r=>uU d r a
   | _=>none
theorem xB(h:keys PARTS b=some (ks,61::s)):uU d b es=(dF d (skip s)).bind fun x=>kG d ks es x.1 x.2:=by
 have c:=kY _ _ _ _ h;have f:=aY s;simp at c;show pairs (2 * b.length+1+1) d b es=_;unfold pairs;rw[h];simp only;rw[EH (by omega)];cases e:dF d (skip s) with
 | none=>rfl
 | some x=>
   obtain⟨v,t⟩:=x;have a:=jt _ _ _ _ _ e;have b2:=aY t;simp only[Pd];unfold kG;generalize skip t=q at b2 |-;generalize put v ks es=z;cases z with
   | none=>rfl
   | some es=>
     simp only;split;.rfl
     .rename_i r;simp at b2;rw[D4 (by omega)];rfl
     .split;.rename_i r h1 h2;exact(h1 r rfl).elim
      .rename_i r h1 h2;exact(h2 r rfl).elim
      .rfl
theorem yj(h:∀ a s,keys PARTS b≠some (a,61::s)):uU d b es=none:=by
 show pairs (2 * b.length+1+1) d b es=_;unfold pairs;split;.rename_i a s c;exact absurd c (h a s)
 .rfl
inductive dG where
 | lst (acc:List Node)
 | tab (acc:Entries) (ks:List Bytes)
def behind:List dG->Node->Bytes->Reads Node
 | [],v,t=>some (v,t)
 | .lst acc::st,v,t=>(lO (32 - (st.length+1)) v t).bind fun x=>behind st (.list (acc++x.1)) x.2
 | .tab acc ks::st,v,t=>(kG (32 - (st.length+1)) ks acc v t).bind fun x=>behind st (.table 3 x.1) x.2
def ahead(a:List dG)(b:Bytes):Reads Node:=(dF (32 - a.length) b).bind fun x=>behind a x.1 x.2
theorem Gm(b:Bytes):ahead [] b=valueOf b:=by unfold ahead behind;rw[Fm];show(dF NEST b).bind _=_;cases dF NEST b<;>rfl
theorem E5(h:c=34\/c=39):ahead st (c::r)=(string (c::r)).bind fun x=>behind st (.text x.1) x.2:=by unfold ahead;rw[Dr h];cases string (c::r)<;>rfl
theorem C6(h:∀ c r,b=c::r->c≠34/\c≠39/\c≠91/\c≠123):ahead st b=(wordOf (b.takeWhile wordByte)).bind fun n=>behind st n (b.dropWhile wordByte):=by
 unfold ahead;by_cases a:b=[];.subst a;rw[Dy];rfl
 .rw[AJ h a];cases wordOf (b.takeWhile wordByte)<;>rfl
theorem uD(h:st.length=32):ahead st (91::r)=none/\ahead st (123::r)=none:=by unfold ahead;rw[h];exact⟨by rw[show 32 - 32=0 from rfl,zG];rfl,by rw[show 32 - 32=0 from rfl,xi];rfl⟩
theorem AE(h:st.length<32)(hs:skip r=93::s):ahead st (91::r)=behind st (.list []) s:=by
 unfold ahead;obtain⟨d,hd⟩:∃ d,32 - st.length=d+1:=⟨31 - st.length,by omega⟩
 rw[hd,sH,wb hs];rfl
theorem AB(h:st.length<32)(hs:∀ s,skip r≠93::s):ahead st (91::r)=ahead (.lst []::st) (skip r):=by
 unfold ahead;obtain⟨d,hd⟩:∃ d,32 - st.length=d+1:=⟨31 - st.length,by omega⟩
 have b:32 - (dG.lst []::st).length=d:=by simp;omega
 have a:32 - (st.length+1)=d:=by omega
 rw[hd,sH,ye hs,b];cases dF d (skip r) with
 | none=>rfl
 | some x=>simp only[Pd,Option.map];rw[behind,a];cases lO d x.1 x.2<;>rfl
theorem yI(h:st.length<32)(hs:skip r=125::s):ahead st (123::r)=behind st (.table 3 []) s:=by
 unfold ahead;obtain⟨d,hd⟩:∃ d,32 - st.length=d+1:=⟨31 - st.length,by omega⟩
 rw[hd,wX hs];rfl
theorem zi(h:st.length<32)(hs:∀ s,skip r≠125::s)(c:keys PARTS (skip r)=some (ks,61::s)):ahead st (123::r)=ahead (.tab [] ks::st) (skip s):=by
 unfold ahead;obtain⟨d,hd⟩:∃ d,32 - st.length=d+1:=⟨31 - st.length,by omega⟩
 have b:32 - (dG.tab [] ks::st).length=d:=by simp;omega
 have a:32 - (st.length+1)=d:=by omega
 rw[hd,oS hs,xB c,b];cases dF d (skip s) with
 | none=>rfl
 | some x=>simp only[Pd];rw[behind,a];cases kG d ks [] x.1 x.2<;>rfl
theorem yU(h:st.length<32)(hs:∀ s,skip r≠125::s)(a:∀ b s,keys PARTS (skip r)≠some (b,61::s)):ahead st (123::r)=none:=by
 unfold ahead;obtain⟨d,hd⟩:∃ d,32 - st.length=d+1:=⟨31 - st.length,by omega⟩
 rw[hd,oS hs,yj a];rfl
theorem tD(h:skip t=93::r):behind (.lst acc::st) v t=behind st (.list (acc++[v])) r:=by rw[behind,lO,h];rfl
theorem rN(h:skip t=44::r)(h2:skip r=93::s):behind (.lst acc::st) v t=behind st (.list (acc++[v])) s:=by rw[behind,lO,h];simp only;rw[wb h2];rfl
theorem ri(h:skip t=44::r)(h2:∀ s,skip r≠93::s):behind (.lst acc::st) v t=ahead (.lst (acc++[v])::st) (skip r):=by
 rw[behind,lO,h];simp only;rw[ye h2];unfold ahead;rw[show(dG.lst (acc++[v])::st).length=st.length+1 from rfl];cases dF (32 - (st.length+1)) (skip r) with
 | none=>rfl
 | some x=>
   simp only[Pd];rw[behind];cases lO (32 - (st.length+1)) x.1 x.2 with
   | none=>rfl
   | some y=>simp[QX]
theorem vQ(h1:∀ r,skip t≠93::r)(h2:∀ r,skip t≠44::r):behind (.lst acc::st) v t=none:=by
 rw[behind,lO];split;.rename_i r a;exact absurd a (h1 r)
 .rename_i r a;exact absurd a (h2 r)
 .rfl
theorem u0(h:put v ks acc=none):behind (.tab acc ks::st) v t=none:=by rw[behind,kG,h];rfl
theorem uO(a:put v ks acc=some es)(h:skip t=125::r):behind (.tab acc ks::st) v t=behind st (.table 3 es) r:=by rw[behind,kG,a];simp only;rw[h];rfl
theorem tM(c:put v ks acc=some es)(h:skip t=44::r)(b:keys PARTS r=some (a,61::s)):
 behind (.tab acc ks::st) v t=ahead (.tab es a::st) (skip s):=by
 rw[behind,kG,c];simp only;rw[h];simp only;rw[xB b];unfold ahead;rw[show(dG.tab es a::st).length=st.length+1 from rfl];cases dF (32 - (st.length+1)) (skip s) with
 | none=>rfl
 | some x=>simp only[Pd];rw[behind]
theorem r0(c:put v ks acc=some es)(h:skip t=44::r)(b:∀ a s,keys PARTS r≠some (a,61::s)):behind (.tab acc ks::st) v t=none:=by rw[behind,kG,c];simp only;rw[h];simp only;rw[yj b];rfl
theorem wY(a:put v ks acc=some es)(h1:∀ r,skip t≠125::r)(h2:∀ r,skip t≠44::r):behind (.tab acc ks::st) v t=none:=by
 rw[behind];have e:kG (32 - (st.length+1)) ks acc v t=none:=by unfold kG;rw[a];simp only
 rw[e,Option.bind_none]
theorem rJ(b:Bytes):skip (skip b)=skip b:=by
 unfold skip
 induction b with
 | nil=>rfl
 | cons c r a=>
   by_cases h:blank c=true;.rw[Pu h];exact a
   .rw[PF h,PF h]
theorem rH(k:Nat)(b:Bytes):keys k (skip b)=keys k b:=by
 cases k with
 | zero=>rfl
 | succ k=>unfold keys;rw[rJ]
end Ps
namespace Ps
open Ql16
theorem nL:∀ (k a:Nat) (b:Bytes),b.length<k->b.length<a->quoted k b=quoted a b
 | 0,_,b,h,_=>by omega
 | _+1,0,b,_,h=>by omega
 | k+1,a+1,[],_,_=>rfl
 | k+1,a+1,c::r,h,h'=>by
   simp at h h';unfold quoted;split;.rfl
   .split
    .split;.rename_i x s d;have:=pH d;rw[nL k a s (by omega) (by omega)]
     .rfl
    .rw[nL k a r (by omega) (by omega)]
def dC(b:Bytes):Reads Bytes:=quoted (b.length+1) b
theorem BN(r:Bytes):dC (34::r)=some ([],r):=by show quoted (r.length+1+1) (34::r)=_;rw[quoted,Oy rfl]
theorem sM(r:Bytes):dC (92::r)=(escape r).bind fun x=>(dC x.2).map fun y=>(x.1++y.1,y.2):=by
 show quoted (r.length+1+1) (92::r)=_;rw[quoted,Ox (by decide),Oy rfl];cases he:escape r with
 | none=>rfl
 | some x=>obtain⟨x,s⟩:=x;have:=pH he;simp only[Pd];rw[nL (r.length+1) (s.length+1) s (by omega) (by omega)];rfl
theorem z5(r:Bytes)(h1:c≠34)(h2:c≠92):dC (c::r)=(dC r).map fun y=>(c::y.1,y.2):=by show quoted (r.length+1+1) (c::r)=_;rw[quoted,Ox h1,Ox h2];rfl
theorem FQ(r:Bytes):string (34::r)=dC r:=rfl
theorem FI(r:Bytes):string (39::r)=plain r:=rfl
theorem og:∀ (k:Nat) (b:Bytes) (x:List Bytes) (s:Bytes),keys k b=some (x,s)->x≠[]
 | 0,b,x,s,h=>by simp[keys]at h
 | k+1,b,x,s,h=>by
   unfold keys at h;split at h;.simp at h
   .split at h;.rw[OI]at h;obtain⟨y,_,h2⟩:=h;simp only[OG]at h2;rw[<-h2.1];simp
    .simp only[OC,OG]at h;rw[<-h.1];simp
theorem v5:∀ (n m:Nat) (b:Bytes),n<=m->keys n b=(keys m b).bind fun x=>if x.1.length<=n then some x else none
 | 0,m,b,_=>by
   cases h:keys m b with
   | none=>rfl
   | some x=>
     have:=og _ _ _ _ h;simp only[Pd];rw[Ox];.rfl
     .intro z;exact this (Ro.mp (by omega))
 | n+1,0,b,h=>by omega
 | n+1,m+1,b,h=>by
   unfold keys;split;.rfl
   .split
    .rename_i s hs;rw[v5 n m s (by omega)];cases keys m s with
     | none=>rfl
     | some y=>
       simp only[Pd,RR];by_cases a:y.1.length<=n;.rw[Oy a,Oy (by simp;omega)];rfl
       .rw[Ox a,Ox (by simp;omega)];rfl
    .rename_i r s hs;simp
theorem rC:∀ (k c:Nat) (b:Bytes),b.length<k->b.length<c->keys k b=keys c b
 | 0,_,b,h,_=>by omega
 | _+1,0,b,_,h=>by omega
 | k+1,c+1,b,h,h'=>by
   unfold keys;split;.rfl
   .rename_i x r d;have a:=um d;have b1:=aY b;have b2:=aY r;split;.rename_i s hs;rw[hs]at b2;simp at b2;rw[rC k c s (by omega) (by omega)]
    .rfl
def mj(b:Bytes):Reads (List Bytes):=keys (b.length+1) b
def rR(b:Bytes):Reads Bytes:=(key (skip b)).map fun x=>(x.1,skip x.2)
theorem uL(h:rR b=some (x,s)):s.length<b.length:=by unfold rR at h;rw[OI]at h;obtain⟨y,h1,h2⟩:=h;simp only[OG]at h2;obtain⟨_,rfl⟩:=h2;have a:=um (s:=y.2) (x:=y.1) h1;have b1:=aY b;have b2:=aY y.2;omega
theorem CF(h:rR b=none):mj b=none:=by unfold rR at h;rw[R8]at h;show keys (b.length+1) b=none;rw[keys,h]
theorem C1(h:rR b=some (x,46::s)):mj b=(mj s).map fun y=>(x::y.1,y.2):=by have hl:=uL h;simp at hl;unfold rR at h;rw[OI]at h;obtain⟨y,h1,h2⟩:=h;simp only[OG]at h2;obtain⟨rfl,h2⟩:=h2;show keys (b.length+1) b=_;rw[keys,h1];simp only;rw[h2];simp only;rw[rC b.length (s.length+1) s (by omega) (by omega)];rfl
theorem CA(h:rR b=some (x,s))(hs:∀ r,s≠46::r):mj b=some ([x],s):=by
 unfold rR at h;rw[OI]at h;obtain⟨y,h1,h2⟩:=h;simp only[OG]at h2;obtain⟨rfl,h2⟩:=h2;show keys (b.length+1) b=_;rw[keys,h1];simp only;rw[h2];split;.rename_i r;exact absurd rfl (hs r)
 .rfl
theorem LF(b:Bytes):keys PARTS b=(mj b).bind fun x=>if x.1.length<=32 then some x else none:=by
 by_cases h:32<=b.length+1;.exact v5 32 (b.length+1) b h
 .rw[show mj b=keys 32 b from rC _ _ b (by omega) (by omega)];exact v5 32 32 b (OE _)
end Ps
namespace Ps
open Ql16
def mM(s:Nat):List Nat->List Nat->List (List Nat)
 | acc,[]=>[acc]
 | acc,c::r=>if c=s then acc::mM s [] r else mM s (acc++[c]) r
theorem kW(b:Bytes):∃ p l,partsOf b=p::l:=by
 cases b with
 | nil=>exact⟨_,_,rfl⟩
 | cons c r=>
   unfold partsOf;split;.exact⟨_,_,rfl⟩
   .split;.exact⟨_,_,rfl⟩
    .exact⟨_,_,rfl⟩
theorem gy(r:Bytes):partsOf (95::r)=[]::partsOf r:=by rw[partsOf,Oy rfl]
theorem gU(h:c≠95)(e:partsOf r=p::l):partsOf (c::r)=(c::p)::l:=by rw[partsOf,Ox h,e]
theorem rj:∀ (b:Bytes) (a:List Nat) (p:Bytes) (l:List Bytes),partsOf b=p::l->mM 95 a (aI b)=(a++aI p)::l.map aI
 | [],a,p,l,h=>by
   have e:([]:Bytes)=p/\([]:List Bytes)=l:=by simpa[partsOf]using h
   obtain⟨rfl,rfl⟩:=e;simp[mM,aI]
 | c::r,a,p,l,h=>by
   obtain⟨f,d,e⟩:=kW r;show mM 95 a (c.toNat::aI r)=_;by_cases hc:c=95;.subst hc;rw[gy,e]at h;obtain⟨rfl,rfl⟩:=Uw h;rw[mM,Oy (by decide),rj r [] f d e];simp[aI]
   .rw[gU hc e]at h;obtain⟨rfl,rfl⟩:=Uw h;have hn:c.toNat≠95:=fun z=>hc (P6.mp (by rw[z];rfl));rw[mM,Ox hn,rj r _ f d e];simp[aI]
theorem CU(b:Bytes):mM 95 [] (aI b)=(partsOf b).map aI:=by obtain⟨p,l,e⟩:=kW b;rw[rj b [] p l e,e];simp
def cb(b:Bytes):Bytes:=b.filter fun c=>c != 95
theorem gx(b:Bytes):(partsOf b).flatten=cb b:=by
 induction b with
 | nil=>rfl
 | cons c r a=>
   obtain⟨p,l,e⟩:=kW r;by_cases hc:c=95;.subst hc;rw[gy];simp[cb]at a |-;exact a
   .rw[gU hc e];rw[e]at a;simp[cb,hc]at a |-;exact a
theorem E2(a:p∈partsOf b)(hc:c∈p):c∈b/\c≠95:=by have:c∈(partsOf b).flatten:=Ve.mpr ⟨p,a,hc⟩;rw[gx]at this;simp[cb]at this;exact this
def kE(base:Nat)(c:UInt8):Bool:=match hexValue c with
 | some d=>decide (d<base)
 | none=>false
def fH(base:Nat)(p:Bytes):Bool:=!p.isEmpty&&p.all (kE base)
theorem km(base:Nat)(b:Bytes):digitsOf base b=if (partsOf b).all (fH base)=true then some ((cb b).map fun c=>(hexValue c).getD 0) else none:=rfl
def o8(n:Nat):Nat:=if 65<=n/\n<=90 then n+32 else n
def cn:List Nat:=[48,49,50,51,52,53,54,55,56,57,97,98,99,100,101,102]
theorem dS(P:UInt8->Bool)(h:(List.range 256).all (fun n=>P (UInt8.ofNat n))=true)(c:UInt8):P c=true:=by
 rw[PK]at h;have:=h c.toNat (List.mem_range.mpr c.toNat_lt)
 rwa [UInt8.ofNat_toNat]at this
theorem Ls(b:base=2\/base=8\/base=10\/base=16)(c:UInt8):decide (o8 c.toNat∈cn.take base)=kE base c:=by
 have a:∀ base∈[2,8,10,16],(List.range 256).all (fun n=>decide (o8 (UInt8.ofNat n).toNat∈cn.take base)==kE base (UInt8.ofNat n))=true:=by decide +kernel
 have d:base∈[2,8,10,16]:=by simp;exact b
 exact QH (dS (fun c=>decide (o8 c.toNat∈cn.take base)==kE base c) (a base d) c)
theorem K4(h:hexValue c=some d):cn[d]?=some (o8 c.toNat)/\d<16:=by
 have a:(List.range 256).all (fun n=>match hexValue (UInt8.ofNat n) with | some d=>decide (cn[d]?=some (o8 (UInt8.ofNat n).toNat))&&decide (d<16) | none=>true)=true:=by decide +kernel
 have q:=dS (fun c=>match hexValue c with | some d=>decide (cn[d]?=some (o8 c.toNat))&&decide (d<16) | none=>true) a c;simp only[h,O4,Pc]at q;exact q
theorem jJ(h:(partsOf b).all (fH base)=true):∀ c∈cb b,kE base c=true:=by intro c hc;rw[<-gx]at hc;obtain⟨p,d,a⟩:=Ve.mp hc;have:=PK.mp h p d;unfold fH at this;rw[O4]at this;exact PK.mp this.2 c a
theorem K3(b:Bytes)(h:(partsOf b).all (fH base)=true):cb b≠[]:=by
 obtain⟨p,l,e⟩:=kW b;rw[e,RN,O4]at h;have a:=h.1;unfold fH at a;rw[O4]at a;rw[<-gx,e];intro z;have:p=[]:=by have:=Pw List.length z;simp at this;exact this.1
 rw[this]at a;simp at a
theorem Cm(h:(partsOf b).all (fH base)=true):proper b=!(decide (1<(cb b).length)&&(cb b).head?==some 48):=by
 have i:=K3 b h;cases b with
 | nil=>exact absurd rfl i
 | cons c r=>
   by_cases hc:c=95;.subst hc;rw[gy,RN,O4]at h;simp[fH]at h
   .have e:cb (c::r)=c::cb r:=by simp[cb,hc]
    rw[e];unfold proper;by_cases g:c=48
    .subst g;cases r with
     | nil=>rfl
     | cons d r=>
       have hl:1<(cb (48::d::r)).length:=by
        by_cases hd:d=95
        .subst hd;obtain⟨p,l,k⟩:=kW r;have m:partsOf (95::r)=[]::p::l:=by rw[gy,k]
         rw[gU (by decide) m,RN,RN,O4,O4]at h;have a:=h.2.1;unfold fH at a;rw[O4]at a;have j:p≠[]:=fun z=>by rw[z]at a;simp at a
         have:cb r≠[]:=by rw[<-gx,k];intro z;have:=Pw List.length z;simp at this;exact j this.1
         have:=QL.mpr this;simp[cb]at this |-;omega
        .simp[cb,hd]
       have f:cb (48::d::r)=48::cb (d::r):=by simp[cb]
       rw[f]at hl;rw[OO hl];rfl
    .have f:(some c != some (48:UInt8))=true:=by simp[bne,g]
     have n:((some c:Option UInt8)==some 48)=false:=by simp[g]
     show(some c != some (48:UInt8) || _)=!(_&&(some c==some 48));rw[f,n,Bool.and_false];rfl
theorem sQ(p:UInt8->Bool)(b:Bytes):(cutAt p b=(b,none)/\∀ c∈b,p c=false)\/∃ u c v,b=u++c::v/\(∀ x∈u,p x=false)/\p c=true/\cutAt p b=(u,some v):=by
 have e:∀ b:Bytes,(b.dropWhile (fun c=>!p c)=[]/\∀ c∈b,p c=false)\/∃ c v,b=b.takeWhile (fun c=>!p c)++c::v/\b.dropWhile (fun c=>!p c)=c::v/\(∀ x∈b.takeWhile (fun c=>!p c),p x=false)/\p c=true:=by
  intro b
  induction b with
  | nil=>exact .inl ⟨rfl,by simp⟩
  | cons c r h=>
    by_cases hc:p c=true
    .refine .inr ⟨c,r,?_,?_,?_,hc⟩;.simp[hc]
     .simp[hc]
     .simp[hc]
    .have a:p c=false:=by simpa using hc
     have f:(c::r).dropWhile (fun c=>!p c)=r.dropWhile (fun c=>!p c):=Pu (by simp[a]);have g:(c::r).takeWhile (fun c=>!p c)=c::r.takeWhile (fun c=>!p c):=Qt (by simp[a]);rcases h with⟨a1,a2⟩ | ⟨d,v,a1,a2,a3,a4⟩
     .refine .inl ⟨by rw[f];exact a1,fun x hx=>?_⟩;rcases OA.mp hx with rfl | hx;.exact a
      .exact a2 x hx
     .refine .inr ⟨d,v,?_,by rw[f];exact a2,fun x hx=>?_,a4⟩;.rw[g,OS,<-a1]
      .rw[g]at hx;rcases OA.mp hx with rfl | hx;.exact a
       .exact a3 x hx
 rcases e b with⟨a1,a2⟩ | ⟨c,v,a1,a2,a3,a4⟩;.refine .inl ⟨?_,a2⟩;unfold cutAt;rw[a1]
 .refine .inr ⟨_,c,v,a1,a3,a4,?_⟩;unfold cutAt;rw[a2]
def dB(c:UInt8):UInt8:=if c=69 then 101 else c
theorem BP(c:UInt8):hexValue (dB c)=hexValue c:=by
 unfold dB;split;.rename_i h;subst h;decide
 .rfl
theorem Ak(c:UInt8):dB c=95↔c=95:=by
 unfold dB;split;.rename_i h;subst h;decide
 .rfl
theorem C9(b:Bytes):partsOf (b.map dB)=(partsOf b).map fun p=>p.map dB:=by
 induction b with
 | nil=>rfl
 | cons c r d=>
   obtain⟨p,l,e⟩:=kW r;rw[OP];by_cases hc:c=95;.subst hc;have:dB 95=95:=rfl;rw[this,gy,gy,d];rfl
   .have a:dB c≠95:=fun z=>hc ((Ak c).mp z);rw[e]at d;rw[gU a (by rw[d];rfl),gU hc e];rfl
theorem FD(base:Nat)(c:UInt8):kE base (dB c)=kE base c:=by unfold kE;rw[BP]
theorem By(base:Nat)(b:Bytes):digitsOf base (b.map dB)=digitsOf base b:=by
 rw[km,km,C9,RV];have a:(fH base ∘ fun p=>p.map dB)=fH base:=by
  funext p;show fH base (p.map dB)=fH base p;unfold fH;rw[RV];congr 1;.simp
  .congr 1;funext c;exact FD base c
 rw[a];have d:(cb (b.map dB)).map (fun c=>(hexValue c).getD 0)=(cb b).map fun c=>(hexValue c).getD 0:=by
  unfold cb;rw[List.filter_map,P4];have e:((fun c=>c != 95) ∘ dB)=fun(c:UInt8)=>c != 95:=by
   funext c;show(dB c != 95)=(c != 95);by_cases hc:c=95;.subst hc;rfl
   .have h1:dB c≠95:=fun z=>hc ((Ak c).mp z);rw[bne_iff_ne.mpr h1,bne_iff_ne.mpr hc]
  rw[e];congr 1;funext c;show(hexValue (dB c)).getD 0=_;rw[BP]
 rw[d]
theorem tf(base:Nat)(l:List Nat)(d:Nat):number base (l++[d])=base * number base l+d:=by simp[number]
theorem Ao(base:Nat)(l:List Nat)(n:Nat):l.foldl (fun n d=>base * n+d) n=n * base ^ l.length+number base l:=by
 induction l generalizing n with
 | nil=>simp[number]
 | cons d r a=>
   have e:number base (d::r)=r.foldl (fun n d=>base * n+d) d:=by simp[number]
   rw[Vs,a,e,a d,OB,RG,Nat.add_mul];have:base * n * base ^ r.length=n * (base ^ r.length * base):=by ac_rfl
   omega
theorem jX(base:Nat)(d:Nat)(l:List Nat):number base (d::l)=d * base ^ l.length+number base l:=by
 have e:number base (d::l)=l.foldl (fun n d=>base * n+d) d:=by simp[number]
 rw[e,Ao]
theorem xU(h:∀ d∈l,d<10):number 10 l<10 ^ l.length:=by
 induction l with
 | nil=>simp[number]
 | cons d r c=>have a:=c fun x hx=>h x (OM _ hx);have b:=h d (O2 ..);rw[jX,OB,RG];have:d * 10 ^ r.length<=9 * 10 ^ r.length:=Pz _ (by omega);omega
theorem zY(l:List Nat):number 10 (l.dropWhile (·==0))=number 10 l:=by
 induction l with
 | nil=>rfl
 | cons d r a=>
   by_cases h:d=0;.subst h;rw[Pu (by simp),a,jX];omega
   .rw[PF (by simp[h])]
theorem AR(h:∀ d∈l,d<10):number 10 l≠0->10 ^ ((l.dropWhile (·==0)).length - 1)<=number 10 l/\number 10 l<10 ^ (l.dropWhile (·==0)).length/\0<(l.dropWhile (·==0)).length:=by
 intro hn;rw[<-zY]at hn |-;have a:∀ d∈l.dropWhile (·==0),d<10:=fun d hd=>h d ((QN _).mem hd);have hd:∀ d r,l.dropWhile (·==0)=d::r->d≠0:=by
  intro d r e
  induction l with
  | nil=>simp at e
  | cons x s c=>
    by_cases hx:x=0;.subst hx;rw[Pu (by simp)]at e hn a;exact c (fun y b=>h y (OM _ b)) hn a e
    .rw[PF (by simp[hx])]at e;obtain⟨rfl,_⟩:=Uw e;exact hx
 cases e:l.dropWhile (·==0) with
 | nil=>rw[e]at hn;exact absurd rfl hn
 | cons d r=>rw[e]at a;refine⟨?_,xU a,by simp⟩;rw[jX];have:=hd d r e;have:1 * 10 ^ r.length<=d * 10 ^ r.length:=Pz _ (by omega);simp;omega
end Ps
namespace Ps
open Ql16
inductive Piece where
 | node (n:Node)
 | row (b:Bytes)
def eY:Piece->Bytes
 | .node n=>tell n
 | .row b=>b
def cg(l:List Piece):Bytes:=l.flatMap eY
theorem lD(l m:List Piece):cg (l++m)=cg l++cg m:=by simp[cg]
def mv:List Node->List Piece
 | []=>[]
 | n::r=>.row [44]::.node n::mv r
def jc:List Node->List Piece
 | []=>[]
 | n::r=>.node n::mv r
def mr:Entries->List Piece
 | []=>[]
 | (k,n)::r=>.row [44]::.row (tellText k)::.row [58]::.node n::mr r
def fz:Entries->List Piece
 | []=>[]
 | (k,n)::r=>.row (tellText k)::.row [58]::.node n::mr r
theorem EB(s a:Bytes)(l:List Bytes):List.intercalate s (a::l)=a++l.flatMap fun x=>s++x:=by
 induction l generalizing a with
 | nil=>simp[List.intercalate,List.intersperse]
 | cons b l c=>
   have e:List.intercalate s (a::b::l)=a++(s++List.intercalate s (b::l)):=by simp[List.intercalate,List.intersperse]
   rw[e,c];simp[QX]
theorem AD(l:List Node):tellAll l=l.map tell:=by
 induction l with
 | nil=>rfl
 | cons n r a=>simp[tellAll,a]
theorem yR(l:List Entries):tellRows l=l.map fun a=>tell (.table 1 a):=by
 induction l with
 | nil=>rfl
 | cons n r b=>simp[tellRows,b,tell]
theorem E3(l:List Node):cg (mv l)=(l.map tell).flatMap fun x=>[44]++x:=by
 induction l with
 | nil=>rfl
 | cons n r a=>show eY (.row [44])++(eY (.node n)++cg (mv r))=_;rw[a];simp[eY]
theorem vB(l:List Node):cg (jc l)=joined (l.map tell):=by
 cases l with
 | nil=>rfl
 | cons n r=>show eY (.node n)++cg (mv r)=_;rw[E3,joined,OP,EB];rfl
theorem Gi(l:Entries):cg (mr l)=(tellPairs l).flatMap fun x=>[44]++x:=by
 induction l with
 | nil=>rfl
 | cons n r a=>obtain⟨k,n⟩:=n;show eY (.row [44])++(eY (.row (tellText k))++(eY (.row [58])++(eY (.node n)++cg (mr r))))=_;rw[a];simp[eY,tellPairs]
theorem BC(l:Entries):cg (fz l)=joined (tellPairs l):=by
 cases l with
 | nil=>rfl
 | cons n r=>obtain⟨k,n⟩:=n;show eY (.row (tellText k))++(eY (.row [58])++(eY (.node n)++cg (mr r)))=_;rw[Gi,joined,tellPairs,EB];simp[eY]
def lR(l:List Node):List Piece:=.row [91]::(jc l++[.row [93]])
def nW(l:Entries):List Piece:=.row [123]::(fz l++[.row [125]])
theorem zX(l:List Node):cg (lR l)=tell (.list l):=by show [91]++cg (jc l++[.row [93]])=_;rw[lD,vB,tell,AD];simp[cg,eY]
theorem zM(l:List Entries):cg (lR (l.map (.table 1)))=tell (.rows l):=by show [91]++cg (jc (l.map (.table 1))++[.row [93]])=_;rw[lD,vB,tell,yR,P4];simp[cg,eY];rfl
theorem xm(h:Nat)(l:Entries):cg (nW l)=tell (.table h l):=by show [123]++cg (fz l++[.row [125]])=_;rw[lD,BC,tell];simp[cg,eY]
mutual
def sz:Node->Nat
 | .text b=>6 * b.length+3
 | .whole _=>24
 | .real _=>24
 | .truth _=>24
 | .day _=>24
 | .list l=>3+pC l
 | .rows l=>3+pO l
 | .table _ l=>3+dk l
def pC:List Node->Nat
 | []=>0
 | n::r=>sz n+1+pC r
def dk:List (Bytes×Node)->Nat
 | []=>0
 | (k,n)::r=>(6 * k.length+6+sz n)+dk r
def pO:List (List (Bytes×Node))->Nat
 | []=>0
 | l::r=>(3+dk l)+1+pO r
end
theorem B3(l:List Entries):pC (l.map (.table 1))=pO l:=by
 induction l with
 | nil=>rfl
 | cons a r b=>simp[pC,pO,sz,b]
theorem lg(b:Bytes):(tellText b).length<=6 * b.length+2:=by
 have e:∀ b:Bytes,(b.flatMap (fun c=>if c=34\/c=92 then [92,c] else if c.toNat<32\/c=127 then [92,117,48,48,hexNibble (c.toNat / 16),hexNibble c.toNat] else [c])).length<=6 * b.length:=by
  intro b
  induction b with
  | nil=>simp
  | cons c r a=>
    rw[U3,ON,OB];have:(if c=34\/c=92 then [92,c] else if c.toNat<32\/c=127 then [92,117,48,48,hexNibble (c.toNat / 16),hexNibble c.toNat] else [c]).length<=6:=by
     split;.simp
     .split<;>simp
    omega
 unfold tellText;have:=e b;simp only[OB,ON,Pa];omega
end Ps
namespace Ps
open Ql16
mutual
def okN:Node->Prop
 | .text _=>True
 | .whole z=>-2 ^ 63<=z/\z<2 ^ 63
 | .real b=>b<2 ^ 64
 | .truth _=>True
 | .day z=>-10000000<z/\z<10000000
 | .list l=>GD l
 | .rows l=>Eb l
 | .table _ l=>gJ l
def GD:List Node->Prop
 | []=>True
 | n::r=>okN n/\GD r
def gJ:List (Bytes×Node)->Prop
 | []=>True
 | (k,n)::r=>okN n/\gJ r/\k∉r.map (·.1)
def Eb:List (List (Bytes×Node))->Prop
 | []=>True
 | l::r=>gJ l/\Eb r
end
theorem toDigits_len:∀ {k:Nat},0<k->n<10 ^ k->(Nat.toDigits 10 n).length<=k:=by intro k a h;exact(Tf (by decide) a).mpr h
theorem yK(a:0<k)(h:z.natAbs<10 ^ k):(int z).length<=k+1:=by have:=toDigits_len a h;unfold int decimal;split<;>simp<;>omega
mutual
theorem kL:∀ (n:Node),okN n->(tell n).length+1<=sz n
 | .text b,_=>by have:=lg b;simp only[tell,sz];omega
 | .whole z,h=>by
   have hz:-2 ^ 63<=z/\z<2 ^ 63:=h;have:z.natAbs<10 ^ 19:=by omega
   have:=yK (k:=19) (by decide) this;simp only[tell,sz];omega
 | .real b,_=>by simp[tell,sz]
 | .truth b,_=>by cases b<;>simp[tell,sz]<;>decide
 | .day z,h=>by
   have hz:-10000000<z/\z<10000000:=h;have:z.natAbs<10 ^ 7:=by omega
   have:=yK (k:=7) (by decide) this;simp only[tell,sz,OB];omega
 | .list l,h=>by have:=xO l h;simp only[tell,sz,OB,ON,Pa];omega
 | .rows l,h=>by have:=xR l h;simp only[tell,sz,OB,ON,Pa];omega
 | .table _ l,h=>by have:=nZ l h;simp only[tell,sz,OB,ON,Pa];omega
theorem xO:∀ (l:List Node),GD l->(joined (tellAll l)).length<=pC l
 | [],_=>by simp[tellAll,joined,List.intercalate,pC]
 | [n],h=>by have:=kL n h.1;simp[tellAll,joined,List.intercalate,pC,List.intersperse];omega
 | n::m::r,h=>by
   have a:=kL n h.1;have b:=xO (m::r) h.2;have e:joined (tellAll (n::m::r))=tell n++([44]++joined (tellAll (m::r))):=by simp[tellAll,joined,List.intercalate,List.intersperse]
   rw[e];simp only[ON,OB,Pa];rw[pC];omega
theorem xR:∀ (l:List Entries),Eb l->(joined (tellRows l)).length<=pO l
 | [],_=>by simp[tellRows,joined,List.intercalate,pO]
 | [n],h=>by have:=nZ n h.1;simp[tellRows,joined,List.intercalate,pO,List.intersperse];have e:(List.intersperse [44] (tellPairs n)).flatten=joined (tellPairs n):=rfl;simp[joined,List.intercalate]at this;omega
 | n::m::r,h=>by
   have a:=nZ n h.1;have b:=xR (m::r) h.2;have e:joined (tellRows (n::m::r))=(123::(joined (tellPairs n)++[125]))++([44]++joined (tellRows (m::r))):=by simp[tellRows,joined,List.intercalate,List.intersperse]
   rw[e];simp only[ON,OB,Pa];rw[pO];omega
theorem nZ:∀ (l:Entries),gJ l->(joined (tellPairs l)).length<=dk l
 | [],_=>by simp[tellPairs,joined,List.intercalate,dk]
 | [(k,n)],h=>by have:=kL n h.1;have:=lg k;simp[tellPairs,joined,List.intercalate,dk,List.intersperse];omega
 | (k,n)::m::r,h=>by
   have a:=kL n h.1;have b:=nZ (m::r) h.2.1;have:=lg k;obtain⟨k',n'⟩:=m;have e:joined (tellPairs ((k,n)::(k',n')::r))=(tellText k++(58::tell n))++([44]++joined (tellPairs ((k',n')::r))):=by simp[tellPairs,joined,List.intercalate,List.intersperse]
   rw[e];simp only[ON,OB,Pa];rw[dk];omega
end
def mO:List Bytes->Nat
 | []=>0
 | k::r=>6 * k.length+9+mO r
theorem iK(a b:Entries):dk (a++b)=dk a+dk b:=by
 induction a with
 | nil=>simp[dk]
 | cons x r c=>obtain⟨k,n⟩:=x;simp only[OS,dk,c];omega
theorem jw(hn:okN n):∀ {a:Entries},gJ a->k∉a.map (·.1)->gJ (a++[(k,n)])
 | [],_,_=>⟨hn,OF,by simp⟩
 | (c,n')::r,h,b=>by
   refine⟨h.1,jw hn h.2.1 fun z=>b (OM _ z),fun z=>?_⟩;have z:c∈(r++[(k,n)]).map (·.1):=z;rw[Qp,OH]at z;rcases z with z | z;.exact h.2.2 z
   .simp at z;exact b (by rw[<-z];exact O2 ..)
theorem fG:look k ((a,n)::r)=if a=k then some n else look k r:=by
 unfold look;rw[Qo];by_cases h:a=k;.simp[h]
 .have:(a==k)=false:=by simp[h]
  simp[this,h]
theorem cN:∀ {a:Entries} {k:Bytes},look k a=none↔k∉a.map (·.1)
 | [],k=>by simp[look]
 | (b,n)::r,k=>by
   rw[fG];by_cases h:b=k;.simp[h]
   .rw[Ox h,cN];simp[OL h]
theorem gb:∀ {a:Entries} {k:Bytes} {n:Node},gJ a->look k a=some n->okN n
 | [],k,n,_,h=>by simp[look]at h
 | (b,n')::r,k,n,h,e=>by
   rw[fG]at e;split at e;.cases e;exact h.1
   .exact gb h.2.1 e
theorem zI(k:Bytes)(n:Node)(a:Entries):(replace k n a).map (·.1)=a.map (·.1):=by
 unfold replace;rw[P4];apply Qx;intro x _;show(if x.1=k then(k,n) else x).1=x.1;split;.rename_i h;exact h.symm
 .rfl
theorem replace_cons:replace k n ((a,n')::r)=(if a=k then(k,n) else(a,n'))::replace k n r:=rfl
theorem jT:∀ {a:Entries} {k:Bytes} {n:Node},k∉a.map (·.1)->replace k n a=a
 | [],_,_,_=>rfl
 | (b,n')::r,k,n,h=>by rw[replace_cons,Ox (fun z=>h (by rw[z];exact O2 ..)),jT fun z=>h (OM _ z)]
theorem et:∀ {d:Entries} {k:Bytes} {n c:Node},gJ d->okN n->look k d=some c->gJ (replace k n d)/\dk (replace k n d)+sz c=dk d+sz n
 | [],k,n,c,_,_,e=>by simp[look]at e
 | (i,n')::r,k,n,c,h,hn,e=>by
   rw[fG]at e;rw[replace_cons];by_cases f:i=k;.subst f;rw[Oy rfl]at e |-;cases e;have g:=jT (n:=n) h.2.2;rw[g];exact⟨⟨hn,h.2.1,h.2.2⟩,by simp only[dk];omega⟩
   .rw[Ox f]at e |-;obtain⟨a,b⟩:=et h.2.1 hn e;refine⟨⟨h.1,a,by rw[zI];exact h.2.2⟩,by simp only[dk];omega⟩
theorem rm(g:okN v):∀ {i:List Bytes} {es e:Entries},gJ es->put v i es=some e->gJ e/\dk e<=dk es+sz v+mO i
 | [],es,e,_,h=>by simp[put]at h
 | [k],es,e,f,h=>by
   unfold put at h;split at h;.rename_i hn;cases h;have j:=cN.mp (Option.isNone_iff_eq_none.mp hn);exact⟨jw g f j,by rw[iK];simp only[dk,mO];omega⟩
   .simp at h
 | k::l::r,es,e,f,h=>by
   unfold put at h;split at h;.rename_i hn;rw[OI]at h;obtain⟨x,h1,rfl⟩:=h;obtain⟨a,b⟩:=rm g (es:=[]) OF h1;refine⟨jw (n:=.table 2 x) a f (cN.mp hn),?_⟩;rw[iK];simp only[dk,sz,mO]at b |-;omega
   .rename_i x hl;rw[OI]at h;obtain⟨y,h1,rfl⟩:=h;have hx:gJ x:=gb f hl;obtain⟨a,b⟩:=rm g hx h1;obtain⟨c,d⟩:=et (n:=.table 2 y) f a hl;refine⟨c,?_⟩;simp only[sz,mO]at d b |-;omega
   .simp at h
def sub:List Bytes->Entries->Option Entries
 | [],es=>some es
 | k::r,es=>match look k es with
   | some (.table h x)=>if h=3 then none else sub r x
   | some (.rows l)=>(match l.getLast? with
     | some x=>sub r x
     | none=>none)
   | _=>none
def ka:List Bytes->Entries->Entries->Entries
 | [],_,new=>new
 | k::r,es,new=>match look k es with
   | some (.table h x)=>replace k (.table h (ka r x new)) es
   | some (.rows l)=>(match l.getLast? with
     | some x=>replace k (.rows (l.dropLast++[ka r x new])) es
     | none=>es)
   | _=>es
theorem tj(hl:look k w=some (.table h x)):ka (k::r) w new=replace k (.table h (ka r x new)) w:=by rw[ka,hl]
theorem uq(hl:look k w=some (.rows l))(hx:l.getLast?=some x):ka (k::r) w new=replace k (.rows (l.dropLast++[ka r x new])) w:=by rw[ka,hl];simp only[hx]
theorem vp(f:Entries->Option Entries):∀ {b:List Bytes} {w a:Entries},sub b w=some a->into f b w=(f a).map (ka b w)
 | [],w,a,h=>by have e:w=a:=OQ h;subst e;show f w=(f w).map fun x=>x;cases f w<;>rfl
 | k::r,w,a,h=>by
   unfold sub at h;unfold into;split at h
   .rename_i d x hl;rw[hl];simp only;by_cases c:d=3;.rw[Oy c]at h;cases h
    .rw[Ox c]at h |-;rw[vp f h,Rl];congr 1;funext y;exact(tj hl).symm
   .rename_i l hl;split at h;.rename_i x hx;rw[hl];simp only[hx];rw[vp f h,Rl];congr 1;funext y;exact(uq hl hx).symm
    .cases h
   .cases h
theorem nu:∀ {l:List Entries} {x:Entries},Eb l->l.getLast?=some x->gJ x
 | [],x,_,h=>by simp at h
 | [a],x,h,e=>by simp at e;rw[<-e];exact h.1
 | a::b::r,x,h,e=>nu (l:=b::r) h.2 (by rw[R3]at e;exact e)
theorem v8:∀ {l:List Entries} {x y:Entries},Eb l->l.getLast?=some x->gJ y->Eb (l.dropLast++[y])/\pO (l.dropLast++[y])+dk x=pO l+dk y
 | [],x,y,_,h,_=>by simp at h
 | [a],x,y,h,e,c=>by simp at e;subst e;refine⟨⟨c,OF⟩,?_⟩;simp only[List.dropLast,Pp,pO];omega
 | a::b::r,x,y,h,e,c=>by rw[R3]at e;obtain⟨p,q⟩:=v8 (l:=b::r) h.2 e c;refine⟨⟨h.1,p⟩,?_⟩;rw[List.dropLast_cons₂];simp only[OS,pO]at q |-;omega
theorem C3:∀ {b:List Bytes} {w a:Entries},gJ w->sub b w=some a->gJ a
 | [],w,a,h,e=>by rw[<-OQ (show some w=some a from e)];exact h
 | k::r,w,a,h,e=>by
   unfold sub at e;split at e
   .rename_i c x hl;split at e;.cases e
    .exact C3 (gb h hl) e
   .rename_i l hl;split at e;.rename_i x hx;exact C3 (nu (gb h hl) hx) e
    .cases e
   .cases e
theorem uu(hn:gJ new):∀ {g:List Bytes} {w f:Entries},gJ w->sub g w=some f->gJ (ka g w new)/\dk (ka g w new)+dk f=dk w+dk new
 | [],w,f,h,e=>by have q:w=f:=OQ e;subst q;exact⟨hn,by simp only[ka];omega⟩
 | k::r,w,f,h,e=>by
   unfold sub at e;split at e
   .rename_i j x hl;rw[tj hl];split at e;.cases e
    .have hx:gJ x:=gb h hl;obtain⟨a,b⟩:=uu hn hx e;obtain⟨c,d⟩:=et (n:=.table j (ka r x new)) h a hl;refine⟨c,?_⟩;simp only[sz]at d;omega
   .rename_i l hl;split at e;.rename_i x hx;rw[uq hl hx];have i:Eb l:=gb h hl;obtain⟨a,b⟩:=uu hn (nu i hx) e;obtain⟨a2,b2⟩:=v8 i hx a;obtain⟨c,d⟩:=et (n:=.rows (l.dropLast++[ka r x new])) h a2 hl;refine⟨c,?_⟩;simp only[sz]at d;omega
    .cases e
   .cases e
end Ps
namespace Ps
open Ql16
def fL(a:Nat)(p:Int):Nat:=if p<0 then a * 2 ^ (-p).toNat else a
def eB(b:Nat)(p:Int):Nat:=if p<0 then b else b * 2 ^ p.toNat
theorem AO(a:0<b)(p:Int):0<eB b p:=by
 unfold eB;split;.exact a
 .exact T8 a (QD (by decide))
theorem sc(a b x y c d:Nat)(h:x+d=c+y):a * 2 ^ x * (b * 2 ^ d)=a * 2 ^ c * (b * 2 ^ y):=by
 have e:a * 2 ^ x * (b * 2 ^ d)=a * b * 2 ^ (x+d):=by rw[Pt];ac_rfl
 have f:a * 2 ^ c * (b * 2 ^ y)=a * b * 2 ^ (c+y):=by rw[Pt];ac_rfl
 rw[e,f,h]
theorem le_iff{a b k:Nat}{p:Int}{x y:Nat}(h:(x:Int) - y=-p):k * eB b p<=fL a p↔k * (b * 2 ^ y)<=a * 2 ^ x:=by
 unfold eB fL;by_cases c:p<0
 .rw[Oy c,Oy c];have e:x=(-p).toNat+y:=by omega
  rw[e,Pt];have d:k * (b * 2 ^ y)=k * b * 2 ^ y:=by ac_rfl
  have f:a * (2 ^ (-p).toNat * 2 ^ y)=a * 2 ^ (-p).toNat * 2 ^ y:=by ac_rfl
  rw[d,f];exact(TC (QD (by decide))).symm
 .rw[Ox c,Ox c];have e:y=p.toNat+x:=by omega
  rw[e,Pt];have d:k * (b * (2 ^ p.toNat * 2 ^ x))=k * (b * 2 ^ p.toNat) * 2 ^ x:=by ac_rfl
  rw[d];exact(TC (QD (by decide))).symm
theorem CS(h:0<a):2 ^ a.log2<=a:=Nat.log2_self_le (by omega)
theorem Cn(a:Nat):a<2 ^ (a.log2+1):=Vf
def bO(a b:Nat):Int:=
 let e:Int:=(Nat.log2 a:Int) - (Nat.log2 b:Int)
 if (if 0<=e then decide (b * 2 ^ e.toNat<=a) else decide (b<=a * 2 ^ (-e).toNat))=true then e else e - 1
theorem DM{a b:Nat}{x y:Nat}(h:(x:Int) - y=-((Nat.log2 a:Int) - (Nat.log2 b:Int))):
 (if 0<=((Nat.log2 a:Int) - (Nat.log2 b:Int)) then decide (b * 2 ^ ((Nat.log2 a:Int) - (Nat.log2 b:Int)).toNat<=a) else decide (b<=a * 2 ^ (-((Nat.log2 a:Int) - (Nat.log2 b:Int))).toNat))=true↔b * 2 ^ y<=a * 2 ^ x:=by
 have q:=le_iff (a:=a) (b:=b) (k:=1) h;rw[U9,U9]at q;rw[<-q];unfold eB fL;by_cases c:(Nat.log2 a:Int) - (Nat.log2 b:Int)<0;.rw[Ox (by omega),Oy c,Oy c,UO]
 .rw[Oy (by omega),Ox c,Ox c,UO]
theorem qp{a b:Nat}(ha:0<a)(d:0<b){x y:Nat}(h:(x:Int) - y=-(bO a b)):b * 2 ^ y<=a * 2 ^ x/\a * 2 ^ x<b * 2 ^ (y+1):=by
 have a1:=CS ha;have a2:=Cn a;have b1:=CS d;have b2:=Cn b;unfold bO at h;simp only at h;by_cases hc:(if 0<=((Nat.log2 a:Int) - (Nat.log2 b:Int)) then decide (b * 2 ^ ((Nat.log2 a:Int) - (Nat.log2 b:Int)).toNat<=a) else decide (b<=a * 2 ^ (-((Nat.log2 a:Int) - (Nat.log2 b:Int))).toNat))=true
 .rw[Oy hc]at h;refine⟨(DM h).mp hc,?_⟩;have e:a.log2+1+x=b.log2+(y+1):=by omega
  calc a * 2 ^ x<2 ^ (a.log2+1) * 2 ^ x:=Q8 a2 (QD (by decide))
   _=2 ^ b.log2 * 2 ^ (y+1):=by rw[<-Pt,<-Pt,e]
   _<=b * 2 ^ (y+1):=Pz _ b1
 .rw[Ox hc]at h;have c:(x:Int) - ((y+1:Nat):Int)=-((Nat.log2 a:Int) - (Nat.log2 b:Int)):=by omega
  refine⟨?_,Nat.not_le.mp fun z=>hc ((DM c).mpr z)⟩;have e:b.log2+1+y=a.log2+x:=by omega
  calc b * 2 ^ y<=2 ^ (b.log2+1) * 2 ^ y:=Pz _ (Rm b2)
   _=2 ^ a.log2 * 2 ^ x:=by rw[<-Pt,<-Pt,e]
   _<=a * 2 ^ x:=Pz _ a1
theorem zV{a b:Nat}(ha:0<a)(f:0<b){p:Int}{j:Nat}(h:p+j=bO a b):2 ^ j * eB b p<=fL a p/\¬ 2 ^ (j+1) * eB b p<=fL a p:=by
 obtain⟨x,y,c⟩:∃ x y:Nat,(x:Int) - y=-p:=⟨(-p).toNat,p.toNat,by omega⟩
 have hl:(x:Int) - ((y+j:Nat):Int)=-(bO a b):=by omega
 obtain⟨g,i⟩:=qp ha f hl;have d:2 ^ j * (b * 2 ^ y)=b * 2 ^ (y+j):=by rw[Pt];ac_rfl
 have e:2 ^ (j+1) * (b * 2 ^ y)=b * 2 ^ (y+j+1):=by rw[show y+j+1=(j+1)+y by omega,Pt 2 (j+1) y];ac_rfl
 rw[le_iff c,le_iff c,d,e];exact⟨g,Nat.not_le.mpr i⟩
theorem yE(c:0<b):k<=fL a p / eB b p↔k * eB b p<=fL a p:=Nat.le_div_iff_mul_le (AO c p)
def bU(a b:Nat):Int:=
 let c:Int:=max (((a.log2+1:Nat):Int) - ((b.log2+1:Nat):Int) - 53) (-1074)
 if 2 ^ 53<=fL a c / eB b c then c+1 else c
theorem Gz(a b:Nat):bO a b=(a.log2:Int) - b.log2\/bO a b=(a.log2:Int) - b.log2 - 1:=by
 unfold bO;simp only;generalize (if 0<=((Nat.log2 a:Int) - (Nat.log2 b:Int)) then decide (b * 2 ^ ((Nat.log2 a:Int) - (Nat.log2 b:Int)).toNat<=a) else decide (b<=a * 2 ^ (-((Nat.log2 a:Int) - (Nat.log2 b:Int))).toNat))=c;cases c;.exact .inr rfl
 .exact .inl rfl
theorem vb(ha:0<a)(d:0<b):bU a b=max (bO a b - 52) (-1074):=by
 have l:=Gz a b;unfold bU;simp only;generalize k:max (((a.log2+1:Nat):Int) - ((b.log2+1:Nat):Int) - 53) (-1074)=c;have hc:2 ^ 53<=fL a c / eB b c↔c+53<=bO a b:=by
  rw[yE d];constructor
  .intro h;apply Rj;intro hn;by_cases i:c<=bO a b
   .obtain⟨j,f⟩:∃ j:Nat,c+j=bO a b:=⟨(bO a b - c).toNat,by omega⟩
    have q:=(zV ha d f).2;apply q;refine O9 (Pz _ (PB (by decide) ?_)) h;omega
   ·
    obtain⟨x,y,g⟩:∃ x y:Nat,(x:Int) - y=-c/\(c - bO a b).toNat<=y:=⟨(-c).toNat+(c - bO a b).toNat,c.toNat+(c - bO a b).toNat,by omega,by omega⟩
    rw[le_iff g.1]at h;have hl:(x:Int) - ((y - (c - bO a b).toNat:Nat):Int)=-(bO a b):=by omega
    have m:=(qp ha d hl).2;have:b * 2 ^ (y - (c - bO a b).toNat+1)<=2 ^ 53 * (b * 2 ^ y):=by
     have e:2 ^ 53 * (b * 2 ^ y)=b * 2 ^ (53+y):=by rw[Pt];ac_rfl
     rw[e];exact Q2 _ (PB (by decide) (by omega))
    omega
  .intro h;obtain⟨j,f⟩:∃ j:Nat,c+j=bO a b:=⟨(bO a b - c).toNat,by omega⟩
   refine O9 (Pz _ (PB (by decide) ?_)) (zV ha d f).1;omega
 by_cases h:2 ^ 53<=fL a c / eB b c;.rw[Oy h];have:=hc.mp h;omega
 .rw[Ox h];have:¬ c+53<=bO a b:=fun z=>h (hc.mpr z);omega
def jK(a b:Nat)(p:Int):Nat:=nearest (fL a p) (eB b p)
def cZ(a b:Nat):Nat:=min ((bU a b+1074).toNat * 2 ^ 52+jK a b (bU a b)) 0x7FF0000000000000
theorem uG:a / b<=nearest a b:=by unfold nearest;simp only;split<;>omega
theorem IU(a b:Nat)(p:Int):(if 0<=p then nearest a (b * 2 ^ p.toNat) else nearest (a * 2 ^ (-p).toNat) b)=jK a b p:=by
 unfold jK fL eB;by_cases h:p<0;.rw[Ox (by omega),Oy h,Oy h]
 .rw[Oy (by omega),Ox h,Ox h]
theorem jZ(ha:0<a)(d:0<b):doubleOf a b=cZ a b:=by
 have g:=vb ha d;have hd:doubleOf a b=(let m:=jK a b (max (bO a b - 52) (-1074));let c:=if m<2 ^ 52 then m else((max (bO a b - 52) (-1074))+1074).toNat * 2 ^ 52+m;if 0x7FF0000000000000<=c then 0x7FF0000000000000 else c):=by unfold doubleOf;rw[Ox (by omega)];simp only;rw[<-IU a b];rfl
 rw[hd];unfold cZ;rw[g];generalize h:max (bO a b - 52) (-1074)=p;simp only;by_cases e:jK a b p<2 ^ 52
 ·
  have:p=-1074:=by
   apply Rj;intro hn;have f:p+(52:Nat)=bO a b:=by omega
   have h1:=(yE (a:=a) (p:=p) d).mpr (zV ha d f).1;have h2:fL a p / eB b p<=jK a b p:=uG;omega
  subst this;rw[Oy e];simp only[show((-1074:Int)+1074).toNat=0 from rfl,Nat.zero_mul,Nat.zero_add];rw[Nat.min_def];split<;>split<;>omega
 .rw[Ox e,Nat.min_def];split<;>split<;>omega
theorem wD(ha:0<a)(c:0<b)(h:b * 2 ^ 1024<=a):doubleOf a b=0x7FF0000000000000:=by
 rw[jZ ha c];unfold cZ;rw[vb ha c];have hl:1024<=bO a b:=by
  apply Rj;intro hn;obtain⟨x,y,d⟩:∃ x y:Nat,(x:Int) - y=-(bO a b):=⟨(-(bO a b)).toNat,(bO a b).toNat,by omega⟩
  have k:=(qp ha c d).2;have:b * 2 ^ (y+1)<=a * 2 ^ x:=by refine O9 ?_ (Pz _ h);rw[Tg,<-Pt];exact Q2 _ (PB (by decide) (by omega))
  omega
 have g:(max (bO a b - 52) (-1074))+(52:Nat)=bO a b:=by omega
 have h1:=(yE (a:=a) c).mpr (zV ha c g).1;have h2:fL a (max (bO a b - 52) (-1074)) / eB b (max (bO a b - 52) (-1074))<=jK a b (max (bO a b - 52) (-1074)):=uG;have f:2046<=((max (bO a b - 52) (-1074))+1074).toNat:=by omega
 have i:2046 * 2 ^ 52<=((max (bO a b - 52) (-1074))+1074).toNat * 2 ^ 52:=Pz _ f;have j:2 ^ 52<=jK a b (max (bO a b - 52) (-1074)):=O9 h1 h2;rw[Sh];have e:2046 * 2 ^ 52+2 ^ 52=0x7FF0000000000000:=by decide
 omega
theorem Ay(ha:0<a)(h:a * 2 ^ 1075<b):doubleOf a b=0:=by
 have d:0<b:=by omega
 rw[jZ ha d];unfold cZ;rw[vb ha d];have hl:bO a b < -1022:=by
  apply Rj;intro hn;obtain⟨x,y,f⟩:∃ x y:Nat,(x:Int) - y=-(bO a b):=⟨(-(bO a b)).toNat,(bO a b).toNat,by omega⟩
  have k:=(qp ha d f).1;have:a * 2 ^ x<=a * 2 ^ 1075 * 2 ^ y:=by rw[Tg,<-Pt];exact Q2 _ (PB (by decide) (by omega))
  have j:=Q8 h (show 0<2 ^ y from QD (by decide));omega
 have e:max (bO a b - 52) (-1074)=-1074:=by omega
 rw[e];have i:jK a b (-1074)=0:=by
  unfold jK fL eB;rw[Oy (by decide),Oy (by decide)];show nearest (a * 2 ^ 1074) b=0;have hx:2 * (a * 2 ^ 1074)<b:=by have g:(2:Nat) ^ 1075=2 ^ 1074 * 2:=RG 2 1074;rw[g,<-Tg]at h;rw[UP];exact h
  generalize a * 2 ^ 1074=c at hx;unfold nearest;simp only;rw[Nat.div_eq_of_lt (by omega),Nat.mod_eq_of_lt (by omega),Ox (by omega)]
 rw[i];rfl
theorem Ga{n L:Nat}{k:Int}(hn:10 ^ (L - 1)<=n)(d:0<L)(h:309<(L:Int)+k):
 (if 0<=k then doubleOf (n * 10 ^ k.toNat) 1 else doubleOf n (10 ^ (-k).toNat))=0x7FF0000000000000:=by
 have c:0<n:=Pb (QD (by decide)) hn;have a:2 ^ 1024<=10 ^ 309:=by decide +kernel
 by_cases b:0<=k;.rw[Oy b];refine wD (T8 c (QD (by decide))) (by decide) ?_;rw[U9];refine O9 a (O9 ?_ (Pz _ hn));rw[<-Pt];exact PB (by decide) (by omega)
 .rw[Ox b];refine wD c (QD (by decide)) (O9 (Q2 _ a) (O9 ?_ hn));rw[<-Pt];exact PB (by decide) (by omega)
theorem CH{n L:Nat}{k:Int}(b:0<n)(hn:n<10 ^ L)(h:(L:Int)+k < -324):doubleOf n (10 ^ (-k).toNat)=0:=by
 have a:2 ^ 1075<10 ^ 325:=by decide +kernel
 refine Ay b ?_;have e:10 ^ L * 10 ^ 325<=10 ^ (-k).toNat:=by rw[<-Pt];exact PB (by decide) (by omega)
 refine Pb ?_ e;exact Nat.mul_lt_mul_of_lt_of_le hn (Rm a) (by omega)
def xT(n L:Nat)(k:Int):Nat:=
 if n=0 then 0 else if 309<(L:Int)+k then 0x7FF0000000000000 else if (L:Int)+k < -324 then 0
 else if k<0 then cZ n (10 ^ (-k).toNat) else cZ (n * 10 ^ k.toNat) 1
theorem G5{n L b:Nat}{k:Int}(hl:L<=b)(h1:n≠0->10 ^ (L - 1)<=n/\n<10 ^ L/\0<L):
 (if 0<=k then(if n=0 then 0 else if 400<k then INF else doubleOf (n * 10 ^ k.toNat) 1) else(if -k - (b:Int)>400 then 0 else doubleOf n (10 ^ (-k).toNat)))=xT n L k:=by
 unfold xT;by_cases c:n=0
 .subst c;rw[Oy rfl,Oy rfl];split;.rfl
  .split;.rfl
   .unfold doubleOf;rw[Oy rfl]
 .obtain⟨ha,h,g⟩:=h1 c;have d:0<n:=by omega
  rw[Ox c,Ox c];by_cases e:309<(L:Int)+k
  .rw[Oy e];have q:=Ga ha g e;by_cases a:0<=k
   .rw[Oy a]at q |-;split;.rfl
    .exact q
   .rw[Ox a]at q |-;rw[Ox (by omega)];exact q
  .rw[Ox e];by_cases f:(L:Int)+k < -324
   .rw[Oy f,Ox (by omega)];split;.rfl
    .exact CH d h f
   .rw[Ox f];by_cases a:0<=k;.rw[Oy a,Ox (by omega),Ox (by omega)];exact jZ (T8 d (QD (by decide))) (by decide)
    .rw[Ox a,Ox (by omega),Oy (by omega)];exact jZ d (QD (by decide))
end Ps
namespace Ps
open Ql16
theorem AF:∀ (k n:Nat) (b:Bytes) (x:Nat) (s:Bytes),hexes k n b=some (x,s)->s.length+k=b.length
 | 0,n,b,x,s,h=>by simp[hexes]at h;rw[h.2];rfl
 | k+1,n,[],x,s,h=>by simp[hexes]at h
 | k+1,n,c::r,x,s,h=>by
   unfold hexes at h;split at h;.have:=AF k _ r x s h;simp;omega
   .simp at h
theorem Cw(n:Nat):(encode n).length<=4:=by
 unfold encode;split;.simp
 .split;.simp
  .split<;>simp
theorem xq(h:escape b=some (x,s)):x.length+s.length<=b.length:=by
 unfold escape at h;split at h;.simp at h
 .rename_i c r
  repeat' split at h
  all_goals first
   | (simp only[OC,OG]at h;obtain⟨rfl,rfl⟩:=h;simp;omega)
   | (simp at h;done)
   | skip
  rename_i n s' a hs;simp only[OC,OG]at h;obtain⟨rfl,rfl⟩:=h;have d:=AF _ _ _ _ _ a;have e:=Cw n;simp;split at d<;>omega
theorem rS:∀ (k:Nat) (b x s:Bytes),quoted k b=some (x,s)->x.length+1+s.length<=b.length
 | 0,b,x,s,h=>by simp[quoted]at h
 | k+1,[],x,s,h=>by simp[quoted]at h
 | k+1,c::r,x,s,h=>by
   unfold quoted at h;split at h;.simp only[OC,OG]at h;obtain⟨rfl,rfl⟩:=h;simp;omega
   .split at h
    .split at h;.rename_i y t d;rw[OI]at h;obtain⟨⟨p,q⟩,h1,h2⟩:=h;simp only[OG]at h2;obtain⟨rfl,rfl⟩:=h2;have a:=rS k _ _ _ h1;have b:=xq d;simp;omega
     .simp at h
    .rw[OI]at h;obtain⟨⟨p,q⟩,h1,h2⟩:=h;simp only[OG]at h2;obtain⟨rfl,rfl⟩:=h2;have a:=rS k _ _ _ h1;simp;omega
theorem AI:∀ (b x s:Bytes),plain b=some (x,s)->x.length+1+s.length<=b.length
 | [],x,s,h=>by simp[plain]at h
 | c::r,x,s,h=>by
   unfold plain at h;split at h;.simp only[OC,OG]at h;obtain⟨rfl,rfl⟩:=h;simp;omega
   .rw[OI]at h;obtain⟨⟨p,q⟩,h1,h2⟩:=h;simp only[OG]at h2;obtain⟨rfl,rfl⟩:=h2;have a:=AI _ _ _ h1;simp;omega
theorem r9(h:string b=some (x,s)):x.length+2+s.length<=b.length:=by
 unfold string at h;split at h;.have:=rS _ _ _ _ h;simp;omega
 .have:=AI _ _ _ h;simp;omega
 .simp at h
theorem kq(p:UInt8->Bool)(b:Bytes):(b.takeWhile p).length+(b.dropWhile p).length=b.length:=by rw[<-ON,List.takeWhile_append_dropWhile]
theorem HF(h:key b=some (x,s)):x.length+s.length<=b.length:=by
 unfold key at h;split at h
 .split at h;.have:=r9 h;omega
  .split at h;.simp only[OC,OG]at h;obtain⟨rfl,rfl⟩:=h;exact Sw (kq _ _)
   .simp at h
 .simp at h
theorem lQ:∀ (k:Nat) (b:Bytes) (x:List Bytes) (s:Bytes),keys k b=some (x,s)->mO x+15 * s.length<=15 * b.length
 | 0,b,x,s,h=>by simp[keys]at h
 | k+1,b,x,s,h=>by
   unfold keys at h;split at h;.simp at h
   .rename_i y r d;have a:=um d;have e:=HF d;have b1:=aY b;have b2:=aY r;split at h;.rename_i s' hs;rw[OI]at h;obtain⟨⟨p,q⟩,h1,h2⟩:=h;simp only[OG]at h2;obtain⟨rfl,rfl⟩:=h2;have c:=lQ k _ _ _ h1;rw[hs]at b2;simp at b2;simp only[mO]at c |-;omega
    .simp only[OC,OG]at h;obtain⟨rfl,rfl⟩:=h;simp only[mO];omega
theorem Ow(x:Nat):(if 0x7FF0000000000000<=x then 0x7FF0000000000000 else x)<=0x7FF0000000000000:=by split<;>omega
theorem Fw(a b:Nat):doubleOf a b<=0x7FF0000000000000:=by
 unfold doubleOf;split;.exact O1 _
 .exact Ow _
theorem Jo(h:realOf w=some n):okN n/\sz n<=24:=by
 unfold realOf at h;simp only at h;have hs:∀ m:Nat,m<=NAN->okN (.real (m+if (signOf w).1=true then 2 ^ 63 else 0))/\sz (.real (m+if (signOf w).1=true then 2 ^ 63 else 0))<=24:=by intro m a;unfold NAN at a;refine⟨?_,OE _⟩;show m+(if (signOf w).1=true then 2 ^ 63 else 0)<2 ^ 64;split<;>omega
 split at h;.cases h;exact hs _ (by decide)
 .split at h;.cases h;exact hs _ (by decide)
  .split at h;.simp at h
   .split at h;.simp at h
    .split at h
     .cases h;refine hs _ ?_;have:=Fw;unfold NAN;split
      .split;.omega
       .split;.decide
        .exact O9 (this _ _) (by decide)
      .split;.omega
       .exact O9 (this _ _) (by decide)
     .simp at h
theorem lL(h:inRange z=some n):okN n/\sz n<=24:=by
 unfold inRange at h;split at h;.rename_i a;cases h;exact⟨a,OE _⟩
 .simp at h
theorem IK(h:wholeOf w=some n):okN n/\sz n<=24:=by
 unfold wholeOf at h;split at h;.rw[Rp]at h;obtain⟨l,_,h⟩:=h;exact lL h
 .rw[Rp]at h;obtain⟨l,_,h⟩:=h;exact lL h
 .rw[Rp]at h;obtain⟨l,_,h⟩:=h;exact lL h
 .simp only at h;split at h;.rw[Rp]at h;obtain⟨l,_,h⟩:=h;exact lL h
  .simp at h
theorem zQ(y m:Nat):monthDays y m<=31:=by
 unfold monthDays
 repeat' split
 all_goals omega
theorem G6(f:Nat->Nat)(hf:∀ i,f i<=31)(l:List Nat):(l.map f).sum<=31 * l.length:=by
 induction l with
 | nil=>simp
 | cons a r b=>have:=hf a;simp;omega
theorem L6(h:dayOf w=some n):okN n/\sz n<=24:=by
 unfold dayOf at h;split at h
 .rename_i a c d e f g F i;split at h
  .rename_i hd;simp only at h;split at h
   .rename_i G;cases h;refine⟨?_,OE _⟩;have dg:∀ x:UInt8,digit x=true->x.toNat - 48<=9:=by
     intro x hx;unfold digit between at hx;simp at hx;omega
    simp[List.all]at hd;obtain⟨b,k,l,m,o,p,q,r⟩:=hd;have u:=dg _ b;have v:=dg _ k;have z:=dg _ l;have A:=dg _ m;have B:=dg _ o;have C:=dg _ p;have D:=dg _ q;have E:=dg _ r;have t:=G6 (fun j=>monthDays (1000 * (a.toNat - 48)+100 * (c.toNat - 48)+10 * (d.toNat - 48)+(e.toNat - 48)) (j+1)) (fun i=>zQ _ _) (List.range (10 * (f.toNat - 48)+(g.toNat - 48) - 1));rw[Tr]at t;generalize H:1000 * (a.toNat - 48)+100 * (c.toNat - 48)+10 * (d.toNat - 48)+(e.toNat - 48)=y at *;have s:y<=9999:=by omega
    generalize ((List.range (10 * (f.toNat - 48)+(g.toNat - 48) - 1)).map fun j=>monthDays y (j+1)).sum=I at *;show -10000000<_/\_<(10000000:Int);unfold daysBefore;constructor<;>omega
   .simp at h
  .simp at h
 .simp at h
theorem Ea(h:wordOf w=some n):okN n/\sz n<=24:=by
 unfold wordOf at h;split at h;.cases h;exact⟨OF,OE _⟩
 .split at h;.cases h;exact⟨OF,OE _⟩
  .split at h;.rename_i m a;cases h;exact L6 a
   .split at h;.rename_i m a;cases h;exact IK a
    .exact Jo h
mutual
theorem vq:∀ (k d:Nat) (b:Bytes) (v:Node) (t:Bytes),value k d b=some (v,t)->okN v/\sz v+24 * t.length<=24 * b.length
 | 0,d,b,v,t,h=>by simp[value]at h
 | k+1,d,[],v,t,h=>by simp[value]at h
 | k+1,d,c::r,v,t,h=>by
   unfold value at h;simp only at h;split at h;.rw[OI]at h;obtain⟨⟨p,q⟩,h1,h2⟩:=h;simp only[OG]at h2;obtain⟨rfl,rfl⟩:=h2;have:=r9 h1;exact⟨OF,by simp only[sz];omega⟩
   .split at h
    .split at h;.simp at h
     .rw[OI]at h;obtain⟨⟨p,q⟩,h1,h2⟩:=h;simp only[OG]at h2;obtain⟨rfl,rfl⟩:=h2;obtain⟨a,e⟩:=Bf k _ _ _ _ h1;exact⟨a,by simp only[sz,OB];omega⟩
    .split at h
     .split at h;.simp at h
      .have b1:=aY r;split at h;.rename_i s hs;simp only[OC,OG]at h;obtain⟨rfl,rfl⟩:=h;rw[hs]at b1;exact⟨OF,by simp only[sz,dk,OB]at b1 |-;omega⟩
       .rw[OI]at h;obtain⟨⟨p,q⟩,h1,h2⟩:=h;simp only[OG]at h2;obtain⟨rfl,rfl⟩:=h2;obtain⟨a,e⟩:=An k _ _ [] _ _ OF h1;exact⟨a,by simp only[sz,dk,OB]at e |-;omega⟩
     .rw[OI]at h;obtain⟨n,h1,h2⟩:=h;simp only[OG]at h2;obtain⟨rfl,rfl⟩:=h2;obtain⟨a,e⟩:=Ea h1;refine⟨a,?_⟩;have l1:=kq wordByte (c::r);have l2:0<((c::r).takeWhile wordByte).length:=by
       apply Nat.pos_of_ne_zero;intro z;rw[Ro.mp z]at h1;have:wordOf []=none:=by decide +kernel
       rw[this]at h1;cases h1
      omega
theorem Bf:∀ (k d:Nat) (b:Bytes) (v:List Node) (t:Bytes),items k d b=some (v,t)->GD v/\pC v+24 * t.length+4<=24 * b.length
 | 0,d,b,v,t,h=>by simp[items]at h
 | k+1,d,b,v,t,h=>by
   unfold items at h;have b1:=aY b;split at h;.rename_i s hs;simp only[OC,OG]at h;obtain⟨rfl,rfl⟩:=h;rw[hs]at b1;simp at b1;exact⟨OF,by simp only[pC];omega⟩
   .split at h;.simp at h
    .rename_i v' t' hv;obtain⟨a,e⟩:=vq k _ _ _ _ hv;have b2:=aY t';split at h;.rename_i r hr;simp only[OC,OG]at h;obtain⟨rfl,rfl⟩:=h;rw[hr]at b2;simp at b2;exact⟨⟨a,OF⟩,by simp only[pC];omega⟩
     .rename_i r hr;rw[OI]at h;obtain⟨⟨p,q⟩,h1,h2⟩:=h;simp only[OG]at h2;obtain⟨rfl,rfl⟩:=h2;obtain⟨a2,e2⟩:=Bf k _ _ _ _ h1;rw[hr]at b2;simp at b2;exact⟨⟨a,a2⟩,by simp only[pC];omega⟩
     .simp at h
theorem An:∀ (k d:Nat) (b:Bytes) (es:Entries) (v:Entries) (t:Bytes),gJ es->pairs k d b es=some (v,t)->gJ v/\dk v+24 * t.length+4<=dk es+24 * b.length
 | 0,d,b,es,v,t,ho,h=>by simp[pairs]at h
 | k+1,d,b,es,v,t,ho,h=>by
   unfold pairs at h;split at h
   .rename_i ks s hk;have a0:=kY _ _ _ _ hk;have a1:=lQ _ _ _ _ hk;have b0:=aY s;simp at a0 a1;split at h;.simp at h
    .rename_i v' t' hv;obtain⟨a,e⟩:=vq k _ _ _ _ hv;have b2:=aY t';split at h;.simp at h
     .rename_i es1 hp;obtain⟨p1,p2⟩:=rm a ho hp;split at h;.rename_i r hr;simp only[OC,OG]at h;obtain⟨rfl,rfl⟩:=h;rw[hr]at b2;simp at b2;exact⟨p1,by omega⟩
      .rename_i r hr;obtain⟨c1,c2⟩:=An k _ _ _ _ _ p1 h;rw[hr]at b2;simp at b2;exact⟨c1,by omega⟩
      .simp at h
   .simp at h
end
def fy:Line->Nat
 | .nothing=>0
 | .opens ks=>mO ks
 | .row ks=>mO ks+4
 | .sets ks v=>mO ks+sz v
def Hh:Line->Prop
 | .sets _ v=>okN v
 | _=>True
theorem zU(h:lineOf b=some l):Hh l/\fy l<=24 * b.length:=by
 unfold lineOf at h;have b1:=aY b;split at h;.cases h;exact⟨OF,O1 _⟩
 .cases h;exact⟨OF,O1 _⟩
 .rename_i r c;rw[c]at b1;simp at b1;split at h
  .rename_i d s a;have:=lQ _ _ _ _ a;split at h;.cases h;exact⟨OF,by simp only[fy];simp at this;omega⟩
   .cases h
  .cases h
 .rename_i r _ c;rw[c]at b1;simp at b1;split at h
  .rename_i d s a;have:=lQ _ _ _ _ a;split at h;.cases h;exact⟨OF,by simp only[fy];simp at this;omega⟩
   .cases h
  .cases h
 .split at h
  .rename_i d t a;have a1:=lQ _ _ _ _ a;have e:=kY _ _ _ _ a;have b2:=aY t;simp at e a1;split at h
   .rename_i v u g;obtain⟨f,i⟩:=vq _ _ _ _ _ g;split at h;.cases h;exact⟨f,by simp only[fy];omega⟩
    .cases h
   .cases h
  .cases h
theorem pR(hf:∀ x y,gJ x->f x=some y->gJ y/\dk y<=dk x+c):∀ {i:List Bytes} {es d:Entries},gJ es->into f i es=some d->gJ d/\dk d<=dk es+c+mO i
 | [],es,d,e,h=>by obtain⟨a,b⟩:=hf _ _ e h;exact⟨a,by simp only[mO];omega⟩
 | k::r,es,d,e,h=>by
   unfold into at h;split at h;.rename_i hl;rw[OI]at h;obtain⟨x,h1,rfl⟩:=h;obtain⟨a,b⟩:=pR hf (es:=[]) OF h1;refine⟨jw (n:=.table 0 x) a e (cN.mp hl),?_⟩;rw[iK];simp only[dk,sz,mO]at b |-;omega
   .rename_i j x hl;split at h;.cases h
    .rw[OI]at h;obtain⟨y,h1,rfl⟩:=h;have hx:gJ x:=gb e hl;obtain⟨a,b⟩:=pR hf hx h1;obtain⟨p,q⟩:=et (n:=.table j y) e a hl;refine⟨p,?_⟩;simp only[sz,mO]at q b |-;omega
   .rename_i l hl;split at h;.rename_i x hx;rw[OI]at h;obtain⟨y,h1,rfl⟩:=h;have g:Eb l:=gb e hl;obtain⟨a,b⟩:=pR hf (nu g hx) h1;obtain⟨a2,b2⟩:=v8 g hx a;obtain⟨p,q⟩:=et (n:=.rows (l.dropLast++[y])) e a2 hl;refine⟨p,?_⟩;simp only[sz,mO]at q b |-;omega
    .cases h
   .cases h
theorem Fn(a:gJ x)(h:opened k x=some y):gJ y/\dk y<=dk x+(6 * k.length+9):=by
 unfold opened at h;split at h;.rename_i hl;cases h;refine⟨jw (n:=.table 1 []) OF a (cN.mp hl),?_⟩;rw[iK];simp only[dk,sz];omega
 .rename_i z hl;cases h;have b:gJ z:=gb a hl;obtain⟨p,q⟩:=et (n:=.table 1 z) a b hl;refine⟨p,?_⟩;simp only[sz]at q;omega
 .cases h
theorem Ae:∀ {l:List Entries},Eb l->Eb (l++[[]])/\pO (l++[[]])=pO l+4
 | [],_=>⟨⟨OF,OF⟩,rfl⟩
 | a::r,h=>by obtain⟨p,q⟩:=Ae h.2;exact⟨⟨h.1,p⟩,by simp only[OS,pO]at q |-;omega⟩
theorem IA(c:gJ x)(h:rowed k x=some y):gJ y/\dk y<=dk x+(6 * k.length+13):=by
 unfold rowed at h;split at h;.rename_i hl;cases h;refine⟨jw (n:=.rows [[]]) ⟨OF,OF⟩ c (cN.mp hl),?_⟩;rw[iK];simp only[dk,sz,pO];omega
 .rename_i l hl;cases h;have d:Eb l:=gb c hl;obtain⟨a,b⟩:=Ae d;obtain⟨p,q⟩:=et (n:=.rows (l++[[]])) c a hl;refine⟨p,?_⟩;simp only[sz]at q;omega
 .cases h
theorem vu:∀ {c:List Bytes} {k:Bytes},c.getLast?=some k->mO c=mO c.dropLast+(6 * k.length+9)
 | [],k,h=>by simp at h
 | [a],k,h=>by simp at h;subst h;simp[mO]
 | a::b::r,k,h=>by rw[R3]at h;have:=vu h;rw[List.dropLast_cons₂];simp only[mO]at this |-;omega
theorem L5(f:gJ es)(hs:sub p es=some o)(hl:Hh l)(h:act es p l=some (e,m)):gJ e/\dk e<=dk es+fy l:=by
 unfold act at h;split at h;.cases h;exact⟨f,OE _⟩
 .rename_i j;split at h;.rename_i k g;rw[OI]at h;obtain⟨x,h1,h2⟩:=h;cases h2;obtain⟨a,b⟩:=pR (fun x y hx i=>Fn (k:=k) hx i) f h1;have:=vu g;exact⟨a,by simp only[fy];omega⟩
  .cases h
 .rename_i j;split at h;.rename_i k g;rw[OI]at h;obtain⟨x,h1,h2⟩:=h;cases h2;obtain⟨a,b⟩:=pR (fun x y hx i=>IA (k:=k) hx i) f h1;have:=vu g;exact⟨a,by simp only[fy];omega⟩
  .cases h
 .rename_i j v;rw[vp _ hs,Rl]at h;rw[OI]at h;obtain⟨x,h1,h2⟩:=h;cases h2;obtain⟨a,b⟩:=rm hl (C3 f hs) h1;obtain⟨c,d⟩:=uu a f hs;exact⟨c,by simp only[fy];omega⟩
end Ps
namespace Ps
open Ql16
def jE(a:Bytes):Bytes:=if a.getLast?=some 13 then a.dropLast else a
def gr:Bytes->Bytes->List Bytes
 | row,[]=>if row=[] then [] else [jE row]
 | row,c::r=>if c=10 then jE row::gr [] r else gr (row++[c]) r
theorem takeWhile_all:∀ {l:Bytes},(∀ c∈l,p c=true)->l.takeWhile p=l
 | [],_=>rfl
 | c::r,h=>by rw[Qt (h c (O2 ..)),takeWhile_all fun x hx=>h x (OM _ hx)]
theorem takeWhile_stop(hd:p d=false):∀ {l:Bytes},(∀ c∈l,p c=true)->(l++d::r).takeWhile p=l
 | [],_=>by simp[hd]
 | c::l,h=>by rw[OS,Qt (h c (O2 ..)),takeWhile_stop hd fun x hx=>h x (OM _ hx)]
theorem tc(k:Nat):linesIn k []=[]:=by cases k<;>simp[linesIn]
theorem mH:∀ (b a:Bytes) (k:Nat),(∀ c∈a,c≠10)->(a++b).length<=k->linesIn k (a++b)=gr a b
 | [],a,k,h,d=>by
   rw[Pn]at d |-;unfold gr;by_cases f:a=[];.rw[Oy f,f,tc]
   .rw[Ox f];have hl:0<a.length:=QL.mpr f;obtain⟨k,rfl⟩:∃ j,k=j+1:=⟨k - 1,by omega⟩
    unfold linesIn;rw[Ox f];simp only;have e:a.takeWhile (fun c=>c != 10)=a:=takeWhile_all fun c hc=>by simp[h c hc]
    rw[e,QO (by omega),tc];rfl
 | c::r,a,k,h,d=>by
   unfold gr;by_cases hc:c=10
   .subst hc;rw[Oy rfl];obtain⟨k,rfl⟩:∃ j,k=j+1:=⟨k - 1,by simp at d;omega⟩
    unfold linesIn;rw[Ox (by simp)];simp only;have e:(a++10::r).takeWhile (fun c=>c != 10)=a:=takeWhile_stop (by decide) fun c hc=>by simp[h c hc]
    rw[e];have i:(a++10::r).drop (a.length+1)=r:=by
     have:a++10::r=(a++[10])++r:=by simp
     rw[this];exact TV (by simp)
    rw[i];have g:=mH r [] k (by simp) (by simp at d |-;omega);rw[Pp]at g;rw[g];rfl
   .rw[Ox hc];have e:a++c::r=(a++[c])++r:=by simp
    rw[e];refine mH r (a++[c]) k (fun x hx=>?_) (by simp at d |-;omega);rcases OH.mp hx with z | z;.exact h x z
    .simp at z;rw[z];exact hc
theorem Io(b:Bytes):lines b=gr [] b:=mH b [] b.length (by simp) (by simp)
end Ps
namespace Ps
open Ql16
inductive Fr where
 | tab (pre:Entries) (k:Bytes) (h:Nat) (post:Entries)
 | row (pre:Entries) (k:Bytes) (l0:List Entries) (post:Entries)
def Fr.key:Fr->Bytes
 | .tab _ k _ _=>k
 | .row _ k _ _=>k
def Fr.fill:Fr->Entries->Entries
 | .tab pre k h post,es=>pre++(k,.table h es)::post
 | .row pre k l0 post,es=>pre++(k,.rows (l0++[es]))::post
def Fr.ok:Fr->Prop
 | .tab pre k h post=>k∉pre.map (·.1)/\k∉post.map (·.1)/\h≠3
 | .row pre k _ post=>k∉pre.map (·.1)/\k∉post.map (·.1)
def dY:List Fr->Entries->Entries
 | [],es=>es
 | f::r,es=>dY r (f.fill es)
def way:List Fr->List Bytes
 | []=>[]
 | f::r=>way r++[f.key]
def BZ:List Fr->Prop
 | []=>True
 | f::r=>f.ok/\BZ r
theorem rh(h:k∉pre.map (·.1)):look k (pre++(k,n)::post)=some n:=by
 induction pre with
 | nil=>rw[Pp,fG,Oy rfl]
 | cons x r a=>obtain⟨b,c⟩:=x;rw[OS,fG,Ox (fun z=>h (by rw[<-z];exact O2 ..))];exact a fun z=>h (OM _ z)
theorem Bp(k:Bytes)(n:Node)(a b:Entries):replace k n (a++b)=replace k n a++replace k n b:=by simp[replace]
theorem fo(h:k∉pre.map (·.1))(a:k∉post.map (·.1)):replace k n' (pre++(k,n)::post)=pre++(k,n')::post:=by rw[Bp,replace_cons,Oy rfl,jT h,jT a]
theorem lx(b:gJ es)(h:look k es=some n):∃ pre post,es=pre++(k,n)::post/\k∉pre.map (·.1)/\k∉post.map (·.1):=by
 induction es with
 | nil=>simp[look]at h
 | cons x r d=>
   obtain⟨c,e⟩:=x;rw[fG]at h;by_cases a:c=k;.subst a;rw[Oy rfl]at h;cases h;exact⟨[],r,rfl,by simp,b.2.2⟩
   .rw[Ox a]at h;obtain⟨pre,post,rfl,h1,h2⟩:=d b.2.1 h;refine⟨(c,e)::pre,post,rfl,fun z=>?_,h2⟩;rcases OA.mp z with z | z;.exact a z.symm
    .exact h1 z
theorem Au(f:Entries->Option Entries)(k:Bytes):∀ (a:List Bytes) (w:Entries),into f (a++[k]) w=into (into f [k]) a w
 | [],w=>rfl
 | c::r,w=>by rw[OS,into,into];simp only[Au f k r]
theorem Fp{f:Entries->Option Entries}{a:Fr}(h:a.ok)(b:Entries):into f [a.key] (a.fill b)=(f b).map a.fill:=by
 cases a with
 | tab pre k d post=>obtain⟨h1,h2,c⟩:=h;simp only[Fr.key,Fr.fill,into,rh h1];rw[Ox c];congr 1;funext y;rw[fo h1 h2];rfl
 | row pre k l0 post=>obtain⟨h1,h2⟩:=h;simp only[Fr.key,Fr.fill,into,rh h1];rw[Sz,QT];simp only;congr 1;funext y;rw[fo h1 h2];rfl
theorem AH:∀ {b:List Fr} (f:Entries->Option Entries) (a:Entries),BZ b->into f (way b) (dY b a)=(f a).map (dY b)
 | [],f,a,_=>by cases h:f a<;>simp[way,dY,into,h]
 | fr::r,f,a,h=>by rw[way,dY,Au,AH _ _ h.2,Fp h.1,Rl];rfl
theorem E1(i:gJ es):
 (look k es=none/\(∀ f r,into f (k::r) es=(into f r []).map (Fr.tab es k 0 []).fill)/\(Fr.tab es k 0 []).ok) \/
 (∃ pre post h x,es=pre++(k,.table h x)::post/\look k es=some (.table h x)/\h≠3/\(∀ f r,into f (k::r) es=(into f r x).map (Fr.tab pre k h post).fill)/\(Fr.tab pre k h post).ok) \/
 (∃ pre post c x,es=pre++(k,.rows (c++[x]))::post/\look k es=some (.rows (c++[x]))/\(∀ f r,into f (k::r) es=(into f r x).map (Fr.row pre k c post).fill)/\(Fr.row pre k c post).ok) \/
 (∃ n,look k es=some n/\(∀ h x,n=.table h x->h=3)/\(∀ l,n=.rows l->l=[])/\∀ f r,into f (k::r) es=none):=by
 cases hl:look k es with
 | none=>exact .inl ⟨rfl,fun f r=>by rw[into,hl];rfl,cN.mp hl,by simp,by decide⟩
 | some n=>
   obtain⟨pre,post,rfl,h1,h2⟩:=lx i hl;right;have d:(∀ h x,n≠.table h x)->(∀ l,n≠.rows l)->∀ f r,into f (k::r) (pre++(k,n)::post)=none:=fun a b f r=>by rw[into,hl];cases n<;>first | rfl | exact absurd rfl (a _ _) | exact absurd rfl (b _)
   cases n with
   | table h x=>
     by_cases g:h=3;.exact .inr (.inr ⟨_,rfl,fun _ _ e=>(by cases e;exact g),fun _ e=>(by cases e),fun f r=>by rw[into,hl];simp[g]⟩)
     .refine .inl ⟨pre,post,h,x,rfl,rfl,g,fun f r=>?_,h1,h2,g⟩;rw[into,hl];simp only[Ox g,fo h1 h2];rfl
   | rows l=>
     rcases Sk l with rfl | ⟨c,x,e⟩;.exact .inr (.inr ⟨_,rfl,fun _ _ e=>(by cases e),fun _ e=>(by cases e;rfl),fun f r=>by rw[into,hl];rfl⟩)
     .rw[Sl]at e;subst e;refine .inr (.inl ⟨pre,post,c,x,rfl,rfl,fun f r=>?_,h1,h2⟩);rw[into,hl];simp only[Sz,QT,fo h1 h2];rfl
   | text b=>exact .inr (.inr ⟨_,rfl,fun _ _ e=>(by cases e),fun _ e=>(by cases e),d (fun _ _ e=>(by cases e)) fun _ e=>(by cases e)⟩)
   | whole b=>exact .inr (.inr ⟨_,rfl,fun _ _ e=>(by cases e),fun _ e=>(by cases e),d (fun _ _ e=>(by cases e)) fun _ e=>(by cases e)⟩)
   | real b=>exact .inr (.inr ⟨_,rfl,fun _ _ e=>(by cases e),fun _ e=>(by cases e),d (fun _ _ e=>(by cases e)) fun _ e=>(by cases e)⟩)
   | truth b=>exact .inr (.inr ⟨_,rfl,fun _ _ e=>(by cases e),fun _ e=>(by cases e),d (fun _ _ e=>(by cases e)) fun _ e=>(by cases e)⟩)
   | day b=>exact .inr (.inr ⟨_,rfl,fun _ _ e=>(by cases e),fun _ e=>(by cases e),d (fun _ _ e=>(by cases e)) fun _ e=>(by cases e)⟩)
   | list b=>exact .inr (.inr ⟨_,rfl,fun _ _ e=>(by cases e),fun _ e=>(by cases e),d (fun _ _ e=>(by cases e)) fun _ e=>(by cases e)⟩)
theorem sV(a:gJ es):
 (look k es=none/\opened k es=some ((Fr.tab es k 1 []).fill [])/\(Fr.tab es k 1 []).ok) \/
 (∃ pre post x,es=pre++(k,.table 0 x)::post/\look k es=some (.table 0 x)/\opened k es=some ((Fr.tab pre k 1 post).fill x)/\(Fr.tab pre k 0 post).ok/\(Fr.tab pre k 1 post).ok) \/
 (∃ n,look k es=some n/\(∀ x,n≠.table 0 x)/\opened k es=none):=by
 cases hl:look k es with
 | none=>exact .inl ⟨rfl,by rw[opened,hl];rfl,cN.mp hl,by simp,by decide⟩
 | some n=>
   obtain⟨pre,post,rfl,h1,h2⟩:=lx a hl;right;by_cases hn:∃ x,n=.table 0 x;.obtain⟨x,rfl⟩:=hn;refine .inl ⟨pre,post,x,rfl,rfl,?_,⟨h1,h2,by decide⟩,h1,h2,by decide⟩;rw[opened,hl];simp only[fo h1 h2];rfl
   .refine .inr ⟨n,rfl,fun x e=>hn ⟨x,e⟩,?_⟩;rw[opened,hl];split;.rename_i e;cases e
    .rename_i x e;cases e;exact absurd ⟨x,rfl⟩ hn
    .rfl
theorem vA(a:gJ es):
 (look k es=none/\rowed k es=some ((Fr.row es k [] []).fill [])/\(Fr.row es k [] []).ok) \/
 (∃ pre post l,es=pre++(k,.rows l)::post/\look k es=some (.rows l)/\rowed k es=some ((Fr.row pre k l post).fill [])/\(Fr.row pre k l post).ok) \/
 (∃ n,look k es=some n/\(∀ x,n≠.rows x)/\rowed k es=none):=by
 cases hl:look k es with
 | none=>exact .inl ⟨rfl,by rw[rowed,hl];rfl,cN.mp hl,by simp⟩
 | some n=>
   obtain⟨pre,post,rfl,h1,h2⟩:=lx a hl;right;by_cases hn:∃ x,n=.rows x;.obtain⟨x,rfl⟩:=hn;refine .inl ⟨pre,post,x,rfl,rfl,?_,h1,h2⟩;rw[rowed,hl];simp only[fo h1 h2];rfl
   .refine .inr ⟨n,rfl,fun x e=>hn ⟨x,e⟩,?_⟩;rw[rowed,hl];split;.rename_i e;cases e
    .rename_i x e;cases e;exact absurd ⟨x,rfl⟩ hn
    .rfl
theorem HR(a:gJ es):
 (look k es=none/\put v (k::l::r) es=(put v (l::r) []).map (Fr.tab es k 2 []).fill/\(Fr.tab es k 2 []).ok) \/
 (∃ pre post x,es=pre++(k,.table 2 x)::post/\look k es=some (.table 2 x)/\put v (k::l::r) es=(put v (l::r) x).map (Fr.tab pre k 2 post).fill/\(Fr.tab pre k 2 post).ok) \/
 (∃ n,look k es=some n/\(∀ x,n≠.table 2 x)/\put v (k::l::r) es=none):=by
 cases hl:look k es with
 | none=>exact .inl ⟨rfl,by rw[put,hl];rfl,cN.mp hl,by simp,by decide⟩
 | some n=>
   obtain⟨pre,post,rfl,h1,h2⟩:=lx a hl;right;by_cases hn:∃ x,n=.table 2 x;.obtain⟨x,rfl⟩:=hn;refine .inl ⟨pre,post,x,rfl,rfl,?_,h1,h2,by decide⟩;rw[put,hl];simp only[fo h1 h2];rfl
   .refine .inr ⟨n,rfl,fun x e=>hn ⟨x,e⟩,?_⟩;rw[put,hl];split;.rename_i e;cases e
    .rename_i x e;cases e;exact absurd ⟨x,rfl⟩ hn
    .rfl
theorem HM:put v [k] es=if look k es=none then some (es++[(k,v)]) else none:=by rw[put];cases look k es<;>simp
theorem z6:∀ {a b:Entries},gJ (a++b)↔gJ a/\gJ b/\∀ k∈a.map (·.1),k∉b.map (·.1)
 | [],b=>by simp[gJ]
 | (k,n)::r,b=>by
   simp only[OS,gJ,z6 (a:=r) (b:=b),Qp,OH,OP,OA,PY];constructor
   .rintro⟨h1,⟨h2,e,d⟩,f,g⟩;refine⟨⟨h1,h2,f⟩,e,fun c hc=>?_⟩;rcases hc with rfl | hc;.exact g
    .exact d c hc
   .rintro⟨⟨h1,h2,f⟩,e,d⟩;exact⟨h1,⟨h2,e,fun c hc=>d c (.inr hc)⟩,f,d k (.inl rfl)⟩
end Ps
namespace Ps
open PyQl16
theorem BH(h:PyFlat.row r=some (x,s)):r=(x.length:Int)::(x++s):=by
 cases r with
 | nil=>simp[PyFlat.row]at h
 | cons n r=>
   rw[PyFlat.row]at h;by_cases hc:0<=n/\n.toNat<=r.length;.rw[Oy hc]at h;have a:=OQ h;obtain⟨rfl,rfl⟩:=Prod.mk.inj a;rw[Ui,Pg,QU hc.2];congr 1;omega
   .rw[Ox hc]at h;cases h
theorem Ky(h:PyFlat.rows 1 r=some (xs,t)):∃ x,xs=[x]/\PyFlat.row r=some (x,t):=by
 unfold PyFlat.rows at h;split at h;.simp at h
 .rename_i x s hx;simp only[PyFlat.rows,OC,OG]at h;obtain⟨rfl,rfl⟩:=h;exact⟨x,rfl,hx⟩
inductive qJ:List Int->List (List Int)->List Int->Prop where
 | plain {p:Int} {row t:List Int} (h:p=0\/p=2\/p=3\/p=4\/p=5):qJ (p::(row.length:Int)::(row++t)) [[p],row] t
 | told {m:Int} {row t:List Int}:qJ (1::m::(row.length:Int)::(row++t)) [[1,m],row] t
theorem Gv(h:PyFlat.call shape (p::r)=some (c,t)):qJ (p::r) c t:=by
 rw[PyFlat.call]at h;cases hs:shape p with
 | none=>rw[hs]at h;cases h
 | some e=>
   obtain⟨n,k⟩:=e;rw[hs]at h;simp only at h;by_cases hl:r.length<n;.rw[Oy hl]at h;cases h
   .rw[Ox hl]at h;cases a:PyFlat.rows k (r.drop n) with
    | none=>rw[a]at h;cases h
    | some f=>
      obtain⟨xs,g⟩:=f;rw[a]at h;have d:=OQ h;obtain⟨rfl,rfl⟩:=Prod.mk.inj d;unfold shape at hs;by_cases h1:p=1
      .subst h1;simp at hs;obtain⟨rfl,rfl⟩:=hs;obtain⟨x,rfl,hx⟩:=Ky a;cases r with
       | nil=>simp at hl
       | cons m r=>simp at hx;have:=BH hx;subst this;exact .told
      .have b:(p=0\/p=2\/p=3\/p=4\/p=5)/\n=0/\k=1:=by
        repeat' split at hs
        all_goals first | (simp at hs;done) | skip
        all_goals (simp only[OC,OG]at hs;obtain⟨rfl,rfl⟩:=hs;refine⟨?_,rfl,rfl⟩;omega)
       obtain⟨b,rfl,rfl⟩:=b;obtain⟨x,rfl,hx⟩:=Ky a;simp at hx;have:=BH hx;subst this;exact .plain b
theorem ux(h:PyFlat.calls shape k l=some cs):
 (l=[]/\cs=[])\/∃ c t a d,qJ l c t/\PyFlat.calls shape d t=some a/\cs=c::a:=by
 cases l with
 | nil=>refine .inl ⟨rfl,?_⟩;cases k<;>(simp[PyFlat.calls]at h;exact h)
 | cons p r=>
   cases k with
   | zero=>simp[PyFlat.calls]at h
   | succ k=>
     unfold PyFlat.calls at h;split at h;.simp at h
     .rename_i c t hc;split at h;.simp at h
      .rename_i a b;simp only[OC]at h;exact .inr ⟨c,t,a,k,Gv hc,b,h.symm⟩
def xx(a:List Int):Prop:=(∀ z∈a,0<=z/\z<=255)/\a.length<=30000
def L7:List (List Int)->Prop
 | [[_],row]=>xx row
 | [[_,m],row]=>(0<=m/\m<=4294967295)/\xx row
 | _=>False
theorem pI:PyInside.within lo hi z=true↔lo<=z/\z<=hi:=by unfold PyInside.within;simp
theorem Fx(f:qJ l c t)(h:PyInside.call bound c=true):L7 c:=by
 cases f with
 | @plain p row t d=>
   have a:bound p=([],[(0,255,0,30000)]):=by unfold bound;rcases d with rfl | rfl | rfl | rfl | rfl<;>simp
   unfold PyInside.call at h;simp only[a,PyInside.each,PyInside.lists,Qj,Bool.and_true,O4,Pc,PK]at h;exact⟨fun z b=>pI.mp (h.2 z b),h.1.2⟩
 | @told m row t=>
   have a:bound 1=([(0,4294967295)],[(0,255,0,30000)]):=by unfold bound;simp
   unfold PyInside.call at h;simp only[a,PyInside.each,PyInside.lists,Qj,Bool.and_true,O4,Pc,PK]at h;exact⟨pI.mp h.1,fun z b=>pI.mp (h.2.2 z b),h.2.1.2⟩
def eg(s:Ql16Neutral.S)(a:List (List (List Int))):List Int:=PyFlat.told (PyFlat.played Ql16Neutral.step s (a.map whole))
theorem tK(s:Ql16Neutral.S):eg s []=[]:=rfl
theorem rl(s:Ql16Neutral.S)(c:List (List Int))(a:List (List (List Int))):
 eg s (c::a)=(((Ql16Neutral.step s (whole c)).2.length:Nat):Int)::((Ql16Neutral.step s (whole c)).2++eg (Ql16Neutral.step s (whole c)).1 a):=by
 simp[eg,PyFlat.played,PyFlat.told]
structure MG(l:List Int)(cs:List (List (List Int))):Prop where
 NI:PyFlat.calls shape l.length l=some cs
 z9:cs.length<=300
 ok:∀ c∈cs,PyInside.call bound c=true
 first:∃ row cs',cs=[[0],row]::cs'
 short:(eg Ql16Neutral.start cs).length<=10000000
theorem Ir(h:answers_asked l=true):∃ i,MG l i/\answers l=eg Ql16Neutral.start i:=by
 unfold answers_asked at h;split at h;.simp at h
 .rename_i a g;simp only[O4]at h;obtain⟨⟨⟨h1,h2⟩,e⟩,j⟩:=h;have ha:answers l=eg Ql16Neutral.start a:=by
   unfold answers calls;rw[g];rfl
  refine⟨a,⟨g,by simpa[PyFlat.atMost]using h1,fun c hc=>PK.mp h2 c hc,?_,?_⟩,ha⟩
  .unfold Ql16Neutral.asked at e;rw[O4]at e;obtain⟨n,b⟩:=e;rcases ux g with⟨_,rfl⟩ | ⟨c,t,d,o,f,_,rfl⟩;.simp at b
   .simp only[OP,Vt,RR,Option.getD_some]at b;cases f with
    | @plain p row t k=>
      rcases k with rfl | rfl | rfl | rfl | rfl;.exact⟨row,d,rfl⟩
      all_goals (simp[whole,Ql16Neutral.begins]at b)
    | @told m row t=>simp[whole,Ql16Neutral.begins]at b
  .rw[ha]at j;simpa[PyFlat.short]using j
end Ps
namespace Ps
open Ql16
def valN(k:Bytes):Nat:=number 10 (k.map fun c=>c.toNat - 48)
def iX(k:Bytes):Bool:=!k.isEmpty&&k.all digit&&(k.length==1 || k.head? != some 48)
theorem HJ(k:Bytes):index k=if iX k=true then some (valN k) else none:=by
 unfold index iX valN proper;cases k with
 | nil=>simp
 | cons c r=>simp only[List.isEmpty_cons,Bool.not_false,Qj,Vt,ne_eq,reduceCtorEq,U4,PZ];congr 1;apply UX;rw[O4,Bool.or_comm]
theorem qj(h:digit c=true):c.toNat - 48<10/\48<=c.toNat/\c.toNat<=57:=by unfold digit between at h;simp at h;omega
theorem Ji(h:iX k=true)(hl:1<k.length):10 ^ (k.length - 1)<=valN k:=by
 cases k with
 | nil=>simp at hl
 | cons c r=>
   unfold iX at h;simp only[O4]at h;obtain⟨⟨_,h2⟩,a⟩:=h;have hd:=qj (PK.mp h2 c (O2 ..));have hc:c≠48:=by intro z;subst z;simp at a;rw[a]at hl;simp at hl
   have b:c.toNat≠48:=fun z=>hc (P6.mp (by rw[z];rfl));unfold valN;rw[OP,jX,O0];have:1 * 10 ^ r.length<=(c.toNat - 48) * 10 ^ r.length:=Pz _ (by omega);simp only[OB,Nat.add_sub_cancel];omega
theorem FR(n:Nat):n<10 ^ (Nat.toDigits 10 n).length:=by
 have a:0<(Nat.toDigits 10 n).length:=by have:Nat.toDigits 10 n≠[]:=UD;exact QL.mpr this
 exact(Tf (by decide) a).mp (OE _)
theorem HX(h:iX k=true)(hl:(Nat.toDigits 10 n).length<k.length):n<=valN k:=by have c:0<(Nat.toDigits 10 n).length:=QL.mpr UD;have a:=Ji h (by omega);have b:=FR n;have:10 ^ (Nat.toDigits 10 n).length<=10 ^ (k.length - 1):=PB (by decide) (by omega);omega
def Aa{a:Type}(l:List a)(k:Bytes):Option a:=(index k).bind fun i=>l[i]?
theorem Lu{a:Type}(l:List a)(k:Bytes):Aa l k=if iX k=true/\k.length<=(Nat.toDigits 10 l.length).length then l[valN k]? else none:=by
 unfold Aa;rw[HJ];by_cases h:iX k=true
 .rw[Oy h];by_cases h2:k.length<=(Nat.toDigits 10 l.length).length;.rw[Oy ⟨h,h2⟩];rfl
  .rw[Ox (fun z=>h2 z.2)];exact P7 (HX h (by omega))
 .rw[Ox h,Ox (fun z=>h z.1)];rfl
def uJ(y:Nat):Bool:=decide (y % 4=0)&&(!decide (y % 100=0) || decide (y % 400=0))
theorem EJ(y:Nat):leap y=uJ y:=by unfold leap uJ;rw[Qb];simp;omega
def wB:List Nat:=[31,28,31,30,31,30,31,31,30,31,30,31]
theorem Bd(h1:1<=m)(h2:m<=12):monthDays y m=if m=2/\leap y=true then 29 else wB.getD (m - 1) 0:=by
 unfold monthDays;have:m=1\/m=2\/m=3\/m=4\/m=5\/m=6\/m=7\/m=8\/m=9\/m=10\/m=11\/m=12:=by omega
 rcases this with rfl | rfl | rfl | rfl | rfl | rfl | rfl | rfl | rfl | rfl | rfl | rfl<;>simp[wB]
theorem Iv:daysBefore 1970=719528:=by decide
def gq(b:Bytes):Bool:=decide (b.length=10)&&b[4]?==some 45&&b[7]?==some 45&&((b.take 4++(b.drop 5).take 2++(b.drop 8).take 2).all digit)
def qD(b:Bytes):Nat:=number 10 (b.map fun c=>c.toNat - 48)
def wR(b:Bytes):Option Int:=
 if gq b=true then
  let y:=qD (b.take 4);let m:=qD ((b.drop 5).take 2);let d:=qD ((b.drop 8).take 2)
  if 1<=m/\m<=12/\1<=d/\d<=monthDays y m then some (daysBefore y+(((List.range (m - 1)).map fun j=>monthDays y (j+1)).sum:Nat)+(d - 1:Nat) - 719528) else none
 else none
theorem HW(b:Bytes):dayOf b=(wR b).map .day:=by
 by_cases hl:b.length=10
 .match b,hl with
  | [a,c,d,e,x,f,g,y,h,i],_=>
    by_cases hx:x=45
    .by_cases k:y=45
     .subst hx k;unfold dayOf wR gq;simp only;have l:([a,c,d,e,45,f,g,45,h,i].take 4++([a,c,d,e,45,f,g,45,h,i].drop 5).take 2++([a,c,d,e,45,f,g,45,h,i].drop 8).take 2)=[a,c,d,e,f,g,h,i]:=rfl;rw[l];have m:(decide (([a,c,d,e,45,f,g,45,h,i]:Bytes).length=10)&&([a,c,d,e,45,f,g,45,h,i]:Bytes)[4]?==some 45&&([a,c,d,e,45,f,g,45,h,i]:Bytes)[7]?==some 45&&([a,c,d,e,f,g,h,i]:Bytes).all digit)=([a,c,d,e,f,g,h,i]:Bytes).all digit:=by
       simp
      rw[m];split
      .have p:qD (([a,c,d,e,45,f,g,45,h,i]:Bytes).take 4)=1000 * (a.toNat - 48)+100 * (c.toNat - 48)+10 * (d.toNat - 48)+(e.toNat - 48):=by
        simp[qD,number];omega
       have n:qD ((([a,c,d,e,45,f,g,45,h,i]:Bytes).drop 5).take 2)=10 * (f.toNat - 48)+(g.toNat - 48):=by simp[qD,number]
       have o:qD ((([a,c,d,e,45,f,g,45,h,i]:Bytes).drop 8).take 2)=10 * (h.toNat - 48)+(i.toNat - 48):=by simp[qD,number]
       rw[p,n,o,Iv];split;.rfl
       .rfl
      .rfl
     .have:gq [a,c,d,e,x,f,g,y,h,i]=false:=by simp[gq,k]
      unfold wR;rw[Ox (by rw[this];simp)];unfold dayOf;split;.rename_i j;simp at j;exact absurd j.2.2.2.2.2.2.2.1 k
      .rfl
    .have:gq [a,c,d,e,x,f,g,y,h,i]=false:=by simp[gq,hx]
     unfold wR;rw[Ox (by rw[this];simp)];unfold dayOf;split;.rename_i j;simp at j;exact absurd j.2.2.2.2.1 hx
     .rfl
 .have:gq b=false:=by simp[gq,hl]
  unfold wR;rw[Ox (by rw[this];simp)];unfold dayOf;split;.simp at hl
  .rfl
end Ps
namespace Ps
open PySem PySem.Builtin PySem.Builtin.Str
def S(l:List Nat):Str:=⟨l.toArray⟩
theorem dn(l:List Nat):(S l).cps.toList=l:=by simp[S]
theorem eN(l:List Nat):(S l).length=l.length:=by simp[S,Str.length]
theorem NP(x:Str):x=S x.cps.toList:=by obtain⟨c⟩:=x;simp[S]
theorem nh:S a=S b↔a=b:=by
 constructor;.intro h;have:=Pw (fun x:Str=>x.cps.toList) h;simpa[S]using this
 .rintro rfl;rfl
theorem BE(a b:List Nat):S a++S b=S (a++b):=by show Str.mk (a.toArray++b.toArray)=_;simp[S]
theorem MI(c:Nat):(⟨#[c]⟩:Str)=S [c]:=rfl
def glue(c:Nat):List (List Nat)->List Nat
 | []=>[]
 | [p]=>p
 | p::q::r=>p++c::glue c (q::r)
theorem ox(c:Nat):∀ (ps:List (List Nat)),Str.join ⟨#[c]⟩ (ps.map S)=S (glue c ps)
 | []=>rfl
 | [p]=>rfl
 | p::q::r=>by
   have a:=ox c (q::r);simp only[OP]at a |-;rw[Str.join,a,MI,BE,BE];.simp[glue]
   .intro h;cases h
theorem BU:∀ {p a:List Nat},c∉p->mM c a p=[a++p]
 | [],a,_=>by simp[mM]
 | x::p,a,h=>by have hx:¬ x=c:=fun z=>h (by rw[z];exact O2 ..);rw[mM,Ox hx,BU (fun z=>h (OM _ z))];simp
theorem yy:∀ {p a:List Nat},c∉p->mM c a (p++c::rest)=(a++p)::mM c [] rest
 | [],a,_=>by rw[Pp,mM,Oy rfl];simp
 | x::p,a,h=>by have hx:¬ x=c:=fun z=>h (by rw[z];exact O2 ..);rw[OS,mM,Ox hx,yy (fun z=>h (OM _ z))];simp
theorem Bo:∀ {ps:List (List Nat)},ps≠[]->(∀ p∈ps,c∉p)->mM c [] (glue c ps)=ps
 | [],h,_=>absurd rfl h
 | [p],_,h=>by rw[glue,BU (h p (by simp))];rfl
 | p::q::r,_,h=>by rw[glue,yy (h p (by simp)),Bo (by simp) fun x hx=>h x (OM _ hx)];rfl
theorem zR(l:List Nat)(c:Nat):Txt.split (S l) ⟨#[c]⟩=(mM c [] l).map S:=by
 have e:∃ ps:List (List Nat),Txt.split (S l) ⟨#[c]⟩=ps.map S:=⟨(Txt.split (S l) ⟨#[c]⟩).map (·.cps.toList),by rw[P4];exact(List.map_id'' (fun x=>(NP x).symm) _).symm⟩
 obtain⟨ps,e⟩:=e;have h1:=StrLaws.join_split (S l) ⟨#[c]⟩;have h2:=StrLaws.split_free (S l) c;have a:=PyProof.Rows.split_pos (S l) ⟨#[c]⟩;rw[e]at h1 h2 a |-;rw[ox,nh]at h1;rw[<-h1,Bo];.rintro rfl;simp at a
 .intro p b hc;exact h2 (S p) (Qk.mpr ⟨p,b,rfl⟩) (by rw[dn];exact hc)
theorem qO(c d:Nat):∀ (ps:List (List Nat)),(∀ p∈ps,c∉p)->glue d ps=(glue c ps).map fun x=>if x=c then d else x
 | [],_=>rfl
 | [p],h=>by
   rw[glue,glue]
   conv=>lhs;rw[<-US p]
   exact Qx fun x hx=>by have:¬ x=c:=fun z=>h p (by simp) (z▸hx);simp[this]
 | p::q::r,h=>by
   rw[glue,glue,Qp,OP,qO c d (q::r) fun x hx=>h x (OM _ hx)];have e:p.map (fun x=>if x=c then d else x)=p:=by
    conv=>rhs;rw[<-US p]
    exact Qx fun x hx=>by have:¬ x=c:=fun z=>h p (by simp) (z▸hx);simp[this]
   rw[e];simp
theorem Fq(l:List Nat)(c d:Nat):Txt.replace (S l) ⟨#[c]⟩ ⟨#[d]⟩=S (l.map fun x=>if x=c then d else x):=by have h1:=StrLaws.join_split (S l) ⟨#[c]⟩;have h2:=StrLaws.split_free (S l) c;rw[StrLaws.replace_one,zR,ox,nh];rw[zR]at h1 h2;rw[ox,nh]at h1;rw[qO c d _ fun p a hc=>h2 (S p) (Qk.mpr ⟨p,a,rfl⟩) (by rw[dn];exact hc),h1]
theorem Et(h:∀ c∈l,c<128):Txt.lower (S l)=S (l.map o8):=by rw[PyProof.Rows.lower_ascii (by rw[dn];exact h)];simp[S];intro a _;rfl
theorem yH(p:Nat->Bool):∀ l:List Nat,l.drop (l.takeWhile p).length=l.dropWhile p
 | []=>rfl
 | x::l=>by
   by_cases h:p x=true;.rw[Qt h,Pu h];exact yH p l
   .rw[RO h,PF h];rfl
theorem Ii(l:List Nat)(c:Nat):Txt.lstripChars (S l) ⟨#[c]⟩=S (l.dropWhile (·==c)):=by
 unfold Txt.lstripChars;rw[PyProof.Rows.stripBy_eq,R9];have a:stripLo (#[c]:Array Nat).contains true (S l)=(l.takeWhile (·==c)).length:=by simp only[stripLo,Qz,dn];congr 2;funext x;rw[Qb];simp
 have b:stripHi (#[c]:Array Nat).contains false (S l) (stripLo (#[c]:Array Nat).contains true (S l))=l.length:=by simp[stripHi,eN]
 rw[b,a,dn];show S _=S _;rw[nh,yH];refine PU ?_;rw[<-yH,O6];exact OE _
theorem CW:StrLaws.At (S l) ⟨#[c]⟩ (S l).length i↔l[i]?=some c:=by
 unfold StrLaws.At;rw[StrLaws.subAt_eq,dn,eN];show i+1<=l.length/\((l.drop i).take 1==[c])=true↔_;constructor
 .rintro⟨h1,h2⟩;have h2:=QH h2;have:(l.drop i)[0]?=some c:=by
   have:=Pw (fun x:List Nat=>x[0]?) h2;simpa[List.getElem?_take]using this
  simpa using this
 .intro h;obtain⟨hl,e⟩:=OV.mp h;refine⟨hl,?_⟩;rw[PJ hl,e];simp
theorem Ly(l:List Nat)(c:Nat):(Txt.find (S l) ⟨#[c]⟩=-1/\c∉l)\/∃ i:Nat,Txt.find (S l) ⟨#[c]⟩=(i:Int)/\l[i]?=some c/\∀ k,k<i->l[k]?≠some c:=by
 rcases PyProof.Rows.find_whole (S l) ⟨#[c]⟩ with⟨h,n⟩ | ⟨i,h,a,n⟩;.refine .inl ⟨h,fun m=>?_⟩;obtain⟨i,b,e⟩:=List.getElem_of_mem m;exact n i (CW.mpr (by rw[O7 b,e]))
 .exact .inr ⟨i,h,CW.mp a,fun k d z=>n k d (CW.mpr z)⟩
theorem sJ(h:l=u++c::v)(j:c∉u):Txt.partition (S l) ⟨#[c]⟩=(S u,S [c],S v):=by
 unfold Txt.partition;rcases StrLaws.occ_head (S l) ⟨#[c]⟩ 1 (OE 1) with⟨b,hn⟩ | ⟨i,r,b,g,hn⟩;.exact absurd (CW.mpr (show l[u.length]?=some c by rw[h];simp)) (hn _)
 .rw[b];have a:=CW.mp g;have e:i=u.length:=by
   rcases Nat.lt_trichotomy i u.length with z | z | z;.rw[h,Tt z]at a;exact absurd (Qc a) j
   .exact z
   .exact absurd (CW.mpr (show l[u.length]?=some c by rw[h];simp)) (hn _ z)
  subst e;show(strSub (S l) 0 u.length,(⟨#[c]⟩:Str),strSub (S l) (u.length+1) (S l).length)=_;rw[R9,R9,dn,eN,h];show(S _,S _,S _)=_;have d:((u++c::v).drop 0).take (u.length - 0)=u:=by simp
  have f:((u++c::v).drop (u.length+1)).take ((u++c::v).length - (u.length+1))=v:=by
   have:(u++c::v).drop (u.length+1)=v:=by rw[List.drop_append];simp
   rw[this];exact PU (by simp;omega)
  rw[d,f]
theorem rg(h:c∉l):Txt.partition (S l) ⟨#[c]⟩=(S l,S [],S []):=by
 unfold Txt.partition;rcases StrLaws.occ_head (S l) ⟨#[c]⟩ 1 (OE 1) with⟨a,hn⟩ | ⟨i,r,a,b,hn⟩;.rw[a];rfl
 .exact absurd (Qc (CW.mp b)) h
theorem Ip(l:List Nat)(c:Nat):Txt.startswith (S l) ⟨#[c]⟩=(l.head?==some c):=by
 unfold Txt.startswith
 rw[StrLaws.subAt_eq,dn,eN];show(decide (0+1<=l.length)&&((l.drop 0).take 1==[c]))=_;cases l with
 | nil=>simp
 | cons x r=>rw[Qb];simp
theorem L8:∀ c,c<128->Unicode.isDigit c=decide (48<=c/\c<=57):=by decide +kernel
theorem EW(h:∀ c∈l,c<128):Txt.isdigit (S l)=(!l.isEmpty&&l.all fun c=>decide (48<=c/\c<=57)):=by
 unfold Txt.isdigit;rw[eN];have e:(S l).cps.all Unicode.isDigit=l.all fun c=>decide (48<=c/\c<=57):=by show l.toArray.all _=_;rw[List.all_toArray,Qb,PK,PK];refine forall_congr' fun c=>forall_congr' fun hc=>?_;rw[L8 c (h c hc)]
 rw[e];cases l<;>simp
open NumText in
theorem Nh{l:List Nat}(h:∀ c∈l,48<=c/\c<=57)(h1:l≠[])(h2:l.length<=4300):intText? (S l)=some ((Ql16.number 10 (l.map (· - 48)):Nat):Int):=by rw[intText_digits (by rw[dn];exact h) (by rw[dn];exact h1) (by rw[eN];exact h2),dn];congr 2;unfold digitsVal Ql16.number;rw[List.foldl_map];congr 1;funext a b;omega
end Ps
namespace Ps
open Ql16
theorem zx:∀ {a:List Bytes} {w x:Entries},sub a w=some x->sub (a++[k]) w=sub [k] x
 | [],w,x,h=>by cases h;rfl
 | j::r,w,x,h=>by
   unfold sub at h;rw[OS]
   conv=>lhs;unfold sub
   split at h
   .rename_i c y hl;split at h;.cases h
    .rename_i b;simp only[Ox b];exact zx h
   .rename_i l hl;split at h;.rename_i y hx;exact zx h
    .cases h
   .cases h
theorem Hg{f:Fr}(h:f.ok)(a:Entries):sub [f.key] (f.fill a)=some a:=by
 cases f with
 | tab pre k c post=>obtain⟨h1,h2,b⟩:=h;simp only[Fr.key,Fr.fill,sub,rh h1];rw[Ox b]
 | row pre k l0 post=>obtain⟨h1,h2⟩:=h;simp only[Fr.key,Fr.fill,sub,rh h1];rw[Sz]
theorem sub_zip:∀ {b:List Fr} (a:Entries),BZ b->sub (way b) (dY b a)=some a
 | [],a,_=>rfl
 | f::r,a,h=>by rw[way,dY,zx (sub_zip _ h.2)];exact Hg h.1 a
end Ps
namespace L2
open PySem PySem.Spec PyProof.Rows
def qY(h:Heap)(e C:Addr)(b:Value)(d:Option Addr):Prop:=∃ a vs,h.get? e=some a/\a.cls=.ref C/\a.data=.fields vs/\vs.size=6/\vs[1]?=some b/\vs[2]?=some (d.elim .none .ref)
def wK(h:Heap)(T:Addr)(c:Value):Prop:=∃ a b,h.get? T=some a/\a.data=.fields b/\b[3]?=some c
structure Kept(fs ch:List Addr)(h h':Heap):Prop where
 keep:∀ b o,h.get? b=some o->b∉fs->b∉ch->h'.get? b=some o
 slot:∀ b o,h.get? b=some o->b∈fs->b∉ch->∃ sl,h'.get? b=some { o with slots:=sl }
section
variable {y t r:List Addr}{h s p:Heap}{H:Hp}{P:Program}{w:World}
theorem Kept.any(k:Kept y t h s){b:Addr}{o:Obj}(e:h.get? b=some o)(n:b∉t):∃ c,s.get? b=some { o with slots:=c }:=by
 by_cases a:b∈y;.exact k.slot b o e a n
 .exact⟨o.slots,k.keep b o e a n⟩
theorem Kept.trans(a:Kept y t h s)(b:Kept y t s p):Kept y t h p:=⟨fun c o e d f=>b.keep c o (a.keep c o e d f) d f,fun c o e d f=>by obtain⟨k,i⟩:=a.slot c o e d f;obtain⟨g,j⟩:=b.slot c _ i d f;exact⟨g,j⟩⟩
theorem Kept.mono(k:Kept y t h s)(hs:∀ b∈t,b∈r):Kept y r h s:=⟨fun b o e a c=>k.keep b o e a fun z=>c (hs b z),fun b o e a c=>k.slot b o e a fun z=>c (hs b z)⟩
theorem Kept.un(k:Kept y t h s):Un y t H H h s:=⟨fun b o e _ a c=>k.keep b o e a c,fun b o e _ a c=>k.slot b o e a c,fun _ _ _ n _=>n,fun b o e n=>by obtain⟨d,q⟩:=k.any e n;exact⟨_,q⟩,fun _ _ q=>q,fun _ _ _ q=>q,fun _ ps q=>⟨#[],by rw[q];simp⟩⟩
theorem Kept.de(k:Kept y t h s)(x:k8 P w H h)(hf:∀ b∈y,H b=none)(hc:∀ b∈t,H b=none):k8 P w H s:=fun b u e=>by
 have d:∀ c o,H c=some o->c∉y/\c∉t:=fun c o q=>⟨fun z=>(by rw[hf c z]at q;cases q),fun z=>(by rw[hc c z]at q;cases q)⟩
 refine(x b u e).br (fun c v a q=>?_) (fun _ q=>q) fun _ _ q=>q;rcases a with rfl | a;.exact k.keep c v q (d c u e).1 (d c u e).2
 .exact k.keep c v q (d c _ a).1 (d c _ a).2
end
section
variable {X:Cx}{y:List (Addr×Obj)}{h:List (Option V)}{H j:Hp}{s:Shared}{t:Heap}
theorem Inv.M3{Y:Array GenState}{t':Nat}{d':Drawn}{ch:List Addr}(I:Inv X y h H s)
 (g:∀ b∈ch,(b∈X.ex\/X.tX.heap.get? b=none)/\b≠X.env.locals/\(∀ x c,X.env.cells.lookup x=some c->c≠b)/\∀ p∈X.pn++y,p.1≠b)
 (A:∀ b o,b≠X.env.locals->b∉X.fs->b∉ch->s.heap.get? b=some o->H b=none->t.get? b=some o)
 (E:∀ b o,b≠X.env.locals->b∈X.fs->b∉ch->s.heap.get? b=some o->H b=none->∃ U,t.get? b=some { o with slots:=U }) (a:∀ b o,b∉ch->s.heap.get? b=some o->H b=none->j b=none)
 (G:∀ b o,b∉ch->s.heap.get? b=some o->∃ P,t.get? b=some P)
 (R:∀ b xs,H b=some (.tup xs)->j b=some (.tup xs)) (M:∀ b o u,H b=some (.jP o u)->j b=some (.jP o u)) (Q:∀ b ps,H b=some (.Je ps)->∃ N,j b=some (.Je (ps++N)))
 (ns:∀ m,s.heap.Ns X.env.locals m->t.Ns X.env.locals m) (T:k8 X.prog X.w j t) (hg:AllBare Y):
 Inv X y h j { s with heap:=t,gens:=Y,drawn:=d',toks:=t' }:=by
 have O:∀ b o,X.tX.heap.get? b=some o->b≠X.env.locals:=fun b o e=>Pr (Pb (OY e) I.ok.above);have D:∀ b o,X.tX.heap.get? b=some o->b∉X.ex->b∉ch:=fun b o e hx F=>by
  rcases(g b F).1 with z | z;.exact hx z
  .rw[z]at e;cases e
 have f:∀ x c,X.env.cells.lookup x=some c->∀ v,s.heap.IsCell c v->t.IsCell c v:=fun x c e v ⟨o,J,hd⟩=>by
  have B:c∉ch:=fun z=>(g c z).2.2.1 x c e rfl;by_cases hc:c∈X.fs;.obtain⟨U,q⟩:=E c o (I.Mm x c e) hc B J (I.gG x c e);exact⟨_,q,hd⟩
  .exact⟨o,A c o (I.Mm x c e) hc B J (I.gG x c e),hd⟩
 refine⟨I.ok,I.os,hg,⟨fun b o e n F hx=>?_,fun b o e n F hx=>?_,fun b o e n hx=>?_,fun b o e hx=>?_,fun b xs e=>R b xs (I.base.rA b xs e),fun b o xs e=>M b o xs (I.base.px b o xs e),fun b ps e=>?_⟩,?_,fun x c e=>?_,?_,fun x c e=>?_,fun p Z=>?_,T,I.len⟩;.exact A b o (O b o e) F (D b o e hx) (I.base.keep b o e n F hx) (I.base.free b o e n hx)
 .obtain⟨U,C⟩:=I.base.slot b o e n F hx;obtain⟨W,L⟩:=E b _ (O b o e) F (D b o e hx) C (I.base.free b o e n hx);exact⟨W,L⟩
 .obtain⟨P,C⟩:=I.base.there b o e hx;exact a b P (D b o e hx) C (I.base.free b o e n hx)
 .obtain⟨P,C⟩:=I.base.there b o e hx;exact G b P (D b o e hx) C
 .obtain⟨m1,C⟩:=I.base.rB b ps e;obtain⟨m2,L⟩:=Q b _ C;exact⟨m1++m2,by rw[L,S8]⟩
 .obtain⟨m,hn,hl⟩:=I.loc;refine⟨m,ns m hn,fun i x v C L e3=>?_⟩;obtain⟨u,r,l⟩:=hl i x v C L e3;refine⟨u,r,?_⟩;rcases l with l | ⟨k,c,e,z⟩;.exact .inl l
  .exact .inr ⟨k,c,e,f x c e _ z⟩
 .obtain⟨v,z⟩:=I.cell x c e;exact⟨v,f x c e v z⟩
 .obtain⟨m,⟨o,_,_,J,_⟩,_⟩:=I.loc;exact a _ o (fun z=>(g _ z).2.1 rfl) J I.free
 .obtain⟨v,o,J,hd⟩:=I.cell x c e;exact a c o (fun z=>(g c z).2.2.1 x c e rfl) J (I.gG x c e)
 .obtain⟨e,n,ne,nf,d⟩:=I.pin p Z;have B:p.1∉ch:=fun z=>(g p.1 z).2.2.2 p Z rfl;exact⟨A p.1 p.2 ne nf B e n,a p.1 p.2 B e n,ne,nf,d⟩
theorem Inv.Nd{g':Array GenState}{t':Nat}{d':Drawn}{ch:List Addr}(I:Inv X y h H s)(u:Un (vc X.stack) ch H j s.heap t)(k:k8 X.prog X.w j t)(v:AllBare g')
 (a:∀ b∈ch,(b∈X.ex\/X.tX.heap.get? b=none)/\b≠X.env.locals/\(∀ x c,X.env.cells.lookup x=some c->c≠b)/\∀ p∈X.pn++y,p.1≠b):
 Inv X y h j { s with heap:=t,gens:=g',drawn:=d',toks:=t' }:=by
 obtain⟨m,⟨o,D,C,l,r⟩,_⟩:=id I.loc;obtain⟨G,i⟩:=u.any l I.free fun z=>(a _ z).2.1 rfl;exact I.M3 (ch:=ch) a (fun b o i q hc e n=>u.keep b o e n (fun z=>(OA.mp (I.yC b z)).elim i q) hc) (fun b o _ _ hc e n=>u.any e n hc) (fun b o hc e n=>u.free b o e n hc) (fun b o hc e=>u.there b o e hc) u.rA u.px u.rB (fun E A=>by obtain⟨F,g,f,d,B⟩:=A;rw[l]at d;cases d;exact⟨_,g,f,i,B⟩) k v
end
def Lo(X:Cx)(a:List (Addr×Obj))(H:Hp)(b:Addr):Prop:=H b=none/\b≠X.env.locals/\b∉X.fs/\(b∈X.ex\/X.tX.heap.get? b=none)/\(∀ x c,X.env.cells.lookup x=some c->c≠b)/\∀ p∈X.pn++a,p.1≠b
section
variable {X:Cx}{t:List (Addr×Obj)}{r:St}{H:Hp}{s:Shared}{l:Heap}{ch:List Addr}
theorem Inv.lo{f:Hp}{b:Addr}(I:Inv X t r H s)(g:s.heap.get? b=none)(hn:f b=none):Lo X t f b:=by
 have d:∀ o,s.heap.get? b=some o->False:=fun o q=>by rw[g]at q;cases q
 refine⟨hn,fun z=>?_,fun z=>?_,?_,fun x c q z=>?_,fun p h z=>?_⟩;.obtain⟨m,⟨o,_,_,a,_⟩,_⟩:=I.loc;exact d o (by rw[z];exact a)
 .obtain⟨_,o,a,_⟩:=I.ok.oH.mem z;obtain⟨e,q⟩:=I.base.there b o a fun y=>I.ok.B2 b y z;exact d e q
 .by_cases hx:b∈X.ex;.exact .inl hx
  .refine .inr ?_;cases q:X.tX.heap.get? b with
   | none=>rfl
   | some o=>obtain⟨e,i⟩:=I.base.there b o q hx;exact(d e i).elim
 .obtain⟨v,o,a,_⟩:=I.cell x c q;exact d o (by rw[<-z];exact a)
 .exact d p.2 (by rw[<-z];exact(I.pin p h).1)
theorem cG.there{P:Program}{w:World}{H:Hp}{h:Heap}{a:Addr}{o:HO}(x:cG P w H h a o):∃ b,h.get? a=some b:=by
 cases o with
 | lst xs=>obtain⟨_,_,_,_,e⟩:=x;exact⟨_,e⟩
 | tup xs=>obtain⟨_,_,_,_,e,_⟩:=x;exact⟨_,e⟩
 | dK kvs=>obtain⟨_,_,_,_,o,_,_,e,_⟩:=x;exact⟨_,e⟩
 | dT kvs=>obtain⟨_,_,_,_,o,_,_,e,_⟩:=x;exact⟨_,e⟩
 | set S n=>obtain⟨o,_,_,_,e,_⟩:=x;exact⟨_,e⟩
 | ins C dx fs=>obtain⟨_,_,_,e,_⟩:=x;exact⟨_,e⟩
 | own y=>exact x
 | xd fs=>obtain⟨_,⟨_,_,_,e,_⟩,_⟩:=x;exact⟨_,e⟩
 | Nz lo hi=>obtain⟨_,_,_,e⟩:=x;exact⟨_,e⟩
 | jP b u=>obtain⟨e,_⟩:=x;exact⟨_,e⟩
 | Je ps=>exact⟨_,(show h.get? a=some _ from x)⟩
 | met f y=>exact⟨_,(show h.get? a=some _ from x)⟩
 | ext φ=>exact x.2.1
theorem Inv.Iy{b:Addr}(I:Inv X t r H s)(a:s.heap.get? b=none):H b=none:=by
 cases q:H b with
 | none=>rfl
 | some o=>obtain⟨c,e⟩:=(I.de b o q).there;rw[a]at e;cases e
theorem Inv.xH{t':Nat}(I:Inv X t r H s)(k:Kept (vc X.stack) ch s.heap l)(a:∀ b∈ch,Lo X t H b):Inv X t r H { s with heap:=l,toks:=t' }:=I.Nd (g':=s.gens) (d':=s.drawn) (t':=t') (ch:=ch) k.un (k.de I.de I.yQ fun b c=>(a b c).1) I.bare fun b c=>⟨(a b c).2.2.2.1,(a b c).2.1,(a b c).2.2.2.2.1,(a b c).2.2.2.2.2⟩
end
abbrev u6:List Value:=[.type "Exception",.type "BaseException",.type "object"]
def oI(K:PySem.W.Frag)(C:Addr):Bool:=match K.lookup C with
 | some ⟨.type "type",_,.cls cd,b⟩=>(match cd.mro,b.toList with
   | .ref a::bm,[_,_,_,_,some (.builtin n),_]=>a==C&&n=="Exception.__new__"&&!cd.hasDel&&bm==u6&&PySem.W.nsOkIn K cd.ns&&PySem.W.nsIn K cd.ns "__init__"==some none
   | _,_=>false)
 | _=>false
theorem rp{K:PySem.W.Frag}{h:Heap}{C:Addr}(X:K.In h)(q:oI K C=true):∃ s t N o d u sub m b p f g i j k w,
 h.get? C=some (excClassObj s t C N o u6 d u sub m b p f g i j k "Exception.__new__")/\h.Ns N w/\w "__init__"=none:=by
 unfold oI at q;split at q
 .rename_i p y x A;split at q
  .rename_i E F f g i j n k v hs;simp only[O4,RJ,Ts]at q;obtain⟨⟨⟨⟨⟨rfl,rfl⟩,a⟩,rfl⟩,c⟩,e⟩:=q;obtain⟨s,o,B,D,t,hd,u,sub,m,b,z⟩:=y;dsimp only at v a c e;subst v a;have r:x=#[f,g,i,j,some (.builtin "Exception.__new__"),k]:=by
    obtain⟨l⟩:=x;simp only at hs;rw[hs]
   subst r;exact⟨s,t,D,o,hd,u,sub,m,b,p,f,g,i,j,k,_,X _ _ A,.of_isNs (PySem.W.isNs_of_in X c),PySem.W.nsMap_none_of_in X c e⟩
  .cases q
 .cases q
def L4(X:Cx)(a:List (Addr×Obj))(H:Hp)(h:Heap)(e C:Addr)(d:Option Addr):Prop:=oI X.K C=true/\Lo X a H e/\(qY h e C .none d\/∃ T b,qY h e C (.ref T) d/\Lo X a H T/\T≠e/\wK h T b/\(b=.none\/b=rawInt X.env.locals))
abbrev EX:=Addr->Option Addr->St->Hp->Prop
def EY(X:Cx)(E:EX):Prop:=∀ (a:List (Addr×Obj)) (b:St) (H:Hp) (s:Shared) (e C:Addr) (d:Option Addr),Inv X a b H s->L4 X a H s.heap e C d->E C d b H->X.xe (.ref e) s
def AK(P:Program)(w:World)(K:PySem.W.Frag):Gp:=fun a H s E e s'=>∃ c T C d b,e=.ref c/\oI K C=true/\qY s'.heap c C (.ref T) d/\wK s'.heap T .none/\T≠c/\s.heap.get? c=none/\s.heap.get? T=none/\b c=none/\b T=none /\ s'.os=s.os/\AllBare s'.gens/\Un (vc a) [] H b s.heap s'.heap/\k8 P w b s'.heap/\E (.ref C) d b
section
variable {M:Model}{A:Around}{E:Value->Shared->Prop}{s:Shared}
theorem uT{base:Heap}{i:Env}{f:List Env}{L e:Addr}{y:Obj}{vs:Array Value}{g:Value}{j:Bool}{Q:Unit->Shared->Prop}
 (F:A.frames=some (i::f)) (hl:s.heap.FunFrames base (i::f)) (hf:i.frame=some L) (J:s.heap.get? e=some y) (hd:y.data=.fields vs) (H:1<vs.size)
 (h:∀ w T,s.heap.get? T=none->Kept (vc (i::f)) [e] s.heap w->w.get? e=some (Obj.mapFields (·.setIfInBounds 1 (Value.ref T)) y)->wK w T (rawInt L)->Q () { s with heap:=w }):
 wpAny M A (do let a <-frameOf i;let n <-entryPlaceOf L j;let b <-EntryCells.newEntry g a .none (rawInt L) .none n;setField (.ref e) 1 b) Q E s:=by
 have u:e∉vc (i::f):=fun P=>by obtain⟨_,o,x,G⟩:=hl.mem P;rw[J]at x;injection x with x;subst x;exact G vs hd
 refine Oz (wpAny_frameOf_fun F hl hf fun c d=>?_);refine Oz (wpAny_entryPlaceOf fun n v=>?_);unfold EntryCells.newEntry newFields;refine Oz (Rg ?_ (v.sizeOk5 _ _ _ _ _));have k:c.get? e=some y:=(d.2.1 e u).trans J;have l:=OD (h:=c) { cls:=.type "traceback",dict:=none,data:=.fields ([g,.ref L,.none,rawInt L,.none]++(if n.isEmpty then List.replicate 6 Value.none else n)).toArray } k;have C:c.objs.size≠e:=Q7 (OY k);have r:=P0 hd (·.setIfInBounds 1 (Value.ref c.objs.size));have t:=Qm (Obj.mapFields (·.setIfInBounds 1 (Value.ref c.objs.size))) l (QS r);have p:=(Py (c.push { cls:=.type "traceback",dict:=none,data:=.fields ([g,.ref L,.none,rawInt L,.none]++(if n.isEmpty then List.replicate 6 Value.none else n)).toArray }) (Obj.mapFields (·.setIfInBounds 1 (Value.ref c.objs.size))) (OL C)).trans (OU c rfl);have m:∀ b o,b≠e->c.get? b=some o ->
  ((c.push { cls:=.type "traceback",dict:=none,data:=.fields ([g,.ref L,.none,rawInt L,.none]++(if n.isEmpty then List.replicate 6 Value.none else n)).toArray }).update e (Obj.mapFields (·.setIfInBounds 1 (Value.ref c.objs.size)))).get? b=some o:=
  fun b o D O=>by rw[Py _ _ (OL D)];exact OD _ O
 refine SU l hd H (h _ c.objs.size (Heap.get?_none_of_le (by rw[d.1];exact OE _)) ⟨fun b o B N I=>?_,fun b o B N I=>?_⟩ t ⟨_,_,p,rfl,by first | (simp;done) | (rcases v with rfl | ⟨_,_,_,_,_,_,_,rfl⟩<;>simp)⟩);.exact m b o (fun z=>I (by simp[z])) ((d.2.1 b N).trans B)
 .obtain⟨R,q⟩:=d.2.2 b o B;exact⟨R,m b _ (fun z=>I (by simp[z])) q⟩
theorem qY.M4{h:Heap}{e C:Addr}{n v:Value}{d:Option Addr}{f:Obj}(x:qY h e C n d)(k:h.get? e=some f){c:Heap}(a:c.get? e=some (Obj.mapFields (·.setIfInBounds 1 v) f)):qY c e C v d:=by obtain⟨l,vs,b,i,j,g,o,m⟩:=x;rw[k]at b;cases b;refine⟨_,_,a,(Obj.cls_mapFields _ _).trans i,P0 j _,by simp[g],by simp[g],?_⟩;rw[Array.getElem?_setIfInBounds_ne (by decide)];exact m
end
section
variable {X:Cx}{y:List (Addr×Obj)}{v:St}{H:Hp}{s:Shared}{e C:Addr}{d:Option Addr}{A:Around}{E:Value->Shared->Prop}
theorem qY.kept{h b:Heap}{c:Value}{j a:List Addr}(x:qY h e C c d)(k:Kept j a h b)(n:e∉a):qY b e C c d:=by obtain⟨l,vs,i,f,g,r⟩:=x;obtain⟨m,q⟩:=k.any i n;exact⟨_,vs,q,f,g,r⟩
theorem wK.kept{h c:Heap}{T:Addr}{b:Value}{i a:List Addr}(x:wK h T b)(k:Kept i a h c)(n:T∉a):wK c T b:=by obtain⟨j,vs,g,f,r⟩:=x;obtain⟨l,q⟩:=k.any g n;exact⟨_,vs,q,f,r⟩
theorem GU{Q:Unit->Shared->Prop}(I:Inv X y v H s)(i:X.stack=X.env::X.outer)(hf:X.env.frame=some X.env.locals)(hA:A.frames=X.A.frames)(x:L4 X y H s.heap e C d)
 (h:∀ s' T,Inv X y v H s'->qY s'.heap e C (.ref T) d->Lo X y H T->T≠e->wK s'.heap T (rawInt X.env.locals)->Q () s'):wpAny (model X.prog X.w) A (noteFrame (.ref e) X.env) Q E s:=by
 obtain⟨hC,B,x⟩:=x;have D:A.frames=some (X.env::X.outer):=by rw[hA,I.ok.frames,i]
 have hl:s.heap.FunFrames X.base (X.env::X.outer):=by have:=I.stack;rw[i]at this;exact this
 have F:vc X.stack=vc (X.env::X.outer):=by rw[i]
 rcases x with x | ⟨T,fl,x,f,c,L,N⟩
 .obtain⟨oe,vs,m,c1,t,z1,P,q2⟩:=id x;unfold noteFrame;simp only[hf];refine Oz (P8 m t P ?_);rw[Ox (by decide)];refine uT D hl hf m t (by omega) fun h' T j k p L=>?_;have f:Lo X y H T:=I.lo j (I.Iy j);have c:T≠e:=fun z=>by rw[z,m]at j;cases j
  refine h _ T (I.xH (t':=s.toks) (by rw[F];exact k) fun b l=>?_) (x.M4 m p) f c L;have:b=e:=by simpa using l
  rw[this];exact B
 .obtain⟨oe,vs,m,c1,t,z1,P,q2⟩:=id x;obtain⟨oT,ts,j,U,W⟩:=id L;unfold noteFrame;simp only[hf];refine Oz (P8 m t P ?_);rw[Oy (show(Value.ref T != Value.none)=true from by simp)];refine Oz (P8 j U W ?_);rcases N with rfl | rfl
  .rw[Ox (show ¬ ((Value.none==rawInt X.env.locals)=true) from by simp[rawInt])];refine Oz (SU j U (Rf.mp W).1 ?_);have a:∀ b,b≠T->(s.heap.update T (Obj.mapFields (·.setIfInBounds 3 Value.none))).get? b=s.heap.get? b:=fun b l=>Py _ _ (OL l);have Y:Kept (vc X.stack) [T] s.heap (s.heap.update T (Obj.mapFields (·.setIfInBounds 3 Value.none))):=
    ⟨fun b o q _ n=>(a b fun z=>n (by simp[z])).trans q,fun b o q _ n=>⟨o.slots,(a b fun z=>n (by simp[z])).trans q⟩⟩
   have J:=I.xH (t':=s.toks) Y fun b l=>by
    have:b=T:=by simpa using l
    rw[this];exact f
   have O:(s.heap.update T (Obj.mapFields (·.setIfInBounds 3 Value.none))).FunFrames X.base (X.env::X.outer):=by have:=J.stack;rw[i]at this;exact this
   have r:=(a e (OL c)).trans m;refine uT (s:={ s with heap:=s.heap.update T (Obj.mapFields (·.setIfInBounds 3 Value.none)) }) D O hf r t (by omega) fun h' M g k p R=>?_;have u:Lo X y H M:=J.lo g (J.Iy g);have G:M≠e:=fun z=>by rw[z]at g;exact absurd (r.symm.trans g) (by simp)
   refine h _ M (J.xH (t':=s.toks) (by rw[F];exact k) fun b l=>?_) ((x.kept Y (by simpa using OL c)).M4 r p) u G R;have:b=e:=by simpa using l
   rw[this];exact B
  .rw[Oy (show(rawInt X.env.locals==rawInt X.env.locals)=true from by simp)];exact OK (h s T I x f c L)
theorem zt{Q:Unit->Shared->Prop}{T:Addr}{p:Value}(I:Inv X y v H s)(x:qY s.heap e C (.ref T) d)(g:Lo X y H T)(j:T≠e)(B:wK s.heap T p)
 (h:∀ s',s'.os=s.os->s'.gens=s.gens->Kept (vc X.stack) [T] s.heap s'.heap->Inv X y v H s'->qY s'.heap e C (.ref T) d->wK s'.heap T .none->Q () s'):wpAny (model X.prog X.w) A (setFlight (.ref e) none) Q E s:=by
 obtain⟨J,vs,t,F,m,N,u,L⟩:=id x;obtain⟨G,D,l,f,r⟩:=id B;have c:3<D.size:=(Rf.mp r).1;refine wpAny_setFlight_none t m u l f c ?_;have a:∀ b,b≠T->(s.heap.update T (Obj.mapFields (·.setIfInBounds 3 Value.none))).get? b=s.heap.get? b:=fun b i=>Py _ _ (OL i);have k:Kept (vc X.stack) [T] s.heap (s.heap.update T (Obj.mapFields (·.setIfInBounds 3 Value.none))):=⟨fun b o q _ n=>(a b fun z=>n (by simp[z])).trans q,fun b o q _ n=>⟨o.slots,(a b fun z=>n (by simp[z])).trans q⟩⟩
 refine h _ rfl rfl k (I.xH (t':=s.toks) k fun b i=>?_) (x.kept k (by simpa using OL j)) ⟨_,_,Qm _ l (QS (P0 f _)),P0 f _,by simp[c]⟩;have:b=T:=by simpa using i
 rw[this];exact g
end
section
variable {P:Program}{w:World}{K:PySem.W.Frag}{mg:Str->Option Value}{base:Heap}
theorem aH{N:List Str}{g:Str}{c:Scope}{f:Addr}{k:Value}{A:Around}{a:List Env}{s:Shared}{H:Hp}{E:XK}:
 EY (o9 (AK P w K) P w K mg base N g c f k A a s H E) (fun C d _ i=>E (.ref C) d i):=by
 intro h D i s' e C d I x q;show wpAny (model P w) _ (leaving _ (.ref e)) _ _ s';unfold leaving;refine Oz (GU (X:=o9 (AK P w K) P w K mg base N g c f k A a s H E) I rfl rfl rfl x fun y T r u m p t=>?_);refine zt r u m p t fun B _ _ _ j v n=>?_;have o:∀ b,Lo (o9 (AK P w K) P w K mg base N g c f k A a s H E) h i b->s.heap.get? b=none:=fun b l=>by
  rcases l.2.2.2.1 with z | z;.exact absurd (show b∈([]:List Addr) from z) (by simp)
  .exact z
 exact⟨e,T,C,d,i,rfl,x.1,v,n,p,o e x.2.1,o T m,x.2.1.1,m.1,j.os,j.bare,j.base,j.de,q⟩
theorem Jd.jO{x b:Str}{e:Stmt}{f:Addr}{j:FuncData}{N ps:List Str}{k:Nat}{sp:Sp}(F:Jd K x b e f j)(S:jk N ps (bf e))(i:∀ vs H Q E,sp vs H Q E->vs.length=ps.length)
 (d:∀ (c:Value) (A:Around) (a:List Env) (s:Shared) (H:Hp) (vs:List V) (Q:VK) (E:XK),dO k (A.deeper (envOfC b (bf e) s.heap.objs.size f c))->sp vs H Q E -> ∃ t,wH (o9 (AK P w K) P w K mg base N b (bf e) f c A a s H E) (gR e) t/\t { nx:=fun _ l=>Q .ba l,rt:=Q } (start N vs) H):jD P w K mg base (AK P w K) (k+1) f j ps sp:=by
 obtain⟨r,u,kV,m,v,p,c,q,o,rfl,lk,g⟩:=F.ex;exact He lk g S i fun A a s H vs Q E n h=>d c A a s H vs Q E n h
theorem Jd.fi{CX:Gp}{x b:Str}{e:Stmt}{f:Addr}{l:FuncData}{N ps:List Str}{k:Nat}{sp:Sp}(F:Jd K x b e f l)(S:jk N ps (bf e))(j:∀ vs H Q E,sp vs H Q E->vs.length=ps.length)
 (d:∀ (c:Value) (A:Around) (a:List Env) (s:Shared) (H:Hp) (vs:List V) (Q:VK) (E:XK),dO k (A.deeper (envOfC b (bf e) s.heap.objs.size f c))->sp vs H Q E -> ∃ t,wH (o9 CX P w K mg base N b (bf e) f c A a s H E).IZ (gR e) t/\t { nx:=fun _ m=>Q .ba m,rt:=Q } (start N vs) H):jD P w K mg base CX (k+1) f l ps sp:=by
 obtain⟨v,y,kV,n,z,r,c,u,p,rfl,lk,g⟩:=F.ex;refine He lk g S j fun A a s H vs Q E o i=>?_;obtain⟨t,h,q⟩:=d c A a s H vs Q E o i;exact⟨t,h.IZ,q⟩
theorem bg{X:Cx}:Passes (AK P w K) X E0:=fun _ _ _ _ _ _ _ h=>by obtain⟨_,_,_,_,_,_,_,_,_,_,_,_,_,_,_,_,_,_,q⟩:=h;exact q.elim
end
section
variable {X:Cx}{k:Nat}{f C:Addr}{fd:FuncData}{j:List Str}{n:Sp}{E:EX}{x m:Str}{p y v:Pos}{e o:Expr}{es:List Expr}{i:TE}{t:TA}
theorem EY.back(G:EY X E){a:List (Addr×Obj)}{r:St}{H:Hp}{s s':Shared}{e:Value}(I:Inv X a r H s)(h:AK X.prog X.w X.K X.stack H s (fun c d l=>∃ C,c=.ref C/\E C d r l) e s'):X.xe e s':=by obtain⟨D,T,C,d,l,rfl,F,x,Q,O,J,L,M,N,P,g,R,u,U,B,q⟩:=h;cases B;have A:Inv X a r l s':=I.KD P R u g fun b z=>absurd z (by simp);exact G a r l s' D C d A ⟨F,I.lo J M,.inr ⟨T,.none,x,I.lo L N,O,Q,.inl rfl⟩⟩ q
abbrev Bv(E:EX)(b:St):XK:=fun c d a=>∃ C,c=.ref C/\E C d b a
theorem yV{a:List (Addr×Obj)}{d:St}{H:Hp}{s:Shared}{Q:VK}{us:List Value}{vs:List V}(F:jD X.prog X.w X.K X.mg X.base (AK X.prog X.w X.K) k f fd j n)(z:dO k X.A)(q:Binds X.K fd j [])(l:EY X E)
 (I:Inv X a d H s) (r:Vals vs us) (h:n vs H Q (Bv E d)):wpAny (model X.prog X.w) X.A (call (.ref f) us) (EP X a d Q) X.xe s:=by
 have hl:us.length=j.length:=by rw[<-r.length];exact F.len _ _ _ _ h
 have b:=q s us I.lZ (by rw[Pn];exact hl);rw[Pn]at b;refine Us (RC (F.run X.A X.stack s H ⟨us,[]⟩ us vs Q _ z I.Le b r h) fun r s' c=>?_);cases r with
 | error e=>exact l.back I c
 | ok g=>
   cases g with
   | ret u=>exact I.after c
   | next=>exact False.elim c
   | brk=>exact False.elim c
   | cont=>exact False.elim c
def iU(n:Sp)(E:EX)(t:TA):TE:=fun a H Q=>t a H fun vs b=>n vs b Q (Bv E a)
def iT(C:Addr)(m:Str)(n:Sp)(E:EX)(i:TE)(t:TA):TE:=fun b H Q=>i b H fun x c=>∃ a h d,x=.ref a/\c a=some (.ins C h d)/\d.lookup m=none /\ t b c fun vs g=>n (x::vs) g Q (Bv E b)
theorem GW(F:jD X.prog X.w X.K X.mg X.base (AK X.prog X.w X.K) k f fd j n)(G:dO k X.A)(z:Gl X x)(D:X.mg x=some (.ref f))(B:PySem.W.keepIn X.K (.ref f)=true)(l:Binds X.K fd j [])(g:EY X E)
 (ha:PA X (e::es) t) (b:(x==("__debug__":Str))=false:=by decide) (u:starEach (e::es) X.env=(false,eval e X.env)::starEach es X.env:=by rfl) (c:(backTo y (starEach es X.env)).any (·.1)=false:=by rfl):
 PE X (.Call (.Name x p) (e::es) [] y) (iU n E t):=by
 intro a s J H Q I h;refine Qr (ji I z D ?_ b);refine Rw (h₀:=X.base) I.ok.mod.Lz B (cj (ha y a s J H _ I h) fun us M ⟨vs,L,d,r,q⟩=>⟨d.lZ,?_⟩) u c;exact yV F G l g d r q
theorem cp{z:Sem Bool}(T:PE X o i)(c:xn X.K C)(G:Meth X.K C m f)(F:jD X.prog X.w X.K X.mg X.base (AK X.prog X.w X.K) k f fd j n)(U:dO k X.A)(R:Binds X.K fd j [])(P:EY X E)(ha:PA X (e::es) t)
 (g:starEach (e::es) X.env=(false,eval e X.env)::starEach es X.env:=by rfl) (d:(backTo y (starEach es X.env)).any (·.1)=false:=by rfl)
 (Y:eval (.Call (.Attribute o m v) (e::es) [] y) X.env=(do
   let J <-eval o X.env
   standAt v.atName
   let (f,first) <-holding [J] (getMethod J m z)
   callWith y f first (backTo y (starEach (e::es) X.env)) (backToKw y (keywordEach [] X.env))):=by rfl):
 PE X (.Call (.Attribute o m v) (e::es) [] y) (iT C m n E i t):=by
 intro b s L H Q I h;refine RD (pl:=z) (cj (T b s L H _ I h) fun u s1 ⟨x,M,B,rx,a,dx,fs,O,N,l,q⟩=>?_) Y;subst O;obtain rfl:u=Value.ref a:=rx;refine ly B N c G l ?_;refine Rw (first:=[.ref a]) (h₀:=X.base) I.ok.mod.Lz G.kp (cj (ha y b s1 L M _ B q) fun us s2 ⟨vs,H2,D,r,Z⟩=>⟨D.lZ,?_⟩) g d;exact yV (us:=.ref a::us) (vs:=.ref a::vs) F U R P D (.cons rfl r) Z
theorem eQ{g:Sem Bool}(L:PE X o i)(c:xn X.K C)(r:Meth X.K C m f)(F:jD X.prog X.w X.K X.mg X.base (AK X.prog X.w X.K) k f fd j n)(M:dO k X.A)(J:Binds X.K fd j [])(G:EY X E)
 (N:eval (.Call (.Attribute o m v) [] [] y) X.env=(do
   let z <-eval o X.env
   standAt v.atName
   let (f,first) <-holding [z] (getMethod z m g)
   callWith y f first (backTo y (starEach [] X.env)) (backToKw y (keywordEach [] X.env))):=by rfl):
 PE X (.Call (.Attribute o m v) [] [] y) (iT C m n E i kH):=by
 intro b s P H Q I h;refine RD (pl:=g) (cj (L b s P H _ I h) fun u Y ⟨x,R,d,O,a,T,U,D,B,l,q⟩=>?_) N;subst D;obtain rfl:u=Value.ref a:=O;refine ly d B c r l ?_;exact SQ (first:=[.ref a]) d.lZ r.kp (yV (us:=[.ref a]) (vs:=[.ref a]) F M J G d (.cons rfl .nil) q)
end
theorem IT{X:Cx}{a:List (Addr×Obj)}{c:St}{H:Hp}{s:Shared}{b:Heap}{e C:Addr}(I:Inv X a c H s)(hx:Heap.MadeExcOf s.heap b e (.ref C) []):
 Inv X a c H { s with heap:=b }/\Lo X a H e/\qY b e C .none none:=by
 obtain⟨t,d,_,_⟩:=hx.there;exact⟨I.kept (t':=s.toks) hx.keeps,I.lo hx.new (I.Iy hx.new),_,_,d,rfl,rfl,rfl,rfl,rfl⟩
section
variable {X:Cx}{C:Addr}{x:Str}{w z y:Pos}{E:EX}
def jz(C:Addr)(E:EX):TS:=fun _ a H=>E C none a H
theorem bH(B:EY X E)(hc:X.calm=true)(G:Gl X x)(J:X.mg x=some (.ref C))(k:oI X.K C=true)(hd:(x==("__debug__":Str))=false:=by decide):
 PS X (.Raise (some (.Call (.Name x w) [] [] z)) none y) (jz C E):=by
 intro c s P H D I h;obtain⟨t,M,N,i,a,u,sub,g,b,j,l,m,n,o,p,r,d,A,f⟩:=rp I.lZ k;refine wpAny_Raise_call_sub (C:=C) (nm:=t) (q:=M) (N:=N) (bs:=i) (hdct:=a) (sn:=u) (sub:=sub) (ab:=g) (col:=b) (dd:=j) (k0:=l) (k1:=m) (k2:=n) (k3:=o) (k5:=p) Tu (mN:=r) (I.ok.hd hc) rfl f (ji I G J ⟨rfl,?_⟩ hd);refine evalArgs_empty ⟨rfl,O1 _,d,A,fun Q e hx=>?_⟩;obtain⟨v,L,O⟩:=IT I hx;exact B c P H _ e C none v ⟨k,L,.inl O⟩ h
end
abbrev Cx.CC(X:Cx)(e:Addr)(E:Value->Shared->Prop):Cx:={ X with A:=X.A.mark (some (.ref e)),calm:=false,xe:=E }
abbrev Cx.mw(X:Cx)(pn:List (Addr×Obj))(E:Value->Shared->Prop):Cx:={ X with pn:=pn,xe:=E }
section
variable {X:Cx}{y x:List (Addr×Obj)}{w:St}{H:Hp}{s:Shared}{e:Addr}{E:Value->Shared->Prop}
theorem Cx.Ok.CC(a:X.Ok):(X.CC e E).Ok:=⟨a.mod,a.kind,a.glob,a.blt,a.above,a.inj,a.has,a.LV,(fun z=>nomatch z),a.frames,a.vD,a.Mj,a.bs,a.FZ,a.DE,a.B2,a.oH,a.Jf⟩
theorem Inv.CC(I:Inv X y w H s):Inv (X.CC e E) y w H s:=⟨I.ok.CC,I.os,I.bare,I.base,I.loc,I.cell,I.free,I.gG,I.pin,I.de,I.len⟩
theorem Inv.xp(a:X.Ok)(I:Inv (X.CC e E) y w H s):Inv X y w H s:=⟨a,I.os,I.bare,I.base,I.loc,I.cell,I.free,I.gG,I.pin,I.de,I.len⟩
theorem SP.xp{D:Ends}{f:Flow}{s':Shared}(c:X.Ok)(h:SP (X.CC e E) y D f s'):SP X y D f s':=by
 cases f with
 | next=>obtain⟨a,b,I,q⟩:=h;exact⟨a,b,I.xp c,q⟩
 | brk=>obtain⟨a,b,I,q⟩:=h;exact⟨a,b,I.xp c,q⟩
 | cont=>obtain⟨a,b,I,q⟩:=h;exact⟨a,b,I.xp c,q⟩
 | ret u=>obtain⟨v,a,b,I,r,q⟩:=h;exact⟨v,a,b,I.xp c,r,q⟩
theorem Cx.Ok.mw{b:List (Addr×Obj)}(a:X.Ok):(X.mw b E).Ok:=⟨a.mod,a.kind,a.glob,a.blt,a.above,a.inj,a.has,a.LV,a.hd,a.frames,a.vD,a.Mj,a.bs,a.FZ,a.DE,a.B2,a.oH,a.Jf⟩
theorem Inv.mw(I:Inv X y w H s):Inv (X.mw (X.pn++y) E) [] w H s:=⟨I.ok.mw,I.os,I.bare,I.base,I.loc,I.cell,I.free,I.gG,fun p a=>I.pin p (by rw[Pn]at a;exact a),I.de,I.len⟩
theorem Inv.ko(b:X.Ok)(I:Inv (X.mw (X.pn++y) E) x w H s):Inv X y w H s:=⟨b,I.os,I.bare,I.base,I.loc,I.cell,I.free,I.gG,fun p a=>I.pin p (PQ _ a),I.de,I.len⟩
theorem SP.ko{D:Ends}{f:Flow}{s':Shared}(c:X.Ok)(h:SP (X.mw (X.pn++y) E) x D f s'):SP X y D f s':=by
 cases f with
 | next=>obtain⟨a,b,I,q⟩:=h;exact⟨a,b,I.ko c,q⟩
 | brk=>obtain⟨a,b,I,q⟩:=h;exact⟨a,b,I.ko c,q⟩
 | cont=>obtain⟨a,b,I,q⟩:=h;exact⟨a,b,I.ko c,q⟩
 | ret u=>obtain⟨v,a,b,I,r,q⟩:=h;exact⟨v,a,b,I.ko c,r,q⟩
theorem Lo.ko{b:Addr}(h:Lo (X.mw (X.pn++y) E) x H b):Lo X y H b:=⟨h.1,h.2.1,h.2.2.1,h.2.2.2.1,h.2.2.2.2.1,fun p a=>h.2.2.2.2.2 p (PQ _ a)⟩
end
def PH(X:Cx)(hs:List ExceptHandler)(t:Addr->Option Addr->TS):Prop:=∀ (a:List (Addr×Obj)) (s:Shared) (b:St) (H:Hp) (D:Ends) (e C T:Addr) (d:Option Addr),Inv X a b H s->oI X.K C=true->Lo X a H e->qY s.heap e C (.ref T) d->Lo X a H T->T≠e->wK s.heap T .none->t C d D b H -> wpAny (model X.prog X.w) X.A (handleBy (.ref e) X.env hs) (SP X a D) X.xe s
section
variable {X:Cx}{E:EX}{x y:Str}{C W:Addr}{Y Z j p k:Pos}{i:Stmt}{u:List Stmt}{r:List ExceptHandler}{m:TS}{l:Addr->Option Addr->TS}
theorem zJ(R:EY X E)(hf:X.env.frame=some X.env.locals):PH X [] (fun C d _ v H=>E C d v H):=by
 intro c s v H D e C T d I Q U x L M tb q;obtain⟨oe,vs,G,c1,B,z1,N,q2⟩:=id x;obtain⟨oT,m,F,h,P⟩:=id tb;have g:3<m.size:=(Rf.mp P).1;refine wpAny_handleBy_nil ?_;unfold PySem.passOn;refine Oz (P8 G B N ?_);rw[Ox (show ¬ ((Value.ref T==Value.none)=true) from by simp)];have a:∀ b,b≠T->(s.heap.update T (Obj.mapFields (·.setIfInBounds 3 (rawInt X.env.locals)))).get? b=s.heap.get? b:=fun b t=>Py _ _ (OL t);have J:Kept (vc X.stack) [T] s.heap (s.heap.update T (Obj.mapFields (·.setIfInBounds 3 (rawInt X.env.locals)))):=⟨fun b o q _ n=>(a b fun z=>n (by simp[z])).trans q,fun b o q _ n=>⟨o.slots,(a b fun z=>n (by simp[z])).trans q⟩⟩
 have f:wpAny (model X.prog X.w) X.A (setFlight (.ref e) X.env.frame) (fun _ s'=>wpAny (model X.prog X.w) X.A (throw (.ref e)) (SP X c D) X.xe s') X.xe s:=by
  rw[hf];unfold setFlight;refine Oz (P8 G B N ?_);rw[Oy (show(Value.ref T != Value.none)=true from by simp)];refine SU F h g (wpAny_throw ?_);have O:=I.xH (t':=s.toks) J fun b t=>(by
   have:b=T:=by simpa using t
   rw[this];exact L)
  refine R c v H _ e C d O ⟨Q,U,.inr ⟨T,rawInt X.env.locals,x.kept J (by simpa using OL M),L,M,⟨_,_,Qm _ F (QS (P0 h _)),P0 h _,by simp[g]⟩,.inr rfl⟩⟩ q
 first
  | exact Oz f
  | exact Oz (OK (Oz f))
theorem kN{M:Model}{A:Around}{E:Value->Shared->Prop}{nm q U q':Str}{C N b N':Addr}{bs D:List Value}{w c:Bool}{sn a0:List Str}{sub z:List Value}{ab B:Bool}{F o:Option Bool}{dd G:Option Addr}
 {k0 k1 k2 k3 k5 L O P R T:Option Value} {n a:String} {h:Heap} {g:Array GenState} {d:Drawn} {t:Nat} {os:OsState} {e:Addr} {oe:Obj} {Q:Bool->Shared->Prop}
 (hC:h.get? C=some (excClassObj nm q C N bs u6 w sn sub ab F dd k0 k1 k2 k3 k5 n)) (s:h.get? b=some (excClassObj U q' b N' D u6 c a0 z B o G L O P R T a)) (he:h.get? e=some oe) (v:oe.cls=.ref C) (J:C≠b)
 (hq:Q false ⟨h,g,d,t,os⟩):wpAny M A (excMatches (.ref e) (.ref b)) Q E ⟨h,g,d,t,os⟩:=by
 have H:(Value.ref b::u6).contains (.type "BaseException")=true:=by rw[Ta,SA];exact UM (by decide)
 have I:(Value.ref C::u6).contains (.ref b)=false:=by
  rw[Ta];have:(Value.ref b==Value.ref C)=false:=by simp;exact OL J
  rw[this];rfl
 have f:=tc_notTuple;unfold excMatches
 repeat (first | (with_reducible refine RA he ?_;rw[v]) | with_reducible refine RA s ?_ | (with_reducible refine SS s ?_;rw[H]) | (with_reducible refine SS hC ?_;rw[I]) | wp_step)
 exact hq
theorem lB(hg:Gl X x)(hm:X.mg x=some (.ref C))(hC:oI X.K C=true)(hs:∀ e,wH (X.CC e fun _ _=>False) (i::u) m)(hr:PH X r l)(hd:(x==("__debug__":Str))=false:=by decide):
 PH X (.ExceptHandler (some (.Name x Y)) none (i::u) p::r) (fun c d D n H=>if c=C then m D n H else l c d D n H):=by
 intro a s n H D e c T d I hc lo v G J M q;obtain⟨nm,qn,N,bs,B,sn,sub,ab,R,dd,k0,k1,k2,k3,k5,mN,h,_,_⟩:=rp I.lZ hC;obtain⟨a8,a9,N',Q,t,b0,L,P,A,U,a0,a3,a4,a5,a6,a7,o,_,_⟩:=rp I.lZ hc;obtain⟨oe,vs,F,w,d1,z1,q1,q2⟩:=id v;refine wpAny_handleBy_cons (Uj (ji (X:=X.CC e fun _ _=>False) I.CC hg hm ?_ hd)) (by intro q;cases q);by_cases b:c=C;.subst b;rw[Oy rfl]at q;obtain⟨hh,g,dr,tk,os⟩:=s;refine Tv h F w (by decide) (T9 ?_);refine zt I v G J M fun s' _ _ _ O _ _=>?_;exact Qa (hs e a s' n H D O.CC q) (fun f s2 z=>z.xp I.ok) fun _ _ z=>z.elim
 .rw[Ox b]at q;obtain⟨hh,g,dr,tk,os⟩:=s;refine kN o h F w b ?_;exact hr a _ n H D e c T d I hc lo v G J M q
theorem zN{o:List Stmt}{L:ExceptHandler}{hs:List ExceptHandler}{tb:EX->TS}{Q:Addr->Option Addr->TS}(M:X.stack=X.env::X.outer)(hf:X.env.frame=some X.env.locals)
 (hb:∀ (pn:List (Addr×Obj)) (U:Value->Shared->Prop) (E:EX),EY (X.mw pn U) E->PassesOwn (model X.prog X.w) X.A X.env U->wH (X.mw pn U) o (tb E)) (hh:PH X (L::hs) Q):
 PS X (.Try o (L::hs) [] [] p) (fun D σ H=>tb (fun C d n t=>Q C d D n t) D σ H):=by
 intro g s σ H D I h;refine wpAny_Try_except ?_;have hX:EY (X.mw (X.pn++g) fun e B=>wpAny (model X.prog X.w) X.A (noteFrame e X.env) (fun _ F=>wpAny (model X.prog X.w) X.A (setFlight e none) (fun _ G=>wpAny (model X.prog X.w) X.A (handleBy e X.env (L::hs)) (SP X g D) X.xe G) X.xe F) X.xe B)
  (fun C d n t=>Q C d D n t):=by
  intro N n t s' e C d I' x q;have I1:Inv X g n t s':=I'.ko I.ok;have R:L4 X g t s'.heap e C d:=by
   obtain⟨a,b,c⟩:=x;refine⟨a,b.ko,?_⟩;rcases c with c | ⟨T,fl,c1,c2,c3⟩;.exact .inl c
   .exact .inr ⟨T,fl,c1,c2.ko,c3⟩
  refine GU I1 M hf rfl R fun s1 T I2 x2 lT ne O=>?_;refine zt I2 x2 lT ne O fun s2 _ _ _ I3 x3 P=>?_;exact hh g s2 n t D e C T d I3 R.1 R.2.1 x3 lT ne P q
 refine Qa (hb _ _ _ hX PassesOwn.looking [] s σ H D I.mw h) (fun f s1 q=>?_) fun _ _ z=>z;have J:=SP.ko I.ok q;cases f with
 | next=>exact Ru J
 | ret v=>exact J
 | brk=>exact J
 | cont=>exact J
end
end L2
namespace L2
open PySem PySem.Spec PyProof.Rows
structure vy(w:World)(K:PySem.W.Frag)(a:Addr)(kvs:List (Key×V)):Prop where
 ns:(a==sysModules)=false
 of:∀ (P:Program) (h:Heap),K.In h->∃ vs,KV kvs vs/\h.DictOf (cI P w) a vs
def JG(K:PySem.W.Frag)(a:Addr)(xs:List V):Prop:=∃ (o:Obj) (b:Array Value) (n:Nat),K.lookup a=some o/\o.cls=.type "tuple"/\o.data=.seq b n/\b.size<=sizeLine/\Vals xs b.toList
theorem JG.sq{K:PySem.W.Frag}{a:Addr}{xs:List V}{H:Hp}(h:JG K a xs):iJ K H a xs:=.inr h
def B9(w:World)(K:PySem.W.Frag)(g f:TE):TE:=fun c H Q=>g c H fun y d=>f c d fun x e=>∃ a b k,x=.ref a/\vy w K a b/\y=kV k/\Q (.bl (bR b k).isSome) e
def kc(w:World)(K:PySem.W.Frag)(g f:TE):TE:=fun c H Q=>g c H fun y d=>f c d fun x e=>∃ a b k,x=.ref a/\vy w K a b/\y=kV k/\Q (.bl (!(bR b k).isSome)) e
def ta(w:World)(K:PySem.W.Frag)(f g:TE):TE:=fun c H Q=>f c H fun x d=>g c d fun y e=>∃ a b k v,x=.ref a/\vy w K a b/\y=kV k/\bR b k=some v/\Q v e
section
variable {X:Cx}{o i:Expr}{r:Pos}{t z:TE}
theorem Jc(q:PE X i z)(v:PE X o t):PC X .In i o (B9 X.w X.K z t):=by intro b s f H Q I h;refine cj (q b s f H _ I h) fun G F ⟨y,g,l,E,B⟩=>cj (v b F f g _ l B) fun u J ⟨x,j,d,D,a,A,k,n,e,p,C⟩=>?_;subst n p;obtain rfl:u=Value.ref a:=D;obtain⟨vs,c,m⟩:=e.of X.prog _ d.lZ;refine wpAny_in_of (sS E) e.ns m.mapOf ?_;rw[<-(c.val k).kM];exact⟨.bl _,j,d.tok _,rfl,C⟩
theorem Fd(q:PE X i z)(v:PE X o t):PC X .NotIn i o (kc X.w X.K z t):=by intro b s f H Q I h;refine cj (q b s f H _ I h) fun G F ⟨y,g,l,E,B⟩=>cj (v b F f g _ l B) fun u J ⟨x,j,d,D,a,A,k,n,e,p,C⟩=>?_;subst n p;obtain rfl:u=Value.ref a:=D;obtain⟨vs,c,m⟩:=e.of X.prog _ d.lZ;refine wpAny_notIn_of (sS E) e.ns m.mapOf ?_;rw[<-(c.val k).kM];exact⟨.bl _,j,d.tok _,rfl,C⟩
theorem zA(A:PE X o t)(q:PE X i z)(hs:Ni i):PE X (.Subscript o i r) (ta X.w X.K t z):=by intro b s g H Q I h;refine JU PySem.F.slot_dict_getitem.lookup hs (cj (A b s g H _ I h) fun u M ⟨x,j,m,J,E⟩=>cj (q b M g j _ m E) fun N O ⟨y,l,e,L,a,D,k,v,n,C,p,B,G⟩=>?_);subst n p;obtain rfl:u=Value.ref a:=J;obtain⟨vs,c,f⟩:=C.of X.prog _ e.lZ;obtain⟨P,hw,d⟩:=m3.some_of (v:=v) (o:=valueAt vs k) (by rw[<-B];exact c.val k);exact⟨f.typeIs,wpAny_getItem_of (sS L) f.mapOf hw ⟨v,l,e.tok _,d,G⟩⟩
end
end L2
namespace L2
open PySem PySem.Spec PyProof.Rows
section
variable {X:Cx}
theorem yN:pb X (binaryOp .Mult) (rI IntMulOk fun i j=>.int (i * j)):=Kj fun _ _ _ _ _ _ _ hc q=>mul_int q hc
theorem D7:pb X (binaryOp .LShift) (rI (fun i j=>0<=j/\(Builtin.Int.intBits i:Int)+j<=2 ^ 27) fun i j=>.int (i * 2 ^ j.toNat)):=Kj fun _ _ _ _ _ _ _ hc q=>lshift_int hc.1 hc.2 q
theorem HE:pb X (binaryOp .FloorDiv) (rI (fun i j=>0<j/\Builtin.divisionGoesByPylong i j=false) fun i j=>.int (i / j)):=Kj fun i j _ _ _ _ _ hc q=>floordiv_int (by have:=hc.1;omega) (by rw[RM i (by have:=hc.1;omega)];exact q) (.inl hc.2)
end
section
variable {X:Cx}{o e f:Expr}{z w y:TE}
def Ms(z:TE):TE:=fun b H Q=>z b H fun x a=>∃ i,x=.int i/\Q (.int (Builtin.Int.intBits i)) a
theorem xD{a g:Pos}(l:PE X o z)(b:attributeBase o "bit_length" X.env (eval o X.env)=eval o X.env:=by rfl)(c:(a.endLine==g.line)=true:=by rfl):
 PE X (.Call (.Attribute o "bit_length" a) [] [] g) (Ms z):=by
 intro d s p H Q I h;refine UK b c (cj (l d s p H _ I h) fun v r ⟨x,j,k,n,m⟩=>?_);obtain⟨i,rfl,q⟩:=m;obtain⟨t,rfl⟩:=_root_.id n;exact⟨"int",_,F.plainAttrs_int,F.slot_int_bit_length,F.type_int_bit_length,typeIs_int _ _ _,(fun _ e=>nomatch e),PR rfl (RQ (call_int_bit_length ⟨.int _,j,k.tok _,⟨_,rfl⟩,q⟩))⟩
theorem Ds:CZ X "str.lstrip" (fun x xs H Q=>∃ a b,x=.str a/\xs=[.str b]/\a.length<=sizeLine/\Q (.str (Txt.lstripChars a b)) H):=by
 intro d s l H x xs v us Q I i c h;obtain⟨a,b,rfl,rfl,hl,h⟩:=h;obtain⟨t,rfl⟩:=i;cases c with
 | cons g c=>cases c;obtain⟨u,rfl⟩:=g;exact PySem.SC.lstripChars (fun j k=>⟨.str _,H,I.tok k,⟨j,rfl⟩,h⟩) hl
end
end L2
namespace L2
open PySem PySem.Spec PyProof.Rows
def Np(X:Cx)(e:Expr)(t:TE):Prop:=∀ (a:List (Addr×Obj)) (s:Shared) (b:St) (H:Hp) (Q:VK),1<=s.toks->Inv X a b H s->t b H Q->wpAny (model X.prog X.w) X.A (eval e X.env) (EP X a b Q) X.xe s
def MV(X:Cx)(c:List Stmt)(t:TS):Prop:=∀ (a:List (Addr×Obj)) (s:Shared) (b:St) (H:Hp) (D:Ends),1<=s.toks->Inv X a b H s->t D b H->wpAny (model X.prog X.w) X.A (execs c X.env) (SP X a D) X.xe s
section
variable {X:Cx}{n:Pos}
theorem Il{i:Nat}{x:Str}{p:Pos}{f:List (Addr×Obj)}{j:St}{H:Hp}{s:Shared}{v:V}{R:Value->Shared->Prop}(k:X.N[i]?=some x)(q:Kf X.env.scope x)(hd:(x==("__debug__":Str))=false)(g:(x==("__classdict__":Str))=false)
 (I:Inv X f j H s) (e:j[i]?=some (some v)) (h:∀ u,RelV v u->R u s):wpAny (model X.prog X.w) X.A (eval (.Name x p) X.env) R X.xe s:=by
 obtain⟨m,hn,hl⟩:=I.loc;obtain⟨u,r,l⟩:=hl i x v k e q;have b:=h u r;rcases l with⟨d,o⟩ | ⟨d,c,hc,a⟩;.exact Su (Sv I.ok.kind d hn o b) hd
 .rcases d with d | d;.exact Su (SN I.ok.kind d hc a b) hd
  .exact Su (wpAny_loadName_free I.ok.kind d hc a b g) hd
def Mw(i:Nat)(y z:Str):TE:=fun b H Q=>∃ a,b[i]?=some (some (.str a))/\a.length<=1048576/\Q (.str (Txt.replace a y z)) H
theorem BF{i:Nat}{x y z:Str}{p o q l m:Pos}{g j:Nat}(A:X.N[i]?=some x)(C:Kf X.env.scope x)(f:(y==z)=false)(D:z.length<=14)(hd:(x==("__debug__":Str))=false:=by decide)(d:(x==("__classdict__":Str))=false:=by decide)
 (hs:starEach [.Constant (.str y) g l,.Constant (.str z) j m] X.env=[(false,eval (.Constant (.str y) g l) X.env),(false,eval (.Constant (.str z) j m) X.env)]:=by rfl) (b:attributeBase (.Name x p) "replace" X.env (eval (.Name x p) X.env)=eval (.Name x p) X.env:=by rfl) (c:(o.endLine==q.line)=true:=by rfl):
 Np X (.Call (.Attribute (.Name x p) "replace" o) [.Constant (.str y) g l,.Constant (.str z) j m] [] q) (Mw i y z):=by
 intro v s G H Q B I h;obtain⟨a,w,hl,h⟩:=h;refine PySem.Call_method2 b hs c (Il A C hd d I w fun u r=>?_);obtain⟨t,rfl⟩:=r;refine⟨"str",_,Sg,F.slot_str_replace,F.type_str_replace,Q5 _ _ _,(fun _ e=>nomatch e),PR rfl (QF (PV (RU (PV (RU (Qu ?_))))))⟩;refine PySem.SC.replaceW (Q7 B) (Nat.succ_ne_zero _) (Pr (Sf _)) f hl D fun E k=>⟨.str _,H,?_,⟨E,rfl⟩,h⟩
 exact I.tok k
theorem L1{j:String}{name:Str}{c n:Pos}{o e:Expr}{q p:TE}{r:V->List V->Hp->VK->Prop}(i:Slot "str" name j)(N:typeOf (.builtin j)=pure (.type "method_descriptor"))(g:CZ X j r)(D:Np X o q)(C:PE X e p)
 (hs:starEach [e] X.env=[(false,eval e X.env)]:=by rfl) (d:attributeBase o name X.env (eval o X.env)=eval o X.env:=by rfl) (f:(c.endLine==n.line)=true:=by rfl):
 Np X (.Call (.Attribute o name c) [e] [] n) (Oa r q p):=by
 intro b s l H Q E I h;refine UL d hs f (cj (D b s l H _ E I h) fun v L ⟨x,w,A,m,k⟩=>?_);obtain⟨⟨a,rfl⟩,k⟩:=k;obtain⟨t,rfl⟩:=_root_.id m;refine⟨"str",_,Sg,i,N,Q5 _ _ _,(fun _ e=>nomatch e),PR rfl (QF (PV ?_))⟩;exact cj (C b L l w _ A k) fun u M ⟨y,z,B,J,G⟩=>Qu (g b M l z _ [y] _ [u] Q B m (.cons J .nil) G)
theorem GL{i:Nat}{x:Str}{e:Expr}{g:TE}{u:TS}{rest:List Stmt}{b:Pos}(p:X.N.Nodup)(t:X.N[i]?=some x)(hx:Loc X.env.scope x)(r:Np X e g)(h2:wH X rest u)(hs:swapsWith e (some (.Name x b)) n.line X.env=pure false:=by rfl)(hf:X.fn x=true\/X.env.scope.names.lookup x=some .local:=by first | exact .inl rfl | exact .inr rfl | assumption):
 MV X (.Assign [.Name x b] e n::rest) (mu (pG g (jd i)) u):=by
 intro a s F H D z I h;have B:wpAny (model X.prog X.w) X.A (exec (.Assign [.Name x b] e n) X.env) (SP X a { D with nx:=u D }) X.xe s:=by refine wpAny_Assign_Name (cj (r a s F H _ z I h) fun v d ⟨y,k,m,E,C⟩=>?_) hs;exact pX m p t hx E (fun G o=>⟨_,k,o,C⟩) hf
 refine RI (cj B fun f d q=>?_);cases f with
 | next=>obtain⟨c,j,l,q⟩:=q;exact h2 a d c j D l q
 | ret v=>exact q
 | brk=>exact q
 | cont=>exact q
def MN(i:Nat)(c:Str)(t u:TS):TS:=fun D a H=>∃ z,a[i]?=some (some (.str z))/\if z=c then t { D with nx:=fun _ _=>False } a H else u D a H
theorem Hl{i:Nat}{x c:Str}{p g:Pos}{j:Nat}{a rest:List Stmt}{t u:TS}{n:Pos}{B:Pos}(m:X.N[i]?=some x)(A:Kf X.env.scope x)(o:wH X a t)(y:MV X rest u)(hd:(x==("__debug__":Str))=false:=by decide)(d:(x==("__classdict__":Str))=false:=by decide)(w:behindInMarks .Eq (.Constant (.str c) j g)=false:=by first | exact Bk _ (by decide) (by decide) | rfl):
 wH X (.If (.Compare (.Name x p) [.Eq] [.Constant (.str c) j g] B) a [] n::rest) (MN i c t u):=by
 intro b s k H D I h;obtain⟨z,l,h⟩:=h;refine RI (wpAny_If (Si (Il m A hd d I l fun v r=>?_) w));obtain⟨E,rfl⟩:=r;refine RU (eq_str ?_);refine Qi ?_;by_cases e:z=c
 .subst e;rw[Oy rfl]at h;rw[show(z==z)=true by simp];refine cj (o b _ k H _ (I.tok _) h) fun f C q=>?_;cases f with
  | next=>obtain⟨_,_,_,q⟩:=q;exact q.elim
  | ret v=>exact q
  | brk=>exact q
  | cont=>exact q
 .rw[Ox e]at h;rw[show(z==c)=false by simp[e]];refine Ru ?_;exact y b _ k H D (by simp) (I.tok _) h
end
end L2
namespace PySem
open Sem (wp)
section
variable {prog:Program}{w:World}{K:Type}[DecidableEq K]{z:HeapKind prog w K}{A:Around}{E:Value->Shared->Prop}{s:Shared}{d a:Addr}{k:K}{u:List (K×Addr×Value)}
theorem tw{b:Value}{Q:Value->Shared->Prop}(B:z.room A)(c:z.is s.heap k a)(D:s.heap.DictOfH z d u)(f:∀ p,atKey u k=some p->Q p.2 { s with toks:=s.toks+z.draws k })
 (m:atKey u k=none->∀ r,r.DictOfH z d (storedH u k a b)->Heap.SameBut d s.heap r->Q b { s with heap:=r,toks:=s.toks+z.draws k })
 (F:u.length<=sizeLine):wpAny (model prog w) A (dictSetDefault d (.ref a) b) Q E s:=by
 obtain⟨o,H,C,i,hc,hd,n,l,hn⟩:=D;unfold dictSetDefault;try with_reducible refine QE ?_
 refine Oz (z.pyHash B c (Oz (wpAny_dictFind_heap (s:={ s with toks:=s.toks+z.draws k }) B c i hd n l hn (fun g=>?_) fun j p t=>?_)))
 .have h:=storedH_new (v:=b) (a:=a) (atKey_none_of_get g);refine Oz (wpAny_rule (Oz (wpAny_updateDictKeys (hz:=by have e:=Sy n;omega) (s:={ s with toks:=s.toks+z.draws k }) i hd (OK (m (atKey_none_of_get g) _ ⟨_,_,C+1,
   Qm _ i (Obj.isFreed_of_dict (Obj.data_mapDictKeys hd _)),hc.mapDictKeys _,Obj.data_mapDictKeys hd _,by rw[h];simp[n,entryOfKey],fun x hx=>?_,?_⟩ (QM ..))))))
  .rw[h]at hx;rcases OH.mp hx with hx | hx;.exact z.keeps (l x hx) i hd (QM ..)
   .rw[Q9.mp hx];exact z.keeps c i hd (QM ..)
  .rw[h,Qp,OZ];exact⟨hn,by simp,fun x hx y G e=>not_mem_keys_of_get g (by have q:y=k:=(by simpa using G);rw[<-q,<-e];exact hx)⟩
 .refine Oz (RB (s:={ s with toks:=s.toks+z.draws k }) i hd ?_);rw[entry_at n j,t];exact Oz (wpAny_rule (OK (f p (atKey_of_get hn t))))
end
section
variable {prog:Program}{w:World}{K:Type}[DecidableEq K](z:HeapKind prog w K)(d a:Addr)
theorem qX(hd:(d==sysModules)=false)(b:Value):MeetsIn prog w (Builtin.«dict.setdefault» ⟨[.ref d,.ref a,b],[]⟩) (fun A R s=>z.room A.in1/\∃ k xs,z.is s.heap k a/\s.heap.DictOfH z d xs/\xs.length<=sizeLine /\
 (∀ p,atKey xs k=some p->R (.ok (.ret p.2)) { s with toks:=s.toks+z.draws k }) /\
 (atKey xs k=none->∀ c,c.DictOfH z d (storedH xs k a b)->Heap.SameBut d s.heap c->R (.ok (.ret b)) { s with heap:=c,toks:=s.toks+z.draws k })):=.of_wp fun A R s ⟨j,k,xs,e,h,l,h1,h2⟩=>by
 unfold Builtin.«dict.setdefault»;refine Oz ?_;unfold Builtin.Dict.keyAndDefault;refine Oz (Uk h.typeIs ?_);show wpAny _ _ (pure (d,Value.ref a,some b)) _ _ s;refine OK ?_;show wpAny _ _ (if (d==sysModules)=true then _ else(dictSetDefault d (.ref a) b >>= _)) _ _ s;rw[Ox (by rw[hd];exact Pe)];exact Oz (tw j e h (fun p i=>OK ⟨p.2,rfl,h1 p i⟩) (fun hn c f g=>OK ⟨b,rfl,h2 hn c f g⟩) l)
end
end PySem
namespace PySem
open Sem (wp)
section
variable {prog:Program}{w:World}{A:Around}{E:Value->Shared->Prop}{s:Shared}
theorem w6(d:Addr)(hd:(d==sysModules)=false):MeetsIn prog w (Builtin.«dict.items» ⟨[.ref d],[]⟩) (fun _ R s=>s.TypeIs (.ref d) "dict" /\
 R (.ok (.ret (.ref s.heap.objs.size))) { s with heap:=s.heap.push { cls:=.type "dict_items",data:=.fields #[.ref d] } }):=.of_wp fun A R s ⟨a,h⟩=>by
 unfold Builtin.«dict.items»;refine Oz ?_;unfold Builtin.Dict.noArgs;refine Oz (Uk a ?_);show wpAny _ _ (pure d) _ _ s;refine OK ?_;show wpAny _ _ (Builtin.Dict.showsAll d >>= _) _ _ s;unfold Builtin.Dict.showsAll;rw[Ox (by rw[hd];exact Pe)];exact Oz (OK (Oz (Rg (OK ⟨_,rfl,h⟩))))
theorem xa{v d:Addr}{o:Obj}{g:Array DictEntry}{f:Nat}{Q:Value->Shared->Prop}(e:s.heap.IsItemsView v d)(h:s.heap.get? d=some o)(a:o.data=.dict g f)
 (i:Q (.ref s.heap.objs.size) { s with heap:=s.heap.push { cls:=.type "dict_itemiterator",data:=.fields #[.none,.bool false,.ref d,.int 0 0,.int g.size 0,.int f 0,.none,.none] } }):
 wpAny (model prog w) A (pyIter (.ref v)) Q E s:=by
 obtain⟨k,c,j,b⟩:=id e;refine wpAny_pyIter_slot e.typeIs Ua (RK Ua e.typeIs F.entry_dict_items_iter ?_ (F.args_dict_items_iter_1 _));unfold Builtin.«dict_items.__iter__»;refine Oz (OK (Oz ?_));unfold Builtin.Dict_items.dictOf;refine Oz (P8 c b (x:=.ref d) rfl (OK (Oz ?_)));unfold Builtin.Dict_items.newIterator;refine Oz (RB h a (Oz (TX h a ?_)));simp only[show Builtin.Dict_items.ownsTuple "dict_itemiterator"=true by decide,Qz];refine Rg (OK ⟨_,rfl,"dict_itemiterator",_,⟨_,OU _ rfl,rfl⟩,QA.lookup,by simpa[rawInt,Builtin.Dict_items.ownedTupleFields]using i⟩) (by simp only[sizeOk,Builtin.Dict_items.ownedTupleFields,O8,ON,OB,Pa,T2];omega)
theorem wL{f d:Addr}{i G:Nat}{od:Obj}{D:Array DictEntry}{h:DictEntry}{ok ov:Value}{Q:Option Value->Shared->Prop}(I:IsItemIter s.heap f d i D.size G ok ov)
 (Z:s.heap.get? d=some od) (X:od.data=.dict D G) (hx:D[i]?=some h)
 (hQ:∀ W,IsItemIterOut W f d (i+1) D.size G h.key h.val s.heap.objs.size->W.get? s.heap.objs.size=some { cls:=.type "tuple",data:=.seq #[h.key,h.val] }->W.objs.size=s.heap.objs.size+1 -> (∀ b o,b≠f->s.heap.get? b=some o->W.get? b=some o)->Q (some (.ref s.heap.objs.size)) { s with heap:=W }):wpAny (model prog w) A (pyNext (.ref f)) Q E s:=by
 obtain⟨q,g,U,tk,os⟩:=s;have J:Shared.TypeIs ⟨q,g,U,tk,os⟩ (.ref f) "dict_itemiterator":=⟨_,I,rfl⟩
 obtain⟨Y,a0⟩:=Rf.mp hx;unfold pyNext;refine Oz (Th (QZ (name:=Str.ofString "__next__") J QA (RK QA J SD ?_ (Sr _))));refine Oz (OK (Oz (Oz ?_)));first | refine Oz (QV J (OK ?_)) | refine Oz (Rk J (OK ?_))
 refine Oz (wpAny_fieldsOf I rfl ?_);simp only[show Builtin.Dict_items.ownsTuple "dict_itemiterator"=true by decide,Qz];show wpAny _ _ (if (Value.ref d==Value.none)=true then _ else _) _ _ _;rw[Ox (show ¬ ((Value.ref d==Value.none)=true) from Pe)];refine Oz (OK (Oz (RB Z X ?_)));rw[Ox (by simp)];refine Oz (OK (Oz (TX Z X ?_)));rw[Ox (by simp)];refine OK ?_;simp only[show ¬ ((i:Int)<0) from by omega,Ry,PL,RS Y];rw[a0];refine Oz ?_;first | refine Oz (QV J (OK ?_)) | refine Oz (Rk J (OK ?_))
 refine Oz (Sa J ?_);show wpAny _ _ (setField (.ref f) 3 (rawInt ((i:Int)+1)) >>= _) _ _ ⟨q,g,U,tk,os⟩;refine Oz (Qd I (by simp) fun c k (r:Heap.SameBut f q c)=>?_);have k:IsItemIter c f d (i+1) D.size G ok ov:=by
  have e:((i+1:Nat):Int)=(i:Int)+1:=by omega
  unfold IsItemIter;rw[e];simpa[rawInt]using k
 have p:Shared.TypeIs ⟨c,g,U,tk,os⟩ (.ref f) "dict_itemiterator":=⟨_,k,rfl⟩
 refine Oz (QE (Oz (Sa p (Oz (Sa p ?_)))));show wpAny _ _ (Builtin.Dict_items.pairFromOwner (.ref f) 6 h.key h.val) _ _ ⟨c,g,U,tk,os⟩;unfold Builtin.Dict_items.pairFromOwner;refine Oz (wpAny_newTuple ?_);have a:IsItemIter (c.push { cls:=.type "tuple",data:=.seq #[h.key,h.val] }) f d (i+1) D.size G ok ov:=OD _ k;generalize m:c.push { cls:=.type "tuple",data:=.seq #[h.key,h.val] }=j at a;have n:c.objs.size=q.objs.size:=r.1;have a3:f<q.objs.size:=OY I;have R:j.get? q.objs.size=some { cls:=.type "tuple",data:=.seq #[h.key,h.val] }:=by rw[<-m,<-n];exact OU _ rfl
 have T:j.objs.size=q.objs.size+1:=by rw[<-m,PD,n]
 have P:∀ b o,b≠f->q.get? b=some o->j.get? b=some o:=fun b o H e=>(by rw[<-m];exact OD _ (r.extBut b o H e))
 show wpAny _ _ (Builtin.Dict_items.ownedTupleIsFree (.ref f) >>= _) _ _ ⟨j,g,U,tk,os⟩;rw[n];refine Oz ?_;unfold Builtin.Dict_items.ownedTupleIsFree;refine Oz (P8 a rfl (x:=.none) rfl (OK ?_));simp only[Qz];refine Oz (P8 a rfl (x:=ok) rfl (Oz (P8 a rfl (x:=ov) rfl (Oz (Qd a (by simp) fun z (L:IsItemIter z f d (i+1) D.size G h.key ov) (t:Heap.SameBut f j z)=>?_)))));refine Oz (Qd L (by simp) fun B (M:IsItemIter B f d (i+1) D.size G h.key h.val) (u:Heap.SameBut f z B)=>?_);refine Oz (Qd M (by simp) fun C (N:IsItemIterOut C f d (i+1) D.size G h.key h.val q.objs.size) (v:Heap.SameBut f B C)=>?_);refine Oz (Qd N (by simp) fun l (O:IsItemIterOut l f d (i+1) D.size G h.key h.val q.objs.size) (y:Heap.SameBut f C l)=>?_);have k6:∀ b o,b≠f->j.get? b=some o->l.get? b=some o:=fun b o H e=>y.extBut b o H (v.extBut b o H (u.extBut b o H (t.extBut b o H e)));exact Oz (Ub (OK (OK ⟨_,rfl,OK (hQ l O (k6 _ _ (Q7 a3) R) (by show l.objs.size=q.objs.size+1;rw[y.1,v.1,u.1,t.1,T]) fun b o H e=>k6 b o H (P b o H e))⟩)))
theorem yA{h d:Addr}{i l:Nat}{o:Obj}{j:Array DictEntry}{r t:Value}{Q:Option Value->Shared->Prop}(q:A.handled=none)(c:IsItemIter s.heap h d i j.size l r t)
 (g:s.heap.get? d=some o) (f:o.data=.dict j l) (k:j.size<=i) (p:∀ n,Heap.ExtBut h s.heap n->Q none { s with heap:=n }):wpAny (model prog w) A (pyNext (.ref h)) Q E s:=by
 have e:s.TypeIs (.ref h) "dict_itemiterator":=⟨_,c,rfl⟩
 unfold pyNext;refine Oz (Th (QZ (name:=Str.ofString "__next__") e QA (RK QA e SD ?_ (Sr _))));refine Oz (OK (Oz (Oz ?_)));first | refine Oz (QV e (OK ?_)) | refine Oz (Rk e (OK ?_))
 refine Oz (wpAny_fieldsOf c rfl ?_);simp only[show Builtin.Dict_items.ownsTuple "dict_itemiterator"=true by decide,Qz];show wpAny _ _ (if (Value.ref d==Value.none)=true then _ else _) _ _ s;rw[Ox (show ¬ ((Value.ref d==Value.none)=true) from Pe)];refine Oz (OK (Oz (RB g f ?_)));rw[Ox (by simp)];refine Oz (OK (Oz (TX g f ?_)));rw[Ox (by simp)];refine OK ?_;simp only[show ¬ ((i:Int)<0) from by omega,Ry,PL,T7 k];refine Oz ?_;first | refine Oz (QV e (OK ?_)) | refine Oz (Rk e (OK ?_))
 show wpAny _ _ (setField (.ref h) 2 .none >>= _) _ _ s;refine Oz (SU c rfl (by simp) ?_);show wpAny _ _ (newExc (.type "StopIteration") [] >>= _) _ _ _;refine Oz ?_;simp only[newExc,newTuple];refine Oz (Rg ?_ (by size_fits));refine Oz (m:=firstArgMember _ _) (wpAny_of_eq (a:=Value.none) (by first | rfl | (simp only[firstArgMember];rfl)) (Rg ?_ (by size_fits)));simp only[raiseNew];refine Oz (wpAny_handled ?_);rw[show A.in1.handled=none from q];refine Oz (OK (wpAny_throw ?_));refine Oz (TF (T:="StopIteration") (b:=true) ⟨_,OU _ rfl,rfl⟩ isSubtype_stop ?_);exact OK (p _ (((QM ..).extBut.push _).push _))
end
end PySem
namespace PySem
open Sem (wp)
theorem xc:entryFor table "proto.unchain"=some Builtin.«proto.unchain»:=entryFor_of_tree (by kernel_rfl)
section
variable {prog:Program}{w:World}{A:Around}{E:Value->Shared->Prop}{s:Shared}{env:Env}
theorem zg{e hd:Addr}{b:Obj}{vs:Array Value}{Q:Value->Shared->Prop}(c:s.heap.get? hd=some b)(a:b.data=.fields vs)(h2:vs[2]?=some .none)(h:Q .none s):
 wpAny (model prog w) A (runValue (.builtin "proto.unchain" ⟨[.ref e,.ref hd,.ref hd,.bool false],[]⟩)) Q E s:=by
 refine wpAny_runValue (codeAny_builtin xc ?_);unfold Builtin.«proto.unchain»;refine Oz (P8 c a h2 ?_);rw[Oy (by rfl)];exact OK h
variable {nm q:Str}{C N:Addr}{bs bm:List Value}{hdct:Bool}{sn:List Str}{sub:List Value}{ab:Bool}{col:Option Bool}{dd:Option Addr}{k0 k1 k2 k3 k5:Option Value}{newId:String}
theorem tG{x c:Sem Value}{Q:Flow->Shared->Prop}{hd:Addr}(b:bm.contains (.type "BaseException")=true)(H:A.handled=some (.ref hd))
 (hc:∀ (Q:Value->Shared->Prop) s,Q .none s->wpAny (model prog w) A c Q E s)
 (h:wpAny (model prog w) A x (fun v a=>∃ e t m vs,v=.ref e/\a.heap.get? C=some (excClassObj nm q C N bs bm hdct sn sub ab col dd k0 k1 k2 k3 k5 newId) /\
   a.heap.get? e=some { cls:=.ref C,data:=.fields #[.ref t,.none,.none,.none,.bool false,.none] }/\e≠hd/\a.heap.get? hd=some m/\m.data=.fields vs/\vs[2]?=some .none /\
   ∀ n,Heap.SameBut e a.heap n->n.get? e=some { cls:=.ref C,data:=.fields #[.ref t,.none,.ref hd,.none,.bool true,.none] }->E (.ref e) { a with heap:=n }) E s):
 wpAny (model prog w) A (raiseStmt env (some x) (some c)) Q E s:=by
 have p:(Value.ref C::bm).contains (.type "BaseException")=true:=by rw[Ta,b,Bool.or_true]
 unfold raiseStmt;refine Oz (Qa h (fun v a k=>?_) fun _ _ x=>x);obtain⟨e,t,m,vs,rfl,i,u,f,I,r,h2,G⟩:=k;obtain⟨B,g,d,M,L⟩:=a;refine Oz (QE (hc _ _ (Oz (OK ?_))));refine Oz (QE ?_);unfold excFromValue
 repeat (first | with_reducible refine RA u ?_ | with_reducible refine RA i ?_ | (with_reducible refine SS i ?_;rw[p]) | wp_step)
 have j:C≠e:=fun z=>by rw[z]at i;have q:=i.symm.trans u;have J:=Pw Obj.data (OQ q);exact nomatch J
 have o:((B.update e (Obj.mapFields fun x=>x.setIfInBounds 3 Value.none)).update e (Obj.mapFields fun x=>x.setIfInBounds 4 (Value.bool true))).get? C=some (excClassObj nm q C N bs bm hdct sn sub ab col dd k0 k1 k2 k3 k5 newId):=by rw[Py _ _ (OL j),Py _ _ (OL j)];exact i
 have D:=Qm (Obj.mapFields (·.setIfInBounds 3 Value.none)) u (QS (P0 rfl _));have l:=Qm (Obj.mapFields (·.setIfInBounds 4 (Value.bool true))) D (QS (P0 (P0 rfl _) _));have y:((B.update e (Obj.mapFields fun x=>x.setIfInBounds 3 Value.none)).update e (Obj.mapFields fun x=>x.setIfInBounds 4 (Value.bool true))).get? hd=some m:=by rw[Py _ _ f,Py _ _ f];exact I
 refine RA o (OK ?_);rw[Oy (by rfl)];refine OK ?_;show wpAny _ _ (setFlight (.ref e) none >>= _) _ _ _;refine Oz ?_;unfold setFlight;refine Oz (P8 (x:=.none) l rfl rfl ?_);rw[Ox (by decide)];refine OK ?_;unfold raiseNew;refine Oz (wpAny_handled ?_);rw[H];show wpAny _ _ (if (Value.ref hd != Value.ref e)=true then _ else _) _ _ _;rw[Oy (by simp;exact OL f)];refine Oz (QE (zg y r h2 ?_));have F:=Qm (Obj.mapFields (·.setIfInBounds 2 (Value.ref hd))) l (QS (P0 (P0 (P0 rfl _) _) _));refine Oz ?_;unfold updateField;refine Oz (wpAny_load l ?_);show wpAny _ _ (update e (Obj.mapFields (·.setIfInBounds 2 (Value.ref hd)))) _ _ _;refine wpAny_update l (wpAny_throw (G _ ?_ F));exact((QM ..).trans (QM ..)).trans (QM ..)
end
end PySem
namespace PySem
open Sem (wp)
section
variable {prog:Program}{w:World}{A:Around}{E:Value->Shared->Prop}{s:Shared}
theorem yD(d:Addr)(hd:(d==sysModules)=false):MeetsIn prog w (Builtin.«dict.__len__» ⟨[.ref d],[]⟩) (fun _ R s=>∃ o b c,s.heap.get? d=some o/\o.data=.dict b c/\R (.ok (.ret (.int (b.size:Int) s.toks))) { s with toks:=s.toks+1 }):=.of_wp fun A R s ⟨o,b,c,e,a,h⟩=>by show wpAny _ _ (dictSize d >>= _) _ _ s;unfold dictSize;refine Oz (Oz (RB e a (OK ?_)));show wpAny _ _ (Builtin.Dict.pendingCount d >>= _) _ _ s;refine Oz (wpAny_pendingCount_other hd (wpAny_ret_mkInt ?_));simpa using h
theorem J4{d:Addr}{o:Obj}{a:Array DictEntry}{c:Nat}{Q:Value->Shared->Prop}(hd:(d==sysModules)=false)(g:s.heap.get? d=some o)(hc:o.ExactDict)(b:o.data=.dict a c)(f:(a.size:Int)<2 ^ 63)
 (h:Q (.int (a.size:Int) (s.toks+1)) { s with toks:=s.toks+1+1 }):wpAny (model prog w) A (call (.builtin "len") [.ref d]) Q E s:=by
 have e:s.TypeIs (.ref d) "dict":=⟨o,g,hc.1⟩
 refine Calls.call_function_entry kind_len UN entry_len (args_len1 _) ?_;unfold Builtin.«len»;refine Oz (m:=oneArg "len" _) (OK (Oz (m:=callSpecial? (.ref d) (Str.ofString "__len__")) (QZ (name:=Str.ofString "__len__") e F.slot_dict_len (Tz F.slot_dict_len e F.entry_dict_len (F.args_dict_len_1 _) (yD d hd) ⟨o,a,c,g,b,?_⟩))));show wpAny _ _ _ _ _ { s with toks:=s.toks+1 };refine Oz (QE (OK (Oz (Ub ?_))));show wpAny _ _ (if ((a.size:Nat):Int)<0 then _ else _) _ _ _;rw[Ox (by omega)];show wpAny _ _ (if ((a.size:Nat):Int)≥2 ^ 63 then _ else _) _ _ _;rw[Ox (by omega)];exact Oz (wpAny_mkInt (OK ⟨_,rfl,h⟩))
end
end PySem
namespace L2
open PySem PySem.Spec PyProof.Rows
section
variable {X:Cx}{x:List (Addr×Obj)}{u:St}{H:Hp}{s:Shared}{a b:Addr}{d:V}{r:Value}{A:Around}{E:Value->Shared->Prop}{y:List (List Key×V)}{k:List Key}
theorem Bn(h:bR y k=none)(v:V):putK y k v=y++[(k,v)]:=by unfold putK;rw[vv,h,Ox (by simp)]
theorem GJ{Q:Value->Shared->Prop}(N:A.units+1<cLine)(I:Inv X x u H s)(e:H a=some (.dT y))(l:H b=some (.tup (k.map kV)))(hl:y.length<sizeLine)(P:RelV d r)
 (h1:∀ v B s',bR y k=some v->Inv X x u H s'->RelV v B->Q B s') (h2:bR y k=none->∀ s',Inv X x u (upd H a (.dT (y++[(k,d)]))) s'->Q r s'):
 wpAny (model X.prog X.w) A (call (.builtin "dict.setdefault") [.ref a,.ref b,r]) Q E s:=by
 obtain⟨z,hd,xs,g,j⟩:=KG I.de e;have O:xs.length<=sizeLine:=by rw[<-Rr g];exact z
 have q:=g.val k;refine Tz SW j.typeIs PySem.F.entry_dict_setdefault (PySem.F.args_dict_setdefault_3 _ _ _) (qX (tupleKind (cI X.prog X.w)) a b hd r) ⟨RY N,k,xs,vz I.de l,j,O,fun p M=>?_,fun hn R h hs=>?_⟩
 .rw[M]at q;cases f:bR y k with
  | none=>rw[f]at q;exact q.elim
  | some v=>rw[f]at q;exact h1 v _ _ f (I.tok _) q
 .rw[hn]at q;have f:bR y k=none:=by
   cases f:bR y k with
   | none=>rfl
   | some v=>rw[f]at q;exact q.elim
  have t:=g.put k l P;rw[Bn f]at t;obtain⟨o,D,C,n,i,G,J,_,L⟩:=h;refine h2 f _ (zF I (by rw[e];exact OF) hs ⟨o,n⟩ ⟨by rw[ON];exact hl,hd,_,t.keeps fun c T m=>?_,o,D,C,n,i,G,J,L⟩);rw[aq (cH m e (fun z=>nomatch z))];exact m
end
def nS(h j i:TE):TE:=fun e H Q=>h e H fun x f=>∃ a,x=.ref a/\NN f a/\j e f fun y g=>i e g fun z d=>∃ c k b,d a=some (.dT c)/\y=.ref b/\d b=some (.tup (k.map kV))/\c.length<sizeLine /\ (∀ v,bR c k=some v->Q v d)/\(bR c k=none->Q z (upd d a (.dT (c++[(k,z)]))))
section
variable {X:Cx}{o e f:Expr}{t w:Pos}{p r q:TE}
theorem lS(W:X.A.units+1<cLine)(U:PE X o p)(T:PE X e r)(hf:PE X f q)(m:M2 X o "setdefault" t e f w):PE X (.Call (.Attribute o "setdefault" t) [e,f] [] w) (nS p r q):=by intro c s l H Q I h;refine Tp m.base m.z9 m.line TM SW PySem.F.type_dict_setdefault (cj (U c s l H _ I h) fun u s1 ⟨x,C,n,rx,a,O,d,q1⟩=>?_);subst O;obtain rfl:u=Value.ref a:=rx;obtain⟨t1,t2,_⟩:=Hs n d;refine⟨t1,t2,?_⟩;rw[m.trees];refine PR rfl (QF (PV (cj (T c s1 l C _ n q1) fun Y s2 ⟨y,D,G,ry,q2⟩=>PV (cj (hf c s2 l D _ G q2) fun fv s3 ⟨z,E,J,B,q3⟩=>Qu ?_))));obtain⟨Z,k,b,L,rfl,M,N,P,R⟩:=q3;obtain rfl:Y=Value.ref b:=ry;exact GJ W J L M N B (fun v w' s4 i g j=>⟨v,E,g,j,P v i⟩) fun i s4 g=>⟨z,_,g,B,R i⟩
end
def Lh(d:Addr)(o:Obj)(a:List (List Key×V)):It:=⟨fun i H=>H d=some (.jP o (.dT a))/\i<a.length,fun i H x b=>∃ T k v q,a[i]?=some (k,v)/\x=.ref T/\H T=none/\H q=some (.tup (k.map kV))/\b=upd H T (.tup [.ref q,v]),fun i H=>H d=some (.jP o (.dT a))/\a.length<=i⟩
section
variable {X:Cx}{y:List (Addr×Obj)}{x:St}{H:Hp}{s:Shared}{d:Addr}{o:Obj}
theorem Inv.Kw{a:List (List Key×V)}(I:Inv X y x H s)(h:H d=some (.jP o (.dT a))):∃ (c:Array DictEntry) (g:Nat),s.heap.get? d=some o/\o.data=.dict c g/\c.size=a.length /\
 ∀ (i:Nat) (k:List Key) (v:V),a[i]?=some (k,v)->∃ (f:DictEntry) (q:Addr),c[i]?=some f/\f.key=.ref q/\H q=some (.tup (k.map kV))/\RelV v f.val:=by
 obtain⟨hd,z,hs,xs,n,w,c,g,m,hx,j,l,_⟩:=I.de d _ h;rw[hd]at m;cases m;refine⟨c,g,hd,j,(Sy l).trans (Rr n).symm,fun i k v e=>?_⟩;obtain⟨b,t,u,p,r⟩:=uZ n e;have q:=entry_at l i;rw[t]at q;exact⟨_,b.2.1,q,rfl,p,r⟩
end
section
variable {P:Program}{w:World}{K:PySem.W.Frag}{d:Addr}{o:Obj}{es:Array DictEntry}{y:Nat}
theorem BS{n:List (List Key×V)}{x:List Expr}{kk:Nat}{J:Pos}(c:Addr)(G:o.data=.dict es y):
 Turn P w K (.Tuple x kk J) (Lh d o n) [c] c (fun i h=>∃ t u,IsItemIter h c d i es.size y t u) where
 mem:=by simp
 obj:=fun i h f b g=>by
  obtain rfl:b=c:=by simpa using g
  obtain⟨t,u,e⟩:=f;exact⟨_,e,fun v z=>nomatch z⟩
 keep:=fun i h O f k=>let ⟨t,u,e⟩:=f;⟨t,u,k c (by simp) _ e⟩
 item:=by
  intro X T hw R hc i j s σ H E I hf f hg;subst T hw R;obtain⟨hd,hi⟩:=hg;obtain⟨N,M,m,a,a0,B⟩:=I.Kw hd;obtain⟨rfl,rfl⟩:=Er G a;obtain⟨⟨k,v⟩,D⟩:∃ p,n[i]?=some p:=⟨n[i],O7 hi⟩
  obtain⟨r,q,Z,C,hq,rv⟩:=B i k v D;obtain⟨t,u,L⟩:=f;have F:c<s.heap.objs.size:=OY L;refine wL L m a Z fun O ho hT hz hk=>?_;refine⟨_,rfl,wpAny_letOwnedTupleGo_items (s:={ s with heap:=O }) ho fun l Y sb=>?_⟩;have U:l.get? s.heap.objs.size=some { cls:=.type "tuple",data:=.seq #[r.key,r.val] }:=(sb.2 _ (Q7 F)).trans hT;have a3:cG X.prog X.w (upd H s.heap.objs.size (.tup [.ref q,v])) l s.heap.objs.size (.tup [.ref q,v]):=⟨by show 2<=sizeLine;decide,[r.key,r.val],.cons C (.cons rv .nil),⟨_,U,rfl,_,rfl⟩⟩
  have I1:Inv X j σ (upd H s.heap.objs.size (.tup [.ref q,v])) { s with heap:=l }:=I.rk (t':=s.toks) (ch:=[c]) (fun b ob g e=>(sb.2 b (by simpa using g)).trans (hk b ob (by simpa using g) e)) hf (OE _) a3;refine⟨.ref s.heap.objs.size,_,I1,rfl,⟨_,k,v,q,D,rfl,I.de.fresh (OE _),hq,rfl⟩,⟨r.key,r.val,Y⟩,fun b g=>?_⟩;obtain rfl:b=c:=by simpa using g
  rw[aq (Pr F)];exact(hf b (by simp)).1
 done:=by intro X T hw R hc i j s σ H E I hf f hg;subst T hw R;obtain⟨hd,hi⟩:=hg;obtain⟨f0,f1,f2,f3,f4,f5⟩:=hf c (by simp);obtain⟨N,M,m,a,a0,B⟩:=I.Kw hd;obtain⟨rfl,rfl⟩:=Er G a;obtain⟨t,u,L⟩:=f;exact yA (I.ok.hd hc) L m a (by omega) fun O eb=>⟨rfl,I.turned (t':=s.toks) (fun b ob g e=>eb b ob g e) f0 f1 f3 f4 f5⟩
 self:=fun A i s Q E f h=>let ⟨_,_,e⟩:=f;PySem.W.kcp_self e h
end
def Jh(c:TE):TI:=fun e H R=>c e H fun x b=>∃ d o a,x=.ref d/\b d=some (.jP o (.dT a))/\R (Lh d o a) b
section
variable {X:Cx}{e:Expr}{t:TE}{v y:Pos}
theorem F3{f:List Expr}{z:Nat}{g:Pos}(J:PE X e t)(i:attributeBase e "items" X.env (eval e X.env)=eval e X.env:=by rfl)(k:(v.endLine==y.line)=true:=by rfl):
 PI X (.Tuple f z g) (.Call (.Attribute e "items" v) [] [] y) (Jh t):=by
 intro a s p H R I h;refine Tp (T:="dict") (id:="dict.items") i rfl k F.plainAttrs_dict F.slot_dict_items F.type_dict_items (cj (J a s p H _ I h) fun u c ⟨x,B,r,N,d,o,M,G,hd,q⟩=>?_);subst G;obtain rfl:u=Value.ref d:=N;obtain⟨hs,j,hx,Q,P,l,L,E⟩:=r.N4 hd;have n:c.TypeIs (.ref d) "dict":=⟨o,j,hx.1⟩
 refine⟨n,fun O D=>by cases D;exact⟨o,j,hx.2.1⟩,?_⟩;have C:Inv X a p B { c with heap:=c.heap.push { cls:=.type "dict_items",data:=.fields #[.ref d] } }:=r.kept (t':=c.toks) fun b U q=>OD _ q;have m:wpAny (model X.prog X.w) X.A (pyIter (.ref c.heap.objs.size)) (Nq X a p (.Tuple f z g) R) X.xe { c with heap:=c.heap.push { cls:=.type "dict_items",data:=.fields #[.ref d] } }:=xa (d:=d) ⟨_,OU _ rfl,rfl,rfl⟩ (OD _ j) l (yG (tk:=c.toks) C _ (BS _ l) ⟨.none,.none,OU _ rfl⟩ q);show wpAny _ _ (callWith y (.builtin "dict.items") [.ref d] [] []) _ X.xe c;exact method_meetsIn F.slot_dict_items F.entry_dict_items rfl (RQ ⟨rfl,n,F.args_dict_items_1 _,_,w6 d hs,n,m⟩)
theorem B0:jI X (.builtin "len") (fun xs H Q=>∃ a b,xs=[V.ref a]/\H a=some (.dT b)/\Q (.int b.length) H):=by intro f s n H xs us Q I r h;obtain⟨a,b,rfl,ha,q⟩:=h;obtain⟨u,rfl,l⟩:=vals1 r;cases l;obtain⟨z,hs,xs,k,o,g,m,j,hx,d,i,_⟩:=I.de a _ ha;have c:g.size=b.length:=(Sy i).trans (Rr k).symm;refine J4 hs j hx d (by rw[c];rw[T2]at z;omega) ?_;rw[c];exact⟨.int b.length,H,I.tok _,⟨_,rfl⟩,q⟩
end
section
variable {X:Cx}{E:EX}{x y:Str}{C u:Addr}{j l p m t r:Pos}{i:Nat}{v:List ExceptHandler}{k:Addr->Option Addr->TS}
theorem wt(hX:EY X E)(G:∀ e,PassesOwnAt (model X.prog X.w) (X.A.mark (some (.ref e))) X.A X.env X.xe)(hg:Gl X x)(hm:X.mg x=some (.ref C))(hC:oI X.K C=true)(b0:Gl X y)(b1:X.mg y=some (.ref u))(P:oI X.K u=true)(hr:PH X v k)
 (hd:(x==("__debug__":Str))=false:=by decide) (a9:(y==("__debug__":Str))=false:=by decide):
 PH X (.ExceptHandler (some (.Name x j)) none [.Raise (some (.Call (.Name y l) [] [] p)) (some (.Constant .none i r)) t] m::v) (fun c d D σ H=>if c=C then d=none/\∀ e,E u (some e) σ H else k c d D σ H):=by
 intro f s σ H D e c T d I hc lo xo lT ne tb q;obtain⟨nm,qn,N,bs,R,sn,sub,ab,a4,dd,k0,k1,k2,k3,k5,mN,O,_,_⟩:=rp I.lZ hC;obtain⟨d8,e0,N',c7,a8,e1,c5,c6,c4,c8,d0,d2,d3,d4,d5,d6,a6,_,_⟩:=rp I.lZ hc;obtain⟨oe,vs,he,c1,d1,z1,q1,q2⟩:=id xo;refine wpAny_handleBy_cons (Uj (ji (X:=X.CC e fun _ _=>False) I.CC hg hm ?_ hd)) (by intro q;cases q);by_cases h:c=C
 .subst h;rw[Oy rfl]at q;obtain⟨rfl,q⟩:=q;obtain⟨hh,g,dr,tk,os⟩:=s;refine Tv O he c1 (by decide) (T9 ?_);refine zt I xo lT ne tb fun s' _ _ _ I' c3 _=>?_;refine wpAny_passesOwnAt (G e) (RI ?_);obtain⟨b5,b8,N2,a3,B,b9,Z,a0,J,L,j0,j1,j2,j3,j5,d7,hY,a7,W⟩:=rp I'.lZ P;rw[arm_exec_Raise];refine Oz (Rt ?_);obtain⟨b6,c2,U,_,a5,_,_,b7⟩:=id c3;refine tG (C:=u) (nm:=b5) (q:=b8) (N:=N2) (bs:=a3) (bm:=u6) (hdct:=B) (sn:=b9) (sub:=Z) (ab:=a0) (col:=J) (dd:=L) (k0:=j0) (k1:=j1) (k2:=j2) (k3:=j3) (k5:=j5) (newId:="Exception.__new__") (hd:=e) (by decide) rfl
   (fun Q s2 hq=>Oz (Tc (Oz (Rt (OK hq))))) ?_
  refine Oz (wpAny_Call_ofName (ji (X:=X.CC e X.xe) I'.CC b0 b1 ?_ a9));obtain⟨hp,g2,c9,c0,d9⟩:=s';unfold callWith;refine Oz (QE (evalArgs_empty (Oz (Rt ?_))));show wpAny _ _ (keeperOf (.ref u) >>= _) _ _ _;refine Oz (wpAny_keeperOf_exc hY ?_);refine Oz (wpAny_call_exc_sub (hrest:=O1 _) Tu hY a7 W fun h' M a=>Oz (QE (wpAny_point (OK ?_))));refine Oz (Rt (OK ?_));obtain⟨t2,b3,_,_⟩:=a.there;obtain⟨I2,Y,x2⟩:=IT I' a;have b4:M≠e:=fun z=>by have:=a.new;rw[z,U]at this;cases this
  refine⟨M,t2,b6,c2,rfl,a.keeps _ _ hY,b3,b4,a.keeps _ _ U,a5,b7,fun h3 sb e3=>?_⟩;have k3:Kept (vc X.stack) [M] h' h3:=⟨fun b o z _ n=>(sb.2 b (by simpa using n)).trans z,fun b o z _ n=>⟨o.slots,(sb.2 b (by simpa using n)).trans z⟩⟩
  have I3:=I2.xH (t':=c0) k3 fun b hb=>by
   have:b=M:=by simpa using hb
   rw[this];exact Y
  exact hX f σ H _ M u (some e) I3 ⟨P,Y,.inl ⟨_,_,e3,rfl,rfl,rfl,rfl,rfl⟩⟩ (q e)
 .rw[Ox h]at q;obtain⟨hh,g,dr,tk,os⟩:=s;refine kN a6 O he c1 h ?_;exact hr f _ σ H D e c T d I hc lo xo lT ne tb q
end
end L2
namespace PySem
open Sem (wp)
namespace F
theorem DG:typeLookup (.type "list_reverseiterator") "__len__"=pure none:=by rw[typeLookup_type,Ul];kernel_rfl
theorem IE:typeLookup (.type "list_reverseiterator") "__length_hint__"=pure (some (.builtin "list_reverseiterator.__length_hint__")):=by rw[typeLookup_type,Ul];kernel_rfl
theorem II:isSubtype (.type "list_reverseiterator") (.type "list_reverseiterator")=pure true:=by rw[isSubtype_type];kernel_rfl
end F
section
variable {prog:Program}{w:World}{A:Around}{E:Value->Shared->Prop}{s:Shared}{R:Result->Shared->Prop}{I l S:Addr}{items:Array Value}
theorem CB(z:A.handled=none)(k:Value)(g:Nat)(c:s.heap.IsRevIter I l ((items.size:Int) - 1))(hl:s.heap.IsList l items)(t:l≠I)(h:S≠I)(r:S≠l)(hn:items.size<=sizeLine)(y:s.heap.get? S=some { cls:=.type "list",data:=.seq #[] g })
 (x:∀ n C a d,(∀ b o,b≠S->b≠I->s.heap.get? b=some o->n.get? b=some o)->n.get? S=some { cls:=.type "list",dict:=none,data:=.seq a d,slots:=#[] } -> ItemsOf (fun i v=>items[items.size - 1 - i]?=some v) a items.size->R (.ok (.ret k)) { s with heap:=n,toks:=C }):
 wpAny (model prog w) A.in1 (Builtin.List.listExtendWith (.ref S) (.ref I) k) (fun m s'=>match m with | .done f=>R (.ok f) s' | .again d=>d.quiet=true/\codeAny (model prog w) A d R s') (fun e s'=>R (.error e) s') s:=by
 unfold Builtin.List.listExtendWith;refine Oz (wpAny_typeOf c.typeIs ?_);simp only[show Builtin.List.listSameRef (.ref S) (.ref I)=false by simp[Builtin.List.listSameRef,h],show(Value.type "list_reverseiterator"==Value.type "list")=false by decide,show(Value.type "list_reverseiterator"==Value.type "tuple")=false by decide,Bool.or_false,RX,Ry];refine Oz (wpAny_pyIter_revIter c (Oz (QE ?_)));unfold Builtin.List.listLengthHint;refine Oz (TR c.typeIs F.DG ?_);show wpAny _ A.in1 (specialOf (Value.ref I) (Str.ofString "__length_hint__") >>= _) _ _ _;refine Oz (TR c.typeIs F.IE ?_)
 wp_delta
 refine Oz (TF (T:="list_reverseiterator") (b:=true) c.typeIs (by first | exact F.II | (rw[isSubtype_type];kernel_rfl)) ?_);show wpAny _ _ (pure false) _ _ _;refine OK ?_;rw[Ox (by decide)];have W:=(Walks.listRev (prog:=prog) (w:=w) (A:=A.in1) z I l t items).toS;have q:S∉[I,l]:=by simp[h,r]
 refine OK ⟨plainId_quiet F.plain_extend_loop _,codeAny_extend_loopS W hn _ q _ items.size 0 _ _ _ rfl (O1 _) ⟨O1 _,by simpa using c,hl⟩ y (ItemsOf.nil _) fun s' a d u p j=>?_⟩;rw[Moved.eq_with u];exact x s'.heap s'.toks a d (fun b B h1 h2 e=>u.heap b B (by simp[h1,h2]) e) p j
theorem Hu(z:A.handled=none)(r:s.heap.IsRevIter I l ((items.size:Int) - 1))(hl:s.heap.IsList l items)(t:l≠I)(j:S≠I)(k:S≠l)(hn:items.size<=sizeLine)(p:s.heap.get? S=some { cls:=.type "list",data:=.seq #[] })
 (x:∀ h u a g,(∀ b o,b≠S->b≠I->s.heap.get? b=some o->h.get? b=some o)->h.get? S=some { cls:=.type "list",dict:=none,data:=.seq a g,slots:=#[] } -> ItemsOf (fun i v=>items[items.size - 1 - i]?=some v) a items.size->R (.ok (.ret .none)) { s with heap:=h,toks:=u }):
 wpAny (model prog w) A.in1 (Builtin.«list.__init__» ⟨[.ref S,.ref I],[]⟩) (fun n s'=>match n with | .done f=>R (.ok f) s' | .again g=>g.quiet=true/\codeAny (model prog w) A g R s') (fun e s'=>R (.error e) s') s:=by
 show wpAny _ _ (do let old <-Builtin.List.listItems (.ref S);Builtin.List.listUpdate (.ref S) (fun _=>#[]);letGo old.toList.reverse;Builtin.List.listExtendWith (.ref S) (.ref I) .none) _ _ s;refine Oz ?_;unfold Builtin.List.listItems;refine Oz (wpAny_seqItems p rfl (OK ?_));show wpAny _ _ (updateSeq S (fun _=>#[]) >>= fun _=>letGo (#[]:Array Value).toList.reverse >>= fun _=>Builtin.List.listExtendWith (.ref S) (.ref I) .none) _ _ s;have c:=Qm (Obj.mapSeq (fun _=>(#[]:Array Value))) p rfl;have d:∀ b o,b≠S->s.heap.get? b=some o->(s.heap.update S (Obj.mapSeq (fun _=>(#[]:Array Value)))).get? b=some o:=fun b o y e=>(Py _ _ (OL y)).trans e;refine Oz (wpAny_updateSeq p rfl (Oz (Ub (CB (s:={ s with heap:=s.heap.update S (Obj.mapSeq (fun _=>(#[]:Array Value))) }) z .none _ (r.at fun o e=>d _ _ (OL j) e) (hl.at fun o e=>d _ _ (OL k) e) t j k hn c fun h u a g B q m=>?_))));exact x h u a g (fun b o h1 h2 e=>B b o h1 h2 (d b o h1 e)) q m
theorem wJ{Q:Value->Shared->Prop}(y:A.handled=none)(g:s.heap.IsRevIter I l ((items.size:Int) - 1))(hl:s.heap.IsList l items)(n:l≠I)(hn:items.size<=sizeLine)
 (x:∀ d r a k,(∀ b o,b≠I->s.heap.get? b=some o->d.get? b=some o)->d.get? s.heap.objs.size=some { cls:=.type "list",dict:=none,data:=.seq a k,slots:=#[] } -> ItemsOf (fun i v=>items[items.size - 1 - i]?=some v) a items.size->Q (.ref s.heap.objs.size) { s with heap:=d,toks:=r }):wpAny (model prog w) A (call (.type "list") [.ref I]) Q E s:=by
 have p:I<s.heap.objs.size:=by obtain⟨_,e,_⟩:=g;exact OY e
 have q:l<s.heap.objs.size:=by obtain⟨_,e,_⟩:=hl;exact OY e
 refine callType_codes (Q₁:=fun j c=>j=.ref s.heap.objs.size/\c={ s with heap:=s.heap.push { cls:=.type "list",data:=.seq #[] } }) F.called_list (F.typeCall_list_1 _) F.entry_list_init (code_list_new _ ⟨rfl,rfl⟩) fun j c h=>?_;obtain⟨rfl,rfl⟩:=h;have u:(s.heap.push { cls:=.type "list",data:=.seq #[] }).get? s.heap.objs.size=some { cls:=.type "list",data:=.seq #[] }:=OU _ rfl;refine⟨⟨_,u,rfl⟩,F.args_list_init_2 _ _,Hu (A:=A.in1) (S:=s.heap.objs.size) (s:={ s with heap:=s.heap.push { cls:=.type "list",data:=.seq #[] } }) y (g.at fun o e=>OD _ e) (hl.at fun o e=>OD _ e) n (Q7 p) (Q7 q) hn u fun d r a k z m f=>?_⟩;exact⟨rfl,x d r a k (fun b o h1 e=>z b o (Pr (OY e)) h1 (OD _ e)) m f⟩
end
end PySem
namespace PySem
open Sem (wp)
open AutoSeq1 (wpAny_loadPart')
theorem rO(l:Addr)(a:Array Value)(n:Nat)(u:Tok)(b:Option Addr)(k:Array (Option Value)):Meets (Builtin.«enumerate.__new__» ⟨[.type "enumerate",.ref l],[("start",.int 1 u)]⟩) (fun _ R s=>s.heap.get? l=some { cls:=.type "list",dict:=b,data:=.seq a n,slots:=k } /\
 R (.ok (.ret (.ref (s.heap.push { cls:=.type "list_iterator",data:=.fields #[.ref l,.int 0 0] }).objs.size))) { s with heap:=(s.heap.push { cls:=.type "list_iterator",data:=.fields #[.ref l,.int 0 0] }).push { cls:=.type "enumerate",data:=.fields #[.none,.bool false,.ref s.heap.objs.size,rawInt 1,.none,.none] } }):=.of_wp fun prog w A R s h=>by
 obtain⟨i,g,d,m,j⟩:=s;obtain⟨hl,h⟩:=h;have f:=sub_enumerate;have e:Heap.IsList (Shared.heap ⟨i,g,d,m,j⟩) l a:=⟨_,hl,rfl,n,rfl⟩
 wp_walk using wpAny_loadPart' hl
 refine wpAny_stack_any fun o=>OK ?_;split
 .rename_i c _ _ _ _ _;cases (c==Value.type "enumerate");·(wp_walk using wpAny_loadPart' hl,Rz e);exact⟨_,rfl,h⟩
  ·(wp_walk using wpAny_loadPart' hl,Rz e);exact⟨_,rfl,h⟩
 ·(wp_walk using wpAny_loadPart' hl,Rz e);exact⟨_,rfl,h⟩
theorem Kb(a v:Value):checkTypeCall "enumerate" ⟨[a],[("start",v)]⟩=pure ():=by kernel_rfl
theorem J5(a v:Value):checkBuiltinCall "enumerate.__new__" ⟨[.type "enumerate",a],[("start",v)]⟩=pure ():=by kernel_rfl
theorem Kn(b a v:Value):argsOk "object.__init__" ⟨[b,a],[("start",v)]⟩:=by unfold argsOk;rw[signature?_of (id:="object.__init__") (n:=['_','_','t','i','n','i','_','_']) (o:=['t','c','e','j','b','o']) (by kernel_rfl) F.owner_object];first | kernel_rfl | rfl
theorem Ic(self a v:Value):Meets (Builtin.«object.__init__» ⟨[self,a],[("start",v)]⟩) (fun _ R s=>s.TypeIs self "enumerate"/\R (.ok (.ret .none)) s):=by
 refine Meets.of_wp fun prog w A R s hs=>?_;obtain⟨c,b⟩:=hs;have hl:=Tb.init.lookup;have d:=Tb.made
 repeat (any_goals (first | assumption | wp_step))
 exact⟨_,rfl,b⟩
section
variable {prog:Program}{w:World}{A:Around}{E:Value->Shared->Prop}{s:Shared}
theorem tS{l:Addr}{f:Array Value}{u:Tok}{Q:Value->Shared->Prop}(L:s.heap.IsList l f)
 (h:∀ m,IsEnum m (s.heap.objs.size+1) s.heap.objs.size 1 .none->m.IsListIter s.heap.objs.size l 0->m.objs.size=s.heap.objs.size+2->(∀ b o,s.heap.get? b=some o->m.get? b=some o)->Q (.ref (s.heap.objs.size+1)) { s with heap:=m }):
 wpAny (model prog w) A (call (.type "enumerate") [.ref l] [("start",.int 1 u)]) Q E s:=by
 obtain⟨⟨G,q,H,P⟩,hl,hc,n,hd⟩:=L;replace hc:G=.type "list":=hc;replace hd:H=.seq f n:=hd;subst hc hd;have i:=Tb;obtain⟨c,tl,B⟩:=i.mro;have v:=i.made;have D:=i.sub;have N:=Kb (.ref l) (.int 1 u);refine Us (codeAny_of_tree ?_);show wpAny _ _ (callAny (.type "enumerate") _) _ _ _;refine OK ⟨Code.quiet_builtin _ (by decide +kernel),codeAny_builtin F.entry_type_call ?_⟩;rw[Around.under_plain (weight_type_call_type "enumerate" [.ref l] [("start",.int 1 u)]) (units_type_call_type "enumerate" [.ref l] [("start",.int 1 u)])];have h1:=i.notType;have h2:=i.canCreate
 repeat (any_goals (first | assumption | wp_step))
 refine RC (codeAny_call_builtin i.plain F.entry_enumerate_new (wpAny_of_eq (J5 _ _) (rO l f n u q P prog w A.in1 (wants (fun a g=>a=.ref (s.heap.objs.size+1)/\g.TypeIs a "enumerate"/\Q a g) E) s ⟨hl,?_⟩))) fun r g x=>?_;.have y:(s.heap.push { cls:=.type "list_iterator",data:=.fields #[.ref l,.int 0 0] }).objs.size=s.heap.objs.size+1:=PD ..;show _/\_;rw[y];have t:=OU (s.heap.push { cls:=.type "list_iterator",data:=.fields #[.ref l,.int 0 0] }) (o:={ cls:=.type "enumerate",data:=.fields #[.none,.bool false,.ref s.heap.objs.size,rawInt 1,.none,.none] }) rfl;rw[y]at t;have J:=OD { cls:=.type "enumerate",data:=.fields #[.none,.bool false,.ref s.heap.objs.size,rawInt 1,.none,.none] } (OU s.heap (o:={ cls:=.type "list_iterator",data:=.fields #[.ref l,.int 0 0] }) rfl);refine⟨rfl,⟨_,t,rfl⟩,h _ t ⟨_,J,rfl,rfl⟩ (by rw[PD,y]) fun b o e=>OD _ (OD _ e)⟩
 .cases r with
  | error e=>exact x
  | ok I=>
    cases I with
    | ret a=>
      obtain⟨_,z,C⟩:=x;have O:=i.init.lookup;have M:=i.init.bind a
      repeat (any_goals (first | assumption | wp_step))
      refine RC (codeAny_call_builtin i.init.plain F.entry_object_init (i.init.check _ _ _ _ _ _ _ _ z (Kn a _ _) (Ic a _ _ prog w A.in1 (wants (fun r j=>r=.none/\Q a j) E) g ⟨z,rfl,C⟩))) fun p j d=>?_;cases p with
      | error e=>exact d
      | ok k=>
        cases k with
        | ret r=>
          obtain⟨rfl,C⟩:=d
          repeat (any_goals (first | assumption | wp_step))
        | _=>exact d.elim
    | _=>exact x.elim
end
end PySem
namespace PySem
open Sem (wp)
section
variable {prog:Program}{w:World}{A:Around}{E:Value->Shared->Prop}{s:Shared}
theorem Df{e n l:Addr}{c:Int}{i:Nat}{M:Array Value}{x H:Value}{Q:Option Value->Shared->Prop}(he:IsEnum s.heap e n c H)(a8:s.heap.IsListIter n l i)(hl:s.heap.IsList l M)(hx:M[i]?=some x)(G:e≠n)
 (hQ:∀ h',IsEnumOut h' e n (c+1) x s.heap.objs.size->h'.IsListIter n l (i+1)->h'.get? s.heap.objs.size=some { cls:=.type "tuple",data:=.seq #[.int c s.toks,x] }->h'.objs.size=s.heap.objs.size+1 -> (∀ b o,b≠e->b≠n->s.heap.get? b=some o->h'.get? b=some o)->Q (some (.ref s.heap.objs.size)) { s with heap:=h',toks:=s.toks+1 }):wpAny (model prog w) A (pyNext (.ref e)) Q E s:=by
 have hT:s.TypeIs (.ref e) "enumerate":=⟨_,he,rfl⟩
 unfold pyNext;refine Oz (Th (QZ (name:=Str.ofString "__next__") hT RH (RK RH hT Uc ?_ (TN _))));obtain⟨N,g,d,I,R⟩:=s;have a7:e<N.objs.size:=OY he;show wpAny _ _ (field (.ref e) 2 >>= _) _ _ _;refine Oz (P8 he rfl (x:=.ref n) rfl (Oz (wpAny_nextOf_list_item a8 hl hx fun a O (t:Heap.SameBut n N a)=>?_)));have p:IsEnum a e n c H:=(t.2 e G).trans he;show wpAny _ _ (field (.ref e) 3 >>= _) _ _ ⟨a,g,d,I,R⟩;refine Oz (P8 p rfl (x:=rawInt c) rfl ?_);show wpAny _ _ (field (.ref e) 4 >>= _) _ _ ⟨a,g,d,I,R⟩;refine Oz (P8 p rfl (x:=.none) rfl ?_);show wpAny _ _ (mkInt c >>= _) _ _ ⟨a,g,d,I,R⟩;refine Oz (wpAny_mkInt ?_);show wpAny _ _ (setField (.ref e) 3 (rawInt (c+1)) >>= _) _ _ ⟨a,g,d,I+1,R⟩;refine Oz (Qd p (by simp) fun C (W:IsEnum C e n (c+1) H) (u:Heap.SameBut e a C)=>?_);show wpAny _ _ (setField (.ref e) 4 .none >>= _) _ _ ⟨C,g,d,I+1,R⟩;refine Oz (Qd W (by simp) fun h (X:IsEnum h e n (c+1) H) (v:Heap.SameBut e C h)=>?_);show wpAny _ _ (newTuple [.int c I,x] >>= _) _ _ ⟨h,g,d,I+1,R⟩;refine Oz (wpAny_newTuple ?_);have j:IsEnum (h.push { cls:=.type "tuple",data:=.seq #[.int c I,x] }) e n (c+1) H:=OD _ X;generalize k:h.push { cls:=.type "tuple",data:=.seq #[.int c I,x] }=f at j;have a4:h.objs.size=N.objs.size:=by rw[v.1,u.1,t.1]
 have a5:f.get? N.objs.size=some { cls:=.type "tuple",data:=.seq #[.int c I,x] }:=by rw[<-k,<-a4];exact OU _ rfl
 have a6:f.objs.size=N.objs.size+1:=by rw[<-k,PD,a4]
 have a3:∀ b o,b≠e->b≠n->N.get? b=some o->f.get? b=some o:=fun b o J U T=>(by rw[<-k];exact OD _ (v.extBut b o J (u.extBut b o J (t.extBut b o U T))))
 have P:f.IsListIter n l (i+1):=by rw[<-k];obtain⟨o,ho,r⟩:=(O.extBut u.extBut (OL G)).extBut v.extBut (OL G);exact⟨o,OD _ ho,r⟩
 show wpAny _ _ (Builtin.SmallTypes.ownedTupleIsFree (.ref e) >>= _) _ _ ⟨f,g,d,I+1,R⟩;rw[a4];refine Oz ?_;unfold Builtin.SmallTypes.ownedTupleIsFree;refine Oz (P8 j rfl (x:=.none) rfl (OK ?_));simp only[Qz];refine Oz (wpAny_rule (Oz (P8 j rfl (x:=H) rfl ?_)));refine Oz (Qd j (by simp) fun D (Y:IsEnum D e n (c+1) x) (y:Heap.SameBut e f D)=>?_);show wpAny _ _ (Builtin.SmallTypes.ownedTupleHandOut (.ref e) (.ref N.objs.size) >>= _) _ _ ⟨D,g,d,I+1,R⟩;refine Oz ?_;unfold Builtin.SmallTypes.ownedTupleHandOut;refine Oz (Qd Y (by simp) fun L (Z:IsEnumOut L e n (c+1) x N.objs.size) (z:Heap.SameBut e D L)=>?_);refine Qd Z (by simp) fun m (a0:IsEnumOut m e n (c+1) x N.objs.size) (B:Heap.SameBut e L m)=>?_;have k7:∀ b o,b≠e->f.get? b=some o->m.get? b=some o:=fun b o T q=>B.extBut b o T (z.extBut b o T (y.extBut b o T q));exact Oz (Ub (OK ⟨_,rfl,OK (hQ m a0 (((P.extBut y.extBut (OL G)).extBut z.extBut (OL G)).extBut B.extBut (OL G)) (k7 _ _ (Q7 a7) a5) (by show m.objs.size=N.objs.size+1;rw[B.1,z.1,y.1,a6]) fun b o J U T=>k7 b o J (a3 b o J U T))⟩))
theorem E8{e d l:Addr}{c:Int}{i:Nat}{a:Array Value}{k:Value}{Q:Option Value->Shared->Prop}(q:A.handled=none)(n:IsEnum s.heap e d c k)(h:s.heap.IsListIter d l i)(hl:s.heap.IsList l a)(hx:a[i]?=none)
 (p:∀ f,Heap.ExtBut d s.heap f->Q none { s with heap:=f }):wpAny (model prog w) A (pyNext (.ref e)) Q E s:=by
 have m:s.TypeIs (.ref e) "enumerate":=⟨_,n,rfl⟩
 unfold pyNext;refine Oz (Th (QZ (name:=Str.ofString "__next__") m RH (RK RH m Uc ?_ (TN _))));show wpAny _ _ (field (.ref e) 2 >>= _) _ _ _;refine Oz (P8 n rfl (x:=.ref d) rfl (Oz (wpAny_nextOf_list_end q h hl hx fun f x g j=>?_)));obtain⟨o,r,hc⟩:=j;refine Oz (TF (T:="StopIteration") (b:=true) ⟨o,r,hc⟩ isSubtype_stop ?_);exact OK (p _ g)
end
end PySem
namespace Ps
open PySem PySem.Spec PyProof.Rows L2
def top(i:Nat):Stmt:=PySem.Challenge.pw_plainsettings_s01_answers.main.body.getD i (.Pass ⟨0,0,0,0⟩)
structure bZ where
 f:String->Addr
 d:String->FuncData
 c:String->Addr
 k:String->Tok
variable {P:Program}{w:World}{K:PySem.W.Frag}{mg:Str->Option Value}{base:Heap}{t:bZ}
abbrev GI(mg:Str->Option Value)(t:bZ)(x:String)(n:Int):Prop:=mg x=some (.int n (t.k x))
abbrev GS(mg:Str->Option Value)(t:bZ)(x y:String):Prop:=mg x=some (.str y (t.k x))
abbrev GR(mg:Str->Option Value)(t:bZ)(x:String):Prop:=mg x=some (.ref (t.c x))
theorem GI.e{X:Cx}{a:Pos}{x:String}{n:Int}(h:GI X.mg t x n)(b:Gl X x:=by rfl)(hd:(Str.ofString x==("__debug__":Str))=false:=by decide):PE X (.Name x a) (tC (.int n)):=uj b h ⟨_,rfl⟩ hd
theorem GS.e{X:Cx}{a:Pos}{x y:String}(h:GS X.mg t x y)(b:Gl X x:=by rfl)(hd:(Str.ofString x==("__debug__":Str))=false:=by decide):PE X (.Name x a) (tC (.str y)):=uj b h ⟨_,rfl⟩ hd
theorem GR.e{X:Cx}{a:Pos}{x:String}(h:GR X.mg t x)(b:Gl X x:=by rfl)(hd:(Str.ofString x==("__debug__":Str))=false:=by decide):PE X (.Name x a) (tC (.ref (t.c x))):=uj b h rfl hd
structure FF(K:PySem.W.Frag)(t:bZ)(x q:String)(st:Stmt)(N ps:List Str):Prop where
 F:Jd K x q st (t.f q) (t.d q)
 b:Binds K (t.d q) ps []
 s:jk N ps (bf st)
structure FP(K:PySem.W.Frag)(mg:Str->Option Value)(t:bZ)(x:String)(st:Stmt)(N ps:List Str):Prop extends FF K t x x st N ps where
 m:mg x=some (.ref (t.f x))
structure FM(K:PySem.W.Frag)(t:bZ)(c x q:String)(st:Stmt)(N ps:List Str):Prop extends FF K t x q st N ps where
 m:Meth K (t.c c) x (t.f q)
section
variable {x q:String}{v:Stmt}{N r:List Str}{X:Cx}{y:Str}{e:Expr}{es:List Expr}{l:TE}{p z:Pos}{k:Nat}{u:Sp}{o:TA}{E:EX}
abbrev FF.Ok(_:FF K t x q v N r)(P:Program)(w:World)(mg:Str->Option Value)(base:Heap)(n:Nat)(u:Sp):Prop:=jD P w K mg base (AK P w K) n (t.f q) (t.d q) r u
theorem FF.fi(f:FF K t x q v N r)(d:∀ vs H Q E,u vs H Q E->vs.length=r.length) (a:∀ (c:Value) (A:Around) (b:List Env) (s:Shared) (H:Hp) (vs:List V) (Q:VK) (E:XK),dO k (A.deeper (envOfC q (bf v) s.heap.objs.size (t.f q) c))->u vs H Q E -> ∃ g,wH (o9 (AK P w K) P w K mg base N q (bf v) (t.f q) c A b s H E).IZ (gR v) g/\g { nx:=fun _ h=>Q .ba h,rt:=Q } (start N vs) H):f.Ok P w mg base (k+1) u:=f.F.fi f.s d a
theorem FF.jO(f:FF K t x q v N r)(d:∀ vs H Q E,u vs H Q E->vs.length=r.length) (a:∀ (c:Value) (A:Around) (b:List Env) (s:Shared) (H:Hp) (vs:List V) (Q:VK) (E:XK),dO k (A.deeper (envOfC q (bf v) s.heap.objs.size (t.f q) c))->u vs H Q E -> ∃ g,wH (o9 (AK P w K) P w K mg base N q (bf v) (t.f q) c A b s H E) (gR v) g/\g { nx:=fun _ h=>Q .ba h,rt:=Q } (start N vs) H):f.Ok P w mg base (k+1) u:=f.F.jO f.s d a
theorem FF.set(f:FF K t x q v N r)(i:Nat)(a:PE X e l)(hn:X.N=N:=by rfl)(b:X.N[i]?=some y:=by rfl)(hx:Loc X.env.scope y:=by exact .inl rfl)(hs:swapsWith e (some (.Name y p)) z.line X.env=pure false:=by rfl)(hf:X.fn y=true\/X.env.scope.names.lookup y=some .local:=by first | exact .inl rfl | exact .inr rfl | assumption): PS X (.Assign [.Name y p] e z) (pG l (jd i)):=CK (hn▸f.s.nd) b hx a hs hf
theorem FP.cl(f:FP X.K X.mg t x v N r)(F:jD X.prog X.w X.K X.mg X.base (AK X.prog X.w X.K) k (t.f x) (t.d x) r u)(i:dO k X.A)(ha:PA X (e::es) o)(h:Gl X x:=by rfl)(a:(Str.ofString x==("__debug__":Str))=false:=by decide)(g:starEach (e::es) X.env=(false,eval e X.env)::starEach es X.env:=by rfl)(c:(backTo z (starEach es X.env)).any (·.1)=false:=by rfl): PE X (.Call (.Name x p) (e::es) [] z) (kg u [] E0 o):=J0 F i h f.m f.F.kp f.b .nil bg ha a g c
theorem FP.cX(f:FP X.K X.mg t x v N r)(F:jD X.prog X.w X.K X.mg X.base (AK X.prog X.w X.K) k (t.f x) (t.d x) r u)(j:dO k X.A)(g:EY X E)(ha:PA X (e::es) o)(i:Gl X x:=by rfl)(a:(Str.ofString x==("__debug__":Str))=false:=by decide)(h:starEach (e::es) X.env=(false,eval e X.env)::starEach es X.env:=by rfl)(c:(backTo z (starEach es X.env)).any (·.1)=false:=by rfl): PE X (.Call (.Name x p) (e::es) [] z) (iU u E o):=GW F j i f.m f.F.kp f.b g ha a h c
end
structure EN(mg:Str->Option Value):Prop where
 dh:mg "len"=none
 MK:mg "any"=none
 KA:mg "all"=none
 MJ:mg "sum"=none
 Nf:mg "min"=none
 Mo:mg "max"=none
 KI:mg "ord"=none
 yJ:mg "tuple"=none
 Iu:mg "list"=none
 IH:mg "str"=none
 Ia:mg "int"=none
 yB:mg "range"=none
 ur:mg "reversed"=none
 AA:mg "enumerate"=none
 zq:mg "isinstance"=none
structure BA(K:PySem.W.Frag)(mg:Str->Option Value)(t:bZ):Prop where
 Cz:GI mg t "TEXT" 0
 Ed:GI mg t "WHOLE" 1
 DC:GI mg t "REAL" 2
 Ez:GI mg t "TRUTH" 3
 KS:GI mg t "DAY" 4
 mX:GI mg t "LIST" 5
 qK:GI mg t "TABLE" 6
 ou:GI mg t "WRITTEN" 0
 xJ:GI mg t "BY_KEYS" 1
 lG:GI mg t "ON_THE_WAY" 2
 iB:GI mg t "BY_LINE" 3
 uc:GR mg t "Value"
 aR:xn K (t.c "Value")
 vw:Mk K (t.c "Value") (t.f "Value.__init__")
 bj:da K (t.c "Value") "kind"
 aW:da K (t.c "Value") "content"
 bp:da K (t.c "Value") "origin"
 qi:da K (t.c "Value") "told"
 gO:FF K t "__init__" "Value.__init__" (inClass (top 12) 0) ["self","kind","content","origin"] ["self","kind","content","origin"]
 iC:FP K mg t "written" (top 13) ["kind","content"] ["kind","content"]
 bS:FP K mg t "empty_table" (top 14) ["origin"] ["origin"]
 jq:FP K mg t "empty_list" (top 15) ["origin"] ["origin"]
 pE:FP K mg t "count_of" (top 16) ["value"] ["value"]
structure oM(K:PySem.W.Frag)(mg:Str->Option Value)(t:bZ):Prop where
 gX:FP K mg t "is_character" (top 18) ["code"] ["code"]
 eZ:FP K mg t "shortest_length" (top 19) ["code"] ["code"]
 oq:FP K mg t "utf8_of" (top 20) ["code","length"] ["code"]
 du:FP K mg t "later_byte" (top 21) ["code"] ["code"]
 iu:FP K mg t "length_told_by" (top 22) ["first"] ["first"]
 iS:FP K mg t "bits_of_first" (top 23) ["first","length"] ["first","length"]
 cv:FP K mg t "is_one_character" (top 24) ["row","code","sign"] ["row"]
 ju:FP K mg t "is_utf8" (top 25) ["row","at","length"] ["row"]
structure sE(K:PySem.W.Frag)(mg:Str->Option Value)(t:bZ):Prop where
 bF:GR mg t "Malformed"
 bG:oI K (t.c "Malformed")=true
 gv:GR mg t "CannotBe"
 gs:oI K (t.c "CannotBe")=true
 wm:GR mg t "TooLarge"
 vI:oI K (t.c "TooLarge")=true
 mR:GR mg t "NothingThere"
 mV:oI K (t.c "NothingThere")=true
 vE:GR mg t "NoPath"
 vH:oI K (t.c "NoPath")=true
 xN:GR mg t "TooLong"
 yk:oI K (t.c "TooLong")=true
 sG:GR mg t "OtherKind"
 sY:oI K (t.c "OtherKind")=true
structure B6(K:PySem.W.Frag)(mg:Str->Option Value)(t:bZ):Prop where
 Kt:GI mg t "TAB" 9
 Bt:GI mg t "LINE_FEED" 10
 qW:GI mg t "CARRIAGE_RETURN" 13
 DN:GI mg t "SPACE" 32
 fA:GI mg t "DOUBLE_QUOTE" 34
 oW:GI mg t "NUMBER_SIGN" 35
 jx:GI mg t "SINGLE_QUOTE" 39
 HL:GI mg t "PLUS" 43
 zk:GI mg t "COMMA" 44
 JA:GI mg t "MINUS" 45
 DU:GI mg t "POINT" 46
 G0:GI mg t "ZERO" 48
 Jr:GI mg t "COLON" 58
 Bj:GI mg t "EQUALS" 61
 FG:GI mg t "AT_SIGN" 64
 gM:GI mg t "LEFT_BRACKET" 91
 kb:GI mg t "BACKSLASH" 92
 gp:GI mg t "RIGHT_BRACKET" 93
 yz:GI mg t "UNDERSCORE" 95
 FK:GI mg t "SMALL_U" 117
 qZ:GI mg t "LEFT_BRACE" 123
 oN:GI mg t "RIGHT_BRACE" 125
 Hy:GI mg t "DELETE" 127
 vJ:GS mg t "DIGITS" "0123456789abcdef"
 B1:GI mg t "END" 256
 pf:FP K mg t "is_blank" (top 60) ["sign"] ["sign"]
 jh:FP K mg t "is_control" (top 61) ["sign"] ["sign"]
 lC:FP K mg t "is_digit" (top 62) ["sign"] ["sign"]
 nU:FP K mg t "is_letter" (top 63) ["sign"] ["sign"]
 iL:FP K mg t "is_key_sign" (top 64) ["sign"] ["sign"]
 jA:FP K mg t "is_word_sign" (top 65) ["sign"] ["sign"]
 gw:FP K mg t "bytes_of" (top 66) ["text","sign"] ["text"]
structure oV(K:PySem.W.Frag)(mg:Str->Option Value)(t:bZ):Prop where
 Ad:GI mg t "MOST_KEYS" 32
 xy:GR mg t "ESCAPES"
 mC:GR mg t "CODE_LENGTHS"
 lX:FP K mg t "is_quote" (top 71) ["sign"] ["sign"]
 iF:FP K mg t "read_string" (top 72) ["scan"] ["scan"]
 dt:FP K mg t "read_as_it_is" (top 73) ["scan","content","sign"] ["scan"]
 bY:FP K mg t "read_with_escapes" (top 74) ["scan","content","sign"] ["scan"]
 gd:FP K mg t "read_escape" (top 75) ["scan","sign","code"] ["scan"]
 cu:FP K mg t "read_hexadecimal" (top 76) ["scan","length","code","place"] ["scan","length"]
 fY:FP K mg t "hexadecimal_digit" (top 77) ["sign"] ["sign"]
 ft:FP K mg t "read_keys" (top 78) ["scan","keys"] ["scan"]
 iz:FP K mg t "read_key" (top 79) ["scan","key"] ["scan"]
 gi:FP K mg t "read_bare_key" (top 80) ["scan","key"] ["scan"]
structure DO(K:PySem.W.Frag)(mg:Str->Option Value)(t:bZ):Prop where
 IY:GR mg t "Scan"
 aP:xn K (t.c "Scan")
 Ek:Mk K (t.c "Scan") (t.f "Scan.__init__")
 eF:da K (t.c "Scan") "row"
 fI:da K (t.c "Scan") "at"
 jR:FF K t "__init__" "Scan.__init__" (inClass (top 82) 0) ["self","row"] ["self","row"]
 aU:FM K t "Scan" "sign" "Scan.sign" (inClass (top 82) 1) ["self"] ["self"]
 aX:FM K t "Scan" "step" "Scan.step" (inClass (top 82) 2) ["self","sign"] ["self"]
 bh:FM K t "Scan" "takes" "Scan.takes" (inClass (top 82) 3) ["self","wanted"] ["self","wanted"]
 bc:FM K t "Scan" "must_take" "Scan.must_take" (inClass (top 82) 4) ["self","wanted"] ["self","wanted"]
 aJ:FM K t "Scan" "skip_blanks" "Scan.skip_blanks" (inClass (top 82) 5) ["self"] ["self"]
structure xV(K:PySem.W.Frag)(mg:Str->Option Value)(t:bZ):Prop where
 dJ:FP K mg t "put_setting" (top 84) ["table","keys","value","holder","key"] ["table","keys","value"]
 di:FP K mg t "through_setting_key" (top 85) ["holder","key","found"] ["holder","key"]
 eI:FP K mg t "table_of_line" (top 86) ["whole","keys","holder","found"] ["whole","keys"]
 eT:FP K mg t "row_of_line" (top 87) ["whole","keys","holder","rows","row"] ["whole","keys"]
 dH:FP K mg t "before_last" (top 88) ["whole","keys","holder","key"] ["whole","keys"]
 eC:FP K mg t "through_line_key" (top 89) ["holder","key","found"] ["holder","key"]
structure DZ(K:PySem.W.Frag)(mg:Str->Option Value)(t:bZ):Prop where
 tI:GR mg t "MONTH_LENGTHS"
 vg:GI mg t "DAYS_TO_1970" 719528
 cY:FP K mg t "day_number" (top 93) ["text","year","month","day","before","earlier"] ["text"]
 gT:FP K mg t "has_form_of_day" (top 94) ["text"] ["text"]
 jM:FP K mg t "is_leap_year" (top 95) ["year"] ["year"]
 gZ:FP K mg t "month_length" (top 96) ["year","month"] ["year","month"]
 eu:FP K mg t "days_before_year" (top 97) ["year","leap_years"] ["year"]
structure AX(K:PySem.W.Frag)(mg:Str->Option Value)(t:bZ):Prop where
 pL:GI mg t "INFINITY" 9218868437227405312
 MC:GI mg t "NAN" 9221120237041090560
 CN:GI mg t "SIGN_BIT" 9223372036854775808
 mD:GI mg t "LOWEST_PLACE" 1074
 tO:GI mg t "HIGHEST_REACH" 309
 uM:GI mg t "LOWEST_REACH" 324
 dZ:FP K mg t "number_of" (top 105) ["digits","base","number","digit"] ["digits","base"]
 bJ:FP K mg t "power_of_ten" (top 106) ["exponent","power","square","left"] ["exponent"]
 dW:FP K mg t "nearest_double" (top 107) ["digits","exponent","number","reach"] ["digits","exponent"]
 bQ:FP K mg t "rounded_quotient" (top 108) ["top","bottom","place","parts","bits"] ["top","bottom"]
 ez:FP K mg t "lowest_bit_place" (top 109) ["top","bottom","place"] ["top","bottom"]
 fQ:FP K mg t "divided_at" (top 110) ["top","bottom","place"] ["top","bottom","place"]
 cW:FP K mg t "rounded_half_even" (top 111) ["parts","quotient","twice"] ["parts"]
structure m4(K:PySem.W.Frag)(mg:Str->Option Value)(t:bZ):Prop where
 qR:GS mg t "SIGNS_FROM_PLUS" "+,-./0123456789:;<=>?@ABCDEFGHIJKLMNOPQRSTUVWXYZ[\\]^_`abcdefghijklmnopqrstuvwxyz"
 Ej:GR mg t "BASES"
 mi:GI mg t "HIGHEST_WHOLE" 9223372036854775807
 j8:FP K mg t "read_word" (top 116) ["scan","signs"] ["scan"]
 dq:FP K mg t "value_of_word" (top 117) ["word","day","whole","bits"] ["word"]
 fC:FP K mg t "without_sign" (top 118) ["word"] ["word"]
 bz:FP K mg t "joined_digits" (top 119) ["word","base","digits","parts","part","digit"] ["word","base"]
 dX:FP K mg t "leading_digits" (top 120) ["word","digits"] ["word"]
 qd:FP K mg t "signed" (top 121) ["word","number"] ["word","number"]
 cD:FP K mg t "whole_number" (top 122) ["word","base","digits","number"] ["word"]
 iE:FP K mg t "real_number" (top 123) ["word","bits"] ["word"]
 cf:FP K mg t "unsigned_real" (top 124) ["word","halves","pieces","digits","fraction","exponent"] ["word"]
 iM:FP K mg t "exponent_of" (top 125) ["word","digits"] ["word"]
structure ma(K:PySem.W.Frag)(mg:Str->Option Value)(t:bZ):Prop where
 AZ:GI mg t "MOST_DEEP" 32
 Br:GR mg t "Holder"
 bX:xn K (t.c "Holder")
 xZ:Mk K (t.c "Holder") (t.f "Holder.__init__")
 bT:da K (t.c "Holder") "value"
 fP:da K (t.c "Holder") "closing"
 iy:da K (t.c "Holder") "awaited"
 iI:FF K t "__init__" "Holder.__init__" (inClass (top 128) 0) ["self","value","closing"] ["self","value","closing"]
 fM:FP K mg t "read_value" (top 129) ["scan","holders","value"] ["scan"]
 iH:FP K mg t "begin_value" (top 130) ["scan","holders","sign"] ["scan","holders"]
 gY:FP K mg t "begin_holder" (top 131) ["scan","holders","holder"] ["scan","holders","holder"]
 iG:FP K mg t "go_to_value" (top 132) ["scan","holder"] ["scan","holder"]
 jU:FP K mg t "add_value" (top 133) ["scan","holders","value","holder"] ["scan","holders","value"]
 pj:FP K mg t "put_into" (top 134) ["holder","value"] ["holder","value"]
structure mB(K:PySem.W.Frag)(mg:Str->Option Value)(t:bZ):Prop where
 FX:GI mg t "NOTHING" 0
 ra:GI mg t "TABLE_LINE" 1
 va:GI mg t "ROW_LINE" 2
 xX:GI mg t "SETTING" 3
 zp:GR mg t "Line"
 dQ:xn K (t.c "Line")
 ug:Mk K (t.c "Line") (t.f "Line.__init__")
 dc:da K (t.c "Line") "form"
 jg:da K (t.c "Line") "names"
 qM:da K (t.c "Line") "value"
 gA:FF K t "__init__" "Line.__init__" (inClass (top 140) 0) ["self","form","names","value"] ["self","form","names","value"]
 dI:FP K mg t "split_lines" (top 141) ["text","lines","row","sign"] ["text"]
 fO:FP K mg t "without_return" (top 142) ["row"] ["row"]
 gg:FP K mg t "has_control" (top 143) ["row","sign"] ["row"]
 gC:FP K mg t "read_line" (top 144) ["row","scan","line"] ["row"]
 j7:FP K mg t "is_at_end" (top 145) ["scan"] ["scan"]
 fw:FP K mg t "read_heading" (top 146) ["scan","is_row","names"] ["scan"]
 gP:FP K mg t "read_setting" (top 147) ["scan","names"] ["scan"]
structure AS(K:PySem.W.Frag)(mg:Str->Option Value)(t:bZ):Prop where
 ia:FP K mg t "value_at" (top 149) ["whole","path","value","key"] ["whole","path"]
 fD:FP K mg t "keys_of_path" (top 150) ["path","scan","keys"] ["path"]
 kZ:FP K mg t "member" (top 151) ["value","key","found"] ["value","key"]
 cK:FP K mg t "numbered_member" (top 152) ["content","key","number","sign"] ["content","key"]
 iP:FP K mg t "is_number" (top 153) ["key","sign"] ["key"]
structure uI(K:PySem.W.Frag)(mg:Str->Option Value)(t:bZ):Prop where
 Gw:GR mg t "Reading"
 dD:xn K (t.c "Reading")
 DA:Mk K (t.c "Reading") (t.f "Reading.__init__")
 eM:da K (t.c "Reading") "whole"
 fh:da K (t.c "Reading") "current"
 jC:FF K t "__init__" "Reading.__init__" (inClass (top 155) 0) ["self"] ["self"]
 cV:FM K t "Reading" "take_line" "Reading.take_line" (inClass (top 155) 1) ["self","row","line"] ["self","row"]
structure uN(K:PySem.W.Frag)(mg:Str->Option Value)(t:bZ):Prop where
 mF:FP K mg t "told_once" (top 157) ["value"] ["value"]
 r8:FP K mg t "tell" (top 158) ["value","told","waiting","piece"] ["value"]
 dU:FP K mg t "pieces_of_list" (top 159) ["content","pieces","value"] ["content"]
 cJ:FP K mg t "pieces_of_table" (top 160) ["content","pieces","key","value"] ["content"]
 lJ:FP K mg t "tell_plain" (top 161) ["value"] ["value"]
 gI:FP K mg t "tell_text" (top 162) ["content","told","sign"] ["content"]
 eS:FP K mg t "hexadecimal" (top 163) ["number","length","place"] ["number","length"]
structure Af(K:PySem.W.Frag)(mg:Str->Option Value)(t:bZ):Prop where
 ER:GI mg t "ST_READ" 0
 xG:GI mg t "ST_TOLD" 1
 E9:GI mg t "ST_KIND" 2
 CM:GI mg t "ST_COUNT" 3
 DF:GI mg t "ST_WHOLE" 4
 Gf:GI mg t "ST_REAL" 5
 qS:GI mg t "MOST_BYTES" 65536
 Al:GI mg t "MOST_TOLD" 1048576
 Kh:GR mg t "Store"
 cS:xn K (t.c "Store")
 Hw:Mk K (t.c "Store") (t.f "Store.__init__")
 fN:da K (t.c "Store") "settings"
 lY:FF K t "__init__" "Store.__init__" (inClass (top 173) 0) ["self"] ["self"]
 cQ:FM K t "Store" "st_read" "Store.st_read" (inClass (top 173) 1) ["self","text","reading","number","row"] ["self","text"]
 eJ:FM K t "Store" "st_told" "Store.st_told" (inClass (top 173) 2) ["self","most","path","told"] ["self","most","path"]
 gk:FM K t "Store" "st_kind" "Store.st_kind" (inClass (top 173) 3) ["self","path"] ["self","path"]
 fR:FM K t "Store" "st_count" "Store.st_count" (inClass (top 173) 4) ["self","path"] ["self","path"]
 fE:FM K t "Store" "st_whole" "Store.st_whole" (inClass (top 173) 5) ["self","path"] ["self","path"]
 gh:FM K t "Store" "st_real" "Store.st_real" (inClass (top 173) 6) ["self","path"] ["self","path"]
 bx:FM K t "Store" "number_of_kind" "Store.number_of_kind" (inClass (top 173) 7) ["self","path","kind","value"] ["self","path","kind"]
 bA:FM K t "Store" "value_of" "Store.value_of" (inClass (top 173) 8) ["self","path"] ["self","path"]
 eH:FP K mg t "check_at_most" (top 174) ["number","most"] ["number","most"]
 cM:FP K mg t "answers" (top 175) ["calls","store","given","at","call","most","start","answer"] ["calls"]
 fU:FP K mg t "answer_or_refusal" (top 176) ["store","call","most","row"] ["store","call","most","row"]
 my:FP K mg t "answer_of" (top 177) ["store","call","most","row"] ["store","call","most","row"]
structure Ol(w:World)(K:PySem.W.Frag)(t:bZ):Prop where
 ym:vy w K (t.c "ESCAPES") [(.inl 98,.int 8),(.inl 116,.int 9),(.inl 110,.int 10),(.inl 102,.int 12),(.inl 114,.int 13),(.inl 34,.int 34),(.inl 92,.int 92)]
 mz:vy w K (t.c "CODE_LENGTHS") [(.inl 117,.int 4),(.inl 85,.int 8)]
 uf:vy w K (t.c "BASES") [(.inr "0x",.int 16),(.inr "0o",.int 8),(.inr "0b",.int 2)]
 Jj:JG K (t.c "MONTH_LENGTHS") [.int 31,.int 28,.int 31,.int 30,.int 31,.int 30,.int 31,.int 31,.int 30,.int 31,.int 30,.int 31]
 N9:PySem.W.findIn K (.ref (t.c "Value")) "__class__"=some (some (.builtin "object.__class__"))
 N0:PySem.W.specialIn K (.builtin "object.__class__") "__get__"=some (some (.builtin "getset_descriptor.__get__"))
 Mz:PySem.W.takesIn K (.builtin "object.__class__")=some true
 NO:PySem.W.mroIn K (t.c "Value") (.type "object")=some true
 Lb:PySem.W.kitOne K (.type "list") (.ref (t.c "Value"))=some false
 Nm:PySem.W.kitOne K (.ref (t.c "Value")) (.ref (t.c "Value"))=some true
 MO:(["Malformed","CannotBe","TooLarge","NothingThere","NoPath","TooLong","OtherKind"].map t.c).Nodup
structure Txt(w:World)(K:PySem.W.Frag)(mg:Str->Option Value)(t:bZ):Prop where
 hJ:EN mg
 obs:Ol w K t
 kinds:BA K mg t
 aL:oM K mg t
 aG:sE K mg t
 signs:B6 K mg t
 aF:oV K mg t
 scan:DO K mg t
 tables:xV K mg t
 days:DZ K mg t
 bu:AX K mg t
 aA:m4 K mg t
 az:ma K mg t
 au:mB K mg t
 dM:AS K mg t
 bC:uI K mg t
 telling:uN K mg t
 store:Af K mg t
end Ps
namespace L2
open PySem PySem.Spec PyProof.Rows
def K1(K:PySem.W.Frag)(a:Addr):It:=⟨fun i H=>∃ (xs:List V) (x:V),bB K H a xs/\xs[i]?=some x,fun i H v b=>∃ T x,v=.ref T/\H T=none/\b=upd H T (.tup [.int ((i:Int)+1),x])/\∀ xs,bB K H a xs->xs[i]?=some x,fun i H=>∃ xs:List V,bB K H a xs/\xs.length<=i⟩
theorem Dv{P:Program}{w:World}{K:PySem.W.Frag}{r:List Expr}{kk:Nat}{C:Pos}(a e f:Addr):
 Turn P w K (.Tuple r kk C) (K1 K a) [e,f] e (fun i h=>(∃ d,IsEnum h e f ((i:Int)+1) d)/\h.IsListIter f a i/\e≠f) where
 mem:=by simp
 obj:=fun i h m b g=>by
  obtain⟨⟨d,j⟩,⟨o,T,hc,hd⟩,_⟩:=m;rcases(by simpa using g:b=e\/b=f) with z | z;.rw[z];exact⟨_,j,fun v q=>nomatch q⟩
  .rw[z];exact⟨o,T,fun v q=>by rw[hd]at q;cases q⟩
 keep:=fun i h F m k=>let ⟨⟨d,j⟩,hi,c⟩:=m;⟨⟨d,k e (by simp) _ j⟩,hi.at fun o q=>k f (by simp) o q,c⟩
 item:=by
  intro X J hw G hc i n s σ H E I hf m O;subst J hw G;obtain⟨⟨d,j⟩,l,c⟩:=m;obtain⟨xs,x,D,hx⟩:=O;obtain⟨U,Z,p,hz⟩:=I.list D;obtain⟨u,hu,ru⟩:=Z.get hx;have y:e<s.heap.objs.size:=OY j;have R:f<s.heap.objs.size:=by obtain⟨_,q,_⟩:=l;exact OY q
  refine Df j l p.isList (x:=u) (by simpa using hu) c fun F T B hT a0 hk=>?_;refine⟨_,rfl,wpAny_letOwnedTupleGo_enum (s:={ s with heap:=F,toks:=s.toks+1 }) T fun t N sb=>?_⟩;have L:=(sb.2 _ (Q7 y)).trans hT;have Y:cG X.prog X.w (upd H s.heap.objs.size (.tup [.int ((i:Int)+1),x])) t s.heap.objs.size (.tup [.int ((i:Int)+1),x]):=⟨by show 2<=sizeLine;decide,[.int ((i:Int)+1) s.toks,u],.cons ⟨_,rfl⟩ (.cons ru .nil),⟨_,L,rfl,_,rfl⟩⟩
  have I1:Inv X n σ (upd H s.heap.objs.size (.tup [.int ((i:Int)+1),x])) { s with heap:=t,toks:=s.toks+1 }:=I.rk (ch:=[e,f]) (fun b ob g q=>(sb.2 b (fun z=>g (by simp[z]))).trans (hk b ob (fun z=>g (by simp[z])) (fun z=>g (by simp[z])) q)) hf (OE _) Y;refine⟨.ref s.heap.objs.size,_,I1,rfl,⟨_,x,rfl,I.de.fresh (OE _),rfl,fun ys hy=>by rw[I.AV hy D];exact hx⟩,⟨⟨u,?_⟩,B.at fun o q=>(sb.2 f (OL c)).trans q,c⟩,fun b g=>?_⟩
  .have e1:((i+1:Nat):Int)+1=(i:Int)+1+1:=by omega
   rw[e1];exact N
  .have M:b<s.heap.objs.size:=by
    rcases(by simpa using g:b=e\/b=f) with z | z;.rw[z];exact y
    .rw[z];exact R
   rw[aq (Pr M)];exact(hf b g).1
 done:=by intro X J hw G hc i n s σ H E I hf m O;subst J hw G;obtain⟨⟨d,j⟩,l,c⟩:=m;obtain⟨xs,D,hx⟩:=O;obtain⟨U,Z,p,hz⟩:=I.list D;obtain⟨f0,f1,f2,f3,f4,f5⟩:=hf f (by simp);have hl:=Z.length;exact E8 (I.ok.hd hc) j l p.isList (by simp;omega) fun F eb=>⟨rfl,I.turned (t':=s.toks) (fun b o g q=>eb b o g q) f0 f1 f3 f4 f5⟩
 self:=fun A i s Q E m h=>let ⟨⟨_,j⟩,_⟩:=m;wpAny_pyIter_enum j h
def Lv(K:PySem.W.Frag)(c:TA):TI:=fun d H R=>c d H fun vs b=>∃ a xs,vs=[.ref a]/\bB K b a xs/\R (K1 K a) b
theorem Hi{X:Cx}{e:Expr}{A:TA}{p f l W t:Pos}{y:Nat}{i:List Expr}{U:Nat}(M:Gl X "enumerate")(O:X.mg "enumerate"=none)(ha:PA X [e] A)(hs:starEach [e] X.env=[(false,eval e X.env)]:=by rfl):
 PI X (.Tuple i U l) (.Call (.Name "enumerate" p) [e] [⟨some "start",.Constant (.int 1) y t,W⟩] f) (Lv X.K A):=by
 intro c s o H R I h;refine wpAny_Call_ofName (lK I M O boot_enumerate ?_);unfold callWith;have j:=ha f c s o H _ I h;rw[hs]at j |-;refine Oz (QE (evalArgs_kw (by rfl) (cj j fun us s1 ⟨vs,m,C,r1,Z⟩=>wpAny_evalAll_cons ?_)));show wpAny _ _ (eval (Expr.Constant (Const.int 1) y t) X.env >>= fun v=>standAt f >>= fun _=>pure v) _ _ _;refine Oz (aw c s1 o m (fun v B=>v=.int 1/\B=m) C ⟨rfl,rfl⟩ |> fun z=>cj z fun u d ⟨x,H2,g,r2,E,F⟩=>?_);subst E;rw[F]at g;obtain⟨tk,rfl⟩:=r2;refine Oz (Rt (OK (wpAny_evalAll_nil ?_)));refine Oz (Rt ?_);refine Oz (OK ?_);obtain⟨a,xs,G,P,q⟩:=Z;subst G;cases r1 with
 | cons r rr=>
   cases rr;cases r;obtain⟨T,rv,Y,hz⟩:=g.list P;show wpAny _ _ (call (.type "enumerate") [.ref a] [("start",.int 1 tk)] >>= _) _ _ _;refine Oz (tS Y.isList fun J w n Q N=>Oz (QE (wpAny_point (OK ?_))));refine wpAny_pyIter_enum w ?_;have D:Inv X c o m { d with heap:=J }:=g.kept (t':=d.toks) N;refine⟨d.heap.objs.size+1,[d.heap.objs.size+1,d.heap.objs.size],_,_,m,rfl,D,Dv a (d.heap.objs.size+1) d.heap.objs.size,⟨⟨.none,w⟩,n,Nat.succ_ne_self _⟩,fun b L=>?_,q⟩;have k:d.heap.objs.size<=b:=by
    rcases(by simpa using L:b=d.heap.objs.size+1\/b=d.heap.objs.size) with z | z;.rw[z];exact Nat.le_add_right _ _
    .rw[z];exact OE _
   exact g.C4 k (g.de.fresh k)
def Bc(K:PySem.W.Frag)(c:TE):TE:=fun d H Q=>c d H fun v b=>∃ a xs,v=.ref a/\bB K b a xs/\∀ l,b l=none->Q (.ref l) (upd b l (.lst xs.reverse))
section
variable {X:Cx}{e:Expr}{r:TE}{p t v y:Pos}
theorem uy(hc:X.calm=true)(F:Gl X "list")(L:X.mg "list"=none)(G:Gl X "reversed")(M:X.mg "reversed"=none)(E:bootBuiltins "list"=some (.type "list"))(he:PE X e r)(hs:starEach [e] X.env=[(false,eval e X.env)]:=by rfl)
 (A:starEach [.Call (.Name "reversed" t) [e] [] y] X.env=[(false,eval (.Call (.Name "reversed" t) [e] [] y) X.env)]:=by rfl):
 PE X (.Call (.Name "list" p) [.Call (.Name "reversed" t) [e] [] y] [] v) (Bc X.K r):=by
 intro f s W H Q I h;refine Qr (lK I F L E (Qq ?_ A rfl) (by decide) (by decide));rw[A];refine PV ?_;refine Qr (lK I G M uo (Qq ?_ hs rfl) (by decide) (by decide));rw[hs];refine PV (cj (he f s W H _ I h) fun u d ⟨x,B,k,r1,a,xs,ex,hq,q⟩=>Qu ?_);subst ex;cases r1;obtain⟨c,U,O,hz⟩:=k.list hq;have hl:=U.length;refine call_reversed_list O.isList (Qu ?_);have J:a<d.heap.objs.size:=by obtain⟨_,z,_⟩:=O.isList;exact OY z
 have Y:Inv X f W B { d with heap:=d.heap.push (revObj a ((c.toArray.size:Int) - 1)) }:=k.kept (t':=d.toks) fun b ob q=>OD _ q;refine wJ (I:=d.heap.objs.size) (l:=a) (items:=c.toArray) (I.ok.hd hc) ⟨_,OU _ rfl,rfl,rfl⟩ (O.isList.at fun o z=>OD _ z) (Pr J) (by simpa using(show c.length<=sizeLine by omega)) fun C tk g c' hk hS n=>?_;have j:(d.heap.push (revObj a ((c.toArray.size:Int) - 1))).objs.size=d.heap.objs.size+1:=PD ..;have m:g.toList=c.reverse:=by
  obtain⟨h1,h2⟩:=n;refine List.ext_getElem? fun i=>?_;by_cases R:i<c.length
  .have P:i<g.size:=by rw[h1];simpa using R
   have h4:=h2 i g[i] (RS P);rw[RF,RS P,List.getElem?_reverse R];simpa using h4.symm
  .rw[P7 (by simp[h1];omega),P7 (by simp;omega)]
 have hn:B (d.heap.objs.size+1)=none:=k.de.fresh (by omega);have N:cG X.prog X.w (upd B (d.heap.objs.size+1) (.lst xs.reverse)) C (d.heap.objs.size+1) (.lst xs.reverse):=by refine⟨by rw[UG];exact hz,c.reverse,c',U.reverse,?_⟩;rw[<-m,<-j];simpa using hS
 have Z:=Y.rk (t':=tk) (ch:=[d.heap.objs.size]) (T:=d.heap.objs.size+1) (ob:=.lst xs.reverse) (h':=C) (fun b o D z=>hk b o (by simpa using D) z) (fun b D=>by
  obtain rfl:b=d.heap.objs.size:=by simpa using D
  exact k.C4 (OE _) (k.de.fresh (OE _))) (by rw[j];exact OE _) N
 refine⟨.ref (d.heap.objs.size+1),_,Z,?_,q _ hn⟩;rw[<-j];rfl
end
theorem EF{X:Cx}{a:List (Addr×Obj)}{b:Value->Shared->Prop}{e:Expr}{f:Str}{c:Pos}{d:TE}(h:PE (X.mw a b) e d)(g:attributeBase e f (X.mw a b).env (eval e (X.mw a b).env)=eval e (X.mw a b).env): PE (X.mw a b) (.Attribute e f c) (tT X.K d f):=aM (X:=X.mw a b) h g
section
variable {X:Cx}{e f:Expr}{w z:TE}{p r:Pos}
def DP(K:PySem.W.Frag)(w z:TE):TE:=fun c H Q=>w c H fun x d=>z c d fun y a=>∃ C t b,y=.ref C/\rW K a x t/\PySem.W.kitOne K t (.ref C)=some b/\Q (.bl b) a
theorem FN(n:Gl X "isinstance")(o:X.mg "isinstance"=none)(l:bootBuiltins "isinstance"=some (.builtin "isinstance"))(m:PE X e w)(hf:PE X f z)
 (hs:starEach [e,f] X.env=[(false,eval e X.env),(false,eval f X.env)]:=by rfl):PE X (.Call (.Name "isinstance" p) [e,f] [] r) (DP X.K w z):=by
 intro a s d H Q I h;refine Qr (lK I n o l ?_ (by decide) (by decide));rw[hs];refine PR rfl (QF (PV (cj (m a s d H _ I h) fun u F ⟨x,g,j,D,A⟩=>?_)));show wpAny _ _ (spliced [(false,eval f X.env)]) _ _ _;refine PV (cj (hf a F d g _ j A) fun v L ⟨y,i,c,E,B⟩=>Qu ?_);obtain⟨C,t,b,rfl,J,k,q⟩:=B;cases E;exact EV c D J k fun G=>⟨.bl b,i,c.tok G,rfl,q⟩
end
end L2
namespace Ps
open PySem PySem.Spec PyProof.Rows L2
variable {P:Program}{w:World}{K:PySem.W.Frag}{mg:Str->Option Value}{base:Heap}{t:bZ}
variable (T:Txt w K mg t)
def yL(g:Int->V):Sp:=fun vs H Q _=>∃ z,vs=[.int z]/\Q (g z) H
theorem kj{g:Int->V}{x:Str}:∀ vs H Q E,yL g vs H Q E->vs.length=[x].length:=fun vs H Q E h=>by obtain⟨z,rfl,_⟩:=h;rfl
local macro_rules | `(tactic| walk_at "r0") => `(tactic| simp only [rE,nB,mu,kX,rX,mq,Cg,GX,hU,tC,tB,uB,nJ,oO,tU,FC,uv,GH,iR,gN,kH,jY,kg,iU,l8,iT,ml,tT,uF,hB,vN,Fl,pG,jd,vd,tQ,vL,jz,Bv,yL,Ht,GQ,rI,yb,rU,L2.start,tA,
  OP,PX,OS,Pp,Pn,OB,Pa,List.replicate,Pj,Pk,OC,V.int.injEq,V.bl.injEq,V.str.injEq,V.ref.injEq,OT,
  Ph,Px,Pq,PZ,P5,Q6,Nat.reduceAdd,Nat.reduceSub,Qe,Qg,Pc])
def isBlank(z:Int):Bool:=decide (z=32) || decide (z=9)
def gz(z:Int):Bool:=decide (z<32) || decide (z=127)
def isDigit(z:Int):Bool:=decide (48<=z)&&decide (z<=57)
def isLetter(z:Int):Bool:=(decide (65<=z)&&decide (z<=90)) || (decide (97<=z)&&decide (z<=122))
def ib(z:Int):Bool:=isLetter z || (isDigit z || (decide (z=45) || decide (z=95)))
def jy(z:Int):Bool:=ib z || (decide (z=43) || decide (z=46))
def isQuote(z:Int):Bool:=decide (z=34) || decide (z=39)
theorem B7:T.signs.pf.Ok P w mg base 1 (yL fun z=>.bl (isBlank z)):=by refine T.signs.pf.fi kj (fun b A a s H vs Q E c h=>?_);obtain⟨z,rfl,h⟩:=h;refine⟨_,(ag (ay (kQ (ck aV (pv 0) T.signs.DN.e (aE _)) (iw (ck aV (pv 0) T.signs.Kt.e (aE _)))))),?_⟩;walk_at "r0";unfold isBlank at h;by_cases h1:z=32<;>simpa[h1]using h
theorem oR:T.signs.jh.Ok P w mg base 1 (yL fun z=>.bl (gz z)):=by refine T.signs.jh.fi kj (fun b A a s H vs Q E c h=>?_);obtain⟨z,rfl,h⟩:=h;refine⟨_,(ag (ay (kQ (ck gV (pv 0) T.signs.DN.e (aE _)) (iw (ck aV (pv 0) T.signs.Hy.e (aE _)))))),?_⟩;walk_at "r0";unfold gz at h;by_cases h1:z<32<;>simpa[h1]using h
theorem sU:T.signs.lC.Ok P w mg base 1 (yL fun z=>.bl (isDigit z)):=by refine T.signs.lC.fi kj (fun b A a s H vs Q E c h=>?_);obtain⟨z,rfl,h⟩:=h;refine⟨_,(ag (ay (pQ ja ja aw (pv 0) aw))),?_⟩;walk_at "r0";unfold isDigit at h;by_cases h1:48<=z<;>simpa[h1]using h
theorem zP:T.signs.nU.Ok P w mg base 1 (yL fun z=>.bl (isLetter z)):=by refine T.signs.nU.fi kj (fun b A a s H vs Q E d h=>?_);obtain⟨z,rfl,h⟩:=h;refine⟨_,(ag (ay (kQ (pQ ja ja aw (pv 0) aw) (iw (pQ ja ja aw (pv 0) aw))))),?_⟩;walk_at "r0";unfold isLetter at h;by_cases h1:65<=z<;>by_cases h2:z<=90<;>by_cases c:97<=z<;>simpa[h1,h2,c]using h
theorem nq:T.signs.iL.Ok P w mg base 2 (yL fun z=>.bl (ib z)):=by refine T.signs.iL.fi kj (fun c A a s H vs Q E b h=>?_);obtain⟨z,rfl,h⟩:=h;refine⟨_,(ag (ay (kQ (T.signs.nU.cl (zP T) b.zz (ae (pv 0) ah)) (kQ (T.signs.lC.cl (sU T) b.zz (ae (pv 0) ah)) (kQ (ck aV (pv 0) T.signs.JA.e (aE _)) (iw (ck aV (pv 0) T.signs.yz.e (aE _)))))))),?_⟩;walk_at "r0";unfold ib at h;cases h1:isLetter z<;>cases h2:isDigit z<;>by_cases d:z=45<;>simpa[h1,h2,d]using h
theorem tv:T.signs.jA.Ok P w mg base 3 (yL fun z=>.bl (jy z)):=by refine T.signs.jA.fi kj (fun b A a s H vs Q E d h=>?_);obtain⟨z,rfl,h⟩:=h;refine⟨_,(ag (ay (kQ (T.signs.iL.cl (nq T) d.zz (ae (pv 0) ah)) (kQ (ck aV (pv 0) T.signs.HL.e (aE _)) (iw (ck aV (pv 0) T.signs.DU.e (aE _))))))),?_⟩;walk_at "r0";unfold jy at h;cases h1:ib z<;>by_cases c:z=43<;>simpa[h1,c]using h
theorem sI:T.aF.lX.Ok P w mg base 1 (yL fun z=>.bl (isQuote z)):=by refine T.aF.lX.fi kj (fun b A a s H vs Q E c h=>?_);obtain⟨z,rfl,h⟩:=h;refine⟨_,(ag (ay (kQ (ck aV (pv 0) T.signs.fA.e (aE _)) (iw (ck aV (pv 0) T.signs.jx.e (aE _)))))),?_⟩;walk_at "r0";unfold isQuote at h;by_cases h1:z=34<;>simpa[h1]using h
open Ql16 (Bytes)
theorem Ci:(o9 CX P w K mg base N qual scope f cd A outer s H E).K=K:=rfl
def bI(b:Bytes):List V:=b.map fun c=>V.int (c.toNat:Int)
theorem bo(b:Bytes):(bI b).length=b.length:=by simp[bI]
theorem iW(a b:Bytes):bI (a++b)=bI a++bI b:=by simp[bI]
theorem Cr(b:Bytes)(i:Nat):(bI b)[i]?=(b[i]?).map fun c=>V.int (c.toNat:Int):=by simp[bI]
def Kp(a:Addr)(H b:Hp):Prop:=∀ c o,H c=some o->c≠a->b c=some o
theorem Kp.refl(a:Addr)(H:Hp):Kp a H H:=fun _ _ h _=>h
theorem Kp.trans(x:Kp a H H1)(y:Kp a H1 b):Kp a H b:=fun c o h n=>y c o (x c o h n) n
theorem Kp.upd:Kp a H (upd H a o):=fun c u h n=>by rw[aq n];exact h
theorem Kp.new(b:H p=none):Kp a H (L2.upd H p o):=fun c u h n=>by rw[aq (aj h b)];exact h
theorem Kp.same(s:aB H H'):Kp a H H':=fun c o h _=>s c o h
theorem aB.new(a:H p=none):aB H (L2.upd H p o):=fun c u h=>by rw[aq (aj h a)];exact h
theorem Kp.free(k:Kp a H H')(b:H' p=none)(n:p≠a):H p=none:=by
 cases e:H p with
 | none=>rfl
 | some o=>rw[k p o e n]at b;cases b
theorem Ja(k:Kp a H H')(ha:H a=some (.ins C dx fs))(h:bB K H r xs):bB K H' r xs:=by
 rcases h with(h | ⟨o,h⟩) | h;.exact .inl (.inl (k _ _ h (cH h ha (by intro z;cases z))))
 .exact .inl (.inr ⟨o,k _ _ h (cH h ha (by intro z;cases z))⟩)
 .exact .inr h
def sf(r:Addr)(i:Nat):List (Str×V):=[("row",.ref r),("at",.int (i:Int))]
theorem mS(r:Addr)(i:Nat):(sf r i).lookup ("row":Str)=some (.ref r):=rfl
theorem sP(r:Addr)(i:Nat):(sf r i).lookup ("at":Str)=some (.int (i:Int)):=rfl
theorem uE(r:Addr)(i:Nat):kI "at" (.int ((i:Int)+1)) (sf r i)=sf r (i+1):=rfl
theorem nT(r:Addr)(i:Nat):(sf r i).lookup ("sign":Str)=none:=rfl
theorem m5(r:Addr)(i:Nat):(sf r i).lookup ("step":Str)=none:=rfl
theorem nF(r:Addr)(i:Nat):(sf r i).lookup ("takes":Str)=none:=rfl
theorem nr(r:Addr)(i:Nat):(sf r i).lookup ("must_take":Str)=none:=rfl
theorem mx(r:Addr)(i:Nat):(sf r i).lookup ("skip_blanks":Str)=none:=rfl
structure aQ(K:PySem.W.Frag)(t:bZ)(H:Hp)(a r:Addr)(b:Bytes)(i:Nat):Prop where
 at_:∃ dx,H a=some (.ins (t.c "Scan") dx (sf r i))
 row:bB K H r (bI b)
 le:i<=b.length
 z9:b.length<=30000
theorem aQ.kp(S:aQ K t H a r b i)(k:Kp a H H')(f:j<=b.length)(h:∃ d,H' a=some (.ins (t.c "Scan") d (sf r j))):aQ K t H' a r b j:=by obtain⟨d,e⟩:=S.at_;exact⟨h,Ja k e S.row,f,S.z9⟩
theorem aQ.same(S:aQ K t H a r b i)(s:aB H H'):aQ K t H' a r b i:=by obtain⟨c,e⟩:=S.at_;exact⟨⟨c,s _ _ e⟩,s.seq S.row,S.le,S.z9⟩
def sg(b:Bytes)(i:Nat):Int:=match b[i]? with
 | some c=>(c.toNat:Int)
 | none=>256
theorem iN(h:b[i]?=some c):sg b i=(c.toNat:Int):=by unfold sg;rw[h]
theorem gL(h:b[i]?=none):sg b i=256:=by unfold sg;rw[h]
theorem KH(c:UInt8):((c.toNat:Nat):Int)<256:=by have:=c.toNat_lt;omega
theorem uH:sg b i=256↔b[i]?=none:=by
 cases h:b[i]? with
 | none=>simp[gL h]
 | some c=>rw[iN h];have:=KH c;simp;omega
theorem vZ:sg b i=(c.toNat:Int)↔b[i]?=some c:=by
 cases h:b[i]? with
 | none=>rw[gL h];have:=KH c;simp;omega
 | some d=>
   rw[iN h];constructor
   .intro e;have q:d.toNat=c.toNat:=by omega
    rw[P6.mp q]
   .intro e;cases e;rfl
theorem drop_cons{b:Bytes}{i:Nat}{c:UInt8}(h:b[i]?=some c):b.drop i=c::b.drop (i+1):=by obtain⟨hl,e⟩:=OV.mp h;rw[PJ hl,e]
theorem drop_nil{b:Bytes}{i:Nat}(h:b[i]?=none):b.drop i=[]:=QO (Rh.mp h)
theorem fu{b:Bytes}{i:Nat}{c:UInt8}(h:b[i]?=some c):i<b.length:=(OV.mp h).1
theorem Dx{b:Bytes}{i:Nat}{c:UInt8}(h:b[i]?=some c):AY (bI b) (i:Int)=some (.int (c.toNat:Int)):=gW (by rw[Cr,h];rfl)
def zD(t:bZ):Sp:=fun vs H Q _=>∃ x a r,vs=[.ref x,.ref r]/\H x=some (.ins (t.c "Scan") a [])/\Q .ba (upd H x (.ins (t.c "Scan") a (sf r 0)))
def yZ(K:PySem.W.Frag)(t:bZ):Sp:=fun vs H Q _=>∃ a r b i,vs=[.ref a]/\aQ K t H a r b i/\Q (.int (sg b i)) H
def qQ(K:PySem.W.Frag)(t:bZ):Sp:=fun vs H Q E=>∃ a r b i,vs=[.ref a]/\aQ K t H a r b i /\ (b[i]?=none->E (.ref (t.c "Malformed")) none H)/\∀ c d,b[i]?=some c->aQ K t d a r b (i+1)->Kp a H d->Q (.int (c.toNat:Int)) d
def wQ(K:PySem.W.Frag)(t:bZ):Sp:=fun vs H Q _=>∃ a r b i,∃ c:UInt8,vs=[.ref a,.int (c.toNat:Int)]/\aQ K t H a r b i /\ (b[i]?≠some c->Q (.bl false) H)/\(b[i]?=some c->∀ d,aQ K t d a r b (i+1)->Kp a H d->Q (.bl true) d)
def qg(K:PySem.W.Frag)(t:bZ):Sp:=fun vs H Q E=>∃ a r b i,∃ c:UInt8,vs=[.ref a,.int (c.toNat:Int)]/\aQ K t H a r b i /\ (b[i]?≠some c->E (.ref (t.c "Malformed")) none H)/\(b[i]?=some c->∀ d,aQ K t d a r b (i+1)->Kp a H d->Q .ba d)
def fV(K:PySem.W.Frag)(t:bZ):Sp:=fun vs H Q _=>∃ a r b i,vs=[.ref a]/\aQ K t H a r b i /\ ∀ j c,i<=j->b.drop j=Ql16.skip (b.drop i)->aQ K t c a r b j->Kp a H c->Q .ba c
local macro_rules | `(tactic| walk_at "r1") => `(tactic| simp only [rE,nB,mu,kX,rX,mq,Cg,GX,hU,tC,tB,uB,nJ,oO,tU,FC,uv,GH,iR,gN,kH,jY,kg,iU,l8,iT,ml,tT,uF,hB,vN,Fl,pG,jd,vd,tQ,vL,jz,Bv,yL,Ht,GQ,rI,yb,rU,wW,L2.start,tA,
  OP,PX,OS,Pp,Pn,OB,Pa,List.replicate,Pj,Pk,OC,V.int.injEq,V.bl.injEq,V.str.injEq,V.ref.injEq,OT,HO.ins.injEq,
  Ph,Px,Pq,QI,QB,Qw,PZ,P5,Q6,Nat.reduceAdd,Nat.reduceSub,Qe,Qg,Pc])
theorem qF:T.scan.jR.Ok P w mg base 1 (zD t):=by
 refine T.scan.jR.fi (fun vs H Q E h=>?_) (fun c A b s H vs Q E d h=>?_);.obtain⟨x,a,r,rfl,_⟩:=h;rfl
 .obtain⟨x,a,r,rfl,hx,h⟩:=h;refine⟨_,(af (dm (pv 0) (pv 1) rfl)
   (ag (dm (pv 0) aw rfl))),?_⟩
  refine⟨_,rfl,_,rfl,x,_,a,_,rfl,hx,T.scan.aP,T.scan.eF,(by show 0<1000;decide),?_⟩;refine⟨_,rfl,x,_,a,_,rfl,ai,T.scan.aP,T.scan.fI,(by show 1<1000;decide),?_⟩;rw[cx];exact h
theorem bW:T.scan.aU.Ok P w mg base 1 (yZ K t):=by
 refine T.scan.aU.fi (fun vs H Q E h=>?_) (fun f A c s H vs Q E j h=>?_);.obtain⟨a,r,b,i,rfl,_⟩:=h;rfl
 .obtain⟨a,r,b,i,rfl,S,h⟩:=h;obtain⟨g,ha⟩:=S.at_;refine⟨_,(af (aK (aC gV (aM (pv 0) rfl) (aT aO (by rfl) T.hJ.dh O5 (ae (aM (pv 0) rfl) ah)) (aE _)) (ag (ay (cT ff (aM (pv 0) rfl) (aM (pv 0) rfl) (fun _ _=>rfl)))) aD)
   (ag (ay T.signs.B1.e))),?_⟩
  walk_at "r1";simp only[Ci,ha,T.scan.aP,T.scan.fI,T.scan.eF,sP,mS,nT,m5,nF,nr,mx,HO.ins.injEq,OC,V.int.injEq,V.ref.injEq,V.bl.injEq,V.str.injEq,OT,reduceCtorEq,Qw,Ph,Px,Pq,PZ,P5];refine⟨bI b,.inl S.row,?_⟩;rw[bo];refine M7 (fun e=>?_) (fun e=>?_)
  .have d:i<b.length:=by omega
   exact⟨bI b,S.row,_,Dx (O7 d),by rw[iN (O7 d)]at h;exact h⟩
  .rw[gL (P7 (by omega))]at h;exact h
theorem rT(S:aQ K t H a r b i)(ha:H a=some (.ins (t.c "Scan") dx (sf r i)))(d:i<b.length):
 aQ K t (upd H a (.ins (t.c "Scan") dx (sf r (i+1)))) a r b (i+1)/\Kp a H (upd H a (.ins (t.c "Scan") dx (sf r (i+1)))):=
 ⟨S.kp Kp.upd d ⟨dx,ai⟩,Kp.upd⟩
theorem wj(r:Addr)(i:Nat):(sf r i).length<1000:=by show 2<1000;decide
theorem cw:T.scan.aX.Ok P w mg base 2 (qQ K t):=by
 refine T.scan.aX.jO (fun vs H Q E h=>?_) (fun g A d s H vs Q E j h=>?_);.obtain⟨a,r,b,i,rfl,_⟩:=h;rfl
 .obtain⟨a,r,b,i,rfl,S,h1,h2⟩:=h;obtain⟨l,ha⟩:=S.at_;refine⟨_,(af (T.scan.aX.set 1 (bL (pv 0) T.scan.aP T.scan.aU.m (bW T) j.zz T.scan.aU.b .nil bg))
   (af (aK (aC aV (pv 1) T.signs.B1.e (aE _)) (ag (bH aH rfl rfl T.aG.bF T.aG.bG)) aD)
   (af (sd (pv 0) aw CP)
   (ag (ay (pv 1)))))),?_⟩
  walk_at "r1";simp only[Ci,ha,T.scan.aP,T.scan.fI,T.scan.eF,sP,mS,nT,m5,nF,nr,mx,uE,wj,HO.ins.injEq,OC,V.int.injEq,V.ref.injEq,V.bl.injEq,V.str.injEq,OT,reduceCtorEq,Qw,Ph,Px,Pq,PZ,P5];refine⟨a,r,b,i,rfl,S,?_⟩;walk_at "r1";refine M7 (fun e=>h1 (uH.mp e)) (fun e=>?_);cases hc:b[i]? with
  | none=>exact absurd (uH.mpr hc) e
  | some c=>obtain⟨f,k⟩:=rT S ha (fu hc);have q:=h2 c _ hc f k;simp only[Ci,ha,T.scan.aP,T.scan.fI,T.scan.eF,sP,mS,nT,m5,nF,nr,mx,uE,wj,iN hc,HO.ins.injEq,OC,V.int.injEq,V.ref.injEq,V.bl.injEq,V.str.injEq,OT,reduceCtorEq,Qw,Ph,Px,Pq,PZ,P5];exact q
theorem dE:T.scan.bh.Ok P w mg base 2 (wQ K t):=by
 refine T.scan.bh.fi (fun vs H Q E h=>?_) (fun g A d s H vs Q E j h=>?_);.obtain⟨a,r,b,i,c,rfl,_⟩:=h;rfl
 .obtain⟨a,r,b,i,c,rfl,S,h1,h2⟩:=h;obtain⟨l,ha⟩:=S.at_;refine⟨_,(af (aK (aC je (bL (pv 0) T.scan.aP T.scan.aU.m (bW T) j.zz T.scan.aU.b .nil bg) (pv 1) (aE _)) (ag (ay qw)) aD)
   (af (sd (pv 0) aw CP)
   (ag (ay qw)))),?_⟩
  walk_at "r1";simp only[Ci,ha,T.scan.aP,T.scan.fI,T.scan.eF,sP,mS,nT,m5,nF,nr,mx,uE,wj,HO.ins.injEq,OC,V.int.injEq,V.ref.injEq,V.bl.injEq,V.str.injEq,OT,reduceCtorEq,Qw,Ph,Px,Pq,PZ,P5];refine⟨a,r,b,i,rfl,S,?_⟩;walk_at "r1";by_cases hc:b[i]?=some c;.have e:sg b i=(c.toNat:Int):=vZ.mpr hc;rw[e];obtain⟨f,k⟩:=rT S ha (fu hc);have q:=h2 hc _ f k;refine jS rfl ?_;simp only[Ci,ha,T.scan.aP,T.scan.fI,T.scan.eF,sP,mS,nT,m5,nF,nr,mx,uE,wj,HO.ins.injEq,OC,V.int.injEq,V.ref.injEq,V.bl.injEq,V.str.injEq,OT,reduceCtorEq,Qw,Ph,Px,Pq,PZ,P5];exact q
  .have e:¬ sg b i=(c.toNat:Int):=fun z=>hc (vZ.mp z);rw[Oy (by simp[e])];exact h1 hc
theorem dA:T.scan.bc.Ok P w mg base 3 (qg K t):=by
 refine T.scan.bc.jO (fun vs H Q E h=>?_) (fun g A d s H vs Q E j h=>?_);.obtain⟨a,r,b,i,c,rfl,_⟩:=h;rfl
 .obtain⟨a,r,b,i,c,rfl,S,h1,h2⟩:=h;obtain⟨l,ha⟩:=S.at_;refine⟨_,(ag (aK (ie (bK (lA (pv 0) T.scan.aP T.scan.bh.m (dE T) j.zz T.scan.bh.b .nil bg (ae (pv 1) ah)))) (ag (bH aH rfl rfl T.aG.bF T.aG.bG)) aD)),?_⟩;walk_at "r1";simp only[Ci,ha,T.scan.aP,T.scan.fI,T.scan.eF,sP,mS,nT,m5,nF,nr,mx,HO.ins.injEq,OC,V.int.injEq,V.ref.injEq,V.bl.injEq,V.str.injEq,OT,reduceCtorEq,Qw,Ph,Px,Pq,PZ,P5];refine⟨a,r,b,i,c,rfl,S,fun hc=>?_,fun hc e f k=>?_⟩;.walk_at "r1";exact h1 hc
  .walk_at "r1";exact h2 hc e f k
theorem Kq(c:UInt8):isBlank (c.toNat:Int)=Ql16.blank c:=QH (dS (fun c=>isBlank (c.toNat:Int)==Ql16.blank c) (by decide +kernel) c)
theorem J7(c:UInt8):isDigit (c.toNat:Int)=Ql16.digit c:=QH (dS (fun c=>isDigit (c.toNat:Int)==Ql16.digit c) (by decide +kernel) c)
theorem La(c:UInt8):ib (c.toNat:Int)=Ql16.bare c:=QH (dS (fun c=>ib (c.toNat:Int)==Ql16.bare c) (by decide +kernel) c)
theorem LQ(c:UInt8):jy (c.toNat:Int)=Ql16.wordByte c:=QH (dS (fun c=>jy (c.toNat:Int)==Ql16.wordByte c) (by decide +kernel) c)
theorem yT(c:UInt8):isQuote (c.toNat:Int)=(c==34 || c==39):=QH (dS (fun c=>isQuote (c.toNat:Int)==(c==34 || c==39)) (by decide +kernel) c)
theorem Gh:isBlank 256=false:=rfl
theorem Ju:ib 256=false:=rfl
theorem HY:jy 256=false:=rfl
theorem F0:isQuote 256=false:=rfl
theorem Fc(h:Ql16.blank c=true):Ql16.skip (c::r)=Ql16.skip r:=Pu h
theorem FT(h:Ql16.blank c=false):Ql16.skip (c::r)=c::r:=PF (by simp[h])
theorem bb:T.scan.aJ.Ok P w mg base 2 (fV K t):=by
 refine T.scan.aJ.fi (fun vs H Q E h=>?_) (fun B A n s H vs Q E u h=>?_);.obtain⟨a,r,b,i,rfl,_⟩:=h;rfl
 .obtain⟨a,r,b,i,rfl,S,h⟩:=h;refine⟨_,(ag (eG Qh (bK (T.signs.pf.cl (B7 T) u.zz (ae (bL (pv 0) T.scan.aP T.scan.aU.m (bW T) u.zz T.scan.aU.b .nil bg) ah))) (ag (sd (pv 0) aw CP)))),?_⟩;refine⟨fun m x d=>∃ j,m=b.length - j/\x=[some (.ref a)]/\i<=j/\aQ K t d a r b j/\Kp a H d/\Ql16.skip (b.drop j)=Ql16.skip (b.drop i),⟨_,i,rfl,rfl,OE _,S,Kp.refl a H,rfl⟩,?_⟩;rintro m x d ⟨j,rfl,rfl,g,f,k,e⟩;obtain⟨D,ha⟩:=f.at_;walk_at "r1";simp only[Ci,ha,T.scan.aP,T.scan.fI,T.scan.eF,sP,mS,nT,m5,nF,nr,mx,HO.ins.injEq,OC,V.int.injEq,V.ref.injEq,V.bl.injEq,V.str.injEq,OT,reduceCtorEq,Qw,Ph,Px,Pq,PZ,P5];refine⟨a,r,b,j,rfl,f,?_⟩;walk_at "r1";cases hc:b[j]? with
  | none=>rw[gL hc,Gh];refine uK (h j d g ?_ f k);rw[<-e,drop_nil hc];rfl
  | some c=>
    rw[iN hc,Kq];cases q:Ql16.blank c with
    | false=>refine uK (h j d g ?_ f k);rw[<-e,drop_cons hc,FT q]
    | true=>obtain⟨y,C⟩:=rT f ha (fu hc);have hl:=fu hc;refine Bb ⟨fun o p=>∃ v,v<b.length - j/\∃ l,v=b.length - l/\o=[some (.ref a)]/\i<=l/\aQ K t p a r b l/\Kp a H p/\Ql16.skip (b.drop l)=Ql16.skip (b.drop i),fun _ _ z=>z,?_⟩;walk_at "r1";simp only[Ci,ha,T.scan.aP,T.scan.fI,T.scan.eF,sP,mS,nT,m5,nF,nr,mx,uE,wj,HO.ins.injEq,OC,V.int.injEq,V.ref.injEq,V.bl.injEq,V.str.injEq,OT,reduceCtorEq,Qw,Ph,Px,Pq,PZ,P5];exact⟨b.length - (j+1),by omega,j+1,rfl,by omega,y,k.trans C,by rw[<-e,drop_cons hc,Fc q]⟩
theorem l6{c A B:Prop}{i:Decidable c}(h1:c->A)(h2:¬ c->B):if @decide c i=true then A else B:=by
 cases i with
 | isTrue h=>exact Bb (h1 h)
 | isFalse h=>exact uK (h2 h)
def Fg(g:Nat->V):Sp:=fun vs H Q _=>∃ n:Nat,vs=[.int (n:Int)]/\Q (g n) H
theorem ub{g:Nat->V}{x:Str}:∀ vs H Q E,Fg g vs H Q E->vs.length=[x].length:=fun vs H Q E h=>by obtain⟨z,rfl,_⟩:=h;rfl
local macro_rules | `(tactic| walk_at "r2") => `(tactic| simp only [rE,nB,mu,kX,rX,mq,Cg,GX,hU,tC,tB,uB,nJ,oO,tU,FC,uv,GH,iR,gN,kH,jY,kg,iU,l8,iT,ml,tT,uF,hB,vN,Fl,pG,jd,vd,Ka,tQ,vL,GF,zW,gm,jr,zL,jz,Bv,yL,Fg,Ht,GQ,rI,yb,rU,wW,L2.start,tA,
  OP,PX,OS,Pp,Pn,OB,Pa,List.replicate,Pj,Pk,OC,V.int.injEq,V.bl.injEq,V.str.injEq,V.ref.injEq,OT,HO.ins.injEq,Ci,
  Ph,Px,Pq,QI,QB,Qw,PZ,P5,Q6,Nat.reduceAdd,Nat.reduceSub,Qe,Qg])
theorem mn:T.aL.gX.Ok P w mg base 1 (Fg fun n=>.bl (Ql16.scalar n)):=by
 refine T.aL.gX.fi ub (fun j A f s H vs Q E l h=>?_);obtain⟨n,rfl,h⟩:=h;dsimp only at h;refine⟨_,(ag (ay (kQ (ck gV (pv 0) aw (aE _)) (iw (pQ gV ja aw (pv 0) aw))))),?_⟩;walk_at "r2";have a:∀ v:Bool,(Ql16.scalar n=true↔v=true)->Q (.bl v) H:=fun v e=>by have:Ql16.scalar n=v:=Qb.mpr e;rw[<-this];exact h
 unfold Ql16.scalar at a;simp only[O4,Ts,Bool.and_eq_false_iff,Pc,Rq]at a;generalize b:decide ((n:Int)<55296)=g;generalize c:decide ((57343:Int)<n)=i;generalize d:decide ((n:Int)<=1114111)=c3;cases g with
 | true=>have h1:(n:Int)<55296:=P9 b;refine a true ⟨fun _=>rfl,fun _=>?_⟩;omega
 | false=>
   have h1:¬ (n:Int)<55296:=Ra b;cases i with
   | false=>have h2:¬ (57343:Int)<n:=Ra c;refine a false ⟨fun z=>?_,fun z=>nomatch z⟩;omega
   | true=>
     have h2:(57343:Int)<n:=P9 c;cases c3 with
     | false=>have k:¬ (n:Int)<=1114111:=Ra d;refine a false ⟨fun z=>?_,fun z=>nomatch z⟩;omega
     | true=>have k:(n:Int)<=1114111:=P9 d;refine a true ⟨fun _=>rfl,fun _=>?_⟩;omega
theorem jL:T.aL.eZ.Ok P w mg base 1 (Fg fun n=>.int (shortest n:Int)):=by
 refine T.aL.eZ.fi ub (fun d A c s H vs Q E g h=>?_);obtain⟨n,rfl,h⟩:=h;dsimp only at h;refine⟨_,(af (aK (aC gV (pv 0) aw (aE _)) (ag (ay aw)) aD)
  (af (aK (aC gV (pv 0) aw (aE _)) (ag (ay aw)) aD)
  (af (aK (aC gV (pv 0) aw (aE _)) (ag (ay aw)) aD)
  (ag (ay aw))))),?_⟩
 walk_at "r2";have a:∀ k:Nat,shortest n=k->Q (.int (k:Int)) H:=fun k e=>by rw[<-e];exact h
 unfold shortest at a;generalize b:decide ((n:Int)<65536)=c3;refine l6 (fun h1=>a 1 (Oy ?_)) (fun h1=>l6 (fun h2=>a 2 ?_) (fun h2=>?_));.omega
 .rw[Ox (by omega),Oy (by omega)]
 .cases c3 with
  | true=>have f:(n:Int)<65536:=P9 b;refine a 3 ?_;rw[Ox (by omega),Ox (by omega),Oy (by omega)]
  | false=>have f:¬ (n:Int)<65536:=Ra b;refine a 4 ?_;rw[Ox (by omega),Ox (by omega),Ox (by omega)]
theorem KR(n:Nat):Builtin.bitAnd (n:Int) 63=((n % 64:Nat):Int):=by have e:=Bits.AN (x:=(n:Int)) 6 (by omega);rw[show(2:Int) ^ 6 - 1=63 from rfl]at e;rw[e];omega
theorem eR:T.aL.du.Ok P w mg base 1 (Fg fun n=>.int ((128+n % 64:Nat):Int)):=by
 refine T.aL.du.fi ub (fun b A a s H vs Q E c h=>?_);obtain⟨n,rfl,h⟩:=h;dsimp only at h;refine⟨_,(ag (ay (aS cE aw (aS ze (pv 0) aw)))),?_⟩;walk_at "r2";rw[KR];have e:(128:Int)+((n % 64:Nat):Int)=((128+n % 64:Nat):Int):=by omega
 rw[e];exact h
def CD:Sp:=fun vs H Q _=>∃ n:Nat,vs=[.int (n:Int)]/\n<=0x10FFFF/\∀ p,H p=none->Q (.ref p) (upd H p (.lst (bI (Ql16.encode n))))
theorem Hz(n k:Nat):(n:Int) / 2 ^ ((k:Int)).toNat=((n / 2 ^ k:Nat):Int):=by
 rw[PL];have:((2:Int) ^ k)=((2 ^ k:Nat):Int):=by simp
 rw[this];exact(Int.natCast_ediv _ _).symm
theorem CQ:T.aL.oq.Ok P w mg base 2 CD:=by
 refine T.aL.oq.fi (fun vs H Q E h=>?_) (fun f A d s H vs Q E b h=>?_);.obtain⟨n,rfl,_⟩:=h;rfl
 obtain⟨n,rfl,hn,h⟩:=h;refine⟨_,(af (T.aL.oq.set 1 (T.aL.eZ.cl (jL T) b.zz (ae (pv 0) ah)))
  (af (aK (aC aV (pv 1) aw (aE _)) (ag (ay (aZ (ae (pv 0) ah)))) aD)
  (af (aK (aC aV (pv 1) aw (aE _)) (ag (ay (aZ (ae (aS cE aw (aS nc (pv 0) aw)) (ae (T.aL.du.cl (eR T) b.zz (ae (pv 0) ah)) ah))))) aD)
  (af (aK (aC aV (pv 1) aw (aE _)) (ag (ay (aZ (ae (aS cE aw (aS nc (pv 0) aw)) (ae (T.aL.du.cl (eR T) b.zz (ae (aS nc (pv 0) aw) ah)) (ae (T.aL.du.cl (eR T) b.zz (ae (pv 0) ah)) ah)))))) aD)
  (ag (ay (aZ (ae (aS cE aw (aS nc (pv 0) aw)) (ae (T.aL.du.cl (eR T) b.zz (ae (aS nc (pv 0) aw) ah)) (ae (T.aL.du.cl (eR T) b.zz (ae (aS nc (pv 0) aw) ah)) (ae (T.aL.du.cl (eR T) b.zz (ae (pv 0) ah)) ah))))))))))),?_⟩
 walk_at "r2";have g:(1:Nat)<=sizeLine:=by decide
 have i:(2:Nat)<=sizeLine:=by decide
 have j:(3:Nat)<=sizeLine:=by decide
 have k:(4:Nat)<=sizeLine:=by decide
 refine⟨n,rfl,?_⟩;unfold shortest;unfold Ql16.encode at h;by_cases h1:n<128
 .rw[Oy h1]at h;rw[Oy h1,Oy (by decide)];refine⟨g,fun p a=>?_⟩;have e:bI [UInt8.ofNat n]=[V.int (n:Int)]:=by simp[bI];omega
  rw[e]at h;exact h p a
 .rw[Ox h1]at h;rw[Ox h1];by_cases h2:n<2048
  .rw[Oy h2]at h;rw[Oy h2,Ox (by decide),Oy (by decide)];refine⟨by decide,n,rfl,i,fun p a=>?_⟩;have e:bI [UInt8.ofNat (0xC0+n / 64),UInt8.ofNat (0x80+n % 64)]=[V.int (192+(n:Int) / 2 ^ (6:Int).toNat),V.int ((128+n % 64:Nat):Int)]:=by
    simp[bI];omega
   rw[e]at h;exact h p a
  .rw[Ox h2]at h;rw[Ox h2];by_cases c:n<65536
   .rw[Oy c]at h;rw[Oy c,Ox (by decide),Ox (by decide),Oy (by decide)];refine⟨by decide,by decide,n / 64,Hz n 6,n,rfl,j,fun p a=>?_⟩;have e:bI [UInt8.ofNat (0xE0+n / 4096),UInt8.ofNat (0x80+n / 64 % 64),UInt8.ofNat (0x80+n % 64)]=[V.int (224+(n:Int) / 2 ^ (12:Int).toNat),V.int ((128+n / 64 % 64:Nat):Int),V.int ((128+n % 64:Nat):Int)]:=by
     simp[bI];omega
    rw[e]at h;exact h p a
   .rw[Ox c]at h;rw[Ox c,Ox (by decide),Ox (by decide),Ox (by decide)];refine⟨by decide,by decide,n / 4096,Hz n 12,by decide,n / 64,Hz n 6,n,rfl,k,fun p a=>?_⟩;have e:bI [UInt8.ofNat (0xF0+n / 262144),UInt8.ofNat (0x80+n / 4096 % 64),UInt8.ofNat (0x80+n / 64 % 64),UInt8.ofNat (0x80+n % 64)]=[V.int (240+(n:Int) / 2 ^ (18:Int).toNat),V.int ((128+n / 4096 % 64:Nat):Int),V.int ((128+n / 64 % 64:Nat):Int),V.int ((128+n % 64:Nat):Int)]:=by
     simp[bI];omega
    rw[e]at h;exact h p a
def Ml{f:Type}(K:PySem.W.Frag)(t:bZ)(a r:Addr)(b:Bytes)(H:Hp)(o:Option (f×Bytes))(e:f->V->Hp->Prop)(Q:VK)(E:XK):Prop:=
 (o=none->∀ d,Kp a H d->E (.ref (t.c "Malformed")) none d) /\
 ∀ x rest,o=some (x,rest)->∀ j d v,b.drop j=rest->aQ K t d a r b j->Kp a H d->e x v d->Q v d
def nE(t:bZ):Sp:=fun vs H Q E=>∃ c:UInt8,vs=[.int (c.toNat:Int)]/\(Ql16.hexValue c=none->E (.ref (t.c "Malformed")) none H)/\∀ d,Ql16.hexValue c=some d->Q (.int (d:Int)) H
theorem nI:T.aF.fY.Ok P w mg base 1 (nE t):=by
 refine T.aF.fY.jO (fun vs H Q E h=>?_) (fun b A a s H vs Q E f h=>?_);.obtain⟨c,rfl,_⟩:=h;rfl
 obtain⟨c,rfl,h1,h2⟩:=h;refine⟨_,(af (aK (kR ja ja aw (pv 0) aw) (ag (ay (aS gS (pv 0) aw))) aD)
  (af (aK (kR ja ja aw (pv 0) aw) (ag (ay (aS gS (pv 0) aw))) aD)
  (af (aK (kR ja ja aw (pv 0) aw) (ag (ay (aS gS (pv 0) aw))) aD)
  (ag (bH aH rfl rfl T.aG.bF T.aG.bG))))),?_⟩
 walk_at "r2";have hx:∀ (z:Int) (d:Nat),z=(d:Int)->Ql16.hexValue c=some d->Q (.int z) H:=fun z d e k=>by rw[e];exact h2 d k
 unfold Ql16.hexValue Ql16.digit Ql16.between at h1 hx;simp only[O4,Pc]at h1 hx;have g:=c.toNat_lt
 repeat' split
 all_goals simp only[Pc,reduceCtorEq]at *
 all_goals first
  | exact hx _ (c.toNat - 48) (by omega) (Oy (by omega))
  | exact hx _ (c.toNat - 55) (by omega) (by rw[Ox (by omega),Oy (by omega)])
  | exact hx _ (c.toNat - 87) (by omega) (by rw[Ox (by omega),Ox (by omega),Oy (by omega)])
  | exact h1 (by rw[Ox (by omega),Ox (by omega),Ox (by omega)])
theorem Ik(p n:Nat):Ql16.hexes (p+1) n []=none:=rfl
theorem GA(h:Ql16.hexValue c=none):Ql16.hexes (p+1) n (c::r)=none:=by rw[Ql16.hexes,h]
theorem HQ(h:Ql16.hexValue c=some d):Ql16.hexes (p+1) n (c::r)=Ql16.hexes p (16 * n+d) r:=by rw[Ql16.hexes,h]
def oF(K:PySem.W.Frag)(t:bZ):Sp:=fun vs H Q E=>∃ a r b i,∃ k:Nat,vs=[.ref a,.int (k:Int)]/\k<=8/\aQ K t H a r b i /\ Ml K t a r b H (Ql16.hexes k 0 (b.drop i)) (fun n v _=>v=.int (n:Int)) Q E
theorem oE:T.aF.cu.Ok P w mg base 3 (oF K t):=by
 refine T.aF.cu.jO (fun vs H Q E h=>?_) (fun C A q s H vs Q E x h=>?_);.obtain⟨a,r,b,i,k,rfl,_⟩:=h;rfl
 obtain⟨a,r,b,i,k,rfl,I,S,h1,h2⟩:=h;refine⟨_,(af (T.aF.cu.set 2 aw)
  (af (ic PM rfl (ET rfl T.hJ.yB (ae (pv 1) ah)) (cA (i:=3) T.aF.cu.s.nd rfl (Ql rfl)) (ag (T.aF.cu.set 2 (aS cE (aS rG (pv 2) aw) (T.aF.fY.cX (nI T) x.zz aH (ae (eQ (pv 0) T.scan.aP T.scan.aX.m (cw T) x.zz T.scan.aX.b aH) ah))))))
  (ag (ay (pv 2))))),?_⟩
 refine⟨_,rfl,k,rfl,by omega,by omega,Fh (n:=k) (fun m u f=>∃ (j n:Nat) (v:Option V),u=[some (.ref a),some (.int (k:Int)),some (.int (n:Int)),v]/\aQ K t f a r b j/\Kp a H f/\Ql16.hexes k 0 (b.drop i)=Ql16.hexes (k - m) n (b.drop j)) ⟨i,0,none,rfl,S,Kp.refl a H,rfl⟩ ?_ ?_⟩
 .rintro m u f hm ⟨j,n,v,rfl,l,g,e⟩;walk_at "r2";obtain⟨G,ha⟩:=l.at_;obtain⟨p,D⟩:∃ p,k - m=p+1:=⟨k - m - 1,by omega⟩
  have o:k - (m+1)=p:=by omega
  rw[D]at e;refine⟨.inr ⟨by decide,by decide⟩,_,_,ha,rfl,a,r,b,j,rfl,l,fun hn=>⟨_,rfl,h1 ?_ f g⟩,fun c z hc B y=>⟨c,rfl,fun F=>⟨_,rfl,h1 ?_ z (g.trans y)⟩,fun d hd=>⟨_,rfl,j+1,16 * n+d,by omega,B,g.trans y,?_⟩⟩⟩;.rw[e,drop_nil hn];exact Ik _ _
  .rw[e,drop_cons hc];exact GA F
  .rw[e,drop_cons hc,o];exact HQ hd
 .rintro u f ⟨j,n,v,rfl,l,g,e⟩;walk_at "r2";rw[TH]at e;exact h2 n (b.drop j) e j f _ rfl l g rfl
theorem Kp.om(k:Kp a H H')(b:H p=none):Kp a H (L2.upd H' p o):=fun c u h n=>by rw[aq (aj h b)];exact k c u h n
theorem sX{c A B:Prop}{i:Decidable c}(hc:¬ c)(h:A):if (!(@decide c i))=true then A else B:=by
 cases i with
 | isTrue z=>exact absurd z hc
 | isFalse z=>exact Bb h
theorem dR(h:n<=30000):n<sizeLine:=QR h (by decide)
def iY(H:Hp)(x:Bytes)(v:V)(a:Hp):Prop:=∃ q,v=.ref q/\a q=some (.tup (bI x))/\H q=none
def jB{d:Type}(K:PySem.W.Frag)(t:bZ)(f:Bytes->Option (d×Bytes))(c:Hp->d->V->Hp->Prop):Sp:=fun vs H Q E=>∃ a r b i,vs=[.ref a]/\aQ K t H a r b i/\Ml K t a r b H (f (b.drop i)) (c H) Q E
theorem gD{d:Type}{f:Bytes->Option (d×Bytes)}{c:Hp->d->V->Hp->Prop}{x:Str}:∀ vs H Q E,jB K t f c vs H Q E->vs.length=[x].length:=fun vs H Q E h=>by obtain⟨a,r,b,i,rfl,_⟩:=h;rfl
theorem toNat_eq{c:UInt8}{n:Nat}(h:n<256):((c.toNat:Int)=(n:Int))↔c=UInt8.ofNat n:=by
 constructor
 .intro e;apply P6.mp;have:c.toNat=n:=by omega
  rw[this];simp;omega
 .intro e;subst e;simp;omega
theorem F9(r:Bytes):Ql16.plain (39::r)=some ([],r):=by rw[Ql16.plain,Oy rfl]
theorem Bm(h:c≠39):Ql16.plain (c::r)=(Ql16.plain r).map fun y=>(c::y.1,y.2):=by rw[Ql16.plain,Ox h]
theorem rV:T.aF.dt.Ok P w mg base 3 (jB K t Ql16.plain iY):=by
 refine T.aF.dt.jO gD (fun a0 A U s H vs Q E X h=>?_);obtain⟨a,r,b,i,rfl,S,h1,h2⟩:=h;obtain⟨dx,ha⟩:=S.at_;refine⟨_,(af (T.aF.dt.set 1 (aZ ah))
  (af (T.aF.dt.set 2 (eQ (pv 0) T.scan.aP T.scan.aX.m (cw T) X.zz T.scan.aX.b aH))
  (af (eG PM (aC je (pv 2) T.signs.jx.e (aE _)) (af (aN (df OJ OW OX bw (pv 1) (ae (pv 2) ah)))
  (ag (T.aF.dt.set 2 (eQ (pv 0) T.scan.aP T.scan.aX.m (cw T) X.zz T.scan.aX.b aH)))))
  (ag (ay (fJ kC (by rfl) T.hJ.yJ boot_tuple (ae (pv 1) ah))))))),?_⟩
 walk_at "r2";refine⟨O1 _,fun p O=>?_⟩;have J:aB H (upd H p (.lst [])):=aB.new O;have S0:=S.same J;have W:p≠a:=(aj ha O).symm;refine⟨_,_,J _ _ ha,rfl,a,r,b,i,rfl,S0,fun hn=>⟨_,rfl,h1 (by rw[drop_nil hn];rfl) _ (Kp.same J)⟩,fun c Z hc L x=>?_⟩;refine⟨fun m Y g=>∃ (j:Nat) (d:Bytes) (c:UInt8),m=b.length - j/\Y=[some (.ref a),some (.ref p),some (.int (c.toNat:Int))]/\aQ K t g a r b j/\Kp a H g/\g p=some (.lst (bI d))/\d.length<j/\Ql16.plain (b.drop i)=(Ql16.plain (c::b.drop j)).map fun y=>(d++y.1,y.2),⟨_,i+1,[],c,rfl,rfl,L,(Kp.same J).trans x,x _ _ ai W,by simp,?_⟩,?_⟩;.rw[drop_cons hc];cases Ql16.plain (c::b.drop (i+1))<;>rfl
 rintro m Y g ⟨j,d,c,rfl,rfl,D,R,M,hl,e⟩;walk_at "r2";have jb:=D.le;have fb:=D.z9;obtain⟨o,q⟩:=D.at_;by_cases hc:c=39;.refine jS (by rw[hc];rfl) ⟨bI d,.inl ⟨bB.of M,fun l hl=>?_⟩⟩;refine h2 d (b.drop j) (by rw[e,hc,F9];simp) j _ _ rfl (D.same (aB.new hl)) (R.trans (Kp.new hl)) ⟨l,rfl,ai,R.free hl (aj q hl).symm⟩
 .have N:¬ (c.toNat:Int)=39:=fun z=>hc ((toNat_eq (n:=39) (by decide)).mp z);have f:Kp a H (upd g p (.lst (bI d++[V.int (c.toNat:Int)]))):=R.om O;have u:upd g p (.lst (bI d++[V.int (c.toNat:Int)])) a=some (.ins (t.c "Scan") o (sf r j)):=by rw[aq W.symm];exact q
  have S2:=S.kp f jb ⟨o,u⟩;refine sX N ⟨fun B C=>∃ I,I<b.length - j/\∃ (j:Nat) (d:Bytes) (c:UInt8),I=b.length - j/\B=[some (.ref a),some (.ref p),some (.int (c.toNat:Int))]/\aQ K t C a r b j/\Kp a H C/\C p=some (.lst (bI d))/\d.length<j/\Ql16.plain (b.drop i)=(Ql16.plain (c::b.drop j)).map fun y=>(d++y.1,y.2),?_,.inl ⟨rfl,_,bB.of M⟩,bI d,M,by rw[bo];exact dR (by omega),_,_,u,rfl,a,r,b,j,rfl,S2,fun hn=>⟨_,rfl,h1 ?_ _ f⟩,fun G Z v L x=>?_⟩;.rintro B C ⟨I,h1,j',k,G,h3,h4,h5⟩;exact⟨I,h1,j',h3,k,G,h4,h5⟩
  .rw[e,Bm hc,drop_nil hn];rfl
  .have:=fu v;refine⟨b.length - (j+1),by omega,j+1,d++[c],G,rfl,rfl,L,f.trans x,?_,by simp;omega,?_⟩;.rw[x _ _ ai W,iW];rfl
   .rw[e,Bm hc,drop_cons v];cases Ql16.plain (G::b.drop (j+1))<;>simp
theorem rF:∀ {acc rest:Bytes},(∀ c∈acc,p c=true)->(∀ c r,rest=c::r->p c=false)->(acc++rest).takeWhile p=acc/\(acc++rest).dropWhile p=rest
 | [],[],_,_=>⟨rfl,rfl⟩
 | [],c::r,_,h=>by have:=h c r rfl;exact⟨RO (by simp[this]),PF (by simp[this])⟩
 | c::acc,rest,h,h'=>by have hc:=h c (O2 ..);obtain⟨a,b⟩:=rF (acc:=acc) (rest:=rest) (fun x hx=>h x (OM _ hx)) h';rw[OS,Qt hc,Pu hc];exact⟨by rw[a],b⟩
def uS(s:Bytes):Option (Bytes×Bytes):=if s.takeWhile Ql16.bare=[] then none else some (s.takeWhile Ql16.bare,s.dropWhile Ql16.bare)
theorem ro:T.aF.gi.Ok P w mg base 3 (jB K t uS iY):=by
 refine T.aF.gi.jO gD (fun a0 A R s H vs Q E O h=>?_);obtain⟨a,r,b,i,rfl,S,h1,h2⟩:=h;obtain⟨dx,ha⟩:=S.at_;refine⟨_,(af (T.aF.gi.set 1 (aZ ah))
  (af (eG PM (bK (T.signs.iL.cl (nq T) O.zz (ae (bL (pv 0) T.scan.aP T.scan.aU.m (bW T) O.zz T.scan.aU.b .nil bg) ah))) (ag (aN (df OJ OW OX bw (pv 1) (ae (eQ (pv 0) T.scan.aP T.scan.aX.m (cw T) O.zz T.scan.aX.b aH) ah)))))
  (af (aK (aC aV (aT aO (by rfl) T.hJ.dh O5 (ae (pv 1) ah)) aw (aE _)) (ag (bH aH rfl rfl T.aG.bF T.aG.bG)) aD)
  (ag (ay (fJ kC (by rfl) T.hJ.yJ boot_tuple (ae (pv 1) ah))))))),?_⟩
 walk_at "r2";refine⟨O1 _,fun p N=>?_⟩;have s0:aB H (upd H p (.lst [])):=aB.new N;have S0:=S.same s0;have pa:p≠a:=(aj ha N).symm;refine⟨fun m σ f=>∃ (j:Nat) (d:Bytes),m=b.length - j/\σ=[some (.ref a),some (.ref p)]/\aQ K t f a r b j/\Kp a H f/\f p=some (.lst (bI d))/\d.length<=j/\b.drop i=d++b.drop j/\∀ c∈d,Ql16.bare c=true,⟨_,i,[],rfl,rfl,S0,Kp.same s0,ai,by simp,rfl,by simp⟩,?_⟩;rintro m σ f ⟨j,d,rfl,rfl,k,D,C,hl,e,Z⟩;walk_at "r2";have jb:=k.le;have fb:=k.z9;obtain⟨a3,g⟩:=k.at_;refine⟨_,_,g,rfl,a,r,b,j,rfl,k,?_⟩;walk_at "r2";have stop:(∀ c U,b.drop j=c::U->Ql16.bare c=false)->∃ x,(bB K f p x\/iJ K f p x)/\if decide ((x.length:Int)=0)=true then E (Value.ref (t.c "Malformed")) none f else ∃ x,(bB K f p x/\∀ (l:Addr),f l=none->Q (V.ref l) (upd f l (HO.tup x)))\/iJ K f p x/\Q (V.ref p) f:=fun hs=>by
  obtain⟨W,w2⟩:=rF Z hs;rw[<-e]at W w2;refine⟨bI d,.inl (bB.of C),?_⟩;rw[bo];refine l6 (fun z=>h1 ?_ f D) (fun z=>⟨bI d,.inl ⟨bB.of C,fun l hl=>?_⟩⟩);.unfold uS;rw[W,Oy (Ro.mp (by omega))]
  .refine h2 d (b.drop j) ?_ j _ _ rfl (k.same (aB.new hl)) (D.trans (Kp.new hl)) ⟨l,rfl,ai,D.free hl (aj g hl).symm⟩;unfold uS;rw[W,w2,Ox];intro q;rw[q]at z;exact z rfl
 cases hc:b[j]? with
 | none=>rw[gL hc,Ju];refine uK (stop fun c U q=>?_);rw[drop_nil hc]at q;cases q
 | some c=>
   rw[iN hc,La];cases o:Ql16.bare c with
   | false=>refine uK (stop fun c' U q=>?_);rw[drop_cons hc]at q;cases q;exact o
   | true=>
     have a4:=fu hc;refine Bb ⟨fun y B=>∃ G,G<b.length - j/\∃ (j:Nat) (d:Bytes),G=b.length - j/\y=[some (.ref a),some (.ref p)]/\aQ K t B a r b j/\Kp a H B/\B p=some (.lst (bI d))/\d.length<=j/\b.drop i=d++b.drop j/\∀ c∈d,Ql16.bare c=true,?_,.inl ⟨rfl,_,bB.of C⟩,_,_,g,rfl,a,r,b,j,rfl,k,fun hn=>?_,fun c' X u Y k1=>?_⟩;.rintro y B ⟨G,h1,j',n,h3,h4,J⟩;exact⟨G,h1,j',h3,h4,J.1,J.2.1,n,J.2.2⟩
     .rw[hc]at hn;cases hn
     .rw[hc]at u;cases u;have L:X p=some (.lst (bI d)):=k1 _ _ C pa;obtain⟨I,M⟩:=Y.at_;have v:Kp a H (upd X p (.lst (bI d++[V.int (c.toNat:Int)]))):=(D.trans k1).om N;refine⟨bI d,L,by rw[bo];exact dR (by omega),b.length - (j+1),by omega,j+1,d++[c],rfl,rfl,S.kp v Y.le ⟨I,by rw[aq pa.symm];exact M⟩,v,by rw[ai,iW];rfl,by simp;omega,by rw[e,drop_cons hc];simp,fun x hx=>?_⟩;rcases OH.mp hx with z | z;.exact Z x z
      .simp at z;rw[z];exact o
theorem LG:(o9 CX P w K mg base N qual scope f cd A outer s H E).w=w:=rfl
local macro_rules | `(tactic| walk_at "r3") => `(tactic| simp only [rE,nB,mu,kX,rX,mq,Cg,GX,hU,tC,tB,uB,nJ,oO,tU,FC,uv,GH,iR,gN,kH,jY,kg,iU,l8,iT,ml,tT,uF,hB,vN,Fl,pG,jd,vd,Ka,tQ,vL,GF,zW,gm,jr,zL,jz,Bv,yL,Fg,Ht,GQ,rI,yb,rU,wW,B9,kc,ta,L2.start,tA,
  OP,PX,OS,Pp,Pn,OB,Pa,List.replicate,Pj,Pk,OC,V.int.injEq,V.bl.injEq,V.str.injEq,V.ref.injEq,OT,HO.ins.injEq,Ci,LG,
  Ph,Px,Pq,QI,QB,Qw,PZ,P5,Q6,Nat.reduceAdd,Nat.reduceSub,Qe,Qg])
def LI(H:Hp)(x:Bytes)(v:V)(a:Hp):Prop:=∃ q,v=.ref q/\a q=some (.lst (bI x))/\H q=none
def Dk(c:UInt8):Option UInt8:=if c=98 then some 8 else if c=116 then some 9 else if c=110 then some 10 else if c=102 then some 12 else if c=114 then some 13 else if c=34 then some 34 else if c=92 then some 92 else none
theorem Dt(h:Dk c=some d):Ql16.escape (c::r)=some ([d],r):=by
 unfold Dk at h;unfold Ql16.escape
 repeat' split at h
 all_goals first | (cases h;done) | skip
 all_goals (cases h;subst_vars;simp)
theorem B5(h:Dk c=none):Ql16.escape (c::r)=if c=117\/c=85 then(match Ql16.hexes (if c=117 then 4 else 8) 0 r with | some (n,s)=>if Ql16.scalar n=true then some (Ql16.encode n,s) else none | none=>none) else none:=by
 unfold Dk at h;unfold Ql16.escape
 repeat' split at h
 all_goals first | (cases h;done) | skip
 rename_i h1 h2 a b d e f;simp only;rw[Ox h1,Ox h2,Ox a,Ox b,Ox d,Ox (by simp[e,f])];rfl
abbrev D5:List (Key×V):=[(.inl 98,.int 8),(.inl 116,.int 9),(.inl 110,.int 10),(.inl 102,.int 12),(.inl 114,.int 13),(.inl 34,.int 34),(.inl 92,.int 92)]
abbrev yF:List (Key×V):=[(.inl 117,.int 4),(.inl 85,.int 8)]
theorem DW(c:UInt8):bR D5 (Sum.inl (c.toNat:Int))=(Dk c).map fun d=>V.int (d.toNat:Int):=QH (dS (fun c=>bR D5 (Sum.inl (c.toNat:Int))==(Dk c).map fun d=>V.int (d.toNat:Int)) (by decide +kernel) c)
theorem A7(c:UInt8):bR yF (Sum.inl (c.toNat:Int))=if c=117 then some (.int 4) else if c=85 then some (.int 8) else none:=QH (dS (fun c=>bR yF (Sum.inl (c.toNat:Int))==if c=117 then some (.int 4) else if c=85 then some (.int 8) else none) (by decide +kernel) c)
theorem vV:T.aF.gd.Ok P w mg base 4 (jB K t Ql16.escape LI):=by
 refine T.aF.gd.jO gD (fun J A D s H vs Q E o h=>?_);obtain⟨a,r,b,i,rfl,S,h1,h2⟩:=h;obtain⟨M,ha⟩:=S.at_;refine⟨_,(af (T.aF.gd.set 1 (eQ (pv 0) T.scan.aP T.scan.aX.m (cw T) o.zz T.scan.aX.b aH))
  (af (aK (eV (Jc (pv 1) T.aF.xy.e)) (ag (ay (aZ (ae (zA T.aF.xy.e (pv 1) (fun _ _=>rfl)) ah)))) aD)
  (af (aK (eV (Fd (pv 1) T.aF.mC.e)) (ag (bH aH rfl rfl T.aG.bF T.aG.bG)) aD)
  (af (T.aF.gd.set 2 (T.aF.cu.cX (oE T) o.zz aH (ae (pv 0) (ae (zA T.aF.mC.e (pv 1) (fun _ _=>rfl)) ah))))
  (af (aK (ie (bK (T.aL.gX.cl (mn T) o.zz (ae (pv 2) ah)))) (ag (bH aH rfl rfl T.aG.bF T.aG.bG)) aD)
  (ag (ay (T.aL.oq.cl (CQ T) o.zz (ae (pv 2) ah))))))))),?_⟩
 walk_at "r3";refine⟨_,_,ha,rfl,a,r,b,i,rfl,S,fun hn=>⟨_,rfl,h1 (by rw[drop_nil hn];rfl) _ (Kp.refl a H)⟩,fun c I hc B l=>?_⟩;dsimp only;refine⟨D5,T.obs.ym,Sum.inl (c.toNat:Int),rfl,?_⟩;rw[DW];cases he:Dk c with
 | some d=>refine Bb ⟨D5,T.obs.ym,Sum.inl (c.toNat:Int),rfl,_,(by rw[DW,he];rfl),by decide,fun p g=>?_⟩;obtain⟨C,k⟩:=B.at_;exact h2 [d] (b.drop (i+1)) (by rw[drop_cons hc,Dt he]) (i+1) _ _ rfl (B.same (aB.new g)) (l.trans (Kp.new g)) ⟨p,rfl,ai,l.free g (aj k g).symm⟩
 | none=>
   refine uK ⟨yF,T.obs.mz,Sum.inl (c.toNat:Int),rfl,?_⟩;rw[A7];have f:=B5 (r:=b.drop (i+1)) he;rw[<-drop_cons hc]at f;by_cases q:c=117\/c=85
   .have x:(if c=117 then some (V.int 4) else if c=85 then some (V.int 8) else none)=some (V.int (((if c=117 then 4 else 8:Nat)):Int)):=by
     rcases q with rfl | rfl<;>rfl
    rw[x];rw[Oy q]at f;refine uK ⟨yF,T.obs.mz,Sum.inl (c.toNat:Int),rfl,_,(by rw[A7];exact x),a,r,b,i+1,(if c=117 then 4 else 8),rfl,by split<;>omega,B,fun hn y u=>⟨_,rfl,h1 ?_ y (l.trans u)⟩,fun n rest o j y v L F u G=>⟨n,G,?_⟩⟩;.rw[f,hn]
    .rw[o]at f;simp only at f;cases hs:Ql16.scalar n with
     | false=>rw[hs]at f;exact Bb (h1 (by rw[f];rfl) y (l.trans u))
     | true=>rw[hs]at f;obtain⟨C,k⟩:=F.at_;refine uK ⟨n,by rw[G],sC hs,fun p g=>?_⟩;exact h2 (Ql16.encode n) rest (by rw[f];rfl) j _ _ L (F.same (aB.new g)) ((l.trans u).trans (Kp.new g)) ⟨p,rfl,ai,(l.trans u).free g (aj k g).symm⟩
   .have x:(if c=117 then some (V.int 4) else if c=85 then some (V.int 8) else none)=none:=by
     rw[Ox (fun z=>q (.inl z)),Ox (fun z=>q (.inr z))]
    rw[x];rw[Ox q]at f;exact Bb (h1 f I l)
local macro_rules | `(tactic| walk_at "r4") => `(tactic| simp only [rE,nB,mu,kX,rX,mq,Cg,GX,hU,tC,tB,uB,nJ,oO,tU,FC,uv,GH,iR,gN,kH,jY,kg,iU,l8,iT,ml,tT,uF,hB,vN,Fl,pG,jd,vd,Ka,tQ,vL,GF,zW,gm,jr,zL,jz,Bv,yL,Fg,Ht,GQ,rI,yb,rU,wW,jB,B9,kc,ta,L2.start,tA,
  OP,PX,OS,Pp,Pn,OB,Pa,List.replicate,Pj,Pk,OC,V.int.injEq,V.bl.injEq,V.str.injEq,V.ref.injEq,OT,HO.ins.injEq,Ci,LG,
  Ph,Px,Pq,QI,QB,Qw,PZ,P5,Q6,Nat.reduceAdd,Nat.reduceSub,Qe,Qg])
theorem nj:T.aF.bY.Ok P w mg base 5 (jB K t dC iY):=by
 refine T.aF.bY.jO gD (fun a9 A a8 s H vs Q E hr h=>?_);obtain⟨a,r,b,i,rfl,S,h1,h2⟩:=h;obtain⟨dx,ha⟩:=S.at_;refine⟨_,(af (T.aF.bY.set 1 (aZ ah))
  (af (T.aF.bY.set 2 (eQ (pv 0) T.scan.aP T.scan.aX.m (cw T) hr.zz T.scan.aX.b aH))
  (af (eG PM (aC je (pv 2) T.signs.fA.e (aE _)) (af (aK (aC aV (pv 2) T.signs.kb.e (aE _)) (ag (aN (df OJ P1 P2 fF (pv 1) (ae (T.aF.gd.cX (vV T) hr.zz aH (ae (pv 0) ah)) ah)))) (ag (aN (df OJ OW OX bw (pv 1) (ae (pv 2) ah)))))
  (ag (T.aF.bY.set 2 (eQ (pv 0) T.scan.aP T.scan.aX.m (cw T) hr.zz T.scan.aX.b aH)))))
  (ag (ay (fJ kC (by rfl) T.hJ.yJ boot_tuple (ae (pv 1) ah))))))),?_⟩
 walk_at "r4";refine⟨O1 _,fun p hp=>?_⟩;have s0:aB H (upd H p (.lst [])):=aB.new hp;have S0:=S.same s0;have pa:p≠a:=(aj ha hp).symm;refine⟨_,_,s0 _ _ ha,rfl,a,r,b,i,rfl,S0,fun hn=>⟨_,rfl,h1 (by rw[drop_nil hn];rfl) _ (Kp.same s0)⟩,fun c H1 hc S1 k1=>?_⟩;refine⟨fun m σ G=>∃ (j:Nat) (f:Bytes) (c:UInt8),m=b.length - j/\σ=[some (.ref a),some (.ref p),some (.int (c.toNat:Int))]/\aQ K t G a r b j/\Kp a H G/\G p=some (.lst (bI f))/\f.length<j/\dC (b.drop i)=(dC (c::b.drop j)).map fun y=>(f++y.1,y.2),⟨_,i+1,[],c,rfl,rfl,S1,(Kp.same s0).trans k1,k1 _ _ ai pa,by simp,?_⟩,?_⟩;.rw[drop_cons hc];cases dC (c::b.drop (i+1))<;>rfl
 rintro m σ G ⟨j,f,c,rfl,rfl,L,Y,U,hl,e⟩;walk_at "r4";have jb:=L.le;have fb:=L.z9;obtain⟨a4,W⟩:=L.at_;by_cases hc:c=34;.refine jS (by rw[hc];rfl) ⟨bI f,.inl ⟨bB.of U,fun l hl=>?_⟩⟩;refine h2 f (b.drop j) (by rw[e,hc,BN];simp) j _ _ rfl (L.same (aB.new hl)) (Y.trans (Kp.new hl)) ⟨l,rfl,ai,Y.free hl (aj W hl).symm⟩
 .have a6:¬ (c.toNat:Int)=34:=fun z=>hc ((toNat_eq (n:=34) (by decide)).mp z);refine sX a6 ⟨fun a3 k=>∃ J,J<b.length - j/\∃ (j:Nat) (f:Bytes) (c:UInt8),J=b.length - j/\a3=[some (.ref a),some (.ref p),some (.int (c.toNat:Int))]/\aQ K t k a r b j/\Kp a H k/\k p=some (.lst (bI f))/\f.length<j/\dC (b.drop i)=(dC (c::b.drop j)).map fun y=>(f++y.1,y.2),?_,?_⟩;.rintro a3 k ⟨J,h1,j',N,c',h3,h4,h5⟩;exact⟨J,h1,j',h3,N,c',h4,h5⟩
  have R:∀ (k:Hp) (B:Nat) (g:Bytes),aQ K t k a r b B->Kp a H k->k p=some (.lst (bI g))->g.length<=B->j<=B->dC (b.drop i)=(dC (b.drop B)).map (fun y=>(g++y.1,y.2)) ->
   ∃ x a0,k a=some (HO.ins (t.c "Scan") x a0)/\List.lookup ("step":Str) a0=none/\qQ K t [V.ref a] k (fun v H3=>∃ J,J<b.length - j/\∃ (j:Nat) (f:Bytes) (c:UInt8),J=b.length - j/\[some (V.ref a),some (V.ref p),some v]=[some (.ref a),some (.ref p),some (.int (c.toNat:Int))]/\aQ K t H3 a r b j/\Kp a H H3/\H3 p=some (.lst (bI f))/\f.length<j/\dC (b.drop i)=(dC (c::b.drop j)).map fun y=>(f++y.1,y.2)) (Bv (fun C d x G=>E (Value.ref C) d G) [some (V.ref a),some (V.ref p),some (V.int (c.toNat:Int))]):=by
   intro k B g M Z a5 b1 b0 e2;obtain⟨O,I⟩:=M.at_;refine⟨_,_,I,rfl,a,r,b,B,rfl,M,fun hn=>⟨_,rfl,h1 ?_ _ Z⟩,fun c' H3 X S3 k3=>?_⟩;.rw[e2,drop_nil hn];rfl
   .have:=fu X;refine⟨b.length - (B+1),by omega,B+1,g,c',rfl,rfl,S3,Z.trans k3,k3 _ _ a5 pa,by omega,?_⟩;rw[e2,drop_cons X]
  by_cases o:c=92
  .have u:(c.toNat:Int)=92:=by rw[o];rfl
   refine l6 (fun _=>⟨.inl ⟨rfl,_,bB.of U⟩,r,b,j,L,fun hn k k2=>⟨_,rfl,h1 ?_ k (Y.trans k2)⟩,fun x rest hx B k v hj M k2 hg=>?_⟩) (fun z=>absurd u z);.rw[e,o,sM,hn];rfl
   .obtain⟨q,hv,hq,b2⟩:=hg;obtain⟨O,I⟩:=M.at_;have sz:=xq hx;have l1:(b.drop j).length=b.length - j:=O6 ..;have l2:rest.length=b.length - B:=by rw[<-hj];exact O6 ..
    have a7:=M.le;have D:Kp a H (upd k p (.lst (bI f++bI x))):=(Y.trans k2).om hp;refine⟨q,hv,bI f,k2 _ _ U pa,bI x,hq,by rw[bo,bo];exact Rm (dR (by omega)),R _ B (f++x) (S.kp D a7 ⟨O,by rw[aq pa.symm];exact I⟩) D (by rw[ai,iW]) (by rw[ON];omega) (by omega) ?_⟩;rw[e,o,sM,hx,Pd,hj,Rl];congr 1;funext y;show(f++(x++y.1),y.2)=_;rw[QX]
  .have u:¬ (c.toNat:Int)=92:=fun z=>o ((toNat_eq (n:=92) (by decide)).mp z);have D:Kp a H (upd G p (.lst (bI f++[V.int (c.toNat:Int)]))):=Y.om hp;refine l6 (fun z=>absurd z u) (fun _=>⟨.inl ⟨rfl,_,bB.of U⟩,bI f,U,by rw[bo];exact dR (by omega),R _ j (f++[c]) (S.kp D jb ⟨a4,by rw[aq pa.symm];exact W⟩) D (by rw[ai,iW];rfl) (by rw[ON];exact hl) (OE _) ?_⟩);rw[e,z5 _ hc o];cases dC (b.drop j)<;>simp
def uV(K:PySem.W.Frag)(t:bZ):Sp:=fun vs H Q E=>∃ a r b i,∃ c:UInt8,vs=[.ref a]/\aQ K t H a r b i/\b[i]?=some c/\(c=34\/c=39)/\Ml K t a r b H (Ql16.string (b.drop i)) (iY H) Q E
theorem Ml.kp{h:Type}{a r:Addr}{b:Bytes}{H f:Hp}{o:Option (h×Bytes)}{d good':h->V->Hp->Prop}{Q:VK}{E:XK}(R:Ml K t a r b H o d Q E)(k:Kp a H f)(i:∀ x v c,Kp a f c->good' x v c->d x v c):Ml K t a r b f o good' Q E:=⟨fun hn c e=>R.1 hn c (k.trans e),fun x rest hx j c v l S e g=>R.2 x rest hx j c v l S (k.trans e) (i x v c e g)⟩
theorem iY.back(k:Kp a H H1)(ha:∃ o,H1 a=some o)(h:iY H1 x v H'):iY H x v H':=by obtain⟨q,c,d,b⟩:=h;obtain⟨o,ha⟩:=ha;exact⟨q,c,d,k.free b (aj ha b).symm⟩
theorem aQ.there(S:aQ K t H a r b i):∃ o,H a=some o:=let ⟨dx,e⟩:=S.at_;⟨_,e⟩
theorem mL:T.aF.iF.Ok P w mg base 6 (uV K t):=by
 refine T.aF.iF.jO (fun vs H Q E h=>?_) (fun y A p s H vs Q E o h=>?_);.obtain⟨a,r,b,i,c,rfl,_⟩:=h;rfl
 obtain⟨a,r,b,i,c,rfl,S,hc,z,R⟩:=h;obtain⟨C,ha⟩:=S.at_;refine⟨_,(af (aK (aC aV (eQ (pv 0) T.scan.aP T.scan.aX.m (cw T) o.zz T.scan.aX.b aH) T.signs.jx.e (aE _)) (ag (ay (T.aF.dt.cX (rV T) o.zz aH (ae (pv 0) ah)))) aD) (ag (ay (T.aF.bY.cX (nj T) o.zz aH (ae (pv 0) ah))))),?_⟩;walk_at "r4";refine⟨_,_,ha,rfl,a,r,b,i,rfl,S,fun hn=>?_,fun B u f l q=>?_⟩;.rw[hc]at hn;cases hn
 rw[hc]at f;cases f;dsimp only;have d:=R.kp q (good':=iY u) (fun x v j k g=>iY.back q l.there g);rw[drop_cons hc]at d;refine⟨rfl,?_⟩;rcases z with rfl | rfl;.rw[FQ]at d;rw[Ox (by decide)];exact⟨r,b,i+1,l,fun hn j k=>⟨_,rfl,d.1 hn j k⟩,d.2⟩
 .rw[FI]at d;rw[Oy (by decide)];exact⟨r,b,i+1,l,fun hn j k=>⟨_,rfl,d.1 hn j k⟩,d.2⟩
theorem BI(h:∀ c r,s=c::r->¬ (c=34\/c=39)):Ql16.key s=uS s:=by
 unfold Ql16.key uS;cases s with
 | nil=>rfl
 | cons c r=>
   dsimp only;rw[Ox (h c r rfl)];by_cases a:Ql16.bare c=true;.rw[Oy a,Qt a,Ox (by simp)]
   .rw[Ox a,RO a,Oy rfl]
theorem CG(h:c=34\/c=39):Ql16.key (c::r)=Ql16.string (c::r):=by unfold Ql16.key;dsimp only;rw[Oy h]
theorem tm:T.aF.iz.Ok P w mg base 7 (jB K t rR iY):=by
 refine T.aF.iz.jO gD (fun X A L s H vs Q E u h=>?_);obtain⟨a,r,b,i,rfl,S,h1,h2⟩:=h;obtain⟨dx,ha⟩:=S.at_;refine⟨_,(af (aN (bL (pv 0) T.scan.aP T.scan.aJ.m (bb T) u.zz T.scan.aJ.b .nil bg))
  (af (aK (bK (T.aF.lX.cl (sI T) u.zz (ae (bL (pv 0) T.scan.aP T.scan.aU.m (bW T) u.zz T.scan.aU.b .nil bg) ah))) (ag (T.aF.iz.set 1 (T.aF.iF.cX (mL T) u.zz aH (ae (pv 0) ah)))) (ag (T.aF.iz.set 1 (T.aF.gi.cX (ro T) u.zz aH (ae (pv 0) ah)))))
  (af (aN (bL (pv 0) T.scan.aP T.scan.aJ.m (bb T) u.zz T.scan.aJ.b .nil bg))
  (ag (ay (pv 1)))))),?_⟩
 walk_at "r4";refine⟨_,_,ha,rfl,a,r,b,i,rfl,S,fun j y a0 hj p J=>?_⟩;obtain⟨Y,D⟩:=p.at_;refine⟨_,_,D,rfl,a,r,b,j,rfl,p,_,rfl,?_⟩;have O:rR (b.drop i)=(Ql16.key (b.drop j)).map fun x=>(x.1,Ql16.skip x.2):=by unfold rR;rw[hj]
 have f:Ql16.key (b.drop j)=none->∀ k,Kp a y k->E (Value.ref (t.c "Malformed")) none k:=fun hn k n=>h1 (by rw[O,hn];rfl) k (J.trans n);have d:∀ x rest,Ql16.key (b.drop j)=some (x,rest)->∀ C o v,b.drop C=rest->aQ K t o a r b C->Kp a y o->iY y x v o ->
  ∃ M B,o a=some (HO.ins (t.c "Scan") M B)/\List.lookup (Str.ofString "skip_blanks") B=none/\fV K t [V.ref a] o (fun a3 y=>Q v y) E0:=by
  intro x rest hx C o v G N k2 g;obtain⟨Z,F⟩:=N.at_;refine⟨_,_,F,rfl,a,r,b,C,rfl,N,fun j3 U _ I W R=>h2 x (Ql16.skip rest) (by rw[O,hx];rfl) j3 U v (by rw[I,G]) W (J.trans (k2.trans R)) ?_⟩;obtain⟨q,e,l,hn⟩:=iY.back J p.there g;refine⟨q,e,R _ _ l ?_,hn⟩;rintro rfl;rw[ha]at hn;cases hn
 cases hc:b[j]? with
 | none=>
   rw[gL hc,F0,Ox (by decide)];have z:Ql16.key (b.drop j)=uS (b.drop j):=BI fun c r' q=>by rw[drop_nil hc]at q;cases q
   rw[z]at f d;exact⟨r,b,j,p,fun hn k n=>⟨_,rfl,f hn k n⟩,d⟩
 | some c=>
   rw[iN hc,yT];by_cases l:c=34\/c=39
   .rw[Oy (by rcases l with rfl | rfl<;>decide)];have z:Ql16.key (b.drop j)=Ql16.string (b.drop j):=by rw[drop_cons hc];exact CG l
    rw[z]at f d;exact⟨a,r,b,j,c,rfl,p,hc,l,fun hn k n=>⟨_,rfl,f hn k n⟩,d⟩
   .rw[Ox (by simpa using l)];have z:Ql16.key (b.drop j)=uS (b.drop j):=BI fun c' r' q=>by
     rw[drop_cons hc]at q;cases q;exact l
    rw[z]at f d;exact⟨r,b,j,p,fun hn k n=>⟨_,rfl,f hn k n⟩,d⟩
def iQ(H:Hp):List Bytes->List V->Prop
 | [],[]=>True
 | k::ks,v::vs=>(∃ p,v=.ref p/\H p=some (.tup (bI k)))/\iQ H ks vs
 | _,_=>False
theorem iQ.len:∀ {a:List Bytes} {vs:List V},iQ H a vs->vs.length=a.length
 | [],[],_=>rfl
 | _::_,_::_,h=>by simp[iQ.len h.2]
 | [],_::_,h=>h.elim
 | _::_,[],h=>h.elim
theorem iQ.mono(m:∀ p x,H p=some (.tup x)->H' p=some (.tup x)):∀ {a:List Bytes} {vs:List V},iQ H a vs->iQ H' a vs
 | [],[],_=>trivial
 | _::_,_::_,⟨⟨p,e,h⟩,b⟩=>⟨⟨p,e,m _ _ h⟩,iQ.mono m b⟩
 | [],_::_,h=>h.elim
 | _::_,[],h=>h.elim
theorem iQ.snoc(a:H p=some (.tup (bI k))):∀ {b:List Bytes} {vs:List V},iQ H b vs->iQ H (b++[k]) (vs++[.ref p])
 | [],[],_=>⟨⟨p,rfl,a⟩,trivial⟩
 | _::_,_::_,⟨h,c⟩=>⟨h,iQ.snoc a c⟩
 | [],_::_,h=>h.elim
 | _::_,[],h=>h.elim
def fc(H:Hp)(b:List Bytes)(v:V)(a:Hp):Prop:=∃ q vs,v=.ref q/\a q=some (.lst vs)/\H q=none/\iQ a b vs
theorem Kp.tup(S:aQ K t H a r b i)(k:Kp a H H'):∀ p x,H p=some (.tup x)->H' p=some (.tup x):=fun p x h=>k p _ h (by rintro rfl;obtain⟨c,e⟩:=S.at_;rw[e]at h;cases h)
def Cc(s:Bytes):Option (List Bytes×Bytes):=match s with
 | 46::r=>mj r
 | s=>some ([],s)
theorem AU(h:∀ r,s≠46::r):Cc s=some ([],s):=by
 unfold Cc;split;.rename_i r;exact absurd rfl (h r)
 .rfl
theorem qL(b:Bytes):mj b=(rR b).bind fun x=>(Cc x.2).map fun y=>(x.1::y.1,y.2):=by
 cases h:rR b with
 | none=>exact CF h
 | some x=>
   obtain⟨x,s⟩:=x;by_cases hs:∃ r,s=46::r;.obtain⟨r,rfl⟩:=hs;exact C1 h
   .have a:∀ r,s≠46::r:=fun r e=>hs ⟨r,e⟩;rw[CA h a,Pd,AU a];rfl
theorem jo:T.aF.ft.Ok P w mg base 8 (jB K t (Ql16.keys Ql16.PARTS) fc):=by
 refine T.aF.ft.jO gD (fun b0 A a5 s H vs Q E hr h=>?_);obtain⟨a,r,b,i,rfl,S,h1,h2⟩:=h;obtain⟨dx,ha⟩:=S.at_;rw[LF]at h1 h2;refine⟨_,(af (T.aF.ft.set 1 (aZ (ae (T.aF.iz.cX (tm T) hr.zz aH (ae (pv 0) ah)) ah)))
  (af (eG PM (bK (lA (pv 0) T.scan.aP T.scan.bh.m (dE T) hr.zz T.scan.bh.b .nil bg (ae T.signs.DU.e ah))) (ag (aN (df OJ OW OX bw (pv 1) (ae (T.aF.iz.cX (tm T) hr.zz aH (ae (pv 0) ah)) ah)))))
  (af (aK (aC hW (aT aO (by rfl) T.hJ.dh O5 (ae (pv 1) ah)) T.aF.Ad.e (aE _)) (ag (bH aH rfl rfl T.aG.bF T.aG.bG)) aD)
  (ag (ay (pv 1)))))),?_⟩
 walk_at "r4";refine⟨r,b,i,S,fun hn f k'=>⟨_,rfl,h1 (by rw[qL,hn];rfl) f k'⟩,fun x rest hx j1 H1 v B S1 k1 g=>⟨by decide,fun p hp=>?_⟩⟩;obtain⟨q,rfl,hq,b4⟩:=g;obtain⟨b2,Z⟩:=S1.at_;have s0:aB H1 (upd H1 p (.lst [.ref q])):=aB.new hp;have M:p≠a:=(aj Z hp).symm;have D:H p=none:=k1.free hp M;have a7:=uL hx;rw[<-B,O6,O6]at a7;refine⟨fun m σ f=>∃ (j:Nat) (d:List Bytes) (vs:List V),m=b.length - j/\σ=[some (.ref a),some (.ref p)]/\aQ K t f a r b j/\Kp a H f/\f p=some (.lst vs)/\iQ f d vs/\d.length<=j/\mj (b.drop i)=(Cc (b.drop j)).map fun y=>(d++y.1,y.2),⟨_,j1,[x],[.ref q],rfl,rfl,S1.same s0,k1.trans (Kp.same s0),ai,⟨⟨q,rfl,s0 _ _ hq⟩,trivial⟩,?_,?_⟩,?_⟩;.show 1<=j1;omega
 .rw[qL,hx,Pd,<-B];rfl
 rintro m σ f ⟨j,d,vs,rfl,rfl,l,U,R,O,hl,e⟩;walk_at "r4";have jb:=l.le;have fb:=l.z9;obtain⟨b1,Y⟩:=l.at_;refine⟨_,_,Y,rfl,a,r,b,j,46,rfl,l,fun hc=>⟨_,rfl,?_⟩,fun hc k S2 I=>⟨_,rfl,?_⟩⟩
 .rw[Ox (by decide)];have hs:∀ r,b.drop j≠46::r:=fun r' q=>by
   cases hb:b[j]? with
   | none=>rw[drop_nil hb]at q;cases q
   | some c=>rw[drop_cons hb]at q;cases q;exact hc hb
  rw[e,AU hs,RR,Pd,Pn]at h1 h2;refine⟨vs,.inl (bB.of R),?_⟩;rw[O.len];refine l6 (fun z=>h1 (Ox (by dsimp only;omega)) f U) (fun z=>?_);exact h2 d (b.drop j) (Oy (by dsimp only;omega)) j f _ rfl l U ⟨p,vs,rfl,R,D,O⟩
 .rw[Oy rfl];have b3:=fu hc;refine⟨fun N k=>∃ W,W<b.length - j/\∃ (j:Nat) (d:List Bytes) (vs:List V),W=b.length - j/\N=[some (.ref a),some (.ref p)]/\aQ K t k a r b j/\Kp a H k/\k p=some (.lst vs)/\iQ k d vs/\d.length<=j/\mj (b.drop i)=(Cc (b.drop j)).map fun y=>(d++y.1,y.2),?_,?_⟩;.rintro N k ⟨W,h1,j',o,a8,h3,h4,h5,h6,h7⟩;exact⟨W,h1,j',h3,h4,h5,h6,o,a8,h7⟩
  have e':mj (b.drop i)=(mj (b.drop (j+1))).map fun y=>(d++y.1,y.2):=by rw[e,drop_cons hc];rfl
  refine⟨.inl ⟨rfl,_,bB.of (I _ _ R M)⟩,r,b,j+1,S2,fun hn n J=>⟨_,rfl,h1 (by rw[e',qL,hn];rfl) n (U.trans (I.trans J))⟩,fun x' a6 G j3 n v' C S3 J g=>?_⟩;obtain⟨q',rfl,a3,a9⟩:=g;have sz:=uL G;rw[<-C,O6,O6]at sz;have a4:=S3.le;obtain⟨X,a0⟩:=S3.at_;have u:=J _ _ (I _ _ R M) M;have L:Kp a H (upd n p (.lst (vs++[.ref q']))):=(U.trans (I.trans J)).om D;have up:∀ p' x,n p'=some (.tup x)->upd n p (.lst (vs++[.ref q'])) p'=some (.tup x):=fun p' x h=>by rw[aq (by rintro rfl;rw[u]at h;cases h)];exact h
  refine⟨vs,u,by rw[O.len];exact dR (by omega),_,?_,j3,d++[x'],vs++[.ref q'],rfl,rfl,S.kp L a4 ⟨X,by rw[aq M.symm];exact a0⟩,L,ai,?_,?_,?_⟩;.omega
  .exact iQ.snoc (up _ _ a3) ((O.mono (Kp.tup l (I.trans J))).mono up)
  .rw[ON];show d.length+1<=j3;omega
  .rw[e',qL,G,Pd,C,Rl];congr 1;funext y;show(d++(x'::y.1),y.2)=_;rw[QX];rfl
def IP(z:Int):Int:=if z<128 then 1 else if 192<=z/\z<224 then 2 else if 224<=z/\z<240 then 3 else if 240<=z/\z<248 then 4 else 0
theorem JD(c:UInt8):IP (c.toNat:Int)=(bM c.toNat:Int):=QH (dS (fun c=>IP (c.toNat:Int)==(bM c.toNat:Int)) (by decide +kernel) c)
theorem qI:T.aL.iu.Ok P w mg base 1 (yL fun z=>.int (IP z)):=by
 refine T.aL.iu.fi kj (fun c A b s H vs Q E d h=>?_);obtain⟨z,rfl,h⟩:=h;dsimp only at h;refine⟨_,(af (aK (aC gV (pv 0) aw (aE _)) (ag (ay aw)) aD)
  (af (aK (kR ja gV aw (pv 0) aw) (ag (ay aw)) aD)
  (af (aK (kR ja gV aw (pv 0) aw) (ag (ay aw)) aD)
  (af (aK (kR ja gV aw (pv 0) aw) (ag (ay aw)) aD)
  (ag (ay aw)))))),?_⟩
 walk_at "r4";have a:∀ n,IP z=n->Q (.int n) H:=fun n e=>e▸h;unfold IP at a;simp only[Pc,RX,Ry]
 repeat' split
 all_goals (apply a;(repeat' split)<;>omega)
theorem M0(c:UInt8):Builtin.bitAnd (c.toNat:Int) 31=(bq c.toNat 2:Int):=QH (dS (fun c=>Builtin.bitAnd (c.toNat:Int) 31==(bq c.toNat 2:Int)) (by decide +kernel) c)
theorem ML(c:UInt8):Builtin.bitAnd (c.toNat:Int) 15=(bq c.toNat 3:Int):=QH (dS (fun c=>Builtin.bitAnd (c.toNat:Int) 15==(bq c.toNat 3:Int)) (by decide +kernel) c)
theorem My(c:UInt8):Builtin.bitAnd (c.toNat:Int) 7=(bq c.toNat 4:Int):=QH (dS (fun c=>Builtin.bitAnd (c.toNat:Int) 7==(bq c.toNat 4:Int)) (by decide +kernel) c)
def rM:Sp:=fun vs H Q _=>∃ (c:UInt8) (l:Nat),vs=[.int (c.toNat:Int),.int (l:Int)]/\1<=l/\l<=4/\Q (.int (bq c.toNat l:Int)) H
theorem rK:T.aL.iS.Ok P w mg base 1 rM:=by
 refine T.aL.iS.fi (fun vs H Q E h=>?_) (fun b A a s H vs Q E d h=>?_);.obtain⟨c,l,rfl,_⟩:=h;rfl
 obtain⟨c,l,rfl,f,g,h⟩:=h;refine⟨_,(af (aK (aC aV (pv 1) aw (aE _)) (ag (ay (pv 0))) aD) (ag (ay (aS ze (pv 0) (aS nc aw (pv 1)))))),?_⟩;walk_at "r4";refine l6 (fun z=>?_) (fun z=>⟨by omega,?_⟩)
 .have:l=1:=by omega
  subst this;exact h
 .have e:l=2\/l=3\/l=4:=by omega
  rcases e with rfl | rfl | rfl;.rw[show Builtin.bitAnd (c.toNat:Int) (127 / 2 ^ ((2:Nat):Int).toNat)=(bq c.toNat 2:Int) from M0 c];exact h
  .rw[show Builtin.bitAnd (c.toNat:Int) (127 / 2 ^ ((3:Nat):Int).toNat)=(bq c.toNat 3:Int) from ML c];exact h
  .rw[show Builtin.bitAnd (c.toNat:Int) (127 / 2 ^ ((4:Nat):Int).toNat)=(bq c.toNat 4:Int) from My c];exact h
theorem Fj{xs:List V}{i:Nat}:oz xs (some (i:Int)) none=xs.drop i:=by
 unfold oz;rw[HT.qA,HT.lI];by_cases h:i<=xs.length;.rw[QU h];exact PU (by rw[O6];omega)
 .rw[Sh (by omega),TH,List.take_zero,QO (by omega)]
theorem uz{xs:List V}{i j:Nat}(a:j<=xs.length)(h:i<=j):oz xs (some (i:Int)) (some (j:Int))=(xs.drop i).take (j - i):=by unfold oz;rw[HT.lI,HT.lI,QU a,QU (by omega)]
theorem rL(h:0<xs.length):oz xs none (some (-1))=xs.dropLast:=by unfold oz;rw[HT.qA];show(xs.drop 0).take ((-1+(xs.length:Int)).toNat - 0)=_;rw[Q4,Um];congr 1;omega
theorem K9(c:UInt8):Builtin.bitAnd (c.toNat:Int) 192=((c.toNat / 64 * 64:Nat):Int):=QH (dS (fun c=>Builtin.bitAnd (c.toNat:Int) 192==((c.toNat / 64 * 64:Nat):Int)) (by decide +kernel) c)
def oD(K:PySem.W.Frag):Sp:=fun vs H Q _=>∃ p,∃ b:Bytes,vs=[.ref p]/\H p=some (.lst (bI b))/\1<=b.length/\b.length<=4/\∀ a,aB H a->Q (.bl (yq (aI b))) a
theorem oG:T.aL.cv.Ok P w mg base 2 (oD K):=by
 refine T.aL.cv.fi (fun vs H Q E h=>?_) (fun C A u s H vs Q E m h=>?_);.obtain⟨c,l,rfl,_⟩:=h;rfl
 obtain⟨p,b,rfl,g,J,B,h⟩:=h;refine⟨_,(af (T.aL.cv.set 1 (T.aL.iS.cl (rK T) m.zz (ae (cT ff (pv 0) aw (fun _ _=>rfl)) (ae (aT aO (by rfl) T.hJ.dh O5 (ae (pv 0) ah)) ah))))
  (af (ic Qh rfl (jW (cF ow (pv 0) (bN aw) jm)) (cA (i:=2) T.aL.cv.s.nd rfl (Ql rfl)) (af (aK (aC je (aS ze (pv 2) aw) aw (aE _)) (ag (ay qw)) aD)
  (ag (T.aL.cv.set 1 (aS cE (aS IS (pv 1) aw) (aS ze (pv 2) aw))))))
  (ag (ay (Di (T.aL.gX.cl (mn T) m.zz (ae (pv 1) ah)) (iw (ck aV (T.aL.eZ.cl (jL T) m.zz (ae (pv 1) ah)) (aT aO (by rfl) T.hJ.dh O5 (ae (pv 0) ah)) (aE _)))))))),?_⟩
 walk_at "r4";cases b with
 | nil=>exact absurd J (by decide)
 | cons x r=>
 refine⟨_,bB.of g,_,Dx (i:=0) (c:=x) rfl,_,.inl (bB.of g),x,r.length+1,by rw[bo];rfl,Nat.succ_le_succ (O1 _),B,?_⟩;refine⟨_,rfl,_,rfl,p,bI (x::r),rfl,bB.of g,fun q G=>⟨q,rfl,⟨_,bB.of ai⟩,?_⟩⟩;have D:oz (bI (x::r)) (some 1) none=bI r:=by exact Fj (i:=1)
 rw[D];have y:aB H (upd H q (.lst (bI r))):=aB.new G;refine jG (xs:=bI r) (fun i j d=>∃ (n:Nat) (o:Option V),j=[some (.ref p),some (.int (n:Int)),o]/\aB (upd H q (.lst (bI r))) d/\n<256 * 64 ^ i/\hZ (bq x.toNat (r.length+1)) (aI r)=hZ n (aI (r.drop i))) ⟨_,none,rfl,fun _ _ h=>h,?_,rfl⟩ (fun i j d _ ⟨n,o,_,s',_⟩=>bB.of (s' _ _ ai)) ?_ ?_
 .have F:=x.toNat_lt;unfold bq;show _<256;split;.exact F
  .split;.omega
   .split<;>omega
 .rintro i v j d f ⟨n,o,rfl,s',hn,e⟩;rw[Cr]at f;cases hc:r[i]? with
  | none=>rw[hc]at f;cases f
  | some c=>
  rw[hc,RR]at f;cases f;walk_at "r4";have M:=fu hc;rw[drop_cons hc]at e;have I:i<=2:=by rw[OB]at B;omega
  have N:(64:Nat) ^ i<=64 ^ 2:=PB (by decide) I;have L:(64:Nat) ^ (i+1)=64 * 64 ^ i:=by rw[RG];omega
  rw[K9 c];by_cases hs:c.toNat / 64=2
  .refine jS (by rw[hs];rfl) ⟨⟨by omega,by omega,by omega⟩,n * 64+c.toNat % 64,?_,s',?_,?_⟩;.rw[KR];show(n:Int) * 64+_=_;omega
   .rw[L];omega
   .rw[e];show hZ n (c.toNat::aI (r.drop (i+1)))=_;rw[hZ,Oy hs]
  .refine sX (by omega) ?_;have z:yq (aI (x::r))=false:=by
    show(match hZ (bq x.toNat ((aI r).length+1)) (aI r) with | none=>false | some n=>_)=false;rw[show(aI r).length=r.length from O0 .. ,e];show(match hZ n (c.toNat::aI (r.drop (i+1))) with | none=>false | some n=>_)=false;rw[hZ,Ox hs]
   rw[z]at h;exact h d (fun a o q=>s' _ _ (y _ _ q))
 .rintro j d ⟨n,o,rfl,s',hn,e⟩;walk_at "r4";have k:d p=some (.lst (bI (x::r))):=s' _ _ (y _ _ g);have z:yq (aI (x::r))=(Ql16.scalar n&&decide (shortest n=r.length+1)):=by
   show(match hZ (bq x.toNat ((aI r).length+1)) (aI r) with | none=>false | some n=>_)=_;rw[show(aI r).length=r.length from O0 ..,e,bo,RL];show(Ql16.scalar n&&decide (shortest n=(List.map UInt8.toNat r).length+1))=_;rw[O0]
  rw[z]at h;have q:=h d (fun a o q=>s' _ _ (y _ _ q));refine⟨n,rfl,?_⟩;cases hs:Ql16.scalar n with
  | false=>rw[Ox (by decide)];rw[hs]at q;exact q
  | true=>rw[Oy rfl];rw[hs,Qj]at q;refine⟨n,rfl,_,.inl (bB.of k),?_⟩;rw[bo];rw[show decide ((shortest n:Int)=((x::r).length:Int))=decide (shortest n=r.length+1) from Vi.mpr (by rw[OB];omega)];exact q
theorem Ct(x:Nat):bM x<=4:=by
 unfold bM
 repeat' split
 all_goals decide
def Co(K:PySem.W.Frag):Sp:=fun vs H Q _=>∃ p,∃ b:Bytes,vs=[.ref p]/\H p=some (.lst (bI b))/\∀ a,aB H a->Q (.bl (Ql16Neutral.utf8 b.length b)) a
theorem Dm:T.aL.ju.Ok P w mg base 3 (Co K):=by
 refine T.aL.ju.fi (fun vs H Q E h=>?_) (fun M A y s H vs Q E G h=>?_);.obtain⟨c,l,rfl,_⟩:=h;rfl
 obtain⟨p,b,rfl,W,h⟩:=h;refine⟨_,(af (T.aL.ju.set 1 aw)
  (af (eG Qh (aC gV (pv 1) (aT aO (by rfl) T.hJ.dh O5 (ae (pv 0) ah)) (aE _)) (af (T.aL.ju.set 2 (T.aL.iu.cl (qI T) G.zz (ae (cT ff (pv 0) (pv 1) (fun _ _=>rfl)) ah)))
  (af (aK (PW.pt (fS (aC aV (pv 2) aw (aE _)) (fk (aC hW (aS cE (pv 1) (pv 2)) (aT aO (by rfl) T.hJ.dh O5 (ae (pv 0) ah)) (aE _))))) (ag (ay qw)) aD)
  (af (aK (ie (bK (T.aL.cv.cl (oG T) G.zz (ae (cF ow (pv 0) (bN (pv 1)) (bN (aS cE (pv 1) (pv 2)))) ah)))) (ag (ay qw)) aD)
  (ag (G1 (i:=1) T.aL.ju.s.nd rfl (Ql rfl) (pv 2) Ho))))))
  (ag (ay qw)))),?_⟩
 walk_at "r4";refine⟨fun m J g=>∃ (j:Nat) (o:Option V),m=b.length - j/\J=[some (.ref p),some (.int (j:Int)),o]/\aB H g/\j<=b.length/\Ql16Neutral.utf8 b.length b=Ql16Neutral.utf8 (b.length - j) (b.drop j),⟨_,0,none,rfl,rfl,fun _ _ h=>h,O1 _,rfl⟩,?_⟩;rintro m J g ⟨j,o,rfl,rfl,s',hj,e⟩;walk_at "r4";have f:=s' _ _ W;refine⟨_,.inl (bB.of f),?_⟩;rw[bo];refine l6 (fun z=>?_) (fun z=>?_)
 .have u:j<b.length:=by omega
  obtain⟨c,hc⟩:∃ c,b[j]?=some c:=⟨b[j],O7 u⟩
  have C:=drop_cons hc;have el:(b.drop (j+1)).length+1=b.length - j:=by rw[O6];omega
  have D:Ql16Neutral.utf8 b.length b=(match seen (b.drop j) with | none=>false | some L=>Ql16Neutral.utf8 (b.length - j - 1) ((b.drop j).drop L)):=by
   rw[e,show b.length - j=(b.length - j - 1)+1 by omega,oj];cases seen (b.drop j) with
   | none=>rw[C];rfl
   | some L=>rfl
  have r:seen (b.drop j)=if bM c.toNat≠0/\bM c.toNat<=(b.drop (j+1)).length+1/\yq (aI ((b.drop j).take (bM c.toNat)))=true then some (bM c.toNat) else none:=by rw[C];rfl
  have v:seen (b.drop j)=none->∀ d,aB H d->Q (.bl false) d:=fun hn d B=>by rw[D,hn]at h;exact h d B
  refine⟨fun k d=>∃ n,n<b.length - j/\∃ (j:Nat) (o:Option V),n=b.length - j/\k=[some (.ref p),some (.int (j:Int)),o]/\aB H d/\j<=b.length/\Ql16Neutral.utf8 b.length b=Ql16Neutral.utf8 (b.length - j) (b.drop j),?_,_,bB.of f,_,Dx hc,_,rfl,?_⟩;.rintro k d ⟨n,h1,Y,Z,R,U⟩;exact⟨n,h1,Y,R,Z,U⟩
  rw[JD];refine l6 (fun z0=>?_) (fun z0=>⟨_,.inl (bB.of f),?_⟩);.rw[Oy trivial];refine v ?_ g s';rw[r,Ox (by omega)]
  rw[bo];refine l6 (fun z1=>?_) (fun z1=>?_);.refine v ?_ g s';rw[r,Ox (by omega)]
  simp only[Nv,EM,Ko];walk_at "r4";refine⟨_,bB.of f,fun q X=>?_⟩;have l4:=Ct c.toNat;generalize bM c.toNat=L at *;have N:oz (bI b) (some (j:Int)) (some ((j:Int)+(L:Int)))=bI ((b.drop j).take L):=by rw[show(j:Int)+(L:Int)=((j+L:Nat):Int) by omega,uz (by rw[bo];omega) (by omega),show j+L - j=L by omega];unfold bI;rw[Uy,Uz]
  rw[N];have lt:((b.drop j).take L).length=L:=by rw[Pg,O6];omega
  refine⟨q,_,rfl,ai,by omega,by omega,fun d B=>⟨_,rfl,?_⟩⟩;have I:aB H d:=fun a o x=>B _ _ (aB.new X _ _ (s' _ _ x));cases F:yq (aI ((b.drop j).take L)) with
  | false=>rw[Oy (by decide)];refine v ?_ d I;rw[r,Ox];rintro⟨_,_,q⟩;rw[F]at q;cases q
  | true=>
    rw[Ox (by decide)];refine⟨_,?_,j+L,rfl,by omega,I,by omega,?_⟩;.omega
    .have O:seen (b.drop j)=some L:=by rw[r,Oy ⟨by omega,by omega,F⟩]
     rw[D,O];show Ql16Neutral.utf8 (b.length - j - 1) ((b.drop j).drop L)=_;rw[SX,Fi _ (b.drop (j+L)) (by rw[O6];omega),O6]
 .have:j=b.length:=by omega
  subst this;rw[e,TH,RL]at h;exact h g s'
theorem qc:T.au.j7.Ok P w mg base 2 (fun vs H Q _=>∃ a r b i,vs=[.ref a]/\aQ K t H a r b i/\Q (.bl (decide (b[i]?=none\/b[i]?=some 35))) H):=by
 refine T.au.j7.fi (fun vs H Q E h=>?_) (fun g A d s H vs Q E f h=>?_);.obtain⟨a,r,b,i,rfl,_⟩:=h;rfl
 obtain⟨a,r,b,i,rfl,S,h⟩:=h;obtain⟨l,ha⟩:=S.at_;refine⟨_,(ag (ay (kQ (ck aV (bL (pv 0) T.scan.aP T.scan.aU.m (bW T) f.zz T.scan.aU.b .nil bg) T.signs.B1.e (aE _)) (iw (ck aV (bL (pv 0) T.scan.aP T.scan.aU.m (bW T) f.zz T.scan.aU.b .nil bg) T.signs.oW.e (aE _)))))),?_⟩;walk_at "r4";refine⟨_,_,ha,rfl,a,r,b,i,rfl,S,rfl,?_⟩;cases hc:b[i]? with
 | none=>rw[gL hc,Oy (by decide)];rw[hc,show decide ((none:Option UInt8)=none\/none=some (35:UInt8))=true from by decide]at h;exact h
 | some c=>
   have j:¬ sg b i=256:=fun z=>by rw[uH.mp z]at hc;cases hc
   rw[Ox (by simpa using j)];refine⟨_,_,ha,rfl,a,r,b,i,rfl,S,rfl,?_⟩;have k:decide (V.int (sg b i)=V.int 35)=decide (b[i]?=none\/b[i]?=some 35):=Vi.mpr (by rw[V.int.injEq];have:=@vZ b i 35;rw[hc]at this |-;simp only[reduceCtorEq,false_or];exact this);rw[k];exact h
def G2:bZ->Sp:=fun t vs H Q E=>∃ n m:Int,vs=[.int n,.int m]/\(n<=m->Q .ba H)/\(m<n->E (.ref (t.c "TooLarge")) none H)
theorem iv:T.store.eH.Ok P w mg base 1 (G2 t):=by
 refine T.store.eH.jO (fun vs H Q E h=>?_) (fun b A a s H vs Q E c h=>?_);.obtain⟨n,m,rfl,_⟩:=h;rfl
 obtain⟨n,m,rfl,h1,h2⟩:=h;refine⟨_,(ag (aK (aC hW (pv 0) (pv 1) (aE _)) (ag (bH aH rfl rfl T.aG.wm T.aG.vI)) aD)),?_⟩;walk_at "r4";exact l6 (fun z=>h2 z) (fun z=>h1 (by omega))
def qB:Sp:=fun vs H Q _=>∃ p,∃ b:Bytes,vs=[.ref p]/\H p=some (.lst (bI b))/\∀ q a,aB H a->a q=some (.lst (bI (jE b)))->(q=p\/H q=none)->Q (.ref q) a
theorem ke:T.au.fO.Ok P w mg base 1 qB:=by
 refine T.au.fO.fi (fun vs H Q E h=>?_) (fun k A f s H vs Q E l h=>?_);.obtain⟨n,m,rfl,_⟩:=h;rfl
 obtain⟨p,b,rfl,a,h⟩:=h;refine⟨_,(af (aK (PW.pt (pN (aC hW (aT aO (by rfl) T.hJ.dh O5 (ae (pv 0) ah)) aw (aE _)) (lh (aC aV (cT ff (pv 0) (eK cR aw) (fun _ _=>rfl)) T.signs.qW.e (aE _))))) (ag (ay (cF ow (pv 0) jm (bN (eK cR aw))))) aD) (ag (ay (pv 0)))),?_⟩;walk_at "r4";refine⟨_,.inl (bB.of a),?_⟩;rw[bo];rcases Sk b with rfl | ⟨g,c,rfl⟩;.rw[Ox (by decide),Ox (by decide)];exact h p H (fun _ _ z=>z) a (.inl rfl)
 .rw[Sl]at *;refine l6 (fun _=>?_) (fun z=>absurd z (by simp));have i:bI (g++[c])=bI g++[V.int (c.toNat:Int)]:=by rw[iW];rfl
  refine⟨_,bB.of a,V.int (c.toNat:Int),by rw[i];exact qT _ _,rfl,?_⟩;by_cases hc:c=13;.subst hc;rw[Oy (by decide)];simp only[Nv,EM,y8,Ko];walk_at "r4";refine⟨_,bB.of a,fun q j=>h q _ (aB.new j) ?_ (.inr j)⟩;rw[ai,rL (by rw[bo];simp),i,QT];unfold jE;rw[Oy (by simp),QT]
  .have d:¬ (c.toNat:Int)=13:=fun z=>hc ((toNat_eq (n:=13) (by decide)).mp z);rw[Ox (by simpa using d)];refine h p H (fun _ _ z=>z) ?_ (.inl rfl);unfold jE;rw[Ox (by simpa using hc)];exact a
def fW(H:Hp):List Bytes->List V->Prop
 | [],[]=>True
 | k::ks,v::vs=>(∃ p,v=.ref p/\H p=some (.lst (bI k)))/\fW H ks vs
 | _,_=>False
theorem fW.len:∀ {a:List Bytes} {vs:List V},fW H a vs->vs.length=a.length
 | [],[],_=>rfl
 | _::_,_::_,h=>by simp[fW.len h.2]
 | [],_::_,h=>h.elim
 | _::_,[],h=>h.elim
theorem fW.mono:∀ {a:List Bytes} {vs:List V},(∀ p x,V.ref p∈vs->H p=some (.lst x)->H' p=some (.lst x))->fW H a vs->fW H' a vs
 | [],[],_,_=>trivial
 | _::_,_::_,m,⟨⟨p,e,h⟩,c⟩=>⟨⟨p,e,m _ _ (by rw[e];exact O2 ..) h⟩,fW.mono (fun p x b=>m p x (OM _ b)) c⟩
 | [],_::_,_,h=>h.elim
 | _::_,[],_,h=>h.elim
theorem fW.upd(h:fW H ks vs)(b:V.ref q∉vs):fW (L2.upd H q o) ks vs:=h.mono fun p x a e=>by rw[aq (by rintro rfl;exact b a)];exact e
theorem fW.same(h:fW H ks vs)(s:aB H H'):fW H' ks vs:=h.mono fun p x _ e=>s _ _ e
theorem fW.fresh(a:H q=none):∀ {c:List Bytes} {vs:List V},fW H c vs->V.ref q∉vs
 | [],[],_=>by simp
 | _::_,_::_,⟨⟨p,e,h⟩,b⟩=>by
   rw[OA];rintro(z | z);.rw[e]at z;cases z;rw[a]at h;cases h
   .exact fW.fresh a b z
 | [],_::_,h=>h.elim
 | _::_,[],h=>h.elim
theorem fW.snoc(a:H p=some (.lst (bI k))):∀ {b:List Bytes} {vs:List V},fW H b vs->fW H (b++[k]) (vs++[.ref p])
 | [],[],_=>⟨⟨p,rfl,a⟩,trivial⟩
 | _::_,_::_,⟨h,c⟩=>⟨h,fW.snoc a c⟩
 | [],_::_,h=>h.elim
 | _::_,[],h=>h.elim
def vG(K:PySem.W.Frag):Sp:=fun vs H Q _=>∃ r,∃ b:Bytes,vs=[.ref r]/\H r=some (.lst (bI b))/\b.length<=30000/\∀ p a us,aB H a->a p=some (.lst us)->H p=none->fW a (gr [] b) us->Q (.ref p) a
theorem vi:T.au.dI.Ok P w mg base 2 (vG K):=by
 refine T.au.dI.fi (fun vs H Q E h=>?_) (fun a4 A a3 s H vs Q E hr h=>?_);.obtain⟨n,m,rfl,_⟩:=h;rfl
 obtain⟨r,b,rfl,X,hb,h⟩:=h;refine⟨_,(af (T.au.dI.set 1 (aZ ah))
  (af (T.au.dI.set 2 (aZ ah))
  (af (ic Qh rfl (jW (pv 0)) (cA (i:=3) T.au.dI.s.nd rfl (Ql rfl)) (ag (aK (aC aV (pv 3) T.signs.Bt.e (aE _)) (af (aN (df OJ OW OX bw (pv 1) (ae (T.au.fO.cl (ke T) hr.zz (ae (pv 2) ah)) ah)))
  (ag (T.au.dI.set 2 (aZ ah)))) (ag (aN (df OJ OW OX bw (pv 2) (ae (pv 3) ah)))))))
  (af (aK (aC hW (aT aO (by rfl) T.hJ.dh O5 (ae (pv 2) ah)) aw (aE _)) (ag (aN (df OJ OW OX bw (pv 1) (ae (T.au.fO.cl (ke T) hr.zz (ae (pv 2) ah)) ah)))) aD)
  (ag (ay (pv 1))))))),?_⟩
 walk_at "r4";refine⟨O1 _,fun p W=>⟨O1 _,fun q hq=>?_⟩⟩;have s0:aB H (upd H p (.lst [])):=aB.new W;have s1:aB (upd H p (.lst [])) (upd (upd H p (.lst [])) q (.lst [])):=aB.new hq;refine⟨_,rfl,r,rfl,⟨_,bB.of (s1 _ _ (s0 _ _ X))⟩,?_⟩;have L:q≠p:=(aj ai hq).symm;have l:H q=none:=by rw[aq L]at hq;exact hq
 refine jG (xs:=bI b) (fun i σ J=>∃ (j:List Bytes) (us:List V) (d:Bytes) (q:Addr) (o:Option V),σ=[some (.ref r),some (.ref p),some (.ref q),o]/\aB H J/\J p=some (.lst us)/\J q=some (.lst (bI d))/\q≠p/\H q=none/\fW J j us/\V.ref p∉us/\V.ref q∉us/\j.length+d.length<=i/\gr [] b=j++gr d (b.drop i))
  ⟨[],[],[],q,none,rfl,fun a o z=>s1 _ _ (s0 _ _ z),s1 _ _ ai,ai,L,l,trivial,by simp,by simp,OE _,rfl⟩
  (fun i σ J _ ⟨_,_,_,_,_,_,s',_⟩=>bB.of (s' _ _ X)) ?_ ?_
 .rintro i v σ J Y ⟨j,us,d,q,o,rfl,s',D,O,L,l,y,k,G,hn,e⟩;rw[Cr]at Y;cases hc:b[i]? with
  | none=>rw[hc]at Y;cases Y
  | some c=>
  rw[hc,RR]at Y;cases Y;have hi:=fu hc;rw[drop_cons hc]at e;walk_at "r4";by_cases C:c=10
  .refine l6 (fun _=>⟨.inl ⟨rfl,_,bB.of D⟩,q,d,rfl,O,fun B R x u f=>?_⟩) (fun z=>absurd (by rw[C];rfl) z);have I:B≠p:=by
    rcases f with rfl | f;.exact L
    .exact(aj D f).symm
   have a5:V.ref B∉us:=by
    rcases f with rfl | f;.exact G
    .exact fW.fresh f y
   refine⟨us,x _ _ D,by rw[y.len];exact dR (by omega),O1 _,fun Z M=>?_⟩;have N:Z≠p:=(aj ai M).symm;have g:R Z=none:=by rw[aq N]at M;exact M
   have sA:aB H (upd (upd R p (.lst (us++[.ref B]))) Z (.lst [])):=fun a o z=>by rw[aq (aj (x _ _ (s' _ _ z)) g),aq (aj z W)];exact x _ _ (s' _ _ z)
   have a0:fW (upd (upd R p (.lst (us++[.ref B]))) Z (.lst [])) (j++[jE d]) (us++[.ref B]):=by
    have r1:fW R (j++[jE d]) (us++[.ref B]):=fW.snoc u (y.same x);refine(r1.upd ?_).upd ?_
    .rw[OH];rintro(z | z);.exact k z
     .rw[Q9]at z;cases z;exact I rfl
    .rw[OH];rintro(z | z);.exact fW.fresh g (y.same x) z
     .rw[Q9]at z;cases z;rw[u]at g;cases g
   refine⟨sA,j++[jE d],us++[.ref B],by rw[aq N.symm];exact ai,[],ai,N,?_,a0,?_,?_,?_,?_⟩
   .cases z:H Z with
    | none=>rfl
    | some o=>rw[x _ _ (s' _ _ z)]at g;cases g
   .rw[OH];rintro(z | z);.exact k z
    .rw[Q9]at z;cases z;exact I rfl
   .rw[OH];rintro(z | z);.exact fW.fresh g (y.same x) z
    .rw[Q9]at z;cases z;rw[u]at g;cases g
   .rw[ON];show j.length+1+0<=i+1;omega
   .rw[e,C];show j++(if (10:UInt8)=10 then _ else _)=_;rw[Oy rfl,QX];rfl
  .have U:¬ (c.toNat:Int)=10:=fun z=>C ((toNat_eq (n:=10) (by decide)).mp z);refine l6 (fun z=>absurd z U) (fun _=>⟨.inl ⟨rfl,_,bB.of O⟩,bI d,O,by rw[bo];exact dR (by omega),fun a o z=>?_,j,us,by rw[aq L.symm];exact D,d++[c],by rw[ai,iW];rfl,L,l,y.upd G,k,G,?_,?_⟩);.rw[aq (aj z l)];exact s' _ _ z
   .rw[ON];show j.length+(d.length+1)<=i+1;omega
   .rw[e];show j++(if c=10 then _ else _)=_;rw[Ox C]
 .rintro σ J ⟨j,us,d,q,o,rfl,s',D,O,L,l,y,k,G,hn,e⟩;rw[bo]at hn e;rw[RL]at e;walk_at "r4";refine⟨_,.inl (bB.of O),?_⟩;rw[bo];refine l6 (fun z=>⟨.inl ⟨rfl,_,bB.of D⟩,q,d,rfl,O,fun B R x u f=>?_⟩) (fun z=>?_)
  .have I:B≠p:=by
    rcases f with rfl | f;.exact L
    .exact(aj D f).symm
   refine⟨us,x _ _ D,by rw[y.len];exact dR (by omega),h p _ (us++[.ref B]) (fun a o z=>?_) ai W ?_⟩;.rw[aq (aj z W)];exact x _ _ (s' _ _ z)
   .rw[e,show gr d []=[jE d] from Ox (by rintro rfl;exact absurd z (by decide))];refine(fW.snoc u (y.same x)).upd ?_;rw[OH];rintro(z | z);.exact k z
    .rw[Q9]at z;cases z;exact I rfl
  .have:d=[]:=Ro.mp (by omega);subst this;refine h p J us s' D W ?_;rw[e,show gr [] []=[] from rfl,Pn];exact y
def vf(k c o d:V):List (Str×V):=[("kind",k),("content",c),("origin",o),("told",d)]
theorem HB(k c o d:V):(vf k c o d).length<1000:=by show 4<1000;decide
def wN(t:bZ):Sp:=fun vs H Q _=>∃ x a k c o,vs=[.ref x,k,c,o]/\H x=some (.ins (t.c "Value") a [])/\Q .ba (upd H x (.ins (t.c "Value") a (vf k c o .ba)))
theorem kF:T.kinds.gO.Ok P w mg base 1 (wN t):=by
 refine T.kinds.gO.fi (fun vs H Q E h=>?_) (fun d A b s H vs Q E e h=>?_);.obtain⟨x,a,k,c,o,rfl,_⟩:=h;rfl
 .obtain⟨x,a,k,c,o,rfl,hx,h⟩:=h;refine⟨_,(af (dm (pv 0) (pv 1) rfl)
   (af (dm (pv 0) (pv 2) rfl)
   (af (dm (pv 0) (pv 3) rfl)
   (ag (dm (pv 0) eX rfl))))),?_⟩
  refine⟨_,rfl,_,rfl,x,_,a,_,rfl,hx,T.kinds.aR,T.kinds.bj,(by show 0<1000;decide),?_⟩;refine⟨_,rfl,_,rfl,x,_,a,_,rfl,ai,T.kinds.aR,T.kinds.aW,(by show 1<1000;decide),?_⟩;refine⟨_,rfl,_,rfl,x,_,a,_,rfl,ai,T.kinds.aR,T.kinds.bp,(by show 2<1000;decide),?_⟩;refine⟨_,rfl,x,_,a,_,rfl,ai,T.kinds.aR,T.kinds.qi,(by show 3<1000;decide),?_⟩;rw[cx,cx,cx];exact h
def uC(t:bZ):Sp:=fun vs H Q _=>∃ k c,vs=[k,c]/\∀ x b a,aB H a->H x=none->H b=none->a x=some (.ins (t.c "Value") b (vf k c (.int 0) .ba))->Q (.ref x) a
theorem jF:T.kinds.iC.Ok P w mg base 3 (uC t):=by
 refine T.kinds.iC.fi (fun vs H Q E h=>?_) (fun i A f s H vs Q E l h=>?_);.obtain⟨k,c,rfl,_⟩:=h;rfl
 obtain⟨k,c,rfl,h⟩:=h;refine⟨_,(ag (ay (gQ T.kinds.vw (kF T) l.zz rfl T.kinds.uc T.kinds.gO.b .nil bg (ae (pv 0) (ae (pv 1) (ae T.kinds.ou.e ah)))))),?_⟩;walk_at "r4";intro x g hx d j;refine⟨x,g,k,c,_,rfl,ai,rfl,?_⟩;rw[cx];refine h x g _ (fun a o z=>?_) hx d ai;rw[aq (aj z hx),aq (aj z d)];exact z
def vh(t:bZ):Sp:=fun vs H Q _=>∃ o,vs=[o]/\∀ x b c a,aB H a->H x=none->H b=none->H c=none->c≠x->a c=some (.dT [])->a x=some (.ins (t.c "Value") b (vf (.int 6) (.ref c) o .ba))->Q (.ref x) a
theorem cC:T.kinds.bS.Ok P w mg base 3 (vh t):=by
 refine T.kinds.bS.fi (fun vs H Q E h=>?_) (fun l A g s H vs Q E n h=>?_);.obtain⟨k,rfl,_⟩:=h;rfl
 obtain⟨o,rfl,h⟩:=h;refine⟨_,(ag (ay (gQ T.kinds.vw (kF T) n.zz rfl T.kinds.uc T.kinds.gO.b .nil bg (ae T.kinds.qK.e (ae HK (ae (pv 0) ah)))))),?_⟩;walk_at "r4";refine fun c hc x f hx d m=>?_;have i:x≠c:=(aj ai hx).symm;have j:f≠c:=(aj ai d).symm;rw[aq i]at hx;rw[aq j]at d;refine⟨x,f,_,_,_,rfl,ai,rfl,?_⟩;rw[cx];refine h x f c _ (fun a u z=>?_) hx d hc i.symm ?_ ai;.rw[aq (aj z hx),aq (aj z d),aq (aj z hc)];exact z
 .rw[aq i.symm,aq j.symm];exact ai
def wZ(t:bZ):Sp:=fun vs H Q _=>∃ o,vs=[o]/\∀ x b c a,aB H a->H x=none->H b=none->H c=none->c≠x->a c=some (.lst [])->a x=some (.ins (t.c "Value") b (vf (.int 5) (.ref c) o .ba))->Q (.ref x) a
theorem oQ:T.kinds.jq.Ok P w mg base 3 (wZ t):=by
 refine T.kinds.jq.fi (fun vs H Q E h=>?_) (fun l A g s H vs Q E n h=>?_);.obtain⟨k,rfl,_⟩:=h;rfl
 obtain⟨o,rfl,h⟩:=h;refine⟨_,(ag (ay (gQ T.kinds.vw (kF T) n.zz rfl T.kinds.uc T.kinds.gO.b .nil bg (ae T.kinds.mX.e (ae (aZ ah) (ae (pv 0) ah)))))),?_⟩;walk_at "r4";refine⟨O1 _,fun c hc x f hx d m=>?_⟩;have i:x≠c:=(aj ai hx).symm;have j:f≠c:=(aj ai d).symm;rw[aq i]at hx;rw[aq j]at d;refine⟨x,f,_,_,_,rfl,ai,rfl,?_⟩;rw[cx];refine h x f c _ (fun a u z=>?_) hx d hc i.symm ?_ ai;.rw[aq (aj z hx),aq (aj z d),aq (aj z hc)];exact z
 .rw[aq i.symm,aq j.symm];exact ai
open Ql16 (Bytes Node Entries)
def kB(k:Bytes):List Key:=k.map fun c=>Sum.inl (c.toNat:Int)
theorem B8(k:Bytes):(kB k).map kV=bI k:=by unfold kB bI;rw[P4];rfl
theorem ve:∀ {a b:Bytes},kB a=kB b->a=b
 | [],[],_=>rfl
 | [],_::_,h=>by simp[kB]at h
 | _::_,[],h=>by simp[kB]at h
 | x::a,y::b,h=>by simp only[kB,OP,OT,Sum.inl.injEq]at h;have e:x=y:=P6.mp (by omega);rw[e,ve (a:=a) (b:=b) h.2]
theorem LH(h:bI a=bI b):a=b:=by
 induction a generalizing b with
 | nil=>cases b with
   | nil=>rfl
   | cons _ _=>simp[bI]at h
 | cons x a c=>cases b with
   | nil=>simp[bI]at h
   | cons y b=>simp only[bI,OP,OT,V.int.injEq]at h;have e:x=y:=P6.mp (by omega);rw[e,c (b:=b) h.2]
def Ce(h:Nat):Int:=if h=0 then 2 else if h=1 then 3 else if h=2 then 1 else 0
theorem uh(ha:a<=3)(c:b<=3)(h:Ce a=Ce b):a=b:=by
 unfold Ce at h
 repeat' split at h
 all_goals omega
abbrev TD:=Hp->Node->V->Prop
def vO(t:bZ)(a:Addr)(k:Int)(c:V)(o:Int)(d:V):HO:=.ins (t.c "Value") a (vf (.int k) c (.int o) d)
mutual
def Rep(t:bZ)(D:TD)(H:Hp):Node->V->List Addr->Prop
 | .text b,v,fp=>∃ x dx d p,v=.ref x/\H x=some (vO t dx 0 (.ref p) 0 d)/\H p=some (.tup (bI b))/\D H (.text b) d/\fp=[x]
 | .whole n,v,fp=>∃ x dx d,v=.ref x/\H x=some (vO t dx 1 (.int n) 0 d)/\D H (.whole n) d/\fp=[x]
 | .real n,v,fp=>∃ x dx d,v=.ref x/\H x=some (vO t dx 2 (.int (n:Int)) 0 d)/\D H (.real n) d/\fp=[x]
 | .truth b,v,fp=>∃ x dx d,v=.ref x/\H x=some (vO t dx 3 (.bl b) 0 d)/\D H (.truth b) d/\fp=[x]
 | .day n,v,fp=>∃ x dx d,v=.ref x/\H x=some (vO t dx 4 (.int n) 0 d)/\D H (.day n) d/\fp=[x]
 | .list l,v,fp=>∃ x dx d c vs fr,v=.ref x/\H x=some (vO t dx 5 (.ref c) 0 d)/\H c=some (.lst vs)/\fq t D H l vs fr/\D H (.list l) d/\fp=x::c::fr
 | .rows l,v,fp=>∃ x dx d c vs fr,v=.ref x/\H x=some (vO t dx 5 (.ref c) 3 d)/\H c=some (.lst vs)/\eO t D H l vs fr/\D H (.rows l) d/\fp=x::c::fr/\l≠[]
 | .table h l,v,fp=>∃ x dx d c kvs fr,v=.ref x/\H x=some (vO t dx 6 (.ref c) (Ce h) d)/\H c=some (.dT kvs)/\bE t D H l kvs fr/\D H (.table 1 l) d/\fp=x::c::fr/\h<=3
def fq(t:bZ)(D:TD)(H:Hp):List Node->List V->List Addr->Prop
 | [],vs,fp=>vs=[]/\fp=[]
 | n::r,vs,fp=>∃ v vr f1 f2,vs=v::vr/\Rep t D H n v f1/\fq t D H r vr f2/\fp=f1++f2
def bE(t:bZ)(D:TD)(H:Hp):List (Bytes×Node)->List (List Key×V)->List Addr->Prop
 | [],kvs,fp=>kvs=[]/\fp=[]
 | (k,n)::r,kvs,fp=>∃ v kr f1 f2,kvs=(kB k,v)::kr/\Rep t D H n v f1/\bE t D H r kr f2/\fp=f1++f2
def eO(t:bZ)(D:TD)(H:Hp):List (List (Bytes×Node))->List V->List Addr->Prop
 | [],vs,fp=>vs=[]/\fp=[]
 | es::r,vs,fp=>∃ x dx d c kvs vr f1 f2,vs=.ref x::vr/\H x=some (vO t dx 6 (.ref c) 3 d)/\H c=some (.dT kvs)/\bE t D H es kvs f1/\D H (.table 1 es) d/\eO t D H r vr f2/\fp=(x::c::f1)++f2
end
def fT(t:bZ)(D:TD)(H:Hp)(o:Int)(b:Entries)(x:Addr)(g:List Addr):Prop:=∃ f d c a e,H x=some (vO t f 6 (.ref c) o d)/\H c=some (.dT a)/\bE t D H b a e/\D H (.table 1 b) d/\g=x::c::e
theorem ip:Rep t D H (.table h l) v fp↔h<=3/\∃ x,v=.ref x/\fT t D H (Ce h) l x fp:=by
 constructor;.rintro⟨x,b,d,c,a,n,e,f,g,i,j,k,m⟩;exact⟨m,x,e,b,d,c,a,n,f,g,i,j,k⟩
 .rintro⟨m,x,e,b,d,c,a,n,f,g,i,j,k⟩;exact⟨x,b,d,c,a,n,e,f,g,i,j,k,m⟩
theorem ig:eO t D H (es::r) vs fp↔∃ x e f b,vs=.ref x::e/\fT t D H 3 es x f/\eO t D H r e b/\fp=f++b:=by
 constructor;.rintro⟨x,g,d,c,a,e,f,b,h,i,j,k,l,m,n⟩;exact⟨x,e,_,b,h,⟨g,d,c,a,f,i,j,k,l,rfl⟩,m,n⟩
 .rintro⟨x,e,f,b,h,⟨g,d,c,a,o,i,j,k,l,rfl⟩,m,n⟩;exact⟨x,g,d,c,a,e,o,b,h,i,j,k,l,m,n⟩
structure cO(D:TD)(fp:List Addr)(H H':Hp):Prop where
 obj:∀ a∈fp,∀ o,H a=some o->H' a=some o
 tup:∀ p xs,H p=some (.tup xs)->H' p=some (.tup xs)
 Hx:∀ n d,D H n d->D H' n d
theorem cO.sub(s:cO D f H H')(h:∀ a∈g,a∈f):cO D g H H':=⟨fun a ha=>s.obj a (h a ha),s.tup,s.Hx⟩
mutual
theorem Rep.br{D:TD}{H H':Hp}:∀ (n:Node) (v:V) (fp:List Addr),cO D fp H H'->Rep t D H n v fp->Rep t D H' n v fp
 | .text b,v,fp,s,⟨x,dx,d,p,e1,e2,e3,e4,e5⟩=>⟨x,dx,d,p,e1,s.obj x (by rw[e5];simp) _ e2,s.tup _ _ e3,s.Hx _ _ e4,e5⟩
 | .whole n,v,fp,s,⟨x,dx,d,e1,e2,e4,e5⟩=>⟨x,dx,d,e1,s.obj x (by rw[e5];simp) _ e2,s.Hx _ _ e4,e5⟩
 | .real n,v,fp,s,⟨x,dx,d,e1,e2,e4,e5⟩=>⟨x,dx,d,e1,s.obj x (by rw[e5];simp) _ e2,s.Hx _ _ e4,e5⟩
 | .truth n,v,fp,s,⟨x,dx,d,e1,e2,e4,e5⟩=>⟨x,dx,d,e1,s.obj x (by rw[e5];simp) _ e2,s.Hx _ _ e4,e5⟩
 | .day n,v,fp,s,⟨x,dx,d,e1,e2,e4,e5⟩=>⟨x,dx,d,e1,s.obj x (by rw[e5];simp) _ e2,s.Hx _ _ e4,e5⟩
 | .list l,v,fp,s,⟨x,dx,d,c,vs,fr,e1,e2,e3,e4,e5,e6⟩=>⟨x,dx,d,c,vs,fr,e1,s.obj x (by rw[e6];simp) _ e2,s.obj c (by rw[e6];simp) _ e3,fq.br l vs fr (s.sub fun a ha=>by rw[e6];simp[ha]) e4,s.Hx _ _ e5,e6⟩
 | .rows l,v,fp,s,⟨x,dx,d,c,vs,fr,e1,e2,e3,e4,e5,e6,e7⟩=>⟨x,dx,d,c,vs,fr,e1,s.obj x (by rw[e6];simp) _ e2,s.obj c (by rw[e6];simp) _ e3,eO.br l vs fr (s.sub fun a ha=>by rw[e6];simp[ha]) e4,s.Hx _ _ e5,e6,e7⟩
 | .table h l,v,fp,s,⟨x,dx,d,c,vs,fr,e1,e2,e3,e4,e5,e6,e7⟩=>⟨x,dx,d,c,vs,fr,e1,s.obj x (by rw[e6];simp) _ e2,s.obj c (by rw[e6];simp) _ e3,bE.br l vs fr (s.sub fun a ha=>by rw[e6];simp[ha]) e4,s.Hx _ _ e5,e6,e7⟩
theorem fq.br{D:TD}{H H':Hp}:∀ (l:List Node) (vs:List V) (fp:List Addr),cO D fp H H'->fq t D H l vs fp->fq t D H' l vs fp
 | [],vs,fp,s,h=>h
 | n::r,vs,fp,s,⟨v,vr,f1,f2,e1,e2,e3,e4⟩=>⟨v,vr,f1,f2,e1,Rep.br n v f1 (s.sub fun a ha=>by rw[e4];simp[ha]) e2,fq.br r vr f2 (s.sub fun a ha=>by rw[e4];simp[ha]) e3,e4⟩
theorem bE.br{D:TD}{H H':Hp}:∀ (l:List (Bytes×Node)) (kvs:List (List Key×V)) (fp:List Addr),cO D fp H H'->bE t D H l kvs fp->bE t D H' l kvs fp
 | [],vs,fp,s,h=>h
 | (k,n)::r,vs,fp,s,⟨v,vr,f1,f2,e1,e2,e3,e4⟩=>⟨v,vr,f1,f2,e1,Rep.br n v f1 (s.sub fun a ha=>by rw[e4];simp[ha]) e2,bE.br r vr f2 (s.sub fun a ha=>by rw[e4];simp[ha]) e3,e4⟩
theorem eO.br{D:TD}{H H':Hp}:∀ (l:List (List (Bytes×Node))) (vs:List V) (fp:List Addr),cO D fp H H'->eO t D H l vs fp->eO t D H' l vs fp
 | [],vs,fp,s,h=>h
 | es::r,vs,fp,s,⟨x,dx,d,c,kvs,vr,f1,f2,e1,e2,e3,e4,e5,e6,e7⟩=>⟨x,dx,d,c,kvs,vr,f1,f2,e1,s.obj x (by rw[e7];simp) _ e2,s.obj c (by rw[e7];simp) _ e3,bE.br es kvs f1 (s.sub fun a ha=>by rw[e7];simp[ha]) e4,s.Hx _ _ e5,eO.br r vr f2 (s.sub fun a ha=>by rw[e7];simp[ha]) e6,e7⟩
end
theorem fT.br(s:cO D fp H H')(h:fT t D H o es x fp):fT t D H' o es x fp:=by obtain⟨g,d,c,b,f,i,j,k,l,e⟩:=h;exact⟨g,d,c,b,f,s.obj x (by rw[e];simp) _ i,s.obj c (by rw[e];simp) _ j,bE.br es b f (s.sub fun a ha=>by rw[e];simp[ha]) k,s.Hx _ _ l,e⟩
mutual
theorem Rep.there{D:TD}{H:Hp}:∀ (n:Node) (v:V) (fp:List Addr),Rep t D H n v fp->∀ a∈fp,∃ o,H a=some o
 | .text b,v,fp,⟨x,dx,d,p,e1,e2,e3,e4,e5⟩=>fun a ha=>by rw[e5]at ha;simp at ha;exact⟨_,by rw[ha];exact e2⟩
 | .whole n,v,fp,⟨x,dx,d,e1,e2,e4,e5⟩=>fun a ha=>by rw[e5]at ha;simp at ha;exact⟨_,by rw[ha];exact e2⟩
 | .real n,v,fp,⟨x,dx,d,e1,e2,e4,e5⟩=>fun a ha=>by rw[e5]at ha;simp at ha;exact⟨_,by rw[ha];exact e2⟩
 | .truth n,v,fp,⟨x,dx,d,e1,e2,e4,e5⟩=>fun a ha=>by rw[e5]at ha;simp at ha;exact⟨_,by rw[ha];exact e2⟩
 | .day n,v,fp,⟨x,dx,d,e1,e2,e4,e5⟩=>fun a ha=>by rw[e5]at ha;simp at ha;exact⟨_,by rw[ha];exact e2⟩
 | .list l,v,fp,⟨x,dx,d,c,vs,fr,e1,e2,e3,e4,e5,e6⟩=>fun a ha=>by
   rw[e6]at ha;rcases OA.mp ha with rfl | ha;.exact⟨_,e2⟩
   .rcases OA.mp ha with rfl | ha;.exact⟨_,e3⟩
    .exact fq.there l vs fr e4 a ha
 | .rows l,v,fp,⟨x,dx,d,c,vs,fr,e1,e2,e3,e4,e5,e6,e7⟩=>fun a ha=>by
   rw[e6]at ha;rcases OA.mp ha with rfl | ha;.exact⟨_,e2⟩
   .rcases OA.mp ha with rfl | ha;.exact⟨_,e3⟩
    .exact eO.there l vs fr e4 a ha
 | .table h l,v,fp,⟨x,dx,d,c,vs,fr,e1,e2,e3,e4,e5,e6,e7⟩=>fun a ha=>by
   rw[e6]at ha;rcases OA.mp ha with rfl | ha;.exact⟨_,e2⟩
   .rcases OA.mp ha with rfl | ha;.exact⟨_,e3⟩
    .exact bE.there l vs fr e4 a ha
theorem fq.there{D:TD}{H:Hp}:∀ (l:List Node) (vs:List V) (fp:List Addr),fq t D H l vs fp->∀ a∈fp,∃ o,H a=some o
 | [],vs,fp,h=>fun a ha=>by rw[h.2]at ha;cases ha
 | n::r,vs,fp,⟨v,vr,f1,f2,e1,e2,e3,e4⟩=>fun a ha=>by
   rw[e4]at ha;rcases OH.mp ha with ha | ha;.exact Rep.there n v f1 e2 a ha
   .exact fq.there r vr f2 e3 a ha
theorem bE.there{D:TD}{H:Hp}:∀ (l:List (Bytes×Node)) (kvs:List (List Key×V)) (fp:List Addr),bE t D H l kvs fp->∀ a∈fp,∃ o,H a=some o
 | [],vs,fp,h=>fun a ha=>by rw[h.2]at ha;cases ha
 | (k,n)::r,vs,fp,⟨v,vr,f1,f2,e1,e2,e3,e4⟩=>fun a ha=>by
   rw[e4]at ha;rcases OH.mp ha with ha | ha;.exact Rep.there n v f1 e2 a ha
   .exact bE.there r vr f2 e3 a ha
theorem eO.there{D:TD}{H:Hp}:∀ (l:List (List (Bytes×Node))) (vs:List V) (fp:List Addr),eO t D H l vs fp->∀ a∈fp,∃ o,H a=some o
 | [],vs,fp,h=>fun a ha=>by rw[h.2]at ha;cases ha
 | es::r,vs,fp,⟨x,dx,d,c,kvs,vr,f1,f2,e1,e2,e3,e4,e5,e6,e7⟩=>fun a ha=>by
   rw[e7]at ha;rcases OH.mp ha with ha | ha
   .rcases OA.mp ha with rfl | ha;.exact⟨_,e2⟩
    .rcases OA.mp ha with rfl | ha;.exact⟨_,e3⟩
     .exact bE.there es kvs f1 e4 a ha
   .exact eO.there r vr f2 e6 a ha
end
theorem fT.there(h:fT t D H o es x fp):∀ a∈fp,∃ o,H a=some o:=by
 obtain⟨k,d,c,b,j,e,f,g,l,i⟩:=h;intro a ha;rw[i]at ha;rcases OA.mp ha with rfl | ha;.exact⟨_,e⟩
 .rcases OA.mp ha with rfl | ha;.exact⟨_,f⟩
  .exact bE.there es b j g a ha
theorem iO:∀ {a b:Entries} {c:List (List Key×V)} {i:List Addr},bE t D H (a++b) c i↔∃ g d e f,c=g++d/\i=e++f/\bE t D H a g e/\bE t D H b d f
 | [],b,c,i=>by
   constructor;.intro h;exact⟨[],c,[],i,rfl,rfl,⟨rfl,rfl⟩,h⟩
   .rintro⟨g,d,e,f,rfl,rfl,⟨rfl,rfl⟩,h⟩;exact h
 | (k,n)::r,b,c,i=>by
   constructor;.rintro⟨v,p,e,f,rfl,m,o,rfl⟩;obtain⟨g,d,j,l,rfl,rfl,h1,h2⟩:=iO.mp o;exact⟨(kB k,v)::g,d,e++j,l,rfl,by simp,⟨v,g,e,j,rfl,m,h1,rfl⟩,h2⟩
   .rintro⟨g,d,e,f,rfl,rfl,⟨v,p,j,l,rfl,m,o,rfl⟩,h2⟩;exact⟨v,p++d,j,l++f,rfl,m,iO.mpr ⟨p,d,l,f,rfl,rfl,o,h2⟩,by simp⟩
theorem AW(h:Rep t D H n v fp):bE t D H [(k,n)] [(kB k,v)] fp:=⟨v,[],fp,[],rfl,h,⟨rfl,rfl⟩,by simp⟩
theorem xY(h:Rep t D H n v f2):∀ {l:List Node} {vs:List V} {a:List Addr},fq t D H l vs a->fq t D H (l++[n]) (vs++[v]) (a++f2)
 | [],vs,a,⟨b,c⟩=>by subst b c;exact⟨v,[],f2,[],rfl,h,⟨rfl,rfl⟩,by simp⟩
 | m::r,vs,a,⟨u,f,g1,g2,b,c,d,e⟩=>by subst b e;exact⟨u,f++[v],g1,g2++f2,rfl,c,xY h d,by simp⟩
theorem yx(h:fT t D H 3 es x f2):∀ {l:List Entries} {vs:List V} {a:List Addr},eO t D H l vs a->eO t D H (l++[es]) (vs++[.ref x]) (a++f2)
 | [],vs,a,⟨b,c⟩=>by subst b c;exact ig.mpr ⟨x,[],f2,[],rfl,h,⟨rfl,rfl⟩,by simp⟩
 | m::r,vs,a,q=>by obtain⟨u,i,f,g,b,c,d,e⟩:=ig.mp q;subst b e;exact ig.mpr ⟨u,i++[.ref x],f,g++f2,rfl,c,yx h d,by simp⟩
theorem xP:∀ {l:List Entries} {vs:List V} {b:List Addr},eO t D H (l++[es]) vs b->∃ a x i j,vs=a++[.ref x]/\b=i++j/\eO t D H l a i/\fT t D H 3 es x j
 | [],vs,b,q=>by obtain⟨u,p,c,o,d,e,⟨f,g⟩,h⟩:=ig.mp q;subst d f g h;exact⟨[],u,[],c,rfl,by simp,⟨rfl,rfl⟩,e⟩
 | m::r,vs,b,q=>by obtain⟨u,p,c,o,d,e,f,h⟩:=ig.mp q;obtain⟨a,x,h1,h2,rfl,rfl,k,n⟩:=xP f;subst d h;exact⟨.ref u::a,x,c++h1,h2,rfl,by simp,ig.mpr ⟨u,a,c,h1,rfl,e,k,rfl⟩,n⟩
theorem xu:∀ {g:Entries} {b:List (List Key×V)} {d:List Addr},bE t D H g b d ->
 (Ql16.look k g=none->bR b (kB k)=none)/\∀ n,Ql16.look k g=some n->∃ v f,bR b (kB k)=some v/\Rep t D H n v f/\∀ a∈f,a∈d
 | [],b,d,⟨e,l⟩=>by subst e;exact⟨fun _=>rfl,fun n h=>by simp[Ql16.look]at h⟩
 | (c,m)::r,b,d,⟨v,j,f1,f2,e,l,o,p⟩=>by
   subst e p;obtain⟨s,u⟩:=xu (k:=k) o;rw[fG];by_cases i:c=k
   .subst i;have q:bR ((kB c,v)::j) (kB c)=some v:=by simp[bR]
    rw[Oy rfl];exact⟨fun h=>(by cases h),fun n h=>by cases h;exact⟨v,f1,q,l,fun a ha=>by simp[ha]⟩⟩
   .have q:bR ((kB c,v)::j) (kB k)=bR j (kB k):=by
     have:¬ kB c=kB k:=fun z=>i (ve z);simp[bR,Qo,this]
    rw[Ox i,q];exact⟨s,fun n h=>by obtain⟨w,f,a1,a2,a3⟩:=u n h;exact⟨w,f,a1,a2,fun a ha=>by simp[a3 a ha]⟩⟩
theorem wA:∀ {d:Entries} {a:List (List Key×V)} {c:List Addr},bE t D H d a c->a.length=d.length
 | [],a,c,⟨b,e⟩=>by subst b;rfl
 | (h,m)::r,a,c,⟨v,i,f1,f2,b,e,f,g⟩=>by subst b;simp[wA f]
theorem u9:∀ {c:List Node} {vs:List V} {b:List Addr},fq t D H c vs b->vs.length=c.length
 | [],kvs,b,⟨a,d⟩=>by subst a;rfl
 | m::r,kvs,b,⟨v,g,f1,f2,a,d,e,f⟩=>by subst a;simp[u9 e]
theorem v9:∀ {e:List Entries} {vs:List V} {b:List Addr},eO t D H e vs b->vs.length=e.length
 | [],kvs,b,⟨a,f⟩=>by subst a;rfl
 | m::r,kvs,b,⟨x,dx,d,c,l,n,f1,f2,a,f,h,i,j,g,k⟩=>by subst a;simp[v9 g]
theorem yX:∀ (a:Entries),a.length<=dk a
 | []=>by simp[dk]
 | (k,n)::r=>by have:=yX r;simp[dk];omega
theorem ud:∀ (a:List Node),a.length<=pC a
 | []=>by simp[pC]
 | n::r=>by have:=ud r;simp[pC];omega
theorem zb:∀ (a:List Entries),a.length<=pO a
 | []=>by simp[pO]
 | n::r=>by have:=zb r;simp[pO];omega
def D0:TD:=fun _ _ d=>d=.ba
def Ctx(t:bZ)(H:Hp)(m:Addr)(l:Int):List Fr->Addr->Int->List Addr->Prop
 | [],cur,oc,fp=>cur=m/\oc=l/\fp=[]
 | .tab pre k h post::r,cur,oc,fp=>oc=Ce h/\h<=3/\∃ par j c e f g a b d,H par=some (vO t j 6 (.ref c) g .ba)/\H c=some (.dT (e++(kB k,.ref cur)::f)) /\ bE t D0 H pre e a/\bE t D0 H post f b/\Ctx t H m l r par g d/\fp=par::c::(a++b++d)
 | .row pre k l0 post::r,cur,oc,fp=>oc=3/\∃ par j c e f g a b d y p i o n,H par=some (vO t j 6 (.ref c) g .ba)/\H c=some (.dT (e++(kB k,.ref y)::f)) /\ bE t D0 H pre e a/\bE t D0 H post f b/\H y=some (vO t p 5 (.ref i) 3 .ba)/\H i=some (.lst (o++[.ref cur]))/\eO t D0 H l0 o n/\Ctx t H m l r par g d/\fp=par::c::y::i::(a++b++n++d)
theorem Ctx.br:∀ {v:List Fr} {b:Addr} {e:Int} {d:List Addr},cO D0 d H H'->Ctx t H x0 o0 v b e d->Ctx t H' x0 o0 v b e d
 | [],b,e,d,s,h=>h
 | .tab pre k h post::r,b,e,d,s,⟨f,g,par,dx,c,p,q,op,f1,f2,fr,i,j,l,m,n,o⟩=>by subst o;exact⟨f,g,par,dx,c,p,q,op,f1,f2,fr,s.obj par (by simp) _ i,s.obj c (by simp) _ j,bE.br _ _ _ (s.sub fun a ha=>by simp[ha]) l,bE.br _ _ _ (s.sub fun a ha=>by simp[ha]) m,Ctx.br (s.sub fun a ha=>by simp[ha]) n,rfl⟩
 | .row pre k l0 post::r,b,e,d,s,⟨f,par,dx,c,p,q,op,f1,f2,fr,y,x,u,v0,C,i,j,l,m,z,A,B,n,o⟩=>by subst o;exact⟨f,par,dx,c,p,q,op,f1,f2,fr,y,x,u,v0,C,s.obj par (by simp) _ i,s.obj c (by simp) _ j,bE.br _ _ _ (s.sub fun a ha=>by simp[ha]) l,bE.br _ _ _ (s.sub fun a ha=>by simp[ha]) m,s.obj y (by simp) _ z,s.obj u (by simp) _ A,eO.br _ _ _ (s.sub fun a ha=>by simp[ha]) B,Ctx.br (s.sub fun a ha=>by simp[ha]) n,rfl⟩
theorem Ctx.there:∀ {x:List Fr} {b:Addr} {f:Int} {d:List Addr},Ctx t H x0 o0 x b f d->∀ a∈d,∃ o,H a=some o
 | [],b,f,d,⟨_,_,e⟩=>fun a ha=>by rw[e]at ha;cases ha
 | .tab pre k h post::r,b,f,d,⟨p,q,par,dx,c,z,A,op,f1,f2,fr,g,i,j,l,m,n⟩=>fun a ha=>by
   subst n;simp only[OA,OH]at ha;rcases ha with rfl | rfl | (ha | ha) | ha;.exact⟨_,g⟩
   .exact⟨_,i⟩
   .exact bE.there _ _ _ j a ha
   .exact bE.there _ _ _ l a ha
   .exact Ctx.there m a ha
 | .row pre k l0 post::r,b,f,d,⟨p,par,dx,c,z,A,op,f1,f2,fr,y,C,B,v0,D,g,i,j,l,s,u,v,m,n⟩=>fun a ha=>by
   subst n;simp only[OA,OH]at ha;rcases ha with rfl | rfl | rfl | rfl | ((ha | ha) | ha) | ha;.exact⟨_,g⟩
   .exact⟨_,i⟩
   .exact⟨_,s⟩
   .exact⟨_,u⟩
   .exact bE.there _ _ _ j a ha
   .exact bE.there _ _ _ l a ha
   .exact eO.there _ _ _ v a ha
   .exact Ctx.there m a ha
theorem A5(h1:bE t D H pre b f1)(h:Rep t D H n v f)(h2:bE t D H post a f2): bE t D H (pre++(k,n)::post) (b++(kB k,v)::a) (f1++(f++f2)):=iO.mpr ⟨_,_,_,_,rfl,rfl,h1,⟨v,a,f,f2,rfl,h,h2,rfl⟩⟩
theorem Ctx.close:∀ {x:List Fr} {d:Addr} {l:Int} {e b:List Addr} {es:Entries},Ctx t H x0 o0 x d l e->fT t D0 H l es d b->∃ f,fT t D0 H o0 (dY x es) x0 f/\f.Perm (e++b)
 | [],d,l,e,b,es,⟨g,i,j⟩,h=>by subst g i j;exact⟨b,h,Uo _⟩
 | .tab pre k z post::r,d,l,e,b,es,⟨m,n,par,dx,c,F,G,op,f1,f2,fr,g,i,j,o,p,q⟩,h=>by subst q m;have hn:Rep t D0 H (.table z es) (.ref d) b:=ip.mpr ⟨n,d,rfl,h⟩;obtain⟨f,s,u⟩:=Ctx.close (es:=pre++(k,.table z es)::post) p ⟨dx,.ba,c,_,_,g,i,A5 j hn o,rfl,rfl⟩;exact⟨f,s,u.trans (Qy.mpr fun a=>by simp only[QG,QW];omega)⟩
 | .row pre k l0 post::r,d,l,e,b,es,⟨m,par,dx,c,F,G,op,f1,f2,fr,y,A,v,v0,E,g,i,j,o,B,C,D,p,q⟩,h=>by
   subst q m;have hn:Rep t D0 H (.rows (l0++[es])) (.ref y) (y::v::(E++b)):=⟨y,A,.ba,v,_,_,rfl,B,C,yx h D,rfl,rfl,by simp⟩
   obtain⟨f,s,u⟩:=Ctx.close (es:=pre++(k,.rows (l0++[es]))::post) p ⟨dx,.ba,c,_,_,g,i,A5 j hn o,rfl,rfl⟩;exact⟨f,s,u.trans (Qy.mpr fun a=>by simp only[QG,QW];omega)⟩
theorem qm(h:k∉pre.map (·.1))(a:bE t D H pre b f):bR (b++(kB k,v)::k2) (kB k)=some v:=by
 induction pre generalizing b f with
 | nil=>obtain⟨e,_⟩:=a;subst e;simp[bR]
 | cons x r g=>obtain⟨i,q⟩:=x;obtain⟨u,p,n,o,c,l,d,m⟩:=a;subst c;have j:¬ kB i=kB k:=fun z=>h (by rw[<-ve z];exact O2 ..);have:=g (fun z=>h (OM _ z)) d;simp only[bR,OS,Qo,j,decide_false]at this |-;exact this
theorem Ctx.down(C:Ctx t H x0 o0 fs cur oc b)(h1:H cur=some (vO t dx 6 (.ref c) oc .ba))(h2:H c=some (.dT kvs))(n:bE t D0 H (pre++(k,.table h x)::post) kvs fr)(o:k∉pre.map (·.1)):
 ∃ y e f,bR kvs (kB k)=some (.ref y)/\Ctx t H x0 o0 (.tab pre k h post::fs) y (Ce h) e/\fT t D0 H (Ce h) x y f/\(e++f).Perm (b++(cur::c::fr)):=by
 obtain⟨p,r,i,l,rfl,rfl,g,v,q,m,j,rfl,s,u,rfl⟩:=iO.mp n;obtain⟨d,y,rfl,z⟩:=ip.mp s;refine⟨y,_,m,qm o g,⟨rfl,d,cur,dx,c,p,q,oc,i,j,b,h1,h2,g,u,C,rfl⟩,z,?_⟩;exact Qy.mpr fun a=>by simp only[QG,QW];omega
theorem Ctx.HA(C:Ctx t H x0 o0 fs cur oc e)(h1:H cur=some (vO t dx 6 (.ref c) oc .ba))(h2:H c=some (.dT kvs))(s:bE t D0 H (pre++(k,.rows (l0++[x]))::post) kvs fr)(u:k∉pre.map (·.1)):
 ∃ y f b g z h i,bR kvs (kB k)=some (.ref y)/\H y=some (vO t f 5 (.ref b) 3 .ba)/\H b=some (.lst (g++[.ref z]))/\Ctx t H x0 o0 (.row pre k l0 post::fs) z 3 h/\fT t D0 H 3 x z i/\(h++i).Perm (e++(cur::c::fr)):=by
 obtain⟨A,D,p,r,rfl,rfl,j,v,B,M,q,rfl,E,F,rfl⟩:=iO.mp s;obtain⟨y,f,d,b,vs,L,rfl,l,m,G,hd,rfl,_⟩:=E;cases hd;obtain⟨g,z,n,o,rfl,rfl,I,J⟩:=xP G;refine⟨y,f,b,g,z,_,o,qm u j,l,m,⟨rfl,cur,dx,c,A,B,oc,p,q,e,y,f,b,g,n,h1,h2,j,F,l,m,I,C,rfl⟩,J,?_⟩;exact Qy.mpr fun a=>by simp only[QG,QW];omega
theorem fT.add(s:cO D0 (cur::fr) H H')(h1:H cur=some (vO t dx 6 (.ref c) oc .ba))(d:bE t D0 H es kvs fr)(hc:H' c=some (.dT (kvs++[(kB k,v)])))(e:Rep t D0 H' n v b):
 fT t D0 H' oc (es++[(k,n)]) cur (cur::c::(fr++b)):=by
 refine⟨dx,.ba,c,_,fr++b,s.obj _ (by simp) _ h1,hc,iO.mpr ⟨kvs,[(kB k,v)],fr,b,rfl,rfl,bE.br _ _ _ (s.sub fun a ha=>by simp[ha]) d,AW e⟩,rfl,rfl⟩
def bV:Node->Int×Int
 | .text _=>(0,0)
 | .whole _=>(1,0)
 | .real _=>(2,0)
 | .truth _=>(3,0)
 | .day _=>(4,0)
 | .list _=>(5,0)
 | .rows _=>(5,3)
 | .table h _=>(6,Ce h)
theorem Rep.head:∀ {n:Node} {v:V} {i:List Addr},Rep t D H n v i->∃ x a c d,v=.ref x/\H x=some (vO t a (bV n).1 c (bV n).2 d)/\x∈i
 | .text b,v,i,⟨x,a,d,p,e,f,m,j,g⟩=>⟨x,a,_,d,e,f,by rw[g];simp⟩
 | .whole n,v,i,⟨x,a,d,e,f,j,g⟩=>⟨x,a,_,d,e,f,by rw[g];simp⟩
 | .real n,v,i,⟨x,a,d,e,f,j,g⟩=>⟨x,a,_,d,e,f,by rw[g];simp⟩
 | .truth n,v,i,⟨x,a,d,e,f,j,g⟩=>⟨x,a,_,d,e,f,by rw[g];simp⟩
 | .day n,v,i,⟨x,a,d,e,f,j,g⟩=>⟨x,a,_,d,e,f,by rw[g];simp⟩
 | .list l,v,i,⟨x,a,d,c,vs,fr,e,f,m,j,g,k⟩=>⟨x,a,_,d,e,f,by rw[k];simp⟩
 | .rows l,v,i,⟨x,a,d,c,vs,fr,e,f,m,j,g,k,o⟩=>⟨x,a,_,d,e,f,by rw[k];simp⟩
 | .table h l,v,i,⟨x,a,d,c,vs,fr,e,f,m,j,g,k,o⟩=>⟨x,a,_,d,e,f,by rw[k];simp⟩
theorem zH(a:∀ h x,n=.table h x->h<=3)(h:(bV n).2=1):∃ x,n=.table 2 x:=by
 cases n with
 | table hw x=>have:=a hw x rfl;have e:hw=2:=uh this (by decide) (h.trans rfl);exact⟨x,by rw[e]⟩
 | rows l=>exact absurd h (by simp[bV])
 | _=>exact absurd h (by simp[bV])
theorem Bi(a:∀ h x,n=.table h x->h<=3)(h:(bV n).2=2):∃ x,n=.table 0 x:=by
 cases n with
 | table hw x=>have:=a hw x rfl;have e:hw=0:=uh this (by decide) (h.trans rfl);exact⟨x,by rw[e]⟩
 | rows l=>exact absurd h (by simp[bV])
 | _=>exact absurd h (by simp[bV])
theorem Ft(h1:(bV n).1=5)(h:(bV n).2=3):∃ l,n=.rows l:=by
 cases n with
 | rows l=>exact⟨l,rfl⟩
 | table hw x=>exact absurd h1 (by simp[bV])
 | list l=>exact absurd h (by simp[bV])
 | _=>exact absurd h1 (by simp[bV])
structure hH(t:bZ)(H:Hp)(x0:Addr)(o0:Int)(fs:List Fr)(es:Entries)(cur dx c:Addr)(oc:Int)(kvs:List (List Key×V))(fp:List Addr):Prop where
 here:H cur=some (vO t dx 6 (.ref c) oc .ba)
 dict:H c=some (.dT kvs)
 ctx:∃ fp1 fr,Ctx t H x0 o0 fs cur oc fp1/\bE t D0 H es kvs fr/\fp.Perm (fp1++(cur::c::fr))
 nd:fp.Nodup
 ok:gJ es
 GG:BZ fs
theorem eD(n:Node)(d:V)(h:D0 H n d):D0 H' n d:=h
theorem cO.of_same(s:aB H H'):cO D0 fp H H':=⟨fun a _ o h=>s a o h,fun p xs h=>s p _ h,eD⟩
theorem hH.of(C:Ctx t H x0 o0 fs cur oc b)(R:fT t D0 H oc es cur f)(n:fp.Perm (b++f))(hn:fp.Nodup)(m:gJ es)(hf:BZ fs):
 ∃ e c a,hH t H x0 o0 fs es cur e c oc a fp:=by
 obtain⟨e,d,c,a,l,g,h,i,j,k⟩:=R;cases j;subst k;exact⟨e,c,a,g,h,⟨b,l,C,i,n⟩,hn,m,hf⟩
theorem hH.start(R:fT t D0 H o0 es x0 fp)(hn:fp.Nodup)(d:gJ es):∃ b c a,hH t H x0 o0 [] es x0 b c o0 a fp:=hH.of ⟨rfl,rfl,rfl⟩ R (Uo _) hn d OF
section
variable {H d:Hp}{q:Addr}{m:Int}{l:List Fr}{es:Entries}{u j c:Addr}{i:Int}{w:List (List Key×V)}{r:List Addr}
theorem hH.Ei(A:hH t H q m l es u j c i w r):u∈r:=by obtain⟨a,e,_,_,b⟩:=A.ctx;rw[b.mem_iff];simp
theorem hH.uQ(A:hH t H q m l es u j c i w r):c∈r:=by obtain⟨a,e,_,_,b⟩:=A.ctx;rw[b.mem_iff];simp
theorem hH.br(A:hH t H q m l es u j c i w r)(s:cO D0 r H d):hH t d q m l es u j c i w r:=by obtain⟨b,e,C,R,f⟩:=A.ctx;have sub:∀ g:List Addr,(∀ a∈g,a∈b++(u::c::e))->cO D0 g H d:=fun g h=>s.sub fun a ha=>f.mem_iff.mpr (h a ha);exact⟨s.obj _ A.Ei _ A.here,s.obj _ A.uQ _ A.dict,⟨b,e,C.br (sub _ fun a ha=>by simp[ha]),bE.br _ _ _ (sub _ fun a ha=>by simp[ha]) R,f⟩,A.nd,A.ok,A.GG⟩
theorem hH.same(A:hH t H q m l es u j c i w r)(s:aB H d):hH t d q m l es u j c i w r:=A.br (cO.of_same s)
theorem hH.there(A:hH t H q m l es u j c i w r):∀ a∈r,∃ o,H a=some o:=by
 obtain⟨b,f,C,R,e⟩:=A.ctx;intro a ha;rw[e.mem_iff,OH]at ha;rcases ha with ha | ha;.exact C.there a ha
 .rcases OA.mp ha with rfl | ha;.exact⟨_,A.here⟩
  .rcases OA.mp ha with rfl | ha;.exact⟨_,A.dict⟩
   .exact bE.there _ _ _ R a ha
theorem hH.close(A:hH t H q m l es u j c i w r):∃ a,fT t D0 H m (dY l es) q a/\a.Perm r:=by obtain⟨b,e,C,R,f⟩:=A.ctx;obtain⟨a,g,h⟩:=C.close ⟨j,.ba,c,w,e,A.here,A.dict,R,rfl,rfl⟩;exact⟨a,g,h.trans f.symm⟩
theorem hH.len(A:hH t H q m l es u j c i w r):w.length<=dk es:=by obtain⟨a,b,C,R,e⟩:=A.ctx;rw[wA R];exact yX es
theorem hH.look(A:hH t H q m l es u j c i w r)(k:Bytes):(Ql16.look k es=none->bR w (kB k)=none)/\∀ n,Ql16.look k es=some n->∃ v f,bR w (kB k)=some v/\Rep t D0 H n v f/\∀ a∈f,a∈r:=by obtain⟨e,o,C,R,g⟩:=A.ctx;obtain⟨a,b⟩:=xu (k:=k) R;exact⟨a,fun n h=>by obtain⟨v,f,b1,b2,b3⟩:=b n h;exact⟨v,f,b1,b2,fun x hx=>by rw[g.mem_iff];simp[b3 x hx]⟩⟩
theorem hH.add(A:hH t H q m l es u j c i w r)(I:Ql16.look k es=none)(J:Rep t D0 H n v f)(hn:okN n)(D:(r++f).Nodup):
 hH t (upd H c (.dT (w++[(kB k,v)]))) q m l (es++[(k,n)]) u j c i (w++[(kB k,v)]) (r++f):=by
 obtain⟨e,s,C,R,B⟩:=A.ctx;have b:(e++(u::c::s)++f).Nodup:=((B.append_right f).nodup_iff).mp D;have y:∀ g:List Addr,c∉g->cO D0 g H (upd H c (.dT (w++[(kB k,v)]))):=fun g G=>⟨fun a ha o h=>by rw[aq (by rintro rfl;exact G ha)];exact h,fun p xs h=>by rw[aq (by rintro rfl;rw[A.dict]at h;cases h)];exact h,eD⟩
 have x:c≠u:=fun z=>by have:=A.here;rw[<-z,A.dict]at this;cases this
 simp only[OZ,OR,OH,OA]at b;have E:c∉e:=fun z=>b.1.2.2 c z c (by simp) rfl;have F:c∉s:=b.1.2.1.2.1;have c3:c∉f:=fun z=>b.2.2 c (by simp) c z rfl;refine⟨by rw[aq (OL x)];exact A.here,ai,⟨e,s++f,C.br (y _ E),iO.mpr ⟨_,_,_,_,rfl,rfl,bE.br _ _ _ (y _ F) R,AW (Rep.br _ _ _ (y _ c3) J)⟩,?_⟩,D,jw hn A.ok (cN.mp I),A.GG⟩;exact(B.append_right f).trans (Qy.mpr fun a=>by simp only[QG,QW];omega)
theorem hH.down(A:hH t H q m l es u j c i w r)(g:es=pre++(k,.table h x)::post)(hf:(Fr.tab pre k h post).ok):
 ∃ y b a e,bR w (kB k)=some (.ref y)/\hH t H q m (.tab pre k h post::l) x y b a (Ce h) e r:=by
 obtain⟨f,F,C,R,o⟩:=A.ctx;have n:=A.ok;subst g;obtain⟨y,D,E,p,s,v,z⟩:=C.down A.here A.dict R hf.1;obtain⟨b,a,e,B⟩:=hH.of s v (o.trans z.symm) A.nd (z6.mp n).2.1.1 ⟨hf,A.GG⟩;exact⟨y,b,a,e,p,B⟩
theorem hH.HA(A:hH t H q m l es u j c i w r)(s:es=pre++(k,.rows (l0++[x]))::post)(hf:(Fr.row pre k l0 post).ok):
 ∃ y e a h z f b g,bR w (kB k)=some (.ref y)/\H y=some (vO t e 5 (.ref a) 3 .ba)/\H a=some (.lst (h++[.ref z]))/\hH t H q m (.row pre k l0 post::l) x z f b 3 g r:=by
 obtain⟨p,O,C,R,B⟩:=A.ctx;have v:=A.ok;subst s;obtain⟨y,o,n,h,z,M,N,D,E,F,G,I,J⟩:=C.HA A.here A.dict R hf.1;have hx:gJ x:=by have h1:Eb (l0++[x]):=(z6.mp v).2.1.1;exact nu h1 (by simp)
 obtain⟨f,b,g,L⟩:=hH.of G I (B.trans J.symm) A.nd hx ⟨hf,A.GG⟩;exact⟨y,o,n,h,z,f,b,g,D,E,F,L⟩
theorem hH.make(A:hH t H q m l es u j c i w r)(E:Ql16.look k es=none)(h3:h<3)(s:aB H H1)(O:H y=none)(D:H f=none)(G:f≠y)(J:H1 y=some (vO t v 6 (.ref f) (Ce h) .ba))(Y:H1 f=some (.dT [])):
 ∃ I,hH t (upd H1 c (.dT (w++[(kB k,.ref y)]))) q m (.tab es k h []::l) [] y v f (Ce h) I (r++[y,f]):=by
 have W:=A.same s;have hv:Rep t D0 H1 (.table h []) (.ref y) [y,f]:=⟨y,v,.ba,f,[],[],rfl,J,Y,⟨rfl,rfl⟩,rfl,rfl,by omega⟩
 have L:∀ a,H a=none->a∉r:=fun a ha F=>by obtain⟨o,N⟩:=A.there a F;rw[ha]at N;cases N
 have nd:(r++[y,f]).Nodup:=by
  rw[OZ];refine⟨A.nd,by simp[OL G],fun a ha b M e=>?_⟩;subst e;simp only[OA,Pf,Qs]at M;rcases M with rfl | rfl;.exact L _ O ha
  .exact L _ D ha
 have X:=W.add (k:=k) E hv OF nd;obtain⟨y',B,p,I,Q,U⟩:=X.down (pre:=es) (post:=[]) (k:=k) (h:=h) (x:=[]) rfl ⟨cN.mp E,by simp,by omega⟩;have F:bR (w++[(kB k,.ref y)]) (kB k)=some (.ref y):=by obtain⟨a0,a3,C,R,hp⟩:=A.ctx;exact qm (k2:=[]) (cN.mp E) R
 rw[F]at Q;cases Q;have g:c≠y:=fun z=>by have:=A.dict;rw[z,O]at this;cases this
 have n:=U.here;rw[aq (OL g),J]at n;have Z:v=B/\f=p:=by simp only[vO,OC,HO.ins.injEq,PZ,vf,OT,OG,V.ref.injEq]at n;exact⟨n.1,by simpa using n.2⟩
 obtain⟨rfl,rfl⟩:=Z;exact⟨I,U⟩
end
section
variable {H:Hp}{m:Addr}{j:Int}{i:List Fr}{es:Entries}{x n c:Addr}{f:Int}{w:List (List Key×V)}{s:List Addr}
theorem cO.upd(e:a∉g)(k:H a=some o)(l:∀ xs,o≠.tup xs):cO D0 g H (upd H a q):=⟨fun b d u h=>by rw[aq (by rintro rfl;exact e d)];exact h,fun p xs h=>by rw[aq (by rintro rfl;rw[k]at h;cases h;exact l _ rfl)];exact h,eD⟩
theorem hH.KP(A:hH t H m j (.tab pre k h post::i) es x n c f w s)(B:h'<3):
 hH t (upd H x (vO t n 6 (.ref c) (Ce h') .ba)) m j (.tab pre k h' post::i) es x n c (Ce h') w s:=by
 obtain⟨b,d,C,R,l⟩:=A.ctx;have a:(b++(x::c::d)).Nodup:=l.nodup_iff.mp A.nd;simp only[OZ,OR,OA]at a;have p:x∉b:=fun z=>a.2.2 x z x (by simp) rfl;have q:x∉d:=fun z=>a.2.1.1 (.inr z);have e:c≠x:=fun z=>a.2.1.1 (.inl z.symm);have o:∀ g:List Addr,x∉g->cO D0 g H (upd H x (vO t n 6 (.ref c) (Ce h') .ba)):=fun g v=>cO.upd v A.here (by intro xs z;cases z);refine⟨ai,by rw[aq e];exact A.dict,⟨b,d,?_,bE.br _ _ _ (o _ q) R,l⟩,A.nd,A.ok,⟨⟨A.GG.1.1,A.GG.1.2.1,by omega⟩,A.GG.2⟩⟩;obtain⟨y,u,r⟩:=C.br (o _ p);exact⟨rfl,by omega,r⟩
theorem hH.row(A:hH t H m j i es x n c f w s)(he:es=pre++(k,.rows l)::post)(hf:(Fr.row pre k l post).ok)(Y:bR w (kB k)=some (.ref y))(h1:H y=some (vO t U 5 (.ref h) 3 d))(h2:H h=some (.lst us))(M:H z=some (vO t dz 6 (.ref cz) 3 .ba))(W:H cz=some (.dT []))(Z:z∉s)(u:cz∉s):
 hH t (upd H h (.lst (us++[.ref z]))) m j (.row pre k l post::i) [] z dz cz 3 [] (s++[z,cz]):=by
 obtain⟨p,fr,C,R,N⟩:=A.ctx;subst he;obtain⟨k1,a3,D,a0,rfl,rfl,q1,v,O,gn,E,rfl,q2,q3,rfl⟩:=iO.mp R;have hv:=qm (v:=v) (k2:=O) hf.1 q1;rw[hv]at Y;cases Y;obtain⟨y',L,d',I,vs,F,ey,r,q5,q6,hd,rfl,_⟩:=q2;cases ey;cases hd;rw[h1]at r;have e4:U=L/\h=I:=by simp only[vO,OC,HO.ins.injEq,PZ,vf,OT,OG,V.ref.injEq]at r;exact⟨r.1,r.2.1⟩
 obtain⟨rfl,rfl⟩:=e4;have ed:d=.ba:=by simp only[vO,OC,HO.ins.injEq,PZ,vf,OT,OG,V.ref.injEq,P5]at r;exact r
 subst ed;rw[h2]at q5;cases q5;have o:(p++(x::c::(D++(y::h::F++E)))).Nodup:=N.nodup_iff.mp A.nd;simp only[OZ,OR,OA,OH,OS]at o;have B:h∈s:=by rw[N.mem_iff];simp
 have zc:z≠h:=fun q=>Z (q▸B);have J:cz≠h:=fun q=>u (q▸B);have G:∀ g:List Addr,h∉g->cO D0 g H (upd H h (.lst (us++[.ref z]))):=fun g hg=>cO.upd hg h2 (by intro xs q;cases q);have n1:h∉p:=fun q=>o.2.2 h q h (by simp) rfl;have n2:h∉D:=fun q=>o.2.1.2.2.2.2 h q h (by simp) rfl;have n3:h∉E:=fun q=>o.2.1.2.2.2.1.2.1 (.inr q);have n4:h∉F:=fun q=>o.2.1.2.2.2.1.2.1 (.inl q);have n5:y≠h:=fun q=>o.2.1.2.2.2.1.1 (by simp[q]);have n6:x≠h:=fun q=>o.2.1.1 (by simp[q]);have n7:c≠h:=fun q=>o.2.1.2.1 (by simp[q]);have Q:z≠cz:=fun q=>by rw[q,W]at M;cases M
 refine⟨by rw[aq zc];exact M,by rw[aq J];exact W,⟨x::c::y::h::(D++E++F++p),[],?_,⟨rfl,rfl⟩,?_⟩,?_,OF,hf,A.GG⟩;.exact⟨rfl,x,n,c,k1,O,f,D,E,p,y,U,h,us,F,by rw[aq n6];exact A.here,by rw[aq n7];exact A.dict,bE.br _ _ _ (G _ n2) q1,bE.br _ _ _ (G _ n3) q3,by rw[aq n5];exact h1,ai,eO.br _ _ _ (G _ n4) q6,C.br (G _ n1),rfl⟩
 .exact(N.append_right [z,cz]).trans (Qy.mpr fun a=>by simp only[QG,QW,OS];omega)
 .rw[OZ];refine⟨A.nd,by simp[Q],fun a ha b X e=>?_⟩;subst e;simp only[OA,Pf,Qs]at X;rcases X with rfl | rfl;.exact Z ha
  .exact u ha
theorem hH.Mb(A:hH t H m j i es x n c f w s)(L:Ql16.look k es=none)(r:∀ a u,H a=some u->a≠c->H' a=some u)(hc:H' c=some (.dT (w++[(kB k,.ref y)])))(h1:H' y=some (vO t dy 5 (.ref cy) 3 .ba))(h2:H' cy=some (.lst [.ref z]))(F:H' z=some (vO t dz 6 (.ref cz) 3 .ba))(G:H' cz=some (.dT []))(M:(s++[z,cz,y,cy]).Nodup):
 hH t H' m j (.row es k [] []::i) [] z dz cz 3 [] (s++[z,cz,y,cy]):=by
 obtain⟨d,l,C,R,v⟩:=A.ctx;have e:(d++(x::c::l)).Nodup:=v.nodup_iff.mp A.nd;simp only[OZ,OR,OA]at e;have D:c∉d:=fun q=>e.2.2 c q c (by simp) rfl;have E:c∉l:=e.2.1.2.1;have o:x≠c:=fun q=>e.2.1.1 (.inl q);have B:∀ g:List Addr,c∉g->cO D0 g H H':=fun g J=>⟨fun b I u h=>r b u h (by rintro rfl;exact J I),fun p xs h=>r p _ h (by rintro rfl;rw[A.dict]at h;cases h),eD⟩
 refine⟨F,G,⟨x::c::y::cy::(l++[]++[]++d),[],?_,⟨rfl,rfl⟩,?_⟩,M,OF,⟨cN.mp L,by simp⟩,A.GG⟩;.exact⟨rfl,x,n,c,w,[],f,l,[],d,y,dy,cy,[],[],r _ _ A.here o,hc,bE.br _ _ _ (B _ E) R,⟨rfl,rfl⟩,h1,h2,⟨rfl,rfl⟩,C.br (B _ D),rfl⟩
 .exact(v.append_right _).trans (Qy.mpr fun a=>by simp only[QG,QW,OS,Pn,List.count_nil];omega)
end
def D1:TD:=fun H n d=>d=.ba\/∃ l,d=.ref l/\H l=some (.lst (bI (Ql16.tell n)))
theorem J6(s:aB H H')(n:Node)(d:V)(h:D1 H n d):D1 H' n d:=by
 rcases h with h | ⟨l,e,h⟩;.exact .inl h
 .exact .inr ⟨l,e,s _ _ h⟩
theorem cO.IV(s:aB H H'):cO D1 fp H H':=⟨fun a _ o h=>s a o h,fun p xs h=>s p _ h,J6 s⟩
mutual
theorem Rep.j9{H:Hp}:∀ (n:Node) (v:V) (fp:List Addr),Rep t D0 H n v fp->Rep t D1 H n v fp
 | .text b,v,fp,⟨x,dx,d,p,e1,e2,e3,e4,e5⟩=>⟨x,dx,d,p,e1,e2,e3,.inl e4,e5⟩
 | .whole n,v,fp,⟨x,dx,d,e1,e2,e4,e5⟩=>⟨x,dx,d,e1,e2,.inl e4,e5⟩
 | .real n,v,fp,⟨x,dx,d,e1,e2,e4,e5⟩=>⟨x,dx,d,e1,e2,.inl e4,e5⟩
 | .truth n,v,fp,⟨x,dx,d,e1,e2,e4,e5⟩=>⟨x,dx,d,e1,e2,.inl e4,e5⟩
 | .day n,v,fp,⟨x,dx,d,e1,e2,e4,e5⟩=>⟨x,dx,d,e1,e2,.inl e4,e5⟩
 | .list l,v,fp,⟨x,dx,d,c,vs,fr,e1,e2,e3,e4,e5,e6⟩=>⟨x,dx,d,c,vs,fr,e1,e2,e3,fq.j9 l vs fr e4,.inl e5,e6⟩
 | .rows l,v,fp,⟨x,dx,d,c,vs,fr,e1,e2,e3,e4,e5,e6,e7⟩=>⟨x,dx,d,c,vs,fr,e1,e2,e3,eO.j9 l vs fr e4,.inl e5,e6,e7⟩
 | .table h l,v,fp,⟨x,dx,d,c,vs,fr,e1,e2,e3,e4,e5,e6,e7⟩=>⟨x,dx,d,c,vs,fr,e1,e2,e3,bE.j9 l vs fr e4,.inl e5,e6,e7⟩
theorem fq.j9{H:Hp}:∀ (l:List Node) (vs:List V) (fp:List Addr),fq t D0 H l vs fp->fq t D1 H l vs fp
 | [],vs,fp,h=>h
 | n::r,vs,fp,⟨v,vr,f1,f2,e1,e2,e3,e4⟩=>⟨v,vr,f1,f2,e1,Rep.j9 n v f1 e2,fq.j9 r vr f2 e3,e4⟩
theorem bE.j9{H:Hp}:∀ (l:List (Bytes×Node)) (kvs:List (List Key×V)) (fp:List Addr),bE t D0 H l kvs fp->bE t D1 H l kvs fp
 | [],vs,fp,h=>h
 | (k,n)::r,vs,fp,⟨v,vr,f1,f2,e1,e2,e3,e4⟩=>⟨v,vr,f1,f2,e1,Rep.j9 n v f1 e2,bE.j9 r vr f2 e3,e4⟩
theorem eO.j9{H:Hp}:∀ (l:List (List (Bytes×Node))) (vs:List V) (fp:List Addr),eO t D0 H l vs fp->eO t D1 H l vs fp
 | [],vs,fp,h=>h
 | es::r,vs,fp,⟨x,dx,d,c,kvs,vr,f1,f2,e1,e2,e3,e4,e5,e6,e7⟩=>⟨x,dx,d,c,kvs,vr,f1,f2,e1,e2,e3,bE.j9 es kvs f1 e4,.inl e5,eO.j9 r vr f2 e6,e7⟩
end
def fX(t:bZ)(H:Hp)(n:Node)(v:V):Prop:=∃ f,Rep t D1 H n v f
theorem fX.same(r:fX t H n v)(s:aB H H'):fX t H' n v:=let ⟨f,h⟩:=r;⟨f,Rep.br _ _ _ (cO.IV s) h⟩
def eL(t:bZ)(H:Hp):List Node->List V->Prop
 | [],vs=>vs=[]
 | n::r,vs=>∃ v a,vs=v::a/\fX t H n v/\eL t H r a
theorem eL.same(s:aB H H'):∀ {l:List Node} {vs:List V},eL t H l vs->eL t H' l vs
 | [],vs,h=>h
 | n::r,vs,⟨v,d,a,b,c⟩=>⟨v,d,a,b.same s,eL.same s c⟩
theorem eL.len:∀ {l:List Node} {vs:List V},eL t H l vs->vs.length=l.length
 | [],vs,h=>by have h:vs=[]:=h;subst h;rfl
 | n::r,vs,⟨v,d,a,c,b⟩=>by subst a;simp[eL.len b]
theorem eL.get:∀ {l:List Node} {vs:List V} {i:Nat},eL t H l vs->∀ {v:V},vs[i]?=some v->∃ n,l[i]?=some n/\fX t H n v
 | [],vs,i,h,v,a=>by have h:vs=[]:=h;subst h;simp at a
 | n::r,vs,0,⟨e,f,b,c,d⟩,v,a=>by subst b;simp at a;subst a;exact⟨n,rfl,c⟩
 | n::r,vs,i+1,⟨e,f,b,c,d⟩,v,a=>by subst b;simp at a;obtain⟨m,h1,h2⟩:=eL.get d a;exact⟨m,by simpa using h1,h2⟩
theorem eL.NQ:∀ {l:List Node} {vs:List V} {f:List Addr},fq t D1 H l vs f->eL t H l vs
 | [],vs,f,h=>h.1
 | n::r,vs,f,⟨v,d,f1,f2,a,b,c,e⟩=>⟨v,d,a,⟨f1,b⟩,eL.NQ c⟩
theorem eL.Od:∀ {l:List Entries} {vs:List V} {f:List Addr},eO t D1 H l vs f->eL t H (l.map (.table 1)) vs
 | [],vs,f,h=>h.1
 | es::r,vs,f,h=>by obtain⟨x,e,d,i,a,b,c,g⟩:=ig.mp h;exact⟨.ref x,e,a,⟨d,ip.mpr ⟨by decide,x,rfl,b⟩⟩,eL.Od c⟩
def gB(t:bZ)(H:Hp):Entries->List (List Key×V)->Prop
 | [],kvs=>kvs=[]
 | (k,n)::r,kvs=>∃ v a,kvs=(kB k,v)::a/\fX t H n v/\gB t H r a
theorem gB.same(s:aB H H'):∀ {l:Entries} {vs:List (List Key×V)},gB t H l vs->gB t H' l vs
 | [],vs,h=>h
 | (k,n)::r,vs,⟨v,d,a,b,c⟩=>⟨v,d,a,b.same s,gB.same s c⟩
theorem gB.of:∀ {l:Entries} {vs:List (List Key×V)} {f:List Addr},bE t D1 H l vs f->gB t H l vs
 | [],vs,f,h=>h.1
 | (k,n)::r,vs,f,⟨v,d,f1,f2,a,b,c,e⟩=>⟨v,d,a,⟨f1,b⟩,gB.of c⟩
theorem gB.len:∀ {l:Entries} {vs:List (List Key×V)},gB t H l vs->vs.length=l.length
 | [],vs,h=>by have h:vs=[]:=h;subst h;rfl
 | (k,n)::r,vs,⟨v,d,a,c,b⟩=>by subst a;simp[gB.len b]
theorem gB.get:∀ {l:Entries} {vs:List (List Key×V)} {i:Nat},gB t H l vs->∀ {c:List Key×V},vs[i]?=some c->∃ k n,l[i]?=some (k,n)/\c.1=kB k/\fX t H n c.2
 | [],vs,i,h,v,a=>by have h:vs=[]:=h;subst h;simp at a
 | (k,n)::r,vs,0,⟨g,j,b,d,e⟩,v,a=>by subst b;simp at a;subst a;exact⟨k,n,rfl,rfl,d⟩
 | (k,n)::r,vs,i+1,⟨g,j,b,d,e⟩,v,a=>by subst b;simp at a;obtain⟨k,m,h1,h2,f⟩:=gB.get e a;exact⟨k,m,by simpa using h1,h2,f⟩
theorem gB.look:∀ {d:Entries} {a:List (List Key×V)},gB t H d a->(Ql16.look k d=none->bR a (kB k)=none)/\∀ n,Ql16.look k d=some n->∃ v,bR a (kB k)=some v/\fX t H n v
 | [],a,b=>by have b:a=[]:=b;subst b;exact⟨fun _=>rfl,fun n h=>by simp[Ql16.look]at h⟩
 | (c,m)::r,a,⟨v,f,b,g,i⟩=>by
   subst b;obtain⟨j,l⟩:=gB.look (k:=k) i;rw[fG];by_cases e:c=k
   .subst e;have q:bR ((kB c,v)::f) (kB c)=some v:=by simp[bR]
    rw[Oy rfl];exact⟨fun h=>(by cases h),fun n h=>by cases h;exact⟨v,q,g⟩⟩
   .have q:bR ((kB c,v)::f) (kB k)=bR f (kB k):=by
     have:¬ kB c=kB k:=fun z=>e (ve z);simp[bR,Qo,this]
    rw[Ox e,q];exact⟨j,l⟩
def MA(t:bZ)(H:Hp):Piece->V->Prop
 | .node n,v=>fX t H n v
 | .row b,v=>∃ l,v=.ref l/\H l=some (.lst (bI b))
def nM(t:bZ)(H:Hp):List Piece->List V->Prop
 | [],vs=>vs=[]
 | p::r,vs=>∃ v a,vs=v::a/\MA t H p v/\nM t H r a
theorem MA.same(s:aB H H'):∀ {p:Piece} {v:V},MA t H p v->MA t H' p v
 | .node n,v,h=>fX.same h s
 | .row b,v,⟨l,e,h⟩=>⟨l,e,s _ _ h⟩
theorem nM.same(s:aB H H'):∀ {l:List Piece} {vs:List V},nM t H l vs->nM t H' l vs
 | [],vs,h=>h
 | n::r,vs,⟨v,d,a,b,c⟩=>⟨v,d,a,b.same s,nM.same s c⟩
theorem nM.app:∀ {a b:List Piece} {u v:List V},nM t H a u->nM t H b v->nM t H (a++b) (u++v)
 | [],b,u,v,h,g=>by have h:u=[]:=h;subst h;exact g
 | p::r,b,u,v,⟨w,wr,c,d,e⟩,g=>by subst c;exact⟨w,wr++v,rfl,d,nM.app e g⟩
theorem nM.len:∀ {l:List Piece} {vs:List V},nM t H l vs->vs.length=l.length
 | [],vs,h=>by have h:vs=[]:=h;subst h;rfl
 | n::r,vs,⟨v,d,a,c,b⟩=>by subst a;simp[nM.len b]
theorem nM.rev:∀ {l:List Piece} {vs:List V},nM t H l vs->nM t H l.reverse vs.reverse
 | [],vs,h=>by have h:vs=[]:=h;subst h;rfl
 | n::r,vs,⟨v,d,a,b,c⟩=>by subst a;rw[R4,R4];exact nM.app (nM.rev c) ⟨v,[],rfl,b,rfl⟩
theorem nM.last:∀ {l:List Piece} {vs:List V},nM t H (l++[p]) vs->∃ b v,vs=b++[v]/\nM t H l b/\MA t H p v
 | [],vs,⟨v,e,c,d,a⟩=>by have a:e=[]:=a;subst c a;exact⟨[],v,rfl,rfl,d⟩
 | n::r,vs,⟨v,e,c,d,a⟩=>by obtain⟨b,u,rfl,h1,h2⟩:=nM.last a;subst c;exact⟨v::b,u,rfl,⟨v,b,rfl,d,h1⟩,h2⟩
theorem eE(h:vO t dx k c o d=vO t a f b g e):dx=a/\k=f/\c=b/\o=g/\d=e:=by simp only[vO,HO.ins.injEq,PZ,vf,OT,OG,V.int.injEq,P5]at h;exact⟨h.1,h.2.1,h.2.2.1,h.2.2.2.1,h.2.2.2.2⟩
theorem Rep.kinds(a:Rep t D H n v f)(b:Rep t D' H n' v f'):bV n=bV n':=by obtain⟨x,l,c,d,rfl,h,_⟩:=a.head;obtain⟨m,i,j,k,e,g,_⟩:=b.head;cases e;rw[h]at g;obtain⟨_,h1,_,h2,_⟩:=eE (OQ g);exact Prod.ext h1 h2
mutual
theorem Rep.det{D D':TD}{H:Hp}:∀ (n n':Node) (v:V) (f f':List Addr),Rep t D H n v f->Rep t D' H n' v f'->n=n'
 | .text b,n',v,f,f',a,b'=>by have hk:=Rep.kinds a b';cases n'<;>simp[bV]at hk;.obtain⟨x,dx,d,p,e1,e2,e3,e4,e5⟩:=a;obtain⟨x',dx',d',p',e1',e2',e3',e4',e5'⟩:=b';rw[e1]at e1';cases e1';rw[e2]at e2';obtain⟨_,_,h,_⟩:=eE (OQ e2');cases h;rw[e3]at e3';simp only[OC,HO.tup.injEq]at e3';rw[LH e3']
 | .whole m,n',v,f,f',a,b'=>by have hk:=Rep.kinds a b';cases n'<;>simp[bV]at hk;.obtain⟨x,dx,d,e1,e2,e4,e5⟩:=a;obtain⟨x',dx',d',e1',e2',e4',e5'⟩:=b';rw[e1]at e1';cases e1';rw[e2]at e2';obtain⟨_,_,h,_⟩:=eE (OQ e2');cases h;rfl
 | .real m,n',v,f,f',a,b'=>by have hk:=Rep.kinds a b';cases n'<;>simp[bV]at hk;.obtain⟨x,dx,d,e1,e2,e4,e5⟩:=a;obtain⟨x',dx',d',e1',e2',e4',e5'⟩:=b';rw[e1]at e1';cases e1';rw[e2]at e2';obtain⟨_,_,h,_⟩:=eE (OQ e2');simp only[V.int.injEq]at h;rw[Int.ofNat_inj.mp h]
 | .truth m,n',v,f,f',a,b'=>by have hk:=Rep.kinds a b';cases n'<;>simp[bV]at hk;.obtain⟨x,dx,d,e1,e2,e4,e5⟩:=a;obtain⟨x',dx',d',e1',e2',e4',e5'⟩:=b';rw[e1]at e1';cases e1';rw[e2]at e2';obtain⟨_,_,h,_⟩:=eE (OQ e2');cases h;rfl
 | .day m,n',v,f,f',a,b'=>by have hk:=Rep.kinds a b';cases n'<;>simp[bV]at hk;.obtain⟨x,dx,d,e1,e2,e4,e5⟩:=a;obtain⟨x',dx',d',e1',e2',e4',e5'⟩:=b';rw[e1]at e1';cases e1';rw[e2]at e2';obtain⟨_,_,h,_⟩:=eE (OQ e2');cases h;rfl
 | .list l,n',v,f,f',a,b'=>by have hk:=Rep.kinds a b';cases n'<;>simp[bV]at hk;.obtain⟨x,dx,d,c,vs,fr,e1,e2,e3,e4,e5,e6⟩:=a;obtain⟨x',dx',d',c',vs',fr',e1',e2',e3',e4',e5',e6'⟩:=b';rw[e1]at e1';cases e1';rw[e2]at e2';obtain⟨_,_,h,_⟩:=eE (OQ e2');cases h;rw[e3]at e3';cases e3';rw[fq.det l _ vs fr fr' e4 e4']
 | .rows l,n',v,f,f',a,b'=>by have hk:=Rep.kinds a b';cases n'<;>simp[bV]at hk;.obtain⟨x,dx,d,c,vs,fr,e1,e2,e3,e4,e5,e6,e7⟩:=a;obtain⟨x',dx',d',c',vs',fr',e1',e2',e3',e4',e5',e6',e7'⟩:=b';rw[e1]at e1';cases e1';rw[e2]at e2';obtain⟨_,_,h,_⟩:=eE (OQ e2');cases h;rw[e3]at e3';cases e3';rw[eO.det l _ vs fr fr' e4 e4']
 | .table hw l,n',v,f,f',a,b'=>by have hk:=Rep.kinds a b';cases n'<;>simp[bV]at hk;.obtain⟨x,dx,d,c,vs,fr,e1,e2,e3,e4,e5,e6,e7⟩:=a;obtain⟨x',dx',d',c',vs',fr',e1',e2',e3',e4',e5',e6',e7'⟩:=b';rw[e1]at e1';cases e1';rw[e2]at e2';obtain⟨_,_,h,_⟩:=eE (OQ e2');cases h;rw[e3]at e3';cases e3';rw[bE.det l _ vs fr fr' e4 e4',uh e7 e7' hk]
theorem fq.det{D D':TD}{H:Hp}:∀ (l l':List Node) (vs:List V) (f f':List Addr),fq t D H l vs f->fq t D' H l' vs f'->l=l'
 | [],l',vs,f,f',⟨e,_⟩,b=>by
   cases l' with
   | nil=>rfl
   | cons n r=>obtain⟨v,vr,f1,f2,e1,_⟩:=b;rw[e]at e1;cases e1
 | n::r,l',vs,f,f',⟨v,vr,f1,f2,e1,e2,e3,e4⟩,b=>by
   cases l' with
   | nil=>obtain⟨e,_⟩:=b;rw[e]at e1;cases e1
   | cons n' r'=>obtain⟨v',vr',f1',f2',e1',e2',e3',e4'⟩:=b;rw[e1]at e1';cases e1';rw[Rep.det n n' v f1 f1' e2 e2',fq.det r r' vr f2 f2' e3 e3']
theorem bE.det{D D':TD}{H:Hp}:∀ (l l':List (Bytes×Node)) (vs:List (List Key×V)) (f f':List Addr),bE t D H l vs f->bE t D' H l' vs f'->l=l'
 | [],l',vs,f,f',⟨e,_⟩,b=>by
   cases l' with
   | nil=>rfl
   | cons n r=>obtain⟨k,n⟩:=n;obtain⟨v,vr,f1,f2,e1,_⟩:=b;rw[e]at e1;cases e1
 | (k,n)::r,l',vs,f,f',⟨v,vr,f1,f2,e1,e2,e3,e4⟩,b=>by
   cases l' with
   | nil=>obtain⟨e,_⟩:=b;rw[e]at e1;cases e1
   | cons n' r'=>obtain⟨k',n'⟩:=n';obtain⟨v',vr',f1',f2',e1',e2',e3',e4'⟩:=b;rw[e1]at e1';simp only[OT,OG]at e1';obtain⟨⟨h1,rfl⟩,rfl⟩:=e1';rw[Rep.det n n' v f1 f1' e2 e2',bE.det r r' vr f2 f2' e3 e3',ve h1]
theorem eO.det{D D':TD}{H:Hp}:∀ (l l':List (List (Bytes×Node))) (vs:List V) (f f':List Addr),eO t D H l vs f->eO t D' H l' vs f'->l=l'
 | [],l',vs,f,f',⟨e,_⟩,b=>by
   cases l' with
   | nil=>rfl
   | cons n r=>obtain⟨x,dx,d,c,kvs,vr,f1,f2,e1,_⟩:=b;rw[e]at e1;cases e1
 | es::r,l',vs,f,f',⟨x,dx,d,c,kvs,vr,f1,f2,e1,e2,e3,e4,e5,e6,e7⟩,b=>by
   cases l' with
   | nil=>obtain⟨e,_⟩:=b;rw[e]at e1;cases e1
   | cons n' r'=>obtain⟨x',dx',d',c',kvs',vr',f1',f2',e1',e2',e3',e4',e5',e6',e7'⟩:=b;rw[e1]at e1';cases e1';rw[e2]at e2';obtain⟨_,_,h,_⟩:=eE (OQ e2');cases h;rw[e3]at e3';cases e3';rw[bE.det es n' kvs f1 f1' e4 e4',eO.det r r' vr f2 f2' e6 e6']
end
structure mh(t:bZ)(H H':Hp)(x l:Addr)(tl:Bytes):Prop where
 NS:∃ dx k c o d,H x=some (vO t dx k c o d)/\H' x=some (vO t dx k c o (.ref l))
 keep:∀ a u,H a=some u->a≠x->H' a=some u
 list:H' l=some (.lst (bI tl))
 one:∀ n f,Rep t D1 H n (.ref x) f->Ql16.tell n=tl
theorem mh.d1(N:mh t H H' x l tl)(h:D1 H n d):D1 H' n d:=by
 obtain⟨f,k,c,o,b,e,_⟩:=N.NS;rcases h with h | ⟨m,a,h⟩;.exact .inl h
 .exact .inr ⟨m,a,N.keep _ _ h (cH h e (by intro z;cases z))⟩
theorem mh.obj(N:mh t H H' x l tl)(e:H y=some (vO t dx k c o d))(hd:D1 H n d)(hn:y=x->Ql16.tell n=tl):
 ∃ a,H' y=some (vO t dx k c o a)/\D1 H' n a:=by
 by_cases f:y=x;.subst f;obtain⟨g,m,i,p,j,b,h⟩:=N.NS;rw[e]at b;obtain⟨rfl,rfl,rfl,rfl,_⟩:=eE (OQ b);exact⟨_,h,.inr ⟨l,rfl,by rw[hn rfl];exact N.list⟩⟩
 .exact⟨d,N.keep _ _ e f,N.d1 hd⟩
theorem mh.ot(N:mh t H H' x l tl)(h:H a=some u)(f:∀ b k c o d,u≠vO t b k c o d):H' a=some u:=by obtain⟨b,k,c,o,g,e,_⟩:=N.NS;exact N.keep _ _ h (cH h e (f _ _ _ _ _))
mutual
theorem Rep.jV{H H':Hp}{x l:Addr}{tl:Bytes}(N:mh t H H' x l tl):∀ (n:Node) (v:V) (f:List Addr),Rep t D1 H n v f->Rep t D1 H' n v f
 | .text b,v,f,a=>by have hn:∀ y,v=.ref y->y=x->Ql16.tell (.text b)=tl:=fun y e z=>N.one _ f (by rw[<-z,<-e];exact a);obtain⟨y,dx,d,p,e1,e2,e3,e4,e5⟩:=a;obtain⟨d',q1,q2⟩:=N.obj e2 e4 (hn y e1);exact⟨y,dx,d',p,e1,q1,N.ot e3 (by intro _ _ _ _ _ z;cases z),q2,e5⟩
 | .whole b,v,f,a=>by have hn:∀ y,v=.ref y->y=x->Ql16.tell (.whole b)=tl:=fun y e z=>N.one _ f (by rw[<-z,<-e];exact a);obtain⟨y,dx,d,e1,e2,e4,e5⟩:=a;obtain⟨d',q1,q2⟩:=N.obj e2 e4 (hn y e1);exact⟨y,dx,d',e1,q1,q2,e5⟩
 | .real b,v,f,a=>by have hn:∀ y,v=.ref y->y=x->Ql16.tell (.real b)=tl:=fun y e z=>N.one _ f (by rw[<-z,<-e];exact a);obtain⟨y,dx,d,e1,e2,e4,e5⟩:=a;obtain⟨d',q1,q2⟩:=N.obj e2 e4 (hn y e1);exact⟨y,dx,d',e1,q1,q2,e5⟩
 | .truth b,v,f,a=>by have hn:∀ y,v=.ref y->y=x->Ql16.tell (.truth b)=tl:=fun y e z=>N.one _ f (by rw[<-z,<-e];exact a);obtain⟨y,dx,d,e1,e2,e4,e5⟩:=a;obtain⟨d',q1,q2⟩:=N.obj e2 e4 (hn y e1);exact⟨y,dx,d',e1,q1,q2,e5⟩
 | .day b,v,f,a=>by have hn:∀ y,v=.ref y->y=x->Ql16.tell (.day b)=tl:=fun y e z=>N.one _ f (by rw[<-z,<-e];exact a);obtain⟨y,dx,d,e1,e2,e4,e5⟩:=a;obtain⟨d',q1,q2⟩:=N.obj e2 e4 (hn y e1);exact⟨y,dx,d',e1,q1,q2,e5⟩
 | .list m,v,f,a=>by have hn:∀ y,v=.ref y->y=x->Ql16.tell (.list m)=tl:=fun y e z=>N.one _ f (by rw[<-z,<-e];exact a);obtain⟨y,dx,d,c,vs,fr,e1,e2,e3,e4,e5,e6⟩:=a;obtain⟨d',q1,q2⟩:=N.obj e2 e5 (hn y e1);exact⟨y,dx,d',c,vs,fr,e1,q1,N.ot e3 (by intro _ _ _ _ _ z;cases z),fq.jV N m vs fr e4,q2,e6⟩
 | .rows m,v,f,a=>by have hn:∀ y,v=.ref y->y=x->Ql16.tell (.rows m)=tl:=fun y e z=>N.one _ f (by rw[<-z,<-e];exact a);obtain⟨y,dx,d,c,vs,fr,e1,e2,e3,e4,e5,e6,e7⟩:=a;obtain⟨d',q1,q2⟩:=N.obj e2 e5 (hn y e1);exact⟨y,dx,d',c,vs,fr,e1,q1,N.ot e3 (by intro _ _ _ _ _ z;cases z),eO.jV N m vs fr e4,q2,e6,e7⟩
 | .table hw m,v,f,a=>by
   have hn:∀ y,v=.ref y->y=x->Ql16.tell (.table 1 m)=tl:=fun y e z=>(by rw[show Ql16.tell (.table 1 m)=Ql16.tell (.table hw m) by simp only[Ql16.tell]];exact N.one _ f (by rw[<-z,<-e];exact a))
   obtain⟨y,dx,d,c,vs,fr,e1,e2,e3,e4,e5,e6,e7⟩:=a;obtain⟨d',q1,q2⟩:=N.obj e2 e5 (hn y e1);exact⟨y,dx,d',c,vs,fr,e1,q1,N.ot e3 (by intro _ _ _ _ _ z;cases z),bE.jV N m vs fr e4,q2,e6,e7⟩
theorem fq.jV{H H':Hp}{x l:Addr}{tl:Bytes}(N:mh t H H' x l tl):∀ (m:List Node) (vs:List V) (f:List Addr),fq t D1 H m vs f->fq t D1 H' m vs f
 | [],vs,f,h=>h
 | n::r,vs,f,⟨v,vr,f1,f2,e1,e2,e3,e4⟩=>⟨v,vr,f1,f2,e1,Rep.jV N n v f1 e2,fq.jV N r vr f2 e3,e4⟩
theorem bE.jV{H H':Hp}{x l:Addr}{tl:Bytes}(N:mh t H H' x l tl):∀ (m:List (Bytes×Node)) (vs:List (List Key×V)) (f:List Addr),bE t D1 H m vs f->bE t D1 H' m vs f
 | [],vs,f,h=>h
 | (k,n)::r,vs,f,⟨v,vr,f1,f2,e1,e2,e3,e4⟩=>⟨v,vr,f1,f2,e1,Rep.jV N n v f1 e2,bE.jV N r vr f2 e3,e4⟩
theorem eO.jV{H H':Hp}{x l:Addr}{tl:Bytes}(N:mh t H H' x l tl):∀ (m:List (List (Bytes×Node))) (vs:List V) (f:List Addr),eO t D1 H m vs f->eO t D1 H' m vs f
 | [],vs,f,h=>h
 | es::r,vs,f,⟨y,dx,d,c,kvs,vr,f1,f2,e1,e2,e3,e4,e5,e6,e7⟩=>by have hn:y=x->Ql16.tell (.table 1 es)=tl:=fun z=>N.one (.table 1 es) (y::c::f1) (by rw[<-z];exact⟨y,dx,d,c,kvs,f1,rfl,e2,e3,e4,e5,rfl,by decide⟩);obtain⟨d',q1,q2⟩:=N.obj e2 e5 hn;exact⟨y,dx,d',c,kvs,vr,f1,f2,e1,q1,N.ot e3 (by intro _ _ _ _ _ z;cases z),bE.jV N es kvs f1 e4,q2,eO.jV N r vr f2 e6,e7⟩
end
local macro_rules | `(tactic| walk_at "r5") => `(tactic| simp only [rE,nB,mu,kX,rX,mq,Cg,GX,hU,tC,tB,uB,nJ,oO,tU,FC,uv,GH,iR,gN,kH,jY,kg,iU,l8,iT,ml,tT,uF,hB,vN,Fl,pG,jd,vd,Ka,tQ,vL,GF,zW,gm,jr,zL,jz,Bv,yL,Fg,Ht,GQ,rI,yb,rU,wW,Fb,jB,B9,kc,ta,L2.start,tA,
  OP,PX,OS,Pp,Pn,OB,Pa,List.replicate,Pj,Pk,OC,V.int.injEq,V.bl.injEq,V.str.injEq,V.ref.injEq,OT,HO.ins.injEq,Ci,LG,
  Ph,Px,Pq,QI,QB,Qw,PZ,P5,Q6,Nat.reduceAdd,Nat.reduceSub,Qe,Qg])
theorem tF:T.days.jM.Ok P w mg base 1 (Fg fun y=>.bl (uJ y)):=by
 refine T.days.jM.fi ub (fun d A b s H vs Q E g h=>?_);obtain⟨y,rfl,h⟩:=h;dsimp only at h;refine⟨_,(ag (ay (Di (ck aV (aS oZ (pv 0) aw) aw (aE _)) (iw (kQ (ck je (aS oZ (pv 0) aw) aw (aE _)) (iw (ck aV (aS oZ (pv 0) aw) aw (aE _)))))))),?_⟩;walk_at "r5";have a:∀ v:Bool,(uJ y=true↔v=true)->Q (.bl v) H:=fun v e=>by have:uJ y=v:=Qb.mpr e;rw[<-this];exact h
 unfold uJ at a;simp only[O4,SA,Ts,Pc,Rq]at a;refine⟨by decide,l6 (fun f=>⟨by decide,?_⟩) (fun f=>a false ⟨fun q=>absurd q (by omega),fun q=>nomatch q⟩)⟩;by_cases c:(y:Int) % 100=0;.refine jS c ⟨by decide,a _ ?_⟩;rw[Pc];omega
 .exact sX c (a true ⟨fun _=>rfl,fun _=>by omega⟩)
def tL:Sp:=fun vs H Q _=>∃ y m:Nat,vs=[.int (y:Int),.int (m:Int)]/\1<=m/\m<=12/\Q (.int (Ql16.monthDays y m:Int)) H
theorem mm:T.days.gZ.Ok P w mg base 2 tL:=by
 refine T.days.gZ.fi (fun vs H Q E h=>?_) (fun i A f s H vs Q E j h=>?_);.obtain⟨n,m,rfl,_⟩:=h;rfl
 obtain⟨y,m,rfl,g,a,h⟩:=h;refine⟨_,(af (aK (PW.pt (pN (aC aV (pv 1) aw (aE _)) (lh (bK (T.days.jM.cl (tF T) j.zz (ae (pv 0) ah)))))) (ag (ay aw)) aD) (ag (ay (cT gu T.days.tI.e (aS gS (pv 1) aw) (fun _ _=>rfl))))),?_⟩;walk_at "r5";have b:¬ (m=2/\Ql16.leap y=true)->∃ x,iJ K H (t.c "MONTH_LENGTHS") x/\∃ d,AY x ((m:Int) - 1)=some d/\Q d H:=fun hn=>by
  refine⟨_,T.obs.Jj.sq,.int (Ql16.monthDays y m:Int),?_,h⟩;rw[Bd g a,Ox hn];have:m=1\/m=2\/m=3\/m=4\/m=5\/m=6\/m=7\/m=8\/m=9\/m=10\/m=11\/m=12:=by omega
  rcases this with rfl | rfl | rfl | rfl | rfl | rfl | rfl | rfl | rfl | rfl | rfl | rfl<;>rfl
 refine l6 (fun z=>⟨y,rfl,?_⟩) (fun z=>?_)
 .have k:m=2:=by omega
  cases hl:uJ y with
  | true=>rw[Oy rfl];rw[Bd g a,Oy ⟨k,(EJ y).trans hl⟩]at h;exact h
  | false=>rw[Ox (by decide)];exact b (fun⟨_,q⟩=>by rw[EJ,hl]at q;cases q)
 .rw[Ox (by decide)];exact b (fun⟨q,_⟩=>z (by omega))
theorem oA:T.days.eu.Ok P w mg base 1 (fun vs H Q _=>∃ y:Nat,vs=[.int (y:Int)]/\y<=9999/\Q (.int (Ql16.daysBefore y:Int)) H):=by
 refine T.days.eu.fi (fun vs H Q E h=>?_) (fun b A a s H vs Q E c h=>?_);.obtain⟨n,rfl,_⟩:=h;rfl
 obtain⟨y,rfl,d,h⟩:=h;refine⟨_,(af (T.days.eu.set 1 (aS cE (aS gS (aS ui (aS cE (pv 0) aw) aw) (aS ui (aS cE (pv 0) aw) aw)) (aS ui (aS cE (pv 0) aw) aw))) (ag (ay (aS cE (aS rG aw (pv 0)) (pv 1))))),?_⟩;walk_at "r5";refine⟨⟨by omega,by omega⟩,⟨by omega,by omega⟩,⟨by omega,by omega⟩,.inl ⟨by omega,by omega⟩,?_⟩;rw[show(365 * (y:Int)+(((y:Int)+3) / 4 - ((y:Int)+99) / 100+((y:Int)+399) / 400))=Ql16.daysBefore y by unfold Ql16.daysBefore;omega];exact h
def ny:Sp:=fun vs H Q _=>∃ p,∃ a b:Nat,vs=[.ref p]/\H p=some (.tup [.int ((a / b:Nat):Int),.int ((a % b:Nat):Int),.int (b:Int)])/\Q (.int (Ql16.nearest a b:Int)) H
theorem mG:T.bu.cW.Ok P w mg base 1 ny:=by
 refine T.bu.cW.fi (fun vs H Q E h=>?_) (fun j A f s H vs Q E l h=>?_);.obtain⟨n,a,b,rfl,_⟩:=h;rfl
 obtain⟨p,a,b,rfl,d,h⟩:=h;refine⟨_,(af (T.bu.cW.set 1 (cT gu (pv 0) aw (fun _ _=>rfl)))
  (af (T.bu.cW.set 2 (aS rG (cT gu (pv 0) aw (fun _ _=>rfl)) aw))
  (af (aK (PW.pt (fS (aC hW (pv 2) (cT gu (pv 0) aw (fun _ _=>rfl)) (aE _)) (fk (PW.pt (pN (aC aV (pv 2) (cT gu (pv 0) aw (fun _ _=>rfl)) (aE _)) (lh (aC aV (aS oZ (pv 1) aw) aw (aE _)))))))) (ag (ay (aS cE (pv 1) aw))) aD)
  (ag (ay (pv 1)))))),?_⟩
 walk_at "r5";unfold Ql16.nearest at h;dsimp only at h;refine⟨_,iJ.of d,_,rfl,_,iJ.of d,_,rfl,_,rfl,.inr ⟨by decide,by decide⟩,?_⟩;have i:(b<2 * (a % b)\/(2 * (a % b)=b/\a / b % 2=1))->Q (.int (((a / b:Nat):Int)+1)) H:=fun c=>by rw[Oy c]at h;exact h
 have g:¬ (b<2 * (a % b)\/(2 * (a % b)=b/\a / b % 2=1))->Q (.int ((a / b:Nat):Int)) H:=fun c=>by rw[Ox c]at h;exact h
 clear h;generalize a / b=q at *;generalize a % b=r at *;refine⟨_,iJ.of d,_,rfl,_,rfl,l6 (fun z=>?_) (fun z=>⟨_,iJ.of d,_,rfl,rfl,?_⟩)⟩;.rw[Oy trivial];exact⟨_,rfl,i (by omega)⟩
 by_cases e:2 * r=b;.rw[Oy (by simp;omega)];refine⟨_,rfl,by decide,l6 (fun k=>⟨_,rfl,i (by omega)⟩) (fun k=>g (by omega))⟩
 .rw[Ox (by simp;omega),Ox (by decide)];exact g (by omega)
def lf(f n v:V):List (Str×V):=[("form",f),("names",n),("value",v)]
def qE(t:bZ):Sp:=fun vs H Q _=>∃ x a f n v,vs=[.ref x,f,n,v]/\H x=some (.ins (t.c "Line") a [])/\Q .ba (upd H x (.ins (t.c "Line") a (lf f n v)))
theorem js:T.au.gA.Ok P w mg base 1 (qE t):=by
 refine T.au.gA.fi (fun vs H Q E h=>?_) (fun d A b s H vs Q E e h=>?_);.obtain⟨x,a,k,c,o,rfl,_⟩:=h;rfl
 .obtain⟨x,a,k,c,o,rfl,hx,h⟩:=h;refine⟨_,(af (dm (pv 0) (pv 1) rfl)
   (af (dm (pv 0) (pv 2) rfl)
   (ag (dm (pv 0) (pv 3) rfl)))),?_⟩
  refine⟨_,rfl,_,rfl,x,_,a,_,rfl,hx,T.au.dQ,T.au.dc,(by show 0<1000;decide),?_⟩;refine⟨_,rfl,_,rfl,x,_,a,_,rfl,ai,T.au.dQ,T.au.jg,(by show 1<1000;decide),?_⟩;refine⟨_,rfl,_,rfl,x,_,a,_,rfl,ai,T.au.dQ,T.au.qM,(by show 2<1000;decide),?_⟩;rw[cx,cx];exact h
def hf(v c a:V):List (Str×V):=[("value",v),("closing",c),("awaited",a)]
theorem L0(v c a x:V):kI "awaited" x (hf v c a)=hf v c x:=rfl
theorem Ma(v c a:V):(hf v c a).length<1000:=by show 3<1000;decide
def nG(t:bZ):Sp:=fun vs H Q _=>∃ x a v c,vs=[.ref x,v,c]/\H x=some (.ins (t.c "Holder") a [])/\∀ e,H e=none->Q .ba (upd (upd H e (.lst [])) x (.ins (t.c "Holder") a (hf v c (.ref e))))
theorem nQ:T.az.iI.Ok P w mg base 1 (nG t):=by
 refine T.az.iI.fi (fun vs H Q E h=>?_) (fun j A f s H vs Q E m h=>?_);.obtain⟨x,a,k,c,rfl,_⟩:=h;rfl
 .obtain⟨x,a,k,c,rfl,hx,h⟩:=h;refine⟨_,(af (dm (pv 0) (pv 1) rfl)
   (af (dm (pv 0) (pv 2) rfl)
   (ag (dm (pv 0) (aZ ah) rfl)))),?_⟩
  refine⟨_,rfl,_,rfl,x,_,a,_,rfl,hx,T.az.bX,T.az.bT,(by show 0<1000;decide),?_⟩;refine⟨_,rfl,_,rfl,x,_,a,_,rfl,ai,T.az.bX,T.az.fP,(by show 1<1000;decide),?_⟩;walk_at "r5";rw[cx];refine⟨O1 _,fun e d=>?_⟩;have i:e≠x:=(aj ai d).symm;rw[aq i]at d;refine⟨_,a,_,(by rw[aq i.symm];exact ai),T.az.bX,T.az.iy,(by show 2<1000;decide),?_⟩;have q:=h e d;have l:∀ o,upd (upd (upd H x o) e (.lst [])) x (.ins (t.c "Holder") a (hf k c (.ref e)))=upd (upd H e (.lst [])) x (.ins (t.c "Holder") a (hf k c (.ref e))):=fun o=>funext fun z=>by
   by_cases b:z=x;.rw[b,ai,ai]
   .rw[aq b,aq b];by_cases g:z=e;.rw[g,ai,ai]
    .rw[aq g,aq g,aq b]
  rw[<-l]at q;exact q
def jf{a:Type}(c:UInt8)(o:Option (a×Bytes)):Option (a×Bytes):=o.bind fun x=>match x.2 with
 | d::r=>if d=c then some (x.1,r) else none
 | []=>none
theorem qH{e:Type}{c:UInt8}{o:Option (e×Bytes)}{x:e}{b:Bytes}{j:Nat}(h:o=some (x,b.drop j))(hc:b[j]?≠some c):jf c o=none:=by
 subst h;unfold jf;rw[Pd];cases a:b[j]? with
 | none=>rw[drop_nil a]
 | some d=>rw[drop_cons a];exact Ox (by rintro rfl;exact hc a)
theorem nX{a:Type}{c:UInt8}{o:Option (a×Bytes)}{x:a}{b:Bytes}{j:Nat}(h:o=some (x,b.drop j))(hc:b[j]?=some c):jf c o=some (x,b.drop (j+1)):=by subst h;unfold jf;rw[Pd,drop_cons hc];exact Oy rfl
def sR(s:Bytes):Option ((Bool×List Bytes)×Bytes):=match s with
 | 91::r=>(jf 93 (jf 93 (Ql16.keys Ql16.PARTS r))).map fun x=>((true,x.1),x.2)
 | s=>(jf 93 (Ql16.keys Ql16.PARTS s)).map fun x=>((false,x.1),x.2)
theorem qP(h:∀ r,s≠91::r):sR s=(jf 93 (Ql16.keys Ql16.PARTS s)).map fun x=>((false,x.1),x.2):=by
 unfold sR;split;.rename_i r;exact absurd rfl (h r)
 .rfl
def JL(t:bZ)(H:Hp)(x:Bool×List Bytes)(v:V)(a:Hp):Prop:=∃ l b q,v=.ref l/\a l=some (.ins (t.c "Line") b (lf (.int (if x.1=true then 2 else 1)) q .ba))/\H l=none/\H b=none/\fc H x.2 q a
theorem tu:T.au.fw.Ok P w mg base 9 (jB K t sR (JL t)):=by
 refine T.au.fw.jO gD (fun a5 A a4 s H vs Q E M h=>?_);obtain⟨a,r,b,i,rfl,S,h1,h2⟩:=h;obtain⟨n,ha⟩:=S.at_;refine⟨_,(af (T.au.fw.set 1 (lA (pv 0) T.scan.aP T.scan.bh.m (dE T) M.zz T.scan.bh.b .nil bg (ae T.signs.gM.e ah)))
  (af (T.au.fw.set 2 (T.aF.ft.cX (jo T) M.zz aH (ae (pv 0) ah)))
  (af (aN (cp (pv 0) T.scan.aP T.scan.bc.m (dA T) M.zz T.scan.bc.b aH (ae T.signs.gp.e ah)))
  (af (aK (ie (bK (pv 1))) (ag (ay (gQ T.au.ug (js T) M.zz rfl T.au.zp T.au.gA.b .nil bg (ae T.au.ra.e (ae (pv 2) (ae eX ah)))))) aD)
  (af (aN (cp (pv 0) T.scan.aP T.scan.bc.m (dA T) M.zz T.scan.bc.b aH (ae T.signs.gp.e ah)))
  (ag (ay (gQ T.au.ug (js T) M.zz rfl T.au.zp T.au.gA.b .nil bg (ae T.au.va.e (ae (pv 2) (ae eX ah))))))))))),?_⟩
 walk_at "r5";have U:∀ (R:Bool) (d:Hp) (j:Nat) (k:List Bytes) (q:V),aQ K t d a r b j->Kp a H d->fc H k q d->sR (b.drop i)=some ((R,k),b.drop j)->∀ x n:Addr,d x=none->d n=none->n≠x ->
  qE t [.ref x,.int (if R=true then 2 else 1),q,.ba] (upd (upd d n (.own x)) x (.ins (t.c "Line") n [])) (fun v l=>v=.ba/\Q (.ref x) l) E0:=by
  intro R d j k q C g L e x n hx G a7;refine⟨x,n,_,_,_,rfl,ai,rfl,?_⟩;rw[cx];have sm:aB d (upd (upd d n (.own x)) x (.ins (t.c "Line") n (lf (.int (if R=true then 2 else 1)) q .ba))):=fun c o z=>by rw[aq (aj z hx),aq (aj z G)];exact z
  obtain⟨o3,y⟩:=C.there;refine h2 (R,k) (b.drop j) e j _ _ rfl (C.same sm) (g.trans (Kp.same sm)) ⟨x,n,q,rfl,ai,g.free hx (aj y hx).symm,g.free G (aj y G).symm,?_⟩;obtain⟨p,us,e1,e2,Y,e4⟩:=L;exact⟨p,us,e1,sm _ _ e2,Y,e4.mono fun _ _ z=>sm _ _ z⟩
 have B:∀ {O l d:Hp} {k:List Bytes} {q:V} {j j2:Nat},Kp a H O->aQ K t O a r b j->fc O k q l->Kp a l d->aQ K t l a r b j2->fc H k q d:=by intro O l d k q j j2 J X L g u;obtain⟨o1,a3⟩:=X.there;obtain⟨p,us,e1,e2,Y,e4⟩:=L;have pa:=(aj a3 Y).symm;exact⟨p,us,e1,g _ _ e2 pa,J.free Y pa,e4.mono (Kp.tup u g)⟩
 refine⟨_,_,ha,rfl,a,r,b,i,91,rfl,S,fun hc=>?_,fun hc O X J=>?_⟩
 .have hs:∀ r,b.drop i≠91::r:=fun r' q=>by
   cases hb:b[i]? with
   | none=>rw[drop_nil hb]at q;cases q
   | some c=>rw[drop_cons hb]at q;cases q;exact hc hb
  refine⟨r,b,i,S,fun hn H' k'=>⟨_,rfl,h1 (by rw[qP hs,hn];rfl) H' k'⟩,fun k rest I j l q hj u N L=>?_⟩;obtain⟨a0,D⟩:=u.at_;rw[<-hj]at I;refine⟨_,_,D,rfl,a,r,b,j,93,rfl,u,fun f=>⟨_,rfl,h1 (by rw[qP hs,qH I f];rfl) l N⟩,fun f d C g=>⟨_,rfl,?_⟩⟩;rw[Oy (by decide)];exact U false d (j+1) k q C (N.trans g) (B (Kp.refl _ _) S L g u) (by rw[qP hs,nX I f];rfl)
 .have Z:sR (b.drop i)=(jf 93 (jf 93 (Ql16.keys Ql16.PARTS (b.drop (i+1))))).map fun x=>((true,x.1),x.2):=by rw[drop_cons hc];rfl
  refine⟨r,b,i+1,X,fun hn H' k'=>⟨_,rfl,h1 (by rw[Z,hn];rfl) H' (J.trans k')⟩,fun k rest I j l q hj u N L=>?_⟩;obtain⟨a0,D⟩:=u.at_;rw[<-hj]at I;refine⟨_,_,D,rfl,a,r,b,j,93,rfl,u,fun f=>⟨_,rfl,h1 (by rw[Z,qH I f];rfl) l (J.trans N)⟩,fun f d C g=>⟨_,rfl,?_⟩⟩;rw[Ox (by decide)];obtain⟨a6,y⟩:=C.at_;have W:=nX I f;refine⟨_,_,y,rfl,a,r,b,j+1,93,rfl,C,fun F=>⟨_,rfl,h1 (by rw[Z,qH W F];rfl) d (J.trans (N.trans g))⟩,fun F H4 S4 k4=>?_⟩;exact U true H4 (j+1+1) k q S4 (J.trans (N.trans (g.trans k4))) (B J X L (g.trans k4) u) (by rw[Z,nX W F];rfl)
local macro_rules | `(tactic| walk_at "r6") => `(tactic| simp only [rE,nB,mu,kX,rX,mq,Cg,GX,hU,tC,tB,uB,nJ,oO,tU,FC,uv,GH,iR,gN,kH,jY,kg,iU,l8,iT,ml,tT,uF,hB,vN,Fl,pG,jd,vd,Ka,tQ,vL,GF,zW,gm,jr,zL,jz,Bv,yL,Fg,Ht,GQ,rI,yb,rU,wW,Fb,jB,B9,kc,ta,L2.start,tA,nS,Im,AG,Jw,Oo,Oa,Nv,EM,y8,MX,Ko,Ms,MZ,M9,MH,M6,MF,H0,Ef,IX,DP,Bc,vU,
  OP,PX,OS,Pp,Pn,OB,Pa,List.replicate,Pj,Pk,OC,V.int.injEq,V.bl.injEq,V.str.injEq,V.ref.injEq,OT,HO.ins.injEq,Ci,LG,
  Ph,Px,Pq,QI,QB,Qw,PZ,P5,Q6,Nat.reduceAdd,Nat.reduceSub,Qe,Qg])
theorem yr(l:List Nat)(i:Nat):lE (S l) (some (i:Int)) none=S (l.drop i):=by
 unfold lE;rw[dn,eN,HT.qA,HT.lI];unfold S;congr 2;by_cases h:i<=l.length;.rw[QU h];exact PU (by rw[O6];omega)
 .rw[Sh (by omega),TH,List.take_zero,QO (by omega)]
theorem Ee(l:List Nat)(i:Nat):lE (S l) none (some (i:Int))=S (l.take i):=by
 unfold lE;rw[dn,eN,HT.qA,HT.lI];unfold S;congr 1;rw[Q4,Nat.sub_zero];by_cases h:i<=l.length;.rw[QU h]
 .rw[Sh (by omega),PU (OE _),PU (by omega)]
theorem kS(l:List Nat)(a:j<=l.length)(h:i<=j):lE (S l) (some (i:Int)) (some (j:Int))=S ((l.drop i).take (j - i)):=by unfold lE;rw[dn,eN,HT.lI,HT.lI,QU a,QU (by omega)];rfl
theorem bD(b:Bytes):(aI b).length=b.length:=by simp[aI]
theorem gH(b:Bytes)(i:Nat):(aI b).drop i=aI (b.drop i):=by simp[aI]
theorem iq(b:Bytes)(i:Nat):(aI b).take i=aI (b.take i):=by simp[aI]
theorem mY(a b:Bytes):aI (a++b)=aI a++aI b:=by simp[aI]
theorem cU(h:n<=30000):n<=sizeLine:=Rm (QR h (by decide))
theorem gj(h:b.length<=30000):(S (aI b)).length<=sizeLine:=by rw[eN,bD];exact cU h
theorem ni:aI a=aI b↔a=b:=by
 constructor;.intro h;exact List.map_inj_right (fun x y e=>P6.mp e) |>.mp h
 .rintro rfl;rfl
theorem HI(b:Bytes)(c:UInt8):((aI b).head?==some c.toNat)=(b.head?==some c):=by
 cases b with
 | nil=>rfl
 | cons x r=>rw[Qb];simp[aI,P6]
def dP(b:Bytes):Bool:=b.head?==some 45
theorem gE(b:Bytes):Ql16.signOf b=(dP b,if (b.head?==some 43 || b.head?==some 45)=true then b.drop 1 else b):=by
 unfold Ql16.signOf dP;split;.rfl
 .rfl
 .rename_i h1 h2;cases b with
  | nil=>rfl
  | cons x r=>have a1:x≠45:=fun z=>h1 r (by rw[z]);have a2:x≠43:=fun z=>h2 r (by rw[z]);simp[a1,a2]
theorem m8(b:Bytes)(c:UInt8):PySem.Txt.startswith (S (aI b)) ⟨#[c.toNat]⟩=(b.head?==some c):=by rw[Ip,HI]
theorem iV:T.aA.fC.Ok P w mg base 1 (fun vs H Q _=>∃ b:Bytes,vs=[.str (S (aI b))]/\b.length<=30000/\Q (.str (S (aI (Ql16.signOf b).2))) H):=by
 refine T.aA.fC.fi (fun vs H Q E h=>?_) (fun d A a s H vs Q E i h=>?_);.obtain⟨b,rfl,_⟩:=h;rfl
 obtain⟨b,rfl,c,h⟩:=h;refine⟨_,(af (aK (PW.pt (fS (bK (mU QJ QK fZ (pv 0) cP)) (fk (bK (mU QJ QK fZ (pv 0) cP))))) (ag (ay (cF jN (pv 0) (bN aw) jm))) aD) (ag (ay (pv 0)))),?_⟩;walk_at "r6";have e:PySem.Txt.startswith (S (aI b)) (Str.ofString "+")=(b.head?==some 43):=m8 b 43;have f:PySem.Txt.startswith (S (aI b)) (Str.ofString "-")=(b.head?==some 45):=m8 b 45;have g:lE (S (aI b)) (some 1) none=S (aI (b.drop 1)):=by have:=yr (aI b) 1;rw[gH]at this;exact this
 rw[gE]at h;rw[e,f,g];refine⟨⟨_,rfl⟩,?_⟩;cases h1:(b.head?==some 43) with
 | true=>rw[Oy rfl,Oy OF];simp only[h1,Bool.true_or,Qz]at h;exact⟨gj c,h⟩
 | false=>
   rw[Ox (by decide)];refine⟨⟨_,rfl⟩,?_⟩;simp only[h1,Te]at h;cases h2:(b.head?==some 45) with
   | true=>rw[h2]at h;rw[Oy rfl]at h |-;exact⟨gj c,h⟩
   | false=>rw[h2]at h;rw[Ox (by decide)]at h |-;exact h
theorem yl:T.aA.qd.Ok P w mg base 1 (fun vs H Q _=>∃ (b:Bytes) (n:Int),vs=[.str (S (aI b)),.int n]/\Q (.int (if dP b=true then -n else n)) H):=by
 refine T.aA.qd.fi (fun vs H Q E h=>?_) (fun c A a s H vs Q E e h=>?_);.obtain⟨b,n,rfl,_⟩:=h;rfl
 obtain⟨b,n,rfl,h⟩:=h;refine⟨_,(ag (ay (pZ (bK (mU QJ QK fZ (pv 0) cP)) (eK cR (pv 1)) (pv 1)))),?_⟩;walk_at "r6";have d:PySem.Txt.startswith (S (aI b)) (Str.ofString "-")=dP b:=m8 b 45;rw[d];refine⟨⟨_,rfl⟩,?_⟩;cases h1:dP b with
 | true=>rw[h1]at h;rw[Oy rfl]at h |-;exact h
 | false=>rw[h1]at h;rw[Ox (by decide)]at h |-;exact h
theorem Jt{x:Str}{g:TG}{n:TS}{D:Ends}{a:L2.St}{H:Hp}(d:Nat->L2.St->Hp->Prop)(o:d 0 a H)
 (hs:∀ i c a H,x.cps.toList[i]?=some c->d i a H->g (.str ⟨#[c]⟩) a H fun h k=>n { D with nx:=d (i+1),ct:=d (i+1),bk:=D.nx } h k) (hd:∀ a H,d x.cps.toList.length a H->D.nx a H):
 ∃ W:Nat->Nat->L2.St->Hp->Prop,(∃ m,W 0 m a H)/\∀ i m a H,W i m a H -> ((MT x).stop i H/\D.nx a H)\/((MT x).go i H/\∃ N:L2.St->Hp->Prop,(∀ f b,N f b->∃ l,l<m/\W (i+1) l f b)/\∀ y b,(MT x).KL i H y b->g y a b fun h k=>n { D with nx:=N,ct:=N,bk:=D.nx } h k):=by
 refine⟨fun i m a H=>m=x.cps.size - i/\i<=x.cps.size/\d i a H,⟨x.cps.size,by simp,O1 _,o⟩,?_⟩;rintro i m a H ⟨rfl,s,p⟩;by_cases j:i<x.cps.size;.refine .inr ⟨j,d (i+1),fun f b q=>⟨x.cps.size - (i+1),by omega,rfl,j,q⟩,fun y b r=>?_⟩;obtain⟨e,c,hc,rfl⟩:=r;subst e;exact hs i c a _ (by rw[RF];exact hc) p
 .have e:i=x.cps.size:=by omega
  subst e;exact .inl ⟨OE _,hd a H (by rw[Q1];exact p)⟩
def dg(d:Bytes):List Nat:=d.map fun c=>(Ql16.hexValue c).getD 0
theorem G3(h:Ql16.hexValue c=some d):PySem.Txt.find (S cn) ⟨#[o8 c.toNat]⟩=(d:Int):=by
 obtain⟨h1,h2⟩:=K4 h;rcases Ly cn (o8 c.toNat) with⟨_,hn⟩ | ⟨i,e,a,f⟩;.exact absurd (Qc h1) hn
 .rw[e];have b:∀ i,i<16->∀ d,d<16->cn[i]?=cn[d]?->i=d:=by decide
  rw[b i (OV.mp a).1 d h2 (a.trans h1.symm)]
theorem ES{base:Nat}{c:UInt8}(h:kE base c=true):c.toNat<128:=by
 have:=dS (fun c=>!(Ql16.hexValue c).isSome || decide (c.toNat<128)) (by decide +kernel) c;unfold kE at h;cases e:Ql16.hexValue c with
 | none=>rw[e]at h;cases h
 | some d=>rw[e]at this;simpa using this
def qU:Sp:=fun vs H Q _=>∃ (d:Bytes) (a:Nat),vs=[.str (S (aI d)),.int (a:Int)]/\a<=16/\d.length<=30000/\(∀ c∈d,kE a c=true)/\Q (.int (Ql16.number a (dg d):Int)) H
theorem l3:T.bu.dZ.Ok P w mg base 1 qU:=by
 refine T.bu.dZ.fi (fun vs H Q E h=>?_) (fun n A k s H vs Q E r h=>?_);.obtain⟨d,j,rfl,_⟩:=h;rfl
 obtain⟨d,j,rfl,q,hd,a,h⟩:=h;refine⟨_,(af (T.bu.dZ.set 2 aw)
  (af (ic Qh rfl (C7 (IM Ud Ue Cb (pv 0))) (cA (i:=3) T.bu.dZ.s.nd rfl (Ql rfl)) (ag (T.bu.dZ.set 2 (aS cE (aS rG (pv 2) (pv 1)) (mU PySem.F.slot_str_find PySem.F.type_str_find JK T.signs.vJ.e (pv 3))))))
  (ag (ay (pv 2))))),?_⟩
 walk_at "r6";have g:∀ c∈aI d,c<128:=fun c hc=>by obtain⟨x,hx,rfl⟩:=Qk.mp hc;exact ES (a x hx)
 refine⟨_,rfl,⟨_,rfl⟩,_,rfl,rfl,by rw[eN,bD];omega,_,rfl,?_⟩;rw[Et g];refine Jt (fun i l f=>f=H/\∃ o,l=[some (.str (S (aI d))),some (.int (j:Int)),some (.int (Ql16.number j ((dg d).take i):Int)),o]) ⟨rfl,none,rfl⟩ ?_ ?_
 .rintro i c l f hc ⟨rfl,o,rfl⟩;rw[dn]at hc;obtain⟨x,hx,rfl⟩:∃ x:UInt8,d[i]?=some x/\o8 x.toNat=c:=by
   simpa[aI]using hc
  have b:=a x (Qc hx);obtain⟨v,m⟩:∃ v,Ql16.hexValue x=some v:=by
   unfold kE at b;cases e:Ql16.hexValue x with
   | none=>rw[e]at b;cases b
   | some v=>exact⟨v,rfl⟩
  walk_at "r6";have p:(dg d).take (i+1)=(dg d).take i++[v]:=by rw[PN];unfold dg;rw[Qv,hx];simp[m]
  refine⟨.inr ⟨by omega,by omega⟩,?_⟩;rw[p,tf,show(Str.ofString "0123456789abcdef")=S cn from rfl,G3 m];refine⟨⟨_,rfl⟩,?_,_,rfl⟩;rw[VA,SE,Int.mul_comm]
 .rintro l f ⟨rfl,o,rfl⟩;walk_at "r6";have e:(dg d).take (S ((aI d).map o8)).cps.toList.length=dg d:=PU (by rw[dn];simp[dg,aI]);rw[e];exact h
theorem Ec{x:Str}{o:TE}{g:TG}{q:TT}{n:TE}{j:L2.St}{vs:List Nat}{Q:VK}{H:Hp}(u:∀ R:V->Hp->Prop,R (.str x) H->o j H R)(a:Addr->Nat->Hp->Prop)(r:∀ D,H D=none->a D 0 (upd H D (.lst [])))
 (hs:∀ D i c H,x.cps.toList[i]?=some c->a D i H->g (.str ⟨#[c]⟩) (wipe j vs) H fun e f=>wipe e vs=wipe j vs/\q e f fun b k=>if b=true then n e k fun y l=>∃ d,l D=some (.lst d)/\d.length<sizeLine/\a D (i+1) (upd l D (.lst (d++[y]))) else a D (i+1) k)
 (hd:∀ D H,a D x.cps.toList.length H->Q (.ref D) H):Mc (Mx o) g q n vs j H Q:=by
 refine u _ ⟨x,rfl,fun D s=>⟨fun i m H=>m=x.cps.size - i/\i<=x.cps.size/\a D i H,⟨_,rfl,O1 _,r D s⟩,?_⟩⟩;rintro i m H1 ⟨rfl,v,p⟩;rcases RZ i x.cps.size with h | h;.refine .inr ⟨h,fun f=>a D (i+1) f,fun f z=>⟨x.cps.size - (i+1),by omega,rfl,h,z⟩,?_⟩;rintro y f ⟨rfl,c,hc,rfl⟩;exact hs D i c _ (by rw[RF];exact hc) p
 .obtain rfl:i=x.cps.size:=by omega
  exact .inl ⟨h,hd D H1 (by rw[Q1];exact p)⟩
theorem vl:∀ (r:List (List Nat)) (a:Array Nat),(r.map S).foldl (fun b p=>b++(#[]:Array Nat)++p.cps) a=a++r.flatten.toArray
 | [],a=>by simp
 | p::r,a=>by rw[OP,Vs,vl r];simp[S]
theorem EE(ps:List (List Nat)):PySem.Txt.join ⟨#[]⟩ (ps.map S)=S ps.flatten:=by
 cases ps with
 | nil=>rfl
 | cons p r=>unfold PySem.Txt.join Builtin.Str.glued;rw[OP];show Str.mk ((r.map S).foldl (fun a p=>a++(#[]:Array Nat)++p.cps) (S p).cps)=_;rw[vl];simp[S]
def yd:Sp:=fun vs H Q _=>∃ (b:Bytes) (a:Nat),vs=[.str (S (aI b)),.int (a:Int)]/\(a=2\/a=8\/a=10\/a=16)/\b.length<=30000/\(∀ c∈b,c.toNat<128) /\ ((Ql16.partsOf b).all (fH a)=false->∀ d,aB H d->Q .ba d)/\((Ql16.partsOf b).all (fH a)=true->∀ d,aB H d->Q (.str (S (aI (cb b)))) d)
theorem fK:T.aA.bz.Ok P w mg base 1 yd:=by
 refine T.aA.bz.fi (fun vs H Q E h=>?_) (fun a0 A O s H vs Q E hr h=>?_);.obtain⟨d,a,rfl,_⟩:=h;rfl
 obtain⟨b,a,rfl,N,hb,L,h1,h2⟩:=h;refine⟨_,(af (CK (i:=2) T.aA.bz.s.nd rfl (UM rfl) (cF jN T.signs.vJ.e jm (bN (pv 1))))
  (af (T.aA.bz.set 3 (mU PySem.F.slot_str_split PySem.F.type_str_split GP (pv 0) cP))
  (af (ic Qh rfl (jW (pv 3)) (cA (i:=4) T.aA.bz.s.nd rfl (Ql rfl)) (ag (aK (PW.pt (fS (aC aV (pv 4) cP (aE _)) (fk (ie (bK (aT (Hv rfl) (by rfl) T.hJ.KA boot_all (ae (xS (own:=[("digit",5)]) rfl T.aA.bz.s.nd (C7 (IM Ud Ue Cb (pv 4))) (by exact(show qo ["word","base","digits","parts","part","digit"] (bf (top 119)) _ _ from⟨rfl,by decide +kernel,by decide +kernel,by decide +kernel,by decide +kernel⟩)) (fun _ _ _ _ _=>(cA (i:=5) T.aA.bz.s.nd rfl (Ql rfl))) (fun _ _ _ _ _=>oh) (fun _ _ _ _ _=>(ck DI (pv 5) (pv 2) (by with_unfolding_all rfl)))) ah))))))) (ag (ay eX)) aD)))
  (ag (ay (mU Up Uq DX cP (pv 3))))))),?_⟩
 walk_at "r6";have es:PySem.Txt.split (S (aI b)) (Str.ofString "_")=(Ql16.partsOf b).map fun p=>S (aI p):=by have:=zR (aI b) 95;rw[CU,P4]at this;exact this
 have ec:lE (Str.ofString "0123456789abcdef") none (some (a:Int))=S (cn.take a):=Ee cn a;refine⟨by decide,⟨_,rfl⟩,by decide,by rw[eN,bD];show _<=16777216;omega,fun p hp=>?_⟩;rw[es,ec,P4];obtain⟨us,l⟩:∃ us:List V,us=(Ql16.partsOf b).map (V.str ∘ fun p=>S (aI p)):=⟨_,rfl⟩
 rw[<-l];have sp:aB H (upd H p (.lst us)):=aB.new hp;refine⟨_,rfl,p,rfl,⟨us,bB.of ai⟩,?_⟩;obtain⟨C,f⟩:∃ C:Nat->L2.St->Hp->Prop,C=(fun i I j=>aB (upd H p (.lst us)) j/\(∃ o,I=[some (V.str (S (aI b))),some (V.int (a:Int)),some (V.str (S (cn.take a))),some (V.ref p),o,none])/\∀ q∈(Ql16.partsOf b).take i,fH a q=true):=⟨_,rfl⟩
 refine jG (xs:=us) C ?_ ?_ ?_ ?_;.rw[f];exact⟨fun _ _ z=>z,⟨none,rfl⟩,by simp⟩
 .intro i I j _ pv;rw[f]at pv;exact bB.of (pv.1 _ _ ai)
 .intro i y I j Y pv;rw[f]at pv;obtain⟨B,⟨o,rfl⟩,g⟩:=pv;obtain⟨q,G,rfl⟩:∃ q,(Ql16.partsOf b)[i]?=some q/\V.str (S (aI q))=y:=by
   rw[l]at Y;simpa using Y
  have W:q∈Ql16.partsOf b:=Qc G;have qa:∀ c∈aI q,c<128:=fun c hc=>by obtain⟨x,hx,rfl⟩:=Qk.mp hc;exact L x (E2 W hx).1
  have ql:q.length<=30000:=by have X:q.length<=(Ql16.partsOf b).flatten.length:=Sb (List.sublist_flatten_of_mem W);rw[gx]at X;exact O9 X (O9 (Sm _ _) hb)
  have v:fH a q=false->(Ql16.partsOf b).all (fH a)=false:=fun z=>by rw[List.all_eq_false];exact⟨q,W,by simp[z]⟩
  have Z:aB H j:=fun c u z=>B _ _ (sp _ _ z);have ok:fH a q=true->∀ k,aB j k->C (i+1) [some (V.str (S (aI b))),some (V.int (a:Int)),some (V.str (S (cn.take a))),some (V.ref p),some (V.str (S (aI q))),none] k:=fun z k r=>by
   rw[f];refine⟨fun c u y=>r _ _ (B _ _ y),⟨_,rfl⟩,fun x hx=>?_⟩;rw[PN,G]at hx;rcases OH.mp hx with y | y;.exact g x y
   .simp at y;rw[y];exact z
  walk_at "r6";by_cases U:q=[];.subst U;rw[Oy (by decide)];exact h1 (v rfl) j Z
  .have e0:¬ S (aI q)=Str.ofString "":=fun z=>U (by
    have z2:aI q=[]:=nh.mp z;simpa[aI]using z2)
   rw[Ox (by simpa using e0)];refine Ec (x:=S ((aI q).map o8)) (fun R hR=>⟨_,rfl,⟨_,rfl⟩,_,rfl,rfl,by rw[eN,bD];omega,by rw[Et qa];exact hR⟩) (fun D i k=>aB j k/\j D=none/\k D=some (.lst (((q.take i).map (kE a)).map V.bl))) (fun D n=>⟨aB.new n,n,ai⟩) (fun D i c k hc M=>?_) (fun D k M=>?_)
   .obtain⟨r,n,m⟩:=M;rw[dn]at hc;obtain⟨x,hx,rfl⟩:∃ x:UInt8,q[i]?=some x/\o8 x.toNat=c:=by simpa[aI]using hc
    have ln:i<q.length:=fu hx;simp only[wipe,Dh];walk_at "r6";rw[Oy OF,dn];refine⟨_,rfl,?_⟩;rw[Ls N];refine⟨_,m,?_,fun z u h=>by rw[aq (aj h n)];exact r _ _ h,n,?_⟩;.rw[O0,O0,Pg];exact dR (by omega)
    .rw[ai,PN,hx];simp
   .obtain⟨r,n,m⟩:=M;refine⟨D,rfl,_,bB.of m,?_⟩;have el:q.take (S ((aI q).map o8)).cps.toList.length=q:=PU (by rw[dn];simp[aI]);have e:((q.take (S ((aI q).map o8)).cps.toList.length).map (kE a)).all id=fH a q:=by
     rw[el,RV];unfold fH;rw[show q.isEmpty=false by simpa using U];rfl
    rw[e];cases hd:fH a q with
    | true=>rw[Ox (by decide)];exact ok hd k r
    | false=>rw[Oy (by decide)];exact h1 (v hd) k (fun c u z=>r _ _ (Z _ _ z))
 .intro I j pv;rw[f]at pv;obtain⟨B,⟨o,rfl⟩,g⟩:=pv;have J:(Ql16.partsOf b).all (fH a)=true:=by
   rw[PK];intro q G;refine g q ?_;rw[l,O0,QQ];exact G
  walk_at "r6";have fl:((Ql16.partsOf b).map fun p=>aI p).flatten=aI (cb b):=by rw[<-gx];simp[aI]
  refine⟨⟨_,rfl⟩,(Ql16.partsOf b).map fun p=>S (aI p),.inl ?_,?_,?_⟩;.rw[P4,<-show us=_ from l];exact bB.of (B _ _ ai)
  .have z:((Ql16.partsOf b).map fun p=>p.length).sum=(cb b).length:=by rw[<-gx,List.length_flatten]
   have z2:(cb b).length<=b.length:=Sm _ _;rw[P4,show((fun x:Str=>x.length) ∘ fun p=>S (aI p))=fun p:Bytes=>p.length from funext fun p=>by simp[eN,bD],z,show(Str.ofString "").length=0 from rfl];omega
  .have e:PySem.Txt.join (Str.ofString "") ((Ql16.partsOf b).map fun p=>S (aI p))=S (aI (cb b)):=by
    have:=EE ((Ql16.partsOf b).map fun p=>aI p);rw[fl,P4]at this;exact this
   rw[e];exact h2 J j (fun c u z=>B _ _ (sp _ _ z))
def Dl:Sp:=fun vs H Q _=>∃ b:Bytes,vs=[.str (S (aI b))]/\b.length<=30000/\(∀ c∈b,c.toNat<128) /\ (((Ql16.partsOf b).all (fH 10)&&Ql16.proper b)=false->∀ a,aB H a->Q .ba a)/\((Ql16.partsOf b).all (fH 10)=true->Ql16.proper b=true->∀ a,aB H a->Q (.str (S (aI (cb b)))) a)
theorem ik(b:Bytes):(cb b).length<=b.length:=Sm _ _
theorem ki:T.aA.dX.Ok P w mg base 2 Dl:=by
 refine T.aA.dX.fi (fun vs H Q E h=>?_) (fun j A g s H vs Q E m h=>?_);.obtain⟨d,rfl,_⟩:=h;rfl
 obtain⟨b,rfl,l,e,h1,h2⟩:=h;refine⟨_,(af (T.aA.dX.set 1 (T.aA.bz.cl (fK T) m.zz (ae (pv 0) (ae aw ah))))
  (af (aK (PW.pt (fS (eV (l5 (pv 1))) (fk (PW.pt (pN (aC hW (aT hF (by rfl) T.hJ.dh O5 (ae (pv 1) ah)) aw (aE _)) (lh (bK (mU QJ QK fZ (pv 1) cP)))))))) (ag (ay eX)) aD)
  (ag (ay (pv 1))))),?_⟩
 walk_at "r6";refine⟨b,10,rfl,by simp,l,e,fun hn c s'=>?_,fun f c s'=>?_⟩;.walk_at "r6";rw[Oy (by decide),Oy OF];exact h1 (by rw[hn];rfl) c s'
 .walk_at "r6";rw[Ox (by simp)];have k:PySem.Txt.startswith (S (aI (cb b))) (Str.ofString "0")=((cb b).head?==some 48):=m8 _ 48;have a:=Cm f;have n:=ik b;rw[k,eN,bD];refine⟨cU (by omega),?_⟩;by_cases hl:1<(cb b).length
  .rw[Oy (OO (by omega))];refine⟨⟨_,rfl⟩,?_⟩;rw[OO hl,Qj]at a;cases i:((cb b).head?==some 48) with
   | true=>rw[i]at a;rw[Oy rfl];exact h1 (by rw[a];simp) c s'
   | false=>rw[i]at a;rw[Ox (by decide)];exact h2 f a c s'
  .rw[Ox (by simp;omega),Ox (by decide)];rw[O3 hl]at a;exact h2 f a c s'
def Be:Sp:=fun vs H Q _=>∃ b:Bytes,vs=[.str (S (aI b))]/\b.length<=30000/\(∀ c∈b,c.toNat<128) /\ (Ql16.digitsOf 10 (Ql16.signOf b).2=none->∀ a,aB H a->Q .ba a)/\(∀ l,Ql16.digitsOf 10 (Ql16.signOf b).2=some l->∀ a,aB H a->Q (.int (if (Ql16.signOf b).1=true then -(Ql16.number 10 l:Int) else(Ql16.number 10 l:Int))) a)
theorem v7(h:c∈(Ql16.signOf b).2):c∈b:=by
 rw[gE]at h;simp only at h;split at h;.exact SF h
 .exact h
theorem qs(b:Bytes):(Ql16.signOf b).2.length<=b.length:=by
 rw[gE];simp only;split;.rw[O6];omega
 .exact OE _
theorem kU(h:(Ql16.partsOf b).all (fH bs)=false):Ql16.digitsOf bs b=none:=by rw[km,Ox (by rw[h];decide)]
theorem jH(h:(Ql16.partsOf b).all (fH bs)=true):Ql16.digitsOf bs b=some (dg (cb b)):=by rw[km,Oy h];rfl
theorem vR:T.aA.iM.Ok P w mg base 2 Be:=by
 refine T.aA.iM.fi (fun vs H Q E h=>?_) (fun l A i s H vs Q E a h=>?_);.obtain⟨d,rfl,_⟩:=h;rfl
 obtain⟨b,rfl,j,f,h1,h2⟩:=h;refine⟨_,(af (T.aA.iM.set 1 (T.aA.bz.cl (fK T) a.zz (ae (T.aA.fC.cl (iV T) a.zz (ae (pv 0) ah)) (ae aw ah))))
  (af (aK (eV (l5 (pv 1))) (ag (ay eX)) aD)
  (ag (ay (T.aA.qd.cl (yl T) a.zz (ae (pv 0) (ae (T.bu.dZ.cl (l3 T) a.zz (ae (pv 1) (ae aw ah))) ah))))))),?_⟩
 walk_at "r6";refine⟨b,rfl,j,(Ql16.signOf b).2,10,rfl,by simp,O9 (qs b) j,fun c hc=>f c (v7 hc),fun hn e s'=>?_,fun k e s'=>?_⟩;.walk_at "r6";rw[Oy (by decide)];exact h1 (kU hn) e s'
 .walk_at "r6";rw[Ox (by simp)];have n:=qs b;have m:=ik (Ql16.signOf b).2;refine⟨_,10,rfl,by omega,by omega,jJ k,b,rfl,_,rfl,?_⟩;have g:=h2 _ (jH k) e s';rw[show(Ql16.signOf b).1=dP b by rw[gE]]at g;exact g
abbrev uX:List (Key×V):=[(Sum.inr "0x",V.int 16),(Sum.inr "0o",V.int 8),(Sum.inr "0b",V.int 2)]
def HG:Sp:=fun vs H Q _=>∃ b:Bytes,vs=[.str (S (aI b))]/\b.length<=30000/\(∀ c∈b,c.toNat<128) /\ (Ql16.wholeOf b=none->∀ a,aB H a->Q .ba a)/\(∀ z,Ql16.wholeOf b=some (.whole z)->∀ a,aB H a->Q (.int z) a)
theorem tV:T.aA.cD.Ok P w mg base 3 HG:=by
 refine T.aA.cD.fi (fun vs H Q E h=>?_) (fun O A J s H vs Q E B h=>?_);.obtain⟨d,rfl,_⟩:=h;rfl
 obtain⟨b,rfl,o,p,h1,h2⟩:=h;refine⟨_,(af (aK (eV (Jc (cF jN (pv 0) jm (bN aw)) T.aA.Ej.e)) (af (T.aA.cD.set 1 (zA T.aA.Ej.e (cF jN (pv 0) jm (bN aw)) (fun _ _=>rfl)))
  (ag (T.aA.cD.set 2 (T.aA.bz.cl (fK T) B.zz (ae (cF jN (pv 0) (bN aw) jm) (ae (pv 1) ah)))))) (af (T.aA.cD.set 1 aw)
  (ag (T.aA.cD.set 2 (T.aA.dX.cl (ki T) B.zz (ae (T.aA.fC.cl (iV T) B.zz (ae (pv 0) ah)) ah))))))
  (af (aK (eV (l5 (pv 2))) (ag (ay eX)) aD)
  (af (T.aA.cD.set 3 (T.aA.qd.cl (yl T) B.zz (ae (pv 0) (ae (T.bu.dZ.cl (l3 T) B.zz (ae (pv 2) (ae (pv 1) ah))) ah))))
  (af (aK (PW.pt (fS (aC gV (pv 3) (aS gS (eK cR T.aA.mi.e) aw) (aE _)) (fk (aC hW (pv 3) T.aA.mi.e (aE _))))) (ag (ay eX)) aD)
  (ag (ay (pv 3))))))),?_⟩
 walk_at "r6";have y:∀ (z:Int) (a:Hp),aB H a->Ql16.wholeOf b=Ql16.inRange z->(if decide (z < -9223372036854775807 - 1)=true then if True then Q V.ba a else Q (V.int z) a else if decide (9223372036854775807<z)=true then Q V.ba a else Q (V.int z) a):=by
  intro z a m e;unfold Ql16.inRange at e;by_cases M:z < -9223372036854775807 - 1;.rw[Oy (OO M),Oy OF];exact h1 (by rw[e,Ox (by omega)]) a m
  .rw[Ox (by simpa using M)];by_cases N:9223372036854775807<z;.rw[Oy (OO N)];exact h1 (by rw[e,Ox (by omega)]) a m
   .rw[Ox (by simpa using N)];exact h2 z (by rw[e,Oy (by omega)]) a m
 have R:lE (S (aI b)) none (some 2)=S (aI (b.take 2)):=by have:=Ee (aI b) 2;rw[iq]at this;exact this
 have U:lE (S (aI b)) (some 2) none=S (aI (b.drop 2)):=by have:=yr (aI b) 2;rw[gH]at this;exact this
 rw[R,U];refine⟨gj o,_,T.obs.uf,.inr (S (aI (b.take 2))),rfl,?_⟩;have g:∀ (x:UInt8) (k:Nat) (r:Bytes),b=48::x::r->(k=2\/k=8\/k=10\/k=16)->Ql16.wholeOf b=((Ql16.digitsOf k r).bind fun l=>Ql16.inRange (Ql16.number k l)) ->
  yd [V.str (S (aI (b.drop 2))),V.int (k:Int)] H (fun x a=>if decide (x=V.ba)=true then Q V.ba a else qU [x,V.int (k:Int)] a (fun x a=>∃ j,S (aI b)=S (aI j)/\∃ f,x=V.int f /\
   if decide ((if dP j=true then -f else f) < -9223372036854775807 - 1)=true then if True then Q V.ba a else Q (V.int (if dP j=true then -f else f)) a
   else if decide (9223372036854775807<if dP j=true then -f else f)=true then Q V.ba a else Q (V.int (if dP j=true then -f else f)) a) E0) E0:=by
  intro x k r i G q;have L:b.drop 2=r:=by rw[i];rfl
  have X:dP b=false:=by rw[i];rfl
  have W:r.length<=30000:=by rw[<-L,O6];omega
  rw[L];refine⟨r,k,rfl,G,W,fun c hc=>p c (by rw[i];simp[hc]),fun hn a m=>?_,fun C a m=>?_⟩
  .show if decide (V.ba=V.ba)=true then _ else _
   rw[Oy (by decide)];exact h1 (by rw[q,kU hn];rfl) a m
  .show if decide (V.str _=V.ba)=true then _ else _
   rw[Ox (by simp)];have Z:=ik r;refine⟨_,k,rfl,by omega,by omega,jJ C,b,rfl,_,rfl,?_⟩;simp only[X,RX,Ry];exact y _ a m (by rw[q,jH C,Pd])
 by_cases D:∃ r,b=48::120::r
 .obtain⟨r,i⟩:=D;have n:bR uX (.inr (S (aI (b.take 2))))=some (V.int 16):=by rw[i];rfl
  rw[n,Rx,Oy rfl];exact⟨gj o,_,T.obs.uf,.inr (S (aI (b.take 2))),rfl,_,n,gj o,g 120 16 r i (by simp) (by rw[i];rfl)⟩
 by_cases F:∃ r,b=48::111::r
 .obtain⟨r,i⟩:=F;have n:bR uX (.inr (S (aI (b.take 2))))=some (V.int 8):=by rw[i];rfl
  rw[n,Rx,Oy rfl];exact⟨gj o,_,T.obs.uf,.inr (S (aI (b.take 2))),rfl,_,n,gj o,g 111 8 r i (by simp) (by rw[i];rfl)⟩
 by_cases c3:∃ r,b=48::98::r
 .obtain⟨r,i⟩:=c3;have n:bR uX (.inr (S (aI (b.take 2))))=some (V.int 2):=by rw[i];rfl
  rw[n,Rx,Oy rfl];exact⟨gj o,_,T.obs.uf,.inr (S (aI (b.take 2))),rfl,_,n,gj o,g 98 2 r i (by simp) (by rw[i];rfl)⟩
 have I:∀ x:UInt8,(¬ ∃ r,b=48::x::r)->b.take 2≠[48,x]:=fun x hx z=>hx (by
  match b,z with
  | u::v::r,z=>simp at z;exact⟨r,by rw[z.1,z.2]⟩
  | [u],z=>simp at z
  | [],z=>simp at z)
 have n:bR uX (.inr (S (aI (b.take 2))))=none:=by have n1:¬ ("0x":Str)=S (aI (b.take 2)):=fun z=>I 120 D (ni.mp (nh.mp (z.symm.trans (show("0x":Str)=S (aI [48,120]) from rfl))));have n2:¬ ("0o":Str)=S (aI (b.take 2)):=fun z=>I 111 F (ni.mp (nh.mp (z.symm.trans (show("0o":Str)=S (aI [48,111]) from rfl))));have n3:¬ ("0b":Str)=S (aI (b.take 2)):=fun z=>I 98 c3 (ni.mp (nh.mp (z.symm.trans (show("0b":Str)=S (aI [48,98]) from rfl))));simp[uX,bR,Qo,n1,n2,n3]
 have q:Ql16.wholeOf b=if Ql16.proper (Ql16.signOf b).2=true then(Ql16.digitsOf 10 (Ql16.signOf b).2).bind fun l=>Ql16.inRange (if (Ql16.signOf b).1=true then -(Ql16.number 10 l:Int) else(Ql16.number 10 l:Int)) else none:=by
  unfold Ql16.wholeOf;split;.rename_i r;exact absurd ⟨r,rfl⟩ D
  .rename_i r;exact absurd ⟨r,rfl⟩ F
  .rename_i r;exact absurd ⟨r,rfl⟩ c3
  .rfl
 rw[n,Ox (by decide)];have sl:=qs b;have Z:=ik (Ql16.signOf b).2;refine⟨b,rfl,o,(Ql16.signOf b).2,rfl,by omega,fun c hc=>p c (v7 hc),fun hn a m=>?_,fun C Y a m=>?_⟩
 .show if decide (V.ba=V.ba)=true then _ else _
  rw[Oy (by decide)];refine h1 ?_ a m;rw[q];cases ha:(Ql16.partsOf (Ql16.signOf b).2).all (fH 10) with
  | false=>rw[kU ha];split<;>rfl
  | true=>rw[ha,Qj]at hn;rw[Ox (by rw[hn];decide)]
 .show if decide (V.str _=V.ba)=true then _ else _
  rw[Ox (by simp)];refine⟨_,10,rfl,by omega,by omega,jJ C,b,rfl,_,rfl,?_⟩;refine y _ a m ?_;rw[q,Oy Y,jH C,Pd,show(Ql16.signOf b).1=dP b by rw[gE]]
theorem Bu{n:Nat}(h:0<n):Builtin.Int.intBits (n:Int)=n.log2+1:=by unfold Builtin.Int.intBits;rw[Ox (by simp;omega),Rb]
theorem n0{n m:Nat}(h:n<2 ^ m):Builtin.Int.intBits (n:Int)<=m:=by
 unfold Builtin.Int.intBits;by_cases a:n=0;.subst a;exact O1 _
 .rw[Ox (by simp;omega),Rb];exact(RP a).mpr h
theorem NL{x y:Nat}(b:0<y)(h:x / y<2 ^ 60):Builtin.divisionGoesByPylong (x:Int) (y:Int)=false:=by
 have k:∀ u v:Nat,v<=u+150->(decide (u>300)&&decide (v>u+150))=false:=fun u v h=>by simp;omega
 unfold Builtin.divisionGoesByPylong;refine k _ _ ?_;show(if ((x:Int)==0)=true then 0 else(x:Int).natAbs.log2 / 30+1)<=(if ((y:Int)==0)=true then 0 else(y:Int).natAbs.log2 / 30+1)+150;rw[Ox (show ¬ ((y:Int)==0)=true by simp;omega),Rb,Rb];by_cases hx:x=0;.subst hx;simp
 rw[Ox (show ¬ ((x:Int)==0)=true by simp;omega)];have h1:x<2 ^ 60 * y:=(Nat.div_lt_iff_lt_mul b).mp h;have h2:y<2 ^ (y.log2+1):=Vf;have a:x<2 ^ (60+(y.log2+1)):=by rw[Pt];exact Tx h1 (Nat.mul_lt_mul_of_pos_left h2 (by decide))
 have c:=(RP hx).mpr a;omega
theorem Ie(c:0<b)(h:(a.log2:Int) - b.log2 - 53<=p):fL a p / eB b p<2 ^ 60:=by
 rcases RZ (fL a p / eB b p) (2 ^ 60) with q | q;.exact q
 .exfalso;rw[ge_iff_le,yE c,le_iff (x:=(-p).toNat) (y:=p.toNat) (by omega)]at q;have h1:=CS c;have h2:=Cn a;have d:2 ^ 60 * (2 ^ b.log2 * 2 ^ p.toNat)<=2 ^ 60 * (b * 2 ^ p.toNat):=Q2 _ (Pz _ h1);have e:a * 2 ^ (-p).toNat<2 ^ (a.log2+1) * 2 ^ (-p).toNat:=Q8 h2 (TU _);have f:2 ^ (60+(b.log2+p.toNat))<2 ^ (a.log2+1+(-p).toNat):=by
   rw[Pt,Pt,Pt _ (a.log2+1)];exact QR d (QR q e)
  have g:=(TJ (by decide)).mp f;omega
def IL:Nat:=130000
def wO:Sp:=fun vs H Q _=>∃ (a b:Nat) (p:Int),vs=[.int (a:Int),.int (b:Int),.int p]/\0<b/\a<2 ^ IL/\b<2 ^ IL/\-1100<=p/\p<=1000000/\fL a p / eB b p<2 ^ 60 /\ ∀ q,H q=none->Q (.ref q) (upd H q (.tup [.int ((fL a p / eB b p:Nat):Int),.int ((fL a p % eB b p:Nat):Int),.int (eB b p:Int)]))
theorem z8(a:Nat)(p:Nat):(a:Int) * 2 ^ p=((a * 2 ^ p:Nat):Int):=by simp
theorem oP:T.bu.fQ.Ok P w mg base 1 wO:=by
 refine T.bu.fQ.fi (fun vs H Q E h=>?_) (fun l A j s H vs Q E u h=>?_);.obtain⟨a,b,p,rfl,_⟩:=h;rfl
 obtain⟨a,b,p,rfl,m,g,i,v,x,d,h⟩:=h;refine⟨_,(af (aK (aC gV (pv 2) aw (aE _)) (ag (T.bu.fQ.set 0 (aS D7 (pv 0) (eK cR (pv 2))))) (ag (T.bu.fQ.set 1 (aS D7 (pv 1) (pv 2))))) (ag (ay (Ll (ae (aS HE (pv 0) (pv 1)) (ae (aS oZ (pv 0) (pv 1)) (ae (pv 1) ah))))))),?_⟩;walk_at "r6";have n:=n0 g;have o:=n0 i;have r:IL=130000:=rfl;have hd:=AO m p;have k:=NL hd d;by_cases c:p<0
 .rw[Oy (OO c)];refine⟨by omega,by omega,?_⟩;have e:(a:Int) * 2 ^ (-p).toNat=(fL a p:Int):=by unfold fL;rw[Oy c];exact z8 _ _
  have f:(b:Int)=(eB b p:Int):=by unfold eB;rw[Oy c]
  rw[e,f];refine⟨by omega,k,by omega,by decide,fun q d=>?_⟩;have:=h q d;simpa using this
 .rw[Ox (by simpa using c)];refine⟨by omega,by omega,?_⟩;have e:(a:Int)=(fL a p:Int):=by unfold fL;rw[Ox c]
  have f:(b:Int) * 2 ^ p.toNat=(eB b p:Int):=by unfold eB;rw[Ox c];exact z8 _ _
  rw[e,f];refine⟨by omega,k,by omega,by decide,fun q d=>?_⟩;have:=h q d;simpa using this
theorem Fy(a b:Nat):-1074<=bU a b/\(a.log2:Int) - b.log2 - 53<=bU a b/\bU a b<=max ((a.log2:Int) - b.log2 - 53) (-1074)+1:=by unfold bU;simp only;split<;>omega
def Gy:Sp:=fun vs H Q _=>∃ a b:Nat,vs=[.int (a:Int),.int (b:Int)]/\0<a/\0<b/\a<2 ^ IL/\b<2 ^ IL/\∀ c,aB H c->Q (.int (bU a b)) c
theorem oB:T.bu.ez.Ok P w mg base 2 Gy:=by
 refine T.bu.ez.fi (fun vs H Q E h=>?_) (fun m A l s H vs Q E r h=>?_);.obtain⟨a,b,rfl,_⟩:=h;rfl
 obtain⟨a,b,rfl,ha,k,d,f,h⟩:=h;refine⟨_,(af (T.bu.ez.set 2 (aT (FJ rfl) (by rfl) T.hJ.Mo boot_max (ae (aS gS (aS gS (xD (pv 0)) (xD (pv 1))) aw) (ae (eK cR T.bu.mD.e) ah))))
  (af (aK (aC KU (cT gu (T.bu.fQ.cl (oP T) r.zz (ae (pv 0) (ae (pv 1) (ae (pv 2) ah)))) aw (fun _ _=>rfl)) (aS Lj aw aw) (aE _)) (ag (ay (aS cE (pv 2) aw))) aD)
  (ag (ay (pv 2))))),?_⟩
 walk_at "r6";rw[Bu ha,Bu k];have v:=(RP (by omega)).mpr d;have x:=(RP (by omega)).mpr f;have u:IL=130000:=rfl;have n:(if (-1074:Int)>((a.log2+1:Nat):Int) - ((b.log2+1:Nat):Int) - 53 then(-1074:Int) else((a.log2+1:Nat):Int) - ((b.log2+1:Nat):Int) - 53)=max (((a.log2+1:Nat):Int) - ((b.log2+1:Nat):Int) - 53) (-1074):=by split<;>omega
 rw[n];obtain⟨c,i⟩:∃ c,c=max (((a.log2+1:Nat):Int) - ((b.log2+1:Nat):Int) - 53) (-1074):=⟨_,rfl⟩
 have j:bU a b=if 2 ^ 53<=fL a c / eB b c then c+1 else c:=by rw[i];rfl
 rw[<-i];refine⟨a,b,c,rfl,k,d,f,by omega,by omega,Ie k (by omega),fun q p=>⟨q,rfl,_,iJ.of ai,_,rfl,⟨by decide,by decide,by decide⟩,_,rfl,?_⟩⟩;have g:=h _ (aB.new (o:=.tup [.int ((fL a c / eB b c:Nat):Int),.int ((fL a c % eB b c:Nat):Int),.int (eB b c:Int)]) p);rw[j]at g;by_cases hc:2 ^ 53<=fL a c / eB b c;.rw[Oy hc]at g;rw[Oy (OO (by show(2:Int) ^ 53<=_;omega))];exact g
 .rw[Ox hc]at g;rw[Ox (by rw[O3 (by show ¬ (2:Int) ^ 53<=_;omega)];decide)];exact g
theorem Nb(u z N:Nat):((min (u+z) N:Nat):Int)=if (N:Int)<(u:Int)+z then(N:Int) else(u:Int)+z:=by split<;>omega
def BR:Sp:=fun vs H Q _=>∃ a b:Nat,vs=[.int (a:Int),.int (b:Int)]/\0<a/\0<b/\a<2 ^ IL/\b<2 ^ IL/\∀ c,aB H c->Q (.int (cZ a b:Int)) c
theorem iZ:T.bu.bQ.Ok P w mg base 3 BR:=by
 refine T.bu.bQ.fi (fun vs H Q E h=>?_) (fun l A k s H vs Q E j h=>?_);.obtain⟨a,b,rfl,_⟩:=h;rfl
 obtain⟨a,b,rfl,ha,i,d,f,h⟩:=h;refine⟨_,(af (T.bu.bQ.set 2 (T.bu.ez.cl (oB T) j.zz (ae (pv 0) (ae (pv 1) ah))))
  (af (T.bu.bQ.set 3 (T.bu.fQ.cl (oP T) j.zz (ae (pv 0) (ae (pv 1) (ae (pv 2) ah)))))
  (af (T.bu.bQ.set 4 (aS cE (aS IS (aS cE (pv 2) T.bu.mD.e) aw) (T.bu.cW.cl (mG T) j.zz (ae (pv 3) ah))))
  (ag (ay (aT (E6 rfl) (by rfl) T.hJ.Nf boot_min (ae (pv 4) (ae T.bu.pL.e ah)))))))),?_⟩
 walk_at "r6";have D:=(RP (by omega)).mpr d;have F:=(RP (by omega)).mpr f;have C:IL=130000:=rfl;obtain⟨x,p,B⟩:=Fy a b;refine⟨a,b,rfl,ha,i,d,f,fun v u=>?_⟩;refine⟨a,b,bU a b,rfl,i,d,f,by omega,by omega,Ie i p,fun q r=>?_⟩;refine⟨_,rfl,⟨by decide,by decide,by omega⟩,q,fL a (bU a b),eB b (bU a b),rfl,ai,_,rfl,?_⟩;have g:=h _ (fun c o z=>aB.new (o:=.tup [.int ((fL a (bU a b) / eB b (bU a b):Nat):Int),.int ((fL a (bU a b) % eB b (bU a b):Nat):Int),.int (eB b (bU a b):Int)]) r _ _ (u _ _ z));have e:(cZ a b:Int)=if 9218868437227405312<(bU a b+1074) * 2 ^ Int.toNat 52+(Ql16.nearest (fL a (bU a b)) (eB b (bU a b)):Int) then 9218868437227405312 else(bU a b+1074) * 2 ^ Int.toNat 52+(Ql16.nearest (fL a (bU a b)) (eB b (bU a b)):Int):=by
  have m:(((bU a b+1074).toNat:Nat):Int)=bU a b+1074:=by omega
  unfold cZ jK;generalize Ql16.nearest (fL a (bU a b)) (eB b (bU a b))=z;rw[<-m];generalize (bU a b+1074).toNat=y;have n:(y:Int) * 2 ^ Int.toNat 52=((y * 2 ^ 52:Nat):Int):=z8 _ _;rw[n];exact Nb _ _ _
 rw[<-e];exact g
theorem m7(n:Nat):10 ^ n<2 ^ (4 * n+1):=by
 induction n with
 | zero=>decide
 | succ n a=>
   have e:2 ^ (4 * (n+1)+1)=2 ^ (4 * n+1) * 16:=by rw[show 4 * (n+1)+1=(4 * n+1)+4 by omega,Pt]
   rw[RG,e];omega
theorem EC(b:p<=100000)(a:k<=100000):IntMulOk ((10 ^ p:Nat):Int) ((10 ^ k:Nat):Int):=Uv (n0 (m7 p)) (n0 (m7 k)) (by omega)
theorem l9:T.bu.bJ.Ok P w mg base 1 (fun vs H Q _=>∃ n:Nat,vs=[.int (n:Int)]/\n<32768/\Q (.int ((10 ^ n:Nat):Int)) H):=by
 refine T.bu.bJ.fi (fun vs H Q E h=>?_) (fun r A d s H vs Q E I h=>?_);.obtain⟨n,rfl,_⟩:=h;rfl
 obtain⟨n,rfl,hn,h⟩:=h;refine⟨_,(af (T.bu.bJ.set 1 aw)
  (af (T.bu.bJ.set 2 aw)
  (af (T.bu.bJ.set 3 (pv 0))
  (af (eG Qh (aC hW (pv 3) aw (aE _)) (af (aK (aC aV (aS oZ (pv 3) aw) aw (aE _)) (ag (T.bu.bJ.set 1 (aS yN (pv 1) (pv 2)))) aD)
  (af (T.bu.bJ.set 2 (aS yN (pv 2) (pv 2)))
  (ag (T.bu.bJ.set 3 (aS ui (pv 3) aw))))))
  (ag (ay (pv 1))))))),?_⟩
 walk_at "r6";refine⟨fun m o b=>b=H/\∃ p k:Nat,p+2 ^ k * m=n/\(0<m->2 ^ k<=n)/\o=[some (.int (n:Int)),some (.int ((10 ^ p:Nat):Int)),some (.int ((10 ^ 2 ^ k:Nat):Int)),some (.int (m:Int))],⟨n,rfl,0,0,by omega,fun z=>by omega,rfl⟩,?_⟩;rintro m o b ⟨rfl,p,k,e,y,rfl⟩;walk_at "r6";by_cases x:0<m
 .have c:2 ^ k<32768:=QR (y x) hn;have J:k<15:=(TJ (by decide:1<2)).mp (show 2 ^ k<2 ^ 15 from c);have L:p<=n:=by omega
  rw[Oy (OO (by omega))];have C:=EC (p:=p) (k:=2 ^ k) (by omega) (by omega);have l:=EC (p:=2 ^ k) (k:=2 ^ k) (by omega) (by omega);have g:Mp (m:Int) 2:=⟨by decide,by decide⟩
  have G:((10 ^ 2 ^ k:Nat):Int) * ((10 ^ 2 ^ k:Nat):Int)=((10 ^ 2 ^ (k+1):Nat):Int):=by rw[<-SE,<-Pt,RG,Nat.mul_two]
  have F:((10 ^ p:Nat):Int) * ((10 ^ 2 ^ k:Nat):Int)=((10 ^ (p+2 ^ k):Nat):Int):=by rw[<-SE,<-Pt]
  have u:(m:Int) / 2=((m / 2:Nat):Int):=by omega
  have v:2 ^ (k+1)=2 * 2 ^ k:=by rw[RG,UP]
  rw[G,F,u];have D:0<2 ^ k:=TU k;have j:0<m / 2->2 ^ (k+1)<=n:=fun z=>by have:2 ^ k * 2<=2 ^ k * m:=Q2 _ (by omega);omega
  refine⟨fun f q=>∃ a,a<m/\q=b/\∃ p k:Nat,p+2 ^ k * a=n/\(0<a->2 ^ k<=n)/\f=[some (.int (n:Int)),some (.int ((10 ^ p:Nat):Int)),some (.int ((10 ^ 2 ^ k:Nat):Int)),some (.int (a:Int))],fun _ _ z=>z,by decide,?_⟩;have i:2 ^ (k+1) * (m / 2)+2 ^ k * (m % 2)=2 ^ k * m:=by rw[v,UP 2 (2 ^ k),Tg,<-Nat.mul_add,Nat.div_add_mod]
  by_cases B:m % 2=1;.rw[Oy (OO (by omega))];refine⟨C,l,g,m / 2,by omega,rfl,p+2 ^ k,k+1,?_,j,rfl⟩;rw[B,Nat.mul_one]at i;omega
  .rw[Ox (by simp;omega)];refine⟨l,g,m / 2,by omega,rfl,p,k+1,?_,j,rfl⟩;rw[show m % 2=0 by omega,Nat.mul_zero]at i;omega
 .rw[Ox (by simp;omega)];have:m=0:=by omega
  subst this;have:p=n:=by simpa using e
  subst this;exact h
def wh:Sp:=fun vs H Q _=>∃ (d:Bytes) (k:Int),vs=[.str (S (aI d)),.int k]/\d.length<=30000/\(∀ c∈d,kE 10 c=true)/\∀ a,aB H a->Q (.int (xT (Ql16.number 10 (dg d)) ((dg d).dropWhile (·==0)).length k:Int)) a
theorem Ks(h:kE 10 c=true):∃ v,Ql16.hexValue c=some v/\v<10/\(v=0↔c.toNat=48):=by
 have:=dS (fun c=>!kE 10 c || (match Ql16.hexValue c with | some v=>decide (v<10/\(v=0↔c.toNat=48)) | none=>false)) (by decide +kernel) c;rw[h]at this;cases e:Ql16.hexValue c with
 | none=>rw[e]at this;simp at this
 | some v=>rw[e]at this;exact⟨v,rfl,by simpa using this⟩
theorem yg:∀ {d:Bytes},(∀ c∈d,kE 10 c=true)->((aI d).dropWhile (·==48)).length=((dg d).dropWhile (·==0)).length
 | [],_=>rfl
 | c::r,h=>by
   obtain⟨v,e,g,b⟩:=Ks (h c (by simp));have f:=yg (d:=r) fun x hx=>h x (OM _ hx);have a1:aI (c::r)=c.toNat::aI r:=rfl;have a2:dg (c::r)=v::dg r:=by simp[dg,e]
   rw[a1,a2];by_cases a:v=0;.rw[Pu (by simpa using b.mp a),Pu (by simpa using a)];exact f
   .rw[PF (by simpa using fun z=>a (b.mpr z)),PF (by simpa using a),OB,OB];simp[aI,dg]
theorem KW(h:∀ c∈d,kE 10 c=true):∀ x∈dg d,x<10:=fun x hx=>by obtain⟨c,hc,rfl⟩:=Qk.mp hx;obtain⟨v,a,b,_⟩:=Ks (h c hc);rw[a];exact b
theorem zm(h:x<10 ^ m)(a:m<=32000):x<2 ^ IL:=Tx h (Pb (m7 m) (PB (by decide) (by unfold IL;omega)))
theorem qt:T.bu.dW.Ok P w mg base 4 wh:=by
 refine T.bu.dW.fi (fun vs H Q E h=>?_) (fun p A j s H vs Q E b h=>?_);.obtain⟨d,k,rfl,_⟩:=h;rfl
 obtain⟨d,k,rfl,hd,a,h⟩:=h;refine⟨_,(af (T.bu.dW.set 2 (T.bu.dZ.cl (l3 T) b.zz (ae (pv 0) (ae aw ah))))
  (af (aK (aC aV (pv 2) aw (aE _)) (ag (ay aw)) aD)
  (af (T.bu.dW.set 3 (aS cE (aT hF (by rfl) T.hJ.dh O5 (ae (mU PySem.F.slot_str_lstrip PySem.F.type_str_lstrip Ds (pv 0) cP) ah)) (pv 1)))
  (af (aK (aC hW (pv 3) T.bu.tO.e (aE _)) (ag (ay T.bu.pL.e)) aD)
  (af (aK (aC gV (pv 3) (eK cR T.bu.uM.e) (aE _)) (ag (ay aw)) aD)
  (af (aK (aC gV (pv 1) aw (aE _)) (ag (ay (T.bu.bQ.cl (iZ T) b.zz (ae (pv 2) (ae (T.bu.bJ.cl (l9 T) b.zz (ae (eK cR (pv 1)) ah)) ah))))) aD)
  (ag (ay (T.bu.bQ.cl (iZ T) b.zz (ae (aS yN (pv 2) (T.bu.bJ.cl (l9 T) b.zz (ae (pv 1) ah))) (ae aw ah))))))))))),?_⟩
 walk_at "r6";refine⟨d,10,rfl,by omega,hd,a,?_⟩;have r:PySem.Txt.lstripChars (S (aI d)) (Str.ofString "0")=S ((aI d).dropWhile (·==48)):=Ii (aI d) 48;obtain⟨L,g⟩:∃ L,L=((dg d).dropWhile (·==0)).length:=⟨_,rfl⟩
 have u:L<=d.length:=by rw[g];refine O9 (Sb (QN _)) ?_;simp[dg]
 have q:(PySem.Txt.lstripChars (S (aI d)) (Str.ofString "0")).length=L:=by rw[r,eN,yg a,g]
 have o:=AR (KW a);rw[<-g]at o h;obtain⟨n,hn⟩:∃ n,n=Ql16.number 10 (dg d):=⟨_,rfl⟩
 rw[<-hn]at o h;rw[q,<-hn];unfold xT at h;refine⟨rfl,?_⟩;by_cases i:n=0;.subst i;rw[Oy (by decide)];rw[Oy rfl]at h;exact h H fun _ _ z=>z
 obtain⟨v,l,x⟩:=o i;rw[Ox i]at h;rw[Ox (by simp;omega)];refine⟨⟨_,rfl⟩,gj hd,cU (by omega),?_⟩;by_cases c:309<(L:Int)+k;.rw[Oy c]at h;rw[Oy (OO c)];exact h H fun _ _ z=>z
 rw[Ox c]at h;rw[Ox (by simpa using c)];by_cases f:(L:Int)+k < -324;.rw[Oy f]at h;rw[Oy (OO f)];exact h H fun _ _ z=>z
 rw[Ox f]at h;rw[Ox (by simpa using f)];by_cases c3:k<0;.rw[Oy c3]at h;rw[Oy (OO c3)];refine⟨(-k).toNat,by omega,by omega,n,10 ^ (-k).toNat,rfl,by omega,QD (by decide),zm l (by omega),?_,h⟩;exact zm (m:=(-k).toNat+1) (Nat.pow_lt_pow_right (by decide) (by omega)) (by omega)
 .rw[Ox c3]at h;rw[Ox (by simpa using c3)];refine⟨k.toNat,by omega,by omega,_,rfl,?_,n * 10 ^ k.toNat,1,?_,?_,by decide,?_,?_,h⟩;.exact Uv (n0 (Tx l (m7 L))) (n0 (m7 k.toNat)) (by omega)
  .rw[SE];rfl
  .exact T8 (by omega) (QD (by decide))
  .refine zm (m:=L+k.toNat) ?_ (by omega);rw[Pt];exact Q8 l (QD (by decide))
  .exact zm (m:=1) (by decide) (by decide)
open Ql16 (cutAt signOf digitsOf number proper doubleOf)
def xb(v:Bytes):Option Int:=(digitsOf 10 (signOf v).2).map fun l=>(if (signOf v).1=true then -(number 10 l:Int) else(number 10 l:Int))
def bitsOf(w f:List Nat)(e:Int):Nat:=
 if 0<=e - (f.length:Int) then(if number 10 (w++f)=0 then 0 else if 400<e - (f.length:Int) then Ql16.INF else doubleOf (number 10 (w++f) * 10 ^ (e - (f.length:Int)).toNat) 1)
 else(if -(e - (f.length:Int)) - ((w++f).length:Int)>400 then 0 else doubleOf (number 10 (w++f)) (10 ^ (-(e - (f.length:Int))).toNat))
def xW(p:Bytes)(b:Option Bytes)(a:Option Bytes):Option Nat:=
 if a=none/\b=none then none else if proper p=false then none
 else(digitsOf 10 p).bind fun w=>((match b with | some f=>digitsOf 10 f | none=>some [])).bind fun f=>((match a with | some t=>xb t | none=>some 0)).bind fun e=>some (bitsOf w f e)
def vX(u:Bytes):Option Nat:=if u=Ql16.txt "inf" then some Ql16.INF else if u=Ql16.txt "nan" then some Ql16.NAN else xW (cutAt (fun c=>c==46) (cutAt (fun c=>c==101 || c==69) u).1).1 (cutAt (fun c=>c==46) (cutAt (fun c=>c==101 || c==69) u).1).2 (cutAt (fun c=>c==101 || c==69) u).2
theorem JE(b:Bytes):Ql16.realOf b=(vX (signOf b).2).map fun n=>.real (n+if (signOf b).1=true then 2 ^ 63 else 0):=by
 unfold Ql16.realOf vX xW;simp only;generalize cutAt (fun c=>c==101 || c==69) (signOf b).2=x;generalize cutAt (fun c=>c==46) x.1=y;by_cases h1:(signOf b).2=Ql16.txt "inf";.rw[Oy h1,Oy h1];rfl
 rw[Ox h1,Ox h1];by_cases h2:(signOf b).2=Ql16.txt "nan";.rw[Oy h2,Oy h2];rfl
 rw[Ox h2,Ox h2];by_cases a:x.2=none/\y.2=none;.rw[Oy a,Oy a];rfl
 rw[Ox a,Ox a];by_cases d:proper y.1=false;.rw[Oy d,Oy d];rfl
 rw[Ox d,Ox d];unfold xb;rcases x with⟨g,_ | v⟩<;>rcases y with⟨e,_ | f⟩<;>dsimp only<;>cases digitsOf 10 e<;>(try cases digitsOf 10 f)<;>(try cases digitsOf 10 (signOf v).2)<;>rfl
theorem Hj(u:Bytes):(aI u).map (fun x=>if x=69 then 101 else x)=aI (u.map dB):=by unfold aI;rw[P4,P4];refine Qx fun c _=>?_;exact QH (dS (fun c=>(if c.toNat=69 then 101 else c.toNat)==(dB c).toNat) (by decide +kernel) c)
theorem D6{u:Bytes}(h:∀ c∈u,(c==101 || c==69)=false):u.map dB=u:=by
 conv=>rhs;rw[<-US u]
 refine Qx fun c hc=>?_;have:=h c hc;unfold dB;rw[Ox (by rintro rfl;simp at this)]
theorem Gs(v:Bytes):signOf (v.map dB)=((signOf v).1,(signOf v).2.map dB):=by
 rw[gE,gE];have k:∀ c:UInt8,(dB c==43)=(c==43)/\(dB c==45)=(c==45):=fun c=>by have:=dS (fun c=>((dB c==43)==(c==43))&&((dB c==45)==(c==45))) (by decide +kernel) c;simpa using this
 cases v with
 | nil=>rfl
 | cons c r=>obtain⟨e,f⟩:=k c;have a:((c::r).map dB).head?=some (dB c):=rfl;have b:(some (dB c)==some (43:UInt8))=(some c==some (43:UInt8)):=e;have d:(some (dB c)==some (45:UInt8))=(some c==some (45:UInt8)):=f;unfold dP;rw[a,b,d];show(_,_)=(_,_);congr 1;show(if (some c==some (43:UInt8) || some c==some (45:UInt8))=true then((c::r).map dB).drop 1 else(c::r).map dB)=(if (some c==some (43:UInt8) || some c==some (45:UInt8))=true then(c::r).drop 1 else c::r).map dB;split<;>rfl
theorem E4(v:Bytes):xb (v.map dB)=xb v:=by unfold xb;rw[Gs];simp only[By]
def AM:Sp:=fun vs H Q _=>∃ u:Bytes,vs=[.str (S (aI u))]/\u.length<=30000/\(∀ c∈u,c.toNat<128)/\(vX u=none->∀ a,aB H a->Q .ba a)/\∀ n,vX u=some n->∀ a,aB H a->Q (.int (n:Int)) a
abbrev N3:R2:=fun x y H Q=>∃ i j,x=.str i/\y=.str j/\i.length+j.length<=sizeLine/\Q (.str (i++j)) H
abbrev NW:List V->Hp->VK->Prop:=fun xs H Q=>∃ z,xs=[.str z]/\z.length<=sizeLine/\Q (.int z.length) H
abbrev G7:TS:=mu (rX (FC (tB (H0 (hU 3))) (FC (tB (H0 (hU 4))) (tB (H0 (hU 5))))) (rE (tC V.ba)) kX) (rE (kg wh [] E0 (gN (Cg N3 (hU 3) (hU 4)) (gN (Cg (yb fun i j=>V.int (i - j)) (hU 5) (Fl NW (gN (hU 4) kH))) kH))))
theorem rb{c:Bool}{A B:Prop}(h:c=true)(a:A):if c=true then A else B:=by rw[Oy h];exact a
theorem hI{c:Bool}{A B:Prop}(h:c=false)(b:B):if c=true then A else B:=by rw[Ox (by rw[h];decide)];exact b
theorem HV(a:σ[3]?=some (some d))(b:σ[4]?=some (some f))(c:σ[5]?=some (some e))(h:d=.ba\/f=.ba\/e=.ba)(q:D.rt .ba H):G7 D σ H:=by
 refine⟨d,a,_,rfl,?_⟩;by_cases h1:d=.ba;.exact rb (OO h1) q
 refine hI (O3 h1) ⟨f,b,_,rfl,?_⟩;by_cases h2:f=.ba;.exact rb (OO h2) q
 refine hI (O3 h2) ⟨e,c,_,rfl,?_⟩;have a:e=.ba:=by
  rcases h with h | h | h;.exact absurd h h1
  .exact absurd h h2
  .exact h
 exact rb (OO a) q
theorem JO(g:σ[3]?=some (some (.str (S (aI d)))))(a:σ[4]?=some (some (.str (S (aI f)))))(h:σ[5]?=some (some (.int e)))(hl:(d++f).length<=30000)(hd:∀ c∈d++f,kE 10 c=true)(q:∀ b,aB H b->D.rt (.int (xT (number 10 (dg (d++f))) ((dg (d++f)).dropWhile (·==0)).length (e - (f.length:Int)):Int)) b):
 G7 D σ H:=by
 rw[ON]at hl;refine⟨_,g,_,rfl,hI (by simp) ⟨_,a,_,rfl,hI (by simp) ⟨_,h,_,rfl,hI (by simp) ?_⟩⟩⟩;refine⟨_,g,_,a,_,_,rfl,rfl,by rw[eN,eN,bD,bD];exact cU hl,_,h,_,a,_,rfl,by rw[eN,bD];exact cU (by omega),_,_,rfl,rfl,?_⟩;refine⟨d++f,e - (f.length:Int),?_,by rw[ON];exact hl,hd,q⟩;rw[BE,<-mY,eN,bD];rfl
theorem zh{c A B:Prop}[Decidable c](h:c)(a:A):if c then A else B:=by rw[Oy h];exact a
theorem tR{c A B:Prop}[Decidable c](h:¬ c)(b:B):if c then A else B:=by rw[Ox h];exact b
theorem J3{b c:TT}{R U:TS}{D:Ends}{a:L2.St}{H:Hp}{b1 b2:Bool}(h1:∀ q:Bool->Hp->Prop,q b1 H->b a H q)(h2:∀ q:Bool->Hp->Prop,q b2 H->c a H q)(d:b1=true->b2=true->R { D with nx:=U D } a H)(hn:¬ (b1=true/\b2=true)->U D a H):mu (rX (tU b c) R kX) U D a H:=by
 refine h1 _ ?_;cases b1 with
 | true=>
   refine h2 _ ?_;cases b2 with
   | true=>exact rb rfl (d rfl rfl)
   | false=>exact hI rfl (hn (by simp))
 | false=>exact hI rfl (hn (by simp))
theorem En{T:TT}{A B:TE}{i:Nat}{U:TS}{D:Ends}{a:L2.St}{H:Hp}{b:Bool}(e:V->Hp->Prop)(h2:∀ v c,e v c->U D (a.set i (some v)) c)(h1:∀ q:Bool->Hp->Prop,q b H->T a H q)
 (f:b=true->(∀ v c,e v c->U D (a.set i (some v)) c)->A a H fun x d=>U D (a.set i (some x)) d) (hn:b=false->(∀ v c,e v c->U D (a.set i (some v)) c)->B a H fun x d=>U D (a.set i (some x)) d):mu (pG (GH T A B) (jd i)) U D a H:=by
 refine h1 _ ?_;cases b with
 | true=>exact rb rfl (f rfl h2)
 | false=>exact hI rfl (hn rfl h2)
theorem vj{d:TE}{i:Nat}{U:TS}{D:Ends}{b:L2.St}{H:Hp}(c:V->Hp->Prop)(h2:∀ v a,c v a->U D (b.set i (some v)) a)(h1:(∀ v a,c v a->U D (b.set i (some v)) a)->d b H fun x e=>U D (b.set i (some x)) e):mu (pG d (jd i)) U D b H:=h1 h2
def oU:Option Bytes->Option Bytes
 | none=>some []
 | some f=>if (Ql16.partsOf f).all (fH 10)=true then some (cb f) else none
def N5:Option Bytes->Option Int
 | none=>some 0
 | some t=>xb t
theorem I0(g:¬ (b=none/\a=none)):xW d a b=(if ((Ql16.partsOf d).all (fH 10)&&proper d)=true then some (cb d) else none).bind fun w=>(oU a).bind fun f=>(N5 b).bind fun e=>some (bitsOf (dg w) (dg f) e):=by
 unfold xW;rw[Ox g];clear g;have i:((match a with | some f=>digitsOf 10 f | none=>some []):Option (List Nat))=(oU a).map dg:=by
  cases a with
  | none=>rfl
  | some f=>
    show digitsOf 10 f=(if (Ql16.partsOf f).all (fH 10)=true then some (cb f) else none).map dg;cases c:(Ql16.partsOf f).all (fH 10) with
    | false=>rw[kU c];rfl
    | true=>rw[jH c];rfl
 have h:((match b with | some t=>xb t | none=>some 0):Option Int)=N5 b:=by cases b<;>rfl
 rw[i,h];cases j:proper d with
 | false=>rw[Oy rfl,Ox (by simp)];rfl
 | true=>
   rw[Ox (by decide)];cases c:(Ql16.partsOf d).all (fH 10) with
   | false=>rw[kU c];rfl
   | true=>rw[jH c];simp only[Bool.and_self,Qz,Pd];cases oU a<;>rfl
def F5:Option Bytes->V
 | none=>.ba
 | some d=>.str (S (aI d))
def K0:Option Int->V
 | none=>.ba
 | some d=>.int d
theorem J9(a:Bytes):∃ p e f,PySem.Txt.partition (S (aI a)) (Str.ofString ".")=(S (aI p),S e,S (aI f))/\((e=[]/\cutAt (fun c=>c==46) a=(p,none))\/(e=[46]/\cutAt (fun c=>c==46) a=(p,some f)))/\p.length+f.length<=a.length/\(∀ c∈p,c∈a)/\(∀ c∈f,c∈a):=by
 rcases sQ (fun c=>c==46) a with⟨g,i⟩ | ⟨u,c,v,rfl,ha,hc,g⟩;.refine⟨a,[],[],?_,.inl ⟨rfl,g⟩,by simp,fun _ h=>h,by simp⟩;refine rg (c:=46) fun z=>?_;obtain⟨x,hx,e⟩:=Qk.mp z;have b:x=46:=P6.mp e;have:=i x hx;rw[b]at this;cases this
 .have d:c=46:=by simpa using hc
  subst d;refine⟨u,[46],v,?_,.inr ⟨rfl,g⟩,by simp,fun _ h=>by simp[h],fun _ h=>by simp[h]⟩;refine sJ (c:=46) (by rw[mY];rfl) fun z=>?_;obtain⟨x,hx,e⟩:=Qk.mp z;have b:x=46:=P6.mp e;have:=ha x hx;rw[b]at this;cases this
theorem Mh(h:(c==101 || c==69)=true):dB c=101:=by rcases(by simpa using h:c=101\/c=69) with rfl | rfl<;>rfl
theorem G8(h:c.toNat<128):(dB c).toNat<128:=by
 unfold dB;split;.decide
 .exact h
theorem MP(u:Bytes)(d:∀ c∈u,c.toNat<128):∃ a e v,PySem.Txt.partition (S (aI (u.map dB))) (Str.ofString "e")=(S (aI a),S e,S (aI v))/\((e=[]/\cutAt (fun c=>c==101 || c==69) u=(a,none))\/(e=[101]/\∃ k,v=k.map dB/\cutAt (fun c=>c==101 || c==69) u=(a,some k)))/\a.length<=u.length/\v.length<=u.length/\(∀ c∈a,c.toNat<128)/\(∀ c∈v,c.toNat<128):=by
 have b:∀ {x:Bytes},(∀ c∈x,(c==101 || c==69)=false)->(101:Nat)∉aI x:=fun h z=>by obtain⟨y,j,e⟩:=Qk.mp z;have i:y=101:=P6.mp e;have:=h y j;rw[i]at this;cases this
 rcases sQ (fun c=>c==101 || c==69) u with⟨g,f⟩ | ⟨a,c,v,rfl,ha,hc,g⟩;.refine⟨u,[],[],?_,.inl ⟨rfl,g⟩,OE _,by simp,d,by simp⟩;rw[D6 f];exact rg (c:=101) (b f)
 .refine⟨a,[101],v.map dB,?_,.inr ⟨rfl,v,rfl,g⟩,by simp,by simp;omega,fun c h=>d c (by simp[h]),fun c h=>?_⟩;.refine sJ (c:=101) ?_ (b ha);rw[Qp,OP,Mh hc,D6 ha,mY];rfl
  .obtain⟨y,j,rfl⟩:=Qk.mp h;exact G8 (d y (by simp[j]))
theorem so:T.aA.cf.Ok P w mg base 5 AM:=by
 refine T.aA.cf.fi (fun vs H Q E h=>?_) (fun a8 A a6 s H vs Q E hr h=>?_);.obtain⟨d,rfl,_⟩:=h;rfl
 obtain⟨u,rfl,hu,a4,h1,h2⟩:=h;refine⟨_,(af (aK (aC aV (pv 0) cP (aE _)) (ag (ay T.bu.pL.e)) aD)
  (Hl (i:=0) rfl (Ql rfl) (ag (ay T.bu.MC.e))
  (GL (i:=1) T.aA.cf.s.nd rfl (Ql rfl) (L1 Ti Tj pV (BF (i:=0) rfl (Ql rfl) (by decide) (by decide)) cP)
  (af (T.aA.cf.set 2 (mU Ti Tj pV (cT gu (pv 1) aw (fun _ _=>rfl)) cP))
  (af (aK (PW.pt (pN (aC aV (cT gu (pv 2) aw (fun _ _=>rfl)) cP (aE _)) (lh (aC aV (cT gu (pv 1) aw (fun _ _=>rfl)) cP (aE _))))) (ag (ay eX)) aD)
  (af (T.aA.cf.set 3 (T.aA.dX.cl (ki T) hr.zz (ae (cT gu (pv 2) aw (fun _ _=>rfl)) ah)))
  (af (T.aA.cf.set 4 (pZ (aC aV (cT gu (pv 2) aw (fun _ _=>rfl)) cP (aE _)) cP (T.aA.bz.cl (fK T) hr.zz (ae (cT gu (pv 2) aw (fun _ _=>rfl)) (ae aw ah)))))
  (af (T.aA.cf.set 5 (pZ (aC aV (cT gu (pv 1) aw (fun _ _=>rfl)) cP (aE _)) aw (T.aA.iM.cl (vR T) hr.zz (ae (cT gu (pv 1) aw (fun _ _=>rfl)) ah))))
  (af (aK (PW.pt (fS (eV (l5 (pv 3))) (fS (eV (l5 (pv 4))) (fk (eV (l5 (pv 5))))))) (ag (ay eX)) aD)
  (ag (ay (T.bu.dW.cl (qt T) hr.zz (ae (aS pB (pv 3) (pv 4)) (ae (aS gS (pv 5) (aT hF (by rfl) T.hJ.dh O5 (ae (pv 4) ah))) ah)))))))))))))),?_⟩
 have J:∀ (x:Bytes) (z:Str),z=S (aI x)->(S (aI u)=z↔u=x):=fun x z e=>by rw[e,nh,ni]
 refine⟨_,rfl,rfl,_,rfl,?_⟩;by_cases hi:u=Ql16.txt "inf";.exact rb (OO (by rw[(J _ (Str.ofString "inf") rfl).mpr hi])) (h2 Ql16.INF (by unfold vX;rw[Oy hi]) H fun _ _ z=>z)
 refine hI (O3 fun z=>hi ((J _ (Str.ofString "inf") rfl).mp (V.str.inj z))) ⟨_,rfl,?_⟩;by_cases hn:u=Ql16.txt "nan";.exact zh ((J _ (Str.ofString "nan") rfl).mpr hn) (h2 Ql16.NAN (by unfold vX;rw[Ox hi,Oy hn]) H fun _ _ z=>z)
 refine tR (fun z=>hn ((J _ (Str.ofString "nan") rfl).mp z)) ?_;have er:PySem.Txt.replace (S (aI u)) (Str.ofString "E") (Str.ofString "e")=S (aI (u.map dB)):=by have:=Fq (aI u) 69 101;rw[Hj]at this;exact this
 have ul:(u.map dB).length=u.length:=O0 ..;obtain⟨a,e1,v,ep,hx,la,lv,aa,av⟩:=MP u a4;obtain⟨D,e2,f,a0,hy,lf,mp,mf⟩:=J9 a;refine vj (fun x H1=>∃ p,x=.ref p/\H1 p=some (.tup [V.str (S (aI a)),V.str (S e1),V.str (S (aI v))])/\aB H H1) ?_ fun k=>⟨_,rfl,by rw[eN,bD];omega,⟨_,rfl⟩,_,_,rfl,rfl,by decide,by rw[er];exact gj (by omega),fun p hp=>k _ _ ⟨p,rfl,by rw[er,ep];exact ai,aB.new hp⟩⟩
 rintro _ H1 ⟨p,rfl,t0,s0⟩;refine vj (fun x H2=>∃ G,x=.ref G/\H2 G=some (.tup [V.str (S (aI D)),V.str (S e2),V.str (S (aI f))])/\aB H1 H2) ?_ fun k=>⟨_,rfl,p,_,0,_,rfl,rfl,iJ.of t0,rfl,⟨_,rfl⟩,_,_,rfl,rfl,by decide,gj (by omega),fun G a5=>k _ _ ⟨G,rfl,by rw[a0];exact ai,aB.new a5⟩⟩
 rintro _ H2 ⟨G,rfl,t2,s2⟩;have t1:=s2 _ _ t0;have s3:aB H H2:=fun c o z=>s2 _ _ (s0 _ _ z);clear ep a0 er;obtain⟨I,B⟩:∃ I,I=(cutAt (fun c=>c==101 || c==69) u).2:=⟨_,rfl⟩
 obtain⟨C,n⟩:∃ C,C=(cutAt (fun c=>c==46) a).2:=⟨_,rfl⟩
 have eU:vX u=xW D C I:=by
  unfold vX;rw[Ox hi,Ox hn,B,n];have c1:(cutAt (fun c=>c==101 || c==69) u).1=a:=by rcases hx with⟨_,z⟩ | ⟨_,v0,_,z⟩<;>rw[z]
  have c2:(cutAt (fun c=>c==46) a).1=D:=by rcases hy with⟨_,z⟩ | ⟨_,z⟩<;>rw[z]
  rw[c1,c2]
 have d1:decide (V.str (S e1)=V.str (Str.ofString ""))=decide (I=none):=by
  rcases hx with⟨rfl,z⟩ | ⟨rfl,v0,_,z⟩;.exact(OO rfl).trans (OO (by rw[B,z])).symm
  .exact(O3 (by decide)).trans (O3 (by rw[B,z];simp)).symm
 have d2:decide (V.str (S e2)=V.str (Str.ofString ""))=decide (C=none):=by
  rcases hy with⟨rfl,z⟩ | ⟨rfl,z⟩;.exact(OO rfl).trans (OO (by rw[n,z])).symm
  .exact(O3 (by decide)).trans (O3 (by rw[n,z];simp)).symm
 refine J3 (b1:=decide (C=none)) (b2:=decide (I=none)) (fun q X=>⟨_,rfl,G,_,1,_,rfl,rfl,iJ.of t2,rfl,rfl,_,rfl,by rw[d2];exact X⟩) (fun q X=>⟨_,rfl,p,_,1,_,rfl,rfl,iJ.of t1,rfl,rfl,_,rfl,by rw[d1];exact X⟩) (fun z1 z2=>?_) (fun z=>?_);.exact h1 (by rw[eU];unfold xW;rw[Oy ⟨P9 z2,P9 z1⟩]) H2 s3
 have nb:¬ (I=none/\C=none):=fun y=>z ⟨OO y.2,OO y.1⟩;obtain⟨R,j⟩:∃ R,R=if ((Ql16.partsOf D).all (fH 10)&&proper D)=true then some (cb D) else none:=⟨_,rfl⟩
 obtain⟨U,g⟩:∃ U:Option Bytes,U=oU C:=⟨_,rfl⟩
 obtain⟨L,W⟩:∃ L:Option Int,L=N5 I:=⟨_,rfl⟩
 refine vj (fun x H3=>aB H2 H3/\x=F5 R) ?_ fun k=>⟨_,rfl,G,_,0,_,rfl,rfl,iJ.of t2,rfl,D,rfl,by omega,fun c hc=>aa c (mp c hc),fun m H3 Z=>k _ _ ⟨Z,by rw[j,Ox (by rw[m];decide)];rfl⟩,fun h3 h4 H3 Z=>k _ _ ⟨Z,by rw[j,Oy (by rw[h3,h4];rfl)];rfl⟩⟩
 rintro x H3 ⟨Z,rfl⟩;have a3:=Z _ _ t2;have a7:=Z _ _ t1;refine En (b:=decide (C=none)) (fun x H4=>aB H3 H4/\x=F5 U) ?_ (fun q X=>⟨_,rfl,G,_,1,_,rfl,rfl,iJ.of a3,rfl,rfl,_,rfl,by rw[d2];exact X⟩) (fun Y k=>k _ _ ⟨fun _ _ z=>z,by rw[g,P9 Y];rfl⟩) (fun Y k=>?_)
 rotate_left
 .have nz:=Ra Y;have ef:C=some f:=by
   rcases hy with⟨_,y⟩ | ⟨_,y⟩;.exact absurd (by rw[n,y]) nz
   .rw[n,y]
  exact⟨_,rfl,G,_,2,_,rfl,rfl,iJ.of a3,rfl,f,10,rfl,by simp,by omega,fun c hc=>aa c (mf c hc),fun m H4 s5=>k _ _ ⟨s5,by rw[g,ef,oU,Ox (by rw[m];decide)];rfl⟩,fun m H4 s5=>k _ _ ⟨s5,by rw[g,ef,oU,Oy m];rfl⟩⟩
 rintro x H4 ⟨s5,rfl⟩;have M:=s5 _ _ a7;refine En (b:=decide (I=none)) (fun x N=>aB H4 N/\x=K0 L) ?_ (fun q X=>⟨_,rfl,p,_,1,_,rfl,rfl,iJ.of M,rfl,rfl,_,rfl,by rw[d1];exact X⟩) (fun Y k=>k _ _ ⟨fun _ _ z=>z,by rw[W,P9 Y];rfl⟩) (fun Y k=>?_)
 rotate_left
 .have nz:=Ra Y;obtain⟨v0,ev,ee⟩:∃ v0,v=v0.map dB/\I=some v0:=by
   rcases hx with⟨_,y⟩ | ⟨_,v0,ev,y⟩;.exact absurd (by rw[B,y]) nz
   .exact⟨v0,ev,by rw[B,y]⟩
  have ex:L=xb v:=by rw[W,ee,ev,E4];rfl
  refine⟨_,rfl,p,_,2,_,rfl,rfl,iJ.of M,rfl,v,rfl,by omega,av,fun m N s6=>k _ _ ⟨s6,?_⟩,fun l m N s6=>k _ _ ⟨s6,?_⟩⟩;.rw[ex];unfold xb;rw[m];rfl
  .rw[ex];unfold xb;rw[m];rfl
 rintro x N ⟨s6,rfl⟩;have s7:aB H N:=fun c o z=>s6 _ _ (s5 _ _ (Z _ _ (s3 _ _ z)));have eP:vX u=R.bind fun w=>U.bind fun f=>L.bind fun e=>some (bitsOf (dg w) (dg f) e):=by rw[eU,I0 nb,j,g,W]
 have O:(F5 R=.ba\/F5 U=.ba\/K0 L=.ba)->vX u=none->G7 { nx:=fun x H'=>Q V.ba H',rt:=Q } (((([some (V.str (S (aI u))),some (.ref p),some (.ref G),none,none,none]:L2.St).set 3 (some (F5 R))).set 4 (some (F5 U))).set 5 (some (K0 L))) N:=fun m hu=>HV rfl rfl rfl m (h1 hu N s7);cases R with
 | none=>exact O (.inl rfl) eP
 | some d=>
 cases U with
 | none=>exact O (.inr (.inl rfl)) eP
 | some fr=>
 cases L with
 | none=>exact O (.inr (.inr rfl)) eP
 | some e=>
 have r:∀ c∈d++fr,kE 10 c=true:=?_;refine JO (d:=d) (f:=fr) (e:=e) rfl rfl rfl ?_ r (fun H' s8=>?_)
 rotate_left 2
 .intro c hc;rcases OH.mp hc with y | y
  .split at j;.rename_i m;cases j;exact jJ (SG.mp m).1 c y
   .cases j
  .cases C with
   | none=>simp only[oU,OC]at g;rw[g]at y;cases y
   | some f0=>
     simp only[oU]at g;split at g;.rename_i m;cases g;exact jJ m c y
     .cases g
 .have:=ik D;have ld:d.length<=D.length:=by
   split at j;.cases j;exact ik D
   .cases j
  have lr:fr.length<=f.length:=by
   rcases hy with⟨_,y⟩ | ⟨_,y⟩;.rw[n,y]at g;simp only[oU,OC]at g;rw[g];exact O1 _
   .rw[n,y]at g;simp only[oU]at g;split at g;.cases g;exact ik f
    .cases g
  rw[ON];omega
 .have ea:dg (d++fr)=dg d++dg fr:=by simp[dg]
  have el:(dg fr).length=fr.length:=by simp[dg]
  have ev:vX u=some (bitsOf (dg d) (dg fr) e):=eP;have dl:∀ x∈dg d++dg fr,x<10:=by rw[<-ea];exact KW r
  have en:bitsOf (dg d) (dg fr) e=xT (number 10 (dg (d++fr))) ((dg (d++fr)).dropWhile (·==0)).length (e - (fr.length:Int)):=by rw[ea,<-el];exact G5 (Sb (QN _)) (AR dl)
  rw[<-en];exact h2 _ ev H' fun c o z=>s8 _ _ (s7 _ _ z)
theorem MQ{b:Bytes}{i:Nat}{c:UInt8}(h:b[i]?=some c):AY (S (aI b)).cps.toList (i:Int)=some c.toNat:=by rw[dn];exact gW (by simp[aI,h])
theorem pM:T.days.gT.Ok P w mg base 1 (fun vs H Q _=>∃ b:Bytes,vs=[.str (S (aI b))]/\b.length<=30000/\(∀ c∈b,c.toNat<128)/\Q (.bl (gq b)) H):=by
 refine T.days.gT.fi (fun vs H Q E h=>?_) (fun C A o s H vs Q E M h=>?_);.obtain⟨d,rfl,_⟩:=h;rfl
 obtain⟨b,rfl,f,n,h⟩:=h;refine⟨_,(af (aK (PW.pt (fS (aC je (aT hF (by rfl) T.hJ.dh O5 (ae (pv 0) ah)) aw (aE _)) (fS (aC je (cT z7 (pv 0) aw (fun _ _=>rfl)) cP (aE _)) (fk (aC je (cT z7 (pv 0) aw (fun _ _=>rfl)) cP (aE _)))))) (ag (ay qw)) aD) (ag (ay (IM PySem.F.slot_str_isdigit PySem.F.type_str_isdigit Dj (aS pB (aS pB (cF jN (pv 0) (bN aw) (bN aw)) (cF jN (pv 0) (bN aw) (bN aw))) (cF jN (pv 0) (bN aw) (bN aw))))))),?_⟩;walk_at "r6";rw[eN,bD];unfold gq at h;refine⟨cU f,?_⟩;by_cases hl:b.length=10
 .rw[Ox (by simp;omega)];obtain⟨g,p⟩:∃ c,b[4]?=some c:=⟨_,O7 (by omega)⟩
  obtain⟨k,q⟩:∃ c,b[7]?=some c:=⟨_,O7 (by omega)⟩
  have a:∀ c:UInt8,((⟨#[c.toNat]⟩:Str)=Str.ofString "-")↔c=45:=fun c=>by rw[show(Str.ofString "-")=S [45] from rfl,show(⟨#[c.toNat]⟩:Str)=S [c.toNat] from rfl,nh];simp only[OT,P5];exact(P6 (b:=45))
  rw[p,q,OO hl,Qj]at h;refine⟨cU f,_,MQ p,?_⟩;by_cases l:g=45
  .rw[Ox (by simp[(a g).mpr l])];refine⟨cU f,_,MQ q,?_⟩;by_cases m:k=45
   .rw[Ox (by simp[(a k).mpr m])];have D:lE (S (aI b)) (some 0) (some 4)=S (aI (b.take 4)):=by
     have:=kS (aI b) (i:=0) (j:=4) (by rw[bD];omega) (by omega);rw[gH,iq]at this;exact this
    have G:lE (S (aI b)) (some 5) (some 7)=S (aI ((b.drop 5).take 2)):=by have:=kS (aI b) (i:=5) (j:=7) (by rw[bD];omega) (by omega);rw[gH,iq]at this;exact this
    have I:lE (S (aI b)) (some 8) (some 10)=S (aI ((b.drop 8).take 2)):=by have:=kS (aI b) (i:=8) (j:=10) (by rw[bD];omega) (by omega);rw[gH,iq]at this;exact this
    rw[D,G,I,BE,<-mY,BE,<-mY];have u:(b.take 4).length=4:=by rw[Pg];omega
    have v:((b.drop 5).take 2).length=2:=by rw[Pg,O6];omega
    have B:((b.drop 8).take 2).length=2:=by rw[Pg,O6];omega
    simp only[eN,bD,ON,u,v,B];refine⟨cU f,cU f,by decide,cU f,by decide,⟨_,rfl⟩,?_⟩;obtain⟨x,hx⟩:∃ x,x=b.take 4++(b.drop 5).take 2++(b.drop 8).take 2:=⟨_,rfl⟩
    rw[<-hx]at h |-;have J:∀ c∈aI x,c<128:=fun c hc=>by
     obtain⟨y,r,rfl⟩:=Qk.mp hc;rw[hx]at r;refine n y ?_;rcases OH.mp r with z | z
     .rcases OH.mp z with z | z;.exact SH z
      .exact SF (SH z)
     .exact SF (SH z)
    have L:x.length=8:=by rw[hx];simp only[ON,u,v,B]
    have e:PySem.Txt.isdigit (S (aI x))=x.all Ql16.digit:=by
     rw[EW J];have:(aI x).isEmpty=false:=by
      cases x with
      | nil=>simp at L
      | cons _ _=>rfl
     rw[this];simp only[Bool.not_false,Qj,aI,RV];congr 1;funext c;simp[Ql16.digit,Ql16.between]
    rw[e];simpa[l,m]using h
   .rw[Oy (by rw[O3 (fun z=>m ((a k).mp z))];rfl)];have:(some k==some (45:UInt8))=false:=by simpa using m
    rw[this]at h;simpa using h
  .rw[Oy (by rw[O3 (fun z=>l ((a g).mp z))];rfl),Oy OF];have:(some g==some (45:UInt8))=false:=by simpa using l
   rw[this]at h;simpa using h
 .rw[Oy (by simp;omega),Oy OF];rw[O3 hl]at h;simpa using h
theorem Js{lo:Int}{n:Nat}{q:TI}{g:TG}{o:TT}{l:TE}{f:L2.St}{vs:List Nat}{Q:VK}{H:Hp}(u:∀ R:It->Hp->Prop,R (Ku lo n) H->q f H R)(a:Addr->Nat->Hp->Prop)(r:∀ D,H D=none->a D 0 (upd H D (.lst [])))
 (hs:∀ D i H,i<n->a D i H->g (.int (lo+i)) (wipe f vs) H fun d e=>wipe d vs=wipe f vs/\o d e fun b j=>if b=true then l d j fun y k=>∃ c,k D=some (.lst c)/\c.length<sizeLine/\a D (i+1) (upd k D (.lst (c++[y]))) else a D (i+1) j)
 (hd:∀ D H,a D n H->Q (.ref D) H):Mc q g o l vs f H Q:=by
 refine u _ fun D s=>⟨fun i m H=>m=n - i/\i<=n/\a D i H,⟨_,rfl,O1 _,r D s⟩,?_⟩
 rintro i m H1 ⟨rfl,v,p⟩;rcases RZ i n with h | h;.refine .inr ⟨h,fun e=>a D (i+1) e,fun e z=>⟨n - (i+1),by omega,rfl,h,z⟩,?_⟩;rintro y e ⟨rfl,rfl⟩;exact hs D i _ h p
 .obtain rfl:i=n:=by omega
  exact .inl ⟨h,hd D H1 p⟩
theorem BV(f:Nat->Nat):∀ l:List Nat,(l.map fun j=>(f j:Int)).sum=((l.map f).sum:Nat)
 | []=>rfl
 | x::r=>by rw[OP,OP,QP,QP,BV f r];omega
theorem C8(h:b.all Ql16.digit=true)(h1:b≠[])(h2:b.length<=10):intText? (S (aI b))=some (qD b:Int):=by
 rw[Nh (fun c hc=>?_) (by simpa[aI]using h1) (by rw[bD];omega)];.unfold qD aI;rw[P4];rfl
 .obtain⟨x,hx,rfl⟩:=Qk.mp hc;obtain⟨_,a,b⟩:=qj (PK.mp h x hx);exact⟨a,b⟩
def LW:Sp:=fun vs H Q _=>∃ b:Bytes,vs=[.str (S (aI b))]/\b.length<=30000/\(∀ c∈b,c.toNat<128)/\(wR b=none->∀ a,aB H a->Q .ba a)/\(∀ z,wR b=some z->∀ a,aB H a->Q (.int z) a)
theorem xk:T.days.cY.Ok P w mg base 3 LW:=by
 refine T.days.cY.fi (fun vs H Q E h=>?_) (fun X A G s H vs Q E q h=>?_);.obtain⟨d,rfl,_⟩:=h;rfl
 obtain⟨b,rfl,p,r,h1,h2⟩:=h;refine⟨_,(af (aK (ie (bK (T.days.gT.cl (pM T) q.zz (ae (pv 0) ah)))) (ag (ay eX)) aD)
  (af (CK (i:=1) T.days.cY.s.nd rfl (UM rfl) (fJ lN (by rfl) T.hJ.Ia boot_int (ae (cF jN (pv 0) (bN aw) (bN aw)) ah)))
  (af (T.days.cY.set 2 (fJ lN (by rfl) T.hJ.Ia boot_int (ae (cF jN (pv 0) (bN aw) (bN aw)) ah)))
  (af (T.days.cY.set 3 (fJ lN (by rfl) T.hJ.Ia boot_int (ae (cF jN (pv 0) (bN aw) (bN aw)) ah)))
  (af (aK (PW.pt (fS (aC gV (pv 2) aw (aE _)) (fS (aC hW (pv 2) aw (aE _)) (fS (aC gV (pv 3) aw (aE _)) (fk (aC hW (pv 3) (T.days.gZ.cl (mm T) q.zz (ae (pv 1) (ae (pv 2) ah))) (aE _))))))) (ag (ay eX)) aD)
  (af (T.days.cY.set 4 (aT (Lp rfl) (by rfl) T.hJ.MJ boot_sum (ae (xS (own:=[("earlier",5)]) rfl T.days.cY.s.nd (FH rfl T.hJ.yB (ae aw (ae (pv 2) ah))) (by exact(show qo ["text","year","month","day","before","earlier"] (bf (top 93)) _ _ from⟨rfl,by decide +kernel,by decide +kernel,by decide +kernel,by decide +kernel⟩)) (fun _ _ _ _ _=>(cA (i:=5) T.days.cY.s.nd rfl (Ql rfl))) (fun _ _ _ _ _=>oh) (fun _ _ _ _ _=>(T.days.gZ.cl (mm T) q.zz (ae (pv 1) (ae (pv 5) ah))))) ah)))
  (ag (ay (aS gS (aS gS (aS cE (aS cE (T.days.eu.cl (oA T) q.zz (ae (pv 1) ah)) (pv 4)) (pv 3)) aw) T.days.vg.e))))))))),?_⟩
 walk_at "r6";refine⟨b,rfl,p,r,?_⟩;cases hf:gq b with
 | false=>rw[Oy (by decide)];exact h1 (by unfold wR;rw[Ox (by rw[hf];decide)]) H fun _ _ z=>z
 | true=>
 rw[Ox (by decide)];have g:=hf;unfold gq at g;simp only[O4,Pc,List.all_append]at g;obtain⟨⟨⟨hl,_⟩,_⟩,⟨a1,a2⟩,a3⟩:=g;have Z:lE (S (aI b)) (some 0) (some 4)=S (aI (b.take 4)):=by have:=kS (aI b) (i:=0) (j:=4) (by rw[bD];omega) (by omega);rw[gH,iq]at this;exact this
 have q2:lE (S (aI b)) (some 5) (some 7)=S (aI ((b.drop 5).take 2)):=by have:=kS (aI b) (i:=5) (j:=7) (by rw[bD];omega) (by omega);rw[gH,iq]at this;exact this
 have q3:lE (S (aI b)) (some 8) (some 10)=S (aI ((b.drop 8).take 2)):=by have:=kS (aI b) (i:=8) (j:=10) (by rw[bD];omega) (by omega);rw[gH,iq]at this;exact this
 have C:(b.take 4).length=4:=by rw[Pg];omega
 have U:((b.drop 5).take 2).length=2:=by rw[Pg,O6];omega
 have W:((b.drop 8).take 2).length=2:=by rw[Pg,O6];omega
 have F:∀ {x:Bytes} {k:Nat},x.length=k+1->x≠[]:=fun h z=>by rw[z]at h;simp at h
 rw[Z,q2,q3];simp only[eN,bD,C,U,W];obtain⟨y,B⟩:∃ y,y=qD (b.take 4):=⟨_,rfl⟩
 obtain⟨m,O⟩:∃ m,m=qD ((b.drop 5).take 2):=⟨_,rfl⟩
 obtain⟨d,hd⟩:∃ d,d=qD ((b.drop 8).take 2):=⟨_,rfl⟩
 have y9:y<=9999:=by
  have:y<10 ^ ((b.take 4).map fun c:UInt8=>c.toNat - 48).length:=by rw[B];refine xU fun x hx=>?_;obtain⟨c,hc,rfl⟩:=Qk.mp hx;exact(qj (PK.mp a1 c hc)).1
  rw[O0,C]at this;omega
 have N:wR b=if 1<=m/\m<=12/\1<=d/\d<=Ql16.monthDays y m then some (Ql16.daysBefore y+(((List.range (m - 1)).map fun j=>Ql16.monthDays y (j+1)).sum:Nat)+(d - 1:Nat) - 719528) else none:=by unfold wR;rw[Oy hf,B,O,hd]
 refine⟨cU p,(y:Int),by rw[B];exact C8 a1 (F C) (by omega),by decide,cU p,(m:Int),by rw[O];exact C8 a2 (F U) (by omega),by decide,cU p,(d:Int),by rw[hd];exact C8 a3 (F W) (by omega),by decide,?_⟩;have a:¬ (1<=m/\m<=12/\1<=d/\d<=Ql16.monthDays y m)->Q V.ba H:=fun z=>h1 (by rw[N,Ox z]) H fun _ _ z=>z;by_cases J:(m:Int)<1;.rw[Oy (OO J),Oy OF];exact a (by omega)
 rw[Ox (by simpa using J)];by_cases L:12<(m:Int);.rw[Oy (OO L),Oy OF];exact a (by omega)
 rw[Ox (by simpa using L)];by_cases c3:(d:Int)<1;.rw[Oy (OO c3),Oy OF];exact a (by omega)
 rw[Ox (by simpa using c3)];refine⟨y,m,rfl,by omega,by omega,_,rfl,?_⟩;by_cases M:(Ql16.monthDays y m:Int)<(d:Int);.rw[Oy (OO M)];exact a (by omega)
 rw[Ox (by simpa using M)];refine Js (lo:=1) (n:=m - 1) (fun R Y=>⟨_,rfl,1,(m:Int),rfl,⟨by decide,by decide,by omega,by omega⟩,by rw[show((m:Int) - 1).toNat=m - 1 by omega];exact Y⟩) (fun D i o=>aB H o/\H D=none/\o D=some (.lst (((List.range i).map fun j=>(Ql16.monthDays y (j+1):Int)).map V.int))) (fun D l=>⟨aB.new l,l,ai⟩) (fun D i o hi v=>?_) (fun D o v=>?_)
 .obtain⟨I,l,f⟩:=v;simp only[wipe,Dh];walk_at "r6";rw[Oy OF];refine⟨y,1+i,by simp,by omega,by omega,_,f,?_,fun z u h=>by rw[aq (aj h l)];exact I _ _ h,l,?_⟩;.rw[O0,O0,Tr];exact dR (by omega)
  .rw[ai,VB];simp[Nat.add_comm]
 .obtain⟨I,l,f⟩:=v;refine⟨D,rfl,_,bB.of f,y,rfl,y9,?_⟩;rw[BV fun j=>Ql16.monthDays y (j+1)];refine h2 _ ?_ o I;rw[N,Oy (by omega)];congr 1;omega
local macro_rules | `(tactic| walk_at "r7") => `(tactic| simp only [rE,nB,mu,kX,rX,mq,Cg,GX,hU,tC,tB,uB,nJ,oO,tU,FC,uv,GH,iR,gN,kH,jY,kg,iU,l8,iT,ml,tT,uF,hB,vN,Fl,pG,jd,vd,Ka,tQ,vL,GF,zW,gm,jr,zL,jz,Bv,yL,Fg,Ht,GQ,rI,yb,rU,wW,Fb,jB,B9,kc,ta,L2.start,tA,nS,Im,AG,Jw,
  OP,PX,OS,Pp,Pn,OB,Pa,List.replicate,Pj,Pk,OC,V.int.injEq,V.bl.injEq,V.str.injEq,V.ref.injEq,OT,HO.ins.injEq,Ci,LG,
  Ph,Px,Pq,QI,QB,Qw,PZ,P5,Q6,Nat.reduceAdd,Nat.reduceSub,Qe,Qg])
def lV(t:bZ):Sp:=fun vs H Q E=>∃ e p l c n d a k,vs=[.ref e,.ref p]/\H e=some (vO t l 6 (.ref c) n d)/\H c=some (.dT a)/\H p=some (.tup (bI k))/\a.length<sizeLine /\
 (bR a (kB k)=none->∀ y g f b,aB H b->H y=none->H f=none->f≠y->b y=some (vO t g 6 (.ref f) 1 .ba)->b f=some (.dT [])->Q (.ref y) (upd b c (.dT (a++[(kB k,.ref y)])))) /\
 (∀ v,bR a (kB k)=some v->∃ y g m i h j,v=.ref y/\H y=some (vO t g m i h j)/\∀ b,aB H b->if h=1 then Q (.ref y) b else E (.ref (t.c "CannotBe")) none b)
theorem lF:T.tables.di.Ok P w mg base 4 (lV t):=by
 refine T.tables.di.jO (fun vs H Q E h=>?_) (fun F A x s H vs Q E C h=>?_);.obtain⟨l,p,I,c,U,d,a,k,rfl,_⟩:=h;rfl
 obtain⟨l,p,I,c,U,d,a,k,rfl,b,hc,O,g,h1,h2⟩:=h;have R:=xC C;refine⟨_,(af (T.tables.di.set 2 (lS R (aM (pv 0) rfl) (pv 1) (T.kinds.bS.cl (cC T) C.zz (ae T.kinds.xJ.e ah)) ⟨rfl,rfl,rfl,rfl⟩))
  (af (aK (aC je (aM (pv 2) rfl) T.kinds.xJ.e (aE _)) (ag (bH aH rfl rfl T.aG.gv T.aG.gs)) aD)
  (ag (ay (pv 2))))),?_⟩
 walk_at "r7";refine⟨_,_,_,b,T.kinds.aR,T.kinds.aW,_,rfl,c,rfl,.inr ⟨a,.inl hc⟩,_,rfl,?_⟩;intro y J G B j D N n o f i;refine⟨a,j _ _ hc,kB k,by rw[B8];exact j _ _ O,g,fun v r=>?_,fun r=>?_⟩
 .obtain⟨X,L,kk,Y,W,Z,rfl,u,M⟩:=h2 v r;refine⟨X,rfl,_,_,_,j _ _ u,T.kinds.aR,T.kinds.bp,_,rfl,rfl,?_⟩;have q:=M B j;by_cases h:W=1;.subst h;refine jS rfl ?_;exact q
  .rw[Ox h]at q;refine sX (fun z=>h (V.int.inj z)) ?_;exact q
 .have m:y≠c:=(aj hc D).symm;refine⟨y,rfl,_,_,_,by rw[aq m];exact i,T.kinds.aR,T.kinds.bp,_,rfl,rfl,?_⟩;refine jS rfl ?_;exact h1 r y J G B j D n o i f
def fj(c:List Addr)(H b:Hp):Prop:=∀ a u,H a=some u->a∉c->b a=some u
def LR(H b:Hp):Prop:=∀ a u,H a=some u->(∀ c,u≠.dT c)->b a=some u
theorem iQ.get:∀ {b:List Bytes} {us:List V} {i:Nat} {k:Bytes},iQ H b us->b[i]?=some k->∃ p,us[i]?=some (.ref p)/\H p=some (.tup (bI k))
 | d::b,v::us,0,k,⟨⟨p,e,h⟩,_⟩,a=>by simp at a;subst a e;exact⟨p,rfl,h⟩
 | d::b,v::us,i+1,k,⟨_,c⟩,a=>by simp at a;obtain⟨p,h1,h2⟩:=iQ.get c a;exact⟨p,by simpa using h1,h2⟩
 | [],[],i,k,_,a=>by simp at a
 | [],_::_,i,k,h,_=>h.elim
 | _::_,[],i,k,h,_=>h.elim
theorem mT:dk x<=dk (pre++(k,Node.table h x)::post):=by rw[iK];simp only[dk,sz];omega
theorem Ap{a:List Bytes}{i:Nat}{k:Bytes}(h:a[i]?=some k):mO (a.drop i)=6 * k.length+9+mO (a.drop (i+1)):=by obtain⟨hl,e⟩:=OV.mp h;rw[PJ hl,e];rfl
theorem Rep.how(R:Rep t D H n v f):∀ h x,n=.table h x->h<=3:=fun h x e=>by subst e;exact(ip.mp R).1
theorem JW{us:List V}{v:V}(h:us[us.length - 1]?=some v):us=us.dropLast++[v]:=by
 have a:us≠[]:=by rintro rfl;simp at h
 have e:us.getLast a=v:=by have:=Tw (l:=us);rw[h,QY a]at this;exact OQ this
 rw[<-e];exact(SY a).symm
theorem zC{us:List V}{v:V}(h:us[us.length - 1]?=some v):AY us (-1)=some v:=by rw[JW h];exact qT _ _
def hG(H b:Hp):Prop:=∀ a u,H a=some u->∃ c,b a=some c
theorem hG.free(k:hG H H')(h:H' a=none):H a=none:=by
 cases e:H a with
 | none=>rfl
 | some u=>obtain⟨b,q⟩:=k a u e;rw[q]at h;cases h
theorem hG.same(k:hG H H')(s:aB H' b):hG H b:=fun a u h=>by obtain⟨c,q⟩:=k a u h;exact⟨c,s _ _ q⟩
theorem hG.upd(k:hG H H'):hG H (upd H' c o):=fun a u h=>by
 by_cases e:a=c;.subst e;exact⟨o,ai⟩
 .rw[aq e];exact k a u h
theorem fj.step(k:fj fp H H')(s:aB H' H1)(hc:c∈fp\/H c=none):fj fp H (L2.upd H1 c o):=fun a u h n=>by
 have ac:a≠c:=by
  rintro rfl;rcases hc with z | z;.exact n z
  .rw[z]at h;cases h
 rw[aq ac];exact s _ _ (k a u h n)
theorem LR.step(k:LR H H')(s:aB H' H1)(hc:H' c=some (.dT b)):LR H (L2.upd H1 c o):=fun a u h n=>by have q:=k a u h n;rw[aq (by rintro rfl;rw[hc]at q;cases q;exact n _ rfl)];exact s _ _ q
theorem EU{a b c:List Addr}(h:(a++c).Nodup)(f:b.Nodup)(h1:∀ x∈b,x∉a)(h2:∀ x∈b,x∉c):(a++b++c).Nodup:=by
 rw[OZ]at h |-;obtain⟨g,i,j⟩:=h;refine⟨?_,i,?_⟩;.rw[OZ];exact⟨g,f,fun x hx y d e=>h1 y d (e▸hx)⟩
 .intro x hx y d e;rcases OH.mp hx with hx | hx;.exact j x hx y d e
  .exact h2 x hx (e▸d)
theorem kO(f:Fr)(a:List Fr)(o:Option Entries):(o.map f.fill).map (dY a)=o.map (dY (f::a)):=by rw[Rl];rfl
def wF(t:bZ):Sp:=fun vs H Q E=>∃ x q v o e n g i h us,vs=[.ref x,.ref q,v]/\fT t D0 H o e x g/\gJ e/\H q=some (.lst us)/\iQ H h us/\h≠[]/\Rep t D0 H n v i/\okN n/\(g++i).Nodup /\
 dk e+sz n+mO h<sizeLine/\(Ql16.put n h e=none->∀ b,fj g H b->E (.ref (t.c "CannotBe")) none b) /\
 (∀ f,Ql16.put n h e=some f->∀ d b,fT t D0 b o f x d->d.Nodup->(∀ a∈d,a∈g\/a∈i\/H a=none)->fj g H b->LR H b->hG H b->Q .ba b)
theorem nA:T.tables.dJ.Ok P w mg base 5 (wF t):=by
 refine T.tables.dJ.jO (fun vs H Q E h=>?_) (fun c6 A c5 s H vs Q E hr h=>?_);.obtain⟨x,q,v,o,es,n,fp,U,j,us,rfl,_⟩:=h;rfl
 obtain⟨x,q,v,o,es,n,fp,U,j,us,rfl,hR,c1,hq,hK,Y,hv,hn,X,c2,h1,h2⟩:=h;have hu:=xC hr;have hl:=hK.len;have b1:0<j.length:=QL.mpr Y;have c4:fp.Nodup:=(OZ.mp X).1;refine⟨_,(af (T.tables.dJ.set 3 (pv 0))
  (af (ic PM rfl (jW (cF ow (pv 1) jm (bN (eK cR aw)))) (cA (i:=4) T.tables.dJ.s.nd rfl (Ql rfl)) (ag (T.tables.dJ.set 3 (T.tables.di.cX (lF T) hr.zz aH (ae (pv 3) (ae (pv 4) ah))))))
  (af (aK (eV (LO hu (cT ff (pv 1) (eK cR aw) (fun _ _=>rfl)) (aM (pv 3) rfl))) (ag (bH aH rfl rfl T.aG.gv T.aG.gs)) aD)
  (ag (Kd hu (aM (pv 3) rfl) (cT ff (pv 1) (eK cR aw) (fun _ _=>rfl)) (pv 2) rfl))))),?_⟩
 walk_at "r7";refine⟨_,rfl,_,rfl,_,rfl,q,us,rfl,bB.of hq,fun p hp=>⟨p,rfl,⟨_,bB.of ai⟩,?_⟩⟩;have ec:oz us none (some (-1))=us.dropLast:=rL (by rw[hl];exact b1);rw[ec];have sp:aB H (upd H p (.lst us.dropLast)):=aB.new hp;have b0:us.dropLast.length=j.length - 1:=by rw[Ri,hl]
 obtain⟨Pv,I⟩:∃ Pv:Nat->L2.St->Hp->Prop,Pv=(fun i σ F=>∃ (fs:List Fr) (B:Entries) (G dx c:Addr) (oc:Int) (g:List (List Key×V)) (m:List Addr) (lv:Option V),σ=[some (.ref x),some (.ref q),some v,some (.ref G),lv] /\ hH t F x o fs B G dx c oc g m/\Rep t D0 F n v U/\(m++U).Nodup/\Ql16.put n j es=(Ql16.put n (j.drop i) B).map (dY fs)/\dk B+sz n+mO (j.drop i)<sizeLine/\(∀ a∈m,a∈fp\/H a=none)/\fj fp H F/\LR (upd H p (.lst us.dropLast)) F/\hG H F):=⟨_,rfl⟩
 refine jG (xs:=us.dropLast) Pv ?_ ?_ ?_ ?_;.rw[I];obtain⟨dx,c,g,d⟩:=hH.start (fT.br (cO.of_same sp) hR) c4 c1;exact⟨[],es,x,dx,c,o,g,fp,none,rfl,d,Rep.br _ _ _ (cO.of_same sp) hv,X,by rw[Q4];cases Ql16.put n j es<;>rfl,by rw[Q4];exact c2,fun a ha=>.inl ha,fun a u h _=>sp a u h,fun a u h _=>h,fun a u h=>⟨u,sp a u h⟩⟩
 .intro i σ F _ pv;rw[I]at pv;obtain⟨fs,B,G,dx,c,oc,g,m,lv,rfl,d,J,M,e,a4,fm,kf,kn,kd⟩:=pv;exact bB.of (kn _ _ ai (by intro kv z;cases z))
 .intro i y σ F hy pv;rw[I]at pv;obtain⟨fs,B,G,dx,c,oc,g,m,lv,rfl,d,J,M,e,a4,fm,kf,kn,kd⟩:=pv;have hi:i<j.length - 1:=by rw[<-b0];exact(OV.mp hy).1
  obtain⟨k,hk⟩:∃ k,j[i]?=some k:=⟨_,O7 (by omega)⟩
  obtain⟨l,b9⟩:∃ l,j[i+1]?=some l:=⟨_,O7 (by omega)⟩
  have d0:j.drop i=k::j.drop (i+1):=by obtain⟨a,b⟩:=OV.mp hk;rw[PJ a,b]
  have d1:j.drop (i+1)=l::j.drop (i+2):=by obtain⟨a,b⟩:=OV.mp b9;rw[PJ a,b]
  have c7:=Ap hk;obtain⟨pk,a0,a3⟩:=hK.get hk;have ey:y=.ref pk:=by rw[Sd,Oy (by omega),a0]at hy;exact(OQ hy).symm
  subst ey;have C:=kn _ _ (sp _ _ a3) (by intro kv z;cases z);have c3:=d.len;have b6:c∈fp\/H c=none:=fm c d.uQ;have b7:c∉U:=fun z=>(OZ.mp M).2.2 c d.uQ c z rfl;walk_at "r7";refine⟨G,pk,dx,c,oc,.ba,g,k,rfl,d.here,d.dict,C,by omega,?_⟩;have lk:=d.look k;rw[d0,d1]at e;rcases HR (v:=n) (k:=k) (l:=l) (r:=j.drop (i+2)) d.ok with⟨a8,ep,a5⟩ | ⟨pre,post,x',he,a9,ep,a5⟩ | ⟨n',a9,c0,ep⟩
  .refine⟨fun _ y dy cy H1 D L W Y e1 e2=>?_,fun w hw=>absurd hw (by rw[lk.1 a8];simp)⟩;obtain⟨kv,A1⟩:=d.make (k:=k) (h:=2) a8 (by decide) D L W Y e1 e2;have fr:∀ a,F a=none->a∉m/\a∉U:=fun a ha=>⟨fun z=>(by obtain⟨o',O⟩:=d.there a z;rw[ha]at O;cases O),fun z=>(by obtain⟨o',O⟩:=Rep.there _ _ _ J a z;rw[ha]at O;cases O)⟩
   have st:cO D0 U F (upd H1 c (.dT (g++[(kB k,.ref y)]))):=by have a1:cO D0 U F H1:=cO.of_same D;have a2:cO D0 U H1 (upd H1 c (.dT (g++[(kB k,.ref y)]))):=cO.upd b7 (D _ _ d.dict) (by intro xs z;cases z);exact⟨fun a ha o' h=>a2.obj a ha _ (a1.obj a ha _ h),fun p xs h=>a2.tup _ _ (a1.tup _ _ h),eD⟩
   rw[I];refine⟨_,_,y,dy,cy,_,kv,_,_,rfl,A1,Rep.br _ _ _ st J,EU M (by simp[OL Y]) ?_ ?_,by rw[e,ep,kO,d1],?_,?_,kf.step D b6,kn.step D d.dict,(kd.same D).upd⟩
   .intro a ha;simp at ha;rcases ha with rfl | rfl
    .exact(fr _ L).1
    .exact(fr _ W).1
   .intro a ha;simp at ha;rcases ha with rfl | rfl
    .exact(fr _ L).2
    .exact(fr _ W).2
   .show 0+sz n+mO (j.drop (i+1))<sizeLine;omega
   .intro a ha;rcases OH.mp ha with ha | ha;.exact fm a ha
    .simp at ha;rcases ha with rfl | rfl;.exact .inr (kd.free L)
     .exact .inr (kd.free W)
  .obtain⟨y,dy,cy,kv,b4,A1⟩:=d.down he a5;refine⟨fun z=>absurd z (by rw[b4];simp),fun w hw=>?_⟩;rw[b4]at hw;cases hw;refine⟨y,dy,6,.ref cy,1,.ba,rfl,A1.here,fun H1 D=>?_⟩;rw[Oy rfl];have c8:dk x'<=dk B:=by rw[he];exact mT
   rw[I];exact⟨_,x',y,dy,cy,_,kv,m,_,rfl,A1.same D,Rep.br _ _ _ (cO.of_same D) J,M,by rw[e,ep,kO,d1],by omega,fm,fun a u h n=>D _ _ (kf a u h n),fun a u h n=>D _ _ (kn a u h n),kd.same D⟩
  .obtain⟨w',f,Z,R,_⟩:=lk.2 n' a9;refine⟨fun z=>absurd z (by rw[Z];simp),fun w hw=>?_⟩;rw[Z]at hw;cases hw;obtain⟨y,dy,cc,dd,ey,L,_⟩:=R.head;subst ey;refine⟨y,dy,_,cc,_,dd,rfl,L,fun H1 D=>?_⟩;rw[Ox (fun z=>by obtain⟨x',ex⟩:=zH R.how z;exact c0 x' ex)];exact⟨_,rfl,h1 (by rw[e,ep];rfl) H1 fun a u h n=>D _ _ (kf a u h n)⟩
 .intro σ F pv;rw[I]at pv;obtain⟨fs,B,G,dx,c,oc,g,m,lv,rfl,d,J,M,e,a4,fm,kf,kn,kd⟩:=pv;rw[b0]at e a4;obtain⟨k,hk⟩:∃ k,j[j.length - 1]?=some k:=⟨_,O7 (by omega)⟩
  have d0:j.drop (j.length - 1)=[k]:=by obtain⟨a,b⟩:=OV.mp hk;rw[PJ a,b,QO (by omega)]
  obtain⟨pk,a0,a3⟩:=hK.get hk;have C:=kn _ _ (sp _ _ a3) (by intro kv z;cases z);have b2:=kn _ _ (sp _ _ hq) (by intro kv z;cases z);have c3:=d.len;have lk:=d.look k;rw[d0,HM]at e;have a6:AY us (-1)=some (.ref pk):=zC (by rw[hl];exact a0);have a7:vT F c (.ref pk) (bR g (kB k)):=vT.t d.dict (by rw[B8];exact C);walk_at "r7";refine⟨us,bB.of b2,_,a6,_,_,_,d.here,T.kinds.aR,T.kinds.aW,_,rfl,c,rfl,_,a7,?_⟩;cases N:Ql16.look k B with
  | some n'=>obtain⟨w',f,Z,R,_⟩:=lk.2 n' N;rw[Z,Oy (by rfl)];rw[N,Ox (by simp)]at e;exact h1 e F kf
  | none=>
    have b3:=lk.1 N;rw[b3,Ox (by simp)];rw[N,Oy rfl]at e;have b5:(m++U).Nodup:=M;have A1:=d.add (k:=k) N J hn b5;refine⟨_,_,_,d.here,T.kinds.aR,T.kinds.aW,_,rfl,us,bB.of b2,_,a6,c,rfl,_,Cy.t d.dict (by rw[B8];exact C) (by omega),?_⟩;rw[Bn b3];obtain⟨b8,R1,pm⟩:=A1.close;refine h2 _ e b8 _ R1 (pm.nodup_iff.mpr b5) (fun a ha=>?_) (kf.step (fun _ _ h=>h) (fm c d.uQ)) (fun a u h X=>?_) kd.upd
    .rcases OH.mp (pm.mem_iff.mp ha) with z | z
     .rcases fm a z with z | z;.exact .inl z
      .exact .inr (.inr z)
     .exact .inr (.inl z)
    .exact kn.step (fun _ _ h=>h) d.dict a u (sp _ _ h) X
def oC(t:bZ):Sp:=fun vs H Q E=>∃ f p m c n d a k,vs=[.ref f,.ref p]/\H f=some (vO t m 6 (.ref c) n d)/\H c=some (.dT a)/\H p=some (.tup (bI k))/\a.length<sizeLine /\
 (bR a (kB k)=none->∀ y g e b,aB H b->H y=none->H e=none->e≠y->b y=some (vO t g 6 (.ref e) 2 .ba)->b e=some (.dT [])->Q (.ref y) (upd b c (.dT (a++[(kB k,.ref y)])))) /\
 (∀ v,bR a (kB k)=some v->∃ y g i h j l,v=.ref y/\H y=some (vO t g i h j l)/\∀ b,aB H b->if j=0 then E (.ref (t.c "CannotBe")) none b else if i=5 then ∃ e o z,h=.ref e/\H e=some (.lst (o++[z]))/\Q z b else Q (.ref y) b)
theorem oy:T.tables.eC.Ok P w mg base 4 (oC t):=by
 refine T.tables.eC.jO (fun vs H Q E h=>?_) (fun J A C s H vs Q E G h=>?_);.obtain⟨r,p,M,c,Z,d,i,k,rfl,_⟩:=h;rfl
 obtain⟨r,p,M,c,Z,d,i,k,rfl,j,hc,W,n,h1,h2⟩:=h;have X:=xC G;refine⟨_,(af (T.tables.eC.set 2 (lS X (aM (pv 0) rfl) (pv 1) (T.kinds.bS.cl (cC T) G.zz (ae T.kinds.lG.e ah)) ⟨rfl,rfl,rfl,rfl⟩))
  (af (aK (aC aV (aM (pv 2) rfl) T.kinds.ou.e (aE _)) (ag (bH aH rfl rfl T.aG.gv T.aG.gs)) aD)
  (af (aK (aC aV (aM (pv 2) rfl) T.kinds.mX.e (aE _)) (ag (ay (cT ff (aM (pv 2) rfl) (eK cR aw) (fun _ _=>rfl)))) aD)
  (ag (ay (pv 2)))))),?_⟩
 walk_at "r7";refine⟨_,_,_,j,T.kinds.aR,T.kinds.aW,_,rfl,c,rfl,.inr ⟨i,.inl hc⟩,_,rfl,?_⟩;intro y N L F b I U u x m g;refine⟨i,b _ _ hc,kB k,by rw[B8];exact b _ _ W,n,fun v B=>?_,fun B=>?_⟩
 .obtain⟨D,O,Y,cc,oo,dd,rfl,f,R⟩:=h2 v B;have q:=R F b;refine⟨D,rfl,_,_,_,b _ _ f,T.kinds.aR,T.kinds.bp,_,rfl,rfl,?_⟩;by_cases h:oo=0;.rw[Oy h]at q;rw[Oy (by simp[h])];exact q
  .rw[Ox h]at q;rw[Ox (by simp[h])];refine⟨D,rfl,_,_,_,b _ _ f,T.kinds.aR,T.kinds.bj,_,rfl,rfl,?_⟩;by_cases o:Y=5;.rw[Oy o]at q;obtain⟨a,v0,z,rfl,l,q⟩:=q;rw[Oy (by simp[o])];exact⟨D,rfl,_,_,_,b _ _ f,T.kinds.aR,T.kinds.aW,_,rfl,a,rfl,_,bB.of (b _ _ l),_,qT _ _,q⟩
   .rw[Ox o]at q;rw[Ox (by simp[o])];exact q
 .have a:y≠c:=(aj hc I).symm;refine⟨y,rfl,_,_,_,by rw[aq a];exact g,T.kinds.aR,T.kinds.bp,_,rfl,rfl,?_⟩;rw[Ox (by simp)];refine⟨y,rfl,_,_,_,by rw[aq a];exact g,T.kinds.aR,T.kinds.bj,_,rfl,rfl,?_⟩;rw[Ox (by simp)];exact h1 B y N L F b I u x g m
theorem F2(h1:∀ h x,n=.table h x->h=3)(h2:∀ l,n≠.rows l):(bV n).2=0:=by
 cases n with
 | table h x=>rw[h1 h x rfl];rfl
 | rows l=>exact absurd rfl (h2 l)
 | _=>rfl
theorem Rep.Kg(R:Rep t D H (.rows l) v f):l≠[]:=by obtain⟨x,b,d,c,vs,m,e,g,h,i,j,k,a⟩:=R;exact a
def mJ(t:bZ):Sp:=fun vs H Q E=>∃ x q o h i d us,vs=[.ref x,.ref q]/\fT t D0 H o h x i/\gJ h/\i.Nodup/\H q=some (.lst us)/\iQ H d us/\d≠[]/\dk h+mO d<sizeLine /\
 ((∀ f,Ql16.into f d.dropLast h=none)->∀ b,fj i H b->E (.ref (t.c "CannotBe")) none b) /\
 (∀ k e g m c n l j b,hH t b x o k e g m c n l j->(∀ f,Ql16.into f d.dropLast h=(f e).map (dY k))->way k=d.dropLast->dk e+mO (d.drop (d.length - 1))<sizeLine->(∀ a∈j,a∈i\/H a=none)->fj i H b->LR H b->hG H b->Q (.ref g) b)
theorem ng:T.tables.dH.Ok P w mg base 5 (mJ t):=by
 refine T.tables.dH.jO (fun vs H Q E h=>?_) (fun c3 A c1 s H vs Q E hr h=>?_);.obtain⟨x,q,o,es,fp,D,us,rfl,_⟩:=h;rfl
 obtain⟨x,q,o,es,fp,D,us,rfl,hR,b5,c0,hq,hK,Z,b9,h1,h2⟩:=h;have hl:=hK.len;have a9:0<D.length:=QL.mpr Z;refine⟨_,(af (T.tables.dH.set 2 (pv 0))
  (af (ic PM rfl (jW (cF ow (pv 1) jm (bN (eK cR aw)))) (cA (i:=3) T.tables.dH.s.nd rfl (Ql rfl)) (ag (T.tables.dH.set 2 (T.tables.eC.cX (oy T) hr.zz aH (ae (pv 2) (ae (pv 3) ah))))))
  (ag (ay (pv 2))))),?_⟩
 walk_at "r7";refine⟨_,rfl,_,rfl,_,rfl,q,us,rfl,bB.of hq,fun p hp=>⟨p,rfl,⟨_,bB.of ai⟩,?_⟩⟩;have ec:oz us none (some (-1))=us.dropLast:=rL (by rw[hl];exact a9);rw[ec];have sp:aB H (upd H p (.lst us.dropLast)):=aB.new hp;have a8:us.dropLast.length=D.length - 1:=by rw[Ri,hl]
 obtain⟨Pv,C⟩:∃ Pv:Nat->L2.St->Hp->Prop,Pv=(fun i σ N=>∃ (R:List Fr) (d:Entries) (B O c:Addr) (oc:Int) (j:List (List Key×V)) (g:List Addr) (lv:Option V),σ=[some (.ref x),some (.ref q),some (.ref B),lv] /\ hH t N x o R d B O c oc j g/\(∀ f,Ql16.into f D.dropLast es=(Ql16.into f (D.dropLast.drop i) d).map (dY R))/\way R=D.take i/\dk d+mO (D.drop i)<sizeLine/\(∀ a∈g,a∈fp\/H a=none)/\fj fp H N/\LR (upd H p (.lst us.dropLast)) N/\hG H N):=⟨_,rfl⟩
 refine jG (xs:=us.dropLast) Pv ?_ ?_ ?_ ?_;.rw[C];obtain⟨O,c,j,v⟩:=hH.start (fT.br (cO.of_same sp) hR) c0 b5;exact⟨[],es,x,O,c,o,j,fp,none,rfl,v,fun f=>by rw[Q4];cases Ql16.into f D.dropLast es<;>rfl,rfl,by rw[Q4];exact b9,fun a ha=>.inl ha,fun a u h _=>sp a u h,fun a u h _=>h,fun a u h=>⟨u,sp a u h⟩⟩
 .intro i σ N _ pv;rw[C]at pv;obtain⟨R,d,B,O,c,oc,j,g,lv,rfl,v,e,wy,M,Y,kf,W,U⟩:=pv;exact bB.of (W _ _ ai (by intro kv z;cases z))
 .intro i y σ N hy pv;rw[C]at pv;obtain⟨R,d,B,O,c,oc,j,g,lv,rfl,v,e,wy,M,Y,kf,W,U⟩:=pv;have hi:i<D.length - 1:=by rw[<-a8];exact(OV.mp hy).1
  obtain⟨k,hk⟩:∃ k,D[i]?=some k:=⟨_,O7 (by omega)⟩
  have d0:D.dropLast.drop i=k::D.dropLast.drop (i+1):=by
   have b3:D.dropLast[i]?=some k:=by rw[Sd,Oy hi];exact hk
   obtain⟨a,b⟩:=OV.mp b3;rw[PJ a,b]
  have a3:way R++[k]=D.take (i+1):=by rw[wy,PN,hk];rfl
  have c4:=Ap hk;obtain⟨pk,b6,b7⟩:=hK.get hk;have ey:y=.ref pk:=by rw[Sd,Oy (by omega),b6]at hy;exact(OQ hy).symm
  subst ey;have b0:=W _ _ (sp _ _ b7) (by intro kv z;cases z);have c5:=v.len;have b1:c∈fp\/H c=none:=Y c v.uQ;walk_at "r7";refine⟨B,pk,O,c,oc,.ba,j,k,rfl,v.here,v.dict,b0,by omega,?_⟩;have lk:=v.look k;rw[d0]at e;rcases E1 (k:=k) v.ok with⟨a7,X,J⟩ | ⟨pre,post,hw,x',he,L,h3,X,J⟩ | ⟨pre,post,l0,x',he,L,X,J⟩ | ⟨n',L,ht,b8,X⟩
  .refine⟨fun _ y dy cy H1 m G a5 Z e1 e2=>?_,fun w hw=>absurd hw (by rw[lk.1 a7];simp)⟩;obtain⟨kv,A1⟩:=v.make (k:=k) (h:=0) a7 (by decide) m G a5 Z e1 e2;rw[C];refine⟨_,_,y,dy,cy,_,kv,_,_,rfl,A1,fun f=>by rw[e,X,kO],a3,?_,?_,kf.step m b1,W.step m v.dict,(U.same m).upd⟩;.show 0+mO (D.drop (i+1))<sizeLine;omega
   .intro a ha;rcases OH.mp ha with ha | ha;.exact Y a ha
    .simp at ha;rcases ha with rfl | rfl;.exact .inr (U.free G)
     .exact .inr (U.free a5)
  .obtain⟨y,dy,cy,kv,I,A1⟩:=v.down he J;refine⟨fun z=>absurd z (by rw[I];simp),fun w hw=>?_⟩;rw[I]at hw;cases hw;refine⟨y,dy,6,.ref cy,_,.ba,rfl,A1.here,fun H1 m=>?_⟩;have ho:Ce hw≠0:=fun z=>by
    obtain⟨w',f,a0,F,_⟩:=lk.2 _ L;exact h3 (uh (F.how _ _ rfl) (by decide) (z.trans rfl))
   rw[Ox ho,Ox (by decide)];have c2:dk x'<=dk d:=by rw[he];exact mT
   rw[C];exact⟨_,x',y,dy,cy,_,kv,g,_,rfl,A1.same m,fun f=>by rw[e,X,kO],a3,by omega,Y,fun a u h n=>m _ _ (kf a u h n),fun a u h n=>m _ _ (W a u h n),U.same m⟩
  .obtain⟨y,b2,a4,v0,z,dz,cz,kv,I,G,a6,A1⟩:=v.HA he J;refine⟨fun z=>absurd z (by rw[I];simp),fun w hw=>?_⟩;rw[I]at hw;cases hw;refine⟨y,b2,5,.ref a4,3,.ba,rfl,G,fun H1 m=>?_⟩;rw[Ox (by decide),Oy rfl];refine⟨a4,v0,.ref z,rfl,a6,?_⟩;have c2:dk x'<=dk d:=by
    rw[he,iK];have:∀ l:List Entries,dk x'<=pO (l++[x']):=fun l=>by
     induction l with
     | nil=>simp[pO];omega
     | cons a r ih=>simp only[OS,pO];omega
    have:=this l0;simp only[dk,sz];omega
   rw[C];exact⟨_,x',z,dz,cz,_,kv,g,_,rfl,A1.same m,fun f=>by rw[e,X,kO],a3,by omega,Y,fun a u h n=>m _ _ (kf a u h n),fun a u h n=>m _ _ (W a u h n),U.same m⟩
  .obtain⟨w',f,a0,F,_⟩:=lk.2 n' L;refine⟨fun z=>absurd z (by rw[a0];simp),fun w hw=>?_⟩;rw[a0]at hw;cases hw;have b4:(bV n').2=0:=F2 ht fun l e=>by subst e;exact F.Kg (b8 l rfl)
   obtain⟨y,dy,cc,dd,ey,G,_⟩:=F.head;subst ey;refine⟨y,dy,_,cc,_,dd,rfl,G,fun H1 m=>?_⟩;rw[Oy b4];exact⟨_,rfl,h1 (fun f=>by rw[e,X];rfl) H1 fun a u h n=>m _ _ (kf a u h n)⟩
 .intro σ N pv;rw[C]at pv;obtain⟨R,d,B,O,c,oc,j,g,lv,rfl,v,e,wy,M,Y,kf,W,U⟩:=pv;rw[a8]at e M wy;walk_at "r7";refine h2 R d B O c oc j g N v (fun f=>?_) (by rw[wy,Um]) M Y kf (fun a u h hn=>W a u (sp _ _ h) hn) U;rw[e,QO (by rw[Ri];exact OE _)];rfl
local macro_rules | `(tactic| walk_at "r8") => `(tactic| simp only [rE,nB,mu,kX,rX,mq,Cg,GX,hU,tC,tB,uB,nJ,oO,tU,FC,uv,GH,iR,gN,kH,jY,kg,iU,l8,iT,ml,tT,uF,hB,vN,Fl,pG,jd,vd,Ka,tQ,vL,GF,zW,gm,jr,zL,jz,Bv,yL,Fg,Ht,GQ,rI,yb,rU,wW,Fb,jB,mJ,B9,kc,ta,L2.start,tA,nS,Im,AG,Jw,
  OP,PX,OS,Pp,Pn,OB,Pa,List.replicate,Pj,Pk,OC,V.int.injEq,V.bl.injEq,V.str.injEq,V.ref.injEq,OT,HO.ins.injEq,Ci,LG,
  Ph,Px,Pq,QI,QB,Qw,PZ,P5,Q6,Nat.reduceAdd,Nat.reduceSub,Qe,Qg])
def sj(t:bZ):Sp:=fun vs H Q E=>∃ x q o f h d us k,vs=[.ref x,.ref q]/\fT t D0 H o f x h/\gJ f/\h.Nodup/\H q=some (.lst us)/\iQ H d us/\d.getLast?=some k/\dk f+mO d<sizeLine /\
 (Ql16.into (Ql16.opened k) d.dropLast f=none->∀ b,fj h H b->E (.ref (t.c "CannotBe")) none b) /\
 (∀ j g e m c n l i b,hH t b x o j g e m c n l i->Ql16.into (Ql16.opened k) d.dropLast f=some (dY j g)->way j=d->(∀ a∈i,a∈h\/H a=none)->fj h H b->hG H b->Q (.ref e) b)
theorem BW{b:List Bytes}{k:Bytes}(h:b.getLast?=some k):b≠[]/\b[b.length - 1]?=some k/\b=b.dropLast++[k]:=by
 have a:b≠[]:=by rintro rfl;cases h
 refine⟨a,by rw[<-Tw];exact h,?_⟩;rw[QY a]at h;rw[<-OQ h];exact(SY a).symm
theorem rP:T.tables.eI.Ok P w mg base 6 (sj t):=by
 refine T.tables.eI.jO (fun vs H Q E h=>?_) (fun c0 A b9 s H vs Q E hr h=>?_);.obtain⟨x,q,o,es,Z,ks,us,k,rfl,_⟩:=h;rfl
 obtain⟨x,q,o,es,Z,ks,us,k,rfl,hR,b0,b8,hq,hK,a8,b4,h1,h2⟩:=h;obtain⟨a9,a6,a7⟩:=BW a8;have hu:=xC hr;have hl:=hK.len;refine⟨_,(af (T.tables.eI.set 2 (T.tables.dH.cX (ng T) hr.zz aH (ae (pv 0) (ae (pv 1) ah))))
  (af (T.tables.eI.set 3 (lS hu (aM (pv 2) rfl) (cT ff (pv 1) (eK cR aw) (fun _ _=>rfl)) (T.kinds.bS.cl (cC T) hr.zz (ae T.kinds.lG.e ah)) ⟨rfl,rfl,rfl,rfl⟩))
  (af (aK (aC je (aM (pv 3) rfl) T.kinds.lG.e (aE _)) (ag (bH aH rfl rfl T.aG.gv T.aG.gs)) aD)
  (af (dm (pv 3) T.kinds.iB.e rfl)
  (ag (ay (pv 3))))))),?_⟩
 walk_at "r8";refine⟨o,es,Z,hR,b0,b8,ks,us,hq,hK,a9,b4,fun hn H' O=>?_,fun fs c2 c1 dx c oc U F H1 i e wy c5 Y O kn N=>?_⟩;.exact⟨_,rfl,h1 (hn _) H' O⟩
 have b3:=kn _ _ hq (by intro R z;cases z);obtain⟨pk,b1,b2⟩:=hK.get a6;have M:=kn _ _ b2 (by intro R z;cases z);have a5:AY us (-1)=some (.ref pk):=zC (by rw[hl];exact b1);have c4:=i.len;have lk:=i.look k;have a0:c∈Z\/H c=none:=Y c i.uQ;have e1:=e (Ql16.opened k);have W:way fs++[k]=ks:=by rw[wy];exact a7.symm
 refine⟨_,_,_,i.here,T.kinds.aR,T.kinds.aW,_,rfl,c,rfl,.inr ⟨U,.inl i.dict⟩,us,bB.of b3,_,a5,_,rfl,?_⟩;intro y dy cy H2 j hy c3 G L I b7;refine⟨U,j _ _ i.dict,kB k,pk,rfl,by rw[B8];exact j _ _ M,by omega,fun v d=>?_,fun d=>?_⟩
 .rcases sV (k:=k) i.ok with⟨r,m,l⟩ | ⟨pre,post,x',he,b,m,l,D⟩ | ⟨n',b,J,m⟩;.rw[lk.1 r]at d;cases d
  .obtain⟨X,C,a3,R,b5,B⟩:=i.down he l;rw[b5]at d;cases d;have A2:=B.same j;refine⟨X,rfl,_,_,_,A2.here,T.kinds.aR,T.kinds.bp,_,rfl,rfl,?_⟩;refine jS rfl ?_;refine⟨X,rfl,_,_,_,A2.here,T.kinds.aR,T.kinds.bp,HB _ _ _ _,?_⟩;have A3:=A2.KP (h':=1) (by decide);refine h2 _ _ X C a3 _ R F _ A3 (by rw[e1,m];rfl) W Y ?_ ((N.same j).upd);exact O.step j (Y _ B.Ei)
  .obtain⟨w',f,g,p,_⟩:=lk.2 n' b;rw[g]at d;cases d;obtain⟨X,C,cc,dd,ey,b6,_⟩:=p.head;subst ey;refine⟨X,rfl,_,_,_,j _ _ b6,T.kinds.aR,T.kinds.bp,_,rfl,rfl,?_⟩;refine sX (fun z=>?_) (h1 (by rw[e1,m];rfl) H2 fun a u h n=>j _ _ (O a u h n));obtain⟨x',ex⟩:=Bi p.how (V.int.inj z);exact J x' ex
 .rcases sV (k:=k) i.ok with⟨r,m,l⟩ | ⟨pre,post,x',he,b,m,l,D⟩ | ⟨n',b,J,m⟩
  .obtain⟨R,B⟩:=i.make (k:=k) (h:=0) r (by decide) j hy G L b7 I;refine⟨y,rfl,_,_,_,B.here,T.kinds.aR,T.kinds.bp,_,rfl,rfl,?_⟩;refine jS rfl ?_;refine⟨y,rfl,_,_,_,B.here,T.kinds.aR,T.kinds.bp,HB _ _ _ _,?_⟩;have A3:=B.KP (h':=1) (by decide);have a4:∀ a∈F++[y,cy],a∈Z\/H a=none:=by
    intro a ha;rcases OH.mp ha with ha | ha;.exact Y a ha
    .simp at ha;rcases ha with rfl | rfl;.exact .inr (N.free hy)
     .exact .inr (N.free G)
   refine h2 _ _ y dy cy _ R _ _ A3 (by rw[e1,m];rfl) W a4 ?_ (hG.upd (hG.upd (N.same j)));exact fj.step (O.step j a0) (fun _ _ h=>h) (.inr (N.free hy))
  .obtain⟨w',f,g,_⟩:=lk.2 _ b;rw[g]at d;cases d
  .obtain⟨w',f,g,_⟩:=lk.2 _ b;rw[g]at d;cases d
def wG(t:bZ):Sp:=fun vs H Q E=>∃ x q o f h d us k,vs=[.ref x,.ref q]/\fT t D0 H o f x h/\gJ f/\h.Nodup/\H q=some (.lst us)/\iQ H d us/\d.getLast?=some k/\dk f+mO d<sizeLine /\
 (Ql16.into (Ql16.rowed k) d.dropLast f=none->∀ b,fj h H b->E (.ref (t.c "CannotBe")) none b) /\
 (∀ j g e m c n l i b,hH t b x o j g e m c n l i->Ql16.into (Ql16.rowed k) d.dropLast f=some (dY j g)->way j=d->(∀ a∈i,a∈h\/H a=none)->fj h H b->hG H b->Q (.ref e) b)
theorem wg:T.tables.eT.Ok P w mg base 6 (wG t):=by
 refine T.tables.eT.jO (fun vs H Q E h=>?_) (fun d7 A d6 s H vs Q E hr h=>?_);.obtain⟨x,q,o,es,fp,ks,us,k,rfl,_⟩:=h;rfl
 obtain⟨x,q,o,es,fp,ks,us,k,rfl,hR,c8,d5,hq,hK,c6,d3,h1,h2⟩:=h;obtain⟨c7,c4,c5⟩:=BW c6;have hu:=xC hr;have hl:=hK.len;refine⟨_,(af (T.tables.eT.set 2 (T.tables.dH.cX (ng T) hr.zz aH (ae (pv 0) (ae (pv 1) ah))))
  (af (T.tables.eT.set 3 (lS hu (aM (pv 2) rfl) (cT ff (pv 1) (eK cR aw) (fun _ _=>rfl)) (T.kinds.jq.cl (oQ T) hr.zz (ae T.kinds.iB.e ah)) ⟨rfl,rfl,rfl,rfl⟩))
  (af (aK (PW.pt (fS (aC je (aM (pv 3) rfl) T.kinds.mX.e (aE _)) (fk (aC je (aM (pv 3) rfl) T.kinds.iB.e (aE _))))) (ag (bH aH rfl rfl T.aG.gv T.aG.gs)) aD)
  (af (T.tables.eT.set 4 (T.kinds.bS.cl (cC T) hr.zz (ae T.kinds.iB.e ah)))
  (af (aN (df OJ OW OX bw (aM (pv 3) rfl) (ae (pv 4) ah)))
  (ag (ay (pv 4)))))))),?_⟩
 walk_at "r8";refine⟨o,es,fp,hR,c8,d5,ks,us,hq,hK,c7,d3,fun hn H' kf=>?_,fun fs c1 d8 dx c oc a7 a4 J m e wy e2 fm kf kn R=>?_⟩;.exact⟨_,rfl,h1 (hn _) H' kf⟩
 have d2:=kn _ _ hq (by intro kv z;cases z);obtain⟨pk,c9,d0⟩:=hK.get c4;have b2:=kn _ _ d0 (by intro kv z;cases z);have c2:AY us (-1)=some (.ref pk):=zC (by rw[hl];exact c9);have e0:=m.len;have lk:=m.look k;have b8:c∈fp\/H c=none:=fm c m.uQ;have e1:=e (Ql16.rowed k);have b6:way fs++[k]=ks:=by rw[wy];exact c5.symm
 refine⟨_,_,_,m.here,T.kinds.aR,T.kinds.aW,_,rfl,c,rfl,.inr ⟨a7,.inl m.dict⟩,us,bB.of d2,_,c2,_,rfl,?_⟩;intro y dy L H2 p hy d9 C Z Y O;have d:∀ a,J a=none->a∉a4:=fun a ha hm=>by obtain⟨o',b1⟩:=m.there a hm;rw[ha]at b1;cases b1
 refine⟨a7,p _ _ m.dict,kB k,pk,rfl,by rw[B8];exact p _ _ b2,by omega,fun v I=>?_,fun I=>?_⟩
 .rcases vA (k:=k) m.ok with⟨a5,W,M⟩ | ⟨pre,post,l,he,j,W,M⟩ | ⟨n',j,b0,W⟩;.rw[lk.1 a5]at I;cases I
  .obtain⟨w',f,g,G,a9⟩:=lk.2 _ j;rw[g]at I;cases I;obtain⟨y',c0,d',a8,b5,gf,rfl,q4,q5,q6,hd,q7,_⟩:=G;cases hd;refine⟨y',rfl,_,_,_,p _ _ q4,T.kinds.aR,T.kinds.bj,_,rfl,rfl,?_⟩;refine jS rfl ?_;refine⟨y',rfl,_,_,_,p _ _ q4,T.kinds.aR,T.kinds.bp,_,rfl,rfl,?_⟩;refine jS rfl ?_;refine⟨_,rfl,fun z dz r H3 s3 hz c3 N a0 D a6=>?_⟩;have i:aB J H3:=fun a u h=>s3 _ _ (p _ _ h);have A3:=m.same i;have lr:b5.length<=dk c1:=by
    have a1:=v9 q6;have a2:=zb l;rw[he,iK];simp only[dk,sz];omega
   refine⟨y',rfl,_,_,_,i _ _ q4,T.kinds.aR,T.kinds.aW,_,rfl,.inl ⟨rfl,_,bB.of (i _ _ q5)⟩,a8,rfl,b5,i _ _ q5,by omega,?_⟩;have zn:J z=none:=by
    cases hh:J z with
    | none=>rfl
    | some u=>rw[p _ _ hh]at hz;cases hz
   have B:J r=none:=by
    cases hh:J r with
    | none=>rfl
    | some u=>rw[p _ _ hh]at N;cases N
   have A4:=A3.row (z:=z) (dz:=dz) (cz:=r) he M g (i _ _ q4) (i _ _ q5) a6 D (d _ zn) (d _ B);have cm:a8∈a4:=a9 _ (by rw[q7];simp);refine h2 _ _ z dz r _ _ _ _ A4 (by rw[e1,W];rfl) b6 ?_ (kf.step i (fm _ cm)) ((R.same i).upd);intro a ha;rcases OH.mp ha with ha | ha;.exact fm a ha
   .simp at ha;rcases ha with rfl | rfl;.exact .inr (R.free zn)
    .exact .inr (R.free B)
  .obtain⟨w',f,g,G,_⟩:=lk.2 n' j;rw[g]at I;cases I;obtain⟨y',c0,cc,dd,ey,b3,_⟩:=G.head;subst ey;refine⟨y',rfl,_,_,_,p _ _ b3,T.kinds.aR,T.kinds.bj,_,rfl,rfl,?_⟩;have er:E (.ref (t.c "CannotBe")) none H2:=h1 (by rw[e1,W];rfl) H2 fun a u h n=>p _ _ (kf a u h n);by_cases h5:(bV n').1=5
   .rw[h5];refine jS rfl ?_;refine⟨y',rfl,_,_,_,p _ _ b3,T.kinds.aR,T.kinds.bp,_,rfl,rfl,?_⟩;refine sX (fun z=>?_) ?_;.obtain⟨l,ex⟩:=Ft h5 (V.int.inj z);exact b0 l ex
    .exact er
   .refine sX (fun z=>h5 (V.int.inj z)) ?_;rw[Oy trivial];exact er
 .rcases vA (k:=k) m.ok with⟨a5,W,M⟩ | ⟨pre,post,l,he,j,W,M⟩ | ⟨n',j,b0,W⟩
  .have yc:y≠c:=(aj m.dict hy).symm;refine⟨y,rfl,_,_,_,by rw[aq yc];exact O,T.kinds.aR,T.kinds.bj,_,rfl,rfl,?_⟩;refine jS rfl ?_;refine⟨y,rfl,_,_,_,by rw[aq yc];exact O,T.kinds.aR,T.kinds.bp,_,rfl,rfl,?_⟩;refine jS rfl ?_;refine⟨_,rfl,fun z dz r H3 s3 hz c3 N a0 D a6=>?_⟩;have up:∀ a u,J a=some u->a≠c->H3 a=some u:=fun a u h n=>s3 _ _ (by rw[aq n];exact p _ _ h);have a3:L≠c:=(aj m.dict C).symm;have b4:H3 y=some (vO t dy 5 (.ref L) 3 .ba):=s3 _ _ (by rw[aq yc];exact O);have X:H3 L=some (.lst []):=s3 _ _ (by rw[aq a3];exact Y);refine⟨y,rfl,_,_,_,b4,T.kinds.aR,T.kinds.aW,_,rfl,.inl ⟨rfl,_,bB.of X⟩,L,rfl,[],X,by decide,?_⟩;have nn:∀ a,upd H2 c (.dT (a7++[(kB k,.ref y)])) a=none->J a=none/\a≠y/\a≠L:=fun a ha=>by
    refine⟨?_,fun z=>?_,fun z=>?_⟩
    .cases hh:J a with
     | none=>rfl
     | some u=>
       by_cases z:a=c;.rw[z,ai]at ha;cases ha
       .rw[aq z,p _ _ hh]at ha;cases ha
    .rw[z,aq yc,O]at ha;cases ha
    .rw[z,aq a3,Y]at ha;cases ha
   obtain⟨zn,zy,b7⟩:=nn z hz;obtain⟨B,b9,U⟩:=nn r N;have d4:(a4++[z,r,y,L]).Nodup:=by
    rw[OZ];refine⟨m.nd,by simp[OL a0,zy,b7,b9,U,OL Z],fun a ha b hb e=>?_⟩;subst e;simp only[OA,Pf,Qs]at hb;rcases hb with rfl | rfl | rfl | rfl;.exact d _ zn ha
    .exact d _ B ha
    .exact d _ hy ha
    .exact d _ C ha
   have A4:=m.Mb (k:=k) (H':=upd H3 L (.lst ([]++[.ref z]))) (y:=y) (dy:=dy) (cy:=L) (z:=z) (dz:=dz) (cz:=r) a5 (fun a u h n=>by rw[aq (aj h C)];exact up a u h n) (by rw[aq (OL a3)];exact s3 _ _ ai) (by rw[aq (OL Z)];exact b4) ai (by rw[aq b7];exact a6) (by rw[aq U];exact D) d4;refine h2 _ _ z dz r _ _ _ _ A4 (by rw[e1,W];rfl) b6 ?_ ?_ (hG.upd (hG.same (hG.upd (R.same p)) s3))
   .intro a ha;rcases OH.mp ha with ha | ha;.exact fm a ha
    .simp at ha;rcases ha with rfl | rfl | rfl | rfl;.exact .inr (R.free zn)
     .exact .inr (R.free B)
     .exact .inr (R.free hy)
     .exact .inr (R.free C)
   .exact fj.step (kf.step p b8) s3 (.inr (R.free C))
  .obtain⟨w',f,g,_⟩:=lk.2 _ j;rw[g]at I;cases I
  .obtain⟨w',f,g,_⟩:=lk.2 _ j;rw[g]at I;cases I
def hO(t:bZ)(b:Addr)(v c a:V):HO:=.ins (t.c "Holder") b (hf v c a)
def ij(t:bZ)(H:Hp):List dG->List V->List Addr->Prop
 | [],vs,fp=>vs=[]/\fp=[]
 | .lst acc::st,vs,fp=>∃ hd e q x g c us d a b,vs=d++[.ref hd]/\H hd=some (hO t e (.ref x) (.int 93) (.ref q))/\H x=some (vO t g 5 (.ref c) 0 .ba)/\H c=some (.lst us)/\fq t D0 H acc us a/\ij t H st d b/\fp=hd::x::c::(a++b)
 | .tab acc ks::st,vs,fp=>∃ hd e q x f d a b,vs=d++[.ref hd]/\H hd=some (hO t e (.ref x) (.int 125) (.ref q))/\H q=some (.lst f)/\iQ H ks f/\fT t D0 H 0 acc x a/\ij t H st d b/\fp=hd::q::(a++b)
theorem ij.br:∀ {d:List dG} {vs:List V} {b:List Addr},cO D0 b H H'->ij t H d vs b->ij t H' d vs b
 | [],vs,b,s,h=>h
 | .lst acc::d,vs,b,s,⟨hd,dx,q,x,xd,c,us,v0,f1,f2,e,f,g,i,j,k,l⟩=>by subst l;exact⟨hd,dx,q,x,xd,c,us,v0,f1,f2,e,s.obj _ (by simp) _ f,s.obj _ (by simp) _ g,s.obj _ (by simp) _ i,fq.br _ _ _ (s.sub fun a ha=>by simp[ha]) j,ij.br (s.sub fun a ha=>by simp[ha]) k,rfl⟩
 | .tab acc ks::d,vs,b,s,⟨hd,dx,q,x,m,v0,f1,f2,e,f,g,i,j,k,l⟩=>by subst l;exact⟨hd,dx,q,x,m,v0,f1,f2,e,s.obj _ (by simp) _ f,s.obj _ (by simp) _ g,i.mono s.tup,fT.br (s.sub fun a ha=>by simp[ha]) j,ij.br (s.sub fun a ha=>by simp[ha]) k,rfl⟩
theorem ij.there:∀ {j:List dG} {vs:List V} {b:List Addr},ij t H j vs b->∀ a∈b,∃ o,H a=some o
 | [],vs,b,⟨_,e⟩=>fun a ha=>by rw[e]at ha;cases ha
 | .lst acc::j,vs,b,⟨hd,dx,q,x,xd,c,us,v0,f1,f2,l,d,f,k,g,h,i⟩=>fun a ha=>by
   subst i;simp only[OA,OH]at ha;rcases ha with rfl | rfl | rfl | ha | ha;.exact⟨_,d⟩
   .exact⟨_,f⟩
   .exact⟨_,k⟩
   .exact fq.there _ _ _ g a ha
   .exact ij.there h a ha
 | .tab acc ks::j,vs,b,⟨hd,dx,q,x,m,v0,f1,f2,l,d,f,k,g,h,i⟩=>fun a ha=>by
   subst i;simp only[OA,OH]at ha;rcases ha with rfl | rfl | ha | ha;.exact⟨_,d⟩
   .exact⟨_,f⟩
   .exact fT.there g a ha
   .exact ij.there h a ha
theorem ij.len:∀ {b:List dG} {vs:List V} {a:List Addr},ij t H b vs a->vs.length=b.length
 | [],vs,a,⟨e,_⟩=>by subst e;rfl
 | .lst acc::b,vs,a,⟨hd,dx,q,x,xd,c,us,v0,f1,f2,d,g,h,i,j,f,k⟩=>by subst d;simp[ij.len f]
 | .tab acc ks::b,vs,a,⟨hd,dx,q,x,l,v0,f1,f2,d,g,h,i,j,f,k⟩=>by subst d;simp[ij.len f]
def ir:List dG->Nat
 | []=>0
 | .lst acc::st=>3+pC acc+ir st
 | .tab acc ks::st=>3+dk acc+mO ks+ir st
def DB:List dG->Prop
 | []=>True
 | .lst acc::st=>GD acc/\DB st
 | .tab acc ks::st=>gJ acc/\ks≠[]/\DB st
theorem Bx(hn:okN n):∀ {l:List Node},GD l->GD (l++[n])
 | [],_=>⟨hn,OF⟩
 | _::_,h=>⟨h.1,Bx hn h.2⟩
theorem Az(n:Node):∀ (l:List Node),pC (l++[n])=pC l+sz n+1
 | []=>by simp[pC]
 | m::r=>by simp only[OS,pC,Az n r];omega
theorem ij.NT{H:Hp}{i:List dG}{j:List Node}{n:Node}{v:V}{hd l q x m c:Addr}{us k:List V}{b d e:List Addr}(u:H hd=some (hO t l (.ref x) (.int 93) (.ref q)))(y:H x=some (vO t m 5 (.ref c) 0 .ba))(A:H c=some (.lst us))
 (B:fq t D0 H j us b) (C:ij t H i k d) (E:Rep t D0 H n v e) (f:(hd::x::c::(b++d)++e).Nodup):
 ij t (upd H c (.lst (us++[v]))) (.lst (j++[n])::i) (k++[.ref hd]) (hd::x::c::((b++e)++d))/\(hd::x::c::((b++e)++d)).Perm (hd::x::c::(b++d)++e):=by
 have i:∀ g:List Addr,c∉g->cO D0 g H (upd H c (.lst (us++[v]))):=fun g D=>⟨fun a ha o h=>by rw[aq (by rintro rfl;exact D ha)];exact h,fun p xs h=>by rw[aq (by rintro rfl;rw[A]at h;cases h)];exact h,eD⟩
 simp only[OZ,OR,OH,OA,OS]at f;have r:c∉b:=fun z=>f.2.2.1 (.inl (.inl z));have s:c∉d:=fun z=>f.2.2.1 (.inl (.inr z));have c3:c∉e:=fun z=>f.2.2.1 (.inr z);have F:hd≠c:=fun z=>f.1 (by simp[z]);have G:x≠c:=fun z=>f.2.1 (by simp[z]);refine⟨⟨hd,l,q,x,m,c,us++[v],k,b++e,d,rfl,by rw[aq F];exact u,by rw[aq G];exact y,ai,xY (Rep.br _ _ _ (i _ c3) E) (fq.br _ _ _ (i _ r) B),C.br (i _ s),rfl⟩,?_⟩;exact Qy.mpr fun a=>by simp only[QG,QW,OS];omega
def fx(n:Node):dG->Option dG
 | .lst acc=>some (.lst (acc++[n]))
 | .tab acc ks=>(Ql16.put n ks acc).map fun a=>.tab a ks
def Cd(t:bZ):Sp:=fun vs H Q E=>∃ hd v j n i top h g,vs=[.ref hd,v]/\ij t H (top::h) (j++[.ref hd]) g/\Rep t D0 H n v i/\okN n/\DB (top::h)/\(g++i).Nodup/\ir (top::h)+sz n<sizeLine /\
 (fx n top=none->∀ d e,fj g H e->E (.ref (t.c "Malformed")) d e) /\
 (∀ b,fx n top=some b->∀ f e,ij t e (b::h) (j++[.ref hd]) f->f.Nodup->(∀ a∈f,a∈g\/a∈i\/H a=none)->fj g H e->hG H e->Q .ba e)
theorem qu{c d:List V}{a b:V}(h:c++[a]=d++[b]):c=d/\a=b:=by obtain⟨h1,h2⟩:=List.append_inj' h rfl;exact⟨h1,by simpa using h2⟩
theorem fj.weak(k:fj f H H')(h:∀ a∈f,a∈g):fj g H H':=fun a u b n=>k a u b fun z=>n (h a z)
theorem cO.Hq(k:fj f H H')(c:∀ p xs,H p=some (.tup xs)->H' p=some (.tup xs))(h:∀ a∈g,a∉f):cO D0 g H H':=⟨fun a ha o b=>k a o b (h a ha),c,eD⟩
theorem Ba:T.az.pj.Ok P w mg base 6 (Cd t):=by
 refine T.az.pj.jO (fun vs H Q E h=>?_) (fun a8 A a6 s H vs Q E hr h=>?_);.obtain⟨hd,v,v0,n,N,top,st,fp,rfl,_⟩:=h;rfl
 obtain⟨hd,v,v0,n,N,top,st,fp,rfl,hS,hv,hn,G,d,I,h1,h2⟩:=h;refine⟨_,(af (aK (aC aV (aM (aM (pv 0) rfl) rfl) T.kinds.mX.e (aE _)) (af (aN (df OJ OW OX bw (aM (aM (pv 0) rfl) rfl) (ae (pv 1) ah)))
  (ag JM)) aD)
  (ag (zN rfl rfl (by intro _ _ _ hE _;exact(ag (aN (T.tables.dJ.cX (nA T) hr.zz hE (ae (EF (pv 0) rfl) (ae (EF (pv 0) rfl) (ae (pv 1) ah))))))) (wt aH (fun _=>PassesOwnAt.leaving) rfl T.aG.gv T.aG.gs rfl T.aG.bF T.aG.bG (zJ aH rfl))))),?_⟩
 walk_at "r7";cases top with
 | lst acc=>
   obtain⟨Z,dx,q,x,xd,c,us,v1,C,D,U,f,k,m,B,M,i⟩:=hS;obtain⟨rfl,W⟩:=qu U;cases W;refine⟨_,_,_,f,T.az.bX,T.az.bT,_,rfl,x,rfl,_,_,_,k,T.kinds.aR,T.kinds.bj,_,rfl,rfl,?_⟩;rw[Oy (by decide)];have lu:=u9 B;have lz:=ud acc;have J:3+pC acc+ir st+sz n<sizeLine:=I;refine⟨_,_,_,f,T.az.bX,T.az.bT,_,rfl,x,rfl,_,_,_,k,T.kinds.aR,T.kinds.aW,_,rfl,.inl ⟨rfl,_,bB.of m⟩,c,rfl,us,m,by omega,?_⟩;rw[i]at d;obtain⟨S1,pm⟩:=ij.NT f k m B M hv d;refine h2 _ rfl _ _ S1 (pm.nodup_iff.mpr d) (fun a ha=>?_) (fun a u h hn=>?_) (hG.upd fun a u h=>⟨u,h⟩)
   .rw[pm.mem_iff,OH]at ha;rw[i];rcases ha with z | z;.exact .inl z
    .exact .inr (.inl z)
   .rw[aq (by rintro rfl;exact hn (by rw[i];simp))];exact h
 | tab acc ks=>
   obtain⟨Z,dx,q,x,O,v1,C,D,U,f,k,m,B,M,i⟩:=hS;obtain⟨rfl,W⟩:=qu U;cases W;obtain⟨a9,d',c',a7,b0,r1,r2,r3,r4,r5⟩:=id B;refine⟨_,_,_,f,T.az.bX,T.az.bT,_,rfl,x,rfl,_,_,_,r1,T.kinds.aR,T.kinds.bj,_,rfl,rfl,?_⟩;rw[Ox (by decide)];refine⟨_,_,_,f,T.az.bX,T.az.bT,_,rfl,_,_,_,f,T.az.bX,T.az.iy,_,rfl,?_⟩;have J:3+dk acc+mO ks+ir st+sz n<sizeLine:=I;rw[i]at d;have a5:(C++N).Nodup:=by simp only[OZ,OR,OH,OA,OS]at d |-;exact⟨d.2.2.1.1,d.2.2.2.1,fun a ha b Y=>d.2.2.2.2 a (.inl ha) b Y⟩
   refine⟨x,q,v,0,acc,n,C,N,ks,O,rfl,B,G.1,k,m,G.2.1,hv,hn,a5,by omega,fun hp R r=>?_,fun X hp g R R' a4 L r kn kd=>?_⟩
   .refine⟨_,rfl,?_⟩;show if t.c "CannotBe"=t.c "CannotBe" then _ else _
    rw[Oy rfl];exact⟨rfl,fun e=>h1 (by simp[fx,hp]) (some e) R (r.weak fun a ha=>by rw[i];simp[ha])⟩
   .simp only[OZ,OR,OH,OA,OS,PY]at d;obtain⟨⟨n1,⟨n2,a3⟩,n3⟩,⟨⟨n4,n5⟩,n6⟩,⟨n7,n8,n9⟩,b1,a0⟩:=d;have l:∀ y,(∃ o,H y=some o)->y∉C->y∉N->y∉g:=fun y ⟨o,ho⟩ a b z=>by
     rcases L y z with z | z | z;.exact a z
     .exact b z
     .rw[ho]at z;cases z
    have j:∀ a∈D,a∉C:=fun a ha z=>n9 a z a ha rfl;refine h2 (.tab X ks) (by simp[fx,hp]) (hd::q::(g++D)) R ⟨hd,dx,q,x,O,v0,g,D,rfl,r _ _ f n2,r _ _ k n4,m.mono (fun p xs h=>kn _ _ h (by intro O z;cases z)),R',M.br (cO.Hq r (fun p xs h=>kn _ _ h (by intro O z;cases z)) j),rfl⟩ ?_ ?_ ?_ ?_;.have o1:=l hd ⟨_,f⟩ n2 n3;have o2:=l q ⟨_,k⟩ n4 n6;have o3:∀ a∈D,a∉g:=fun a ha=>l a (M.there a ha) (j a ha) fun z=>a0 a (.inr ha) a z rfl;simp only[OZ,OR,OH,OA,PY];exact⟨⟨n1,o1,a3⟩,⟨o2,n5⟩,a4,n8,fun a ha b Y e=>o3 b Y (e▸ha)⟩
    .intro a ha;rw[i];simp only[OA,OH]at ha |-;rcases ha with z | z | z | z;.exact .inl (.inl z)
     .exact .inl (.inr (.inl z))
     .rcases L a z with z | z | z;.exact .inl (.inr (.inr (.inl z)))
      .exact .inr (.inl z)
      .exact .inr (.inr z)
     .exact .inl (.inr (.inr (.inr z)))
    .exact r.weak fun a ha=>by rw[i];simp[ha]
    .exact kd
theorem HP:hO t dx v c q≠.ins C a (sf r i):=fun z=>by simp only[hO,HO.ins.injEq,hf,sf,OT,OG]at z;exact absurd z.2.2.1.1 (by decide)
theorem Ij:vO t dx k c o d≠.ins C a (sf r i):=fun z=>by simp only[vO,HO.ins.injEq,vf,sf,OT,OG]at z;exact absurd z.2.2.1.1 (by decide)
def vM(K:PySem.W.Frag)(t:bZ):Sp:=fun vs H Q E=>∃ a r b i hd l x k q o f m n d,vs=[.ref a,.ref hd]/\aQ K t H a r b i/\H hd=some (hO t l (.ref x) k (.ref q))/\H x=some (vO t o f m n d) /\
 (f≠6->∀ j e,i<=j->b.drop j=Ql16.skip (b.drop i)->aQ K t e a r b j->fj [a,hd] H e->hG H e->e hd=H hd->Q .ba e) /\
 (f=6->(∀ g s,Ql16.keys Ql16.PARTS (b.drop i)≠some (g,61::s))->∀ e,fj [a,hd] H e->E (.ref (t.c "Malformed")) none e) /\
 (f=6->∀ g s,Ql16.keys Ql16.PARTS (b.drop i)=some (g,61::s)->∀ j h us e,b.drop j=Ql16.skip s->aQ K t e a r b j->fj [a,hd] H e->hG H e->e hd=some (hO t l (.ref x) k (.ref h))->e h=some (.lst us)->iQ e g us->H h=none->Q .ba e)
theorem fj.fB(k:Kp a H H')(h:a∈g):fj g H H':=fun c u b n=>k c u b (by rintro rfl;exact n h)
theorem fj.trans(a:fj f H H1)(b:fj f H1 d):fj f H d:=fun c u h n=>b c u (a c u h n) n
theorem hG.fB{a r:Addr}{b:Bytes}{i j:Nat}{H d:Hp}(k:Kp a H d)(S:aQ K t d a r b j):hG H d:=fun c u h=>by
 by_cases z:c=a;.obtain⟨f,e⟩:=S.at_;exact⟨_,by rw[z];exact e⟩
 .exact⟨u,k c u h z⟩
theorem hG.trans(a:hG H H1)(b:hG H1 d):hG H d:=fun c u h=>by obtain⟨e,h1⟩:=a c u h;exact b c e h1
theorem nV:T.az.iG.Ok P w mg base 9 (vM K t):=by
 refine T.az.iG.jO (fun vs H Q E h=>?_) (fun a5 A a3 s H vs Q E Z h=>?_);.obtain⟨a,r,b,i,hd,F,x,J,q,xd,kk,cc,oo,d,rfl,_⟩:=h;rfl
 obtain⟨a,r,b,i,hd,F,x,J,q,xd,kk,cc,oo,d,rfl,S,I,hx,h1,h2,h3⟩:=h;obtain⟨sx,ha⟩:=S.at_;have f:hd≠a:=cH I ha HP;have a4:x≠a:=cH hx ha Ij;refine⟨_,(af (aK (aC aV (aM (aM (pv 1) rfl) rfl) T.kinds.qK.e (aE _)) (af (dm (pv 1) (T.aF.ft.cX (jo T) Z.zz aH (ae (pv 0) ah)) rfl)
  (ag (aN (cp (pv 0) T.scan.aP T.scan.bc.m (dA T) Z.zz T.scan.bc.b aH (ae T.signs.Bj.e ah))))) aD)
  (ag (aN (bL (pv 0) T.scan.aP T.scan.aJ.m (bb T) Z.zz T.scan.aJ.b .nil bg)))),?_⟩
 walk_at "r7";refine⟨_,_,_,I,T.az.bX,T.az.bT,_,rfl,x,rfl,_,_,_,hx,T.kinds.aR,T.kinds.bj,_,rfl,rfl,?_⟩;by_cases G:kk=6
 .rw[Oy (by simp[G])];refine⟨r,b,i,S,fun hn H' k'=>⟨_,rfl,h2 G (fun ks s z=>by rw[hn]at z;cases z) H' (fj.fB k' (by simp))⟩,fun ks rest hk j D v o g B nk=>?_⟩;obtain⟨C,us,rfl,Y,y,hK⟩:=nk;have l:=B _ _ I f;have qh:C≠hd:=(aj I y).symm;have qa:C≠a:=(aj ha y).symm;refine⟨_,F,_,l,T.az.bX,T.az.iy,Ma _ _ _,?_⟩;rw[L0];have S2:aQ K t (upd D hd (hO t F (.ref x) J (.ref C))) a r b j:=by
   obtain⟨N,k⟩:=g.at_;refine⟨⟨N,by rw[aq f.symm];exact k⟩,?_,g.le,g.z9⟩;exact Ja Kp.upd l g.row
  obtain⟨N,k⟩:=g.at_;have M:fj [a,hd] H (upd D hd (hO t F (.ref x) J (.ref C))):=fun c u h n=>by rw[aq (by rintro rfl;exact n (by simp))];exact B c u h (by rintro rfl;exact n (by simp))
  have a0:hG H (upd D hd (hO t F (.ref x) J (.ref C))):=(hG.fB (i:=i) B g).upd;refine⟨_,_,by rw[aq f.symm];exact k,rfl,a,r,b,j,61,rfl,S2,fun hc=>?_,fun hc H2 R k3=>?_⟩
  .refine⟨_,rfl,h2 G (fun a6 s' z=>?_) _ M⟩;rw[hk]at z;cases z;exact hc (by
    cases hb:b[j]? with
    | none=>rw[drop_nil hb]at o;cases o
    | some c=>rw[drop_cons hb]at o;cases o;rfl)
  .obtain⟨a7,U⟩:=R.at_;refine⟨_,_,U,rfl,a,r,b,j+1,rfl,R,fun j' H3 L W S4 k4=>?_⟩;have X:Ql16.keys Ql16.PARTS (b.drop i)=some (ks,61::b.drop (j+1)):=by rw[hk,<-o,drop_cons hc]
   have O:∀ c u,upd D hd (hO t F (.ref x) J (.ref C)) c=some u->c≠a->H3 c=some u:=fun c u h n=>k4 c u (k3 c u h n) n;refine h3 G ks _ X j' C us H3 W S4 (fun c u h n=>O c u (M c u h n) (by rintro rfl;exact n (by simp))) (a0.trans ((hG.fB (i:=j) k3 R).trans (hG.fB (i:=j) k4 S4))) (O _ _ ai f) (O _ _ (by rw[aq qh];exact Y) qa) (hK.mono fun p xs h=>?_) y;have ph:p≠hd:=cH h l (by intro z;cases z);have pa:p≠a:=cH h k (by intro z;cases z);exact O _ _ (by rw[aq ph];exact h) pa
 .rw[Ox (by simp[G])];refine⟨_,_,ha,rfl,a,r,b,i,rfl,S,fun j D L o g B=>?_⟩;exact h1 G j D L o g (fj.fB B (by simp)) (hG.fB (i:=i) B g) (by rw[B _ _ I f,I])
structure x9(K:PySem.W.Frag)(t:bZ)(H:Hp)(a r:Addr)(b:Bytes)(i:Nat)(hl:Addr)(st:List dG)(vs:List V)(fp:List Addr):Prop where
 sc:aQ K t H a r b i
 row:H r=some (.lst (bI b))
 yu:H hl=some (.lst vs)
 vD:ij t H st vs fp
 nd:(a::r::hl::fp).Nodup
 len:st.length<=32
 ok:DB st
 size:ir st+24 * (b.length - i)<=24 * b.length
def Fs(K:PySem.W.Frag)(t:bZ)(H:Hp)(a r:Addr)(b:Bytes)(i:Nat)(hl:Addr)(m:List dG)(vs:List V)(g f:List Addr)(o:Option (Node×Bytes))(Q:VK)(E:XK):Prop:=
 (o=none->∀ d e,fj (a::hl::(f++g)) H e->E (.ref (t.c "Malformed")) d e) /\
 (∀ n j v l e,o=behind m n (b.drop j)->i<j->x9 K t e a r b j hl m vs g->Rep t D0 e n v l->okN n->(a::r::hl::(g++l)).Nodup->(∀ y∈l,y∈f\/H y=none)->sz n+ir m+24 * (b.length - j)<=24 * b.length -> fj (a::hl::(f++g)) H e->hG H e->Q v e) /\
 (∀ k j p h e,o=ahead k (b.drop j)->i<j->x9 K t e a r b j hl k p h->(∀ y∈h,y∈g\/y∈f\/H y=none)->fj (a::hl::(f++g)) H e->hG H e->Q .ba e)
def l7(K:PySem.W.Frag)(t:bZ):Sp:=fun vs H Q E=>∃ a r b i hl f us e hd g q x h c,∃ d:Bool,vs=[.ref a,.ref hl,.ref hd]/\x9 K t H a r b i hl f us e/\b[i]?=some (if d=true then 123 else 91) /\
 H hd=some (hO t g (.ref x) (.int (if d=true then 125 else 93)) (.ref q))/\H x=some (vO t h (if d=true then 6 else 5) (.ref c) 0 .ba)/\H c=some (if d=true then .dT [] else .lst [])/\([hd,x,c]++(a::r::hl::e)).Nodup /\
 Fs K t H a r b i hl f us e [hd,x,c] (ahead f (b.drop i)) Q E
theorem nR{b:Bytes}{j:Nat}{c:UInt8}(h:b[j]?≠some c):∀ s,b.drop j≠c::s:=fun s z=>by
 cases a:b[j]? with
 | none=>rw[drop_nil a]at z;cases z
 | some d=>rw[drop_cons a]at z;cases z;exact h a
theorem me:T.az.gY.Ok P w mg base 10 (l7 K t):=by
 refine T.az.gY.jO (fun vs H Q E h=>?_) (fun e7 A e1 s H vs Q E hr h=>?_);.obtain⟨a,r,b,i,hl,L,us,M,hd,dx,q,x,xd,c,G,rfl,_⟩:=h;rfl
 obtain⟨a,r,b,i,hl,L,us,M,hd,dx,q,x,xd,c,G,rfl,d,hb,hh,hx,hc,nd,h1,h2,h3⟩:=h;obtain⟨sx,ha⟩:=d.sc.at_;have lst:=d.vD.len;have e4:=d.len;have hi:=fu hb;refine⟨_,(af (aK (aC aV (aT aO (by rfl) T.hJ.dh O5 (ae (pv 1) ah)) T.az.AZ.e (aE _)) (ag (bH aH rfl rfl T.aG.bF T.aG.bG)) aD)
  (af (aN (eQ (pv 0) T.scan.aP T.scan.aX.m (cw T) hr.zz T.scan.aX.b aH))
  (af (aN (bL (pv 0) T.scan.aP T.scan.aJ.m (bb T) hr.zz T.scan.aJ.b .nil bg))
  (af (aK (bK (lA (pv 0) T.scan.aP T.scan.bh.m (dE T) hr.zz T.scan.bh.b .nil bg (ae (aM (pv 2) rfl) ah))) (ag (ay (aM (pv 2) rfl))) aD)
  (af (aN (df OJ OW OX bw (pv 1) (ae (pv 2) ah)))
  (af (aN (T.az.iG.cX (nV T) hr.zz aH (ae (pv 0) (ae (pv 2) ah))))
  (ag (ay eX)))))))),?_⟩
 walk_at "r7";refine⟨us,.inl (bB.of d.yu),?_⟩;by_cases b3:L.length=32
 .rw[Oy (by simp[lst,b3])];refine h1 ?_ none H fun _ _ h _=>h;rw[drop_cons hb];cases G with
  | true=>exact(uD b3).2
  | false=>exact(uD b3).1
 rw[Ox (by simp[lst];omega)];refine⟨_,_,ha,rfl,a,r,b,i,rfl,d.sc,fun hn=>absurd hb (by rw[hn];simp),fun c0 H1 e9 S1 k1=>?_⟩;obtain⟨f6,d7⟩:=S1.at_;refine⟨_,_,d7,rfl,a,r,b,i+1,rfl,S1,fun j H2 f3 hj S2 k2=>?_⟩;obtain⟨e3,c7⟩:=S2.at_;simp only[OZ,OR,OA,Pf,Qs,PY,Ug,P5,OS,Pp]at nd;have U:Kp a H H2:=k1.trans k2;have a4:hd≠a:=fun z=>nd.1.2.2.1 z;have R:x≠a:=fun z=>nd.2.1.2.1 z;have a3:c≠a:=fun z=>nd.2.2.1.1 z;have d8:=U _ _ hh a4;refine⟨_,_,c7,rfl,_,_,_,d8,T.az.bX,T.az.fP,_,rfl,?_⟩;obtain⟨⟨a9,a7,d4,a8,I,c1⟩,⟨c3,c2,c5,J,c4⟩,⟨b7,b9,Y,b8⟩,⟨l,f,X⟩,⟨B,b0⟩,Z,a6⟩:=nd;have e5:=S2.le;have e8:=S2.z9;have f7:=d.size;have c6:∀ {H':Hp},fj (a::hl::[hd]) H H'->(∀ p xs,H p=some (.tup xs)->H' p=some (.tup xs))->ij t H' L us M:=fun k kt=>d.vD.br (cO.Hq k kt fun y g z=>by
  simp only[OA,Pf,Qs]at z;rcases z with rfl | rfl | rfl;.exact X g
  .exact Z g
  .exact c1 g)
 have a0:∀ {H':Hp},fj (a::hl::[hd]) H H'->∀ p xs,H p=some (.tup xs)->H' p=some (.tup xs):=fun k p xs h=>k _ _ h (by simp only[OA,Pf,Qs,PY];exact⟨cH h ha (by intro z;cases z),cH h d.yu (by intro z;cases z),cH h hh (by intro z;cases z)⟩);refine⟨a,r,b,j,if G=true then 125 else 93,by cases G<;>rfl,S2,fun N=>⟨_,rfl,?_⟩,fun N H3 S3 k3=>⟨_,rfl,?_⟩⟩
 .rw[Ox (by decide)];have b1:=U _ _ d.yu (OL f);refine⟨.inl ⟨rfl,_,bB.of b1⟩,us,b1,by rw[lst];exact dR (by omega),?_⟩;have u3:∀ y u,H y=some u->y≠a->y≠hl->upd H2 hl (.lst (us++[.ref hd])) y=some u:=fun y u h n1 n2=>by rw[aq n2];exact U _ _ h n1
  have S3:aQ K t (upd H2 hl (.lst (us++[.ref hd]))) a r b j:=⟨⟨e3,by rw[aq f];exact c7⟩,bB.of (u3 _ _ d.row (OL l) B),S2.le,S2.z9⟩
  have b5:hG H (upd H2 hl (.lst (us++[.ref hd]))):=(hG.fB (i:=i) U S2).upd;have wk:∀ {D:Hp},fj [a,hd] (upd H2 hl (.lst (us++[.ref hd]))) D->fj (a::hl::[hd]) H D:=fun k y u h n=>by simp only[OA,Pf,Qs,PY]at n;exact k y u (u3 y u h n.1 n.2.1) (by simp[n.1,n.2.2])
  have b2:∀ {D:Hp},fj (a::hl::[hd]) H D->fj (a::hl::([hd,x,c]++M)) H D:=fun k=>k.weak fun y g=>by simp only[OA,Pf,Qs]at g;rcases g with rfl | rfl | rfl<;>simp
  refine⟨a,r,b,j,hd,dx,x,_,q,xd,_,.ref c,0,.ba,rfl,S3,u3 _ _ hh a4 I,u3 _ _ hx R J,?_⟩;cases G with
  | false=>
    refine⟨fun _ j' D f5 a5 S4 v b6 b4=>?_,fun z=>absurd z (by decide),fun z=>absurd z (by decide)⟩;have k4:=wk v;have d5:=S4.le;have ht:=a0 k4;have C:∀ y u,H y=some u->y≠a->y≠hl->y≠hd->D y=some u:=fun y u h n1 n2 n3=>k4 y u h (by simp[n1,n2,n3]);refine h3 (.lst []::L) j' (us++[.ref hd]) (hd::x::c::M) D ?_ (by omega) ⟨S4,C _ _ d.row (OL l) B (OL a8),v _ _ ai (by simp[OL f,OL I]),?_,?_,by simp;omega,⟨OF,d.ok⟩,?_⟩ ?_ (b2 k4) (b5.trans b6);.rw[drop_cons hb];show ahead L (91::b.drop (i+1))=_;rw[AB (by omega) (fun s z=>nR N s (by rw[hj,z];rfl)),a5,hj,rJ]
    .exact⟨hd,dx,q,x,xd,c,[],us,[],M,rfl,by rw[b4];exact u3 _ _ hh a4 I,C _ _ hx R J (OL a9),C _ _ hc a3 Y (OL a7),⟨rfl,rfl⟩,c6 k4 ht,by simp⟩
    .simp only[OR,OA,PY];exact⟨⟨l,f,OL d4,OL c2,OL b7,X⟩,⟨B,OL a8,OL c5,OL b9,b0⟩,⟨OL I,OL J,OL Y,Z⟩,⟨a9,a7,c1⟩,⟨c3,c4⟩,b8,a6⟩
    .show 3+0+ir L+24 * (b.length - j')<=24 * b.length;omega
    .intro y g;simp only[OA]at g |-;rcases g with z | z | z | z;.exact .inr (.inl (.inl z))
     .exact .inr (.inl (.inr (.inl z)))
     .exact .inr (.inl (.inr (.inr (.inl z))))
     .exact .inl z
  | true=>
    have hs:∀ s,Ql16.skip (b.drop (i+1))≠125::s:=fun s z=>nR N s (by rw[hj,z];rfl);have c8:b.drop i=123::b.drop (i+1):=drop_cons hb;refine⟨fun z=>absurd rfl z,fun _ O D v=>⟨_,rfl,h1 ?_ none D (b2 (wk v))⟩,fun _ ks s' O j' q' ku D a5 S4 v b6 b4 d9 d6 e0=>?_⟩;.rw[c8,yU (by omega) hs (by rw[<-hj];exact O)]
    .have k4:=wk v;have d5:=S4.le;have ht:=a0 k4;have C:∀ y u,H y=some u->y≠a->y≠hl->y≠hd->D y=some u:=fun y u h n1 n2 n3=>k4 y u h (by simp[n1,n2,n3]);have qn:∀ y o,H y=some o->q'≠y:=fun y o h z=>by
      obtain⟨o',h'⟩:=b5 y o h;rw[<-z,e0]at h';cases h'
     have e2:q'∉M:=fun z=>by obtain⟨o,ho⟩:=d.vD.there _ z;exact qn _ _ ho rfl
     have kz:=lQ _ _ _ _ O;have ln:(61::s').length=s'.length+1:=rfl;have lj:(b.drop j').length<=s'.length:=by rw[a5];exact aY s'
     simp only[O6]at kz lj;refine h3 (.tab [] ks::L) j' (us++[.ref hd]) (hd::q'::([x,c]++M)) D ?_ (by omega) ⟨S4,C _ _ d.row (OL l) B (OL a8),v _ _ ai (by simp[OL f,OL I]),?_,?_,by simp;omega,⟨OF,og _ _ _ _ O,d.ok⟩,?_⟩ ?_ (b2 k4) (b5.trans b6);.rw[c8,zi (by omega) hs (by rw[<-hj];exact O),a5]
     .exact⟨hd,dx,q',x,ku,us,[x,c],M,rfl,b4,d9,d6,⟨xd,.ba,c,[],[],C _ _ hx R J (OL a9),C _ _ hc a3 Y (OL a7),⟨rfl,rfl⟩,rfl,rfl⟩,c6 k4 ht,rfl⟩
     .simp only[OR,OA,PY,OS,Pp];exact⟨⟨l,f,OL d4,(qn _ _ ha).symm,OL c2,OL b7,X⟩,⟨B,OL a8,(qn _ _ d.row).symm,OL c5,OL b9,b0⟩,⟨OL I,(qn _ _ d.yu).symm,OL J,OL Y,Z⟩,⟨(qn _ _ hh).symm,a9,a7,c1⟩,⟨qn _ _ hx,qn _ _ hc,e2⟩,⟨c3,c4⟩,b8,a6⟩
     .show 3+0+mO ks+ir L+24 * (b.length - j')<=24 * b.length;omega
     .intro y g;simp only[OA,OS,Pp]at g |-;rcases g with z | z | z | z | z;.exact .inr (.inl (.inl z))
      .exact .inr (.inr (by rw[z];cases hq:H q' with
        | none=>rfl
        | some u=>exact absurd rfl (qn _ _ hq)))
      .exact .inr (.inl (.inr (.inl z)))
      .exact .inr (.inl (.inr (.inr (.inl z))))
      .exact .inl z
 .rw[Oy rfl];have W:Kp a H H3:=U.trans k3;have e6:=S3.le;have C:∀ y u,H y=some u->y≠a->H3 y=some u:=fun y u h n=>W y u h n;have c9:fj (a::hl::[hd]) H H3:=fj.fB W (by simp);refine⟨_,_,_,C _ _ hh a4,T.az.bX,T.az.bT,_,rfl,?_⟩;have V3:x9 K t H3 a r b (j+1) hl L us M:=⟨S3,C _ _ d.row (OL l),C _ _ d.yu (OL f),c6 c9 (a0 c9),by simp only[OR,OA,PY];exact⟨⟨l,f,X⟩,⟨B,b0⟩,Z,a6⟩,d.len,d.ok,by omega⟩
  have d3:(a::r::hl::(M++[x,c])).Nodup:=by
   simp only[OR,OA,PY,OH,Pf,Qs,OZ,U4,Ug,P5];exact⟨⟨l,f,X,OL c2,OL b7⟩,⟨B,b0,OL c5,OL b9⟩,⟨Z,OL J,OL Y⟩,a6,c3,fun y g z hz e=>by
    subst e;rcases hz with rfl | rfl;.exact c4 g
    .exact b8 g⟩
  have d2:∀ y∈[x,c],y∈[hd,x,c]\/H y=none:=fun y g=>.inl (by simp only[OA,Pf,Qs]at g |-;exact .inr g);have d0:fj (a::hl::([hd,x,c]++M)) H H3:=fj.fB W (by simp);cases G with
  | false=>
    refine h2 (.list []) (j+1) _ [x,c] H3 ?_ (by omega) V3 ⟨x,xd,.ba,c,[],[],rfl,C _ _ hx R,C _ _ hc a3,⟨rfl,rfl⟩,rfl,rfl⟩ OF d3 d2 ?_ d0 (hG.fB (i:=i) W S3);.rw[drop_cons hb];show ahead L (91::b.drop (i+1))=_;rw[AE (by omega) (by rw[<-hj];exact drop_cons N)]
    .show 3+0+ir L+24 * (b.length - (j+1))<=24 * b.length;omega
  | true=>
    refine h2 (.table 3 []) (j+1) _ [x,c] H3 ?_ (by omega) V3 ⟨x,xd,.ba,c,[],[],rfl,C _ _ hx R,C _ _ hc a3,⟨rfl,rfl⟩,rfl,rfl,by decide⟩ OF d3 d2 ?_ d0 (hG.fB (i:=i) W S3);.rw[drop_cons hb];show ahead L (123::b.drop (i+1))=_;rw[yI (by omega) (by rw[<-hj];exact drop_cons N)]
    .show 3+0+ir L+24 * (b.length - (j+1))<=24 * b.length;omega
def oY(t:bZ)(H:Hp)(n:Node)(v:V)(c:Hp):Prop:=∃ b,Rep t D0 c n v b/\b.Nodup/\∀ a∈b,H a=none
def BL(b:Bytes):Option (Node×Bytes):=(Ql16.wordOf (b.takeWhile Ql16.wordByte)).map fun n=>(n,b.dropWhile Ql16.wordByte)
open Ql16 (signOf)
def Jv:Sp:=fun vs H Q _=>∃ b:Bytes,vs=[.str (S (aI b))]/\b.length<=30000/\(∀ c∈b,c.toNat<128)/\(Ql16.realOf b=none->∀ a,aB H a->Q .ba a)/\∀ n,Ql16.realOf b=some (.real n)->∀ a,aB H a->Q (.int (n:Int)) a
theorem vY:T.aA.iE.Ok P w mg base 6 Jv:=by
 refine T.aA.iE.fi (fun vs H Q E h=>?_) (fun m A j s H vs Q E l h=>?_);.obtain⟨d,rfl,_⟩:=h;rfl
 obtain⟨b,rfl,k,i,h1,h2⟩:=h;refine⟨_,(af (T.aA.iE.set 1 (T.aA.cf.cl (so T) l.zz (ae (T.aA.fC.cl (iV T) l.zz (ae (pv 0) ah)) ah)))
  (af (aK (PW.pt (fS (eV (l5 (pv 1))) (fk (ie (bK (mU QJ QK fZ (pv 0) cP)))))) (ag (ay (pv 1))) aD)
  (ag (ay (aS cE (pv 1) T.bu.CN.e))))),?_⟩
 walk_at "r6";have a:=JE b;have p:(signOf b).1=dP b:=by rw[gE]
 have o:PySem.Txt.startswith (S (aI b)) (Str.ofString "-")=dP b:=m8 b 45;refine⟨b,rfl,k,(signOf b).2,rfl,O9 (qs b) k,fun c hc=>i c (v7 hc),fun hn f g=>?_,fun n hn f g=>?_⟩;.walk_at "r6";rw[Oy (by decide),Oy OF];exact h1 (by rw[a,hn];rfl) f g
 .walk_at "r6";rw[Ox (by simp),o];refine⟨⟨_,rfl⟩,?_⟩;rw[hn,p]at a;cases hm:dP b with
  | false=>rw[hm]at a;rw[Oy (by decide)];exact h2 n a f g
  | true=>rw[hm]at a;rw[Ox (by decide)];have:=h2 _ a f g;rw[Oy rfl,VA]at this;exact this
def kK(t:bZ):Sp:=fun vs H Q E=>∃ b:Bytes,vs=[.str (S (aI b))]/\b.length<=30000/\(∀ c∈b,c.toNat<128)/\(Ql16.wordOf b=none->∀ a,aB H a->E (.ref (t.c "Malformed")) none a) /\ ∀ n,Ql16.wordOf b=some n->∀ v a,aB H a->oY t H n v a->Q v a
theorem si:T.aA.dq.Ok P w mg base 7 (kK t):=by
 refine T.aA.dq.jO (fun vs H Q E h=>?_) (fun W A L s H vs Q E m h=>?_);.obtain⟨d,rfl,_⟩:=h;rfl
 obtain⟨b,rfl,G,j,h1,h2⟩:=h;refine⟨_,(af (aK (PW.pt (fS (aC aV (pv 0) cP (aE _)) (fk (aC aV (pv 0) cP (aE _))))) (ag (ay (T.kinds.iC.cl (jF T) m.zz (ae T.kinds.Ez.e (ae (ck aV (pv 0) cP (aE _)) ah))))) aD)
  (af (T.aA.dq.set 1 (T.days.cY.cl (xk T) m.zz (ae (pv 0) ah)))
  (af (aK (eV (qz (pv 1))) (ag (ay (T.kinds.iC.cl (jF T) m.zz (ae T.kinds.KS.e (ae (pv 1) ah))))) aD)
  (af (T.aA.dq.set 2 (T.aA.cD.cl (tV T) m.zz (ae (pv 0) ah)))
  (af (aK (eV (qz (pv 2))) (ag (ay (T.kinds.iC.cl (jF T) m.zz (ae T.kinds.Ed.e (ae (pv 2) ah))))) aD)
  (af (T.aA.dq.set 3 (T.aA.iE.cl (vY T) m.zz (ae (pv 0) ah)))
  (af (aK (eV (qz (pv 3))) (ag (ay (T.kinds.iC.cl (jF T) m.zz (ae T.kinds.DC.e (ae (pv 3) ah))))) aD)
  (ag (bH aH rfl rfl T.aG.bF T.aG.bG))))))))),?_⟩
 walk_at "r6";have B:∀ (k:Int) (c:V) (n:Node) (r:Hp),aB H r->Ql16.wordOf b=some n->(∀ x g f,f x=some (vO t g k c 0 .ba)->Rep t D0 f n (.ref x) [x])->uC t [.int k,c] r Q E0:=fun k c n r p e R=>
  ⟨_,_,rfl,fun x g f C hx X i=>h2 n e (.ref x) f (fun a o z=>C _ _ (p _ _ z)) ⟨[x],R x g f i,by simp,fun a ha=>by simp at ha;rw[ha];cases q:H x with
   | none=>rfl
   | some o=>rw[p _ _ q]at hx;cases hx⟩⟩
 have y:∀ (x:Bytes) (z:Str),z=S (aI x)->(S (aI b)=z↔b=x):=fun x z e=>by rw[e,nh,ni]
 have N:=y (Ql16.txt "true") (Str.ofString "true") rfl;have O:=y (Ql16.txt "false") (Str.ofString "false") rfl;by_cases v:b=Ql16.txt "true";.rw[OO (N.mpr v),Oy rfl,Oy OF];exact B 3 (.bl true) (.truth true) H (fun _ _ z=>z) (by unfold Ql16.wordOf;rw[Oy v]) fun x g f i=>⟨x,g,_,rfl,i,rfl,rfl⟩
 rw[O3 fun z=>v (N.mp z),Ox (by decide)];by_cases D:b=Ql16.txt "false";.rw[OO (O.mpr D),Oy rfl];exact B 3 (.bl false) (.truth false) H (fun _ _ z=>z) (by unfold Ql16.wordOf;rw[Ox v,Oy D]) fun x g f i=>⟨x,g,_,rfl,i,rfl,rfl⟩
 rw[O3 fun z=>D (O.mp z),Ox (by decide)];have u:Ql16.wordOf b=match Ql16.dayOf b with | some n=>some n | none=>match Ql16.wholeOf b with | some n=>some n | none=>Ql16.realOf b:=by unfold Ql16.wordOf;rw[Ox v,Ox D];rfl
 refine⟨b,rfl,G,j,fun hn r p=>?_,fun z J r p=>?_⟩
 .show if (!decide (V.ba=V.ba))=true then _ else _
  rw[Ox (by decide)];rw[HW,hn]at u;refine⟨b,rfl,G,j,fun I f C=>?_,fun z J f C=>?_⟩
  .show if (!decide (V.ba=V.ba))=true then _ else _
   rw[Ox (by decide)];rw[I]at u;have U:aB H f:=fun a o z=>C _ _ (p _ _ z);refine⟨b,rfl,G,j,fun l F M=>?_,fun n l F M=>?_⟩
   .show if (!decide (V.ba=V.ba))=true then _ else _
    rw[Ox (by decide)];exact h1 (by rw[u];exact l) F fun a o z=>M _ _ (U _ _ z)
   .show if (!decide (V.int _=V.ba))=true then _ else _
    rw[Oy (by simp)];exact B 2 _ (.real n) F (fun a o z=>M _ _ (U _ _ z)) (by rw[u];exact l) fun x g f i=>⟨x,g,_,rfl,i,rfl,rfl⟩
  .show if (!decide (V.int _=V.ba))=true then _ else _
   rw[Oy (by simp)];exact B 1 _ (.whole z) f (fun a o z=>C _ _ (p _ _ z)) (by rw[u];simp only[Option.map_none];rw[J]) fun x g f i=>⟨x,g,_,rfl,i,rfl,rfl⟩
 .show if (!decide (V.int _=V.ba))=true then _ else _
  rw[Oy (by simp)];exact B 4 _ (.day z) r p (by rw[u,HW,J];rfl) fun x g f i=>⟨x,g,_,rfl,i,rfl,rfl⟩
theorem A9:∀ l:Bytes,(l.map fun _=>1).sum=l.length
 | []=>rfl
 | _::r=>by rw[OP,QP,A9 r,OB];omega
theorem Am:∀ l:Bytes,(l.map fun c=>[c.toNat]).flatten=aI l
 | []=>rfl
 | c::r=>by rw[OP,Tn,Am r];rfl
theorem zT:T.aA.j8.Ok P w mg base 8 (jB K t BL (oY t)):=by
 refine T.aA.j8.jO gD (fun a5 A a4 s H vs Q E N h=>?_);obtain⟨a,r,b,i,rfl,X,h1,h2⟩:=h;obtain⟨dx,ha⟩:=X.at_;refine⟨_,(af (T.aA.j8.set 1 (aZ ah))
  (af (eG PM (bK (T.signs.jA.cl (tv T) N.zz (ae (bL (pv 0) T.scan.aP T.scan.aU.m (bW T) N.zz T.scan.aU.b .nil bg) ah))) (ag (aN (df OJ OW OX bw (pv 1) (ae (cT z7 T.aA.qR.e (aS gS (eQ (pv 0) T.scan.aP T.scan.aX.m (cw T) N.zz T.scan.aX.b aH) T.signs.HL.e) (fun _ _=>rfl)) ah)))))
  (ag (ay (T.aA.dq.cX (si T) N.zz aH (ae (mU Up Uq DX cP (pv 1)) ah)))))),?_⟩
 walk_at "r6";refine⟨O1 _,fun q hq=>?_⟩;have s0:aB H (upd H q (.lst [])):=aB.new hq;have qa:q≠a:=(aj ha hq).symm;have Sq:=X.same s0;refine⟨fun m σ k=>∃ (j:Nat) (g:Bytes),m=b.length - j/\σ=[some (.ref a),some (.ref q)]/\aQ K t k a r b j/\Kp a H k/\k q=some (.lst ((g.map fun c=>S [c.toNat]).map V.str))/\g.length<=j/\b.drop i=g++b.drop j/\∀ c∈g,Ql16.wordByte c=true,⟨_,i,[],rfl,rfl,Sq,Kp.same s0,ai,by simp,rfl,by simp⟩,?_⟩;rintro m σ k ⟨j,g,rfl,rfl,D,O,hP,hl,e,hb⟩;walk_at "r6";have jb:=D.le;have fb:=D.z9;obtain⟨a6,u⟩:=D.at_;refine⟨_,_,u,rfl,a,r,b,j,rfl,D,?_⟩;walk_at "r6";have stop:(∀ c r',b.drop j=c::r'->Ql16.wordByte c=false)->(∃ a,Str.ofString ""=a)/\∃ x,(bB K k q (List.map V.str x)\/iJ K k q (List.map V.str x))/\(List.map (fun x=>x.length) x).sum+x.length * (Str.ofString "").length<=16777216 /\
  kK t [V.str (PySem.Txt.join (Str.ofString "") x)] k Q (Bv (fun C d x k=>E (Value.ref C) d k) [some (V.ref a),some (V.ref q)]):=fun hs=>by
  obtain⟨w1,w2⟩:=rF hb hs;rw[<-e]at w1 w2;refine⟨⟨_,rfl⟩,g.map fun c=>S [c.toNat],.inl (bB.of hP),?_,?_⟩;.rw[P4,show((fun x:Str=>x.length) ∘ fun c:UInt8=>S [c.toNat])=fun _=>1 from rfl,show(Str.ofString "").length=0 from rfl];rw[A9];omega
  .have ej:PySem.Txt.join (Str.ofString "") (g.map fun c=>S [c.toNat])=S (aI g):=by
    have:=EE (g.map fun c=>[c.toNat]);rw[P4,Am]at this;exact this
   rw[ej];have wl:∀ c∈g,c.toNat<128:=fun c hc=>by have:=dS (fun c=>!Ql16.wordByte c || decide (c.toNat<128)) (by decide +kernel) c;rw[hb c hc]at this;simpa using this
   have fr:∀ y,k y=none->H y=none:=fun y J=>O.free J (by rintro rfl;rw[u]at J;cases J);refine⟨g,rfl,by omega,wl,fun hn l W=>⟨_,rfl,h1 ?_ l (O.trans (Kp.same W))⟩,fun n hn v l W nv=>h2 n (b.drop j) ?_ j l v rfl (D.same W) (O.trans (Kp.same W)) ?_⟩;.unfold BL;rw[w1,hn];rfl
   .unfold BL;rw[w1,w2,hn];rfl
   .obtain⟨fp,R,nd,f⟩:=nv;exact⟨fp,R,nd,fun y J=>fr y (f y J)⟩
 cases hc:b[j]? with
 | none=>rw[gL hc,HY];refine uK (stop fun c r' z=>?_);rw[drop_nil hc]at z;cases z
 | some c=>
   rw[iN hc,LQ];cases B:Ql16.wordByte c with
   | false=>refine uK (stop fun c' r' z=>?_);rw[drop_cons hc]at z;cases z;exact B
   | true=>
     have a7:=fu hc;refine Bb ⟨fun M l=>∃ U,U<b.length - j/\∃ (j:Nat) (g:Bytes),U=b.length - j/\M=[some (.ref a),some (.ref q)]/\aQ K t l a r b j/\Kp a H l/\l q=some (.lst ((g.map fun c=>S [c.toNat]).map V.str))/\g.length<=j/\b.drop i=g++b.drop j/\∀ c∈g,Ql16.wordByte c=true,?_,.inl ⟨rfl,_,bB.of hP⟩,_,_,u,rfl,a,r,b,j,rfl,D,fun hn=>?_,fun c' H1 I S1 k1=>?_⟩;.rintro M l ⟨U,h1,j',G,h3,h4,Z⟩;exact⟨U,h1,j',h3,h4,Z.1,Z.2.1,G,Z.2.2⟩
     .rw[hc]at hn;cases hn
     .rw[hc]at I;cases I;have a0:=k1 _ _ hP qa;obtain⟨Y,a3⟩:=S1.at_;have L:∀ o,Kp a H (upd H1 q o):=fun o=>(O.trans k1).om hq;have ix:AY (Str.ofString "+,-./0123456789:;<=>?@ABCDEFGHIJKLMNOPQRSTUVWXYZ[\\]^_`abcdefghijklmnopqrstuvwxyz").cps.toList ((c.toNat:Int) - 43)=some c.toNat:=by
       have p:=dS (fun c=>!Ql16.wordByte c || (decide (43<=c.toNat)&&(((Str.ofString "+,-./0123456789:;<=>?@ABCDEFGHIJKLMNOPQRSTUVWXYZ[\\]^_`abcdefghijklmnopqrstuvwxyz").cps.toList)[c.toNat - 43]?==some c.toNat))) (by decide +kernel) c;rw[B]at p;simp only[Bool.not_true,Te,O4,Pc,RJ]at p;rw[show(c.toNat:Int) - 43=((c.toNat - 43:Nat):Int) by omega];exact gW p.2
      refine⟨_,rfl,by decide,_,ix,_,a0,by rw[O0,O0];exact dR (by omega),b.length - (j+1),by omega,j+1,g++[c],rfl,rfl,X.kp (L _) S1.le ⟨Y,by rw[aq qa.symm];exact a3⟩,L _,by rw[ai,Qp,Qp];rfl,by simp;omega,by rw[e,drop_cons hc];simp,fun x hx=>?_⟩;rcases OH.mp hx with z | z;.exact hb x z
      .simp at z;rw[z];exact B
theorem Dc:Ql16.wordOf []=none:=by decide
theorem Fs.new{H l:Hp}{a r:Addr}{b:Bytes}{i:Nat}{hl:Addr}{I:List dG}{vs:List V}{p new:List Addr}{o:Option (Node×Bytes)}{Q:VK}{E:XK}(s:aB H l)(hn:∀ y∈new,H y=none)(h:Fs K t H a r b i hl I vs p [] o Q E):Fs K t l a r b i hl I vs p new o Q E:=by
 obtain⟨h1,h2,L⟩:=h;have A:∀ {f:Hp},fj (a::hl::(new++p)) l f->fj (a::hl::([]++p)) H f:=fun k y u c n=>k y u (s _ _ c) (by simp only[OA,OH,Pp,PY]at n |-;refine⟨n.1,n.2.1,fun z=>?_,n.2.2⟩;rw[hn y z]at c;cases c);have F:∀ y,l y=none->H y=none:=fun y c=>by
  cases q:H y with
  | none=>rfl
  | some u=>rw[s _ _ q]at c;cases c
 have G:∀ {f:Hp},hG l f->hG H f:=fun k y u c=>k y u (s _ _ c);refine⟨fun e d f k=>h1 e d f (A k),fun n j v J f e g V R N M m z k B=>h2 n j v J f e g V R N M (fun y c=>?_) z (A k) (G B),fun C j D x f e g V m k B=>L C j D x f e g V (fun y c=>?_) (A k) (G B)⟩
 .rcases m y c with z | z;.exact .inr (hn y z)
  .exact .inr (F y z)
 .rcases m y c with z | z | z;.exact .inl z
  .exact .inr (.inr (hn y z))
  .exact .inr (.inr (F y z))
theorem x9.same{H d:Hp}{a r:Addr}{b:Bytes}{i:Nat}{hl:Addr}{f:List dG}{vs:List V}{e:List Addr}(c:x9 K t H a r b i hl f vs e)(s:aB H d):x9 K t d a r b i hl f vs e:=⟨c.sc.same s,s _ _ c.row,s _ _ c.yu,c.vD.br (cO.of_same s),c.nd,c.len,c.ok,c.size⟩
theorem x9.there{H:Hp}{a r:Addr}{b:Bytes}{i:Nat}{hl:Addr}{f:List dG}{vs:List V}{e:List Addr}(c:x9 K t H a r b i hl f vs e):∀ y∈a::r::hl::e,∃ o,H y=some o:=fun y d=>by
 simp only[OA]at d;rcases d with rfl | rfl | rfl | d;.exact c.sc.there
 .exact⟨_,c.row⟩
 .exact⟨_,c.yu⟩
 .exact c.vD.there y d
theorem x9.go{H e:Hp}{a r:Addr}{b:Bytes}{i j:Nat}{hl:Addr}{g:List dG}{vs:List V}{f:List Addr}(c:x9 K t H a r b i hl g vs f)(k:Kp a H e)(S:aQ K t e a r b j)(l:i<=j):x9 K t e a r b j hl g vs f:=by have d:=c.nd;obtain⟨n,ha⟩:=c.sc.at_;simp only[OR,OA,PY]at d;refine⟨S,k _ _ c.row (OL d.1.1),k _ _ c.yu (OL d.1.2.1),c.vD.br ⟨fun y m o h=>k y o h (by rintro rfl;exact d.1.2.2 m),fun p xs h=>k p _ h (cH h ha (by intro z;cases z)),eD⟩,c.nd,c.len,c.ok,?_⟩;have:=c.size;have:=S.le;omega
def mZ(K:PySem.W.Frag)(t:bZ):Sp:=fun vs H Q E=>∃ a r b i hl c us d,vs=[.ref a,.ref hl]/\x9 K t H a r b i hl c us d/\Fs K t H a r b i hl c us d [] (ahead c (b.drop i)) Q E
theorem we:T.az.iH.Ok P w mg base 11 (mZ K t):=by
 refine T.az.iH.jO (fun vs H Q E h=>?_) (fun c5 A b9 s H vs Q E W h=>?_);.obtain⟨a,r,b,i,hl,st,us,fp,rfl,_⟩:=h;rfl
 obtain⟨a,r,b,i,hl,st,us,fp,rfl,l,O⟩:=h;obtain⟨h1,h2,h3⟩:=id O;obtain⟨sx,ha⟩:=l.sc.at_;have lst:=l.vD.len;refine⟨_,(af (T.az.iH.set 2 (bL (pv 0) T.scan.aP T.scan.aU.m (bW T) W.zz T.scan.aU.b .nil bg))
  (af (aK (aC aV (pv 2) T.signs.gM.e (aE _)) (ag (ay (T.az.gY.cX (me T) W.zz aH (ae (pv 0) (ae (pv 1) (ae (gQ T.az.xZ (nQ T) W.zz rfl T.az.Br T.az.iI.b .nil bg (ae (T.kinds.jq.cl (oQ T) W.zz (ae T.kinds.ou.e ah)) (ae T.signs.gp.e ah))) ah)))))) aD)
  (af (aK (aC aV (pv 2) T.signs.qZ.e (aE _)) (ag (ay (T.az.gY.cX (me T) W.zz aH (ae (pv 0) (ae (pv 1) (ae (gQ T.az.xZ (nQ T) W.zz rfl T.az.Br T.az.iI.b .nil bg (ae (T.kinds.bS.cl (cC T) W.zz (ae T.kinds.ou.e ah)) (ae T.signs.oN.e ah))) ah)))))) aD)
  (af (aK (bK (T.aF.lX.cl (sI T) W.zz (ae (pv 2) ah))) (ag (ay (T.kinds.iC.cl (jF T) W.zz (ae T.kinds.Cz.e (ae (T.aF.iF.cX (mL T) W.zz aH (ae (pv 0) ah)) ah))))) aD)
  (ag (ay (T.aA.j8.cX (zT T) W.zz aH (ae (pv 0) ah)))))))),?_⟩
 walk_at "r7";refine⟨_,_,ha,rfl,a,r,b,i,rfl,l.sc,?_⟩;have M:∀ y,H y=none->y∉a::r::hl::fp:=fun y F z=>by obtain⟨o,ho⟩:=l.there y z;rw[F]at ho;cases ho
 have mk:∀ (sv:V) (B:Bool),b[i]?=some (if B=true then 123 else 91)->∀ (x xd c:Addr) (g:Hp),aB H g->H x=none->H c=none->c≠x->g c=some (if B=true then .dT [] else .lst [])->g x=some (vO t xd (if B=true then 6 else 5) (.ref c) 0 .ba) ->
  ∀ hd p:Addr,g hd=none->g p=none->p≠hd->nG t [.ref hd,.ref x,.int (if B=true then 125 else 93)] (upd (upd g p (.own hd)) hd (.ins (t.c "Holder") p [])) (fun v H2=>v=.ba/\l7 K t [.ref a,.ref hl,.ref hd] H2 Q (Bv (fun C d x Y=>E (Value.ref C) d Y) [some (.ref a),some (.ref hl),some sv])) E0:=by
  intro sv B L x xd c g s1 hx hc N G J hd p f U I;refine⟨hd,p,_,_,rfl,ai,fun e he=>⟨rfl,?_⟩⟩;have eh:e≠hd:=(aj ai he).symm;have b2:g e=none:=by
   rw[aq eh]at he;by_cases z:e=p;.rw[z,ai]at he;cases he
   .rw[aq z]at he;exact he
  have s2:aB g (upd (upd (upd (upd g p (.own hd)) hd (.ins (t.c "Holder") p [])) e (.lst [])) hd (.ins (t.c "Holder") p (hf (.ref x) (.int (if B=true then 125 else 93)) (.ref e)))):=fun y u h=>by rw[aq (aj h f),aq (aj h b2),aq (aj h f),aq (aj h U)];exact h
  have s3:aB H _:=fun y u h=>s2 y u (s1 y u h);have a6:H hd=none:=by
   cases q:H hd with
   | none=>rfl
   | some u=>rw[s1 _ _ q]at f;cases f
  refine⟨a,r,b,i,hl,st,us,fp,hd,p,e,x,xd,c,B,rfl,l.same s3,L,ai,s2 _ _ J,s2 _ _ G,?_,?_⟩
  .rw[OZ];refine⟨?_,l.nd,fun y F z hz e=>?_⟩;.simp[(aj J f).symm,(aj G f).symm,OL N]
   .subst e;simp only[OA,Pf,Qs]at F;rcases F with rfl | rfl | rfl;.exact M _ a6 hz
    .exact M _ hx hz
    .exact M _ hc hz
  .refine Fs.new s3 (fun y F=>?_) ⟨fun e d Y k=>⟨_,rfl,h1 e d Y k⟩,h2,h3⟩;simp only[OA,Pf,Qs]at F;rcases F with rfl | rfl | rfl;.exact a6
   .exact hx
   .exact hc
 refine⟨rfl,?_⟩;by_cases Z:b[i]?=some 91;.have b0:sg b i=91:=vZ.mpr Z;rw[Oy (by simp[b0])];exact⟨_,rfl,fun x xd c g s1 hx b5 hc N G J hd p f U I=>mk _ false Z x xd c g s1 hx hc N G J hd p f U I⟩
 rw[Ox (by intro z;have z:=V.int.inj (P9 z);exact Z (vZ.mp z))];refine⟨rfl,?_⟩;by_cases D:b[i]?=some 123;.have a5:sg b i=123:=vZ.mpr D;rw[Oy (by simp[a5])];exact⟨_,rfl,fun x xd c g s1 hx b5 hc N G J hd p f U I=>mk _ true D x xd c g s1 hx hc N G J hd p f U I⟩
 rw[Ox (by intro z;have z:=V.int.inj (P9 z);exact D (vZ.mp z))];refine⟨_,rfl,?_⟩;have a9:isQuote (sg b i)=false->ahead st (b.drop i)=(Ql16.wordOf ((b.drop i).takeWhile Ql16.wordByte)).bind fun n=>behind st n ((b.drop i).dropWhile Ql16.wordByte):=fun X=>C6 fun c r hc=>by
  cases L:b[i]? with
  | none=>rw[drop_nil L]at hc;cases hc
  | some d=>rw[drop_cons L]at hc;cases hc;rw[iN L,yT]at X;simp only[SJ,Q0]at X;exact⟨X.1,X.2,fun z=>Z (by rw[L,z]),fun z=>D (by rw[L,z])⟩
 cases X:isQuote (sg b i) with
 | false=>
   rw[Ox (by decide)];have hw:=a9 X;refine⟨r,b,i,l.sc,fun hn Y k=>⟨_,rfl,h1 ?_ none Y (fj.fB k (by simp))⟩,fun n rest hn j Y v hj S' k nv=>?_⟩;.rw[hw];unfold BL at hn;rw[R8]at hn;rw[hn];rfl
   .unfold BL at hn;rw[OI]at hn;obtain⟨n',a0,b3⟩:=hn;cases b3;obtain⟨fv,R,b8,fr⟩:=nv;have I:(b.drop i).takeWhile Ql16.wordByte≠[]:=fun z=>by rw[z,Dc]at a0;cases a0
    have a7:=kq Ql16.wordByte (b.drop i);have c7:0<((b.drop i).takeWhile Ql16.wordByte).length:=QL.mpr I;have a4:=Pw List.length hj;have c2:=S'.le;have c4:=l.sc.le;rw[<-a4]at a7;simp only[O6]at a7;have a3:i<j:=by omega
    have wk:=Ea a0;have c1:=l.size;refine h2 n j v fv Y (by rw[hw,a0,hj];rfl) a3 (l.go k S' (by omega)) R wk.1 ?_ (fun y F=>.inr (fr y F)) (by omega) (fj.fB k (by simp)) (hG.fB (i:=i) k S');have e:a::r::hl::(fp++fv)=(a::r::hl::fp)++fv:=rfl;rw[e,OZ];exact⟨l.nd,b8,fun y F z hz e=>M z (fr z hz) (e▸F)⟩
 | true=>
   rw[Oy rfl];cases L:b[i]? with
   | none=>rw[gL L]at X;cases X
   | some d=>
     rw[iN L,yT]at X;have hd:d=34\/d=39:=by simpa using X
     have hw:ahead st (b.drop i)=(Ql16.string (b.drop i)).bind fun x=>behind st (.text x.1) x.2:=by rw[drop_cons L];exact E5 hd
     refine⟨a,r,b,i,d,rfl,l.sc,L,hd,fun hn Y k=>⟨_,rfl,h1 (by rw[hw,hn];rfl) none Y (fj.fB k (by simp))⟩,fun x rest hx j g v hj S1 k1 nt=>?_⟩;obtain⟨q,rfl,b4,c8⟩:=nt;refine⟨_,_,rfl,fun y dy H2 s2 F c6 b6=>?_⟩;have c0:=r9 hx;have a4:=Pw List.length hj;simp only[O6]at c0 a4;have c3:=S1.le;have a3:i<j:=by omega
     have c1:=l.size;obtain⟨c9,b1⟩:=S1.at_;have ya:y≠a:=(aj b1 F).symm;have a8:H y=none:=k1.free F ya;have k2:Kp a H H2:=k1.trans (Kp.same s2);have S2:=S1.same s2;refine h2 (.text x) j _ [y] H2 (by rw[hw,hx,hj];rfl) a3 (l.go k2 S2 (by omega)) ⟨y,dy,.ba,q,rfl,b6,s2 _ _ b4,rfl,rfl⟩ OF ?_ (fun z hz=>?_) (by show 6 * x.length+3+ir st+24 * (b.length - j)<=24 * b.length;omega) (fj.fB k2 (by simp)) (hG.fB (i:=i) k2 S2)
     .have e:a::r::hl::(fp++[y])=(a::r::hl::fp)++[y]:=rfl;rw[e,OZ];refine⟨l.nd,by simp,fun z hz z' b7 e=>?_⟩;subst e;have:z=y:=by simpa using b7
      exact M y a8 (this▸hz)
     .have:z=y:=by simpa using hz
      exact .inr (by rw[this];exact a8)
def Lc:dG->UInt8
 | .lst _=>93
 | .tab _ _=>125
def knd:dG->Int
 | .lst _=>5
 | .tab _ _=>6
def iD:dG->Node
 | .lst acc=>.list acc
 | .tab acc _=>.table 3 acc
theorem ij.top:∀ {top:dG} {k:List dG} {us:List V} {f:List Addr},ij t H (top::k) us f->∃ hd h q x l c g a b,us=g++[.ref hd]/\H hd=some (hO t h (.ref x) (.int ((Lc top).toNat:Int)) (.ref q))/\H x=some (vO t l (knd top) c 0 .ba) /\
 Rep t D0 H (iD top) (.ref x) a/\ij t H k g b/\(∀ y∈a++b,y∈f)/\hd∈f/\(f.Nodup->(a++b).Nodup/\hd∉a++b)
 | .lst acc,k,us,f,⟨hd,h,q,x,l,c,vs,g,a,b,n,o,p,s,i,r,d⟩=>by
   refine⟨hd,h,q,x,l,.ref c,g,x::c::a,b,n,o,p,⟨x,l,.ba,c,vs,a,rfl,p,s,i,rfl,rfl⟩,r,fun y j=>?_,by rw[d];simp,fun e=>?_⟩;.rw[d];simp only[OS,OA]at j |-;exact .inr j
   .rw[d,OR]at e;exact⟨e.2,e.1⟩
 | .tab acc ks,k,us,f,⟨hd,h,q,x,E,g,a,b,n,o,p,s,i,r,d⟩=>by
   obtain⟨m,D,v,u,A,B,F,G,C,I⟩:=id i;cases C;refine⟨hd,h,q,x,m,.ref v,g,a,b,n,o,B,ip.mpr ⟨by decide,x,rfl,i⟩,r,fun y j=>?_,by rw[d];simp,fun e=>?_⟩;.rw[d];simp only[OA];exact .inr (.inr j)
   .rw[d,OR,OR]at e;exact⟨e.2.2,fun z=>e.1 (OM _ z)⟩
theorem FY{n:Node}{top a:dG}{c:List dG}(hn:okN n)(b:DB (top::c))(h:fx n top=some a):DB (a::c)/\sz (iD a)+ir c<=ir (top::c)+sz n+1/\okN (iD a)/\Lc a=Lc top/\knd a=knd top:=by
 cases top with
 | lst acc=>simp only[fx,OC]at h;subst h;have:=Az n acc;have o:=Bx hn b.1;refine⟨⟨o,b.2⟩,?_,o,rfl,rfl⟩;simp only[ir,iD,sz];omega
 | tab acc ks=>simp only[fx,OI]at h;obtain⟨e,d,rfl⟩:=h;obtain⟨o,z⟩:=rm hn b.1 d;refine⟨⟨o,b.2.1,b.2.2⟩,?_,o,rfl,rfl⟩;simp only[ir,iD,sz];omega
structure Li(K:PySem.W.Frag)(t:bZ)(H:Hp)(a r:Addr)(b:Bytes)(i:Nat)(hl:Addr)(st:List dG)(vs:List V)(fp:List Addr):Prop where
 sc:aQ K t H a r b i
 row:H r=some (.lst (bI b))
 yu:H hl=some (.lst vs)
 vD:ij t H st vs fp
 nd:(a::r::hl::fp).Nodup
 len:st.length<=32
 ok:DB st
theorem Li.go{H e:Hp}{a r:Addr}{b:Bytes}{i j:Nat}{hl:Addr}{g:List dG}{vs:List V}{f:List Addr}(c:Li K t H a r b i hl g vs f)(k:Kp a H e)(S:aQ K t e a r b j):Li K t e a r b j hl g vs f:=by have d:=c.nd;obtain⟨m,ha⟩:=c.sc.at_;simp only[OR,OA,PY]at d;exact⟨S,k _ _ c.row (OL d.1.1),k _ _ c.yu (OL d.1.2.1),c.vD.br ⟨fun y l o h=>k y o h (by rintro rfl;exact d.1.2.2 l),fun p xs h=>k p _ h (cH h ha (by intro z;cases z)),eD⟩,c.nd,c.len,c.ok⟩
theorem Li.pop{H:Hp}{a r:Addr}{b:Bytes}{i:Nat}{hl:Addr}{top:dG}{O:List dG}{v:List V}{hd:Addr}{A:List Addr}(W:Li K t H a r b i hl (top::O) (v++[.ref hd]) A):∃ I q x Q c m k,H hd=some (hO t I (.ref x) (.int ((Lc top).toNat:Int)) (.ref q))/\H x=some (vO t Q (knd top) c 0 .ba)/\hd≠hl /\
 (ir O+24 * (b.length - i)<=24 * b.length->x9 K t (upd H hl (.lst v)) a r b i hl O v k)/\Rep t D0 (upd H hl (.lst v)) (iD top) (.ref x) m/\(a::r::hl::(k++m)).Nodup/\∀ y∈k++m,y∈A:=by
 obtain⟨a0,I,q,x,Q,c,v1,m,k,U,X,Y,Z,e5,J,e7,e8⟩:=W.vD.top;obtain⟨rfl,e⟩:=qu U;cases e;have R:=W.nd;simp only[OR,OA,PY]at R;obtain⟨⟨C,s,B⟩,⟨u,D⟩,l,M⟩:=R;obtain⟨j,_⟩:=e8 M;obtain⟨sx,ha⟩:=W.sc.at_;have G:∀ y o,H y=some o->y≠hl->upd H hl (.lst v) y=some o:=fun y o h n=>by rw[aq n];exact h
 have tp:∀ p xs,H p=some (.tup xs)->upd H hl (.lst v) p=some (.tup xs):=fun p xs h=>G _ _ h (cH h W.yu (by intro z;cases z));have F:∀ g:List Addr,(∀ y∈g,y∈A)->cO D0 g H (upd H hl (.lst v)):=fun g hg=>⟨fun y d o h=>G _ _ h (by rintro rfl;exact l (hg _ d)),tp,eD⟩
 have s1:=F m fun y d=>J y (PQ _ d);have s2:=F k fun y d=>J y (Pl _ d);have E:=G _ _ W.row u;rw[OZ]at j;have N:(k++m).Nodup:=by rw[OZ];exact⟨j.2.1,j.1,fun y d z hz e=>j.2.2 z hz y d e.symm⟩
 have f:∀ y∈k++m,y∈A:=fun y d=>J y (by simp only[OH]at d |-;exact d.symm);refine⟨I,q,x,Q,c,m,k,X,Y,fun z=>l (z▸e7),fun hs=>⟨⟨⟨sx,G _ _ ha s⟩,bB.of E,W.sc.le,W.sc.z9⟩,E,ai,e5.br s2,?_,?_,?_,hs⟩,Z.br _ _ _ s1,?_,f⟩;.simp only[OR,OA,PY];have L:∀ y∈k,y∈A:=fun y d=>f y (PQ _ d);exact⟨⟨C,s,fun z=>B (L _ z)⟩,⟨u,fun z=>D (L _ z)⟩,fun z=>l (L _ z),j.2.1⟩
 .have:=W.len;simp only[OB]at this;omega
 .cases top with
  | lst acc=>exact W.ok.2
  | tab acc ks=>exact W.ok.2.2
 .simp only[OR,OA,PY];exact⟨⟨C,s,fun z=>B (f _ z)⟩,⟨u,fun z=>D (f _ z)⟩,fun z=>l (f _ z),N⟩
theorem BM{n:Node}{top:dG}{a:List dG}{s:Bytes}(h:fx n top=none):behind (top::a) n s=none:=by
 cases top with
 | lst acc=>simp[fx]at h
 | tab acc ks=>simp only[fx,R8]at h;exact u0 h
theorem CV{n:Node}{top a:dG}{b:List dG}{s r:Bytes}(h:fx n top=some a)(hs:Ql16.skip s=Lc top::r):behind (top::b) n s=behind b (iD a) r:=by
 cases top with
 | lst acc=>simp only[fx,OC]at h;subst h;exact tD hs
 | tab acc ks=>simp only[fx,OI]at h;obtain⟨d,c,rfl⟩:=h;exact uO c hs
theorem Ge{n:Node}{top a:dG}{c:List dG}{s:Bytes}(h:fx n top=some a)(h1:∀ r,Ql16.skip s≠Lc top::r)(h2:∀ r,Ql16.skip s≠44::r):behind (top::c) n s=none:=by
 cases top with
 | lst acc=>exact vQ h1 h2
 | tab acc ks=>simp only[fx,OI]at h;obtain⟨d,b,rfl⟩:=h;exact wY b h1 h2
def NB(K:PySem.W.Frag)(t:bZ)(H:Hp)(a r:Addr)(b:Bytes)(i:Nat)(hl:Addr)(n:List dG)(k p:List Addr)(o:Option (Node×Bytes))(Q:VK)(E:XK):Prop:=
 (o=none->∀ d e,fj (a::hl::k) H e->E (.ref (t.c "Malformed")) d e) /\
 (∀ m j q h f g e,o=behind n m (b.drop j)->i<j->x9 K t e a r b j hl n h f->Rep t D0 e m q g->okN m->(a::r::hl::(f++g)).Nodup->(∀ y∈f++g,y∈k\/y∈p\/H y=none)->sz m+ir n+24 * (b.length - j)<=24 * b.length -> fj (a::hl::k) H e->hG H e->Q q e) /\
 (∀ l j h f e,o=ahead l (b.drop j)->i<j->x9 K t e a r b j hl l h f->(∀ y∈f,y∈k\/y∈p\/H y=none)->fj (a::hl::k) H e->hG H e->Q .ba e)
def pY(K:PySem.W.Frag)(t:bZ):Sp:=fun vs H Q E=>∃ a r b i hl top c us d n v e,vs=[.ref a,.ref hl,v]/\x9 K t H a r b i hl (top::c) us d/\Rep t D0 H n v e/\okN n/\(a::r::hl::(d++e)).Nodup/\sz n+ir (top::c)+24 * (b.length - i)<=24 * b.length /\ NB K t H a r b i hl c d e (behind (top::c) n (b.drop i)) Q E
theorem zd:T.az.jU.Ok P w mg base 10 (pY K t):=by
 refine T.az.jU.jO (fun vs H Q E h=>?_) (fun h8 A g8 s H vs Q E hr h=>?_);.obtain⟨a,r,b,i,hl,top,Z,us,fp,n,v,fv,rfl,_⟩:=h;rfl
 obtain⟨a,r,b,i,hl,top,Z,us,fp,n,v,fv,rfl,J,R,hn,nd,i8,h1,h2,h3⟩:=h;obtain⟨sx,ha⟩:=J.sc.at_;obtain⟨hd,dx,q,x,xd,c,v0,f1,f2,c0,hh,hx,_,_,_,a5,_⟩:=J.vD.top;have i0:=J.sc.z9;simp only[OR,OA,OH,PY]at nd;obtain⟨⟨b1,b0,c5,f9⟩,⟨e0,c7,g6⟩,⟨d9,g5⟩,g4⟩:=nd;refine⟨_,(af (T.az.jU.set 3 (cT ff (pv 1) (eK cR aw) (fun _ _=>rfl)))
  (af (aN (T.az.pj.cX (Ba T) hr.zz aH (ae (pv 3) (ae (pv 2) ah))))
  (af (aN (bL (pv 0) T.scan.aP T.scan.aJ.m (bb T) hr.zz T.scan.aJ.b .nil bg))
  (af (aK (ie (bK (lA (pv 0) T.scan.aP T.scan.bh.m (dE T) hr.zz T.scan.bh.b .nil bg (ae T.signs.zk.e ah)))) (af (aN (cp (pv 0) T.scan.aP T.scan.bc.m (dA T) hr.zz T.scan.bc.b aH (ae (aM (pv 3) rfl) ah)))
  (ag (ay (aM (CL OJ Sn So Dd (pv 1)) rfl)))) aD)
  (af (aN (bL (pv 0) T.scan.aP T.scan.aJ.m (bb T) hr.zz T.scan.aJ.b .nil bg))
  (af (aK (PW.pt (pN (aC aV (aM (aM (pv 3) rfl) rfl) T.kinds.mX.e (aE _)) (lh (bK (lA (pv 0) T.scan.aP T.scan.bh.m (dE T) hr.zz T.scan.bh.b .nil bg (ae (aM (pv 3) rfl) ah)))))) (ag (ay (aM (CL OJ Sn So Dd (pv 1)) rfl))) aD)
  (af (aN (T.az.iG.cX (nV T) hr.zz aH (ae (pv 0) (ae (pv 3) ah))))
  (ag (ay eX))))))))),?_⟩
 walk_at "r7";refine⟨us,bB.of J.yu,_,by rw[c0];exact qT _ _,?_⟩;refine⟨hd,v,v0,n,fv,top,Z,fp,rfl,by rw[<-c0];exact J.vD,R,hn,J.ok,g4,?_,fun f3 d H' kf=>⟨_,rfl,h1 (BM f3) d H' (kf.weak fun y C=>by simp[C])⟩,fun B I L H1 S1 g0 N a8 f7=>?_⟩;.exact QR (show _<=24 * 30000 by omega) (by decide)
 obtain⟨g7,i7,e2,b2,h7⟩:=FY hn J.ok I;have h5:=J.there;have c6:∀ y,(∃ o,H y=some o)->y∉fp->y∉fv->y∉L:=fun y ⟨o,ho⟩ z1 z2 z=>by
  rcases N y z with z | z | z;.exact z1 z
  .exact z2 z
  .rw[ho]at z;cases z
 have d0:=a8 _ _ ha c5;have b4:=a8 _ _ J.row c7;have d5:=a8 _ _ J.yu d9;have W1:Li K t H1 a r b i hl (B::Z) (v0++[.ref hd]) L:=⟨⟨⟨sx,d0⟩,bB.of b4,J.sc.le,J.sc.z9⟩,b4,by rw[<-c0];exact d5,S1,by simp only[OR,OA,PY];exact⟨⟨b1,b0,c6 _ ⟨_,ha⟩ c5 f9⟩,⟨e0,c6 _ ⟨_,J.row⟩ c7 g6⟩,c6 _ ⟨_,J.yu⟩ d9 g5,g0⟩,J.len,g7⟩
 refine⟨_,_,d0,rfl,a,r,b,i,rfl,W1.sc,fun j H2 i2 hj S2 k2=>?_⟩;have W2:=W1.go k2 S2;obtain⟨i4,d2⟩:=S2.at_;have i9:=J.size;have done:∀ jj D,fj (a::hl::fp) H D->hG H D->Li K t D a r b jj hl (B::Z) (v0++[.ref hd]) L->i<jj->behind (top::Z) n (b.drop i)=behind Z (iD B) (b.drop jj) ->
  Mi K "list" (V.ref hl) D/\∃ x,D hl=some (HO.lst x)/\∃ x4,x[x.length - 1]?=some x4/\∃ a,x4=V.ref a/\∃ x5 x6 x7,upd D hl (HO.lst x.dropLast) a=some (HO.ins x5 x6 x7)/\xn K x5/\da K x5 (Str.ofString "value")/\∃ x8,List.lookup (Str.ofString "value") x7=some x8/\Q x8 (upd D hl (HO.lst x.dropLast)):=by
  intro jj D k4 d4 l d3 e8;obtain⟨a3,q4,x4,c8,c4,g1,g2,W,p2,p3,p4,p5,p6,p7⟩:=l.pop;have jl:=l.sc.le;refine⟨.inl ⟨rfl,_,bB.of l.yu⟩,_,l.yu,.ref hd,by simp,hd,rfl,?_⟩;rw[QT];refine⟨_,_,_,by rw[aq p3];exact W,T.az.bX,T.az.bT,_,rfl,?_⟩;refine h2 (iD B) jj (.ref x4) v0 g2 g1 _ e8 d3 (p4 (by omega)) p5 e2 p6 (fun y C=>N y (p7 y C)) (by omega) (fun y u h n=>?_) (d4.upd);rw[aq (by rintro rfl;exact n (by simp))];exact k4 y u h n
 have c3:fj (a::hl::fp) H H2:=fun y u h n=>k2 y u (a8 y u h fun z=>n (by simp[z])) (by rintro rfl;exact n (by simp));have d6:hG H H2:=f7.trans (hG.fB (i:=i) k2 S2);have O:∀ {D G:Hp},fj (a::hl::fp) H D->Kp a D G->fj (a::hl::fp) H G:=fun k k' y u h n=>k' y u (k y u h n) (by rintro rfl;exact n (by simp));refine⟨_,_,d2,rfl,a,r,b,j,44,rfl,S2,fun b6=>⟨_,rfl,?_⟩,fun b6 H3 S3 k3=>⟨_,rfl,?_⟩⟩
 .rw[Oy (by decide)];obtain⟨h9,q2,x2,j0,c2,_,_,W,_⟩:=W2.pop;refine⟨_,_,d2,rfl,hd,rfl,_,_,_,W,T.az.bX,T.az.fP,_,rfl,a,r,b,j,Lc B,rfl,S2,fun hc=>⟨_,rfl,h1 ?_ none H2 c3⟩,fun hc H3 S3 k3=>?_⟩;.exact Ge I (fun s z=>nR (by rw[b2]at hc;exact hc) s (by rw[hj,z])) (fun s z=>nR b6 s (by rw[hj,z]))
  .exact done (j+1) H3 (O c3 k3) (d6.trans (hG.fB (i:=j) k3 S3)) (W2.go k3 S3) (by omega) (CV I (by rw[<-hj,drop_cons hc,b2]))
 .rw[Ox (by decide)];obtain⟨i5,e7⟩:=S3.at_;refine⟨_,_,e7,rfl,a,r,b,j+1,rfl,S3,fun j2 D h6 a0 S4 k4=>?_⟩;have l:=(W2.go k3 S3).go k4 S4;have d7:=O (O c3 k3) k4;have a7:=(d6.trans (hG.fB (i:=j) k3 S3)).trans (hG.fB (i:=j) k4 S4);have a4:Ql16.skip (b.drop i)=44::b.drop (j+1):=by rw[<-hj,drop_cons b6]
  obtain⟨i6,b7⟩:=S4.at_;obtain⟨a3,q4,x4,c8,c4,g1,g2,W,p2,p3,_⟩:=l.pop;refine⟨hd,rfl,_,_,_,W,T.az.bX,T.az.bT,_,rfl,x4,rfl,_,_,_,p2,T.kinds.aR,T.kinds.bj,_,rfl,?_⟩;have e9:hd≠a:=fun z=>c5 (z▸a5);have b8:r≠hd:=fun z=>c7 (z▸a5);have i3:=S4.le;have b5:∀ {G:Hp},fj [a,hd] D G->fj (a::hl::fp) H G:=fun k y u h n=>k y u (d7 y u h n) (by simp only[OA,Pf,Qs,PY]at n |-;exact⟨n.1,fun z=>n.2.2 (z▸a5)⟩);have M:=l.nd;simp only[OR,OA,PY]at M;have e4:∀ {G:Hp},fj [a,hd] D G->∀ p xs,D p=some (.tup xs)->G p=some (.tup xs):=fun k p xs h=>k _ _ h (by simp only[OA,Pf,Qs,PY];exact⟨cH h b7 (by intro z;cases z),cH h W (by intro z;cases z)⟩);cases top with
  | lst acc=>
    obtain rfl:dG.lst (acc++[n])=B:=by simpa[fx]using I
    have e1:ir (.lst (acc++[n])::Z)=sz (iD (.lst (acc++[n])))+ir Z:=by simp only[ir,iD,sz]
    refine⟨rfl,?_⟩;rw[Oy (by simp[knd])];refine⟨_,_,b7,rfl,hd,rfl,_,_,_,W,T.az.bX,T.az.fP,_,rfl,a,r,b,j2,93,rfl,S4,fun hc=>⟨_,rfl,?_⟩,fun hc G S5 k5=>⟨_,rfl,?_⟩⟩
    .rw[Ox (by decide)];refine⟨a,r,b,j2,hd,a3,x4,_,q4,c8,5,c4,0,.ba,rfl,S4,W,p2,fun _ j' G d3 a6 S5 f c1 b9=>?_,fun z=>absurd z (by decide),fun z=>absurd z (by decide)⟩;have e5:=S5.le;refine h3 (.lst (acc++[n])::Z) j' (v0++[.ref hd]) L G ?_ (by omega) ⟨S5,f _ _ l.row (by simp[OL b1,b8]),f _ _ l.yu (by simp[OL b0,OL p3]),l.vD.br ⟨fun y C o h=>?_,e4 f,eD⟩,l.nd,l.len,l.ok,by omega⟩ N (b5 f) (a7.trans c1);.rw[ri a4 (fun s z=>nR hc s (by rw[a0,z])),a6,a0,rJ]
     .by_cases z:y=hd;.rw[z]at h |-;rw[b9];exact h
      .exact f y o h (by simp only[OA,Pf,Qs,PY];exact⟨fun e=>M.1.2.2 (e▸C),z⟩)
    .rw[Oy rfl];exact done (j2+1) G (O d7 k5) (a7.trans (hG.fB (i:=j2) k5 S5)) (l.go k5 S5) (by omega) (rN a4 (by rw[<-a0,drop_cons hc]))
  | tab acc ks=>
    obtain⟨es,hp,rfl⟩:∃ es,Ql16.put n ks acc=some es/\dG.tab es ks=B:=by simpa[fx]using I
    refine⟨rfl,?_⟩;rw[Ox (by simp[knd]),Ox (by decide)];refine⟨a,r,b,j2,hd,a3,x4,_,q4,c8,6,c4,0,.ba,rfl,S4,W,p2,fun z=>absurd rfl z,fun _ U G f=>⟨_,rfl,h1 ?_ none G (b5 f)⟩,fun _ a9 s' U j' q' ku G a6 S5 f c1 b9 f5 e6 f6=>?_⟩;.exact r0 hp a4 (by rw[a0,rH]at U;exact U)
    have e5:=S5.le;have b3:Ql16.keys Ql16.PARTS (b.drop (j+1))=some (a9,61::s'):=by rw[a0,rH]at U;exact U
    have kz:=lQ _ _ _ _ b3;have ln:(61::s').length=s'.length+1:=rfl;have lj:(b.drop j').length<=s'.length:=by rw[a6];exact aY s'
    simp only[O6]at kz lj;obtain⟨i1,c9,q,x,kv,v1,f1,f2,r1,r2,r3,r4,r5,r6,r7⟩:=l.vD;obtain⟨rfl,eh⟩:=qu r1;cases eh;rw[r2]at W;obtain⟨rfl,rfl⟩:c9=a3/\x=x4:=by simp only[hO,hf,OC,HO.ins.injEq,OT,OG,V.ref.injEq,PZ,P5]at W;exact⟨W.1,W.2.1⟩
    have Y:∀ y,y∈f1++f2->y∈L:=fun y C=>by rw[r7];simp only[OA];exact .inr (.inr C)
    have d8:L.Nodup:=M.2.2.2;rw[r7,OR,OR]at d8;obtain⟨n1,n2,n3⟩:=d8;simp only[OA,PY]at n1;have e3:∀ g:List Addr,(∀ y∈g,y∈f1++f2)->cO D0 g D G:=fun g hg=>⟨fun y C o h=>f y o h (by simp only[OA,Pf,Qs,PY];exact⟨fun e=>M.1.2.2 (Y _ (e▸hg y C)),fun e=>n1.2 (e▸hg y C)⟩),e4 f,eD⟩
    have X:∀ y o,D y=some o->q'≠y:=fun y o h e=>by rw[<-e,f6]at h;cases h
    have g9:∀ y∈L,q'≠y:=fun y C=>by obtain⟨o,ho⟩:=l.vD.there y C;exact X y o ho
    have e1:ir (.tab es a9::Z)=sz (iD (.tab es ks))+mO a9+ir Z:=by simp only[ir,iD,sz]
    refine h3 (.tab es a9::Z) j' (v0++[.ref hd]) (hd::q'::(f1++f2)) G ?_ (by omega) ⟨S5,f _ _ l.row (by simp[OL b1,b8]),f _ _ l.yu (by simp[OL b0,OL p3]),?_,?_,l.len,⟨l.ok.1,og _ _ _ _ U,l.ok.2.2⟩,by omega⟩ ?_ (b5 f) (a7.trans c1);.rw[tM hp a4 b3,a6]
    .exact⟨hd,c9,q',x,ku,v0,f1,f2,rfl,b9,f5,e6,r5.br (e3 _ fun y C=>PQ _ C),r6.br (e3 _ fun y C=>Pl _ C),rfl⟩
    .have q1:=X _ _ b7;have q2:=X _ _ l.row;have q3:=X _ _ l.yu;have q4:q'∉f1++f2:=fun z=>g9 _ (Y _ z) rfl;have q5:q'≠hd:=X _ _ r2;rw[OR,OR,OR,OR,OR];simp only[OA,PY];exact⟨⟨b1,b0,OL e9,OL q1,fun z=>M.1.2.2 (Y _ z)⟩,⟨e0,b8,OL q2,fun z=>M.2.1.2 (Y _ z)⟩,⟨OL p3,OL q3,fun z=>M.2.2.1 (Y _ z)⟩,⟨OL q5,n1.2⟩,q4,n3⟩
    .intro y C;simp only[OA]at C;rcases C with z | z | z;.exact .inl (z▸a5)
     .refine .inr (.inr ?_);rw[z];cases hq:H q' with
      | none=>rfl
      | some u=>obtain⟨u4,h4⟩:=a7 _ _ hq;exact absurd rfl (X _ _ h4)
     .exact N y (Y y z)
local macro_rules | `(tactic| walk_at "r9") => `(tactic| simp only [rE,nB,mu,kX,rX,mq,Cg,GX,hU,tC,tB,uB,nJ,oO,tU,FC,uv,GH,iR,gN,kH,jY,kg,iU,l8,iT,ml,tT,uF,hB,vN,Fl,pG,jd,vd,Ka,tQ,vL,GF,zW,gm,jr,zL,jz,Bv,yL,Fg,Ht,GQ,rI,yb,rU,wW,Fb,jB,B9,kc,ta,L2.start,tA,nS,Im,AG,Jw,Hm,
  OP,PX,OS,Pp,Pn,OB,Pa,List.replicate,Pj,Pk,OC,V.int.injEq,V.bl.injEq,V.str.injEq,V.ref.injEq,OT,HO.ins.injEq,Ci,LG,
  Ph,Px,Pq,QI,QB,Qw,PZ,P5,Q6,Nat.reduceAdd,Nat.reduceSub,Qe,Qg])
theorem Rep.isRef(h:Rep t D H n v fp):∃ x,v=.ref x:=by
 cases n with
 | text _=>obtain⟨x,_,_,_,e,_⟩:=h;exact⟨x,e⟩
 | whole _=>obtain⟨x,_,_,e,_⟩:=h;exact⟨x,e⟩
 | real _=>obtain⟨x,_,_,e,_⟩:=h;exact⟨x,e⟩
 | truth _=>obtain⟨x,_,_,e,_⟩:=h;exact⟨x,e⟩
 | day _=>obtain⟨x,_,_,e,_⟩:=h;exact⟨x,e⟩
 | list _=>obtain⟨x,_,_,_,_,_,e,_⟩:=h;exact⟨x,e⟩
 | rows _=>obtain⟨x,_,_,_,_,_,e,_⟩:=h;exact⟨x,e⟩
 | table _ _=>obtain⟨x,_,_,_,_,_,e,_⟩:=h;exact⟨x,e⟩
def L9(K:PySem.W.Frag)(t:bZ)(f:Hp)(a r:Addr)(b:Bytes)(i:Nat)(hl:Addr)(j:Nat)(v:V)(H:Hp):Prop:=∃ n e vs c d,x9 K t H a r b j hl e vs c/\Rep t D0 H n v d/\okN n/\(a::r::hl::(c++d)).Nodup/\(∀ y∈c++d,f y=none)/\sz n+ir e+24 * (b.length - j)<=24 * b.length/\Ql16.valueOf (b.drop i)=behind e n (b.drop j)
def FU(K:PySem.W.Frag)(t:bZ)(e:Hp)(a r:Addr)(b:Bytes)(i:Nat)(hl:Addr)(j:Nat)(H:Hp):Prop:=∃ d vs c,x9 K t H a r b j hl d vs c/\(∀ y∈c,e y=none)/\Ql16.valueOf (b.drop i)=ahead d (b.drop j)
theorem Kp.more(k:Kp a b H1)(e:fj (a::hl::fp) H1 c)(d:b hl=none)(hf:∀ y∈fp,b y=none):Kp a b c:=fun y u h n=>e y u (k y u h n) fun z=>by
 simp only[OA]at z;rcases z with z | z | z;.exact n z
 .rw[z,d]at h;cases h
 .rw[hf y z]at h;cases h
def xh(K:PySem.W.Frag)(t:bZ):Sp:=fun vs H Q E=>∃ a r b i,vs=[.ref a]/\aQ K t H a r b i/\a≠r/\H r=some (.lst (bI b)) /\
 (Ql16.valueOf (b.drop i)=none->∀ d e,Kp a H e->E (.ref (t.c "Malformed")) d e) /\
 ∀ n rest,Ql16.valueOf (b.drop i)=some (n,rest)->∀ j e v,b.drop j=rest->aQ K t e a r b j->Kp a H e->oY t H n v e->Q v e
theorem HN(u:Kp a m H)(A:m hl=none)(h:FU K t m a r b i hl j H)(N:Ql16.valueOf (b.drop i)=none->∀ d f,Kp a m f->E (.ref (t.c "Malformed")) d f)(I:∀ l v f,j<l->l<=b.length->Kp a m f->(L9 K t m a r b i hl l v f\/v=.ba/\FU K t m a r b i hl l f)->Q v f):mZ K t [.ref a,.ref hl] H Q E:=by
 obtain⟨J,us,G,L,q,e⟩:=h;refine⟨a,r,b,j,hl,J,us,G,rfl,L,fun s d f k=>N (by rw[e];exact s) d f (u.more k A q),fun n l v M f s B o R W p C O k U=>?_,fun D l F x f s B o C k U=>?_⟩
 .refine I l v f B o.sc.le (u.more k A q) (.inl ⟨n,J,us,G,M,o,R,W,p,fun y g=>?_,O,by rw[e];exact s⟩);rw[OH]at g;rcases g with g | g;.exact q y g
  .rcases C y g with z | z;.cases z
   .refine u.free z ?_;rintro rfl;simp only[OR,OA,OH,PY]at p;exact p.1.2.2.2 g
 .refine I l .ba f B o.sc.le (u.more k A q) (.inr ⟨rfl,D,F,x,o,fun y g=>?_,by rw[e];exact s⟩);rcases C y g with z | z | z;.exact q y z
  .cases z
  .refine u.free z ?_;rintro rfl;have p:=o.nd;simp only[OR,OA,PY]at p;exact p.1.2.2 g
theorem LU{h H:Hp}{a r:Addr}{b:Bytes}{i:Nat}{hl:Addr}{j:Nat}{top:dG}{D:List dG}{us:List V}{n:Node}{v:V}{u A:List Addr}{Q:VK}{E:XK}(C:Kp a h H)(I:h hl=none)(Y:x9 K t H a r b j hl (top::D) us u)(R:Rep t D0 H n v A)(on:okN n)
 (F:(a::r::hl::(u++A)).Nodup) (U:∀ y∈u++A,h y=none) (hz:sz n+ir (top::D)+24 * (b.length - j)<=24 * b.length) (e:Ql16.valueOf (b.drop i)=behind (top::D) n (b.drop j)) (Z:Ql16.valueOf (b.drop i)=none->∀ d f,Kp a h f->E (.ref (t.c "Malformed")) d f)
 (W:∀ m v f,j<m->m<=b.length->Kp a h f->(L9 K t h a r b i hl m v f\/v=.ba/\FU K t h a r b i hl m f)->Q v f):pY K t [.ref a,.ref hl,v] H Q E:=by
 have g:∀ y∈u,h y=none:=fun y l=>U y (PQ _ l);have x:∀ y∈A,h y=none:=fun y l=>U y (Pl _ l);refine⟨a,r,b,j,hl,top,D,us,u,n,v,A,rfl,Y,R,on,F,hz,fun B d f k=>Z (by rw[e];exact B) d f (C.more k I g),fun n' m v' q o G f B J s X N p M L k kd=>?_,fun O m q o f B J s M k kd=>?_⟩
 .refine W m v' f J s.sc.le (C.more k I g) (.inl ⟨n',D,q,o,G,s,X,N,p,fun y l=>?_,L,by rw[e];exact B⟩);rcases M y l with z | z | z;.exact g y z
  .exact x y z
  .refine C.free z ?_;rintro rfl;rw[OR]at p;exact p.1 (OM _ (OM _ l))
 .refine W m .ba f J s.sc.le (C.more k I g) (.inr ⟨rfl,O,q,o,s,fun y l=>?_,by rw[e];exact B⟩);rcases M y l with z | z | z;.exact g y z
  .exact x y z
  .refine C.free z ?_;rintro rfl;have F:=s.nd;simp only[OR,OA,PY]at F;exact F.1.2.2 l
theorem w8:T.az.fM.Ok P w mg base 12 (xh K t):=by
 refine T.az.fM.jO (fun vs H Q E h=>?_) (fun b1 A b0 s H vs Q E hr h=>?_);.obtain⟨a,r,b,i,rfl,_⟩:=h;rfl
 obtain⟨a,r,b,i,rfl,S,a7,f,h1,h2⟩:=h;obtain⟨sx,ha⟩:=S.at_;refine⟨_,(af (T.az.fM.set 1 (aZ ah))
  (ag (eG PM (bK qw) (af (T.az.fM.set 2 (T.az.iH.cX (we T) hr.zz aH (ae (pv 0) (ae (pv 1) ah))))
  (af (eG PM (PW.pt (pN (eV (qz (pv 2))) (lh (aC hW (aT aO (by rfl) T.hJ.dh O5 (ae (pv 1) ah)) aw (aE _))))) (ag (T.az.fM.set 2 (T.az.jU.cX (zd T) hr.zz aH (ae (pv 0) (ae (pv 1) (ae (pv 2) ah)))))))
  (ag (aK (eV (qz (pv 2))) (ag (ay (pv 2))) aD))))))),?_⟩
 walk_at "r9";refine⟨by decide,fun hl c=>?_⟩;have s0:aB H (upd H hl (.lst [])):=aB.new c;have O:hl≠a:=(aj ha c).symm;have U:hl≠r:=(aj f c).symm;have ih:=S.le;obtain⟨W,M⟩:∃ W:Nat->L2.St->Hp->Prop,W=(fun m F l=>∃ j w,m=b.length - j/\F=[some (.ref a),some (.ref hl),w]/\j<=b.length/\Kp a H l/\FU K t H a r b i hl j l):=⟨_,rfl⟩
 refine⟨W,⟨b.length - i,by rw[M];exact⟨i,none,rfl,rfl,ih,Kp.same s0,[],[],[],⟨S.same s0,s0 _ _ f,ai,⟨rfl,rfl⟩,by simp[a7,OL O,OL U],by decide,OF,by show 0+_<=_;omega⟩,by simp,(Gm _).symm⟩⟩,fun m F l hw=>?_⟩;have C:=hw;rw[M]at C;obtain⟨j,w,rfl,rfl,jb,kp,vn⟩:=C;rw[Oy OF];refine⟨fun u z=>∃ g,g<b.length - j/\W g u z,fun _ _ h=>h,.ref a,rfl,.ref hl,rfl,HN kp c vn (fun hn d z k=>⟨_,rfl,h1 hn d z k⟩) (fun p v1 z N a0 a5 X=>?_)⟩;obtain⟨I,o⟩:∃ I:Nat->L2.St->Hp->Prop,I=(fun m F l=>∃ p v,m=b.length - p/\F=[some (.ref a),some (.ref hl),some v]/\j<p/\p<=b.length/\Kp a H l/\(L9 K t H a r b i hl p v l\/v=.ba/\FU K t H a r b i hl p l)):=⟨_,rfl⟩
 refine⟨I,⟨_,by rw[o];exact⟨p,v1,rfl,rfl,N,a0,a5,X⟩⟩,fun m F L D=>?_⟩;rw[o]at D;obtain⟨B,v2,rfl,rfl,b2,a3,q,Y⟩:=D;have a9:∀ (_:FU K t H a r b i hl B L),∃ g,g<b.length - j/\W g [some (.ref a),some (.ref hl),some .ba] L:=fun hn=>⟨b.length - B,by omega,by rw[M];exact⟨B,_,rfl,rfl,a3,q,hn⟩⟩
 rcases Y with⟨n,st,us,fp,J,G,R,on,nd,fr,hz,e⟩ | ⟨rfl,hn⟩
 .obtain⟨x,rfl⟩:=R.isRef;simp only[Ef,hU,Pj,Pk,OC,Ph];have t1:(!decide (V.ref x=V.ba))=true:=by simp
  rw[t1];refine⟨true,rfl,?_⟩;rw[Oy rfl];refine⟨hl,rfl,us,.inl (bB.of G.yu),?_⟩;have lu:=G.vD.len;cases st with
  | nil=>
    rw[Ox (by rw[lu];decide)];refine⟨true,rfl,?_⟩;rw[Oy rfl];have a8:J.Nodup:=by have:(a::r::hl::(fp++J))=(a::r::hl::fp)++J:=rfl;rw[this,OZ]at nd;exact nd.2.1
    exact h2 n (b.drop B) e B L _ rfl G.sc q ⟨J,R,a8,fun y hy=>fr y (Pl _ hy)⟩
  | cons top st=>rw[Oy (by rw[lu];simp)];refine⟨fun u H3=>∃ g,g<b.length - B/\I g u H3,fun _ _ h=>h,LU q c G R on nd fr hz e (fun hn d z k=>⟨_,rfl,h1 hn d z k⟩) (fun j3 v3 H3 b3 a4 a6 Z=>?_)⟩;refine⟨b.length - j3,by omega,?_⟩;rw[o];exact⟨j3,v3,rfl,rfl,by omega,a4,a6,Z⟩
 .simp only[Ef,hU,Pj,Pk,OC,Ph];have t1:(!decide True)=false:=by simp
  rw[t1];refine⟨false,rfl,?_⟩;rw[Ox (by decide),Ox (by decide)];refine⟨false,rfl,?_⟩;rw[Ox (by decide)];exact a9 hn
theorem HU{a:Addr}{xs:List V}{k:Nat}{g:TG}{r:TT}{o:TE}{j:L2.St}{vs:List Nat}{Q:VK}{H:Hp}(A:j[k]?=some (some (.ref a)))(hx:bB K H a xs)(c:Addr->Nat->Hp->Prop)(s:∀ D,H D=none->c D 0 (upd H D (.lst [])))(hl:∀ D i H,i<=xs.length->c D i H->bB K H a xs)
 (hs:∀ D i x H,xs[i]?=some x->c D i H->g x (wipe j vs) H fun e f=>wipe e vs=wipe j vs/\r e f fun b l=>if b=true then o e l fun y n=>∃ d,n D=some (.lst d)/\d.length<sizeLine/\c D (i+1) (upd n D (.lst (d++[y]))) else c D (i+1) l)
 (hd:∀ D H,c D xs.length H->Q (.ref D) H):Mc (KN K (hU k)) g r o vs j H Q:=by
 refine⟨.ref a,A,a,rfl,⟨xs,hx⟩,fun D u=>⟨fun i m H=>m=xs.length - i/\i<=xs.length/\c D i H,⟨_,rfl,O1 _,s D u⟩,?_⟩⟩;rintro i m H1 ⟨rfl,v,p⟩;have q:=hl D i H1 v p;rcases RZ i xs.length with h | h;.refine .inr ⟨⟨xs,xs[i],q,O7 h⟩,fun f=>c D (i+1) f,fun f z=>⟨xs.length - (i+1),by omega,rfl,h,z⟩,?_⟩;rintro x f ⟨rfl,y⟩;exact hs D i x _ (y xs q) p
 .obtain rfl:i=xs.length:=by omega
  exact .inl ⟨⟨xs,q,OE _⟩,hd D H1 p⟩
def wz(K:PySem.W.Frag):Sp:=fun vs H Q _=>∃ p,∃ b:Bytes,vs=[.ref p]/\H p=some (.lst (bI b))/\b.length<=30000/\∀ a,aB H a->Q (.bl (!b.all Ql16.lineByte)) a
theorem wx:T.au.gg.Ok P w mg base 2 (wz K):=by
 refine T.au.gg.fi (fun vs H Q E h=>?_) (fun G A r s H vs Q E L h=>?_);.obtain⟨p,b,rfl,_⟩:=h;rfl
 obtain⟨p,b,rfl,C,O,h1⟩:=h;refine⟨_,(ag (ay (aT (Lq rfl) (by rfl) T.hJ.MK boot_any (ae (xS (own:=[("sign",1)]) rfl T.au.gg.s.nd (jW (pv 0)) (by exact(show qo ["row","sign"] (bf (top 143)) _ _ from⟨rfl,by decide +kernel,by decide +kernel,by decide +kernel,by decide +kernel⟩)) (fun _ _ _ _ _=>(cA (i:=1) T.au.gg.s.nd rfl (Ql rfl))) (fun _ _ _ _ _=>oh) (fun _ _ _ _ _=>(Di (T.signs.jh.cl (oR T) L.zz (ae (pv 1) ah)) (iw (ck je (pv 1) T.signs.Kt.e (aE _)))))) ah)))),?_⟩;walk_at "r7";refine HU (a:=p) (xs:=bI b) rfl (bB.of C) (fun D i f=>aB H f/\H D=none/\f D=some (.lst (((b.take i).map fun c=>!Ql16.lineByte c).map V.bl))) (fun D k=>⟨aB.new k,k,ai⟩) (fun D i f R h=>bB.of (h.1 _ _ C)) (fun D i x f hx q=>?_) (fun D f q=>?_)
 .obtain⟨v,k,j⟩:=q;obtain⟨c,hc,rfl⟩:∃ c:UInt8,b[i]?=some c/\V.int (c.toNat:Int)=x:=by
   simpa[bI]using hx
  have U:i<b.length:=fu hc;have m:∀ y:Bool,y=(!Ql16.lineByte c)->∃ d,f D=some (HO.lst d)/\d.length<sizeLine/\aB H (upd f D (HO.lst (d++[.bl y])))/\H D=none/\upd f D (HO.lst (d++[.bl y])) D=some (HO.lst (List.map V.bl (List.map (fun c=>!Ql16.lineByte c) (List.take (i+1) b)))):=fun y M=>by
   refine⟨_,j,?_,fun z u h=>by rw[aq (aj h k)];exact v _ _ h,k,?_⟩;.rw[O0,O0,Pg];exact dR (by omega)
   .rw[ai,PN,hc,M];simp
  generalize J:(fun y o=>∃ d,o D=some (HO.lst d)/\d.length<sizeLine/\aB H (upd o D (HO.lst (d++[y])))/\H D=none/\upd o D (HO.lst (d++[y])) D=some (HO.lst (List.map V.bl (List.map (fun c=>!Ql16.lineByte c) (List.take (i+1) b)))))=B;simp only[wipe,Dh];walk_at "r7";rw[Oy OF];subst J;have F:((c.toNat:Int)=9)↔c=9:=toNat_eq (n:=9) (by decide);have g:((c.toNat:Int)=127)↔c=127:=toNat_eq (n:=127) (by decide);cases l:gz (c.toNat:Int) with
  | false=>
    rw[Ox (by decide)];refine m false ?_;unfold gz at l;simp only[SJ,Rq,g]at l;have z:32<=c.toNat:=by omega
    simp[Ql16.lineByte,z,l.2]
  | true=>
    rw[Oy rfl];refine m _ ?_;unfold gz at l;simp only[SA,Pc,g]at l;by_cases e:c=9;.subst e;decide
    .have I:¬ (c.toNat:Int)=9:=fun z=>e (F.mp z);rcases l with z | z
     .have N:¬ 32<=c.toNat:=by omega
      simp[Ql16.lineByte,N,e,I]
     .subst z;decide
 .obtain⟨v,k,j⟩:=q;refine⟨D,_,rfl,bB.of j,?_⟩;have e:((b.take (bI b).length).map fun c=>!Ql16.lineByte c).any id=!b.all Ql16.lineByte:=by
   have:(bI b).length=b.length:=by simp[bI]
   rw[this,QQ,List.any_map,List.not_all_eq_any_not];rfl
  rw[e];exact h1 f v
def sF(s:Bytes):Option ((List Bytes×Node)×Bytes):=(jf 61 (Ql16.keys Ql16.PARTS s)).bind fun x=>(Ql16.valueOf (Ql16.skip x.2)).map fun y=>((x.1,y.1),y.2)
theorem DD(h:Ql16.skip b=[]\/∃ r,Ql16.skip b=35::r):Ql16.lineOf b=some .nothing:=by
 unfold Ql16.lineOf;rcases h with h | ⟨r,h⟩;.rw[h]
 .rw[h];split;.rfl
  .rfl
  .rename_i e;simp at e
  .rename_i e;simp at e
  .rename_i e _ _;exact absurd rfl (e _)
theorem Aj(h:Ql16.skip b=91::r):Ql16.lineOf b=(sR r).bind fun x=>if Ql16.ends x.2=true then some (if x.1.1=true then .row x.1.2 else .opens x.1.2) else none:=by
 unfold Ql16.lineOf;rw[h];split;.rename_i e;simp at e
 .rename_i e;simp at e
 .rename_i s e;simp only[OT,PZ]at e;subst e;have a:sR (91::s)=(jf 93 (jf 93 (Ql16.keys Ql16.PARTS s))).map fun x=>((true,x.1),x.2):=by
   unfold sR;split;.rename_i e;simp only[OT,PZ]at e;subst e;rfl
   .rename_i e;exact absurd rfl (e _)
  rw[a];cases f:Ql16.keys Ql16.PARTS s with
  | none=>rfl
  | some x=>
    obtain⟨g,u⟩:=x;unfold jf;split;.rename_i e;simp only[OC,OG]at e;obtain⟨rfl,rfl⟩:=e;simp
    .rename_i hn;cases u with
     | nil=>rfl
     | cons c u=>
       by_cases hc:c=93
       .subst hc;cases u with
        | nil=>simp
        | cons d u=>
          by_cases hd:d=93;.subst hd;exact absurd rfl (hn _ _)
          .simp[hd]
       .simp[hc]
 .rename_i s hn e;simp only[OT,PZ]at e;subst e;rw[qP (fun s e=>hn s e)];cases f:Ql16.keys Ql16.PARTS r with
  | none=>rfl
  | some x=>
    obtain⟨g,u⟩:=x;unfold jf;split;.rename_i e;simp only[OC,OG]at e;obtain⟨rfl,rfl⟩:=e;simp
    .rename_i hn;cases u with
     | nil=>rfl
     | cons c u=>
       by_cases hc:c=93;.subst hc;exact absurd rfl (hn _ _)
       .simp[hc]
 .rename_i e;exact absurd rfl (e _)
theorem CJ(a:Ql16.skip b≠[])(h1:∀ r,Ql16.skip b≠35::r)(h2:∀ r,Ql16.skip b≠91::r):Ql16.lineOf b=(sF (Ql16.skip b)).bind fun x=>if Ql16.ends x.2=true then some (.sets x.1.1 x.1.2) else none:=by
 unfold Ql16.lineOf sF;split;.rename_i e;exact absurd e a
 .rename_i e;exact absurd e (h1 _)
 .rename_i e;exact absurd e (h2 _)
 .rename_i e;exact absurd e (h2 _)
 .cases d:Ql16.keys Ql16.PARTS (Ql16.skip b) with
  | none=>rfl
  | some x=>
    obtain⟨g,u⟩:=x;unfold jf;split
    .rename_i e;cases e;simp only[Pd];rw[Oy OF,Pd];dsimp only;cases f:Ql16.valueOf (Ql16.skip _) with
     | none=>rfl
     | some y=>rfl
    .rename_i hn;cases u with
     | nil=>rfl
     | cons c u=>
       by_cases hc:c=61;.subst hc;exact absurd rfl (hn _ _)
       .simp[hc]
theorem Ke{b:Bytes}{j i:Nat}(h:b.drop j=Ql16.skip (b.drop i)):Ql16.ends (b.drop i)=decide (b[j]?=none\/b[j]?=some 35):=by
 unfold Ql16.ends;rw[<-h];cases a:b[j]? with
 | none=>rw[drop_nil a];simp
 | some c=>rw[drop_cons a];simp;rfl
def qb(t:bZ)(H:Hp)(l:Ql16.Line)(v:V)(a:Hp):Prop:=∃ x b,v=.ref x/\H x=none/\match l with
 | .nothing=>∃ q,a x=some (.ins (t.c "Line") b (lf (.int 0) q .ba))
 | .opens ks=>∃ q,a x=some (.ins (t.c "Line") b (lf (.int 1) q .ba))/\fc H ks q a
 | .row ks=>∃ q,a x=some (.ins (t.c "Line") b (lf (.int 2) q .ba))/\fc H ks q a
 | .sets ks n=>∃ q u,a x=some (.ins (t.c "Line") b (lf (.int 3) q u))/\fc H ks q a/\oY t H n u a
def tr(K:PySem.W.Frag)(t:bZ):Sp:=fun vs H Q E=>∃ a r b i,vs=[.ref a]/\aQ K t H a r b i/\a≠r/\H r=some (.lst (bI b)) /\
 (sF (b.drop i)=none->∀ d e,Kp a H e->E (.ref (t.c "Malformed")) d e) /\
 ∀ x rest,sF (b.drop i)=some (x,rest)->∀ j e v,b.drop j=rest->aQ K t e a r b j->Kp a H e->qb t H (.sets x.1 x.2) v e->Q v e
theorem fc.after(i:fc H ks q H1)(S:aQ K t H1 a r b j)(ha:∃ o,H a=some o)(k:Kp a H1 d):fc H ks q d:=by obtain⟨p,us,e,f,c,g⟩:=i;obtain⟨o,h⟩:=ha;exact⟨p,us,e,k _ _ f (aj h c).symm,c,g.mono (Kp.tup S k)⟩
theorem tE:T.au.gP.Ok P w mg base 13 (tr K t):=by
 refine T.au.gP.jO (fun vs H Q E h=>?_) (fun a4 A a3 s H vs Q E j h=>?_);.obtain⟨a,r,b,i,rfl,_⟩:=h;rfl
 obtain⟨a,r,b,i,rfl,S,B,k,h1,h2⟩:=h;obtain⟨sx,ha⟩:=S.at_;refine⟨_,(af (T.au.gP.set 1 (T.aF.ft.cX (jo T) j.zz aH (ae (pv 0) ah)))
  (af (aN (cp (pv 0) T.scan.aP T.scan.bc.m (dA T) j.zz T.scan.bc.b aH (ae T.signs.Bj.e ah)))
  (af (aN (bL (pv 0) T.scan.aP T.scan.aJ.m (bb T) j.zz T.scan.aJ.b .nil bg))
  (ag (ay (gQ T.au.ug (js T) j.zz rfl T.au.zp T.au.gA.b .nil bg (ae T.au.xX.e (ae (pv 1) (ae (T.az.fM.cX (w8 T) j.zz aH (ae (pv 0) ah)) ah))))))))),?_⟩
 walk_at "r7";refine⟨r,b,i,S,fun hn F k'=>⟨_,rfl,h1 (by unfold sF;rw[hn];rfl) none F k'⟩,fun ks rest X Z H1 q O G k1 nk=>?_⟩;obtain⟨a7,I⟩:=G.at_;rw[<-O]at X;refine⟨_,_,I,rfl,a,r,b,Z,61,rfl,G,fun hc=>⟨_,rfl,h1 (by unfold sF;rw[qH X hc];rfl) none H1 k1⟩,fun hc H2 S2 k2=>?_⟩;obtain⟨a8,J⟩:=S2.at_;have Y:sF (b.drop i)=(Ql16.valueOf (Ql16.skip (b.drop (Z+1)))).map fun y=>((ks,y.1),y.2):=by unfold sF;rw[nX X hc];rfl
 refine⟨_,_,J,rfl,a,r,b,Z+1,rfl,S2,fun j3 H3 a5 U S3 k3=>?_⟩;rw[<-U]at Y;have f:=k1.trans (k2.trans k3);refine⟨a,r,b,j3,rfl,S3,B,f _ _ k (OL B),fun hn d F k'=>⟨_,rfl,h1 (by rw[Y,hn];rfl) d F (f.trans k')⟩,fun n g hn j4 H4 v W S4 k4 nv=>?_⟩;intro x D hx N a6;refine⟨x,D,_,_,_,rfl,ai,rfl,?_⟩;rw[cx];have u:=f.trans k4;have C:aB H4 (upd (upd H4 D (.own x)) x (.ins (t.c "Line") D (lf (.int 3) q v))):=fun c o z=>by rw[aq (aj z hx),aq (aj z N)];exact z
 obtain⟨o4,M⟩:=S4.there;have a0:=nk.after G ⟨_,ha⟩ ((k2.trans k3).trans k4);refine h2 (ks,n) g (by rw[Y,hn];rfl) j4 _ _ W (S4.same C) (u.trans (Kp.same C)) ⟨x,D,rfl,u.free hx (aj M hx).symm,q,v,ai,?_,?_⟩;.obtain⟨p,us,e1,e2,e3,e4⟩:=a0;exact⟨p,us,e1,C _ _ e2,e3,e4.mono fun _ _ z=>C _ _ z⟩
 .obtain⟨fv,R,nd,fr⟩:=nv;refine⟨fv,Rep.br _ _ _ (cO.of_same C) R,nd,fun y hy=>?_⟩;have l:=fr y hy;obtain⟨o3,L⟩:=S3.there;exact f.free l (aj L l).symm
def zZ(K:PySem.W.Frag)(t:bZ):Sp:=fun vs H Q E=>∃ p,∃ b:Bytes,vs=[.ref p]/\H p=some (.lst (bI b))/\b.length<=30000 /\
 ((Ql16Neutral.utf8 b.length b=false\/b.all Ql16.lineByte=false\/Ql16.lineOf b=none)->∀ d a,aB H a->E (.ref (t.c "Malformed")) d a) /\
 ∀ l,Ql16Neutral.utf8 b.length b=true->b.all Ql16.lineByte=true->Ql16.lineOf b=some l->∀ v a,aB H a->qb t H l v a->Q v a
theorem Kp.fresh(s:aB H H1)(ha:H a=none)(k:Kp a H1 b):aB H b:=fun c o h=>k c o (s c o h) (aj h ha)
theorem Kp.MM{d c e:Hp}{a r:Addr}{b:Bytes}{j:Nat}{f:List Addr}(hf:∀ y∈f,d y=none)(ha:∃ o,d a=some o)(S:aQ K t c a r b j)(k:Kp a c e):cO D0 f c e:=⟨fun y i o h=>k y o h (by rintro rfl;obtain⟨o,g⟩:=ha;rw[hf _ i]at g;cases g),fun p xs h=>Kp.tup S k _ _ h,eD⟩
theorem oY.after(h:oY t c n v H1)(S:aQ K t H1 a r b j)(ha:∃ o,c a=some o)(k:Kp a H1 e):oY t c n v e:=by obtain⟨f,R,g,d⟩:=h;exact⟨f,Rep.br _ _ _ (Kp.MM d ha S k) R,g,d⟩
theorem qb.after(L:qb t e l v H1)(S:aQ K t H1 a r b j)(ha:∃ o,e a=some o)(k:Kp a H1 g):qb t e l v g:=by
 obtain⟨x,i,rfl,hx,L⟩:=L;have d:x≠a:=by rintro rfl;obtain⟨o,f⟩:=ha;rw[hx]at f;cases f
 refine⟨x,i,rfl,hx,?_⟩;cases l with
 | nothing=>obtain⟨q,h⟩:=L;exact⟨q,k _ _ h d⟩
 | opens ks=>obtain⟨q,h,c⟩:=L;exact⟨q,k _ _ h d,c.after S ha k⟩
 | row ks=>obtain⟨q,h,c⟩:=L;exact⟨q,k _ _ h d,c.after S ha k⟩
 | sets ks n=>obtain⟨q,u,h,c,m⟩:=L;exact⟨q,u,k _ _ h d,c.after S ha k,m.after S ha k⟩
theorem fc.back(f:∀ y,a y=none->H y=none)(g:fc a ks q H1):fc H ks q H1:=by obtain⟨p,us,b,c,d,e⟩:=g;exact⟨p,us,b,c,f _ d,e⟩
theorem qb.back(f:∀ y,b y=none->H y=none)(L:qb t b l v H1):qb t H l v H1:=by
 obtain⟨x,c,rfl,hx,L⟩:=L;refine⟨x,c,rfl,f _ hx,?_⟩;cases l with
 | nothing=>exact L
 | opens ks=>obtain⟨q,h,a⟩:=L;exact⟨q,h,a.back f⟩
 | row ks=>obtain⟨q,h,a⟩:=L;exact⟨q,h,a.back f⟩
 | sets ks n=>obtain⟨q,u,h,a,d,R,i,e⟩:=L;exact⟨q,u,h,a.back f,d,R,i,fun y g=>f _ (e y g)⟩
theorem aB.free(s:aB H H')(h:H' y=none):H y=none:=by
 cases e:H y with
 | none=>rfl
 | some o=>rw[s _ _ e]at h;cases h
theorem zK:T.au.gC.Ok P w mg base 14 (zZ K t):=by
 refine T.au.gC.jO (fun vs H Q E h=>?_) (fun b2 A b0 s H vs Q E i h=>?_);.obtain⟨p,b,rfl,_⟩:=h;rfl
 obtain⟨p,b,rfl,hp,a0,h1,h2⟩:=h;refine⟨_,(af (aK (PW.pt (fS (bK (T.au.gg.cl (wx T) i.zz (ae (pv 0) ah))) (fk (ie (bK (T.aL.ju.cl (Dm T) i.zz (ae (pv 0) ah))))))) (ag (bH aH rfl rfl T.aG.bF T.aG.bG)) aD)
  (af (T.au.gC.set 1 (gQ T.scan.Ek (qF T) i.zz rfl T.scan.IY T.scan.jR.b .nil bg (ae (pv 0) ah)))
  (af (aN (bL (pv 1) T.scan.aP T.scan.aJ.m (bb T) i.zz T.scan.aJ.b .nil bg))
  (af (aK (bK (T.au.j7.cl (qc T) i.zz (ae (pv 1) ah))) (ag (ay (gQ T.au.ug (js T) i.zz rfl T.au.zp T.au.gA.b .nil bg (ae T.au.FX.e (ae (aZ ah) (ae eX ah)))))) aD)
  (af (aK (bK (lA (pv 1) T.scan.aP T.scan.bh.m (dE T) i.zz T.scan.bh.b .nil bg (ae T.signs.gM.e ah))) (ag (T.au.gC.set 2 (T.au.fw.cX (tu T) i.zz aH (ae (pv 1) ah)))) (ag (T.au.gC.set 2 (T.au.gP.cX (tE T) i.zz aH (ae (pv 1) ah)))))
  (af (aN (bL (pv 1) T.scan.aP T.scan.aJ.m (bb T) i.zz T.scan.aJ.b .nil bg))
  (af (aK (ie (bK (T.au.j7.cl (qc T) i.zz (ae (pv 1) ah)))) (ag (bH aH rfl rfl T.aG.bF T.aG.bG)) aD)
  (ag (ay (pv 2)))))))))),?_⟩
 walk_at "r7";refine⟨p,b,rfl,hp,a0,fun H1 s1=>⟨_,rfl,?_⟩⟩;cases I:b.all Ql16.lineByte with
 | false=>rw[Oy (by decide),Oy OF];exact h1 (.inr (.inl I)) none H1 s1
 | true=>
 rw[Ox (by decide)];refine⟨p,b,rfl,s1 _ _ hp,fun H2 s2=>⟨_,rfl,?_⟩⟩;have O:aB H H2:=fun c o h=>s2 _ _ (s1 _ _ h);cases hu:Ql16Neutral.utf8 b.length b with
 | false=>rw[Oy (by decide)];exact h1 (.inl hu) none H2 O
 | true=>
 rw[Ox (by decide)];intro a n ha J a8;refine⟨a,n,p,rfl,ai,rfl,?_⟩;rw[cx];have sm:aB H2 (upd (upd H2 n (.own a)) a (.ins (t.c "Scan") n (sf p 0))):=fun c o z=>by rw[aq (aj z ha),aq (aj z J)];exact z
 have s3:aB H _:=fun c o h=>sm _ _ (O _ _ h);have f:H a=none:=by
  cases q:H a with
  | none=>rfl
  | some u=>rw[O _ _ q]at ha;cases ha
 have a4:=s3 _ _ hp;have S3:aQ K t _ a p b 0:=⟨⟨n,ai⟩,bB.of a4,O1 _,a0⟩
 refine⟨_,_,ai,rfl,a,p,b,0,rfl,S3,fun j B b5 X S4 k4=>?_⟩;have Z:=Kp.fresh s3 f k4;refine⟨p,b,j,S4,?_⟩;rw[Q4]at X;obtain⟨o4,a6⟩:=S4.there;have f4:∀ y,B y=none->H y=none:=fun y h=>Z.free h;obtain⟨F,D⟩:∃ F:V->Hp->Prop,F=(fun v g=>∃ x a5,g a=some (HO.ins (t.c "Scan") x a5)/\List.lookup (Str.ofString "skip_blanks") a5=none/\fV K t [V.ref a] g (fun b6 H1=>∃ b1 R U,aQ K t H1 a b1 R U /\ if (!decide (R[U]?=none\/R[U]?=some 35))=true then E (Value.ref (t.c "Malformed")) none H1 else Q v H1) E0):=⟨_,rfl⟩
 have go:∀ (l:Ql16.Line) (g:Hp) (Y:Nat) (v:V),aQ K t g a p b Y->Kp a B g->Ql16.lineOf b=(if Ql16.ends (b.drop Y)=true then some l else none)->qb t B l v g->F v g:=by
  intro l g Y v C N e L;rw[D];obtain⟨b4,G⟩:=C.at_;refine⟨_,_,G,rfl,a,p,b,Y,rfl,C,fun j6 H6 _ M S6 k6=>⟨p,b,j6,S6,?_⟩⟩;rw[Ke M]at e;have s6:aB H H6:=Kp.fresh Z f (N.trans k6);by_cases k:b[j6]?=none\/b[j6]?=some 35;.rw[Ox (by rw[OO k];decide)];rw[Oy (OO k)]at e;exact h2 l hu I e v H6 s6 ((L.after C ⟨_,a6⟩ k6).back f4)
  .rw[Oy (by rw[O3 k];rfl)];rw[Ox (by rw[O3 k];decide)]at e;exact h1 (.inr (.inr e)) none H6 s6
 by_cases k:b[j]?=none\/b[j]?=some 35
 .rw[Oy (OO k)];refine⟨O1 _,fun q hq x n hx J a8=>?_⟩;refine⟨x,n,_,_,_,rfl,ai,rfl,?_⟩;rw[cx];have sm:aB B (upd (upd (upd B q (.lst [])) n (.own x)) x (.ins (t.c "Line") n (lf (.int 0) (.ref q) .ba))):=fun c o z=>by
   have z2:upd B q (.lst []) c=some o:=aB.new hq _ _ z;rw[aq (aj z2 hx),aq (aj z2 J)];exact z2
  have a9:B x=none:=(aB.new hq).free hx;refine h2 .nothing hu I (DD ?_) _ _ (fun c o z=>sm _ _ (Z _ _ z)) ⟨x,n,rfl,f4 _ a9,.ref q,ai⟩;rw[<-X];rcases k with z | z;.exact .inl (drop_nil z)
  .exact .inr ⟨_,drop_cons z⟩
 rw[Ox (by rw[O3 k];decide)];obtain⟨b3,a3⟩:=S4.at_;subst D;refine⟨_,_,a3,rfl,a,p,b,j,91,rfl,S4,fun hc=>⟨_,rfl,?_⟩,fun hc g C N=>⟨_,rfl,?_⟩⟩
 .rw[Ox (by decide)];have e0:Ql16.skip b≠[]:=fun z=>k (.inl (by
   rw[<-X]at z;exact P7 (SK.mp z)))
  have eh:∀ (c:UInt8) r,Ql16.skip b=c::r->b[j]?=some c:=fun c r z=>by rw[<-X]at z;have:=Pw (·[0]?) z;simpa using this
  have W:=CJ (b:=b) e0 (fun r z=>k (.inr (eh _ _ z))) (fun r z=>hc (eh _ _ z));rw[<-X]at W;refine⟨a,p,b,j,rfl,S4,fun z=>?_,Z _ _ hp,fun hn d H' k'=>⟨_,rfl,h1 (.inr (.inr (by rw[W,hn];rfl))) d H' (Kp.fresh Z f k')⟩,fun x rest hx Y g v a7 C N L=>go _ g Y v C N ?_ L⟩;.rw[z,hp]at f;cases f
  .rw[W,hx,a7];rfl
 .rw[Oy rfl];have eh:Ql16.skip b=91::b.drop (j+1):=by rw[<-X];exact drop_cons hc
  have W:=Aj eh;refine⟨p,b,j+1,C,fun hn H' k'=>⟨_,rfl,h1 (.inr (.inr (by rw[W,hn];rfl))) none H' (Kp.fresh Z f (N.trans k'))⟩,fun x rest hx j6 H6 v M S6 k6 nl=>go (if x.1=true then .row x.2 else .opens x.2) H6 j6 v S6 (N.trans k6) ?_ ?_⟩;.rw[W,hx,M];rfl
  .obtain⟨ln,dl,q,rfl,e2,e3,e4,nk⟩:=nl;obtain⟨o5,G⟩:=C.there;have fr:∀ y,g y=none->B y=none:=fun y h=>N.free h (by rintro rfl;rw[G]at h;cases h);refine⟨ln,dl,rfl,fr _ e3,?_⟩;obtain⟨bt,ks⟩:=x;cases bt with
   | true=>exact⟨q,e2,nk.back fr⟩
   | false=>exact⟨q,e2,nk.back fr⟩
def rf(a b:V):List (Str×V):=[("whole",a),("current",b)]
theorem Ig(a b:V):(rf a b).length<1000:=by show 2<1000;decide
def tx(t:bZ):Sp:=fun vs H Q _=>∃ x d,vs=[.ref x]/\H x=some (.ins (t.c "Reading") d [])/\∀ b e c a,Kp x H a->H b=none->H c=none->c≠b->a c=some (.dT [])->a b=some (vO t e 6 (.ref c) 3 .ba) -> a x=some (.ins (t.c "Reading") d (rf (.ref b) (.ref b)))->Q .ba a
theorem tP:T.bC.jC.Ok P w mg base 4 (tx t):=by
 refine T.bC.jC.fi (fun vs H Q E h=>?_) (fun k A g s H vs Q E q h=>?_);.obtain⟨x,d,rfl,_⟩:=h;rfl
 obtain⟨x,d,rfl,hx,h⟩:=h;refine⟨_,(af (dm (pv 0) (T.kinds.bS.cl (cC T) q.zz (ae T.kinds.iB.e ah)) rfl) (ag (dm (pv 0) (aM (pv 0) rfl) rfl))),?_⟩;walk_at "r6";refine⟨_,rfl,fun j l c y i b p hc f m o=>?_⟩;have v:j≠x:=by rintro rfl;rw[hx]at b;cases b
 have r:c≠x:=by rintro rfl;rw[hx]at hc;cases hc
 refine⟨_,d,_,i _ _ hx,T.bC.dD,T.bC.eM,(by show 0<1000;decide),_,d,_,ai,T.bC.dD,T.bC.eM,_,rfl,_,d,_,ai,T.bC.dD,T.bC.fh,(by show 1<1000;decide),?_⟩;rw[cx];exact h j l c _ (fun a u z n=>by rw[aq n];exact i _ _ z) b hc f (by rw[aq r];exact m) (by rw[aq v];exact o) ai
structure Gd(t:bZ)(H:Hp)(x wo:Addr)(fs:List Fr)(es:Entries)(cur dx c:Addr)(oc:Int)(kvs:List (List Key×V))(fp:List Addr):Prop where
 rd:∃ dr,H x=some (.ins (t.c "Reading") dr (rf (.ref wo) (.ref cur)))
 at_:hH t H wo 3 fs es cur dx c oc kvs fp
 out:x∉fp
def zl(t:bZ):Sp:=fun vs H Q E=>∃ x p b v f i o z c A s k,vs=[.ref x,.ref p]/\H p=some (.lst (bI b))/\b.length<=30000/\Gd t H x v f i o z c A s k/\gJ (dY f i)/\dk (dY f i)+24 * b.length<sizeLine /\
 ((Ql16Neutral.utf8 b.length b=false\/b.all Ql16.lineByte=false\/Ql16.lineOf b=none)->∀ d e,fj (x::k) H e->E (.ref (t.c "Malformed")) d e) /\
 ∀ l,Ql16Neutral.utf8 b.length b=true->b.all Ql16.lineByte=true->Ql16.lineOf b=some l->(Ql16.act (dY f i) (way f) l=none->∀ d e,fj (x::k) H e->E (.ref (t.c "CannotBe")) d e) /\ ∀ r,Ql16.act (dY f i) (way f) l=some r->∀ e g j h q y u n m,Gd t e x v g j h q y u n m->dY g j=r.1->way g=r.2->(∀ a∈m,a∈k\/H a=none)->fj (x::k) H e->hG H e->Q .ba e
theorem Gg(h:Ql16.lineOf b=some l):(∀ a,l=.opens a\/l=.row a->a≠[])/\∀ a v,l=.sets a v->a≠[]:=by
 unfold Ql16.lineOf at h;split at h;.cases h;exact⟨fun _ z=>by simp at z,fun _ _ z=>by simp at z⟩
 .cases h;exact⟨fun _ z=>by simp at z,fun _ _ z=>by simp at z⟩
 .split at h
  .rename_i c;have:=og _ _ _ _ c;split at h;.cases h;exact⟨fun _ z=>by simp at z;rw[<-z];exact this,fun _ _ z=>by simp at z⟩
   .cases h
  .cases h
 .split at h
  .rename_i c;have:=og _ _ _ _ c;split at h;.cases h;exact⟨fun _ z=>by simp at z;rw[<-z];exact this,fun _ _ z=>by simp at z⟩
   .cases h
  .cases h
 .split at h
  .rename_i c;have:=og _ _ _ _ c;split at h
   .split at h;.cases h;exact⟨fun _ z=>by simp at z,fun _ _ z=>by simp at z;rw[<-z.1];exact this⟩
    .cases h
   .cases h
  .cases h
theorem JH(a b:List Entries):pO (a++b)=pO a+pO b:=by
 induction a with
 | nil=>simp[pO]
 | cons x r c=>simp only[OS,pO,c];omega
theorem GV(f:Fr)(a:Entries):dk a<=dk (f.fill a):=by
 cases f with
 | tab pre k h post=>exact mT
 | row pre k l0 post=>simp only[Fr.fill,iK,dk,sz,JH,pO];omega
theorem Aw:∀ (b:List Fr) (a:Entries),dk a<=dk (dY b a)
 | [],a=>OE _
 | f::r,a=>O9 (GV f a) (Aw r _)
theorem Gd.same(R:Gd t H x wo fs es cur dx c oc kvs fp)(s:aB H H'):Gd t H' x wo fs es cur dx c oc kvs fp:=by obtain⟨a,b⟩:=R.rd;exact⟨⟨a,s _ _ b⟩,R.at_.same s,R.out⟩
theorem m6:T.bC.cV.Ok P w mg base 15 (zl t):=by
 refine T.bC.cV.jO (fun vs H Q E h=>?_) (fun c7 A c6 s H vs Q E hr h=>?_);.obtain⟨x,p,b,wo,i,I,f,dx,c,oc,a8,fp,rfl,_⟩:=h;rfl
 obtain⟨x,p,b,wo,i,I,f,dx,c,oc,a8,fp,rfl,hp,b9,R,b4,c9,h1,h2⟩:=h;refine⟨_,(af (T.bC.cV.set 2 (T.au.gC.cX (zK T) hr.zz aH (ae (pv 1) ah))) (ag (aK (aC aV (aM (pv 2) rfl) T.au.ra.e (aE _)) (ag (dm (pv 0) (T.tables.eI.cX (rP T) hr.zz aH (ae (aM (pv 0) rfl) (ae (aM (pv 2) rfl) ah))) rfl)) (ag (aK (aC aV (aM (pv 2) rfl) T.au.va.e (aE _)) (ag (dm (pv 0) (T.tables.eT.cX (wg T) hr.zz aH (ae (aM (pv 0) rfl) (ae (aM (pv 2) rfl) ah))) rfl)) (ag (aK (aC aV (aM (pv 2) rfl) T.au.xX.e (aE _)) (ag (aN (T.tables.dJ.cX (nA T) hr.zz aH (ae (aM (pv 0) rfl) (ae (aM (pv 2) rfl) (ae (aM (pv 2) rfl) ah)))))) aD))))))),?_⟩;walk_at "r6";refine⟨p,b,rfl,hp,b9,fun hn d X s'=>⟨_,rfl,h1 hn d X fun a u h _=>s' a u h⟩,fun l e1 e2 e3 v H1 s1 L=>?_⟩;obtain⟨b7,a9⟩:=zU e3;obtain⟨b6,c1⟩:=Gg e3;obtain⟨g1,g2⟩:=h2 l e1 e2 e3;have R1:=R.same s1;have Z:=R1.at_;obtain⟨dr,O⟩:=R1.rd;have a7:∀ y,H1 y=none->H y=none:=fun y h=>s1.free h;obtain⟨W,M,rfl,d0,L⟩:=L;obtain⟨N,RW,pw⟩:=Z.close;have xw:x∉N:=fun z=>R1.out (pw.mem_iff.mp z);have done:∀ {r:Entries×List Bytes} {H2:Hp} {J:List Fr} {D:Entries} {B G c':Addr} {a4:Int} {j:List (List Key×V)} {g:List Addr},Ql16.act (dY i I) (way i) l=some r->hH t H2 wo 3 J D B G c' a4 j g->dY J D=r.1->way J=r.2->(∀ a∈g,a∈N\/H1 a=none)->fj N H1 H2->hG H1 H2 ->
  H2 x=some (.ins (t.c "Reading") dr (rf (.ref wo) (.ref f)))/\Q .ba (upd H2 x (.ins (t.c "Reading") dr (rf (.ref wo) (.ref B)))):=by
  intro r H2 J D B G c' a4 j g Y A2 ep ew fm F kd;have U:=F x _ O xw;have xf:x∉g:=fun z=>by
   rcases fm x z with z | z;.exact xw z
   .rw[O]at z;cases z
  refine⟨U,g2 r Y _ J D B G c' a4 j g ⟨⟨dr,ai⟩,A2.br (cO.upd xf U (by intro xs z;cases z)),xf⟩ ep ew (fun a ha=>?_) (fun a u h n=>?_) (fun a u h=>?_)⟩
  .rcases fm a ha with z | z;.exact .inl (pw.mem_iff.mp z)
   .exact .inr (a7 a z)
  .simp only[OA,PY]at n;rw[aq n.1];exact F a u (s1 a u h) fun z=>n.2 (pw.mem_iff.mp z)
  .exact(kd.upd) a u (s1 a u h)
 have fail:Ql16.act (dY i I) (way i) l=none->∀ X,fj N H1 X->E (.ref (t.c "CannotBe")) none X:=fun Y X F=>g1 Y none X fun a u h n=>by simp only[OA,PY]at n;exact F a u (s1 a u h) fun z=>n.2 (pw.mem_iff.mp z)
 cases l with
 | nothing=>obtain⟨q,hl⟩:=L;refine⟨W,rfl,_,M,_,hl,T.au.dQ,T.au.dc,_,rfl,rfl,?_⟩;rw[Ox (by decide)];refine⟨W,rfl,_,M,_,hl,T.au.dQ,T.au.dc,_,rfl,rfl,?_⟩;rw[Ox (by decide)];refine⟨W,rfl,_,M,_,hl,T.au.dQ,T.au.dc,_,rfl,rfl,?_⟩;rw[Ox (by decide)];exact g2 _ rfl H1 i I f dx c oc a8 fp R1 rfl rfl (fun a ha=>.inl ha) (fun a u h _=>s1 a u h) (fun a u h=>⟨u,s1 a u h⟩)
 | opens ks=>
   obtain⟨_,hl,q0,us,rfl,a3,b5,hK⟩:=L;refine⟨W,rfl,_,M,_,hl,T.au.dQ,T.au.dc,_,rfl,rfl,?_⟩;rw[Oy (by decide)];refine⟨_,dr,_,O,T.bC.dD,T.bC.eM,_,rfl,W,rfl,_,M,_,hl,T.au.dQ,T.au.jg,_,rfl,?_⟩;obtain⟨k,hk⟩:∃ k,ks.getLast?=some k:=⟨_,QY (b6 ks (.inl rfl))⟩
   have Y:Ql16.act (dY i I) (way i) (.opens ks)=(Ql16.into (Ql16.opened k) ks.dropLast (dY i I)).map fun x=>(x,ks):=by simp only[Ql16.act,hk]
   simp only[fy]at a9;refine⟨wo,q0,3,dY i I,N,ks,us,k,rfl,RW,b4,pw.nodup_iff.mpr Z.nd,a3,hK,hk,by omega,fun hn X F=>⟨_,rfl,fail (by rw[Y,hn];rfl) X F⟩,fun J D B G c' a4 j g H2 A2 ei ew fm F kd=>?_⟩;obtain⟨U,d⟩:=done (by rw[Y,ei];rfl) A2 rfl ew fm F kd;exact⟨_,dr,_,U,T.bC.dD,T.bC.fh,Ig _ _,d⟩
 | row ks=>
   obtain⟨_,hl,q0,us,rfl,a3,b5,hK⟩:=L;refine⟨W,rfl,_,M,_,hl,T.au.dQ,T.au.dc,_,rfl,rfl,?_⟩;rw[Ox (by decide)];refine⟨W,rfl,_,M,_,hl,T.au.dQ,T.au.dc,_,rfl,rfl,?_⟩;rw[Oy (by decide)];refine⟨_,dr,_,O,T.bC.dD,T.bC.eM,_,rfl,W,rfl,_,M,_,hl,T.au.dQ,T.au.jg,_,rfl,?_⟩;obtain⟨k,hk⟩:∃ k,ks.getLast?=some k:=⟨_,QY (b6 ks (.inr rfl))⟩
   have Y:Ql16.act (dY i I) (way i) (.row ks)=(Ql16.into (Ql16.rowed k) ks.dropLast (dY i I)).map fun x=>(x,ks):=by simp only[Ql16.act,hk]
   simp only[fy]at a9;refine⟨wo,q0,3,dY i I,N,ks,us,k,rfl,RW,b4,pw.nodup_iff.mpr Z.nd,a3,hK,hk,by omega,fun hn X F=>⟨_,rfl,fail (by rw[Y,hn];rfl) X F⟩,fun J D B G c' a4 j g H2 A2 ei ew fm F kd=>?_⟩;obtain⟨U,d⟩:=done (by rw[Y,ei];rfl) A2 rfl ew fm F kd;exact⟨_,dr,_,U,T.bC.dD,T.bC.fh,Ig _ _,d⟩
 | sets ks n=>
   obtain⟨_,u,hl,⟨q0,us,rfl,a3,b5,hK⟩,fv,Rv,c5,b3⟩:=L;refine⟨W,rfl,_,M,_,hl,T.au.dQ,T.au.dc,_,rfl,rfl,?_⟩;rw[Ox (by decide)];refine⟨W,rfl,_,M,_,hl,T.au.dQ,T.au.dc,_,rfl,rfl,?_⟩;rw[Ox (by decide)];refine⟨W,rfl,_,M,_,hl,T.au.dQ,T.au.dc,_,rfl,rfl,?_⟩;rw[Oy (by decide)];refine⟨_,dr,_,O,T.bC.dD,T.bC.fh,_,rfl,W,rfl,_,M,_,hl,T.au.dQ,T.au.jg,_,rfl,W,rfl,_,M,_,hl,T.au.dQ,T.au.qM,_,rfl,?_⟩;obtain⟨a0,fr,C,RE,a6⟩:=Z.ctx;have b0:=a6.nodup_iff.mp Z.nd;have a5:∀ a∈a0++(f::c::fr),∃ o,H a=some o:=fun a ha=>R.at_.there a (a6.mem_iff.mpr ha);have RT:fT t D0 H1 oc I f (f::c::fr):=⟨dx,.ba,c,a8,fr,Z.here,Z.dict,RE,rfl,rfl⟩
   have c4:=(OZ.mp b0).2.1;have b8:((f::c::fr)++fv).Nodup:=OZ.mpr ⟨c4,c5,fun a ha b hb e=>by subst e;obtain⟨o,ho⟩:=a5 a (Pl _ ha);rw[b3 a hb]at ho;cases ho⟩;have Y:Ql16.act (dY i I) (way i) (.sets ks n)=((Ql16.put n ks I).map (dY i)).map fun x=>(x,way i):=by simp only[Ql16.act];rw[AH _ _ Z.GG]
   have d2:=Aw i I;simp only[fy]at a9;have sub:∀ a,a∈f::c::fr->a∈fp:=fun a ha=>a6.mem_iff.mpr (Pl _ ha);refine⟨f,q0,u,oc,I,n,_,fv,ks,us,rfl,RT,Z.ok,a3,hK,c1 ks n rfl,Rv,b7,b8,by omega,fun hn X F=>⟨_,rfl,g1 (by rw[Y,hn];rfl) none X fun a o h m=>?_⟩,fun D he g H2 R2 c2 fm F kn kd=>?_⟩;.simp only[OA,PY]at m;exact F a o (s1 a o h) fun z=>m.2 (sub a z)
   have dj:∀ a∈a0,a∉f::c::fr:=fun a ha hb=>(OZ.mp b0).2.2 a ha a hb rfl;have C2:Ctx t H2 wo 3 i f oc a0:=C.br ⟨fun a ha o h=>F a o h (dj a ha),fun p xs h=>kn p _ h (by intro kv z;cases z),eD⟩;have b1:∀ a∈g,a∈f::c::fr\/H a=none:=fun a ha=>by
    rcases fm a ha with z | z | z;.exact .inl z
    .exact .inr (b3 a z)
    .exact .inr (a7 a z)
   have c3:(a0++g).Nodup:=OZ.mpr ⟨(OZ.mp b0).1,c2,fun a ha b hb e=>by
    subst e;rcases b1 a hb with z | z;.exact dj a ha z
    .obtain⟨o,ho⟩:=a5 a (PQ _ ha);rw[z]at ho;cases ho⟩
   obtain⟨G,c',j,A2⟩:=hH.of C2 R2 (Uo _) c3 (rm b7 Z.ok he).1 Z.GG;have b2:∀ a∈a0++g,a∈fp\/H a=none:=fun a ha=>by
    rcases OH.mp ha with z | z;.exact .inl (a6.mem_iff.mpr (PQ _ z))
    .rcases b1 a z with y | y;.exact .inl (sub a y)
     .exact .inr y
   obtain⟨c8,c0⟩:=R.rd;refine g2 (dY i D,way i) (by rw[Y,he];rfl) H2 i D f G c' oc j _ ⟨⟨dr,F x _ O fun z=>R1.out (sub x z)⟩,A2,fun z=>?_⟩ rfl rfl b2 (fun a o h m=>?_) (fun a o h=>kd a o (s1 a o h))
   .rcases b2 x z with y | y;.exact R.out y
    .rw[c0]at y;cases y
   .simp only[OA,PY]at m;exact F a o (s1 a o h) fun z=>m.2 (sub a z)
def KC(v:V):List (Str×V):=[("settings",v)]
def readOut:Except (Nat×Nat) Entries->List Int×Entries
 | .ok es=>([0],es)
 | .error (k,i)=>([-(k:Int),(i:Int)],[])
def GN(J:It)(g:TG)(h:TS)(D:Ends)(b:L2.St)(H:Hp):Prop:=∃ W:Nat->Nat->L2.St->Hp->Prop,(∃ m,W 0 m b H)/\∀ i m b H,W i m b H -> (J.stop i H/\D.nx b H)\/(J.go i H/\∃ N:L2.St->Hp->Prop,(∀ c a,N c a->∃ e,e<m/\W (i+1) e c a)/\∀ x a,J.KL i H x a->g x b a fun d f=>h { D with nx:=N,ct:=N,bk:=D.nx } d f)
theorem qf:Mq c g b D σ H=c σ H fun J a=>GN J g b D σ a:=rfl
theorem F7{a:Addr}{xs:List V}{g:TG}{h:TS}{D:Ends}{b:L2.St}{H:Hp}(c:Nat->L2.St->Hp->Prop)(l:c 0 b H)(hl:∀ i b H,i<=xs.length->c i b H->bB K H a xs)
 (hs:∀ i x b H T,xs[i]?=some x->c i b H->H T=none->g (.ref T) b (upd H T (.tup [.int ((i:Int)+1),x])) fun f k=>h { D with nx:=c (i+1),ct:=c (i+1),bk:=D.nx } f k) (hd:∀ b H,c xs.length b H->D.nx b H):GN (K1 K a) g h D b H:=by
 refine⟨fun i m b H=>m=xs.length - i/\i<=xs.length/\c i b H,⟨xs.length,by simp,O1 _,l⟩,?_⟩;rintro i m b H ⟨rfl,o,p⟩;have q:=hl i b H o p;by_cases d:i<xs.length;.refine .inr ⟨⟨xs,xs[i],q,by simp[d]⟩,c (i+1),fun s j r=>⟨xs.length - (i+1),by omega,rfl,d,r⟩,fun x j y=>?_⟩;obtain⟨T,z,rfl,n,rfl,y⟩:=y;exact hs i z b _ T (y xs q) p n
 .have e:i=xs.length:=by omega
  subst e;exact .inl ⟨⟨xs,q,OE _⟩,hd b H p⟩
def lsum(L:List Bytes):Nat:=(L.map List.length).sum
theorem vK(r:Bytes):(jE r).length<=r.length:=by
 unfold jE;split;.rw[Ri];omega
 .exact OE _
theorem pz:∀ (b a:Bytes),lsum (gr a b)<=a.length+b.length
 | [],a=>by
   unfold gr;split;.exact O1 _
   .have:=vK a;simp[lsum];omega
 | c::r,a=>by
   unfold gr;split;.have h1:=pz r [];have h2:=vK a;simp only[lsum,OP,QP,OB,Pa]at h1 |-;omega
   .have h1:=pz r (a++[c]);simp only[ON,OB,Pa]at h1 |-;omega
theorem rQ:∀ (L:List Bytes) (i:Nat),lsum (L.take i)<=lsum L
 | [],i=>by simp[lsum]
 | x::r,0=>by simp[lsum]
 | x::r,i+1=>by have:=rQ r i;simp only[lsum,List.take_succ_cons,OP,QP]at this |-;omega
theorem Fe{L:List Bytes}{i:Nat}{x:Bytes}(h:L[i]?=some x):lsum (L.take (i+1))=lsum (L.take i)+x.length:=by rw[PN,h];simp[lsum]
theorem fW.get:∀ {b:List Bytes} {vs:List V} {i:Nat} {v:V},fW H b vs->vs[i]?=some v->∃ k p,b[i]?=some k/\v=.ref p/\H p=some (.lst (bI k))
 | k::b,v::vs,0,d,⟨⟨p,e,h⟩,_⟩,a=>by simp at a;subst a;exact⟨k,p,rfl,e,h⟩
 | k::b,v::vs,i+1,d,⟨_,c⟩,a=>by simp at a;obtain⟨k,p,h1,h2⟩:=fW.get c a;exact⟨k,p,by simpa using h1,h2⟩
 | [],[],i,v,_,a=>by simp at a
 | [],_::_,i,v,h,_=>h.elim
 | _::_,[],i,v,h,_=>h.elim
def CO(t:bZ):Sp:=fun vs H Q E=>∃ x e h p b,vs=[.ref x,.ref p]/\H x=some (.ins (t.c "Store") e (KC h))/\H p=some (.lst (bI b))/\b.length<=29998/\∀ q d g f,Kp x H d->H q=none->d q=some (.lst ((readOut (Ql16Neutral.stands (Ql16.lines b) 1 [] [])).1.map V.int))->d x=some (.ins (t.c "Store") e (KC (.ref g))) -> fT t D0 d 3 (readOut (Ql16Neutral.stands (Ql16.lines b) 1 [] [])).2 g f->(∀ a∈f,H a=none)->gJ (readOut (Ql16Neutral.stands (Ql16.lines b) 1 [] [])).2->dk (readOut (Ql16Neutral.stands (Ql16.lines b) 1 [] [])).2<=719952->Q (.ref q) d
theorem se:T.store.cQ.Ok P w mg base 16 (CO t):=by
 refine T.store.cQ.jO (fun vs H Q E h=>?_) (fun e9 A d9 s H vs Q E hr h=>?_);.obtain⟨x,dx,v0,p,b,rfl,_⟩:=h;rfl
 obtain⟨x,dx,v0,p,b,rfl,hx,hp,hb,h⟩:=h;refine⟨_,(af (aN (T.store.eH.cX (iv T) hr.zz aH (ae (aT aO (by rfl) T.hJ.dh O5 (ae (pv 1) ah)) (ae T.store.qS.e ah))))
  (af (dm (pv 0) (T.kinds.bS.cl (cC T) hr.zz (ae T.kinds.iB.e ah)) rfl)
  (af (T.store.cQ.set 2 (BY T.bC.DA (tP T) hr.zz rfl T.bC.Gw T.bC.jC.b .nil bg))
  (af (ic PM rfl (Hi rfl T.hJ.AA (ae (T.au.dI.cl (vi T) hr.zz (ae (pv 1) ah)) ah)) (Iq rfl (pS (cA (i:=3) T.store.cQ.s.nd rfl (Ql rfl)) (pS (cA (i:=4) T.store.cQ.s.nd rfl (Ql rfl)) DS))) (ag (zN rfl rfl (by intro _ _ _ hE _;exact(ag (aN (cp (pv 2) T.bC.dD T.bC.cV.m (m6 T) hr.zz T.bC.cV.b hE (ae (pv 4) ah))))) (lB rfl T.aG.bF T.aG.bG (fun _=>(ag (ay (aZ (ae (eK cR aw) (ae (pv 3) ah)))))) (lB rfl T.aG.gv T.aG.gs (fun _=>(ag (ay (aZ (ae (eK cR aw) (ae (pv 3) ah)))))) (zJ aH rfl))))))
  (af (dm (pv 0) (aM (pv 2) rfl) rfl)
  (ag (ay (aZ (ae aw ah))))))))),?_⟩
 walk_at "r6";refine⟨_,.inl (bB.of hp),_,_,rfl,fun _=>?_,fun z=>?_⟩
 rotate_left
 .rw[bo]at z;omega
 refine⟨_,rfl,fun w1 c3 c1 H1 s1 a9 _ a8 f3 e1 e2=>?_⟩;refine⟨_,dx,_,s1 _ _ hx,T.store.cS,T.store.fN,(by show 1<1000;decide),?_⟩;intro f dr d4 d2 f5;have e8:w1≠x:=by rintro rfl;rw[hx]at a9;cases a9
 have e7:c1≠x:=by rintro rfl;rw[hx]at a8;cases a8
 refine⟨f,dr,rfl,ai,fun v dw D H4 k4 d6 c8 d0 e3 e4 e5=>⟨rfl,?_⟩⟩;have g:∀ a o,upd H1 x (.ins (t.c "Store") dx (kI "settings" (.ref w1) (KC v0))) a=some o->H4 a=some o/\a≠f/\a≠v/\a≠D:=fun a o z=>by
  have ar:a≠f:=aj z d4;have z3:upd (upd (upd H1 x (.ins (t.c "Store") dx (kI "settings" (.ref w1) (KC v0)))) dr (.own f)) f (.ins (t.c "Reading") dr []) a=some o:=by rw[aq ar,aq (aj z d2)];exact z
  exact⟨k4 _ _ z3 ar,ar,aj z3 d6,aj z3 c8⟩
 obtain⟨d7,xr,xo,x0⟩:=g x _ ai;obtain⟨d5,wr,e6,w0⟩:=g w1 _ (by rw[aq e8];exact e2);obtain⟨c9,cr,co,c2⟩:=g c1 _ (by rw[aq e7];exact e1);have d3:=(g p _ (by rw[aq (cH hp hx (by intro z;cases z))];exact s1 _ _ hp)).1;have kx:Kp x H H4:=fun a o z n=>(g a o (by rw[aq n];exact s1 _ _ z)).1;rw[qf];refine⟨_,rfl,p,b,rfl,d3,by omega,fun pl H5 us s5 O f6 X=>⟨pl,us,rfl,bB.of O,?_⟩⟩;obtain⟨L,hL⟩:∃ L,L=gr [] b:=⟨_,rfl⟩
 rw[<-hL]at X;rw[Io,<-hL]at h;have f9:lsum L<=29998:=by have:=pz b [];rw[<-hL]at this;simp at this;omega
 have b0:=s5 _ _ d7;have a3:=s5 _ _ e3;have a4:=s5 _ _ e4;have I:=s5 _ _ e5;have e0:v≠f:=cH a4 I (by intro z;simp only[vO,HO.ins.injEq]at z;have:=z.2.2;simp[vf,rf]at this);have b9:D≠f:=cH a3 I (by intro z;cases z);have B:∀ (k i':Nat) (j:Hp) (q:Addr),fj [f,v,D] H5 j->j q=none->Ql16Neutral.stands L 1 [] []=.error (k,i')->Q (.ref q) (upd j q (.lst [.int (-(k:Int)),.int (i':Int)])):=by
  intro k i' j q C U e;rw[e]at h;have nm:∀ {a:Addr},a≠f->a≠v->a≠D->a∉[f,v,D]:=fun h1 h2 h3=>by simp[h1,h2,h3]
  have st:∀ a o,j a=some o->upd j q (.lst [.int (-(k:Int)),.int (i':Int)]) a=some o:=fun a o z=>by rw[aq (aj z U)];exact z
  have Y:Kp x H j:=fun a o z n=>by obtain⟨_,y1,y2,y3⟩:=g a o (by rw[aq n];exact s1 _ _ z);exact C _ _ (s5 _ _ (kx _ _ z n)) (nm y1 y2 y3)
  have b8:=C _ _ b0 (nm xr xo x0);refine h q _ w1 [w1,c1] (fun a o z n=>st _ _ (Y a o z n)) (Y.free U (aj b8 U).symm) ai (st _ _ b8) ⟨c3,.ba,c1,[],[],st _ _ (C _ _ (s5 _ _ d5) (nm wr e6 w0)),st _ _ (C _ _ (s5 _ _ c9) (nm cr co c2)),⟨rfl,rfl⟩,rfl,rfl⟩ (fun a ha=>by simp at ha;rcases ha with rfl | rfl;exact a9;exact a8) OF (O1 _)
 obtain⟨Pv,N⟩:∃ Pv:Nat->L2.St->Hp->Prop,Pv=(fun i σ H'=>∃ (M:List Fr) (J:Entries) (F G c:Addr) (oc:Int) (Z:List (List Key×V)) (fp:List Addr) (o3 o4:Option V),σ=[some (.ref x),some (.ref p),some (.ref f),o3,o4]/\Gd t H' f v M J F G c oc Z fp/\gJ (dY M J)/\dk (dY M J)<=24 * lsum (L.take i) /\ Ql16Neutral.stands L 1 [] []=Ql16Neutral.stands (L.drop i) (i+1) (dY M J) (way M)/\(∀ a∈fp,a∈[v,D]\/H5 a=none)/\fj [f,v,D] H5 H'/\hG H5 H'):=⟨_,rfl⟩
 refine F7 (xs:=us) Pv ?_ ?_ ?_ ?_;.rw[N];obtain⟨a7,c',a0,A0⟩:=hH.start (t:=t) (H:=H5) (x0:=v) (o0:=3) (es:=[]) (fp:=[v,D]) ⟨dw,.ba,D,[],[],a4,a3,⟨rfl,rfl⟩,rfl,rfl⟩ (by simp[OL d0]) OF;exact⟨[],[],v,a7,c',3,a0,[v,D],none,none,rfl,⟨⟨dr,I⟩,A0,by simp[OL e0,OL b9]⟩,OF,by simp[lsum,dY,dk],rfl,fun a ha=>.inl ha,fun a u z _=>z,fun a u z=>⟨u,z⟩⟩
 .intro i σ H' _ pv;rw[N]at pv;obtain⟨M,J,F,G,c,oc,Z,fp,o3,o4,rfl,R,ok,sz,e,fm,C,kD⟩:=pv;exact bB.of (C _ _ O (by simp[cH O I (by intro z;cases z),cH O a4 (by intro z;cases z),cH O a3 (by intro z;cases z)]))
 .intro i y σ H' TT hy pv hT;rw[N]at pv;obtain⟨M,J,F,G,c,oc,Z,fp,o3,o4,rfl,R,ok,sz,e,fm,C,kD⟩:=pv;obtain⟨bi,pr,b5,rfl,a5⟩:=X.get hy;have sT:aB H' (upd H' TT (.tup [.int ((i:Int)+1),.ref pr])):=aB.new hT;have R':=R.same sT;obtain⟨b3,W⟩:=R'.rd;have b6:=sT _ _ (C _ _ a5 (by simp[cH a5 I (by intro z;cases z),cH a5 a4 (by intro z;cases z),cH a5 a3 (by intro z;cases z)]));have nx:=Fe b5;have tk:=rQ L (i+1);have dd:L.drop i=bi::L.drop (i+1):=by
   obtain⟨hl,eb⟩:=OV.mp b5;rw[PJ hl,eb]
  rw[dd]at e;have b1:∀ {j:Hp},fj (f::fp) (upd H' TT (.tup [.int ((i:Int)+1),.ref pr])) j->fj [f,v,D] H5 j:=fun k6 a u z n=>by
   refine k6 a u (sT _ _ (C a u z n)) fun m=>?_;simp only[OA,Pf,Qs,PY]at n m;rcases m with m | m;.exact n.1 m
   .rcases fm a m with y | y
    .simp at y;rcases y with y | y;.exact n.2.1 y
     .exact n.2.2 y
    .rw[y]at z;cases z
  have nd:=T.obs.MO;simp only[OP,OR,OA,PY]at nd;have f7:sizeLine=16777216:=rfl;refine⟨TT,_,rfl,iJ.of ai,rfl,_,_,rfl,_,_,rfl,rfl,_,rfl,f,rfl,_,_,W,rfl,_,rfl,f,pr,bi,v,M,J,F,G,c,oc,Z,fp,rfl,b6,by omega,R',ok,by omega,fun hn d j k6=>?_,fun l u1 u2 u3=>⟨fun hn d j k6=>?_,fun r a6 j c7 c4 b2 a7 c' d8 a0 c6 R6 ep ew c5 k6 kd=>?_⟩⟩
  .refine⟨_,rfl,zh rfl ⟨_,rfl,by decide,fun q U=>B 1 (i+1) j q (b1 k6) U ?_⟩⟩;rw[e];unfold Ql16Neutral.stands;rcases hn with z | z | z;.rw[Oy (.inl z)]
   .rw[Oy (.inr z)]
   .split;.rfl
    .rw[z]
  .refine⟨_,rfl,tR (fun z=>nd.1.1 z.symm) (zh rfl ⟨_,rfl,by decide,fun q U=>B 2 (i+1) j q (b1 k6) U ?_⟩)⟩;rw[e];unfold Ql16Neutral.stands;rw[Ox (by rw[u1,u2];simp),u3];simp only[hn]
  .have ao:=L5 ok (sub_zip _ R.at_.GG) (zU u3).1 a6;have ls:=(zU u3).2;show Pv (i+1) _ j;rw[N];refine⟨c7,c4,b2,a7,c',d8,a0,c6,_,_,rfl,R6,by rw[ep];exact ao.1,by rw[ep];omega,?_,fun a ha=>?_,b1 k6,fun a u z=>?_⟩
   .rw[e,ep,ew]
    conv=>lhs;unfold Ql16Neutral.stands
    rw[Ox (by rw[u1,u2];simp),u3];simp only[a6]
   .rcases c5 a ha with z | z;.exact fm a z
    .refine .inr ?_;exact kD.free (sT.free z)
   .obtain⟨u',z'⟩:=kD a u z;exact kd a u' (sT _ _ z')
 .intro σ H' pv;rw[N]at pv;obtain⟨M,J,F,G,c,oc,Z,fp,o3,o4,rfl,R,ok,sz,e,fm,C,kD⟩:=pv;have ul:=X.len;rw[ul,RL]at e;have eo:Ql16Neutral.stands L 1 [] []=.ok (dY M J):=e;rw[eo]at h;obtain⟨b3,W⟩:=R.rd;obtain⟨b4,RW,pw⟩:=R.at_.close;have b7:=C _ _ b0 (by simp[xr,xo,x0]);have xf:x∉b4:=fun z=>by
   rcases fm x (pw.mem_iff.mp z) with y | y;.simp[xo,x0]at y
   .rw[b0]at y;cases y
  refine⟨_,rfl,f,_,b3,_,_,rfl,W,T.bC.dD,T.bC.eM,rfl,_,rfl,x,_,dx,_,rfl,b7,T.store.cS,T.store.fN,(by show 1<1000;decide),by decide,fun q U=>?_⟩;have sq:=aB.new (o:=HO.lst [V.int 0]) U;have tk:=rQ L us.length;have Y:Kp x H (upd H' x (.ins (t.c "Store") dx (KC (.ref v)))):=fun a o z n=>by obtain⟨y0,y1,y2,y3⟩:=g a o (by rw[aq n];exact s1 _ _ z);rw[aq n];exact C _ _ (s5 _ _ y0) (by simp[y1,y2,y3])
  refine h q _ v b4 (fun a o z n=>sq _ _ (Y a o z n)) (Y.free U (aj ai U).symm) ai (sq _ _ ai) (fT.br (cO.of_same sq) (fT.br (cO.upd xf b7 (by intro xs z;cases z)) RW)) (fun a hf=>?_) ok (by show dk (dY M J)<=719952;omega);cases e:H a with
  | none=>rfl
  | some o=>
    exfalso;have ax:a≠x:=fun z=>xf (z▸hf);obtain⟨y0,y1,y2,y3⟩:=g a o (by rw[aq ax];exact s1 _ _ e);rcases fm a (pw.mem_iff.mp hf) with z | z
    .simp only[OA,Pf,Qs]at z;rcases z with z | z;.exact y2 z
     .exact y3 z
    .rw[s5 _ _ y0]at z;cases z
open Ql16 (hexNibble)
theorem aB.trans(a:aB H H1)(b:aB H1 d):aB H d:=fun c o z=>b _ _ (a _ _ z)
def BO:Sp:=fun vs H Q _=>∃ b:Bytes,vs=[.str (S (aI b))]/\b.length<=30000/\∀ q a,aB H a->H q=none->a q=some (.lst (bI b))->Q (.ref q) a
theorem mE:T.signs.gw.Ok P w mg base 1 BO:=by
 refine T.signs.gw.fi (fun vs H Q E h=>?_) (fun k A g s H vs Q E n h=>?_);.obtain⟨b,rfl,_⟩:=h;rfl
 obtain⟨b,rfl,m,h⟩:=h;refine⟨_,(ag (ay (xS (own:=[("sign",1)]) rfl T.signs.gw.s.nd (C7 (pv 0)) (by exact(show qo ["text","sign"] (bf (top 66)) _ _ from⟨rfl,by decide +kernel,by decide +kernel,by decide +kernel,by decide +kernel⟩)) (fun _ _ _ _ _=>(cA (i:=1) T.signs.gw.s.nd rfl (Ql rfl))) (fun _ _ _ _ _=>oh) (fun _ _ _ _ _=>(aT Bq (by rfl) T.hJ.KI boot_ord (ae (pv 1) ah)))))),?_⟩;walk_at "r6";refine Ec (x:=S (aI b)) (fun R l=>⟨_,rfl,l⟩) (fun D i e=>aB H e/\H D=none/\e D=some (.lst (bI (b.take i)))) (fun D d=>⟨aB.new d,d,ai⟩) (fun D i c e hc f=>?_) (fun D e f=>?_)
 .obtain⟨j,d,a⟩:=f;rw[dn]at hc;obtain⟨x,hx,rfl⟩:∃ x:UInt8,b[i]?=some x/\x.toNat=c:=by simpa[aI]using hc
  have o:=fu hx;simp only[wipe,Dh];walk_at "r6";rw[Oy OF];refine⟨rfl,_,a,?_,fun z u h=>by rw[aq (aj h d)];exact j _ _ h,d,?_⟩;.rw[bo,Pg];exact dR (by omega)
  .rw[ai,PN,hx,iW];rfl
 .obtain⟨j,d,a⟩:=f;rw[dn,bD,QQ]at a;exact h D e j d a
theorem HC{lo c:Int}{n:Nat}{r:TI}{g:TG}{q:TT}{o:TE}{j:L2.St}{vs:List Nat}{Q:VK}{H:Hp}(v:∀ R:It->Hp->Prop,R (NA lo c n) H->r j H R)(a:Addr->Nat->Hp->Prop)(s:∀ D,H D=none->a D 0 (upd H D (.lst [])))
 (hs:∀ D i H,i<n->a D i H->g (.int (lo+(i:Nat) * c)) (wipe j vs) H fun e f=>wipe e vs=wipe j vs/\q e f fun b k=>if b=true then o e k fun y l=>∃ d,l D=some (.lst d)/\d.length<sizeLine/\a D (i+1) (upd l D (.lst (d++[y]))) else a D (i+1) k)
 (hd:∀ D H,a D n H->Q (.ref D) H):Mc r g q o vs j H Q:=by
 refine v _ fun D u=>⟨fun i m H=>m=n - i/\i<=n/\a D i H,⟨_,rfl,O1 _,s D u⟩,?_⟩
 rintro i m H1 ⟨rfl,x,p⟩;rcases RZ i n with h | h;.refine .inr ⟨h,fun f=>a D (i+1) f,fun f z=>⟨n - (i+1),by omega,rfl,h,z⟩,?_⟩;rintro y f ⟨rfl,rfl⟩;exact hs D i _ h p
 .obtain rfl:i=n:=by omega
  exact .inl ⟨h,hd D H1 p⟩
def w9(n k:Nat):Bytes:=(List.range k).map fun i=>hexNibble (n / 16 ^ (k - 1 - i))
def vW:Sp:=fun vs H Q _=>∃ n k:Nat,vs=[.int (n:Int),.int (k:Int)]/\k<=16/\∀ q a,aB H a->H q=none->a q=some (.lst (bI (w9 n k)))->Q (.ref q) a
theorem LS(m:Nat):cn[m % 16]?=some (hexNibble m).toNat:=by
 have:∀ r,r<16->cn[r]?=some ((Ql16.HEX.getD r 0).toNat):=by decide
 exact this _ (Nat.mod_lt _ (by decide))
theorem nP:T.telling.eS.Ok P w mg base 1 vW:=by
 refine T.telling.eS.fi (fun vs H Q E h=>?_) (fun p A m s H vs Q E C h=>?_);.obtain⟨n,k,rfl,_⟩:=h;rfl
 obtain⟨n,k,rfl,B,h⟩:=h;refine⟨_,(ag (ay (xS (own:=[("place",2)]) rfl T.telling.eS.s.nd (FL rfl T.hJ.yB (ae (aS gS (pv 1) aw) (ae (eK cR aw) (ae (eK cR aw) ah)))) (by exact(show qo ["number","length","place"] (bf (top 163)) _ _ from⟨rfl,by decide +kernel,by decide +kernel,by decide +kernel,by decide +kernel⟩)) (fun _ _ _ _ _=>(cA (i:=2) T.telling.eS.s.nd rfl (Ql rfl))) (fun _ _ _ _ _=>oh) (fun _ _ _ _ _=>(aT Bq (by rfl) T.hJ.KI boot_ord (ae (cT z7 T.signs.vJ.e (aS oZ (aS nc (pv 0) (aS rG aw (pv 2))) aw) (fun _ _=>rfl)) ah)))))),?_⟩;walk_at "r6";refine HC (lo:=(k:Int) - 1) (c:=-1) (n:=k) (fun R x=>⟨_,rfl,_,_,rfl,rfl,_,rfl,_,rfl,_,_,_,k,rfl,?_,x⟩) (fun D i f=>aB H f/\H D=none/\f D=some (.lst (bI ((w9 n k).take i)))) (fun D d=>⟨aB.new d,d,ai⟩) (fun D i f y g=>?_) (fun D f g=>?_);.have:=Ny.neg (i:=(k:Int) - 1) (j:=-1) (by omega) (by omega) (by omega) (by omega);rw[show((k:Int) - 1 - -1).toNat=k by omega]at this;exact this
 .obtain⟨o,d,b⟩:=g;simp only[wipe,Dh];walk_at "r6";rw[Oy OF];obtain⟨a,l⟩:∃ a,a=k - 1 - i:=⟨_,rfl⟩
  have q:(k:Int) - 1+(i:Int) * -1=(a:Int):=by omega
  have r:(n:Int) / 2 ^ (4 * (a:Int)).toNat % 16=((n / 16 ^ a % 16:Nat):Int):=by rw[show(4 * (a:Int)).toNat=4 * a by omega,show(2:Int) ^ (4 * a)=((16 ^ a:Nat):Int) by rw[Int.pow_mul];simp];rfl
  have v:(w9 n k)[i]?=some (hexNibble (n / 16 ^ a)):=by rw[l];simp[w9,y]
  rw[q,r,show(Str.ofString "0123456789abcdef").cps.toList=cn from rfl];refine⟨.inl ⟨by decide,by decide⟩,by omega,by decide,by decide,_,gW (LS _),rfl,_,b,?_,fun z u h=>by rw[aq (aj h d)];exact o _ _ h,d,?_⟩;.rw[bo,Pg];exact dR (by omega)
  .rw[ai,PN,v,iW];rfl
 .obtain⟨o,d,b⟩:=g;rw[PU (by simp[w9])]at b;exact h D f o d b
def DQ(c:UInt8):Bytes:=if c=34\/c=92 then [92,c] else if c.toNat<32\/c=127 then [92,117,48,48,hexNibble (c.toNat / 16),hexNibble c.toNat] else [c]
theorem Bs(b:Bytes):Ql16.tellText b=34::(b.flatMap DQ++[34]):=rfl
theorem J2(c:UInt8):(DQ c).length<=6:=by
 unfold DQ;split;.simp
 .split<;>simp
theorem uR:∀ b:Bytes,(b.flatMap DQ).length<=6 * b.length
 | []=>by simp
 | c::r=>by have:=uR r;have:=J2 c;rw[U3,ON,OB];omega
def pW:Sp:=fun vs H Q _=>∃ p,∃ b:Bytes,vs=[.ref p]/\H p=some (.tup (bI b))/\b.length<=120000/\∀ q a,aB H a->H q=none->a q=some (.lst (bI (Ql16.tellText b)))->Q (.ref q) a
theorem p9:T.telling.gI.Ok P w mg base 2 pW:=by
 refine T.telling.gI.fi (fun vs H Q E h=>?_) (fun a0 A X s H vs Q E hr h=>?_);.obtain⟨p,b,rfl,_⟩:=h;rfl
 obtain⟨p,b,rfl,Z,hb,h⟩:=h;refine⟨_,(af (T.telling.gI.set 1 (aZ (ae T.signs.fA.e ah)))
  (af (ic Qh rfl (Cv (pv 0)) (cA (i:=2) T.telling.gI.s.nd rfl (Ql rfl)) (ag (aK (bK (T.signs.jh.cl (oR T) hr.zz (ae (pv 2) ah))) (af (aN (df OJ P1 P2 fF (pv 1) (ae (aZ (ae T.signs.kb.e (ae T.signs.FK.e (ae T.signs.G0.e (ae T.signs.G0.e ah))))) ah)))
  (ag (aN (df OJ P1 P2 fF (pv 1) (ae (T.telling.eS.cl (nP T) hr.zz (ae (pv 2) (ae aw ah))) ah))))) (ag (aK (PW.pt (fS (aC aV (pv 2) T.signs.fA.e (aE _)) (fk (aC aV (pv 2) T.signs.kb.e (aE _))))) (ag (aN (df OJ P1 P2 fF (pv 1) (ae (aZ (ae T.signs.kb.e (ae (pv 2) ah))) ah)))) (ag (aN (df OJ OW OX bw (pv 1) (ae (pv 2) ah)))))))))
  (af (aN (df OJ OW OX bw (pv 1) (ae T.signs.fA.e ah)))
  (ag (ay (pv 1)))))),?_⟩
 walk_at "r6";refine⟨by decide,fun q B=>⟨_,rfl,p,rfl,⟨_,iJ.of (aB.new B _ _ Z)⟩,?_⟩⟩;have a4:sizeLine=16777216:=rfl;obtain⟨C,f⟩:∃ C:Nat->L2.St->Hp->Prop,C=(fun i R d=>aB H d/\d q=some (.lst (bI (34::(b.take i).flatMap DQ)))/\∃ o,R=[some (.ref p),some (.ref q),o]):=⟨_,rfl⟩
 refine Ey (xs:=bI b) C ?_ ?_ ?_ ?_;.rw[f];exact⟨aB.new B,ai,none,rfl⟩
 .intro i R d _ pv;rw[f]at pv;exact iJ.of (pv.1 _ _ Z)
 .intro i y R d hy pv;rw[f]at pv;obtain⟨I,hl,o,rfl⟩:=pv;obtain⟨c,hc,rfl⟩:∃ c:UInt8,b[i]?=some c/\V.int (c.toNat:Int)=y:=by simpa[bI]using hy
  have ln:=fu hc;have Y:=uR (b.take i);rw[Pg]at Y;have k:∀ (x:Bytes) (v:Hp),x=DQ c->aB H v->C (i+1) [some (.ref p),some (.ref q),some (.int (c.toNat:Int))] (upd v q (.lst (bI (34::(b.take i).flatMap DQ)++bI x))):=fun x v e N=>by rw[f];refine⟨fun a u z=>by rw[aq (aj z B)];exact N _ _ z,?_,_,rfl⟩;rw[ai,<-iW,PN,hc,e];simp
  have ll:(bI (34::(b.take i).flatMap DQ)).length<=720001:=by rw[bo,OB];omega
  walk_at "r6";have O:Mi K "list" (V.ref q) d:=.inl ⟨rfl,_,bB.of hl⟩;have J:∀ j,d j=none->DQ c=[92,c]->∃ x,upd d j (HO.lst [V.int 92,V.int (c.toNat:Int)]) q=some (HO.lst x)/\∃ r,upd d j (HO.lst [V.int 92,V.int (c.toNat:Int)]) j=some (HO.lst r)/\x.length+r.length<=sizeLine /\
   C (i+1) [some (V.ref p),some (V.ref q),some (V.int (c.toNat:Int))] (upd (upd d j (HO.lst [V.int 92,V.int (c.toNat:Int)])) q (HO.lst (x++r))):=fun j h1 e=>by
   refine⟨_,by rw[aq (aj hl h1)];exact hl,_,ai,by simp only[OB,Pa];omega,?_⟩;exact k [92,c] _ e.symm (I.trans (aB.new h1))
  have l:((c.toNat:Int)=127)↔c=127:=toNat_eq (n:=127) (by decide);have D:((c.toNat:Int)=34)↔c=34:=toNat_eq (n:=34) (by decide);have G:((c.toNat:Int)=92)↔c=92:=toNat_eq (n:=92) (by decide);cases m:gz (c.toNat:Int) with
  | true=>
    have g:c.toNat<32\/c=127:=by
     unfold gz at m;simp only[SA,Pc,l]at m;rcases m with z | z;.exact .inl (by omega)
     .exact .inr z
    have ex:DQ c=[92,117,48,48]++w9 c.toNat 2:=by
     have U:¬ (c=34\/c=92):=by
      rintro(rfl | rfl)
      .rcases g with z | z;.exact absurd z (by decide)
       .exact absurd z (by decide)
      .rcases g with z | z;.exact absurd z (by decide)
       .exact absurd z (by decide)
     unfold DQ;rw[Ox U,Oy g];simp[w9,VB]
    rw[Oy rfl];refine⟨O,by decide,fun j h1=>⟨_,by rw[aq (aj hl h1)];exact hl,_,ai,by simp only[OB,Pa];omega,.inl ⟨rfl,_,bB.of ai⟩,?_⟩⟩;refine⟨c.toNat,2,rfl,by decide,fun q2 v N a3 W=>?_⟩;refine⟨q2,rfl,_,N _ _ ai,_,W,by rw[ON,bo (w9 c.toNat 2)];simp only[OB,Pa,w9,O0,Tr];omega,?_⟩;have sm:aB H v:=fun a u z=>N _ _ (by rw[aq (aj z B)];exact aB.new h1 _ _ (I _ _ z));have:=k _ v ex.symm sm;rw[iW,<-QX]at this;exact this
  | false=>
    have g:¬ (c.toNat<32\/c=127):=by
     unfold gz at m;simp only[SJ,Rq,l]at m;rintro(z | z);.exact m.1 (by omega)
     .exact m.2 z
    rw[Ox (by decide)];by_cases L:c=34;.rw[Oy (OO (D.mpr L)),Oy OF];exact⟨O,by decide,fun j h1=>J j h1 (by unfold DQ;rw[Oy (.inl L)])⟩
    rw[Ox (by simpa using fun z=>L (D.mp z))];by_cases M:c=92;.rw[Oy (OO (G.mpr M))];exact⟨O,by decide,fun j h1=>J j h1 (by unfold DQ;rw[Oy (.inr M)])⟩
    rw[Ox (by simpa using fun z=>M (G.mp z))];refine⟨O,_,hl,by omega,?_⟩;exact k [c] d (by unfold DQ;rw[Ox (by simp[L,M]),Ox g]) I
 .intro R d pv;rw[f]at pv;obtain⟨I,hl,o,rfl⟩:=pv;walk_at "r6";rw[bo,QQ]at hl;have Y:=uR b;refine⟨.inl ⟨rfl,_,bB.of hl⟩,_,hl,by rw[bo,OB];omega,?_⟩;refine h q _ (fun a u z=>by rw[aq (aj z B)];exact I _ _ z) B ?_;rw[ai,Bs];simp[bI]
theorem Ag(h:c∈Nat.toDigits 10 n):c.toNat<256:=by have:=Nat.isDigit_of_mem_toDigits (by decide) (by decide) h;simp only[Char.isDigit,O4,Pc]at this;have h2:=this.2;have:c.val.toNat<=57:=UInt32.le_iff_toNat_le.mp h2;show c.val.toNat<256;omega
theorem Eh(n:Nat):(Nat.repr n).toList.map Char.toNat=aI (Ql16.decimal n):=by unfold Nat.repr Ql16.decimal aI;rw[String.toList_ofList,P4];refine Qx fun c hc=>?_;have:=Ag hc;show c.toNat=(UInt8.ofNat c.toNat).toNat;rw[UT];omega
theorem int_str(z:Int):Str.ofString (toString z)=S (aI (Ql16.int z)):=by
 rw[Str.ofString_eq_toList];unfold S;congr 2;cases z with
 | ofNat n=>show(Nat.repr n).toList.map Char.toNat=_;rw[Eh];rfl
 | negSucc n=>show("-"++Nat.repr (n+1)).toList.map Char.toNat=_;rw[String.toList_append,Qp,Eh];unfold Ql16.int;rw[Oy (Int.negSucc_lt_zero n)];rfl
theorem yS(h:z.natAbs<10 ^ 19):(Ql16.int z).length<=20/\z.natAbs.log2<1920:=by
 refine⟨yK (k:=19) (by decide) h,?_⟩;by_cases a:z.natAbs=0;.rw[a];decide
 .exact(RP a).mpr (Pb h (by exact O9 (by decide:10 ^ 19<=2 ^ 64) (PB (by decide) (by decide))))
def Iz:Node->Prop
 | .list _=>False
 | .rows _=>False
 | .table _ _=>False
 | _=>True
def wU(t:bZ):Sp:=fun vs H Q _=>∃ v n,vs=[v]/\fX t H n v/\Iz n/\okN n/\sz n<=720000/\∀ q a,aB H a->H q=none->a q=some (.lst (bI (Ql16.tell n)))->Q (.ref q) a
theorem wM:T.telling.lJ.Ok P w mg base 3 (wU t):=by
 refine T.telling.lJ.fi (fun vs H Q E h=>?_) (fun J A y s H vs Q E m h=>?_);.obtain⟨p,b,rfl,_⟩:=h;rfl
 obtain⟨v,n,rfl,⟨O,R⟩,C,F,N,h⟩:=h;refine⟨_,(af (aK (aC aV (aM (pv 0) rfl) T.kinds.Cz.e (aE _)) (ag (ay (T.telling.gI.cl (p9 T) m.zz (ae (aM (pv 0) rfl) ah)))) aD)
  (af (aK (aC aV (aM (pv 0) rfl) T.kinds.DC.e (aE _)) (ag (ay (aS C5 (aZ (ae T.signs.oW.e ah)) (T.telling.eS.cl (nP T) m.zz (ae (aM (pv 0) rfl) (ae aw ah)))))) aD)
  (af (aK (aC aV (aM (pv 0) rfl) T.kinds.Ez.e (aE _)) (ag (ay (T.signs.gw.cl (mE T) m.zz (ae (pZ (bK (aM (pv 0) rfl)) cP cP) ah)))) aD)
  (af (aK (aC aV (aM (pv 0) rfl) T.kinds.KS.e (aE _)) (ag (ay (aS C5 (aZ (ae T.signs.FG.e ah)) (T.signs.gw.cl (mE T) m.zz (ae (fJ lp (by rfl) T.hJ.IH boot_str (ae (aM (pv 0) rfl) ah)) ah))))) aD)
  (ag (ay (T.signs.gw.cl (mE T) m.zz (ae (fJ lp (by rfl) T.hJ.IH boot_str (ae (aM (pv 0) rfl) ah)) ah)))))))),?_⟩
 have c:=T.kinds.aR;have f:=T.kinds.bj;have ac:=T.kinds.aW;cases n with
 | list l=>exact C.elim
 | rows l=>exact C.elim
 | table hw l=>exact C.elim
 | text b=>obtain⟨x,a,d,p,rfl,hx,L,_⟩:=R;refine⟨_,rfl,x,_,a,_,_,rfl,hx,c,f,rfl,rfl,_,rfl,rb rfl ⟨_,rfl,x,_,a,_,_,rfl,hx,c,ac,rfl,p,b,rfl,L,?_,fun q G s' i hl=>h q G s' i hl⟩⟩;simp only[sz]at N;omega
 | real b=>obtain⟨x,a,d,rfl,hx,_⟩:=R;refine⟨_,rfl,x,_,a,_,_,rfl,hx,c,f,rfl,rfl,_,rfl,hI rfl ⟨_,rfl,x,_,a,_,_,rfl,hx,c,f,rfl,rfl,_,rfl,rb rfl ⟨by decide,fun B h1=>?_⟩⟩⟩;have j:=aB.new (o:=HO.lst [V.int 35]) h1;refine⟨_,rfl,x,_,a,_,_,rfl,j _ _ hx,c,ac,rfl,b,16,rfl,by decide,fun D I k u g=>⟨B,D,_,_,rfl,rfl,k _ _ ai,g,by rw[bo];simp[w9];decide,fun q i=>?_⟩⟩;exact h q _ ((j.trans k).trans (aB.new i)) ((j.trans k).free i) ai
 | truth b=>
   obtain⟨x,a,d,rfl,hx,_⟩:=R;refine⟨_,rfl,x,_,a,_,_,rfl,hx,c,f,rfl,rfl,_,rfl,hI rfl ⟨_,rfl,x,_,a,_,_,rfl,hx,c,f,rfl,rfl,_,rfl,hI rfl ⟨_,rfl,x,_,a,_,_,rfl,hx,c,f,rfl,rfl,_,rfl,rb rfl ⟨_,rfl,x,_,a,_,_,rfl,hx,c,ac,rfl,b,rfl,?_⟩⟩⟩⟩;cases b with
   | true=>exact rb rfl ⟨Ql16.txt "true",rfl,by decide,h⟩
   | false=>exact hI rfl ⟨Ql16.txt "false",rfl,by decide,h⟩
 | day z=>obtain⟨x,a,d,rfl,hx,_⟩:=R;have M:-10000000<z/\z<10000000:=F;have r:=yS (z:=z) (by omega);refine⟨_,rfl,x,_,a,_,_,rfl,hx,c,f,rfl,rfl,_,rfl,hI rfl ⟨_,rfl,x,_,a,_,_,rfl,hx,c,f,rfl,rfl,_,rfl,hI rfl ⟨_,rfl,x,_,a,_,_,rfl,hx,c,f,rfl,rfl,_,rfl,hI rfl ⟨_,rfl,x,_,a,_,_,rfl,hx,c,f,rfl,rfl,_,rfl,rb rfl ⟨by decide,fun B h1=>?_⟩⟩⟩⟩⟩;have j:=aB.new (o:=HO.lst [V.int 64]) h1;refine⟨_,rfl,x,_,a,_,_,rfl,j _ _ hx,c,ac,rfl,z,rfl,r.2,Ql16.int z,by rw[int_str];rfl,by omega,fun D I k u g=>⟨B,D,_,_,rfl,rfl,k _ _ ai,g,by rw[bo];simp only[OB,Pa];exact cU (by omega),fun q i=>?_⟩⟩;exact h q _ ((j.trans k).trans (aB.new i)) ((j.trans k).free i) ai
 | whole z=>obtain⟨x,a,d,rfl,hx,_⟩:=R;have M:-2 ^ 63<=z/\z<2 ^ 63:=F;have r:=yS (z:=z) (by omega);refine⟨_,rfl,x,_,a,_,_,rfl,hx,c,f,rfl,rfl,_,rfl,hI rfl ⟨_,rfl,x,_,a,_,_,rfl,hx,c,f,rfl,rfl,_,rfl,hI rfl ⟨_,rfl,x,_,a,_,_,rfl,hx,c,f,rfl,rfl,_,rfl,hI rfl ⟨_,rfl,x,_,a,_,_,rfl,hx,c,f,rfl,rfl,_,rfl,hI rfl ?_⟩⟩⟩⟩;exact⟨_,rfl,x,_,a,_,_,rfl,hx,c,ac,rfl,z,rfl,r.2,Ql16.int z,by rw[int_str];rfl,by omega,h⟩
theorem Hf(a b:List Node):mv (a++b)=mv a++mv b:=by
 induction a with
 | nil=>rfl
 | cons x r c=>simp[mv,c]
theorem vS(l:List Node)(n:Node):jc (l++[n])=jc l++(if l=[] then [.node n] else [.row [44],.node n]):=by
 cases l with
 | nil=>rfl
 | cons x r=>simp[jc,Hf,mv]
theorem HD(l:List Node):(mv l).length=2 * l.length:=by
 induction l with
 | nil=>rfl
 | cons x r a=>simp only[mv,OB,a];omega
theorem xA(l:List Node):(jc l).length<=2 * l.length/\(l≠[]->0<(jc l).length):=by
 cases l with
 | nil=>exact⟨by simp[jc],fun h=>absurd rfl h⟩
 | cons x r=>have:=HD r;exact⟨by simp only[jc,OB];omega,fun _=>by simp[jc]⟩
theorem aB.off(s:aB Hb H')(h:Hb q=none):aB Hb (upd H' q o):=fun a u z=>by rw[aq (aj z h)];exact s _ _ z
structure Ext(H Hb H' Hc:Hp):Prop where
 all:aB H H'
 part:aB Hb Hc
 sub:aB Hc H'
 off:∀ a o,H a=some o->Hb a=none->Hc a=none
section
variable {H x v w t:Hp}
theorem Ext.refl(s:aB x H):Ext H x H x:=⟨fun _ _ z=>z,fun _ _ z=>z,s,fun _ _ _ z=>z⟩
theorem Ext.more(e:Ext H x v w)(s:aB v t):Ext H x t w:=⟨e.all.trans s,e.part,e.sub.trans s,e.off⟩
theorem Ext.free(e:Ext H x v w)(a:v r=none):w r=none:=e.sub.free a
theorem Ext.add(e:Ext H x v w)(s:aB v t)(b:v r=none)(c:t r=some o):Ext H x t (upd w r o):=by
 refine⟨e.all.trans s,e.part.trans (aB.new (e.free b)),fun a u z=>?_,fun a u z y=>?_⟩
 .by_cases q:a=r;.subst q;rw[ai]at z;rw[<-z];exact c
  .rw[aq q]at z;exact s _ _ (e.sub _ _ z)
 .rw[aq (aj (e.all _ _ z) b)];exact e.off a u z y
theorem Ext.put(e:Ext H x v w)(c:w q=none)(b:H q=none):Ext H x (upd v q o) w:=⟨fun a u z=>by rw[aq (aj z b)];exact e.all _ _ z,e.part,aB.off e.sub c,e.off⟩
end
def qk(t:bZ):Sp:=fun vs H Q _=>∃ c l us a,vs=[.ref c]/\aB a H/\a c=some (.lst us)/\eL t a l us/\pC l<=720000/\∀ q b d ps,Ext H a b d->H q=none->d q=none->b q=some (.lst ps)->nM t d (lR l) ps->Q (.ref q) b
theorem qy:T.telling.dU.Ok P w mg base 1 (qk t):=by
 refine T.telling.dU.fi (fun vs H Q E h=>?_) (fun Y A I s H vs Q E hr h=>?_);.obtain⟨c,l,us,Hb,rfl,_⟩:=h;rfl
 obtain⟨c,l,us,u,rfl,s0,hc,R,sl,h⟩:=h;refine⟨_,(af (T.telling.dU.set 1 (aZ (ae (aZ (ae T.signs.gM.e ah)) ah)))
  (af (ic Qh rfl (jW (pv 0)) (cA (i:=2) T.telling.dU.s.nd rfl (Ql rfl)) (af (aK (aC hW (aT aO (by rfl) T.hJ.dh O5 (ae (pv 1) ah)) aw (aE _)) (ag (aN (df OJ OW OX bw (pv 1) (ae (aZ (ae T.signs.zk.e ah)) ah)))) aD)
  (ag (aN (df OJ OW OX bw (pv 1) (ae (pv 2) ah))))))
  (af (aN (df OJ OW OX bw (pv 1) (ae (aZ (ae T.signs.gp.e ah)) ah)))
  (ag (ay (pv 1)))))),?_⟩
 walk_at "r6";refine⟨by decide,fun m h1=>⟨by decide,fun q G=>?_⟩⟩;have b:H q=none:=(aB.new h1).free G;have J:Ext H u (upd H m (.lst [V.int 91])) (upd u m (.lst [V.int 91])):=(Ext.refl s0).add (aB.new h1) h1 ai;have L:Ext H u (upd (upd H m (.lst [V.int 91])) q (.lst [V.ref m])) (upd u m (.lst [V.int 91])):=J.put (J.free G) b;rw[qf];refine⟨_,rfl,c,rfl,⟨_,bB.of (L.sub _ _ (L.part _ _ hc))⟩,?_⟩;have a0:sizeLine=16777216:=rfl;have ul:=R.len;have ll:=ud l;obtain⟨D,a⟩:∃ D:Nat->L2.St->Hp->Prop,D=(fun i C r=>∃ g ps o,Ext H u r g/\g q=none/\r q=some (.lst ps)/\nM t g (.row [91]::jc (l.take i)) ps/\C=[some (.ref c),some (.ref q),o]):=⟨_,rfl⟩
 refine jG (xs:=us) D ?_ ?_ ?_ ?_;.rw[a];exact⟨_,_,none,L,J.free G,ai,⟨_,[],rfl,⟨m,rfl,ai⟩,rfl⟩,rfl⟩
 .intro i C r _ pv;rw[a]at pv;obtain⟨g,ps,o,d,p,f,k,rfl⟩:=pv;exact bB.of (d.sub _ _ (d.part _ _ hc))
 .intro i y C r hy pv;rw[a]at pv;obtain⟨g,ps,o,d,p,f,k,rfl⟩:=pv;obtain⟨n,hn,N⟩:=R.get hy;have il:i<l.length:=(OV.mp hn).1;have B:=k.len;obtain⟨b1,b2⟩:=xA (l.take i);have tl:(l.take i).length=i:=by rw[Pg];omega
  rw[OB]at B;have O:l.take (i+1)=l.take i++[n]:=by rw[PN,hn];rfl
  walk_at "r6";refine⟨_,.inl (bB.of f),?_⟩;by_cases U:i=0
  .subst U;have Z:ps.length=1:=by rw[B];rfl
   rw[Ox (by rw[Z];decide)];refine⟨.inl ⟨rfl,_,bB.of f⟩,_,f,by omega,?_⟩;rw[a];refine⟨g,_,_,d.put p b,p,ai,?_,rfl⟩;rw[O,vS];exact nM.app k ⟨y,[],rfl,N.same d.part,rfl⟩
  .have W:l.take i≠[]:=fun z=>U (by rw[z]at tl;exact tl.symm);have:=b2 W;rw[Oy (by simp;omega)];refine⟨.inl ⟨rfl,_,bB.of f⟩,by decide,fun j h2=>?_⟩;have v:q≠j:=aj f h2;refine⟨_,by rw[aq v];exact f,by omega,.inl ⟨rfl,_,bB.of ai⟩,_,ai,by simp;omega,?_⟩;rw[a,cx];have M:=d.add (o:=HO.lst [V.int 44]) (aB.new h2) h2 ai;have x:upd g j (.lst [V.int 44]) q=none:=by rw[aq v];exact p
   have X:=aB.new (o:=HO.lst [V.int 44]) (d.free h2);refine⟨_,_,_,M.put x b,x,ai,?_,rfl⟩;rw[O,vS,Ox W,QX];exact nM.app (k.same X) ⟨.ref j,_,rfl,⟨j,rfl,ai⟩,y,[],rfl,(N.same d.part).same X,rfl⟩
 .intro C r pv;rw[a]at pv;obtain⟨g,ps,o,d,p,f,k,rfl⟩:=pv;rw[ul,QQ]at k;have B:=k.len;obtain⟨b1,b2⟩:=xA l;rw[OB]at B;walk_at "r6";refine⟨.inl ⟨rfl,_,bB.of f⟩,by decide,fun j h2=>?_⟩;have v:q≠j:=aj f h2;refine⟨_,by rw[aq v];exact f,by omega,?_⟩;have M:=d.add (o:=HO.lst [V.int 93]) (aB.new h2) h2 ai;have x:upd g j (.lst [V.int 93]) q=none:=by rw[aq v];exact p
  refine h q _ _ _ (M.put x b) b x ai ?_;exact nM.app (k.same (aB.new (d.free h2))) ⟨.ref j,[],rfl,⟨j,rfl,ai⟩,rfl⟩
theorem EZ{d:Addr}{o:Obj}{a:List (List Key×V)}{g:TG}{j:TS}{D:Ends}{b:L2.St}{H:Hp}(c:Nat->L2.St->Hp->Prop)(r:c 0 b H)(hl:∀ i b H,i<=a.length->c i b H->H d=some (.jP o (.dT a)))
 (hs:∀ i k v b H T q,a[i]?=some (k,v)->c i b H->H T=none->H q=some (.tup (k.map kV))->g (.ref T) b (upd H T (.tup [.ref q,v])) fun h n=>j { D with nx:=c (i+1),ct:=c (i+1),bk:=D.nx } h n) (hd:∀ b H,c a.length b H->D.nx b H):GN (Lh d o a) g j D b H:=by
 refine⟨fun i m b H=>m=a.length - i/\i<=a.length/\c i b H,⟨a.length,by simp,O1 _,r⟩,?_⟩;rintro i m b H ⟨rfl,u,p⟩;have q:=hl i b H u p;by_cases f:i<a.length;.refine .inr ⟨⟨q,f⟩,c (i+1),fun E l B=>⟨a.length - (i+1),by omega,rfl,f,B⟩,fun x l y=>?_⟩;obtain⟨T,k,v,C,z,rfl,s,A,rfl⟩:=y;exact hs i k v b _ T C z p s A
 .have e:i=a.length:=by omega
  subst e;exact .inl ⟨⟨q,OE _⟩,hd b H p⟩
theorem HH(a b:Entries):mr (a++b)=mr a++mr b:=by
 induction a with
 | nil=>rfl
 | cons x r c=>obtain⟨k,n⟩:=x;simp[mr,c]
theorem sO(l:Entries)(k:Bytes)(n:Node):fz (l++[(k,n)])=fz l++(if l=[] then [] else [.row [44]])++[.row (Ql16.tellText k),.row [58],.node n]:=by
 cases l with
 | nil=>rfl
 | cons x r=>obtain⟨a,b⟩:=x;simp[fz,HH,mr]
theorem IJ(l:Entries):(mr l).length=4 * l.length:=by
 induction l with
 | nil=>rfl
 | cons x r a=>obtain⟨k,n⟩:=x;simp only[mr,OB,a];omega
theorem wa(l:Entries):(fz l).length<=4 * l.length/\(l≠[]->0<(fz l).length):=by
 cases l with
 | nil=>exact⟨by simp[fz],fun h=>absurd rfl h⟩
 | cons x r=>obtain⟨k,n⟩:=x;have:=IJ r;exact⟨by simp only[fz,OB];omega,fun _=>by simp[fz]⟩
def Gx(t:bZ)(H e:Hp)(q c:Addr)(a:List (List Key×V))(f:Obj)(l:List Piece)(b:Hp):Prop:=∃ d ps,Ext H e (upd b c (.dT a)) d/\d q=none/\b c=some (.jP f (.dT a))/\b q=some (.lst ps)/\nM t d l ps
theorem aB.lock(s:aB H' b):aB (upd H' c u) (upd b c u):=fun a o z=>by
 by_cases e:a=c;.subst e;rw[ai]at z |-;exact z
 .rw[aq e]at z |-;exact s _ _ z
theorem BX(h:a≠b):upd (upd H a x) b y=upd (upd H b y) a x:=funext fun z=>by
 by_cases c:z=a;.subst c;rw[aq h,ai,ai]
 .by_cases d:z=b;.subst d;rw[ai,aq c,ai]
  .rw[aq d,aq c,aq c,aq d]
section
variable {H w x m:Hp}{q c:Addr}{y:List (List Key×V)}{u:Obj}{l:List Piece}
theorem Gx.same(p:Gx t H w q c y u l x)(s:aB x m):Gx t H w q c y u l m:=by obtain⟨a,ps,b,d,e,f,g⟩:=p;exact⟨a,ps,b.more (aB.lock s),d,s _ _ e,s _ _ f,g⟩
theorem Gx.ty(p:Gx t H w q c y u l x):Mi K "list" (V.ref q) x:=by obtain⟨b,ps,d,e,f,a,g⟩:=p;exact .inl ⟨rfl,_,bB.of a⟩
theorem Gx.row(d:H q=none)(p:Gx t H w q c y u l x)(s:aB x m)(e:x r=none)(A:m r=some (.lst (bI b))):∃ ps,m q=some (.lst ps)/\ps.length=l.length/\Gx t H w q c y u (l++[.row b]) (upd m q (.lst (ps++[.ref r]))):=by
 obtain⟨v,ps,k,C,f,g,n⟩:=p;have j:r≠c:=(aj f e).symm;have B:q≠r:=aj g e;have h:c≠q:=cH f g (by intro z;cases z);have a:upd x c (.dT y) r=none:=by rw[aq j];exact e
 have D:=k.add (o:=HO.lst (bI b)) (aB.lock s) a (by rw[aq j];exact A);have i:upd v r (.lst (bI b)) q=none:=by rw[aq B];exact C
 refine⟨ps,s _ _ g,n.len,_,_,?_,i,by rw[aq h];exact s _ _ f,ai,nM.app (n.same (aB.new (k.free a))) ⟨.ref r,[],rfl,⟨r,rfl,ai⟩,rfl⟩⟩;rw[BX (OL h)];exact D.put i d
theorem Gx.val(a:H q=none)(p:Gx t H w q c y u l x)(R:fX t w n v):∃ ps,x q=some (.lst ps)/\ps.length=l.length/\Gx t H w q c y u (l++[.node n]) (upd x q (.lst (ps++[v]))):=by obtain⟨i,ps,d,e,f,g,h⟩:=p;have b:c≠q:=cH f g (by intro z;cases z);refine⟨ps,g,h.len,i,_,?_,e,by rw[aq b];exact f,ai,nM.app h ⟨v,[],rfl,R.same d.part,rfl⟩⟩;rw[BX (OL b)];exact d.put e a
end
def oX(t:bZ):Sp:=fun vs H Q _=>∃ c f a b,vs=[.ref c]/\aB b H/\b c=some (.dT a)/\gB t b f a/\dk f<=720000/\∀ q d e ps,Ext H b d e->H q=none->e q=none->d q=some (.lst ps)->nM t e (nW f) ps->Q (.ref q) d
theorem pd:T.telling.cJ.Ok P w mg base 3 (oX t):=by
 refine T.telling.cJ.fi (fun vs H Q E h=>?_) (fun a8 A a6 s H vs Q E C h=>?_);.obtain⟨c,l,us,Hb,rfl,_⟩:=h;rfl
 obtain⟨c,f,m,J,rfl,s0,hc,R,sl,h⟩:=h;refine⟨_,(af (T.telling.cJ.set 1 (aZ (ae (aZ (ae T.signs.qZ.e ah)) ah)))
  (af (JV (ic Qh rfl (F3 (pv 0)) (Iq rfl (pS (cA (i:=2) T.telling.cJ.s.nd rfl (Ql rfl)) (pS (cA (i:=3) T.telling.cJ.s.nd rfl (Ql rfl)) DS))) (af (aK (aC hW (aT aO (by rfl) T.hJ.dh O5 (ae (pv 1) ah)) aw (aE _)) (ag (aN (df OJ OW OX bw (pv 1) (ae (aZ (ae T.signs.zk.e ah)) ah)))) aD)
  (af (aN (df OJ OW OX bw (pv 1) (ae (T.telling.gI.cl (p9 T) C.zz (ae (pv 2) ah)) ah)))
  (af (aN (df OJ OW OX bw (pv 1) (ae (aZ (ae T.signs.Jr.e ah)) ah)))
  (ag (aN (df OJ OW OX bw (pv 1) (ae (pv 3) ah)))))))))
  (af (aN (df OJ OW OX bw (pv 1) (ae (aZ (ae T.signs.oN.e ah)) ah)))
  (ag (ay (pv 1)))))),?_⟩
 walk_at "r6";refine⟨by decide,fun D h1=>⟨by decide,fun q hq=>?_⟩⟩;have g:H q=none:=(aB.new h1).free hq;have x1:Ext H J (upd H D (.lst [V.int 123])) (upd J D (.lst [V.int 123])):=(Ext.refl s0).add (aB.new h1) h1 ai;have x2:Ext H J (upd (upd H D (.lst [V.int 123])) q (.lst [V.ref D])) (upd J D (.lst [V.int 123])):=x1.put (x1.free hq) g;have U:=x2.sub _ _ (x2.part _ _ hc);refine⟨c,_,U,OF,fun od=>?_⟩;rw[qf];refine⟨_,rfl,c,od,m,rfl,ai,?_⟩;have a9:sizeLine=16777216:=rfl;have ul:=R.len;have ll:=yX f;have cq:c≠q:=aj (x1.sub _ _ (x1.part _ _ hc)) hq;obtain⟨L,x⟩:∃ L:Nat->L2.St->Hp->Prop,L=(fun i σ y=>Gx t H J q c m od (.row [123]::fz (f.take i)) y/\∃ o2 o3,σ=[some (.ref c),some (.ref q),o2,o3]):=⟨_,rfl⟩
 refine EZ L ?_ ?_ ?_ ?_
 .rw[x];refine⟨⟨_,[.ref D],?_,x1.free hq,ai,by rw[aq (OL cq)];exact ai,⟨_,[],rfl,⟨D,rfl,ai⟩,rfl⟩⟩,none,none,rfl⟩;rw[cx];refine x2.more fun a u z=>?_;by_cases e:a=c;.subst e;rw[U]at z;rw[ai];exact z
  .rw[aq e];exact z
 .intro i σ y _ pv;rw[x]at pv;obtain⟨⟨Hc,ps,Z,t2,t4,t5,N⟩,_⟩:=pv;exact t4
 .intro i k v σ y TT M hk pv hT W;rw[x]at pv;obtain⟨X,o2,o3,rfl⟩:=pv;obtain⟨j,n,hn,ek,Rn⟩:=R.get hk;simp only at ek Rn;subst ek;rw[B8]at W;have il:i<f.length:=(OV.mp hn).1;have kl:j.length<=120000:=by
   have:6 * j.length<=dk f:=by
    obtain⟨hi,e⟩:=OV.mp hn;have e2:f=f.take i++(j,n)::f.drop (i+1):=by rw[<-e,List.getElem_cons_drop,Ui]
    rw[e2,iK];simp only[dk];omega
   omega
  obtain⟨b1,b2⟩:=wa (f.take i);have tl:(f.take i).length=i:=by rw[Pg];omega
  have en:f.take (i+1)=f.take i++[(j,n)]:=by rw[PN,hn];rfl
  have sT:=aB.new (o:=HO.tup [.ref M,v]) hT;have d:=X.same sT;refine⟨TT,_,rfl,iJ.of ai,rfl,_,_,rfl,_,_,rfl,rfl,?_⟩;have p:=sT _ _ W;generalize upd y TT (HO.tup [.ref M,v])=H1 at d p;clear X sT hT;have go:∀ (l:List Piece) (O:Hp),Gx t H J q c m od l O->O M=some (.tup (bI j))->l.length<=4 * i+2->l++[.row (Ql16.tellText j),.row [58],.node n]=.row [123]::fz (f.take (i+1)) ->
   (mu (jY (GF K "list" gm (hU 1) (gN (kg pW [] E0 (gN (hU 2) kH)) kH))) (mu (jY (GF K "list" gm (hU 1) (gN (tQ (gN (tC (V.int 58)) kH)) kH))) (jY (GF K "list" gm (hU 1) (gN (hU 3) kH))))) ⟨L (i+1),fun v y=>y c=some (HO.jP od (HO.dT m))/\Q v (upd y c (HO.dT m)),fun _ _=>False,L (i+1)⟩ [some (.ref c),some (.ref q),some (.ref M),some v] O:=by
   intro l O G a5 ln el;refine⟨_,rfl,G.ty,_,rfl,M,j,rfl,a5,kl,fun q2 H3 s3 a4 a3=>?_⟩;obtain⟨ps,e1,e2,p3⟩:=G.row g s3 a4 a3;refine⟨q,ps,_,rfl,rfl,e1,by omega,?_⟩;refine⟨_,rfl,p3.ty,by decide,fun r C=>?_⟩;obtain⟨I,e3,e4,p4⟩:=p3.row g (b:=[58]) (aB.new (o:=HO.lst [V.int 58]) C) C ai;rw[ON]at e4;refine⟨q,I,_,rfl,rfl,e3,by simp at e4;omega,?_⟩;obtain⟨a7,e5,e6,p5⟩:=p4.val g Rn;rw[ON,ON]at e6;refine⟨_,rfl,p4.ty,_,rfl,q,a7,_,rfl,rfl,e5,by simp at e6;omega,?_⟩;show L (i+1) _ _;rw[x];refine⟨?_,_,_,rfl⟩;rw[<-el];simpa using p5
  obtain⟨Hc,ps,Z,t2,t4,t5,N⟩:=id d;have Y:=N.len;rw[OB]at Y;refine⟨_,rfl,q,rfl,_,.inl (bB.of t5),_,_,rfl,rfl,_,rfl,?_⟩;by_cases i0:i=0
  .have e0:f.take i=[]:=by rw[i0];rfl
   rw[e0]at Y;refine hI (O3 (by rw[Y];decide)) (go _ H1 d p (by rw[e0];simp[fz]) ?_);rw[en,sO,Oy e0];simp
  .have ne:f.take i≠[]:=fun z=>i0 (by rw[z]at tl;exact tl.symm);have:=b2 ne;refine rb (OO (by omega)) ⟨_,rfl,d.ty,by decide,fun r C=>?_⟩;obtain⟨I,e3,e4,p4⟩:=d.row g (b:=[44]) (aB.new (o:=HO.lst [V.int 44]) C) C ai;rw[OB]at e4;refine⟨q,I,_,rfl,rfl,e3,by omega,?_⟩;have a0:q≠M:=cH t5 p (by intro z;cases z);refine go _ _ p4 (by rw[aq (OL a0)];exact aB.new C _ _ p) (by simp;omega) ?_;rw[en,sO,Ox ne];simp
 .intro σ y pv;rw[x]at pv;obtain⟨⟨Hc,ps,Z,t2,t4,t5,N⟩,o2,o3,rfl⟩:=pv;refine⟨t4,?_⟩;rw[ul,QQ]at N;have Y:=N.len;obtain⟨b1,b2⟩:=wa f;rw[OB]at Y;have B:upd y c (.dT m) q=some (.lst ps):=by rw[aq (OL cq)];exact t5
  generalize upd y c (HO.dT m)=O at Z B;walk_at "r6";refine⟨.inl ⟨rfl,_,bB.of B⟩,by decide,fun G h2=>?_⟩;have pq:q≠G:=aj B h2;refine⟨_,by rw[aq pq];exact B,by omega,?_⟩;have x3:=Z.add (o:=HO.lst [V.int 125]) (aB.new h2) h2 ai;have q3:upd Hc G (.lst [V.int 125]) q=none:=by rw[aq pq];exact t2
  refine h q _ _ _ (x3.put q3 g) g q3 ai ?_;exact nM.app (N.same (aB.new (Z.free h2))) ⟨.ref G,[],rfl,⟨G,rfl,ai⟩,rfl⟩
def mP:Piece->Nat
 | .node n=>2 * sz n
 | .row _=>1
def pP(l:List Piece):Nat:=(l.map mP).sum
def fi:Piece->Prop
 | .node n=>okN n
 | .row _=>True
theorem yM(a b:List Piece):pP (a++b)=pP a+pP b:=by simp[pP]
theorem EA(a:List Piece):pP a.reverse=pP a:=by simp[pP,List.sum_reverse]
theorem IF(n:Node):3<=sz n:=by cases n<;>simp[sz]
theorem L3(l:List Node):pP (mv l)<=2 * pC l:=by
 induction l with
 | nil=>simp[mv,pP]
 | cons x r a=>simp only[mv,pP,OP,QP,mP,pC]at a |-;omega
theorem yt(l:List Node):pP (lR l)<=2+2 * pC l:=by
 unfold lR;cases l with
 | nil=>simp[jc,pP,mP]
 | cons x r=>have:=L3 r;simp only[jc,pP,OP,QP,OS,Qp,VC,PX,List.sum_nil,mP,pC]at this |-;omega
theorem LX(l:Entries):pP (mr l)<=2 * dk l:=by
 induction l with
 | nil=>simp[mr,pP]
 | cons x r a=>obtain⟨k,n⟩:=x;simp only[mr,pP,OP,QP,mP,dk]at a |-;omega
theorem Gn(l:Entries):pP (nW l)<=2+2 * dk l:=by
 unfold nW;cases l with
 | nil=>simp[fz,pP,mP]
 | cons x r=>obtain⟨k,n⟩:=x;have:=LX r;simp only[fz,pP,OP,QP,OS,Qp,VC,PX,List.sum_nil,mP,dk]at this |-;omega
theorem JQ(h:GD l):∀ p∈mv l,fi p:=by
 induction l with
 | nil=>simp[mv]
 | cons x r b=>
   intro p a;simp only[mv,OA]at a;rcases a with rfl | rfl | a;.exact OF
   .exact h.1
   .exact b h.2 p a
theorem wc(h:GD l):∀ p∈lR l,fi p:=by
 intro p a;unfold lR at a;simp only[OA,OH,Pf,Qs]at a;rcases a with rfl | a | rfl;.exact OF
 .cases l with
  | nil=>cases a
  | cons x r=>
    simp only[jc,OA]at a;rcases a with rfl | a;.exact h.1
    .exact JQ h.2 p a
 .exact OF
theorem Ki(h:gJ l):∀ p∈mr l,fi p:=by
 induction l with
 | nil=>simp[mr]
 | cons x r b=>
   obtain⟨k,n⟩:=x;intro p a;simp only[mr,OA]at a;rcases a with rfl | rfl | rfl | rfl | a;.exact OF
   .exact OF
   .exact OF
   .exact h.1
   .exact b h.2.1 p a
theorem DH(h:gJ l):∀ p∈nW l,fi p:=by
 intro p a;unfold nW at a;simp only[OA,OH,Pf,Qs]at a;rcases a with rfl | a | rfl;.exact OF
 .cases l with
  | nil=>cases a
  | cons x r=>
    obtain⟨k,n⟩:=x;simp only[fz,OA]at a;rcases a with rfl | rfl | rfl | a;.exact OF
    .exact OF
    .exact h.1
    .exact Ki h.2.1 p a
 .exact OF
theorem wd:∀ {l:List Entries},Eb l->GD (l.map (.table 1))
 | [],_=>OF
 | _::_,h=>⟨h.1,wd h.2⟩
theorem D3(l:List Piece):l.length<=pP l:=by
 induction l with
 | nil=>simp
 | cons x r a=>
   have:1<=mP x:=by cases x with | node n=>have:=IF n;simp only[mP];omega | row b=>simp[mP]
   simp only[pP,OP,QP,OB]at a |-;omega
def Kk(t:bZ):Sp:=fun vs H Q _=>∃ v n,vs=[v]/\fX t H n v/\okN n/\sz n<=720000/\∀ q a,aB H a->H q=none->a q=some (.lst (bI (Ql16.tell n)))->Q (.ref q) a
def Mt(t:bZ)(H:Hp)(q r:Addr)(n:Node)(W:List Piece)(b:Hp):Prop:=∃ (a:Hp) (tl:Bytes) (ps:List V),aB H a/\a q=none/\a r=none/\aB a b/\b q=some (.lst (bI tl))/\b r=some (.lst ps)/\nM t a W ps/\Ql16.tell n=tl++cg W.reverse/\pP W<=2 * sz n/\∀ p∈W,fi p
theorem Jk:T.telling.r8.Ok P w mg base 4 (Kk t):=by
 refine T.telling.r8.fi (fun vs H Q E h=>?_) (fun b7 A b6 s H vs Q E hr h=>?_);.obtain⟨v,n,rfl,_⟩:=h;rfl
 obtain⟨v,n,rfl,R,on,sn,h⟩:=h;refine⟨_,(af (T.telling.r8.set 1 (aZ ah))
  (af (T.telling.r8.set 2 (aZ (ae (pv 0) ah)))
  (af (eG Qh (aC hW (aT aO (by rfl) T.hJ.dh O5 (ae (pv 2) ah)) aw (aE _)) (af (T.telling.r8.set 3 (CL OJ Sn So Dd (pv 2)))
  (ag (aK (ie (bK (FN rfl T.hJ.zq PyProof.Rows.boot_isinstance (pv 3) (uj (v:=.ref (t.c "Value")) rfl T.kinds.uc rfl)))) (ag (aN (df OJ P1 P2 fF (pv 1) (ae (pv 3) ah)))) (ag (aK (aC aV (aM (pv 3) rfl) T.kinds.mX.e (aE _)) (ag (aN (df OJ P1 P2 fF (pv 2) (ae (uy rfl rfl T.hJ.Iu rfl T.hJ.ur boot_list (T.telling.dU.cl (qy T) hr.zz (ae (aM (pv 3) rfl) ah))) ah)))) (ag (aK (aC aV (aM (pv 3) rfl) T.kinds.qK.e (aE _)) (ag (aN (df OJ P1 P2 fF (pv 2) (ae (uy rfl rfl T.hJ.Iu rfl T.hJ.ur boot_list (T.telling.cJ.cl (pd T) hr.zz (ae (aM (pv 3) rfl) ah))) ah)))) (ag (aN (df OJ P1 P2 fF (pv 1) (ae (T.telling.lJ.cl (wM T) hr.zz (ae (pv 3) ah)) ah))))))))))))
  (ag (ay (pv 1)))))),?_⟩
 walk_at "r6";refine⟨by decide,fun q hq=>⟨by decide,fun r hr=>?_⟩⟩;have a8:H r=none:=(aB.new hq).free hr;have qr:q≠r:=aj ai hr;have c3:sizeLine=16777216:=rfl;have tn:=kL n on;refine⟨fun m σ H'=>∃ (W:List Piece) (o3:Option V),m=pP W/\σ=[some v,some (.ref q),some (.ref r),o3]/\Mt t H q r n W H',⟨_,[.node n],none,rfl,rfl,H,[],[v],fun _ _ z=>z,hq,a8,aB.off (aB.new hq) a8,by rw[aq qr];exact ai,ai,⟨v,[],rfl,R,rfl⟩,by simp[cg,eY],by simp[pP,mP],fun p hp=>by simp at hp;rw[hp];exact on⟩,?_⟩;rintro m σ H' ⟨W,o3,rfl,rfl,Hb,tl,ps,t1,t2,t3,t4,t5,t6,t7,t8,t9,a9⟩;walk_at "r6";refine⟨_,.inl (bB.of t6),?_⟩;have pl:=t7.len;rcases Sk W with rfl | ⟨M,p,eW⟩;.have p0:ps=[]:=t7;subst p0;rw[Ox (by decide)];refine h q H' (t1.trans t4) hq ?_;rw[t5,t8];simp[cg]
 rw[Sl]at eW;subst eW;obtain⟨o,u,rfl,c1,c2⟩:=t7.last;have mW:pP (M++[p])=pP M+mP p:=by rw[yM];simp[pP]
 have lW:=D3 M;have l0:=c1.len;have tW:cg (M++[p]).reverse=eY p++cg M.reverse:=by simp[cg]
 rw[tW]at t8;have B:=Pw List.length t8;rw[ON,ON]at B;rw[Oy (by simp)];obtain⟨N,hN⟩:∃ N:L2.St->Hp->Prop,N=(fun b0 H2=>∃ m',m'<pP (M++[p])/\∃ (W:List Piece) (o3:Option V),m'=pP W/\b0=[some v,some (.ref q),some (.ref r),o3]/\Mt t H q r n W H2):=⟨_,rfl⟩
 refine⟨N,fun b0 H2 z=>?_,.inl ⟨rfl,_,bB.of t6⟩,_,t6,u,by simp,?_⟩;.rw[hN]at z;obtain⟨m',z1,W',b4,z2,z3,z4⟩:=z;exact⟨m',z1,W',z2,b4,z3,z4⟩
 rw[QT];have f:aB Hb (upd H' r (.lst o)):=aB.off t4 t3;have i:upd H' r (.lst o) q=some (.lst (bI tl)):=by rw[aq qr];exact t5
 have j:upd H' r (.lst o) r=some (.lst o):=ai;generalize upd H' r (.lst o)=H3 at f i j;have a3:∀ x∈M,fi x:=fun x hx=>a9 x (PQ _ hx);have b5:fi p:=a9 p (by simp);cases p with
 | row b=>
   obtain⟨lb,rfl,b2⟩:=c2;have a5:=f _ _ b2;refine⟨_,.lst a5,_,T.obs.Lb,?_⟩;rw[Oy (by decide)];have b9:b.length<=(Ql16.tell n).length:=by rw[B];simp only[eY];omega
   refine⟨.inl ⟨rfl,_,bB.of i⟩,lb,rfl,_,i,_,a5,by rw[bo,bo];simp only[eY]at B;omega,?_⟩;rw[hN];refine⟨_,by rw[mW];simp only[mP];omega,M,_,rfl,rfl,Hb,tl++b,o,t1,t2,t3,aB.off f t2,by rw[ai,iW],by rw[aq (OL qr)];exact j,c1,by rw[t8];simp[eY],by rw[mW]at t9;simp only[mP]at t9;omega,a3⟩
 | node k=>
   have X:okN k:=b5;have m1:mP (.node k)=2 * sz k:=rfl;rw[mW,m1]at t9;obtain⟨fp,R1⟩:=c2;obtain⟨x,dx,cc,dd,rfl,hx,_⟩:=R1.head;have G:=f _ _ hx;have vk:=T.kinds.aR;refine⟨_,.ins G vk T.obs.N9 T.obs.N0 T.obs.Mz T.obs.NO,_,T.obs.Nm,?_⟩;rw[Ox (by decide)];have ak:=T.kinds.bj;have ac:=T.kinds.aW;have s1:sz k<=720000:=by omega
   have a0:∀ (P:List Piece) (D:Addr) (g L:Hp) (d:List V),Ext H3 Hb g L->g D=some (.lst d)->nM t L P d->cg P=Ql16.tell k->pP P<2 * sz k->(∀ x∈P,fi x)->∃ a,V.ref D=V.ref a/\∃ Y,bB K g a Y/\∀ (l:Addr),g l=none->∃ I,upd g l (HO.lst Y.reverse) r=some (HO.lst I)/\∃ J,upd g l (HO.lst Y.reverse) l=some (HO.lst J)/\I.length+J.length<=sizeLine /\
    N [some v,some (V.ref q),some (V.ref r),some (V.ref x)] (upd (upd g l (HO.lst Y.reverse)) r (HO.lst (I++J))):=by
    intro P D g L d C h1 h2 h3 h4 h5;refine⟨D,rfl,_,bB.of h1,fun l hl=>?_⟩;have a7:=C.all _ _ j;have a6:=C.all _ _ i;have lr:r≠l:=aj a7 hl;have lq:q≠l:=aj a6 hl;have c0:=h2.len;have lP:=D3 P;have cq:=C.off q _ i t2;have cr:=C.off r _ j t3;refine⟨_,by rw[aq lr];exact a7,_,ai,by rw[UG];omega,?_⟩;rw[hN];refine⟨_,?_,M++P.reverse,_,rfl,rfl,L,tl,_,t1.trans C.part,cq,cr,aB.off (C.sub.trans (aB.new hl)) cr,by rw[aq qr,aq lq];exact a6,ai,nM.app (c1.same C.part) h2.rev,?_,?_,fun y hy=>?_⟩;.rw[yM,EA,mW,m1];omega
    .rw[t8,List.reverse_append,List.reverse_reverse,lD,h3];rfl
    .rw[yM,EA];omega
    .rcases OH.mp hy with z | z;.exact a3 y z
     .exact h5 y (List.mem_reverse.mp z)
   refine⟨x,rfl,_,dx,_,G,vk,ak,_,rfl,rfl,?_⟩;by_cases O:(bV k).1=5
   .rw[Oy (OO (by rw[O]))];refine⟨.inl ⟨rfl,_,bB.of j⟩,x,rfl,_,dx,_,G,vk,ac,_,rfl,?_⟩;cases k with
    | list l=>obtain⟨x',a4,d',c,vs,fr,e1,Z,e3,e4,_⟩:=R1;cases e1;rw[hx]at Z;obtain⟨_,_,rfl,_⟩:=eE (OQ Z);have sl:sz (.list l)=3+pC l:=rfl;exact⟨c,l,vs,Hb,rfl,f,e3,eL.NQ e4,by omega,fun D g L d C _ _ h3 h4=>a0 _ D g L d C h3 h4 (zX l) (by have:=yt l;omega) (wc X)⟩
    | rows l=>obtain⟨x',a4,d',c,vs,fr,e1,Z,e3,e4,_⟩:=R1;cases e1;rw[hx]at Z;obtain⟨_,_,rfl,_⟩:=eE (OQ Z);have sl:sz (.rows l)=3+pO l:=rfl;have sr:=B3 l;exact⟨c,l.map (.table 1),vs,Hb,rfl,f,e3,eL.Od e4,by omega,fun D g L d C _ _ h3 h4=>a0 _ D g L d C h3 h4 (zM l) (by have:=yt (l.map (.table 1));omega) (wc (wd X))⟩
    | _=>simp[bV]at O
   .rw[Ox (by simpa using O)];refine⟨x,rfl,_,dx,_,G,vk,ak,_,rfl,rfl,?_⟩;by_cases U:(bV k).1=6
    .rw[Oy (OO (by rw[U]))];refine⟨.inl ⟨rfl,_,bB.of j⟩,x,rfl,_,dx,_,G,vk,ac,_,rfl,?_⟩;cases k with
     | table hw l=>obtain⟨x',a4,d',c,b3,fr,e1,Z,e3,e4,_⟩:=R1;cases e1;rw[hx]at Z;obtain⟨_,_,rfl,_⟩:=eE (OQ Z);have sl:sz (.table hw l)=3+dk l:=rfl;exact⟨c,l,b3,Hb,rfl,f,e3,gB.of e4,by omega,fun D g L d C _ _ h3 h4=>a0 _ D g L d C h3 h4 (xm hw l) (by have:=Gn l;omega) (DH X)⟩
     | _=>simp[bV]at U
    .rw[Ox (by simpa using U)];have pn:Iz k:=by cases k<;>first | exact OF | exact absurd rfl O | exact absurd rfl U
     refine⟨.inl ⟨rfl,_,bB.of i⟩,.ref x,k,rfl,fX.same ⟨fp,R1⟩ f,pn,X,s1,fun D g s4 b8 b1=>⟨D,rfl,_,s4 _ _ i,_,b1,by rw[bo,bo];simp only[eY]at B;omega,?_⟩⟩;rw[hN];have sp:=IF k;exact⟨_,by rw[mW,m1];omega,M,_,rfl,rfl,Hb,tl++Ql16.tell k,o,t1,t2,t3,aB.off (f.trans s4) t2,by rw[ai,iW],by rw[aq (OL qr)];exact s4 _ _ j,c1,by rw[t8];simp[eY],by omega,a3⟩
theorem yY:jI X (.builtin "len") (fun xs H Q=>(∃ p d,xs=[.ref p]/\(bB X.K H p d\/iJ X.K H p d)/\Q (.int d.length) H)\/∃ a c,xs=[V.ref a]/\H a=some (.dT c)/\Q (.int c.length) H):=by
 intro b s e H xs us Q I r h;rcases h with h | h;.exact aO b s e H xs us Q I r h
 .exact B0 b s e H xs us Q I r h
theorem Bh:T.kinds.pE.Ok P w mg base 1 (fun vs H Q _=>∃ v n,vs=[v]/\fX t H n v/\Q (.int (Ql16.count n:Int)) H):=by
 refine T.kinds.pE.fi (fun vs H Q E h=>?_) (fun m A j s H vs Q E u h=>?_);.obtain⟨v,n,rfl,_⟩:=h;rfl
 obtain⟨v,n,rfl,⟨r,R⟩,h⟩:=h;refine⟨_,(af (aK (PW.pt (fS (aC aV (aM (pv 0) rfl) T.kinds.Cz.e (aE _)) (fS (aC aV (aM (pv 0) rfl) T.kinds.mX.e (aE _)) (fk (aC aV (aM (pv 0) rfl) T.kinds.qK.e (aE _)))))) (ag (ay (aT yY (by rfl) T.hJ.dh O5 (ae (aM (pv 0) rfl) ah)))) aD) (ag (ay aw))),?_⟩;have f:=T.kinds.aR;have g:=T.kinds.bj;have ac:=T.kinds.aW;cases n with
 | text b=>obtain⟨x,a,d,p,rfl,hx,o,_⟩:=R;exact⟨_,rfl,x,_,a,_,_,rfl,hx,f,g,rfl,rfl,_,rfl,rb rfl (rb rfl ⟨_,rfl,x,_,a,_,_,rfl,hx,f,ac,rfl,.inl ⟨p,_,rfl,.inr (iJ.of o),by rw[bo];exact h⟩⟩)⟩
 | list l=>obtain⟨x,a,d,c,vs,k,rfl,hx,hc,i,_⟩:=R;exact⟨_,rfl,x,_,a,_,_,rfl,hx,f,g,rfl,rfl,_,rfl,hI rfl ⟨_,rfl,x,_,a,_,_,rfl,hx,f,g,rfl,rfl,_,rfl,rb rfl (rb rfl ⟨_,rfl,x,_,a,_,_,rfl,hx,f,ac,rfl,.inl ⟨c,_,rfl,.inl (bB.of hc),by rw[u9 i];exact h⟩⟩)⟩⟩
 | rows l=>obtain⟨x,a,d,c,vs,k,rfl,hx,hc,i,_⟩:=R;exact⟨_,rfl,x,_,a,_,_,rfl,hx,f,g,rfl,rfl,_,rfl,hI rfl ⟨_,rfl,x,_,a,_,_,rfl,hx,f,g,rfl,rfl,_,rfl,rb rfl (rb rfl ⟨_,rfl,x,_,a,_,_,rfl,hx,f,ac,rfl,.inl ⟨c,_,rfl,.inl (bB.of hc),by rw[v9 i];exact h⟩⟩)⟩⟩
 | table hw l=>obtain⟨x,a,d,c,q,k,rfl,hx,hc,i,_⟩:=R;exact⟨_,rfl,x,_,a,_,_,rfl,hx,f,g,rfl,rfl,_,rfl,hI rfl ⟨_,rfl,x,_,a,_,_,rfl,hx,f,g,rfl,rfl,_,rfl,hI rfl ⟨_,rfl,x,_,a,_,_,rfl,hx,f,g,rfl,rfl,_,rfl,rb rfl ⟨_,rfl,x,_,a,_,_,rfl,hx,f,ac,rfl,.inr ⟨c,_,rfl,hc,by rw[wA i];exact h⟩⟩⟩⟩⟩
 | whole z=>obtain⟨x,a,d,rfl,hx,_⟩:=R;exact⟨_,rfl,x,_,a,_,_,rfl,hx,f,g,rfl,rfl,_,rfl,hI rfl ⟨_,rfl,x,_,a,_,_,rfl,hx,f,g,rfl,rfl,_,rfl,hI rfl ⟨_,rfl,x,_,a,_,_,rfl,hx,f,g,rfl,rfl,_,rfl,hI rfl h⟩⟩⟩
 | real z=>obtain⟨x,a,d,rfl,hx,_⟩:=R;exact⟨_,rfl,x,_,a,_,_,rfl,hx,f,g,rfl,rfl,_,rfl,hI rfl ⟨_,rfl,x,_,a,_,_,rfl,hx,f,g,rfl,rfl,_,rfl,hI rfl ⟨_,rfl,x,_,a,_,_,rfl,hx,f,g,rfl,rfl,_,rfl,hI rfl h⟩⟩⟩
 | truth z=>obtain⟨x,a,d,rfl,hx,_⟩:=R;exact⟨_,rfl,x,_,a,_,_,rfl,hx,f,g,rfl,rfl,_,rfl,hI rfl ⟨_,rfl,x,_,a,_,_,rfl,hx,f,g,rfl,rfl,_,rfl,hI rfl ⟨_,rfl,x,_,a,_,_,rfl,hx,f,g,rfl,rfl,_,rfl,hI rfl h⟩⟩⟩
 | day z=>obtain⟨x,a,d,rfl,hx,_⟩:=R;exact⟨_,rfl,x,_,a,_,_,rfl,hx,f,g,rfl,rfl,_,rfl,hI rfl ⟨_,rfl,x,_,a,_,_,rfl,hx,f,g,rfl,rfl,_,rfl,hI rfl ⟨_,rfl,x,_,a,_,_,rfl,hx,f,g,rfl,rfl,_,rfl,hI rfl h⟩⟩⟩
def rem(H:Hp)(q:Addr):Hp:=fun a=>if a=q then none else H a
theorem iA(h:a≠q):rem H q a=H a:=Ox h
theorem Dz:rem H q q=none:=Oy rfl
theorem qC(h:rem H q a=some o):a≠q/\H a=some o:=by
 by_cases e:a=q;.subst e;rw[Dz]at h;cases h
 .rw[iA e]at h;exact⟨e,h⟩
theorem aB.Kr:aB (rem H q) H:=fun _ _ z=>(qC z).2
theorem aB.rem(s:aB H H')(q:Addr):aB (Ps.rem H q) (Ps.rem H' q):=fun a o z=>by obtain⟨h1,h2⟩:=qC z;rw[iA h1];exact s _ _ h2
structure dN(t:bZ)(H H':Hp):Prop where
 rep:∀ n v,fX t H n v->fX t H' n v
 obj:∀ a u,H a=some u->(∀ dx k c o d,u≠vO t dx k c o d)->H' a=some u
 Nr:hG H H'
 rq:∀ q xs,H q=some (.lst xs)->∀ n v,fX t (rem H q) n v->fX t (rem H' q) n v
theorem dN.free(k:dN t H H')(h:H' q=none):H q=none:=k.Nr.free h
theorem dN.same(s:aB H H'):dN t H H':=⟨fun _ _ r=>r.same s,fun a u z _=>s a u z,fun a u z=>⟨u,s a u z⟩,fun q _ _ _ _ r=>r.same (aB.rem s q)⟩
theorem dN.trans(a:dN t H H1)(b:dN t H1 c):dN t H c:=⟨fun n v r=>b.rep n v (a.rep n v r),fun x u z y=>b.obj x u (a.obj x u z y) y,fun x u z=>let ⟨d,e⟩:=a.Nr x u z;b.Nr x d e,fun q xs h n v r=>b.rq q xs (a.obj _ _ h fun _ _ _ _ _ z=>nomatch z) n v (a.rq q xs h n v r)⟩
theorem Rep.M8(R:Rep t D1 H n v fp):∃ x a k c o d,v=.ref x/\H x=some (vO t a k c o d)/\(d=.ba\/∃ l,d=.ref l/\H l=some (.lst (bI (Ql16.tell n)))):=by
 cases n with
 | text b=>obtain⟨x,a,d,p,rfl,hx,g,D,_⟩:=R;exact⟨x,a,_,_,_,d,rfl,hx,D⟩
 | whole z=>obtain⟨x,a,d,rfl,hx,D,_⟩:=R;exact⟨x,a,_,_,_,d,rfl,hx,D⟩
 | real z=>obtain⟨x,a,d,rfl,hx,D,_⟩:=R;exact⟨x,a,_,_,_,d,rfl,hx,D⟩
 | truth z=>obtain⟨x,a,d,rfl,hx,D,_⟩:=R;exact⟨x,a,_,_,_,d,rfl,hx,D⟩
 | day z=>obtain⟨x,a,d,rfl,hx,D,_⟩:=R;exact⟨x,a,_,_,_,d,rfl,hx,D⟩
 | list l=>obtain⟨x,a,d,c,vs,f,rfl,hx,hc,e,D,_⟩:=R;exact⟨x,a,_,_,_,d,rfl,hx,D⟩
 | rows l=>obtain⟨x,a,d,c,vs,f,rfl,hx,hc,e,D,_⟩:=R;exact⟨x,a,_,_,_,d,rfl,hx,D⟩
 | table hw l=>obtain⟨x,a,d,c,vs,f,rfl,hx,hc,e,D,_⟩:=R;refine⟨x,a,_,_,_,d,rfl,hx,?_⟩;rw[show Ql16.tell (.table hw l)=Ql16.tell (.table 1 l) by simp only[Ql16.tell]];exact D
def y6(t:bZ):Sp:=fun vs H Q _=>∃ v n,vs=[v]/\fX t H n v/\okN n/\sz n<=720000/\∀ l a,dN t H a->a l=some (.lst (bI (Ql16.tell n)))->Q (.ref l) a
theorem yW:T.telling.mF.Ok P w mg base 5 (y6 t):=by
 refine T.telling.mF.fi (fun vs H Q E h=>?_) (fun U A J s H vs Q E hr h=>?_);.obtain⟨v,n,rfl,_⟩:=h;rfl
 obtain⟨v,n,rfl,⟨X,R⟩,on,sn,h⟩:=h;refine⟨_,(af (aK (eV (l5 (aM (pv 0) rfl))) (ag (dm (pv 0) (T.telling.r8.cl (Jk T) hr.zz (ae (pv 0) ah)) rfl)) aD) (ag (ay (aM (pv 0) rfl)))),?_⟩;have G:=T.kinds.aR;have b:=T.kinds.qi;obtain⟨x,j,k,c,o,d,rfl,hx,D⟩:=R.M8;walk_at "r6";refine⟨_,j,_,hx,G,b,d,rfl,?_⟩;rcases D with rfl | ⟨l,rfl,hl⟩
 .rw[Oy (by decide)];refine⟨.ref x,n,rfl,⟨X,R⟩,on,sn,fun q r C Z hl=>?_⟩;have i:=C _ _ hx;refine⟨_,j,_,i,G,b,(by show 4<1000;decide),_,j,_,ai,G,b,_,rfl,?_⟩;have qx:q≠x:=cH hl i (by intro z;cases z);have N:mh t r (upd r x (vO t j k c o (.ref q))) x q (Ql16.tell n):=⟨⟨j,k,c,o,.ba,i,ai⟩,fun a u z y=>by rw[aq y];exact z,by rw[aq qx];exact hl,fun p f B=>by rw[Rep.det _ _ _ _ _ B (Rep.br _ _ _ (cO.IV C) R)]⟩
  have M:dN t H r:=dN.same C;refine h q _ ⟨fun p F B=>?_,fun a u z y=>N.ot (C _ _ z) y,fun a u z=>?_,fun g xs I p F B=>?_⟩ N.list;.obtain⟨f,m⟩:=M.rep p F B;exact⟨f,Rep.jV N p F f m⟩
  .by_cases e:a=x;.subst e;exact⟨_,ai⟩
   .exact⟨u,by rw[aq e];exact C _ _ z⟩
  .have L:x≠g:=cH hx I (by intro z;cases z);have Y:q≠g:=(aj I Z).symm;have O:mh t (rem r g) (rem (upd r x (vO t j k c o (.ref q))) g) x q (Ql16.tell n):=⟨⟨j,k,c,o,.ba,by rw[iA L];exact i,by rw[iA L];exact ai⟩,fun a u z y=>by
    obtain⟨z1,z2⟩:=qC z;rw[iA z1,aq y];exact z2,by rw[iA Y];exact N.list,fun n2 W R2=>N.one n2 W (Rep.br _ _ _ (cO.IV aB.Kr) R2)⟩
   obtain⟨f,m⟩:=M.rq g xs I p F B;exact⟨f,Rep.jV O p F f m⟩
 .rw[Ox (by simp)];exact⟨_,j,_,hx,G,b,_,rfl,h l H (dN.same fun _ _ z=>z) hl⟩
theorem Jn{a:Addr}{xs:List V}{k:Nat}{g:TG}{r:TT}{o:TE}{j:L2.St}{vs:List Nat}{Q:VK}{H:Hp}(A:j[k]?=some (some (.ref a)))(hx:iJ K H a xs)(c:Addr->Nat->Hp->Prop)(s:∀ D,H D=none->c D 0 (upd H D (.lst [])))(hl:∀ D i H,i<=xs.length->c D i H->iJ K H a xs)
 (hs:∀ D i x H,xs[i]?=some x->c D i H->g x (wipe j vs) H fun e f=>wipe e vs=wipe j vs/\r e f fun b l=>if b=true then o e l fun y n=>∃ d,n D=some (.lst d)/\d.length<sizeLine/\c D (i+1) (upd n D (.lst (d++[y]))) else c D (i+1) l)
 (hd:∀ D H,c D xs.length H->Q (.ref D) H):Mc (Nj K (hU k)) g r o vs j H Q:=by
 refine⟨.ref a,A,a,rfl,⟨xs,hx⟩,fun D u=>⟨fun i m H=>m=xs.length - i/\i<=xs.length/\c D i H,⟨_,rfl,O1 _,s D u⟩,?_⟩⟩;rintro i m H1 ⟨rfl,v,p⟩;have q:=hl D i H1 v p;rcases RZ i xs.length with h | h;.refine .inr ⟨⟨xs,xs[i],q,O7 h⟩,fun f=>c D (i+1) f,fun f z=>⟨xs.length - (i+1),by omega,rfl,h,z⟩,?_⟩;rintro x f ⟨rfl,y⟩;exact hs D i x _ (y xs q) p
 .obtain rfl:i=xs.length:=by omega
  exact .inl ⟨⟨xs,q,OE _⟩,hd D H1 p⟩
def yO:Sp:=fun vs H Q _=>∃ p,∃ k:Bytes,vs=[.ref p]/\H p=some (.tup (bI k))/\k.length<=30000/\∀ a,aB H a->Q (.bl (iX k)) a
theorem zw:T.dM.iP.Ok P w mg base 2 yO:=by
 refine T.dM.iP.fi (fun vs H Q E h=>?_) (fun B A v s H vs Q E G h=>?_);.obtain⟨p,k,rfl,_⟩:=h;rfl
 obtain⟨p,k,rfl,l,F,h⟩:=h;refine⟨_,(af (aK (PW.pt (fS (aC aV (aT aO (by rfl) T.hJ.dh O5 (ae (pv 0) ah)) aw (aE _)) (fk (ie (bK (aT (Hv rfl) (by rfl) T.hJ.KA boot_all (ae (xS (own:=[("sign",1)]) rfl T.dM.iP.s.nd (Cv (pv 0)) (by exact(show qo ["key","sign"] (bf (top 153)) _ _ from⟨rfl,by decide +kernel,by decide +kernel,by decide +kernel,by decide +kernel⟩)) (fun _ _ _ _ _=>(cA (i:=1) T.dM.iP.s.nd rfl (Ql rfl))) (fun _ _ _ _ _=>oh) (fun _ _ _ _ _=>(T.signs.lC.cl (sU T) G.zz (ae (pv 1) ah)))) ah))))))) (ag (ay qw)) aD) (ag (ay (kQ (ck aV (aT aO (by rfl) T.hJ.dh O5 (ae (pv 0) ah)) aw (aE _)) (iw (ck je (cT gu (pv 0) aw (fun _ _=>rfl)) aw (aE _))))))),?_⟩;walk_at "r6";refine⟨_,.inr (iJ.of l),?_⟩;rw[bo];cases k with
 | nil=>rw[Oy (by decide),Oy OF];exact h H fun _ _ z=>z
 | cons m I=>
 rw[Ox (by simp;omega)];obtain⟨k,q⟩:∃ k,k=m::I:=⟨_,rfl⟩
 rw[<-q]at l F h;refine Jn (a:=p) (xs:=bI k) rfl (iJ.of l) (fun D i d=>aB H d/\H D=none/\d D=some (.lst (((k.take i).map Ql16.digit).map V.bl))) (fun D f=>⟨aB.new f,f,ai⟩) (fun D i d L h=>iJ.of (h.1 _ _ l)) (fun D i x d hx r=>?_) (fun D d r=>?_)
 .obtain⟨o,f,b⟩:=r;obtain⟨c,hc,rfl⟩:∃ c:UInt8,k[i]?=some c/\V.int (c.toNat:Int)=x:=by simpa[bI]using hx
  have M:=fu hc;simp only[wipe,Dh];walk_at "r6";rw[Oy OF,J7];refine⟨_,b,?_,fun z u h=>by rw[aq (aj h f)];exact o _ _ h,f,?_⟩;.rw[O0,O0,Pg];exact dR (by omega)
  .rw[ai,PN,hc];simp
 .obtain⟨o,f,b⟩:=r;rw[bo,QQ]at b;refine⟨D,rfl,_,bB.of b,?_⟩;rw[RV,show(id ∘ Ql16.digit)=Ql16.digit from rfl];have C:iX k=(k.all Ql16.digit&&(k.length==1 || k.head? != some 48)):=by unfold iX;rw[q];rfl
  have g:=h d o;rw[C]at g;cases ha:k.all Ql16.digit with
  | false=>rw[Oy (by decide)];rw[ha]at g;exact g
  | true=>
    rw[Ox (by decide)];rw[ha,Qj]at g;refine⟨_,.inr (iJ.of (o _ _ l)),?_⟩;rw[bo];by_cases y:k.length=1;.rw[Oy (OO (by omega))];rw[show(k.length==1)=true by simpa using y]at g;exact g
    .rw[Ox (by simp;omega)];rw[show(k.length==1)=false by simpa using y,Te]at g;refine⟨_,iJ.of (o _ _ l),V.int (m.toNat:Int),by rw[q];exact gW (j:=0) rfl,rfl,?_⟩;have e:(!decide (V.int (m.toNat:Int)=V.int 48))=(k.head? != some 48):=by
      rw[q];have J:((m.toNat:Int)=48)↔m=48:=toNat_eq (n:=48) (by decide);rw[Qb];simp;exact not_congr J
     rw[e];exact g
theorem EK(n:Nat):(Str.ofString (toString (n:Int))).length=(Nat.toDigits 10 n).length:=by rw[int_str,eN,bD];unfold Ql16.int;rw[Ox (by omega),Rb];simp[Ql16.decimal]
def th:Sp:=fun vs H Q _=>∃ c us p,∃ k:Bytes,vs=[.ref c,.ref p]/\H c=some (.lst us)/\us.length<=1000000/\H p=some (.tup (bI k))/\k.length<=30000/\∀ a,aB H a->Q ((Aa us k).getD .ba) a
theorem pK:T.dM.cK.Ok P w mg base 3 th:=by
 refine T.dM.cK.fi (fun vs H Q E h=>?_) (fun u A j s H vs Q E C h=>?_);.obtain⟨c,us,p,k,rfl,_⟩:=h;rfl
 obtain⟨c,us,p,k,rfl,hc,F,q,B,h⟩:=h;refine⟨_,(af (aK (PW.pt (fS (ie (bK (T.dM.iP.cl (zw T) C.zz (ae (pv 1) ah)))) (fk (aC hW (aT aO (by rfl) T.hJ.dh O5 (ae (pv 1) ah)) (aT hF (by rfl) T.hJ.dh O5 (ae (fJ lp (by rfl) T.hJ.IH boot_str (ae (aT aO (by rfl) T.hJ.dh O5 (ae (pv 0) ah)) ah)) ah)) (aE _))))) (ag (ay eX)) aD)
  (af (T.dM.cK.set 2 aw)
  (af (ic Qh rfl (Cv (pv 1)) (cA (i:=3) T.dM.cK.s.nd rfl (Ql rfl)) (ag (T.dM.cK.set 2 (aS gS (aS cE (aS rG (pv 2) aw) (pv 3)) aw))))
  (af (aK (aC KU (pv 2) (aT aO (by rfl) T.hJ.dh O5 (ae (pv 0) ah)) (aE _)) (ag (ay eX)) aD)
  (ag (ay (cT ff (pv 0) (pv 2) (fun _ _=>rfl)))))))),?_⟩
 walk_at "r6";refine⟨p,k,rfl,q,B,fun m l=>⟨_,rfl,?_⟩⟩;have g:=h m l;rw[Lu]at g;have a:=l _ _ hc;have b:=l _ _ q;cases hn:iX k with
 | false=>rw[Oy (by decide),Oy OF];rw[Ox (by rw[hn];simp)]at g;exact g
 | true=>
 rw[Ox (by decide)];rw[hn]at g;have d:k.all Ql16.digit=true:=by unfold iX at hn;simp only[O4]at hn;exact hn.1.2
 refine⟨_,.inr (iJ.of b),_,.inl (bB.of a),?_,?_,?_⟩;.exact(yS (z:=(us.length:Int)) (by rw[Rb];omega)).2
 .rw[EK];have:=toDigits_len (n:=us.length) (k:=7) (by decide) (by omega);exact cU (by omega)
 rw[EK,bo];by_cases hl:(Nat.toDigits 10 us.length).length<k.length;.rw[Oy (OO (by omega))];rw[Ox (fun z=>by have:=z.2;omega)]at g;exact g
 rw[Ox (by simp;omega)];rw[Oy ⟨rfl,by omega⟩]at g;rw[qf];refine⟨_,rfl,p,rfl,⟨_,iJ.of b⟩,?_⟩;refine Ey (xs:=bI k) (fun i f e=>e=m/\∃ o,f=[some (V.ref c),some (V.ref p),some (V.int (Ql16.number 10 ((k.take i).map fun c:UInt8=>c.toNat - 48):Int)),o]) ⟨rfl,none,rfl⟩ (fun i f e _ pv=>by rw[pv.1];exact iJ.of b) ?_ ?_
 .rintro i y f e D ⟨rfl,o,rfl⟩;obtain⟨x,hx,rfl⟩:∃ x:UInt8,k[i]?=some x/\V.int (x.toNat:Int)=y:=by simpa[bI]using D
  have G:=qj (PK.mp d x (Qc hx));walk_at "r6";refine⟨.inr ⟨by decide,by decide⟩,?_⟩;rw[PN,hx];simp only[Option.toList_some,Qp,OP,PX,tf];refine⟨?_,_,rfl⟩;omega
 .rintro f e ⟨rfl,o,rfl⟩;rw[bo,QQ];walk_at "r6";refine⟨_,.inl (bB.of a),?_⟩;have v:Ql16.number 10 (k.map fun c:UInt8=>c.toNat - 48)=valN k:=rfl;rw[v];by_cases r:valN k<us.length;.rw[Ox (by simp;omega)];rw[O7 r]at g;exact⟨_,bB.of a,_,gW (O7 r),g⟩
  .rw[Oy (OO (by omega))];rw[P7 (by omega)]at g;exact g
theorem eL.Aa(R:eL t H l us)(k:Bytes):(Ps.Aa l k=none->Ps.Aa us k=none)/\∀ n,Ps.Aa l k=some n->∃ u,Ps.Aa us k=some u/\fX t H n u:=by
 unfold Ps.Aa;cases Ql16.index k with
 | none=>exact⟨fun _=>rfl,fun n h=>by cases h⟩
 | some i=>
   simp only[Pd];have e:=R.len;constructor;.intro h;exact P7 (by rw[e];exact Rh.mp h)
   .intro n h;have a:i<us.length:=by rw[e];exact(OV.mp h).1
    obtain⟨m,h2,R2⟩:=R.get (O7 a);rw[h]at h2;cases h2;exact⟨_,O7 a,R2⟩
theorem wq{a:Type}(o:Option a):o.bind some=o:=by cases o<;>rfl
theorem DT(k:Bytes)(l:List Node):Ql16.at_ [k] (.list l)=Aa l k:=by unfold Aa;simp only[Ql16.at_];congr 1;funext i;exact wq _
theorem EO(k:Bytes)(l:List Entries):Ql16.at_ [k] (.rows l)=Aa (l.map (.table 1)) k:=by unfold Aa;simp only[Ql16.at_];congr 1;funext i;rw[Qv];cases l[i]?<;>rfl
theorem uY(k:Bytes)(hw:Nat)(l:Entries):Ql16.at_ [k] (.table hw l)=Ql16.look k l:=by simp only[Ql16.at_];exact wq _
theorem fX.isRef(R:fX t H n v):∃ x,v=.ref x:=by obtain⟨f,R⟩:=R;exact Rep.isRef R
def Fo(t:bZ):Sp:=fun vs H Q E=>∃ v n p,∃ k:Bytes,vs=[v,.ref p]/\fX t H n v/\sz n<=720000/\H p=some (.tup (bI k))/\k.length<=30000/\(Ql16.at_ [k] n=none->∀ a,aB H a->E (.ref (t.c "NothingThere")) none a) /\ ∀ m u a,Ql16.at_ [k] n=some m->aB H a->fX t a m u->Q u a
theorem Fv:T.dM.kZ.Ok P w mg base 4 (Fo t):=by
 refine T.dM.kZ.jO (fun vs H Q E h=>?_) (fun Z A G s H vs Q E W h=>?_);.obtain⟨v,n,p,k,rfl,_⟩:=h;rfl
 obtain⟨v,n,p,k,rfl,⟨fp,R⟩,sn,U,hk,h1,h2⟩:=h;have hu:=xC W;refine⟨_,(af (T.dM.kZ.set 2 eX)
  (af (aK (aC aV (aM (pv 0) rfl) T.kinds.qK.e (aE _)) (ag (T.dM.kZ.set 2 (Jb hu (aM (pv 0) rfl) (pv 1) ⟨rfl,rfl,rfl,rfl⟩))) (ag (aK (aC aV (aM (pv 0) rfl) T.kinds.mX.e (aE _)) (ag (T.dM.kZ.set 2 (T.dM.cK.cl (pK T) W.zz (ae (aM (pv 0) rfl) (ae (pv 1) ah))))) aD)))
  (af (aK (eV (l5 (pv 2))) (ag (bH aH rfl rfl T.aG.mR T.aG.mV)) aD)
  (ag (ay (pv 2)))))),?_⟩
 have C:=T.kinds.aR;have L:=T.kinds.bj;have ac:=T.kinds.aW;obtain⟨x,B,cc,dd,rfl,hx,_⟩:=R.head;walk_at "r6";refine⟨_,B,_,hx,C,L,_,rfl,rfl,?_⟩;have r:∀ {m:Node} {u:V} {Y:Hp},fX t Y m u->decide (u=V.ba)=false:=fun R=>by obtain⟨y,rfl⟩:=R.isRef;simp
 have lst:∀ (c:Addr) (us:List V) (l:List Node),H c=some (.lst us)->eL t H l us->l.length<=720000->Ql16.at_ [k] n=Aa l k->th [V.ref c,V.ref p] H (fun x g=>if decide (x=V.ba)=true then E (Value.ref (t.c "NothingThere")) none g else Q x g) E0:=by
  intro c us l hc J ln N;refine⟨c,us,p,k,rfl,hc,by rw[J.len];omega,U,hk,fun g I=>?_⟩;obtain⟨D,F⟩:=J.Aa k;cases hn:Aa l k with
  | none=>rw[D hn];exact rb (by decide) (h1 (by rw[N,hn]) g I)
  | some m=>obtain⟨u,e,i⟩:=F m hn;rw[e];exact hI (r i) (h2 m u g (by rw[N,hn]) I (i.same I))
 by_cases b:(bV n).1=6
 .rw[Oy (OO (by rw[b]))];refine⟨_,B,_,hx,C,ac,_,rfl,?_⟩;cases n with
  | table hw l=>
    obtain⟨X,j,M,c,a0,O,o,d,f,q,_⟩:=R;cases o;rw[hx]at d;obtain⟨_,_,rfl,_⟩:=eE (OQ d);obtain⟨D,F⟩:=(gB.of q).look (k:=k);refine⟨c,rfl,.inr ⟨_,.inl f⟩,_,vT.t (k:=kB k) f (by rw[B8];exact U),?_⟩;rw[uY]at h1 h2;cases hl:Ql16.look k l with
    | none=>rw[D hl,Oy (by decide)];exact h1 hl H fun _ _ z=>z
    | some m=>obtain⟨u,e,i⟩:=F m hl;rw[e];exact hI (r i) (h2 m u H hl (fun _ _ z=>z) i)
  | _=>simp[bV]at b
 .rw[Ox (by simpa using b)];refine⟨_,B,_,hx,C,L,_,rfl,rfl,?_⟩;by_cases a:(bV n).1=5
  .rw[Oy (OO (by rw[a]))];refine⟨_,B,_,hx,C,ac,_,rfl,?_⟩;cases n with
   | list l=>obtain⟨X,j,M,c,vs,O,o,d,f,q,_⟩:=R;cases o;rw[hx]at d;obtain⟨_,_,rfl,_⟩:=eE (OQ d);have:=ud l;have sl:sz (.list l)=3+pC l:=rfl;exact lst c vs l f (eL.NQ q) (by omega) (DT k l)
   | rows l=>obtain⟨X,j,M,c,vs,O,o,d,f,q,_⟩:=R;cases o;rw[hx]at d;obtain⟨_,_,rfl,_⟩:=eE (OQ d);have:=zb l;have sl:sz (.rows l)=3+pO l:=rfl;exact lst c vs (l.map (.table 1)) f (eL.Od q) (by rw[O0];omega) (EO k l)
   | _=>simp[bV]at a
  .rw[Ox (by simpa using a),Oy OF];refine h1 ?_ H fun _ _ z=>z;cases n<;>first | rfl | exact absurd rfl a | exact absurd rfl b
theorem Ac:∀ (n:Nat) (b:Bytes) (x:List Bytes) (s:Bytes),Ql16.keys n b=some (x,s)->∀ k∈x,k.length<=b.length
 | 0,b,x,s,h=>by simp[Ql16.keys]at h
 | n+1,b,x,s,h=>by
   unfold Ql16.keys at h;split at h;.simp at h
   .rename_i y r a;have d:=HF a;have b1:=aY b;have b2:=aY r;split at h
    .rename_i s' hs;rw[OI]at h;obtain⟨⟨p,q⟩,h1,h2⟩:=h;simp only[OG]at h2;obtain⟨rfl,rfl⟩:=h2;have c:=Ac n _ _ _ h1;rw[hs]at b2;simp at b2;intro k a;rcases OA.mp a with rfl | a;.omega
     .have:=c k a;omega
    .simp only[OC,OG]at h;obtain⟨rfl,rfl⟩:=h;intro k a;simp at a;subst a;omega
theorem HZ(h:Ql16.pathOf b=some ks):∀ k∈ks,k.length<=b.length:=by
 unfold Ql16.pathOf at h;split at h;.cases h;simp
 .split at h;.rename_i a;cases h;exact Ac _ _ _ _ a
  .cases h
theorem J1(k:Bytes)(r:List Bytes)(n:Node):Ql16.at_ (k::r) n=(Ql16.at_ [k] n).bind (Ql16.at_ r):=by
 cases n with
 | table hw l=>rw[uY];rfl
 | list l=>
   simp only[Ql16.at_];cases Ql16.index k with
   | none=>rfl
   | some i=>simp only[Pd];cases l[i]?<;>rfl
 | rows l=>
   simp only[Ql16.at_];cases Ql16.index k with
   | none=>rfl
   | some i=>simp only[Pd];cases l[i]?<;>rfl
 | _=>rfl
theorem zj:∀ {l:List Node} {i:Nat} {n:Node},GD l->l[i]?=some n->okN n/\sz n<=pC l
 | m::r,0,n,h,e=>by simp at e;subst e;exact⟨h.1,by simp only[pC];omega⟩
 | m::r,i+1,n,h,e=>by simp at e;obtain⟨a,b⟩:=zj h.2 e;exact⟨a,by simp only[pC];omega⟩
 | [],i,n,h,e=>by simp at e
theorem Ex:∀ {l:Entries} {k:Bytes} {n:Node},gJ l->Ql16.look k l=some n->okN n/\sz n<=dk l
 | (c,m)::r,k,n,h,e=>by
   rw[fG]at e;split at e;.cases e;exact⟨h.1,by simp only[dk];omega⟩
   .obtain⟨a,b⟩:=Ex h.2.1 e;exact⟨a,by simp only[dk];omega⟩
 | [],k,n,h,e=>by simp[Ql16.look]at e
theorem Ew{l:List Node}{k:Bytes}{m:Node}(h:Aa l k=some m):∃ i:Nat,l[i]?=some m:=by
 unfold Aa at h;cases e:Ql16.index k with
 | none=>rw[e]at h;cases h
 | some i=>rw[e]at h;exact⟨i,h⟩
theorem Nl(c:okN n)(h:Ql16.at_ [k] n=some m):okN m/\sz m<=sz n:=by
 cases n with
 | table hw l=>rw[uY]at h;obtain⟨a,b⟩:=Ex (show gJ l from c) h;exact⟨a,by simp only[sz];omega⟩
 | list l=>rw[DT]at h;obtain⟨i,e⟩:=Ew h;obtain⟨a,b⟩:=zj (show GD l from c) e;exact⟨a,by simp only[sz];omega⟩
 | rows l=>rw[EO]at h;obtain⟨i,e⟩:=Ew h;obtain⟨a,b⟩:=zj (wd (show Eb l from c)) e;rw[B3]at b;exact⟨a,by simp only[sz];omega⟩
 | _=>cases h
def tN(t:bZ):Sp:=fun vs H Q E=>∃ p,∃ b:Bytes,vs=[.ref p]/\H p=some (.lst (bI b))/\b.length<=30000/\(Ql16.pathOf b=none->∀ d a,aB H a->E (.ref (t.c "NoPath")) d a) /\ ∀ e,Ql16.pathOf b=some e->∀ q us a,aB H a->H q=none->a q=some (.lst us)->iQ a e us->Q (.ref q) a
theorem tJ:T.dM.fD.Ok P w mg base 9 (tN t):=by
 refine T.dM.fD.jO (fun vs H Q E h=>?_) (fun X A I s H vs Q E i h=>?_);.obtain⟨p,b,rfl,_⟩:=h;rfl
 obtain⟨p,b,rfl,hp,B,h1,h2⟩:=h;refine⟨_,(af (T.dM.fD.set 1 (gQ T.scan.Ek (qF T) i.zz rfl T.scan.IY T.scan.jR.b .nil bg (ae (pv 0) ah)))
  (af (aN (bL (pv 1) T.scan.aP T.scan.aJ.m (bb T) i.zz T.scan.aJ.b .nil bg))
  (af (aK (aC aV (bL (pv 1) T.scan.aP T.scan.aU.m (bW T) i.zz T.scan.aU.b .nil bg) T.signs.B1.e (aE _)) (ag (ay (aZ ah))) aD)
  (af (zN rfl rfl (by intro _ _ _ hE _;exact(ag (T.dM.fD.set 2 (T.aF.ft.cX (jo T) i.zz hE (ae (pv 1) ah))))) (wt aH (fun _=>PassesOwnAt.leaving) rfl T.aG.bF T.aG.bG rfl T.aG.vE T.aG.vH (zJ aH rfl)))
  (af (aK (aC je (bL (pv 1) T.scan.aP T.scan.aU.m (bW T) i.zz T.scan.aU.b .nil bg) T.signs.B1.e (aE _)) (ag (bH aH rfl rfl T.aG.vE T.aG.vH)) aD)
  (ag (ay (pv 2)))))))),?_⟩
 walk_at "r6";intro a l ha F a3;refine⟨a,l,p,rfl,ai,rfl,?_⟩;rw[cx];have R:aB H (upd (upd H l (.own a)) a (.ins (t.c "Scan") l (sf p 0))):=fun c o z=>by rw[aq (aj z ha),aq (aj z F)];exact z
 have W:aQ K t _ a p b 0:=⟨⟨l,ai⟩,bB.of (R _ _ hp),O1 _,B⟩
 refine⟨_,_,ai,rfl,a,p,b,0,rfl,W,fun j H4 a0 u x k4=>?_⟩;have k:=Kp.fresh R ha k4;rw[Q4]at u;obtain⟨Y,C⟩:=x.at_;refine⟨_,_,C,rfl,a,p,b,j,rfl,x,?_⟩;refine⟨rfl,?_⟩;have f:=ha;by_cases r:b[j]?=none
 .have d:Ql16.skip b=[]:=by rw[<-u];exact drop_nil r
  refine rb (OO (by rw[gL r])) ⟨O1 _,fun q M=>h2 [] (by unfold Ql16.pathOf;rw[Oy d]) q [] _ (k.trans (aB.new M)) (k.free M) ai OF⟩
 refine hI (O3 fun z=>r (uH.mp (V.int.inj z))) ?_;have d:Ql16.skip b≠[]:=fun z=>r (by rw[<-u]at z;exact P7 (SK.mp z));have y:Ql16.keys Ql16.PARTS (b.drop j)=Ql16.keys Ql16.PARTS b:=by rw[u,rH]
 refine⟨p,b,j,x,fun hn U k'=>⟨_,rfl,zh rfl ⟨rfl,fun e=>h1 ?_ (some e) U (Kp.fresh k f k')⟩⟩,fun ks rest g N J v G L k5 nk=>?_⟩;.unfold Ql16.pathOf;rw[Ox d,<-y,hn]
 obtain⟨Z,D⟩:=L.at_;refine⟨_,_,D,rfl,a,p,b,N,rfl,L,rfl,?_⟩;have O:=Kp.fresh k f k5;obtain⟨q,us,rfl,e2,e3,e4⟩:=nk;rw[<-G]at g;by_cases n:b[N]?=none;.rw[drop_nil n]at g;refine hI (by rw[OO (by rw[gL n])];rfl) (h2 ks ?_ q us J O (k.free e3) e2 e4);unfold Ql16.pathOf;rw[Ox d,<-y,g]
 .refine rb (by rw[O3 fun z=>n (uH.mp (V.int.inj z))];rfl) (h1 ?_ none J O);obtain⟨c,hc⟩:=Option.ne_none_iff_exists'.mp n;rw[drop_cons hc]at g;unfold Ql16.pathOf;rw[Ox d,<-y,g]
def AQ(t:bZ):Sp:=fun vs H Q E=>∃ v n p,∃ b:Bytes,vs=[v,.ref p]/\fX t H n v/\sz n<=720000/\okN n/\H p=some (.lst (bI b))/\b.length<=30000/\(Ql16.pathOf b=none->∀ d a,aB H a->E (.ref (t.c "NoPath")) d a) /\ ∀ e,Ql16.pathOf b=some e->(Ql16.at_ e n=none->∀ d a,aB H a->E (.ref (t.c "NothingThere")) d a)/\∀ m,Ql16.at_ e n=some m->∀ u a,aB H a->fX t a m u->okN m->sz m<=720000->Q u a
theorem Ab:T.dM.ia.Ok P w mg base 10 (AQ t):=by
 refine T.dM.ia.jO (fun vs H Q E h=>?_) (fun Z A L s H vs Q E W h=>?_);.obtain⟨v,n,p,b,rfl,_⟩:=h;rfl
 obtain⟨v,n,p,b,rfl,R,sn,on,hp,D,h1,h2⟩:=h;refine⟨_,(af (T.dM.ia.set 2 (pv 0))
  (af (ic PM rfl (jW (T.dM.fD.cX (tJ T) W.zz aH (ae (pv 1) ah))) (cA (i:=3) T.dM.ia.s.nd rfl (Ql rfl)) (ag (T.dM.ia.set 2 (T.dM.kZ.cX (Fv T) W.zz aH (ae (pv 2) (ae (pv 3) ah))))))
  (ag (ay (pv 2))))),?_⟩
 walk_at "r6";rw[qf];refine⟨_,rfl,p,b,rfl,hp,D,fun hn d c s'=>⟨_,rfl,h1 hn d c s'⟩,fun f j q us Y M hq hl F=>⟨q,rfl,⟨_,bB.of hl⟩,?_⟩⟩;obtain⟨g1,g2⟩:=h2 f j;have kl:=HZ j;obtain⟨r,a⟩:∃ r:Nat->L2.St->Hp->Prop,r=(fun i x c=>∃ m u o,x=[some v,some (.ref p),some u,o]/\aB Y c/\fX t c m u/\okN m/\sz m<=720000/\Ql16.at_ f n=Ql16.at_ (f.drop i) m):=⟨_,rfl⟩
 refine jG (xs:=us) r ?_ ?_ ?_ ?_;.rw[a];exact⟨n,v,none,rfl,fun _ _ z=>z,R.same M,on,sn,rfl⟩
 .intro i x c _ pv;rw[a]at pv;obtain⟨m,u,o,rfl,g,_⟩:=pv;exact bB.of (g _ _ hl)
 .intro i y x c X pv;rw[a]at pv;obtain⟨m,u,o,rfl,g,C,J,O,e⟩:=pv;have il:i<f.length:=by rw[<-F.len];exact(OV.mp X).1
  obtain⟨k,G⟩:∃ k,f[i]?=some k:=⟨_,O7 il⟩
  obtain⟨pk,l,I⟩:=F.get G;rw[X]at l;cases l;have dd:f.drop i=k::f.drop (i+1):=by obtain⟨hl,eb⟩:=OV.mp G;rw[PJ hl,eb]
  rw[dd,J1]at e;have a0:=kl k (Qc G);walk_at "r6";refine⟨u,m,pk,k,rfl,C,O,g _ _ I,by omega,fun hn B N=>⟨_,rfl,g1 (by rw[e,hn];rfl) none B (M.trans (g.trans N))⟩,fun m' u' B U N R2=>?_⟩;obtain⟨o2,z2⟩:=Nl J U;show r (i+1) _ B;rw[a];exact⟨m',u',_,rfl,g.trans N,R2,o2,by omega,by rw[e,U];rfl⟩
 .intro x c pv;rw[a]at pv;obtain⟨m,u,o,rfl,g,C,J,O,e⟩:=pv;rw[F.len,RL]at e;exact⟨_,rfl,g2 m e u c (M.trans g) C J O⟩
def Cf(t:bZ)(H:Hp)(x:Addr)(a:Entries):Prop:=∃ d b,H x=some (.ins (t.c "Store") d (KC (.ref b)))/\fX t H (.table 1 a) (.ref b)/\gJ a/\dk a<=719952
def excOf(t:bZ)(e:Int):Addr:=if e=-3 then t.c "TooLarge" else if e=-4 then t.c "NothingThere" else if e=-5 then t.c "NoPath" else if e=-6 then t.c "TooLong" else t.c "OtherKind"
theorem Of:excOf t (-3)=t.c "TooLarge":=by simp[excOf]
theorem Og:excOf t (-4)=t.c "NothingThere":=by simp[excOf]
theorem Oq:excOf t (-5)=t.c "NoPath":=by simp[excOf]
theorem Oi:excOf t (-6)=t.c "TooLong":=by simp[excOf]
theorem NF:excOf t (-7)=t.c "OtherKind":=by simp[excOf]
theorem gK{b:Bytes}(h:b.length<=30000):¬ Ql16.TEXT<b.length:=by unfold Ql16.TEXT;omega
theorem Hn:∀ a k c o d,HO.ins (t.c "Store") dx (KC v)≠vO t a k c o d:=fun a k c o d z=>by simp only[vO,HO.ins.injEq]at z;have:=z.2.2;simp[KC,vf]at this
theorem Cf.keep(s:Cf t H x es)(k:dN t H H'):Cf t H' x es:=by obtain⟨a,d,h1,h2,b,c⟩:=s;exact⟨a,d,k.obj _ _ h1 Hn,k.rep _ _ h2,b,c⟩
def KQ(t:bZ)(H b:Hp)(x:Addr)(c a:Entries):Prop:=Cf t b x a/\∀ q xs,H q=some (.lst xs)->Cf t (rem H q) x c->Cf t (rem b q) x a
theorem KQ.keep(s:Cf t H x es)(k:dN t H H'):KQ t H H' x es es:=⟨s.keep k,fun q xs f s'=>by obtain⟨a,g,h1,h2,d,e⟩:=s';obtain⟨b,c⟩:=qC h1;exact⟨a,g,by rw[iA b];exact k.obj _ _ c Hn,k.rq q xs f _ _ h2,d,e⟩⟩
def xj(t:bZ):Sp:=fun vs H Q _=>∃ x b,vs=[.ref x]/\H x=some (.ins (t.c "Store") b [])/\∀ a,Kp x H a->Cf t a x []->Q .ba a
theorem xl:T.store.lY.Ok P w mg base 4 (xj t):=by
 refine T.store.lY.fi (fun vs H Q E h=>?_) (fun j A f s H vs Q E q h=>?_);.obtain⟨x,d,rfl,_⟩:=h;rfl
 obtain⟨x,d,rfl,hx,h⟩:=h;refine⟨_,(ag (dm (pv 0) (T.kinds.bS.cl (cC T) q.zz (ae T.kinds.iB.e ah)) rfl)),?_⟩;walk_at "r6";refine⟨_,rfl,fun g k c y i b p hc o l m=>?_⟩;have v:g≠x:=by rintro rfl;rw[hx]at b;cases b
 have r:c≠x:=by rintro rfl;rw[hx]at hc;cases hc
 refine⟨_,d,_,i _ _ hx,T.store.cS,T.store.fN,(by show 0<1000;decide),?_⟩;refine h _ (fun a u z n=>by rw[aq n];exact i _ _ z) ⟨d,g,ai,⟨_,g,k,.ba,c,[],[],rfl,by rw[aq v];exact m,by rw[aq r];exact l,⟨rfl,rfl⟩,.inl rfl,rfl,by decide⟩,OF,by simp[dk]⟩
def BB(t:bZ):Sp:=fun vs H Q E=>∃ x p,∃ b:Bytes,∃ c,vs=[.ref x,.ref p]/\Cf t H x c/\H p=some (.lst (bI b))/\b.length<=30000/\(∀ e,Ql16.asked c b=.error e->∀ d a,aB H a->E (.ref (excOf t e)) d a) /\ ∀ m,Ql16.asked c b=.ok m->∀ u a,aB H a->fX t a m u->okN m->sz m<=720000->Q u a
theorem fg:T.store.bA.Ok P w mg base 11 (BB t):=by
 refine T.store.bA.jO (fun vs H Q E h=>?_) (fun o A c s H vs Q E l h=>?_);.obtain⟨x,p,b,f,rfl,_⟩:=h;rfl
 obtain⟨x,p,b,f,rfl,⟨q,D,hx,R,B,C⟩,k,r,h1,h2⟩:=h;refine⟨_,(af (aN (T.store.eH.cX (iv T) l.zz aH (ae (aT aO (by rfl) T.hJ.dh O5 (ae (pv 1) ah)) (ae T.store.qS.e ah)))) (ag (ay (T.dM.ia.cX (Ab T) l.zz aH (ae (aM (pv 0) rfl) (ae (pv 1) ah)))))),?_⟩;walk_at "r6";refine⟨_,.inl (bB.of k),_,_,rfl,fun _=>?_,fun z=>?_⟩
 rotate_left
 .rw[bo]at z;omega
 have i:=h1 (-5);have g:=h1 (-4);rw[Oq]at i;rw[Og]at g;refine⟨_,q,_,hx,T.store.cS,T.store.fN,_,rfl,.ref D,.table 1 f,p,b,rfl,R,by simp only[sz];omega,B,k,r,fun hn d a s'=>⟨_,rfl,i (by unfold Ql16.asked;rw[hn]) d a s'⟩,fun G j=>⟨fun hn d a s'=>⟨_,rfl,g (by unfold Ql16.asked;rw[j];simp only[hn]) d a s'⟩,fun m v u a s' n y F=>h2 m (by unfold Ql16.asked;rw[j];simp only[v]) u a s' n y F⟩⟩
def KY(t:bZ)(H:Hp)(r:List Int)(Q:VK)(E:XK):Prop:=(∀ e,r=[e]->e<0->∀ d a,dN t H a->E (.ref (excOf t e)) d a)/\∀ q a,dN t H a->H q=none->a q=some (.lst (r.map V.int))->Q (.ref q) a
def lM(a:Entries)(c:Ql16.Call):List Int:=Ql16Neutral.shown c (Ql16.answer a c)
def uw(t:bZ)(f:Entries->Bytes->List Int):Sp:=fun vs H Q E=>∃ x p,∃ b:Bytes,∃ a,vs=[.ref x,.ref p]/\Cf t H x a/\H p=some (.lst (bI b))/\b.length<=30000/\KY t H (f a b) Q E
theorem lU{f:Entries->Bytes->List Int}{x y:Str}:∀ vs H Q E,uw t f vs H Q E->vs.length=[x,y].length:=fun vs H Q E h=>by obtain⟨x,p,b,a,rfl,_⟩:=h;rfl
theorem kP(h:Ql16.asked es b=.error e):e<0:=by
 unfold Ql16.asked at h;split at h;.cases h;decide
 .split at h;.cases h
  .cases h;decide
theorem fX.head(R:fX t H n v):∃ x a c d,v=.ref x/\H x=some (vO t a (bV n).1 c (bV n).2 d):=by obtain⟨f,R⟩:=R;obtain⟨x,a,c,d,h1,h2,_⟩:=R.head;exact⟨x,a,c,d,h1,h2⟩
theorem LK(n:Node):(bV n).1=(Ql16.kind n:Int):=by cases n<;>rfl
def Hk(a:Entries)(b:Bytes):List Int:=lM a (.kind b b.length)
theorem sD:T.store.gk.Ok P w mg base 12 (uw t Hk):=by
 refine T.store.gk.jO lU (fun r A g s H vs Q E C h=>?_);obtain⟨x,p,b,f,rfl,j,B,k,h1,h2⟩:=h;refine⟨_,(ag (ay (aZ (ae (aM (cp (pv 0) T.store.cS T.store.bA.m (fg T) C.zz T.store.bA.b aH (ae (pv 1) ah)) rfl) ah)))),?_⟩;obtain⟨F,I,hx,_⟩:=id j;walk_at "r6";have a:Hk f b=match Ql16.asked f b with | .error e=>[e] | .ok m=>[(Ql16.kind m:Int)]:=by unfold Hk lM;simp only[Ql16.answer];rw[Ox (gK k)];cases Ql16.asked f b<;>rfl
 refine⟨_,_,hx,rfl,x,p,b,f,rfl,j,B,k,fun e l d i s'=>⟨_,rfl,h1 e (by rw[a,l]) (kP l) d i (dN.same s')⟩,fun m z u i s' o G J=>?_⟩;obtain⟨y,v,c,d,rfl,D⟩:=o.head;refine⟨y,rfl,_,v,_,D,T.kinds.aR,T.kinds.bj,_,rfl,by decide,fun q n=>h2 q _ ((dN.same s').trans (dN.same (aB.new n))) (s'.free n) ?_⟩;rw[ai,a,z,LK];rfl
def Du(a:Entries)(b:Bytes):List Int:=lM a (.count b b.length)
theorem qV:T.store.fR.Ok P w mg base 12 (uw t Du):=by
 refine T.store.fR.jO lU (fun r A f s H vs Q E n h=>?_);obtain⟨x,p,b,c,rfl,i,y,j,h1,h2⟩:=h;refine⟨_,(ag (ay (aZ (ae (T.kinds.pE.cl (Bh T) n.zz (ae (cp (pv 0) T.store.cS T.store.bA.m (fg T) n.zz T.store.bA.b aH (ae (pv 1) ah)) ah)) ah)))),?_⟩;obtain⟨z,C,hx,_⟩:=id i;walk_at "r6";have a:Du c b=match Ql16.asked c b with | .error e=>[e] | .ok m=>[(Ql16.count m:Int)]:=by unfold Du lM;simp only[Ql16.answer];rw[Ox (gK j)];cases Ql16.asked c b<;>rfl
 refine⟨_,_,hx,rfl,x,p,b,c,rfl,i,y,j,fun e k d g s'=>⟨_,rfl,h1 e (by rw[a,k]) (kP k) d g (dN.same s')⟩,fun m v u g s' o B D=>?_⟩;refine⟨m,o,by decide,fun q l=>h2 q _ ((dN.same s').trans (dN.same (aB.new l))) (s'.free l) ?_⟩;rw[ai,a,v];rfl
def numOf(k:Int):Node->Option Int
 | .whole z=>if k=1 then some z else none
 | .real n=>if k=2 then some (n:Int) else none
 | _=>none
def Fu(t:bZ):Sp:=fun vs H Q E=>∃ x p,∃ b:Bytes,∃ f,∃ k:Int,vs=[.ref x,.ref p,.int k]/\(k=1\/k=2)/\Cf t H x f/\H p=some (.lst (bI b))/\b.length<=30000/\(∀ e,Ql16.asked f b=.error e->∀ d a,aB H a->E (.ref (excOf t e)) d a) /\ ∀ m,Ql16.asked f b=.ok m->okN m->(numOf k m=none->∀ a,aB H a->E (.ref (t.c "OtherKind")) none a)/\∀ z,numOf k m=some z->∀ a,aB H a->Q (.int z) a
theorem gF:T.store.bx.Ok P w mg base 12 (Fu t):=by
 refine T.store.bx.jO (fun vs H Q E h=>?_) (fun F A o s H vs Q E O h=>?_);.obtain⟨x,p,b,B,k,rfl,_⟩:=h;rfl
 obtain⟨x,p,b,B,k,rfl,X,v,N,J,h1,h2⟩:=h;refine⟨_,(af (T.store.bx.set 3 (cp (pv 0) T.store.cS T.store.bA.m (fg T) O.zz T.store.bA.b aH (ae (pv 1) ah)))
  (af (aK (aC je (aM (pv 3) rfl) (pv 2) (aE _)) (ag (bH aH rfl rfl T.aG.sG T.aG.sY)) aD)
  (ag (ay (aM (pv 3) rfl))))),?_⟩
 obtain⟨W,Y,hx,_⟩:=id v;walk_at "r6";refine⟨_,_,hx,rfl,x,p,b,B,rfl,v,N,J,fun e L d a s'=>⟨_,rfl,h1 e L d a s'⟩,fun m M u a s' r R Z=>?_⟩;obtain⟨I,C⟩:=h2 m M R;have q:=T.kinds.aR;have D:=T.kinds.bj;have ac:=T.kinds.aW;obtain⟨y,j,c,d,rfl,i⟩:=r.head;refine⟨y,rfl,_,j,_,i,q,D,_,rfl,rfl,?_⟩;by_cases e:(bV m).1=k
 .refine hI (by rw[e];simp) ?_;obtain⟨f,R2⟩:=r;cases m with
  | whole z=>obtain⟨U,l,G,n,g,_⟩:=R2;cases n;rw[i]at g;obtain⟨_,_,rfl,_⟩:=eE (OQ g);exact⟨y,rfl,_,j,_,i,q,ac,_,rfl,C z (Oy e.symm) a s'⟩
  | real z=>obtain⟨U,l,G,n,g,_⟩:=R2;cases n;rw[i]at g;obtain⟨_,_,rfl,_⟩:=eE (OQ g);exact⟨y,rfl,_,j,_,i,q,ac,_,rfl,C (z:Int) (Oy e.symm) a s'⟩
  | _=>simp only[bV]at e;omega
 .refine rb (by simpa using e) (I ?_ a s');cases m with
  | whole z=>exact Ox (fun z=>e z.symm)
  | real z=>exact Ox (fun z=>e z.symm)
  | _=>rfl
def zB(a:Entries)(b:Bytes):List Int:=lM a (.whole b b.length)
def DL(a:Entries)(b:Bytes):List Int:=lM a (.real b b.length)
theorem CT(h:-2 ^ 63<=z/\z<2 ^ 63):Ql16Neutral.signed (z % 2 ^ 64).toNat=z:=by unfold Ql16Neutral.signed;split<;>omega
theorem qN:T.store.fE.Ok P w mg base 13 (uw t zB):=by
 refine T.store.fE.jO lU (fun o A g s H vs Q E v h=>?_);obtain⟨x,p,b,r,rfl,i,u,c,h1,h2⟩:=h;refine⟨_,(ag (ay (aZ (ae aw (ae (cp (pv 0) T.store.cS T.store.bx.m (gF T) v.zz T.store.bx.b aH (ae (pv 1) (ae T.kinds.Ed.e ah))) ah))))),?_⟩;obtain⟨C,D,hx,_⟩:=id i;walk_at "r6";have j:=h1 (-7);rw[NF]at j;refine⟨_,_,hx,rfl,x,p,b,r,1,rfl,.inl rfl,i,u,c,fun e k d a s'=>⟨_,rfl,h1 e ?_ (kP k) d a (dN.same s')⟩,fun m l B=>⟨fun hn a s'=>⟨_,rfl,j ?_ (by decide) none a (dN.same s')⟩,fun z f a s'=>⟨by decide,fun q n=>h2 q _ ((dN.same s').trans (dN.same (aB.new n))) (s'.free n) ?_⟩⟩⟩;.unfold zB lM;simp only[Ql16.answer];rw[Ox (gK c),k];rfl
 .unfold zB lM;simp only[Ql16.answer];rw[Ox (gK c),l];cases m<;>first | rfl | (simp[numOf]at hn)
 .rw[ai];unfold zB lM;simp only[Ql16.answer];rw[Ox (gK c),l];cases m with
  | whole y=>
    have:y=z:=by simpa[numOf]using f
    subst this;show some (HO.lst [V.int 0,V.int y])=some (HO.lst (List.map V.int (0::([]++[Ql16Neutral.signed (y % 2 ^ 64).toNat]))));rw[CT B];rfl
  | real y=>simp[numOf]at f
  | _=>cases f
theorem rZ:T.store.gh.Ok P w mg base 13 (uw t DL):=by
 refine T.store.gh.jO lU (fun o A g s H vs Q E v h=>?_);obtain⟨x,p,b,r,rfl,i,u,c,h1,h2⟩:=h;refine⟨_,(ag (ay (aZ (ae aw (ae (cp (pv 0) T.store.cS T.store.bx.m (gF T) v.zz T.store.bx.b aH (ae (pv 1) (ae T.kinds.DC.e ah))) ah))))),?_⟩;obtain⟨B,D,hx,_⟩:=id i;walk_at "r6";have j:=h1 (-7);rw[NF]at j;refine⟨_,_,hx,rfl,x,p,b,r,2,rfl,.inr rfl,i,u,c,fun e k d a s'=>⟨_,rfl,h1 e ?_ (kP k) d a (dN.same s')⟩,fun m l C=>⟨fun hn a s'=>⟨_,rfl,j ?_ (by decide) none a (dN.same s')⟩,fun z f a s'=>⟨by decide,fun q n=>h2 q _ ((dN.same s').trans (dN.same (aB.new n))) (s'.free n) ?_⟩⟩⟩;.unfold DL lM;simp only[Ql16.answer];rw[Ox (gK c),k];rfl
 .unfold DL lM;simp only[Ql16.answer];rw[Ox (gK c),l];cases m<;>first | rfl | (simp[numOf]at hn)
 .rw[ai];unfold DL lM;simp only[Ql16.answer];rw[Ox (gK c),l];cases m with
  | real y=>
    have:(y:Int)=z:=by simpa[numOf]using f
    subst this;rfl
  | whole y=>simp[numOf]at f
  | _=>cases f
def Jx(t:bZ):Sp:=fun vs H Q E=>∃ x p,∃ b:Bytes,∃ a,∃ m:Nat,vs=[.ref x,.int (m:Int),.ref p]/\Cf t H x a/\H p=some (.lst (bI b))/\b.length<=30000/\KY t H (lM a (.tells b b.length m)) Q E
theorem su:T.store.eJ.Ok P w mg base 12 (Jx t):=by
 refine T.store.eJ.jO (fun vs H Q E h=>?_) (fun M A k s H vs Q E j h=>?_);.obtain⟨x,p,b,f,m,rfl,_⟩:=h;rfl
 obtain⟨x,p,b,f,m,rfl,y,O,D,h1,h2⟩:=h;refine⟨_,(af (aN (T.store.eH.cX (iv T) j.zz aH (ae (pv 1) (ae T.store.Al.e ah))))
  (af (T.store.eJ.set 3 (T.telling.mF.cl (yW T) j.zz (ae (cp (pv 0) T.store.cS T.store.bA.m (fg T) j.zz T.store.bA.b aH (ae (pv 2) ah)) ah)))
  (af (aK (aC hW (aT aO (by rfl) T.hJ.dh O5 (ae (pv 3) ah)) (pv 1) (aE _)) (ag (bH aH rfl rfl T.aG.xN T.aG.yk)) aD)
  (ag (ay (aS C5 (aZ (ae (aT aO (by rfl) T.hJ.dh O5 (ae (pv 3) ah)) ah)) (pv 3))))))),?_⟩
 obtain⟨Y,wo,hx,_⟩:=id y;walk_at "r6";have B:=h1 (-3);have C:=h1 (-6);rw[Of]at B;rw[Oi]at C;refine⟨_,_,rfl,fun N=>?_,fun N=>⟨_,rfl,B ?_ (by decide) none H (dN.same fun _ _ z=>z)⟩⟩
 rotate_left
 .unfold lM;simp only[Ql16.answer];rw[Oy (.inr (by unfold Ql16.ROOM;omega))];rfl
 have U:¬ (Ql16.TEXT<b.length\/Ql16.ROOM<m):=by
  rintro(z | z);.exact gK D z
  .unfold Ql16.ROOM at z;omega
 have a:lM f (.tells b b.length m)=match Ql16.asked f b with | .error e=>[e] | .ok n=>if m<(Ql16.tell n).length then [-6] else((Ql16.tell n).length:Int)::Ql16Neutral.byteInts (Ql16.tell n):=by
  unfold lM;simp only[Ql16.answer];rw[Ox U];cases Ql16.asked f b with
  | error e=>rfl
  | ok n=>simp only;split<;>simp[Ql16Neutral.shown,Ql16.says,Ql16Neutral.byteInts]
 refine⟨_,_,hx,rfl,x,p,b,f,rfl,y,O,D,fun e F d v s'=>⟨_,rfl,h1 e (by rw[a,F]) (kP F) d v (dN.same s')⟩,fun n hn u v s' L I X=>?_⟩;rw[hn]at a;simp only at a;refine⟨u,n,rfl,L,I,X,fun l J R hl=>?_⟩;have c:=(dN.same s').trans R;have tn:=kL n I;refine⟨l,rfl,_,.inl (bB.of hl),?_⟩;rw[bo];by_cases g:m<(Ql16.tell n).length;.rw[Oy g]at a;rw[Oy (OO (by omega))];exact C a (by decide) none J c
 .rw[Ox g]at a;rw[Ox (by simp;omega)];refine⟨l,rfl,_,.inl (bB.of hl),by decide,fun Z i=>?_⟩;rw[bo];have r:=aB.new (o:=HO.lst [V.int ((Ql16.tell n).length:Int)]) i;have W:sizeLine=16777216:=rfl;refine⟨l,rfl,_,ai,_,r _ _ hl,by rw[bo];simp only[OB,Pa];omega,fun q G=>h2 q _ ((c.trans (dN.same r)).trans (dN.same (aB.new G))) ((c.trans (dN.same r)).free G) ?_⟩;rw[ai,a];simp[bI,Ql16Neutral.byteInts]
def zf(c:Int)(m:Nat)(b:Bytes):Ql16.Call:=if c=1 then .tells b b.length m else if c=2 then .kind b b.length else if c=3 then .count b b.length else if c=4 then .whole b b.length else .real b b.length
def gc(c:Int)(m:Nat)(b:Bytes)(a:Entries):List Int×Entries:=if c=0 then readOut (Ql16Neutral.stands (Ql16.lines b) 1 [] []) else(lM a (zf c m b),a)
def Kl(H b:Hp):Prop:=∀ a u,H a=some u->(∀ C c d,u≠.ins C c d)->b a=some u
theorem Kl.keep(k:dN t H H'):Kl H H':=fun a u h n=>k.obj a u h fun b e c o d z=>n _ _ _ z
theorem Kl.kp(hx:H x=some (.ins C dx fs))(k:Kp x H H'):Kl H H':=fun a u h n=>k a u h fun z=>by subst z;rw[hx]at h;cases h;exact n _ _ _ rfl
def za(t:bZ):Sp:=fun vs H Q E=>∃ x c,∃ m:Nat,∃ p,∃ b:Bytes,∃ f,vs=[.ref x,.int c,.int (m:Int),.ref p]/\(c=0\/c=1\/c=2\/c=3\/c=4\/c=5)/\Cf t H x f/\H p=some (.lst (bI b))/\b.length<=29998 /\ (∀ e,(gc c m b f).1=[e]->e<0->∀ d a,Kl H a->hG H a->KQ t H a x f (gc c m b f).2->E (.ref (excOf t e)) d a)/\∀ q a,Kl H a->H q=none->KQ t H a x f (gc c m b f).2->a q=some (.lst ((gc c m b f).1.map V.int))->Q (.ref q) a
theorem zu:T.store.my.Ok P w mg base 17 (za t):=by
 refine T.store.my.jO (fun vs H Q E h=>?_) (fun O A J s H vs Q E v h=>?_);.obtain⟨x,c,m,p,b,r,rfl,_⟩:=h;rfl
 obtain⟨x,c,m,p,b,r,rfl,hc,l,u,W,h1,h2⟩:=h;refine⟨_,(af (aK (aC aV (pv 1) T.store.ER.e (aE _)) (ag (ay (cp (pv 0) T.store.cS T.store.cQ.m (se T) v.zz T.store.cQ.b aH (ae (pv 3) ah)))) aD)
  (af (aK (aC aV (pv 1) T.store.xG.e (aE _)) (ag (ay (cp (pv 0) T.store.cS T.store.eJ.m (su T) v.zz T.store.eJ.b aH (ae (pv 2) (ae (pv 3) ah))))) aD)
  (af (aK (aC aV (pv 1) T.store.E9.e (aE _)) (ag (ay (cp (pv 0) T.store.cS T.store.gk.m (sD T) v.zz T.store.gk.b aH (ae (pv 3) ah)))) aD)
  (af (aK (aC aV (pv 1) T.store.CM.e (aE _)) (ag (ay (cp (pv 0) T.store.cS T.store.fR.m (qV T) v.zz T.store.fR.b aH (ae (pv 3) ah)))) aD)
  (af (aK (aC aV (pv 1) T.store.DF.e (aE _)) (ag (ay (cp (pv 0) T.store.cS T.store.fE.m (qN T) v.zz T.store.fE.b aH (ae (pv 3) ah)))) aD)
  (af (aK (aC aV (pv 1) T.store.Gf.e (aE _)) (ag (ay (cp (pv 0) T.store.cS T.store.gh.m (rZ T) v.zz T.store.gh.b aH (ae (pv 3) ah)))) aD)
  (ag Ih))))))),?_⟩
 obtain⟨i,wo,hx,_⟩:=id l;have f:c≠0->KY t H (lM r (zf c m b)) Q (Bv (fun C d x n=>E (Value.ref C) d n) [some (V.ref x),some (V.int c),some (V.int (m:Int)),some (V.ref p)]):=fun z=>by unfold gc at h1 h2;rw[Ox z]at h1 h2;exact⟨fun e X hn d n k=>⟨_,rfl,h1 e X hn d n (Kl.keep k) k.Nr (KQ.keep l k)⟩,fun q n k hn I=>h2 q n (Kl.keep k) hn (KQ.keep l k) I⟩
 rcases hc with rfl | rfl | rfl | rfl | rfl | rfl
 .clear f;unfold gc at h1 h2;rw[Oy rfl]at h1 h2;refine⟨_,rfl,rfl,_,rfl,rb rfl ⟨_,rfl,x,i,_,rfl,hx,rfl,_,rfl,x,i,_,p,b,rfl,hx,u,W,fun q n j L k hn I B R U N D=>h2 q n (Kl.kp hx k) hn ⟨⟨i,j,B,⟨L,Rep.j9 _ _ _ (ip.mpr ⟨by decide,j,rfl,R⟩)⟩,N,D⟩,fun g xs F _=>?_⟩ I⟩⟩;have M:x≠g:=cH hx F (by intro z;cases z);have G:=k g _ F (OL M);refine⟨i,j,by rw[iA M];exact B,⟨L,Rep.j9 _ _ _ (ip.mpr ⟨by decide,j,rfl,fT.br ⟨fun a ha o z=>?_,fun Z Y z=>?_,eD⟩ R⟩)⟩,N,D⟩;.rw[iA (aj F (U a ha)).symm];exact z
  .rw[iA (cH z G (by intro y;cases y))];exact z
 .exact⟨_,rfl,rfl,_,rfl,hI rfl ⟨_,rfl,rfl,_,rfl,rb rfl ⟨_,rfl,x,i,_,rfl,hx,rfl,_,rfl,_,rfl,x,p,b,r,m,rfl,l,u,by omega,f (by decide)⟩⟩⟩
 .exact⟨_,rfl,rfl,_,rfl,hI rfl ⟨_,rfl,rfl,_,rfl,hI rfl ⟨_,rfl,rfl,_,rfl,rb rfl ⟨_,rfl,x,i,_,rfl,hx,rfl,_,rfl,x,p,b,r,rfl,l,u,by omega,f (by decide)⟩⟩⟩⟩
 .exact⟨_,rfl,rfl,_,rfl,hI rfl ⟨_,rfl,rfl,_,rfl,hI rfl ⟨_,rfl,rfl,_,rfl,hI rfl ⟨_,rfl,rfl,_,rfl,rb rfl ⟨_,rfl,x,i,_,rfl,hx,rfl,_,rfl,x,p,b,r,rfl,l,u,by omega,f (by decide)⟩⟩⟩⟩⟩
 .exact⟨_,rfl,rfl,_,rfl,hI rfl ⟨_,rfl,rfl,_,rfl,hI rfl ⟨_,rfl,rfl,_,rfl,hI rfl ⟨_,rfl,rfl,_,rfl,hI rfl ⟨_,rfl,rfl,_,rfl,rb rfl ⟨_,rfl,x,i,_,rfl,hx,rfl,_,rfl,x,p,b,r,rfl,l,u,by omega,f (by decide)⟩⟩⟩⟩⟩⟩
 .exact⟨_,rfl,rfl,_,rfl,hI rfl ⟨_,rfl,rfl,_,rfl,hI rfl ⟨_,rfl,rfl,_,rfl,hI rfl ⟨_,rfl,rfl,_,rfl,hI rfl ⟨_,rfl,rfl,_,rfl,hI rfl ⟨_,rfl,rfl,_,rfl,rb rfl ⟨_,rfl,x,i,_,rfl,hx,rfl,_,rfl,x,p,b,r,rfl,l,u,by omega,f (by decide)⟩⟩⟩⟩⟩⟩⟩
theorem Dg(c:Ql16.Call)(x:Ql16.Ans):∃ r,Ql16Neutral.shown c x=x.value::r:=by cases c<;>exact⟨_,rfl⟩
theorem Iw(h:Ql16.asked es b=.error e):e=-4\/e=-5:=by
 unfold Ql16.asked at h;split at h;.cases h;exact .inr rfl
 .split at h;.cases h
  .cases h;exact .inl rfl
theorem JT(g:Entries)(c:Ql16.Call)(h:(Ql16.answer g c).value<0):(Ql16.answer g c).value=-3\/(Ql16.answer g c).value=-4\/(Ql16.answer g c).value=-5\/(Ql16.answer g c).value=-6\/(Ql16.answer g c).value=-7:=by
 have a:∀ {e:Int} {b:Bytes},Ql16.asked g b=.error e->e=-3\/e=-4\/e=-5\/e=-6\/e=-7:=fun h=>by
  rcases Iw h with z | z;.exact .inr (.inl z)
  .exact .inr (.inr (.inl z))
 cases c with
 | read p n=>simp only[Ql16.answer,Ql16.says]at h;omega
 | tells p n m=>
   simp only[Ql16.answer]at h |-;split;.exact .inl rfl
   .rename_i d;rw[Ox d]at h;split;.rename_i e f;exact a f
    .rename_i x hx;rw[hx]at h;simp only at h;split;.exact .inr (.inr (.inr (.inl rfl)))
     .rename_i h1;rw[Ox h1]at h;simp only at h;omega
 | kind p n=>
   simp only[Ql16.answer]at h |-;split;.exact .inl rfl
   .rename_i d;rw[Ox d]at h;split;.rename_i e f;exact a f
    .rename_i x hx;rw[hx]at h;simp only[Ql16.says]at h;omega
 | count p n=>
   simp only[Ql16.answer]at h |-;split;.exact .inl rfl
   .rename_i d;rw[Ox d]at h;split;.rename_i e f;exact a f
    .rename_i x hx;rw[hx]at h;simp only[Ql16.says]at h;omega
 | whole p n=>
   simp only[Ql16.answer]at h |-;split;.exact .inl rfl
   .rename_i d;rw[Ox d]at h;split;.rename_i e f;exact a f
    .rename_i x hx;rw[hx]at h;simp only at h;omega
    .exact .inr (.inr (.inr (.inr rfl)))
 | real p n=>
   simp only[Ql16.answer]at h |-;split;.exact .inl rfl
   .rename_i d;rw[Ox d]at h;split;.rename_i e f;exact a f
    .rename_i x hx;rw[hx]at h;simp only at h;omega
    .exact .inr (.inr (.inr (.inr rfl)))
theorem IQ(h:(gc c m b es).1=[e])(hn:e<0):e=-3\/e=-4\/e=-5\/e=-6\/e=-7:=by
 unfold gc at h;split at h
 .cases a:Ql16Neutral.stands (Ql16.lines b) 1 [] []with
  | ok d=>rw[a]at h;simp only[readOut,OT,P5]at h;omega
  | error f=>obtain⟨k,i⟩:=f;rw[a]at h;simp[readOut]at h
 .simp only[lM]at h;obtain⟨r,a⟩:=Dg (zf c m b) (Ql16.answer es (zf c m b));rw[a]at h;simp only[OT]at h;rw[<-h.1]at hn |-;exact JT es _ hn
def wI(t:bZ):Sp:=fun vs H Q _=>∃ x c,∃ m:Nat,∃ p,∃ b:Bytes,∃ d,vs=[.ref x,.int c,.int (m:Int),.ref p]/\(c=0\/c=1\/c=2\/c=3\/c=4\/c=5)/\Cf t H x d/\H p=some (.lst (bI b))/\b.length<=29998 /\ ∀ q a,Kl H a->H q=none->KQ t H a x d (gc c m b d).2->a q=some (.lst ((gc c m b d).1.map V.int))->Q (.ref q) a
theorem m9:T.store.fU.Ok P w mg base 18 (wI t):=by
 refine T.store.fU.jO (fun vs H Q E h=>?_) (fun F A j s H vs Q E M h=>?_);.obtain⟨x,c,m,p,b,v,rfl,_⟩:=h;rfl
 obtain⟨x,c,m,p,b,v,rfl,hc,D,L,I,h2⟩:=h;refine⟨_,(ag (zN rfl rfl (by intro _ _ _ G _;exact(ag (ay (T.store.my.cX (zu T) M.zz G (ae (pv 0) (ae (pv 1) (ae (pv 2) (ae (pv 3) ah)))))))) (lB rfl T.aG.wm T.aG.vI (fun _=>(ag (ay (aZ (ae (eK cR aw) ah))))) (lB rfl T.aG.mR T.aG.mV (fun _=>(ag (ay (aZ (ae (eK cR aw) ah))))) (lB rfl T.aG.vE T.aG.vH (fun _=>(ag (ay (aZ (ae (eK cR aw) ah))))) (lB rfl T.aG.xN T.aG.yk (fun _=>(ag (ay (aZ (ae (eK cR aw) ah))))) (lB rfl T.aG.sG T.aG.sY (fun _=>(ag (ay (aZ (ae (eK cR aw) ah))))) (zJ aH rfl)))))))),?_⟩;walk_at "r6";refine⟨x,c,m,p,b,v,rfl,hc,D,L,I,fun e B hn d n k N r=>⟨_,rfl,?_⟩,h2⟩;have i:=T.obs.MO;simp only[OP,OR,OA,PY,PX]at i;have f:∀ q,n q=none->Q (.ref q) (upd n q (.lst [.int e])):=fun q C=>by have l:=aB.new (o:=HO.lst [V.int e]) C;refine h2 q _ (fun a u z y=>l _ _ (k a u z y)) (N.free C) ⟨r.1.keep (dN.same l),fun g xs J y=>(r.2 g xs J y).keep (dN.same (aB.rem l g))⟩ ?_;rw[ai,B];rfl
 rcases IQ B hn with rfl | rfl | rfl | rfl | rfl;.rw[Of];exact zh rfl ⟨by decide,f⟩
 .rw[Og];exact tR (fun z=>by simp[z]at i) (zh rfl ⟨by decide,f⟩)
 .rw[Oq];exact tR (fun z=>by simp[z]at i) (tR (fun z=>by simp[z]at i) (zh rfl ⟨by decide,f⟩))
 .rw[Oi];exact tR (fun z=>by simp[z]at i) (tR (fun z=>by simp[z]at i) (tR (fun z=>by simp[z]at i) (zh rfl ⟨by decide,f⟩)))
 .rw[NF];exact tR (fun z=>by simp[z]at i) (tR (fun z=>by simp[z]at i) (tR (fun z=>by simp[z]at i) (tR (fun z=>by simp[z]at i) (zh rfl ⟨by decide,f⟩))))
theorem Kl.seq(k:Kl H H')(h:bB K H a xs):bB K H' a xs:=by
 rcases h with(h | ⟨o,h⟩) | h;.exact .inl (.inl (k _ _ h fun _ _ _ z=>nomatch z))
 .exact .inl (.inr ⟨o,k _ _ h fun _ _ _ z=>nomatch z⟩)
 .exact .inr h
theorem Eg(h:xx row):bI (Ql16Neutral.octets row)=row.map V.int/\(Ql16Neutral.octets row).length=row.length:=by refine⟨?_,by simp[Ql16Neutral.octets]⟩;unfold bI Ql16Neutral.octets;rw[P4];refine Qx fun z a=>?_;obtain⟨b,h1⟩:=h.1 z a;show V.int (((UInt8.ofNat z.toNat).toNat:Nat):Int)=V.int z;rw[UT];congr 1;omega
theorem JZ{s:Ql16Neutral.S}{b:Entries}{p:Int}{m:Nat}{a:List Int}{c:List (List Int)}(e:(p=1/\c=[[1,(m:Int)],a])\/((p=0\/p=2\/p=3\/p=4\/p=5)/\c=[[p],a]))(g:a.length<=30000)(hs:s=some b\/p=0):
 Ql16Neutral.step s (PyQl16.whole c)=(some (gc p m (Ql16Neutral.octets a) b).2,(gc p m (Ql16Neutral.octets a) b).1):=by
 have d:(Ql16Neutral.octets a).length=a.length:=by simp[Ql16Neutral.octets]
 have tl:¬ Ql16.TEXT<a.length:=by unfold Ql16.TEXT;omega
 rcases e with⟨rfl,rfl⟩ | ⟨e,rfl⟩
 .obtain rfl:s=some b:=by rcases hs with h | h;exact h;exact absurd h (by decide)
  show(some b,Ql16Neutral.shown (.tells (Ql16Neutral.octets a) (a.length:Int).toNat (m:Int).toNat) (Ql16.answer b (.tells (Ql16Neutral.octets a) (a.length:Int).toNat (m:Int).toNat)))=_;rw[PL,PL,<-d];rfl
 .rcases e with rfl | rfl | rfl | rfl | rfl
  .show(match Ql16Neutral.actOf s (.read (Ql16Neutral.octets a) (a.length:Int).toNat) with | none=>(s,[]) | some y=>(y.2,Ql16Neutral.shown (.read (Ql16Neutral.octets a) (a.length:Int).toNat) y.1))=_;rw[PL];unfold Ql16Neutral.actOf gc;rw[Oy rfl];simp only[Ox tl];cases Ql16Neutral.stands (Ql16.lines (Ql16Neutral.octets a)) 1 [] []with
   | ok f=>rfl
   | error i=>rfl
  all_goals
   obtain rfl:s=some b:=by rcases hs with h | h;exact h;exact absurd h (by decide)
  .show(some b,Ql16Neutral.shown (.kind (Ql16Neutral.octets a) (a.length:Int).toNat) (Ql16.answer b (.kind (Ql16Neutral.octets a) (a.length:Int).toNat)))=_;rw[PL,<-d];rfl
  .show(some b,Ql16Neutral.shown (.count (Ql16Neutral.octets a) (a.length:Int).toNat) (Ql16.answer b (.count (Ql16Neutral.octets a) (a.length:Int).toNat)))=_;rw[PL,<-d];rfl
  .show(some b,Ql16Neutral.shown (.whole (Ql16Neutral.octets a) (a.length:Int).toNat) (Ql16.answer b (.whole (Ql16Neutral.octets a) (a.length:Int).toNat)))=_;rw[PL,<-d];rfl
  .show(some b,Ql16Neutral.shown (.real (Ql16Neutral.octets a) (a.length:Int).toNat) (Ql16.answer b (.real (Ql16Neutral.octets a) (a.length:Int).toNat)))=_;rw[PL,<-d];rfl
theorem LA(h:H q=some o):upd H q o=H:=funext fun z=>by
 by_cases e:z=q;.subst e;rw[ai,h]
 .rw[aq e]
theorem pT{l:List Int}{j:Nat}{x:Int}{r:List Int}(h:l.drop j=x::r):l[j]?=some x/\l.drop (j+1)=r:=by
 constructor;.have:=Pw (·[0]?) h;simpa using this
 .rw[<-SX,h];rfl
def pD(K:PySem.W.Frag):Sp:=fun vs H Q _=>∃ a b,vs=[.ref a]/\bB K H a (b.map V.int)/\b.length<=30000/\PyQl16.answers_asked b=true/\∀ q c,c q=some (.lst ((PyQl16.answers b).map V.int))->Q (.ref q) c
def LM(t:bZ)(K:PySem.W.Frag)(d:List Int)(a x q:Addr)(j:Nat)(e:Hp):Prop:=∃ (b:List (List (List Int))) (k:Nat) (i:Entries) (s:Ql16Neutral.S) (g:List Int),j<=d.length/\PyFlat.calls PyQl16.shape k (d.drop j)=some b/\(∀ c∈b,PyInside.call PyQl16.bound c=true) /\ Cf t (rem e q) x i/\(s=some i\/∃ h f,b=[[0],h]::f)/\e q=some (.lst (g.map V.int))/\PyQl16.answers d=g++eg s b/\∀ o,bB K (upd e q o) a (d.map V.int)
theorem Dn:T.store.cM.Ok P w mg base 19 (pD K):=by
 refine T.store.cM.jO (fun vs H Q E h=>?_) (fun c6 A b9 s H vs Q E hr h=>?_);.obtain⟨a,p,rfl,_⟩:=h;rfl
 obtain⟨a,p,rfl,ha,hl,hask,h⟩:=h;refine⟨_,(af (T.store.cM.set 1 (BY T.store.Hw (xl T) hr.zz rfl T.store.Kh T.store.lY.b .nil bg))
  (af (T.store.cM.set 2 (aZ ah))
  (af (T.store.cM.set 3 aw)
  (af (eG PM (aC gV (pv 3) (aT aO (by rfl) T.hJ.dh O5 (ae (pv 0) ah)) (aE _)) (af (T.store.cM.set 4 (cT ff (pv 0) (pv 3) (fun _ _=>rfl)))
  (af (T.store.cM.set 5 aw)
  (af (aK (aC aV (pv 4) T.store.xG.e (aE _)) (af (G1 (i:=3) T.store.cM.s.nd rfl (Ql rfl) aw Ho)
  (ag (T.store.cM.set 5 (cT ff (pv 0) (pv 3) (fun _ _=>rfl))))) aD)
  (af (T.store.cM.set 6 (aS cE (pv 3) aw))
  (af (T.store.cM.set 3 (aS cE (pv 6) (cT ff (pv 0) (aS cE (pv 3) aw) (fun _ _=>rfl))))
  (af (T.store.cM.set 7 (T.store.fU.cX (m9 T) hr.zz aH (ae (pv 1) (ae (pv 4) (ae (pv 5) (ae (cF ow (pv 0) (bN (pv 6)) (bN (pv 3))) ah))))))
  (af (aN (df OJ OW OX bw (pv 2) (ae (aT aO (by rfl) T.hJ.dh O5 (ae (pv 7) ah)) ah)))
  (ag (aN (df OJ P1 P2 fF (pv 2) (ae (pv 7) ah))))))))))))
  (ag (ay (pv 2))))))),?_⟩
 walk_at "r6";intro x dx hx b4 c8;refine⟨x,dx,rfl,ai,fun H1 k1 S1=>⟨rfl,O1 _,fun q hq=>?_⟩⟩;obtain⟨cs,As,ea⟩:=Ir hask;have b2:bB K H1 a (p.map V.int):=by
  have s0:aB H (upd (upd H dx (.own x)) x (.ins (t.c "Store") dx [])):=fun c o z=>by rw[aq (aj z hx),aq (aj z b4)];exact z
  refine aB.seq (fun c o z=>k1 c o (s0 c o z) (aj z hx)) ha
 have s1:=aB.new (o:=HO.lst []) hq;have sh:=As.short;rw[<-ea]at sh;have c9:sizeLine=16777216:=rfl;refine⟨fun m σ O=>∃ j Y Z o6 o7,m=p.length - j/\σ=[some (.ref a),some (.ref x),some (.ref q),some (.int (j:Int)),Y,Z,o6,o7]/\LM t K p a x q j O,⟨_,0,none,none,none,none,rfl,rfl,cs,_,[],Ql16Neutral.start,[],O1 _,As.NI,As.ok,S1.keep (dN.same fun c o z=>by rw[iA (aj z hq)];exact s1 _ _ z),.inr As.first,ai,ea,fun o=>by rw[cx];exact(aB.new hq).seq b2⟩,?_⟩;rintro m σ O ⟨j,Y,Z,o6,o7,rfl,rfl,cs,k,M,st,g,jl,a5,a7,S',b6,U,eA,a4⟩;have B:bB K O a (p.map V.int):=by have:=a4 (.lst (g.map V.int));rw[LA U]at this;exact this
 walk_at "r6";refine⟨_,.inl B,?_⟩;rw[O0];obtain⟨N,hN⟩:∃ N:L2.St->Hp->Prop,N=(fun X H2=>∃ m',m'<p.length - j/\∃ (D:Nat) (Y Z o6 o7:Option V),m'=p.length - D/\X=[some (.ref a),some (.ref x),some (.ref q),some (.int (D:Int)),Y,Z,o6,o7]/\LM t K p a x q D H2):=⟨_,rfl⟩
 obtain⟨L,hL⟩:∃ L,L=p.drop j:=⟨_,rfl⟩
 rw[<-hL]at a5;rcases ux a5 with⟨e0,rfl⟩ | ⟨c,t',b0,k',f,a6,rfl⟩;.have jn:p.length<=j:=SK.mp (hL.symm.trans e0);rw[Ox (by simp;omega)];refine h q O ?_;rw[eA,tK,Pn];exact U
 have a9:=Fx f (a7 c (O2 ..));have R:∀ (l:Int) (v:Nat) (d:List Int) (D:Nat) (C I:Addr) (J:Hp),xx d->((l=1/\c=[[1,(v:Int)],d])\/((l=0\/l=2\/l=3\/l=4\/l=5)/\c=[[l],d]))->p.drop D=t'->j<D->D<=p.length->O C=none ->
  Kl (upd O C (.lst (d.map V.int))) J->upd O C (.lst (d.map V.int)) I=none->KQ t (upd O C (.lst (d.map V.int))) J x M (gc l v (Ql16Neutral.octets d) M).2->J I=some (.lst ((gc l v (Ql16Neutral.octets d) M).1.map V.int)) ->
  J q=some (.lst (g.map V.int))/\I≠q/\(g.map V.int).length<sizeLine/\(g.map V.int++[V.int (((gc l v (Ql16Neutral.octets d) M).1.map V.int).length:Int)]).length+((gc l v (Ql16Neutral.octets d) M).1.map V.int).length<=sizeLine /\
  ∀ Y Z o6 o7,N [some (.ref a),some (.ref x),some (.ref q),some (.int (D:Int)),Y,Z,o6,o7] (upd (upd J q (.lst (g.map V.int++[V.int (((gc l v (Ql16Neutral.octets d) M).1.map V.int).length:Int)]))) q (.lst (g.map V.int++[V.int (((gc l v (Ql16Neutral.octets d) M).1.map V.int).length:Int)]++(gc l v (Ql16Neutral.octets d) M).1.map V.int))):=by
  intro l v d D C I J G hp ej jj jn h1 kl hn S3 n;have hs:st=some M\/l=0:=by
   rcases b6 with z | ⟨c5,c7,z⟩;.exact .inl z
   .refine .inr ?_;simp only[OT]at z;rcases hp with⟨_,e⟩ | ⟨_,e⟩;.rw[e]at z;simp at z
    .rw[e]at z;simp at z;exact z.1.1
  have b1:=JZ (m:=v) hp G.2 hs;rw[rl,b1]at eA;simp only at eA;generalize gc l v (Ql16Neutral.octets d) M=r at eA S3 n;have a8:Kl O J:=fun b u z y=>kl b u (aB.new h1 _ _ z) y;have b5:=a8 _ _ U (fun _ _ _ z=>nomatch z);have b7:=Pw List.length eA;simp only[ON,OB]at b7;have c0:I≠q:=(aj (aB.new h1 _ _ U) hn).symm;refine⟨b5,c0,by rw[O0];omega,by simp only[ON,O0,OB,Pa];omega,fun Y Z o6 o7=>?_⟩;rw[hN,cx];refine⟨_,?_,D,Y,Z,o6,o7,rfl,rfl,b0,k',r.2,some r.2,g++(r.1.length:Int)::r.1,jn,by rw[ej];exact a6,fun c' b3=>a7 c' (OM _ b3),?_,.inl rfl,?_,?_,fun o=>?_⟩;.omega
  .have q1:=aB.new (o:=HO.lst (d.map V.int)) h1 _ _ U;have z:=S3.2 q _ q1 (S'.keep (dN.same (aB.rem (aB.new h1) q)));have er:∀ o,rem (upd J q o) q=rem J q:=fun o=>funext fun y=>by
    by_cases e:y=q;.subst e;rw[Dz,Dz]
    .rw[iA e,iA e,aq e]
   rw[er];exact z
  .rw[ai];simp
  .rw[eA];simp
  .rw[cx];refine Kl.seq (H:=upd O q o) (fun b u z y=>?_) (a4 o);by_cases e:b=q;.subst e;rw[ai]at z |-;exact z
   .rw[aq e]at z |-;exact a8 b u z y
 have a0:∀ (X:L2.St) (H2:Hp),N X H2->∃ m',m'<p.length - j/\∃ D,m'=p.length - D/\∃ c1 c2 c3 c4,X=[some (V.ref a),some (V.ref x),some (V.ref q),some (V.int (D:Int)),c1,c2,c3,c4]/\LM t K p a x q D H2:=fun X H2 z=>by rw[hN]at z;obtain⟨m',z1,D,Y,Z,o6,o7,z2,z3⟩:=z;exact⟨m',z1,D,z2,Y,Z,o6,o7,z3⟩
 have S2:∀ (C:Addr) (d:List Int),O C=none->Cf t (upd O C (.lst (d.map V.int))) x M:=fun C d h1=>S'.keep (dN.same (aB.trans aB.Kr (aB.new h1)));have W:=Pw List.length hL;rw[O6]at W;cases f with
 | @plain l d t' hp=>
   simp only[OB,ON]at W;obtain⟨g1,d1⟩:=pT hL.symm;obtain⟨g2,d2⟩:=pT d1;have G:xx d:=a9;obtain⟨a3,b8⟩:=Eg G;rw[Oy (OO (by omega))];refine⟨N,a0,_,B,V.int l,gW (by rw[Qv,g1];rfl),rfl,?_⟩;rw[Ox (by simp;omega)];refine⟨_,B,V.int (d.length:Int),by
    have:(j:Int)+1=((j+1:Nat):Int):=by omega
    rw[this];exact gW (by rw[Qv,g2];rfl),_,rfl,_,B,fun C h1=>?_⟩
   have ec:oz (p.map V.int) (some ((j:Int)+2)) (some ((j:Int)+2+(d.length:Int)))=d.map V.int:=by
    have e1:(j:Int)+2=((j+2:Nat):Int):=by omega
    have e2:(j:Int)+2+(d.length:Int)=((j+2+d.length:Nat):Int):=by omega
    rw[e2,e1,uz (by rw[O0];omega) (by omega),<-Uz,show j+2=j+1+1 from rfl,d2,<-Uy,show j+1+1+d.length - (j+1+1)=d.length by omega,VD];rfl
   rw[ec];refine⟨x,l,0,C,Ql16Neutral.octets d,M,rfl,by omega,S2 C d h1,by rw[ai,a3],by omega,fun I J kl hn S3 n=>?_⟩;have ej:p.drop (j+2+d.length)=t':=by rw[<-SX,show j+2=j+1+1 from rfl,d2,TV];rfl
   obtain⟨f1,f2,f3,f4,f5⟩:=R l 0 d (j+2+d.length) C I J G (.inr ⟨hp,rfl⟩) ej (by omega) (by omega) h1 kl hn S3 n;refine⟨.inl ⟨rfl,_,bB.of f1⟩,I,rfl,_,.inl (bB.of n),_,f1,f3,.inl ⟨rfl,_,bB.of ai⟩,I,rfl,_,ai,_,by rw[aq f2];exact n,f4,?_⟩;have:=f5 (some (V.int l)) (some (V.int 0)) (some (V.int ((j:Int)+2))) (some (V.ref I));rw[show((j+2+d.length:Nat):Int)=(j:Int)+2+(d.length:Int) by omega]at this;exact this
 | @told mI d t'=>
   simp only[OB,ON]at W;obtain⟨g1,d1⟩:=pT hL.symm;obtain⟨g2,d2⟩:=pT d1;obtain⟨g3,d3⟩:=pT d2;obtain⟨hm,G⟩:(0<=mI/\mI<=4294967295)/\xx d:=a9;obtain⟨a3,b8⟩:=Eg G;obtain⟨v,rfl⟩:∃ v:Nat,mI=(v:Int):=⟨mI.toNat,by omega⟩
   rw[Oy (OO (by omega))];refine⟨N,a0,_,B,V.int 1,gW (by rw[Qv,g1];rfl),rfl,?_⟩;rw[Oy (by decide)];refine⟨_,B,V.int (v:Int),by
    have:(j:Int)+1=((j+1:Nat):Int):=by omega
    rw[this];exact gW (by rw[Qv,g2];rfl),_,B,V.int (d.length:Int),by
    have:(j:Int)+1+1=((j+1+1:Nat):Int):=by omega
    rw[this];exact gW (by rw[Qv,g3];rfl),_,rfl,_,B,fun C h1=>?_⟩
   have ec:oz (p.map V.int) (some ((j:Int)+1+2)) (some ((j:Int)+1+2+(d.length:Int)))=d.map V.int:=by
    have e1:(j:Int)+1+2=((j+1+2:Nat):Int):=by omega
    have e2:(j:Int)+1+2+(d.length:Int)=((j+1+2+d.length:Nat):Int):=by omega
    rw[e2,e1,uz (by rw[O0];omega) (by omega),<-Uz,show j+1+2=j+1+1+1 from rfl,d3,<-Uy,show j+1+1+1+d.length - (j+1+1+1)=d.length by omega,VD];rfl
   rw[ec];refine⟨x,1,v,C,Ql16Neutral.octets d,M,rfl,by omega,S2 C d h1,by rw[ai,a3],by omega,fun I J kl hn S3 n=>?_⟩;have ej:p.drop (j+1+2+d.length)=t':=by rw[<-SX,show j+1+2=j+1+1+1 from rfl,d3,TV];rfl
   obtain⟨f1,f2,f3,f4,f5⟩:=R 1 v d (j+1+2+d.length) C I J G (.inl ⟨rfl,rfl⟩) ej (by omega) (by omega) h1 kl hn S3 n;refine⟨.inl ⟨rfl,_,bB.of f1⟩,I,rfl,_,.inl (bB.of n),_,f1,f3,.inl ⟨rfl,_,bB.of ai⟩,I,rfl,_,ai,_,by rw[aq f2];exact n,f4,?_⟩;have:=f5 (some (V.int 1)) (some (V.int (v:Int))) (some (V.int ((j:Int)+1+2))) (some (V.ref I));rw[show((j+1+2+d.length:Nat):Int)=(j:Int)+1+2+(d.length:Int) by omega]at this;exact this
end Ps
section
namespace L2
open PySem PySem.Spec PyProof.Rows
open PySem.W (WData Codec OpenSpec Well WellAll ReadsW ReadsAllW)
mutual
inductive Dw (K:PySem.W.Frag) (H:Hp):V->WData->Prop
 | ba:Dw K H .ba .none
 | bl (b:Bool):Dw K H (.bl b) (.bool b)
 | int (i:Int):Dw K H (.int i) (.int i)
 | str (x:Str):Dw K H (.str x) (.str x)
 | byt (b:Array UInt8):Dw K H (.byt b) (.bytes b.toList)
 | lst {a:Addr} {xs:List V} {ds:List WData}:bB K H a xs->nO K H xs ds->Dw K H (.ref a) (.list ds)
 | tup {a:Addr} {xs:List V} {ds:List WData}:iJ K H a xs->nO K H xs ds->Dw K H (.ref a) (.tuple ds)
inductive nO (K:PySem.W.Frag) (H:Hp):List V->List WData->Prop
 | nil:nO K H [] []
 | cons {v:V} {vs:List V} {d:WData} {ds:List WData}:Dw K H v d->nO K H vs ds->nO K H (v::vs) (d::ds)
end
theorem D9{K:PySem.W.Frag}{H:Hp}:∀ a:List Int,nO K H (a.map V.int) (a.map WData.int)
 | []=>.nil
 | n::r=>.cons (.int n) (D9 r)
theorem El{K:PySem.W.Frag}{H:Hp}:∀ (a:List Int) (xs:List V),nO K H xs (a.map WData.int)->xs=a.map V.int
 | [],xs,h=>by cases h;rfl
 | n::r,xs,h=>by
   cases h with
   | cons h1 h2=>cases h1;rw[El r _ h2]<;>rfl
section
variable {P:Program}{w:World}{K:PySem.W.Frag}{H:Hp}{h:Heap}{R:PySem.W.WRecords}{cl:Str->Option Addr}
theorem Lw{a:Addr}{xs:List V}(c:k8 P w H h)(KX:K.In h)(q:bB K H a xs):∃ (b:List Value) (o:Obj) (n:Nat),Vals xs b/\h.get? a=some o/\o.cls=.type "list"/\o.data=.seq b.toArray n:=by
 rcases q with q | ⟨o,b,n,e,hc,_,hd,_,d⟩
 .obtain⟨_,b,n,d,e⟩:=(show cG P w H h a (.lst xs) from q.ok c)
  exact⟨b,_,n,d,e,rfl,rfl⟩
 .exact⟨b.toList,o,n,d,KX _ _ e,hc,by simp[hd]⟩
theorem Md{a:Addr}{xs:List V}(c:k8 P w H h)(KX:K.In h)(q:iJ K H a xs):∃ (b:List Value) (o:Obj) (n:Nat),Vals xs b/\h.get? a=some o/\o.cls=.type "tuple"/\o.data=.seq b.toArray n:=by
 rcases q with q | ⟨o,b,n,e,hc,hd,_,d⟩
 .obtain⟨_,b,d,o,e,hc,n,hd⟩:=(show cG P w H h a (.tup xs) from q.ok c)
  exact⟨b,o,n,d,e,hc,hd⟩
 .exact⟨b.toList,o,n,d,KX _ _ e,hc,by simp[hd]⟩
mutual
theorem Dw.reads(de:k8 P w H h)(KX:K.In h):∀ (d:WData) (v:V) (u:Value),Dw K H v d->RelV v u->∃ as,ReadsW R cl h u d as
 | .none,_,_,x,r=>by cases x;cases r;exact⟨_,ReadsW.none⟩
 | .bool b,_,_,x,r=>by cases x;cases r;exact⟨_,ReadsW.bool b⟩
 | .int i,_,_,x,r=>by cases x;obtain⟨t,rfl⟩:=r;exact⟨_,ReadsW.int i t⟩
 | .str s,_,_,x,r=>by cases x;obtain⟨t,rfl⟩:=r;exact⟨_,ReadsW.str s t⟩
 | .bytes b,_,_,x,r=>by cases x;obtain⟨t,rfl⟩:=r;exact⟨_,ReadsW.bytes _ t⟩
 | .list ds,_,_,x,r=>by
   cases x with
   | lst hs ha=>cases r;obtain⟨its,o,n,rv,ho,hc,hd⟩:=Lw de KX hs;obtain⟨as,hr⟩:=Dw.readsAll de KX ds _ its ha rv;exact⟨_,ReadsW.list ho hc hd hr⟩
 | .tuple ds,_,_,x,r=>by
   cases x with
   | tup hs ha=>cases r;obtain⟨its,o,n,rv,ho,hc,hd⟩:=Md de KX hs;obtain⟨as,hr⟩:=Dw.readsAll de KX ds _ its ha rv;exact⟨_,ReadsW.tuple ho hc hd hr⟩
 | .float _,_,_,x,_=>by cases x
 | .dict _,_,_,x,_=>by cases x
 | .bytearray _,_,_,x,_=>by cases x
 | .set _,_,_,x,_=>by cases x
 | .frozenset _,_,_,x,_=>by cases x
 | .obj _ _,_,_,x,_=>by cases x
theorem Dw.readsAll(de:k8 P w H h)(KX:K.In h):∀ (ds:List WData) (vs:List V) (us:List Value),nO K H vs ds->Vals vs us->∃ as,ReadsAllW R cl h us ds as
 | [],_,_,x,r=>by cases x;cases r;exact⟨_,ReadsAllW.nil⟩
 | d::ds,_,_,x,r=>by
   cases x with
   | cons h1 h2=>
     cases r with
     | cons r1 r2=>obtain⟨as,q1⟩:=Dw.reads de KX d _ _ h1 r1;obtain⟨bs,q2⟩:=Dw.readsAll de KX ds _ _ h2 r2;exact⟨_,ReadsAllW.cons q1 q2⟩
end
end
mutual
def DV:WData->Bool
 | .none=>true
 | .bool _=>true
 | .int _=>true
 | .str _=>true
 | .bytes _=>true
 | .list xs=>tq xs
 | .tuple xs=>tq xs
 | _=>false
def tq:List WData->Bool
 | []=>true
 | x::r=>DV x&&tq r
end
theorem B4{b:Type}{f:b->WData}(h:∀ a,DV (f a)=true):∀ l:List b,tq (l.map f)=true
 | []=>rfl
 | x::r=>by show(DV (f x)&&tq (r.map f))=true;rw[h x,B4 h r]<;>rfl
theorem nH:∀ (c:Codec) (a:c.denote),DV (c.enc a)=true
 | .unit,_=>rfl
 | .bool,_=>rfl
 | .int _ _,_=>rfl
 | .nat _ _,_=>rfl
 | .u8,_=>rfl
 | .bytes _ _,_=>rfl
 | .text _ _ _ _,_=>rfl
 | .list _ _ c,a=>B4 (fun x=>nH c x) a
 | .pair c d,a=>by show(DV (c.enc a.1)&&(DV (d.enc a.2)&&true))=true;rw[nH c a.1,nH d a.2]<;>rfl
 | .triple c d e,a=>by show(DV (c.enc a.1)&&(DV (d.enc a.2.1)&&(DV (e.enc a.2.2)&&true)))=true;rw[nH c a.1,nH d a.2.1,nH e a.2.2]<;>rfl
 | .option c,none=>rfl
 | .option c,some x=>nH c x
theorem yh:∀ (b:List Codec) (a:Codec.denoteAll b),tq (Codec.encAll b a)=true
 | [],_=>rfl
 | c::b,a=>by show(DV (c.enc a.1)&&tq (Codec.encAll b a.2))=true;rw[nH c a.1,yh b a.2]<;>rfl
theorem pJ:∀ {xs:List WData} {d:WData},d∈xs->d.weight<=WData.weightAll xs
 | [],d,h=>absurd h (by simp)
 | x::r,d,h=>by
   show d.weight<=x.weight+1+WData.weightAll r;rcases OA.mp h with e | m;.rw[e];omega
   .have z:=pJ m;omega
def toV:Value->V
 | .none=>.ba
 | .bool b=>.bl b
 | .int i _=>.int i
 | .str x _=>.str x
 | .bytes b _=>.byt b
 | .ref a=>.ref a
 | _=>.ba
def FO(A:List Addr):Value->Prop
 | .none=>True
 | .bool _=>True
 | .int _ _=>True
 | .str _ _=>True
 | .bytes _ _=>True
 | .ref a=>a∈A
 | _=>False
theorem FO.mono{A B:List Addr}(h:∀ a∈A,a∈B):∀ {u:Value},FO A u->FO B u:=fun {u} x=>by
 cases u with
 | ref a=>exact h a x
 | none=>trivial
 | bool b=>trivial
 | int i t=>trivial
 | str s t=>trivial
 | bytes b t=>trivial
 | _=>exact False.elim x
theorem GY{A:List Addr}{u:Value}(x:FO A u):RelV (toV u) u:=by
 cases u with
 | ref a=>rfl
 | none=>rfl
 | bool b=>rfl
 | int i t=>exact⟨t,rfl⟩
 | str s t=>exact⟨t,rfl⟩
 | bytes b t=>exact⟨t,rfl⟩
 | _=>exact False.elim x
theorem kJ{A:List Addr}:∀ {vs:List Value},(∀ u∈vs,FO A u)->Vals (vs.map toV) vs
 | [],_=>.nil
 | u::r,h=>.cons (GY (h u (O2 ..))) (kJ fun x hx=>h x (OM _ hx))
def md(h:Heap)(A:List Addr)(a:Addr):Prop:=∃ vs:List Value,vs.length<=sizeLine/\(∀ u∈vs,FO A u) /\ (h.get? a=some { cls:=.type "list",data:=.seq vs.toArray }\/h.get? a=some { cls:=.type "tuple",data:=.seq vs.toArray })
theorem md.mono{h:Heap}{A B:List Addr}{a:Addr}(k:∀ a∈A,a∈B)(x:md h A a):md h B a:=by obtain⟨vs,h1,h2,b⟩:=x;exact⟨vs,h1,fun u c=>(h2 u c).mono k,b⟩
theorem jQ{P:Params}{h:Heap}:∀ {vs:List Value} {a:List WData},WellAll P h vs a->vs.length=a.length
 | _,_,.nil=>rfl
 | _,_,.cons _ b=>by show _+1=_+1;rw[jQ b]
theorem yn{P:Params}{h:Heap}{v:Value}{c:List WData}(x:Well P h v (.list c)):∃ (a:Addr) (vs:List Value),v=.ref a/\h.get? a=some { cls:=.type "list",data:=.seq vs.toArray }/\WellAll P h vs c:=by
 cases x with
 | list d b=>exact⟨_,_,rfl,d,b⟩
theorem vC{P:Params}{h:Heap}{v:Value}{c:List WData}(x:Well P h v (.tuple c)):∃ (a:Addr) (vs:List Value),v=.ref a/\h.get? a=some { cls:=.type "tuple",data:=.seq vs.toArray }/\WellAll P h vs c:=by
 cases x with
 | tuple d b=>exact⟨_,_,rfl,d,b⟩
theorem xE{P:Params}{h:Heap}{us:List Value}{d:WData}{c:List WData}(x:WellAll P h us (d::c)):∃ (v:Value) (vs:List Value),us=v::vs/\Well P h v d/\WellAll P h vs c:=by
 cases x with
 | cons a b=>exact⟨_,_,rfl,a,b⟩
theorem EI{n:Nat}(h:n<=1048576):n<=sizeLine:=O9 h (by decide)
section
variable {P:Params}{h:Heap}
mutual
theorem ID:∀ (d:WData) (v:Value),Well P h v d->DV d=true->d.weight<=1048576->∃ A:List Addr,FO A v/\∀ a∈A,md h A a
 | .none,_,x,_,_=>by cases x;exact⟨[],trivial,fun a m=>absurd m (by simp)⟩
 | .bool b,_,x,_,_=>by cases x;exact⟨[],trivial,fun a m=>absurd m (by simp)⟩
 | .int i,_,x,_,_=>by cases x;exact⟨[],trivial,fun a m=>absurd m (by simp)⟩
 | .str s,_,x,_,_=>by cases x;exact⟨[],trivial,fun a m=>absurd m (by simp)⟩
 | .bytes b,_,x,_,_=>by cases x;exact⟨[],trivial,fun a m=>absurd m (by simp)⟩
 | .list ds,_,x,p,z=>by
   obtain⟨a,vs,rfl,ho,hall⟩:=yn x;have z2:WData.weightAll ds<=1048576:=z;obtain⟨A,h1,h2⟩:=pU ds _ hall p fun d hd=>O9 (pJ hd) z2;have k:∀ b∈A,b∈a::A:=fun b hb=>OM _ hb;refine⟨a::A,O2 ..,fun b hb=>?_⟩;rcases OA.mp hb with e | m;.rw[e];exact⟨vs,EI (by rw[jQ hall];exact O9 (S7 ds) z2),fun u hu=>(h1 u hu).mono k,.inl ho⟩
   .exact(h2 b m).mono k
 | .tuple ds,_,x,p,z=>by
   obtain⟨a,vs,rfl,ho,hall⟩:=vC x;have z2:WData.weightAll ds<=1048576:=z;obtain⟨A,h1,h2⟩:=pU ds _ hall p fun d hd=>O9 (pJ hd) z2;have k:∀ b∈A,b∈a::A:=fun b hb=>OM _ hb;refine⟨a::A,O2 ..,fun b hb=>?_⟩;rcases OA.mp hb with e | m;.rw[e];exact⟨vs,EI (by rw[jQ hall];exact O9 (S7 ds) z2),fun u hu=>(h1 u hu).mono k,.inr ho⟩
   .exact(h2 b m).mono k
 | .float _,_,_,p,_=>Bool.noConfusion (show false=true from p)
 | .dict _,_,_,p,_=>Bool.noConfusion (show false=true from p)
 | .bytearray _,_,_,p,_=>Bool.noConfusion (show false=true from p)
 | .set _,_,_,p,_=>Bool.noConfusion (show false=true from p)
 | .frozenset _,_,_,p,_=>Bool.noConfusion (show false=true from p)
 | .obj _ _,_,_,p,_=>Bool.noConfusion (show false=true from p)
theorem pU:∀ (ds:List WData) (vs:List Value),WellAll P h vs ds->tq ds=true->(∀ d∈ds,d.weight<=1048576)->∃ A:List Addr,(∀ u∈vs,FO A u)/\∀ a∈A,md h A a
 | [],_,x,_,_=>by cases x;exact⟨[],fun u m=>absurd m (by simp),fun a m=>absurd m (by simp)⟩
 | d::ds,_,x,p,z=>by
   obtain⟨v,vs,rfl,x1,x2⟩:=xE x;have q:DV d=true/\tq ds=true:=SG.mp p;obtain⟨A,a1,a2⟩:=ID d v x1 q.1 (z d (O2 ..));obtain⟨B,b1,b2⟩:=pU ds vs x2 q.2 fun e he=>z e (OM _ he);have kA:∀ b∈A,b∈A++B:=fun b hb=>OH.mpr (.inl hb);have kB:∀ b∈B,b∈A++B:=fun b hb=>OH.mpr (.inr hb);refine⟨A++B,fun u hu=>?_,fun b hb=>?_⟩
   .rcases OA.mp hu with e | m;.rw[e];exact a1.mono kA
    .exact(b1 u m).mono kB
   .rcases OH.mp hb with m | m;.exact(a2 b m).mono kA
    .exact(b2 b m).mono kB
end
end
def JJ(o:Obj):Option HO:=match o.data with
 | .seq vs _=>if (o.cls==Value.type "list")=true then some (.jP o (.lst (vs.toList.map toV))) else some (.jP o (.tup (vs.toList.map toV)))
 | _=>none
def k9(K:PySem.W.Frag)(h:Heap)(A:List Addr):Hp:=fun b=>if b∈A then(if (K.lookup b).isNone=true then(h.get? b).bind JJ else none) else none
def Eo(H:Hp):Prop:=∀ b,H b=none\/∃ o u,H b=some (.jP o u)
theorem Av(vs:List Value):JJ { cls:=.type "list",data:=.seq vs.toArray }=some (.jP { cls:=.type "list",data:=.seq vs.toArray } (.lst (vs.map toV))):=by show(if (Value.type "list"==Value.type "list")=true then some (HO.jP { cls:=.type "list",data:=.seq vs.toArray } (.lst (vs.toArray.toList.map toV))) else some (HO.jP { cls:=.type "list",data:=.seq vs.toArray } (.tup (vs.toArray.toList.map toV))))=_;rw[Oy (beq_self_eq_true _)]
theorem Ca(vs:List Value):JJ { cls:=.type "tuple",data:=.seq vs.toArray }=some (.jP { cls:=.type "tuple",data:=.seq vs.toArray } (.tup (vs.map toV))):=by show(if (Value.type "tuple"==Value.type "list")=true then some (HO.jP { cls:=.type "tuple",data:=.seq vs.toArray } (.lst (vs.toArray.toList.map toV))) else some (HO.jP { cls:=.type "tuple",data:=.seq vs.toArray } (.tup (vs.toArray.toList.map toV))))=_;rw[Ox (by decide)]
section
variable {P:Program}{w:World}{K:PySem.W.Frag}{h:Heap}{A:List Addr}
theorem ua{b:Addr}{o:Obj}(a:b∈A)(c:K.lookup b=none)(e:h.get? b=some o):k9 K h A b=JJ o:=by unfold k9;rw[Oy a,c,Oy (show(none:Option Obj).isNone=true from rfl),e]<;>rfl
theorem JC{b:Addr}{u:HO}(q:k9 K h A b=some u):b∈A/\K.lookup b=none:=by
 unfold k9 at q;by_cases a:b∈A
 .rw[Oy a]at q;cases c:K.lookup b with
  | none=>exact⟨a,rfl⟩
  | some o=>rw[c,Ox (by simp)]at q;cases q
 .rw[Ox a]at q;cases q
theorem ue(f:∀ a∈A,md h A a){b:Addr}{u:HO}(q:k9 K h A b=some u):K.lookup b=none/\∃ vs:List Value,vs.length<=sizeLine/\(∀ u∈vs,FO A u) /\
 ((h.get? b=some { cls:=.type "list",data:=.seq vs.toArray }/\u=.jP { cls:=.type "list",data:=.seq vs.toArray } (.lst (vs.map toV))) \/ (h.get? b=some { cls:=.type "tuple",data:=.seq vs.toArray }/\u=.jP { cls:=.type "tuple",data:=.seq vs.toArray } (.tup (vs.map toV)))):=by
 obtain⟨c,d⟩:=JC q;obtain⟨vs,h1,h2,g⟩:=f b c;refine⟨d,vs,h1,h2,?_⟩;rcases g with e | e;.rw[ua c d e,Av]at q;exact .inl ⟨e,(OQ q).symm⟩
 .rw[ua c d e,Ca]at q;exact .inr ⟨e,(OQ q).symm⟩
theorem FV(c:∀ a∈A,md h A a):Eo (k9 K h A):=fun b=>by
 cases q:k9 K h A b with
 | none=>exact .inl rfl
 | some u=>
   obtain⟨_,vs,_,_,⟨_,e⟩ | ⟨_,e⟩⟩:=ue c q;.exact .inr ⟨_,_,by rw[e]⟩
   .exact .inr ⟨_,_,by rw[e]⟩
theorem Jg(c:∀ a∈A,md h A a):k8 P w (k9 K h A) h:=fun b u q=>by
 obtain⟨_,vs,h1,h2,⟨e,rfl⟩ | ⟨e,rfl⟩⟩:=ue c q;.exact⟨e,by rw[O0];exact h1,vs,_,kJ h2,e⟩
 .exact⟨e,by rw[O0];exact h1,vs,kJ h2,_,e,rfl,_,rfl⟩
theorem tZ{c a:Value}{vs us:List Value}(e:(some { cls:=c,data:=.seq vs.toArray }:Option Obj)=some { cls:=a,data:=.seq us.toArray }):c=a/\vs=us:=by have b:=OQ e;have d:c=a:=Pw Obj.cls b;have f:Data.seq vs.toArray=Data.seq us.toArray:=Pw Obj.data b;injection f with g;refine⟨d,?_⟩;have i:=Pw Array.toList g;simpa using i
theorem NC(KX:K.In h)(d:∀ a∈A,md h A a){a:Addr}{vs:List Value}(ha:a∈A)(e:h.get? a=some { cls:=.type "list",data:=.seq vs.toArray }):(∀ u∈vs,FO A u)/\bB K (k9 K h A) a (vs.map toV):=by
 obtain⟨us,h1,h2,f⟩:=d a ha;have g:us=vs:=by
  rcases f with q | q;.rw[e]at q;exact(tZ q).2.symm
  .rw[e]at q;exact absurd (Value.type.inj (tZ q).1) (by decide)
 subst g;refine⟨h2,?_⟩;cases b:K.lookup a with
 | none=>exact .inl (.inr ⟨_,by rw[ua ha b e,Av]⟩)
 | some o=>have c:=KX a o b;rw[e]at c;obtain rfl:=OQ c;exact .inr ⟨_,us.toArray,_,b,rfl,rfl,rfl,by rw[O8];exact h1,by simpa using kJ h2⟩
theorem NV(KX:K.In h)(d:∀ a∈A,md h A a){a:Addr}{vs:List Value}(ha:a∈A)(e:h.get? a=some { cls:=.type "tuple",data:=.seq vs.toArray }):(∀ u∈vs,FO A u)/\iJ K (k9 K h A) a (vs.map toV):=by
 obtain⟨us,h1,h2,f⟩:=d a ha;have g:us=vs:=by
  rcases f with q | q;.rw[e]at q;exact absurd (Value.type.inj (tZ q).1) (by decide)
  .rw[e]at q;exact(tZ q).2.symm
 subst g;refine⟨h2,?_⟩;cases b:K.lookup a with
 | none=>exact .inl (.inr ⟨_,by rw[ua ha b e,Ca]⟩)
 | some o=>have c:=KX a o b;rw[e]at c;obtain rfl:=OQ c;exact .inr ⟨_,us.toArray,_,b,rfl,rfl,by rw[O8];exact h1,by simpa using kJ h2⟩
mutual
theorem Lf{Pm:Params}(KX:K.In h)(ar:∀ a∈A,md h A a):∀ (d:WData) (v:Value),Well Pm h v d->DV d=true->FO A v->Dw K (k9 K h A) (toV v) d
 | .none,_,x,_,_=>by cases x;exact .ba
 | .bool b,_,x,_,_=>by cases x;exact .bl b
 | .int i,_,x,_,_=>by cases x;exact .int i
 | .str s,_,x,_,_=>by cases x;exact .str s
 | .bytes b,_,x,_,_=>by cases x;have z:=Dw.byt (K:=K) (H:=k9 K h A) b.toArray;exact z
 | .list ds,_,x,p,hu=>by obtain⟨a,vs,rfl,ho,hall⟩:=yn x;obtain⟨h2,hs⟩:=NC KX ar hu ho;exact .lst hs (zE KX ar ds _ hall p h2)
 | .tuple ds,_,x,p,hu=>by obtain⟨a,vs,rfl,ho,hall⟩:=vC x;obtain⟨h2,hs⟩:=NV KX ar hu ho;exact .tup hs (zE KX ar ds _ hall p h2)
 | .float _,_,_,p,_=>Bool.noConfusion (show false=true from p)
 | .dict _,_,_,p,_=>Bool.noConfusion (show false=true from p)
 | .bytearray _,_,_,p,_=>Bool.noConfusion (show false=true from p)
 | .set _,_,_,p,_=>Bool.noConfusion (show false=true from p)
 | .frozenset _,_,_,p,_=>Bool.noConfusion (show false=true from p)
 | .obj _ _,_,_,p,_=>Bool.noConfusion (show false=true from p)
theorem zE{Pm:Params}(KX:K.In h)(ar:∀ a∈A,md h A a):∀ (ds:List WData) (vs:List Value),WellAll Pm h vs ds->tq ds=true->(∀ u∈vs,FO A u)->nO K (k9 K h A) (vs.map toV) ds
 | [],_,x,_,_=>by cases x;exact .nil
 | d::ds,_,x,p,hu=>by obtain⟨v,vs,rfl,x1,x2⟩:=xE x;have q:DV d=true/\tq ds=true:=SG.mp p;exact .cons (Lf KX ar d v x1 q.1 (hu _ (O2 ..))) (zE KX ar ds vs x2 q.2 fun u m=>hu u (OM _ m))
end
end
theorem FE{P:Program}{w:World}{K:PySem.W.Frag}{mg mb:Str->Option Value}{CX:Gp}{k:Nat}{fa:Addr}{fd:FuncData}{ps:List Str}{sp:Sp}{a:Shared}{c:List Value}{j:List WData}{R:PySem.W.WRecords}{cl:Str->Option Addr}{d0:WData}
 (KX:K.In a.heap) (L:a.heap.Ns mainGlobals mg) (U:a.heap.Ns builtinsNs mb) (X:∀ x:Str,x≠"__name__"->mb x=bootBuiltins x) (J:a.heap.NoLimit) (hg:a.gens=#[])
 (t:WellAll w.params a.heap c j) (M:tq j=true) (a0:∀ d∈j,d.weight<=1048576) (hr:dO k callerA)
 (F:∀ base:Heap,K.In base->base.Ns mainGlobals mg->jD P w K mg base CX k fa fd ps sp) (l:∀ (s:Shared) (us:List Value),us.length=ps.length->BindsTo s fd ⟨us,[]⟩ (ps.zip us)) (I:j.length=ps.length)
 (Z:∀ (H:Hp) (xs:List V),Eo H->nO K H xs j->sp xs H (fun v H'=>Dw K H' v d0) fun _ _ _=>False)
 (T:∀ H e s',CX [] H a (fun _ _ _=>False) e s'->False):
 codeAny (model P w) callerA (.call (.ref fa) ⟨c,[]⟩) (fun r s'=>∃ u as,r=.ok (.ret u)/\ReadsW R cl s'.heap u d0 as/\OldK a.heap s'.heap/\s'.os=a.os/\AllBare s'.gens) a:=by
 obtain⟨A,ho,C⟩:=pU j c t M a0;have hO:Eo (k9 K a.heap A):=FV C;have p:k8 P w (k9 K a.heap A) a.heap:=Jg C;have hS:=zE KX C j c t M ho;have hV:=kJ ho;have hK:∀ b u,k9 K a.heap A b=some u->K.lookup b=none:=fun b u q=>(ue C q).1;have N:∀ {b:Addr} {o:Obj} {B:Array DictEntry} {y:Nat},a.heap.get? b=some o->o.data=.dict B y->k9 K a.heap A b=none:=fun {b o B y} e d=>by
  cases q:k9 K a.heap A b with
  | none=>rfl
  | some u=>
    obtain⟨_,vs,_,_,⟨E,_⟩ | ⟨E,_⟩⟩:=ue C q;.rw[E]at e;cases e;have Q:Data.seq vs.toArray _=Data.dict B y:=d;cases Q
    .rw[E]at e;cases e;have Q:Data.seq vs.toArray _=Data.dict B y:=d;cases Q
 generalize k9 K a.heap A=H at hO p hS hK N;have f:∀ {b:Addr} {o:Obj},a.heap.get? b=some o->H b=none->(zS a.heap H).get? b=some o:=fun e n=>G4 e n;have g:∀ {b:Addr} {m:Str->Option Value},a.heap.Ns b m->(zS a.heap H).Ns b m:=fun {b m} ⟨o,B,y,e,d,r⟩=>⟨o,B,y,f e (N e d),d,r⟩
 have nK:∀ b o,K.lookup b=some o->H b=none:=fun b o e=>by
  cases q:H b with
  | none=>rfl
  | some u=>rw[hK b u q]at e;cases e
 have G:K.In (zS a.heap H):=fun b o e=>f (KX b o e) (nK b o e);have hM:Mod K mg (zS a.heap H):=⟨G,g L,⟨mb,g U,X⟩,let ⟨mc,h1,h2⟩:=J;⟨mc,g h1,h2⟩⟩
 have e0:wV P w K mg (zS a.heap H) callerA [] a H:=⟨rfl,hM,fun b o e=>JF e,Sw (F6 _ _),trivial,fun b U=>absurd (show b∈([]:List Addr) from U) (by simp),p,.of_eq hg⟩
 have hl:c.length=ps.length:=by rw[jQ t];exact I
 refine RC ((F _ G (g L)).run callerA [] a H ⟨c,[]⟩ c (c.map toV) _ _ hr e0 (l a c hl) hV (Z H _ hO hS)) fun r s' x=>?_;cases r with
 | error e=>exact(T H e s' x).elim
 | ok fl=>
   cases fl with
   | next=>exact False.elim x
   | brk=>exact False.elim x
   | cont=>exact False.elim x
   | ret u=>
     obtain⟨v,H',os,D,un,h,r',q⟩:=x;have i:∀ b o,a.heap.get? b=some o->s'.heap.get? b=some o:=fun b o e=>by
      cases q2:H b with
      | none=>exact un.keep b o e q2 (by intro z;exact absurd (show b∈([]:List Addr) from z) (by simp)) (by simp)
      | some u2=>
        rcases hO b with z | ⟨ob,u3,z⟩;.rw[q2]at z;cases z
        .have z2:=un.px b ob _ z;obtain⟨e1,_⟩:=p b _ z;obtain⟨E,_⟩:=h b _ z2;rw[e]at e1;cases e1;exact E
     have O:K.In s'.heap:=fun b o e=>i b o (KX b o e);obtain⟨as,Y⟩:=Dw.reads (R:=R) (cl:=cl) h O d0 v u q r';exact⟨u,as,rfl,Y,OldK.of_keep i,os,D⟩
theorem u7{a:List WData}(h:WData.layableAll a=true):∀ d∈a,d.weight<=1048576:=fun d hd=>(PySem.W.layableW_iff.mp (PK.mp h d hd)).2.2
theorem vt:∀ (b:List Codec) (a:Codec.denoteAll b),(Codec.encAll b a).length=b.length
 | [],_=>rfl
 | c::b,a=>by show(Codec.encAll b a.2).length+1=b.length+1;rw[vt b a.2]
theorem Gu{r:OpenSpec}{k:Nat}{q:Program}{loose:List Str}{XP:(Str->Option Value)->Heap->Prop}{YP:World->Heap->Prop}{d:DefRec}{K:Params->PySem.W.Frag}{CX:World->Gp}{ps:List Str}{sp:World->Sp}
 (c:r.wellSaid=true) (X:d.params.defaults=[]) (j:r.args.length=ps.length) (hr:dO k callerA)
 (P:∀ (w:World) (h:Heap),YP w h->(K w.params).In h)
 (F:∀ (w:World) (mg:Str->Option Value) (fa:Addr) (h:Heap),YP w h->(K w.params).In h->h.Ns mainGlobals mg->mg d.name=some (.ref fa) -> ∃ p:FuncData,(∀ (s:Shared) (us:List Value),us.length=ps.length->BindsTo s p ⟨us,[]⟩ (ps.zip us)) /\ ∀ base:Heap,(K w.params).In base->base.Ns mainGlobals mg->jD r.prog w (K w.params) mg base (CX w) k fa p ps (sp w))
 (x:∀ (w:World) (H:Hp) (xs:List V) (a:Codec.denoteAll r.args),Eo H->Codec.withinAll r.args a=true->Codec.app r.args r.asked a=true->nO (K w.params) H xs (Codec.encAll r.args a) -> sp w xs H (fun v C=>Dw (K w.params) C v (r.ret.enc (Codec.app r.args r.f a))) fun _ _ _=>False)
 (t:∀ (w:World) (H:Hp) (s:Shared) (e:Value) (s':Shared),CX w [] H s (fun _ _ _=>False) e s'->False):
 PySem.W.WalkOS q loose XP YP r d [] (fun f vs=>PySem.call f vs):=by
 intro w A m mg mb G Y fa o pm cd D dV kV ho hd U hD hmg Z args B as l i a3 y a0;obtain⟨a,E,I⟩:=PySem.W.os_pre_some l;obtain⟨J,hwi⟩:=Codec.encAll_of_decAll r.args args a E;subst J;have KX:=P w _ Y;obtain⟨p,Q,N⟩:=F w mg fa _ Y KX G.T.g hmg;refine PySem.W.enter_call (RC (FE (R:=[]) (cl:=classAt A.heap) (d0:=r.ret.enc (Codec.app r.args r.f a)) KX G.T.g G.T.b G.T.builtins G.T.nolimit Z y (yh _ _) (u7 i) hr N Q (by rw[vt];exact j) (fun H xs hO O=>x w H xs a hO hwi I O) fun H e s'=>t w H m e s') fun r' s' hq=>?_);obtain⟨u,n,rfl,h1,h2,L,M⟩:=hq;exact⟨.inl ⟨u,_,n,rfl,fun _=>rfl,h1,(OpenSpec.post_iff c hwi _ _).mpr rfl,fun z=>Bool.noConfusion (show false=true from z)⟩,h2,L,M⟩
end L2
end
namespace Ps
open PySem PySem.Spec PyProof.Rows L2
def Eu(v:Option (Option Value)):Addr:=match v with
 | some (some (.ref a))=>a
 | _=>0
def tokOf(v:Option (Option Value)):Tok:=match v with
 | some (some (.int _ k))=>k
 | some (some (.str _ k))=>k
 | _=>0
def IC:List Nat->Option (List Nat×List Nat)
 | []=>none
 | c::r=>if c==46 then some ([],r) else match IC r with
   | some (a,b)=>some (c::a,b)
   | none=>none
def Oe(K:PySem.W.Frag)(s:String):Addr:=match IC (Str.ofString s).cps.toList with
 | some (c,m)=>Eu (PySem.W.findIn K (.ref (Eu (PySem.W.nsIn K mainGlobals ⟨c.toArray⟩))) ⟨m.toArray⟩)
 | none=>Eu (PySem.W.nsIn K mainGlobals (Str.ofString s))
def fnAt(K:PySem.W.Frag)(a:Addr):Option FuncData:=match K.lookup a with
 | some ⟨_,_,.func fd,_⟩=>some fd
 | _=>none
def zr(K:PySem.W.Frag):bZ where
 f:=Oe K
 d:=fun s=>(fnAt K (Oe K s)).getD default
 c:=fun s=>Eu (PySem.W.nsIn K mainGlobals (Str.ofString s))
 k:=fun s=>tokOf (PySem.W.nsIn K mainGlobals (Str.ofString s))
def JB(x b:Str)(c:Stmt)(a:FuncData):FuncData:=PySem.W.fnOf x b (oa c) (gR c) (bf c) .none a.kwdefaults a.doc a.pyModule a.annotations a.code a.closureTuple
theorem Ha{K:PySem.W.Frag}{x a:Str}{c:Stmt}{f:Addr}{b:FuncData}(h:(fnAt K f,b,PySem.W.codeIn K b.code a,PySem.W.keepIn K (.ref f))=(some b,JB x a c b,true,true)):Jd K x a c f b:=by
 obtain⟨h1,h2,e,g⟩:_/\_/\_/\_:=by simpa only[OG]using h
 unfold fnAt at h1;split at h1;.rename_i i j d k q;cases h1;exact⟨⟨i,j,_,_,_,_,_,_,k,h2,q,e⟩,g⟩
 .cases h1
theorem G9{K:PySem.W.Frag}{t:bZ}{x q:String}{a:Stmt}{N ps:List Str}(h:(fnAt K (t.f q),t.d q,PySem.W.codeIn K (t.d q).code q,PySem.W.keepIn K (.ref (t.f q)))=(some (t.d q),JB x q a (t.d q),true,true)) (i:∀ (kV c j:Value) (e:Option Addr) (b g:Value) (us:List Value),us.length=ps.length->bindArgs (PySem.W.fnOf x q (oa a) (gR a) (bf a) .none kV c j e b g) ⟨us,[]⟩=pure (ps.zip us)) (hs:jk N ps (bf a)):FF K t x q a N ps:=⟨Ha h,(Ha h).binds i,hs⟩
theorem Nc{K:PySem.W.Frag}{h:Heap}{mg:Str->Option Value}{t:bZ}{x:String}{a:Stmt}{N ps:List Str}(KX:K.In h)(G:h.Ns mainGlobals mg)(j:PySem.W.nsIn K mainGlobals x=some (some (.ref (t.f x))))(h:(fnAt K (t.f x),t.d x,PySem.W.codeIn K (t.d x).code x,PySem.W.keepIn K (.ref (t.f x)))=(some (t.d x),JB x x a (t.d x),true,true)) (i:∀ (kV c k:Value) (e:Option Addr) (b g:Value) (us:List Value),us.length=ps.length->bindArgs (PySem.W.fnOf x x (oa a) (gR a) (bf a) .none kV c k e b g) ⟨us,[]⟩=pure (ps.zip us)) (hs:jk N ps (bf a)):FP K mg t x a N ps:=⟨G9 h i hs,PySem.W.mg_of KX G j⟩
theorem Mv{K:PySem.W.Frag}{C:Addr}{f:Str}(h:PySem.W.findIn K (.ref C) f=some none):da K C f:=h
theorem LZ{K:PySem.W.Frag}{C:Addr}(h:(PySem.W.plainGet K C Str.empty,PySem.W.hasDictIn K C,PySem.W.plainOver K C,PySem.W.findIn K (.ref C) "__setattr__")=(true,true,true,some (some (.builtin "object.__setattr__")))):xn K C:=by
 obtain⟨h1,h2,a,b⟩:_/\_/\_/\_:=by simpa only[OG]using h
 exact⟨h1,h2,a,b⟩
theorem MW{K:PySem.W.Frag}{C f:Addr}(h:(PySem.W.makesIn K C,PySem.W.findIn K (.ref C) "__init__",PySem.W.isFn K (.ref f),PySem.W.keepIn K (.ref C))=(true,some (some (.ref f)),true,true)):Mk K C f:=by
 obtain⟨h1,h2,a,b⟩:_/\_/\_/\_:=by simpa only[OG]using h
 exact⟨h1,h2,a,b⟩
theorem EG{K:PySem.W.Frag}{C f:Addr}{m:Str}(h:(PySem.W.findIn K (.ref C) m,PySem.W.isFn K (.ref f),PySem.W.keepIn K (.ref f))=(some (some (.ref f)),true,true)):Meth K C m f:=by
 obtain⟨h1,h2,a⟩:_/\_/\_:=by simpa only[OG]using h
 exact⟨h1,h2,a⟩
theorem Nk{K:PySem.W.Frag}{t:bZ}{c x q:String}{a:Stmt}{N ps:List Str}(k:(PySem.W.findIn K (.ref (t.c c)) x,PySem.W.isFn K (.ref (t.f q)),PySem.W.keepIn K (.ref (t.f q)))=(some (some (.ref (t.f q))),true,true))(h:(fnAt K (t.f q),t.d q,PySem.W.codeIn K (t.d q).code q,PySem.W.keepIn K (.ref (t.f q)))=(some (t.d q),JB x q a (t.d q),true,true)) (j:∀ (kV e l:Value) (g:Option Addr) (b i:Value) (us:List Value),us.length=ps.length->bindArgs (PySem.W.fnOf x q (oa a) (gR a) (bf a) .none kV e l g b i) ⟨us,[]⟩=pure (ps.zip us)) (hs:jk N ps (bf a)):FM K t c x q a N ps:=⟨G9 h j hs,EG k⟩
def Jl(v:Value):Option Key:=match v with
 | .int i _=>some (.inl i)
 | .str x _=>some (.inr x)
 | _=>none
def FA(v:Value):Option V:=match v with
 | .int i _=>some (.int i)
 | _=>none
theorem Em(h:Jl v=some k):oJ k v=true:=by
 unfold Jl at h;split at h;.cases h;simp[oJ,Value.isInt]
 .cases h;simp[oJ,Value.isStrOf]
 .cases h
theorem EL(h:FA v=some x):RelV x v:=by
 unfold FA at h;split at h;.cases h;exact⟨_,rfl⟩
 .cases h
def dictAt(K:PySem.W.Frag)(a:Addr):Option (List DictEntry):=match K.lookup a with
 | some ⟨.type "dict",none,.dict es _,⟨[]⟩⟩=>some es.toList
 | _=>none
theorem p8(P:Program)(w:World):∀ (g:List DictEntry) (f:List (Key×V)),g.map (fun e=>(e.hash,Jl e.key,FA e.val))=f.map (fun p=>(LP w p.1,some p.1,some p.2)) ->
 ∃ vs,KV f vs/\Pairs (cI P w) g vs/\(∀ e∈g,∃ k,(cI P w).is k e.key=true/\e.hash=(cI P w).hash k)/\vs.map (·.1)=f.map (·.1)
 | [],[],_=>⟨[],.nil,.nil,fun e h=>by simp at h,rfl⟩
 | [],_::_,h=>by simp at h
 | _::_,[],h=>by simp at h
 | e::g,p::f,h=>by
   simp only[OP,OT,OG]at h;obtain⟨⟨h1,h2,i⟩,j⟩:=h;obtain⟨vs,a,b,c,d⟩:=p8 P w g f j;refine⟨(p.1,e.val)::vs,.cons ⟨rfl,EL i⟩ a,.cons (Em h2) rfl b,fun x hx=>?_,by simp[d]⟩;rcases OA.mp hx with rfl | hx;.exact⟨p.1,Em h2,h1⟩
   .exact c x hx
theorem GO{w:World}{K:PySem.W.Frag}{a:Addr}{b:List (Key×V)}(hn:(b.map (·.1)).Nodup)
 (h:((a==sysModules),dictAt K a,((dictAt K a).getD []).map (fun e=>(e.hash,Jl e.key,FA e.val)))=(false,some ((dictAt K a).getD []),b.map (fun p=>(LP w p.1,some p.1,some p.2)))):vy w K a b:=by
 obtain⟨h1,h2,d⟩:_/\_/\_:=by simpa only[OG]using h
 refine⟨h1,fun P m X=>?_⟩;generalize (dictAt K a).getD []=f at h2 d;obtain⟨vs,i,j,k,l⟩:=p8 P w f b d;unfold dictAt at h2;split at h2;.rename_i c n q;cases h2;exact⟨vs,i,_,c,n,X _ _ q,⟨rfl,rfl,rfl⟩,rfl,fun e g=>k e (by simpa using g),j,by rw[l];exact hn⟩
 .cases h2
def BK(K:PySem.W.Frag)(a:Addr):Option (List Value):=match K.lookup a with
 | some ⟨.type "tuple",_,.seq b _,_⟩=>some b.toList
 | _=>none
theorem Es:∀ (us:List Value) (xs:List V),us.map FA=xs.map some->Vals xs us
 | [],[],_=>.nil
 | [],_::_,h=>by simp at h
 | _::_,[],h=>by simp at h
 | u::us,x::xs,h=>by simp only[OP,OT]at h;exact .cons (EL h.1) (Es us xs h.2)
theorem Jq{K:PySem.W.Frag}{a:Addr}{xs:List V}(hx:xs.length<=1000)(h:(BK K a,((BK K a).getD []).map FA)=(some ((BK K a).getD []),xs.map some)):JG K a xs:=by
 obtain⟨h1,h2⟩:_/\_:=by simpa only[OG]using h
 generalize (BK K a).getD []=us at h1 h2;have c:=Es us xs h2;unfold BK at h1;split at h1;.rename_i d b n f q;cases h1;refine⟨_,b,n,q,rfl,rfl,?_,c⟩;have:=c.length;simp only[Q1]at this;have e:sizeLine=sizeLine:=rfl;unfold sizeLine;omega
 .cases h1
theorem Lk{w:World}{K:PySem.W.Frag}{mg:Str->Option Value}{h:Heap}(_:K.In h)(_:h.Ns mainGlobals mg)(base:EN mg)(q:Ol w K (zr K))(k:BA K mg (zr K))(d:oM K mg (zr K))(f:sE K mg (zr K))(n:B6 K mg (zr K))(e:oV K mg (zr K))(p:DO K mg (zr K))(j:xV K mg (zr K))(o:DZ K mg (zr K))(m:AX K mg (zr K))(c:m4 K mg (zr K))(a:ma K mg (zr K))(b:mB K mg (zr K))(l:AS K mg (zr K))(g:uI K mg (zr K))(i:uN K mg (zr K))(store:Af K mg (zr K)):Txt w K mg (zr K):=⟨base,q,k,d,f,n,e,p,j,o,m,c,a,b,l,g,i,store⟩
theorem MR{l:List Addr}(h:decide l.Nodup=true):l.Nodup:=P9 h
end Ps
open PySem PySem.W PyProof.Rows
namespace Ps
open L2
theorem Gr{w:World}{K:PySem.W.Frag}{mg:Str->Option Value}{t:bZ}(T:Txt w K mg t):∀ (s:Shared) (us:List Value),us.length=(["calls"]:List Str).length->BindsTo s (t.d "answers") ⟨us,[]⟩ ((["calls"]:List Str).zip us):=by obtain⟨j,k,kV,b,l,h,a,i,g,e,lk,c⟩:=T.store.cM.F.ex;rw[e];exact fun s us f=>match us,f with | [_],_=>.of_eq rfl
theorem Ln{K:PySem.W.Frag}{H:Hp}{l:Addr}{a:Codec.denoteAll PySem.Challenge.rw_plainsettings_s01_answers.args}(hwi:Codec.withinAll PySem.Challenge.rw_plainsettings_s01_answers.args a=true)
 (hask:Codec.app PySem.Challenge.rw_plainsettings_s01_answers.args PySem.Challenge.rw_plainsettings_s01_answers.asked a=true) (hs:bB K H l (a.1.map V.int)):
 pD K [.ref l] H (fun v b=>Dw K b v (PySem.Challenge.rw_plainsettings_s01_answers.ret.enc (Codec.app PySem.Challenge.rw_plainsettings_s01_answers.args PySem.Challenge.rw_plainsettings_s01_answers.f a))) fun _ _ _=>False:=by
 have q:((Codec.inLen 0 30000 a.1&&a.1.all (Codec.inInt 0 4294967295))&&true)=true:=hwi;rw[O4,O4]at q;exact⟨_,a.1,rfl,hs,(Codec.inNat_iff.mp q.1.1).2,hask,fun q b c=>.lst (bB.of c) (D9 _)⟩
set_option maxRecDepth 100000 in
set_option maxHeartbeats 0 in
theorem Km{q:Program}{loose:List Str}{XP:(Str->Option Value)->Heap->Prop}{K:Params->PySem.W.Frag}{as:List Addr}{e:∀ P,as=(K P).map (·.1)}{d:DefRec}(hd:d.params.defaults=[])(hn:d.name="answers")
 (F:∀ (w:World) (mg:Str->Option Value) (h:Heap),(K w.params).In h->h.Ns mainGlobals mg->Txt w (K w.params) mg (zr (K w.params))):
 PySem.W.WalkOS q loose XP (PySem.W.kHook K as e).says PySem.Challenge.rw_plainsettings_s01_answers d [] (fun f vs=>PySem.call f vs):=by
 refine L2.Gu (r:=PySem.Challenge.rw_plainsettings_s01_answers) (k:=19) (K:=K) (CX:=fun w=>L2.AK PySem.Challenge.rw_plainsettings_s01_answers.prog w (K w.params)) (ps:=["calls"]) (sp:=fun w=>pD (K w.params)) said hd rfl ⟨rfl,by decide,by decide⟩ (fun w h Y=>PySem.W.kIn_of Y) ?F ?S ?C
 case F=>intro w mg fa h Y KX G hmg;have T:=F w mg h KX G;rw[hn]at hmg;have e:=hmg.symm.trans T.store.cM.m;cases e;exact⟨_,Gr T,fun base _ _=>Dn T⟩
 case S=>
  intro w H xs a hO hwi hask hx;cases hx with
  | cons h1 h2=>
    cases h2;cases h1 with
    | lst hs ha=>have e:=L2.El a.1 _ ha;subst e;exact Ln hwi hask hs
 case C=>rintro w H s e s' ⟨_,_,_,_,_,_,_,_,_,_,_,_,_,_,_,_,_,_,z⟩;exact z
end Ps
local macro_rules | `(tactic| refine $f:ident (q := $_) (loose := $_) (Xt := $_) (XP := $_) (Yf := $yf) (Ya := $ya) (YP := $yp) (N := $n) $hl $a1 $a2 $a3 $a4 $b1 $b2 $b3 $a5 $sh $_ $_ $c3 $hw $hc) => `(tactic| refine $f (loose := Ps.qloose) (q := Ps.qv) (Xt := fun s => xlAt Ps.qv [] s && recOk [] s) (XP := XL Ps.qv []) (Yf := $yf) (Ya := $ya) (YP := $yp) (N := $n) $hl $a1 $a2 $a3 $a4 $b1 $b2 $b3 $a5 $sh Ps.said Ps.opens $c3 $hw $hc)
local macro_rules | `(tactic| walk_at "sc") => `(tactic| exact ⟨rfl,rfl,rfl,by decide +kernel,rfl,by decide +kernel,by decide +kernel⟩)
local macro_rules | `(tactic| walk_at "bb") => `(tactic| first | (exact fun _ _ _ _ _ _ us hl => match us,hl with | [_],_ => rfl) | (exact fun _ _ _ _ _ _ us hl => match us,hl with | [_,_],_ => rfl) | (exact fun _ _ _ _ _ _ us hl => match us,hl with | [_,_,_],_ => rfl) | (exact fun _ _ _ _ _ _ us hl => match us,hl with | [],_ => rfl) | (exact fun _ _ _ _ _ _ us hl => match us,hl with | [_,_,_,_],_ => rfl) | (exact fun _ _ _ _ _ _ us hl => match us,hl with | [_,_,_,_,_],_ => rfl) | (exact fun _ _ _ _ _ _ us hl => match us,hl with | [_,_,_,_,_,_],_ => rfl))
local macro_rules | `(tactic| walk_at "kr") => `(tactic| (with_reducible (first | refine Ps.Nc (by assumption) (by assumption) ?_ ?_ ?_ ?_ | refine Ps.Nk ?_ ?_ ?_ ?_ | refine Ps.G9 ?_ ?_ ?_ | refine PySem.W.mg_of (by assumption) (by assumption) ?_ | refine PySem.W.mg_none_of (by assumption) (by assumption) ?_ | refine Ps.Mv ?_ | refine Ps.EG ?_ | refine Ps.LZ ?_ | refine Ps.MW ?_ | refine Ps.GO (by decide) ?_ | refine Ps.Jq (by decide) ?_ | refine Ps.MR ?_ | skip)) <;> first | walk_at "sc" | walk_at "bb" | kernel_rfl)
set_option maxRecDepth 100000 in
set_option maxHeartbeats 0 in
theorem PySem.Challenge.cw_plainsettings_s01_answers_holds : PySem.Challenge.rw_plainsettings_s01_answers.Holds := by
 w_on;k_headS;(case hw=>exact⟨[.list [.int 0,.int 0]],by decide +kernel,by decide +kernel⟩)
 refine Ps.Km rfl rfl fun w mg h KX G=>?_;refine Ps.Lk (w:=w) KX G ?_ ?_ ?_ ?_ ?_ ?_ ?_ ?_ ?_ ?_ ?_ ?_ ?_ ?_ ?_ ?_ ?_ ?_<;>constructor<;>walk_at "kr"
