import PyProof.Rows.All
import Wide.All
import OpenK.AllK
import Wide.FinOn
import Open.SpecLaws
import KE.OsHead
import KE.OsGo
import Open.Tops
import OpenK.KOwn
import PyProof.EnumIter
import PySem.Challenge.RW_reelcutdesk_s01_answers
set_option Elab.async false
set_option linter.all false
set_option maxRecDepth 100000
set_option maxHeartbeats 0
noncomputable section
theorem aJ {p:Prop} (h:p:=by decide):p:=h
theorem af {p:Prop} (h:p:=by omega):p:=h
theorem O {α:Sort u} {a:α}:a=a:=rfl
def bQ:=@List.length_drop
def gL:=@PySem.wpAny_holding
def rJ:=@Bool.and_false
def hn:=@PySem.wpAny_call
def u_:=@PySem.codeAny_call_builtin
def vE:=@List.contains_cons
def tz:=@Bool.or_true
def df:=@PySem.wpAny_mono
def e2:=@PySem.wpAny_loadPart_at
def l6:=@PySem.wpAny_isSubtype_exc
def yM:=@PySem.Heap.get?_update_ne
def g4:=@List.drop_append_of_le_length
def vZ:=@PySem.Heap.get?_push_at
def wx:=@PySem.wpAny_nsSet1
def rF:=@PySem.Within.cons
def vb:=@PySem.wpAny_lookBehind
def rQ:=@PySem.pastItsLine_dict
def bB:=@Nat.le_trans
def qt:=@PySem.sizeLine_eq
def oZ:=@PySem.wpAny_execs_cons
def si:=@PySem.plainObj_wpAny_Assign_Attribute
def kO:=@PySem.wpAny_Name
def k9:=@List.getElem?_append_left
def lW:=@PySem.wpAny_loadName_local
def iM:=@PySem.wpAny_execs_nil
def eY:=@Nat.le_of_lt
def xm:=@PySem.codeAny_call_builtin_code
def rC:=@PySem.Code.quiet_builtin
def Ac:=@PySem.wpAny_check_new_sub
def zy:=@PySem.codeAny_exc_new_sub
def kP:=@Nat.le_succ
def oR:=@PySem.Heap.get?_none_of_le
def x5:=@PySem.codeAny_call_builtin_at
def aP:=@List.length_append
def zq:=@PySem.wpAny_check_type_call_sub
def m5:=@PySem.W.callWith_K
def vi:=@PySem.W.callWith_K0
def wX:=@PySem.W.cellsFrom_some
def As:=@PySem.W.codeRec_of
def u0:=@PySem.W.findObj_own
def hr:=@Nat.lt_irrefl
def pM:=@List.filterMap_cons
def dw:=@List.mem_cons_of_mem
def ft:=@List.mem_append_left
def gx:=@List.take_append_of_le_length
def nR:=@List.getElem?_set_self
def qi:=@List.getElem?_set_ne
def yg:=@PySem.wpAny_loadName_cell
def u4:=@PyProof.Rows.Constant_none
def w9:=@PySem.Calls.Name_function_global
def xw:=@PySem.wpAny_isTrue_Compare1
def oF:=@PySem.wpAny_truthy_bool
def Bi:=@Array.length_toList
def da:=@congrArg
def tH:=@PySem.wpAny_assign_Name
def cR:=@decide_eq_true
def gT:=@PySem.wpAny_standAt
def k_:=@PySem.wpAny_passesOwn
def dF:=@Bool.false_ne_true
def uF:=@PyProof.Rows.callWith_type1
def fz:=@List.mem_append_right
def rk:=@PyProof.Rows.two_pow_cast
def lC:=@Int.natCast_nonneg
def Bt:=@Int.fdiv_eq_ediv_of_nonneg
def gZ:=@List.map_cons
def fD:=@PySem.Heap.size_push
def uA:=@List.find?_eq_some_iff_append
def rZ:=@Nat.lt_succ_self
def Bu:=@Nat.le_of_ble_eq_true
def k4:=@PySem.codeAny_mono
def g6:=@PySem.wpAny_Call_Name_kw
def tM:=@List.of_mem_zip
def fh:=@PySem.mem_of_lookup
def vn:=@List.getElem?_replicate
def pZ:=@List.length_replicate
def ep:=@Int.toNat_natCast
def ts:=@PySem.seqIndex_of
def qF:=@List.mem_range
def v9:=@PySem.seqIndex_neg
def dq:=@List.size_toArray
def B2:=@PyProof.Rows.subscriptTail_builtinR
def qP:=@List.map_nil
def oK:=@List.any_map
def q4:=@Int.natCast_mul
def td:=@Int.eq_ofNat_of_zero_le
def sv:=@PySem.arm_exec_Raise
def BW:=@PySem.F.excBase_Exception
def fG:=@Nat.lt_of_le_of_lt
def zZ:=@List.Pairwise.filter
def md:=@List.mem_singleton
def q0:=@PySem.wpAny_Try_except
def oL:=@PySem.wpAny_handleBy_cons
def oi:=@PySem.codeAny_handlers_test
def qv:=@PySem.wpAny_excMatches_sub_self
def Cu:=@PySem.codeAny_handlers_suite_as
def rA:=@PySem.PassesOwn.looking
def yl:=@PySem.codeAny_handlers_suite
def lJ:=@List.lookup_cons
def zH:=@List.pairwise_lt_range
def qz:=@PySem.pushCells_keeps
def pE:=@Nat.le_of_succ_le
def qy:=@Nat.lt_succ_of_lt
def ed:=@List.mem_cons
def qT:=@PySem.wpAny_throw
def Au:=@PySem.exec_Assign_Name_used
def i_:=@PySem.W.mg_of
def fE:=@PySem.PassesOwn.never
def gM:=@List.take_length
def vD:=@Int.natCast_pow
def cF:=@List.length_take
def tI:=@Int.pow_mul
def j5:=@PySem.PassesOwn.leaving
def fe:=@PySem.F.plainAttrs_list
def hY:=@PySem.F.slot_list_append
def hZ:=@PySem.F.type_list_append
def cj:=@List.map_append
def ui:=@List.map_drop
def u5:=@List.map_take
def r7:=@PyProof.Rows.boot_any
def vp:=@List.replicate_succ'
def pO:=@Option.map_some
def rz:=@Bool.not_eq_true'
def ij:=@List.not_mem_nil
def iX:=@or_false
def zC:=@Nat.gcd_pos_of_pos_left
def vQ:=@List.isEmpty_iff
def oH:=@Bool.eq_false_iff
def oO:=@decide_eq_decide
def qU:=@List.getLast?_map
def qZ:=@List.getLast?_eq_none_iff
def mc:=@List.mem_of_getLast?
def fZ:=@Bool.true_and
def Cq:=@List.length_pos_of_mem
def AZ:=@beq_eq_false_iff_ne
def AH:=@Option.isNone_iff_eq_none
def rh:=@List.map_congr_left
def mS:=@PySem.F.slot_list_extend
def mx:=@PySem.F.type_list_extend
def vH:=@List.drop_length
def i6:=@List.mem_map_of_mem
def w1:=@Decidable.byContradiction
def yd:=@PySem.W.length_le_weightAllW
def dC:=@decide_eq_false
def nU:=@Bool.false_and
def qV:=@and_self
def mi:=@List.map_map
def uP:=@Function.comp_def
def pB:=@Nat.add_assoc
def eI:=@Bool.eq_iff_iff
def cb:=@decide_eq_true_iff
def cH:=@Bool.and_eq_true
def u7:=@of_decide_eq_false
def dS:=@of_decide_eq_true
def kW:=@List.take_append_drop
def nv:=@List.drop_eq_getElem_cons
def zL:=@List.findSome?_append
def lB:=@List.drop_eq_nil_of_le
def j2:=@Nat.pow_succ
def oG:=@Nat.mul_comm
def pV:=@Nat.mod_eq_of_lt
def az:=@if_pos
def dz:=@decide_eq_true_eq
def ar:=@if_neg
def r5:=@List.cons.injEq
def dy:=@List.getElem?_eq_getElem
def vN:=@List.getElem?_drop
def uB:=@List.all_eq_true
def fx:=@List.mem_of_getElem?
def fv:=@List.drop_drop
def iB:=@List.drop_take
def s6:=@Nat.add_sub_cancel_left
def nF:=@List.getElem?_eq_none
def o1:=@List.mem_filter
def s8:=@Nat.sub_self
def lV:=@Bool.or_eq_true
def w6:=@Nat.div_lt_of_lt_mul
def m4:=@Nat.lt_trans
def bY:=@Nat.le_refl
def bA:=@List.length_cons
def vL:=@List.length_singleton
def p9:=@List.filter_append
def qj:=@List.filter_cons
def uy:=@List.filter_nil
def c2:=@if_true
def qw:=@List.getElem?_append_right
def et:=@List.append_nil
def fX:=@beq_iff_eq
def kT:=@List.any_cons
def nJ:=@List.all_cons
def aX:=@List.length_map
def DB:=@Option.bind_some
def kC:=@List.drop_zero
def wM:=@List.take_of_length_le
def nQ:=@Nat.min_eq_left
def dV:=@if_false
def Ba:=@List.getLast?_append
def lE:=@List.flatMap_cons
def tw:=@List.flatMap_append
def gv:=@List.append_assoc
def cn:=@List.length_nil
def tZ:=@List.ext_getElem?
def dk:=@List.getElem?_map
def oC:=@List.length_range
def o4:=@List.getElem?_range
def qO:=@Int.toNat_of_nonneg
def mW:=@Bool.false_eq_true
def aT:=@PySem.wpAny_bind
def cw:=@PySem.Heap.get?_push_of_some
def me:=@PySem.wpAny_setField
def hv:=@Nat.ne_of_gt
def bP:=@PySem.Heap.lt_size
def pL:=@PySem.Obj.data_mapFields
def hK:=@PySem.Heap.get?_update_self
def vx:=@PySem.Obj.isFreed_of_fields
def iP:=@PySem.Heap.get?_update_other
def eP:=@Ne.symm
def cx:=@Option.some.inj
def fW:=@PySem.Heap.get?_push_size
def xq:=@Array.getElem?_setIfInBounds_ne
def nY:=@Nat.le_of_eq
def gH:=@PySem.wpAny_field
def cq:=@List.mem_cons_self
def b4:=@PySem.wpAny_pure
def dh:=@Nat.ne_of_lt
def cc:=@Nat.lt_of_lt_of_le
def sH:=@PySem.wpAny_of_eq
def qr:=@PySem.W.looks_findIn
def b3:=@Nat.zero_le
namespace L2
open PySem
noncomputable def b_ (s:Stmt) (j:Nat):Stmt:=match s with
 | .ClassDef _ _ _ body _ _ _ _ _ _ _=>body.getD j (.Pass ⟨0,0,0,0⟩)
 | _=> .Pass ⟨0,0,0,0⟩
noncomputable def jU (s:Stmt):Arguments:=match s with
 | .FunctionDef _ a _ _ _ _ _ _ _ _=>a
 | _=>{posonlyargs:=[],args:=[],vararg:=none,kwonlyargs:=[],kw_defaults:=[],kwarg:=none,defaults:=[]}
noncomputable def ew (s:Stmt):List Stmt:=match s with
 | .FunctionDef _ _ b _ _ _ _ _ _ _=>b
 | _=>[]
noncomputable def bL (s:Stmt):Scope:=match s with
 | .FunctionDef _ _ _ _ _ _ sc _ _ _=>sc
 | _=>{kind:= .function,names:=[],isGenerator:=false,isCoroutine:=false}
end L2
namespace RL
open PySem PySem.W L2
noncomputable def ai (i:Nat):Stmt:=PySem.Challenge.pw_reelcutdesk_s01_answers.main.body.getD i (.Pass ⟨0,0,0,0⟩)
abbrev pY:Stmt:=b_ (ai 5) 0
abbrev px:Stmt:=b_ (ai 6) 0
abbrev wo:Stmt:=ai 7
abbrev Cg:Stmt:=ai 8
abbrev Az:Stmt:=ai 9
abbrev w5:Stmt:=ai 10
abbrev Ca:Stmt:=ai 11
abbrev x_:Stmt:=ai 12
abbrev xn:Stmt:=ai 13
abbrev AD:Stmt:=ai 14
abbrev wR:Stmt:=ai 15
abbrev AA:Stmt:=ai 16
abbrev wF:Stmt:=ai 17
abbrev xa:Stmt:=ai 18
abbrev pz:Stmt:=ai 19
abbrev y6:Stmt:=ai 20
abbrev zh:Stmt:=ai 21
abbrev qb:Stmt:=b_ (ai 26) 0
abbrev qQ:Stmt:=b_ (ai 27) 0
abbrev pI:Stmt:=b_ (ai 28) 0
abbrev Am:Stmt:=ai 29
abbrev Bs:Stmt:=ai 30
abbrev zm:Stmt:=ai 46
abbrev zu:Stmt:=ai 47
abbrev rL:Stmt:=ai 48
abbrev AQ:Stmt:=ai 49
abbrev xp:Stmt:=ai 50
abbrev Cm:Stmt:=ai 51
abbrev BO:Stmt:=ai 52
abbrev yn:Stmt:=ai 53
abbrev xX:Stmt:=ai 54
abbrev u6:Stmt:=ai 55
abbrev z3:Stmt:=ai 56
abbrev Aq:Stmt:=ai 57
abbrev qM:Stmt:=ai 58
abbrev yP:Stmt:=ai 59
abbrev yh:Stmt:=ai 60
abbrev w7:Stmt:=ai 64
abbrev BZ:Stmt:=ai 78
abbrev yY:Stmt:=ai 79
abbrev A6:Stmt:=ai 80
abbrev BV:Stmt:=ai 81
abbrev y2:Stmt:=ai 82
abbrev xv:Stmt:=ai 83
abbrev Ag:Stmt:=ai 84
abbrev yv:Stmt:=ai 85
abbrev xl:Stmt:=ai 92
abbrev vr:Stmt:=ai 93
abbrev qa:Stmt:=b_ (ai 111) 0
abbrev rm:Stmt:=b_ (ai 112) 0
abbrev Ck:Stmt:=ai 113
abbrev yu:Stmt:=ai 114
abbrev z7:Stmt:=ai 115
abbrev x4:Stmt:=ai 116
abbrev BC:Stmt:=ai 117
abbrev xy:Stmt:=ai 118
abbrev yH:Stmt:=ai 119
abbrev Cw:Stmt:=ai 120
abbrev BK:Stmt:=ai 121
abbrev AS:Stmt:=ai 122
abbrev w8:Stmt:=ai 123
abbrev ux:Stmt:=ai 124
abbrev yX:Stmt:=ai 125
abbrev z_:Stmt:=ai 126
abbrev yb:Stmt:=ai 127
abbrev CM:Stmt:=ai 129
abbrev Cb:Stmt:=ai 130
abbrev yz:Stmt:=ai 131
abbrev Ar:Stmt:=ai 132
abbrev AG:Stmt:=ai 133
abbrev x6:Stmt:=ai 134
abbrev xg:Stmt:=ai 135
abbrev vh:Stmt:=ai 140
abbrev wj:Stmt:=ai 141
abbrev uj:Stmt:=ai 142
abbrev vo:Stmt:=ai 143
abbrev qE:Stmt:=b_ (ai 163) 0
abbrev wV:Stmt:=ai 164
abbrev y_:Stmt:=ai 165
abbrev qW:Stmt:=b_ (ai 166) 0
abbrev Ci:Stmt:=ai 167
abbrev Ap:Stmt:=ai 168
abbrev lh:Stmt:=ai 169
abbrev za:Stmt:=ai 170
abbrev AM:Stmt:=ai 171
abbrev Br:Stmt:=ai 172
abbrev xJ:Stmt:=ai 173
abbrev BF:Stmt:=ai 174
abbrev ya:Stmt:=ai 175
abbrev BD:Stmt:=ai 176
abbrev Bv:Stmt:=ai 177
abbrev yL:Stmt:=ai 178
abbrev zW:Stmt:=ai 179
abbrev xC:Stmt:=ai 180
abbrev wW:Stmt:=ai 181
abbrev Bh:Stmt:=ai 182
theorem aa {α:Sort u} {p:α->Prop} {a:α} (h:p a):Exists p:=⟨a,h⟩
noncomputable def Af (K:Frag) (x q:Str) (st:Stmt) (f:Addr):Prop:=∃(oc:Value) (od an:Option Addr) (cX:Array (Option Value)) (kV cL pm bc ct:Value),K.lookup f=some ⟨oc,od,.func (fnOf x q (jU st) (ew st) (bL st) .none kV cL pm an bc ct),cX⟩/\codeIn K bc q=true/\keepIn K (.ref f)=true
noncomputable def a5 (K:Frag) (x:Str) (st:Stmt):Prop:=∃f:Addr,nsIn K mainGlobals x=some (some (.ref f))/\Af K x x st f
noncomputable def h9 (K:Frag) (x:Str) (C:Addr) (q:Str) (st:Stmt):Prop:=∃f:Addr,nsIn K mainGlobals x=some (some (.ref C))/\findIn K (.ref C) "__init__"=some (some (.ref f))/\makesIn K C=true/\isFn K (.ref f)=true/\keepIn K (.ref C)=true/\Af K "__init__" q st f
noncomputable def uM (K:Frag) (C:Addr):List Str->Prop
 | []=>True
 | x::l=>findIn K (.ref C) x=some none/\uM K C l
noncomputable def i5 (K:Frag) (C:Addr) (l:List Str):Prop:=plainGet K C Str.empty=true/\hasDictIn K C=true/\plainOver K C=true/\findIn K (.ref C) "__setattr__"=some (some (.builtin "object.__setattr__"))/\uM K C l
noncomputable def Ce (K:Frag) (C fI:Addr):Prop:=∃(od an:Option Addr) (cX:Array (Option Value)) (kV cL pm bc ct:Value) (nm q:Str) (N:Addr) (bs:List Value) (sn:List Str) (sub:List Value) (ab:Bool) (col:Option Bool) (dd:Option Addr) (k0 k1 k2 k3 k5:Option Value),
 nsIn K mainGlobals "Fault"=some (some (.ref C))/\K.lookup C=some (excClassObj nm q C N bs [.type "Exception",.type "BaseException",.type "object"] true sn sub ab col dd k0 k1 k2 k3 k5 "Exception.__new__")/\findIn K (.ref C) "__getattribute__"=some (some (.builtin "BaseException.__getattribute__"))/\
 findIn K (.ref C) "__getattr__"=some none/\findIn K (.ref C) "__setattr__"=some (some (.builtin "object.__setattr__"))/\keepIn K (.ref C)=true/\findIn K (.ref C) "kind"=some none/\findIn K (.ref C) "place"=some none/\findIn K (.ref C) "__init__"=some (some (.ref fI))/\
 K.lookup fI=some ⟨.type "function",od,.func (fnOf "__init__" "Fault.__init__" (jU pY) (ew pY) (bL pY) .none kV cL pm an bc ct),cX⟩/\codeIn K bc "Fault.__init__"=true
noncomputable def y8 (K:Frag) (C:Addr):Prop:=∃(nm q:Str) (N:Addr) (bs:List Value) (hdct:Bool) (sn:List Str) (sub:List Value) (ab:Bool) (col:Option Bool) (dd:Option Addr) (k0 k1 k2 k3 k5:Option Value),nsIn K mainGlobals "NotKnown"=some (some (.ref C))/\
 K.lookup C=some (excClassObj nm q C N bs [.type "Exception",.type "BaseException",.type "object"] hdct sn sub ab col dd k0 k1 k2 k3 k5 "Exception.__new__")/\keepIn K (.ref C)=true/\nsOkIn K N=true/\nsIn K N "__init__"=some none
noncomputable def yt (K:Frag) (x:Str) (i1 i2 i3:Int):Prop:=∃(ad:Addr) (t1 t2 t3 n:Nat) (od:Option Addr) (a:Array (Option Value)),nsIn K mainGlobals x=some (some (.ref ad))/\K.lookup ad=some ⟨.type "tuple",od,.seq #[.int i1 t1,.int i2 t2,.int i3 t3] n,a⟩
noncomputable def yo (K:Frag) (x:Str) (i1 i2 i3 a:Int):Prop:=∃(ad:Addr) (t1 t2 t3 t4 n:Nat) (od:Option Addr) (b:Array (Option Value)),nsIn K mainGlobals x=some (some (.ref ad))/\K.lookup ad=some ⟨.type "tuple",od,.seq #[.int i1 t1,.int i2 t2,.int i3 t3,.int a t4] n,b⟩
noncomputable def bq (K:Frag) (x:Str) (v:Int):Prop:=∃t:Nat,nsIn K mainGlobals x=some (some (.int v t))
inductive LH (K:Frag):Prop
 | mk (_:bq K "FORM_FAULT" 4) (_:bq K "MOST_NUMBER_BYTES" 10) (_:bq K "NUMBER_BOUND" 18446744073709551616) (_:bq K "MOST_BYTE" 255) (_:bq K "KEY" 1) (_:bq K "STREAM_ENDS" 2) (_:bq K "NONE_FOUND" (-1)) (_:bq K "FORM" 1) (_:bq K "MOST_STREAMS" 4) (_:bq K "MOST_KIND" 255) (_:bq K "MOST_RATE" 4294967295) (_:bq K "MOST_NAME" 16) (_:bq K "MOST_SETUP" 40) (_:bq K "MOST_PARTS" 16) (_:bq K "MOST_TIME" 1125899906842624) (_:bq K "MOST_LENGTH" 4294967295) (_:bq K "MOST_FLAGS" 3) (_:bq K "MOST_SIZE" 600) (_:bq K "PLACE_SIZE" 8) (_:bq K "INDEX_FAULT" 7) (_:bq K "ALL_ONES" 4294967295) (_:bq K "POLYNOMIAL" 2197175160) (_:bq K "HEAD_KIND" 72) (_:bq K "PART_KIND" 80) (_:bq K "INDEX_KIND" 73) (_:bq K "MOST_BODY" 600) (_:bq K "OPENING_SIZE" 12) (_:bq K "CRC_SIZE" 4) (_:bq K "BOX_SIZE" 16) (_:bq K "MARK_FAULT" 1) (_:bq K "LENGTH_FAULT" 2) (_:bq K "OPENING_FAULT" 3) (_:bq K "BODY_FAULT" 6) (_:bq K "MOST_SECONDS_BACK" 10) (_:bq K "NONE_WRONG" (-1)) (_:bq K "STREAM_WRONG" 0) (_:bq K "TIME_WRONG" 1) (_:bq K "FLAGS_WRONG" 3) (_:bq K "TOLD_NOTHING" 0) (_:bq K "TOLD_HEAD" 1) (_:bq K "TOLD_PART" 2) (_:bq K "TOLD_INDEX" 3) (_:bq K "TOLD_FAULT" 4) (_:bq K "TOLD_FOUND" 5) (_:bq K "TOLD_END" 6) (_:bq K "ORDER_FAULT" 5) (_:bq K "CUT_FAULT" 8) (_:bq K "BEHIND_FAULT" 9) (_:bq K "AGAINST_ORDER" 128) (_:bq K "NOWHERE" (-1)) (_:bq K "BOX_DUE" 0) (_:bq K "END_DUE" 1) (_:bq K "SEARCH_DUE" 2) (_:bq K "OVER" 3) (_:bq K "LEAST_BYTES" 48) (_:bq K "TAIL_SIZE" 16) (_:bq K "JUDGE" 0) (_:bq K "READ" 1) (_:bq K "FEED" 2) (_:bq K "NEXT" 3) (_:bq K "STREAM" 4) (_:bq K "FIND" 5) (_:bq K "WRITE" 6) (_:bq K "PUT" 7) (_:bq K "END" 8) (_:bq K "SEEK" 9) (_:bq K "MOST_BYTES" 1500) (_:bq K "NOT_LET" (-1)) (_:bq K "TOO_MANY" (-2)) (_:bq K "NOT_NOW" (-4)) (_:bq K "NO_PART" (-6)) (_:bq K "FULL" (-7)) (_:bq K "NOT_RIGHT" (-8)) (_:nsIn K mainGlobals "any"=some none) (_:nsIn K mainGlobals "enumerate"=some none) (_:nsIn K mainGlobals "len"=some none) (_:nsIn K mainGlobals "list"=some none) (_:nsIn K mainGlobals "min"=some none) (_:nsIn K mainGlobals "range"=some none)
inductive Ey (K:Frag) (CB CS CP CL CR CT CD CC CF CN fI:Addr):Prop
 | mk (_:a5 K "answers" lh) (_:a5 K "crc_of" w7) (_:LH K) (_:a5 K "take_one" xn) (_:i5 K CB ["data","at","end","plain","places","stream"]) (_:Ce K CF fI) (_:a5 K "expect_byte" AD) (_:a5 K "read_number_form" AA) (_:a5 K "read_number" wR) (_:a5 K "read_within" wF) (_:a5 K "read_signed" xa) (_:a5 K "expect_end" zh) (_:a5 K "read_rest" y6) (_:a5 K "read_string" pz) (_:a5 K "from_lowest_first" Cg) (_:a5 K "lowest_first" wo) (_:a5 K "signed_form" x_) (_:a5 K "body_length" BV) (_:a5 K "crc_form" yY) (_:a5 K "crc_stands" y2) (_:a5 K "check_opening" BZ) (_:yt K "MARK" 76 119 142) (_:a5 K "may_begin" xv) (_:a5 K "whole_body" Ag) (_:a5 K "check_body" yv) (_:i5 K CS ["kind","num","den","name","setup"]) (_:a5 K "common_divisor" zm) (_:a5 K "read_stream" AQ) (_:a5 K "read_head" rL) (_:i5 K CP ["stream","time","length","flags","data","size","place"]) (_:i5 K CL ["streams","parts"]) (_:a5 K "read_time" Cm) (_:a5 K "read_part" xX) (_:a5 K "is_too_early" xl) (_:a5 K "wrong_in_order" vr) (_:a5 K "part_row" Am) (_:i5 K CT ["answer","place","streams","part"]) (_:a5 K "fault_thing" xy) (_:i5 K CR ["mend","taken","closed","due","place","opening_right","reel","lost","pending","end_told"]) (_:a5 K "look_behind_index" yX) (_:a5 K "search" z_) (_:a5 K "head_thing" AS) (_:a5 K "part_thing" w8) (_:a5 K "look_at_body" BK) (_:a5 K "look_at_box" yH) (_:a5 K "look" BC) (_:a5 K "leave_fault" x4) (_:a5 K "take_over" z7) (_:a5 K "tell" yu) (_:a5 K "take_bytes" Ck) (_:a5 K "strict_stop" yb) (_:a5 K "expect_index_end" yh) (_:yo K "LAST_BYTES" 76 119 142 46) (_:a5 K "number_form" Az) (_:a5 K "numbers_form" w5) (_:a5 K "string_form" Ca) (_:a5 K "head_form" zu) (_:a5 K "part_numbers_form" BO) (_:a5 K "part_form" yn) (_:a5 K "box_of" A6) (_:a5 K "index_numbers" u6) (_:a5 K "expect_index" Aq) (_:a5 K "read_listed_part" yP) (_:a5 K "read_loose_index" qM) (_:a5 K "kinds_due" Cw) (_:a5 K "index_thing" ux) (_:a5 K "listed_streams" xp) (_:a5 K "index_form" z3) (_:a5 K "part_box_size" CM) (_:a5 K "place_behind" Cb) (_:a5 K "add_part" yz) (_:a5 K "may_be_put" Ar) (_:a5 K "head_if_first" AG) (_:a5 K "put_part" x6) (_:a5 K "end_reel" xg) (_:a5 K "told_place" wj) (_:y8 K CN) (_:a5 K "checked_body" uj) (_:a5 K "add_parts_in_order" vo) (_:a5 K "known_by_end" vh) (_:CN≠CF) (_:a5 K "found_number" Bs) (_:i5 K CD ["reader","reel","writes"]) (_:a5 K "become" wV) (_:a5 K "become_empty" y_) (_:i5 K CC ["numbers","at"]) (_:a5 K "take_number" Ci) (_:a5 K "take_row" Ap) (_:a5 K "counted" Bh) (_:a5 K "take_part" AM) (_:a5 K "answer_next" ya) (_:a5 K "answer_read" xJ) (_:a5 K "answer_feed" BF) (_:a5 K "answer_judge" Br) (_:a5 K "answer_stream" BD) (_:a5 K "answer_find" Bv) (_:a5 K "answer_write" yL) (_:a5 K "answer_end" xC) (_:a5 K "answer_put" zW) (_:a5 K "answer_seek" wW) (_:a5 K "answer_call" za) (_:h9 K "Body" CB "Body.__init__" px) (_:h9 K "Stream" CS "Stream.__init__" qb) (_:h9 K "Part" CP "Part.__init__" qQ) (_:h9 K "Reel" CL "Reel.__init__" pI) (_:h9 K "Thing" CT "Thing.__init__" qa) (_:h9 K "Reader" CR "Reader.__init__" rm) (_:h9 K "Record" CD "Record.__init__" qE) (_:h9 K "Cursor" CC "Cursor.__init__" qW)
noncomputable def js (x:String) (n:Nat):Value:= .str (Str.ofString x) n
noncomputable def jn (x:Int) (t:Nat):Value:= .int x t
noncomputable def jb (v:Value) (d:Data):Obj:=⟨v,none,d,⟨[]⟩⟩
noncomputable def jq (l:List Value):Obj:=jb (.type "tuple") (.seq ⟨l⟩)
noncomputable def jz:Obj:=jq []
noncomputable def Bl:Nat->List String->List Value
 | _,[]=>[]
 | n,x::l=>js x n::Bl (n+1) l
noncomputable def jt (n:Nat) (l:List String):Obj:=jq (Bl n l)
noncomputable def jr:Nat->Value
 | 0=> .none
 | n+1=> .ref (n+1)
noncomputable def ju (s:Stmt):Str:=match s with
 | .FunctionDef n _ _ _ _ _ _ _ _ _=>n
 | _=>Str.empty
noncomputable def ja (v:String) (l:List Value):Obj:=jb (.type v) (.fields ⟨l⟩)
noncomputable def sR (x y:Str) (t l a f z h b d g u:Nat):Obj:=ja "code" [.str x t,.str y (t+1),js "/claim/cut.py" (t+2),jn l 0,jn a 0,jn 0 0,jn 0 0,jn f 0,.ref z,.bool (Nat.blt 0 f),jn 181 0,.ref h,.none,jr b,jr d,jr g,jn u 0,jn l 0,js "/claim/cut.py" (u+1)]
noncomputable def jc (i t l a z b d g u:Nat):Obj:=sR (ju (ai i)) (ju (ai i)) t l a 3 z (z+1) b d g u
noncomputable def jC (s:Stmt) (y:String) (t l a z b d g u:Nat):Obj:=sR (ju s) (Str.ofString y) t l a 3 z (z+1) b d g u
noncomputable def jD (x y:String) (t l z u:Nat):Obj:=sR (Str.ofString x) (Str.ofString y) t l 0 0 z (z+1) 0 0 0 u
noncomputable def qG (s:Stmt) (y:Str) (g:Nat) (m o:Value):Data:= .func {name:=ju s,qualname:=y,params:=jU s,body:= .stmts (ew s),scope:=bL s,globals:=g,closure:=[],defaults:= .none,kwdefaults:= .none,pyModule:=m,code:=o}
noncomputable def jf (i:Nat) (m:Value) (a:Nat):Obj:=jb (.type "function") (qG (ai i) (ju (ai i)) 3 m (.ref a))
noncomputable def jF (s:Stmt) (y:String) (m:Value) (a:Nat):Obj:=jb (.type "function") (qG s (Str.ofString y) 3 m (.ref a))
noncomputable def jg (i:Nat):Obj:=jb .none (qG (ai i) (ju (ai i)) 0 .none .none)
noncomputable def jG (s:Stmt) (y:String):Obj:=jb .none (qG s (Str.ofString y) 0 .none .none)
noncomputable def zl:List Nat->List Value
 | a::b::c::l=>jn a 0::jn b 0:: .ref c::zl l
 | _=>[]
noncomputable def jh (l:List Nat):Obj:=jb .none (.fields ⟨zl l⟩)
noncomputable def jp (a:Nat):Obj:=ja "super" [.ref a,.ref a,.ref a]
noncomputable def oE (P:Params) (x:Str) (t:Nat) (v:Value):DictEntry:=⟨PyData.keyHash P x,.str x t,v⟩
noncomputable def je (P:Params) (x:String) (t:Nat) (v:Value):DictEntry:=oE P (Str.ofString x) t v
noncomputable def jk (P:Params) (i t a:Nat):DictEntry:=oE P (ju (ai i)) t (.ref a)
noncomputable def jv (P:Params) (x:String) (t a:Nat):DictEntry:=oE P (Str.ofString x) t (.ref a)
noncomputable def jj (P:Params) (x:String) (t:Nat) (y:Int) (u:Nat):DictEntry:=oE P (Str.ofString x) t (.int y u)
noncomputable def ji (P:Params) (x:String) (t:Nat) (y:Int):DictEntry:=oE P (Str.ofString x) t (.int y (t - 1))
noncomputable def gq (k:Nat) (l:List DictEntry):Obj:=jb (.type "dict") (.dict ⟨l⟩ k)
noncomputable def jd (l:List DictEntry):Obj:=gq l.length l
noncomputable def jx (a b:Nat) (m:Value):Obj:=⟨.type "frame",none,.plain,⟨[some (.ref a),some (.ref 3),some (.ref b),none,some m,none,some (.ref 0)]⟩⟩
noncomputable def jy (b:String) (u:Value):Obj:=ja "builtin_function_or_method" [.builtin b,u]
noncomputable def jw (t a:Nat):Obj:=ja "getset_descriptor" [js "__weakref__" t,.ref a,.builtin "ExceptionGroup.__weakref__",.none]
noncomputable def jW (t a:Nat):Obj:=ja "getset_descriptor" [js "__dict__" t,.ref a,.builtin "function.__dict__",.builtin "function.__dict__#set"]
noncomputable def sJ (x:String) (b m:List Value) (a:Nat) (r:Option Value) (t u:Nat) (o:String):Obj:=⟨.type "type",none,.cls {name:=Str.ofString x,bases:=b,mro:= .ref a::m,ns:=a - 1,qualname:=Str.ofString x},⟨[r,none,some (js x t),some (js x u),some (.builtin o),some (.bool true)]⟩⟩
noncomputable def jl (x:String) (a t u:Nat):Obj:=sJ x [.type "object"] [.type "object"] a none t u "object.__new__"
noncomputable def jE (x:String) (a r t u:Nat):Obj:=sJ x [.type "Exception"] [.type "Exception",.type "BaseException",.type "object"] a (some (.ref r)) t u "Exception.__new__"
noncomputable def cG:Value:=js "reelcutdesk.records" 1183
noncomputable def dv:Value:=js "reelcutdesk.forms" 187
noncomputable def fg:Value:=js "reelcutdesk.reels" 385
noncomputable def eN:Value:=js "reelcutdesk.bodies" 520
noncomputable def F8:Value:=js "reelcutdesk.crc" 683
noncomputable def kh:Value:=js "reelcutdesk.boxes" 699
noncomputable def zz:Value:=js "reelcutdesk.order" 795
noncomputable def dm:Value:=js "reelcutdesk.reading" 827
noncomputable def k6:Value:=js "reelcutdesk.writing" 1058
noncomputable def jQ:Value:=js "reelcutdesk.seeking" 1115
noncomputable def MA (P:Params):List DictEntry:=[je P "__doc__" 166 .none,je P "__package__" 167 .none,je P "__loader__" 168 (.builtin "__main__.__loader__#opaque"),je P "__spec__" 169 .none,jv P "__annotations__" 170 6,jv P "__builtins__" 171 4,je P "__file__" 173 (js "/claim/cut.py" 172),je P "__cached__" 174 .none,ji P "FORM_FAULT" 190 4,ji P "MOST_NUMBER_BYTES" 192 10,ji P "NUMBER_BOUND" 194 18446744073709551616,ji P "MOST_BYTE" 196 255,jv P "Fault" 227 31,jv P "Body" 263 51,jk P 7 269 60,jk P 8 280 67,jk P 9 288 74,jk P 10 297 81,jk P 11 304 88,jk P 12 311 95,jk P 13 318 102,jk P 14 327 109,jk P 15 334 116,jk P 16 345 123,jk P 17 355 130,jk P 18 363 137,jk P 19 369 142,jk P 20 377 149,jk P 21 384 156,ji P "KEY" 388 1,ji P "STREAM_ENDS" 390 2,ji P "NONE_FOUND" 393 (-1),jv P "Stream" 430 173,jv P "Part" 469 194,jv P "Reel" 499 215,jk P 29 506 226,jk P 30 519 233,ji P "FORM" 523 1,ji P "MOST_STREAMS" 525 4,ji P "MOST_KIND" 527 255,ji P "MOST_RATE" 529 4294967295,ji P "MOST_NAME" 531 16,ji P "MOST_SETUP" 533 40,ji P "MOST_PARTS" 535 16,ji P "MOST_TIME" 537 1125899906842624,ji P "MOST_LENGTH" 539 4294967295,ji P "MOST_FLAGS" 541 3,ji P "MOST_SIZE" 543 600,ji P "PLACE_SIZE" 545 8,jv P "LAST_BYTES" 550 234,ji P "INDEX_FAULT" 552 7,jk P 46 561 241,jk P 47 570 248,jk P 48 576 253,jk P 49 588 260,jk P 50 597 267,jk P 51 606 274,jk P 52 613 281,jk P 53 620 288,jk P 54 632 295,jk P 55 638 300,jk P 56 646 307,jk P 57 656 314,jk P 58 662 319,jk P 59 674 326,jk P 60 682 333,ji P "ALL_ONES" 686 4294967295,ji P "POLYNOMIAL" 688 2197175160,jk P 64 698 340,jv P "MARK" 704 341,ji P "HEAD_KIND" 706 72,ji P "PART_KIND" 708 80,ji P "INDEX_KIND" 710 73,ji P "MOST_BODY" 712 600,ji P "OPENING_SIZE" 714 12,ji P "CRC_SIZE" 716 4,ji P "BOX_SIZE" 718 16,ji P "MARK_FAULT" 720 1,ji P "LENGTH_FAULT" 722 2,ji P "OPENING_FAULT" 724 3,ji P "BODY_FAULT" 726 6,jk P 78 737 348,jk P 79 744 355,jk P 80 753 362,jk P 81 761 369,jk P 82 770 376,jk P 83 778 383,jk P 84 787 390,jk P 85 794 397,ji P "MOST_SECONDS_BACK" 798 10,ji P "NONE_WRONG" 801 (-1),ji P "STREAM_WRONG" 803 0,ji P "TIME_WRONG" 805 1,ji P "FLAGS_WRONG" 807 3,jk P 92 820 404,jk P 93 826 409,ji P "TOLD_NOTHING" 830 0,ji P "TOLD_HEAD" 832 1,ji P "TOLD_PART" 834 2,ji P "TOLD_INDEX" 836 3,ji P "TOLD_FAULT" 838 4,ji P "TOLD_FOUND" 840 5,ji P "TOLD_END" 842 6,ji P "ORDER_FAULT" 844 5,ji P "CUT_FAULT" 846 8,ji P "BEHIND_FAULT" 848 9,ji P "AGAINST_ORDER" 850 128,ji P "NOWHERE" 853 (-1),ji P "BOX_DUE" 855 0,ji P "END_DUE" 857 1,ji P "SEARCH_DUE" 859 2,ji P "OVER" 861 3,jv P "Thing" 894 426,jv P "Reader" 932 447,jk P 113 942 458,jk P 114 950 465,jk P 115 959 472,jk P 116 966 479,jk P 117 973 486,jk P 118 983 493,jk P 119 992 500,jk P 120 999 507,jk P 121 1009 514,jk P 122 1017 521,jk P 123 1029 528,jk P 124 1035 533,jk P 125 1042 540,jk P 126 1049 547,jk P 127 1057 554,jk P 129 1066 561,jk P 130 1074 568,jk P 131 1082 575,jk P 132 1091 582,jk P 133 1098 589,jk P 134 1107 596,jk P 135 1114 603,ji P "LEAST_BYTES" 1118 48,ji P "TAIL_SIZE" 1120 16,jv P "NotKnown" 1140 613,jk P 140 1153 623,jk P 141 1163 630,jk P 142 1173 637,jk P 143 1182 644,ji P "JUDGE" 1186 0,ji P "READ" 1188 1,ji P "FEED" 1190 2,ji P "NEXT" 1192 3,ji P "STREAM" 1194 4,ji P "FIND" 1196 5,ji P "WRITE" 1198 6,ji P "PUT" 1200 7,ji P "END" 1202 8,ji P "SEEK" 1204 9,ji P "MOST_BYTES" 1206 1500,ji P "NOT_LET" 1209 (-1),ji P "TOO_MANY" 1212 (-2),ji P "NOT_NOW" 1215 (-4),ji P "NO_PART" 1218 (-6),ji P "FULL" 1221 (-7),ji P "NOT_RIGHT" 1224 (-8),jv P "UnknownCall" 1242 654,jv P "Record" 1272 674,jk P 164 1282 685,jk P 165 1289 692,jv P "Cursor" 1319 709,jk P 167 1326 720,jk P 168 1334 727,jk P 169 1345 734,jk P 170 1356 741,jk P 171 1367 748,jk P 172 1376 755,jk P 173 1385 762,jk P 174 1395 769,jk P 175 1402 776,jk P 176 1412 783,jk P 177 1423 790,jk P 178 1432 797,jk P 179 1440 804,jk P 180 1447 811,jk P 181 1455 818,jk P 182 1462 825]
noncomputable def AJ:List Nat:=[6,0,20,11,0,40,20,0,59,22,0,66,27,0,73,34,0,80,39,0,87,41,0,94,45,0,101,50,0,108,53,0,115,58,0,122,68,0,129,73,0,136,78,0,141,87,0,148,91,0,155,98,0,162,106,0,183,116,0,204,121,0,225,123,0,232,146,0,240,152,0,247,159,0,252,165,0,259,174,0,266,183,0,273,188,0,280,190,0,287,192,0,294,199,0,299,207,0,306,209,0,313,216,0,318,224,0,325,232,0,332,239,0,339,262,0,347,273,0,354,275,0,361,278,0,368,280,0,375,282,0,382,288,0,389,295,0,396,304,0,403,310,0,408,339,0,415,346,0,436,359,0,457,369,0,464,377,0,471,394,0,478,401,0,485,412,0,492,414,0,499,427,0,506,433,0,513,444,0,520,448,0,527,460,0,532,466,0,539,472,0,546,480,0,553,489,0,560,491,0,567,496,0,574,499,0,581,508,0,588,512,0,595,516,0,602,521,0,609,523,0,622,538,0,629,549,0,636,556,0,643,579,0,650,581,0,663,587,0,684,591,0,691,593,0,698,598,0,719,601,0,726,605,0,733,614,0,740,639,0,747,645,0,754,653,0,761,659,0,768,670,0,775,674,0,782,682,0,789,692,0,796,699,0,803,707,0,810,712,0,817,719,0,824]
noncomputable def yG (v:Nat) (P:Params):Obj:=match v with
 | 0=>boot_o_2 P
 | 1=>jb .none (.dict ⟨[jj P "type.__subclasses__.Exception.0" 224 31 0,jj P "type.__subclasses__.Exception.n" 225 1 0]⟩ 2)
 | _=>jb .none (.dict ⟨[jj P "type.__subclasses__.Exception.0" 224 31 0,jj P "type.__subclasses__.Exception.n" 225 2 0,jj P "type.__subclasses__.Exception.1" 1137 613 0]⟩ 3)
noncomputable def Bn (k:Nat) (m:Value) (P:Params):Obj:=match k with
 | 0=>boot_o_3 P
 | k+1=>jd (je P "__name__" 165 m::(MA P).take k)
noncomputable def L1 (P:Params):List Obj:=[boot_o_0 P,boot_o_1 P,jz,jz,boot_o_4 P,boot_o_5 P,boot_o_6 P,boot_o_7 P,boot_o_8 P,boot_o_9 P,boot_o_10 P,jz,jz,jD "<module>" "<module>" 182 1 11 185,jx 13 3 (js "__main__" 164),jq [.type "Exception"],jy "type.__prepare__" (.type "type"),jd [je P "__module__" 204 dv,je P "__qualname__" 206 (js "Fault" 205),ji P "__firstlineno__" 208 6,jv P "__init__" 217 28,jv P "__static_attributes__" 220 29],jz,jh [8,4,27],jD "Fault" "Fault" 199 6 18 202,jx 20 17 dv,jz,jh [],jt 212 ["self","kind","place"],jz,jG (b_ (ai 5) 0) "Fault.__init__",jC (b_ (ai 5) 0) "Fault.__init__" 209 8 3 22 24 25 26 215,jF (b_ (ai 5) 0) "Fault.__init__" dv 27,jt 218 ["kind","place"],gq 3 [je P "__module__" 204 dv,ji P "__firstlineno__" 208 6,jv P "__init__" 217 28,jv P "__static_attributes__" 220 29,jv P "__weakref__" 222 32,je P "__doc__" 223 .none],jE "Fault" 31 15 197 205]
noncomputable def JH (P:Params):List Obj:=[jw 221 31,jp 31,jy "object.__init_subclass__" (.ref 31),jz,jy "type.__prepare__" (.type "type"),jd [je P "__module__" 235 dv,je P "__qualname__" 237 (js "Body" 236),ji P "__firstlineno__" 239 11,jv P "__init__" 249 48,jv P "__static_attributes__" 256 49],jz,jh [13,4,47],jD "Body" "Body" 230 11 38 233,jx 40 37 dv,jz,jh [],jt 243 ["self","data","place","end"],jz,jG (b_ (ai 6) 0) "Body.__init__",jC (b_ (ai 6) 0) "Body.__init__" 240 13 4 42 44 45 46 247,jF (b_ (ai 6) 0) "Body.__init__" dv 47,jt 250 ["at","data","end","places","plain","stream"],gq 4 [je P "__module__" 235 dv,ji P "__firstlineno__" 239 11,jv P "__init__" 249 48,jv P "__static_attributes__" 256 49,jv P "__dict__" 258 52,jv P "__weakref__" 260 53,je P "__doc__" 261 .none],jl "Body" 51 228 236,jW 257 51,jw 259 51,jp 51,jy "object.__init_subclass__" (.ref 51),jz,jh [],jg 7,jc 7 264 20 2 56 0 0 58 267,jf 7 dv 59,jz,jh [],jt 273 ["data","place","size","value","k"]]
noncomputable def HQ (P:Params):List Obj:=[jz,jg 8,jc 8 270 22 3 61 63 64 65 278,jf 8 dv 66,jz,jh [],jt 284 ["value","form"],jz,jg 9,jc 9 281 27 1 68 70 71 72 286,jf 9 dv 73,jz,jh [],jt 292 ["values","form","value"],jz,jg 10,jc 10 289 34 1 75 77 78 79 295,jf 10 dv 80,jz,jh [],jt 301 ["data"],jz,jg 11,jc 11 298 39 1 82 84 85 86 302,jf 11 dv 87,jz,jh [],jt 308 ["value"],jz,jg 12,jc 12 305 41 1 89 91 92 93 309,jf 12 dv 94]
noncomputable def KH (P:Params):List Obj:=[jz,jh [],jt 315 ["body"],jz,jg 13,jc 13 312 45 1 96 98 99 100 316,jf 13 dv 101,jz,jh [],jt 322 ["body","wanted","kind"],jz,jg 14,jc 14 319 50 3 103 105 106 107 325,jf 14 dv 108,jz,jh [],jt 331 ["body"],jz,jg 15,jc 15 328 53 1 110 112 113 114 332,jf 15 dv 115,jz,jh [],jt 338 ["body","first","value","k","byte"],jz,jg 16,jc 16 335 58 2 117 119 120 121 343,jf 16 dv 122,jz,jh [],jt 349 ["body","least","most","value"],jz]
noncomputable def Gn (P:Params):List Obj:=[jg 17,jc 17 346 68 3 124 126 127 128 353,jf 17 dv 129,jz,jh [],jt 359 ["body","value"],jz,jg 18,jc 18 356 73 1 131 133 134 135 361,jf 18 dv 136,jz,jh [],jg 19,jc 19 364 78 2 138 0 0 140 367,jf 19 dv 141,jz,jh [],jt 373 ["body","rest"],jz,jg 20,jc 20 370 87 1 143 145 146 147 375,jf 20 dv 148,jz,jh [],jt 381 ["body"],jz,jg 21,jc 21 378 91 1 150 152 153 154 382,jf 21 dv 155,jz,jy "type.__prepare__" (.type "type"),jd [je P "__module__" 401 fg,je P "__qualname__" 403 (js "Stream" 402),ji P "__firstlineno__" 405 98,jv P "__init__" 417 170,jv P "__static_attributes__" 423 171]]
noncomputable def H9 (P:Params):List Obj:=[jz,jh [100,4,169],jD "Stream" "Stream" 396 98 160 399,jx 162 159 fg,jz,jh [],jt 409 ["self","kind","num","den","name","setup"],jz,jG (b_ (ai 26) 0) "Stream.__init__",jC (b_ (ai 26) 0) "Stream.__init__" 406 100 6 164 166 167 168 415,jF (b_ (ai 26) 0) "Stream.__init__" fg 169,jt 418 ["den","kind","name","num","setup"],gq 4 [je P "__module__" 401 fg,ji P "__firstlineno__" 405 98,jv P "__init__" 417 170,jv P "__static_attributes__" 423 171,jv P "__dict__" 425 174,jv P "__weakref__" 427 175,je P "__doc__" 428 .none],jl "Stream" 173 394 402,jW 424 173,jw 426 173,jp 173,jy "object.__init_subclass__" (.ref 173),jz,jy "type.__prepare__" (.type "type"),jd [je P "__module__" 438 fg,je P "__qualname__" 440 (js "Part" 439),ji P "__firstlineno__" 442 106,jv P "__init__" 454 191,jv P "__static_attributes__" 462 192],jz,jh [108,4,190],jD "Part" "Part" 433 106 181 436,jx 183 180 fg,jz,jh [],jt 446 ["self","stream","time","length","flags","data"],jz,jG (b_ (ai 27) 0) "Part.__init__",jC (b_ (ai 27) 0) "Part.__init__" 443 108 6 185 187 188 189 452,jF (b_ (ai 27) 0) "Part.__init__" fg 190]
noncomputable def C2 (P:Params):List Obj:=[jt 455 ["data","flags","length","place","size","stream","time"],gq 4 [je P "__module__" 438 fg,ji P "__firstlineno__" 442 106,jv P "__init__" 454 191,jv P "__static_attributes__" 462 192,jv P "__dict__" 464 195,jv P "__weakref__" 466 196,je P "__doc__" 467 .none],jl "Part" 194 431 439,jW 463 194,jw 465 194,jp 194,jy "object.__init_subclass__" (.ref 194),jz,jy "type.__prepare__" (.type "type"),jd [je P "__module__" 477 fg,je P "__qualname__" 479 (js "Reel" 478),ji P "__firstlineno__" 481 116,jv P "__init__" 489 212,jv P "__static_attributes__" 492 213],jz,jh [118,4,211],jD "Reel" "Reel" 472 116 202 475,jx 204 201 fg,jz,jh [],jt 485 ["self","streams"],jz,jG (b_ (ai 28) 0) "Reel.__init__",jC (b_ (ai 28) 0) "Reel.__init__" 482 118 2 206 208 209 210 487,jF (b_ (ai 28) 0) "Reel.__init__" fg 211,jt 490 ["parts","streams"],gq 4 [je P "__module__" 477 fg,ji P "__firstlineno__" 481 116,jv P "__init__" 489 212,jv P "__static_attributes__" 492 213,jv P "__dict__" 494 216,jv P "__weakref__" 496 217,je P "__doc__" 497 .none],jl "Reel" 215 470 478,jW 493 215,jw 495 215,jp 215,jy "object.__init_subclass__" (.ref 215),jz,jh [],jt 503 ["part"],jz]
noncomputable def KP (P:Params):List Obj:=[jg 29,jc 29 500 121 1 220 222 223 224 504,jf 29 fg 225,jz,jh [],jt 510 ["parts","stream","time","found","k","part","fits"],jz,jg 30,jc 30 507 123 3 227 229 230 231 517,jf 30 fg 232,jq [jn 76 546,jn 119 547,jn 142 548,jn 46 549],jz,jh [],jt 556 ["a","b","rest"],jz,jg 46,jc 46 553 146 2 235 237 238 239 559,jf 46 eN 240,jz,jh [],jt 565 ["streams","form","stream"],jz,jg 47,jc 47 562 152 1 242 244 245 246 568,jf 47 eN 247,jz,jh [],jg 48,jc 48 571 159 1 249 0 0 251 574,jf 48 eN 252,jz,jh []]
noncomputable def Jj (P:Params):List Obj:=[jt 580 ["body","kind","num","den","name","setup"],jz,jg 49,jc 49 577 165 1 254 256 257 258 586,jf 49 eN 259,jz,jh [],jt 592 ["numbers","body","streams"],jz,jg 50,jc 50 589 174 1 261 263 264 265 595,jf 50 eN 266,jz,jh [],jt 601 ["body","before","time"],jz,jg 51,jc 51 598 183 2 268 270 271 272 604,jf 51 eN 273,jz,jh [],jt 610 ["part"],jz,jg 52,jc 52 607 188 1 275 277 278 279 611,jf 52 eN 280,jz,jh [],jt 617 ["part"],jz,jg 53,jc 53 614 190 1 282 284 285 286 618]
noncomputable def DL (P:Params):List Obj:=[jf 53 eN 287,jz,jh [],jt 624 ["body","streams","stream","time","length","flags"],jz,jg 54,jc 54 621 192 2 289 291 292 293 630,jf 54 eN 294,jz,jh [],jg 55,jc 55 633 199 1 296 0 0 298 636,jf 55 eN 299,jz,jh [],jt 642 ["reel","place"],jz,jg 56,jc 56 639 207 2 301 303 304 305 644,jf 56 eN 306,jz,jh [],jt 650 ["body","reel","place","wanted"],jz,jg 57,jc 57 647 209 3 308 310 311 312 654,jf 57 eN 313,jz,jh [],jg 58,jc 58 657 216 2 315 0 0 317 660,jf 58 eN 318]
noncomputable def Fm (P:Params):List Obj:=[jz,jh [],jt 666 ["body","times","stream","length","flags","part"],jz,jg 59,jc 59 663 224 2 320 322 323 324 672,jf 59 eN 325,jz,jh [],jt 678 ["body","wanted"],jz,jg 60,jc 60 675 232 1 327 329 330 331 680,jf 60 eN 332,jz,jh [],jt 692 ["data","rest","byte","step"],jz,jg 64,jc 64 689 239 1 334 336 337 338 696,jf 64 F8 339,jq [jn 76 701,jn 119 702,jn 142 703],jz,jh [],jt 730 ["data","place","kinds","there","k"],jz,jg 78,jc 78 727 262 3 342 344 345 346 735,jf 78 kh 347,jz,jh [],jt 741 ["data"]]
noncomputable def E9 (P:Params):List Obj:=[jz,jg 79,jc 79 738 273 1 349 351 352 353 742,jf 79 kh 354,jz,jh [],jt 748 ["kind","body","first"],jz,jg 80,jc 80 745 275 2 356 358 359 360 751,jf 80 kh 361,jz,jh [],jt 757 ["data","place"],jz,jg 81,jc 81 754 278 2 363 365 366 367 759,jf 81 kh 368,jz,jh [],jt 765 ["data","place","end"],jz,jg 82,jc 82 762 280 3 370 372 373 374 768,jf 82 kh 375,jz,jh [],jt 774 ["data","place"],jz,jg 83,jc 83 771 282 2 377 379 380 381 776,jf 83 kh 382]
noncomputable def DI (P:Params):List Obj:=[jz,jh [],jt 782 ["data","place","end"],jz,jg 84,jc 84 779 288 2 384 386 387 388 785,jf 84 kh 389,jz,jh [],jt 791 ["body"],jz,jg 85,jc 85 788 295 1 391 393 394 395 792,jf 85 kh 396,jz,jh [],jt 811 ["streams","part","before","rate","rate_before","time","time_before"],jz,jg 92,jc 92 808 304 3 398 400 401 402 818,jf 92 zz 403,jz,jh [],jg 93,jc 93 821 310 2 405 0 0 407 824,jf 93 zz 408,jz,jy "type.__prepare__" (.type "type"),jd [je P "__module__" 869 dm,je P "__qualname__" 871 (js "Thing" 870),ji P "__firstlineno__" 873 339,jv P "__init__" 882 423,jv P "__static_attributes__" 887 424],jz,jh [341,4,422],jD "Thing" "Thing" 864 339 413 867]
noncomputable def J4 (P:Params):List Obj:=[jx 415 412 dm,jz,jh [],jt 877 ["self","answer","place"],jz,jG (b_ (ai 111) 0) "Thing.__init__",jC (b_ (ai 111) 0) "Thing.__init__" 874 341 3 417 419 420 421 880,jF (b_ (ai 111) 0) "Thing.__init__" dm 422,jt 883 ["answer","part","place","streams"],gq 4 [je P "__module__" 869 dm,ji P "__firstlineno__" 873 339,jv P "__init__" 882 423,jv P "__static_attributes__" 887 424,jv P "__dict__" 889 427,jv P "__weakref__" 891 428,je P "__doc__" 892 .none],jl "Thing" 426 862 870,jW 888 426,jw 890 426,jp 426,jy "object.__init_subclass__" (.ref 426),jz,jy "type.__prepare__" (.type "type"),jd [je P "__module__" 902 dm,je P "__qualname__" 904 (js "Reader" 903),ji P "__firstlineno__" 906 346,jv P "__init__" 914 444,jv P "__static_attributes__" 925 445],jz,jh [348,4,443],jD "Reader" "Reader" 897 346 434 900,jx 436 433 dm,jz,jh [],jt 910 ["self","mend"],jz,jG (b_ (ai 112) 0) "Reader.__init__",jC (b_ (ai 112) 0) "Reader.__init__" 907 348 2 438 440 441 442 912,jF (b_ (ai 112) 0) "Reader.__init__" dm 443,jt 915 ["closed","due","end_told","lost","mend","opening_right","pending","place","reel","taken"],gq 4 [je P "__module__" 902 dm,ji P "__firstlineno__" 906 346,jv P "__init__" 914 444,jv P "__static_attributes__" 925 445,jv P "__dict__" 927 448,jv P "__weakref__" 929 449,je P "__doc__" 930 .none],jl "Reader" 447 895 903]
noncomputable def G5 (P:Params):List Obj:=[jW 926 447,jw 928 447,jp 447,jy "object.__init_subclass__" (.ref 447),jz,jh [],jt 936 ["reader","data","last","count"],jz,jg 113,jc 113 933 359 3 452 454 455 456 940,jf 113 dm 457,jz,jh [],jt 946 ["reader","thing"],jz,jg 114,jc 114 943 369 1 459 461 462 463 948,jf 114 dm 464,jz,jh [],jt 954 ["reader","thing","told"],jz,jg 115,jc 115 951 377 2 466 468 469 470 957,jf 115 dm 471,jz,jh [],jt 963 ["reader"],jz,jg 116,jc 116 960 394 1 473 475 476 477 964,jf 116 dm 478]
noncomputable def K5 (P:Params):List Obj:=[jz,jh [],jt 970 ["reader"],jz,jg 117,jc 117 967 401 1 480 482 483 484 971,jf 117 dm 485,jz,jh [],jt 977 ["reader","kind","stream","place"],jz,jg 118,jc 118 974 412 4 487 489 490 491 981,jf 118 dm 492,jz,jh [],jt 987 ["reader","fault","body"],jz,jg 119,jc 119 984 414 1 494 496 497 498 990,jf 119 dm 499,jz,jh [],jt 996 ["reader"],jz,jg 120,jc 120 993 427 1 501 503 504 505 997,jf 120 dm 506,jz,jh [],jt 1003 ["reader","body","kind","fault"],jz]
noncomputable def K4 (P:Params):List Obj:=[jg 121,jc 121 1000 433 2 508 510 511 512 1007,jf 121 dm 513,jz,jh [],jt 1013 ["body","thing"],jz,jg 122,jc 122 1010 444 1 515 517 518 519 1015,jf 122 dm 520,jz,jh [],jt 1021 ["reader","body","part","wrong","answer","thing"],jz,jg 123,jc 123 1018 448 2 522 524 525 526 1027,jf 123 dm 527,jz,jh [],jg 124,jc 124 1030 460 2 529 0 0 531 1033,jf 124 dm 532,jz,jh [],jt 1039 ["reader"],jz,jg 125,jc 125 1036 466 1 534 536 537 538 1040,jf 125 dm 539,jz,jh [],jt 1046 ["reader"]]
noncomputable def H5 (P:Params):List Obj:=[jz,jg 126,jc 126 1043 472 1 541 543 544 545 1047,jf 126 dm 546,jz,jh [],jt 1053 ["data","reader"],jz,jg 127,jc 127 1050 480 1 548 550 551 552 1055,jf 127 dm 553,jz,jh [],jt 1063 ["part"],jz,jg 129,jc 129 1060 489 1 555 557 558 559 1064,jf 129 k6 560,jz,jh [],jt 1070 ["reel","last"],jz,jg 130,jc 130 1067 491 1 562 564 565 566 1072,jf 130 k6 567,jz,jh [],jt 1078 ["reel","part"],jz,jg 131,jc 131 1075 496 2 569 571 572 573 1080,jf 131 k6 574]
noncomputable def KJ (P:Params):List Obj:=[jz,jh [],jt 1086 ["reel","part","form"],jz,jg 132,jc 132 1083 499 2 576 578 579 580 1089,jf 132 k6 581,jz,jh [],jt 1095 ["reel"],jz,jg 133,jc 133 1092 508 1 583 585 586 587 1096,jf 133 k6 588,jz,jh [],jt 1102 ["reel","part","boxes"],jz,jg 134,jc 134 1099 512 2 590 592 593 594 1105,jf 134 k6 595,jz,jh [],jt 1111 ["reel"],jz,jg 135,jc 135 1108 516 1 597 599 600 601 1112,jf 135 k6 602,jq [.type "Exception"],jy "type.__prepare__" (.type "type"),jd [je P "__module__" 1128 jQ,je P "__qualname__" 1130 (js "NotKnown" 1129),ji P "__firstlineno__" 1132 521,jv P "__static_attributes__" 1133 611],jz]
noncomputable def MZ (P:Params):List Obj:=[jh [],jD "NotKnown" "NotKnown" 1123 521 607 1126,jx 609 606 jQ,jz,gq 3 [je P "__module__" 1128 jQ,ji P "__firstlineno__" 1132 521,jv P "__static_attributes__" 1133 611,jv P "__weakref__" 1135 614,je P "__doc__" 1136 .none],jE "NotKnown" 613 604 1121 1129,jw 1134 613,jp 613,jy "object.__init_subclass__" (.ref 613),jz,jh [],jt 1144 ["data","place","head","index","reel","parts","fault"],jz,jg 140,jc 140 1141 523 1 617 619 620 621 1151,jf 140 jQ 622,jz,jh [],jt 1157 ["data","tail","place","back"],jz,jg 141,jc 141 1154 538 1 624 626 627 628 1161,jf 141 jQ 629,jz,jh [],jt 1167 ["data","place","kind","body"],jz,jg 142,jc 142 1164 549 3 631 633 634 635 1171,jf 142 jQ 636,jz,jh []]
noncomputable def Le (P:Params):List Obj:=[jt 1177 ["reel","parts","part"],jz,jg 143,jc 143 1174 556 2 638 640 641 642 1180,jf 143 jQ 643,jq [.type "ValueError"],jy "type.__prepare__" (.type "type"),jd [je P "__module__" 1232 cG,je P "__qualname__" 1234 (js "UnknownCall" 1233),ji P "__firstlineno__" 1236 579,jv P "__static_attributes__" 1237 652],jz,jh [],jD "UnknownCall" "UnknownCall" 1227 579 648 1230,jx 650 647 cG,jz,gq 3 [je P "__module__" 1232 cG,ji P "__firstlineno__" 1236 579,jv P "__static_attributes__" 1237 652,jv P "__weakref__" 1239 655,je P "__doc__" 1240 .none],sJ "UnknownCall" [.type "ValueError"] [.type "ValueError",.type "Exception",.type "BaseException",.type "object"] 654 (some (.ref 645)) 1225 1233 "ValueError.__new__",jw 1238 654,jp 654,jy "object.__init_subclass__" (.ref 654),jz,jy "type.__prepare__" (.type "type"),jd [je P "__module__" 1250 cG,je P "__qualname__" 1252 (js "Record" 1251),ji P "__firstlineno__" 1254 581,jv P "__init__" 1261 671,jv P "__static_attributes__" 1265 672],jz,jh [583,4,670],jD "Record" "Record" 1245 581 661 1248,jx 663 660 cG,jz,jh [],jt 1258 ["self"],jz,jG (b_ (ai 163) 0) "Record.__init__",jC (b_ (ai 163) 0) "Record.__init__" 1255 583 1 665 667 668 669 1259,jF (b_ (ai 163) 0) "Record.__init__" cG 670]
noncomputable def Kc (P:Params):List Obj:=[jt 1262 ["reader","reel","writes"],gq 4 [je P "__module__" 1250 cG,ji P "__firstlineno__" 1254 581,jv P "__init__" 1261 671,jv P "__static_attributes__" 1265 672,jv P "__dict__" 1267 675,jv P "__weakref__" 1269 676,je P "__doc__" 1270 .none],jl "Record" 674 1243 1251,jW 1266 674,jw 1268 674,jp 674,jy "object.__init_subclass__" (.ref 674),jz,jh [],jt 1276 ["record","reader","reel","writes"],jz,jg 164,jc 164 1273 587 4 679 681 682 683 1280,jf 164 cG 684,jz,jh [],jt 1286 ["record"],jz,jg 165,jc 165 1283 591 1 686 688 689 690 1287,jf 165 cG 691,jz,jy "type.__prepare__" (.type "type"),jd [je P "__module__" 1297 cG,je P "__qualname__" 1299 (js "Cursor" 1298),ji P "__firstlineno__" 1301 593,jv P "__init__" 1309 706,jv P "__static_attributes__" 1312 707],jz,jh [595,4,705],jD "Cursor" "Cursor" 1292 593 696 1295,jx 698 695 cG,jz,jh [],jt 1305 ["self","numbers"],jz]
noncomputable def MU (P:Params):List Obj:=[jG (b_ (ai 166) 0) "Cursor.__init__",jC (b_ (ai 166) 0) "Cursor.__init__" 1302 595 2 700 702 703 704 1307,jF (b_ (ai 166) 0) "Cursor.__init__" cG 705,jt 1310 ["at","numbers"],gq 4 [je P "__module__" 1297 cG,ji P "__firstlineno__" 1301 593,jv P "__init__" 1309 706,jv P "__static_attributes__" 1312 707,jv P "__dict__" 1314 710,jv P "__weakref__" 1316 711,je P "__doc__" 1317 .none],jl "Cursor" 709 1290 1298,jW 1313 709,jw 1315 709,jp 709,jy "object.__init_subclass__" (.ref 709),jz,jh [],jt 1323 ["cursor"],jz,jg 167,jc 167 1320 598 1 714 716 717 718 1324,jf 167 cG 719,jz,jh [],jt 1330 ["cursor","size"],jz,jg 168,jc 168 1327 601 1 721 723 724 725 1332,jf 168 cG 726,jz,jh [],jt 1338 ["calls","record","cursor","told","answer"],jz,jg 169,jc 169 1335 605 1 728 730 731 732 1343,jf 169 cG 733,jz]
noncomputable def Ma (P:Params):List Obj:=[jh [],jt 1349 ["record","cursor","call","last","which"],jz,jg 170,jc 170 1346 614 2 735 737 738 739 1354,jf 170 cG 740,jz,jh [],jt 1360 ["cursor","stream","flags","time","length"],jz,jg 171,jc 171 1357 639 1 742 744 745 746 1365,jf 171 cG 747,jz,jh [],jt 1371 ["record","data","stop"],jz,jg 172,jc 172 1368 645 2 749 751 752 753 1374,jf 172 cG 754,jz,jh [],jt 1380 ["record","mend","reader"],jz,jg 173,jc 173 1377 653 2 756 758 759 760 1383,jf 173 cG 761,jz,jh [],jt 1389 ["record","last","data","reader"],jz,jg 174]
noncomputable def L3 (P:Params):List Obj:=[jc 174 1386 659 3 763 765 766 767 1393,jf 174 cG 768,jz,jh [],jt 1399 ["record"],jz,jg 175,jc 175 1396 670 1 770 772 773 774 1400,jf 175 cG 775,jz,jh [],jt 1406 ["record","k","streams","stream"],jz,jg 176,jc 176 1403 674 2 777 779 780 781 1410,jf 176 cG 782,jz,jh [],jt 1416 ["record","which","time","reel","found"],jz,jg 177,jc 177 1413 682 3 784 786 787 788 1421,jf 177 cG 789,jz,jh [],jt 1427 ["record","numbers","streams"],jz,jg 178,jc 178 1424 692 2 791 793 794 795 1430,jf 178 cG 796,jz,jh []]
noncomputable def Dd (P:Params):List Obj:=[jt 1436 ["record","part"],jz,jg 179,jc 179 1433 699 2 798 800 801 802 1438,jf 179 cG 803,jz,jh [],jt 1444 ["record"],jz,jg 180,jc 180 1441 707 1 805 807 808 809 1445,jf 180 cG 810,jz,jh [],jt 1451 ["record","data"],jz,jg 181,jc 181 1448 712 2 812 814 815 816 1453,jf 181 cG 817,jz,jh [],jt 1459 ["data"],jz,jg 182,jc 182 1456 719 1 819 821 822 823 1460,jf 182 cG 824]
noncomputable def GK (P:Params):List (List Obj):=[L1 P,JH P,HQ P,KH P,Gn P,H9 P,C2 P,KP P,Jj P,DL P,Fm P,E9 P,DI P,J4 P,G5 P,K5 P,K4 P,H5 P,KJ P,MZ P,Le P,Kc P,MU P,Ma P,L3 P,Dd P]
noncomputable def AY (P:Params) (a:Nat):Obj:=((GK P).getD (a / 32) []).getD (a % 32) jz
noncomputable def EH (k r v:Nat) (m:Value) (P:Params) (i:Nat):Obj:=bif Nat.beq i 3 then Bn k m P else bif Nat.beq i 12 then jh (AJ.take r) else bif Nat.beq i 2 then yG v P else AY P i
local macro_rules
  | `(#v[$n:num, $v, $m, $k, $r, $p]) => do
    let N := n.getNat
    let rec go : Nat → Nat → Nat → Lean.MacroM Lean.Term
      | 0, _, _ => `(BT.nil)
      | d + 1, i, s => if i < N then do
          let x ← go d (i + s) (2 * s)
          let y ← go d (i + 2 * s) (2 * s)
          let o ← if i == 3 then `(Bn $k $m $p) else if i == 12 then `(jh (AJ.take $r)) else if i == 2 then `(yG $v $p) else `(AY $p $(Lean.quote i))
          `(BT.node $o $x $y)
        else `(BT.nil)
    go 11 0 1
noncomputable def CJ (P:Params):BT:=#v[15,0,cG,0,0,P]
noncomputable def CA (P:Params):BT:=#v[178,1,fg,34,54,P]
noncomputable def xE (P:Params):BT:=#v[315,1,eN,64,102,P]
noncomputable def AF (P:Params):BT:=#v[431,1,dm,114,147,P]
noncomputable def wO (P:Params):BT:=#v[624,2,jQ,141,222,P]
noncomputable def uY (P:Params):BT:=#v[826,2,cG,182,294,P]
noncomputable def jo (P:Params) (a:Nat):Obj:=EH 182 294 2 cG P a
end RL
section
open PySem PySem.W PyProof.Rows
namespace HB
noncomputable abbrev pw:Program:=PySem.Challenge.pw_reelcutdesk_s01_answers
noncomputable abbrev P0:Pos:=⟨0,0,0,0⟩
noncomputable abbrev bE:List Stmt:=behindTheImports pw
noncomputable def env:Env:={scope:=pw.main.scope,locals:=mainNs,globals:=mainNs,cells:=[],code:= .ref 13,frame:=some 14}
noncomputable abbrev cE:Code:= .body bE env
noncomputable abbrev S0 (w:World) (os:OsState):Shared:=⟨boot_heap w.params,Array.mk [],boot_drawn,boot_toks,os⟩
noncomputable abbrev St (T:BT) (os:OsState) (n t:Nat):SharedT:=⟨T,n,{},Array.mk [],{},t,os⟩
noncomputable abbrev Sb (w:World) (os:OsState):Shared:=SharedT.abs (St (RL.CJ w.params) os 15 187)
noncomputable abbrev H1 (P:Params):Heap:=absHeap (RL.uY P) 826 {}
noncomputable abbrev Sk (w:World) (os:OsState):Shared:=SharedT.abs (St (RL.uY w.params) os 826 1463)
noncomputable def l0:List Stmt:=[RL.ai 0,RL.ai 1,RL.ai 2,RL.ai 3,RL.ai 4,RL.ai 5,RL.ai 6,RL.ai 7,RL.ai 8,RL.ai 9,RL.ai 10,RL.ai 11,RL.ai 12,RL.ai 13,RL.ai 14,RL.ai 15,RL.ai 16,RL.ai 17,RL.ai 18,RL.ai 19,RL.ai 20,RL.ai 21,RL.ai 22,RL.ai 23,RL.ai 24,RL.ai 25,RL.ai 26]
noncomputable def l1:List Stmt:=[RL.ai 27,RL.ai 28,RL.ai 29,RL.ai 30,RL.ai 31,RL.ai 32,RL.ai 33,RL.ai 34,RL.ai 35,RL.ai 36,RL.ai 37,RL.ai 38,RL.ai 39,RL.ai 40,RL.ai 41,RL.ai 42,RL.ai 43,RL.ai 44,RL.ai 45,RL.ai 46,RL.ai 47,RL.ai 48,RL.ai 49,RL.ai 50,RL.ai 51,RL.ai 52,RL.ai 53,RL.ai 54,RL.ai 55,RL.ai 56,RL.ai 57]
noncomputable def l2:List Stmt:=[RL.ai 58,RL.ai 59,RL.ai 60,RL.ai 61,RL.ai 62,RL.ai 63,RL.ai 64,RL.ai 65,RL.ai 66,RL.ai 67,RL.ai 68,RL.ai 69,RL.ai 70,RL.ai 71,RL.ai 72,RL.ai 73,RL.ai 74,RL.ai 75,RL.ai 76,RL.ai 77,RL.ai 78,RL.ai 79,RL.ai 80,RL.ai 81,RL.ai 82,RL.ai 83,RL.ai 84,RL.ai 85,RL.ai 86,RL.ai 87,RL.ai 88,RL.ai 89,RL.ai 90,RL.ai 91,RL.ai 92,RL.ai 93,RL.ai 94,RL.ai 95,RL.ai 96,RL.ai 97,RL.ai 98,RL.ai 99,RL.ai 100,RL.ai 101,RL.ai 102,RL.ai 103,RL.ai 104,RL.ai 105,RL.ai 106,RL.ai 107,RL.ai 108,RL.ai 109,RL.ai 110,RL.ai 111]
noncomputable def l3:List Stmt:=[RL.ai 112,RL.ai 113,RL.ai 114,RL.ai 115,RL.ai 116,RL.ai 117,RL.ai 118,RL.ai 119,RL.ai 120,RL.ai 121,RL.ai 122,RL.ai 123,RL.ai 124,RL.ai 125,RL.ai 126,RL.ai 127,RL.ai 128,RL.ai 129,RL.ai 130,RL.ai 131,RL.ai 132,RL.ai 133,RL.ai 134,RL.ai 135,RL.ai 136,RL.ai 137,RL.ai 138,RL.ai 139,RL.ai 140]
noncomputable def l4:List Stmt:=[RL.ai 141,RL.ai 142,RL.ai 143,RL.ai 144,RL.ai 145,RL.ai 146,RL.ai 147,RL.ai 148,RL.ai 149,RL.ai 150,RL.ai 151,RL.ai 152,RL.ai 153,RL.ai 154,RL.ai 155,RL.ai 156,RL.ai 157,RL.ai 158,RL.ai 159,RL.ai 160,RL.ai 161,RL.ai 162,RL.ai 163,RL.ai 164,RL.ai 165,RL.ai 166,RL.ai 167,RL.ai 168,RL.ai 169,RL.ai 170,RL.ai 171,RL.ai 172,RL.ai 173,RL.ai 174,RL.ai 175,RL.ai 176,RL.ai 177,RL.ai 178,RL.ai 179,RL.ai 180,RL.ai 181,RL.ai 182]
theorem pre (w:World) (os:OsState):topGo treeTable pw w 11 (some (.ref 6)) 12 (S0 w os) (topStub pw)=some (Sb w os,⟨denote treeTable cE,cE,P0,[topFrame P0]⟩):=by kernel_rfl
theorem cK (w:World) (os:OsState):segRun treeTable pw w 11 (some (.ref 6)) 1 1 (Sb w os) (blockOf bE env cE P0 [topFrame P0])=some (.next,Sb w os,cE,P0):=by kernel_rfl
theorem Kk:bE=l0++(l1++(l2++(l3++(l4++([]))))):=by kernel_rfl
theorem p0:∀w:World,(λ(p:Program) (b:List Stmt) (os:OsState)=>segRunT treeTable p w 11 (some (.ref 6)) 1 1226 (St (RL.CJ w.params) os 15 187) (piecesOf l0 env (.body b env) ⟨0,0,0,0⟩ [topFrame P0]))=λ_ b os=>some (.next,(St (RL.CA w.params) os 178 431),.body b env,⟨98,0,105,26⟩):=by
 rw[PySem.W.Fast.te10110043849684766642,PySem.W.Fast.te14364793385576792824]
 intro w
 kernel_rfl
theorem p1:∀w:World,(λ(p:Program) (b:List Stmt) (os:OsState)=>segRunT treeTable p w 11 (some (.ref 6)) 1 1026 (St (RL.CA w.params) os 178 431) (piecesOf l1 env (.body b env) ⟨98,0,105,26⟩ [topFrame P0]))=λ_ b os=>some (.next,(St (RL.xE w.params) os 315 657),.body b env,⟨209,0,215,26⟩):=by
 rw[PySem.W.Fast.te10110043849684766642,PySem.W.Fast.te14364793385576792824]
 intro w
 kernel_rfl
theorem p2:∀w:World,(λ(p:Program) (b:List Stmt) (os:OsState)=>segRunT treeTable p w 11 (some (.ref 6)) 1 1021 (St (RL.xE w.params) os 315 657) (piecesOf l2 env (.body b env) ⟨209,0,215,26⟩ [topFrame P0]))=λ_ b os=>some (.next,(St (RL.AF w.params) os 431 895),.body b env,⟨339,0,345,24⟩):=by
 rw[PySem.W.Fast.te10110043849684766642,PySem.W.Fast.te14364793385576792824]
 intro w
 kernel_rfl
theorem p3:∀w:World,(λ(p:Program) (b:List Stmt) (os:OsState)=>segRunT treeTable p w 11 (some (.ref 6)) 1 1163 (St (RL.AF w.params) os 431 895) (piecesOf l3 env (.body b env) ⟨339,0,345,24⟩ [topFrame P0]))=λ_ b os=>some (.next,(St (RL.wO w.params) os 624 1154),.body b env,⟨523,0,537,15⟩):=by
 rw[PySem.W.Fast.te10110043849684766642,PySem.W.Fast.te14364793385576792824]
 intro w
 kernel_rfl
theorem p4:∀w:World,(λ(p:Program) (b:List Stmt) (os:OsState)=>segRunT treeTable p w 11 (some (.ref 6)) 1 1480 (St (RL.wO w.params) os 624 1154) (piecesOf l4 env (.body b env) ⟨523,0,537,15⟩ [topFrame P0]))=λ_ b os=>some (.next,(St (RL.uY w.params) os 826 1463),.body b env,⟨719,0,720,29⟩):=by
 rw[PySem.W.Fast.te10110043849684766642,PySem.W.Fast.te14364793385576792824]
 intro w
 kernel_rfl
theorem fin (w:World) (os:OsState):topRun treeTable pw w 11 (some (.ref 6)) 2 (Sk w os) (restOf [] env cE ⟨719,0,720,29⟩ [topFrame P0])=some (Sk w os):=by kernel_rfl
theorem DQ (w:World) (os:OsState):topRun treeTable pw w 11 (some (.ref 6)) 5931 (S0 w os) (topStub pw)=some (Sk w os):=by
 refine go_top (n:=12) (N:=5919) (pre w os) ?_
 refine piece_block (n:=1) (N:=5918) (cK w os) ?_
 rw[show restOf bE env cE P0 [topFrame P0]=restOf _ env cE P0 [topFrame P0] from congrArg (λl=>restOf l env cE P0 [topFrame P0]) Kk]
 exact piece_app (n:=1226) (N:=4692) (segRun_of (congrFun (congrFun (congrFun (p0 w) pw) bE) os)) <| piece_app (n:=1026) (N:=3666) (segRun_of (congrFun (congrFun (congrFun (p1 w) pw) bE) os)) <| piece_app (n:=1021) (N:=2645) (segRun_of (congrFun (congrFun (congrFun (p2 w) pw) bE) os)) <| piece_app (n:=1163) (N:=1482) (segRun_of (congrFun (congrFun (congrFun (p3 w) pw) bE) os)) <| piece_app (n:=1480) (N:=2) (segRun_of (congrFun (congrFun (congrFun (p4 w) pw) bE) os)) <| fin w os
end HB
namespace HB
noncomputable abbrev q:Program:={pw with main:={pw.main with body:=[pw.main.body.getD 169 (.Pass ⟨0,0,0,0⟩)]}}
noncomputable abbrev Xt:Shared->Bool:=λs=>xlAt q [] s&&recOk [] s
theorem Lq:∀w:World,(fencedOpening treeTable pw w 12000).map (λs=>(s.heap,s.gens,s.drawn,s.toks))=some (boot_heap w.params,Array.mk [],boot_drawn,boot_toks):=boot_open (by kernel_rfl) (by kernel_rfl) (λ_=>by kernel_rfl)
theorem size (w:World):((boot_heap w.params).isNs mainGlobals&&(Array.mk []:Array GenState).size==0,(boot_heap w.params).objs.size,(boot_heap w.params).nsMap mainGlobals "__annotations__")=(true,11,some (.ref 6)):=by kernel_rfl
theorem A3 (w:World) (os:OsState):gensDone (Sk w os)=true:=by kernel_rfl
theorem A2 (w:World):namesBound pw (H1 w.params)=true:=by kernel_rfl
theorem A1 (w:World):staticsOk (importedModules pw.main.body) (boot_heap w.params) (H1 w.params)=true:=by kernel_rfl
theorem A4 (w:World):laidKept (boot_heap w.params) (H1 w.params)=true:=by kernel_rfl
end HB
namespace HB
noncomputable abbrev L:List Str:=(pw.main.scope.names.map (·.1)).filter λx=>x != "answers"
theorem Nn (w:World) (os:OsState):(Sk w os).heap.keysOk (looseW q L) ((recsOf q).map (·.name)) ((litsOf q).map (·.1)) ((clssOf q (looseW q L)).map (·.name))=true:=by kernel_rfl
theorem B (w:World) (os:OsState):openSeen q L (importedModules pw.main.body) Xt true (Sk w os)=openGood q L:=by kernel_rfl
theorem JW:(chainsOk q&&opensWell pw)=true:=by kernel_rfl
theorem left {α:Type} {Yf:Shared->α} {Ya:World->α} (hy:∀w os,Yf (Sk w os)=Ya w):LeftO pw q L Xt Yf Ya 12000 true:=
 LeftO.of_pieces (H₀:=boot_heap) (H₁:=H1) (gs₀:=Array.mk []) (gs₁:=Array.mk []) (d₀:=boot_drawn) (d₁:={}) (k₀:=boot_toks) (k₁:=1463) (m₀:=11) (ann:=some (.ref 6)) (M:=5931) Lq size DQ (by kernel_rfl) λw=>funext λos=>by
  have a1:=A1 w
  have a2:=A2 w
  have a3:=A3 w os
  have a4:=A4 w
  have b:=B w os
  have c:=hy w os
  refine Prod.ext ?_ (Prod.ext b c)
  show(staticsOk (importedModules pw.main.body) (boot_heap w.params) (H1 w.params)&&namesBound pw (H1 w.params)&&gensDone (Sk w os)&&laidKept (boot_heap w.params) (H1 w.params))=true
  rw[a1,a2,a3,a4]
  rfl
end HB
namespace HB
local macro_rules
  | `(#v[$f, $g]) => do
    let mut r ← `([])
    for n in [2, 3, 15, 22, 24, 25, 27, 28, 29, 30, 31, 32, 42, 44, 45, 47, 48, 49, 50, 51, 52, 53, 56, 59, 60, 61, 63, 64, 66, 67, 68, 70, 71, 73, 74, 75, 77, 78, 80, 81, 82, 84, 85, 87, 88, 89, 91, 92, 94, 95, 96, 98, 99, 101, 102, 103, 105, 106, 108, 109, 110, 112, 113, 115, 116, 117, 119, 120, 122, 123, 124, 126, 127, 129, 130, 131, 133, 134, 136, 137, 138, 141, 142, 143, 145, 146, 148, 149, 150, 152, 153, 155, 156, 164, 166, 167, 169, 170, 171, 172, 173, 174, 175, 185, 187, 188, 190, 191, 192, 193, 194, 195, 196, 206, 208, 209, 211, 212, 213, 214, 215, 216, 217, 220, 222, 223, 225, 226, 227, 229, 230, 232, 233, 234, 235, 237, 238, 240, 241, 242, 244, 245, 247, 248, 249, 252, 253, 254, 256, 257, 259, 260, 261, 263, 264, 266, 267, 268, 270, 271, 273, 274, 275, 277, 278, 280, 281, 282, 284, 285, 287, 288, 289, 291, 292, 294, 295, 296, 299, 300, 301, 303, 304, 306, 307, 308, 310, 311, 313, 314, 315, 318, 319, 320, 322, 323, 325, 326, 327, 329, 330, 332, 333, 334, 336, 337, 339, 340, 341, 342, 344, 345, 347, 348, 349, 351, 352, 354, 355, 356, 358, 359, 361, 362, 363, 365, 366, 368, 369, 370, 372, 373, 375, 376, 377, 379, 380, 382, 383, 384, 386, 387, 389, 390, 391, 393, 394, 396, 397, 398, 400, 401, 403, 404, 405, 408, 409, 417, 419, 420, 422, 423, 424, 425, 426, 427, 428, 438, 440, 441, 443, 444, 445, 446, 447, 448, 449, 452, 454, 455, 457, 458, 459, 461, 462, 464, 465, 466, 468, 469, 471, 472, 473, 475, 476, 478, 479, 480, 482, 483, 485, 486, 487, 489, 490, 492, 493, 494, 496, 497, 499, 500, 501, 503, 504, 506, 507, 508, 510, 511, 513, 514, 515, 517, 518, 520, 521, 522, 524, 525, 527, 528, 529, 532, 533, 534, 536, 537, 539, 540, 541, 543, 544, 546, 547, 548, 550, 551, 553, 554, 555, 557, 558, 560, 561, 562, 564, 565, 567, 568, 569, 571, 572, 574, 575, 576, 578, 579, 581, 582, 583, 585, 586, 588, 589, 590, 592, 593, 595, 596, 597, 599, 600, 602, 603, 604, 611, 612, 613, 614, 617, 619, 620, 622, 623, 624, 626, 627, 629, 630, 631, 633, 634, 636, 637, 638, 640, 641, 643, 644, 645, 652, 653, 654, 655, 665, 667, 668, 670, 671, 672, 673, 674, 675, 676, 679, 681, 682, 684, 685, 686, 688, 689, 691, 692, 700, 702, 703, 705, 706, 707, 708, 709, 710, 711, 714, 716, 717, 719, 720, 721, 723, 724, 726, 727, 728, 730, 731, 733, 734, 735, 737, 738, 740, 741, 742, 744, 745, 747, 748, 749, 751, 752, 754, 755, 756, 758, 759, 761, 762, 763, 765, 766, 768, 769, 770, 772, 773, 775, 776, 777, 779, 780, 782, 783, 784, 786, 787, 789, 790, 791, 793, 794, 796, 797, 798, 800, 801, 803, 804, 805, 807, 808, 810, 811, 812, 814, 815, 817, 818, 819, 821, 822, 824, 825].reverse do
      let x := Lean.Syntax.mkNumLit (toString n)
      if g.raw.isNatLit? == some 0 then r ← `((nat_lit $x, $f $x) :: $r) else r ← `(nat_lit $x :: $r)
    return r
noncomputable def K (P:Params):Frag:=#v[RL.jo P,0]
noncomputable def as:List Addr:=#v[0,1]
theorem Ie (P:Params):as=(K P).map (·.1):=by kernel_rfl
theorem hy (w:World) (os:OsState):as.map (Sk w os).heap.get?=(K w.params).map λp=>some p.2:=by kernel_rfl
noncomputable abbrev hk:Hook:=kHook K as Ie
theorem Fj (hc:WalkOS q L (XL q []) hk.says PySem.Challenge.rw_reelcutdesk_s01_answers ((defOf q "answers").get (by kernel_rfl)).1 [] λf vs=>PySem.call f vs):PySem.Challenge.rw_reelcutdesk_s01_answers.Holds:=by
 refine holds_os (q:=q) (loose:=L) (Xt:=Xt) (XP:=XL q []) (Yf:=hk.obs) (Ya:=hk.val) (YP:=hk.says) (N:=12000) (left hy) hk.of hk.keeps (λs e=>xl_of s (Bool.and_eq_true_iff.mp e).1) XL.keeps (by rfl) (by rfl) (by rfl) (λs e=>recFacts_of (Bool.and_eq_true_iff.mp e).2) os_shapes (by decide+kernel) JW ⟨rfl,rfl,rfl,rfl,rfl,by decide+kernel⟩ ⟨[.list [.int 3]],by decide+kernel,by decide+kernel⟩ hc
end HB
end
namespace RL
open PySem PySem.W PyProof.Rows L2
example:PySem.Challenge.rw_reelcutdesk_s01_answers=PySem.Challenge.rw_reelcutdesk_s01_answers/\HB.K=HB.K:=by
 k_fillS
 exact⟨rfl,rfl⟩
theorem facts (w:World):∃CB CS CP CL CR CT CD CC CF CN fI:Addr,Ey (HB.K w.params) CB CS CP CL CR CT CD CC CF CN fI:=by
 refine' (aa (aa (aa (aa (aa (aa (aa (aa (aa (aa (aa ⟨(aa ⟨?_,(aa (aa (aa (aa (aa (aa (aa (aa (aa ⟨?_,?_,?_⟩)))))))))⟩),(aa ⟨?_,(aa (aa (aa (aa (aa (aa (aa (aa (aa ⟨?_,?_,?_⟩)))))))))⟩),⟨aa ?_,aa ?_,aa ?_,aa ?_,aa ?_,aa ?_,aa ?_,aa ?_,aa ?_,aa ?_,aa ?_,aa ?_,aa ?_,aa ?_,aa ?_,aa ?_,aa ?_,aa ?_,aa ?_,aa ?_,aa ?_,aa ?_,aa ?_,aa ?_,aa ?_,aa ?_,aa ?_,aa ?_,aa ?_,aa ?_,aa ?_,aa ?_,aa ?_,aa ?_,aa ?_,aa ?_,aa ?_,aa ?_,aa ?_,aa ?_,aa ?_,aa ?_,aa ?_,aa ?_,aa ?_,aa ?_,aa ?_,aa ?_,aa ?_,aa ?_,aa ?_,aa ?_,aa ?_,aa ?_,aa ?_,aa ?_,aa ?_,aa ?_,aa ?_,aa ?_,aa ?_,aa ?_,aa ?_,aa ?_,aa ?_,aa ?_,aa ?_,aa ?_,aa ?_,aa ?_,aa ?_,aa ?_,aa ?_,?_,?_,?_,?_,?_,?_⟩,(aa ⟨?_,(aa (aa (aa (aa (aa (aa (aa (aa (aa ⟨?_,?_,?_⟩)))))))))⟩),⟨?_,?_,?_,?_,?_,?_,?_,?_,?_,?_,trivial⟩,(aa (aa (aa (aa (aa (aa (aa (aa (aa (aa (aa (aa (aa (aa (aa (aa (aa (aa (aa (aa (aa (aa ⟨?_,?_,?_,?_,?_,?_,?_,?_,?_,?_,?_⟩)))))))))))))))))))))),(aa ⟨?_,(aa (aa (aa (aa (aa (aa (aa (aa (aa ⟨?_,?_,?_⟩)))))))))⟩),(aa ⟨?_,(aa (aa (aa (aa (aa (aa (aa (aa (aa ⟨?_,?_,?_⟩)))))))))⟩),(aa ⟨?_,(aa (aa (aa (aa (aa (aa (aa (aa (aa ⟨?_,?_,?_⟩)))))))))⟩),(aa ⟨?_,(aa (aa (aa (aa (aa (aa (aa (aa (aa ⟨?_,?_,?_⟩)))))))))⟩),(aa ⟨?_,(aa (aa (aa (aa (aa (aa (aa (aa (aa ⟨?_,?_,?_⟩)))))))))⟩),(aa ⟨?_,(aa (aa (aa (aa (aa (aa (aa (aa (aa ⟨?_,?_,?_⟩)))))))))⟩),(aa ⟨?_,(aa (aa (aa (aa (aa (aa (aa (aa (aa ⟨?_,?_,?_⟩)))))))))⟩),(aa ⟨?_,(aa (aa (aa (aa (aa (aa (aa (aa (aa ⟨?_,?_,?_⟩)))))))))⟩),(aa ⟨?_,(aa (aa (aa (aa (aa (aa (aa (aa (aa ⟨?_,?_,?_⟩)))))))))⟩),(aa ⟨?_,(aa (aa (aa (aa (aa (aa (aa (aa (aa ⟨?_,?_,?_⟩)))))))))⟩),(aa ⟨?_,(aa (aa (aa (aa (aa (aa (aa (aa (aa ⟨?_,?_,?_⟩)))))))))⟩),(aa ⟨?_,(aa (aa (aa (aa (aa (aa (aa (aa (aa ⟨?_,?_,?_⟩)))))))))⟩),(aa ⟨?_,(aa (aa (aa (aa (aa (aa (aa (aa (aa ⟨?_,?_,?_⟩)))))))))⟩),(aa ⟨?_,(aa (aa (aa (aa (aa (aa (aa (aa (aa ⟨?_,?_,?_⟩)))))))))⟩),(aa ⟨?_,(aa (aa (aa (aa (aa (aa (aa (aa (aa ⟨?_,?_,?_⟩)))))))))⟩),(aa (aa (aa (aa (aa (aa (aa ⟨?_,?_⟩))))))),(aa ⟨?_,(aa (aa (aa (aa (aa (aa (aa (aa (aa ⟨?_,?_,?_⟩)))))))))⟩),(aa ⟨?_,(aa (aa (aa (aa (aa (aa (aa (aa (aa ⟨?_,?_,?_⟩)))))))))⟩),(aa ⟨?_,(aa (aa (aa (aa (aa (aa (aa (aa (aa ⟨?_,?_,?_⟩)))))))))⟩),⟨?_,?_,?_,?_,?_,?_,?_,?_,?_,trivial⟩,(aa ⟨?_,(aa (aa (aa (aa (aa (aa (aa (aa (aa ⟨?_,?_,?_⟩)))))))))⟩),(aa ⟨?_,(aa (aa (aa (aa (aa (aa (aa (aa (aa ⟨?_,?_,?_⟩)))))))))⟩),(aa ⟨?_,(aa (aa (aa (aa (aa (aa (aa (aa (aa ⟨?_,?_,?_⟩)))))))))⟩),⟨?_,?_,?_,?_,?_,?_,?_,?_,?_,?_,?_,trivial⟩,⟨?_,?_,?_,?_,?_,?_,trivial⟩,(aa ⟨?_,(aa (aa (aa (aa (aa (aa (aa (aa (aa ⟨?_,?_,?_⟩)))))))))⟩),(aa ⟨?_,(aa (aa (aa (aa (aa (aa (aa (aa (aa ⟨?_,?_,?_⟩)))))))))⟩),(aa ⟨?_,(aa (aa (aa (aa (aa (aa (aa (aa (aa ⟨?_,?_,?_⟩)))))))))⟩),(aa ⟨?_,(aa (aa (aa (aa (aa (aa (aa (aa (aa ⟨?_,?_,?_⟩)))))))))⟩),(aa ⟨?_,(aa (aa (aa (aa (aa (aa (aa (aa (aa ⟨?_,?_,?_⟩)))))))))⟩),⟨?_,?_,?_,?_,?_,?_,?_,?_,trivial⟩,(aa ⟨?_,(aa (aa (aa (aa (aa (aa (aa (aa (aa ⟨?_,?_,?_⟩)))))))))⟩),⟨?_,?_,?_,?_,?_,?_,?_,?_,?_,?_,?_,?_,?_,?_,trivial⟩,(aa ⟨?_,(aa (aa (aa (aa (aa (aa (aa (aa (aa ⟨?_,?_,?_⟩)))))))))⟩),(aa ⟨?_,(aa (aa (aa (aa (aa (aa (aa (aa (aa ⟨?_,?_,?_⟩)))))))))⟩),(aa ⟨?_,(aa (aa (aa (aa (aa (aa (aa (aa (aa ⟨?_,?_,?_⟩)))))))))⟩),(aa ⟨?_,(aa (aa (aa (aa (aa (aa (aa (aa (aa ⟨?_,?_,?_⟩)))))))))⟩),(aa ⟨?_,(aa (aa (aa (aa (aa (aa (aa (aa (aa ⟨?_,?_,?_⟩)))))))))⟩),(aa ⟨?_,(aa (aa (aa (aa (aa (aa (aa (aa (aa ⟨?_,?_,?_⟩)))))))))⟩),(aa ⟨?_,(aa (aa (aa (aa (aa (aa (aa (aa (aa ⟨?_,?_,?_⟩)))))))))⟩),(aa ⟨?_,(aa (aa (aa (aa (aa (aa (aa (aa (aa ⟨?_,?_,?_⟩)))))))))⟩),(aa ⟨?_,(aa (aa (aa (aa (aa (aa (aa (aa (aa ⟨?_,?_,?_⟩)))))))))⟩),(aa ⟨?_,(aa (aa (aa (aa (aa (aa (aa (aa (aa ⟨?_,?_,?_⟩)))))))))⟩),(aa ⟨?_,(aa (aa (aa (aa (aa (aa (aa (aa (aa ⟨?_,?_,?_⟩)))))))))⟩),(aa ⟨?_,(aa (aa (aa (aa (aa (aa (aa (aa (aa ⟨?_,?_,?_⟩)))))))))⟩),(aa ⟨?_,(aa (aa (aa (aa (aa (aa (aa (aa (aa ⟨?_,?_,?_⟩)))))))))⟩),(aa (aa (aa (aa (aa (aa (aa (aa ⟨?_,?_⟩)))))))),(aa ⟨?_,(aa (aa (aa (aa (aa (aa (aa (aa (aa ⟨?_,?_,?_⟩)))))))))⟩),(aa ⟨?_,(aa (aa (aa (aa (aa (aa (aa (aa (aa ⟨?_,?_,?_⟩)))))))))⟩),(aa ⟨?_,(aa (aa (aa (aa (aa (aa (aa (aa (aa ⟨?_,?_,?_⟩)))))))))⟩),(aa ⟨?_,(aa (aa (aa (aa (aa (aa (aa (aa (aa ⟨?_,?_,?_⟩)))))))))⟩),(aa ⟨?_,(aa (aa (aa (aa (aa (aa (aa (aa (aa ⟨?_,?_,?_⟩)))))))))⟩),(aa ⟨?_,(aa (aa (aa (aa (aa (aa (aa (aa (aa ⟨?_,?_,?_⟩)))))))))⟩),(aa ⟨?_,(aa (aa (aa (aa (aa (aa (aa (aa (aa ⟨?_,?_,?_⟩)))))))))⟩),(aa ⟨?_,(aa (aa (aa (aa (aa (aa (aa (aa (aa ⟨?_,?_,?_⟩)))))))))⟩),(aa ⟨?_,(aa (aa (aa (aa (aa (aa (aa (aa (aa ⟨?_,?_,?_⟩)))))))))⟩),(aa ⟨?_,(aa (aa (aa (aa (aa (aa (aa (aa (aa ⟨?_,?_,?_⟩)))))))))⟩),(aa ⟨?_,(aa (aa (aa (aa (aa (aa (aa (aa (aa ⟨?_,?_,?_⟩)))))))))⟩),(aa ⟨?_,(aa (aa (aa (aa (aa (aa (aa (aa (aa ⟨?_,?_,?_⟩)))))))))⟩),(aa ⟨?_,(aa (aa (aa (aa (aa (aa (aa (aa (aa ⟨?_,?_,?_⟩)))))))))⟩),(aa ⟨?_,(aa (aa (aa (aa (aa (aa (aa (aa (aa ⟨?_,?_,?_⟩)))))))))⟩),(aa ⟨?_,(aa (aa (aa (aa (aa (aa (aa (aa (aa ⟨?_,?_,?_⟩)))))))))⟩),(aa ⟨?_,(aa (aa (aa (aa (aa (aa (aa (aa (aa ⟨?_,?_,?_⟩)))))))))⟩),(aa ⟨?_,(aa (aa (aa (aa (aa (aa (aa (aa (aa ⟨?_,?_,?_⟩)))))))))⟩),(aa ⟨?_,(aa (aa (aa (aa (aa (aa (aa (aa (aa ⟨?_,?_,?_⟩)))))))))⟩),(aa ⟨?_,(aa (aa (aa (aa (aa (aa (aa (aa (aa ⟨?_,?_,?_⟩)))))))))⟩),(aa ⟨?_,(aa (aa (aa (aa (aa (aa (aa (aa (aa ⟨?_,?_,?_⟩)))))))))⟩),(aa ⟨?_,(aa (aa (aa (aa (aa (aa (aa (aa (aa ⟨?_,?_,?_⟩)))))))))⟩),(aa ⟨?_,(aa (aa (aa (aa (aa (aa (aa (aa (aa ⟨?_,?_,?_⟩)))))))))⟩),(aa ⟨?_,(aa (aa (aa (aa (aa (aa (aa (aa (aa ⟨?_,?_,?_⟩)))))))))⟩),(aa (aa (aa (aa (aa (aa (aa (aa (aa (aa (aa (aa (aa (aa (aa ⟨?_,?_,?_,?n,?_⟩))))))))))))))),(aa ⟨?_,(aa (aa (aa (aa (aa (aa (aa (aa (aa ⟨?_,?_,?_⟩)))))))))⟩),(aa ⟨?_,(aa (aa (aa (aa (aa (aa (aa (aa (aa ⟨?_,?_,?_⟩)))))))))⟩),(aa ⟨?_,(aa (aa (aa (aa (aa (aa (aa (aa (aa ⟨?_,?_,?_⟩)))))))))⟩),?e,(aa ⟨?_,(aa (aa (aa (aa (aa (aa (aa (aa (aa ⟨?_,?_,?_⟩)))))))))⟩),⟨?_,?_,?_,?_,?_,?_,?_,trivial⟩,(aa ⟨?_,(aa (aa (aa (aa (aa (aa (aa (aa (aa ⟨?_,?_,?_⟩)))))))))⟩),(aa ⟨?_,(aa (aa (aa (aa (aa (aa (aa (aa (aa ⟨?_,?_,?_⟩)))))))))⟩),⟨?_,?_,?_,?_,?_,?_,trivial⟩,(aa ⟨?_,(aa (aa (aa (aa (aa (aa (aa (aa (aa ⟨?_,?_,?_⟩)))))))))⟩),(aa ⟨?_,(aa (aa (aa (aa (aa (aa (aa (aa (aa ⟨?_,?_,?_⟩)))))))))⟩),(aa ⟨?_,(aa (aa (aa (aa (aa (aa (aa (aa (aa ⟨?_,?_,?_⟩)))))))))⟩),(aa ⟨?_,(aa (aa (aa (aa (aa (aa (aa (aa (aa ⟨?_,?_,?_⟩)))))))))⟩),(aa ⟨?_,(aa (aa (aa (aa (aa (aa (aa (aa (aa ⟨?_,?_,?_⟩)))))))))⟩),(aa ⟨?_,(aa (aa (aa (aa (aa (aa (aa (aa (aa ⟨?_,?_,?_⟩)))))))))⟩),(aa ⟨?_,(aa (aa (aa (aa (aa (aa (aa (aa (aa ⟨?_,?_,?_⟩)))))))))⟩),(aa ⟨?_,(aa (aa (aa (aa (aa (aa (aa (aa (aa ⟨?_,?_,?_⟩)))))))))⟩),(aa ⟨?_,(aa (aa (aa (aa (aa (aa (aa (aa (aa ⟨?_,?_,?_⟩)))))))))⟩),(aa ⟨?_,(aa (aa (aa (aa (aa (aa (aa (aa (aa ⟨?_,?_,?_⟩)))))))))⟩),(aa ⟨?_,(aa (aa (aa (aa (aa (aa (aa (aa (aa ⟨?_,?_,?_⟩)))))))))⟩),(aa ⟨?_,(aa (aa (aa (aa (aa (aa (aa (aa (aa ⟨?_,?_,?_⟩)))))))))⟩),(aa ⟨?_,(aa (aa (aa (aa (aa (aa (aa (aa (aa ⟨?_,?_,?_⟩)))))))))⟩),(aa ⟨?_,(aa (aa (aa (aa (aa (aa (aa (aa (aa ⟨?_,?_,?_⟩)))))))))⟩),(aa ⟨?_,(aa (aa (aa (aa (aa (aa (aa (aa (aa ⟨?_,?_,?_⟩)))))))))⟩),(aa ⟨?_,?_,?_,?_,?_,(aa (aa (aa (aa (aa (aa (aa (aa (aa ⟨?_,?_,?_⟩)))))))))⟩),(aa ⟨?_,?_,?_,?_,?_,(aa (aa (aa (aa (aa (aa (aa (aa (aa ⟨?_,?_,?_⟩)))))))))⟩),(aa ⟨?_,?_,?_,?_,?_,(aa (aa (aa (aa (aa (aa (aa (aa (aa ⟨?_,?_,?_⟩)))))))))⟩),(aa ⟨?_,?_,?_,?_,?_,(aa (aa (aa (aa (aa (aa (aa (aa (aa ⟨?_,?_,?_⟩)))))))))⟩),(aa ⟨?_,?_,?_,?_,?_,(aa (aa (aa (aa (aa (aa (aa (aa (aa ⟨?_,?_,?_⟩)))))))))⟩),(aa ⟨?_,?_,?_,?_,?_,(aa (aa (aa (aa (aa (aa (aa (aa (aa ⟨?_,?_,?_⟩)))))))))⟩),(aa ⟨?_,?_,?_,?_,?_,(aa (aa (aa (aa (aa (aa (aa (aa (aa ⟨?_,?_,?_⟩)))))))))⟩),(aa ⟨?_,?_,?_,?_,?_,(aa (aa (aa (aa (aa (aa (aa (aa (aa ⟨?_,?_,?_⟩)))))))))⟩)⟩)))))))))))
 all_goals try k_is
 all_goals try k_is
 case n=>kernel_rfl
 case e=>decide
end RL
namespace RM
open LwReel
variable {L X b left r x:Bytes} {al:UInt8->Bool} {c c':bb} {closed last ae over:Bool} {j k c5 n p pl q v:Nat} {s s0 sk:At} {t:Thing} {α β:Type} {done:List α} {f:Rd α} {g:α->Rd β}
inductive Due where
 | box | tail | search | over | done
 deriving DecidableEq
structure bb where
 aU:Due
 at_:Nat
 streams:Option (List Stream)
 parts:List Info
 lost:Bool
noncomputable def cS (streams:Option (List Stream))(parts:List Info):UInt8->Bool:=λk=>if streams.isNone=true then k==HEAD else(k==PART&&decide (parts.length<PARTS))||k==INDEX
noncomputable def bb.b7 (ae:Bool)(c:bb):bb:=if ae=true/\c.streams.isSome=true then⟨.search,c.at_+1,c.streams,c.parts,true⟩ else⟨.over,c.at_,c.streams,c.parts,c.lost⟩
noncomputable def d8 (ae:Bool)(c:bb)(ss:List Stream)(body:Bytes)(next:Nat):Thing×bb:=
 match run (rPart ss.length) body (c.at_+12) with
 | .error e=>(.fault e.1 (match run (num 4 λ(k:Nat)=>decide (k<ss.length)) body 0 with
  | .ok k=>k
  | .error _=>0) e.2,c.b7 ae)
 | .ok (p,a)=>match disorder ss c.parts p.stream p.time p.flags with
  | some i=>if ae=true then(.part {p with flags:=p.flags+DISORDER} c.at_,⟨.box,next,c.streams,c.parts++[Part.info {p with flags:=p.flags+DISORDER} c.at_],true⟩)
   else(.fault 5 p.stream (a.getD i 0),c.b7 ae)
  | none=>(.part p c.at_,⟨.box,next,c.streams,c.parts++[p.info c.at_],c.lost⟩)
noncomputable def d4 (ae:Bool)(c:bb)(ss:List Stream)(body:Bytes)(next:Nat):Thing×bb:=
 match(if c.lost=true then(match run (rForm ss.length) body (c.at_+12) with
  | .ok _=> .ok ()
  | .error e=> .error e) else run (rHeld c.parts c.at_) body (c.at_+12)) with
 | .error e=>(.fault e.1 0 e.2,c.b7 ae)
 | .ok ()=>(.index,⟨.tail,next,c.streams,c.parts,c.lost⟩)
noncomputable def hE (ae:Bool)(c:bb)(body:Bytes)(next:Nat):Thing×bb:=
 match run rHead body (c.at_+12) with
 | .error e=>(.fault e.1 0 e.2,c.b7 ae)
 | .ok l=>(.head,⟨.box,next,some l,c.parts,c.lost⟩)
noncomputable def fQ (ae:Bool)(c:bb)(kind:UInt8)(body:Bytes)(next:Nat):Thing×bb:=
 match c.streams with
 | none=>hE ae c body next
 | some ss=>if kind=PART then d8 ae c ss body next else d4 ae c ss body next
noncomputable def dE (ae last:Bool)(b:Bytes)(c:bb):Option (Thing×bb):=
 match boxAt b c.at_ (cS c.streams c.parts) with
 | .more=>if last=true then some (.fault 8 0 b.length,c.b7 ae) else none
 | .fault k p=>some (.fault k 0 p,c.b7 ae)
 | .whole kind body next=>some (fQ ae c kind body next)
noncomputable def aV (ae last:Bool)(b:Bytes)(c:bb):Option (Thing×bb):=
 match c.aU with
 | .box=>dE ae last b c
 | .tail=>if c.at_<b.length then some (.fault 9 0 c.at_,c.b7 ae) else if last=true then some (.end_,⟨.done,c.at_,c.streams,c.parts,c.lost⟩) else none
 | .search=>(match search b c.at_ with
  | some q=>some (.found (some q),⟨.box,q,c.streams,c.parts,c.lost⟩)
  | none=>if last=true then some (.found none,⟨.over,c.at_,c.streams,c.parts,c.lost⟩) else none)
 | .over=>some (.end_,⟨.done,c.at_,c.streams,c.parts,c.lost⟩)
 | .done=>none
noncomputable def f3 (ae last:Bool)(b:Bytes):Nat->bb->List Thing
 | 0,_=>[]
 | f+1,c=>match aV ae last b c with
  | none=>[]
  | some (t,c')=>t::f3 ae last b f c'
noncomputable def start:bb:=⟨.box,0,none,[],false⟩
noncomputable def g5 (s:Place):bb:=⟨if s.over=true then .tail else .box,s.at_,s.streams,s.parts,s.lost⟩
theorem oB {k:UInt8}{body:Bytes}(h:boxAt b p al= .whole k body n):p+16<=n/\n<=b.length/\n=p+16+body.length/\al k=true:=by
 unfold boxAt at h;simp only at h;split at h
 .cases h
 .split at h
  .cases h
  .rename_i k0 hk;split at h
   .cases h
   .split at h
    .cases h
    .split at h
     .cases h
     .split at h
      .cases h
      .split at h
       .cases h
       .split at h
        .cases h
        .split at h
         .cases h
         .rename_i h1 h2 d e f g i;injection h with e1 a e3
          subst e1;subst a;subst e3;simp only[bQ,cF] at*;have:al k0=true:=by cases c:al k0 with | true=>rfl | false=>exact absurd c h1
          refine⟨af,af,af,this⟩
theorem pS (h:begins b q=true):q+12<=b.length:=by
 unfold begins at h;simp only[cH,dz,bQ] at h;omega
theorem nI (h:search b p=some q):p<=q/\q+12<=b.length/\begins b q=true:=by
 unfold search at h;have h1:=List.find?_some h;have h2:=List.mem_of_find?_eq_some h;simp only[o1,dz] at h2;exact⟨h2.2,pS h1,h1⟩
theorem Ku {g:Nat}(a:3<=g):
 f3 ae last b g (c.b7 ae)=(if ae=true/\c.streams.isSome=true then(match search b (c.at_+1) with
  | some q=> .found (some q)::f3 ae last b (g - 1) ⟨.box,q,c.streams,c.parts,true⟩
  | none=>if last=true then[.found none,.end_] else[]) else[.end_]):=by
 obtain⟨f,rfl⟩:∃f,g=f+3:=⟨g - 3,af⟩;unfold bb.b7;split
 .show(match aV ae last b _ with | none=>[] | some (t,c')=>t::f3 ae last b (f+2) c')=_;unfold aV;simp only
  cases hs:search b (c.at_+1) with
  | some q=>rfl
  | none=>
   simp only
   cases last with
   | true=>rfl
   | false=>rfl
 .rfl
noncomputable def iK (ae last:Bool)(b:Bytes)(f:Nat)(s:Place):List Thing:=if ae=true/\s.streams.isSome=true then(match search b (s.at_+1) with
 | some q=> .found (some q)::findings ae last b f {s with at_:=q,over:=false,lost:=true}
 | none=>if last=true then[.found none,.end_] else[]) else[.end_]
theorem Kq {f:Nat}{s:Place}:findings ae last b (f+1) s=
 if s.over=true then(if s.at_<b.length then .fault 9 0 s.at_::iK ae last b f s else if last=true then[.end_] else[])
 else match boxAt b s.at_ (cS s.streams s.parts) with
  | .more=>if last=true then .fault 8 0 b.length::iK ae last b f s else[]
  | .fault k p=> .fault k 0 p::iK ae last b f s
  | .whole kind body next=>match s.streams with
   | none=>(match run rHead body (s.at_+12) with
    | .error e=> .fault e.1 0 e.2::iK ae last b f s
    | .ok l=> .head::findings ae last b f {s with at_:=next,streams:=some l})
   | some ss=>
    if kind=PART then(match run (rPart ss.length) body (s.at_+12) with
     | .error e=> .fault e.1 (match run (num 4 λ(k:Nat)=>decide (k<ss.length)) body 0 with
      | .ok k=>k
      | .error _=>0) e.2::iK ae last b f s
     | .ok (p,a)=>match disorder ss s.parts p.stream p.time p.flags with
      | some i=>
       if ae=true then .part {p with flags:=p.flags+DISORDER} s.at_::findings ae last b f {s with at_:=next,parts:=s.parts++[Part.info {p with flags:=p.flags+DISORDER} s.at_],lost:=true}
       else .fault 5 p.stream (a.getD i 0)::iK ae last b f s
      | none=> .part p s.at_::findings ae last b f {s with at_:=next,parts:=s.parts++[p.info s.at_]})
    else match(if s.lost=true then(match run (rForm ss.length) body (s.at_+12) with
     | .ok _=> .ok ()
     | .error e=> .error e) else run (rHeld s.parts s.at_) body (s.at_+12)) with
     | .error e=> .fault e.1 0 e.2::iK ae last b f s
     | .ok ()=> .index::findings ae last b f {s with at_:=next,over:=true}:=rfl
theorem mB {ae last:Bool}{b:Bytes}:∀(f:Nat) (s:Place) (g:Nat),s.at_<=b.length->b.length+1<=f+s.at_->2*b.length+8<=g+2*s.at_->
 findings ae last b f s=f3 ae last b g (g5 s)
 | 0,s,g,d,h1,_=>af
 | f+1,s,g,d,h1,h2=>by
  obtain⟨g,rfl⟩:∃k,g=k+5:=⟨g - 5,af⟩
  have h:iK ae last b f s=f3 ae last b (g+4) ((g5 s).b7 ae):=by
   rw[Ku af];unfold iK
   show _=if ae=true/\s.streams.isSome=true then(match search b (s.at_+1) with
    | some q=> .found (some q)::f3 ae last b (g+4 - 1) ⟨.box,q,s.streams,s.parts,true⟩
    | none=>if last=true then[.found none,.end_] else[]) else[.end_]
   split
   .cases hs:search b (s.at_+1) with
    | none=>rfl
    | some q=>
     have:=nI hs;simp only;rw[mB f _ (g+3) (by simp only;omega) (by simp only;omega) (by simp only;omega)];rfl
   .rfl
  rw[Kq,h];show _=(match aV ae last b (g5 s) with | none=>[] | some (t,c')=>t::f3 ae last b (g+4) c');unfold aV;by_cases a:s.over=true
  .have hc:g5 s=⟨.tail,s.at_,s.streams,s.parts,s.lost⟩:=by unfold g5;simp[a]
   rw[hc];simp only[a,c2];by_cases c:s.at_<b.length
   .simp only[c,c2]
   .simp only[c,dV]
    cases last with
    | true=>simp[f3,aV]
    | false=>simp
  .have hc:g5 s=⟨.box,s.at_,s.streams,s.parts,s.lost⟩:=by unfold g5;simp[a]
   rw[hc];simp only[a,dV,mW];unfold dE;simp only
   cases j:boxAt b s.at_ (cS s.streams s.parts) with
   | more=>cases last<;>rfl
   | fault k p=>rfl
   | whole kind body next=>
    have o:=oB j;simp only;unfold fQ;simp only
    cases r:s.streams with
    | none=>
     simp only;unfold hE;simp only
     cases m:run rHead body (s.at_+12) with
     | error e=>rfl
     | ok l=>
      simp only;rw[mB f _ (g+4) (by simp only;omega) (by simp only;omega) (by simp only;omega)]
      simp[g5,a]
    | some ss=>
     simp only;by_cases hk:kind=PART
     .simp only[hk,c2];unfold d8;simp only
      cases m:run (rPart ss.length) body (s.at_+12) with
      | error e=>rfl
      | ok x=>
       obtain⟨p,v⟩:=x;simp only
       cases hd:disorder ss s.parts p.stream p.time p.flags with
       | some i=>
        simp only
        cases ae with
        | true=>
         simp only[c2];rw[mB f _ (g+4) (by simp only;omega) (by simp only;omega) (by simp only;omega)]
         simp[g5,a]
        | false=>rfl
       | none=>
        simp only;rw[mB f _ (g+4) (by simp only;omega) (by simp only;omega) (by simp only;omega)];simp[g5,a]
     .simp only[hk,dV];unfold d4;simp only
      generalize (if s.lost=true then(match run (rForm ss.length) body (s.at_+12) with
       | .ok _=> .ok ()
       | .error e=> .error e) else run (rHeld s.parts s.at_) body (s.at_+12):Except (Nat×Nat) Unit)=n
      cases n with
      | error e=>rfl
      | ok u=>
       simp only;rw[mB f _ (g+4) (by simp only;omega) (by simp only;omega) (by simp only;omega)];simp[g5]
theorem Ex {g:Nat}(a:2*b.length+8<=g):found ae last b=f3 ae last b g start:=by
 unfold found;rw[mB (b.length+4) LwReel.start g (by show 0<=_;omega) (by show _<=_+0;omega) (by show _<=g+2*0;omega)];rfl
noncomputable def runN (ae last:Bool)(b:Bytes):Nat->Option bb
 | 0=>some start
 | n+1=>(runN ae last b n).bind λc=>(aV ae last b c).map (·.2)
noncomputable def iter (ae last:Bool)(b:Bytes)(a:bb):Nat->Option bb
 | 0=>some a
 | n+1=>(iter ae last b a n).bind λc=>(aV ae last b c).map (·.2)
theorem xK {ae last:Bool}{b:Bytes}:∀n,runN ae last b n=iter ae last b start n
 | 0=>rfl
 | n+1=>by
  show(runN ae last b n).bind _=(iter ae last b start n).bind _;rw[xK n]
theorem Ad {ae last:Bool}{b:Bytes}{a c1:bb}{t:Thing}(h:aV ae last b a=some (t,c1)):∀n,iter ae last b a (n+1)=iter ae last b c1 n
 | 0=>by
  show(some a).bind _=some c1
  simp[h]
 | n+1=>by
  show(iter ae last b a (n+1)).bind _=(iter ae last b c1 n).bind _;rw[Ad h n]
theorem A0 {ae last:Bool}{b:Bytes}{c:bb}:∀(n g:Nat) (a:bb),n<g->iter ae last b a n=some c->(f3 ae last b g a)[n]?=(aV ae last b c).map (·.1)
 | 0,g+1,a,_,h=>by
  have e:a=c:=cx h;subst e;show(match aV ae last b a with | none=>[] | some (t,c')=>t::f3 ae last b g c')[0]?=_
  cases hs:aV ae last b a with
  | none=>rfl
  | some x=>rfl
 | n+1,g+1,a,i,h=>by
  show(match aV ae last b a with | none=>[] | some (t,c')=>t::f3 ae last b g c')[n+1]?=_
  cases hs:aV ae last b a with
  | none=>
   exfalso
   have d:∀k,iter ae last b a (k+1)=none:=by
    intro k
    induction k with
    | zero=>show(some a).bind _=none;simp[hs]
    | succ k f=>show(iter ae last b a (k+1)).bind _=none;rw[f];rfl
   rw[d] at h;cases h
  | some x=>
   obtain⟨t,c1⟩:=x;rw[Ad hs] at h;simp only[List.getElem?_cons_succ];exact A0 n g c1 af h
theorem iR (h:runN ae last b n=some c):(found ae last b)[n]?=(aV ae last b c).map (·.1):=by
 rw[Ex (g:=2*b.length+8+n) af];rw[xK] at h;exact A0 n _ start af h
theorem Ja:∀{n:Nat} {c:bb},runN ae last b n=some c->n<=(found ae last b).length
 | 0,_,_=>b3 _
 | n+1,c,h=>by
  have h':(runN ae last b n).bind (λc=>(aV ae last b c).map (·.2))=some c:=h
  cases a:runN ae last b n with
  | none=>rw[a] at h';cases h'
  | some d=>
   rw[a] at h';have:=iR a
   cases hs:aV ae last b d with
   | none=>simp[hs] at h'
   | some x=>
    rw[hs] at this;have:=(List.getElem?_eq_some_iff.mp this).1;omega
theorem q6 (h:runN ae last b n=some c):(n< (found ae last b).length)=((aV ae last b c).isSome=true):=by
 have:=iR h
 cases hs:aV ae last b c with
 | none=>
  rw[hs] at this;have:=List.getElem?_eq_none_iff.mp this
  simp;omega
 | some x=>
  rw[hs] at this;have:=(List.getElem?_eq_some_iff.mp this).1;simp[this]
theorem qR:∀(m r x:Bytes) (p:Nat),(firstWrong m r p≠none∨m.length<=r.length)->firstWrong m (r++x) p=firstWrong m r p
 | [],r,x,p,_=>by
  cases r<;>cases x<;>rfl
 | c::m,[],x,p,h=>by
  rcases h with h | h
  .exact absurd O h
  .simp at h
 | c::m,d::r,x,p,h=>by
  show(if c=d then firstWrong m (r++x) (p+1) else some p)=if c=d then firstWrong m r (p+1) else some p
  by_cases e:c=d
  .simp only[e,c2];refine qR m r x (p+1) ?_;rcases h with h | h
   .left;simp only[firstWrong,e,c2] at h;exact h
   .right;simp at h;omega
  .simp only[e,dV]
theorem BI (f:p<=b.length)(h:boxAt b p al≠ .more):boxAt (b++x) p al=boxAt b p al:=by
 have hd:(b++x).drop p=b.drop p++x:=by rw[g4 f]
 unfold boxAt at h ⊢;simp only[hd] at h ⊢;generalize b.drop p=r at h ⊢
 cases a:firstWrong MARK r p with
 | some q=>
  rw[qR _ _ _ _ (.inl (by rw[a];simp)),a]
 | none=>
  simp only[a] at h
  cases hk:r[3]? with
  | none=>simp only[hk] at h;exact absurd O h
  | some k=>
   have g:3<r.length:=(List.getElem?_eq_some_iff.mp hk).1;have i:(r++x)[3]?=some k:=by rw[k9 g];exact hk
   rw[qR _ _ _ _ (.inr (by show 3<=_;omega)),a];simp only[i,hk] at h ⊢;by_cases ha:al k=false
   .simp only[ha,c2]
   .simp only[ha,dV] at h ⊢;by_cases c:r.length<8
    .simp only[c,c2] at h;exact absurd O h
    .have j:¬(r++x).length<8:=by rw[aP];omega
     have l:lengthOf (r++x)=lengthOf r:=by
      unfold lengthOf;rw[g4 af,gx (by rw[bQ];omega)]
     simp only[c,j,dV,l] at h ⊢;by_cases hm:MOST<lengthOf r
     .simp only[hm,c2]
     .simp only[hm,dV] at h ⊢;by_cases d:r.length<12
      .simp only[d,c2] at h;exact absurd O h
      .have m:¬(r++x).length<12:=by rw[aP];omega
       have e1:(r++x).take 8=r.take 8:=gx af
       have n:((r++x).drop 8).take 4=(r.drop 8).take 4:=by
        rw[g4 af,gx (by rw[bQ];omega)]
       simp only[d,m,dV,e1,n] at h ⊢;by_cases hc:same (crc (r.take 8)) ((r.drop 8).take 4)=false
       .simp only[hc,c2]
       .simp only[hc,dV] at h ⊢;by_cases e:r.length<16+lengthOf r
        .simp only[e,c2] at h;exact absurd O h
        .have o:¬(r++x).length<16+lengthOf r:=by rw[aP];omega
         have e3:((r++x).drop 12).take (lengthOf r)=(r.drop 12).take (lengthOf r):=by
          rw[g4 af,gx (by rw[bQ];omega)]
         have e4:((r++x).drop (12+lengthOf r)).take 4=(r.drop (12+lengthOf r)).take 4:=by
          rw[g4 af,gx (by rw[bQ];omega)]
         simp only[e,o,dV,e3,e4]
theorem wm (h:q+12<=b.length):begins (b++x) q=begins b q:=by
 have hd:(b++x).drop q=b.drop q++x:=by rw[g4 af]
 unfold begins;simp only[hd];have a:12<=(b.drop q).length:=by rw[bQ];omega
 generalize b.drop q=r at a ⊢;have c:(r++x).take 3=r.take 3:=gx af;have e1:(r++x).take 8=r.take 8:=gx af
 have d:((r++x).drop 8).take 4=(r.drop 8).take 4:=by
  rw[g4 af,gx (by rw[bQ];omega)]
 have e:lengthOf (r++x)=lengthOf r:=by
  unfold lengthOf;rw[g4 af,gx (by rw[bQ];omega)]
 have e3:(r++x)[3]?=r[3]?:=k9 af;have e4:12<=(r++x).length:=by rw[aP];omega
 rw[c,e1,d,e,e3,cR e4,cR a]
theorem Al:search b p=some q↔(p<=q/\begins b q=true/\∀k,p<=k->k<q->begins b k=false):=by
 unfold search;constructor
 .intro h;have a:=nI (b:=b) (p:=p) (q:=q) h;refine⟨a.1,a.2.2,λk l m=>?_⟩;rw[uA] at h;obtain⟨_,as,bs,e,ha⟩:=h
  have c:k∈(List.range (b.length+1)).filter (λ(q:Nat)=>decide (p<=q)):=by
   simp only[o1,qF,dz];omega
  rw[e] at c;have d:((List.range (b.length+1)).filter (λ(q:Nat)=>decide (p<=q))).Pairwise (· < ·):=zZ _ zH;rw[e] at d;rcases List.mem_append.mp c with hm | hm
  .have:=ha k hm;simpa using this
  .rcases List.mem_cons.mp hm with hm | hm
   .omega
   .have:=(List.pairwise_append.mp d).2.1;have:=(List.pairwise_cons.mp this).1 k hm;omega
 .rintro⟨h1,h2,i⟩;have n:=pS h2
  cases f:((List.range (b.length+1)).filter (λ(q:Nat)=>decide (p<=q))).find? (λ(q:Nat)=>begins b q) with
  | none=>
   have:=List.find?_eq_none.mp f q (by simp only[o1,qF,dz];omega)
   exact absurd h2 this
  | some g=>
   have a:=nI (b:=b) (p:=p) (q:=g) f;have:¬g<q:=λj=>by rw[i g a.1 j] at a;simp at a
   have o:g<=q:=by
    refine Nat.le_of_not_lt λr=>?_;rw[uA] at f;obtain⟨_,as,bs,e,ha⟩:=f
    have c:q∈(List.range (b.length+1)).filter (λ(q:Nat)=>decide (p<=q)):=by
     simp only[o1,qF,dz];omega
    have d:((List.range (b.length+1)).filter (λ(q:Nat)=>decide (p<=q))).Pairwise (· < ·):=zZ _ zH;rw[e] at c d;rcases List.mem_append.mp c with hm | hm
    .have:=ha q hm;simp[h2] at this
    .rcases List.mem_cons.mp hm with hm | hm
     .omega
     .have:=(List.pairwise_append.mp d).2.1;have:=(List.pairwise_cons.mp this).1 q hm;omega
   congr 1;omega
theorem Na:search b p=none↔∀k,p<=k->begins b k=false:=by
 constructor
 .intro h k hk
  cases a:begins b k with
  | false=>rfl
  | true=>
   unfold search at h;have c:=pS a;have:=List.find?_eq_none.mp h k (by simp only[o1,qF,dz];omega);exact absurd a this
 .intro h
  cases hs:search b p with
  | none=>rfl
  | some q=>
   have:=nI hs;rw[h q this.1] at this;simp at this
theorem FD (h:search b p=some q):search (b++x) p=some q:=by
 have a:=nI h;rw[Al] at h ⊢;refine⟨h.1,by rw[wm a.2.1];exact h.2.1,λk h1 h2=>?_⟩;rw[wm af];exact h.2.2 k h1 h2
theorem B4 (hc:c.aU= .box->c.at_<=b.length)(h:aV ae false b c=some (t,c')):aV ae last (b++x) c=some (t,c'):=by
 unfold aV at h ⊢
 cases hd:c.aU with
 | box=>
  simp only[hd] at h ⊢;unfold dE at h ⊢;have d:boxAt b c.at_ (cS c.streams c.parts)≠ .more:=λe=>by rw[e] at h;simp at h
  rw[BI (hc hd) d]
  cases a:boxAt b c.at_ (cS c.streams c.parts) with
  | more=>exact absurd a d
  | fault k p=>rw[a] at h;exact h
  | whole k bd n=>rw[a] at h;exact h
 | tail=>
  simp only[hd] at h ⊢;by_cases f:c.at_<b.length
  .have:c.at_< (b++x).length:=by rw[aP];omega
   simp only[f,this,c2] at h ⊢;exact h
  .simp[f] at h
 | search=>
  simp only[hd] at h ⊢
  cases hs:search b c.at_ with
  | none=>rw[hs] at h;simp at h
  | some q=>rw[FD hs];rw[hs] at h;exact h
 | over=>simp only[hd] at h ⊢;exact h
 | done=>simp[hd] at h
theorem xi (h:aV ae last b c=some (t,c'))(hc:(c.aU= .box∨c.aU= .tail)->c.at_<=b.length):(c'.aU= .box∨c'.aU= .tail)->c'.at_<=b.length:=by
 have b7:((c.b7 ae).aU= .box∨(c.b7 ae).aU= .tail)->(c.b7 ae).at_<=b.length:=by
  unfold bb.b7;split<;>simp
 unfold aV at h
 cases hd:c.aU with
 | box=>
  simp only[hd] at h;unfold dE at h
  cases a:boxAt b c.at_ (cS c.streams c.parts) with
  | more=>
   rw[a] at h;simp only at h;split at h
   .injection h with h;injection h with h1 h2;subst h2;exact b7
   .cases h
  | fault k p=>rw[a] at h;injection h with h;injection h with h1 h2;subst h2;exact b7
  | whole k bd n=>
   rw[a] at h;have d:=oB a;injection h with h
   unfold fQ hE d8 d4 at h;intro _
   have:c'=c.b7 ae∨c'.at_=n:=by
    repeat' split at h
    all_goals (injection h with h1 h2;subst h2)
    all_goals (first | exact .inl O | exact .inr O)
   rcases this with e | e
   .subst e;rename_i q;exact b7 q
   .omega
 | tail=>
  simp only[hd] at h;split at h
  .injection h with h;injection h with h1 h2;subst h2;exact b7
  .split at h
   .injection h with h;injection h with h1 h2;subst h2;simp
   .cases h
 | search=>
  simp only[hd] at h;split at h
  .rename_i q hs;have:=nI hs;injection h with h;injection h with h1 h2;subst h2
   intro _;show q<=_;omega
  .split at h
   .injection h with h;injection h with h1 h2;subst h2;simp
   .cases h
 | over=>simp only[hd] at h;injection h with h;injection h with h1 h2;subst h2;simp
 | done=>simp[hd] at h
theorem ym {ae last:Bool}{b:Bytes}:∀{n:Nat} {c:bb},runN ae last b n=some c->(c.aU= .box∨c.aU= .tail)->c.at_<=b.length
 | 0,c,h=>by
  have e:start=c:=cx h
  subst e;intro _;exact b3 _
 | n+1,c,h=>by
  have h':(runN ae last b n).bind (λc=>(aV ae last b c).map (·.2))=some c:=h
  cases a:runN ae last b n with
  | none=>rw[a] at h';cases h'
  | some d=>
   rw[a] at h'
   cases hs:aV ae last b d with
   | none=>simp[hs] at h'
   | some x=>
    obtain⟨t,c1⟩:=x;simp[hs] at h';subst h';exact xi hs (ym a)
theorem so {ae last:Bool}{b x:Bytes}:∀{n:Nat} {c:bb},runN ae false b n=some c->runN ae last (b++x) n=some c
 | 0,c,h=>h
 | n+1,c,h=>by
  have h':(runN ae false b n).bind (λc=>(aV ae false b c).map (·.2))=some c:=h;show(runN ae last (b++x) n).bind (λc=>(aV ae last (b++x) c).map (·.2))=some c
  cases a:runN ae false b n with
  | none=>rw[a] at h';cases h'
  | some d=>
   rw[so a];rw[a] at h'
   cases hs:aV ae false b d with
   | none=>simp[hs] at h'
   | some y=>
    obtain⟨t,c1⟩:=y;have:=B4 (last:=last) (x:=x) (λq=>ym a (.inl q)) hs;simp[hs] at h';subst h';simp[this]
theorem runN_succ (h:runN ae last b n=some c)(hs:aV ae last b c=some (t,c')):runN ae last b (n+1)=some c':=by
 show(runN ae last b n).bind (λc=>(aV ae last b c).map (·.2))=some c';rw[h];simp[hs]
theorem take_snoc {α:Type}:∀{l:List α} {i:Nat} {x:α},l[i]?=some x->l.take (i+1)=l.take i++[x]
 | [],i,x,h=>by simp at h
 | a::l,0,x,h=>by simp at h;subst h;rfl
 | a::l,i+1,x,h=>by
  show a::l.take (i+1)=a::l.take i++[x];rw[take_snoc (by simpa using h)];rfl
theorem nt (h:runN ae last b (n+1)=some c):∃a t,runN ae last b n=some a/\aV ae last b a=some (t,c):=by
 have h':(runN ae last b n).bind (λc=>(aV ae last b c).map (·.2))=some c:=h
 cases d:runN ae last b n with
 | none=>rw[d] at h';cases h'
 | some a=>
  rw[d] at h'
  cases hs:aV ae last b a with
  | none=>simp[hs] at h'
  | some x=>
   obtain⟨t,c1⟩:=x;simp[hs] at h';subst h';exact⟨a,t,O,hs⟩
inductive iZ (ae:Bool)(c:bb):Thing->bb->Prop where
 | head {l:List Stream} {n:Nat}:c.streams=none->iZ ae c .head ⟨.box,n,some l,c.parts,c.lost⟩
 | part {p:Part} {n:Nat} {lo:Bool}:c.streams.isSome=true->iZ ae c (.part p c.at_) ⟨.box,n,c.streams,c.parts++[p.info c.at_],lo⟩
 | index {n:Nat}:c.streams.isSome=true->iZ ae c .index ⟨.tail,n,c.streams,c.parts,c.lost⟩
 | fault {k s p:Nat}:iZ ae c (.fault k s p) (c.b7 ae)
 | found {q:Nat}:iZ ae c (.found (some q)) ⟨.box,q,c.streams,c.parts,c.lost⟩
 | lost:iZ ae c (.found none) ⟨.over,c.at_,c.streams,c.parts,c.lost⟩
 | end_:iZ ae c .end_ ⟨.done,c.at_,c.streams,c.parts,c.lost⟩
theorem kd (h:aV ae last b c=some (t,c')):iZ ae c t c':=by
 unfold aV at h
 cases hd:c.aU with
 | box=>
  simp only[hd] at h;unfold dE at h
  cases a:boxAt b c.at_ (cS c.streams c.parts) with
  | more=>
   rw[a] at h;simp only at h;split at h
   .injection h with h;injection h with h1 h2;subst h1;subst h2;exact .fault
   .cases h
  | fault k p=>rw[a] at h;injection h with h;injection h with h1 h2;subst h1;subst h2;exact .fault
  | whole k bd n=>
   rw[a] at h;injection h with h
   unfold fQ hE d8 d4 at h
   repeat' split at h
   all_goals (injection h with h1 h2;subst h1;subst h2)
   all_goals (first | exact .fault | (refine .head ?_;assumption) | (refine .part ?_;simp_all) | (refine .index ?_;simp_all))
 | tail=>
  simp only[hd] at h;split at h
  .injection h with h;injection h with h1 h2;subst h1;subst h2;exact .fault
  .split at h
   .injection h with h;injection h with h1 h2;subst h1;subst h2;exact .end_
   .cases h
 | search=>
  simp only[hd] at h;split at h
  .injection h with h;injection h with h1 h2;subst h1;subst h2;exact .found
  .split at h
   .injection h with h;injection h with h1 h2;subst h1;subst h2;exact .lost
   .cases h
 | over=>simp only[hd] at h;injection h with h;injection h with h1 h2;subst h1;subst h2;exact .end_
 | done=>simp[hd] at h
theorem Li:(c.b7 ae).aU≠ .done:=by unfold bb.b7;split<;>simp
theorem rp:(c.b7 ae).streams=c.streams:=by unfold bb.b7;split<;>rfl
theorem Je:(c.b7 ae).parts=c.parts:=by unfold bb.b7;split<;>rfl
theorem H6 (h:iZ ae c t c'):ReelCalls.isEnd t=decide (c'.aU= .done):=by
 cases h<;>simp[ReelCalls.isEnd,Li]
theorem w2 (h:runN ae last b n=some c)(hs:aV ae last b c=none):
 (match(found ae last b).getLast? with
  | some t=>ReelCalls.isEnd t
  | none=>false)=decide (c.aU= .done):=by
 have a:=q6 h;rw[hs] at a;have g:=Ja h;have d:(found ae last b).length=n:=by simp at a;omega
 cases n with
 | zero=>
  have e:found ae last b=[]:=List.eq_nil_of_length_eq_zero d;rw[e];have:start=c:=cx h
  subst this;rfl
 | succ n=>
  obtain⟨i,t,f,h1⟩:=nt h;have ha:=iR f;rw[h1] at ha;rw[List.getLast?_eq_getElem?,d];simp only[Nat.add_sub_cancel,ha,pO];exact H6 (kd h1)
theorem done_none (h:c.aU= .done):aV ae last b c=none:=by
 unfold aV;rw[h]
theorem Dl (h:runN ae over b n=some c):ReelCalls.over_ ae over b n=(over||decide (c.aU= .done)):=by
 unfold ReelCalls.over_;congr 1;have a:=q6 h
 cases hs:aV ae over b c with
 | none=>
  rw[hs] at a;have:(found ae over b).length<=n:=by simp at a;omega
  rw[cR this,fZ]
  exact w2 h hs
 | some x=>
  rw[hs] at a;have:¬(found ae over b).length<=n:=by simp at a;omega
  rw[dC this,nU];have:c.aU≠ .done:=λe=>by rw[done_none e] at hs;cases hs
  simp[this]
theorem K8 (h:c.aU≠ .done):∃x,aV ae true b c=some x:=by
 unfold aV
 cases hd:c.aU with
 | box=>
  simp only;unfold dE
  cases boxAt b c.at_ (cS c.streams c.parts)<;>exact⟨_,O⟩
 | tail=>simp only;split<;>exact⟨_,O⟩
 | search=>simp only;split<;>exact⟨_,O⟩
 | over=>exact⟨_,O⟩
 | done=>exact absurd hd h
theorem F4 (l m:List Thing):ReelCalls.infosOf (l++m)=ReelCalls.infosOf l++ReelCalls.infosOf m:=by
 unfold ReelCalls.infosOf;rw[List.filterMap_append]
theorem AW {ae last:Bool}{b:Bytes}:∀{n:Nat} {c:bb},runN ae last b n=some c->ReelCalls.infosOf ((found ae last b).take n)=c.parts
 | 0,c,h=>by
  have:start=c:=cx h
  subst this;rfl
 | n+1,c,h=>by
  obtain⟨d,t,a,h1⟩:=nt h;have ha:=iR a;rw[h1] at ha;rw[take_snoc ha,F4,AW a];have hm:=kd h1;cases hm<;>simp[ReelCalls.infosOf,Je]
theorem z0 {ae last:Bool}{b:Bytes}:∀{n:Nat} {c:bb},runN ae last b n=some c->((found ae last b).take n).any ReelCalls.isHead=c.streams.isSome
 | 0,c,h=>by
  have:start=c:=cx h
  subst this;rfl
 | n+1,c,h=>by
  obtain⟨d,t,a,h1⟩:=nt h;have ha:=iR a;rw[h1] at ha;rw[take_snoc ha,List.any_append,z0 a];have hm:=kd h1;cases hm<;>simp_all [ReelCalls.isHead,rp]
noncomputable def eO (f:Rd α):Prop:=∀(b:Bytes) (p q:Nat),match f ⟨b,p⟩,f ⟨b,q⟩ with
 | .ok (x,s),.ok (y,t)=>x=y/\s.left=t.left
 | .error _,.error _=>True
 | _,_=>False
theorem kL {x:α}:eO (give x):=λb p q=>⟨O,O⟩
theorem dP (d:eO f)(i:∀x,eO (g x)):eO (andThen f g):=λb p q=>by
 have h:=d b p q;unfold andThen
 cases e1:f ⟨b,p⟩ with
 | error e=>
  rw[e1] at h
  cases a:f ⟨b,q⟩ with
  | error j=>trivial
  | ok y=>rw[a] at h;exact h.elim
 | ok x=>
  obtain⟨x,s⟩:=x;rw[e1] at h
  cases a:f ⟨b,q⟩ with
  | error j=>rw[a] at h;exact h.elim
  | ok y=>
   obtain⟨y,t⟩:=y;rw[a] at h;obtain⟨rfl,c⟩:=h;obtain⟨k,sp⟩:=s;obtain⟨tl,tp⟩:=t;simp only at c;subst c;exact i x k sp tp
theorem gD {bO:Nat->Bool}:eO (num k bO):=λb p q=>by
 unfold num;simp only
 cases readVar b with
 | none=>
  simp only;by_cases a:b.length<10/\(b.all λ(c:UInt8)=>decide (128<=c.toNat))=true
  .simp only[a,qV,c2]
  .simp only[a,dV]
 | some x=>
  simp only;by_cases a:bO x.1=true
  .simp only[a,c2,qV]
  .simp[a]
theorem xh:eO (LwReel.string n):=λb p q=>by
 have h:=gD (k:=4) (bO:=λ(k:Nat)=>decide (k<=n)) b p q;unfold LwReel.string andThen here upTo;simp only
 cases e1:num 4 (λ(k:Nat)=>decide (k<=n)) ⟨b,p⟩ with
 | error e=>
  rw[e1] at h
  cases a:num 4 (λ(k:Nat)=>decide (k<=n)) ⟨b,q⟩ with
  | error f=>trivial
  | ok y=>rw[a] at h;exact h.elim
 | ok x=>
  obtain⟨x,s⟩:=x;rw[e1] at h
  cases a:num 4 (λ(k:Nat)=>decide (k<=n)) ⟨b,q⟩ with
  | error f=>rw[a] at h;exact h.elim
  | ok y=>
   obtain⟨y,t⟩:=y;rw[a] at h;obtain⟨rfl,c⟩:=h;obtain⟨g,sp⟩:=s;obtain⟨tl,tp⟩:=t;simp only at c;subst c;unfold LwReel.take;simp only;by_cases d:g.length<x
   .simp only[d,c2]
   .simp only[d,dV,qV]
theorem w0:eO finish:=λb p q=>by
 unfold finish;simp only;by_cases a:b.isEmpty=true
 .simp only[a,c2,qV]
 .simp[a]
theorem y1 {α:Type}{f:Rd α}(a:eO f):∀n,eO (rMany f n)
 | 0=>kL
 | n+1=>dP a λx=>dP (y1 a n) λl=>kL
theorem MR:eO rStream:=dP gD λ_=>dP gD λ_=>dP gD λ_=>dP xh λ_=>dP xh λ_=>kL
theorem sN:eO rHead:=dP gD λ_=>dP gD λn=>dP (y1 MR n) λ_=>dP w0 λ_=>kL
theorem oj (d:eO f){x:α}(h:run f b p= .ok x)(q:Nat):run f b q= .ok x:=by
 have a:=d b p q;unfold run at h ⊢
 cases e1:f ⟨b,p⟩ with
 | error e=>rw[e1] at h;cases h
 | ok y=>
  obtain⟨y,s⟩:=y;rw[e1] at h a
  cases c:f ⟨b,q⟩ with
  | error g=>rw[c] at a;exact a.elim
  | ok z=>
   obtain⟨z,t⟩:=z;rw[c] at a;obtain⟨rfl,_⟩:=a;injection h with h
   rw[h]
theorem Bx {ae last:Bool}{b:Bytes}:∀{n:Nat} {c:bb},runN ae last b n=some c->c.streams=none->c.at_=0/\c.parts=[]/\c.lost=false/\c.aU≠ .search
 | 0,c,h,_=>by
  have:start=c:=cx h
  subst this;exact⟨O,O,O,by simp[start]⟩
 | n+1,c,h,hs=>by
  obtain⟨e,t,f,h1⟩:=nt h;have hm:=kd h1;have hi:=Bx f
  cases hm with
  | head a=>cases hs
  | part a=>simp only at hs;rw[hs] at a;cases a
  | index a=>simp only at hs;rw[hs] at a;cases a
  | fault=>
   rw[rp] at hs;obtain⟨i1,i2,i3,d⟩:=hi hs;unfold bb.b7;rw[hs]
   simp[i1,i2,i3]
  | found=>
   obtain⟨_,_,_,d⟩:=hi hs;exfalso;unfold aV at h1
   cases hd:e.aU with
   | box=>
    simp only[hd] at h1;unfold dE at h1
    repeat' split at h1
    all_goals (first | (cases h1;done) | skip)
    all_goals (injection h1 with h1;try (injection h1 with h1 h2;cases h1;done))
    unfold fQ hE d8 d4 at h1
    repeat' split at h1
    all_goals (injection h1 with h1 h2;cases h1)
   | tail=>
    simp only[hd] at h1;repeat' split at h1
    all_goals (first | (cases h1;done) | (injection h1 with h1;injection h1 with h1 h2;cases h1))
   | search=>exact d hd
   | over=>simp only[hd] at h1;injection h1 with h1;injection h1 with h1 h2;cases h1
   | done=>simp[hd] at h1
  | lost=>obtain⟨i1,i2,i3,d⟩:=hi hs;exact⟨i1,i2,i3,by simp⟩
  | end_=>obtain⟨i1,i2,i3,d⟩:=hi hs;exact⟨i1,i2,i3,by simp⟩
theorem tK {ae last:Bool}{b:Bytes}:∀{n:Nat} {c:bb} {l:List Stream},runN ae last b n=some c->c.streams=some l->headOf b=some l
 | 0,c,l,h,a=>by
  have:start=c:=cx h
  subst this;cases a
 | n+1,c,l,h,a=>by
  obtain⟨f,t,j,h1⟩:=nt h;have hm:=kd h1
  cases hs:f.streams with
  | some l0=>
   have e:c.streams=f.streams:=by cases hm<;>simp_all [rp]
   rw[e] at a
   exact tK j a
  | none=>
   obtain⟨i1,i2,i3,m⟩:=Bx j hs
   cases hm with
   | part d=>rw[hs] at d;cases d
   | index d=>rw[hs] at d;cases d
   | fault=>rw[rp,hs] at a;cases a
   | found=>simp only at a;rw[hs] at a;cases a
   | lost=>simp only at a;rw[hs] at a;cases a
   | end_=>simp only at a;rw[hs] at a;cases a
   | head d=>
    rename_i o r;simp only at a;have e:o=l:=cx a;subst e;unfold aV at h1
    cases hd:f.aU with
    | box=>
     simp only[hd] at h1;unfold dE at h1;rw[i1,hs] at h1
     have hk:cS (none:Option (List Stream)) f.parts=λ(k:UInt8)=>k==HEAD:=by
      funext k;simp[cS]
     rw[hk] at h1;unfold headOf
     cases g:boxAt b 0 (λ(k:UInt8)=>k==HEAD) with
     | more=>rw[g] at h1;simp only at h1;split at h1<;>(first | cases h1 | (injection h1 with h1;injection h1 with h1 h2;cases h1))
     | fault k p=>rw[g] at h1;injection h1 with h1;injection h1 with h1 h2;cases h1
     | whole k bd nx=>
      rw[g] at h1;injection h1 with h1
      unfold fQ hE at h1;rw[hs] at h1;simp only at h1
      cases i:run rHead bd (f.at_+12) with
      | error e=>rw[i] at h1;injection h1 with h1 h2;cases h1
      | ok l2=>
       rw[i] at h1;injection h1 with h1 h2
       injection h2 with e1 s e3 e4 e5
       injection e3 with e3
       subst e3;simp only
       rw[oj sN i 0]
    | tail=>
     simp only[hd] at h1;repeat' split at h1
     all_goals (first | (cases h1;done) | (injection h1 with h1;injection h1 with h1 h2;cases h1))
    | search=>exact absurd hd m
    | over=>simp only[hd] at h1;injection h1 with h1;injection h1 with h1 h2;cases h1
    | done=>simp[hd] at h1
theorem F5 (h:runN ae over b n=some c):(ReelCalls.State.reading ae over b n).streams=c.streams:=by
 show(if((found ae over b).take n).any ReelCalls.isHead=true then headOf b else none)=c.streams;rw[z0 h]
 cases hs:c.streams with
 | none=>rfl
 | some l=>simp[tK h hs]
theorem F9 (h:runN ae over b n=some c):(ReelCalls.State.reading ae over b n).infos=c.parts:=AW h
theorem Iz {p:Nat->Bool}:∀{n k:Nat},k<n->p k=true->(∀j,j<k->p j=false)->(List.range n).find? p=some k:=by
 intro n k hk b c;rw[uA];refine⟨b,List.range k,(List.range (n - k - 1)).map (λi=>k+1+i),?_,λa ha=>?_⟩
 .have e:n=k+(1+(n - k - 1)):=af
  conv=>lhs;rw[e]
  rw[List.range_add,List.range_add,List.range_one];simp[mi,uP,pB]
 .rw[c a (List.mem_range.mp ha)];rfl
theorem GO {l:Bytes}(h:runN ae false b n=some c)(hk:k<=l.length)(a:∀j,j<k->aV ae false (b++l.take j) c=none)(d:k=l.length∨(aV ae false (b++l.take k) c).isSome=true):ReelCalls.takes ae b n l=k:=by
 have f:∀j,decide (n< (found ae false (b++l.take j)).length)=(aV ae false (b++l.take j) c).isSome:=λj=>by
  have:=q6 (so (last:=false) (x:=l.take j) h);rw[eI,cb,this]
 unfold ReelCalls.takes;simp only[f]
 cases hs:(aV ae false (b++l.take k) c).isSome with
 | true=>
  rw[Iz (k:=k) af hs λj g=>by rw[a j g];rfl]
  rfl
 | false=>
  rcases d with he | he
  .rw[List.find?_eq_none.mpr λj i=>?_]
   .simp[he]
   .have:j<k+1:=by rw[he];exact List.mem_range.mp i
    by_cases e:j=k
    .subst e;simp[hs]
    .rw[a j af];simp
  .rw[hs] at he;cases he
noncomputable def told:Thing->ReelCalls.Answer
 | .head=>ReelCalls.says 1
 | .part p place=>⟨2,ReelCalls.infoTold (p.info place)++[.t p.bytes]⟩
 | .index=>ReelCalls.says 3
 | .fault k s p=>⟨4,[ReelCalls.n_ k,ReelCalls.n_ s,ReelCalls.n_ p]⟩
 | .found p=>⟨5,[match p with
  | some q=>ReelCalls.n_ q
  | none=> .z (-1)]⟩
 | .end_=>ReelCalls.says 6
theorem zP (h:runN ae over b n=some c)(hs:aV ae over b c=some (t,c')):
 ReelCalls.nextOf ae over b n=(.reading ae over b (n+1),told t):=by
 unfold ReelCalls.nextOf;have:=iR h;rw[hs] at this;simp only[this,pO];cases t<;>rfl
theorem vK (h:runN ae over b n=some c)(hs:aV ae over b c=none):
 ReelCalls.nextOf ae over b n=(.reading ae over b n,ReelCalls.says (if c.aU= .done then 6 else 0)):=by
 unfold ReelCalls.nextOf;have h1:=iR h;have h2:=w2 h hs;rw[hs] at h1;simp only[h1,Option.map_none];congr 2
 cases e:(found ae over b).getLast? with
 | none=>rw[e] at h2;simp only at h2 ⊢;have:=u7 h2.symm;simp[this]
 | some t=>
  rw[e] at h2;simp only at h2 ⊢
  cases hd:ReelCalls.isEnd t with
  | true=>rw[hd] at h2;have:=dS h2.symm;simp[this]
  | false=>rw[hd] at h2;have:=u7 h2.symm;simp[this]
noncomputable def iv:Thing->Option (Nat×Nat×Nat)
 | .fault k s p=>some (k,s,p)
 | _=>none
theorem BP:fault b=(found false true b).findSome? iv:=by
 unfold fault;congr 1
theorem FU (h:runN false true b n=some c)(hs:aV false true b c=some (t,c'))(g:∀t∈(found false true b).take n,iv t=none):
 (∀k s p,t= .fault k s p->fault b=some (k,s,p))/\(t= .end_->fault b=none):=by
 have ha:=iR h;rw[hs] at ha;simp only[pO] at ha;have a:found false true b=(found false true b).take n++(found false true b).drop n:=(kW _ _).symm
 have hd:(found false true b).drop n=t::(found false true b).drop (n+1):=by
  rw[nv (List.getElem?_eq_some_iff.mp ha).1,(List.getElem?_eq_some_iff.mp ha).2]
 have d:((found false true b).take n).findSome? iv=none:=List.findSome?_eq_none_iff.mpr g;refine⟨λk s p e=>?_,λe=>?_⟩
 .rw[BP,a,zL,d,hd,e];rfl
 .subst e;have hm:=kd hs;have i:c'.aU= .done:=by cases hm;rfl
  have f:=q6 (runN_succ h hs);rw[done_none i] at f;have:(found false true b).drop (n+1)=[]:=lB (by simp at f;omega);rw[BP,a,zL,d,hd,this];rfl
theorem Jo (h:runN false true b n=some c)(hs:aV false true b c=some (t,c'))(d:∀t∈(found false true b).take n,iv t=none)(e:iv t=none):
 ∀t∈(found false true b).take (n+1),iv t=none:=by
 have ha:=iR h;rw[hs] at ha;rw[take_snoc ha];intro u a;rcases List.mem_append.mp a with a | a
 .exact d u a
 .rw[List.mem_singleton.mp a];exact e
theorem yr {last:Bool}{b:Bytes}:∀{n:Nat} {c:bb},runN false last b n=some c->c.aU≠ .search
 | 0,c,h=>by
  have:start=c:=cx h
  subst this;simp[start]
 | n+1,c,h=>by
  obtain⟨d,t,a,h1⟩:=nt h;have hm:=kd h1;have:=yr a;cases hm<;>simp_all [bb.b7]
theorem same_iff:∀{a b:Bytes},same a b=true↔a=b
 | [],[]=>by simp[same]
 | [],_::_=>by simp[same]
 | _::_,[]=>by simp[same]
 | a::r,b::s=>by
  have:=same_iff (a:=r) (b:=s);simp[same,this]
theorem rx {a:Bytes}:same a b=decide (a=b):=by
 rw[eI,same_iff,cb]
theorem fK:∀(w n:Nat),(le w n).length=w
 | 0,_=>rfl
 | w+1,n=>by show(le w (n / 256)).length+1=w+1;rw[fK w]
theorem vc (n:Nat):(UInt8.ofNat (n % 256)).toNat=n % 256:=by
 simp
theorem x7:∀(w n:Nat),ofLe (le w n)=n % 256 ^ w
 | 0,n=>by simp[ofLe,le,Nat.mod_one]
 | w+1,n=>by
  show(UInt8.ofNat (n % 256)).toNat+256*ofLe (le w (n / 256))=n % 256 ^ (w+1);rw[x7 w,vc,j2,oG (256 ^ w) 256,Nat.mod_mul]
theorem wN:∀(b:Bytes),le b.length (ofLe b)=b
 | []=>rfl
 | c::r=>by
  show UInt8.ofNat ((c.toNat+256*ofLe r) % 256)::le r.length ((c.toNat+256*ofLe r) / 256)=c::r;have h1:=c.toNat_lt;have e1:(c.toNat+256*ofLe r) % 256=c.toNat:=af;have a:(c.toNat+256*ofLe r) / 256=ofLe r:=af;rw[e1,a,wN r];congr 1;simp
theorem M9 {w:Nat}(a:b.length=w)(c:n<256 ^ w):le w n=b↔n=ofLe b:=by
 constructor
 .intro h;rw[<-h,x7,pV c]
 .intro h;rw[h,<-a,wN]
noncomputable def eG (b:Bytes):Nat:=Nat.xor (b.foldl crcByte 0xFFFFFFFF) 0xFFFFFFFF
theorem GS (b:Bytes):crc b=le 4 (eG b):=rfl
theorem sW {a b:Nat}(ha:a<2 ^ 32)(c:b<2 ^ 32):Nat.xor a b<2 ^ 32:=Nat.xor_lt_two_pow ha c
theorem I2 {c:Nat}(h:c<2 ^ 32):crcBit c<2 ^ 32:=by
 unfold crcBit;split
 .exact sW af aJ
 .omega
theorem zO:∀(l:List Nat) {c:Nat},c<2 ^ 32->l.foldl (λ(d _:Nat)=>crcBit d) c<2 ^ 32
 | [],_,h=>h
 | _::l,_,h=>zO l (I2 h)
theorem Jb {c:Nat}{x:UInt8}(h:c<2 ^ 32):crcByte c x<2 ^ 32:=by
 unfold crcByte;have:=x.toNat_lt;exact zO _ (sW h af)
theorem zx:∀(l:Bytes) {c:Nat},c<2 ^ 32->l.foldl crcByte c<2 ^ 32
 | [],_,h=>h
 | _::l,_,h=>zx l (Jb h)
theorem Nk (b:Bytes):eG b<2 ^ 32:=sW (zx b aJ) aJ
theorem qA {bs:Bytes}(h:bs.length=4):same (crc x) bs=decide (eG x=ofLe bs):=by
 rw[rx,GS];have:=M9 (n:=eG x) h (by have:=Nk x;omega);exact decide_eq_decide.mpr this
theorem Gy {c:UInt8}(hk:k<10)(hc:left[k]?=some c)(h:128<=c.toNat):
 readVarFrom (10 - k) n (128 ^ k) (left.drop k)=readVarFrom (10 - (k+1)) (n+(c.toNat - 128)*128 ^ k) (128 ^ (k+1)) (left.drop (k+1)):=by
 have e:10 - k=(10 - (k+1))+1:=af
 have hd:left.drop k=c::left.drop (k+1):=by
  rw[nv (List.getElem?_eq_some_iff.mp hc).1,(List.getElem?_eq_some_iff.mp hc).2]
 rw[e,hd];show(if 128<=c.toNat then readVarFrom (10 - (k+1)) (n+(c.toNat - 128)*128 ^ k) (128*128 ^ k) (left.drop (k+1)) else _)=_;rw[az h,j2,oG (128 ^ k) 128]
theorem yU {c:UInt8}(hk:k<10)(hc:left[k]?=some c)(h:c.toNat<128):
 readVarFrom (10 - k) n (128 ^ k) (left.drop k)=if c.toNat=0/\0<k then none else if n+c.toNat*128 ^ k<2 ^ 64 then some (n+c.toNat*128 ^ k,left.drop (k+1)) else none:=by
 have e:10 - k=(10 - (k+1))+1:=af
 have hd:left.drop k=c::left.drop (k+1):=by
  rw[nv (List.getElem?_eq_some_iff.mp hc).1,(List.getElem?_eq_some_iff.mp hc).2]
 rw[e,hd];show(if 128<=c.toNat then _ else if c=0/\128 ^ k≠1 then none else if n+c.toNat*128 ^ k<2 ^ 64 then some (n+c.toNat*128 ^ k,left.drop (k+1)) else none)=_;rw[ar af]
 have h1:(c=0)↔c.toNat=0:=by
  constructor
  .intro q;rw[q];rfl
  .intro q;exact UInt8.toNat_inj.mp (by rw[q];rfl)
 have h2:(128 ^ k≠1)↔0<k:=by
  constructor
  .intro q;refine Nat.pos_of_ne_zero λz=>q (by rw[z])
  .intro q z;have:128 ^ 1<=128 ^ k:=Nat.pow_le_pow_right aJ q;omega
 have a:(c=0/\128 ^ k≠1)↔(c.toNat=0/\0<k):=and_congr h1 h2;by_cases q:c.toNat=0/\0<k
 .rw[az (a.mpr q),az q]
 .rw[ar (λz=>q (a.mp z)),ar q]
theorem IZ (hk:left.length<=k):readVarFrom (10 - k) n (128 ^ k) (left.drop k)=none:=by
 rw[lB hk];cases 10 - k<;>rfl
noncomputable def eo (left:Bytes)(place:Nat):Nat:=if left.length<10/\left.all (λ(c:UInt8)=>decide (128<=c.toNat))=true then place+left.length else place
theorem pK {bO:Nat->Bool}(h:readVar s.left=none):num k bO s= .error (4,eo s.left s.place):=by
 unfold num eo;rw[h];simp only;split<;>rfl
theorem q7 {bO:Nat->Bool}(h:readVar s.left=some (n,r))(a:bO n=false):num k bO s= .error (k,s.place):=by
 unfold num;rw[h];simp[a]
theorem B_ {bO:Nat->Bool}(h:readVar s.left=some (n,r))(a:bO n=true):num k bO s= .ok (n,⟨r,s.place+(s.left.length - r.length)⟩):=by
 unfold num;rw[h];simp[a]
noncomputable def opening (b:Bytes)(p:Nat)(al:UInt8->Bool):Option (Nat×Nat):=
 match firstWrong MARK (b.drop p) p with
 | some q=>some (1,q)
 | none=>match(b.drop p)[3]? with
  | none=>none
  | some k=>
   if al k=false then some (1,p+3)
   else if(b.drop p).length<8 then none
   else if MOST<lengthOf (b.drop p) then some (2,p+4)
   else if(b.drop p).length<12 then none
   else if same (crc ((b.drop p).take 8)) (((b.drop p).drop 8).take 4)=false then some (3,p+8) else none
theorem jH:boxAt b p al=match opening b p al with
 | some (k,q)=> .fault k q
 | none=>if(b.drop p).length<12 then .more
  else if(b.drop p).length<16+lengthOf (b.drop p) then .more
  else if same (crc (((b.drop p).drop 12).take (lengthOf (b.drop p)))) (((b.drop p).drop (12+lengthOf (b.drop p))).take 4)=false then .fault 6 (p+12+lengthOf (b.drop p))
  else match(b.drop p)[3]? with
   | none=> .more
   | some k=> .whole k (((b.drop p).drop 12).take (lengthOf (b.drop p))) (p+16+lengthOf (b.drop p)):=by
 unfold boxAt opening;simp only;generalize b.drop p=r
 cases e:firstWrong MARK r p with
 | some q=>rfl
 | none=>
  cases hk:r[3]? with
  | none=>
   have:r.length<=3:=List.getElem?_eq_none_iff.mp hk;simp only
   rw[az af]
  | some k=>
   simp only;by_cases h1:al k=false
   .simp[h1]
   .by_cases h2:r.length<8
    .have:r.length<12:=af;simp[h1,h2,this]
    .by_cases a:MOST<lengthOf r
     .simp[h1,h2,a]
     .by_cases c:r.length<12
      .simp[h1,h2,a,c]
      .by_cases d:same (crc (r.take 8)) ((r.drop 8).take 4)=false
       .simp[h1,h2,a,c,d]
       .simp[h1,h2,a,c,d]
theorem Ab:∀{m r:Bytes} {p:Nat},m.length<=r.length->(firstWrong m r p=none↔r.take m.length=m)
 | [],r,p,_=>by cases r<;>simp[firstWrong]
 | c::m,[],p,h=>by simp at h
 | c::m,d::r,p,h=>by
  show(if c=d then firstWrong m r (p+1) else some p)=none↔(d::r).take (m.length+1)=c::m;rw[List.take_succ_cons];by_cases e:c=d
  .simp only[e,c2,r5,true_and];exact Ab (by simp at h;omega)
  .simp only[e,dV,r5];constructor
   .intro z;cases z
   .rintro⟨z,_⟩;exact absurd z.symm e
theorem JT:begins b p=(decide (12<=(b.drop p).length)&&(opening b p (λ(k:UInt8)=>k==PART||k==INDEX)).isNone):=by
 unfold begins opening;simp only;generalize b.drop p=r;by_cases e:12<=r.length
 .rw[cR e,fZ,fZ];have a:=Ab (m:=MARK) (r:=r) (p:=p) (by show 3<=_;omega);have hm:r.take MARK.length=r.take 3:=rfl;rw[hm] at a
  cases c:firstWrong MARK r p with
  | some q=>
   have:same (r.take 3) MARK=false:=by
    rw[rx,decide_eq_false_iff_not];intro z;rw[a.mpr z] at c;cases c
   rw[this];rfl
  | none=>
   have:same (r.take 3) MARK=true:=same_iff.mpr (a.mp c);rw[this,fZ];obtain⟨k,hk⟩:∃k,r[3]?=some k:=⟨_,dy af⟩;simp only[hk];have e1:((some k==some PART)||(some k==some INDEX))=(k==PART||k==INDEX):=by rfl
   rw[e1];by_cases d:(k==PART||k==INDEX)=true
   .have f:¬r.length<8:=af;have h:¬r.length<12:=af;by_cases g:MOST<lengthOf r
    .have:¬lengthOf r<=MOST:=af;simp only[d];simp[f,g,this]
    .have:lengthOf r<=MOST:=af;simp only[d];cases same (crc (r.take 8)) ((r.drop 8).take 4)<;>simp[f,h,g,this]
   .have i:(k==PART||k==INDEX)=false:=by simpa using d
    simp only[i];simp
 .rw[dC e];rfl
theorem Mt (n:Nat):zag n=if(n:Int) % 2=1 then -(((n:Int)+1) / 2) else(n:Int) / 2:=by
 unfold zag;by_cases h:n % 2=0
 .rw[az h,ar af];omega
 .rw[ar h,az af];omega
theorem IS (z:Int):(zig z:Int)=if z<0 then -2*z - 1 else 2*z:=by
 unfold zig;by_cases h:0<=z
 .rw[az h,ar af];omega
 .rw[ar h,az af];omega
theorem oN {c:UInt8}(h:X[p]?=some c):X.drop p=c::X.drop (p+1):=by
 rw[nv (List.getElem?_eq_some_iff.mp h).1,(List.getElem?_eq_some_iff.mp h).2]
theorem lI:(X.drop p)[k]?=X[p+k]?:=vN
structure fi (L:Bytes)(k n:Nat):Prop where
 le:k<=L.length
 kk:k<=10
 hi:∀i c,i<k->L[i]?=some c->128<=c.toNat
 eq:readVar L=readVarFrom (10 - k) n (128 ^ k) (L.drop k)
theorem fi.start (L:Bytes):fi L 0 0:=⟨b3 _,af,λi c h=>absurd h af,by simp[readVar]⟩
theorem GI (h:∀i c,i<k->L[i]?=some c->128<=c.toNat)(hk:L.length<=k):L.all (λ(c:UInt8)=>decide (128<=c.toNat))=true:=by
 rw[uB];intro c hc;obtain⟨i,hi,e⟩:=List.getElem_of_mem hc;exact cR (h i c af (by rw[dy hi,e]))
theorem ML {c:UInt8}(h:L[k]?=some c)(hc:c.toNat<128):¬L.all (λ(c:UInt8)=>decide (128<=c.toNat))=true:=λz=>by
 rw[uB] at z;have:=dS (z c (fx h));omega
theorem fi.out (s:fi L k n)(hk:k<10)(h:L.length=k):readVar L=none/\eo L p=p+k:=by
 refine⟨by rw[s.eq,IZ af],?_⟩;unfold eo;rw[az ⟨af,GI s.hi af⟩,h]
theorem fi.more {c:UInt8}(s:fi L k n)(hk:k<10)(h:L[k]?=some c)(hc:128<=c.toNat):fi L (k+1) (n+(c.toNat - 128)*128 ^ k):=by
 have a:=(List.getElem?_eq_some_iff.mp h).1;refine⟨af,af,λi d hi hd=>?_,by rw[s.eq,Gy hk h hc]⟩;by_cases e:i=k
 .subst e;rw[h] at hd;cases hd;exact hc
 .exact s.hi i d af hd
theorem fi.bad {c:UInt8}(s:fi L k n)(hk:k<10)(h:L[k]?=some c)(hc:c.toNat<128)(a:2 ^ 64<=n+c.toNat*128 ^ k∨(c.toNat=0/\0<k)):readVar L=none/\eo L p=p:=by
 refine⟨?_,?_⟩
 .rw[s.eq,yU hk h hc];by_cases z:c.toNat=0/\0<k
  .rw[az z]
  .rw[ar z,ar (by rcases a with a | a;omega;exact absurd a z)]
 .unfold eo;rw[ar (λz=>ML h hc z.2)]
theorem fi.good {c:UInt8}(s:fi L k n)(hk:k<10)(h:L[k]?=some c)(hc:c.toNat<128)(h1:n+c.toNat*128 ^ k<2 ^ 64)(h2:¬(c.toNat=0/\0<k)):readVar L=some (n+c.toNat*128 ^ k,L.drop (k+1)):=by
 rw[s.eq,yU hk h hc,ar h2,az h1]
theorem fi.Gz (s:fi L 10 n):readVar L=none/\eo L p=p:=by
 refine⟨by rw[s.eq];rfl,?_⟩;unfold eo;rw[ar (λz=>absurd z.1 (by have:=s.le;omega))]
theorem oY {bO:Nat->Bool}(h:readVar (X.drop p)=some (n,X.drop (p+j)))(b:p+j<=X.length)(a:bO n=true):num k bO ⟨X.drop p,p⟩= .ok (n,⟨X.drop (p+j),p+j⟩):=by
 rw[B_ (s:=⟨X.drop p,p⟩) h a];simp only[bQ];congr 3;omega
theorem M7 (h:readVar (X.drop p)=some (n,X.drop (p+j)))(a:p+j<=X.length)(hm:n<=c5)(b:p+j+n<=X.length):
 LwReel.string c5 ⟨X.drop p,p⟩= .ok ((X.drop (p+j)).take n,⟨X.drop (p+j+n),p+j+n⟩):=by
 unfold LwReel.string andThen here upTo;simp only[oY (k:=4) (bO:=λk=>decide (k<=c5)) h a (cR hm)];unfold LwReel.take;simp only[bQ];rw[ar af,fv]
theorem M6 (h:readVar (X.drop p)=some (n,X.drop (p+j)))(a:p+j<=X.length)(b:c5<n∨X.length<p+j+n):LwReel.string c5 ⟨X.drop p,p⟩= .error (4,p):=by
 unfold LwReel.string andThen here upTo;by_cases hm:n<=c5
 .simp only[oY (k:=4) (bO:=λk=>decide (k<=c5)) h a (cR hm)];unfold LwReel.take;simp only[bQ];rw[az af]
 .simp only[q7 (k:=4) (s:=⟨X.drop p,p⟩) (bO:=λk=>decide (k<=c5)) h (dC hm)]
theorem FY (h:readVar (X.drop p)=none):LwReel.string c5 ⟨X.drop p,p⟩= .error (4,eo (X.drop p) p):=by
 unfold LwReel.string andThen here upTo;simp only[pK (k:=4) (s:=⟨X.drop p,p⟩) (bO:=λk=>decide (k<=c5)) h]
theorem FI {i e:Nat}(h:i+n<=e):(b.take (i+n)).drop i=((b.take e).drop i).take n:=by
 rw[iB,iB,List.take_take];congr 1;omega
theorem zw:∀(a:Bytes) (c:UInt8),ofLe (a++[c])=ofLe a+c.toNat*256 ^ a.length
 | [],c=>by simp[ofLe]
 | x::a,c=>by
  have b:=zw a c;show x.toNat+256*ofLe (a++[c])=x.toNat+256*ofLe a+c.toNat*256 ^ (a.length+1);rw[b,j2,Nat.mul_add,Nat.mul_left_comm,oG 256 (256 ^ a.length)];omega
theorem zS:∀{w n k:Nat},k<w->(le w n)[k]?=some (UInt8.ofNat (n / 256 ^ k % 256))
 | 0,_,_,h=>af
 | w+1,n,0,_=>by show some (UInt8.ofNat (n % 256))=_;simp
 | w+1,n,k+1,h=>by
  show(le w (n / 256))[k]?=_;rw[zS af,Nat.div_div_eq_div_mul,j2,oG]
theorem EY {c m:UInt8}(hm:MARK[k]?=some m)(hc:r[k]?=some c):firstWrong (MARK.drop k) (r.drop k) (p+k)=if m=c then firstWrong (MARK.drop (k+1)) (r.drop (k+1)) (p+(k+1)) else some (p+k):=by
 rw[oN hm,oN hc];rfl
theorem Gg (h:3<=k∨r.length<=k):firstWrong (MARK.drop k) (r.drop k) (p+k)=none:=by
 rcases h with h | h
 .rw[show MARK.drop k=[] from lB h];cases r.drop k<;>rfl
 .rw[lB h];cases MARK.drop k<;>rfl
noncomputable def cD (b:Bytes)(p:Nat):UInt8:=((b.drop p)[3]?).getD 0
noncomputable def kD (b:Bytes)(p:Nat):Bool:=decide (eG ((b.take (p+8)).drop p)=ofLe ((b.drop (p+8)).take 4))
theorem IP (h:firstWrong MARK (b.drop p) p=some q):opening b p al=some (1,q):=by
 unfold opening;rw[h]
theorem D5 (h:firstWrong MARK (b.drop p) p=none)(a:4<=(b.drop p).length)(hk:al (cD b p)=false):opening b p al=some (1,p+3):=by
 unfold opening;rw[h];have e:(b.drop p)[3]?=some (cD b p):=by unfold cD;rw[dy af];rfl
 simp only[e,hk,c2]
theorem E7 (h:firstWrong MARK (b.drop p) p=none)(a:¬(4<=(b.drop p).length/\al (cD b p)=false))(d:8<=(b.drop p).length)(c:MOST<lengthOf (b.drop p)):opening b p al=some (2,p+4):=by
 unfold opening;rw[h];have e:(b.drop p)[3]?=some (cD b p):=by unfold cD;rw[dy af];rfl
 have hk:¬al (cD b p)=false:=λz=>a ⟨af,z⟩;simp only[e];rw[ar hk,ar af,az c]
theorem Bj (a:12<=(b.drop p).length):same (crc ((b.drop p).take 8)) (((b.drop p).drop 8).take 4)=kD b p:=by
 rw[bQ] at a;rw[qA (by rw[cF,bQ,bQ];omega)];unfold kD;rw[fv,iB,s6]
theorem HF (h:firstWrong MARK (b.drop p) p=none)(a:¬(4<=(b.drop p).length/\al (cD b p)=false))(c:¬(8<=(b.drop p).length/\MOST<lengthOf (b.drop p)))(d:12<=(b.drop p).length)(hc:kD b p=false):opening b p al=some (3,p+8):=by
 unfold opening;rw[h];have e:(b.drop p)[3]?=some (cD b p):=by unfold cD;rw[dy af];rfl
 have hk:¬al (cD b p)=false:=λz=>a ⟨af,z⟩;simp only[e];rw[ar hk,ar af,ar (λz=>c ⟨af,z⟩),ar af,Bj d,az hc]
theorem Mj (h:firstWrong MARK (b.drop p) p=none)(d:¬(4<=(b.drop p).length/\al (cD b p)=false))(f:¬(8<=(b.drop p).length/\MOST<lengthOf (b.drop p)))(g:¬(12<=(b.drop p).length/\kD b p=false)):opening b p al=none:=by
 unfold opening;rw[h];by_cases i:4<=(b.drop p).length
 .have e:(b.drop p)[3]?=some (cD b p):=by unfold cD;rw[dy af];rfl
  have hk:¬al (cD b p)=false:=λz=>d ⟨i,z⟩;simp only[e];rw[ar hk];by_cases a:(b.drop p).length<8
  .rw[az a]
  .rw[ar a,ar (λz=>f ⟨af,z⟩)];by_cases c:(b.drop p).length<12
   .rw[az c]
   .rw[ar c,Bj af,ar (λz=>g ⟨af,z⟩)]
 .have e:(b.drop p)[3]?=none:=nF af;simp only[e]
theorem cN {t:At}{y:β}(h:andThen f g s= .ok (y,t)):∃x u,f s= .ok (x,u)/\g x u= .ok (y,t):=by
 unfold andThen at h
 cases e:f s with
 | error z=>rw[e] at h;cases h
 | ok z=>obtain⟨x,u⟩:=z;rw[e] at h;exact⟨x,u,O,h⟩
theorem gF {bO:Nat->Bool}{t:At}(h:num k bO s= .ok (n,t)):bO n=true:=by
 unfold num at h
 cases e:readVar s.left with
 | none=>rw[e] at h;simp only at h;split at h<;>cases h
 | some y=>
  obtain⟨m,r⟩:=y;rw[e] at h;simp only at h;by_cases hm:bO m=true
  .rw[az hm] at h;cases h;exact hm
  .rw[ar hm] at h;cases h
theorem Cd {t:At}(h:LwReel.string c5 s= .ok (b,t)):b.length<=c5:=by
 unfold LwReel.string at h;obtain⟨p,u,_,h⟩:=cN h;obtain⟨n,v,h1,h⟩:=cN h;have a:n<=c5:=dS (gF h1);unfold LwReel.take at h;split at h
 .cases h
 .cases h;rw[cF];omega
theorem Jm {t:At}{x:Stream}(h:rStream s= .ok (x,t)):x.right=true:=by
 unfold rStream at h;obtain⟨k,_,h1,h⟩:=cN h;obtain⟨a,_,h2,h⟩:=cN h;obtain⟨b,_,e,h⟩:=cN h;obtain⟨n,_,f,h⟩:=cN h;obtain⟨m,_,g,h⟩:=cN h;have i:decide (k<=255)=true:=gF h1;have d:(decide (1<=a)&&decide (a<2 ^ 32))=true:=gF h2;have c:(decide (1<=b)&&(decide (b<2 ^ 32)&&decide (Nat.gcd a b=1)))=true:=gF e;have j:=Cd f;have l:=Cd g;cases h;unfold Stream.right;simp only[cH] at d c ⊢;exact⟨i,d.1,d.2,c.1,c.2.1,c.2.2,cR j,cR l⟩
noncomputable def eZ (f:Rd α)(n k:Nat)(done:List α)(s0 sk:At):Prop:=rMany f n s0=match rMany f (n - k) sk with
 | .ok (l,t)=> .ok (done++l,t)
 | .error e=> .error e
theorem eZ.start:eZ f n 0 [] s0 s0:=by
 unfold eZ;rw[Nat.sub_zero];cases rMany f n s0<;>rfl
theorem v8:rMany f (n+1) s=match f s with
 | .ok (x,t)=>(match rMany f n t with
  | .ok (l,u)=> .ok (x::l,u)
  | .error e=> .error e)
 | .error e=> .error e:=by
 show andThen f (λx=>andThen (rMany f n) λl=>give (x::l)) s=_;unfold andThen
 cases f s with
 | error e=>rfl
 | ok y=>
  obtain⟨x,t⟩:=y;simp only
  cases rMany f n t with
  | error e=>rfl
  | ok z=>rfl
theorem eZ.step {t:At}{x:α}(p:eZ f n k done s0 sk)(hk:k<n)(h:f sk= .ok (x,t)):eZ f n (k+1) (done++[x]) s0 t:=by
 unfold eZ at p ⊢;rw[p,show n - k=(n - (k+1))+1 by omega,v8,h];simp only
 cases rMany f (n - (k+1)) t with
 | error e=>rfl
 | ok z=>simp
theorem eZ.err {α:Type}{f:Rd α}{n k:Nat}{done:List α}{s0 sk:At}{e:Nat×Nat}(p:eZ f n k done s0 sk)(hk:k<n)(h:f sk= .error e):rMany f n s0= .error e:=by
 unfold eZ at p;rw[p,show n - k=(n - (k+1))+1 by omega,v8,h]
theorem eZ.all (p:eZ f n n done s0 sk):rMany f n s0= .ok (done,sk):=by
 unfold eZ at p;rw[p,s8];simp[rMany,give]
theorem zJ {α:Type}{f:Rd α}:∀{n:Nat} {s t:At} {l:List α},rMany f n s= .ok (l,t)->l.length=n/\∀x∈l,∃s t,f s= .ok (x,t)
 | 0,s,t,l,h=>by
  have:(.ok ([],s):Except (Nat×Nat) (List α×At))= .ok (l,t):=h;cases this
  exact⟨O,λx hx=>by simp at hx⟩
 | n+1,s,t,l,h=>by
  rw[v8] at h
  cases e:f s with
  | error z=>rw[e] at h;cases h
  | ok z=>
   obtain⟨x,u⟩:=z;rw[e] at h;simp only at h
   cases a:rMany f n u with
   | error z=>rw[a] at h;cases h
   | ok z=>
    obtain⟨b,v⟩:=z;rw[a] at h;cases h;obtain⟨h1,h2⟩:=zJ a;refine⟨by simp[h1],λy hy=>?_⟩;rcases List.mem_cons.mp hy with z | z
    .subst z;exact⟨s,u,e⟩
    .exact h2 y z
theorem vk {ss:List Stream}(h:run rHead b p= .ok ss):1<=ss.length/\ss.length<=4/\∀s∈ss,s.right=true:=by
 unfold run at h
 cases e:rHead ⟨b,p⟩ with
 | error z=>rw[e] at h;cases h
 | ok z=>
  obtain⟨l,t⟩:=z;rw[e] at h;cases h;unfold rHead at e;obtain⟨_,_,_,e⟩:=cN e;obtain⟨n,_,h2,e⟩:=cN e;obtain⟨l,_,c,e⟩:=cN e;obtain⟨_,_,_,e⟩:=cN e;cases e;have a:(decide (1<=n)&&decide (n<=STREAMS))=true:=gF h2;rw[cH,cb,cb] at a;obtain⟨f,d⟩:=zJ c;refine⟨af,by have:n<=4:=a.2;omega,λs hs=>?_⟩;obtain⟨u,v,z⟩:=d s hs;exact Jm z
theorem Dy {p:Part}{a:List Nat}(h:run (rPart n) b q= .ok (p,a)):p.flags<=3:=by
 unfold run at h
 cases e:rPart n ⟨b,q⟩ with
 | error z=>rw[e] at h;cases h
 | ok z=>
  obtain⟨y,t⟩:=z;rw[e] at h;cases h;unfold rPart at e;obtain⟨_,_,_,e⟩:=cN e;obtain⟨_,_,_,e⟩:=cN e;obtain⟨_,_,_,e⟩:=cN e;obtain⟨_,_,_,e⟩:=cN e;obtain⟨_,_,_,e⟩:=cN e;obtain⟨_,_,_,e⟩:=cN e;obtain⟨f,_,c,e⟩:=cN e;cases e;exact dS (gF c)
theorem Gv {p:Part}(h:aV ae closed b c=some (.part p pl,c')):c'.lost=(c.lost||decide (128<=p.flags))/\c.parts.length<16:=by
 have g:c.aU= .box:=by
  unfold aV at h
  cases hd:c.aU with
  | box=>rfl
  | tail=>simp only[hd] at h;split at h;cases h;split at h<;>cases h
  | search=>simp only[hd] at h;split at h;cases h;split at h<;>cases h
  | over=>simp only[hd] at h;cases h
  | done=>simp only[hd] at h;cases h
 unfold aV at h;rw[g] at h;simp only at h;unfold dE at h
 cases d:boxAt b c.at_ (cS c.streams c.parts) with
 | more=>rw[d] at h;simp only at h;split at h<;>cases h
 | fault k q=>rw[d] at h;cases h
 | whole k body n=>
  rw[d] at h;have a:=(oB d).2.2.2;injection h with h
  unfold fQ at h
  cases hs:c.streams with
  | none=>
   rw[hs] at h;simp only at h;unfold hE at h
   split at h<;>cases h
  | some ss=>
   rw[hs] at h a;simp only at h;by_cases hk:k=PART
   .rw[az hk] at h
    have j:c.parts.length<16:=by
     rw[hk] at a;unfold cS at a;simp only[Option.isNone_some,mW,dV,lV,cH,dz] at a;rcases a with⟨_,z⟩ | z
     .exact z
     .cases z
    refine⟨?_,j⟩;unfold d8 at h
    cases f:run (rPart ss.length) body (c.at_+12) with
    | error e=>rw[f] at h;cases h
    | ok y=>
     obtain⟨p0,l⟩:=y;have m:=Dy f;rw[f] at h;simp only at h
     cases hd:disorder ss c.parts p0.stream p0.time p0.flags with
     | some i=>
      rw[hd] at h;simp only at h;split at h
      .cases h;simp[DISORDER]
      .cases h
     | none=>
      rw[hd] at h;cases h;rw[dC af,Bool.or_false]
   .rw[ar hk] at h;unfold d4 at h;split at h<;>cases h
theorem wu (h:12<=(b.drop p).length):opening (b++x) p al=opening b p al:=by
 have a:p<=b.length:=by rw[bQ] at h;omega
 unfold opening;have e:(b++x).drop p=b.drop p++x:=by rw[g4 a]
 rw[e];generalize b.drop p=r at*;rw[qR MARK r x p (.inr (by show 3<=_;omega)),k9 af];have e1:lengthOf (r++x)=lengthOf r:=by unfold lengthOf;rw[g4 af,gx (by rw[bQ];omega)]
 have c:(r++x).take 8=r.take 8:=gx af;have e3:((r++x).drop 8).take 4=(r.drop 8).take 4:=by rw[g4 af,gx (by rw[bQ];omega)]
 rw[e1,c,e3]
 cases firstWrong MARK r p with
 | some q=>rfl
 | none=>
  cases r[3]? with
  | none=>rfl
  | some k=>
   simp only[aP];rw[ar (show ¬r.length+x.length<8 by omega),ar (show ¬r.length<8 by omega),ar (show ¬r.length+x.length<12 by omega),ar (show ¬r.length<12 by omega)]
theorem Hz (h:aV ae closed b c=some (t,c'))(a:iv t=none)(e:t≠ .end_)(hs:c.aU≠ .search):c.aU= .box/\c.at_+16<=c'.at_/\(c'.aU= .box∨c'.aU= .tail):=by
 have f:c.aU= .box:=by
  unfold aV at h
  cases hd:c.aU with
  | box=>rfl
  | tail=>simp only[hd] at h;split at h;cases h;cases a;split at h;cases h;exact absurd O e;cases h
  | search=>exact absurd hd hs
  | over=>simp only[hd] at h;cases h;exact absurd O e
  | done=>simp only[hd] at h;cases h
 refine⟨f,?_⟩;unfold aV at h;rw[f] at h;simp only at h;unfold dE at h
 cases d:boxAt b c.at_ (cS c.streams c.parts) with
 | more=>rw[d] at h;simp only at h;split at h;cases h;cases a;cases h
 | fault k q=>rw[d] at h;cases h;cases a
 | whole k body n=>
  rw[d] at h;have g:=(oB d).1;injection h with h
  unfold fQ hE d8 d4 at h
  repeat' split at h
  all_goals (injection h with h1 h2;subst h1;subst h2)
  all_goals first | (cases a;done) | exact⟨g,.inl rfl⟩ | exact⟨g,.inr O⟩
theorem u8 (h:n<256):(UInt8.ofNat n).toNat=n:=by
 have:=vc n;rw[pV h] at this;exact this
theorem zF:∀(k n acc w:Nat) (r:Bytes),0<k->n<128 ^ k->acc+n*w<2 ^ 64->(w≠1->0<n)->readVarFrom k acc w (varOf k n++r)=some (acc+n*w,r)
 | 0,n,acc,w,r,b,h,_,_=>absurd b af
 | k+1,n,acc,w,r,_,h,c,d=>by
  unfold varOf;by_cases a:n<128
  .rw[az a];show readVarFrom (k+1) acc w (UInt8.ofNat n::r)=_;unfold readVarFrom;have e:=u8 (show n<256 by omega);rw[e,ar af,ar,az c];rintro⟨z,f⟩;have:=d f;rw[z] at e;have g:(0:UInt8).toNat=0:=rfl;omega
  .rw[ar a];show readVarFrom (k+1) acc w (UInt8.ofNat (n % 128+128)::(varOf k (n / 128)++r))=_;unfold readVarFrom;have e:=u8 (show n % 128+128<256 by omega)
   have hk:0<k:=by
    rcases Nat.eq_zero_or_pos k with z | z
    .subst z;simp at h;omega
    .exact z
   have hm:n % 128*w+n / 128*(128*w)=n*w:=by
    rw[<-Nat.mul_assoc,<-Nat.add_mul,oG (n / 128) 128,Nat.mod_add_div]
   rw[e,az af,zF k (n / 128) _ _ r hk (w6 (by rw[j2] at h;omega)) (by rw[show n % 128+128 - 128=n % 128 by omega];omega) (λ_=>af)];rw[show n % 128+128 - 128=n % 128 by omega];congr 2;omega
theorem AK (r:Bytes)(h:n<2 ^ 64):readVar (var n++r)=some (n,r):=by
 unfold readVar var;rw[zF 10 n 0 1 r aJ (m4 h aJ) af (λz=>absurd O z)];congr 2;omega
theorem pH {kind:Nat}{bO:Nat->Bool}(h:n<2 ^ 64):num kind bO ⟨var n++r,p⟩=if bO n=true then .ok (n,⟨r,p+(var n).length⟩) else .error (kind,p):=by
 by_cases a:bO n=true
 .rw[az a,B_ (s:=⟨var n++r,p⟩) (AK r h) a];congr 3;show p+((var n++r).length - r.length)=_;rw[aP];omega
 .rw[ar a,q7 (s:=⟨var n++r,p⟩) (AK r h) (by simpa using a)]
theorem vd (z:Int):zag (zig z)=z:=by
 unfold zig zag;by_cases h:0<=z
 .rw[az h,az af];omega
 .rw[ar h,ar af];omega
theorem Jn {z:Int}(h1: -(2 ^ 53:Int) <z)(h2:z<2 ^ 53):zig z<2 ^ 54:=by
 unfold zig;split<;>omega
theorem Kh {stream flags lasts:Nat}{time:Int}(hs:stream<2 ^ 64)(f:zig time<2 ^ 64)(g:lasts<2 ^ 64)(h:flags<2 ^ 64):
 (if stream<n/\okTime time=true/\lasts<2 ^ 32/\flags<=3 then ∃i,run (rPart n) (Part.body ⟨stream,time,lasts,flags,b⟩) q= .ok (⟨stream,time,lasts,flags,b⟩,i) else ∃e,run (rPart n) (Part.body ⟨stream,time,lasts,flags,b⟩) q= .error e):=by
 have j:Part.body ⟨stream,time,lasts,flags,b⟩=var stream++(var (zig time)++(var lasts++(var flags++b))):=by simp[Part.body,Part.front]
 rw[j];unfold run rPart;simp only[andThen,here];rw[pH hs];by_cases h1:stream<n
 rotate_left
 .rw[ar af,ar (by simpa using h1)];exact⟨_,O⟩
 rw[az (c:=decide (stream<n)=true) (by simpa using h1)];dsimp only;rw[pH f];by_cases h2:okTime time=true
 rotate_left
 .rw[ar (λz=>h2 z.2.1),ar (by unfold okZig;rw[vd];exact h2)];exact⟨_,O⟩
 rw[az (c:=okZig (zig time)=true) (by unfold okZig;rw[vd];exact h2)];dsimp only;unfold upTo;rw[pH g];by_cases d:lasts<2 ^ 32
 rotate_left
 .rw[ar (λz=>d z.2.2.1),ar (by simp;omega)];exact⟨_,O⟩
 rw[az (c:=decide (lasts<=2 ^ 32 - 1)=true) (by simp;omega)];dsimp only;rw[pH h];by_cases a:flags<=3
 rotate_left
 .rw[ar (λz=>a z.2.2.2),ar (by simp;omega)];exact⟨_,O⟩
 rw[az (c:=decide (flags<=3)=true) (by simpa using a),az ⟨h1,h2,d,a⟩];dsimp only;rw[vd];exact⟨_,O⟩
theorem Jf (h:128<=v):varOf (k+1) v=UInt8.ofNat (v % 128+128)::varOf k (v / 128):=by
 show(if v<128 then _ else _)=_;rw[ar af]
theorem Mr (h:v<128):varOf (k+1) v=[UInt8.ofNat v]:=by
 show(if v<128 then _ else _)=_;rw[az h]
theorem zv:∀k n,(varOf k n).length<=k
 | 0,n=>bY 0
 | k+1,n=>by
  unfold varOf;split
  .simp
  .have:=zv k (n / 128);simp only[bA];omega
theorem hp (n:Nat):(var n).length<=10:=zv 10 n
end RM
namespace RM
open LwReel ReelCalls
variable {a f k m n p:Nat} {al:UInt8->Bool} {b:Bytes} {l r xs:List Nat} {s:At} {x:Stream} {α β:Type}
noncomputable def jS (x:Info)(s:Nat)(t:Int):Bool:=x.stream==s&&(isKey x.flags&&decide (x.time<=t))
noncomputable def kF (l:List Info)(s:Nat)(t:Int)(i:Nat):Bool:=match l[i]? with
 | some x=>jS x s t
 | none=>false
noncomputable def kU (o:Option Nat)(d:Option Nat):Option Nat:=match o with
 | some i=>some i
 | none=>d
theorem AB (l:List Info)(s:Nat)(t:Int):seek l s t=kU ((List.range l.length).filter (kF l s t)).getLast? (l.findIdx? λ(x:Info)=>x.stream==s):=(O)
theorem A5 (l:List Info)(x:Info)(s:Nat)(t:Int):seek (l++[x]) s t=
 if x.stream=s then(if isKey x.flags=true/\x.time<=t then some l.length else kU (seek l s t) (some l.length)) else seek l s t:=by
 rw[AB,AB]
 have e:(List.range (l++[x]).length).filter (kF (l++[x]) s t)=(List.range l.length).filter (kF l s t)++(if jS x s t=true then[l.length] else[]):=by
  rw[aP,vL,List.range_succ,p9];congr 1
  .refine List.filter_congr λi hi=>?_;unfold kF;rw[k9 (List.mem_range.mp hi)]
  .rw[qj,uy];unfold kF;rw[qw (bY _),s8];rfl
 rw[e,List.findIdx?_append];by_cases h1:x.stream=s
 .by_cases h2:isKey x.flags=true/\x.time<=t
  .have a:jS x s t=true:=by unfold jS;simp[h1,h2.1,h2.2]
   rw[az a,az h1,az h2];simp[kU]
  .have a:¬jS x s t=true:=by unfold jS;simp only[cH,dz];exact λz=>h2 z.2
   rw[ar a,et,az h1,ar h2]
   cases b:((List.range l.length).filter (kF l s t)).getLast? with
   | some i=>rfl
   | none=>
    cases e3:l.findIdx? (λ(x:Info)=>x.stream==s) with
    | some i=>rfl
    | none=>simp[h1,kU]
 .have a:¬jS x s t=true:=by unfold jS;simp only[cH,fX];exact λz=>h1 z.1
  rw[ar a,et,ar h1]
  cases b:((List.range l.length).filter (kF l s t)).getLast? with
  | some i=>rfl
  | none=>
   cases e3:l.findIdx? (λ(x:Info)=>x.stream==s) with
   | some i=>rfl
   | none=>simp[h1,kU]
theorem Ly (s:Nat)(t:Int):seek [] s t=none:=rfl
theorem ES:∀(n:Nat) (l:List Info) (s:Nat) (t:Int) (i:Nat),l.length=n->seek l s t=some i->i<l.length:=by
 intro n
 induction n with
 | zero=>
  intro l s t i a h;rw[List.length_eq_zero_iff.mp a,Ly] at h
  cases h
 | succ n c=>
  intro l s t i a h;rcases List.eq_nil_or_concat l with z | ⟨m,x,z⟩
  .rw[z] at a;cases a
  .rw[List.concat_eq_append] at z;subst z;rw[aP,vL] at a ⊢;rw[A5] at h;have hm:∀j,seek m s t=some j->j<m.length:=λj b=>c m s t j af b;split at h
   .split at h
    .cases h;omega
    .cases b:seek m s t with
     | some j=>
      rw[b] at h;cases h;have:=hm _ b
      omega
     | none=>
      rw[b] at h;cases h;omega
   .have:=hm _ h;omega
noncomputable def dH:List Nat->Option (Stream×List Nat)
 | k::a::b::n::r=>if k<=255/\1<=a/\a<2 ^ 32/\1<=b/\b<2 ^ 32/\Nat.gcd a b=1/\n<=NAME/\n<=r.length/\(r.take n).all (λc=>decide (c<=255))=true then
  (match r.drop n with
   | []=>none
   | m::t=>if m<=SETUP/\m<=t.length/\(t.take m).all (λc=>decide (c<=255))=true then some (⟨k,⟨a,b⟩,(r.take n).map UInt8.ofNat,(t.take m).map UInt8.ofNat⟩,t.drop m) else none)
  else none
 | _=>none
noncomputable def dM:Nat->List Nat->Option (List Stream)
 | _,[]=>some []
 | 0,_=>none
 | f+1,l=>match dH l with
  | none=>none
  | some (x,r)=>(dM f r).map λxs=>x::xs
theorem wt (l:List Nat):(l.any λ(c:Nat)=>decide (255<c))=!(l.all λc=>decide (c<=255)):=by
 induction l with
 | nil=>rfl
 | cons x l a=>
  rw[kT,nJ,a,Bool.not_and];congr 1;by_cases h:255<x<;>simp[h]<;>omega
theorem tP:∀(f:Nat) (l:List Nat),((streamsIn f l).bind λx=>if x.all Stream.right=true then some x else none)=dM f l
 | f,[]=>by cases f<;>rfl
 | 0,x::l=>rfl
 | f+1,[k]=>rfl
 | f+1,[k,a]=>rfl
 | f+1,[k,a,b]=>rfl
 | f+1,k::a::b::n::r=>by
  show(Option.bind (match r.drop n with
   | []=>none
   | m::t=>if t.length<m∨((r.take n++t.take m).any λ(c:Nat)=>decide (255<c))=true then none else(streamsIn f (t.drop m)).map λ(l:List Stream)=>⟨k,⟨a,b⟩,(r.take n).map UInt8.ofNat,(t.take m).map UInt8.ofNat⟩::l) _)=
   match dH (k::a::b::n::r) with
   | none=>none
   | some (x,r)=>(dM f r).map λxs=>x::xs
  unfold dH
  cases hd:r.drop n with
  | nil=>
   simp only[hd,ite_self]
   rfl
  | cons m t=>
   simp only[hd]
   have D:n<r.length:=by
    have:(r.drop n).length=(m::t).length:=by rw[hd]
    rw[bQ,bA] at this;omega
   have u:((r.take n).map UInt8.ofNat).length=n:=by rw[aX,cF];omega
   by_cases h1:t.length<m∨((r.take n++t.take m).any λ(c:Nat)=>decide (255<c))=true
   .rw[az h1]
    have j:¬((r.take n).all (λc=>decide (c<=255))=true/\(m<=t.length/\(t.take m).all (λc=>decide (c<=255))=true)):=by
     rintro⟨v,E,w⟩;rcases h1 with z | z
     .omega
     .rw[wt,List.all_append,v,w] at z;cases z
    split
    .rfl
    .rename_i x y h;split at h
     .rename_i c1;split at h
      .rename_i p;exact absurd ⟨c1.2.2.2.2.2.2.2.2,p.2⟩ j
      .cases h
     .cases h
   .rw[ar h1]
    have j:(r.take n).all (λc=>decide (c<=255))=true/\(m<=t.length/\(t.take m).all (λc=>decide (c<=255))=true):=by
     have h2:¬((r.take n++t.take m).any λ(c:Nat)=>decide (255<c))=true:=λz=>h1 (.inr z);rw[wt,List.all_append,Bool.not_and,lV,not_or] at h2;exact⟨by simpa using h2.1,af,by simpa using h2.2⟩
    have A:((t.take m).map UInt8.ofNat).length=m:=by rw[aX,cF];omega
    have s:(Stream.right ⟨k,⟨a,b⟩,(r.take n).map UInt8.ofNat,(t.take m).map UInt8.ofNat⟩=true)↔((k<=255/\1<=a/\a<2 ^ 32/\1<=b/\b<2 ^ 32/\Nat.gcd a b=1/\n<=NAME)/\m<=SETUP):=by
     unfold Stream.right;simp only[cH,dz,u,A];constructor
     .rintro⟨a1,a2,a3,a4,d,e,g,i⟩;exact⟨⟨a1,a2,a3,a4,d,e,g⟩,i⟩
     .rintro⟨⟨a1,a2,a3,a4,d,e,g⟩,i⟩;exact⟨a1,a2,a3,a4,d,e,g,i⟩
    by_cases o:Stream.right ⟨k,⟨a,b⟩,(r.take n).map UInt8.ofNat,(t.take m).map UInt8.ofNat⟩=true
    .obtain⟨⟨a1,a2,a3,a4,d,e,g⟩,i⟩:=s.mp o;rw[az ⟨a1,a2,a3,a4,d,e,g,af,j.1⟩,az ⟨i,j.2⟩];dsimp only;rw[<-tP f (t.drop m)]
     cases streamsIn f (t.drop m) with
     | none=>rfl
     | some xs=>
      dsimp only[Option.map_some,Option.bind_some];rw[nJ,o,fZ];split<;>rfl
    .have C:¬((k<=255/\1<=a/\a<2 ^ 32/\1<=b/\b<2 ^ 32/\Nat.gcd a b=1/\n<=NAME)/\m<=SETUP):=λz=>o (s.mpr z)
     have e1:(((streamsIn f (t.drop m)).map λ(l:List Stream)=>(⟨k,⟨a,b⟩,(r.take n).map UInt8.ofNat,(t.take m).map UInt8.ofNat⟩:Stream)::l).bind λx=>if x.all Stream.right=true then some x else none)=none:=by
      cases streamsIn f (t.drop m) with
      | none=>rfl
      | some xs=>
       dsimp only[Option.map_some,Option.bind_some];rw[nJ,Bool.eq_false_iff.mpr o,nU];rfl
     rw[e1];split
     .rfl
     .rename_i x y h;split at h
      .rename_i c1;split at h
       .rename_i p;exact absurd ⟨⟨c1.1,c1.2.1,c1.2.2.1,c1.2.2.2.1,c1.2.2.2.2.1,c1.2.2.2.2.2.1,c1.2.2.2.2.2.2.1⟩,p.1⟩ C
       .cases h
      .cases h
theorem DV:eO (takeAll n):=λb p q=>by
 unfold takeAll;by_cases h:b.length<n
 .simp[h]
 .simp[h]
theorem x8 {k:Nat}:∀l,eO (LwReel.told k l)
 | []=>kL
 | c::r=>λb p q=>by
  unfold LwReel.told
  cases b with
  | nil=>trivial
  | cons d t=>
   dsimp only;by_cases h:c=d
   .rw[az h,az h];exact x8 r t (p+1) (q+1)
   .rw[ar h,ar h];trivial
theorem AL {m:Nat}:∀n l,eO (rLoose m n l)
 | 0,l=>kL
 | n+1,l=>dP gD λs=>dP gD λt=>dP gD λa=>dP gD λf=>dP gD λz=>AL n _
theorem zI:eO (rForm m):=dP gD λn=>dP (AL n []) λl=>dP DV λb=>dP (x8 _) λ_=>dP w0 λ_=>kL
theorem w_:∀(m r:Bytes) (p q:Nat),firstWrong m r (p+q)=(firstWrong m r q).map λz=>p+z
 | [],r,p,q=>rfl
 | c::m,[],p,q=>rfl
 | c::m,d::r,p,q=>by
  show(if c=d then firstWrong m r (p+q+1) else some (p+q))=Option.map _ (if c=d then firstWrong m r (q+1) else some q);by_cases h:c=d
  .rw[az h,az h,pB,w_ m r p (q+1)]
  .rw[ar h,ar h];rfl
noncomputable def ro (p:Nat):Box->Box
 | .more=> .more
 | .fault k q=> .fault k (p+q)
 | .whole k body n=> .whole k body (p+n)
theorem Fy:boxAt b p al=ro p (boxAt (b.drop p) 0 al):=by
 unfold boxAt;simp only[kC];generalize b.drop p=r;have e:=w_ MARK r p 0;rw[Nat.add_zero] at e;rw[e]
 cases firstWrong MARK r 0 with
 | some q=>rfl
 | none=>
  simp only[Option.map_none]
  cases r[3]? with
  | none=>rfl
  | some k=>
   simp only;by_cases h1:al k=false
   .rw[az h1,az h1];rfl
   rw[ar h1,ar h1];by_cases h2:r.length<8
   .rw[az h2,az h2];rfl
   rw[ar h2,ar h2];by_cases a:MOST<lengthOf r
   .rw[az a,az a];rfl
   rw[ar a,ar a];by_cases c:r.length<12
   .rw[az c,az c];rfl
   rw[ar c,ar c];by_cases d:same (crc (r.take 8)) ((r.drop 8).take 4)=false
   .rw[az d,az d];rfl
   rw[ar d,ar d];by_cases f:r.length<16+lengthOf r
   .rw[az f,az f];rfl
   rw[ar f,ar f];by_cases g:same (crc ((r.drop 12).take (lengthOf r))) ((r.drop (12+lengthOf r)).take 4)=false
   .rw[az g,az g];show Box.fault _ _=Box.fault _ _;congr 1;omega
   rw[ar g,ar g];show Box.whole _ _ _=Box.whole _ _ _;congr 1;omega
theorem LQ (h:12<=b.length):boxAt (b.take 12) 0 al=match opening b 0 al with
 | some (k,q)=> .fault k q
 | none=> .more:=by
 have e:opening b 0 al=opening (b.take 12) 0 al:=by
  conv=>lhs;rw[<-kW 12 b]
  exact wu (by rw[kC,cF];omega)
 rw[jH,e]
 cases opening (b.take 12) 0 al with
 | some x=>rfl
 | none=>
  have a:((b.take 12).drop 0).length=12:=by rw[kC,cF];omega
  dsimp only;rw[a,ar aJ,az af]
theorem KD (h:12<=b.length):(match boxAt (b.take 12) 0 (λ(k:UInt8)=>k==HEAD) with
 | .more=>headOf (b.take (16+lengthOf b))
 | _=>none)=headOf b:=by
 rw[LQ h]
 cases a:opening b 0 (λ(k:UInt8)=>k==HEAD) with
 | some x=>
  obtain⟨k,q⟩:=x;show none=headOf b;unfold headOf
  rw[jH,a]
 | none=>
  dsimp only;by_cases f:b.length<=16+lengthOf b
  .rw[wM f]
  .have e:lengthOf (b.take (16+lengthOf b))=lengthOf b:=by
    unfold lengthOf;rw[iB,List.take_take,nQ af]
   have g:opening (b.take (16+lengthOf b)) 0 (λ(k:UInt8)=>k==HEAD)=none:=by
    rw[<-a]
    conv=>rhs;rw[<-kW (16+lengthOf b) b]
    exact(wu (by rw[kC,cF];omega)).symm
   have i:boxAt (b.take (16+lengthOf b)) 0 (λ(k:UInt8)=>k==HEAD)≠ .more:=by
    rw[jH,g];dsimp only;have d:(b.take (16+lengthOf b)).length=16+lengthOf b:=by rw[cF];omega
    rw[kC,e,d,ar af,ar af];split
    .intro z;cases z
    .have:∃c,(b.take (16+lengthOf b))[3]?=some c:=⟨_,dy (by rw[d];omega)⟩;obtain⟨c,hc⟩:=this;rw[hc];intro z;cases z
   unfold headOf;have:=BI (x:=b.drop (16+lengthOf b)) (b3 _) i;rw[kW] at this;rw[this]
noncomputable def gb (x:Info):Nat:=(Part.front ⟨x.stream,x.time,x.lasts,x.flags,[]⟩).length
noncomputable def cg (l:List Stream)(aK:List Info):Nat:=match aK.getLast? with
 | none=>(headBox l).length
 | some x=>x.place+16+gb x+x.size
theorem sf (l:List Stream):cg l []=(headBox l).length:=rfl
theorem yk (l:List Stream)(aK:List Info)(x:Info):cg l (aK++[x])=x.place+16+gb x+x.size:=by
 unfold cg;rw[Ba];rfl
noncomputable def fA (l:List Stream):List Info->List Info->Option (List Info)
 | aK,[]=>some aK
 | aK,x::r=>if(disorder l aK x.stream x.time x.flags).isSome=true then none else fA l (aK++[{x with place:=cg l aK}]) r
theorem zg (l:List Stream):∀(r aK:List Info),inOrder l aK (cg l aK) r=(fA l aK r).map λh=>(h,cg l h)
 | [],aK=>rfl
 | x::r,aK=>by
  unfold inOrder fA;split
  .rfl
  .rw[<-zg l r,yk];rfl
noncomputable def gK (b:Bytes):Option (List Stream×List Info):=
 if b.length<48∨same (((b.drop (b.length - 16)).drop 8).take 4) (MARK++[0x2E])=false∨b.length<ofLe ((b.drop (b.length - 16)).take 8)+16∨ofLe ((b.drop (b.length - 16)).take 8)+(MOST+16) <b.length then none else
 match headOf b,boxAt b (ofLe ((b.drop (b.length - 16)).take 8)) (λ(k:UInt8)=>k==INDEX) with
 | some l,.whole _ body next=>if next≠b.length then none else match run (rForm l.length) body (ofLe ((b.drop (b.length - 16)).take 8)+12) with
  | .error _=>none
  | .ok (ps,_)=>match fA l [] ps with
   | none=>none
   | some a=>if cg l a=ofLe ((b.drop (b.length - 16)).take 8) then some (l,a) else none
 | _,_=>none
theorem L_ (b:Bytes):byIndex b=gK b:=by
 unfold byIndex gK;simp only;by_cases h:b.length<48∨same (((b.drop (b.length - 16)).drop 8).take 4) (MARK++[0x2E])=false∨b.length<ofLe ((b.drop (b.length - 16)).take 8)+16∨ofLe ((b.drop (b.length - 16)).take 8)+(MOST+16) <b.length
 .rw[az h,az h]
 rw[ar h,ar h];generalize ofLe ((b.drop (b.length - 16)).take 8)=place at*;have f:48<=b.length:=af;rw[<-KD (b:=b) af,Fy (p:=place)]
 cases hi:boxAt (b.drop place) 0 (λ(k:UInt8)=>k==INDEX) with
 | more=>split<;>simp_all [ro]
 | fault k q=>split<;>simp_all [ro]
 | whole k body next=>
  cases g:boxAt (b.take 12) 0 (λ(k:UInt8)=>k==HEAD) with
  | fault k q=>rfl
  | whole k q n=>rfl
  | more=>
   simp only[ro]
   cases headOf (b.take (16+lengthOf b)) with
   | none=>simp
   | some l=>
    dsimp only;have e:(next≠(b.drop place).length)↔(place+next≠b.length):=by rw[bQ];omega
    by_cases a:place+next≠b.length
    .rw[az (e.mpr a),az a]
    .rw[ar (λz=>a (e.mp z)),ar a]
     cases c:run (rForm l.length) body 0 with
     | error i=>
      cases d:run (rForm l.length) body (place+12) with
      | error e3=>rfl
      | ok x=>
       have:=oj zI d 0;rw[c] at this
       cases this
     | ok x=>
      rw[oj zI c (place+12)];obtain⟨ps,q⟩:=x;dsimp only;rw[<-sf,zg]
      cases fA l [] ps with
      | none=>rfl
      | some j=>rfl
noncomputable def cv (aK:List Info)(k:Nat):Int:=((lastOf aK k).map Info.time).getD 0
noncomputable def dA:List Info->List Info->List Nat
 | _,[]=>[]
 | aK,x::r=>[x.stream,zig (x.time - cv aK x.stream),x.lasts,x.flags,x.size]++dA (aK++[x]) r
noncomputable def eb (l:List Info):List Nat:=l.length::dA [] l
theorem LA (aK:List Info)(x:Info)(k:Nat):lastOf (aK++[x]) k=if x.stream=k then some x else lastOf aK k:=by
 unfold lastOf;rw[p9,qj,uy];by_cases h:x.stream=k
 .rw[az (by simpa using h),az h,Ba];rfl
 .rw[ar (by simpa using h),ar h,et]
theorem pa (aK:List Info)(x:Info)(k:Nat):cv (aK++[x]) k=if x.stream=k then x.time else cv aK k:=by
 unfold cv;rw[LA];split<;>rfl
theorem MH {β:Type}(x:Info)(aK:List Info):([x.stream,zig (x.time - cv aK x.stream),x.lasts,x.flags,x.size]:List Nat).flatMap var=var x.stream++(var (zig (x.time - cv aK x.stream))++(var x.lasts++(var x.flags++var x.size))):=by
 simp[lE]
theorem AE:∀(l aK:List Info),indexParts aK l=(dA aK l).flatMap var
 | [],aK=>rfl
 | x::r,aK=>by
  unfold indexParts dA;rw[tw,MH (β:=Nat),AE r];simp[cv]
theorem uU (l:List Info)(place:Nat):indexBody l place=(eb l).flatMap var++(le 8 place++(MARK++[0x2E])):=by
 unfold indexBody eb;rw[lE,AE,gv]
noncomputable def gn:List Nat->Rd Unit
 | []=>give ()
 | n::r=>andThen (exactly n) λ_=>gn r
theorem ly {a:Type}(f:Rd α)(g:α->Rd β)(h:β->Rd a)(s:At):andThen (andThen f g) h s=andThen f (λx=>andThen (g x) h) s:=by
 unfold andThen
 cases f s with
 | error e=>rfl
 | ok y=>rfl
theorem fB {f:Rd α}{g g':α->Rd β}(h:∀x t,g x t=g' x t):andThen f g s=andThen f g' s:=by
 unfold andThen
 cases f s with
 | error e=>rfl
 | ok y=>exact h _ _
theorem AR:∀(l aK:List Info) (s:At),rIndexParts aK l s=gn (dA aK l) s
 | [],aK,s=>rfl
 | x::r,aK,s=>by
  unfold rIndexParts dA;show _=andThen (exactly x.stream) (λ_=>andThen (exactly (zig (x.time - cv aK x.stream))) λ_=>andThen (exactly x.lasts) λ_=>andThen (exactly x.flags) λ_=>andThen (exactly x.size) λ_=>gn (dA (aK++[x]) r)) s;exact fB λ_ t1=>fB λ_ t2=>fB λ_ t3=>fB λ_ t4=>fB λ_ t5=>AR r (aK++[x]) t5
theorem KA (l:List Info)(place:Nat)(s:At):rHeld l place s=andThen (gn (eb l)) (λ_=>andThen (LwReel.told 7 (le 8 place)) λ_=>andThen (LwReel.told 4 (MARK++[0x2E])) λ_=>finish) s:=by
 unfold rHeld eb;show andThen (exactly l.length) _ s=andThen (andThen (exactly l.length) λ_=>gn (dA [] l)) _ s;rw[ly];refine fB λ_ t=>?_
 have:∀t,andThen (rIndexParts [] l) (λ_=>andThen (LwReel.told 7 (le 8 place)) λ_=>andThen (LwReel.told 4 (MARK++[0x2E])) λ_=>finish) t=andThen (gn (dA [] l)) (λ_=>andThen (LwReel.told 7 (le 8 place)) λ_=>andThen (LwReel.told 4 (MARK++[0x2E])) λ_=>finish) t:=λt=>by
  unfold andThen;rw[AR]
 exact this t
theorem wC:∀(l aK:List Info),(dA aK l).length=5*l.length
 | [],aK=>rfl
 | x::r,aK=>by
  unfold dA;rw[aP,wC r,bA];simp only[bA,cn];omega
theorem xG:∀(l aK:List Info) (x:Info),dA aK (l++[x])=dA aK l++[x.stream,zig (x.time - cv (aK++l) x.stream),x.lasts,x.flags,x.size]
 | [],aK,x=>by simp[dA]
 | y::l,aK,x=>by
  show dA aK (y::(l++[x]))=_;unfold dA;rw[xG l (aK++[y]) x,gv,gv];rfl
theorem CW {aK:List Info}{x:Info}(h:x.stream<n):((List.range n).map λk=>cv aK k).set x.stream x.time=(List.range n).map λk=>cv (aK++[x]) k:=by
 apply tZ;intro i;rw[List.getElem?_set,dk,dk,aX,oC];by_cases e:x.stream=i
 .subst e;rw[az O,az h,o4 h];simp[pa]
 .rw[ar e];by_cases hi:i<n
  .rw[o4 hi];simp[pa,e]
  .rw[nF (by rw[oC];omega)];rfl
noncomputable def fH (streams:Nat)(l:List Info):Rd Info:=andThen (num 4 λ(k:Nat)=>decide (k<streams)) λ(s:Nat)=>
 andThen (num 4 λ(k:Nat)=>okTime (zag k+cv l s)) λ(t:Nat)=>
 andThen (upTo (2 ^ 32 - 1)) λ(a:Nat)=>andThen (upTo 3) λ(f:Nat)=>andThen (upTo MOST) λ(z:Nat)=>give ⟨s,zag t+cv l s,a,f,0,z⟩
theorem tN (streams n:Nat)(l:List Info)(s:At):rLoose streams (n+1) l s=andThen (fH streams l) (λx=>rLoose streams n (l++[x])) s:=by
 unfold fH;rw[ly];refine fB λs0 a=>?_;rw[ly];refine fB λb t1=>?_;rw[ly];refine fB λc t2=>?_;rw[ly];refine fB λd t3=>?_;rw[ly];refine fB λe t4=>?_;rfl
theorem Kg {X:Bytes}(h:a<=X.length):takeAll n ⟨X.drop a,a⟩=if X.length<a+n then .error (4,X.length) else .ok ((X.drop a).take n,⟨X.drop (a+n),a+n⟩):=by
 unfold takeAll;have b:(X.drop a).length=X.length - a:=bQ;by_cases z:X.length<a+n
 .rw[az z,az (by show(X.drop a).length<n;omega)];congr 2;show a+(X.drop a).length=_;omega
 .rw[ar z,ar (by show ¬(X.drop a).length<n;omega)];congr 3;exact fv
abbrev eF (xs:List Nat)(a n:Nat):List Nat:=(xs.drop a).take n
structure lF (xs:List Nat)(p k a b n m:Nat):Prop where
 k0:xs[p]?=some k
 a0:xs[p+1]?=some a
 b0:xs[p+2]?=some b
 n0:xs[p+3]?=some n
 m0:xs[p+4+n]?=some m
 k1:k<=255
 a1:1<=a
 a2:a<2 ^ 32
 b1:1<=b
 b2:b<2 ^ 32
 gc:Nat.gcd a b=1
 n1:n<=16
 n2:p+4+n<=xs.length
 n3:(eF xs (p+4) n).all (λc=>decide (c<=255))=true
 m1:m<=40
 m2:p+5+n+m<=xs.length
 m3:(eF xs (p+5+n) m).all (λc=>decide (c<=255))=true
theorem lD {xs:List α}{x:α}(h:xs[p]?=some x):xs.drop p=x::xs.drop (p+1):=by
 rw[nv (List.getElem?_eq_some_iff.mp h).1];congr 1;exact(List.getElem?_eq_some_iff.mp h).2
theorem oQ {xs r:List α}{x:α}(h:xs.drop p=x::r):xs[p]?=some x/\r=xs.drop (p+1):=by
 have h1:xs[p]?=some x:=by
  have:(xs.drop p)[0]?=some x:=by rw[h];rfl
  rw[vN] at this;exact this
 rw[lD h1] at h;exact⟨h1,(List.cons.inj h).2.symm⟩
theorem Bo {b:Nat}(h:lF xs p k a b n m):dH (xs.drop p)=some (⟨k,⟨a,b⟩,(eF xs (p+4) n).map UInt8.ofNat,(eF xs (p+5+n) m).map UInt8.ofNat⟩,xs.drop (p+5+n+m)):=by
 have e:xs.drop p=k::a::b::n::xs.drop (p+4):=by rw[lD h.k0,lD h.a0,lD h.b0,lD h.n0]
 rw[e];unfold dH;dsimp only;have d:(xs.drop (p+4)).length=xs.length - (p+4):=bQ;have f:=h.n2;have g:=h.m2;rw[az ⟨h.k1,h.a1,h.a2,h.b1,h.b2,h.gc,h.n1,af,h.n3⟩];have c:(xs.drop (p+4)).drop n=m::xs.drop (p+5+n):=by rw[fv,lD h.m0,show p+4+n+1=p+5+n by omega]
 rw[c];dsimp only;have i:(xs.drop (p+5+n)).length=xs.length - (p+5+n):=bQ;rw[az ⟨h.m1,af,h.m3⟩,fv]
theorem BM (h:dH (xs.drop p)=some (x,r)):∃k a b n m,lF xs p k a b n m:=by
 cases e1:xs.drop p with
 | nil=>rw[e1] at h;cases h
 | cons k l1=>
  obtain⟨k0,c⟩:=oQ e1
  cases l1 with
  | nil=>rw[e1] at h;cases h
  | cons a l2=>
   obtain⟨a0,e3⟩:=oQ c.symm
   cases l2 with
   | nil=>rw[e1] at h;cases h
   | cons b l3=>
    obtain⟨b0,e4⟩:=oQ e3.symm
    cases l3 with
    | nil=>rw[e1] at h;cases h
    | cons n l4=>
     obtain⟨n0,e5⟩:=oQ e4.symm;rw[e1] at h;unfold dH at h;dsimp only at h;subst e5;split at h
     .rename_i c1
      cases e6:(xs.drop (p+1+1+1+1)).drop n with
      | nil=>rw[e6] at h;cases h
      | cons m t=>
       rw[e6] at h;dsimp only at h;rw[fv] at e6;obtain⟨m0,e7⟩:=oQ e6;subst e7;split at h
       .rename_i d;obtain⟨e,f,g,i,j,l,o,s,u⟩:=c1;obtain⟨v,w,y⟩:=d;rw[bQ] at s w;have z:=(List.getElem?_eq_some_iff.mp m0).1;refine⟨k,a,b,n,m,k0,a0,b0,n0,m0,e,f,g,i,j,l,o,af,u,v,af,?_⟩;rw[show p+5+n=p+1+1+1+1+n+1 by omega];exact y
       .cases h
     .cases h
theorem BL:∀(f g:Nat) (l:List Nat),l.length<=f->l.length<=g->dM f l=dM g l
 | f,g,[],_,_=>by cases f<;>cases g<;>rfl
 | 0,g,x::l,h,_=>absurd h (by simp)
 | f+1,0,x::l,_,h=>absurd h (by simp)
 | f+1,g+1,x::l,h1,h2=>by
  show(match dH (x::l) with
   | none=>none
   | some (x,r)=>(dM f r).map λxs=>x::xs)=match dH (x::l) with
   | none=>none
   | some (x,r)=>(dM g r).map λxs=>x::xs
  cases e:dH (x::l) with
  | none=>rfl
  | some y=>
   obtain⟨y,r⟩:=y;dsimp only;have c:dH ((x::l).drop 0)=some (y,r):=e;obtain⟨k,a,b,n,m,d⟩:=BM c;have:=Bo d;rw[kC,e] at this;have i:r=(x::l).drop (0+5+n+m):=(Prod.mk.inj (cx this)).2;have j:r.length<=l.length:=by rw[i,bQ,bA];omega
   simp only[bA] at h1 h2;rw[BL f g r af af]
theorem F3 (a:l≠[])(h:dH l=some (x,r)):dM (f+1) l=(dM f r).map λxs=>x::xs:=by
 cases l with
 | nil=>exact absurd O a
 | cons y l=>
  show(match dH (y::l) with
   | none=>none
   | some (x,r)=>(dM f r).map λxs=>x::xs)=_
  rw[h]
theorem Mo (a:l≠[])(h:dH l=none):dM (f+1) l=none:=by
 cases l with
 | nil=>exact absurd O a
 | cons y l=>
  show(match dH (y::l) with
   | none=>none
   | some (x,r)=>(dM f r).map λxs=>x::xs)=_
  rw[h]
noncomputable def gs (l:List Nat):Option (List Stream):=match dM l.length l with
 | none=>none
 | some x=>if 1<=x.length/\x.length<=4 then some x else none
theorem Ld {ss:List Stream}(h:gs l=some ss):1<=ss.length/\ss.length<=4/\∀s∈ss,s.right=true:=by
 unfold gs at h
 cases e:dM l.length l with
 | none=>rw[e] at h;cases h
 | some x=>
  rw[e] at h;dsimp only at h;split at h
  .rename_i c;cases h;refine⟨c.1,c.2,?_⟩;rw[<-tP] at e
   cases a:streamsIn l.length l with
   | none=>rw[a] at e;cases e
   | some y=>
    rw[a] at e;dsimp only[Option.bind_some] at e;split at e
    .rename_i b;cases e;exact List.all_eq_true.mp b
    .cases e
  .cases h
theorem Bq (s:State)(l:List Nat):step s (.write l)=match gs l with
 | none=>(s,BAD)
 | some x=>(.writing x [] 0,says 0):=by
 unfold step gs;rw[<-tP];dsimp only
 cases streamsIn l.length l with
 | none=>rfl
 | some x=>
  dsimp only[Option.bind_some];by_cases b:x.all Stream.right=true
  .rw[az b];dsimp only;by_cases a:1<=x.length/\x.length<=4
   .rw[az ⟨a.1,a.2,b⟩,az a]
   .rw[ar (λz=>a ⟨z.1,z.2.1⟩),ar a]
  .rw[ar b,ar (λz=>b z.2.2)]
structure oW (n:Nat)(x:Info):Prop where
 st:x.stream<n
 tm:okTime x.time=true
 ln:x.lasts<2 ^ 32
 fl:x.flags<=3
 sz:x.size<=600
theorem Ks {l:List Info}{t:At}{x:Info}(h:fH n l s= .ok (x,t)):oW n x:=by
 unfold fH at h;obtain⟨a,r,h1,h⟩:=cN h;obtain⟨b,u,h2,h⟩:=cN h;obtain⟨c,v,j,h⟩:=cN h;obtain⟨d,w,k,h⟩:=cN h;obtain⟨e,y,m,h⟩:=cN h;have f:=gF h1;have o:=gF h2;have p:=gF j;have g:=gF k;have i:=gF m;cases h;simp only[dz] at f p g i;exact⟨f,o,by show c<2 ^ 32;omega,g,i⟩
theorem BJ {n:Nat}:∀{cnt:Nat} {l a:List Info} {s t:At},rLoose n cnt l s= .ok (a,t)->(∀x∈l,oW n x)->(∀x∈a,oW n x)/\a.length=l.length+cnt
 | 0,l,a,s,t,h,b=>by cases h;exact⟨b,O⟩
 | cnt+1,l,a,s,t,h,b=>by
  rw[tN] at h;obtain⟨x,e,h1,h⟩:=cN h;have hx:=Ks h1
  obtain⟨c,d⟩:=BJ h λy hy=>by
   rcases List.mem_append.mp hy with z | z
   .exact b y z
   .rw[List.mem_singleton.mp z];exact hx
  refine⟨c,?_⟩;rw[d,aP];simp only[bA,cn];omega
theorem Hm {q:Nat}{l:List Info}(h:run (rForm n) b p= .ok (l,q)):(∀x∈l,oW n x)/\l.length<=16:=by
 unfold run at h
 cases e:rForm n ⟨b,p⟩ with
 | error f=>rw[e] at h;cases h
 | ok y=>
  obtain⟨y,t⟩:=y;rw[e] at h;cases h;unfold rForm at e;obtain⟨cnt,g,h1,e⟩:=cN e;obtain⟨i,j,h2,e⟩:=cN e;obtain⟨k,m,o,e⟩:=cN e;obtain⟨_,r,s,e⟩:=cN e;obtain⟨_,u,v,e⟩:=cN e;cases e;obtain⟨a,c⟩:=BJ h2 λx hx=>by cases hx
  have d:=gF h1;simp only[dz,show PARTS=16 from O] at d;refine⟨a,?_⟩;rw[c];simp only[cn];omega
theorem GU (a:opening b p al=none)(c:12<=(b.drop p).length)(d:16+lengthOf (b.drop p)<=(b.drop p).length)(hc:same (crc (((b.drop p).drop 12).take (lengthOf (b.drop p)))) (((b.drop p).drop (12+lengthOf (b.drop p))).take 4)=true):∃k,(b.drop p)[3]?=some k/\boxAt b p al= .whole k (((b.drop p).drop 12).take (lengthOf (b.drop p))) (p+16+lengthOf (b.drop p)):=by
 have e:(b.drop p)[3]?=some ((b.drop p)[3]'af):=dy _;refine⟨_,e,?_⟩;rw[jH,a];dsimp only;rw[ar af,ar af,ar (by rw[hc];decide),e]
theorem va (h:opening b p al≠none∨(b.drop p).length<12∨(b.drop p).length<16+lengthOf (b.drop p)∨same (crc (((b.drop p).drop 12).take (lengthOf (b.drop p)))) (((b.drop p).drop (12+lengthOf (b.drop p))).take 4)=false):
 ∀k body n,boxAt b p al≠ .whole k body n:=by
 intro k body n d;rw[jH] at d
 cases e:opening b p al with
 | some y=>obtain⟨a,c⟩:=y;rw[e] at d;cases d
 | none=>
  rw[e] at d;dsimp only at d;split at d
  .cases d
  .split at d
   .cases d
   .split at d
    .cases d
    .rename_i h1 h2 f;rcases h with h | h | h | h
     .exact h e
     .exact h1 h
     .exact h2 h
     .exact f h
end RM
namespace RM
open ReelNeutral
variable {l r s:List Int} {x:List (List Int)}
theorem MN (c:List (List Int)):PyWrlntj.whole c=c:=by
 rcases c with _ | ⟨_ | ⟨n | n,r⟩,_ | ⟨b,_ | ⟨d,t⟩⟩⟩<;>try rfl
 all_goals rcases r with _ | ⟨x,_ | ⟨y,_ | ⟨z,_ | ⟨u,_ | ⟨v,s⟩⟩⟩⟩⟩<;>try rfl
 all_goals (repeat (first | rfl | (rcases n with _ | n;rfl)))
theorem C6 {x:List Int}(h:PyFlat.row l=some (x,s)):∃m:Nat,l=(m:Int)::(x++s)/\x.length=m:=by
 cases l with
 | nil=>cases h
 | cons n r=>
  have h:(if 0<=n/\n.toNat<=r.length then some (r.take n.toNat,r.drop n.toNat) else none)=some (x,s):=h;by_cases a:0<=n/\n.toNat<=r.length
  .rw[az a] at h;cases h;refine⟨n.toNat,?_,?_⟩
   .rw[kW,qO a.1]
   .rw[cF];omega
  .rw[ar a] at h;cases h
theorem ob (h:PyFlat.rows 0 l=some (x,s)):x=[]/\s=l:=by
 unfold PyFlat.rows at h;cases h;exact⟨O,O⟩
theorem oA (h:PyFlat.rows 1 l=some (x,s)):∃(a:List Int) (m:Nat),x=[a]/\l=(m:Int)::(a++s)/\a.length=m:=by
 unfold PyFlat.rows at h
 cases b:PyFlat.row l with
 | none=>rw[b] at h;cases h
 | some y=>
  obtain⟨r,t⟩:=y;rw[b] at h;dsimp only at h;unfold PyFlat.rows at h;cases h;obtain⟨m,h1,h2⟩:=C6 b;exact⟨r,m,O,h1,h2⟩
theorem iN (h:¬r.length<1):∃a s,r=a::s:=by
 cases r with
 | nil=>exact absurd (by simp) h
 | cons a s=>exact⟨a,s,O⟩
inductive e0:List Int->List (List Int)->List Int->Prop
 | judge (m:Nat) (row t:List Int):row.length=m->e0 (0::(m:Int)::(row++t)) [[0],row] t
 | read (a:Int) (t:List Int):e0 (1::a::t) [[1,a]] t
 | feed (a:Int) (m:Nat) (row t:List Int):row.length=m->e0 (2::a::(m:Int)::(row++t)) [[2,a],row] t
 | next (t:List Int):e0 (3::t) [[3]] t
 | stream (a:Int) (t:List Int):e0 (4::a::t) [[4,a]] t
 | find (k tm:Int) (t:List Int):e0 (5::k::tm::t) [[5,k,tm]] t
 | write (m:Nat) (row t:List Int):row.length=m->e0 (6::(m:Int)::(row++t)) [[6],row] t
 | put (s f tm ln:Int) (m:Nat) (row t:List Int):row.length=m->e0 (7::s::f::tm::ln::(m:Int)::(row++t)) [[7,s,f,tm,ln],row] t
 | end_ (t:List Int):e0 (8::t) [[8]] t
 | seek (m:Nat) (row t:List Int):row.length=m->e0 (9::(m:Int)::(row++t)) [[9],row] t
theorem KI {t:List Int}{c:List (List Int)}(h:PyFlat.call PyWrlntj.shape l=some (c,t)):e0 l c t:=by
 cases l with
 | nil=>cases h
 | cons p r=>
  unfold PyFlat.call at h;dsimp only at h
  have j:∀(n k:Nat),PyWrlntj.shape p=some (n,k)->¬r.length<n/\∃xs,PyFlat.rows k (r.drop n)=some (xs,t)/\c=(p::r.take n)::xs:=λn k e=>by
   rw[e] at h;dsimp only at h;by_cases g:r.length<n
   .rw[az g] at h;cases h
   .rw[ar g] at h;refine⟨g,?_⟩
    cases f:PyFlat.rows k (r.drop n) with
    | none=>rw[f] at h;cases h
    | some y=>obtain⟨xs,t'⟩:=y;rw[f] at h;cases h;exact⟨xs,O,O⟩
  by_cases o:p=0
  .subst o;obtain⟨_,xs,f,rfl⟩:=j 0 1 O;obtain⟨i,m,rfl,h1,h2⟩:=oA f;have h1:r=(m:Int)::(i++t):=h1;rw[h1];exact .judge m i t h2
  by_cases e1:p=1
  .subst e1;obtain⟨g,xs,f,rfl⟩:=j 1 0 O;obtain⟨a,s,rfl⟩:=iN g;obtain⟨rfl,h1⟩:=ob f;have h1:t=s:=h1;rw[h1];exact .read a s
  by_cases u:p=2
  .subst u;obtain⟨g,xs,f,rfl⟩:=j 1 1 O;obtain⟨a,s,rfl⟩:=iN g;obtain⟨i,m,rfl,h1,h2⟩:=oA f;have h1:s=(m:Int)::(i++t):=h1;rw[h1];exact .feed a m i t h2
  by_cases e3:p=3
  .subst e3;obtain⟨g,xs,f,rfl⟩:=j 0 0 O;obtain⟨rfl,h1⟩:=ob f;have h1:t=r:=h1;rw[h1];exact .next r
  by_cases e4:p=4
  .subst e4;obtain⟨g,xs,f,rfl⟩:=j 1 0 O;obtain⟨a,s,rfl⟩:=iN g;obtain⟨rfl,h1⟩:=ob f;have h1:t=s:=h1;rw[h1];exact .stream a s
  by_cases e5:p=5
  .subst e5;obtain⟨g,xs,f,rfl⟩:=j 2 0 O;obtain⟨a,s,rfl⟩:=iN (show ¬r.length<1 by omega);obtain⟨b,s,rfl⟩:=iN (r:=s) (by simp only[bA] at g;omega);obtain⟨rfl,h1⟩:=ob f;have h1:t=s:=h1;rw[h1];exact .find a b s
  by_cases e6:p=6
  .subst e6;obtain⟨_,xs,f,rfl⟩:=j 0 1 O;obtain⟨i,m,rfl,h1,h2⟩:=oA f;have h1:r=(m:Int)::(i++t):=h1;rw[h1];exact .write m i t h2
  by_cases e7:p=7
  .subst e7;obtain⟨g,xs,f,rfl⟩:=j 4 1 O;obtain⟨a,s,rfl⟩:=iN (show ¬r.length<1 by omega);obtain⟨b,s,rfl⟩:=iN (r:=s) (by simp only[bA] at g;omega);obtain⟨c,s,rfl⟩:=iN (r:=s) (by simp only[bA] at g;omega);obtain⟨d,s,rfl⟩:=iN (r:=s) (by simp only[bA] at g;omega);obtain⟨i,m,rfl,h1,h2⟩:=oA f;have h1:s=(m:Int)::(i++t):=h1;rw[h1];exact .put a b c d m i t h2
  by_cases e8:p=8
  .subst e8;obtain⟨g,xs,f,rfl⟩:=j 0 0 O;obtain⟨rfl,h1⟩:=ob f;have h1:t=r:=h1;rw[h1];exact .end_ r
  by_cases e9:p=9
  .subst e9;obtain⟨_,xs,f,rfl⟩:=j 0 1 O;obtain⟨i,m,rfl,h1,h2⟩:=oA f;have h1:r=(m:Int)::(i++t):=h1;rw[h1];exact .seek m i t h2
  .have hs:PyWrlntj.shape p=none:=by
    unfold PyWrlntj.shape;rw[ar o,ar e1,ar u,ar e3,ar e4,ar e5,ar e6,ar e7,ar e8,ar e9]
   rw[hs] at h;cases h
theorem K6 {f:Nat}{p:Int}{d:List (List (List Int))}(h:PyFlat.calls PyWrlntj.shape (f+1) (p::r)=some d):∃c t a,PyFlat.call PyWrlntj.shape (p::r)=some (c,t)/\PyFlat.calls PyWrlntj.shape f t=some a/\d=c::a:=by
 unfold PyFlat.calls at h
 cases hc:PyFlat.call PyWrlntj.shape (p::r) with
 | none=>rw[hc] at h;cases h
 | some y=>
  obtain⟨c,t⟩:=y;rw[hc] at h;dsimp only at h
  cases b:PyFlat.calls PyWrlntj.shape f t with
  | none=>rw[b] at h;cases h
  | some a=>rw[b] at h;cases h;exact⟨c,t,a,O,b,O⟩
end RM
namespace RM
open LwReel
variable {b r x:Bytes} {c c':bb} {k n p pl v:Nat} {last ae:Bool} {s s0:At} {t:Thing} {α β:Type} {f:Rd α} {g:α->Rd β}
theorem xO:∀(k n w:Nat) (b:Bytes) (v:Nat) (r:Bytes),readVarFrom k n w b=some (v,r)->r.length<=b.length
 | 0,_,_,_,_,_,h=>by unfold readVarFrom at h;cases h
 | k+1,n,w,[],_,_,h=>by unfold readVarFrom at h;cases h
 | k+1,n,w,c::s,v,r,h=>by
  unfold readVarFrom at h;split at h
  .have:=xO k _ _ s v r h;simp only[bA];omega
  .split at h
   .cases h
   .split at h
    .cases h;simp only[bA];omega
    .cases h
theorem qX {bO:Nat->Bool}{t:At}(h:num k bO s= .ok (n,t)):t.left.length<=s.left.length:=by
 unfold num at h;split at h
 .rename_i m r e;split at h
  .cases h;exact xO _ _ _ _ _ _ e
  .cases h
 .split at h<;>cases h
theorem lG {t:At}{x:β}(h:andThen f g s= .ok (x,t)):∃y u,f s= .ok (y,u)/\g y u= .ok (x,t):=by
 unfold andThen at h;split at h
 .rename_i y u e;exact⟨y,u,e,h⟩
 .cases h
theorem I7 {t:At}{p:Part}{l:List Nat}(h:rPart n s= .ok ((p,l),t)):p.bytes.length<=s.left.length:=by
 unfold rPart at h;obtain⟨_,s0,a,h⟩:=lG h;obtain⟨_,d,e1,h⟩:=lG h;obtain⟨_,e,b,h⟩:=lG h;obtain⟨_,f,e3,h⟩:=lG h;obtain⟨_,g,e4,h⟩:=lG h;obtain⟨_,i,e5,h⟩:=lG h;obtain⟨_,c,e6,h⟩:=lG h;cases h;cases a;cases b;cases e5;have h1:=qX e1;have j:=qX e3;have k:=qX e4;have m:=qX e6;show c.left.length<=_;omega
theorem Kv {p:Part}(h:aV ae last b c=some (.part p pl,c')):p.bytes.length<=b.length:=by
 unfold aV at h;split at h
 .unfold dE at h;split at h
  .split at h<;>cases h
  .cases h
  .rename_i kind body next e
   obtain⟨d,f,g,_⟩:=oB e;have h:fQ ae c kind body next=(.part p pl,c'):=by injection h
   unfold fQ at h;split at h
   .unfold hE at h;split at h<;>cases h
   .rename_i ss _;split at h
    .unfold d8 at h;split at h
     .cases h
     .rename_i p0 i a
      have j:p0.bytes.length<=body.length:=by
       unfold run at a;split at a
       .rename_i x t e3;cases a;exact I7 e3
       .cases a
      split at h
      .split at h
       .cases h;show p0.bytes.length<=_;omega
       .cases h
      .cases h;omega
    .unfold d4 at h;split at h<;>cases h
 .split at h
  .cases h
  .split at h<;>cases h
 .split at h
  .cases h
  .split at h<;>cases h
 .cases h
 .cases h
end RM
namespace L2
open PySem
variable {A:Around} {C L T e:Addr} {E:Value->Shared->Prop} {M:Model} {Q:Unit->Shared->Prop} {base h:Heap} {dx:Option Addr} {env:Env} {fl:Value} {outer:List Env} {s:Shared} {tb:Option (Addr×Value)}
theorem EU (o:Obj)(f):(o.mapFields f).dict=o.dict:=by
 obtain⟨c,d,a,b⟩:=o;cases a<;>rfl
structure ej (C:Addr)(h:Heap)(e:Addr)(dx:Option Addr)(tb:Option (Addr×Value)):Prop where
 ex:∃oe vs a0,h.get? e=some oe/\oe.cls= .ref C/\oe.dict=dx/\oe.data= .fields vs/\(vs[0]?=some a0/\(dx.isSome=true->vs[2]?=some .none))/\(match tb with
  | none=>vs[1]?=some .none
  | some (T,fl)=>vs[1]?=some (.ref T)/\T≠e/\∃oT ts,h.get? T=some oT/\oT.data= .fields ts/\ts[3]?=some fl)
noncomputable def dQ:Option (Addr×Value)->List Addr
 | none=>[]
 | some (T,_)=>[T]
structure eS (fs xs:List Addr)(h h':Heap):Prop where
 keep:∀b o,h.get? b=some o->b∉fs->b∉xs->h'.get? b=some o
 slot:∀b o,h.get? b=some o->b∈fs->∃sl,h'.get? b=some {o with slots:=sl}
 there:∀b o,h.get? b=some o->∃o',h'.get? b=some o'
theorem eS.refl {fs xs:List Addr}:eS fs xs h h:=⟨λ_ _ e _ _=>e,λ_ o e _=>⟨o.slots,e⟩,λ_ o e=>⟨o,e⟩⟩
theorem z8 {v:Bool}{head:Value}{oe:Obj}{vs:Array Value}{a0:Value}(w:A.frames=some (env::outer))(i:s.heap.FunFrames base (env::outer))(x:env.frame=some L)(he:s.heap.get? e=some oe)(hc:oe.cls= .ref C)(y:oe.dict=dx)(hd:oe.data= .fields vs)(hsz:1<vs.size)(j:vs[0]?=some a0/\(dx.isSome=true->vs[2]?=some .none))(h:∀h' T,ej C h' e dx (some (T,rawInt L))->s.heap.objs.size<=T->eS ((env::outer).filterMap (·.frame)) [e] s.heap h'->Q () {s with heap:=h'}):
 wpAny M A (do let a<-frameOf env;let pl<-entryPlaceOf L v;let b<-EntryCells.newEntry head a .none (rawInt L) .none pl;setField (.ref e) 1 b) Q E s:=by
 have k:e∉(env::outer).filterMap (·.frame):=λhm=>by
  obtain⟨_,o,f,D⟩:=i.mem hm;rw[he] at f;injection f with f;subst f;exact D vs hd
 refine aT (wpAny_frameOf_fun w i x λc d=>aT (wpAny_entryPlaceOf λpl l=>?_));unfold EntryCells.newEntry newFields;refine aT (wpAny_newObj_type ?_ (l.sizeOk5 _ _ _ _ _));have m:c.get? e=some oe:=(d.2.1 e k).trans he;have n:=cw (h:=c) {cls:= .type "traceback",dict:=none,data:= .fields ([head,.ref L,.none,rawInt L,.none]++(if pl.isEmpty then List.replicate 6 Value.none else pl)).toArray} m;refine me n hd hsz ?_;have p:c.objs.size≠e:=hv (bP m);have r:=pL hd (·.setIfInBounds 1 (Value.ref c.objs.size));have t:=hK (Obj.mapFields (·.setIfInBounds 1 (Value.ref c.objs.size))) n (vx r)
 have G:=(iP (c.push {cls:= .type "traceback",dict:=none,data:= .fields ([head,.ref L,.none,rawInt L,.none]++(if pl.isEmpty then List.replicate 6 Value.none else pl)).toArray})
  (Obj.mapFields (·.setIfInBounds 1 (Value.ref c.objs.size))) (eP p)).trans (fW c O)
 have keep:∀b o,b≠e->c.get? b=some o->
  ((c.push {cls:= .type "traceback",dict:=none,data:= .fields ([head,.ref L,.none,rawInt L,.none]++(if pl.isEmpty then List.replicate 6 Value.none else pl)).toArray}).update e (Obj.mapFields (·.setIfInBounds 1 (Value.ref c.objs.size)))).get? b=some o:=
  λb o H g=>by
   rw[iP _ _ (eP H)];exact cw _ g
 refine h _ c.objs.size ⟨_,_,a0,t,by rw[Obj.cls_mapFields];exact hc,by rw[EU];exact y,r,⟨by rw[xq aJ];exact j.1,λz=>by rw[xq aJ];exact j.2 z⟩,by simp[hsz],p,_,_,G,O,by first | (simp;done) | (rcases l with rfl | ⟨_,_,_,_,_,_,_,rfl⟩<;>simp)⟩ (nY d.1.symm) ⟨λb o q n1 n2=>?_,λb o q n1=>?_,λb o q=>?_⟩
 .exact keep b o (by simpa using n2) ((d.2.1 b n1).trans q)
 .obtain⟨u,hs⟩:=d.2.2 b o q;exact⟨u,keep b _ (λz=>k (z▸n1)) hs⟩
 .by_cases g:b=e
  .subst g;exact⟨_,t⟩
  .obtain⟨u,hs⟩:=d.2.2 b o q;exact⟨_,keep b _ g hs⟩
theorem pR (t:A.frames=some (env::outer))(l:s.heap.FunFrames base (env::outer))(m:env.frame=some L)(x:ej C s.heap e dx tb)(h:∀h' T H,ej C h' e dx (some (T,H))->(s.heap.objs.size<=T∨∃fl,tb=some (T,fl))->eS ((env::outer).filterMap (·.frame)) (e::dQ tb) s.heap h'->Q () {s with heap:=h'}):
 wpAny M A (noteFrame (.ref e) env) Q E s:=by
 obtain⟨oe,vs,a0,he,hc,u,hd,v,w⟩:=id x.ex;unfold noteFrame;simp only[m]
 cases tb with
 | none=>
  have h1:vs[1]?=some .none:=w;refine aT (gH he hd h1 ?_);rw[ar aJ]
  exact z8 t l m he hc u hd (Array.getElem?_eq_some_iff.mp h1).1 v λh' T n c d=>h h' T _ n (.inl c) d
 | some y=>
  obtain⟨T,fl⟩:=y;obtain⟨h1,I,p,k,c,g,r⟩:=(show vs[1]?=some (.ref T)/\T≠e/\∃p k,s.heap.get? T=some p/\p.data= .fields k/\k[3]?=some fl from w);by_cases D:(fl==rawInt L)=true
  rotate_left
  .refine aT (gH he hd h1 ?_);rw[az (show(Value.ref T != Value.none)=true from by simp)];refine aT (gH c g r ?_);rw[ar D];refine aT (me c g (Array.getElem?_eq_some_iff.mp r).1 ?_);have i:∀b,b≠T->(s.heap.update T (Obj.mapFields (·.setIfInBounds 3 Value.none))).get? b=s.heap.get? b:=λb a=>iP _ _ (eP a);have J:=hK (Obj.mapFields (·.setIfInBounds 3 Value.none)) c (vx (pL g _))
   have G:∀b o,s.heap.get? b=some o->(∀vs,o.data≠ .fields vs)->b≠T:=λb o a j q=>by
    rw[q,c] at a;injection a with a;subst a;exact j k g
   have N:=l.of_keeps (h':=s.heap.update T (Obj.mapFields (·.setIfInBounds 3 Value.none))) λb o a j=>⟨o,(i b (G b o a j)).trans a,O⟩;have hsz:(s.heap.update T (Obj.mapFields (·.setIfInBounds 3 Value.none))).objs.size=s.heap.objs.size:=Heap.size_after_update _ _ _;refine z8 (s:={s with heap:=s.heap.update T (Obj.mapFields (·.setIfInBounds 3 Value.none))}) t N m ((i e (eP I)).trans he) hc u hd (Array.getElem?_eq_some_iff.mp h1).1 v λh' U n Y d=>?_;refine h h' U _ n (.inl (by rw[<-hsz];exact Y)) ⟨λb o q n1 n2=>?_,λb o q n1=>?_,λb o q=>?_⟩
   .have f:b≠T:=λz=>n2 (by simp[dQ,z]);exact d.keep b o ((i b f).trans q) n1 λz=>n2 (by rw[List.mem_singleton.mp z];exact cq)
   .have f:b≠T:=by
     obtain⟨_,b',e',j⟩:=l.mem n1;exact G b b' e' j
    exact d.slot b o ((i b f).trans q) n1
   .by_cases f:b=T
    .subst f;exact d.there b _ J
    .exact d.there b o ((i b f).trans q)
  .refine aT (gH he hd h1 ?_);rw[az (show(Value.ref T != Value.none)=true from by simp)];refine aT (gH c g r ?_);rw[az D];exact b4 (h s.heap T fl x (.inr ⟨_,O⟩) .refl)
noncomputable def wJ (fr:Option Addr):Value:=fr.elim Value.none λf=>rawInt f
theorem rb {fr:Option Addr}(x:ej C s.heap e dx (some (T,fl)))(h:∀h',ej C h' e dx (some (T,wJ fr))->eS [] [T] s.heap h'->Q () {s with heap:=h'}):wpAny M A (setFlight (.ref e) fr) Q E s:=by
 obtain⟨oe,vs,a0,he,hc,l,hd,m,h1,g,r,n,i,c,p⟩:=x.ex;have j:3<n.size:=(Array.getElem?_eq_some_iff.mp p).1
 have d:∀b,b≠T->(s.heap.update T (Obj.mapFields (·.setIfInBounds 3 (fr.elim Value.none λf=>rawInt f)))).get? b=s.heap.get? b:=
  λb a=>iP _ _ (eP a)
 have k:=hK (Obj.mapFields (·.setIfInBounds 3 (fr.elim Value.none λf=>rawInt f))) i (vx (pL c _));unfold setFlight;refine aT (gH he hd h1 ?_);rw[az (show(Value.ref T != Value.none)=true from by simp)];refine me i c j (h _ ⟨oe,vs,a0,(d e (eP g)).trans he,hc,l,hd,m,h1,g,_,_,k,pL c _,by simp[j,wJ]⟩ ⟨λb o q _ n2=>(d b (by simpa using n2)).trans q,λb o q n1=>absurd n1 (by simp),λb o q=>?_⟩);by_cases a:b=T
 .subst a;exact⟨_,k⟩
 .exact⟨o,(d b a).trans q⟩
theorem pd (x:ej C s.heap e dx (some (T,fl)))(h:∀h',ej C h' e dx (some (T,.none))->eS [] [T] s.heap h'->Q () {s with heap:=h'}):wpAny M A (setFlight (.ref e) none) Q E s:=rb x h
theorem ej.jm {fs:List Env}(x:ej C h e dx (some (T,fl)))(b:h.FunFrames base fs):T∉fs.filterMap (·.frame):=λhm=>by
 obtain⟨oe,vs,a0,he,hc,i,hd,j,h1,k,l,c,d,f,m⟩:=x.ex;obtain⟨_,n,a,g⟩:=b.mem hm;rw[d] at a;injection a with a
 subst a;exact g c f
theorem mM (f:A.frames=some (env::outer))(d:s.heap.FunFrames base (env::outer))(g:env.frame=some L)(x:ej C s.heap e dx tb)(h:∀h' T,ej C h' e dx (some (T,.none))->(s.heap.objs.size<=T∨∃fl,tb=some (T,fl))->eS ((env::outer).filterMap (·.frame)) (e::dQ tb) s.heap h'->Q () {s with heap:=h'}):
 wpAny M A (noteFrame (.ref e) env) (λ_ i=>wpAny M A (setFlight (.ref e) none) Q E i) E s:=by
 refine pR f d g x λh1 T n j a k1=>pd (s:={s with heap:=h1}) j λh2 k k2=>h h2 T k a ⟨λb o q n1 n2=>?_,λb o q n1=>?_,λb o q=>?_⟩
 .refine k2.keep b o (k1.keep b o q n1 n2) (by simp) ?_;rcases a with a | ⟨fl,a⟩
  .simpa using dh (cc (bP q) a)
  .intro z;exact n2 (by rw[a];simp[dQ,List.mem_singleton.mp z])
 .obtain⟨l,c⟩:=k1.slot b o q n1;refine⟨l,k2.keep b _ c (by simp) ?_⟩;rcases a with a | ⟨fl,a⟩
  .simpa using dh (cc (bP q) a)
  .intro z;rw[a] at x;exact x.jm d (by rw[<-List.mem_singleton.mp z];exact n1)
 .obtain⟨m,c⟩:=k1.there b o q;exact k2.there b m c
theorem su (a:A.frames=some (env::outer))(b:s.heap.FunFrames base (env::outer))(c:env.frame=some L)(x:ej C s.heap e dx tb)(h:∀h' T,ej C h' e dx (some (T,.none))->(s.heap.objs.size<=T∨∃fl,tb=some (T,fl))->eS ((env::outer).filterMap (·.frame)) (e::dQ tb) s.heap h'->Q () {s with heap:=h'}):
 wpAny M A («leaving» env (.ref e)) Q E s:=by
 unfold «leaving»;exact aT (mM a b c x h)
end L2
namespace L2
open PySem PySem.W PyProof.Rows Builtin Builtin.ObjectAttr
variable {A:Around} {C x:Addr} {E:Value->Shared->Prop} {K:Frag} {h:Heap} {name:Str} {od:Option Obj} {ox:Obj} {prog:Program} {s:Shared} {tk:Tok} {v:Value} {w:World}
structure ku (K:PySem.W.Frag)(C:Addr):Prop where
 ga:findIn K (.ref C) "__getattribute__"=some (some (.builtin "BaseException.__getattribute__"))
 gt:findIn K (.ref C) "__getattr__"=some none
 sa:findIn K (.ref C) "__setattr__"=some (some (.builtin "object.__setattr__"))
 cd:∃cd:ClassData,clsIn K C=some cd/\cd.hasDict=true/\cd.mro=[.ref C,.type "Exception",.type "BaseException",.type "object"]
theorem Gb (self:Value):bindSpecial (.builtin "BaseException.__getattribute__") self=pure (.builtin "BaseException.__getattribute__",[self]):=
 (Slot.of (T:="Exception") (name:="__getattribute__") (owner:="BaseException") (n:="__getattribute__") (by rw[typeLookup_type,builtinLookup_eq_fast];kernel_rfl) (by decide+kernel) (by decide+kernel) (by decide+kernel)
  (.inl (by decide+kernel)) (by rw[isSubtype_type];kernel_rfl)).bind self
theorem He:builtinKind "BaseException.__getattribute__"=some .slot:=by decide+kernel
theorem JG:splitId "BaseException.__getattribute__"=some ("BaseException","__getattribute__"):=by decide+kernel
theorem LJ:plainId "BaseException.__getattribute__"=true:=by decide+kernel
theorem ku.inst {M:Model}(c:ku K C)(X:K.In h)(I:InstAt h x ox C od){t:Value}(a:([.ref C,.type "Exception",.type "BaseException",.type "object"]:List Value).contains t=true):Looks M h (isInstance (.ref x) t) true:=by
 obtain⟨cd,hc,_,hm⟩:=c.cd;exact I.type.andThen (looks_mroIn X (by unfold mroIn;rw[hc,DB,hm];show(if List.isEmpty _=true then none else some (List.contains _ t))=some true;rw[ar (by simp),a]))
theorem Fi {Qf:Fin->Shared->Prop}(X:K.In s.heap)(I:InstAt s.heap x ox C od)(b:findObj K C od name=some (.value v))(h:Qf (.done (.ret v)) s):
 wpAny (model prog w) A (Builtin.«object.__getattribute__» ⟨[.ref x,.str name tk],[]⟩) Qf E s:=by
 obtain⟨f,g,d,t,os⟩:=s;have c:=I.type (M:=model prog w);have e:=looks_find (M:=model prog w) X I b;unfold Builtin.«object.__getattribute__»;exact aT (sH (a:=((.ref x:Value),[Value.str name tk])) (by rfl) (aT (sH (a:=name) (by rfl) (aT (c.at (aT (e.at (b4 h))))))))
theorem B0 {a:Bool}{Q:Value->Shared->Prop}(X:K.In s.heap)(c:ku K C)(I:InstAt s.heap x ox C od)(b:findObj K C od name=some (.value v))(e:handedIn v=true)(h:Q v {s with toks:=s.toks+1}):
 wpAny (model prog w) A (getAttr (.ref x) name a) Q E s:=by
 obtain⟨f,g,d,t,os⟩:=s;have i:=I.type (M:=model prog w);have j:=qr (M:=model prog w) X c.ga;have L2:=qr (M:=model prog w) X c.gt;have n:=looks_find (M:=model prog w) X I b;have k:=c.inst (M:=model prog w) X I (t:= .type "BaseException") (by simp);unfold getAttr getAttrBy;refine aT (wpAny_mkText (gL (aT (i.at (aT (j.at ?_))))));have l:(Value.builtin "BaseException.__getattribute__"==Value.builtin "object.__getattribute__")=false:=by decide+kernel
 show wpAny _ _ (if(onTheHeap (Value.ref C)&&Value.builtin "BaseException.__getattribute__"==Value.builtin "object.__getattribute__")=true then _ else getAttrByItsOwn _ _ _ _ _ _) _ _ _;rw[l,rJ,ar aJ];unfold getAttrByItsOwn hookBefore;refine aT ?_;rw[az (show onTheHeap (Value.ref C)=true from O)];refine L2.at (aT (wpAny_attempt (gL ?_)));unfold callGetattribute;have m:(a&&onTheHeap (Value.builtin "BaseException.__getattribute__"))=false:=by cases a<;>rfl
 rw[m,ar aJ];unfold boundAndCalled;rw[Gb];refine aT (b4 (hn ?_));show codeAny _ _ (.call (.builtin "BaseException.__getattribute__") ⟨[.ref x,.str name t],[]⟩) _ _;refine u_ LJ F.entry_bexc_ga (@check_slot (model prog w) _ _ ⟨f,g,d,t+1,os⟩ "BaseException.__getattribute__" "BaseException" "__getattribute__" (.ref x) [.str name t] [] _ He JG k (F.args_bexc_ga _ _) (Fi X I b ?_));show wpAny _ _ (handedOut v) _ _ _;rw[handedOut_of e];exact b4 h
end L2
namespace L2
open PySem PySem.W PyProof.Rows
variable {A:Around} {C N:Addr} {E Q:Value->Shared->Prop} {ab hdct:Bool} {bm bs sub:List Value} {col:Option Bool} {d:Drawn} {dd:Option Addr} {g:Array GenState} {h:Heap} {k0 k1 k2 k3 k5:Option Value} {newId:String} {nm q:Str} {os:OsState} {s:Shared} {sn:List Str}
theorem xD {M:Model}{env:Env}{x:Sem Value}{Q:Flow->Shared->Prop}(c:bm.contains (.type "BaseException")=true)(f:A.handled=none)(h:wpAny M A x (λv a=>∃e oe vs,v= .ref e/\a.heap.get? C=some (excClassObj nm q C N bs bm hdct sn sub ab col dd k0 k1 k2 k3 k5 newId)/\
 a.heap.get? e=some oe/\oe.cls= .ref C/\oe.data= .fields vs/\vs[1]?=some .none/\E (.ref e) a) E s):
 wpAny M A (raiseStmt env (some x) none) Q E s:=by
 have i:(Value.ref C::bm).contains (.type "BaseException")=true:=by rw[vE,c,tz]
 unfold raiseStmt;refine aT (df h (λv a j=>?_) λ_ _ x=>x);obtain⟨e,oe,vs,rfl,b,he,k,hd,h1,l⟩:=j;obtain⟨m,g,d,tk,os⟩:=a
 repeat (first | (with_reducible refine e2 he ?_;rw[k]) | with_reducible refine e2 b ?_ | (with_reducible refine l6 b ?_;rw[i]) | with_reducible refine gH he hd h1 ?_ | wp_step)
 exact wpAny_raiseNew_none f l
end L2
namespace L2
open PySem PySem.W PyProof.Rows Builtin Builtin.ObjectAttr
variable {A:Around} {C x:Addr} {E:Value->Shared->Prop} {K:Frag} {h:Heap} {mA:Str->Option Value} {name:Str} {ns:List Str} {od:Option Obj} {ox:Obj} {prog:Program} {s:Shared} {tk:Tok} {v:Value} {w:World}
theorem Mc (self:Value):refuseLoop self "__setattr__" [.type "Exception",.type "BaseException",.type "object"]=pure ():=F.store_Exception.passes self
theorem An (I:h.Inst x C mA):∃ox od,InstAt h x ox C od:=by
 obtain⟨o,hx,hc,b,hd⟩:=I
 have a:notCls o=true:=by
  unfold notCls;split
  .rename_i c f;exact absurd f (b c)
  .rfl
 rcases hd with⟨hd,_⟩ | ⟨d,hd,_,od,_,_,e,_⟩
 .exact⟨o,none,hx,hc,a,by rw[hd];trivial⟩
 .exact⟨o,some od,hx,hc,a,by rw[hd];exact e⟩
theorem Ep {R:Result->Shared->Prop}(X:K.In s.heap)(c:ku K C)(n:findIn K (.ref C) name=some none)(I:s.heap.Inst x C mA)(J:Within mA ns)(hsz:ns.length<=sizeLine)(z:∀h' M,h'.Inst x C (λy=>if y=name then some v else mA y)->
 (∀b o,b≠x->(∀a dx,s.heap.get? x=some a->a.dict=some dx->b≠dx)->s.heap.get? b=some o->h'.get? b=some o)->
 (∀a,s.heap.get? x=some a->∃d,h'.get? x=some d/\d.cls=a.cls/\d.data=a.data/\((∃dx,a.dict=some dx/\d.dict=some dx)∨(a.dict=none/\d.dict=some s.heap.objs.size)))->R (.ok (.ret .none)) {s with heap:=h',toks:=M}):
 codeAny (model prog w) A (.call (.builtin "object.__setattr__") ⟨[.ref x,.str name tk,v],[]⟩) R s:=by
 have g:=PySem.F.store_object;obtain⟨ox,od,l⟩:=An I;obtain⟨cd,hc,hdct,hm⟩:=c.cd;have sub:Looks (model prog w) s.heap (isInstance (.ref x) (.type "object")) true:=c.inst X l (by simp);refine u_ g.slot.plain g.entry (@check_slot (model prog w) _ _ s "object.__setattr__" "object" "__setattr__" (.ref x) [.str name tk,v] [] _ g.kind g.split sub (g.args (.ref x) (.str name tk) v) ?_);have N:Looks (model prog w) s.heap (mroOf (.ref C)) cd.mro:=(looks_clsIn X hc).andThen .now;rw[osa_eq,refuse_eq];refine aT (aT (l.type.here (aT (N.here ?_))));rw[hm,refuseLoop_ref,Mc];refine b4 (aT (l.type.here (aT ((qr X n).here (aT (b4 ?_))))));show wpAny _ _ (storeInOwnDict (.ref x) (.ref C) (.str name tk) name v false) _ _ _;unfold storeInOwnDict;refine aT (b4 ?_);unfold ownDictForStores instanceDict;obtain⟨o,hx,j,D,hd⟩:=I;refine aT (aT (wpAny_loadPart hx ?_));simp only[j];refine aT ((looks_clsIn X hc).here ?_);simp only[hdct,Bool.not_true,mW,dV];rcases hd with⟨E,Q⟩ | ⟨dx,h,m,T⟩
 .simp only[E];have G:(s.heap.push {cls:= .type "dict",data:= .dict #[]}).get? x=some o:=cw _ hx;have p:x≠s.heap.objs.size:=dh (bP hx)
  have U:((s.heap.push {cls:= .type "dict",data:= .dict #[]}).update x λo=>{cls:=o.cls,dict:=some s.heap.objs.size,data:=o.data,slots:=o.slots}).get? s.heap.objs.size
   =some {cls:= .type "dict",data:= .dict #[]}:=
   (yM _ _ _ _ p.symm).trans (vZ O O)
  have Y:((s.heap.push {cls:= .type "dict",data:= .dict #[]}).update x λo=>{cls:=o.cls,dict:=some s.heap.objs.size,data:=o.data,slots:=o.slots}).Ns s.heap.objs.size (λ_=>none):=
   ⟨_,#[],_,U,O,λe he=>absurd he (by simp),λ_=>rfl⟩
  have fin:wpAny (model prog w) A.in1 (storeInDict s.heap.objs.size (.str name tk) name v) (λfin s'=>match fin with | .done f=>R (.ok f) s' | .again c'=>c'.quiet=true/\codeAny (model prog w) A c' R s') (λe s'=>R (.error e) s')
   {s with heap:=((s.heap.push {cls:= .type "dict",data:= .dict #[]}).update x λo=>{cls:=o.cls,dict:=some s.heap.objs.size,data:=o.data,slots:=o.slots})}:=by
   unfold storeInDict newKeyGuard;refine aT (b4 (aT (wx (Heap.Ns1.of_empty Y) λh' i hs=>?_)));obtain⟨b',e',f',r,t,u⟩:=i.count (rF name v Within.nil);refine aT (vb r (by rw[t];exact rQ (bB u (by rw[bA,cn,qt];omega))) ?_);refine b4 ?_
   have H:h'.get? x=some {cls:=o.cls,dict:=some s.heap.objs.size,data:=o.data,slots:=o.slots}:=by
    refine(hs.2 x p).trans (hK _ G ?_);have i':=(Heap.get?_some_iff.mp hx).2;obtain⟨oc,od,j',cX⟩:=o;cases j'<;>first | rfl | exact i'
   refine z h' _ ⟨{cls:=o.cls,dict:=some s.heap.objs.size,data:=o.data,slots:=o.slots},H,j,D,.inr ⟨s.heap.objs.size,O,p.symm,?_⟩⟩ (λb k' l' _ k=>?_)
    (λa h₀=>by obtain rfl:o=a:=cx (hx.symm.trans h₀);exact⟨_,H,O,O,.inr ⟨E,O⟩⟩)
   .obtain⟨m',es,p',e1,q',e3,r',e4⟩:=i;exact⟨m',es,p',e1,q',e3,r',λy=>by rw[e4 y];by_cases hy:y=name<;>simp[hy,Q]⟩
   .exact(hs.2 b (dh (bP k))).trans ((yM _ _ _ _ l').trans (cw _ k))
  have u':typeHasDict (Value.ref C)=true:=rfl;simp only[j,u',Bool.not_true,Bool.or_false,mW,dV];exact aT (wpAny_alloc (aT (wpAny_update G (b4 fin))))
 .simp only[h];refine b4 ?_;show wpAny _ _ (storeInDict dx (.str name tk) name v) _ _ _;unfold storeInDict newKeyGuard;refine aT (b4 (aT (wx T λh' i hs=>?_)));obtain⟨b',e',f',r,t,u⟩:=i.count (rF name v J);refine aT (vb r (by rw[t];exact rQ (bB u (by rw[bA];omega))) ?_);refine b4 ?_
  refine z h' _ ⟨o,(hs.2 x m.symm).trans hx,j,D,.inr ⟨dx,h,m,i⟩⟩ (λb k' _ v' k=>?_)
   (λa h₀=>⟨a,(hs.2 x m.symm).trans h₀,O,O,.inl ⟨dx,by obtain rfl:o=a:=cx (hx.symm.trans h₀);exact h,by obtain rfl:o=a:=cx (hx.symm.trans h₀);exact h⟩⟩)
  exact(hs.2 b (v' o dx hx h)).trans k
theorem By {Q:Unit->Shared->Prop}(X:K.In s.heap)(c:ku K C)(n:findIn K (.ref C) name=some none)(I:s.heap.Inst x C mA)(h:Within mA ns)(hsz:ns.length<=sizeLine)(i:∀h' g,h'.Inst x C (λy=>if y=name then some v else mA y)->
 (∀b o,b≠x->(∀e dx,s.heap.get? x=some e->e.dict=some dx->b≠dx)->s.heap.get? b=some o->h'.get? b=some o)->
 (∀e,s.heap.get? x=some e->∃f,h'.get? x=some f/\f.cls=e.cls/\f.data=e.data/\((∃dx,e.dict=some dx/\f.dict=some dx)∨(e.dict=none/\f.dict=some s.heap.objs.size)))->Q () {s with heap:=h',toks:=g}):
 wpAny (model prog w) A (setAttr (.ref x) name v) Q E s:=by
 obtain⟨ox,od,j⟩:=An I;exact set_plain X j c.sa (Ep (s:={s with toks:=s.toks+1}) X c n I h hsz λh' g a b d=>i h' g a b d)
end L2
namespace L2
open PySem PySem.W PyProof.Rows
variable {A:Around} {B ql newId:String} {C N fI:Addr} {E Q:Value->Shared->Prop} {K:Frag} {ab hdct:Bool} {bm bs rest sub:List Value} {col:Option Bool} {d:Drawn} {dd:Option Addr} {g:Array GenState} {h:Heap} {k0 k1 k2 k3 k5:Option Value} {nm q:Str} {oI:Obj} {os:OsState} {prog:Program} {s:Shared} {sn:List Str} {t:Nat} {w:World}
structure Hb (C:Addr)(h h':Heap)(e:Addr)(vs:Array Value)(k p:Value):Prop where
 keep:∀b o,h.get? b=some o->b≠e->h'.get? b=some o
 obj:∃oe dx mA,h'.get? e=some oe/\oe.cls= .ref C/\oe.dict=some dx/\oe.data= .fields vs/\h.objs.size<=dx/\dx≠e/\h'.Ns1 dx mA/\mA "kind"=some k/\mA "place"=some p
theorem MW {e:Addr}{fd:FuncData}{R:Result->Shared->Prop}{a:Value}{pv:Value}{vs:Array Value}{p1 p2 p3 p4 T U Y b':Pos}(X:K.In s.heap)(c:ku K C)(nk:findIn K (.ref C) "kind"=some none)(np:findIn K (.ref C) "place"=some none)(e':A.depth<recursionLimit)(f':s.heap.get? fI=some oI)(i':oI.data= .func fd)(j':s.heap.NoLimit)(k':s.heap.CodeRec fd.code fd.qualname)(l':fd.body= .stmts [.Assign [.Attribute (.Name "self" p1) "kind" p2] (.Name "kind" p3) p4,.Assign [.Attribute (.Name "self" T) "place" U] (.Name "place" Y) b'])(m':BindsTo s fd ⟨[.ref e,a,pv],[]⟩ [("self",.ref e),("kind",a),("place",pv)])(i:fd.scope.names=[(("self":Str),NameKind.local),("kind",.local),("place",.local)])(p':K.lookup e=none)(q':fd.scope.isCoroutine=false)(r':fd.scope.isGenerator=false)(hk:fd.scope.kind= .function)(he:s.heap.get? e=some {cls:= .ref C,data:= .fields vs})(h:∀h' tk,Hb C s.heap h' e vs a pv->R (.ok (.ret .none)) {s with heap:=h',toks:=tk}):
 codeAny (model prog w) A (.call (.ref fI) ⟨[.ref e,a,pv],[]⟩) R s:=by
 refine codeAny_call_def e' f' i' j' k' l' m' (by rw[i];decide) (by rw[i];intro x hx;simp at hx;rcases hx with rfl | rfl | rfl<;>rfl) (λh₀ D k=>?_) q' r' hk;have p:(callEnv fd s.heap.objs.size fI).locals=s.heap.objs.size:=rfl;have j:(callEnv fd s.heap.objs.size fI).scope.kind= .function:=hk;have t:∀x,(callEnv fd s.heap.objs.size fI).kindOf x=fd.scope.names.lookup x:=λx=>rfl;have k1:(callEnv fd s.heap.objs.size fI).kindOf "self"=some .local:=by rw[t,i];rfl
 have k2:(callEnv fd s.heap.objs.size fI).kindOf "kind"=some .local:=by rw[t,i];rfl
 have k3:(callEnv fd s.heap.objs.size fI).kindOf "place"=some .local:=by rw[t,i];rfl
 generalize S':callEnv fd s.heap.objs.size fI=env at p j k1 k2 k3 ⊢;have l:h₀.Ns env.locals (λx=>([("self",Value.ref e),("kind",a),("place",pv)]:List (Str×Value)).reverse.lookup x):=by rw[p];exact D
 have m1:(λx:Str=>([("self",Value.ref e),("kind",a),("place",pv)]:List (Str×Value)).reverse.lookup x) "self"=some (.ref e):=rfl;have m2:(λx:Str=>([("self",Value.ref e),("kind",a),("place",pv)]:List (Str×Value)).reverse.lookup x) "kind"=some a:=rfl;have m3:(λx:Str=>([("self",Value.ref e),("kind",a),("place",pv)]:List (Str×Value)).reverse.lookup x) "place"=some pv:=rfl;generalize (λx:Str=>([("self",Value.ref e),("kind",a),("place",pv)]:List (Str×Value)).reverse.lookup x)=m at l m1 m2 m3;have u':h₀.Inst e C λ_=>none:=⟨_,k _ _ he,O,by simp,.inl ⟨O,λ_=>rfl⟩⟩;have E:K.In h₀:=X.keeps k;have G:=k _ _ he;have v':e≠env.locals:=by rw[p];exact dh (bP he)
 have H:s.heap.objs.size<h₀.objs.size:=by
  obtain⟨o,_,_,q,_⟩:=D;exact bP q
 refine oZ (si (kO (lW j k2 l m2 (kO (lW j k1 l m1 ?_) aJ)) aJ));refine By (s:={s with heap:=h₀,toks:=s.toks+3}) E c nk u' Within.nil (b3 _) λh1 w' y' z' A'=>?_;obtain⟨B',I,c1,C',D'⟩:=A' _ G
 have u:B'.dict=some h₀.objs.size:=by
  rcases D' with⟨dx,z,_⟩ | ⟨_,z⟩
  .cases z
  .exact z
 have v:∀b o,h₀.get? b=some o->b≠e->h1.get? b=some o:=λb o q n=>z' b o n (λJ dx f g=>by rw[G] at f;cases f;cases g) q
 have M:h1.Ns env.locals m:=by
  obtain⟨o,es,E',q,r⟩:=l;exact⟨o,es,E',v _ _ q v'.symm,r⟩
 have F':K.In h1:=λb o q=>v b o (E b o q) λz=>by rw[z,p'] at q;cases q
 show wpAny _ _ (execs [_] env) _ _ _;refine oZ (si (kO (lW j k3 M m3 (kO (lW j k1 M m1 ?_) aJ)) aJ));refine By (s:={s with heap:=h1,toks:=w'}) F' c np y' (rF "kind" a Within.nil) (by rw[qt];decide) λh2 G' I' J' K'=>?_;obtain⟨N,Q,L',M',N'⟩:=K' _ I
 have y:N.dict=some h₀.objs.size:=by
  rcases N' with⟨dx,z,g⟩ | ⟨z,_⟩
  .rw[u] at z;cases z;exact g
  .rw[u] at z;cases z
 have O':∀b o,h1.get? b=some o->b≠e->b≠h₀.objs.size->h2.get? b=some o:=λb o q n1 n2=>J' b o n1 (λJ dx f g=>by
  have f:h1.get? e=some J:=f;rw[I] at f;cases f;rw[u] at g;cases g
  exact n2) q
 refine iM ?_;show R (.ok (.ret .none)) _;refine h h2 G' ⟨λb o q n=>?_,?_⟩
 .have P':b<h₀.objs.size:=cc (bP q) (eY H);exact O' b o (v b o (k b o q) n) n (dh P')
 .obtain⟨T',g',_,_,R'⟩:=I';rw[Q] at g';cases g';rcases R' with⟨z,_⟩ | ⟨d,z,ne,ns⟩
  .rw[y] at z;cases z
  .rw[y] at z;cases z;exact⟨N,h₀.objs.size,_,Q,L'.trans c1,y,M'.trans C',eY H,ne,ns,O,O⟩
theorem Hi (F:ExcBaseFacts B newId ql bm){Q:Fin->Shared->Prop}(X:K.In h)(a:h.get? C=some (excClassObj nm q C N bs bm hdct sn sub ab col dd k0 k1 k2 k3 k5 newId))(hi:findIn K (.ref C) "__init__"=some (some (.ref fI)))(f:h.get? fI=some oI)(i:oI.cls= .type "function")(j:∀h' e,h.objs.size<=e->Heap.MadeExcOf h h' e (.ref C) rest->
 wpAny (model prog w) A (call (.ref fI) (.ref e::rest)) (λr s'=>r= .none/\Q (.done (.ret (.ref e))) s') E ⟨h',g,d,t,os⟩)(hrest:rest.length<=sizeLine:=by size_fits):
 wpAny (model prog w) A (Builtin.«type.__call__» ⟨.ref C::rest,[]⟩) Q E ⟨h,g,d,t,os⟩:=by
 repeat (first | with_reducible refine e2 a ?_ | with_reducible refine wpAny_madeBy_exc a ?_ | wp_step)
 refine xm (rC _ F.quiet) (Ac F a (zy F a ?_ hrest));show wpAny _ _ _ _ _ _
 have k:=cw {cls:= .ref C,data:= .fields #[.ref h.objs.size,.none,.none,.none,.bool false,.none]}
  (cw {cls:= .type "tuple",data:= .seq rest.toArray} a)
 have l:=cw {cls:= .ref C,data:= .fields #[.ref h.objs.size,.none,.none,.none,.bool false,.none]}
  (cw {cls:= .type "tuple",data:= .seq rest.toArray} f)
 have m:K.In ((h.push {cls:= .type "tuple",data:= .seq rest.toArray}).push {cls:= .ref C,data:= .fields #[.ref h.objs.size,.none,.none,.none,.bool false,.none]}):=
  X.keeps λb o e=>cw _ (cw _ e)
 have c:((h.push {cls:= .type "tuple",data:= .seq rest.toArray}).push
  {cls:= .ref C,data:= .fields #[.ref h.objs.size,.none,.none,.none,.bool false,.none]}).get? (h.objs.size+1)=some
  {cls:= .ref C,data:= .fields #[.ref h.objs.size,.none,.none,.none,.bool false,.none]}:=by heap_get
 have n:(Value.ref C::bm).contains (.ref C)=true:=by simp
 unfold isInstance
 repeat (first | with_reducible refine e2 c ?_ | (with_reducible refine l6 k ?_;rw[n]) | wp_step)
 show wpAny _ _ (typeLookup (.ref C) _) _ _ _;refine(qr m hi).at (gL (aT ?_));unfold bindSpecial;refine aT (wpAny_typeOf (T:="function") ⟨_,l,i⟩ ?_);rw[az aJ];refine b4 (aT (df (j _ (h.objs.size+1) (kP _) ⟨λb o p=>cw _ (cw _ p),oR (kP _),h.objs.size,c,oR (bY _),?_⟩) (λr s' s=>?_) λ_ _ x=>x))
 .exact cw _ (vZ O O)
 .obtain⟨rfl,u⟩:=s
  wp_walk
  exact u
theorem GH (F:ExcBaseFacts B newId ql bm)(X:K.In h)(a:h.get? C=some (excClassObj nm q C N bs bm hdct sn sub ab col dd k0 k1 k2 k3 k5 newId))(hi:findIn K (.ref C) "__init__"=some (some (.ref fI)))(b:h.get? fI=some oI)(c:oI.cls= .type "function")(f:∀h' e,h.objs.size<=e->Heap.MadeExcOf h h' e (.ref C) rest->
 wpAny (model prog w) (A.under (.builtin "type.__call__" ⟨.ref C::rest,[]⟩)) (call (.ref fI) (.ref e::rest)) (λr s'=>r= .none/\Q (.ref e) s') E ⟨h',g,d,t,os⟩)(hrest:rest.length<=sizeLine:=by size_fits):
 wpAny (model prog w) A (call (.ref C) rest) Q E ⟨h,g,d,t,os⟩:=by
 have j:=tc_lookup;have k:=tc_bind (.ref C);have l:(⟨h,g,d,t,os⟩:Shared).TypeIs (.ref C) "type":=⟨_,a,O⟩;refine hn (codeAny_of_tree ?_);show wpAny _ _ (callAny (.ref C) _) _ _ _
 repeat (any_goals (first | assumption | with_reducible refine e2 a ?_ | wp_step))
 exact⟨O,x5 (rC _ (by decide+kernel)) entry_typeCall (zq a (Hi (hrest:=hrest) F X a hi b c λh' e i hm=>f h' e i hm))⟩
end L2
namespace L2
open PySem PySem.Spec PyProof.Rows
open PySem.W (Frag callWith_K callWith_K0 cellsFrom_some codeIn codeRec_of emptyDict findIn findObj_own fnOf handedIn hasDictIn instObj isFn keepIn lookIn makesIn methodObj notCls nsIn nsOkIn plainGet plainOver takerIn typeIn)
variable {A:Around} {C a dx f it l:Addr} {CX:gN} {D:Ends} {E Q xe:Value->Shared->Prop} {H H' H1:Hp} {K:PySem.W.Frag} {M:Model} {N ps:List Str} {P prog:Program} {R:Result->Shared->Prop} {T:String} {X:Cx} {an:St->Hp->Prop} {b c e iter tg:Expr} {base h h' h1:Heap} {body:List Stmt} {cd bc ct cL ev oc pm u v:Value} {ch ex fp:List Addr} {cm:Bool} {d d':Drawn} {ds aD its' us:List Value} {eu xs ys:List V} {env:Env} {es rest:List Expr} {fd:FuncData} {g:TG} {g':Array GenState} {hi lo:Option Expr} {i j k kk n t':Nat} {kindOf:Str->Option NameKind} {kw:List (Str×Value)} {mA mg:Str->Option Value} {name nm bN x:Str} {o:HO} {od:Option Addr} {op:CmpOp} {os:OsState} {cX:Array (Option Value)} {outer:List Env} {own:List (Str×Nat)} {p aH fy:Pos} {gJ pinsz_ pn:List (Addr×Obj)} {q:Addr×Obj} {r:List V->Hp->VK->Prop} {s s':Shared} {sc scope:Scope} {sp:Sp} {st:Stmt} {t:TA} {tA qp tc:TT} {ta te tl to:TE} {tb:Option (Addr×Value)} {vs:Array Value} {w:World} {wi:TI} {y:V} {α:Type} {σ:List (Option V)} {Q':α->Shared->Prop}
abbrev eL:=Sum Int Str
noncomputable def xB:eL->Value->Bool
 | .inl k,v=>Value.isInt k v
 | .inr x,v=>Value.isStrOf x v
noncomputable def IV (w:World):eL->Int
 | .inl k=>hashInt k
 | .inr x=>hashStr w x
theorem i7:∀{k:eL} {v:Value},xB k v=true->(∃i t,k=Sum.inl i/\v=Value.int i t)∨(∃x t,k=Sum.inr x/\v=Value.str x t)
 | .inl i,v,h=>by
  obtain⟨t,e⟩:=Value.isInt_shape (k:=i) (v:=v) h
  exact .inl ⟨i,t,O,e⟩
 | .inr x,v,h=>by
  obtain⟨t,e⟩:=Value.isStrOf_shape (x:=x) (v:=v) h;exact .inr ⟨x,t,O,e⟩
theorem Iy (a b:Int):decide ((Sum.inl a:eL)=Sum.inl b)=(a==b):=by
 by_cases e:a=b
 .subst e;simp
 .have h:¬(Sum.inl a:eL)=Sum.inl b:=λq=>e (Sum.inl.inj q);rw[dC h];exact(beq_eq_false_iff_ne.mpr e).symm
theorem La (a b:Str):decide ((Sum.inr a:eL)=Sum.inr b)=decide (a=b):=by
 by_cases e:a=b
 .subst e;simp
 .have h:¬(Sum.inr a:eL)=Sum.inr b:=λq=>e (Sum.inr.inj q);rw[dC h,dC e]
theorem Kz (a:Int)(b:Str):decide ((Sum.inl a:eL)=Sum.inr b)=false:=dC (λq=>nomatch q)
theorem LD (a:Str)(b:Int):decide ((Sum.inr a:eL)=Sum.inl b)=false:=dC (λq=>nomatch q)
noncomputable def yJ (prog:Program)(w:World):PySem.KeyKind prog w eL where
 is:=xB
 hash:=IV w
 inj:=λv a b ha d=>by
  rcases i7 ha with⟨i,t,rfl,rfl⟩ | ⟨x,t,rfl,rfl⟩
  .rcases i7 d with⟨j,u,rfl,e⟩ | ⟨y,u,rfl,e⟩
   .injection e with e1 _;rw[e1]
   .exact nomatch e
  .rcases i7 d with⟨j,u,rfl,e⟩ | ⟨y,u,rfl,e⟩
   .exact nomatch e
   .injection e with e1 _;rw[e1]
 byValue:=λk v h=>by
  rcases i7 h with⟨i,t,rfl,rfl⟩ | ⟨x,t,rfl,rfl⟩<;>rfl
 pyHash:=λc h=>by
  rcases i7 c with⟨i,t,rfl,rfl⟩ | ⟨x,t,rfl,rfl⟩
  .exact wpAny_pyHash_int h
  .exact wpAny_pyHash_str h
 eqBool:=λf c h=>by
  rcases i7 f with⟨i,t,rfl,rfl⟩ | ⟨x,t,rfl,rfl⟩
  .rcases i7 c with⟨j,u,rfl,rfl⟩ | ⟨y,u,rfl,rfl⟩
   .rw[Iy] at h;exact wpAny_eqBool_int h
   .rw[Kz] at h;exact SeqAt.EqAt.int_str i t y u _ _ _ _ h
  .rcases i7 c with⟨j,u,rfl,rfl⟩ | ⟨y,u,rfl,rfl⟩
   .rw[LD] at h;exact SeqAt.EqAt.str_int x t j u _ _ _ _ h
   .rw[La] at h;exact wpAny_eqBool_str h
 «strs»:=λk x t v h=>by
  rcases i7 h with⟨i,u,rfl,e⟩ | ⟨y,u,rfl,e⟩
  .exact nomatch e
  .injection e with e1 _
   subst e1;cases v<;>rfl
inductive V where
 | aE | bl (b:Bool) | int (i:Int) | str (x:Str) | eA (b:Array UInt8) | oV (b:UInt64) | ref (a:Addr) | ty (n:String)
 deriving DecidableEq
noncomputable def RelV:V->Value->Prop
 | .aE,u=>u=Value.none
 | .bl b,u=>u=Value.bool b
 | .int i,u=>∃t,u=Value.int i t
 | .str x,u=>∃t,u=Value.str x t
 | .eA b,u=>∃t,u=Value.bytes b t
 | .oV b,u=>∃t,u=Value.float b t
 | .ref a,u=>u=Value.ref a
 | .ty n,u=>u=Value.type n
abbrev bt:List V->List Value->Prop:=Paired RelV
theorem bt.length {xs:List V}{us:List Value}(r:bt xs us):xs.length=us.length:=Paired.length r
theorem bt.get:∀{xs:List V} {us:List Value} {i:Nat} {x:V},bt xs us->xs[i]?=some x->∃u,us[i]?=some u/\RelV x u
 | _,_,_,_,.nil,e=>by simp at e
 | _,_,0,_,.cons r _,e=>by simp at e;subst e;exact⟨_,O,r⟩
 | _,_,i+1,x,.cons _ t,e=>by
  obtain⟨u,h1,h2⟩:=bt.get (i:=i) (x:=x) t (by simpa using e);exact⟨u,by simpa using h1,h2⟩
theorem bt.set {x:V}{u:Value}(r:RelV x u):∀{xs:List V} {us:List Value} (i:Nat),bt xs us->bt (xs.set i x) (us.set i u)
 | _,_,_,.nil=> .nil
 | _,_,0,.cons _ t=> .cons r t
 | _,_,i+1,.cons q t=> .cons q (bt.set r i t)
theorem bt.append:∀{xs ys:List V} {us a:List Value},bt xs us->bt ys a->bt (xs++ys) (us++a)
 | _,_,_,_,.nil,s=>s
 | _,_,_,_,.cons r t,s=> .cons r (bt.append t s)
theorem bt.take:∀{xs:List V} {us:List Value} (n:Nat),bt xs us->bt (xs.take n) (us.take n)
 | _,_,0,_=> .nil
 | _,_,_+1,.nil=> .nil
 | _,_,n+1,.cons r t=> .cons r (bt.take n t)
theorem bt.drop:∀{xs:List V} {us:List Value} (n:Nat),bt xs us->bt (xs.drop n) (us.drop n)
 | _,_,0,r=>r
 | _,_,_+1,.nil=> .nil
 | _,_,n+1,.cons _ t=>bt.drop n t
noncomputable def kR:Option V->Option Value->Prop
 | some v,some u=>RelV v u
 | none,none=>True
 | _,_=>False
noncomputable def KV {a:Type}:List (a×V)->List (a×Value)->Prop:=Paired λ(p:a×V) (q:a×Value)=>p.1=q.1/\RelV p.2 q.2
noncomputable def kV:eL->V
 | .inl i=> .int i
 | .inr x=> .str x
inductive HO where
 | lst (xs:List V)
 | tup (xs:List V)
 | dK (Lf:List (eL×V)) | dT (Lf:List (List eL×V))
 | set (S:Int->Bool) (n:Nat)
 | ins (C dx:Addr) (fs:List (Str×V))
 | own (x:Addr)
 | xd (fs:List (Str×V))
 | met (f x:Addr)
 | vm (lo hi:Int)
 | d9 (o:Obj) (u:HO)
 | ks (ps:Array Value)
 | ext (φ:Heap->Prop)
abbrev Hp:=Addr->Option HO
noncomputable def ah (H:Hp)(a:Addr)(o:HO):Hp:=λb=>if b=a then some o else H b
theorem au:ah H a o a=some o:=by unfold ah;rw[az O]
theorem ak {b:Addr}(h:b≠a):ah H a o b=H b:=by unfold ah;rw[ar h]
theorem ef {b:Addr}{u:HO}(h:H a=some o)(h':H b=some u)(d:o≠u):a≠b:=by
 intro e;subst e;rw[h] at h';exact d (cx h')
theorem a6 {b:Addr}(h:H a=some o)(h':H b=none):a≠b:=by
 intro e;subst e;rw[h] at h';cases h'
section
variable (P:Program) (w:World)
noncomputable def ee (H:Hp) (h:Heap) (a:Addr):HO->Prop
 | .lst xs=>xs.length<=sizeLine/\∃(aD:List Value) (n:Nat),bt xs aD/\h.get? a=some {cls:= .type "list",data:= .seq aD.toArray n}
 | .tup xs=>xs.length<=sizeLine/\∃aD:List Value,bt xs aD/\IsTup h a aD.toArray
 | .dK b=>b.length<=sizeLine/\(a==sysModules)=false/\∃vs,KV b vs/\h.DictOf (yJ P w) a vs
 | .dT b=>b.length<=sizeLine/\(a==sysModules)=false/\∃xs:List (List eL×Addr×Value),
  Paired (λ(p:List eL×V) (q:List eL×Addr×Value)=>p.1=q.1/\H q.2.1=some (.tup (p.1.map kV))/\RelV p.2 q.2.2) b xs/\
  ∃o es d,h.get? a=some o/\o.ExactDict/\o.data= .dict es d/\es.toList=xs.map (entryOfKey (tupleKind (yJ P w)))/\(xs.map (·.1)).Nodup
 | .set S n=>h.SetOf (intKind P w) a S n
 | .ins C dx fs=>H dx=some (.own a)/\fs.length<=1000/\dx≠a/\h.get? a=some (instObj C dx)/\
  ∃mA,h.Ns1 dx mA/\(∀f,kR (fs.lookup f) (mA f))/\PySem.Within mA (fs.map (·.1))
 | .own _=>∃o,h.get? a=some o
 | .xd fs=>∃mA,h.Ns1 a mA/\∀f,kR (fs.lookup f) (mA f)
 | .vm lo hi=>∃t u v,h.get? a=some {cls:= .type "range",data:= .fields #[.int lo t,.int hi u,.int 1 v]}
 | .d9 o u=>h.get? a=some o/\ee H h a u
 | .ks ps=>h.get? a=some {cls:= .none,data:= .fields ps}
 | .met f x=>h.get? a=some (methodObj (.ref f) (.ref x))
 | .ext c=>c h/\(∃o,h.get? a=some o)/\∀h1 h2:Heap,c h1->(∀o,h1.get? a=some o->h2.get? a=some o)->c h2
end
noncomputable def cA (P:Program)(w:World)(H:Hp)(h:Heap):Prop:=∀a o,H a=some o->ee P w H h a o
theorem ee.lt (x:ee P w H h a o):a<h.objs.size:=by
 cases o with
 | lst xs=>obtain⟨_,_,_,_,e⟩:=x;exact bP e
 | tup xs=>obtain⟨_,_,_,p⟩:=x;exact p.lt
 | dK b=>obtain⟨_,_,_,_,o,_,_,e,_⟩:=x;exact bP e
 | dT b=>obtain⟨_,_,_,_,o,_,_,e,_⟩:=x;exact bP e
 | set S n=>obtain⟨o,_,_,_,e,_⟩:=x;exact bP e
 | ins C dx fs=>obtain⟨_,_,_,e,_⟩:=x;exact bP e
 | own y=>obtain⟨_,e⟩:=x;exact bP e
 | xd fs=>obtain⟨_,⟨_,_,_,e,_⟩,_⟩:=x;exact bP e
 | vm lo hi=>obtain⟨_,_,_,e⟩:=x;exact bP e
 | d9 c u=>obtain⟨e,_⟩:=x;exact bP e
 | ks ps=>exact bP (show h.get? a=some _ from x)
 | met f y=>exact bP (show h.get? a=some _ from x)
 | ext d=>obtain⟨_,⟨_,e⟩,_⟩:=x;exact bP e
theorem Paired.xW {α β:Type}{F G:α->β->Prop}:∀{c:List α} {d:List β},Paired F c d->(∀a b,F a b->G a b)->Paired G c d
 | _,_,.nil,_=> .nil
 | _,_,.cons r t,f=> .cons (f _ _ r) (Paired.xW t f)
theorem ee.jO (x:ee P w H h a o)(k:∀b u,(b=a∨H b=some (.own a))->h.get? b=some u->h'.get? b=some u)(j:∀b,H b=some (.own a)->H' b=some (.own a))(l:∀b xs,H b=some (.tup xs)->H' b=some (.tup xs)):ee P w H' h' a o:=by
 induction o with
 | lst xs=>obtain⟨z,aD,n,r,e⟩:=x;exact⟨z,aD,n,r,k _ _ (.inl O) e⟩
 | tup xs=>obtain⟨z,aD,r,g,e,c⟩:=x;exact⟨z,aD,r,g,k _ _ (.inl O) e,c⟩
 | dK m=>obtain⟨z,y,vs,r,g,es,i,e,c⟩:=x;exact⟨z,y,vs,r,g,es,i,k _ _ (.inl O) e,c⟩
 | dT m=>
  obtain⟨z,y,xs,r,g,es,i,e,c⟩:=x
  exact⟨z,y,xs,Paired.xW r λp q z=>⟨z.1,l _ _ z.2.1,z.2.2⟩,g,es,i,k _ _ (.inl O) e,c⟩
 | set S n=>obtain⟨g,es,i,t,e,c⟩:=x;exact⟨g,es,i,t,k _ _ (.inl O) e,c⟩
 | ins C dx fs=>
  obtain⟨d,z,ne,e,mA,⟨od,es,i,s,c⟩,r⟩:=x
  exact⟨j _ d,z,ne,k _ _ (.inl O) e,mA,⟨od,es,i,k _ _ (.inr d) s,c⟩,r⟩
 | own y=>obtain⟨g,e⟩:=x;exact⟨g,k _ _ (.inl O) e⟩
 | xd fs=>obtain⟨mA,⟨od,es,i,e,c⟩,r⟩:=x;exact⟨mA,⟨od,es,i,k _ _ (.inl O) e,c⟩,r⟩
 | vm lo hi=>obtain⟨t,u,v,e⟩:=x;exact⟨t,u,v,k _ _ (.inl O) e⟩
 | d9 g u A=>obtain⟨e,q⟩:=x;exact⟨k _ _ (.inl O) e,A q⟩
 | ks ps=>
  have e:h.get? a=some {cls:= .none,data:= .fields ps}:=x;show h'.get? a=some {cls:= .none,data:= .fields ps}
  exact k a _ (.inl O) e
 | met f y=>
  have e:h.get? a=some (methodObj (.ref f) (.ref y)):=x;show h'.get? a=some (methodObj (.ref f) (.ref y))
  exact k a _ (.inl O) e
 | ext D=>obtain⟨p,⟨o,e⟩,st⟩:=x;exact⟨st _ _ p λo q=>k _ _ (.inl O) q,⟨o,k _ _ (.inl O) e⟩,st⟩
theorem cA.lt (x:cA P w H h)(e:H a=some o):a<h.objs.size:=(x a o e).lt
theorem cA.fresh (x:cA P w H h)(e:h.objs.size<=a):H a=none:=by
 cases q:H a with
 | none=>rfl
 | some u=>exact absurd (cc (x.lt q) e) (hr _)
theorem cA.kept (x:cA P w H h)(k:∀b u,h.get? b=some u->h'.get? b=some u):cA P w H h':=λa o e=>
 (x a o e).jO (λb u _ q=>k b u q) (λ_ q=>q) λ_ _ q=>q
theorem cA.laid (x:cA P w H h)(k:∀b u,h.get? b=some u->h'.get? b=some u)(g:h.objs.size<=a)(new:ee P w (ah H a o) h' a o):cA P w (ah H a o) h':=λb u e=>by
 have d:=x.fresh g;by_cases f:b=a
 .subst f;rw[au] at e;cases e;exact new
 .rw[ak f] at e;exact(x b u e).jO (λc v _ q=>k c v q) (λc q=>by rw[ak (a6 q d)];exact q) λc xs q=>by rw[ak (a6 q d)];exact q
noncomputable def Rd (H:Hp)(a:Addr)(u:HO):Prop:=H a=some u∨∃o,H a=some (.d9 o u)
theorem Rd.ok {u:HO}(r:Rd H a u)(x:cA P w H h):ee P w H h a u:=by
 rcases r with r | ⟨o,r⟩
 .exact x a u r
 .obtain⟨_,q⟩:=x a _ r;exact q
noncomputable def p_:Option HO->Prop
 | some (.lst _)=>True
 | some (.dK _)=>True
 | some (.dT _)=>True
 | some (.set _ _)=>True
 | some (.ins _ _ _)=>True
 | some (.ext _)=>True
 | _=>False
theorem cA.write {x:Addr}{e:Addr}{g:HO}(ok:cA P w H h)(a:p_ (H x))(he:e=x∨H e=some (.own x))(k:∀b u,b≠e->h.get? b=some u->h'.get? b=some u)(l:∃u,h'.get? e=some u)(new:ee P w (ah H x g) h' x g):cA P w (ah H x g) h':=λb u q=>by
 have i:∀c y,H c=some (.own y)->c≠x:=λc y r z=>by subst z;rw[r] at a;exact a
 have m:∀c xs,H c=some (.tup xs)->c≠x:=λc xs r z=>by subst z;rw[r] at a;exact a
 by_cases d:b=x
 .subst d;rw[au] at q;cases q;exact new
 .rw[ak d] at q;by_cases f:b=e
  .have j:H b=some (.own x):=by
    rcases he with z | z
    .exact absurd (f.trans z) d
    .rw[f];exact z
   rw[q] at j;cases j;obtain⟨v,n⟩:=l;exact⟨v,by rw[f];exact n⟩
  .refine(ok b u q).jO (λc v hc r=>k c v ?_ r) (λc r=>by rw[ak (i c b r)];exact r) λc xs r=>by rw[ak (m c xs r)];exact r
   rcases hc with rfl | hc
   .exact f
   .rintro rfl;rcases he with z | z
    .exact i c b hc z
    .rw[hc] at z;cases z;exact d O
structure Un (fs ex:List Addr)(H H':Hp)(h h':Heap):Prop where
 keep:∀b o,h.get? b=some o->H b=none->b∉fs->b∉ex->h'.get? b=some o
 slot:∀b o,h.get? b=some o->H b=none->b∈fs->b∉ex->∃sl,h'.get? b=some {o with slots:=sl}
 free:∀b o,h.get? b=some o->H b=none->b∉ex->H' b=none
 there:∀b o,h.get? b=some o->b∉ex->∃o',h'.get? b=some o'
 tups:∀b xs,H b=some (.tup xs)->H' b=some (.tup xs)
 frzs:∀b o u,H b=some (.d9 o u)->H' b=some (.d9 o u)
 tbls:∀b ps,H b=some (.ks ps)->∃more,H' b=some (.ks (ps++more))
theorem Un.any {fs:List Addr}(u:Un fs ex H H1 h h1){b:Addr}{a:Obj}(q:h.get? b=some a)(n:H b=none)(hx:b∉ex):∃d,h1.get? b=some {a with slots:=d}:=by
 by_cases c:b∈fs
 .exact u.slot b a q n c hx
 .exact⟨a.slots,u.keep b a q n c hx⟩
theorem Un.kept {fs:List Addr}(k:∀b u,h.get? b=some u->h'.get? b=some u):Un fs ex H H h h':=
 ⟨λb a q _ _ _=>k b a q,λb a q _ _ _=>⟨a.slots,k b a q⟩,λ_ _ _ n _=>n,λb a q _=>⟨a,k b a q⟩,λ_ _ q=>q,λ_ _ _ q=>q,λ_ ps q=>⟨#[],by rw[q];simp⟩⟩
theorem Un.refl {fs:List Addr}:Un fs ex H H h h:=Un.kept λ_ _ q=>q
theorem Un.laid {fs:List Addr}(k:∀b u,h.get? b=some u->h'.get? b=some u)(d:h.objs.size<=a)(c:H a=none):Un fs ex H (ah H a o) h h' where
 keep:=λb u q _ _ _=>k b u q
 slot:=λb u q _ _ _=>⟨u.slots,k b u q⟩
 free:=λb u q n _=>by rw[ak (dh (cc (bP q) d))];exact n
 there:=λb u q _=>⟨u,k b u q⟩
 tups:=λb xs q=>by rw[ak (a6 q c)];exact q
 frzs:=λb u xs q=>by rw[ak (a6 q c)];exact q
 tbls:=λb ps q=>⟨#[],by rw[ak (a6 q c),q];simp⟩
theorem Un.write {fs:List Addr}{x:Addr}{e:Addr}(a:p_ (H x))(he:e=x∨H e=some (.own x))(k:∀b u,b≠e->h.get? b=some u->h'.get? b=some u)(f:∃u,h'.get? e=some u):Un fs ex H (ah H x o) h h':=by
 have hx:∀b,H b=none->b≠x:=λb n z=>by subst z;rw[n] at a;exact a
 have c:∀b,H b=none->b≠e:=λb n z=>by
  subst z;rcases he with r | r
  .exact hx b n r
  .rw[n] at r;cases r
 have hm:∀b u,H b=some u->¬p_ (some u)->b≠x:=λb u q nm z=>by subst z;rw[q] at a;exact nm a
 refine⟨λb u q n _ _=>k b u (c b n) q,λb u q n _ _=>⟨u.slots,k b u (c b n) q⟩,λb u q n _=>by rw[ak (hx b n)];exact n,λb u q _=>?_,
  λb xs q=>by rw[ak (hm b _ q λz=>z)];exact q,λb u xs q=>by rw[ak (hm b _ q λz=>z)];exact q,λb ps q=>⟨#[],by rw[ak (hm b _ q λz=>z),q];simp⟩⟩
 by_cases d:b=e
 .subst d;exact f
 .exact⟨u,k b u d q⟩
noncomputable def m6 (h:Heap)(H:Hp):List Addr:=(List.range h.objs.size).filter λa=>(H a).isSome
noncomputable def i4 (h:Heap)(H:Hp):Heap:=PySem.W.hideAll h (m6 h H)
theorem Ln (h:Heap)(H:Hp):(i4 h H).objs.size=h.objs.size:=PySem.W.hideAll_size _ _
theorem MY {b:Addr}{o:Obj}(e:h.get? b=some o)(n:H b=none):(i4 h H).get? b=some o:=
 PySem.W.hideAll_get _ e λhm=>by
  have q:(H b).isSome=true:=(List.mem_filter.mp hm).2;rw[n] at q;simp at q
theorem Nf {b:Addr}{o:Obj}(e:(i4 h H).get? b=some o):h.get? b=some o/\H b=none:=by
 have a:h.get? b=some o:=PySem.W.of_hideAll (m6 h H) e;refine⟨a,?_⟩
 cases q:H b with
 | none=>rfl
 | some x=>
  have hm:b∈m6 h H:=List.mem_filter.mpr ⟨List.mem_range.mpr (bP a),by simp[q]⟩;have z:(i4 h H).get? b=none:=PySem.W.hideAll_none (m6 h H) hm;rw[z] at e;cases e
structure Mod (K:Frag)(mg:Str->Option Value)(base:Heap):Prop where
 kc:K.In base
 glob:base.Ns mainGlobals mg
 blt:∃mb,base.Ns builtinsNs mb/\∀x:Str,x≠"__name__"->mb x=bootBuiltins x
 nolimit:base.NoLimit
structure Cx where
 prog:Program
 w:World
 K:Frag
 mg:Str->Option Value
 base:Heap
 A:Around
 N:List Str
 s_0:Shared
 H_0:Hp
 env:Env
 outer:List Env
 stack:List Env
 ex:List Addr
 fn:Str->Bool
 calm:Bool
 pn:List (Addr×Obj)
 xe:Value->Shared->Prop
noncomputable def dn (l:List Env):List Addr:=l.filterMap (·.frame)
abbrev Cx.fs (X:Cx):List Addr:=dn X.outer
noncomputable def l5 (sc:Scope)(x:Str):Prop:=sc.names.lookup x=some .local∨sc.names.lookup x=some .cell∨sc.names.lookup x=some .free
noncomputable def Loc (sc:Scope)(x:Str):Prop:=sc.names.lookup x=some .local∨sc.names.lookup x=some .cell
noncomputable def Look (env:Env)(h:Heap)(m:Str->Option Value)(x:Str)(u:Value):Prop:=
 (env.kindOf x=some .local/\m x=some u)∨((env.kindOf x=some .cell∨env.kindOf x=some .free)/\∃c,env.cells.lookup x=some c/\h.IsCell c (some u))
structure Cx.Ok (X:Cx):Prop where
 mod:Mod X.K X.mg X.base
 kind:X.env.scope.kind= .function
 glob:X.env.globals=mainGlobals
 blt:X.env.builtins=builtinsNs
 above:X.s_0.heap.objs.size<=X.env.locals
 inj:∀x y c,X.env.cells.lookup x=some c->X.env.cells.lookup y=some c->x=y
 has:∀x,(X.env.kindOf x=some .cell∨X.env.kindOf x=some .free)->∃c,X.env.cells.lookup x=some c
 j1:∀x c,X.fn x=true->X.env.cells.lookup x=some c->X.s_0.heap.objs.size<=c
 hd:X.calm=true->X.A.handled=none
 frames:X.A.frames=some X.stack
 kH:X.stack=X.outer∨(X.stack=X.env::X.outer/\X.env.frame=some X.env.locals)
 k8:∀b∈X.ex,b≠X.env.locals/\∀x c,X.env.cells.lookup x=some c->c≠b
 bs:∀b o,X.base.get? b=some o->X.s_0.heap.get? b=some o/\X.H_0 b=none
 fP:X.base.objs.size<=X.s_0.heap.objs.size
 j_:∀b o,X.base.get? b=some o->b∉X.ex
 j7:∀b∈X.ex,b∉X.fs
 ea:X.s_0.heap.FunFrames X.base X.outer
 hR:∀b∈X.fs,X.H_0 b=none
structure Inv (X:Cx)(pins:List (Addr×Obj))(σ:List (Option V))(H:Hp)(s:Shared):Prop where
 ok:X.Ok
 os:s.os=X.s_0.os
 bare:AllBare s.gens
 base:Un X.fs X.ex X.H_0 H X.s_0.heap s.heap
 loc:∃m,s.heap.Ns X.env.locals m/\∀(i:Nat) (x:Str) (v:V),X.N[i]?=some x->σ[i]?=some (some v)->l5 X.env.scope x->∃u,RelV v u/\Look X.env s.heap m x u
 cell:∀x c,X.env.cells.lookup x=some c->∃v,s.heap.IsCell c v
 free:H X.env.locals=none
 ek:∀x c,X.env.cells.lookup x=some c->H c=none
 pin:∀p∈X.pn++pins,s.heap.get? p.1=some p.2/\H p.1=none/\p.1≠X.env.locals/\p.1∉X.fs/\∀v,p.2.data≠ .cell v
 aG:cA X.prog X.w H s.heap
 len:σ.length=X.N.length
theorem Cx.Ok.JN (ok:X.Ok){b:Addr}{o:Obj}(e:X.base.get? b=some o):b∉X.fs:=λa=>by
 have:=(ok.ea.mem a).1;rw[e] at this;cases this
theorem Inv.bs (I:Inv X pinsz_ σ H s):∀b o,X.base.get? b=some o->s.heap.get? b=some o/\H b=none:=λb o e=>
 ⟨I.base.keep b o (I.ok.bs b o e).1 (I.ok.bs b o e).2 (I.ok.JN e) (I.ok.j_ b o e),I.base.free b o (I.ok.bs b o e).1 (I.ok.bs b o e).2 (I.ok.j_ b o e)⟩
theorem Inv.bk (I:Inv X pinsz_ σ H s):∀b o,X.base.get? b=some o->s.heap.get? b=some o:=λb o e=>(I.bs b o e).1
theorem Inv.mod (I:Inv X pinsz_ σ H s):Mod X.K X.mg X.base:=I.ok.mod
theorem Inv.ck (I:Inv X pinsz_ σ H s):X.K.In s.heap:=I.ok.mod.kc.keeps I.bk
theorem Inv.nolimit (I:Inv X pinsz_ σ H s):s.heap.NoLimit:=I.ok.mod.nolimit.keeps I.bk
theorem Inv.fr (I:Inv X pinsz_ σ H s):∃m,Fr X.base X.env.locals s.heap m:=
 let ⟨m,a,_⟩:=I.loc
 ⟨m,a,I.bk,bB I.ok.fP I.ok.above⟩
theorem Inv.lt (I:Inv X pinsz_ σ H s):X.env.locals<s.heap.objs.size:=let ⟨_,a,_⟩:=I.loc;a.lt
theorem Inv.sz (I:Inv X pinsz_ σ H s):X.s_0.heap.objs.size<=s.heap.objs.size:=bB I.ok.above (eY I.lt)
theorem Inv.HY (I:Inv X pinsz_ σ H s)(h:s.heap.objs.size<=a):a∉X.fs:=λb=>by
 obtain⟨_,o,c,_⟩:=I.ok.ea.mem b;exact absurd (cc (bP c) (bB I.sz h)) (hr _)
theorem Inv.gS (I:Inv X pinsz_ σ H s):∀x c,X.env.cells.lookup x=some c->c≠X.env.locals:=λx c e z=>by
 obtain⟨v,o,a,hd⟩:=I.cell x c e;obtain⟨m,⟨f,es,g,b,d,_⟩,_⟩:=I.loc;rw[z,b] at a;cases a;rw[d] at hd;cases hd
theorem Inv.ea (I:Inv X pinsz_ σ H s):s.heap.FunFrames X.base X.outer:=by
 have all:∀(l:List Env),(∀b∈dn l,b∈X.fs)->X.s_0.heap.FunFrames X.base l->s.heap.FunFrames X.base l:=by
  intro l
  induction l with
  | nil=>intro _ _;trivial
  | cons env r f=>
   intro hs g;obtain⟨hk,⟨L,o,a,h,i,hd⟩,j⟩:=g;have c:L∈X.fs:=hs L (by unfold dn;rw[pM,a];exact cq);obtain⟨k,e⟩:=I.base.slot L o i (I.ok.hR L c) c λz=>I.ok.j7 L z c;exact⟨hk,⟨L,_,a,h,e,hd⟩,f (λb d=>hs b (by unfold dn;rw[pM,a];exact dw _ d)) j⟩
 exact all X.outer (λ_ d=>d) I.ok.ea
theorem Inv.stack (I:Inv X pinsz_ σ H s):s.heap.FunFrames X.base X.stack:=by
 rcases I.ok.kH with e | ⟨e,a⟩
 .rw[e];exact I.ea
 .rw[e];obtain⟨m,b,_⟩:=I.loc;refine .cons (by rw[I.ok.kind];decide) a b ?_ I.ea;exact oR (bB I.ok.fP I.ok.above)
theorem Inv.rg (I:Inv X pinsz_ σ H s):∀b∈dn X.stack,b∈X.env.locals::X.fs:=λb a=>by
 rcases I.ok.kH with e | ⟨e,c⟩
 .rw[e] at a;exact dw _ a
 .rw[e] at a;unfold dn at a;rw[pM,c] at a;exact a
theorem Inv.uW (I:Inv X pinsz_ σ H s):∀b∈dn X.stack,H b=none:=λb a=>by
 rcases List.mem_cons.mp (I.rg b a) with e | a
 .rw[e];exact I.free
 .obtain⟨_,o,c,_⟩:=I.ok.ea.mem a;exact I.base.free b o c (I.ok.hR b a) λz=>I.ok.j7 b z a
theorem Inv.step (I:Inv X pinsz_ σ H s)(g:∀b∈ch,(b∈X.ex∨X.s_0.heap.objs.size<=b)/\b≠X.env.locals/\(∀x c,X.env.cells.lookup x=some c->c≠b)/\∀p∈X.pn++pinsz_,p.1≠b)(keep:∀b o,b≠X.env.locals->b∉X.fs->b∉ch->s.heap.get? b=some o->H b=none->h'.get? b=some o)(slot:∀b o,b≠X.env.locals->b∈X.fs->b∉ch->s.heap.get? b=some o->H b=none->∃A,h'.get? b=some {o with slots:=A})(free:∀b o,b∉ch->s.heap.get? b=some o->H b=none->H' b=none)(there:∀b o,b∉ch->s.heap.get? b=some o->∃h,h'.get? b=some h)(tups:∀b xs,H b=some (.tup xs)->H' b=some (.tup xs))(frzs:∀b o u,H b=some (.d9 o u)->H' b=some (.d9 o u))(tbls:∀b ps,H b=some (.ks ps)->∃more,H' b=some (.ks (ps++more)))(ns:∀m,s.heap.Ns X.env.locals m->h'.Ns X.env.locals m)(aG:cA X.prog X.w H' h')(J:AllBare g'):
 Inv X pinsz_ σ H' {s with heap:=h',gens:=g',drawn:=d',toks:=t'}:=by
 have C:∀b o,X.s_0.heap.get? b=some o->b≠X.env.locals:=λb o e=>dh (cc (bP e) I.ok.above)
 have y:∀b o,X.s_0.heap.get? b=some o->b∉X.ex->b∉ch:=λb o e hx a=>by
  rcases(g b a).1 with z | z
  .exact hx z
  .exact absurd (cc (bP e) z) (hr _)
 have D:∀x c,X.env.cells.lookup x=some c->∀v,s.heap.IsCell c v->h'.IsCell c v:=λx c e v ⟨o,f,hd⟩=>by
  have j:c∉ch:=λz=>(g c z).2.2.1 x c e O;by_cases hc:c∈X.fs
  .obtain⟨A,q⟩:=slot c o (I.gS x c e) hc j f (I.ek x c e);exact⟨_,q,hd⟩
  .exact⟨o,keep c o (I.gS x c e) hc j f (I.ek x c e),hd⟩
 refine⟨I.ok,I.os,J,⟨λb o e n a hx=>?_,λb o e n a hx=>?_,λb o e n hx=>?_,λb o e hx=>?_,λb xs e=>tups b xs (I.base.tups b xs e),λb o xs e=>frzs b o xs (I.base.frzs b o xs e),λb ps e=>?_⟩,?_,λx c e=>?_,?_,λx c e=>?_,λp E=>?_,aG,I.len⟩
 .exact keep b o (C b o e) a (y b o e hx) (I.base.keep b o e n a hx) (I.base.free b o e n hx)
 .obtain⟨A,e1⟩:=I.base.slot b o e n a hx;obtain⟨M,t⟩:=slot b _ (C b o e) a (y b o e hx) e1 (I.base.free b o e n hx);exact⟨M,t⟩
 .obtain⟨h,e1⟩:=I.base.there b o e hx;exact free b h (y b o e hx) e1 (I.base.free b o e n hx)
 .obtain⟨h,e1⟩:=I.base.there b o e hx;exact there b h (y b o e hx) e1
 .obtain⟨m1,e1⟩:=I.base.tbls b ps e;obtain⟨m2,t⟩:=tbls b _ e1;exact⟨m1++m2,by rw[t,Array.append_assoc]⟩
 .obtain⟨m,N,Q⟩:=I.loc;refine⟨m,ns m N,λi x v e1 t e3=>?_⟩;obtain⟨u,r,l⟩:=Q i x v e1 t e3;refine⟨u,r,?_⟩;rcases l with l | ⟨k,c,e,z⟩
  .exact .inl l
  .exact .inr ⟨k,c,e,D x c e _ z⟩
 .obtain⟨v,z⟩:=I.cell x c e;exact⟨v,D x c e v z⟩
 .obtain⟨m,⟨o,_,_,f,_⟩,_⟩:=I.loc;exact free _ o (λz=>(g _ z).2.1 O) f I.free
 .obtain⟨v,o,f,hd⟩:=I.cell x c e;exact free c o (λz=>(g c z).2.2.1 x c e O) f (I.ek x c e)
 .obtain⟨e,n,ne,G,d⟩:=I.pin p E;have j:p.1∉ch:=λz=>(g p.1 z).2.2.2 p E O;exact⟨keep p.1 p.2 ne G j e n,free p.1 p.2 j e n,ne,G,d⟩
theorem Inv.un (I:Inv X pinsz_ σ H s)(u:Un X.fs [] H H' s.heap h')(aG:cA X.prog X.w H' h'):Inv X pinsz_ σ H' {s with heap:=h',toks:=t'}:=by
 obtain⟨m,⟨o,es,j,c,r⟩,_⟩:=id I.loc;obtain⟨k,f⟩:=u.any c I.free (by simp)
 exact I.step (g':=s.gens) (d':=s.drawn) (ch:=[]) (λ_ z=>nomatch z) (λb o _ a _ e n=>u.keep b o e n a (by simp)) (λb o _ a _ e n=>u.slot b o e n a (by simp)) (λb o _ e n=>u.free b o e n (by simp)) (λb o _ e=>u.there b o e (by simp)) u.tups u.frzs u.tbls (λl hm=>by
  obtain⟨p,g,h,d,i⟩:=hm;rw[c] at d;cases d
  exact⟨_,g,h,f,i⟩) aG I.bare
theorem Inv.call (I:Inv X pinsz_ σ H s)(u:Un (dn X.stack) ch H H' s.heap h')(aG:cA X.prog X.w H' h')(h:AllBare g')(d:∀b∈ch,(b∈X.ex∨X.s_0.heap.objs.size<=b)/\b≠X.env.locals/\(∀x c,X.env.cells.lookup x=some c->c≠b)/\∀p∈X.pn++pinsz_,p.1≠b):
 Inv X pinsz_ σ H' {s with heap:=h',gens:=g',drawn:=d',toks:=t'}:=by
 obtain⟨m,⟨o,es,t,f,r⟩,_⟩:=id I.loc;obtain⟨v,a⟩:=u.any f I.free λz=>(d _ z).2.1 O
 exact I.step (ch:=ch) d (λb o a i hc e n=>u.keep b o e n (λz=>(List.mem_cons.mp (I.rg b z)).elim a i) hc) (λb o _ _ hc e n=>u.any e n hc) (λb o hc e n=>u.free b o e n hc) (λb o hc e=>u.there b o e hc) u.tups u.frzs u.tbls (λy hm=>by
  obtain⟨A,j,k,g,l⟩:=hm;rw[f] at g;cases g
  exact⟨_,j,k,a,l⟩) aG h
theorem Inv.turned (I:Inv X pinsz_ σ H s)(k:∀b o,b≠it->s.heap.get? b=some o->h'.get? b=some o)(f:H it=none)(a:it≠X.env.locals)(h1:it∈X.ex∨X.s_0.heap.objs.size<=it)(h2:∀x c,X.env.cells.lookup x=some c->c≠it)(g:∀p∈X.pn++pinsz_,p.1≠it):Inv X pinsz_ σ H {s with heap:=h',toks:=t'}:=by
 have d:∀b u,H b=some u->b≠it:=λb u e z=>by rw[z,f] at e;cases e
 refine I.step (g':=s.gens) (d':=s.drawn) (ch:=[it]) (λb h=>?_) (λb o _ _ hc e _=>k b o (λz=>hc (by simp[z])) e) (λb o _ _ hc e _=>⟨o.slots,k b o (λz=>hc (by simp[z])) e⟩) (λ_ _ _ _ n=>n)
  (λb o hc e=>⟨o,k b o (λz=>hc (by simp[z])) e⟩) (λ_ _ e=>e) (λ_ _ _ e=>e) (λb ps e=>⟨#[],by rw[e];simp⟩) (λm hm=>?_) (λb u e=>?_) I.bare
 .have e:b=it:=by simpa using h
  subst e;exact⟨h1,a,h2,g⟩
 .obtain⟨o,es,i,j,r⟩:=hm;exact⟨o,es,i,k _ o (eP a) j,r⟩
 .refine(I.aG b u e).jO (λc v hc q=>k c v ?_ q) (λ_ q=>q) λ_ _ q=>q;rcases hc with z | z
  .rw[z];exact d b u e
  .exact d c _ z
theorem Inv.tok (I:Inv X pinsz_ σ H s)(t:Nat):Inv X pinsz_ σ H {s with toks:=t}:=I.un (h':=s.heap) (t':=t) Un.refl I.aG
theorem Inv.kept {t':Nat}(I:Inv X pinsz_ σ H s)(k:∀b u,s.heap.get? b=some u->h'.get? b=some u):Inv X pinsz_ σ H {s with heap:=h',toks:=t'}:=I.un (Un.kept k) (I.aG.kept k)
theorem Inv.laid {a:Addr}{o:HO}{t':Nat}(I:Inv X pinsz_ σ H s)(k:∀b u,s.heap.get? b=some u->h'.get? b=some u)(c:s.heap.objs.size<=a)(new:ee X.prog X.w (ah H a o) h' a o):
 Inv X pinsz_ σ (ah H a o) {s with heap:=h',toks:=t'}:=I.un (Un.laid k c (I.aG.fresh c)) (I.aG.laid k c new)
theorem Inv.write {x e:Addr}{o:HO}{t':Nat}(I:Inv X pinsz_ σ H s)(a:p_ (H x))(he:e=x∨H e=some (.own x))(k:∀b u,b≠e->s.heap.get? b=some u->h'.get? b=some u)(c:∃u,h'.get? e=some u)(new:ee X.prog X.w (ah H x o) h' x o):Inv X pinsz_ σ (ah H x o) {s with heap:=h',toks:=t'}:=I.un (Un.write a he k c) (I.aG.write a he k c new)
theorem Inv.weak {a:List (Option V)}(I:Inv X pinsz_ σ H s)(b:a.length=σ.length)(w:∀(i:Nat) v,a[i]?=some (some v)->σ[i]?=some (some v)):Inv X pinsz_ a H s:=
 ⟨I.ok,I.os,I.bare,I.base,let ⟨m,c,d⟩:=I.loc;⟨m,c,λi x v e1 e e3=>d i x v e1 (w i v e) e3⟩,I.cell,I.free,I.ek,I.pin,I.aG,b.trans I.len⟩
theorem Inv.CK (I:Inv X pinsz_ σ H s)(h:∀p∈gJ,s.heap.get? p.1=some p.2/\H p.1=none/\p.1≠X.env.locals/\p.1∉X.fs/\∀v,p.2.data≠ .cell v):Inv X gJ σ H s:=
 ⟨I.ok,I.os,I.bare,I.base,I.loc,I.cell,I.free,I.ek,λp a=>(List.mem_append.mp a).elim (λz=>I.pin p (ft _ z)) (h p),I.aG,I.len⟩
theorem qf (c:N.Nodup)(a:N[i]?=some x)(b:N[j]?=some x):i=j:=by
 obtain⟨h1,e1⟩:=List.getElem?_eq_some_iff.mp a;obtain⟨h2,d⟩:=List.getElem?_eq_some_iff.mp b;exact(List.getElem_inj c).mp (e1.trans d.symm)
theorem oU {v:V}{Q:Unit->Shared->Prop}(I:Inv X pinsz_ σ H s)(f':X.N.Nodup)(hi:X.N[i]?=some x)(hx:Loc X.env.scope x)(r:RelV v u)(h:∀s',Inv X pinsz_ (σ.set i (some v)) H s'->(∃a,Heap.SameBut a s.heap s'.heap/\(a=X.env.locals∨X.env.cells.lookup x=some a))->Q () s')(r':X.fn x=true∨X.env.scope.names.lookup x=some .local:=by first | exact .inl O | exact .inr O | assumption):wpAny M A (storeName X.env x u) Q E s:=by
 obtain⟨m,C,i'⟩:=id I.loc;have u':(X.env.scope.kind== .class||(X.env.scope.kind== .module&&X.env.locals != X.env.globals))=false:=by rw[I.ok.kind];rfl
 have j':i<σ.length:=by rw[I.len];exact(List.getElem?_eq_some_iff.mp hi).1
 have gS:=I.gS
 have k':∀{a:Addr} {h':Heap},(∃o,s.heap.get? a=some o/\H a=none)->Heap.SameBut a s.heap h'->cA X.prog X.w H h':=λ{a h'} ha hs b v' e=>by
  obtain⟨_,_,l'⟩:=ha;refine(I.aG b v' e).jO (λc t hc q=>(hs.2 c ?_).trans q) (λ_ q=>q) λ_ _ q=>q;rintro rfl;rcases hc with rfl | hc
  .rw[l'] at e;cases e
  .rw[l'] at hc;cases hc
 rcases hx with hk | hk
 .refine wpAny_storeName_local hk C (λh' w' hs=>?_) u';obtain⟨y',_,_,z',_⟩:=id C;refine h _ ⟨I.ok,I.os,I.bare,⟨λb o e n g hx=>?_,λb o e n g hx=>?_,I.base.free,λb o e hx=>?_,I.base.tups,I.base.frzs,I.base.tbls⟩,⟨_,w',λj y D e1 f e3=>?_⟩,λy c e=>?_,I.free,I.ek,λp G=>?_,k' ⟨y',z',I.free⟩ hs,by simpa using I.len⟩ ⟨_,hs,.inl O⟩
  .exact(hs.2 b (dh (cc (bP e) I.ok.above))).trans (I.base.keep b o e n g hx)
  .obtain⟨J,e1⟩:=I.base.slot b o e n g hx;exact⟨J,(hs.2 b (dh (cc (bP e) I.ok.above))).trans e1⟩
  .obtain⟨T,e1⟩:=I.base.there b o e hx;exact⟨T,(hs.2 b (dh (cc (bP e) I.ok.above))).trans e1⟩
  .by_cases l:j=i
   .subst l;rw[hi] at e1;cases e1;rw[nR j'] at f;cases f;exact⟨u,r,.inl ⟨hk,by simp⟩⟩
   .rw[qi (eP l)] at f;obtain⟨U,Y,q⟩:=i' j y D e1 f e3;refine⟨U,Y,?_⟩;rcases q with⟨k,e⟩ | ⟨k,c,e,z⟩
    .refine .inl ⟨k,?_⟩;have:y≠x:=λe=>l (qf f' e1 (e▸hi));simp[this,e]
    .exact .inr ⟨k,c,e,z.sameBut hs (gS y c e)⟩
  .obtain⟨t,z⟩:=I.cell y c e;exact⟨t,z.sameBut hs (gS y c e)⟩
  .obtain⟨e,n,ne,b',d⟩:=I.pin p G;exact⟨(hs.2 p.1 ne).trans e,n,ne,b',d⟩
 .have e':X.fn x=true:=by
   rcases r' with z | z
   .exact z
   .rw[z] at hk;cases hk
  obtain⟨c,hc⟩:=I.ok.has x (.inl hk);obtain⟨t,z⟩:=I.cell x c hc;refine wpAny_storeName_cell I.ok.kind hk hc z (λh' m' hs=>?_);obtain⟨oc,p',A'⟩:=id z;refine h {s with heap:=h'} ⟨I.ok,I.os,I.bare,⟨λb o e n g hx=>?_,λb o e n g hx=>?_,I.base.free,λb o e hx=>?_,I.base.tups,I.base.frzs,I.base.tbls⟩,⟨m,C.sameBut hs (eP (gS x c hc)),λj y D e1 f e3=>?_⟩,λy c' e=>?_,I.free,I.ek,λp G=>?_,k' ⟨oc,p',I.ek x c hc⟩ hs,by simpa using I.len⟩ ⟨c,hs,.inr hc⟩
  .exact(hs.2 b (dh (cc (bP e) (I.ok.j1 x c e' hc)))).trans (I.base.keep b o e n g hx)
  .obtain⟨J,e1⟩:=I.base.slot b o e n g hx;exact⟨J,(hs.2 b (dh (cc (bP e) (I.ok.j1 x c e' hc)))).trans e1⟩
  .obtain⟨T,e1⟩:=I.base.there b o e hx;exact⟨T,(hs.2 b (dh (cc (bP e) (I.ok.j1 x c e' hc)))).trans e1⟩
  .by_cases l:j=i
   .subst l;rw[hi] at e1;cases e1;rw[nR j'] at f;cases f;exact⟨u,r,.inr ⟨.inl hk,c,hc,m'⟩⟩
   .rw[qi (eP l)] at f;obtain⟨U,Y,q⟩:=i' j y D e1 f e3;refine⟨U,Y,?_⟩;rcases q with q | ⟨k,c',e,B'⟩
    .exact .inl q
    .refine .inr ⟨k,c',e,B'.sameBut hs ?_⟩;rintro rfl;exact l (qf f' e1 (I.ok.inj _ _ _ e hc▸hi))
  .by_cases q':c'=c
   .subst q';exact⟨_,m'⟩
   .obtain⟨C',D'⟩:=I.cell y c' e;exact⟨C',D'.sameBut hs q'⟩
  .obtain⟨e,n,ne,b',d⟩:=I.pin p G;refine⟨(hs.2 p.1 ?_).trans e,n,ne,b',d⟩;intro q;rw[q,p'] at e;have E':oc=p.2:=cx e;exact d t (by rw[<-E'];exact A')
theorem vv {v:V}{Q:Unit->Shared->Prop}(I:Inv X pinsz_ σ H s)(a:X.N.Nodup)(hi:X.N[i]?=some x)(hx:Loc X.env.scope x)(r:RelV v u)(h:∀s',Inv X pinsz_ (σ.set i (some v)) H s'->Q () s')(b:X.fn x=true∨X.env.scope.names.lookup x=some .local:=by first | exact .inl O | exact .inr O | assumption):wpAny M A (storeName X.env x u) Q E s:=
 oU I a hi hx r (λs' c _=>h s' c) b
theorem Inv.CH (I:Inv X pinsz_ σ H s)(a:s'.os=s.os)(u:Un (dn X.stack) ch H H' s.heap s'.heap)(aG:cA X.prog X.w H' s'.heap)(d:AllBare s'.gens)(f:∀b∈ch,(b∈X.ex∨X.s_0.heap.objs.size<=b)/\b≠X.env.locals/\(∀x c,X.env.cells.lookup x=some c->c≠b)/\∀p∈X.pn++pinsz_,p.1≠b):Inv X pinsz_ σ H' s':=by
 obtain⟨h',g',d',t',g⟩:=s';have e:g=s.os:=a;subst e;exact I.call (g':=g') (t':=t') (d':=d') u aG d f
abbrev XK:=Int->Int->Hp->Prop
abbrev St:=List (Option V)
abbrev VK:=V->Hp->Prop
abbrev TE:=St->Hp->VK->Prop
abbrev TT:=St->Hp->(Bool->Hp->Prop)->Prop
abbrev TA:=St->Hp->(List V->Hp->Prop)->Prop
structure Ends where
 nx:St->Hp->Prop
 rt:VK
 bk:St->Hp->Prop:=λ_ _=>False
 ct:St->Hp->Prop:=λ_ _=>False
abbrev TS:=Ends->St->Hp->Prop
inductive EP (X:Cx)(pins:List (Addr×Obj))(σ:St)(Q:VK)(u:Value)(s':Shared):Prop
 | mk v H' (_:Inv X pins σ H' s') (_:RelV v u) (_:Q v H')
inductive TP (X:Cx)(pins:List (Addr×Obj))(σ:St)(Q:Bool->Hp->Prop)(b:Bool)(s':Shared):Prop
 | mk H' (_:Inv X pins σ H' s') (_:Q b H')
inductive AP (X:Cx)(pins:List (Addr×Obj))(σ:St)(Q:List V->Hp->Prop)(us:List Value)(s':Shared):Prop
 | mk vs H' (_:Inv X pins σ H' s') (_:bt vs us) (_:Q vs H')
noncomputable def SP (X:Cx)(pinsz_:List (Addr×Obj))(D:Ends)(f:Flow)(s':Shared):Prop:=
 match f with
 | .next=>∃a H',Inv X pinsz_ a H' s'/\D.nx a H'
 | .brk=>∃a H',Inv X pinsz_ a H' s'/\D.bk a H'
 | .cont=>∃a H',Inv X pinsz_ a H' s'/\D.ct a H'
 | .ret u=>∃v a H',Inv X pinsz_ a H' s'/\RelV v u/\D.rt v H'
noncomputable def PE (X:Cx)(e:Expr)(t:TE):Prop:=
 ∀(pinsz_:List (Addr×Obj)) (s:Shared) (σ:St) (H:Hp) (Q:VK),Inv X pinsz_ σ H s->t σ H Q->wpAny (model X.prog X.w) X.A (eval e X.env) (EP X pinsz_ σ Q) X.xe s
noncomputable def PT (X:Cx)(e:Expr)(t:TT):Prop:=
 ∀(pinsz_:List (Addr×Obj)) (s:Shared) (σ:St) (H:Hp) (Q:Bool->Hp->Prop),Inv X pinsz_ σ H s->t σ H Q->wpAny (model X.prog X.w) X.A (isTrue e X.env (eval e X.env)) (TP X pinsz_ σ Q) X.xe s
noncomputable def PW (X:Cx)(e:Expr)(t:TT):Prop:=
 ∀(whole:Sem Value) (pinsz_:List (Addr×Obj)) (s:Shared) (σ:St) (H:Hp) (Q:Bool->Hp->Prop),Inv X pinsz_ σ H s->t σ H Q->wpAny (model X.prog X.w) X.A (isTrue e X.env whole) (TP X pinsz_ σ Q) X.xe s
theorem PW.pt {t:TT}(h:PW X e t):PT X e t:=h _
noncomputable def PA (X:Cx)(es:List Expr)(t:TA):Prop:=
 ∀(aH:Pos) (pinsz_:List (Addr×Obj)) (s:Shared) (σ:St) (H:Hp) (Q:List V->Hp->Prop),Inv X pinsz_ σ H s->t σ H Q->wpAny (model X.prog X.w) X.A (spliced (backTo aH (starEach es X.env))) (AP X pinsz_ σ Q) X.xe s
noncomputable def PS (X:Cx)(st:Stmt)(t:TS):Prop:=
 ∀(pinsz_:List (Addr×Obj)) (s:Shared) (σ:St) (H:Hp) (D:Ends),Inv X pinsz_ σ H s->t D σ H->wpAny (model X.prog X.w) X.A (exec st X.env) (SP X pinsz_ D) X.xe s
noncomputable def cT (X:Cx)(st:List Stmt)(t:TS):Prop:=
 ∀(pinsz_:List (Addr×Obj)) (s:Shared) (σ:St) (H:Hp) (D:Ends),Inv X pinsz_ σ H s->t D σ H->wpAny (model X.prog X.w) X.A (execs st X.env) (SP X pinsz_ D) X.xe s
theorem bg {t:Sem α}{Q:α->Shared->Prop}(h:wpAny M A t Q E s)(b:∀a s,Q a s->Q' a s):wpAny M A t Q' E s:=df h b λ_ _ x=>x
theorem bin {a:Expr}{tb:TE}(ha:PE X a ta)(d:PE X b tb){σ:St}{R:V->V->Hp->Prop}(I:Inv X pinsz_ σ H s)(h:ta σ H λx H1=>tb σ H1 λy H2=>R x y H2){Q:α->Shared->Prop}{f:Value->Value->Sem α}(e:∀v u c x y H2,Inv X pinsz_ σ H2 c->RelV x v->RelV y u->R x y H2->wpAny (model X.prog X.w) X.A (f v u) Q X.xe c):
 wpAny (model X.prog X.w) X.A (eval a X.env) (λv g=>wpAny (model X.prog X.w) X.A (eval b X.env) (λu i=>wpAny (model X.prog X.w) X.A (f v u) Q X.xe i) X.xe g) X.xe s:=bg (ha pinsz_ s σ H _ I h) λv j ⟨x,H1,k,l,m⟩=>bg (d pinsz_ j σ H1 _ k m) λu c ⟨y,H2,n,o,p⟩=>e v u c x y H2 n l o p
inductive c_ (i:Nat)(σ:St)(H:Hp)(Q:VK):Prop
 | mk v (_:σ[i]?=some (some v)) (_:Q v H)
noncomputable def tC (v:V):TE:=λ_ H Q=>Q v H
theorem Mn (b:X.N[i]?=some x)(d:l5 X.env.scope x)(hd:(x==("__debug__":Str))=false:=by decide)(f:(x==("__classdict__":Str))=false:=by decide):PE X (.Name x aH) (c_ i):=by
 intro pinsz_ s σ H Q I h;obtain⟨v,e,h⟩:=h;obtain⟨m,g,j⟩:=I.loc;obtain⟨u,r,l⟩:=j i x v b e d;have fin:EP X pinsz_ σ Q u s:=⟨v,H,I,r,h⟩;rcases l with⟨hk,hm⟩ | ⟨hk,c,hc,a⟩
 .exact kO (lW I.ok.kind hk g hm fin) hd
 .rcases hk with hk | hk
  .exact kO (yg I.ok.kind hk hc a fin) hd
  .exact kO (wpAny_loadName_free I.ok.kind hk hc a fin f) hd
theorem aL {i j aH}:PE X (.Constant (.int i) j aH) (tC (.int i)):=λ_ _ _ H _ I h=>wpAny_Constant_int ⟨.int i,H,I.tok _,⟨_,O⟩,h⟩
theorem dN {b j aH}:PE X (.Constant (.bool b) j aH) (tC (.bl b)):=λ_ _ _ H _ I h=>Constant_bool ⟨.bl b,H,I,O,h⟩
theorem gG {j aH}:PE X (.Constant .none j aH) (tC .aE):=λ_ _ _ H _ I h=>u4 ⟨.aE,H,I,O,h⟩
noncomputable def Gl (X:Cx)(x:Str):Prop:=X.env.kindOf x=some .globalImplicit
theorem eV {σ:St}(I:Inv X pinsz_ σ H s)(a:Gl X x)(hm:X.mg x=some u)(h:Q u s)(hd:(x==("__debug__":Str))=false:=by decide):wpAny (model X.prog X.w) X.A (eval (.Name x aH) X.env) Q E s:=
 w9 I.ok.kind a (Calls.loadGlobal_global (by rw[I.ok.glob];exact I.mod.glob.keeps I.bk) hm h) hd
theorem qH {σ:St}(I:Inv X pinsz_ σ H s)(a:Gl X x)(hm:X.mg x=none)(b:bootBuiltins x=some u)(h:Q u s)(c:x≠"__name__":=by decide)(hd:(x==("__debug__":Str))=false:=by decide):wpAny (model X.prog X.w) X.A (eval (.Name x aH) X.env) Q E s:=by
 obtain⟨d,h1,h2⟩:=I.mod.blt;exact w9 I.ok.kind a (Calls.loadGlobal_builtin (by rw[I.ok.glob];exact I.mod.glob.keeps I.bk) hm (by rw[I.ok.blt];exact h1.keeps I.bk) ((h2 x c).trans b) h) hd
theorem lr {v:V}(a:Gl X x)(hm:X.mg x=some u)(r:RelV v u)(hd:(x==("__debug__":Str))=false:=by decide):PE X (.Name x aH) (tC v):=
 λ_ _ _ H _ I h=>eV I a hm ⟨v,H,I,r,h⟩ hd
noncomputable def PC (X:Cx)(op:CmpOp)(a b:Expr)(t:TE):Prop:=
 ∀(pinsz_:List (Addr×Obj)) (s:Shared) (σ:St) (H:Hp) (Q:VK),Inv X pinsz_ σ H s->t σ H Q->
  wpAny (model X.prog X.w) X.A (eval a X.env) (λv c=>wpAny (model X.prog X.w) X.A (eval b X.env) (λu d=>wpAny (model X.prog X.w) X.A (compareOp op v u) (EP X pinsz_ σ Q) X.xe d) X.xe c) X.xe s
theorem ID (b:Expr)(h:op≠ .In)(h2:op≠ .NotIn):behindInMarks op b=false:=by
 have e1:(op==CmpOp.In)=false:=by cases op<;>first | rfl | exact absurd O h
 have a:(op==CmpOp.NotIn)=false:=by cases op<;>first | rfl | exact absurd O h2
 cases b<;>simp[behindInMarks,e1,a]
noncomputable def Dr (ta:TE):TE:=λσ H Q=>ta σ H λx H1=>Q (.bl (decide (x= .aE))) H1
noncomputable def z9 (ta:TE):TE:=λσ H Q=>ta σ H λx H1=>Q (.bl (!decide (x= .aE))) H1
theorem RelV.Cf {x:V}(r:RelV x v):(v==Value.none)=decide (x= .aE):=by
 cases x with
 | aE=>cases r;rfl
 | bl _=>cases r;rfl
 | int _=>obtain⟨t,rfl⟩:=r;rfl
 | str _=>obtain⟨t,rfl⟩:=r;rfl
 | eA _=>obtain⟨t,rfl⟩:=r;rfl
 | oV _=>obtain⟨t,rfl⟩:=r;rfl
 | ref _=>cases r;rfl
 | ty _=>cases r;rfl
theorem oa {a:Expr}{j fy}(ha:PE X a ta):PC X .Is a (.Constant .none j fy) (Dr ta):=by
 intro pinsz_ s σ H Q I h;exact bg (ha pinsz_ s σ H _ I h) λv e ⟨x,H1,b,c,d⟩=>u4 (is_none_gen ⟨.bl _,H1,b,by rw[c.Cf];rfl,d⟩)
theorem B1 {a:Expr}{j fy}(ha:PE X a ta):PC X .IsNot a (.Constant .none j fy) (z9 ta):=by
 intro pinsz_ s σ H Q I h;exact bg (ha pinsz_ s σ H _ I h) λv e ⟨x,H1,b,c,d⟩=>u4 (isnot_none_gen ⟨.bl _,H1,b,by rw[c.Cf];rfl,d⟩)
inductive Ik (Q:Bool->Hp->Prop)(x:V)(H1:Hp):Prop
 | mk c (_:x= .bl c) (_:Q c H1)
noncomputable def tB (t:TE):TT:=λσ H Q=>t σ H λx H1=>Ik Q x H1
theorem kn {a:Expr}{t:TE}(h:PC X op a b t)(h1:behindInMarks op b=false:=by first | exact ID _ aJ aJ | rfl):PT X (.Compare a [op] [b] aH) (tB t):=by
 intro pinsz_ s σ H Q I e;refine xw (bg (h pinsz_ s σ H _ I e) λv j h1=>bg h1 λu k h2=>bg h2 λc l ⟨x,H1,f,g,i⟩=>?_) h1;obtain⟨d,rfl,q⟩:=i;cases g;exact oF ⟨H1,f,q⟩
theorem d2 {t:TE}(h:PE X e t)(he:∀whole,isTrue e X.env whole=(do let v<-whole;standAt e.pos;holding [v] (truthy v)):=by intro _;rfl):PT X e (tB t):=by
 intro pinsz_ s σ H Q I a;refine isTrue_plain (bg (h pinsz_ s σ H _ I a) λv g ⟨x,H1,b,c,f⟩=>?_) (he _);obtain⟨d,rfl,q⟩:=f;cases c;exact oF ⟨H1,b,q⟩
noncomputable def Fz (t u:TT):TT:=λσ H Q=>t σ H λc H1=>if c=true then u σ H1 Q else Q false H1
noncomputable def IH (t u:TT):TT:=λσ H Q=>t σ H λc H1=>if c=true then Q true H1 else u σ H1 Q
noncomputable def DH (t:TT):TT:=λσ H Q=>t σ H λc H1=>Q (!c) H1
theorem h5 {a:Expr}(ha:PT X a tA):PW X (.BoolOp .And [a] aH) tA:=by
 intro b pinsz_ s σ H Q I h;refine isTrue_and (bg (ha pinsz_ s σ H Q I h) λc d e=>?_)
 cases c with
 | true=>exact isTrue_and_nil e
 | false=>exact e
theorem gu {a:Expr}(ha:PT X a tA):PW X (.BoolOp .Or [a] aH) tA:=by
 intro b pinsz_ s σ H Q I h;refine isTrue_or (bg (ha pinsz_ s σ H Q I h) λc d e=>?_)
 cases c with
 | false=>exact isTrue_or_nil e
 | true=>exact e
theorem iY {a:Expr}(ha:PT X a tA)(f:PW X (.BoolOp .And (b::rest) aH) qp):PW X (.BoolOp .And (a::b::rest) aH) (Fz tA qp):=by
 intro g pinsz_ s σ H Q I h;refine isTrue_and (bg (ha pinsz_ s σ H _ I h) λc i ⟨H1,d,e⟩=>?_)
 cases c with
 | true=>exact f g pinsz_ i σ H1 Q d e
 | false=>exact⟨H1,d,e⟩
theorem gp {a:Expr}(ha:PT X a tA)(f:PW X (.BoolOp .Or (b::rest) aH) qp):PW X (.BoolOp .Or (a::b::rest) aH) (IH tA qp):=by
 intro g pinsz_ s σ H Q I h;refine isTrue_or (bg (ha pinsz_ s σ H _ I h) λc i ⟨H1,d,e⟩=>?_)
 cases c with
 | true=>exact⟨H1,d,e⟩
 | false=>exact f g pinsz_ i σ H1 Q d e
theorem m7 {a:Expr}(ha:PT X a tA):PT X (.UnaryOp .Not a aH) (DH tA):=by
 intro pinsz_ s σ H Q I h;exact isTrue_not (bg (ha pinsz_ s σ H (λc H1=>Q (!c) H1) I h) λ_ _ ⟨H1,b,d⟩=>⟨H1,b,d⟩)
inductive Gd (tb:TE)(σ:St)(Q:VK)(x:V)(H1:Hp):Prop
 | mk c (_:x= .bl c) (_:if c=true then tb σ H1 Q else Q (.bl false) H1)
noncomputable def JR (ta tb:TE):TE:=λσ H Q=>ta σ H λx H1=>Gd tb σ Q x H1
theorem Ir {a:Expr}{op}{t:TE}(h:PE X a t):PE X (.BoolOp op [a] aH) t:=λpinsz_ s σ H Q I b=>BoolOp_one (h pinsz_ s σ H Q I b)
theorem I8 {a:Expr}{tb:TE}(ha:PE X a ta)(f:PE X (.BoolOp .And (b::rest) aH) tb):PE X (.BoolOp .And (a::b::rest) aH) (JR ta tb):=by
 intro pinsz_ s σ H Q I h;refine BoolOp_and (bg (ha pinsz_ s σ H _ I h) λv g ⟨x,H1,e,i,d⟩=>?_);obtain⟨c,rfl,d⟩:=d;cases i;refine oF ?_
 cases c with
 | true=>exact f pinsz_ g σ H1 Q e d
 | false=>exact⟨.bl false,H1,e,O,d⟩
noncomputable def FV (t:TT)(ta tb:TE):TE:=λσ H Q=>t σ H λc H1=>if c=true then ta σ H1 Q else tb σ H1 Q
theorem E_ {a:Expr}{tb:TE}(hc:PT X c tA)(ha:PE X a ta)(i:PE X b tb):PE X (.IfExp c a b aH) (FV tA ta tb):=by
 intro pinsz_ s σ H Q I h;refine wpAny_IfExp (bg (hc pinsz_ s σ H _ I h) λd e ⟨H1,f,g⟩=>?_)
 cases d with
 | true=>exact ha pinsz_ e σ H1 Q f g
 | false=>exact i pinsz_ e σ H1 Q f g
noncomputable def ay (K:Frag)(H:Hp)(a:Addr)(xs:List V):Prop:=
 Rd H a (.lst xs)∨
  ∃(o:Obj) (aD:Array Value) (n:Nat),K.lookup a=some o/\o.cls= .type "list"/\o.dict=none/\o.data= .seq aD n/\aD.size<=sizeLine/\bt xs aD.toList
noncomputable def cI (K:Frag)(H:Hp)(a:Addr)(xs:List V):Prop:=
 Rd H a (.tup xs)∨
  ∃(o:Obj) (aD:Array Value) (n:Nat),K.lookup a=some o/\o.cls= .type "tuple"/\o.data= .seq aD n/\aD.size<=sizeLine/\bt xs aD.toList
noncomputable def EK:Value->Option V
 | .none=>some .aE
 | .bool b=>some (.bl b)
 | .int i _=>some (.int i)
 | .str x _=>some (.str x)
 | .bytes b _=>some (.eA b)
 | .float b _=>some (.oV b)
 | .ref a=>some (.ref a)
 | .type n=>some (.ty n)
 | _=>none
theorem RelV.abs {x:V}(r:RelV x u):EK u=some x:=by
 cases x with
 | aE=>cases r;rfl
 | bl _=>cases r;rfl
 | int _=>obtain⟨t,rfl⟩:=r;rfl
 | str _=>obtain⟨t,rfl⟩:=r;rfl
 | eA _=>obtain⟨t,rfl⟩:=r;rfl
 | oV _=>obtain⟨t,rfl⟩:=r;rfl
 | ref _=>cases r;rfl
 | ty _=>cases r;rfl
theorem RelV.inj {x y:V}{u:Value}(r:RelV x u)(q:RelV y u):x=y:=cx (r.abs.symm.trans q.abs)
theorem bt.inj:∀{xs ys:List V} {us:List Value},bt xs us->bt ys us->xs=ys
 | _,_,_,.nil,.nil=>rfl
 | _,_,_,.cons r t,.cons a t'=>by rw[r.inj a,bt.inj t t']
theorem ay.of {K:Frag}(h:H a=some (.lst xs)):ay K H a xs:= .inl (.inl h)
theorem cI.of {K:Frag}(h:H a=some (.tup xs)):cI K H a xs:= .inl (.inl h)
theorem Inv.list {σ:St}(I:Inv X pinsz_ σ H s)(h:ay X.K H a xs):∃aD:List Value,bt xs aD/\PlainL s.heap a aD.toArray/\xs.length<=sizeLine:=by
 rcases h with h | ⟨o,aD,n,hk,hc,hd,hs,b,r⟩
 .obtain⟨z,aD,n,r,e⟩:=h.ok I.aG;exact⟨aD,r,⟨_,n,e,O,O,O⟩,z⟩
 .refine⟨aD.toList,r,⟨o,n,I.ck a o hk,hc,hd,by simpa using hs⟩,?_⟩;have e:=r.length;simp only[Bi] at e;omega
theorem Inv.tuple {σ:St}(I:Inv X pinsz_ σ H s)(h:cI X.K H a xs):∃aD:List Value,bt xs aD/\IsTup s.heap a aD.toArray/\xs.length<=sizeLine:=by
 rcases h with h | ⟨o,aD,n,hk,hc,hs,b,r⟩
 .obtain⟨z,aD,r,p⟩:=h.ok I.aG;exact⟨aD,r,p,z⟩
 .refine⟨aD.toList,r,⟨o,I.ck a o hk,hc,n,by simpa using hs⟩,?_⟩;have e:=r.length;simp only[Bi] at e;omega
theorem Inv.yc {σ:St}(I:Inv X pinsz_ σ H s)(h:ay X.K H a xs)(h':ay X.K H a ys):xs=ys:=by
 obtain⟨aD,r,⟨o,n,e,_,_,d⟩,_⟩:=I.list h;obtain⟨its',c,⟨g,i,b,_,_,d'⟩,_⟩:=I.list h';rw[e] at b;cases b;rw[d] at d';injection d' with f _
 have:aD=its':=by simpa using da Array.toList f
 subst this;exact r.inj c
theorem Inv.Hl {σ:St}(I:Inv X pinsz_ σ H s)(h:cI X.K H a xs)(h':cI X.K H a ys):xs=ys:=by
 obtain⟨aD,r,⟨o,e,_,n,d⟩,_⟩:=I.tuple h;obtain⟨its',c,⟨g,b,_,i,d'⟩,_⟩:=I.tuple h';rw[e] at b;cases b;rw[d] at d';injection d' with f _
 have:aD=its':=by simpa using da Array.toList f
 subst this;exact r.inj c
abbrev Cx.dY (X:Cx)(E:Value->Shared->Prop):Cx:={X with xe:=E}
abbrev Cx.hP (X:Cx):Cx:=X.dY λ_ _=>False
theorem Cx.Ok.dY {X:Cx}(ok:X.Ok)(E:Value->Shared->Prop):(X.dY E).Ok:=
 ⟨ok.mod,ok.kind,ok.glob,ok.blt,ok.above,ok.inj,ok.has,ok.j1,ok.hd,ok.frames,ok.kH,ok.k8,ok.bs,ok.fP,ok.j_,ok.j7,ok.ea,ok.hR⟩
theorem Cx.Ok.gY (ok:(X.dY E).Ok):X.Ok:=
 ⟨ok.mod,ok.kind,ok.glob,ok.blt,ok.above,ok.inj,ok.has,ok.j1,ok.hd,ok.frames,ok.kH,ok.k8,ok.bs,ok.fP,ok.j_,ok.j7,ok.ea,ok.hR⟩
section
variable {σ:St}
theorem Inv.dY (I:Inv X pinsz_ σ H s) (E:Value->Shared->Prop):Inv (X.dY E) pinsz_ σ H s:=⟨I.ok.dY E,I.os,I.bare,I.base,I.loc,I.cell,I.free,I.ek,I.pin,I.aG,I.len⟩
end
section
variable {σ:St}
theorem Inv.gY (I:Inv (X.dY E) pinsz_ σ H s):Inv X pinsz_ σ H s:=⟨I.ok.gY,I.os,I.bare,I.base,I.loc,I.cell,I.free,I.ek,I.pin,I.aG,I.len⟩
end
theorem SP.gY {D:Ends}{f:Flow}{s':Shared}(h:SP (X.dY E) pinsz_ D f s'):SP X pinsz_ D f s':=by
 cases f with
 | next=>obtain⟨a,H',I,q⟩:=h;exact⟨a,H',I.gY,q⟩
 | brk=>obtain⟨a,H',I,q⟩:=h;exact⟨a,H',I.gY,q⟩
 | cont=>obtain⟨a,H',I,q⟩:=h;exact⟨a,H',I.gY,q⟩
 | ret u=>obtain⟨v,a,H',I,r,q⟩:=h;exact⟨v,a,H',I.gY,r,q⟩
theorem PE.hP {e:Expr}{t:TE}(h:PE X.hP e t):PE X e t:=λpinsz_ s σ H Q I a=>
 df (h pinsz_ s σ H Q (I.dY _) a) (λ_ _ ⟨v,H',b,r,q⟩=>⟨v,H',b.gY,r,q⟩) λ_ _ z=>False.elim z
theorem cT.hP {st:List Stmt}{t:TS}(h:cT X.hP st t):cT X st t:=λpinsz_ s σ H D I a=>
 df (h pinsz_ s σ H D (I.dY _) a) (λ_ _ q=>q.gY) λ_ _ z=>False.elim z
noncomputable def ve:TS:=λD σ H=>D.nx σ H
noncomputable def aC (t u:TS):TS:=λD σ H=>t {D with nx:=u D} σ H
theorem a7:cT X [] ve:=λ_ _ σ H _ I h=>iM ⟨σ,H,I,h⟩
theorem aj {rest:List Stmt}{t:TS}{u:TS}(h1:PS X st t)(h2:cT X rest u):cT X (st::rest) (aC t u):=by
 intro pinsz_ s σ H D I h;refine oZ (bg (h1 pinsz_ s σ H {D with nx:=u D} I h) λf a q=>?_)
 cases f with
 | next=>
  obtain⟨b,H',c,q⟩:=q
  exact h2 pinsz_ a b H' D c q
 | ret v=>exact q
 | brk=>exact q
 | cont=>exact q
theorem aq {t:TS}(h1:PS X st t):cT X [st] t:=by
 intro pinsz_ s σ H D I h;refine oZ (bg (h1 pinsz_ s σ H D I h) λf a q=>?_)
 cases f with
 | next=>exact iM q
 | ret v=>exact q
 | brk=>exact q
 | cont=>exact q
theorem Inv.quiet {σ:St}(I:Inv X pinsz_ σ H s):interactive X.env=false:=by simp[interactive,I.ok.kind]
noncomputable def Gc (te:TE):TS:=λD σ H=>te σ H λ_ H1=>D.nx σ H1
theorem bU (he:PE X e te)(hs:swapsWith e none aH.line X.env=pure false:=by rfl):PS X (.Expr e aH) (Gc te):=by
 intro pinsz_ s σ H D I h;exact wpAny_Expr_any (bg (he pinsz_ s σ H _ I h) λv c ⟨x,H1,a,d,b⟩=>⟨σ,H1,a,b⟩) I.quiet hs
noncomputable def kE (te:TE):TS:=λD σ H=>te σ H D.rt
theorem aI (he:PE X e te):PS X (.Return (some e) aH) (kE te):=by
 intro pinsz_ s σ H D I h;exact wpAny_Return_some (bg (he pinsz_ s σ H _ I h) λv d ⟨x,H1,a,b,c⟩=>⟨x,σ,H1,a,b,c⟩)
noncomputable def DY:TS:=λD _ H=>D.rt .aE H
theorem Dn:PS X (.Return none aH) DY:=λ_ _ σ H _ I h=>wpAny_Return_none ⟨.aE,σ,H,I,O,h⟩
noncomputable def uh (c:TT)(t u:TS):TS:=λD σ H=>c σ H λb H1=>if b=true then t D σ H1 else u D σ H1
theorem aZ {t:TS}{u:TS}{a b:List Stmt}(hc:PT X c tc)(ha:cT X a t)(i:cT X b u):PS X (.If c a b aH) (uh tc t u):=by
 intro pinsz_ s σ H D I h;refine wpAny_If (bg (hc pinsz_ s σ H _ I h) λd e ⟨H1,f,g⟩=>?_)
 cases d with
 | true=>exact ha pinsz_ e σ H1 D f g
 | false=>exact i pinsz_ e σ H1 D f g
abbrev TG:=V->St->Hp->(St->Hp->Prop)->Prop
abbrev mP:=List V->St->Hp->(St->Hp->Prop)->Prop
noncomputable def PG (X:Cx)(b:Expr)(t:TG):Prop:=
 ∀(pinsz_:List (Addr×Obj)) (s:Shared) (σ:St) (H:Hp) (v:V) (u:Value) (Q:St->Hp->Prop),Inv X pinsz_ σ H s->RelV v u->t v σ H Q->
  wpAny (model X.prog X.w) X.A (assign b X.env u) (λ_ s'=>∃a H',Inv X pinsz_ a H' s'/\Q a H') X.xe s
noncomputable def qu (X:Cx)(b:List Expr)(t:mP):Prop:=
 ∀(pinsz_:List (Addr×Obj)) (s:Shared) (σ:St) (H:Hp) (vs:List V) (us:List Value) (Q:St->Hp->Prop),Inv X pinsz_ σ H s->bt vs us->t vs σ H Q->
  wpAny (model X.prog X.w) X.A (assignInOrder ((assignEach b X.env).map (·.2)) us) (λ_ s'=>∃a H',Inv X pinsz_ a H' s'/\Q a H') X.xe s
abbrev sT:=V->V->V->Hp->(Hp->Prop)->Prop
noncomputable def yT (X:Cx)(t:sT):Prop:=
 ∀(pinsz_:List (Addr×Obj)) (s:Shared) (σ:St) (H:Hp) (o i v:V) (a b u:Value) (Q:Hp->Prop),Inv X pinsz_ σ H s->RelV o a->RelV i b->RelV v u->t o i v H Q->
  wpAny (model X.prog X.w) X.A (setItem a b u) (λ_ s'=>∃H',Inv X pinsz_ σ H' s'/\Q H') X.xe s
abbrev u2:=V->V->Hp->VK->Prop
noncomputable def ye (X:Cx)(op:Operator)(t:u2):Prop:=
 ∀(pinsz_:List (Addr×Obj)) (s:Shared) (σ:St) (H:Hp) (x y:V) (v u:Value) (Q:VK),Inv X pinsz_ σ H s->RelV x v->RelV y u->t x y H Q->
  wpAny (model X.prog X.w) X.A (inplaceOp op v u) (EP X pinsz_ σ Q) X.xe s
noncomputable def gQ (i:Nat):TG:=λv σ H Q=>Q (σ.set i (some v)) H
theorem FC (a:X.N.Nodup)(hi:X.N[i]?=some x)(hx:Loc X.env.scope x)(b:X.fn x=true∨X.env.scope.names.lookup x=some .local:=by first | exact .inl O | exact .inr O | assumption):PG X (.Name x aH) (gQ i):=by
 intro pinsz_ s σ H v u Q I r h;exact tH (vv I a hi hx r (λs' c=>⟨_,H,c,h⟩) b)
noncomputable def Ga:mP:=λvs σ H Q=>vs=[]/\Q σ H
inductive JK (t:TG)(u:mP)(vs:List V)(σ:St)(H:Hp)(Q:St->Hp->Prop):Prop
 | mk v r (_:vs=v::r) (_:t v σ H λσ' H'=>u r σ' H' Q)
theorem DM:qu X [] Ga:=by
 intro pinsz_ s σ H vs us Q I r h;obtain⟨e,h⟩:=h;subst e;cases r;exact assignInOrder_nil ⟨σ,H,I,h⟩
theorem yN {t:TG}{u:mP}(h1:PG X e t)(h2:qu X es u)(hs:(assignEach (e::es) X.env).map (·.2)=assign e X.env::(assignEach es X.env).map (·.2):=by rfl):qu X (e::es) (JK t u):=by
 intro pinsz_ s σ H vs us Q I r h;obtain⟨v,g,e1,h⟩:=h;subst e1
 cases r with
 | cons r a=>
  rw[hs];exact assignInOrder_cons (bg (h1 pinsz_ s σ H _ _ _ I r h) λ_ b ⟨c,H1,d,f⟩=>h2 pinsz_ b c H1 _ _ Q d a f)
inductive EZ (K:Frag)(n:Nat)(t:mP)(v:V)(σ:St)(H:Hp)(Q:St->Hp->Prop):Prop
 | mk a xs (_:v= .ref a) (_:cI K H a xs) (_:xs.length=n) (_:t xs σ H Q)
theorem Ip {t:mP}(hc:X.calm=true)(h:qu X es t)(f:(assignEach es X.env).length=n:=by rfl)(g:(assignEach es X.env).findIdx? (·.1)=none:=by rfl):PG X (.Tuple es k aH) (EZ X.K n t):=by
 intro pinsz_ s σ H v u Q I r c;obtain⟨a,xs,e1,i,j,c⟩:=c;subst e1;cases r;obtain⟨aD,d,l,p⟩:=I.tuple i;refine assign_Tuple_tuple (I.ok.hd hc) l (by simp[f,<-j,d.length]) g λh' hx=>?_;have m:Inv X pinsz_ σ H {s with heap:=h'}:=I.kept (t':=s.toks) λb o e=>hx b o (dh (bP e)) e;exact h pinsz_ _ σ H xs _ Q m (by simpa using d) c
noncomputable def DG (to a:TE)(t:sT):TG:=λv σ H Q=>to σ H λo H1=>a σ H1 λi H2=>t o i v H2 λb=>Q σ b
theorem xA {o i:Expr}{c:TE}{t:sT}(d:PE X o to)(hi:PE X i c)(hs:yT X t)(ha:∀v,assign (.Subscript o i aH) X.env v=(do
 let a<-holding [v] (eval o X.env)
 let b<-holding [v,a] (eval i X.env)
 standAt aH
 holding [v,a,b] (setItem a b v)
 release [v,a,b] []):=by intro _;rfl):PG X (.Subscript o i aH) (DG to c t):=by
 intro pinsz_ s σ H v u Q I r h;rw[ha];exact aT (gL (bg (d pinsz_ s σ H _ I h) λa e ⟨x,H1,f,g,j⟩=>aT (gL (bg (hi pinsz_ e σ H1 _ f j) λb k ⟨y,H2,l,m,n⟩=>aT (gT (aT (gL (bg (hs pinsz_ k σ H2 x y v a b u _ l g m r n) λ_ A ⟨p,w,z⟩=>wpAny_release ⟨σ,p,w,z⟩))))))))
noncomputable def jI (te:TE)(g:TG):TS:=λD σ H=>te σ H λx H1=>g x σ H1 D.nx
theorem yw (he:PE X e te)(a:PG X tg g)(hs:swapsWithSole [tg] e aH.line X.env=pure false:=by rfl)(b:swappedStores [tg] e X.env=pure none:=by rfl)(h1:(assignEach [tg] X.env).map (·.2)=[assign tg X.env]:=by rfl):PS X (.Assign [tg] e aH) (jI te g):=by
 intro pinsz_ s σ H D I h;refine wpAny_Assign_stores (bg (he pinsz_ s σ H _ I h) λv c ⟨x,H1,d,f,i⟩=>?_) hs b;rw[h1];exact bg (a pinsz_ c σ H1 x v _ d f i) λ_ j q=>q
theorem wY (a:X.N.Nodup)(hi:X.N[i]?=some x)(hx:Loc X.env.scope x)(he:PE X e te)(hs:swapsWith e (some (.Name x fy)) aH.line X.env=pure false:=by rfl)(b:X.fn x=true∨X.env.scope.names.lookup x=some .local:=by first | exact .inl O | exact .inr O | assumption):
 PS X (.Assign [.Name x fy] e aH) (jI te (gQ i)):=by
 intro pinsz_ s σ H D I h;refine wpAny_Assign_Name (bg (he pinsz_ s σ H _ I h) λv j ⟨y,H1,c,d,f⟩=>?_) hs;exact vv c a hi hx d (λk g=>⟨_,H1,g,f⟩) b
inductive DC (i:Nat)(te:TE)(ti:u2)(D:Ends)(σ:St)(H:Hp):Prop
 | mk x (_:σ[i]?=some (some x)) (_:te σ H λy H1=>ti x y H1 λz H2=>D.nx (σ.set i (some z)) H2)
theorem tY {op:Operator}{a:u2}(b:X.N.Nodup)(hi:X.N[i]?=some x)(hx:Loc X.env.scope x)(he:PE X e te)(d:ye X op a)(f:X.fn x=true∨X.env.scope.names.lookup x=some .local:=by first | exact .inl O | exact .inr O | assumption):
 PS X (.AugAssign (.Name x fy) op e aH) (DC i te a):=by
 intro pinsz_ s σ H D I h;obtain⟨v,e1,h⟩:=h;obtain⟨m,g,j⟩:=I.loc;have n:l5 X.env.scope x:=by rcases hx with k | k;exact .inl k;exact .inr (.inl k)
 obtain⟨u,r,l⟩:=j i x v hi e1 n;refine wpAny_AugAssign_Name ?_
 have go:wpAny (model X.prog X.w) X.A (eval e X.env) (λw o=>wpAny (model X.prog X.w) X.A (inplaceOp op u w) (λr p=>wpAny (model X.prog X.w) X.A (storeName X.env x r) (λ_=>SP X pinsz_ D .next) X.xe p) X.xe o) X.xe s:=by
  exact bg (he pinsz_ s σ H _ I h) λw t ⟨y,H1,C,E,G⟩=>bg (d pinsz_ t σ H1 v y u w _ C r E G) λz Y ⟨b',H2,J,M,Q⟩=>vv J b hi hx M (λe' T=>⟨_,H2,T,Q⟩) f
 rcases l with⟨hk,hm⟩ | ⟨hk,c,hc,U⟩
 .exact lW I.ok.kind hk g hm go
 .rcases hk with hk | hk
  .exact yg I.ok.kind hk hc U go
  .rcases hx with k | k
   .have:X.env.scope.names.lookup x=some .free:=hk;rw[k] at this;cases this
   .have:X.env.scope.names.lookup x=some .free:=hk;rw[k] at this;cases this
inductive Dj (f:Int->Int->Int)(x:V)(y:V)(H:Hp)(Q:VK):Prop
 | mk i j (_:x= .int i) (_:y= .int j) (_:Q (.int (f i j)) H)
theorem sX:ye X .Add (Dj λi j=>i+j):=by
 intro pinsz_ s σ H x y v u Q I a b h;obtain⟨i,j,e1,c,q⟩:=h;subst e1;subst c;obtain⟨t,rfl⟩:=a;obtain⟨t',rfl⟩:=b;exact iadd_int ⟨.int _,H,I.tok _,⟨_,O⟩,q⟩
noncomputable def Av (c:TT)(tb:TS):TS:=λD σ H=>∃W:Nat->St->Hp->Prop,(∃m,W m σ H)/\∀m σ H,W m σ H->
 c σ H λb H1=>if b=true then ∃N:St->Hp->Prop,(∀a H',N a H'->∃d,d<m/\W d a H')/\tb {D with nx:=N,ct:=N,bk:=D.nx} σ H1 else D.nx σ H1
theorem kJ {tb:TS}(m:PassesOwn (model X.prog X.w) X.A X.env X.xe)(hc:PT X c tc)(t:cT X body tb):PS X (.While c body [] aH) (Av tc tb):=by
 intro pinsz_ s σ H D I h;obtain⟨W,⟨m0,u⟩,x⟩:=h;refine wpAny_While (codeAny_whileLoop (λn s'=>∃o H',Inv X pinsz_ o H' s'/\W n o H') ?_ m0 ⟨σ,H,I,u⟩);rintro n y ⟨e,H1,z,C⟩;refine k_ m (bg (hc pinsz_ y e H1 _ z (x n e H1 C)) λb E ⟨H2,p,g⟩=>?_)
 cases b with
 | true=>
  obtain⟨N,r,g⟩:=g;rw[az O];refine k_ m (bg (t pinsz_ E e H2 _ p g) λf G i=>?_)
  cases f with
  | next=>
   obtain⟨a,d,j,n3⟩:=i;obtain⟨k,hm,l⟩:=r a d n3
   exact⟨k,hm,a,d,j,l⟩
  | cont=>
   obtain⟨a,d,j,n3⟩:=i;obtain⟨k,hm,l⟩:=r a d n3
   exact⟨k,hm,a,d,j,l⟩
  | brk=>exact i
  | ret v=>exact i
 | false=>
  rw[ar dF];exact iM ⟨e,H2,p,g⟩
structure It where
 go:Nat->Hp->Prop
 iD:Nat->Hp->V->Hp->Prop
 stop:Nat->Hp->Prop
noncomputable def g7 (X:Cx)(pinsz_:List (Addr×Obj))(H:Hp)(b:Addr):Prop:=
 H b=none/\b≠X.env.locals/\b∉X.fs/\(b∈X.ex∨X.s_0.heap.objs.size<=b)/\(∀x c,X.env.cells.lookup x=some c->c≠b)/\∀p∈X.pn++pinsz_,p.1≠b
theorem Inv.mU {σ:St}{b:Addr}(I:Inv X pinsz_ σ H s)(a:s.heap.objs.size<=b)(d:H' b=none):g7 X pinsz_ H' b:=by
 refine⟨d,hv (cc I.lt a),I.HY a,.inr (bB I.sz a),λx c e z=>?_,λp f z=>?_⟩
 .obtain⟨v,q⟩:=I.cell x c e;exact absurd (cc q.lt (by rw[z];exact a)) (hr _)
 .exact absurd (cc (bP (I.pin p f).1) (by rw[z];exact a)) (hr _)
structure o7 (P:Program)(w:World)(K:Frag)(tg:Expr)(J:It)(fp:List Addr)(it:Addr)(tn:Nat->Heap->Prop):Prop where
 mem:it∈fp
 obj:∀i h,tn i h->∀b∈fp,∃o,h.get? b=some o/\∀v,o.data≠ .cell v
 keep:∀i h h',tn i h->(∀b∈fp,∀o,h.get? b=some o->h'.get? b=some o)->tn i h'
 item:∀(X:Cx),X.prog=P->X.w=w->X.K=K->X.calm=true->∀(i:Nat) (pins:List (Addr×Obj)) (s:Shared) (σ:St) (H:Hp) (E:Value->Shared->Prop),Inv X pins σ H s->(∀b∈fp,g7 X pins H b)->tn i s.heap->J.go i H->
  wpAny (model P w) X.A (pyNext (.ref it)) (λr s1=>∃u,r=some u/\
   wpAny (model P w) X.A (letOwnedTupleGo tg (.ref it) u) (λ_ s2=>∃x H',Inv X pins σ H' s2/\RelV x u/\J.iD i H x H'/\tn (i+1) s2.heap/\∀b∈fp,H' b=none) E s1) E s
 done:∀(X:Cx),X.prog=P->X.w=w->X.K=K->X.calm=true->∀(i:Nat) (pins:List (Addr×Obj)) (s:Shared) (σ:St) (H:Hp) (E:Value->Shared->Prop),Inv X pins σ H s->(∀b∈fp,g7 X pins H b)->tn i s.heap->J.stop i H->
  wpAny (model P w) X.A (pyNext (.ref it)) (λr s1=>r=none/\Inv X pins σ H s1) E s
 self:∀(A:Around) (i:Nat) (s:Shared) (Q:Value->Shared->Prop) (E:Value->Shared->Prop),tn i s.heap->Q (.ref it) s->wpAny (model P w) A (pyIter (.ref it)) Q E s
abbrev TI:=St->Hp->(It->Hp->Prop)->Prop
noncomputable def zD (X:Cx)(pinsz_:List (Addr×Obj))(σ:St)(tg:Expr)(R:It->Hp->Prop)(e:Value)(a:Shared):Prop:=
 ∃(it:Addr) (fp:List Addr) (c:Nat->Heap->Prop) (d:It) (H':Hp),e= .ref it/\Inv X pinsz_ σ H' a/\o7 X.prog X.w X.K tg d fp it c/\c 0 a.heap/\(∀b∈fp,g7 X pinsz_ H' b)/\R d H'
noncomputable def PI (X:Cx)(tg iter:Expr)(wi:TI):Prop:=
 ∀(pinsz_:List (Addr×Obj)) (s:Shared) (σ:St) (H:Hp) (R:It->Hp->Prop),Inv X pinsz_ σ H s->wi σ H R->
  wpAny (model X.prog X.w) X.A (eval iter X.env) (λv a=>wpAny (model X.prog X.w) X.A (pyIter v) (zD X pinsz_ σ tg R) X.xe a) X.xe s
theorem wk {o:Obj}{n:String}{Q:Unit->Shared->Prop}(b:s.heap.get? it=some o)(hc:o.cls= .type n)(hd:o.data= .fields vs)(c:["enumerate","zip","dict_itemiterator","dict_reverseitemiterator","odict_iterator","itertools.zip_longest","itertools.pairwise"].contains n=false)(a:Q () s):wpAny M A (letOwnedTupleGo tg (.ref it) u) Q E s:=by
 unfold letOwnedTupleGo
 cases tg<;>first
  | exact b4 a
  | (cases u<;>first
   | exact b4 a
   | (
    refine aT (wpAny_load b ?_);rw[hc,hd];show wpAny M A (if(["enumerate","zip","dict_itemiterator","dict_reverseitemiterator","odict_iterator","itertools.zip_longest","itertools.pairwise"].contains n&&vs[0]?==some (rawInt _))=true then _ else _) Q E s;rw[ar (by intro h;rw[c,nU] at h;cases h)]
    exact b4 a))
noncomputable def j3 (K:Frag)(a:Addr):It:=
 ⟨λi H=>∃xs x,ay K H a xs/\xs[i]?=some x,λi H x H'=>H'=H/\∀xs,ay K H a xs->xs[i]?=some x,λi H=>∃xs,ay K H a xs/\xs.length<=i⟩
noncomputable def ow (K:Frag)(a:Addr):It:=
 ⟨λi H=>∃xs x,cI K H a xs/\xs[i]?=some x,λi H x H'=>H'=H/\∀xs,cI K H a xs->xs[i]?=some x,λi H=>∃xs,cI K H a xs/\xs.length<=i⟩
noncomputable def ig (lo:Int)(n:Nat):It:=⟨λi _=>i<n,λi H x H'=>H'=H/\x= .int (lo+i),λi _=>n<=i⟩
theorem F0 {K:Frag}(a it:Addr):o7 P w K tg (j3 K a) [it] it (λi h=>h.IsListIter it a i) where
 mem:=by simp
 obj:=λi h st b f=>by
  have e:b=it:=by simpa using f
  subst e;obtain⟨o,e,c,d⟩:=st;exact⟨o,e,λv z=>by rw[d] at z;cases z⟩
 keep:=λi h h' st k=>st.at λo e=>k it (by simp) o e
 item:=by
  intro X l m n hc i pinsz_ s σ H E I g st r;subst l m n;obtain⟨xs,x,j,hx⟩:=r;obtain⟨aD,t,p,M⟩:=I.list j;obtain⟨u,N,Q⟩:=t.get hx;obtain⟨y,A,T,C,D,G⟩:=g it (by simp);refine wpAny_pyNext_list_item st p.isList (x:=u) (by simpa using N) λh' J U=>?_;have Y:Inv X pinsz_ σ H {s with heap:=h'}:=I.turned (t':=s.toks) (λb o f e=>(U.2 b f).trans e) y A C D G;obtain⟨o,e,c,d⟩:=id J;exact⟨u,O,wk (s:={s with heap:=h'}) e c d aJ ⟨x,H,Y,Q,⟨O,λys hy=>by rw[I.yc hy j];exact hx⟩,J,λb f=>(g b f).1⟩⟩
 done:=by
  intro X l m n hc i pinsz_ s σ H E I g st r;subst l m n;obtain⟨xs,j,hx⟩:=r;obtain⟨aD,t,p,M⟩:=I.list j;obtain⟨y,A,T,C,D,G⟩:=g it (by simp);have e':=t.length;exact wpAny_pyNext_list_end (I.ok.hd hc) st p.isList (by simp;omega) λh' b'=>⟨O,I.turned (t':=s.toks) (λb o f e=>b' b o f e) y A C D G⟩
 self:=λ_ _ _ _ _ st h=>wpAny_pyIter_listiter st h
theorem Lx {K:Frag}(a it:Addr):o7 P w K tg (ow K a) [it] it (λi h=>h.IsTupleIter it a i) where
 mem:=by simp
 obj:=λi h st b f=>by
  have e:b=it:=by simpa using f
  subst e;obtain⟨o,e,c,d⟩:=st;exact⟨o,e,λv z=>by rw[d] at z;cases z⟩
 keep:=λi h h' st k=>st.at λo e=>k it (by simp) o e
 item:=by
  intro X l m n hc i pinsz_ s σ H E I g st r;subst l m n;obtain⟨xs,x,j,hx⟩:=r;obtain⟨aD,t,p,M⟩:=I.tuple j;obtain⟨u,N,Q⟩:=t.get hx;obtain⟨y,A,T,C,D,G⟩:=g it (by simp);refine wpAny_pyNext_tuple_item st (show s.heap.IsTuple a aD.toArray from p) (x:=u) (by simpa using N) λh' J U=>?_;have Y:Inv X pinsz_ σ H {s with heap:=h'}:=I.turned (t':=s.toks) (λb o f e=>(U.2 b f).trans e) y A C D G;obtain⟨o,e,c,d⟩:=id J;exact⟨u,O,wk (s:={s with heap:=h'}) e c d aJ ⟨x,H,Y,Q,⟨O,λys hy=>by rw[I.Hl hy j];exact hx⟩,J,λb f=>(g b f).1⟩⟩
 done:=by
  intro X l m n hc i pinsz_ s σ H E I g st r;subst l m n;obtain⟨xs,j,hx⟩:=r;obtain⟨aD,t,p,M⟩:=I.tuple j;obtain⟨y,A,T,C,D,G⟩:=g it (by simp);have e':=t.length;exact wpAny_pyNext_tuple_end (I.ok.hd hc) st (show s.heap.IsTuple a aD.toArray from p) (by simp;omega) λh' b'=>⟨O,I.turned (t':=s.toks) (λb o f e=>b' b o f e) y A C D G⟩
 self:=λ_ _ _ _ _ st h=>wpAny_pyIter_tupleiter st h
theorem LV {K:Frag}(it:Addr)(lo:Int)(n:Nat):o7 P w K tg (ig lo n) [it] it (λi h=>IsRangeIter h it (lo+(i:Nat)*1) ((n:Int) - (i:Nat)) 1) where
 mem:=by simp
 obj:=λi h st b a=>by
  have e:b=it:=by simpa using a
  subst e
  exact⟨_,st,λv z=>by
   have y:Data.fields _=Data.cell v:=z
   cases y⟩
 keep:=λi h h' st k=>k it (by simp) _ st
 item:=by
  intro X d f g hc i pinsz_ s σ H E I c st j;subst d f g;obtain⟨l,m,A,p,r,u⟩:=c it (by simp);have W:=Walks.range (prog:=X.prog) (w:=X.w) (I.ok.hd hc) it lo 1 n;refine W.item i s _ _ j st λv h' tk C x kk=>?_;obtain⟨t,rfl⟩:=C;have D:Inv X pinsz_ σ H {s with heap:=h',toks:=tk}:=I.turned (λb o a e=>kk b o (by simpa using a) e) l m p r u;refine⟨_,O,wk (s:={s with heap:=h',toks:=tk}) (n:="range_iterator") x O O aJ ⟨.int (lo+i),H,D,⟨t,?_⟩,⟨O,O⟩,x,λb a=>(c b a).1⟩⟩;rw[Int.mul_one]
 done:=by
  intro X d f g hc i pinsz_ s σ H E I c st j;subst d f g;obtain⟨l,m,A,p,r,u⟩:=c it (by simp);exact wpAny_pyNext_range_end (I.ok.hd hc) st (by have:n<=i:=j;omega) λh' G=>⟨O,I.turned (t':=s.toks) (λb o a e=>G b o a e) l m p r u⟩
 self:=λ_ _ _ _ _ st h=>wpAny_pyIter_rangeiter st h
inductive Eh (K:Frag)(R:It->Hp->Prop)(x:V)(H1:Hp):Prop
 | mk a (_:x= .ref a) (_:∃xs,ay K H1 a xs) (_:R (j3 K a) H1)
noncomputable def D1 (K:Frag)(tl:TE):TI:=λσ H R=>tl σ H λx H1=>Eh K R x H1
inductive Mv (K:Frag)(R:It->Hp->Prop)(x:V)(H1:Hp):Prop
 | mk a (_:x= .ref a) (_:∃xs,cI K H1 a xs) (_:R (ow K a) H1)
noncomputable def C9 (K:Frag)(tl:TE):TI:=λσ H R=>tl σ H λx H1=>Mv K R x H1
theorem fF {l:Expr}(f:PE X l tl):PI X tg l (D1 X.K tl):=by
 intro pinsz_ s σ H R I h;refine bg (f pinsz_ s σ H _ I h) λv c ⟨x,H1,d,g,i⟩=>?_;obtain⟨a,e,⟨xs,j⟩,q⟩:=i;subst e;cases g;obtain⟨aD,m,p,n⟩:=d.list j;refine wpAny_pyIter_list p.isList ⟨c.heap.objs.size,[c.heap.objs.size],_,_,H1,O,d.kept (t':=c.toks) λb o e=>cw _ e,F0 a _,⟨_,fW _ O,O,O⟩,λb k=>?_,q⟩;have e:b=c.heap.objs.size:=by simpa using k
 subst e;exact d.mU (bY _) (d.aG.fresh (bY _))
theorem IQ {l:Expr}(f:PE X l tl):PI X tg l (C9 X.K tl):=by
 intro pinsz_ s σ H R I h;refine bg (f pinsz_ s σ H _ I h) λv c ⟨x,H1,d,g,i⟩=>?_;obtain⟨a,e,⟨xs,j⟩,q⟩:=i;subst e;cases g;obtain⟨aD,m,p,n⟩:=d.tuple j;refine wpAny_pyIter_tuple (show c.heap.IsTuple a aD.toArray from p) ⟨c.heap.objs.size,[c.heap.objs.size],_,_,H1,O,d.kept (t':=c.toks) λb o e=>cw _ e,Lx a _,⟨_,fW _ O,O,O⟩,λb k=>?_,q⟩;have e:b=c.heap.objs.size:=by simpa using k
 subst e;exact d.mU (bY _) (d.aG.fresh (bY _))
theorem FH {σ:St}{R:It->Hp->Prop}{lo hi:Int}{t u v:Tok}{tk:Nat}(I:Inv X pinsz_ σ H s)(h1: -(2 ^ 62)<=lo)(h2:lo<2 ^ 62)(c: -(2 ^ 62)<=hi)(d:hi<2 ^ 62)(q:R (ig lo (hi - lo).toNat) H):wpAny (model X.prog X.w) X.A (pyIter (.ref s.heap.objs.size)) (zD X pinsz_ σ tg R) E {s with heap:=s.heap.push {cls:= .type "range",data:= .fields #[.int lo t,.int hi u,.int 1 v]},toks:=tk}:=by
 refine wpAny_pyIter_range (IsRange.new ..) (small_one h1 h2 c d) ?_;have a:Inv X pinsz_ σ H {s with heap:=s.heap.push {cls:= .type "range",data:= .fields #[.int lo t,.int hi u,.int 1 v]},toks:=tk}:=I.kept λb o e=>cw _ e
 refine⟨(s.heap.push {cls:= .type "range",data:= .fields #[.int lo t,.int hi u,.int 1 v]}).objs.size,[(s.heap.push {cls:= .type "range",data:= .fields #[.int lo t,.int hi u,.int 1 v]}).objs.size],_,_,H,O,
  a.kept (t':=tk) λb o e=>cw _ e,LV _ lo (hi - lo).toNat,?_,λb f=>?_,q⟩
 .have e1:lo+((0:Nat):Int)*1=lo:=by simp
  have g:(((hi - lo).toNat:Nat):Int) - ((0:Nat):Int)=Builtin.Range.rangeSize lo hi 1:=by rw[rangeSize_one];split<;>omega
  show IsRangeIter _ _ (lo+((0:Nat):Int)*1) ((((hi - lo).toNat:Nat):Int) - ((0:Nat):Int)) 1;rw[e1,g];exact fW _ O
 .have e:b=(s.heap.push {cls:= .type "range",data:= .fields #[.int lo t,.int hi u,.int 1 v]}).objs.size:=by simpa using f
  subst e;exact a.mU (bY _) (a.aG.fresh (bY _))
inductive Gm (R:It->Hp->Prop)(vs:List V)(H1:Hp):Prop
 | mk (j:Int) (_:vs=[.int j]) (_: -(2 ^ 62)<=j) (_:j<2 ^ 62) (_:R (ig 0 j.toNat) H1)
noncomputable def HU (ta:TA):TI:=λσ H R=>ta σ H λvs H1=>Gm R vs H1
theorem jT {a:Expr}{ta:TA}(c:Gl X "range")(hm:X.mg "range"=none)(ha:PA X [a] ta)(hs:starEach [a] X.env=[(false,eval a X.env)]:=by rfl):PI X tg (.Call (.Name "range" p) [a] [] aH) (HU ta):=by
 intro pinsz_ s σ H R I h;refine Call_ (qH I c hm boot_range (uF (bg (ha aH pinsz_ s σ H _ I h) λus k ⟨vs,H1,d,f,b⟩=>?_) hs O));obtain⟨j,e,b,g,q⟩:=b;subst e
 cases f with
 | cons r i=>
  cases i;obtain⟨t,rfl⟩:=r;exact call_range_1 (FH d af af b g (by simpa using q))
noncomputable def KZ (wi:TI)(g:TG)(tb:TS):TS:=λD σ H=>wi σ H λa H1=>∃W:Nat->Nat->St->Hp->Prop,(∃m,W 0 m σ H1)/\∀i m σ H,W i m σ H->
 (a.stop i H/\D.nx σ H)∨(a.go i H/\∃N:St->Hp->Prop,(∀b H',N b H'->∃c,c<m/\W (i+1) c b H')/\∀x H',a.iD i H x H'->g x σ H' λd H2=>tb {D with nx:=N,ct:=N,bk:=D.nx} d H2)
noncomputable def o6 (fp:List Addr)(h:Heap):List (Addr×Obj):=fp.filterMap λb=>(h.get? b).map λo=>(b,o)
theorem rR {b:Addr}{o:Obj}(a:b∈fp)(e:h.get? b=some o):(b,o)∈o6 fp h:=List.mem_filterMap.mpr ⟨b,a,by rw[e];rfl⟩
theorem FL {p:Addr×Obj}(a:p∈o6 fp h):p.1∈fp/\h.get? p.1=some p.2:=by
 obtain⟨b,c,e⟩:=List.mem_filterMap.mp a
 cases q:h.get? b with
 | none=>rw[q] at e;cases e
 | some o=>
  rw[q] at e;have d:(b,o)=p:=cx e;subst d;exact⟨c,q⟩
theorem Inv.pinned {σ:St}(I:Inv X pinsz_ σ H s)(f:∀b∈fp,g7 X pinsz_ H b)(g:∀b∈fp,∃o,s.heap.get? b=some o/\∀v,o.data≠ .cell v):Inv X (pinsz_++o6 fp s.heap) σ H s:=
 I.CK λp h=>(List.mem_append.mp h).elim (λz=>I.pin p (fz _ z)) λz=>by
  obtain⟨a,e⟩:=FL z;obtain⟨i,j,k,_⟩:=f p.1 a;obtain⟨o,c,d⟩:=g p.1 a;rw[e] at c;cases c;exact⟨e,i,j,k,d⟩
theorem Inv.qN {pl:List (Addr×Obj)}{σ:St}(I:Inv X (pinsz_++pl) σ H s):Inv X pinsz_ σ H s:=I.CK λp a=>I.pin p (fz _ (ft _ a))
theorem fc {tb:TS}(p:PassesOwn (model X.prog X.w) X.A X.env X.xe)(hc:X.calm=true)(hi:PI X tg iter wi)(j':PG X tg g)(a:cT X body tb)(hs:∀x,foldedSetIterable iter X.env x=pure x:=by intro _;rfl):PS X (.For tg iter body [] aH) (KZ wi g tb):=by
 intro pinsz_ s σ H D I h;refine wpAny_For (bg (hi pinsz_ s σ H _ I h) λv P' h1=>bg h1 λR' S' h2=>?_) hs;obtain⟨it,fp,M,T',H2,e,k',T,l',Q,W,⟨m0,m'⟩,p'⟩:=h2;subst e;have C:∀{H':Hp},(∀b∈fp,H' b=none)->∀b∈fp,g7 X pinsz_ H' b:=λq' b a=>⟨q' b a,(Q b a).2⟩;refine codeAny_forLoop_any (λn s'=>∃i t H',Inv X pinsz_ t H' s'/\M i s'.heap/\(∀b∈fp,H' b=none)/\W i n t H') ?_ m0 ⟨0,σ,H2,k',l',λb a=>(Q b a).1,m'⟩;rintro n U ⟨i,y,z,Y,b',e',r'⟩;rcases p' i n y z r' with⟨stop,u'⟩ | ⟨go,N,v',step⟩
 .refine k_ p (bg (T.done X O O O hc i pinsz_ U y z X.xe Y (C e') b' stop) λr w' ⟨E,y'⟩=>?_);subst E;exact iM ⟨y,z,y',u'⟩
 .refine k_ p (bg (T.item X O O O hc i pinsz_ U y z X.xe Y (C e') b' go) λr w' ⟨u,E,z'⟩=>?_);subst E;refine k_ p (bg z' λ_ f' ⟨x,i',A',B',C',G,D'⟩=>?_);have E':=A'.pinned (C D') (T.obj _ _ G);refine k_ p (bg (j' _ f' y i' x u _ E' B' (step x i' C')) λ_ F' ⟨G',I',J',K'⟩=>k_ p (bg (a _ F' G' I' _ J' K') λf J l=>?_))
  have again:∀{c:St} {j:Hp},Inv X (pinsz_++o6 fp f'.heap) c j J->N c j->∃m,m<n/\∃i t H',Inv X pinsz_ t H' J/\M i J.heap/\(∀b∈fp,H' b=none)/\W i m t H':=λ{c j} k n7=>by
   obtain⟨L',hm,M'⟩:=v' c j n7;refine⟨L',hm,i+1,c,j,k.qN,T.keep _ _ _ G λb a o e=>(k.pin (b,o) (fz _ (fz _ (rR a e)))).1,λb a=>?_,M'⟩;obtain⟨o,e,d⟩:=T.obj _ _ G b a;exact(k.pin (b,o) (fz _ (fz _ (rR a e)))).2.1
  cases f with
  | next=>obtain⟨c,j,k,n7⟩:=l;exact again k n7
  | cont=>obtain⟨c,j,k,n7⟩:=l;exact again k n7
  | brk=>obtain⟨c,j,k,l⟩:=l;exact⟨c,j,k.qN,l⟩
  | ret v=>obtain⟨N',c,j,k,O',l⟩:=l;exact⟨N',c,j,k.qN,O',l⟩
theorem kg {K:Frag}{tb:TS}{σ:St}(Pv:Nat->St->Hp->Prop)(h:Pv 0 σ H)(j:∀i σ H,i<=xs.length->Pv i σ H->ay K H a xs)(hs:∀i x σ H,xs[i]?=some x->Pv i σ H->g x σ H λb H2=>tb {D with nx:=Pv (i+1),ct:=Pv (i+1),bk:=D.nx} b H2)(hd:∀σ H,Pv xs.length σ H->D.nx σ H):
 ∃W:Nat->Nat->St->Hp->Prop,(∃m,W 0 m σ H)/\∀i m σ H,W i m σ H->
  ((j3 K a).stop i H/\D.nx σ H)∨((j3 K a).go i H/\∃N:St->Hp->Prop,(∀c H',N c H'->∃d,d<m/\W (i+1) d c H')/\∀x H',(j3 K a).iD i H x H'->g x σ H' λb H2=>tb {D with nx:=N,ct:=N,bk:=D.nx} b H2):=by
 refine⟨λi m σ H=>m=xs.length - i/\i<=xs.length/\Pv i σ H,⟨xs.length,by simp,b3 _,h⟩,?_⟩;rintro i m σ H ⟨rfl,hi,p⟩;have q:=j i σ H hi p;by_cases f:i<xs.length
 .refine .inr ⟨⟨xs,xs[i],q,by simp[f]⟩,Pv (i+1),λc H' k=>⟨xs.length - (i+1),af,O,f,k⟩,λx H' y=>?_⟩;obtain⟨e,y⟩:=y;subst e;exact hs i x σ _ (y xs q) p
 .have e:i=xs.length:=af;subst e;exact .inl ⟨⟨xs,q,bY _⟩,hd σ H p⟩
theorem FN {K:Frag}{tb:TS}{σ:St}(Pv:Nat->St->Hp->Prop)(h:Pv 0 σ H)(j:∀i σ H,i<=xs.length->Pv i σ H->cI K H a xs)(hs:∀i x σ H,xs[i]?=some x->Pv i σ H->g x σ H λb H2=>tb {D with nx:=Pv (i+1),ct:=Pv (i+1),bk:=D.nx} b H2)(hd:∀σ H,Pv xs.length σ H->D.nx σ H):
 ∃W:Nat->Nat->St->Hp->Prop,(∃m,W 0 m σ H)/\∀i m σ H,W i m σ H->
  ((ow K a).stop i H/\D.nx σ H)∨((ow K a).go i H/\∃N:St->Hp->Prop,(∀c H',N c H'->∃d,d<m/\W (i+1) d c H')/\∀x H',(ow K a).iD i H x H'->g x σ H' λb H2=>tb {D with nx:=N,ct:=N,bk:=D.nx} b H2):=by
 refine⟨λi m σ H=>m=xs.length - i/\i<=xs.length/\Pv i σ H,⟨xs.length,by simp,b3 _,h⟩,?_⟩;rintro i m σ H ⟨rfl,hi,p⟩;have q:=j i σ H hi p;by_cases f:i<xs.length
 .refine .inr ⟨⟨xs,xs[i],q,by simp[f]⟩,Pv (i+1),λc H' k=>⟨xs.length - (i+1),af,O,f,k⟩,λx H' y=>?_⟩;obtain⟨e,y⟩:=y;subst e;exact hs i x σ _ (y xs q) p
 .have e:i=xs.length:=af;subst e;exact .inl ⟨⟨xs,q,bY _⟩,hd σ H p⟩
theorem oo {lo:Int}{tb:TS}{σ:St}(Pv:Nat->St->Hp->Prop)(f:Pv 0 σ H)(hs:∀i σ H,i<n->Pv i σ H->g (.int (lo+i)) σ H λa H2=>tb {D with nx:=Pv (i+1),ct:=Pv (i+1),bk:=D.nx} a H2)(hd:∀σ H,Pv n σ H->D.nx σ H):
 ∃W:Nat->Nat->St->Hp->Prop,(∃m,W 0 m σ H)/\∀i m σ H,W i m σ H->
  ((ig lo n).stop i H/\D.nx σ H)∨((ig lo n).go i H/\∃N:St->Hp->Prop,(∀b H',N b H'->∃d,d<m/\W (i+1) d b H')/\∀x H',(ig lo n).iD i H x H'->g x σ H' λa H2=>tb {D with nx:=N,ct:=N,bk:=D.nx} a H2):=by
 refine⟨λi m σ H=>m=n - i/\i<=n/\Pv i σ H,⟨n,by simp,b3 _,f⟩,?_⟩;rintro i m σ H ⟨rfl,hi,p⟩;by_cases c:i<n
 .refine .inr ⟨c,Pv (i+1),λb H' h=>⟨n - (i+1),af,O,c,h⟩,λx H' y=>?_⟩;obtain⟨e,y⟩:=y;subst e y;exact hs i σ _ c p
 .have e:i=n:=af;subst e;exact .inl ⟨bY _,hd σ H p⟩
theorem nO {c:TT}{tb:TS}{σ:St}(Pv:St->Hp->Prop)(d:St->Hp->Nat)(e:Pv σ H)(hs:∀σ H,Pv σ H->c σ H λb H1=>if b=true then tb {D with nx:=λa H'=>Pv a H'/\d a H'<d σ H,ct:=λa H'=>Pv a H'/\d a H'<d σ H,bk:=D.nx} σ H1 else D.nx σ H1)(mono:∀σ H Q Q',(∀b H1,Q b H1->Q' b H1)->c σ H Q->c σ H Q'):Av c tb D σ H:=by
 refine⟨λm σ H=>m=d σ H/\Pv σ H,⟨_,O,e⟩,?_⟩;rintro m σ H ⟨rfl,p⟩;refine mono σ H _ _ (λb H1 q=>?_) (hs σ H p)
 cases b with
 | true=>exact⟨_,λa H' ⟨f,l⟩=>⟨_,l,O,f⟩,q⟩
 | false=>exact q
abbrev R2:=V->V->Hp->VK->Prop
noncomputable def c3 (X:Cx)(f:Value->Value->Sem Value)(r:R2):Prop:=
 ∀(pinsz_:List (Addr×Obj)) (s:Shared) (σ:St) (H:Hp) (x y:V) (v u:Value) (Q:VK),Inv X pinsz_ σ H s->RelV x v->RelV y u->r x y H Q->
  wpAny (model X.prog X.w) X.A (f v u) (EP X pinsz_ σ Q) X.xe s
noncomputable def v5 (X:Cx)(f:Value->Sem Value)(r:V->Hp->VK->Prop):Prop:=
 ∀(pinsz_:List (Addr×Obj)) (s:Shared) (σ:St) (H:Hp) (x:V) (v:Value) (Q:VK),Inv X pinsz_ σ H s->RelV x v->r x H Q->
  wpAny (model X.prog X.w) X.A (f v) (EP X pinsz_ σ Q) X.xe s
noncomputable def lH (X:Cx)(f:Value)(r:List V->Hp->VK->Prop):Prop:=
 ∀(pinsz_:List (Addr×Obj)) (s:Shared) (σ:St) (H:Hp) (xs:List V) (us:List Value) (Q:VK),Inv X pinsz_ σ H s->bt xs us->r xs H Q->
  wpAny (model X.prog X.w) X.A (call f us) (EP X pinsz_ σ Q) X.xe s
noncomputable def gw (r:R2)(ta tb:TE):TE:=λσ H Q=>ta σ H λx H1=>tb σ H1 λy H2=>r x y H2 Q
noncomputable def tW (r:V->Hp->VK->Prop)(ta:TE):TE:=λσ H Q=>ta σ H λx H1=>r x H1 Q
inductive rI (C:Int->Int->Prop)(g:Int->Int->V)(x:V)(y:V)(H:Hp)(Q:VK):Prop
 | mk i j (_:x= .int i) (_:y= .int j) (_:C i j) (_:Q (g i j) H)
inductive fY (g:Int->Int->V)(x:V)(y:V)(H:Hp)(Q:VK):Prop
 | mk i j (_:x= .int i) (_:y= .int j) (_:Q (g i j) H)
inductive rU (g:Int->V)(x:V)(H:Hp)(Q:VK):Prop
 | mk i (_:x= .int i) (_:Q (g i) H)
theorem vl {a:Expr}{tb:TE}(ha:PE X a ta)(d:PE X b tb){σ:St}{R:V->V->Hp->Prop}(I:Inv X pinsz_ σ H s)(h:ta σ H λx H1=>tb σ H1 λy H2=>R x y H2){f:Value->Value->Sem Value}(e:∀v u c x y H2,Inv X pinsz_ σ H2 c->RelV x v->RelV y u->R x y H2->wpAny (model X.prog X.w) X.A (f v u) Q X.xe c):
 wpAny (model X.prog X.w) X.A (eval a X.env) (λv g=>wpAny (model X.prog X.w) X.A (eval b X.env) (λu i=>wpAny (model X.prog X.w) X.A (f v u) Q X.xe i) X.xe g) X.xe s:=bg (ha pinsz_ s σ H _ I h) λv j ⟨x,H1,k,l,m⟩=>bg (d pinsz_ j σ H1 _ k m) λu c ⟨y,H2,n,o,p⟩=>e v u c x y H2 n l o p
theorem aR {a:Expr}{tb:TE}{op:Operator}{r:R2}(c:c3 X (binaryOp op) r)(ha:PE X a ta)(d:PE X b tb):PE X (.BinOp a op b aH) (gw r ta tb):=by
 intro pinsz_ s σ H Q I h;exact wpAny_BinOp (vl ha d I h λv u e x y H2 f g i q=>c pinsz_ e σ H2 x y v u Q f g i q)
theorem eM {a:Expr}{op:UnaryOp}{r:V->Hp->VK->Prop}(b:v5 X (unaryOp op) r)(ha:PE X a ta):PE X (.UnaryOp op a aH) (tW r ta):=by
 intro pinsz_ s σ H Q I h;exact UnaryOp_ (bg (ha pinsz_ s σ H _ I h) λv c ⟨x,H1,d,e,f⟩=>b pinsz_ c σ H1 x v Q d e f)
theorem nZ {f:Value->Value->Sem Value}{C:Int->Int->Prop}{g:Int->Int->Int}(rule:∀(i j:Int) (t u:Tok) (s:Shared) (Q:Value->Shared->Prop) (E:Value->Shared->Prop),C i j->Q (.int (g i j) s.toks) {s with toks:=s.toks+1}->wpAny (model X.prog X.w) X.A (f (.int i t) (.int j u)) Q E s):
 c3 X f (rI C λi j=> .int (g i j)):=by
 intro pinsz_ s σ H x y v u Q I a b h;obtain⟨i,j,rfl,rfl,hc,q⟩:=h;obtain⟨t,rfl⟩:=a;obtain⟨t',rfl⟩:=b;exact rule i j t t' s _ _ hc ⟨.int (g i j),H,I.tok _,⟨_,O⟩,q⟩
theorem oX {f:Value->Value->Sem Value}{g:Int->Int->Int}(rule:∀(i j:Int) (t u:Tok) (s:Shared) (Q:Value->Shared->Prop) (E:Value->Shared->Prop),Q (.int (g i j) s.toks) {s with toks:=s.toks+1}->wpAny (model X.prog X.w) X.A (f (.int i t) (.int j u)) Q E s):
 c3 X f (fY λi j=> .int (g i j)):=by
 intro pinsz_ s σ H x y v u Q I a b h;obtain⟨i,j,rfl,rfl,q⟩:=h;obtain⟨t,rfl⟩:=a;obtain⟨t',rfl⟩:=b;exact rule i j t t' s _ _ ⟨.int (g i j),H,I.tok _,⟨_,O⟩,q⟩
theorem qg {f:Value->Value->Sem Value}{g:Int->Int->Bool}(rule:∀(i j:Int) (t u:Tok) (s:Shared) (Q:Value->Shared->Prop) (E:Value->Shared->Prop),Q (.bool (g i j)) s->wpAny (model X.prog X.w) X.A (f (.int i t) (.int j u)) Q E s):
 c3 X f (fY λi j=> .bl (g i j)):=by
 intro pinsz_ s σ H x y v u Q I a b h;obtain⟨i,j,rfl,rfl,q⟩:=h;obtain⟨t,rfl⟩:=a;obtain⟨t',rfl⟩:=b;exact rule i j t t' s _ _ ⟨.bl (g i j),H,I,O,q⟩
noncomputable def Ib (i j:Int):Prop:=0<j/\j<1073741824
noncomputable def B6 (i j:Int):Prop:=0<=j/\j<=1000000/\i.natAbs<2 ^ 64
noncomputable def sL (i j:Int):Prop:=(-(2 ^ 64) <i/\i<2 ^ 64)∨(-(2 ^ 64) <j/\j<2 ^ 64)
theorem sL.ok {i j:Int}(h:sL i j):IntMulOk i j:=by
 rcases h with⟨h1,h2⟩ | ⟨h1,h2⟩
 .exact .of_left (intBits_le_64 h1 h2)
 .exact .of_right (intBits_le_64 h1 h2)
theorem Kr (k:Nat):(0:Int)<=2 ^ k:=by
 rw[rk];exact lC _
theorem cJ:c3 X (binaryOp .Add) (fY λi j=> .int (i+j)):=oX λ_ _ _ _ _ _ _ q=>add_int q
theorem d_:c3 X (binaryOp .Sub) (fY λi j=> .int (i - j)):=oX λ_ _ _ _ _ _ _ q=>sub_int q
theorem gW:c3 X (binaryOp .Mult) (rI sL λi j=> .int (i*j)):=nZ λ_ _ _ _ _ _ _ hc q=>mul_int q hc.ok
theorem Be:c3 X (binaryOp .FloorDiv) (rI Ib λi j=> .int (i / j)):=nZ λi j _ _ _ _ _ hc q=>by
 have h1:(0:Int) <j:=hc.1;have h2:j<1073741824:=hc.2;exact floordiv_int af (by rw[Bt i af];exact q) (.inl (PyProof.noPylong_small af))
theorem DE:c3 X (binaryOp .Mod) (rI (λ_ j=>0<j) λi j=> .int (i % j)):=nZ λi j _ _ _ _ _ hc q=>by
 have h1:(0:Int) <j:=hc;exact mod_int' af (by rw[Int.fmod_eq_emod_of_nonneg i af];exact q)
theorem wZ:c3 X (binaryOp .LShift) (rI B6 λi j=> .int (i*2 ^ j.toNat)):=nZ λ_ _ _ _ _ _ _ hc q=>lshift_int_small hc.1 hc.2.1 hc.2.2 q
theorem qK:c3 X (binaryOp .RShift) (rI (λ_ j=>0<=j) λi j=> .int (i / 2 ^ j.toNat)):=nZ λi j _ _ _ _ _ hc q=>
 rshift_int hc (by rw[Bt i (Kr _)];exact q)
theorem j6:c3 X (binaryOp .BitAnd) (fY λi j=> .int (Builtin.bitAnd i j)):=oX λ_ _ _ _ _ _ _ q=>and_int q
theorem Ia:c3 X (binaryOp .BitOr) (fY λi j=> .int (Builtin.bitOr i j)):=oX λ_ _ _ _ _ _ _ q=>or_int q
theorem uT:c3 X (binaryOp .BitXor) (fY λi j=> .int (Builtin.bitXor i j)):=oX λ_ _ _ _ _ _ _ q=>xor_int q
theorem Me {f:Value->Sem Value}{g:Int->Int}(rule:∀(i:Int) (t:Tok) (s:Shared) (Q:Value->Shared->Prop) (E:Value->Shared->Prop),Q (.int (g i) s.toks) {s with toks:=s.toks+1}->wpAny (model X.prog X.w) X.A (f (.int i t)) Q E s):
 v5 X f (rU λi=> .int (g i)):=by
 intro pinsz_ s σ H x v Q I a h;obtain⟨i,rfl,q⟩:=h;obtain⟨t,rfl⟩:=a;exact rule i t s _ _ ⟨.int (g i),H,I.tok _,⟨_,O⟩,q⟩
theorem eK:v5 X (unaryOp .USub) (rU λi=> .int (-i)):=Me λ_ _ _ _ _ q=>neg_int q
noncomputable def xU:V->V->Bool
 | .aE,.aE=>true | .aE,.int _=>true | .int _,.aE=>true | .aE,.bl _=>true | .bl _,.aE=>true | .aE,.str _=>true | .str _,.aE=>true
 | .int _,.int _=>true | .bl _,.bl _=>true | .str _,.str _=>true | .eA _,.eA _=>true
 | .int _,.str _=>true | .str _,.int _=>true | .bl _,.str _=>true | .str _,.bl _=>true
 | _,_=>false
noncomputable def Iw:R2:=λx y H Q=>xU x y=true/\Q (.bl (decide (x=y))) H
noncomputable def IJ:R2:=λx y H Q=>xU x y=true/\Q (.bl (!decide (x=y))) H
theorem wI {i j:Int}:decide (V.int i=V.int j)=(i==j):=by
 rw[eI];simp
theorem xk {i j:Bool}:decide (V.bl i=V.bl j)=(i==j):=by
 rw[eI];simp
theorem zN {i j:Str}:decide (V.str i=V.str j)=(i==j):=by
 rw[eI];simp
theorem xT {i j:Array UInt8}:decide (V.eA i=V.eA j)=(i.toList==j.toList):=by
 rw[eI];cases i;cases j;simp
theorem cM {σ:St}{Q:VK}{k a:Bool}(I:Inv X pinsz_ σ H s)(q:Q (.bl k) H)(e:k=a):EP X pinsz_ σ Q (.bool a) s:=by
 subst e;exact⟨.bl k,H,I,O,q⟩
theorem bW:c3 X (compareOp .Eq) Iw:=by
 intro pinsz_ s σ H x y v u Q I b a h;obtain⟨hs,q⟩:=h
 cases x with
 | aE=>
  cases b
  cases y with
  | aE=>cases a;exact PySem.EqNone.eq_none_none (cM I q (by simp))
  | bl j=>cases a;exact PySem.EqNone.eq_none_bool (cM I q (by simp))
  | int j=>obtain⟨t',rfl⟩:=a;exact PySem.EqNone.eq_none_int (cM I q (by simp))
  | str j=>obtain⟨t',rfl⟩:=a;exact PySem.EqNone.eq_none_str (cM I q (by simp))
  | _=>exact absurd (show false=true from hs) dF
 | bl i=>
  cases b
  cases y with
  | aE=>cases a;exact PySem.EqNone.eq_bool_none (cM I q (by simp))
  | bl j=>cases a;exact eq_bool (cM I q xk)
  | str j=>obtain⟨t',rfl⟩:=a;exact PySem.EqMixed.eq_bool_str (cM I q (by simp))
  | _=>exact absurd (show false=true from hs) dF
 | int i=>
  obtain⟨t,rfl⟩:=b
  cases y with
  | aE=>cases a;exact PySem.EqNone.eq_int_none (cM I q (by simp))
  | int j=>obtain⟨t',rfl⟩:=a;exact eq_int (cM I q wI)
  | str j=>obtain⟨t',rfl⟩:=a;exact PySem.EqMixed.eq_int_str (cM I q (by simp))
  | _=>exact absurd (show false=true from hs) dF
 | str i=>
  obtain⟨t,rfl⟩:=b
  cases y with
  | aE=>cases a;exact PySem.EqNone.eq_str_none (cM I q (by simp))
  | bl j=>cases a;exact PySem.EqMixed.eq_str_bool (cM I q (by simp))
  | int j=>obtain⟨t',rfl⟩:=a;exact PySem.EqMixed.eq_str_int (cM I q (by simp))
  | str j=>obtain⟨t',rfl⟩:=a;exact eq_str (cM I q zN)
  | _=>exact absurd (show false=true from hs) dF
 | eA i=>
  obtain⟨t,rfl⟩:=b
  cases y with
  | eA j=>obtain⟨t',rfl⟩:=a;exact PySem.W.eq_bytes (cM I q xT)
  | _=>exact absurd (show false=true from hs) dF
 | _=>cases y<;>exact absurd (show false=true from hs) dF
theorem ky:c3 X (compareOp .NotEq) IJ:=by
 intro pinsz_ s σ H x y v u Q I b a h;obtain⟨hs,q⟩:=h
 cases x with
 | aE=>
  cases b
  cases y with
  | aE=>cases a;exact PySem.EqNone.ne_none_none (cM I q (by simp))
  | bl j=>cases a;exact PySem.EqNone.ne_none_bool (cM I q (by simp))
  | int j=>obtain⟨t',rfl⟩:=a;exact PySem.EqNone.ne_none_int (cM I q (by simp))
  | str j=>obtain⟨t',rfl⟩:=a;exact PySem.EqNone.ne_none_str (cM I q (by simp))
  | _=>exact absurd (show false=true from hs) dF
 | bl i=>
  cases b
  cases y with
  | aE=>cases a;exact PySem.EqNone.ne_bool_none (cM I q (by simp))
  | bl j=>cases a;exact ne_bool (cM I q (da not xk))
  | str j=>obtain⟨t',rfl⟩:=a;exact PySem.EqMixed.ne_bool_str (cM I q (by simp))
  | _=>exact absurd (show false=true from hs) dF
 | int i=>
  obtain⟨t,rfl⟩:=b
  cases y with
  | aE=>cases a;exact PySem.EqNone.ne_int_none (cM I q (by simp))
  | int j=>obtain⟨t',rfl⟩:=a;exact ne_int (cM I q (da not wI))
  | str j=>obtain⟨t',rfl⟩:=a;exact PySem.EqMixed.ne_int_str (cM I q (by simp))
  | _=>exact absurd (show false=true from hs) dF
 | str i=>
  obtain⟨t,rfl⟩:=b
  cases y with
  | aE=>cases a;exact PySem.EqNone.ne_str_none (cM I q (by simp))
  | bl j=>cases a;exact PySem.EqMixed.ne_str_bool (cM I q (by simp))
  | int j=>obtain⟨t',rfl⟩:=a;exact PySem.EqMixed.ne_str_int (cM I q (by simp))
  | str j=>obtain⟨t',rfl⟩:=a;exact ne_str (cM I q (da not zN))
  | _=>exact absurd (show false=true from hs) dF
 | eA i=>
  obtain⟨t,rfl⟩:=b
  cases y with
  | eA j=>obtain⟨t',rfl⟩:=a;exact PySem.W.ne_bytes (cM I q (da not xT))
  | _=>exact absurd (show false=true from hs) dF
 | _=>cases y<;>exact absurd (show false=true from hs) dF
theorem fM:c3 X (compareOp .Lt) (fY λi j=> .bl (decide (i<j))):=qg λ_ _ _ _ _ _ _ q=>lt_int q
theorem uI:c3 X (compareOp .LtE) (fY λi j=> .bl (decide (i<=j))):=qg λ_ _ _ _ _ _ _ q=>le_int q
theorem cQ:c3 X (compareOp .Gt) (fY λi j=> .bl (decide (j<i))):=qg λ_ _ _ _ _ _ _ q=>gt_int q
theorem jP:c3 X (compareOp .GtE) (fY λi j=> .bl (decide (j<=i))):=qg λ_ _ _ _ _ _ _ q=>ge_int q
theorem hI (b:Expr)(h:op≠ .In:=by decide)(h2:op≠ .NotIn:=by decide):behindInMarks op b=false:=by
 have e1:(op==CmpOp.In)=false:=by cases op<;>first | rfl | exact absurd O h
 have a:(op==CmpOp.NotIn)=false:=by cases op<;>first | rfl | exact absurd O h2
 cases b<;>simp[behindInMarks,e1,a]
theorem hU {a:Expr}{tb:TE}{r:R2}(c:c3 X (compareOp op) r)(ha:PE X a ta)(d:PE X b tb)(hm:behindInMarks op b=false):PE X (.Compare a [op] [b] aH) (gw r ta tb):=by
 intro pinsz_ s σ H Q I h;exact wpAny_Compare1 (vl ha d I h λv u e x y H2 f g i q=>c pinsz_ e σ H2 x y v u Q f g i q) hm
inductive KU (Q:Bool->Hp->Prop)(x:V)(H':Hp):Prop
 | mk k (_:x= .bl k) (_:Q k H')
noncomputable def Ae (t:TE):TT:=λσ H Q=>t σ H λx H'=>KU Q x H'
theorem sI {a:Expr}{tb:TE}{r:R2}(d:c3 X (compareOp op) r)(ha:PE X a ta)(f:PE X b tb)(hm:behindInMarks op b=false):PT X (.Compare a [op] [b] aH) (Ae (gw r ta tb)):=by
 intro pinsz_ s σ H Q I h
 refine xw (bg (ha pinsz_ s σ H _ I h) λv g ⟨x,H1,i,j,l⟩=>bg (f pinsz_ g σ H1 _ i l) λu m ⟨y,H2,n,o,p⟩=>
  bg (d pinsz_ m σ H2 x y v u _ n j o p) λc D ⟨z,t,w,A,k,e,C⟩=>?_) hm
 subst e;cases A;exact oF ⟨t,w,C⟩
theorem p6:(sizeLine:Nat) <2 ^ 63:=by rw[qt];decide
theorem vals1 {x:V}(r:bt [x] us):∃u,us=[u]/\RelV x u:=by
 cases r with
 | cons a b=>cases b;exact⟨_,O,a⟩
theorem vals2 {x:V}(r:bt [x,y] us):∃u a,us=[u,a]/\RelV x u/\RelV y a:=by
 cases r with
 | cons b c=>
  cases c with
  | cons d e=>cases e;exact⟨_,_,O,b,d⟩
theorem Hj (hc:X.calm=true):lH X (.builtin "min") (λxs H Q=>∃i j,xs=[.int i,.int j]/\Q (.int (if j<i then j else i)) H):=by
 intro pinsz_ s σ H xs us Q I r h;obtain⟨i,j,rfl,q⟩:=h;obtain⟨u,b,rfl,⟨t,rfl⟩,t',rfl⟩:=vals2 r;refine min_two_ints (I.ok.hd hc) λh' tk k=>⟨_,H,I.kept k,?_,q⟩;by_cases a:j<i
 .rw[az a,az a];exact⟨_,O⟩
 .rw[ar a,ar a];exact⟨_,O⟩
structure mn (h:Heap)(x dx C:Addr)(mA:Str->Option Value):Prop where
 obj:h.get? x=some (instObj C dx)
 ns:h.Ns1 dx mA
 ne:dx≠x
theorem AX (n:h.Ns1 dx mA):∃od,h.get? dx=some od/\∀name,lookIn name od=some (mA name):=by
 obtain⟨o,es,f,b,hd,hk,_,hm⟩:=n;refine⟨o,b,λname=>?_⟩;have e:=hm name;unfold nsFind findBy at e;rw[<-Array.find?_toList] at e;unfold lookIn;rw[hd];dsimp only;split
 .rename_i y q;rw[q] at e;exact da some e
 .rename_i q;rw[q] at e
  have a:es.toList.any (·.refKey)=false:=by
   rw[List.any_eq_false];intro y hy;obtain⟨z,t,c⟩:=hk y (Array.mem_toList_iff.mp hy);simp[DictEntry.refKey,c]
  have d:¬es.toList.any (·.refKey)=true:=by rw[a];exact dF
  rw[ar d];exact da some e
theorem mn.look {x:Addr}(I:mn h x dx C mA):∃od,PySem.W.InstAt h x (instObj C dx) C (some od)/\∀name,lookIn name od=some (mA name):=
 let ⟨od,a,b⟩:=AX I.ns
 ⟨od,⟨I.obj,O,O,a⟩,b⟩
theorem Fg {x:Addr}{a:Bool}(X:K.In s.heap)(I:mn s.heap x dx C mA)(b:plainGet K C name=true)(c:hasDictIn K C=true)(ha:findIn K (.ref C) name=some none)(d:mA name=some v)(e:handedIn v=true)(h:Q v {s with toks:=s.toks+1}):
 wpAny (model prog w) A (getAttr (.ref x) name a) Q E s:=by
 obtain⟨od,f,g⟩:=I.look;exact PySem.W.get_value X f (PySem.W.plainGet_of b).1 (u0 c ha O (by rw[g,d])) e h
theorem GZ {x:Addr}{ns:List Str}{Q:Unit->Shared->Prop}(X:K.In s.heap)(I:mn s.heap x dx C mA)(hs:findIn K (.ref C) "__setattr__"=some (some (.builtin "object.__setattr__")))(f:plainOver K C=true)(g:takerIn K C name=some none)(i:hasDictIn K C=true)(j:PySem.Within mA ns)(hsz:ns.length<=sizeLine)(h:∀h',mn h' x dx C (λy=>if y=name then some v else mA y)->Heap.SameBut dx s.heap h'->Q () {s with heap:=h',toks:=s.toks+2}):
 wpAny (model prog w) A (setAttr (.ref x) name v) Q E s:=by
 obtain⟨od,c,o⟩:=I.look;refine PySem.W.set_plain X c hs (PySem.W.osa_open (s:={s with toks:=s.toks+1}) (r:=none) X c f g λb=>?_);obtain⟨cd,hc,k⟩:=PySem.W.any_some i;have hx:s.heap.get? x=some ⟨.ref C,some dx,.plain,#[]⟩:=I.obj;refine aT (b4 (aT (aT (wpAny_loadPart hx (aT (PySem.W.Looks.here (s:={s with toks:=s.toks+1}) (PySem.W.looks_clsIn X hc) ?_))))));rw[k];refine b4 (a:=some dx) (aT (b4 (aT (wx (s:={s with toks:=s.toks+1}) I.ns λh' d e=>?_))));obtain⟨p,t,u,l,m,n⟩:=d.count (PySem.Within.cons name v j);refine aT (vb l (by rw[m];exact rQ (bB n (by rw[bA];omega))) ?_);exact b4 (h _ ⟨(e.2 _ (eP I.ne)).trans I.obj,d,I.ne⟩ e)
theorem Jd {vs:List Value}(X:K.In s.heap)(hm:makesIn K C=true)(hi:findIn K (.ref C) "__init__"=some (some (.ref f)))(a:typeIn K (.ref f)=some (.type "function"))(h:codeAny (model prog w) (A.under (.builtin "type.__call__" ⟨.ref C::vs,kw⟩)) (.call (.ref f) ⟨.ref (s.heap.objs.size+1)::vs,kw⟩) (PySem.W.InitBack (s.heap.objs.size+1) R)
 {s with heap:=(s.heap.push emptyDict).push (instObj C s.heap.objs.size)}):
 codeAny (model prog w) A (.call (.ref C) ⟨vs,kw⟩) R s:=by
 obtain⟨b,g,d,t,os⟩:=s;exact PySem.W.make_core (PySem.W.makes_of X hm) (PySem.W.looks_findIn X hi) (λself=>PySem.W.bind_fn X self a) (.inl O) h
noncomputable def bM (f:Str)(v:V):List (Str×V)->List (Str×V)
 | []=>[(f,v)]
 | (g,x)::r=>if g=f then(g,v)::r else(g,x)::bM f v r
theorem yO (f g:Str)(v:V):∀fs:List (Str×V),(bM f v fs).lookup g=if g=f then some v else fs.lookup g
 | []=>by
  show List.lookup g [(f,v)]=_;by_cases h:g=f
  .have a:(g==f)=true:=beq_iff_eq.mpr h;simp only[List.lookup,a,az h]
  .have a:(g==f)=false:=beq_eq_false_iff_ne.mpr h
   simp only[List.lookup,a,ar h]
 | (k,x)::r=>by
  have b:=yO f g v r;rw[show bM f v ((k,x)::r)=(if k=f then(k,v)::r else(k,x)::bM f v r) from O];by_cases hk:k=f
  .rw[az hk];by_cases h:g=k
   .have a:(g==k)=true:=beq_iff_eq.mpr h;simp only[List.lookup,a,az (h.trans hk)]
   .have a:(g==k)=false:=beq_eq_false_iff_ne.mpr h;simp only[List.lookup,a,ar (λe:g=f=>h (e.trans hk.symm))]
  .rw[ar hk];by_cases h:g=k
   .have a:(g==k)=true:=beq_iff_eq.mpr h;simp only[List.lookup,a,ar (λe:g=f=>hk (h.symm.trans e))]
   .have a:(g==k)=false:=beq_eq_false_iff_ne.mpr h;simp only[List.lookup,a];exact b
theorem tr (f:Str)(v:V):∀fs:List (Str×V),f∈(bM f v fs).map (·.1)/\∀g,g∈fs.map (·.1)->g∈(bM f v fs).map (·.1)
 | []=>⟨by simp[bM],λg h=>by simp at h⟩
 | (k,x)::r=>by
  obtain⟨i1,i2⟩:=tr f v r;rw[show bM f v ((k,x)::r)=(if k=f then(k,v)::r else(k,x)::bM f v r) from O];by_cases hk:k=f
  .rw[az hk];subst hk;exact⟨by simp,λg h=>by simpa using h⟩
  .rw[ar hk];refine⟨?_,λg h=>?_⟩
   .rw[gZ];exact dw _ i1
   .rw[gZ] at h ⊢;rcases List.mem_cons.mp h with e | e
    .exact List.mem_cons.mpr (.inl e)
    .exact dw _ (i2 g e)
theorem Cv (f:Str)(v:V):∀fs:List (Str×V),(bM f v fs).length<=fs.length+1
 | []=>by simp[bM]
 | (k,x)::r=>by
  have a:=Cv f v r;rw[show bM f v ((k,x)::r)=(if k=f then(k,v)::r else(k,x)::bM f v r) from O];by_cases hk:k=f
  .rw[az hk,bA,bA];omega
  .rw[ar hk,bA,bA];omega
theorem kR.some_of {v:V}{o:Option Value}(r:kR (some v) o):∃u,o=some u/\RelV v u:=by
 cases o with
 | none=>exact(show False from r).elim
 | some u=>exact⟨u,O,r⟩
theorem M3 {v:V}(r:RelV v u):handedIn u=true:=by
 cases v with
 | aE=>cases (show u=Value.none from r);rfl
 | bl b=>cases (show u=Value.bool b from r);rfl
 | int i=>obtain⟨t,e⟩:=(show ∃t,u=Value.int i t from r);cases e;rfl
 | str x=>obtain⟨t,e⟩:=(show ∃t,u=Value.str x t from r);cases e;rfl
 | eA b=>obtain⟨t,e⟩:=(show ∃t,u=Value.bytes b t from r);cases e;rfl
 | oV b=>obtain⟨t,e⟩:=(show ∃t,u=Value.float b t from r);cases e;rfl
 | ref a=>cases (show u=Value.ref a from r);rfl
 | ty n=>cases (show u=Value.type n from r);rfl
theorem zf {fs:List (Str×V)}(aG:cA P w H h)(e:H a=some (.ins C dx fs)):∃mA,mn h a dx C mA/\(∀f,kR (fs.lookup f) (mA f))/\PySem.Within mA (fs.map (·.1))/\fs.length<=1000/\H dx=some (.own a):=by
 obtain⟨d,z,ne,b,mA,n,r,q⟩:=(show ee P w H h a (.ins C dx fs) from aG a _ e);exact⟨mA,⟨b,n,ne⟩,r,q,z,d⟩
structure o5 (K:Frag)(C:Addr):Prop where
 pg:plainGet K C Str.empty=true
 hd:hasDictIn K C=true
 po:plainOver K C=true
 sa:findIn K (.ref C) "__setattr__"=some (some (.builtin "object.__setattr__"))
theorem o5.get {K:Frag}(c:o5 K C)(f:Str):plainGet K C f=true:=c.pg
noncomputable def jA (K:Frag)(C:Addr)(f:Str):Prop:=findIn K (.ref C) f=some none
theorem jA.Jh {K:Frag}{f:Str}(n:jA K C f):takerIn K C f=some none:=by
 unfold takerIn;rw[show findIn K (.ref C) f=some none from n];rfl
theorem yS {σ:St}{fs:List (Str×V)}{f:Str}{v:V}{b:Bool}(I:Inv X pinsz_ σ H s)(e:H a=some (.ins C dx fs))(c:o5 X.K C)(n:jA X.K C f)(l:fs.lookup f=some v)(h:∀u s',Inv X pinsz_ σ H s'->RelV v u->Q u s'):wpAny (model X.prog X.w) A (getAttr (.ref a) f b) Q E s:=by
 obtain⟨mA,g,r,_,_,_⟩:=zf I.aG e;obtain⟨u,i,d⟩:=kR.some_of (v:=v) (o:=mA f) (by rw[<-l];exact r f);exact Fg I.ck g (c.get f) c.hd n i (M3 d) (h u _ (I.tok _) d)
theorem y5 {σ:St}{fs:List (Str×V)}{f:Str}{Q:Unit->Shared->Prop}(I:Inv X pinsz_ σ H s)(e:H a=some (.ins C dx fs))(c:o5 X.K C)(n:jA X.K C f)(D:fs.length<1000)(k:RelV y u)(h:∀s',Inv X pinsz_ σ (ah H a (.ins C dx (bM f y fs))) s'->Q () s'):wpAny (model X.prog X.w) A (setAttr (.ref a) f u) Q E s:=by
 obtain⟨mA,d,r,wi,_,j⟩:=zf I.aG e;have l:(fs.map (·.1)).length<=sizeLine:=by rw[aX,qt];omega
 refine GZ I.ck d c.sa c.po n.Jh c.hd wi l λh' i m=>h _ ?_;have hd:∃o,h'.get? dx=some o:=let ⟨o,_,_,p,_⟩:=i.ns;⟨o,p⟩
 refine I.write (x:=a) (e:=dx) (by rw[e];exact True.intro) (.inr j) (λb q t z=>(m.2 b t).trans z) hd ⟨by rw[ak d.ne];exact j,?_,d.ne,i.obj,_,i.ns,λg=>?_,λg v=>?_⟩
 .have:=Cv f y fs;omega
 .show kR ((bM f y fs).lookup g) (if g=f then some u else mA g);rw[yO];by_cases q:g=f
  .rw[az q,az q];exact k
  .rw[ar q,ar q];exact r g
 .by_cases q:g=f
  .rw[q];exact(tr f y fs).1
  .refine(tr f y fs).2 g (wi g λz=>v ?_);show(if g=f then some u else mA g)=none;rw[ar q];exact z
theorem Inv.made {σ:St}(I:Inv X pinsz_ σ H s):Inv X pinsz_ σ (ah (ah H s.heap.objs.size (.own (s.heap.objs.size+1))) (s.heap.objs.size+1) (.ins C s.heap.objs.size []))
 {s with heap:=(s.heap.push emptyDict).push (instObj C s.heap.objs.size)}:=by
 have e1:(s.heap.push emptyDict).get? s.heap.objs.size=some emptyDict:=fW s.heap O
 have c:((s.heap.push emptyDict).push (instObj C s.heap.objs.size)).get? (s.heap.objs.size+1)=some (instObj C s.heap.objs.size):=by
  have:=fW (s.heap.push emptyDict) (o:=instObj C s.heap.objs.size) O;rwa [fD] at this
 have e3:(s.heap.push emptyDict).Ns s.heap.objs.size (λ_=>none):=⟨emptyDict,#[],_,e1,O,(λe he=>absurd he (by simp)),λ_=>rfl⟩;have d:=I.laid (a:=s.heap.objs.size) (o:= .own (s.heap.objs.size+1)) (h':=s.heap.push emptyDict) (t':=s.toks) (λb u q=>cw _ q) (bY _) ⟨_,e1⟩;refine d.laid (a:=s.heap.objs.size+1) (o:= .ins C s.heap.objs.size []) (t':=s.toks) (λb u q=>cw _ q) (nY (fD _ _)) ?_;have ne:s.heap.objs.size≠s.heap.objs.size+1:=dh (rZ _);refine⟨by rw[ak ne,au],b3 _,ne,c,λ_=>none,(Heap.Ns1.of_empty e3).at λo q=>cw _ q,λ_=>True.intro,λy hy=>absurd rfl hy⟩
theorem Bc {f:Str}(a:attributeBase e f env (eval e env)=eval e env)(h:wpAny (model prog w) A (eval e env) (λo b=>wpAny (model prog w) A (getAttr o f true) Q E b) E s):wpAny (model prog w) A (eval (.Attribute e f aH) env) Q E s:=
 Attribute_any_ h (by rw[arm_eval_Attribute,a])
noncomputable def zX (X:Cx)(op:Operator)(rd:V->V->Hp->VK->Prop):Prop:=
 ∀(pinsz_:List (Addr×Obj)) (s:Shared) (σ:St) (H:Hp) (x y:V) (u v:Value) (Q:VK),Inv X pinsz_ σ H s->RelV x u->RelV y v->rd x y H Q->wpAny (model X.prog X.w) X.A (inplaceOp op u v) (EP X pinsz_ σ Q) X.xe s
inductive Gj (x:V)(y:V)(H:Hp)(Q:VK):Prop
 | mk i j (_:x= .int i) (_:y= .int j) (_:Q (.int (i+j)) H)
theorem iQ:zX X .Add Gj:=by
 rintro pinsz_ s σ H x y u v Q I a b ⟨i,j,rfl,rfl,q⟩;obtain⟨t,rfl⟩:=(show ∃t,u=Value.int i t from a);obtain⟨t',rfl⟩:=(show ∃t',v=Value.int j t' from b);exact PyProof.Rows.iadd_int ⟨.int (i+j),H,I.tok _,⟨_,O⟩,q⟩
noncomputable def ez (k:Nat):Bool:=Nat.ble 4 k
theorem v7 (h:j<=k)(c:ez j=true):ez k=true:=by
 unfold ez at*;have:=Bu c;exact Nat.ble_eq_true_of_le af
structure bT (k:Nat)(A:Around):Prop where
 hd:ez k=true->A.handled=none
 dp:A.depth+3*k+5<recursionLimit
 un:A.units+16*k+200<cLine
theorem bT.mono (r:bT k A)(h:j<=k):bT j A:=⟨λz=>r.hd (v7 h z),by have:=r.dp;omega,by have:=r.un;omega⟩
theorem bT.deeper {k:Nat}{A:Around}(r:bT (k+1) A)(env:Env):bT k (A.deeper env):=
 ⟨λz=>r.hd (v7 (kP _) z),by have:=r.dp;show A.depth+1+3*k+5<_;omega,by have:=r.un;show A.units+3+16*k+200<_;omega⟩
theorem MB:(A.under (.builtin "type.__call__" ⟨.ref C::us,kw⟩)).depth=A.depth+1:=by
 first | rfl | simp[Around.under,Code.weight,Code.isCreation,Code.isGuard,Code.isCaller,Code.frames,Code.isFrame,guardIds]
theorem Lw:(A.under (.builtin "type.__call__" ⟨.ref C::us,kw⟩)).units=A.units+1:=by
 first | rfl | simp[Around.under,Code.cUnits,Code.frames,Code.isFrame]
theorem bT.make (r:bT (k+1) A)(C:Addr)(us:List Value)(kw:List (Str×Value)):bT k (A.under (.builtin "type.__call__" ⟨.ref C::us,kw⟩)):=
 ⟨λz=>r.hd (v7 (kP _) z),by have:=r.dp;rw[MB];omega,by have:=r.un;rw[Lw];omega⟩
theorem bT.depth {k:Nat}{A:Around}(r:bT k A):A.depth<recursionLimit:=by have:=r.dp;omega
theorem bT.units {k:Nat}{A:Around}(r:bT k A):A.units+64<cLine:=by have:=r.un;omega
noncomputable def eE:TA:=λ_ H Q=>Q [] H
noncomputable def c9 (ta:TE)(a:TA):TA:=λσ H Q=>ta σ H λx H1=>a σ H1 λxs H2=>Q (x::xs) H2
theorem fw:PA X [] eE:=λ_ _ _ _ H Q I h=>Calls.spliced_nil ⟨[],H,I,.nil,h⟩
theorem a_ (ha:PE X e te)(a:PA X es t)(hs:starEach (e::es) X.env=(false,eval e X.env)::starEach es X.env:=by rfl):PA X (e::es) (c9 te t):=by
 intro aH pinsz_ s σ H Q I h;rw[hs];show wpAny _ _ (spliced ((false,eval e X.env)::backTo aH (starEach es X.env))) _ _ s;exact Calls.spliced_cons (bg (ha pinsz_ s σ H _ I h) λu b ⟨x,H1,c,d,f⟩=>bg (a aH pinsz_ b σ H1 _ c f) λus k ⟨xs,H2,g,i,j⟩=>⟨x::xs,H2,g,.cons d i,j⟩)
noncomputable def Md (t:TA):TE:=λσ H Q=>t σ H λxs H1=>xs.length<=sizeLine/\∀p,H1 p=none->Q (.ref p) (ah H1 p (.tup xs))
noncomputable def qn (t:TA):TE:=λσ H Q=>t σ H λxs H1=>xs.length<=sizeLine/\∀p,H1 p=none->Q (.ref p) (ah H1 p (.lst xs))
theorem lS {d}(h:PA X es t):PE X (.Tuple es d aH) (Md t):=by
 intro pinsz_ s σ H Q I f;refine wpAny_Tuple_spliced (bg (h aH pinsz_ s σ H _ I f) λus a ⟨xs,H1,c,r,z,q⟩=>⟨by rw[<-r.length];exact z,?_⟩);have g:H1 a.heap.objs.size=none:=c.aG.fresh (bY _);refine⟨.ref a.heap.objs.size,ah H1 a.heap.objs.size (.tup xs),c.laid (t':=a.toks) (λb u e=>cw _ e) (bY _) ?_,O,q _ g⟩;exact⟨z,us,r,_,fW _ O,O,_,O⟩
theorem bK (h:PA X es t):PE X (.List es aH) (qn t):=by
 intro pinsz_ s σ H Q I d;refine wpAny_List_spliced (bg (h aH pinsz_ s σ H _ I d) λus a ⟨xs,H1,c,r,z,q⟩=>⟨by rw[<-r.length];exact z,?_⟩);have f:H1 a.heap.objs.size=none:=c.aG.fresh (bY _);refine⟨.ref a.heap.objs.size,ah H1 a.heap.objs.size (.lst xs),c.laid (t':=a.toks) (λb u e=>cw _ e) (bY _) ?_,O,q _ f⟩;exact⟨z,us,0,r,fW _ O⟩
abbrev Sp:=List V->Hp->VK->XK->Prop
abbrev gN:=List Env->Hp->Shared->XK->Value->Shared->Prop
structure km (P:Program)(w:World)(K:Frag)(mg:Str->Option Value)(base:Heap)(A:Around)(outer:List Env)(s:Shared)(H:Hp):Prop where
 frames:A.frames=some outer
 mod:Mod K mg base
 bs:∀b o,base.get? b=some o->s.heap.get? b=some o/\H b=none
 fP:base.objs.size<=s.heap.objs.size
 ea:s.heap.FunFrames base outer
 hR:∀b∈dn outer,H b=none
 aG:cA P w H s.heap
 bare:AllBare s.gens
noncomputable def CE (outer:List Env)(P:Program)(w:World)(H:Hp)(s:Shared)(Q:VK)(u:Value)(s':Shared):Prop:=
 ∃v H',s'.os=s.os/\AllBare s'.gens/\Un (dn outer) [] H H' s.heap s'.heap/\cA P w H' s'.heap/\RelV v u/\Q v H'
noncomputable def CR (CX:gN)(outer:List Env)(P:Program)(w:World)(H:Hp)(s:Shared)(Q:VK)(E:XK)(r:Result)(s':Shared):Prop:=
 match r with
 | .ok (.ret u)=>CE outer P w H s Q u s'
 | .ok _=>False
 | .error e=>CX outer H s E e s'
structure cP (P:Program)(w:World)(K:Frag)(mg:Str->Option Value)(base:Heap)(CX:gN)(k:Nat)(f:Addr)(fd:FuncData)(ps:List Str)(sp:Sp):Prop where
 len:∀vs H Q E,sp vs H Q E->vs.length=ps.length
 run:∀(A:Around) (outer:List Env) (s:Shared) (H:Hp) (args:Args) (us:List Value) (vs:List V) (Q:VK) (E:XK),bT k A->km P w K mg base A outer s H->BindsTo s fd args (ps.zip us)->bt vs us->sp vs H Q E->
  codeAny (model P w) A (.call (.ref f) args) (CR CX outer P w H s Q E) s
theorem km.make {K:Frag}(e:km P w K mg base A outer s H)(C:Addr)(us:List Value)(kw:List (Str×Value)):
 km P w K mg base (A.under (.builtin "type.__call__" ⟨.ref C::us,kw⟩)) outer s H:=⟨by first | exact e.frames | (simpa [Around.under,Code.envs,Code.isFrame,pushEnvs] using e.frames),e.mod,e.bs,e.fP,e.ea,e.hR,e.aG,e.bare⟩
theorem Inv.om {σ:St}(I:Inv X pinsz_ σ H s):km X.prog X.w X.K X.mg X.base X.A X.stack s H:=
 ⟨I.ok.frames,I.ok.mod,I.bs,bB I.ok.fP I.sz,I.stack,I.uW,I.aG,I.bare⟩
theorem Inv.after {σ:St}{Q:VK}(I:Inv X pinsz_ σ H s)(h:CE X.stack X.prog X.w H s Q u s'):EP X pinsz_ σ Q u s':=by
 obtain⟨v,H',os,bare,un,aG,r,q⟩:=h;obtain⟨a,g,d,t,c⟩:=s';obtain rfl:c=s.os:=os;exact⟨v,H',I.call (h':=a) (g':=g) (d':=d) (t':=t) (ch:=[]) un aG bare (λb z=>absurd z (by simp)),r,q⟩
noncomputable def jZ (sp:Sp)(eu:List V)(E:XK)(t:TA):TE:=λσ H Q=>t σ H λvs H1=>sp (vs++eu) H1 Q E
noncomputable def lq (C:Addr)(sp:Sp)(eu:List V)(E:XK)(t:TA):TE:=λσ H Q=>t σ H λvs H1=>∀x dx,H1 x=none->H1 dx=none->dx≠x->
 sp (.ref x::(vs++eu)) (ah (ah H1 dx (.own x)) x (.ins C dx [])) (λv H2=>v= .aE/\Q (.ref x) H2) E
noncomputable def Binds (K:Frag)(fd:FuncData)(ps:List Str)(ds:List Value):Prop:=
 ∀(s:Shared) (us:List Value),K.In s.heap->(us++ds).length=ps.length->BindsTo s fd ⟨us,[]⟩ (ps.zip (us++ds))
theorem Binds.all {K:Frag}(h:∀us:List Value,us.length=ps.length->bindArgs fd ⟨us,[]⟩=pure (ps.zip us)):Binds K fd ps []:=λs us _ a=>by
 rw[et] at a ⊢;exact .of_eq (h us a)
noncomputable def mY (CX:gN)(X:Cx)(E:XK):Prop:=∀(pinsz_:List (Addr×Obj)) (σ:St) (H:Hp) (s:Shared) (e:Value) (s':Shared),Inv X pinsz_ σ H s->CX X.stack H s E e s'->X.xe e s'
theorem Kx {E:XK}{σ:St}{Q:VK}{vs:List V}(F:cP X.prog X.w X.K X.mg X.base CX k f fd ps sp)(c:bT k X.A)(d:Binds X.K fd ps ds)(hd:bt eu ds)(hx:mY CX X E)(I:Inv X pinsz_ σ H s)(r:bt vs us)(h:sp (vs++eu) H Q E):wpAny (model X.prog X.w) X.A (call (.ref f) us) (EP X pinsz_ σ Q) X.xe s:=by
 have b:bt (vs++eu) (us++ds):=r.append hd;have g:(us++ds).length=ps.length:=by rw[<-b.length];exact F.len _ _ _ _ h
 refine hn (k4 (F.run X.A X.stack s H ⟨us,[]⟩ (us++ds) (vs++eu) Q E c I.om (d s us I.ck g) b h) λr s' a=>?_)
 cases r with
 | error e=>exact hx pinsz_ σ H s e s' I a
 | ok fl=>
  cases fl with
  | ret u=>exact I.after a
  | next=>exact False.elim a
  | brk=>exact False.elim a
  | cont=>exact False.elim a
theorem G3 {E:XK}(F:cP X.prog X.w X.K X.mg X.base CX k f fd ps sp)(b:bT k X.A)(c:Gl X x)(hm:X.mg x=some (.ref f))(hk:keepIn X.K (.ref f)=true)(d:Binds X.K fd ps ds)(hd:bt eu ds)(hx:mY CX X E)(ha:PA X (e::es) t)(g:(x==("__debug__":Str))=false:=by decide)(he:starEach (e::es) X.env=(false,eval e X.env)::starEach es X.env:=by rfl)(i:(backTo aH (starEach es X.env)).any (·.1)=false:=by rfl):
 PE X (.Call (.Name x p) (e::es) [] aH) (jZ sp eu E t):=by
 intro pinsz_ s σ H Q I h;refine g6 (eV I c hm ?_ g);refine m5 (h₀:=X.base) I.ok.mod.kc hk (bg (ha aH pinsz_ s σ H _ I h) λus j ⟨vs,H1,a,r,q⟩=>⟨a.ck,?_⟩) he i;exact Kx F b d hd hx a r q
structure Mk (K:Frag)(C f:Addr):Prop where
 makes:makesIn K C=true
 init:findIn K (.ref C) "__init__"=some (some (.ref f))
 fn:isFn K (.ref f)=true
 kp:keepIn K (.ref C)=true
theorem yi {E:XK}{σ:St}{Q:VK}{vs:List V}(M:Mk X.K C f)(F:cP X.prog X.w X.K X.mg X.base CX k f fd ps sp)(g:bT (k+1) X.A)(i:Binds X.K fd ps ds)(hd:bt eu ds)(hx:mY CX X E)(I:Inv X pinsz_ σ H s)(r:bt vs us)(h:∀x dx,H x=none->H dx=none->dx≠x->sp (.ref x::(vs++eu)) (ah (ah H dx (.own x)) x (.ins C dx [])) (λv H2=>v= .aE/\Q (.ref x) H2) E):
 wpAny (model X.prog X.w) X.A (call (.ref C) us) (EP X pinsz_ σ Q) X.xe s:=by
 have c:=h (s.heap.objs.size+1) s.heap.objs.size (I.aG.fresh (kP _)) (I.aG.fresh (bY _)) (dh (rZ _));have b:=Inv.made (C:=C) I;have d:bt (V.ref (s.heap.objs.size+1)::(vs++eu)) (Value.ref (s.heap.objs.size+1)::(us++ds)):= .cons O (r.append hd)
 have j:(Value.ref (s.heap.objs.size+1)::us++ds).length=ps.length:=by
  have e:=d.length;rw[F.len _ _ _ _ c] at e;exact e.symm
 refine hn (Jd (f:=f) I.ck M.makes M.init (beq_iff_eq.mp M.fn) (k4 (F.run _ X.stack _ _ ⟨Value.ref (s.heap.objs.size+1)::us,[]⟩ (Value.ref (s.heap.objs.size+1)::(us++ds)) _ _ E (g.make C us [])
  (b.om.make C us []) (i _ (Value.ref (s.heap.objs.size+1)::us) b.ck j) d c) λr s' a=>?_))
 cases r with
 | error e=>exact hx pinsz_ σ _ _ e s' b a
 | ok fl=>
  cases fl with
  | ret u=>
   obtain⟨v,H',l,m,ev,n⟩:=b.after a;subst ev
   exact⟨m,V.ref (s.heap.objs.size+1),H',l,O,n⟩
  | next=>exact False.elim a
  | brk=>exact False.elim a
  | cont=>exact False.elim a
theorem J1 {E:XK}(M:Mk X.K C f)(F:cP X.prog X.w X.K X.mg X.base CX k f fd ps sp)(b:bT (k+1) X.A)(c:Gl X x)(hm:X.mg x=some (.ref C))(d:Binds X.K fd ps ds)(hd:bt eu ds)(hx:mY CX X E)(ha:PA X (e::es) t)(g:(x==("__debug__":Str))=false:=by decide)(he:starEach (e::es) X.env=(false,eval e X.env)::starEach es X.env:=by rfl)(i:(backTo aH (starEach es X.env)).any (·.1)=false:=by rfl):
 PE X (.Call (.Name x p) (e::es) [] aH) (lq C sp eu E t):=by
 intro pinsz_ s σ H Q I h;refine g6 (eV I c hm ?_ g);refine m5 (h₀:=X.base) I.ok.mod.kc M.kp (bg (ha aH pinsz_ s σ H _ I h) λus j ⟨vs,H1,a,r,q⟩=>⟨a.ck,?_⟩) he i;exact yi M F b d hd hx a r q
theorem Ha {E:XK}(M:Mk X.K C f)(F:cP X.prog X.w X.K X.mg X.base CX k f fd ps sp)(a:bT (k+1) X.A)(b:Gl X x)(hm:X.mg x=some (.ref C))(c:Binds X.K fd ps ds)(hd:bt eu ds)(hx:mY CX X E)(d:(x==("__debug__":Str))=false:=by decide):PE X (.Call (.Name x p) [] [] aH) (lq C sp eu E eE):=by
 intro pinsz_ s σ H Q I h;refine g6 (eV I b hm ?_ d);exact vi I.ck M.kp (yi (us:=[]) M F a c hd hx I .nil h)
structure c4 (N P:List Str)(sc:Scope):Prop where
 kind:sc.kind= .function
 co:sc.isCoroutine=false
 gen:sc.isGenerator=false
 nd:N.Nodup
 pre:N.take P.length=P
 par:∀x∈P,sc.names.lookup x=some .local∨sc.names.lookup x=some .cell
 Fs:∀y∈sc.names,y.2≠ .free
theorem xS {kindOf:Str->Option NameKind}{x:Str}:∀{binds:List (Str×Value)} {m:Str->Option Value},(∀v,(x,v)∉binds)->bindL kindOf binds m x=m x
 | [],_,_=>rfl
 | (n,v)::r,m,h=>by
  unfold bindL;rw[xS λw a=>h w (dw _ a)];split
  .have:x≠n:=by rintro rfl;exact h v cq
   simp[this]
  .rfl
theorem xI {kindOf:Str->Option NameKind}{x:Str}:∀{binds:List (Str×Value)} {m:Str->Option Value},(∀v,(x,v)∉binds)->bindC kindOf binds m x=m x
 | [],_,_=>rfl
 | (n,v)::r,m,h=>by
  unfold bindC;rw[xI λw a=>h w (dw _ a)];split
  .rfl
  .have:x≠n:=by rintro rfl;exact h v cq
   simp[this]
theorem yZ {kindOf:Str->Option NameKind}{x:Str}{v:Value}:∀{P:List Str} {vs:List Value} {i:Nat} {m:Str->Option Value},P.Nodup->P[i]?=some x->vs[i]?=some v->kindOf x=some .local->
 bindL kindOf (P.zip vs) m x=some v
 | [],_,_,_,_,h,_,_=>by simp at h
 | _::_,[],_,_,_,_,h,_=>by simp at h
 | p::P,w::vs,0,m,nd,h1,h2,hk=>by
  simp at h1 h2;subst h1;subst h2;show bindL kindOf ((p,w)::P.zip vs) m p=_;unfold bindL;rw[xS λv a=>(List.nodup_cons.mp nd).1 (tM a).1,az hk]
  simp
 | p::P,w::vs,i+1,m,nd,h1,h2,hk=>by
  show bindL kindOf ((p,w)::P.zip vs) m x=_;unfold bindL;exact yZ (i:=i) (List.nodup_cons.mp nd).2 (by simpa using h1) (by simpa using h2) hk
theorem Cz {kindOf:Str->Option NameKind}{x:Str}{v:Value}:∀{P:List Str} {vs:List Value} {i:Nat} {m:Str->Option Value},P.Nodup->P[i]?=some x->vs[i]?=some v->kindOf x≠some .local->
 bindC kindOf (P.zip vs) m x=some v
 | [],_,_,_,_,h,_,_=>by simp at h
 | _::_,[],_,_,_,_,h,_=>by simp at h
 | p::P,w::vs,0,m,nd,h1,h2,hk=>by
  simp at h1 h2;subst h1;subst h2;show bindC kindOf ((p,w)::P.zip vs) m p=_;unfold bindC;rw[xI λv a=>(List.nodup_cons.mp nd).1 (tM a).1,ar hk]
  simp
 | p::P,w::vs,i+1,m,nd,h1,h2,hk=>by
  show bindC kindOf ((p,w)::P.zip vs) m x=_;unfold bindC;exact Cz (i:=i) (List.nodup_cons.mp nd).2 (by simpa using h1) (by simpa using h2) hk
noncomputable def start (N:List Str)(vs:List V):St:=vs.map some++List.replicate (N.length - vs.length) none
noncomputable def dX (cm:Bool)(CX:gN)(P:Program)(w:World)(K:Frag)(mg:Str->Option Value)(base:Heap)(N:List Str)(bN:Str)(scope:Scope)(f:Addr)(cd:Value)(A:Around)(outer:List Env)(s:Shared)(H:Hp)(E:XK):Cx where
 prog:=P
 w:=w
 K:=K
 mg:=mg
 base:=base
 A:=A.deeper (envOfC bN scope s.heap.objs.size f cd)
 N:=N
 s_0:=s
 H_0:=H
 env:=envOfC bN scope s.heap.objs.size f cd
 outer:=outer
 stack:=envOfC bN scope s.heap.objs.size f cd::outer
 ex:=[]
 calm:=cm
 fn:=λ_=>true
 pn:=[]
 xe:=λe s'=>wpAny (model P w) (A.deeper (envOfC bN scope s.heap.objs.size f cd)) («leaving» (envOfC bN scope s.heap.objs.size f cd) e) (λ_ a=>CX outer H s E e a) (λb a=>CX outer H s E b a) s'
theorem zU (h:sc.names.lookup x=some .cell):∃c,(cellsFrom n sc.names []).lookup x=some c:=by
 have q:=wX sc.names n [] (.inl h);exact Option.isSome_iff_exists.mp q
theorem EJ {K:Frag}{l:Shared}{E:XK}{vs:List V}(S:c4 N ps scope)(hd:cm=true->A.handled=none)(d:km P w K mg base A outer s H)(C:vs.length=ps.length)(r:bt vs us)(x:InCallC s s.heap.objs.size (bindL (envOfC bN scope s.heap.objs.size f cd).kindOf (ps.zip us) λ_=>none) (cellsFrom (s.heap.objs.size+1) scope.names []) (bindC (envOfC bN scope s.heap.objs.size f cd).kindOf (ps.zip us) λ_=>none) l):
 Inv (dX cm CX P w K mg base N bN scope f cd A outer s H E) [] (start N vs) H l:=by
 have D:ps.length<=N.length:=by have:=da List.length S.pre;rw[cF] at this;omega
 obtain⟨h1,tk,rfl,hk⟩:=x.done;have j:∀b:Addr,b∉(dX cm CX P w K mg base N bN scope f cd A outer s H E).ex:=λb z=>absurd (show b∈([]:List Addr) from z) (by simp)
 refine⟨⟨d.mod,S.kind,O,O,bY _,λy z c h1 h2=>?_,λy hy=>?_,λy c _ h=>?_,hd,Around.frames_deeper d.frames,.inr ⟨O,O⟩,λb z=>absurd z (j b),d.bs,d.fP,λb _ _=>j b,λb z=>absurd z (j b),d.ea,d.hR⟩,
  rfl,d.bare,Un.kept hk,⟨_,x.toInCall.ns,λi y v h1 h2 G=>?_⟩,λy c h=>⟨_,x.cell y c h⟩,d.aG.fresh (bY _),λy c h=>?_,λp g=>absurd (show p∈([]:List (Addr×Obj)) from g) (by simp),d.aG.kept hk,?_⟩
 .exact name_of_addr x.apart (fh h1) (fh h2)
 .have hy:scope.names.lookup y=some .cell∨scope.names.lookup y=some .free:=hy;rcases hy with hy | hy
  .exact zU hy
  .exact absurd O (S.Fs _ (fh hy))
 .exact eY (x.above y c (fh h))
 .have hi:i<vs.length:=by
   unfold start at h2;by_cases hi:i<vs.length
   .exact hi
   .rw[qw (by simpa using hi)] at h2;rw[vn] at h2;split at h2<;>cases h2
  have ha:vs[i]?=some v:=by
   unfold start at h2;rw[k9 (by simpa using hi),dk] at h2
   cases e:vs[i]? with
   | none=>rw[e] at h2;cases h2
   | some a=>rw[e] at h2;cases h2;rfl
  obtain⟨u,m,t⟩:=r.get ha
  have g:ps[i]?=some y:=by
   rw[<-S.pre,List.getElem?_take_of_lt af];exact h1
  have o:ps.Nodup:=by rw[<-S.pre];exact S.nd.sublist (List.take_sublist _ _)
  refine⟨u,t,?_⟩;rcases S.par y (fx g) with k | k
  .exact .inl ⟨k,yZ o g m k⟩
  .obtain⟨c,e⟩:=zU (n:=s.heap.objs.size+1) k;refine .inr ⟨.inl k,c,e,?_⟩;have q:=x.cell y c e;rw[Cz o g m (by show scope.names.lookup y≠_;rw[k];decide)] at q;exact q
 .exact d.aG.fresh (eY (x.above y c (fh h)))
 .unfold start;show _=N.length;rw[aP,aX,pZ];omega
theorem qJ {K:Frag}{params:Arguments}{i kV:Value}{an:Option Addr}(lk:K.lookup f=some ⟨oc,od,.func (fnOf name bN params body scope i kV cL pm an bc ct),cX⟩)(m:codeIn K bc bN=true)(S:c4 N ps scope)(len:∀vs H Q E,sp vs H Q E->vs.length=ps.length)(p:∀(A:Around) (outer:List Env) (s:Shared) (H:Hp) (vs:List V) (Q:VK) (E:XK),bT k (A.deeper (envOfC bN scope s.heap.objs.size f bc))->sp vs H Q E->
 ∃t,cT (dX (ez (k+1)) CX P w K mg base N bN scope f bc A outer s H E) body t/\t {nx:=λ_ H'=>Q .aE H',rt:=Q} (start N vs) H):
 cP P w K mg base CX (k+1) f (fnOf name bN params body scope i kV cL pm an bc ct) ps sp:=by
 refine⟨len,λA outer s H args us vs Q E g c z r j=>?_⟩;have C:=len _ _ _ _ j;have KX:K.In s.heap:=c.mod.kc.keeps λb o e=>(c.bs b o e).1;have D:s.heap.NoLimit:=c.mod.nolimit.keeps λb o e=>(c.bs b o e).1
 have G:∀y∈ps.zip us,scope.names.lookup y.1=some .local∨(scope.names.lookup y.1=some .cell/\((cellsFrom (s.heap.objs.size+1) scope.names []).lookup y.1).isSome=true):=λ⟨n,v⟩ hy=>by
  rcases S.par n (tM hy).1 with q | q
  .exact .inl q
  .exact .inr ⟨q,wX _ _ _ (.inl q)⟩
 refine codeAny_call_function g.depth (KX _ _ lk) O S.co S.gen O (As KX m) (z _ _ _ _ (wpAny_newFunctionEnv_cells S.kind G λenv he l x=>?_));subst he;refine⟨D.keeps x.toInCall.keep,codeAny_func ?_⟩;obtain⟨t,J,M⟩:=p A outer s H vs Q E (g.deeper _) j;have I:Inv (dX (ez (k+1)) CX P w K mg base N bN scope f bc A outer s H E) [] (start N vs) H l:=EJ S g.hd c C r x;refine df (J [] l (start N vs) H _ I M) (λfl s' hs=>?_) λe s' hs=>hs
 have fin:∀{d:St} {H':Hp} {v:V} {u:Value},Inv (dX (ez (k+1)) CX P w K mg base N bN scope f bc A outer s H E) [] d H' s'->RelV v u->Q v H'->CE outer P w H s Q u s':=
  λ{d H' v u} a h q=>⟨v,H',a.os,a.bare,a.base,a.aG,h,q⟩
 cases fl with
 | ret u=>
  obtain⟨v,d,H',a,h,q⟩:=hs
  exact fin a h q
 | next=>
  obtain⟨d,H',a,q⟩:=hs
  exact fin (v:=V.aE) (u:=Value.none) a O q
 | brk=>
  obtain⟨_,_,_,q⟩:=hs
  exact False.elim q
 | cont=>
  obtain⟨_,_,_,q⟩:=hs;exact False.elim q
noncomputable def pG (r:List V->Hp->VK->Prop)(t:TA):TE:=λσ H Q=>t σ H λvs H1=>r vs H1 Q
theorem lP {id:String}(hc:lH X (.builtin id) r)(a:Gl X x)(hm:X.mg x=none)(b:bootBuiltins x=some (.builtin id))(ha:PA X (e::es) t)(c:x≠"__name__":=by decide)(d:(x==("__debug__":Str))=false:=by decide)(he:starEach (e::es) X.env=(false,eval e X.env)::starEach es X.env:=by rfl)(f:(backTo aH (starEach es X.env)).any (·.1)=false:=by rfl):PE X (.Call (.Name x p) (e::es) [] aH) (pG r t):=by
 intro pinsz_ s σ H Q I h;refine g6 (qH I a hm b ?_ c d);exact PyProof.Rows.callWith_builtin1 (bg (ha aH pinsz_ s σ H _ I h) λus g ⟨vs,H1,i,j,k⟩=>hc pinsz_ g σ H1 vs us Q i j k) he f
theorem ra (hc:lH X (.type T) r)(a:Gl X x)(hm:X.mg x=none)(b:bootBuiltins x=some (.type T))(ha:PA X (e::es) t)(c:x≠"__name__":=by decide)(d:(x==("__debug__":Str))=false:=by decide)(he:starEach (e::es) X.env=(false,eval e X.env)::starEach es X.env:=by rfl)(f:(backTo aH (starEach es X.env)).any (·.1)=false:=by rfl):PE X (.Call (.Name x p) (e::es) [] aH) (pG r t):=by
 intro pinsz_ s σ H Q I h;refine g6 (qH I a hm b ?_ c d);exact uF (bg (ha aH pinsz_ s σ H _ I h) λus g ⟨vs,H1,i,j,k⟩=>hc pinsz_ g σ H1 vs us Q i j k) he f
end L2
namespace HT
open PySem PyProof.Rows
noncomputable def dU (n d:Nat):Option Int->Nat
 | none=>d
 | some v=>if v<0 then(v+(n:Int)).toNat else min v.toNat n
theorem pC (n d k:Nat):dU n d (some (k:Int))=min k n:=by
 show(if(k:Int) <0 then((k:Int)+(n:Int)).toNat else min (k:Int).toNat n)=min k n;rw[ar af,ep]
end HT
namespace L2
open PySem PySem.Spec PyProof.Rows
open PySem.W (Frag callWith_K callWith_K0 cellsFrom_some codeIn codeRec_of emptyDict findIn findObj_own fnOf handedIn hasDictIn instObj isFn keepIn lookIn makesIn methodObj notCls nsIn nsOkIn plainGet plainOver takerIn typeIn)
variable {A:Around} {E Q:Value->Shared->Prop} {H H' H1:Hp} {K:PySem.W.Frag} {T:String} {X:Cx} {a f l:Addr} {b c e hF:Expr} {dW p aH:Pos} {d:Drawn} {ds aD its' us:List Value} {es:List Expr} {ex:List Addr} {h h' h1:Heap} {hi lo:Option Expr} {i j k n t':Nat} {name x:Str} {o:HO} {pinsz_:List (Addr×Obj)} {prog:Program} {q:Addr×Obj} {r:List V->Hp->VK->Prop} {s s':Shared} {st:Stmt} {t:TA} {ta te tl to:TE} {tb:Option (Addr×Value)} {th:TS} {u v:Value} {vs:Array Value} {w:World} {xs ys:List V} {y:V} {α:Type} {σ:List (Option V)}
abbrev TO:=St->Hp->(Option Int->Hp->Prop)->Prop
noncomputable def PO (X:Cx)(e:Option Expr)(t:TO):Prop:=
 ∀(pinsz_:List (Addr×Obj)) (s:Shared) (σ:St) (H:Hp) (Q:Option Int->Hp->Prop),Inv X pinsz_ σ H s->t σ H Q->
  wpAny (model X.prog X.w) X.A (evalPart e X.env) (λu s'=>∃o H',Inv X pinsz_ σ H' s'/\IsPart u o/\Q o H') X.xe s
noncomputable def Gp:TO:=λ_ H Q=>Q none H
inductive Iv (Q:Option Int->Hp->Prop)(x:V)(H1:Hp):Prop
 | mk i (_:x= .int i) (_:Q (some i) H1)
noncomputable def Eo (t:TE):TO:=λσ H Q=>t σ H λx H1=>Iv Q x H1
theorem K0:PO X none Gp:=by
 intro pinsz_ s σ H Q I h;rw[evalPart_none];exact b4 ⟨none,H,I,.none,h⟩
theorem fo (h:PE X e te):PO X (some e) (Eo te):=by
 intro pinsz_ s σ H Q I a;rw[evalPart_some];refine bg (h pinsz_ s σ H _ I a) λu f ⟨x,H1,b,c,d⟩=>?_;obtain⟨i,rfl,q⟩:=d;obtain⟨t,rfl⟩:=c;exact⟨some i,H1,b,.int i t,q⟩
noncomputable def wQ (X:Cx)(r:V->Option Int->Option Int->Hp->VK->Prop):Prop:=
 ∀(pinsz_:List (Addr×Obj)) (s:Shared) (σ:St) (H:Hp) (x:V) (v a b:Value) (lo hi:Option Int) (c:Addr) (Q:VK),Inv X pinsz_ σ H s->RelV x v->s.heap.IsSliceOf c a b .none->IsPart a lo->IsPart b hi->r x lo hi H Q->
  ∃T id,typeLookup (.type T) "__getitem__"=pure (some (.builtin id))/\s.TypeIs v T/\wpAny (model X.prog X.w) X.A (getItem v (.ref c)) (EP X pinsz_ σ Q) X.xe s
noncomputable def Jc (r:V->Option Int->Option Int->Hp->VK->Prop)(te:TE)(tl th:TO):TE:=λσ H Q=>te σ H λx H1=>tl σ H1 λl H2=>th σ H2 λu a=>r x l u a Q
theorem ke {tl:TO}{th:TO}{p2:Pos}{r:V->Option Int->Option Int->Hp->VK->Prop}(g:wQ X r)(he:PE X e te)(i:PO X lo tl)(j:PO X hi th):PE X (.Subscript e (.Slice lo hi none p2) aH) (Jc r te tl th):=by
 intro pinsz_ s σ H Q I h;refine Subscript_ (bg (he pinsz_ s σ H _ I h) λv k ⟨x,H1,m,n,o⟩=>wpAny_Slice (bg (i pinsz_ k σ H1 _ m o) λc p ⟨l,H2,t,pl,y⟩=>bg (j pinsz_ p σ H2 _ t y) λd a ⟨u,f,z,C,D⟩=>?_));rw[evalPart_none];refine b4 ?_;have E:Inv X pinsz_ σ f {a with heap:=a.heap.push {cls:= .type "slice",data:= .fields #[c,d,.none]}}:=z.kept (t':=a.toks) λb N q=>cw _ q;obtain⟨T,id,G,J,M⟩:=g pinsz_ {a with heap:=a.heap.push {cls:= .type "slice",data:= .fields #[c,d,.none]}} σ f x v c d l u a.heap.objs.size Q E n (Heap.IsSliceOf.new ..) pl C D;show wpAny (model X.prog X.w) X.A (subscriptTail e (.Slice lo hi none p2) v (.ref a.heap.objs.size)) (EP X pinsz_ σ Q) X.xe {a with heap:=a.heap.push {cls:= .type "slice",data:= .fields #[c,d,.none]}};exact tail_any (ops:=[.ref a.heap.objs.size,v]) J G M (by with_unfolding_all rfl)
noncomputable def fN (xs:List V)(lo hi:Option Int):List V:=(xs.drop (HT.dU xs.length 0 lo)).take (HT.dU xs.length xs.length hi - HT.dU xs.length 0 lo)
theorem Hg (xs:List V)(lo hi:Option Int):(fN xs lo hi).length<=xs.length:=by
 unfold fN;rw[cF,bQ];omega
noncomputable def gV (n:Nat)(i:Int):Option Nat:=if 0<=i then(if i<n then some i.toNat else none) else if -(n:Int)<=i then some (i+n).toNat else none
noncomputable def f5 (xs:List α)(i:Int):Option α:=(gV xs.length i).bind λj=>xs[j]?
theorem B7 {i:Int}(h:gV n i=some j):seqIndex? i n=some j/\j<n/\ -(n:Int)<=i/\i<n:=by
 unfold gV at h;by_cases a:0<=i
 .rw[az a] at h;by_cases h1:i<n
  .rw[az h1] at h;have e:i.toNat=j:=cx h;exact⟨by rw[ts a h1,e],af,af,h1⟩
  .rw[ar h1] at h;cases h
 .rw[ar a] at h;by_cases h1: -(n:Int)<=i
  .rw[az h1] at h;have e:(i+n).toNat=j:=cx h;exact⟨by rw[v9 af h1,e],af,h1,af⟩
  .rw[ar h1] at h;cases h
theorem Cn {xs:List α}{i:Int}{v:α}(h:f5 xs i=some v):∃j,seqIndex? i xs.length=some j/\xs[j]?=some v/\j<xs.length/\ -(xs.length:Int)<=i/\i<xs.length:=by
 unfold f5 at h
 cases e:gV xs.length i with
 | none=>rw[e] at h;cases h
 | some j=>
  rw[e] at h;obtain⟨h1,h2,a,b⟩:=B7 e;exact⟨j,h1,h,h2,a,b⟩
theorem gf {xs:List α}{v:α}(h:xs[j]?=some v):f5 xs (j:Int)=some v:=by
 have a:j<xs.length:=(List.getElem?_eq_some_iff.mp h).1
 have e:gV xs.length (j:Int)=some j:=by
  unfold gV;rw[az af,az af];simp
 unfold f5;rw[e];exact h
theorem ub (xs:List α)(v:α):f5 (xs++[v]) (-1)=some v:=by
 have a:(xs++[v]).length=xs.length+1:=by simp
 have e:gV (xs++[v]).length (-1)=some xs.length:=by
  unfold gV;rw[a,ar aJ,az af];congr 1;omega
 unfold f5;rw[e];show(xs++[v])[xs.length]?=some v;simp
noncomputable def CY (b:Expr):Prop:=∀o i,subscripted b false o i=operate [o,i] (getItem o i)
noncomputable def uv (X:Cx)(r:R2):Prop:=
 ∀(hF a:Expr) (pinsz_:List (Addr×Obj)) (s:Shared) (σ:St) (H:Hp) (x y:V) (v u:Value) (Q:VK),Inv X pinsz_ σ H s->RelV x v->RelV y u->r x y H Q->
  subscripted a false v u=operate [v,u] (getItem v u)->wpAny (model X.prog X.w) X.A (subscriptTail hF a v u) (EP X pinsz_ σ Q) X.xe s
noncomputable def FO (X:Cx)(id:String)(r:V->List V->Hp->VK->Prop):Prop:=
 ∀(pinsz_:List (Addr×Obj)) (s:Shared) (σ:St) (H:Hp) (x:V) (xs:List V) (v:Value) (us:List Value) (Q:VK),Inv X pinsz_ σ H s->RelV x v->bt xs us->r x xs H Q->
  wpAny (model X.prog X.w) X.A (call (.builtin id) (v::us)) (EP X pinsz_ σ Q) X.xe s
theorem cz {a:Expr}{tb:TE}{r:R2}(c:uv X r)(ha:PE X a ta)(d:PE X b tb)(hs:CY b):PE X (.Subscript a b aH) (gw r ta tb):=by
 intro pinsz_ s σ H Q I h;exact Subscript_ (vl ha d I h λv u e x y H2 f g i q=>c a b pinsz_ e σ H2 x y v u Q f g i q (hs _ _))
inductive sM (K:Frag)(x:V)(y:V)(H:Hp)(Q:VK):Prop
 | mk p xs i v (_:x= .ref p) (_:y= .int i) (_:ay K H p xs) (_:f5 xs i=some v) (_:Q v H)
inductive HN (K:Frag)(x:V)(y:V)(H:Hp)(Q:VK):Prop
 | mk p xs i v (_:x= .ref p) (_:y= .int i) (_:cI K H p xs) (_:f5 xs i=some v) (_:Q v H)
theorem cC:uv X (sM X.K):=by
 intro hF n pinsz_ s σ H x y v u Q I d e h hs;obtain⟨p,xs,i,z,rfl,rfl,f,he,q⟩:=h;cases d;obtain⟨t,rfl⟩:=e;obtain⟨aD,r,pl,o⟩:=I.list f;obtain⟨j,h1,h2,A,g,k⟩:=Cn he;obtain⟨w,b,l⟩:=r.get h2;have m:=r.length;have C:=p6;have fin:EP X pinsz_ σ Q w s:=⟨z,H,I,l,q⟩;by_cases c:0<=i
 .have a:i.toNat=j:=by
   rw[ts c k] at h1;exact cx h1
  exact item_listR pl.isList c af (by rw[a];simpa using b) fin hs
 .have a:(i+(aD.toArray.size:Int)).toNat=j:=by
   rw[v9 af g] at h1;rw[dq,<-m];exact cx h1
  exact B2 (x:=w) pl.isList.typeIs slot_list_getitem.lookup
   (wpAny_getItem_list_neg (Q:=λr s'=>r=w/\EP X pinsz_ σ Q r s') pl.isList af (by rw[dq]<;>omega) af (by rw[a];simpa using b) ⟨O,fin⟩) hs
theorem FP:uv X (HN X.K):=by
 intro hF g pinsz_ s σ H x y v u Q I a b h hs;obtain⟨p,xs,i,z,rfl,rfl,c,he,q⟩:=h;cases a;obtain⟨t,rfl⟩:=b;obtain⟨aD,r,pl,k⟩:=I.tuple c;obtain⟨j,h1,h2,l,m,n⟩:=Cn he;obtain⟨w,d,e⟩:=r.get h2;have f:=r.length;have o:=p6;have fin:EP X pinsz_ σ Q w s:=⟨z,H,I,e,q⟩
 exact B2 (x:=w) pl.typeIs slot_tuple_getitem.lookup
  (getItem_tuple (j:=j) (Q:=λr s'=>r=w/\EP X pinsz_ σ Q r s') pl af af (by rw[dq,<-f];exact h1) (by simpa using d) ⟨O,fin⟩) hs
theorem JP (aD:List Value)(n j:Nat)(u:Value):Obj.mapSeq (·.setIfInBounds j u) {cls:= .type "list",data:= .seq aD.toArray n}={cls:= .type "list",data:= .seq (aD.set j u).toArray n}:=by
 simp[Obj.mapSeq]
theorem Inv.lst {pinsz_:List (Addr×Obj)}{σ:St}{H:Hp}{s:Shared}{p:Addr}{xs:List V}(I:Inv X pinsz_ σ H s)(h:H p=some (.lst xs)):
 ∃(aD:List Value) (n:Nat),bt xs aD/\s.heap.get? p=some {cls:= .type "list",data:= .seq aD.toArray n}/\xs.length<=sizeLine:=by
 obtain⟨z,aD,n,r,e⟩:=I.aG p _ h;exact⟨aD,n,r,e,z⟩
theorem Inv.GR {σ:St}{p:Addr}{a:Nat}{f:Obj->Obj}(I:Inv X pinsz_ σ H s)(h:H p=some (.lst xs))(d:s.heap.get? p=some {cls:= .type "list",data:= .seq aD.toArray n})(c:f {cls:= .type "list",data:= .seq aD.toArray n}={cls:= .type "list",data:= .seq its'.toArray a})(r:bt ys its')(g:ys.length<=sizeLine)(t:Nat):
 Inv X pinsz_ σ (ah H p (.lst ys)) {s with heap:=s.heap.update p f,toks:=t}:=by
 have e:(s.heap.update p f).get? p=some {cls:= .type "list",data:= .seq its'.toArray a}:=by
  rw[hK f d (by rw[c]<;>rfl),c]
 exact I.write (x:=p) (e:=p) (by rw[h];trivial) (.inl O) (λb u i q=>(iP _ _ (eP i)).trans q) ⟨_,e⟩ ⟨g,its',a,r,e⟩
inductive LX (o:V)(i:V)(v:V)(H:Hp)(Q:Hp->Prop):Prop
 | mk p xs k j (_:o= .ref p) (_:i= .int k) (_:H p=some (.lst xs)) (_:gV xs.length k=some j) (_:Q (ah H p (.lst (xs.set j v))))
theorem CI:yT X LX:=by
 intro pinsz_ s σ H o i v z A u Q I l m w h;obtain⟨p,xs,k,j,rfl,rfl,c,x,q⟩:=h;cases l;obtain⟨t,rfl⟩:=m;obtain⟨aD,n,r,a,y⟩:=I.lst c;obtain⟨h1,h2,d,e⟩:=B7 x;have b:=r.length;have C:=p6
 have f:Inv X pinsz_ σ (ah H p (.lst (xs.set j v))) {s with heap:=s.heap.update p (Obj.mapSeq (·.setIfInBounds j u))}:=
  I.GR c a (JP aD n j u) (r.set w j) (by rw[List.length_set];exact y) s.toks
 by_cases g:0<=k
 .have hk:k.toNat=j:=by
   rw[ts g e] at h1;exact cx h1
  exact PySem.W.ki_setAt a g af (by rw[dq,<-b];exact e) (by rw[hk];exact⟨_,f,q⟩)
 .have hk:(k+(aD.toArray.size:Int)).toNat=j:=by
   rw[v9 af d] at h1;rw[dq,<-b];exact cx h1
  exact PySem.W.ki_setBack a af (by rw[dq,<-b];exact d) af (by rw[hk];exact⟨_,f,q⟩)
theorem JI (lo hi:Option Int)(n:Nat):(sliceBounds lo hi none n).1=((HT.dU n 0 lo:Nat):Int)/\(sliceBounds lo hi none n).2.1=((HT.dU n n hi:Nat):Int)/\(sliceBounds lo hi none n).2.2=1:=by
 refine⟨?_,?_,O⟩
 .cases lo with
  | none=>simp[sliceBounds,HT.dU]
  | some i=>
   simp only[sliceBounds,HT.dU,Option.getD_none,show(1:Int) >0 by decide,c2];by_cases h:i<0
   .simp only[h,c2]<;>omega
   .simp only[h,dV]<;>omega
 .cases hi with
  | none=>simp[sliceBounds,HT.dU]
  | some i=>
   simp only[sliceBounds,HT.dU,Option.getD_none,show(1:Int) >0 by decide,c2];by_cases h:i<0
   .simp only[h,c2]<;>omega
   .simp only[h,dV]<;>omega
theorem Ji (aD:List Value)(lo hi:Option Int):slicePick aD.toArray lo hi none=((aD.drop (HT.dU aD.length 0 lo)).take (HT.dU aD.length aD.length hi - HT.dU aD.length 0 lo)).toArray:=by
 obtain⟨h1,h2,a⟩:=JI lo hi aD.toArray.size;unfold slicePick;rw[h1,h2,a];simp only[sliceRange_one,pick_run,dq]<;>rfl
inductive IW (K:Frag)(x:V)(lo:Option Int)(hi:Option Int)(H:Hp)(Q:VK):Prop
 | mk aa xs (_:x= .ref aa) (_:ay K H aa xs) (_:∀p,H p=none->Q (.ref p) (ah H p (.lst (fN xs lo hi))))
theorem j8:wQ X (IW X.K):=by
 intro pinsz_ s σ H x v i j lo hi k Q I d hs pl e h;obtain⟨a,xs,rfl,hx,q⟩:=h;cases d;obtain⟨aD,r,c,f⟩:=I.list hx;have g:=r.length;refine⟨"list",_,slot_list_getitem.lookup,c.isList.typeIs,wpAny_getItem_list_slice c.isList hs pl e .none (by simp) ?_ (by rw[dq]<;>omega)⟩;rw[Ji,<-g];refine⟨.ref s.heap.objs.size,_,I.laid (t':=s.toks) (o:= .lst (fN xs lo hi)) (λb l q=>cw _ q) (bY _) ?_,O,q _ (I.aG.fresh (bY _))⟩;exact⟨bB (Hg xs lo hi) f,_,0,(r.drop (HT.dU xs.length 0 lo)).take (HT.dU xs.length xs.length hi - HT.dU xs.length 0 lo),fW _ O⟩
noncomputable def iF:V->Bool
 | .aE=>true
 | .bl _=>true
 | .int _=>true
 | .str _=>true
 | _=>false
noncomputable def hL:V->V->Bool
 | .aE,.aE=>true
 | .bl a,.bl b=>a==b
 | .bl a,.int b=>(if a then 1 else 0)==b
 | .int a,.bl b=>a==(if b then 1 else 0)
 | .int a,.int b=>a==b
 | .str a,.str b=>a==b
 | _,_=>false
theorem Fb {x:V}(d:RelV y u)(c:RelV x v)(f:iF y=true)(e:iF x=true):SeqAt.EqAt A s u v (hL y x):=by
 cases y with
 | aE=>
  cases d
  cases x with
  | aE=>cases c;exact SeqAt.EqAt.same _
  | bl b=>cases c;exact SeqAt.EqAt.none_bool b
  | int b=>obtain⟨t,rfl⟩:=c;exact SeqAt.EqAt.none_int b t
  | str b=>obtain⟨t,rfl⟩:=c;exact SeqAt.EqAt.none_str b t
  | _=>exact absurd (show false=true from e) dF
 | bl a=>
  cases d
  cases x with
  | aE=>cases c;exact SeqAt.EqAt.bool_none a
  | bl b=>cases c;exact SeqAt.EqAt.bool_bool a b
  | int b=>obtain⟨t,rfl⟩:=c;exact SeqAt.EqAt.bool_int a b t
  | str b=>obtain⟨t,rfl⟩:=c;exact SeqAt.EqAt.bool_str a b t
  | _=>exact absurd (show false=true from e) dF
 | int a=>
  obtain⟨t',rfl⟩:=d
  cases x with
  | aE=>cases c;exact SeqAt.EqAt.int_none a t'
  | bl b=>cases c;exact SeqAt.EqAt.int_bool a t' b
  | int b=>obtain⟨t,rfl⟩:=c;exact SeqAt.EqAt.int_int a t' b t
  | str b=>obtain⟨t,rfl⟩:=c;exact SeqAt.EqAt.int_str a t' b t
  | _=>exact absurd (show false=true from e) dF
 | str a=>
  obtain⟨t',rfl⟩:=d
  cases x with
  | aE=>cases c;exact SeqAt.EqAt.str_none a t'
  | bl b=>cases c;exact SeqAt.EqAt.str_bool a t' b
  | int b=>obtain⟨t,rfl⟩:=c;exact SeqAt.EqAt.str_int a t' b t
  | str b=>obtain⟨t,rfl⟩:=c;exact SeqAt.EqAt.str_str a t' b t
  | _=>exact absurd (show false=true from e) dF
 | _=>exact absurd (show false=true from f) dF
noncomputable def iO (x:V)(u:Value):Bool:=match u with
 | .none=>hL .aE x
 | .bool b=>hL (.bl b) x
 | .int i _=>hL (.int i) x
 | .str z _=>hL (.str z) x
 | _=>false
theorem AN {x:V}(r:RelV y u)(f:iF y=true):iO x u=hL y x:=by
 cases y with
 | aE=>cases r;rfl
 | bl b=>cases r;rfl
 | int i=>obtain⟨t,rfl⟩:=r;rfl
 | str z=>obtain⟨t,rfl⟩:=r;rfl
 | _=>exact absurd (show false=true from f) dF
theorem sr {x:V}:∀{xs:List V} {us:List Value},bt xs us->xs.all iF=true->us.any (iO x)=xs.any λy=>hL y x
 | _,_,.nil,_=>rfl
 | y::xs,u::us,.cons r t,f=>by
  rw[nJ,cH] at f;rw[kT,kT,AN r f.1,sr t f.2]
theorem uR {A:Around}{s:Shared}{x:V}{v:Value}(b:RelV x v)(c:iF x=true):∀{xs:List V} {us:List Value},bt xs us->xs.all iF=true->∀u∈us,SeqAt.EqAt A s u v (iO x u)
 | _,_,.nil,_=>λu a=>by cases a
 | y::xs,u::us,.cons r t,f=>λd a=>by
  rw[nJ,cH] at f;rcases List.mem_cons.mp a with rfl | a
  .rw[AN r f.1];exact Fb r b f.1 c
  .exact uR b c t f.2 d a
noncomputable def j0 (x:V)(xs:List V):Bool:=xs.any λy=>hL y x
inductive EF (K:Frag)(neg:Bool)(x:V)(y:V)(H:Hp)(Q:VK):Prop
 | mk p xs (_:y= .ref p) (_:ay K H p xs∨cI K H p xs) (_:iF x=true) (_:xs.all iF=true) (_:Q (.bl (if neg then !j0 x xs else j0 x xs)) H)
theorem yK:c3 X (compareOp .NotIn) (EF X.K true):=by
 intro pinsz_ s σ H x y v u Q I c e h;obtain⟨p,xs,rfl,a,d,fs,q⟩:=h;cases e;rcases a with a | a
 .obtain⟨aD,r,pl,f⟩:=I.list a;refine SeqAt.notIn_listAt (iO x) pl.isList (λw b=>uR c d r fs w (by simpa using b)) ⟨.bl _,H,I,O,?_⟩;rw[show aD.toArray.any (iO x)=aD.any (iO x) by simp,sr r fs];exact q
 .obtain⟨aD,r,pl,f⟩:=I.tuple a;refine SeqAt.notIn_tupleAt (iO x) pl (λw b=>uR c d r fs w (by simpa using b)) ⟨.bl _,H,I,O,?_⟩;rw[show aD.toArray.any (iO x)=aD.any (iO x) by simp,sr r fs];exact q
theorem zA:lH X (.builtin "len") (λxs H Q=>∃p ys,xs=[.ref p]/\(ay X.K H p ys∨cI X.K H p ys)/\Q (.int ys.length) H):=by
 intro pinsz_ s σ H xs us Q I r h;obtain⟨p,ys,rfl,a,q⟩:=h;obtain⟨u,rfl,d⟩:=vals1 r;cases d;have f:=p6;rcases a with a | a
 .obtain⟨aD,b,pl,e⟩:=I.list a;have c:=b.length;exact Calls.call_len_list pl.isList (by simp only[dq]<;>omega) ⟨.int ys.length,H,I.tok _,⟨s.toks+1,by rw[dq,c]⟩,q⟩
 .obtain⟨aD,b,pl,e⟩:=I.tuple a;have c:=b.length;exact len_tuple pl (by simp only[dq]<;>omega) ⟨.int ys.length,H,I.tok _,⟨s.toks+1,by rw[dq,c]⟩,q⟩
theorem rB:lH X (.type "list") (λxs H Q=>∃p ys,xs=[.ref p]/\(ay X.K H p ys∨cI X.K H p ys)/\∀l,H l=none->Q (.ref l) (ah H l (.lst ys))):=by
 intro pinsz_ s σ H xs us Q I r h;obtain⟨p,ys,rfl,c,q⟩:=h;obtain⟨u,rfl,i⟩:=vals1 r;cases i
 have fin:∀(aD:List Value),bt ys aD->ys.length<=sizeLine->∀(h':Heap) (c':Nat),(∀b g,s.heap.get? b=some g->h'.get? b=some g)->
  h'.get? s.heap.objs.size=some {cls:= .type "list",dict:=none,data:= .seq aD.toArray c',slots:=#[]}->EP X pinsz_ σ Q (.ref s.heap.objs.size) {s with heap:=h'}:=λaD a d h' c' kp e=>
  ⟨.ref s.heap.objs.size,_,I.laid (t':=s.toks) kp (bY _) (show ee X.prog X.w _ h' _ (.lst ys) from⟨d,aD,c',a,e⟩),O,q _ (I.aG.fresh (bY _))⟩
 rcases c with c | c
 .obtain⟨aD,a,pl,d⟩:=I.list c;have j:=a.length;obtain⟨o,f,hc,n,hd⟩:=pl.isList;exact call_list_seq p (.inl O) f hc hd (λh' c' kp e=>fin aD a d h' c' kp e) (by simp only[dq]<;>omega)
 .obtain⟨aD,a,pl,d⟩:=I.tuple c;have j:=a.length;obtain⟨o,f,hc,n,hd⟩:=pl;exact call_list_seq p (.inr O) f hc hd (λh' c' kp e=>fin aD a d h' c' kp e) (by simp only[dq]<;>omega)
noncomputable def A_ (K:Frag)(T:String)(x:V)(H:Hp):Prop:=match x with
 | .str _=>T="str"
 | .int _=>T="int"
 | .ref p=>(T="list"/\∃xs,ay K H p xs)∨(T="tuple"/\∃o,K.lookup p=some o/\o.cls= .type "tuple"/\o.dict=none)∨
  (T="dict"/\((∃a,H p=some (.dK a))∨∃a,H p=some (.dT a)))∨(T="set"/\∃S n,H p=some (.set S n))
 | _=>False
theorem Et {σ:St}{x:V}(I:Inv X pinsz_ σ H s)(r:RelV x v)(ty:A_ X.K T x H):
 s.TypeIs v T/\∀a,v= .ref a->∃d,s.heap.get? a=some d/\d.dict=none:=by
 cases x with
 | str z=>
  obtain⟨t,rfl⟩:=r;cases (show T="str" from ty)
  exact⟨typeIs_str s z t,λ_ e=>nomatch e⟩
 | int i=>
  obtain⟨t,rfl⟩:=r;cases (show T="int" from ty)
  exact⟨typeIs_int s i t,λ_ e=>nomatch e⟩
 | ref p=>
  cases r;rcases ty with⟨rfl,xs,f⟩ | ⟨rfl,o,hk,hc,hd⟩ | ⟨rfl,hk⟩ | ⟨rfl,S,n,hk⟩
  .obtain⟨aD,_,pl,_⟩:=I.list f;refine⟨pl.isList.typeIs,λa e=>?_⟩;cases e;obtain⟨o,n,e,c,hd,_⟩:=pl;exact⟨o,e,hd⟩
  .refine⟨⟨o,I.ck p o hk,hc⟩,λa e=>?_⟩;cases e;exact⟨o,I.ck _ o hk,hd⟩
  .have z:∃o,s.heap.get? p=some o/\o.ExactDict:=by
    rcases hk with⟨g,hk⟩ | ⟨g,hk⟩
    .obtain⟨_,_,_,_,o,_,_,e,ex,_⟩:=I.aG p _ hk;exact⟨o,e,ex⟩
    .obtain⟨_,_,_,_,o,_,_,e,ex,_⟩:=I.aG p _ hk;exact⟨o,e,ex⟩
   obtain⟨o,e,ex⟩:=z;refine⟨⟨o,e,ex.1⟩,λa b=>?_⟩;cases b;exact⟨o,e,ex.2.1⟩
  .obtain⟨o,_,_,_,e,ex,_⟩:=I.aG p _ hk;refine⟨⟨o,e,ex.1⟩,λa b=>?_⟩;cases b
   exact⟨o,e,ex.2.1⟩
 | _=>exact False.elim ty
noncomputable def E1 (K:Frag)(T:String)(r:V->List V->Hp->VK->Prop)(to:TE)(t:TA):TE:=λσ H Q=>to σ H λx H1=>A_ K T x H1/\t σ H1 λxs H2=>r x xs H2 Q
theorem eW {o:Expr}{a:Pos}{id:String}{r:V->List V->Hp->VK->Prop}(d:PlainAttrs T)(slot:Slot T name id)(f:typeOf (.builtin id)=pure (.type "method_descriptor"))(hm:FO X id r)(g:PE X o to)(ha:PA X (e::es) t)(i:attributeBase o name X.env (eval o X.env)=eval o X.env:=by rfl)(j:((backTo dW (starEach (e::es) X.env)).all (λx=>!x.1)&&(backToKw dW (keywordEach [] X.env)).all (λx=>x.1.isSome)
 &&decide ((e::es).length+([]:List Keyword).length+(if([]:List Keyword).isEmpty then 0 else 1) <30))=true:=by rfl)(k:(a.endLine==dW.line)=true:=by rfl)(hs:starEach (e::es) X.env=(false,eval e X.env)::starEach es X.env:=by rfl)(l:(backTo dW (starEach es X.env)).any (·.1)=false:=by rfl):
 PE X (.Call (.Attribute o name a) (e::es) [] dW) (E1 X.K T r to t):=by
 intro pinsz_ s σ H Q I h;refine wpAny_Call_method_late i j k O (bg (g pinsz_ s σ H _ I h) λv m ⟨x,H1,b,c,ty,n⟩=>?_);obtain⟨h1,h2⟩:=Et b c ty;refine⟨T,id,d,slot,f,h1,h2,?_⟩;have hA:=ha dW pinsz_ m σ H1 _ b n;rw[hs] at hA ⊢;refine Calls.callWith_builtin (by show(false||(backTo dW (starEach es X.env)).any (·.1))=false;rw[l]<;>rfl) (Calls.evalArgs_plain ?_);exact bg hA λus p ⟨vs,H2,u,w,y⟩=>hm pinsz_ p σ H2 x vs v us Q u c w y
noncomputable def zr (X:Cx)(id:String)(r:V->List V->Hp->VK->Prop):Prop:=
 ∀(pinsz_:List (Addr×Obj)) (s:Shared) (σ:St) (H:Hp) (x:V) (xs:List V) (v:Value) (us:List Value) (Q:VK),Inv X pinsz_ σ H s->RelV x v->bt xs us->r x xs H Q->
  wpAny (model X.prog X.w) X.A (call (.builtin id) (v::us)) (EP X pinsz_ σ Q) X.xe s
theorem bt.one:∀{x:V} {us:List Value},bt [x] us->∃u,us=[u]/\RelV x u
 | _,_,.cons r .nil=>⟨_,O,r⟩
theorem Inv.Cy {σ:St}{f:Array Value->Array Value}(I:Inv X pinsz_ σ H s)(a:H l=some (.lst xs))(e:s.heap.get? l=some {cls:= .type "list",data:= .seq aD.toArray n})(b:f aD.toArray=its'.toArray)(c:bt ys its')(d:ys.length<=sizeLine):
 Inv X pinsz_ σ (ah H l (.lst ys)) {s with heap:=s.heap.update l (Obj.mapSeq f),toks:=t'}:=by
 have q:=PySem.IsL.update e f;rw[b] at q;exact I.write (x:=l) (e:=l) (by rw[a];exact trivial) (.inl O) (λi u g h=>(iP s.heap (Obj.mapSeq f) (eP g)).trans h) ⟨_,q⟩ ⟨d,its',_,c,q⟩
theorem Inv.Ky {σ:St}(I:Inv X pinsz_ σ H s)(a:bt ys aD)(b:ys.length<=sizeLine):
 Inv X pinsz_ σ (ah H s.heap.objs.size (.lst ys)) {s with heap:=s.heap.push {cls:= .type "list",data:= .seq aD.toArray},toks:=t'}:=
 I.laid (λ_ _ q=>cw _ q) (bY _) ⟨b,aD,0,a,fW _ O⟩
section
variable {σ:St}
theorem Inv.fresh (I:Inv X pinsz_ σ H s):H s.heap.objs.size=none:=I.aG.fresh (bY _)
end
theorem Inv.oT {σ:St}(I:Inv X pinsz_ σ H s)(a:H l=some (.lst xs)):xs.length<=sizeLine/\∃(aD:List Value) (n:Nat),bt xs aD/\xs.length=aD.length/\s.heap.get? l=some {cls:= .type "list",data:= .seq aD.toArray n}:=by
 obtain⟨z,aD,n,r,e⟩:=I.aG l _ a;exact⟨z,aD,n,r,r.length,e⟩
theorem LS (h:n<=sizeLine):Builtin.List.listTooLong n=false:=by
 unfold Builtin.List.listTooLong;exact dC af
inductive Jt (x:V)(vs:List V)(H:Hp)(Q:VK):Prop
 | mk l xs y (_:x= .ref l) (_:vs=[y]) (_:H l=some (.lst xs)) (_:xs.length<sizeLine) (_:Q .aE (ah H l (.lst (xs++[y]))))
theorem iW:zr X "list.append" Jt:=by
 intro pinsz_ s σ H x vs v us Q I b c h;obtain⟨l,xs,y,rfl,rfl,a,f,q⟩:=h;cases b;obtain⟨u,rfl,d⟩:=c.one;obtain⟨z,aD,n,r,g,e⟩:=I.oT a;refine call_meets F.slot_list_append ⟨_,e,O⟩ F.entry_list_append (F.args_list_append_2 _ _) (PySem.list_append l aD.toArray n u (by rw[dq];omega)) ⟨e,.aE,_,I.Cy (its':=aD++[u]) a e (by simp) (r.append (.cons d .nil)) ?_,O,q⟩;rw[aP,vL];omega
inductive Eb (x:V)(vs:List V)(H:Hp)(Q:VK):Prop
 | mk l b xs zs (_:x= .ref l) (_:vs=[.ref b]) (_:H l=some (.lst xs)) (_:H b=some (.lst zs)) (_:xs.length+zs.length<=sizeLine) (_:Q .aE (ah H l (.lst (xs++zs))))
theorem mE:zr X "list.extend" Eb:=by
 intro pinsz_ s σ H x vs v us Q I d f h;obtain⟨l,b,xs,o,rfl,rfl,c,g,p,q⟩:=h;cases d;obtain⟨u,rfl,i⟩:=f.one;cases i;obtain⟨z,aD,n,r,t,e⟩:=I.oT c;obtain⟨w,a,n2,j,y,k⟩:=I.oT g;have hsz:aD.toArray.size+a.toArray.size<=sizeLine:=by rw[dq,dq];omega
 have m:¬(!aD.toArray.isEmpty&&Builtin.List.listTooLong (aD.toArray.size+a.toArray.size))=true:=by
  rw[LS hsz,rJ];exact dF
 refine call_meets F.slot_list_extend ⟨_,e,O⟩ F.entry_list_extend (F.args_list_extend_2 _ _)
  (AutoSeq1.list_extend_list_list_0 l aD.toArray n b a.toArray n2 m (by rw[dq];omega) af) ⟨e,k,?_⟩
 refine⟨.aE,_,I.Cy (its':=aD++a) c e (by simp) (r.append j) ?_,O,q⟩;rw[aP];omega
inductive pX (x:V)(y:V)(H:Hp)(Q:VK):Prop
 | mk l b xs zs (_:x= .ref l) (_:y= .ref b) (_:H l=some (.lst xs)) (_:H b=some (.lst zs)) (_:xs.length+zs.length<=sizeLine) (_:∀p,H p=none->Q (.ref p) (ah H p (.lst (xs++zs))))
theorem dJ:c3 X (binaryOp .Add) pX:=by
 intro pinsz_ s σ H x y v u Q I c d h;obtain⟨l,b,xs,m,rfl,rfl,f,g,o,q⟩:=h;cases c;cases d;obtain⟨z,aD,n,r,p,e⟩:=I.oT f;obtain⟨t,a,n2,i,w,j⟩:=I.oT g;refine PySem.P.add_list e j ?_ (by rw[dq,dq];omega);have k:aD.toArray++a.toArray=(aD++a).toArray:=by simp
 rw[k];exact⟨.ref _,_,I.Ky (t':=s.toks) (r.append i) (by rw[aP];omega),O,q _ I.fresh⟩
theorem bt.Bf:∀{bs:List Bool} {us:List Value},bt (bs.map V.bl) us->us=bs.map Value.bool
 | [],us,h=>by
  rw[qP] at h;cases h
  rfl
 | b::bs,us,h=>by
  rw[gZ] at h
  cases h with
  | cons r t=>
   cases r;rw[bt.Bf t,gZ]
theorem bt.Eg (r:bt [V.ref a] us):us=[Value.ref a]:=by
 cases r with
 | cons r t=>
  cases t;cases r;rfl
theorem MD {c:Array Value}(b:s.heap.IsList l c)(h:∀a:Shared,a={s with heap:=s.heap.push {cls:= .type "list_iterator",data:= .fields #[.ref l,.int 0 0]}}->
 (a.heap.IsListIter s.heap.objs.size l 0/\a.heap.IsList l c)->l≠s.heap.objs.size->Q (.ref s.heap.objs.size) a):wpAny (model prog w) A (pyIter (.ref l)) Q E s:=by
 have d:l<s.heap.objs.size:=by obtain⟨_,e,_⟩:=b;exact bP e
 exact wpAny_pyIter_list b (h _ O ⟨⟨_,fW _ O,O,O⟩,b.push _⟩ (dh d))
theorem Nl {bs:List Bool}(e:aD=bs.map Value.bool):
 TruthOf prog w A (λi v=>aD.toArray[i]?=some v) (λi=>bs.getD i false):=λi v s Q E d f=>by
 have a:aD[i]?=some v:=by simpa using d
 rw[e,dk] at a;obtain⟨b,g,rfl⟩:=Option.map_eq_some_iff.mp a;have h:bs.getD i false=b:=by rw[List.getD_eq_getElem?_getD,g]<;>rfl
 have c:Q (bs.getD i false) s:=f;rw[h] at c;exact oF c
theorem any_range:∀bs:List Bool,(List.range bs.length).any (λi=>bs.getD i false)=bs.any id
 | []=>rfl
 | b::bs=>by
  rw[bA,List.range_succ_eq_map,kT,oK,kT,<-any_range bs]
  all_goals rfl
inductive FR (K:Frag)(vs:List V)(H:Hp)(Q:VK):Prop
 | mk (a:Addr) (bs:List Bool) (_:vs=[V.ref a]) (_:ay K H a (bs.map V.bl)) (_:Q (.bl (bs.any id)) H)
theorem tG (hc:X.calm=true):lH X (.builtin "any") (FR X.K):=by
 intro pinsz_ s σ H vs us Q I r h;obtain⟨a,bs,rfl,hs,q⟩:=h;obtain⟨aD,f,g,_⟩:=I.list hs;rw[bt.Eg r];have d:=f.Bf;refine call_any_walk (MD g.isList λk i st j=>?_);subst i;refine⟨_,_,_,_,_,_,_,O,Walks.list (A:=X.A.in1) (I.ok.hd hc) _ a j aD.toArray,st,Nl d,λh' tk hk=>⟨.bl _,H,I.kept λb o e=>hk b o (λc=>?_) (cw _ e),?_,q⟩⟩
 .rcases List.mem_cons.mp c with e1 | c
  .exact absurd (e1▸bP e) (hr _)
  .cases c
 .show Value.bool _=Value.bool _;rw[<-any_range,d,dq,aX]
mutual
inductive Dp (K:Frag) (H:Hp):V->PyData->Prop
 | aE:Dp K H .aE .none
 | bl (b:Bool):Dp K H (.bl b) (.bool b)
 | int (i:Int):Dp K H (.int i) (.int i)
 | str (x:Str):Dp K H (.str x) (.str x)
 | lst {a:Addr} {xs:List V} {ds:List PyData}:ay K H a xs->kI K H xs ds->Dp K H (.ref a) (.list ds)
 | tup {a:Addr} {xs:List V} {ds:List PyData}:cI K H a xs->kI K H xs ds->Dp K H (.ref a) (.tuple ds)
inductive kI (K:Frag) (H:Hp):List V->List PyData->Prop
 | nil:kI K H [] []
 | cons {v:V} {vs:List V} {d:PyData} {ds:List PyData}:Dp K H v d->kI K H vs ds->kI K H (v::vs) (d::ds)
end
section
variable {σ:St}
mutual
theorem Dp.reads (I:Inv X pinsz_ σ H s):∀(d:PyData) (v:V) (u:Value),Dp X.K H v d->RelV v u->∃as,Reads s.heap u d as
 | .none,_,_,h,r=>by
  cases h;cases r
  exact⟨_,Reads.none⟩
 | .bool b,_,_,h,r=>by
  cases h;cases r
  exact⟨_,Reads.bool b⟩
 | .int i,_,_,h,r=>by
  cases h;obtain⟨t,rfl⟩:=r
  exact⟨_,Reads.int i t⟩
 | .str x,_,_,h,r=>by
  cases h;obtain⟨t,rfl⟩:=r
  exact⟨_,Reads.str x t⟩
 | .list ds,_,_,h,r=>by
  cases h with
  | lst hs ha=>
   cases r;obtain⟨aD,rv,⟨o,n,ho,hc,_,hd⟩,_⟩:=I.list hs;obtain⟨as,hr⟩:=Dp.readsAll I ds _ aD ha rv
   exact⟨_,Reads.list ho hc hd hr⟩
 | .tuple ds,_,_,h,r=>by
  cases h with
  | tup hs ha=>
   cases r;obtain⟨aD,rv,⟨o,ho,hc,n,hd⟩,_⟩:=I.tuple hs;obtain⟨as,hr⟩:=Dp.readsAll I ds _ aD ha rv
   exact⟨_,Reads.tuple ho hc hd hr⟩
 | .dict _,_,_,h,_=>by cases h
theorem Dp.readsAll (I:Inv X pinsz_ σ H s):∀(ds:List PyData) (vs:List V) (us:List Value),kI X.K H vs ds->bt vs us->∃as,ReadsAll s.heap us ds as
 | [],_,_,h,r=>by
  cases h;cases r
  exact⟨_,ReadsAll.nil⟩
 | d::ds,_,_,h,r=>by
  cases h with
  | cons h1 h2=>
   cases r with
   | cons r1 r2=>
    obtain⟨as,q1⟩:=Dp.reads I d _ _ h1 r1;obtain⟨bs,q2⟩:=Dp.readsAll I ds _ _ h2 r2;exact⟨_,ReadsAll.cons q1 q2⟩
end
end
inductive E2 (K:Frag)(x:V)(y:V)(H:Hp)(Q:VK):Prop
 | mk d e (_:Dp K H x d) (_:Dp K H y e) (_:SeqAt.shaped d=true) (_:SeqAt.shaped e=true) (_:Q (.bl (PyData.eqv d e)) H)
inductive Gk (K:Frag)(x:V)(y:V)(H:Hp)(Q:VK):Prop
 | mk d e (_:Dp K H x d) (_:Dp K H y e) (_:SeqAt.shaped d=true) (_:SeqAt.shaped e=true) (_:Q (.bl (!PyData.eqv d e)) H)
theorem Gw (a:X.A.units+64<cLine):c3 X (compareOp .Eq) (E2 X.K):=by
 intro pinsz_ s σ H x y v u Q I b c h;obtain⟨d,e,hd,he,f,g,q⟩:=h;obtain⟨as,i⟩:=Dp.reads I d x v hd b;obtain⟨bs,j⟩:=Dp.reads I e y u he c;exact SeqAt.compareEq_shaped i j f g a ⟨.bl _,H,I,O,q⟩
theorem DJ (a:X.A.units+64<cLine):c3 X (compareOp .NotEq) (Gk X.K):=by
 intro pinsz_ s σ H x y v u Q I b c h;obtain⟨d,e,hd,he,f,g,q⟩:=h;obtain⟨as,i⟩:=Dp.reads I d x v hd b;obtain⟨bs,j⟩:=Dp.reads I e y u he c;exact SeqAt.compareNe_shaped i j f g a ⟨.bl _,H,I,O,q⟩
end L2
namespace Bits
open PySem PyProof.Rows
variable {x:Int}
theorem E8 (k:Nat):∀a b:Nat,a<2 ^ k->a&&& (b*2 ^ k)=0:=by
 induction k with
 | zero=>
  intro a b h
  have c:a=0:=by
   rw[Nat.pow_zero] at h;omega
  subst c
  simp
 | succ k d=>
  intro a b h;have hm:(b*2 ^ (k+1))=(b*2 ^ k)*2:=by rw[j2,Nat.mul_assoc]
  have f:a / 2<2 ^ k:=by
   rw[j2] at h;generalize 2 ^ k=m at h ⊢;omega
  have i:=d (a / 2) b f;rw[hm];generalize b*2 ^ k=B at i ⊢;have e:(a&&& (B*2)) / 2=a / 2&&& (B*2) / 2:=Nat.and_div_two;have g:(B*2) / 2=B:=af;have o:=@Nat.and_mod_two_eq_one a (B*2);rw[g,i] at e;omega
theorem Mh (m k:Nat):(m:Int)*2 ^ k=((m*2 ^ k:Nat):Int):=by
 rw[rk]
 first
  | exact(q4 _ _).symm
  | simp
theorem Jv {a b:Int}{k:Nat}(c:0<=a)(h1:a<2 ^ k)(d:0<=b):Builtin.bitOr a (b*2 ^ k)=a+b*2 ^ k:=by
 obtain⟨n,rfl⟩:=td c;obtain⟨m,rfl⟩:=td d
 have f:n<2 ^ k:=by
  rw[rk] at h1;omega
 have e:Builtin.bitAnd (n:Int) ((m*2 ^ k:Nat):Int)=0:=by
  rw[bitAnd_pp af af,ep,ep,E8 k n m f]<;>rfl
 rw[Mh,bitOr_and,e];omega
theorem pT (k:Nat)(hx:0<=x):Builtin.bitAnd x (2 ^ k - 1)=x % 2 ^ k:=by
 obtain⟨n,rfl⟩:=td hx;have a:0<2 ^ k:=Nat.two_pow_pos k;rw[rk]
 have e:((2 ^ k:Nat):Int) - 1=((2 ^ k - 1:Nat):Int):=by
  generalize (2:Nat) ^ k=m at a;omega
 rw[e,bitAnd_pp af af,ep,ep,Nat.and_two_pow_sub_one_eq_mod]
 first
  | rfl
  | exact Int.natCast_emod _ _
  | simp
theorem C4 (m:Nat):∀n:Nat,(m ^^^ n)+2*(m&&& n)=m+n:=by
 induction m using Nat.strongRecOn with
 | _ m a=>
  intro n;by_cases b:m=0
  .subst b;simp
  .have c:=a (m / 2) af (n / 2);rw[<-Nat.xor_div_two,<-Nat.and_div_two] at c;have d:=@Nat.xor_mod_two_eq_one m n;have a1:=@Nat.and_mod_two_eq_one m n;omega
theorem IA {y:Int}(hx:0<=x)(hy:0<=y):Builtin.bitXor x y=((x.toNat ^^^ y.toNat:Nat):Int):=by
 have e:=C4 x.toNat y.toNat;rw[bitXor_and,bitAnd_pp hx hy];omega
end Bits
namespace L2
open PySem PySem.Spec PyProof.Rows
open PySem.W (Frag callWith_K callWith_K0 cellsFrom_some codeIn codeRec_of emptyDict findIn findObj_own fnOf handedIn hasDictIn instObj isFn keepIn lookIn makesIn methodObj notCls nsIn nsOkIn plainGet plainOver takerIn typeIn)
variable {A:Around} {B:Prop} {C Cl a dx f fI it l:Addr} {CX:gN} {D:Ends} {E Q xe:Value->Shared->Prop} {H H' H0 H1:Hp} {K:PySem.W.Frag} {M:Model} {N names ps sn:List Str} {P prog:Program} {Qd:Hp->Prop} {R:Result->Shared->Prop} {T newId:String} {X:Cx} {ab cm hdct:Bool} {an:St->Hp->Prop} {ax:St->XK} {b c e ec iter tg hF:Expr} {base h h' h1:Heap} {bm aD sub us:List Value} {body hS:List Stmt} {b₀ st:Stmt} {cd bc ct cL ev oS oc pm u v:Value} {cells:List (Str×Addr)} {ch ex fp:List Addr} {col:Option Bool} {dW hq np p aH fy py qm tp q9:Pos} {d d':Drawn} {dd od:Option Addr} {env:Env} {es dI:List Expr} {fd:FuncData} {g:TG} {g':Array GenState} {hi lo:Option Expr} {i j k n t':Nat} {k0 k1 k2 k3 k5:Option Value} {mA mg:Str->Option Value} {nm bN x:Str} {o:HO} {oe:Obj} {op:CmpOp} {os:OsState} {cX:Array (Option Value)} {outer:List Env} {own:List (Str×Nat)} {gJ pinsz_ pn:List (Addr×Obj)} {q:Addr×Obj} {r:List V->Hp->VK->Prop} {s s' s0:Shared} {sc scope:Scope} {sp:Sp} {t:TA} {ta te tv:TE} {tb:Option (Addr×Value)} {th:TS} {tt:TT} {vs:Array Value} {w:World} {wi:TI} {xs:List V} {y:V} {α:Type} {σ:List (Option V)} {Q':α->Shared->Prop}
abbrev ba:gN:=λ_ _ _ _ _ _=>False
abbrev E0:XK:=λ_ _ _=>False
theorem uz:mY ba X E0:=λ_ _ _ _ _ _ _ h=>h.elim
structure dB (K:Frag)(x bN:Str)(st:Stmt)(f:Addr)(fd:FuncData):Prop where
 ex:∃(oc:Value) (od:Option Addr) (kV cL pm:Value) (an:Option Addr) (bc ct:Value) (cX:Array (Option Value)),
  fd=fnOf x bN (jU st) (ew st) (bL st) .none kV cL pm an bc ct/\K.lookup f=some ⟨oc,od,.func fd,cX⟩/\codeIn K bc bN=true
 kp:keepIn K (.ref f)=true
theorem dB.ok (F:dB K x bN st f fd)(S:c4 N ps (bL st))(len:∀vs H Q E,sp vs H Q E->vs.length=ps.length)(a:∀(bc:Value) (A:Around) (outer:List Env) (s:Shared) (H:Hp) (vs:List V) (Q:VK) (E:XK),bT k (A.deeper (envOfC bN (bL st) s.heap.objs.size f bc))->sp vs H Q E->
 ∃t,cT (dX (ez (k+1)) ba P w K mg base N bN (bL st) f bc A outer s H E).hP (ew st) t/\t {nx:=λ_ H'=>Q .aE H',rt:=Q} (start N vs) H):cP P w K mg base ba (k+1) f fd ps sp:=by
 obtain⟨oc,od,kV,cL,pm,an,bc,ct,cX,rfl,lk,b⟩:=F.ex;refine qJ lk b S len λA outer s H vs Q E c d=>?_;obtain⟨t,h,q⟩:=a bc A outer s H vs Q E c d;exact⟨t,h.hP,q⟩
theorem dB.binds (F:dB K x bN st f fd)(h:∀(kV cL pm:Value) (an:Option Addr) (bc ct:Value) (us:List Value),us.length=ps.length->bindArgs (fnOf x bN (jU st) (ew st) (bL st) .none kV cL pm an bc ct) ⟨us,[]⟩=pure (ps.zip us)):Binds K fd ps []:=by
 obtain⟨oc,od,kV,cL,pm,an,bc,ct,cX,rfl,lk,a⟩:=F.ex;exact .all (h kV cL pm an bc ct)
theorem oJ {an:Option Addr}{kV:Value}(l:K.lookup f=some ⟨oc,od,.func (fnOf x bN (jU st) (ew st) (bL st) .none kV cL pm an bc ct),cX⟩)(c:codeIn K bc bN=true)(k:keepIn K (.ref f)=true):dB K x bN st f (fnOf x bN (jU st) (ew st) (bL st) .none kV cL pm an bc ct):=⟨⟨oc,od,kV,cL,pm,an,bc,ct,cX,O,l,c⟩,k⟩
theorem pv (i:Nat)(a:X.N[i]?=some x:=by rfl)(b:l5 X.env.scope x:=by first | exact Or.inl O | exact Or.inr (Or.inl rfl) | exact Or.inr (Or.inr O))(hd:(x==("__debug__":Str))=false:=by decide)(c:(x==("__classdict__":Str))=false:=by decide):PE X (.Name x aH) (c_ i):=Mn a b hd c
theorem vG {A:Prop}(h:B):if false=true then A else B:=by
 rw[ar dF];exact h
theorem gR {A:Prop}(h:A):if true=true then A else B:=by
 rw[az O];exact h
noncomputable def ao (H H':Hp):Prop:=∀b o,H b=some o->H' b=some o
theorem ao.refl (H:Hp):ao H H:=λ_ _ h=>h
theorem ao.trans {H2:Hp}(a:ao H H1)(b:ao H1 H2):ao H H2:=λc o h=>b c o (a c o h)
theorem ao.free (e:ao H H')(h:H' l=Option.none):H l=Option.none:=by
 cases q:H l with
 | none=>rfl
 | some o=>
  rw[e l o q] at h;cases h
theorem ao.seq {K:Frag}(e:ao H H')(h:ay K H a xs):ay K H' a xs:=by
 rcases h with(h | ⟨o,h⟩) | h
 .exact .inl (.inl (e _ _ h))
 .exact .inl (.inr ⟨o,e _ _ h⟩)
 .exact .inr h
theorem f_ {z:Int}{v:V}(e:z=(j:Int))(h:xs[j]?=some v):f5 xs z=some v:=by
 rw[e];exact gf h
theorem ao.made {x:Addr}(nx:H x=Option.none)(nd:H dx=Option.none)(k:∀b o,(ah (ah H dx (.own x)) x (.ins C dx [])) b=some o->b≠x->H1 b=some o):ao H H1:=λb o e=>
 k b o (by rw[ak (a6 e nx),ak (a6 e nd)];exact e) (a6 e nx)
structure hQ (C:Addr)(n:Nat)(H:Hp)(h:Heap)(e:Addr)(k p:Int)(tb:Option (Addr×Value)):Prop where
 ex:∃dx,ej C h e (some dx) tb/\n<=e/\n<=dx/\dx≠e/\H e=none/\H dx=none/\(∀T fl,tb=some (T,fl)->n<=T/\H T=none/\T≠dx)/\∃mA t1 t2,h.Ns1 dx mA/\mA "kind"=some (.int k t1)/\mA "place"=some (.int p t2)
inductive bZ (P:Program)(w:World)(C:Addr)(outer:List Env)(H:Hp)(s:Shared)(E:XK)(x:Value)(s':Shared):Prop
 | mk (e:Addr) (k p:Int) (T:Addr) (H':Hp) (_:x= .ref e) (_:s'.os=s.os) (_:AllBare s'.gens) (_:Un (dn outer) [] H H' s.heap s'.heap) (_:cA P w H' s'.heap) (_:hQ C s.heap.objs.size H' s'.heap e k p (some (T,.none))) (_:E k p H')
noncomputable def du (C:Addr)(X:Cx)(ax:St->XK):Prop:=∀(pinsz_:List (Addr×Obj)) (σ:St) (H:Hp) (s:Shared) (e:Addr) (k p:Int) (tb:Option (Addr×Value)) (n:Nat),Inv X pinsz_ σ H s->X.env.locals<n->
 hQ C n H s.heap e k p tb->(∀q∈X.pn++pinsz_,q.1<n)->(∀x c,X.env.cells.lookup x=some c->c<n)->ax σ k p H->X.xe (.ref e) s
theorem Inv.nW {σ:St}(I:Inv X pinsz_ σ H s)(h:X.env.locals<n)(nx:∀b∈ch,n<=b/\H b=none)(i:∀q∈X.pn++pinsz_,q.1<n)(hc:∀x c,X.env.cells.lookup x=some c->c<n)(kx:eS (dn X.stack) ch s.heap h'):Inv X pinsz_ σ H {s with heap:=h',toks:=t'}:=by
 have hsz:X.s_0.heap.objs.size<=n:=bB I.ok.above (eY h);refine I.call (g':=s.gens) (d':=s.drawn) (ch:=ch) ⟨λb o q j e hx=>kx.keep b o q e hx,λb o q j e hx=>kx.slot b o q e,λ_ _ _ z _=>z,λb o q _=>kx.there b o q,λ_ _ z=>z,λ_ _ _ z=>z,λb ps z=>⟨#[],by rw[z];simp⟩⟩ (λb o q=>?_) I.bare λb e=>?_
 .refine(I.aG b o q).jO (λc v d z=>kx.keep c v z ?_ ?_) (λ_ z=>z) λ_ _ z=>z
  .intro g;have a:=I.uW c g;rcases d with rfl | d
   .rw[q] at a;cases a
   .rw[d] at a;cases a
  .intro g;have a:=(nx c g).2;rcases d with rfl | d
   .rw[q] at a;cases a
   .rw[d] at a;cases a
 .have f:=(nx b e).1;exact⟨.inr (bB hsz f),hv (cc h f),λx c z w=>absurd (hc x c z) (by rw[w];exact Nat.not_lt.mpr f),λq k w=>absurd (i q k) (by rw[w];exact Nat.not_lt.mpr f)⟩
section
variable {σ:St}
theorem Inv.kx {e dx:Addr} {n:Nat} {k p:Int} {tb:Option (Addr×Value)} {h':Heap} {t':Nat} (I:Inv X pinsz_ σ H s) (d:X.env.locals<n) (x:hQ C n H s.heap e k p tb)
 (f:∀q∈X.pn++pinsz_,q.1<n) (hc:∀x c,X.env.cells.lookup x=some c->c<n) (kx:eS (dn X.stack) (e::dQ tb) s.heap h'):Inv X pinsz_ σ H {s with heap:=h',toks:=t'}:=by
 obtain⟨dx,_,h1,h2,i,g,j,a,_⟩:=x.ex;refine I.nW d (λb h=>?_) f hc kx;rcases List.mem_cons.mp h with z | z
 .subst z;exact⟨h1,g⟩
 .cases tb with
  | none=>cases z
  | some y=>
   obtain⟨T,fl⟩:=y;obtain rfl:b=T:=List.mem_singleton.mp z;exact⟨(a b fl O).1,(a b fl O).2.1⟩
end
theorem Inv.young {σ:St}(I:Inv X pinsz_ σ H s):X.env.locals<s.heap.objs.size/\(∀q∈X.pn++pinsz_,q.1<s.heap.objs.size)/\∀x c,X.env.cells.lookup x=some c->c<s.heap.objs.size:=
 ⟨I.lt,λq a=>bP (I.pin q a).1,λx c e=>let ⟨_,z⟩:=I.cell x c e;z.lt⟩
theorem Bp {K:Frag}{E:XK}(t:∀o H s E x s',bZ P w C o H s E x s'->CX o H s E x s'):
 du C (dX cm CX P w K mg base N bN scope f cd A outer s0 H0 E) (λ_=>E):=by
 intro pinsz_ σ H s e k p tb n I h x u hc v;obtain⟨dx,D,h1,h2,i,G,J,j,mA,t1,t2,l,hk,M⟩:=id x.ex;show wpAny (model P w) (A.deeper (envOfC bN scope s0.heap.objs.size f cd)) («leaving» (envOfC bN scope s0.heap.objs.size f cd) (.ref e)) _ _ s;have Q:s.heap.FunFrames base (envOfC bN scope s0.heap.objs.size f cd::outer):=I.stack;refine su (outer:=outer) (base:=base) (L:=s0.heap.objs.size) (C:=C) (dx:=some dx) I.ok.frames Q O D λh' T U d kx=>?_;have g:Inv _ pinsz_ σ H {s with heap:=h',toks:=s.toks}:=I.kx (C:=C) (dx:=dx) (e:=e) (k:=k) (p:=p) (tb:=tb) h x u hc kx;have hsz:s0.heap.objs.size<=n:=bB I.ok.above (eY h)
 have Y:dx∉(envOfC bN scope s0.heap.objs.size f cd::outer).filterMap (·.frame):=λhm=>by
  rw[pM] at hm;rcases List.mem_cons.mp hm with z | z
  .have b':s0.heap.objs.size<n:=h;exact absurd z (hv (cc b' h2))
  .obtain⟨_,o,e',_⟩:=(show s0.heap.FunFrames base outer from I.ok.ea).mem z;exact absurd (bB hsz h2) (Nat.not_le.mpr (bP e'))
 have f':dx∉e::dQ tb:=λhm=>by
  rcases List.mem_cons.mp hm with z | z
  .exact i z
  .cases tb with
   | none=>cases z
   | some y=>
    obtain⟨i',fl⟩:=y;exact(j i' fl O).2.2 (List.mem_singleton.mp z).symm
 have j':h'.Ns1 dx mA:=by
  obtain⟨o,es,m,q,r⟩:=l;exact⟨o,es,m,kx.keep dx o q Y f',r⟩
 have k':s0.heap.objs.size<=T/\H T=none/\T≠dx:=by
  rcases d with d | ⟨fl,d⟩
  .refine⟨bB I.sz d,I.aG.fresh d,λz=>?_⟩;obtain⟨o,es,m,q,r⟩:=l;exact absurd (z▸d) (Nat.not_le.mpr (bP q))
  .obtain⟨a,b,c⟩:=j T fl d;exact⟨bB hsz a,b,c⟩
 exact t _ _ _ _ _ _ ⟨e,k,p,T,H,O,g.os,g.bare,g.base,g.aG,⟨dx,U,bB hsz h1,bB hsz h2,i,G,J,λl' fl z=>by cases z;exact k',mA,t1,t2,j',hk,M⟩,v⟩
theorem bw {K:Frag}{E:XK}:
 du C (dX cm (bZ P w C) P w K mg base N bN scope f cd A outer s0 H0 E) (λ_=>E):=Bp λ_ _ _ _ _ _ h=>h
noncomputable def pb (sp:Sp)(ax:St->XK)(t:TA):TE:=λσ H Q=>t σ H λvs H1=>sp vs H1 Q (ax σ)
theorem zE {σ:St}(hx:du C X ax)(I:Inv X pinsz_ σ H s)(h:bZ X.prog X.w C X.stack H s (ax σ) ev s'):X.xe ev s':=by
 obtain⟨e,k,p,T,H',rfl,os,bare,un,aG,c,a⟩:=h;obtain⟨f,g,d,t,i⟩:=s';obtain rfl:i=s.os:=os;obtain⟨j,l,m⟩:=I.young;have n:=I.call (h':=f) (g':=g) (d':=d) (t':=t) (ch:=[]) un aG bare (λb z=>absurd z (by simp));exact hx pinsz_ σ H' _ e k p _ s.heap.objs.size n j c l m a
theorem G7 {σ:St}{Q:VK}{vs:List V}(F:cP X.prog X.w X.K X.mg X.base (bZ X.prog X.w C) k f fd ps sp)(c:bT k X.A)(d:Binds X.K fd ps [])(hx:du C X ax)(I:Inv X pinsz_ σ H s)(r:bt vs us)(h:sp vs H Q (ax σ)):wpAny (model X.prog X.w) X.A (call (.ref f) us) (EP X pinsz_ σ Q) X.xe s:=by
 have g:us.length=ps.length:=by rw[<-r.length];exact F.len _ _ _ _ h
 have b:=d s us I.ck (by rw[et];exact g);rw[et] at b;refine hn (k4 (F.run X.A X.stack s H ⟨us,[]⟩ us vs Q (ax σ) c I.om b r h) λr s' a=>?_)
 cases r with
 | error e=>exact zE hx I a
 | ok fl=>
  cases fl with
  | ret u=>exact I.after a
  | next=>exact False.elim a
  | brk=>exact False.elim a
  | cont=>exact False.elim a
theorem HG (F:cP X.prog X.w X.K X.mg X.base (bZ X.prog X.w C) k f fd ps sp)(b:bT k X.A)(c:Gl X x)(hm:X.mg x=some (.ref f))(hk:keepIn X.K (.ref f)=true)(d:Binds X.K fd ps [])(hx:du C X ax)(ha:PA X (e::es) t)(g:(x==("__debug__":Str))=false:=by decide)(he:starEach (e::es) X.env=(false,eval e X.env)::starEach es X.env:=by rfl)(i:(backTo aH (starEach es X.env)).any (·.1)=false:=by rfl):
 PE X (.Call (.Name x p) (e::es) [] aH) (pb sp ax t):=by
 intro pinsz_ s σ H Q I h;refine g6 (eV I c hm ?_ g);refine m5 (h₀:=X.base) I.ok.mod.kc hk (bg (ha aH pinsz_ s σ H _ I h) λus j ⟨vs,H1,a,r,q⟩=>⟨a.ck,?_⟩) he i;exact G7 F b d hx a r q
structure FX (K:Frag)(mg:Str->Option Value)(C fI:Addr):Prop where
 c:ku K C
 nk:jA K C "kind"
 np:jA K C "place"
 mgC:mg "Fault"=some (.ref C)
 kp:keepIn K (.ref C)=true
 obj:∃nm q N bs hdct sn sub ab col dd k0 k1 k2 k3 k5,K.lookup C=some (excClassObj nm q C N bs [.type "Exception",.type "BaseException",.type "object"] hdct sn sub ab col dd k0 k1 k2 k3 k5 "Exception.__new__")
 init:findIn K (.ref C) "__init__"=some (some (.ref fI))
 fn:∃(fd:FuncData) (od:Option Addr) (cX:Array (Option Value)) (p1 p2 p3 p4 q1 q2 q3 q4:Pos),K.lookup fI=some ⟨.type "function",od,.func fd,cX⟩/\codeIn K fd.code fd.qualname=true/\
  fd.body= .stmts [.Assign [.Attribute (.Name "self" p1) "kind" p2] (.Name "kind" p3) p4,.Assign [.Attribute (.Name "self" q1) "place" q2] (.Name "place" q3) q4]/\
  (∀(s:Shared) (e:Addr) (kv pv:Value),BindsTo s fd ⟨[.ref e,kv,pv],[]⟩ [("self",.ref e),("kind",kv),("place",pv)])/\
  fd.scope.names=[(("self":Str),NameKind.local),("kind",.local),("place",.local)]/\fd.scope.isCoroutine=false/\fd.scope.isGenerator=false/\fd.scope.kind= .function
inductive Ni (ax:St->XK)(σ:St)(vs:List V)(H1:Hp):Prop
 | mk k p (_:vs=[.int k,.int p]) (_:ax σ k p H1)
noncomputable def zc (ax:St->XK)(t:TA):TS:=λ_ σ H=>t σ H λvs H1=>Ni ax σ vs H1
theorem nX {a:Expr}(F:FX X.K X.mg C fI)(M:X.calm=true)(U:bT 1 X.A)(Y:Gl X "Fault")(hx:du C X ax)(ha:PA X [a,b] t)(he:starEach [a,b] X.env=(false,eval a X.env)::starEach [b] X.env:=by rfl)(b':(backTo dW (starEach [b] X.env)).any (·.1)=false:=by rfl):
 PS X (.Raise (some (.Call (.Name "Fault" np) [a,b] [] dW)) none aH) (zc ax t):=by
 intro pinsz_ s σ H D I h;obtain⟨nm,q,N,bs,hdct,sn,sub,ab,col,dd,k0,k1,k2,k3,k5,n⟩:=F.obj;obtain⟨fd,od,cX,p1,p2,p3,p4,I',J',K',L',u,e',f',i',j',k',l',hk⟩:=F.fn;rw[sv];refine aT (gT (xD (C:=C) (nm:=nm) (q:=q) (N:=N) (bs:=bs) (bm:=[.type "Exception",.type "BaseException",.type "object"]) (hdct:=hdct) (sn:=sn) (sub:=sub) (ab:=ab) (col:=col) (dd:=dd) (k0:=k0) (k1:=k1) (k2:=k2) (k3:=k3) (k5:=k5) (newId:="Exception.__new__") aJ (I.ok.hd M) ?_))
 refine aT (df (Q:=λv j=>∃e oe vs,v= .ref e/\j.heap.get? C=some (excClassObj nm q C N bs [.type "Exception",.type "BaseException",.type "object"] hdct sn sub ab col dd k0 k1 k2 k3 k5 "Exception.__new__")/\
  j.heap.get? e=some oe/\oe.cls= .ref C/\oe.data= .fields vs/\vs[1]?=some .none/\X.xe (.ref e) j) (E:=X.xe) ?_ (λv M' m'=>aT (gT (b4 m'))) λ_ _ z=>z)
 refine g6 (eV I Y F.mgC (m5 (h₀:=X.base) I.ok.mod.kc F.kp (bg (ha dW pinsz_ s σ H _ I h) λus p' ⟨vs,H1,f,r,q⟩=>⟨f.ck,?_⟩) he b'));obtain⟨k,p,q',r'⟩:=q;subst q';obtain⟨N',O',rfl,⟨t1,rfl⟩,t2,rfl⟩:=vals2 r;obtain⟨i,g,d,tk,os⟩:=p';have KX:X.K.In i:=f.ck;refine GH (fI:=fI) BW KX (KX _ _ n) F.init (KX _ _ u) O (λh' e l hm=>?_) (by show 2<=sizeLine;decide);obtain⟨tt,x,_,_⟩:=hm.there;have m:X.K.In h':=KX.keeps hm.keeps
 have u':X.K.lookup e=none:=by
  cases z:X.K.lookup e with
  | none=>rfl
  | some o=>
   have:=KX e o z;rw[hm.new] at this;cases this
 have v':h'.NoLimit:=(show i.NoLimit from f.nolimit).keeps hm.keeps;refine hn (MW (C:=C) (K:=X.K) (e:=e) m F.c F.nk F.np (U.make C [.int k t1,.int p t2] []).depth (m _ _ u) O v' (As m e') f' (i' _ e _ _) j' u' k' l' hk x λh2 y hi=>⟨O,?_⟩);obtain⟨oe,dx,mA,ge,gc,w',G,y',z',A',B',C'⟩:=hi.obj;have kp:∀b o,i.get? b=some o->h2.get? b=some o:=λb o z=>hi.keep b o (hm.keeps b o z) λw=>by rw[w,hm.new] at z;cases z
 have D':Inv X pinsz_ σ H1 ⟨h2,g,d,y,os⟩:=f.kept (h':=h2) (t':=y) kp;obtain⟨E',F',G'⟩:=f.young;have J:i.objs.size<=dx:=bB l (bB (eY (bP x)) y');exact⟨e,oe,_,O,kp _ _ (KX _ _ n),ge,gc,G,O,hx pinsz_ σ H1 _ e k p none i.objs.size D' E' ⟨dx,⟨oe,_,.ref tt,ge,gc,w',G,⟨O,λ_=>rfl⟩,O⟩,l,J,z',f.aG.fresh l,f.aG.fresh J,λT fl z=>(by cases z),mA,t1,t2,A',B',C'⟩ F' G' r'⟩
abbrev Cx.dG (X:Cx)(xe:Value->Shared->Prop)(pn:List (Addr×Obj)):Cx:={X with xe:=xe,pn:=pn}
abbrev Cx.b6 (X:Cx)(e:Addr)(pn:List (Addr×Obj)):Cx:={X with A:=X.A.mark (some (.ref e)),calm:=false,pn:=pn,xe:=λ_ _=>False}
noncomputable def lX (C:Addr)(pn:List (Addr×Obj))(e:Addr)(k p:Int):Prop:=
 ∃(oe:Obj) (vs:Array Value) (dx:Addr) (od:Obj),(e,oe)∈pn/\(dx,od)∈pn/\oe.cls= .ref C/\(oe.data= .fields vs/\vs[2]?=some .none)/\oe.dict=some dx/\
  (∃t,lookIn "kind" od=some (some (.int k t)))/\∃t,lookIn "place" od=some (some (.int p t))
section
variable {σ:St}
theorem Inv.dG (I:Inv X pinsz_ σ H s):Inv (X.dG xe (X.pn++pinsz_)) [] σ H s:=
 ⟨⟨I.ok.mod,I.ok.kind,I.ok.glob,I.ok.blt,I.ok.above,I.ok.inj,I.ok.has,I.ok.j1,I.ok.hd,I.ok.frames,I.ok.kH,I.ok.k8,I.ok.bs,I.ok.fP,I.ok.j_,I.ok.j7,I.ok.ea,I.ok.hR⟩,I.os,I.bare,I.base,I.loc,I.cell,I.free,I.ek,
  λp a=>I.pin p (by simpa using a),I.aG,I.len⟩
end
theorem Inv.c8 {σ:St}(I:Inv (X.dG xe (X.pn++pinsz_)) gJ σ H s):Inv X pinsz_ σ H s:=
 ⟨⟨I.ok.mod,I.ok.kind,I.ok.glob,I.ok.blt,I.ok.above,I.ok.inj,I.ok.has,I.ok.j1,I.ok.hd,I.ok.frames,I.ok.kH,I.ok.k8,I.ok.bs,I.ok.fP,I.ok.j_,I.ok.j7,I.ok.ea,I.ok.hR⟩,I.os,I.bare,I.base,I.loc,I.cell,I.free,I.ek,
  λp a=>I.pin p (ft _ a),I.aG,I.len⟩
theorem SP.c8 {D:Ends}{f:Flow}{s':Shared}(h:SP (X.dG xe (X.pn++pinsz_)) [] D f s'):SP X pinsz_ D f s':=by
 cases f with
 | next=>obtain⟨a,H',I,q⟩:=h;exact⟨a,H',I.c8,q⟩
 | brk=>obtain⟨a,H',I,q⟩:=h;exact⟨a,H',I.c8,q⟩
 | cont=>obtain⟨a,H',I,q⟩:=h;exact⟨a,H',I.c8,q⟩
 | ret u=>obtain⟨v,a,H',I,r,q⟩:=h;exact⟨v,a,H',I.c8,r,q⟩
section
variable {σ:St} {e:Addr}
theorem Inv.b6 (I:Inv X pinsz_ σ H s) (h:∀q∈pn,s.heap.get? q.1=some q.2/\H q.1=none/\q.1≠X.env.locals/\q.1∉X.fs/\∀v,q.2.data≠ .cell v):Inv (X.b6 e (X.pn++pinsz_++pn)) [] σ H s:=
 ⟨⟨I.ok.mod,I.ok.kind,I.ok.glob,I.ok.blt,I.ok.above,I.ok.inj,I.ok.has,I.ok.j1,λz=>(by cases z),I.ok.frames,I.ok.kH,I.ok.k8,I.ok.bs,I.ok.fP,I.ok.j_,I.ok.j7,I.ok.ea,I.ok.hR⟩,I.os,I.bare,I.base,I.loc,I.cell,I.free,I.ek,
  λp a=>by
   rw[et] at a;rcases List.mem_append.mp a with z | z
   .exact I.pin p z
   .exact h p z,I.aG,I.len⟩
end
theorem Inv.uncaught {σ:St}{e:Addr}(ok:X.Ok)(I:Inv (X.b6 e (X.pn++pinsz_++pn)) [] σ H s):Inv X pinsz_ σ H s:=
 ⟨ok,I.os,I.bare,I.base,I.loc,I.cell,I.free,I.ek,
  λp a=>I.pin p (by rw[et];exact ft _ a),I.aG,I.len⟩
theorem o8 {σ:St}{Q:Unit->Shared->Prop}(I:Inv X pinsz_ σ H s)(u:X.N.Nodup)(hi:X.N[i]?=some x)(hx:X.env.scope.names.lookup x=some .local)(h:∀s',Inv X pinsz_ (σ.set i none) H s'->Heap.SameBut X.env.locals s.heap s'.heap->Q () s'):wpAny M A (do bindName X.env x .none;unbindBehindTheSuite X.env x aH) Q E s:=by
 obtain⟨m,l,C⟩:=id I.loc;have D:(X.env.scope.kind== .class||(X.env.scope.kind== .module&&X.env.locals != X.env.globals))=false:=by rw[I.ok.kind];rfl
 have G:i<σ.length:=by rw[I.len];exact(List.getElem?_eq_some_iff.mp hi).1
 have gS:=I.gS;refine wpAny_nameGoes_keeps hx l D λh' v J hs=>?_;obtain⟨k',_,_,l',_⟩:=id l
 have m6:cA X.prog X.w H h':=λb T e=>by
  refine(I.aG b T e).jO (λc r hc q=>(hs.2 c ?_).trans q) (λ_ q=>q) λ_ _ q=>q;rintro rfl;have t:=I.free;rcases hc with rfl | hc
  .rw[t] at e;cases e
  .rw[t] at hc;cases hc
 refine h _ ⟨I.ok,I.os,I.bare,⟨λb o e n f hx=>?_,λb o e n f hx=>?_,I.base.free,λb o e hx=>?_,I.base.tups,I.base.frzs,I.base.tbls⟩,⟨_,J,λj y U e1 a e3=>?_⟩,λy c e=>?_,I.free,I.ek,λp Y=>?_,m6,by simpa using I.len⟩ hs
 .exact(hs.2 b (dh (cc (bP e) I.ok.above))).trans (I.base.keep b o e n f hx)
 .obtain⟨b',e1⟩:=I.base.slot b o e n f hx;exact⟨b',(hs.2 b (dh (cc (bP e) I.ok.above))).trans e1⟩
 .obtain⟨e',e1⟩:=I.base.there b o e hx;exact⟨e',(hs.2 b (dh (cc (bP e) I.ok.above))).trans e1⟩
 .by_cases g:j=i
  .subst g;rw[nR G] at a;cases a
  .rw[qi (eP g)] at a;obtain⟨f',i',q⟩:=C j y U e1 a e3;refine⟨f',i',?_⟩;rcases q with⟨k,e⟩ | ⟨k,c,e,z⟩
   .refine .inl ⟨k,?_⟩;have:y≠x:=λe=>g (qf u e1 (e▸hi));simp[this,e]
   .exact .inr ⟨k,c,e,z.sameBut hs (gS y c e)⟩
 .obtain⟨r,z⟩:=I.cell y c e;exact⟨r,z.sameBut hs (gS y c e)⟩
 .obtain⟨e,n,ne,j',d⟩:=I.pin p Y;exact⟨(hs.2 p.1 ne).trans e,n,ne,j',d⟩
noncomputable def sD (i:Nat)(e:Addr)(v:V):TE:=λσ H Q=>σ[i]?=some (some (.ref e))/\Q v H
theorem p7 {e:Addr}{k p:Int}{n f:Str}{v:V}(F:FX X.K X.mg C fI)(j:lX C X.pn e k p)(l:(f="kind"/\v= .int k)∨(f="place"/\v= .int p))(m:PE X (.Name n np) (c_ i)):
 PE X (.Attribute (.Name n np) f aH) (sD i e v):=by
 intro pinsz_ s σ H Q I h;obtain⟨h1,b⟩:=h;refine Bc O (bg (m pinsz_ s σ H (λx H1=>x= .ref e/\H1=H) I ⟨_,h1,O,O⟩) λu o ⟨x,H1,a,r,ex,t⟩=>?_);subst ex;subst t;obtain rfl:u=Value.ref e:=r;obtain⟨oe,vs,dx,od,m1,m2,c1,w,y,⟨t1,l1⟩,t2,l2⟩:=j;have z:=(a.pin _ (ft _ m1)).1;have A:=(a.pin _ (ft _ m2)).1;have d:PySem.W.InstAt o.heap e oe C (some od):=⟨z,c1,by unfold notCls;rw[w.1],by rw[y];exact A⟩;obtain⟨cd,hc,hd,_⟩:=F.c.cd;have g:hasDictIn X.K C=true:=by unfold hasDictIn;rw[hc];exact hd
 rcases l with⟨rfl,rfl⟩ | ⟨rfl,rfl⟩
 .exact B0 a.ck F.c d (u0 g F.nk O l1) O ⟨.int k,H1,a.tok _,⟨_,O⟩,b⟩
 .exact B0 a.ck F.c d (u0 g F.np O l2) O ⟨.int p,H1,a.tok _,⟨_,O⟩,b⟩
noncomputable def qx (i:Nat)(D:Ends):Ends:={nx:=λσ H=>D.nx (σ.set i none) H,rt:=D.rt,bk:=λσ H=>D.bk (σ.set i none) H,ct:=λσ H=>D.ct (σ.set i none) H}
noncomputable def KR (i:Nat)(tb:(St->XK)->TS)(th:Int->Int->Addr->TS):TS:=λD σ H=>tb (λa k p H'=>∀e,H' e=none->th k p e (qx i D) (a.set i (some (.ref e))) H') D σ H
noncomputable def EI (tb:(St->XK)->TS)(th:TS):TS:=λD σ H=>tb (λa _ _ H'=>th D a H') D σ H
theorem kj {σ:St}{e T:Addr}{k p:Int}(I:Inv X pinsz_ σ H s)(w:X.stack=X.env::X.outer)(d:X.env.locals<n)(x:hQ C n H s.heap e k p tb)(A:∀q∈X.pn++pinsz_,q.1<n)(hc:∀x c,X.env.cells.lookup x=some c->c<n)(a:s.heap.objs.size<=T∨∃fl,tb=some (T,fl))(D:ej C h1 e (some dx) (some (T,oS)))(E:ej C s.heap e (some dx) tb)(kx:eS ((X.env::X.outer).filterMap (·.frame)) (e::dQ tb) s.heap h1):Inv X pinsz_ σ H {s with heap:=h1,toks:=s.toks}/\hQ C n H h1 e k p (some (T,oS)):=by
 have g:eS (dn X.stack) (e::dQ tb) s.heap h1:=by rw[w];exact kx
 have G:=I.kx (C:=C) (dx:=dx) (e:=e) (k:=k) (p:=p) (tb:=tb) (t':=s.toks) d x A hc g;refine⟨G,?_⟩;obtain⟨b,h,i,f,j,J,M,l,mA,t1,t2,m,hk,N⟩:=id x.ex
 have Q:b=dx:=by
  obtain⟨oe,vs,a0,he,_,U,_⟩:=h.ex;obtain⟨k',l',m',t,_,u,_⟩:=E.ex;rw[he] at t;cases t;rw[U] at u;cases u;rfl
 subst Q
 have he:e<s.heap.objs.size:=by
  obtain⟨oe,vs,a0,he,_⟩:=h.ex;exact bP he
 have hsz:X.s_0.heap.objs.size<=n:=bB I.ok.above (eY d)
 have Y:b∉dn X.stack:=λhm=>by
  rcases List.mem_cons.mp (I.rg _ hm) with z | z
  .exact absurd z (hv (cc d f))
  .obtain⟨_,o,b',_⟩:=I.ok.ea.mem z;exact absurd (bB hsz f) (Nat.not_le.mpr (bP b'))
 have e':b∉e::dQ tb:=λhm=>by
  rcases List.mem_cons.mp hm with z | z
  .exact j z
  .cases tb with
   | none=>cases z
   | some y=>
    obtain⟨f',fl⟩:=y;exact(l f' fl O).2.2 (List.mem_singleton.mp z).symm
 have i':h1.Ns1 b mA:=by
  obtain⟨o,es,v,q,r⟩:=m;exact⟨o,es,v,g.keep b o q Y e',r⟩
 have j':n<=T/\H T=none/\T≠b:=by
  rcases a with a | ⟨fl,a⟩
  .refine⟨bB (eY (fG i he)) a,I.aG.fresh a,λz=>?_⟩;obtain⟨o,es,v,q,r⟩:=m;exact absurd (z▸a) (Nat.not_le.mpr (bP q))
  .exact l T fl a
 exact⟨b,D,i,f,j,J,M,λp' fl z=>by cases z;exact j',mA,t1,t2,i',hk,N⟩
theorem hQ.pins {σ:St}{e:Addr}{k p:Int}(I:Inv X pinsz_ σ H s)(c:X.env.locals<n)(x:hQ C n H s.heap e k p tb):
 ∃pn,lX C pn e k p/\∀q∈pn,s.heap.get? q.1=some q.2/\H q.1=none/\q.1≠X.env.locals/\q.1∉X.fs/\∀v,q.2.data≠ .cell v:=by
 obtain⟨dx,t,d,f,M,u,w,N,mA,t1,t2,g,hk,y⟩:=id x.ex;obtain⟨oe,vs,a0,he,A,hd,h,D,_⟩:=t.ex;obtain⟨od,i,j⟩:=AX g;obtain⟨Q,es,T,l,E,_⟩:=id g;rw[i] at l;cases l;have hsz:X.s_0.heap.objs.size<=n:=bB I.ok.above (eY c)
 have m:∀b,n<=b->b∉X.fs:=λb a z=>by
  obtain⟨_,o,G,_⟩:=I.ok.ea.mem z;exact absurd (bB hsz a) (Nat.not_le.mpr (bP G))
 have r:∀b,n<=b->b≠X.env.locals:=λb a=>hv (cc c a);refine⟨[(e,oe),(dx,od)],⟨oe,vs,dx,od,by simp,by simp,A,⟨h,D.2 O⟩,hd,⟨t1,by rw[j,hk]⟩,t2,by rw[j,y]⟩,λq J=>?_⟩;rcases List.mem_cons.mp J with z | z
 .subst z;exact⟨he,u,r _ d,m _ d,λv z=>by rw[h] at z;cases z⟩
 .rw[md] at z;subst z;exact⟨i,w,r _ f,m _ f,λv z=>by rw[E] at z;cases z⟩
theorem w4 {n:Str}{tb:(St->XK)->TS}{th:Int->Int->Addr->TS}(F:FX X.K X.mg C fI)(w':Gl X "Fault")(y:X.N.Nodup)(hi:X.N[i]?=some n)(hx:X.env.scope.names.lookup n=some .local)(E:X.stack=X.env::X.outer)(y':X.env.frame=some X.env.locals)(G:∀(xe:Value->Shared->Prop) (pn:List (Addr×Obj)) (ax:St->XK),du C (X.dG xe pn) ax->PassesOwn (model X.prog X.w) X.A X.env xe->cT (X.dG xe pn) body (tb ax))(hs:∀(e:Addr) (k p:Int) (pn:List (Addr×Obj)),lX C pn e k p->cT (X.b6 e pn) (b₀::hS) (th k p e)):
 PS X (.Try body [.ExceptHandler (some (.Name "Fault" tp)) (some n) (b₀::hS) hq] [] [] aH) (KR i tb th):=by
 intro pinsz_ s σ H D I h;refine q0 ?_
 have z':du C (X.dG (λe A'=>wpAny (model X.prog X.w) X.A (noteFrame e X.env) (λ_ B'=>wpAny (model X.prog X.w) X.A (setFlight e none) (λ_ C'=>
  wpAny (model X.prog X.w) X.A (handleBy e X.env [.ExceptHandler (some (.Name "Fault" tp)) (some n) (b₀::hS) hq]) (SP X pinsz_ D) X.xe C') X.xe B') X.xe A') (X.pn++pinsz_))
  (λJ k p H'=>∀e,H' e=none->th k p e (qx i D) (J.set i (some (.ref e))) H'):=by
  intro gJ J H' s' e k p _m m Y hm x l' hc D';obtain⟨dx,m',_n,_o,_p,E',_q,_r,_⟩:=id x.ex;have F':s'.heap.FunFrames X.base (X.env::X.outer):=by rw[<-E];exact Y.stack
  have G':X.A.frames=some (X.env::X.outer):=by rw[<-E];exact Y.ok.frames
  refine mM (C:=C) (dx:=some dx) (L:=X.env.locals) G' F' y' m' λh1 T M I' kx=>?_;obtain⟨J',K'⟩:=kj (C:=C) (n:=m) (k:=k) (p:=p) Y E hm x l' hc I' M m' kx;have L':∀q∈X.pn++pinsz_,q.1<m:=λq b'=>l' q (ft _ b');have Q:Inv X pinsz_ J H' {s' with heap:=h1,toks:=s'.toks}:=J'.c8;obtain⟨_s,g,d,tk,os⟩:=s';obtain⟨nm,q,N,bs,hdct,sn,sub,ab,col,dd,k0,k1,k2,k3,k5,M'⟩:=F.obj;obtain⟨oe,vs,a0,he,N',_⟩:=M.ex;have O':=Q.ck _ _ M';have P':Inv (X.b6 e (X.pn++pinsz_++[])) [] J H' ⟨h1,g,d,tk,os⟩:=Q.b6 λq z=>nomatch z;refine oL (oi ?_) (by intro q;cases q);refine eV (X:=X.b6 e (X.pn++pinsz_++[])) P' w' F.mgC (qv O' he N' aJ (Cu (pd (s:=⟨h1,g,d,tk,os⟩) M λh2 R' k3=>?_)));have S':h1.FunFrames X.base (X.env::X.outer):=by rw[<-E];exact Q.stack
  obtain⟨T',U'⟩:=kj (C:=C) (n:=m) (k:=k) (p:=p) (h1:=h2) (T:=T) Q E hm K' L' hc (.inr ⟨_,O⟩) R' M ⟨λb o q n1 n2=>k3.keep b o q (by simp) λz=>n2 (by simp[dQ,List.mem_singleton.mp z]),
   λb o q n1=>⟨o.slots,k3.keep b o q (by simp) λz=>M.jm S' (by rw[<-List.mem_singleton.mp z];exact n1)⟩,k3.there⟩
  refine oU (X:=X) (v:= .ref e) T' y hi (.inl hx) O (λe' p' ⟨a,f',ha⟩=>?_) (.inr hx)
  have i':∀b,m<=b->b≠a:=λb G z=>by
   rcases ha with ha | ha
   .rw[<-z] at ha;rw[ha] at G;exact absurd hm (Nat.not_lt.mpr G)
   .exact absurd (hc n a ha) (by rw[<-z];exact Nat.not_lt.mpr G)
  have V':hQ C m H' e'.heap e k p (some (T,.none)):=by
   obtain⟨q',W',r',u',X',Y',Z',v',mA,t1,t2,_a,hk,_b⟩:=U'.ex;obtain⟨_c,_d,_e,e1,_f,e3,e4,e5,e6,e7,_g,_h,e8,e9,e10⟩:=W'.ex;exact⟨q',⟨_c,_d,_e,(f'.2 e (i' e r')).trans e1,_f,e3,e4,e5,e6,e7,_g,_h,(f'.2 T (i' T (v' T _ O).1)).trans e8,e9,e10⟩,r',u',X',Y',Z',v',mA,t1,t2,_a.sameBut f' (i' q' u'),hk,_b⟩
  obtain⟨pn,_i,b'⟩:=V'.pins (X:=X) p' hm;have _j:Inv (X.b6 e (X.pn++pinsz_++pn)) [] (J.set i (some (.ref e))) H' e':=p'.b6 b'
  have _k:lX C (X.pn++pinsz_++pn) e k p:=by
   obtain⟨oe,vs,dx,od,m1,m2,r⟩:=_i;exact⟨oe,vs,dx,od,fz _ m1,fz _ m2,r⟩
  refine df (hs e k p _ _k [] e' _ H' (qx i D) _j (D' e E')) (λf _t U=>?_) λ_ _ z=>False.elim z;have ok:=I.ok
  cases f with
  | next=>obtain⟨j',c,j,l⟩:=U;exact o8 (j.uncaught ok) y hi hx λk' t _=>⟨_,c,t,l⟩
  | brk=>obtain⟨j',c,j,l⟩:=U;exact o8 (j.uncaught ok) y hi hx λk' t _=>⟨_,c,t,l⟩
  | cont=>obtain⟨j',c,j,l⟩:=U;exact o8 (j.uncaught ok) y hi hx λk' t _=>⟨_,c,t,l⟩
  | ret u=>obtain⟨v,j',c,j,_l,l⟩:=U;exact o8 (j.uncaught ok) y hi hx λk' t _=>⟨v,_,c,t,_l,l⟩
 refine df (G _ (X.pn++pinsz_) _ z' rA [] s σ H D I.dG h) (λf _u q=>?_) λ_ _ z=>z
 cases f with
 | next=>exact iM q.c8
 | ret v=>exact q.c8
 | brk=>exact q.c8
 | cont=>exact q.c8
theorem tJ {tb:(St->XK)->TS}(F:FX X.K X.mg C fI)(Q:Gl X "Fault")(j:X.stack=X.env::X.outer)(U:X.env.frame=some X.env.locals)(Y:∀(xe:Value->Shared->Prop) (pn:List (Addr×Obj)) (ax:St->XK),du C (X.dG xe pn) ax->PassesOwn (model X.prog X.w) X.A X.env xe->cT (X.dG xe pn) body (tb ax))(hs:∀(e:Addr) (pn:List (Addr×Obj)),cT (X.b6 e pn) (b₀::hS) th):
 PS X (.Try body [.ExceptHandler (some (.Name "Fault" tp)) none (b₀::hS) hq] [] [] aH) (EI tb th):=by
 intro pinsz_ s σ H D I h;refine q0 ?_
 have b':du C (X.dG (λe e'=>wpAny (model X.prog X.w) X.A (noteFrame e X.env) (λ_ f'=>wpAny (model X.prog X.w) X.A (setFlight e none) (λ_ i'=>
  wpAny (model X.prog X.w) X.A (handleBy e X.env [.ExceptHandler (some (.Name "Fault" tp)) none (b₀::hS) hq]) (SP X pinsz_ D) X.xe i') X.xe f') X.xe e') (X.pn++pinsz_))
  (λl _ _ H'=>th D l H'):=by
  intro gJ l H' s' e k p F' m E hm x J hc j';obtain⟨dx,M,G',I',J',K',L',M',_⟩:=id x.ex;have k':s'.heap.FunFrames X.base (X.env::X.outer):=by rw[<-j];exact E.stack
  have l':X.A.frames=some (X.env::X.outer):=by rw[<-j];exact E.ok.frames
  refine mM (C:=C) (dx:=some dx) (L:=X.env.locals) l' k' U M λh1 T r m' kx=>?_;obtain⟨p',q'⟩:=kj (C:=C) (n:=m) (k:=k) (p:=p) E j hm x J hc m' r M kx;have r':∀q∈X.pn++pinsz_,q.1<m:=λq u'=>J q (ft _ u');have t:Inv X pinsz_ l H' {s' with heap:=h1,toks:=s'.toks}:=p'.c8;obtain⟨N',g,d,tk,os⟩:=s';obtain⟨nm,q,N,bs,hdct,sn,sub,ab,col,dd,k0,k1,k2,k3,k5,v'⟩:=F.obj;obtain⟨oe,vs,a0,he,w',_⟩:=r.ex;have y':=t.ck _ _ v';have z':Inv (X.b6 e (X.pn++pinsz_++[])) [] l H' ⟨h1,g,d,tk,os⟩:=t.b6 λq z=>nomatch z;refine oL (oi ?_) (by intro q;cases q);refine eV (X:=X.b6 e (X.pn++pinsz_++[])) z' Q F.mgC (qv y' he w' aJ (yl (pd (s:=⟨h1,g,d,tk,os⟩) r λh2 A' k3=>?_)));have B':h1.FunFrames X.base (X.env::X.outer):=by rw[<-j];exact t.stack
  obtain⟨C',O'⟩:=kj (C:=C) (n:=m) (k:=k) (p:=p) (h1:=h2) (T:=T) t j hm q' r' hc (.inr ⟨_,O⟩) A' r ⟨λb o q n1 n2=>k3.keep b o q (by simp) λz=>n2 (by simp[dQ,List.mem_singleton.mp z]),
   λb o q n1=>⟨o.slots,k3.keep b o q (by simp) λz=>r.jm B' (by rw[<-List.mem_singleton.mp z];exact n1)⟩,k3.there⟩
  have D':Inv (X.b6 e (X.pn++pinsz_++[])) [] l H' ⟨h2,g,d,tk,os⟩:=C'.b6 λq z=>nomatch z;refine df (hs e _ [] _ _ H' D D' j') (λf P' y=>?_) λ_ _ z=>False.elim z;have ok:=I.ok
  cases f with
  | next=>obtain⟨G,a,c,i⟩:=y;exact⟨_,a,c.uncaught ok,i⟩
  | brk=>obtain⟨G,a,c,i⟩:=y;exact⟨_,a,c.uncaught ok,i⟩
  | cont=>obtain⟨G,a,c,i⟩:=y;exact⟨_,a,c.uncaught ok,i⟩
  | ret u=>obtain⟨v,G,a,c,E',i⟩:=y;exact⟨v,_,a,c.uncaught ok,E',i⟩
 refine df (Y _ (X.pn++pinsz_) _ b' rA [] s σ H D I.dG h) (λf R' q=>?_) λ_ _ z=>z
 cases f with
 | next=>exact iM q.c8
 | ret v=>exact q.c8
 | brk=>exact q.c8
 | cont=>exact q.c8
noncomputable def vY (X:Cx)(C:Addr)(ax:St->XK):Prop:=(∃L,X.stack=X.env::X.outer/\X.env.frame=some L/\du C X ax)∨∀σ k p H,¬ax σ k p H
abbrev xf (h:Heap)(c:Addr)(v:Option Value):Prop:=h.IsCell c v
noncomputable def FA (scope sc:Scope):Scope:=
 {scope with names:=scope.names.map λ(n,k)=>if(k== .free&&sc.kind== .function&&sc.names.lookup n==some .cell) then(n,.cell) else(n,k)}
noncomputable def dR (cells:List (Str×Addr)):List (Str×NameKind)->List (Str×Addr)->List (Str×Addr)
 | [],acc=>acc
 | (n,k)::r,acc=>if k== .free then dR cells r ((n,(cells.lookup n).getD 0)::acc) else dR cells r acc
theorem ze (env:Env)(f:Str×NameKind->List (Str×Addr)->Sem (ForInStep (List (Str×Addr))))(b:∀n k c,f (n,k) c=if k== .free then(do let a<-cellOf env n;pure (.yield ((n,a)::c))) else pure (.yield c)):
 ∀(names:List (Str×NameKind)) (acc:List (Str×Addr)),(∀y∈names,y.2= .free->∃c,env.cells.lookup y.1=some c)->forIn names acc f=pure (dR env.cells names acc)
 | [],acc,_=>by rw[List.forIn_nil];rfl
 | (n,k)::r,acc,h=>by
  rw[List.forIn_cons,b];have d:=λacc=>ze env f b r acc λy hy=>h y (dw _ hy);unfold dR;by_cases hk:(k==NameKind.free)=true
  .rw[az hk,az hk];obtain⟨c,hc⟩:=h (n,k) cq (by simpa using hk);have e:cellOf env n=pure c:=by unfold cellOf;rw[hc]
   rw[e];have g:(env.cells.lookup n).getD 0=c:=by rw[hc];rfl
   rw[g];exact d _
  .rw[ar hk,ar hk];exact d _
theorem HX (h:∀y∈scope.names,y.2= .free->∃c,env.cells.lookup y.1=some c):closureFor scope env=pure (dR env.cells scope.names []):=by
 simp only[closureFor];rw[ze env _ (λn k c=>rfl) scope.names [] h];rfl
theorem mem_lookup {α:Type}:∀{l:List (Str×α)} {n:Str} {c:α},(n,c)∈l->∃c',l.lookup n=some c'
 | (k,v)::r,n,c,h=>by
  rw[lJ]
  cases a:n==k with
  | true=>exact⟨_,O⟩
  | false=>
   rcases List.mem_cons.mp h with e | h
   .cases e;simp at a
   .exact mem_lookup h
theorem qY {cells:List (Str×Addr)}:∀{names:List (Str×NameKind)} {acc:List (Str×Addr)} {n:Str} {c:Addr},(n,c)∈dR cells names acc->(n,c)∈acc∨((n,.free)∈names/\c=(cells.lookup n).getD 0)
 | [],_,_,_,h=> .inl h
 | (m,k)::r,acc,n,c,h=>by
  unfold dR at h;split at h
  .rename_i hk;have hk:k= .free:=by simpa using hk
   rcases qY h with h | ⟨h1,h2⟩
   .rcases List.mem_cons.mp h with e | h
    .cases e;exact .inr ⟨hk▸cq,O⟩
    .exact .inl h
   .exact .inr ⟨dw _ h1,h2⟩
  .rcases qY h with h | ⟨h1,h2⟩
   .exact .inl h
   .exact .inr ⟨dw _ h1,h2⟩
theorem uQ {cells:List (Str×Addr)}:∀{names:List (Str×NameKind)} {acc:List (Str×Addr)} {p:Str×Addr},p∈acc->p∈dR cells names acc
 | [],_,_,h=>h
 | (m,k)::r,acc,p,h=>by
  unfold dR;split
  .exact uQ (dw _ h)
  .exact uQ h
theorem vw {cells:List (Str×Addr)}:∀{names:List (Str×NameKind)} {acc:List (Str×Addr)} {n:Str},(n,.free)∈names->(n,(cells.lookup n).getD 0)∈dR cells names acc
 | (m,k)::r,acc,n,h=>by
  unfold dR;rcases List.mem_cons.mp h with e | h
  .cases e;exact uQ cq
  .split
   .exact vw h
   .exact vw h
theorem ou:∀{names:List (Str×NameKind)} {h:Heap} {acc:List (Str×Addr)} {x:Str} {c:Addr},(x,c)∈cellsFrom h.objs.size names acc->
 (x,c)∈acc∨((x,.cell)∈names/\h.objs.size<=c/\xf (pushCells h names) c none)
 | [],_,_,_,_,h=> .inl h
 | (n,k)::r,h,acc,x,c,hm=>by
  unfold cellsFrom at hm;unfold pushCells;split at hm
  .rename_i hk;rw[az hk];have hk:k= .cell:=by simpa using hk
   rw[<-fD h {cls:= .type "cell",data:= .cell none}] at hm;rcases ou hm with hm | ⟨h1,h2,a⟩
   .rcases List.mem_cons.mp hm with e | hm
    .cases e;exact .inr ⟨hk▸cq,bY _,_,qz r _ _ _ (fW _ O),O⟩
    .exact .inl hm
   .rw[fD] at h2;exact .inr ⟨dw _ h1,pE h2,a⟩
  .rename_i hk;rw[ar hk];rcases ou hm with hm | ⟨h1,h2,a⟩
   .exact .inl hm
   .exact .inr ⟨dw _ h1,h2,a⟩
theorem p5:∀{names:List (Str×NameKind)} {n:Nat} {acc:List (Str×Addr)} {p:Str×Addr},p∈acc->p∈cellsFrom n names acc
 | [],_,_,_,h=>h
 | (m,k)::r,n,acc,p,h=>by
  unfold cellsFrom;split
  .exact p5 (dw _ h)
  .exact p5 h
theorem rX:∀{names:List (Str×NameKind)} {n:Nat} {acc:List (Str×Addr)} {x:Str},(x,.cell)∈names->∃c,(x,c)∈cellsFrom n names acc
 | (m,k)::r,n,acc,x,h=>by
  unfold cellsFrom;rcases List.mem_cons.mp h with e | h
  .cases e;exact⟨n,p5 cq⟩
  .split
   .exact rX h
   .exact rX h
theorem vO:∀{names:List (Str×NameKind)} {h:Heap} {acc:List (Str×Addr)} {x y:Str} {c:Addr},(∀p∈acc,p.2<h.objs.size)->(∀x y c,(x,c)∈acc->(y,c)∈acc->x=y)->
 (x,c)∈cellsFrom h.objs.size names acc->(y,c)∈cellsFrom h.objs.size names acc->x=y
 | [],_,_,_,_,_,_,hi,h1,h2=>hi _ _ _ h1 h2
 | (n,k)::r,h,acc,x,y,c,d,hi,h1,h2=>by
  unfold cellsFrom at h1 h2;split at h1
  .rename_i hk;rw[az hk] at h2;rw[<-fD h {cls:= .type "cell",data:= .cell none}] at h1 h2;refine vO (h:=h.push _) (λp f=>?_) (λx y c a b=>?_) h1 h2
   .rw[fD];rcases List.mem_cons.mp f with rfl | f
    .exact rZ _
    .exact qy (d p f)
   .rcases List.mem_cons.mp a with e | a<;>rcases List.mem_cons.mp b with g | b
    .cases e;cases g;rfl
    .cases e;exact absurd (d _ b) (hr _)
    .cases g;exact absurd (d _ a) (hr _)
    .exact hi _ _ _ a b
  .rename_i hk;rw[ar hk] at h2;exact vO d hi h1 h2
theorem Jr {globals:Addr}{closure:List (Str×Addr)}{a:Option Addr}{code:Value}{b:Env}{d:Addr}{Q:Env->Shared->Prop}(h:Q (newEnv scope s.heap.objs.size globals (cellsFrom (s.heap.objs.size+1) scope.names closure) bN a code (some b) d)
 {s with heap:=pushCells (s.heap.push {cls:= .type "dict",data:= .dict #[]}) scope.names}):
 wpAny M A (newFunctionEnv scope globals closure [] bN a code (some b) d) Q E s:=by
 simp only[newFunctionEnv,Option.isSome_some,c2];refine aT (wpAny_alloc (aT (wpAny_layCells _ (λn k c=>rfl) scope.names closure _ _ ?_)));rw[show({s with heap:=s.heap.push {cls:= .type "dict",data:= .dict #[]}}:Shared).heap.objs.size=s.heap.objs.size+1 from fD ..];rw[List.forIn_nil];exact aT (b4 (b4 h))
theorem tu {sc:Scope}:∀{names:List (Str×NameKind)} {x:Str} {k:NameKind},
 (names.map λ(n,k)=>if(k==NameKind.free&&sc.kind== .function&&sc.names.lookup n==some .cell) then(n,NameKind.cell) else(n,k)).lookup x=some k->
 ∃a,names.lookup x=some a/\(k=a∨(a= .free/\k= .cell))
 | [],_,_,h=>by simp at h
 | (n,k₀)::r,x,k,h=>by
  have b:=@tu sc r x k;have h':List.lookup x ((if(k₀==NameKind.free&&sc.kind== .function&&sc.names.lookup n==some .cell)=true then(n,NameKind.cell) else(n,k₀))::(r.map _))=some k:=h
  cases hx:x==n with
  | true=>
   simp only[lJ,hx];by_cases hc:(k₀==NameKind.free&&sc.kind== .function&&sc.names.lookup n==some .cell)=true
   .rw[az hc] at h';simp only[lJ,hx] at h';cases h';simp only[cH,fX] at hc;exact⟨k₀,O,.inr ⟨hc.1.1,O⟩⟩
   .rw[ar hc] at h';simp only[lJ,hx] at h';cases h'
    exact⟨_,O,.inl O⟩
  | false=>
   simp only[lJ,hx];by_cases hc:(k₀==NameKind.free&&sc.kind== .function&&sc.names.lookup n==some .cell)=true
   .rw[az hc] at h';simp only[lJ,hx] at h';exact b h'
   .rw[ar hc] at h';simp only[lJ,hx] at h';exact b h'
structure mZ (N:List Str)(sc scope:Scope)(own:List (Str×Nat)):Prop where
 kind:scope.kind= .function
 uniq:∀y∈scope.names,scope.names.lookup y.1=some y.2
 ix:∀p∈own,N[p.2]?=some p.1
 free:∀y∈scope.names,y.2= .free->sc.names.lookup y.1=some .cell∨sc.names.lookup y.1=some .free
 own:∀y∈scope.names,y.2= .local∨y.2= .cell->y.1∈own.map (·.1)∨y.1∉N
noncomputable def dg (σ:St):List Nat->St
 | []=>σ
 | v::vs=>(dg σ vs).set v none
theorem uO (σ:St):∀vs:List Nat,(dg σ vs).length=σ.length
 | []=>rfl
 | v::vs=>by unfold dg;rw[List.length_set,uO σ vs]
theorem r4 {σ:St}{i:Nat}{x:V}:∀{vs:List Nat},(dg σ vs)[i]?=some (some x)->σ[i]?=some (some x)/\i∉vs
 | [],h=>⟨h,by simp⟩
 | v::vs,h=>by
  unfold dg at h;by_cases hi:v=i
  .subst hi;by_cases a:v< (dg σ vs).length
   .rw[nR a] at h;cases h
   .rw[nF (by simpa using a)] at h;cases h
  .rw[qi hi] at h;obtain⟨h1,h2⟩:=r4 h;exact⟨h1,by simp only[ed,not_or];exact⟨λe=>hi e.symm,h2⟩⟩
abbrev Cx.cK (X:Cx)(s:Shared)(H:Hp)(scope:Scope)(a:Env)(fp:List Addr):Cx:={X with s_0:=s,H_0:=H,env:=a,outer:=X.stack,ex:=fp,fn:=λx=>scope.names.lookup x==some .cell,pn:=[],xe:=λ_ _=>False}
theorem LZ {σ:St}(I:Inv X pinsz_ σ H s)(ok:mZ X.N X.env.scope scope own)(Q:X.N.Nodup)(t:∀b∈fp,g7 X pinsz_ H b/\b<s.heap.objs.size):
 Inv (X.cK s H scope (compEnvC scope (cellsFrom (s.heap.objs.size+1) scope.names (dR X.env.cells scope.names [])) s.heap.objs.size X.env) fp) [] (dg σ (own.map (·.2))) H {s with heap:=pushCells (s.heap.push {cls:= .type "dict",data:= .dict #[]}) scope.names}:=by
 have T:∀y∈scope.names,y.2= .free->∃c,X.env.cells.lookup y.1=some c:=λy hy e=>by
  rcases ok.free y hy e with k | k
  .exact I.ok.has _ (.inl k)
  .exact I.ok.has _ (.inr k)
 generalize x:compEnvC scope (cellsFrom (s.heap.objs.size+1) scope.names (dR X.env.cells scope.names [])) s.heap.objs.size X.env=d;have kp:∀b o,s.heap.get? b=some o->(pushCells (s.heap.push {cls:= .type "dict",data:= .dict #[]}) scope.names).get? b=some o:=λb o e=>qz _ _ _ _ (cw _ e);have A:d.locals=s.heap.objs.size:=by rw[<-x];rfl
 have l:d.cells=cellsFrom (s.heap.objs.size+1) scope.names (dR X.env.cells scope.names []):=by rw[<-x];rfl
 have E:d.scope=FA scope X.env.scope:=by rw[<-x];rfl
 rw[<-fD s.heap {cls:= .type "dict",data:= .dict #[]}] at l
 have cm:∀{y c},(y,c)∈dR X.env.cells scope.names []->X.env.cells.lookup y=some c/\c<s.heap.objs.size:=λ{y c} hm=>by
  rcases qY hm with hm | ⟨h1,rfl⟩
  .cases hm
  .obtain⟨c,hc⟩:=T _ h1 O;rw[hc];obtain⟨w,z⟩:=I.cell _ _ hc;exact⟨O,z.lt⟩
 have mem:∀{y c},d.cells.lookup y=some c->(X.env.cells.lookup y=some c/\c<s.heap.objs.size)∨(s.heap.objs.size+1<=c/\xf (pushCells (s.heap.push {cls:= .type "dict",data:= .dict #[]}) scope.names) c none):=λ{y c} e=>by
  rw[l] at e;rcases ou (fh e) with hm | ⟨_,h2,U⟩
  .exact .inl (cm hm)
  .rw[fD] at h2;exact .inr ⟨h2,U⟩
 have look:∀{y},scope.names.lookup y=some .free->∃c,d.cells.lookup y=some c/\X.env.cells.lookup y=some c:=λ{y} C=>by
  have hy:(y,NameKind.free)∈scope.names:=fh C;obtain⟨c',f⟩:=mem_lookup (p5 (names:=scope.names) (n:=(s.heap.push {cls:= .type "dict",data:= .dict #[]}).objs.size) (vw (cells:=X.env.cells) (acc:=[]) hy));rw[<-l] at f;refine⟨c',f,?_⟩;rw[l] at f;rcases ou (fh f) with hm | ⟨h1,_,_⟩
  .exact(cm hm).1
  .have:=ok.uniq _ h1;rw[C] at this;cases this
 have Y:(X.cK s H scope d fp).Ok:=by
  refine⟨I.ok.mod,by show d.scope.kind=_;rw[E];exact ok.kind,by show d.globals=_;rw[<-x];exact I.ok.glob,by show d.builtins=_;rw[<-x];exact I.ok.blt,by show s.heap.objs.size<=d.locals;rw[A];exact bY _,
   λy z c e1 g=>?_,λy hy=>?_,λy c z e=>?_,I.ok.hd,I.ok.frames,.inl O,λb h=>⟨?_,λy c e z=>?_⟩,I.bs,bB I.ok.fP I.sz,λb o e h=>?_,λb h z=>?_,I.stack,I.uW⟩
  .have e1:d.cells.lookup y=some c:=e1;have g:d.cells.lookup z=some c:=g;rw[l] at e1 g;refine vO (λp u=>?_) (λy z c a b=>I.ok.inj y z c (cm a).1 (cm b).1) (fh e1) (fh g);rw[fD];exact qy (cm (y:=p.1) (c:=p.2) u).2
  .show ∃c,d.cells.lookup y=some c
   have v:∀k,d.kindOf y=some k->(k= .cell∨k= .free)->∃c,d.cells.lookup y=some c:=λk hk G=>by
    unfold Env.kindOf at hk;rw[E] at hk;obtain⟨j,e,r⟩:=tu hk
    have:j= .cell∨j= .free:=by
     rcases r with rfl | ⟨rfl,_⟩
     .exact G
     .exact .inr O
    rcases this with rfl | rfl
    .obtain⟨c,hm⟩:=rX (n:=(s.heap.push {cls:= .type "dict",data:= .dict #[]}).objs.size) (acc:=dR X.env.cells scope.names []) (fh e);obtain⟨c',f⟩:=mem_lookup hm;exact⟨c',by rw[l];exact f⟩
    .obtain⟨c,h1,_⟩:=look e;exact⟨c,h1⟩
   rcases hy with hy | hy
   .exact v _ hy (.inl O)
   .exact v _ hy (.inr O)
  .have z:(scope.names.lookup y==some NameKind.cell)=true:=z;have z:scope.names.lookup y=some .cell:=by simpa using z
   have e:d.cells.lookup y=some c:=e;rw[l] at e;rcases ou (fh e) with hm | ⟨_,h2,_⟩
   .rcases qY hm with hm | ⟨h1,_⟩
    .cases hm
    .have q:=ok.uniq _ h1;rw[z] at q;cases q
   .rw[fD] at h2;exact pE h2
  .show b≠d.locals;rw[A];exact dh (t b h).2
  .have e:d.cells.lookup y=some c:=e;rcases mem e with⟨h1,_⟩ | ⟨h1,_⟩
   .exact(t b h).1.2.2.2.2.1 y c h1 z
   .have h2:s.heap.objs.size+1<=b:=by rw[<-z];exact h1
    exact absurd (cc (t b h).2 (pE h2)) (hr _)
  .rcases(t b h).1.2.2.2.1 with z | z
   .exact I.ok.j_ b o e z
   .exact absurd (cc (bP e) (bB I.ok.fP z)) (hr _)
  .rcases List.mem_cons.mp (I.rg b z) with z | z
   .exact(t b h).1.2.1 z
   .exact(t b h).1.2.2.1 z
 refine⟨Y,O,I.bare,Un.kept kp,⟨λ_=>none,?_,λi y av e1 g e3=>?_⟩,λy c e=>?_,?_,λy c e=>?_,λp u=>?_,I.aG.kept kp,by rw[uO];exact I.len⟩
 .show Heap.Ns _ d.locals _;rw[A];exact Heap.Ns.keeps (Heap.Ns.new ..) λb o e=>qz _ _ _ _ e
 .obtain⟨g,b'⟩:=r4 g
  have D:scope.names.lookup y=some .free/\(d.kindOf y=some .cell∨d.kindOf y=some .free):=by
   have v:∀k,d.scope.names.lookup y=some k->k= .local∨k= .cell∨k= .free->scope.names.lookup y=some .free/\(d.kindOf y=some .cell∨d.kindOf y=some .free):=λk hk G=>by
    have J:=hk;rw[E] at hk;obtain⟨j,e,r⟩:=tu hk
    have M:¬(j= .local∨j= .cell):=λe'=>by
     rcases ok.own _ (fh e) e' with f | f
     .obtain⟨p,u,f'⟩:=List.mem_map.mp f;have e3:=ok.ix p u;have:p.1=y:=f';rw[this] at e3;exact b' (List.mem_map.mpr ⟨p,u,qf Q e3 e1⟩)
     .exact f (fx e1)
    rcases r with rfl | ⟨rfl,rfl⟩
    .rcases G with rfl | rfl | rfl
     .exact absurd (.inl O) M
     .exact absurd (.inr O) M
     .exact⟨e,.inr J⟩
    .exact⟨e,.inl J⟩
   have e3:l5 d.scope y:=e3;rcases e3 with e3 | e3 | e3
   .exact v _ e3 (.inl O)
   .exact v _ e3 (.inr (.inl O))
   .exact v _ e3 (.inr (.inr O))
  obtain⟨m,j',C⟩:=I.loc;have i':l5 X.env.scope y:=(ok.free _ (fh D.1) O).elim (λk=> .inr (.inl k)) (λk=> .inr (.inr k));obtain⟨w,r,q⟩:=C i y av e1 g i';refine⟨w,r,.inr ⟨D.2,?_⟩⟩;obtain⟨c,h1,h2⟩:=look D.1;rcases q with⟨k,_⟩ | ⟨_,c',f,z⟩
  .have k:X.env.scope.names.lookup y=some .local:=k;rcases ok.free _ (fh D.1) rfl with j | j<;>rw[show X.env.scope.names.lookup y=_ from j] at k<;>cases k
  .rw[h2] at f;cases f;exact⟨c,h1,z.keeps kp⟩
 .have e:d.cells.lookup y=some c:=e;rcases mem e with⟨h1,_⟩ | ⟨_,z⟩
  .obtain⟨w,z⟩:=I.cell y c h1;exact⟨w,z.keeps kp⟩
  .exact⟨_,z⟩
 .show H d.locals=none;rw[A];exact I.aG.fresh (bY _)
 .have e:d.cells.lookup y=some c:=e;rcases mem e with⟨h1,_⟩ | ⟨h1,_⟩
  .exact I.ek y c h1
  .exact I.aG.fresh (pE h1)
 .exact absurd (show p∈([]:List (Addr×Obj))++[] from u) (by simp)
theorem E4 {σ:St}{D:Addr}(I:Inv X pinsz_ σ H s)(a:H D=some (.lst xs))(f:xs.length<sizeLine)(r:RelV y v)(h:∀s',Inv X pinsz_ σ (ah H D (.lst (xs++[y]))) s'->Q .none s'):wpAny (model X.prog X.w) X.A (call (.builtin "list.append") [.ref D,v]) Q E s:=by
 obtain⟨j,aD,n,c,e⟩:=I.aG D _ a;have k:=c.length;refine append_at (hsz:=by rw[dq];omega) e λh' g d=>h {s with heap:=h'} (I.write (t':=s.toks) (by rw[a];trivial) (.inl O) (λb u i q=>(g.2 b i).trans q) ⟨_,d⟩ ⟨by rw[aP];exact f,aD++[v],n+1,c.append (.cons r .nil),?_⟩);rw[d];simp
noncomputable def ng (X:Cx)(dI:List Expr)(t:TT):Prop:=
 ∀(pinsz_:List (Addr×Obj)) (s:Shared) (σ:St) (H:Hp) (Q:Bool->Hp->Prop),Inv X pinsz_ σ H s->t σ H Q->
  wpAny (model X.prog X.w) X.A (forIn dI true λc r=>if r=true then do let ok<-isTrue c X.env (eval c X.env);pure (ForInStep.yield ok) else pure (ForInStep.yield r)) (TP X pinsz_ σ Q) X.xe s
noncomputable def z5:TT:=λ_ H Q=>Q true H
theorem kb:ng X [] z5:=λ_ _ _ H _ I h=>wpAny_tests_nil ⟨H,I,h⟩
theorem Dq {t:TT}(h:PT X c t):ng X [c] t:=λpinsz_ s σ H Q I a=>wpAny_tests_one (h pinsz_ s σ H Q I a)
theorem ph {t:Sem α}{Q:α->Shared->Prop}(h:wpAny M A t Q (λ_ _=>False) s)(b:∀a s,Q a s->Q' a s):wpAny M A t Q' E s:=df h b λ_ _ z=>False.elim z
theorem K1 {a:Expr}{it acc:Value}(I:Nat->Shared->Prop)(o:∀n s,I n s->wpAny (model prog w) A (pyNext it) (λr b=>match r with
 | none=>R (.ok .next) b
 | some v=>wpAny (model prog w) A (letOwnedTupleGo a it v) (λ_ f=>wpAny (model prog w) A (assign a env v) (λ_ g=>
  wpAny (model prog w) A (forIn dI true λc r=>if r=true then do let ok<-isTrue c env (eval c env);pure (ForInStep.yield ok) else pure (ForInStep.yield r)) (λok d=>
   if ok=true then wpAny (model prog w) A (eval ec env) (λx i=>
    wpAny (model prog w) A (call (.builtin "list.append") [acc,x]) (λ_ j=>∃m,m<n/\I m j) (notedBy (model prog w) A env λe s'=>R (.error e) s') i) (notedBy (model prog w) A env λe s'=>R (.error e) s') d
   else ∃m,m<n/\I m d) (notedBy (model prog w) A env λe s'=>R (.error e) s') g) (notedBy (model prog w) A env λe s'=>R (.error e) s') f) (notedBy (model prog w) A env λe s'=>R (.error e) s') b) (notedBy (model prog w) A env λe s'=>R (.error e) s') s)(n:Nat)(h:I n s):
 codeAny (model prog w) A (.compLoop (.ListComp ec [⟨a,iter,dI,0⟩] scope aH) 0 it acc env) R s:=by
 refine codeAny_loop O I (λn s p=>?_) n h;show wpAny _ A ((compTurn (.ListComp ec [⟨a,iter,dI,0⟩] scope aH) 0 it acc env).onRaise (λx=>do noteFrame x env;theTreesLotGoes x)) _ _ s;refine wpAny_noted ?_;rw[compTurn_list];refine aT (gT (aT (df (o n s p) (λr b k=>?_) λ_ _ h'=>h')))
 cases r with
 | none=>exact b4 k
 | some v=>
  refine aT (df k (λ_ f t=>?_) λ_ _ h'=>h');refine aT (df t (λ_ g u=>aT (df u (λok d l=>?_) λ_ _ h'=>h')) λ_ _ h'=>h')
  cases ok with
  | false=>exact b4 ⟨O,l⟩
  | true=>
   exact aT (aT (df l (λx i y=>aT (df y (λ_ j z=>b4 (b4 ⟨O,z⟩)) λ_ _ h'=>h')) λ_ _ h'=>h'))
noncomputable def nA (wi:TI)(g:TG)(tt:TT)(te:TE)(vs:List Nat):TE:=λσ H Q=>wi σ H λa H1=>∀D,H1 D=none->∃W:Nat->Nat->Hp->Prop,(∃m,W 0 m (ah H1 D (.lst [])))/\∀i m H,W i m H->
 (a.stop i H/\Q (.ref D) H)∨(a.go i H/\∃c:Hp->Prop,(∀H',c H'->∃e,e<m/\W (i+1) e H')/\∀x H',a.iD i H x H'->g x (dg σ vs) H' λd H2=>dg d vs=dg σ vs/\tt d H2 λb f=>
  if b=true then te d f λy h=>∃acc,h D=some (.lst acc)/\acc.length<sizeLine/\c (ah h D (.lst (acc++[y]))) else c f)
theorem tO {σ:St}{Q:VK}{use:Option (Value->Sem Unit)}{Qf:Value->Shared->Prop}{axD:St->XK}(_A:vY X Cl axD)(hc:X.calm=true)(_B:X.N.Nodup)(I:Inv X pinsz_ σ H s)(hi:PI X tg iter wi)(ok:mZ X.N X.env.scope scope own)(_C:∀(s:Shared) (H:Hp) (C:Addr) (cl:List (Str×Addr)) (fp:List Addr),PG (X.cK s H scope (compEnvC scope cl C X.env) fp) tg g)(_D:∀(s:Shared) (H:Hp) (C:Addr) (cl:List (Str×Addr)) (fp:List Addr),ng (X.cK s H scope (compEnvC scope cl C X.env) fp) dI tt)(he:∀(s:Shared) (H:Hp) (C:Addr) (cl:List (Str×Addr)) (fp:List Addr) (E:Value->Shared->Prop),du Cl ((X.cK s H scope (compEnvC scope cl C X.env) fp).dY E) (λ_=>axD σ)->PE ((X.cK s H scope (compEnvC scope cl C X.env) fp).dY E) ec te)(hs:∀x,foldedSetIterable iter X.env x=pure x)(h:nA wi g tt te (own.map (·.2)) σ H Q)(_E:∀D C s' m H',Inv X pinsz_ σ H' s'->Q (.ref D) H'->s'.heap.Ns C m->g7 X pinsz_ H' C->compPost (model X.prog X.w) X.A X.xe use Qf (.ref D) C (.ok .next) s'):
 wpAny (model X.prog X.w) X.A (comprehension (.ListComp ec [⟨tg,iter,dI,0⟩] scope aH) scope X.env fy (newList []) false (eval iter X.env) use) Qf X.xe s:=by
 have _F:∀y∈scope.names,y.2= .free->∃c,X.env.cells.lookup y.1=some c:=λy hy e=>by
  rcases ok.free y hy e with k | k
  .exact I.ok.has _ (.inl k)
  .exact I.ok.has _ (.inr k)
 refine wpAny_comprehension_free (use:=use) O hs (HX _F) ok.kind (λy hy e=>by rw[ok.uniq y hy,e])
  (bg (hi pinsz_ s σ H _ I h) λaQ' aR' hx=>bg hx λaS' e' h2=>?_)
 obtain⟨it,fp,l',aT',H2,e,j',T,W',D',q⟩:=h2;subst e;refine wpAny_newObj_type (Jr ?_) (by show 0<=sizeLine;decide);generalize m':e'.heap.objs.size=D;have _G:H2 D=none:=j'.aG.fresh (nY m');obtain⟨W,⟨m0,X'⟩,_H⟩:=q D _G;generalize Y':({e' with heap:=e'.heap.push {cls:= .type "list",data:= .seq ([]:List Value).toArray}}:Shared)=a
 have Y:Inv X pinsz_ σ (ah H2 D (.lst [])) a:=by
  rw[<-Y'];refine j'.laid (t':=e'.toks) (λb o e=>cw _ e) (nY m') ⟨b3 _,[],0,.nil,?_⟩;rw[<-m'];exact fW _ O
 have p':a.heap=e'.heap.push {cls:= .type "list",data:= .seq ([]:List Value).toArray}:=by rw[<-Y']
 have sz:∀b∈fp,b<e'.heap.objs.size:=λb d=>by
  obtain⟨o,e,_⟩:=T.obj _ _ W' b d;exact bP e
 have l:∀b∈fp,g7 X pinsz_ (ah H2 D (.lst [])) b/\b<a.heap.objs.size:=λb d=>by
  have Z':=sz b d;refine⟨⟨?_,(D' b d).2⟩,by rw[p',fD];exact qy Z'⟩;rw[ak (by rw[<-m'];exact dh Z')];exact(D' b d).1
 have _I:l' 0 a.heap:=T.keep _ _ _ W' λb _ o e=>by rw[p'];exact cw _ e
 have f':=LZ Y ok _B l;have pg:=_C a (ah H2 D (.lst [])) a.heap.objs.size (cellsFrom (a.heap.objs.size+1) scope.names (dR X.env.cells scope.names [])) fp;have pt:=_D a (ah H2 D (.lst [])) a.heap.objs.size (cellsFrom (a.heap.objs.size+1) scope.names (dR X.env.cells scope.names [])) fp;have E':=he a (ah H2 D (.lst [])) a.heap.objs.size (cellsFrom (a.heap.objs.size+1) scope.names (dR X.env.cells scope.names [])) fp;show codeAny _ _ (.compStart (.ListComp ec [⟨tg,iter,dI,0⟩] scope aH) 0 (.ref it) (.ref D) (compEnvC scope (cellsFrom (a.heap.objs.size+1) scope.names (dR X.env.cells scope.names [])) a.heap.objs.size X.env)) (compPost (model X.prog X.w) X.A X.xe use Qf (.ref D) a.heap.objs.size) {a with heap:=pushCells (a.heap.push {cls:= .type "dict",data:= .dict #[]}) scope.names};have _a:∀b∈fp,(ah H2 D (.lst [])) b=none:=λb d=>(l b d).1.1;generalize _b:compEnvC scope (cellsFrom (a.heap.objs.size+1) scope.names (dR X.env.cells scope.names [])) a.heap.objs.size X.env=f at f' pg pt E' ⊢;have k':f.locals=a.heap.objs.size:=by subst _b;rfl
 generalize aU':ah H2 D (.lst [])=t at Y f' pg pt E' X' _a l;generalize _J:({a with heap:=pushCells (a.heap.push {cls:= .type "dict",data:= .dict #[]}) scope.names}:Shared)=_c at f' ⊢;have _d:l' 0 _c.heap:=T.keep _ _ _ _I λb _ o e=>by rw[<-_J];exact qz _ _ _ _ (cw _ e)
 have F':∀{q':St} {H':Hp} {s':Shared},Inv (X.cK a t scope f fp) [] q' H' s'->(∀b∈fp,H' b=none)->∀b∈fp,g7 (X.cK a t scope f fp) [] H' b:=λ{q' H' s'} J M b d=>
  ⟨M b d,(J.ok.k8 b d).1,J.ok.j7 b d,.inl d,λx c e=>(J.ok.k8 b d).2 x c e,λp G'=>absurd (show p∈([]:List (Addr×Obj))++[] from G') (by simp)⟩
 have _K:du Cl ((X.cK a t scope f fp).dY (notedBy (model X.prog X.w) X.A f λe s'=>compPost (model X.prog X.w) X.A X.xe use Qf (.ref D) a.heap.objs.size (.error e) s')) (λ_=>axD σ):=by
  intro gJ q' H' s' e k p tb n J M x G' _L _e;rcases _A with⟨L,i',_M,hx⟩ | hx
  rotate_left
  .exact absurd _e (hx σ k p H')
  obtain⟨dx,_f,aV',aW',aX',aY',aZ',ba',mA,t1,t2,_g,hk,_h⟩:=id x.ex;obtain⟨_N,_O,_P⟩:=Y.young
  have r':a.heap.objs.size<n:=by
   have z:f.locals<n:=M;rw[k'] at z;exact z
  have back:∀{U:Shared},Inv ((X.cK a t scope f fp).dY (notedBy (model X.prog X.w) X.A f λe s'=>compPost (model X.prog X.w) X.A X.xe use Qf (.ref D) a.heap.objs.size (.error e) s')) gJ q' H' U->Inv X pinsz_ σ H' U:=λ{U} _Q=>
   have G:=_Q.gY
   Y.CH (ch:=fp) G.os G.base G.aG G.bare λb d=>⟨(l b d).1.2.2.2.1,(l b d).1.2.1,(l b d).1.2.2.2.2.1,(l b d).1.2.2.2.2.2⟩
  have _R:noteFrame (.ref e) f=noteFrame (.ref e) X.env:=by rw[<-_b];rfl
  show wpAny (model X.prog X.w) X.A (noteFrame (.ref e) f) _ _ s';rw[_R];have _S:s'.heap.FunFrames X.base (X.env::X.outer):=by rw[<-i'];exact(back J).stack
  have _T:X.A.frames=some (X.env::X.outer):=by rw[<-i'];exact I.ok.frames
  refine pR (C:=Cl) (dx:=some dx) (L:=L) _T _S _M _f λh1 T _U _V _W kx=>?_;have _X:eS (dn X.stack) (e::dQ tb) s'.heap h1:=by rw[i'];exact kx
  have _i:=J.kx (C:=Cl) (dx:=dx) (e:=e) (k:=k) (p:=p) (tb:=tb) (t':=s'.toks) M x G' _L _X;have I':∀q∈X.pn++pinsz_,q.1<n:=λq _Y=>m4 (_O q _Y) r';have J':∀x c,X.env.cells.lookup x=some c->c<n:=λx c z=>m4 (_P x c z) r';have K':X.env.locals<n:=m4 _N r';obtain⟨_Z,aa'⟩:=kj (C:=Cl) (n:=n) (k:=k) (p:=p) (back J) i' K' x I' J' _W _V _f kx;obtain⟨m,u',_⟩:=_i.loc;have u':h1.Ns f.locals m:=u'
  have L':H' a.heap.objs.size=none:=by
   have z:H' f.locals=none:=_i.free;rw[k'] at z;exact z
  rw[k'] at u'
  have post:∃m,h1.Ns a.heap.objs.size m/\∀h',Heap.SameBut a.heap.objs.size h1 h'->∀M':Env,M'.locals=a.heap.objs.size->wpAny (model X.prog X.w) X.A (PySem.passOn "comprehension.variables-let-go" (.ref e) M':Sem Value) (λ_ _=>False) X.xe {s' with heap:=h'}:=by
   refine⟨m,u',λh2 v' M' bb'=>?_⟩;obtain⟨ab',ac',D',ad',ae',af'⟩:=Y.mU (bY _) L';have j':Inv X pinsz_ σ H' {s' with heap:=h2,toks:=s'.toks}:=_Z.turned (t':=s'.toks) (λb o d q=>(v'.2 b d).trans q) ab' ac' ad' ae' af';have N':∀b,n<=b->b≠a.heap.objs.size:=λb d=>hv (cc r' d)
   have e3:hQ Cl n H' h2 e k p (some (T,_U)):=by
    obtain⟨_j,ag',_k,_l,ah',ai',aj',_m,mA,t1,t2,_g,hk,_h⟩:=aa'.ex;obtain⟨_n,_o,_p,O',_q,_r,P',w',R',_s,ak',al',am',an',ao'⟩:=ag'.ex;exact⟨_j,⟨_n,_o,_p,(v'.2 e (N' e _k)).trans O',_q,_r,P',w',R',_s,ak',al',(v'.2 T (N' T (_m T _ O).1)).trans am',an',ao'⟩,_k,_l,ah',ai',aj',_m,mA,t1,t2,_g.sameBut v' (N' _j _l),hk,_h⟩
   obtain⟨bc',y',_⟩:=id e3.ex;obtain⟨_n,_o,_p,O',_q,_r,P',w',R',_s,_⟩:=id y'.ex;unfold PySem.passOn;refine aT (gH O' P' R' ?_);rw[ar (show ¬((Value.ref T==Value.none)=true) from by simp)];refine aT (rb (s:={s' with heap:=h2}) y' λp' ap' S'=>qT ?_);have aq':h2.FunFrames X.base (X.env::X.outer):=by rw[<-i'];exact j'.stack
   obtain⟨f',e4⟩:=kj (C:=Cl) (n:=n) (k:=k) (p:=p) (h1:=p') (T:=T) j' i' K' e3 I' J' (.inr ⟨_,O⟩) ap' y' ⟨λb o q n1 n2=>S'.keep b o q (by simp) λz=>n2 (by simp[dQ,List.mem_singleton.mp z]),
    λb o q n1=>⟨o.slots,S'.keep b o q (by simp) λz=>y'.jm aq' (by rw[<-List.mem_singleton.mp z];exact n1)⟩,S'.there⟩
   exact hx pinsz_ σ H' _ e k p _ n f' K' e4 I' J' _e
  cases use<;>exact post
 have _t:codeAny (model X.prog X.w) X.A (.compLoop (.ListComp ec [⟨tg,iter,dI,0⟩] scope aH) 0 (.ref it) (.ref D) f) (compPost (model X.prog X.w) X.A X.xe use Qf (.ref D) a.heap.objs.size) _c:=by
  refine K1 (λn s'=>∃i H',Inv (X.cK a t scope f fp) [] (dg σ (own.map (·.2))) H' s'/\l' i s'.heap/\(∀b∈fp,H' b=none)/\W i n H') ?_ m0 ⟨0,t,f',_d,_a,X'⟩;rintro n _u ⟨i,b',z',_v,n5,w'⟩;rcases _H i n b' w' with⟨stop,ar'⟩ | ⟨go,as',au',step⟩
  .have av':=T.done (X.cK a t scope f fp) O O O hc i [] _u _ b' (λ_ _=>False) z' (F' z' n5) _v stop;refine ph av' λr U ⟨T',G⟩=>?_;subst T';have A':Inv X pinsz_ σ b' U:=Y.CH (ch:=fp) G.os G.base G.aG G.bare λb d=>⟨(l b d).1.2.2.2.1,(l b d).1.2.1,(l b d).1.2.2.2.2.1,(l b d).1.2.2.2.2.2⟩
   have L':b' a.heap.objs.size=none:=by
    have z:b' f.locals=none:=G.free;rw[k'] at z;exact z
   obtain⟨m,M,_⟩:=G.loc;have M:U.heap.Ns f.locals m:=M;rw[k'] at M;exact _E D a.heap.objs.size U m b' A' ar' M (Y.mU (bY _) L')
  .have aw':=T.item (X.cK a t scope f fp) O O O hc i [] _u _ b' (λ_ _=>False) z' (F' z' n5) _v go;refine ph aw' λr U ⟨u,T',ax'⟩=>?_;subst T';refine ph ax' λ_ U' ⟨x,_w,A',ay',az',V',n7⟩=>?_;have aA':=A'.pinned (F' A' n7) (T.obj _ _ V');refine ph (pg _ U' _ _w x u _ aA' ay' (step x _w az')) λ_ aB' ⟨B',aC',aD',_x,aE'⟩=>ph (pt _ aB' B' aC' _ aD' aE') λb aF' ⟨aG',_y,C'⟩=>?_
   have fin:∀{s':Shared} {H':Hp},Inv (X.cK a t scope f fp) ([]++o6 fp U'.heap) B' H' s'->as' H'->∃m,m<n/\∃i H',Inv (X.cK a t scope f fp) [] (dg σ (own.map (·.2))) H' s'/\l' i s'.heap/\(∀b∈fp,H' b=none)/\W i m H':=λ{s' H'} J nx=>by
    obtain⟨aH',hm,aI'⟩:=au' H' nx
    have _z:∀b∈fp,∀o,U'.heap.get? b=some o->s'.heap.get? b=some o/\H' b=none:=λb d o e=>
     let z:=J.pin (b,o) (fz _ (fz _ (rR d e)))
     ⟨z.1,z.2.1⟩
    have aJ':(dg σ (own.map (·.2))).length=B'.length:=by rw[<-_x,uO]
    refine⟨aH',hm,i+1,H',(J.qN (pinsz_:=[])).weak aJ' (λj v e=>?_),T.keep _ _ _ V' λb d o e=>(_z b d o e).1,λb d=>?_,aI'⟩
    .rw[<-_x] at e;exact(r4 e).1
    .obtain⟨o,e,_⟩:=T.obj _ _ V' b d;exact(_z b d o e).2
   cases b with
   | false=>
    simp only[mW,dV] at C' ⊢
    exact fin _y C'
   | true=>
    simp only[c2] at C' ⊢;refine df (E' _ _K _ aF' B' aG' _ (_y.dY _) C') (λz bd' ⟨be',bf',aK',aL',acc,aM',aN',nx⟩=>?_) λ_ _ y=>y;have aO':=aK'.gY;exact E4 (X:=X.cK a t scope f fp) aO' aM' aN' aL' λbg' aP'=>fin aP' nx
 exact codeAny_compStart_list _t (T.self X.A 0 _ _ _ _d _t)
theorem ov (hc:X.calm=true)(a:X.N.Nodup)(hi:PI X tg iter wi)(ok:mZ X.N X.env.scope scope own)(c:∀(s:Shared) (H:Hp) (C:Addr) (cl:List (Str×Addr)) (fp:List Addr),PG (X.cK s H scope (compEnvC scope cl C X.env) fp) tg g)(d:∀(s:Shared) (H:Hp) (C:Addr) (cl:List (Str×Addr)) (fp:List Addr),ng (X.cK s H scope (compEnvC scope cl C X.env) fp) dI tt)(he:∀(s:Shared) (H:Hp) (C:Addr) (cl:List (Str×Addr)) (fp:List Addr),PE (X.cK s H scope (compEnvC scope cl C X.env) fp) ec te)(hs:∀x,foldedSetIterable iter X.env x=pure x:=by intro _;rfl):
 PE X (.ListComp ec [⟨tg,iter,dI,0⟩] scope aH) (nA wi g tt te (own.map (·.2))):=by
 intro pinsz_ s σ H Q I h;rw[eval_ListComp];refine tO (Cl:=0) (axD:=λ_ _ _ _=>False) (.inr λ_ _ _ _ z=>z) hc a I hi ok c d (λs H C cl fp E _=>PE.hP (X:=(X.cK s H scope (compEnvC scope cl C X.env) fp).dY E) (he s H C cl fp)) hs h λD C s' m H' i q j f=>⟨m,j,λv k=>?_⟩;obtain⟨l,n,w,p,r,t⟩:=f;exact⟨.ref D,H',i.turned (t':=s'.toks) (λb o u e=>(k.2 b u).trans e) l n p r t,O,q⟩
theorem yD {y:Str}(hc:X.calm=true)(c:X.N.Nodup)(hy:X.N[i]?=some y)(d:X.env.scope.names.lookup y=some .local)(l:swapsWith (.ListComp ec [⟨tg,iter,dI,0⟩] scope aH) (some (.Name y py)) qm.line X.env=pure true)(hi:PI X tg iter wi)(ok:mZ X.N X.env.scope scope own)(n:∀(s:Shared) (H:Hp) (C:Addr) (cl:List (Str×Addr)) (fp:List Addr),PG (X.cK s H scope (compEnvC scope cl C X.env) fp) tg g)(p:∀(s:Shared) (H:Hp) (C:Addr) (cl:List (Str×Addr)) (fp:List Addr),ng (X.cK s H scope (compEnvC scope cl C X.env) fp) dI tt)(he:∀(s:Shared) (H:Hp) (C:Addr) (cl:List (Str×Addr)) (fp:List Addr),PE (X.cK s H scope (compEnvC scope cl C X.env) fp) ec te)(hs:∀x,foldedSetIterable iter X.env x=pure x:=by intro _;rfl):
 PS X (.Assign [.Name y py] (.ListComp ec [⟨tg,iter,dI,0⟩] scope aH) qm) (jI (nA wi g tt te (own.map (·.2))) (gQ i)):=by
 intro pinsz_ s σ H D I h;rw[Au _ _ _ _ l];refine aT (gT (aT ?_));show wpAny _ X.A (do let _<-comprehension (.ListComp ec [⟨tg,iter,dI,0⟩] scope aH) scope X.env (firstIterPos [⟨tg,iter,dI,0⟩] aH) (newList []) false (eval iter X.env) (some (assign (.Name y py) X.env))) _ _ s;have h:nA wi g tt te (own.map (·.2)) σ H (λx H1=>gQ i x σ H1 D.nx):=h;refine aT (bg (tO (Cl:=0) (axD:=λ_ _ _ _=>False) (Qf:=λ_ s'=>SP X pinsz_ D .next s') (.inr λ_ _ _ _ z=>z) hc c I hi ok n p (λs H C cl fp E _=>PE.hP (X:=(X.cK s H scope (compEnvC scope cl C X.env) fp).dY E) (he s H C cl fp)) hs h λL C s' m H' r q t f=>?_) λ_ s' u=>b4 (b4 u));show wpAny _ _ (assign (.Name y py) X.env (.ref L)) _ _ _;refine tH (oU (v:=V.ref L) r c hy (.inl d) O (λw G ⟨a,J,ha⟩=>?_) (.inr d));obtain⟨M,j,e',Q,k,T⟩:=f
 have U:C≠a:=by
  rcases ha with z | z
  .rw[z];exact j
  .exact λe=>k y a z e.symm
 exact⟨m,t.sameBut J U,λf' Y=>⟨_,H',G.turned (t':=w.toks) (λb o b' e=>(Y.2 b b').trans e) M j Q k T,q⟩⟩
theorem qh {a:List Comprehension}{y:Str}{l:Nat}(hk:env.scope.kind= .function)(hy:env.scope.names.lookup y=some .local)(b:(py.line==aH.line)=true)(ha:(scope.names.any λ(n,k)=>n==y&&(k== .local||k== .cell))=false):swapsWith (.ListComp ec a scope aH) (some (.Name y py)) l env=pure true:=by
 have c:env.kindOf y=some .local:=hy;have d:env.blockKind= .function:=by unfold Env.blockKind;rw[hk];rfl
 unfold swapsWith;simp only[d,c,ha,Expr.pos,b];rfl
theorem vz {lo:Int}{vs:List Nat}{σ:St}{D:Addr}(Pv:Nat->Hp->Prop)(k:Pv 0 (ah H1 D (.lst [])))(hs:∀i H,i<n->Pv i H->g (.int (lo+i)) (dg σ vs) H λa H2=>dg a vs=dg σ vs/\tt a H2 λb c=>
 if b=true then te a c λy d=>∃acc,d D=some (.lst acc)/\acc.length<sizeLine/\Pv (i+1) (ah d D (.lst (acc++[y]))) else Pv (i+1) c)(hd:∀H,Pv n H->Qd H):
 ∃W:Nat->Nat->Hp->Prop,(∃m,W 0 m (ah H1 D (.lst [])))/\∀i m H,W i m H->
  ((
   ig lo n).stop i H/\Qd H)∨((ig lo n).go i H/\∃f:Hp->Prop,(∀H',f H'->∃j,j<m/\W (i+1) j H')/\∀x H',(ig lo n).iD i H x H'->g x (dg σ vs) H' λa H2=>dg a vs=dg σ vs/\tt a H2 λb c=>
   if b=true then te a c λy d=>∃acc,d D=some (.lst acc)/\acc.length<sizeLine/\f (ah d D (.lst (acc++[y]))) else f c):=by
 refine⟨λi m H=>m=n - i/\i<=n/\Pv i H,⟨n,by simp,b3 _,k⟩,?_⟩;rintro i m H ⟨rfl,hi,p⟩;by_cases h:i<n
 .refine .inr ⟨h,Pv (i+1),λH' l=>⟨n - (i+1),af,O,h,l⟩,λx H' y=>?_⟩;obtain⟨e,y⟩:=y;subst e y;exact hs i _ h p
 .have e:i=n:=af;subst e;exact .inl ⟨bY _,hd H p⟩
theorem mT {K:Frag}{vs:List Nat}{σ:St}{D:Addr}(Pv:Nat->Hp->Prop)(l:Pv 0 (ah H1 D (.lst [])))(n:∀i H,i<=xs.length->Pv i H->ay K H a xs)(hs:∀i x H,xs[i]?=some x->Pv i H->g x (dg σ vs) H λc H2=>dg c vs=dg σ vs/\tt c H2 λb d=>
 if b=true then te c d λy f=>∃acc,f D=some (.lst acc)/\acc.length<sizeLine/\Pv (i+1) (ah f D (.lst (acc++[y]))) else Pv (i+1) d)(hd:∀H,Pv xs.length H->Qd H):
 ∃W:Nat->Nat->Hp->Prop,(∃m,W 0 m (ah H1 D (.lst [])))/\∀i m H,W i m H->
  ((
   j3 K a).stop i H/\Qd H)∨((j3 K a).go i H/\∃h:Hp->Prop,(∀H',h H'->∃j,j<m/\W (i+1) j H')/\∀x H',(j3 K a).iD i H x H'->g x (dg σ vs) H' λc H2=>dg c vs=dg σ vs/\tt c H2 λb d=>
   if b=true then te c d λy f=>∃acc,f D=some (.lst acc)/\acc.length<sizeLine/\h (ah f D (.lst (acc++[y]))) else h d):=by
 refine⟨λi m H=>m=xs.length - i/\i<=xs.length/\Pv i H,⟨xs.length,by simp,b3 _,l⟩,?_⟩;rintro i m H ⟨rfl,hi,p⟩;have q:=n i H hi p;by_cases k:i<xs.length
 .refine .inr ⟨⟨xs,xs[i],q,by simp[k]⟩,Pv (i+1),λH' o=>⟨xs.length - (i+1),af,O,k,o⟩,λx H' y=>?_⟩;obtain⟨e,y⟩:=y;subst e;exact hs i x _ (y xs q) p
 .have e:i=xs.length:=af;subst e;exact .inl ⟨⟨xs,q,bY _⟩,hd H p⟩
noncomputable def g8 (N:List Str)(sc scope:Scope)(own:List (Str×Nat)):Bool:=
 (match scope.kind with | .function=>true | _=>false)&&(scope.names.all λy=>decide (scope.names.lookup y.1=some y.2))&&(own.all λp=>decide (N[p.2]?=some p.1))&&
  (scope.names.all λy=>match y.2 with
   | .free=>(match sc.names.lookup y.1 with | some .cell=>true | some .free=>true | _=>false)
   | .local=>decide (y.1∈own.map (·.1))||decide (y.1∉N)
   | .cell=>decide (y.1∈own.map (·.1))||decide (y.1∉N)
   | _=>true)
theorem ib (h:g8 N sc scope own=true):mZ N sc scope own:=by
 unfold g8 at h;simp only[cH,uB,dz] at h;obtain⟨⟨⟨h1,h2⟩,b⟩,a⟩:=h;refine⟨?_,h2,b,λy hy e=>?_,λy hy e=>?_⟩
 .split at h1
  .assumption
  .cases h1
 .have q:=a y hy;simp only[e] at q;split at q<;>first | exact .inl (by assumption) | exact .inr (by assumption) | cases q
 .have q:=a y hy;rcases e with e | e<;>(simp only[e,lV,dz] at q;exact q)
structure aS (P:Program)(w:World)(K:Frag)(mg:Str->Option Value)(base:Heap)(CX:gN)(k:Nat)(x:Str)(ps:List Str)(sp:Sp):Prop where
 ex:∃(f:Addr) (fd:FuncData),cP P w K mg base CX k f fd ps sp/\mg x=some (.ref f)/\keepIn K (.ref f)=true/\Binds K fd ps []
structure gU (P:Program)(w:World)(K:Frag)(mg:Str->Option Value)(base:Heap)(k:Nat)(x:Str)(C:Addr)(ps:List Str)(sp:Sp):Prop where
 ex:∃(f:Addr) (fd:FuncData),cP P w K mg base ba k f fd ps sp/\mg x=some (.ref C)/\Mk K C f/\Binds K fd ps []
theorem uN (h:aS X.prog X.w X.K X.mg X.base ba k x ps sp)(a:bT k X.A)(c:Gl X x)(ha:PA X (e::es) t)(d:(x==("__debug__":Str))=false:=by decide)(he:starEach (e::es) X.env=(false,eval e X.env)::starEach es X.env:=by rfl)(g:(backTo aH (starEach es X.env)).any (·.1)=false:=by rfl):PE X (.Call (.Name x p) (e::es) [] aH) (jZ sp [] E0 t):=by
 obtain⟨f,fd,F,m,kp,b⟩:=h.ex;exact G3 F a c m kp b .nil uz ha d he g
theorem KG (h:aS X.prog X.w X.K X.mg X.base (bZ X.prog X.w C) k x ps sp)(hx:du C X ax)(a:bT k X.A)(c:Gl X x)(ha:PA X (e::es) t)(d:(x==("__debug__":Str))=false:=by decide)(he:starEach (e::es) X.env=(false,eval e X.env)::starEach es X.env:=by rfl)(g:(backTo aH (starEach es X.env)).any (·.1)=false:=by rfl):PE X (.Call (.Name x p) (e::es) [] aH) (pb sp ax t):=by
 obtain⟨f,fd,F,m,kp,b⟩:=h.ex;exact HG F a c m kp b hx ha d he g
theorem M2 (h:gU X.prog X.w X.K X.mg X.base k x C ps sp)(a:bT (k+1) X.A)(c:Gl X x)(ha:PA X (e::es) t)(d:(x==("__debug__":Str))=false:=by decide)(he:starEach (e::es) X.env=(false,eval e X.env)::starEach es X.env:=by rfl)(g:(backTo aH (starEach es X.env)).any (·.1)=false:=by rfl):PE X (.Call (.Name x p) (e::es) [] aH) (lq C sp [] E0 t):=by
 obtain⟨f,fd,F,m,M,b⟩:=h.ex;exact J1 M F a c m b .nil uz ha d he g
theorem Ng (h:gU X.prog X.w X.K X.mg X.base k x C ps sp)(a:bT (k+1) X.A)(c:Gl X x)(d:(x==("__debug__":Str))=false:=by decide):PE X (.Call (.Name x p) [] [] aH) (lq C sp [] E0 eE):=by
 obtain⟨f,fd,F,m,M,b⟩:=h.ex;exact Ha M F a c m b .nil uz d
theorem bT.mark {j k:Nat}{A:Around}{h:Option Value}(r:bT k A)(a:j<=k)(hc:ez j=false):bT j (A.mark h):=⟨λz=>(by rw[hc] at z;cases z),(r.mono a).dp,(r.mono a).un⟩
theorem dB.C_ (F:dB K x bN st f fd)(S:c4 N ps (bL st))(len:∀vs H Q E,sp vs H Q E->vs.length=ps.length)(a:∀(bc:Value) (A:Around) (outer:List Env) (s:Shared) (H:Hp) (vs:List V) (Q:VK) (E:XK),bT k (A.deeper (envOfC bN (bL st) s.heap.objs.size f bc))->sp vs H Q E->
 ∃t,cT (dX (ez (k+1)) (bZ P w C) P w K mg base N bN (bL st) f bc A outer s H E) (ew st) t/\t {nx:=λ_ H'=>Q .aE H',rt:=Q} (start N vs) H):cP P w K mg base (bZ P w C) (k+1) f fd ps sp:=by
 obtain⟨oc,od,kV,cL,pm,an,bc,ct,cX,rfl,lk,b⟩:=F.ex;exact qJ lk b S len λA outer s H vs Q E c d=>a bc A outer s H vs Q E c d
structure Fn (K:Frag)(mg:Str->Option Value)(x:Str)(st:Stmt)(ps:List Str):Prop where
 ex:∃(f:Addr) (fd:FuncData),dB K x x st f fd/\mg x=some (.ref f)/\Binds K fd ps []
theorem Fn.has (F:Fn K mg x st ps)(S:c4 N ps (bL st))(len:∀vs H Q E,sp vs H Q E->vs.length=ps.length)(a:∀(f:Addr) (bc:Value) (A:Around) (outer:List Env) (s:Shared) (H:Hp) (vs:List V) (Q:VK) (E:XK),bT k (A.deeper (envOfC x (bL st) s.heap.objs.size f bc))->sp vs H Q E->
 ∃t,cT (dX (ez (k+1)) ba P w K mg base N x (bL st) f bc A outer s H E).hP (ew st) t/\t {nx:=λ_ H'=>Q .aE H',rt:=Q} (start N vs) H):aS P w K mg base ba (k+1) x ps sp:=by
 obtain⟨f,fd,F,m,b⟩:=F.ex;exact⟨f,fd,F.ok S len (a f),m,F.kp,b⟩
theorem Fn.G0 (F:Fn K mg x st ps)(S:c4 N ps (bL st))(len:∀vs H Q E,sp vs H Q E->vs.length=ps.length)(a:∀(f:Addr) (bc:Value) (A:Around) (outer:List Env) (s:Shared) (H:Hp) (vs:List V) (Q:VK) (E:XK),bT k (A.deeper (envOfC x (bL st) s.heap.objs.size f bc))->sp vs H Q E->
 ∃t,cT (dX (ez (k+1)) (bZ P w C) P w K mg base N x (bL st) f bc A outer s H E) (ew st) t/\t {nx:=λ_ H'=>Q .aE H',rt:=Q} (start N vs) H):aS P w K mg base (bZ P w C) (k+1) x ps sp:=by
 obtain⟨f,fd,F,m,b⟩:=F.ex;exact⟨f,fd,F.C_ S len (a f),m,F.kp,b⟩
noncomputable def gi (K:Frag)(C:Addr)(names:List Str):Prop:=o5 K C/\∀f∈names,jA K C f
inductive Kw (C:Addr)(f:Str)(Q:VK)(x:V)(H1:Hp):Prop
 | mk a dx fs v (_:x= .ref a) (_:H1 a=some (.ins C dx fs)) (_:fs.lookup f=some v) (_:Q v H1)
noncomputable def tF (C:Addr)(ta:TE)(f:Str):TE:=λσ H Q=>ta σ H λx H1=>Kw C f Q x H1
inductive CV (C:Addr)(f:Str)(D:Ends)(σ:St)(y:V)(x:V)(H2:Hp):Prop
 | mk a dx fs (_:x= .ref a) (_:H2 a=some (.ins C dx fs)) (_:fs.length<1000) (_:D.nx σ (ah H2 a (.ins C dx (bM f y fs))))
noncomputable def sF (C:Addr)(ta tv:TE)(f:Str):TS:=λD σ H=>tv σ H λy H1=>ta σ H1 λx H2=>CV C f D σ y x H2
inductive Em (C:Addr)(f:Str)(D:Ends)(σ:St)(z:V)(H3:Hp)(a:Addr):Prop
 | mk BN ue (_:H3 a=some (.ins C BN ue)) (_:ue.length<1000) (_:D.nx σ (ah H3 a (.ins C BN (bM f z ue))))
inductive Gf (C:Addr)(tv:TE)(rd:V->V->Hp->VK->Prop)(f:Str)(D:Ends)(σ:St)(x:V)(H1:Hp):Prop
 | mk a dx fs v (_:x= .ref a) (_:H1 a=some (.ins C dx fs)) (_:fs.lookup f=some v) (_:tv σ H1 λy H2=>rd v y H2 λz H3=>Em C f D σ z H3 a)
noncomputable def G9 (C:Addr)(ta tv:TE)(rd:V->V->Hp->VK->Prop)(f:Str):TS:=λD σ H=>ta σ H λx H1=>Gf C tv rd f D σ x H1
theorem aw {f:Str}(c:gi X.K C names)(he:PE X e ta)(b:names.contains f=true:=by rfl)(d:attributeBase e f X.env (eval e X.env)=eval e X.env:=by rfl):PE X (.Attribute e f aH) (tF C ta f):=by
 intro pinsz_ s σ H Q I h;refine Bc d (bg (he pinsz_ s σ H _ I h) λu n ⟨x,H1,g,i,a,dx,fs,v,ex,j,l,q⟩=>?_);subst ex;obtain rfl:u=Value.ref a:=i;exact yS g j c.1 (c.2 f (by simpa using b)) l λo p k m=>⟨v,H1,k,m,q⟩
theorem bz {o:Expr}{f:Str}(c:gi X.K C names)(ha:PE X o ta)(b:PE X hF tv)(d:names.contains f=true:=by rfl)(hs:swapsWith hF (some (.Attribute o f fy)) aH.line X.env=pure false:=by rfl):PS X (.Assign [.Attribute o f fy] hF aH) (sF C ta tv f):=by
 intro pinsz_ s σ H D I h;refine si (bg (b pinsz_ s σ H _ I h) λu e ⟨y,H1,g,i,q⟩=>bg (ha pinsz_ e σ H1 _ g q) λj t ⟨x,H2,k,m,a,dx,fs,ex,n,l,p⟩=>?_) hs;subst ex;obtain rfl:j=Value.ref a:=m;exact y5 k n c.1 (c.2 f (by simpa using d)) l i λv r=>⟨σ,_,r,p⟩
theorem hT {o:Expr}{f:Str}{op:Operator}{rd:V->V->Hp->VK->Prop}(c:gi X.K C names)(ha:PE X o ta)(b:PE X hF tv)(d:zX X op rd)(e:names.contains f=true:=by rfl):PS X (.AugAssign (.Attribute o f q9) op hF aH) (G9 C ta tv rd f):=by
 intro pinsz_ s σ H D I h;refine wpAny_AugAssign_AttributeAny (bg (ha pinsz_ s σ H _ I h) λg Y ⟨x,H1,i,j,a,dx,fs,v,ex,k,l,q⟩=>?_);subst ex;obtain rfl:g=Value.ref a:=j;have n:=c.2 f (by simpa using e);exact yS i k c.1 n l λu m p r=>bg (b pinsz_ m σ H1 _ p q) λt w ⟨y,H2,A,E,G⟩=>bg (d pinsz_ w σ H2 v y u t _ A r E G) λb' e' ⟨z,f',J,M,i',j',N,Q,T⟩=>y5 J N c.1 n Q M λk' U=>⟨σ,_,U,T⟩
theorem Ai {y:Str}{c:XK}(n:vY X Cl λ_=>c)(hc:X.calm=true)(d:X.N.Nodup)(hy:X.N[i]?=some y)(j:X.env.scope.names.lookup y=some .local)(p:swapsWith (.ListComp ec [⟨tg,iter,dI,0⟩] scope aH) (some (.Name y py)) qm.line X.env=pure true)(hi:PI X tg iter wi)(ok:mZ X.N X.env.scope scope own)(r:∀(s:Shared) (H:Hp) (C:Addr) (cl:List (Str×Addr)) (fp:List Addr),PG (X.cK s H scope (compEnvC scope cl C X.env) fp) tg g)(t:∀(s:Shared) (H:Hp) (C:Addr) (cl:List (Str×Addr)) (fp:List Addr),ng (X.cK s H scope (compEnvC scope cl C X.env) fp) dI tt)(he:∀(s:Shared) (H:Hp) (C:Addr) (cl:List (Str×Addr)) (fp:List Addr) (E:Value->Shared->Prop),du Cl ((X.cK s H scope (compEnvC scope cl C X.env) fp).dY E) (λ_=>c)->PE ((X.cK s H scope (compEnvC scope cl C X.env) fp).dY E) ec te)(hs:∀x,foldedSetIterable iter X.env x=pure x:=by intro _;rfl):
 PS X (.Assign [.Name y py] (.ListComp ec [⟨tg,iter,dI,0⟩] scope aH) qm) (jI (nA wi g tt te (own.map (·.2))) (gQ i)):=by
 intro pinsz_ s σ H D I h;rw[Au _ _ _ _ p];refine aT (gT (aT ?_));show wpAny _ X.A (do let _<-comprehension (.ListComp ec [⟨tg,iter,dI,0⟩] scope aH) scope X.env (firstIterPos [⟨tg,iter,dI,0⟩] aH) (newList []) false (eval iter X.env) (some (assign (.Name y py) X.env))) _ _ s;have h:nA wi g tt te (own.map (·.2)) σ H (λx H1=>gQ i x σ H1 D.nx):=h;refine aT (bg (tO (Cl:=Cl) (axD:=λ_=>c) (Qf:=λ_ s'=>SP X pinsz_ D .next s') n hc d I hi ok r t he hs h λL C s' m H' u q w f=>?_) λ_ s' G=>b4 (b4 G));show wpAny _ _ (assign (.Name y py) X.env (.ref L)) _ _ _;refine tH (oU (v:=V.ref L) u d hy (.inl j) O (λJ M ⟨a,Q,ha⟩=>?_) (.inr j));obtain⟨T,k,i',U,l,Y⟩:=f
 have b':C≠a:=by
  rcases ha with z | z
  .rw[z];exact k
  .exact λe=>l y a z e.symm
 exact⟨m,w.sameBut Q b',λj' e'=>⟨_,H',M.turned (t':=J.toks) (λb o f' e=>(e'.2 b f').trans e) T k U l Y,q⟩⟩
theorem zp {K:Frag}{E:XK}:
 vY (dX cm (bZ P w C) P w K mg base N bN scope f cd A outer s0 H0 E) C (λ_=>E):= .inl ⟨_,O,O,bw⟩
end L2
namespace L2
open PySem PySem.W PyProof.Rows
variable {A:Around} {B ql newId:String} {C N:Addr} {E Q:Value->Shared->Prop} {ab hdct:Bool} {bm bs rest sub:List Value} {col:Option Bool} {d:Drawn} {dd:Option Addr} {g:Array GenState} {h:Heap} {k0 k1 k2 k3 k5:Option Value} {nm q:Str} {os:OsState} {prog:Program} {sn:List Str} {t:Nat} {w:World}
theorem JJ (F:ExcBaseFacts B newId ql bm){c:Str->Option Value}(a:h.get? C=some (excClassObj nm q C N bs bm hdct sn sub ab col dd k0 k1 k2 k3 k5 newId))(k:h.Ns N c)(l:c "__init__"=none)(m:∀h' e,h.objs.size<=e->Heap.MadeExcOf h h' e (.ref C) []->Q (.ref e) ⟨h',g,d,t,os⟩):
 wpAny (model prog w) A (call (.ref C) []) Q E ⟨h,g,d,t,os⟩:=by
 have u:=tc_lookup;have v:=tc_bind (.ref C);have x:(⟨h,g,d,t,os⟩:Shared).TypeIs (.ref C) "type":=⟨_,a,O⟩;refine hn (codeAny_of_tree ?_);show wpAny _ _ (callAny (.ref C) _) _ _ _
 repeat (any_goals (first | assumption | with_reducible refine e2 a ?_ | wp_step))
 refine⟨O,x5 (rC _ (by decide+kernel)) entry_typeCall (zq a ?_)⟩
 repeat (first | with_reducible refine e2 a ?_ | with_reducible refine wpAny_madeBy_exc a ?_ | wp_step)
 refine xm (rC _ F.quiet) (Ac F a (zy (rest:=[]) F a ?_ (b3 _)));show wpAny _ _ _ _ _ _;have keep:∀b o,h.get? b=some o->((h.push {cls:= .type "tuple",data:= .seq ([]:List Value).toArray}).push {cls:= .ref C,data:= .fields #[.ref h.objs.size,.none,.none,.none,.bool false,.none]}).get? b=some o:=λb o e=>cw _ (cw _ e);have f:=keep _ _ a
 have n:((h.push {cls:= .type "tuple",data:= .seq ([]:List Value).toArray}).push {cls:= .ref C,data:= .fields #[.ref h.objs.size,.none,.none,.none,.bool false,.none]}).Ns N c:=
  let ⟨o,es,p,e,r⟩:=k;⟨o,es,p,keep _ _ e,r⟩
 have i:((h.push {cls:= .type "tuple",data:= .seq ([]:List Value).toArray}).push
  {cls:= .ref C,data:= .fields #[.ref h.objs.size,.none,.none,.none,.bool false,.none]}).get? (h.objs.size+1)=some
  {cls:= .ref C,data:= .fields #[.ref h.objs.size,.none,.none,.none,.bool false,.none]}:=by heap_get
 have s:(Value.ref C::bm).contains (.ref C)=true:=by simp
 unfold isInstance
 repeat (first | with_reducible refine e2 i ?_ | (with_reducible refine l6 f ?_;rw[s]) | wp_step)
 show wpAny _ _ (typeLookup (.ref C) _) _ _ _;refine wpAny_typeLookup_exc f n F.mroIs F.init.lookup ?_;rw[l];refine gL (aT (sH (F.init.bind _) (aT (hn (u_ F.init.plain F.initEntry (wpAny_check_init_sub F f i O ?_))))))
 wp_walk
 refine m _ _ (kP _) ⟨λb o j=>?_,oR (kP _),h.objs.size+2,?_,oR af,?_⟩
 .rw[iP _ _ (hv (qy (bP j)))];exact cw _ (keep _ _ j)
 .rw[hK _ (cw _ i) O];simp only[fD];rfl
 .rw[iP _ _ (show h.objs.size+1≠h.objs.size+2 by omega)];exact vZ (by simp only[fD]) O
end L2
namespace L2
open PySem PySem.Spec PyProof.Rows
open PySem.W (Frag callWith_K callWith_K0 cellsFrom_some codeIn codeRec_of emptyDict findIn findObj_own fnOf handedIn hasDictIn instObj isFn keepIn lookIn makesIn methodObj notCls nsIn nsOkIn plainGet plainOver takerIn typeIn)
variable {A:Around} {C CN a dx f fI it:Addr} {D:Ends} {E Q xe:Value->Shared->Prop} {H H' H0 H1:Hp} {K:PySem.W.Frag} {M:Model} {N ps sn:List Str} {P prog:Program} {R:Result->Shared->Prop} {T newId:String} {X:Cx} {ab cm hdct:Bool} {an:St->Hp->Prop} {ax:St->XK} {b c e:Expr} {base h h' h1:Heap} {bm aD sub us:List Value} {body hS:List Stmt} {b₀ st:Stmt} {cd bc ct cL ev oS oc pm u v:Value} {ch ex:List Addr} {col:Option Bool} {cp dW hq np p aH pN tp q9:Pos} {d d':Drawn} {dd od:Option Addr} {Ay es:List Expr} {fd:FuncData} {g:TG} {g':Array GenState} {hi:Option Expr} {i k kk n t':Nat} {k0 k1 k2 k3 k5:Option Value} {mA mg:Str->Option Value} {nm bN x:Str} {o:HO} {oe:Obj} {os:OsState} {cX:Array (Option Value)} {outer:List Env} {gJ pinsz_ pn:List (Addr×Obj)} {q:Addr×Obj} {r:List V->Hp->VK->Prop} {s s' s0:Shared} {scope:Scope} {sp:Sp} {t:TA} {ta:TE} {tb:Option (Addr×Value)} {th:TS} {tt:TT} {vs:Array Value} {w:World} {xs:List V} {y:V} {α:Type} {σ:List (Option V)}
structure hG (C:Addr)(n:Nat)(H:Hp)(h:Heap)(e:Addr)(tb:Option (Addr×Value)):Prop where
 at_:ej C h e none tb
 ge:n<=e
 fr:H e=none
 mK:∀T fl,tb=some (T,fl)->n<=T/\H T=none
noncomputable def hH (P:Program)(w:World)(C CN:Addr):gN:=λouter H s E x s'=>bZ P w C outer H s E x s'∨∃(e T:Addr) (H':Hp),x= .ref e/\s'.os=s.os/\AllBare s'.gens/\Un (dn outer) [] H H' s.heap s'.heap/\cA P w H' s'.heap/\
 hG CN s.heap.objs.size H' s'.heap e (some (T,.none))/\E (-1) 0 H'
noncomputable def f9 (CN:Addr)(X:Cx)(an:St->Hp->Prop):Prop:=∀(pinsz_:List (Addr×Obj)) (σ:St) (H:Hp) (s:Shared) (e:Addr) (tb:Option (Addr×Value)) (n:Nat),Inv X pinsz_ σ H s->X.env.locals<n->
 hG CN n H s.heap e tb->(∀q∈X.pn++pinsz_,q.1<n)->(∀x c,X.env.cells.lookup x=some c->c<n)->an σ H->X.xe (.ref e) s
theorem hG.nx {e:Addr}(x:hG C n H h e tb):∀b∈e::dQ tb,n<=b/\H b=none:=λb a=>by
 rcases List.mem_cons.mp a with z | z
 .subst z;exact⟨x.ge,x.fr⟩
 .cases tb with
  | none=>cases z
  | some y=>
   obtain⟨T,fl⟩:=y;obtain rfl:b=T:=List.mem_singleton.mp z;exact x.mK b fl O
theorem ik {σ:St}{e T:Addr}(I:Inv X pinsz_ σ H s)(b:X.stack=X.env::X.outer)(d:X.env.locals<n)(x:hG C n H s.heap e tb)(f:∀q∈X.pn++pinsz_,q.1<n)(hc:∀x c,X.env.cells.lookup x=some c->c<n)(a:s.heap.objs.size<=T∨∃fl,tb=some (T,fl))(g:ej C h1 e none (some (T,oS)))(kx:eS ((X.env::X.outer).filterMap (·.frame)) (e::dQ tb) s.heap h1):Inv X pinsz_ σ H {s with heap:=h1,toks:=s.toks}/\hG C n H h1 e (some (T,oS)):=by
 have h:eS (dn X.stack) (e::dQ tb) s.heap h1:=by rw[b];exact kx
 refine⟨I.nW (t':=s.toks) d x.nx f hc h,g,x.ge,x.fr,λi fl z=>?_⟩;cases z;rcases a with a | ⟨fl,a⟩
 .have he:e<s.heap.objs.size:=by
   obtain⟨oe,vs,a0,he,_⟩:=x.at_.ex;exact bP he
  exact⟨bB (eY (fG x.ge he)) a,I.aG.fresh a⟩
 .exact x.mK T fl a
theorem Eu {K:Frag}{E:XK}:
 f9 CN (dX cm (hH P w C CN) P w K mg base N bN scope f cd A outer s0 H0 E) (λ_ H=>E (-1) 0 H):=by
 intro pinsz_ σ H s e tb n I d x h hc i;show wpAny (model P w) (A.deeper (envOfC bN scope s0.heap.objs.size f cd)) («leaving» (envOfC bN scope s0.heap.objs.size f cd) (.ref e)) _ _ s;have j:s.heap.FunFrames base (envOfC bN scope s0.heap.objs.size f cd::outer):=I.stack;refine su (outer:=outer) (base:=base) (L:=s0.heap.objs.size) (C:=CN) (dx:=none) I.ok.frames j O x.at_ λh' T g k kx=>?_;have hsz:s0.heap.objs.size<=n:=bB I.ok.above (eY d);obtain⟨c,y⟩:=ik (C:=CN) I O d x h hc k g kx
 exact .inr ⟨e,T,H,O,c.os,c.bare,c.base,c.aG,⟨g,bB hsz x.ge,x.fr,λl fl z=>by
  obtain⟨a,b⟩:=y.mK l fl z
  exact⟨bB hsz a,b⟩⟩,i⟩
theorem yy {K:Frag}{E:XK}:
 du C (dX cm (hH P w C CN) P w K mg base N bN scope f cd A outer s0 H0 E) (λ_=>E):=Bp λ_ _ _ _ _ _ h=> .inl h
theorem Jp {σ:St}(hx:du C X ax)(c:f9 CN X λσ H=>ax σ (-1) 0 H)(I:Inv X pinsz_ σ H s)(h:hH X.prog X.w C CN X.stack H s (ax σ) ev s'):X.xe ev s':=by
 rcases h with h | ⟨e,T,H',rfl,os,bare,un,aG,f,a⟩
 .exact zE hx I h
 .obtain⟨i,g,d,t,j⟩:=s';obtain rfl:j=s.os:=os;obtain⟨k,l,m⟩:=I.young;have n:=I.call (h':=i) (g':=g) (d':=d) (t':=t) (ch:=[]) un aG bare (λb z=>absurd z (by simp));exact c pinsz_ σ H' _ e _ s.heap.objs.size n k f l m a
theorem ME (F:cP X.prog X.w X.K X.mg X.base (hH X.prog X.w C CN) k f fd ps sp)(g:bT k X.A)(i:Gl X x)(hm:X.mg x=some (.ref f))(hk:keepIn X.K (.ref f)=true)(j:Binds X.K fd ps [])(hx:du C X ax)(l:f9 CN X λσ H=>ax σ (-1) 0 H)(ha:PA X (e::es) t)(m:(x==("__debug__":Str))=false:=by decide)(he:starEach (e::es) X.env=(false,eval e X.env)::starEach es X.env:=by rfl)(n:(backTo aH (starEach es X.env)).any (·.1)=false:=by rfl):
 PE X (.Call (.Name x p) (e::es) [] aH) (pb sp ax t):=by
 intro pinsz_ s σ H Q I h;refine g6 (eV I i hm ?_ m);refine m5 (h₀:=X.base) I.ok.mod.kc hk (bg (ha aH pinsz_ s σ H _ I h) λus c ⟨vs,H1,a,r,q⟩=>⟨a.ck,?_⟩) he n;have o:us.length=ps.length:=by rw[<-r.length];exact F.len _ _ _ _ q
 have d:=j c us a.ck (by rw[et];exact o);rw[et] at d;refine hn (k4 (F.run X.A X.stack c H1 ⟨us,[]⟩ us vs Q (ax σ) g a.om d r q) λr s' b=>?_)
 cases r with
 | error e=>exact Jp hx l a b
 | ok fl=>
  cases fl with
  | ret u=>exact a.after b
  | next=>exact False.elim b
  | brk=>exact False.elim b
  | cont=>exact False.elim b
theorem Cr (h:aS X.prog X.w X.K X.mg X.base (hH X.prog X.w C CN) k x ps sp)(hx:du C X ax)(a:f9 CN X λσ H=>ax σ (-1) 0 H)(c:bT k X.A)(d:Gl X x)(ha:PA X (e::es) t)(g:(x==("__debug__":Str))=false:=by decide)(he:starEach (e::es) X.env=(false,eval e X.env)::starEach es X.env:=by rfl)(i:(backTo aH (starEach es X.env)).any (·.1)=false:=by rfl):PE X (.Call (.Name x p) (e::es) [] aH) (pb sp ax t):=by
 obtain⟨f,fd,F,m,kp,b⟩:=h.ex;exact ME F c d m kp b hx a ha g he i
theorem dB.FE (F:dB K x bN st f fd)(S:c4 N ps (bL st))(len:∀vs H Q E,sp vs H Q E->vs.length=ps.length)(a:∀(bc:Value) (A:Around) (outer:List Env) (s:Shared) (H:Hp) (vs:List V) (Q:VK) (E:XK),bT k (A.deeper (envOfC bN (bL st) s.heap.objs.size f bc))->sp vs H Q E->
 ∃t,cT (dX (ez (k+1)) (hH P w C CN) P w K mg base N bN (bL st) f bc A outer s H E) (ew st) t/\t {nx:=λ_ H'=>Q .aE H',rt:=Q} (start N vs) H):cP P w K mg base (hH P w C CN) (k+1) f fd ps sp:=by
 obtain⟨oc,od,kV,cL,pm,an,bc,ct,cX,rfl,lk,b⟩:=F.ex;exact qJ lk b S len λA outer s H vs Q E c d=>a bc A outer s H vs Q E c d
theorem Fn.JA (F:Fn K mg x st ps)(S:c4 N ps (bL st))(len:∀vs H Q E,sp vs H Q E->vs.length=ps.length)(a:∀(f:Addr) (bc:Value) (A:Around) (outer:List Env) (s:Shared) (H:Hp) (vs:List V) (Q:VK) (E:XK),bT k (A.deeper (envOfC x (bL st) s.heap.objs.size f bc))->sp vs H Q E->
 ∃t,cT (dX (ez (k+1)) (hH P w C CN) P w K mg base N x (bL st) f bc A outer s H E) (ew st) t/\t {nx:=λ_ H'=>Q .aE H',rt:=Q} (start N vs) H):aS P w K mg base (hH P w C CN) (k+1) x ps sp:=by
 obtain⟨f,fd,F,m,b⟩:=F.ex;exact⟨f,fd,F.FE S len (a f),m,F.kp,b⟩
structure NX (K:Frag)(mg:Str->Option Value)(C:Addr):Prop where
 mgC:mg "NotKnown"=some (.ref C)
 kp:keepIn K (.ref C)=true
 obj:∃nm q N bs hdct sn sub ab col dd k0 k1 k2 k3 k5,K.lookup C=some (excClassObj nm q C N bs [.type "Exception",.type "BaseException",.type "object"] hdct sn sub ab col dd k0 k1 k2 k3 k5 "Exception.__new__")/\nsOkIn K N=true/\nsIn K N "__init__"=some none
theorem zY (F:NX X.K X.mg C){σ:St}(I:Inv X pinsz_ σ H s)(c:∀h' e tt,s.heap.objs.size<=e->(∀b o,s.heap.get? b=some o->h'.get? b=some o)->h'.get? e=some {cls:= .ref C,data:= .fields #[.ref tt,.none,.none,.none,.bool false,.none]}->Inv X pinsz_ σ H {s with heap:=h'}->Q (.ref e) {s with heap:=h'}):
 wpAny (model X.prog X.w) X.A (call (.ref C) []) Q E s:=by
 obtain⟨nm,q,N,bs,hdct,sn,sub,ab,col,dd,k0,k1,k2,k3,k5,f,a,h⟩:=F.obj;obtain⟨i,g,d,tk,os⟩:=s;have KX:X.K.In i:=I.ck;refine JJ BW (KX _ _ f) (.of_isNs (PySem.W.isNs_of_in KX a)) (PySem.W.nsMap_none_of_in KX a h) (λh' e j hm=>?_);obtain⟨tt,k,_,_⟩:=hm.there;exact c h' e tt j hm.keeps k (I.kept (h':=h') (t':=tk) hm.keeps)
theorem k7 (F:NX X.K X.mg C)(d:X.calm=true)(f:Gl X "NotKnown")(hx:f9 C X an):PS X (.Raise (some (.Call (.Name "NotKnown" np) [] [] dW)) none aH) (λ_ σ H=>an σ H):=by
 intro pinsz_ s σ H D I h;obtain⟨nm,q,N,bs,hdct,sn,sub,ab,col,dd,k0,k1,k2,k3,k5,g,n,o⟩:=F.obj;rw[sv];refine aT (gT (xD (C:=C) (nm:=nm) (q:=q) (N:=N) (bs:=bs) (bm:=[.type "Exception",.type "BaseException",.type "object"]) (hdct:=hdct) (sn:=sn) (sub:=sub) (ab:=ab) (col:=col) (dd:=dd) (k0:=k0) (k1:=k1) (k2:=k2) (k3:=k3) (k5:=k5) (newId:="Exception.__new__") aJ (I.ok.hd d) ?_))
 refine aT (df (Q:=λv a=>∃e oe vs,v= .ref e/\a.heap.get? C=some (excClassObj nm q C N bs [.type "Exception",.type "BaseException",.type "object"] hdct sn sub ab col dd k0 k1 k2 k3 k5 "Exception.__new__")/\
  a.heap.get? e=some oe/\oe.cls= .ref C/\oe.data= .fields vs/\vs[1]?=some .none/\X.xe (.ref e) a) (E:=X.xe) ?_ (λv p i=>aT (gT (b4 i))) λ_ _ z=>z)
 refine g6 (eV I f F.mgC (vi I.ck F.kp (zY F I λh' e tt b keep c j=>?_)));obtain⟨k,l,m⟩:=I.young;exact⟨e,_,_,O,keep _ _ (I.ck _ _ g),c,O,O,O,hx pinsz_ σ H _ e none s.heap.objs.size j k ⟨⟨_,_,_,c,O,O,O,⟨O,λz=>by cases z⟩,rfl⟩,b,I.aG.fresh b,λT fl z=>by cases z⟩ l m h⟩
theorem Ax {q:Str}{N:Addr}{bs:List Value}{g:Array GenState}{t:Nat}{e:Addr}{c:String}(f:bm.contains (.type "BaseException")=true)(a:h.get? C=some (excClassObj nm q C N bs bm hdct sn sub ab col dd k0 k1 k2 k3 k5 newId))(he:h.get? e=some oe)(b:oe.cls= .ref C)(hd:oe.data= .fields vs)(i:Q (.ref e) ⟨h,g,d,t,os⟩):wpAny M A (excFromValue (.ref e) c) Q E ⟨h,g,d,t,os⟩:=by
 obtain⟨oc,od,k,cX⟩:=oe;dsimp only at b hd;subst b;subst hd;have j:(Value.ref C::bm).contains (.type "BaseException")=true:=by rw[vE,f,tz]
 unfold excFromValue
 repeat (first | with_reducible refine e2 he ?_ | with_reducible refine e2 a ?_ | (with_reducible refine l6 a ?_;rw[j]) | wp_step)
 exact i
theorem G2 {q:Str}{N:Addr}{bs:List Value}{g:Array GenState}{t:Nat}{e D:Addr}{Q:Bool->Shared->Prop}{j k:Str}{l:Addr}{m a:List Value}{n:Bool}{o:List Str}{p:List Value}{r:Bool}{s:Option Bool}{u:Option Addr}{v w x y z:Option Value}{G:String}(b:h.get? C=some (excClassObj nm q C N bs bm hdct sn sub ab col dd k0 k1 k2 k3 k5 newId))(c:h.get? D=some (excClassObj j k D l m a n o p r s u v w x y z G))(H:a.contains (.type "BaseException")=true)(he:h.get? e=some oe)(i:oe.cls= .ref C)(hd:oe.data= .fields vs)(I:(Value.ref C::bm).contains (.ref D)=false)(J:Q false ⟨h,g,d,t,os⟩):wpAny M A (excMatches (.ref e) (.ref D)) Q E ⟨h,g,d,t,os⟩:=by
 obtain⟨oc,od,U,cX⟩:=oe;dsimp only at i hd;subst i;subst hd;have T:(Value.ref D::a).contains (.type "BaseException")=true:=by rw[vE,H,tz]
 have f:=tc_notTuple;unfold excMatches
 repeat (first | with_reducible refine e2 he ?_ | with_reducible refine e2 c ?_ | with_reducible refine e2 b ?_ | (with_reducible refine l6 c ?_;rw[T]) | (with_reducible refine l6 b ?_;rw[I]) | wp_step)
 exact J
theorem GG:entryFor table "proto.unchain"=some Builtin.«proto.unchain»:=by
 exact entryFor_of_tree (by kernel_rfl)
theorem HW {e:Addr}{off:Obj}{fs:Array Value}{Q:α->Shared->Prop}(a:A.handled=some (.ref f))(b:f≠e)(c:s.heap.get? f=some off)(d:off.data= .fields fs)(g:fs[2]?=some .none)(he:s.heap.get? e=some oe)(hd:oe.data= .fields vs)(h2:2<vs.size)(h:E (.ref e) {s with heap:=s.heap.update e (Obj.mapFields (·.setIfInBounds 2 (.ref f)))}):wpAny (model prog w) A (raiseNew (.ref e):Sem α) Q E s:=by
 unfold raiseNew;refine aT (wpAny_handled ?_);rw[a];dsimp only;rw[az (by simpa using b)];refine aT (gL (wpAny_runValue (codeAny_builtin GG ?_)));unfold Builtin.«proto.unchain»;dsimp only;refine aT (gH c d g ?_);rw[az aJ];refine b4 ?_;show wpAny (model prog w) A (do setField (.ref e) 2 (.ref f);throw (.ref e)) Q E s;exact aT (me he hd h2 (qT h))
theorem vS {e:Addr}{fs:List Addr}{o:Obj}{f:Obj->Obj}(he:h.get? e=some o)(g:(f o).isFreed=false)(i:e∉fs):eS fs [e] h (h.update e f):=by
 have d:∀b,b≠e->(h.update e f).get? b=h.get? b:=λb a=>iP _ _ (eP a);refine⟨λb c q _ n2=>(d b (by simpa using n2)).trans q,λb c q n1=>⟨c.slots,(d b (λz=>i (z▸n1))).trans q⟩,λb c q=>?_⟩;by_cases a:b=e
 .subst a;exact⟨_,hK f he g⟩
 .exact⟨c,(d b a).trans q⟩
theorem Inv.Df {σ:St}(I:Inv X pinsz_ σ H s)(h:s.heap.get? q.1=some q.2/\H q.1=none/\q.1≠X.env.locals/\q.1∉X.fs/\∀v,q.2.data≠ .cell v):Inv X (pinsz_++[q]) σ H s:=
 ⟨I.ok,I.os,I.bare,I.base,I.loc,I.cell,I.free,I.ek,λp a=>by
  rw[<-gv] at a;rcases List.mem_append.mp a with z | z
  .exact I.pin p z
  .rw[List.mem_singleton.mp z];exact h,I.aG,I.len⟩
theorem Inv.Fo {σ:St}(I:Inv X (pinsz_++[q]) σ H s):Inv X pinsz_ σ H s:=
 ⟨I.ok,I.os,I.bare,I.base,I.loc,I.cell,I.free,I.ek,λp a=>I.pin p (by rw[<-gv];exact ft _ a),I.aG,I.len⟩
theorem MS {n:Str}{e:Addr}{k p:Int}{σ:St}{Q:Flow->Shared->Prop}(F:FX X.K X.mg C fI)(G:NX X.K X.mg CN)(b':Gl X "NotKnown")(e':lX C pn e k p)(I:Inv (X.b6 e pn) [] σ H s)(f':PE (X.b6 e pn) (.Name n cp) (c_ i))(i':σ[i]?=some (some (.ref e)))(j':∀s' a,Inv (X.b6 e pn) [] σ H s'->hG CN s.heap.objs.size H s'.heap a none->E (.ref a) s'):
 wpAny (model X.prog X.w) (X.A.mark (some (.ref e))) (exec (.Raise (some (.Call (.Name "NotKnown" np) [] [] dW)) (some (.Name n cp)) pN) X.env) Q E s:=by
 obtain⟨nm,q,N,bs,hdct,sn,sub,ab,col,dd,k0,k1,k2,k3,k5,M,O',P'⟩:=G.obj;obtain⟨R',S',T',U',V',W',X',Y',Z',_a,_b,_c,_d,_e,_f,k'⟩:=F.obj;rw[sv];refine aT (gT ?_);unfold raiseStmt;dsimp only[evalOpt,Option.map];refine aT (aT (g6 (eV (X:=X.b6 e pn) I b' G.mgC (vi I.ck G.kp (zY (X:=X.b6 e pn) G I λh1 a tt c keep l' m'=>aT (gT (b4 ?_)))))));have hsz:=I.young.1
 have p':a∉X.fs:=λz=>by
  obtain⟨_,o,g,_⟩:=I.ok.ea.mem z;exact absurd (bB (bB I.ok.above (eY hsz)) c) (Nat.not_le.mpr (bP g))
 have q':Inv (X.b6 e pn) ([]++[(a,{cls:= .ref CN,data:= .fields #[.ref tt,.none,.none,.none,.bool false,.none]})]) σ H {s with heap:=h1}:=m'.Df ⟨l',I.aG.fresh c,hv (cc hsz c),p',λv z=>by cases z⟩;refine aT (gL (aT (df (f' _ _ σ H (λx H1=>x= .ref e/\H1=H) q' ⟨_,i',O,O⟩) (λr' u' v'=>?_) λ_ _ z=>False.elim z)));obtain⟨x,H1,U,w',ex,y'⟩:=v';subst ex;subst y';obtain rfl:r'=Value.ref e:=w';have d:=(U.pin _ (fz _ (fz _ (List.mem_singleton.mpr O)))).1;have h:=U.Fo;refine aT (gT (b4 (aT (b4 ?_))));obtain⟨oe,z',dx,od,m1,m2,c1,l,_g,_h,_⟩:=id e';have A':=(h.pin _ (ft _ m1)).1
 have B':e≠a:=λz=>by
  have _i:(X.b6 e pn).K.In s.heap:=I.ck;have C':=(I.pin (e,oe) (ft _ m1)).1;exact absurd c (Nat.not_le.mpr (z▸bP C'))
 obtain⟨m,D',E',t2,F'⟩:=u';have KX:X.K.In m:=h.ck;refine aT (gL (Ax aJ (KX _ _ M) d O O ?_));dsimp only;rw[ar (by simp)];refine aT (gL (Ax aJ (KX _ _ k') A' c1 l.1 ?_));have G':m.FunFrames X.base X.stack:=h.stack
 have r:a∉dn X.stack:=λhm=>by
  obtain⟨_,o,g,I'⟩:=G'.mem hm;rw[d] at g;cases g;exact I' _ O
 refine aT (me d O (by simp) ?_);have e3:=hK (Obj.mapFields (·.setIfInBounds 3 (Value.ref e))) d O;have J':=vS (fs:=dn X.stack) (f:=Obj.mapFields (·.setIfInBounds 3 (Value.ref e))) d O r;refine aT (me e3 O (by simp) ?_);have e4:=hK (Obj.mapFields (·.setIfInBounds 4 (Value.bool true))) e3 O;have K':=vS (fs:=dn X.stack) (f:=Obj.mapFields (·.setIfInBounds 4 (Value.bool true))) e3 O r;obtain⟨t,u,y⟩:=I.young;have nx:∀b∈[a],s.heap.objs.size<=b/\H1 b=none:=λb L'=>by rw[List.mem_singleton.mp L'];exact⟨c,I.aG.fresh c⟩
 have M':=h.nW (t':=t2) t nx u y J';have j:=M'.nW (t':=t2) t nx u y K';have D:=j.ck _ _ M;have J:=(j.pin _ (ft _ m1)).1;dsimp only at D J;generalize _j:(m.update a (Obj.mapFields (·.setIfInBounds 3 (Value.ref e)))).update a (Obj.mapFields (·.setIfInBounds 4 (Value.bool true)))=Y at e4 j D J;have e4:Y.get? a=some {cls:= .ref CN,data:= .fields #[.ref tt,.none,.none,.ref e,.bool true,.none]}:=e4;show wpAny _ _ _ _ _ ⟨Y,D',E',t2,F'⟩;unfold isType raisedInstance
 repeat (first | with_reducible refine e2 e4 ?_ | with_reducible refine e2 D ?_ | wp_step)
 refine HW (f:=e) (fs:=z') O B' J l.1 l.2 e4 O (by simp) ?_;have N':=j.nW (t':=t2) t nx u y (vS (fs:=dn X.stack) (f:=Obj.mapFields (·.setIfInBounds 2 (Value.ref e))) e4 O r);have e5:=hK (Obj.mapFields (·.setIfInBounds 2 (Value.ref e))) e4 O;exact j' _ a N' ⟨⟨_,_,.ref tt,e5,O,O,O,⟨O,λz=>by cases z⟩,rfl⟩,c,I.aG.fresh c,λT fl z=>by cases z⟩
inductive kA (P:Program)(w:World)(CN:Addr)(outer:List Env)(H:Hp)(s:Shared)(E:XK)(x:Value)(s':Shared):Prop
 | mk (e T:Addr) (H':Hp) (_:x= .ref e) (_:s'.os=s.os) (_:AllBare s'.gens) (_:Un (dn outer) [] H H' s.heap s'.heap) (_:cA P w H' s'.heap) (_:hG CN s.heap.objs.size H' s'.heap e (some (T,.none))) (_:E (-1) 0 H')
theorem iu {K:Frag}{E:XK}:
 f9 CN (dX cm (kA P w CN) P w K mg base N bN scope f cd A outer s0 H0 E) (λ_ H=>E (-1) 0 H):=by
 intro pinsz_ σ H s e tb n I d x h hc i;show wpAny (model P w) (A.deeper (envOfC bN scope s0.heap.objs.size f cd)) («leaving» (envOfC bN scope s0.heap.objs.size f cd) (.ref e)) _ _ s;have j:s.heap.FunFrames base (envOfC bN scope s0.heap.objs.size f cd::outer):=I.stack;refine su (outer:=outer) (base:=base) (L:=s0.heap.objs.size) (C:=CN) (dx:=none) I.ok.frames j O x.at_ λh' T g k kx=>?_;have hsz:s0.heap.objs.size<=n:=bB I.ok.above (eY d);obtain⟨c,y⟩:=ik (C:=CN) I O d x h hc k g kx
 exact⟨e,T,H,O,c.os,c.bare,c.base,c.aG,⟨g,bB hsz x.ge,x.fr,λl fl z=>by
  obtain⟨a,b⟩:=y.mK l fl z
  exact⟨bB hsz a,b⟩⟩,i⟩
noncomputable def ER (sp:Sp)(an:St->Hp->Prop)(t:TA):TE:=λσ H Q=>t σ H λvs H1=>sp vs H1 Q λ_ _ H2=>an σ H2
theorem vI (h:aS X.prog X.w X.K X.mg X.base (kA X.prog X.w CN) k x ps sp)(m:f9 CN X an)(n:bT k X.A)(o:Gl X x)(ha:PA X (e::es) t)(v:(x==("__debug__":Str))=false:=by decide)(he:starEach (e::es) X.env=(false,eval e X.env)::starEach es X.env:=by rfl)(y:(backTo aH (starEach es X.env)).any (·.1)=false:=by rfl):PE X (.Call (.Name x p) (e::es) [] aH) (ER sp an t):=by
 obtain⟨f,fd,F,hm,hk,C⟩:=h.ex;intro pinsz_ s σ H Q I h;refine g6 (eV I o hm ?_ v);refine m5 (h₀:=X.base) I.ok.mod.kc hk (bg (ha aH pinsz_ s σ H _ I h) λus j ⟨vs,H1,c,r,q⟩=>⟨c.ck,?_⟩) he y;have D:us.length=ps.length:=by rw[<-r.length];exact F.len _ _ _ _ q
 have l:=C j us c.ck (by rw[et];exact D);rw[et] at l;refine hn (k4 (F.run X.A X.stack j H1 ⟨us,[]⟩ us vs Q _ n c.om l r q) λr s' i=>?_)
 cases r with
 | error e=>
  obtain⟨e,T,H',rfl,os,bare,un,aG,E,a⟩:=i;obtain⟨G,g,d,t,J⟩:=s';obtain rfl:J=j.os:=os;obtain⟨M,N,U⟩:=c.young;have Y:=c.call (h':=G) (g':=g) (d':=d) (t':=t) (ch:=[]) un aG bare (λb z=>absurd z (by simp))
  exact m pinsz_ σ H' _ e _ j.heap.objs.size Y M E N U a
 | ok fl=>
  cases fl with
  | ret u=>exact c.after i
  | next=>exact False.elim i
  | brk=>exact False.elim i
  | cont=>exact False.elim i
theorem Fn.tD (F:Fn K mg x st ps)(S:c4 N ps (bL st))(len:∀vs H Q E,sp vs H Q E->vs.length=ps.length)(a:∀(f:Addr) (bc:Value) (A:Around) (outer:List Env) (s:Shared) (H:Hp) (vs:List V) (Q:VK) (E:XK),bT k (A.deeper (envOfC x (bL st) s.heap.objs.size f bc))->sp vs H Q E->
 ∃t,cT (dX (ez (k+1)) (kA P w CN) P w K mg base N x (bL st) f bc A outer s H E) (ew st) t/\t {nx:=λ_ H'=>Q .aE H',rt:=Q} (start N vs) H):aS P w K mg base (kA P w CN) (k+1) x ps sp:=by
 obtain⟨f,fd,F,m,b⟩:=F.ex;obtain⟨oc,od,kV,cL,pm,an,bc,ct,cX,e,lk,c⟩:=id F.ex;subst e;exact⟨f,_,qJ lk c S len λA outer s H vs Q E d g=>a f bc A outer s H vs Q E d g,m,F.kp,b⟩
noncomputable def M1 (tb:(St->Hp->Prop)->TS)(th:TS):TS:=λD σ H=>tb (λa H'=>th D a H') D σ H
theorem LF {tb:(St->Hp->Prop)->TS}(G:NX X.K X.mg CN)(J:Gl X "NotKnown")(j:X.stack=X.env::X.outer)(M:X.env.frame=some X.env.locals)(Q:∀(xe:Value->Shared->Prop) (pn:List (Addr×Obj)) (an:St->Hp->Prop),f9 CN (X.dG xe pn) an->PassesOwn (model X.prog X.w) X.A X.env xe->cT (X.dG xe pn) body (tb an))(hs:∀(e:Addr) (pn:List (Addr×Obj)),cT (X.b6 e pn) (b₀::hS) th):
 PS X (.Try body [.ExceptHandler (some (.Name "NotKnown" tp)) none (b₀::hS) hq] [] [] aH) (M1 tb th):=by
 intro pinsz_ s σ H D I h;refine q0 ?_
 have U:f9 CN (X.dG (λe Y=>wpAny (model X.prog X.w) X.A (noteFrame e X.env) (λ_ b'=>wpAny (model X.prog X.w) X.A (setFlight e none) (λ_ e'=>
  wpAny (model X.prog X.w) X.A (handleBy e X.env [.ExceptHandler (some (.Name "NotKnown" tp)) none (b₀::hS) hq]) (SP X pinsz_ D) X.xe e') X.xe b') X.xe Y) (X.pn++pinsz_))
  (λk H'=>th D k H'):=by
  intro gJ k H' s' e D' m t hm x E hc f';have i':s'.heap.FunFrames X.base (X.env::X.outer):=by rw[<-j];exact t.stack
  have j':X.A.frames=some (X.env::X.outer):=by rw[<-j];exact t.ok.frames
  refine mM (C:=CN) (dx:=none) (L:=X.env.locals) j' i' M x.at_ λh1 T l k' kx=>?_;obtain⟨l',m'⟩:=ik (C:=CN) (n:=m) t j hm x E hc k' l kx;have p':∀q∈X.pn++pinsz_,q.1<m:=λq q'=>E q (ft _ q');have p:Inv X pinsz_ k H' {s' with heap:=h1,toks:=s'.toks}:=l'.c8;obtain⟨E',g,d,tk,os⟩:=s';obtain⟨nm,q,N,bs,hdct,sn,sub,ab,col,dd,k0,k1,k2,k3,k5,r',F',G'⟩:=G.obj;obtain⟨oe,vs,a0,he,u',_⟩:=l.ex;have v':=p.ck _ _ r';have w':Inv (X.b6 e (X.pn++pinsz_++[])) [] k H' ⟨h1,g,d,tk,os⟩:=p.b6 λq z=>nomatch z;refine oL (oi ?_) (by intro q;cases q);refine eV (X:=X.b6 e (X.pn++pinsz_++[])) w' J G.mgC (qv v' he u' aJ (yl (pd (s:=⟨h1,g,d,tk,os⟩) l λh2 y' k3=>?_)));have z':h1.FunFrames X.base (X.env::X.outer):=by rw[<-j];exact p.stack
  obtain⟨A',I'⟩:=ik (C:=CN) (n:=m) (h1:=h2) (T:=T) p j hm m' p' hc (.inr ⟨_,O⟩) y' ⟨λb o q n1 n2=>k3.keep b o q (by simp) λz=>n2 (by simp[dQ,List.mem_singleton.mp z]),
   λb o q n1=>⟨o.slots,k3.keep b o q (by simp) λz=>l.jm z' (by rw[<-List.mem_singleton.mp z];exact n1)⟩,k3.there⟩
  have B':Inv (X.b6 e (X.pn++pinsz_++[])) [] k H' ⟨h2,g,d,tk,os⟩:=A'.b6 λq z=>nomatch z;refine df (hs e _ [] _ _ H' D B' f') (λf J' r=>?_) λ_ _ z=>False.elim z;have ok:=I.ok
  cases f with
  | next=>obtain⟨y,a,c,i⟩:=r;exact⟨_,a,c.uncaught ok,i⟩
  | brk=>obtain⟨y,a,c,i⟩:=r;exact⟨_,a,c.uncaught ok,i⟩
  | cont=>obtain⟨y,a,c,i⟩:=r;exact⟨_,a,c.uncaught ok,i⟩
  | ret u=>obtain⟨v,y,a,c,C',i⟩:=r;exact⟨v,_,a,c.uncaught ok,C',i⟩
 refine df (Q _ (X.pn++pinsz_) _ U rA [] s σ H D I.dG h) (λf K' q=>?_) λ_ _ z=>z
 cases f with
 | next=>exact iM q.c8
 | ret v=>exact q.c8
 | brk=>exact q.c8
 | cont=>exact q.c8
theorem K3 {n:Str}{tb:TS}{an:Hp->Prop}(F:FX X.K X.mg C fI)(G:NX X.K X.mg CN)(_n:CN≠C)(T':Gl X "Fault")(_o:Gl X "NotKnown")(U':X.N.Nodup)(hi:X.N[i]?=some n)(hx:X.env.scope.names.lookup n=some .local)(j:X.stack=X.env::X.outer)(f':X.env.frame=some X.env.locals)(_p:f9 CN X λ_=>an)(_q:∀e pn,PE (X.b6 e pn) (.Name n cp) (c_ i))(M:∀(xe:Value->Shared->Prop) (pn:List (Addr×Obj)),du C (X.dG xe pn) (λ_ _ _ H=>an H)->f9 CN (X.dG xe pn) (λ_ H=>an H)->PassesOwn (model X.prog X.w) X.A X.env xe->cT (X.dG xe pn) body tb):
 PS X (.Try body [.ExceptHandler (some (.Name "Fault" tp)) (some n) [.Raise (some (.Call (.Name "NotKnown" np) [] [] dW)) (some (.Name n cp)) pN] hq] [] [] aH) tb:=by
 intro pinsz_ s σ H D I h;refine q0 ?_
 have out:∀(l:St) (H':Hp) (s':Shared) (e T:Addr) (fl:Value) (m:Nat),Inv X pinsz_ l H' s'->X.env.locals<m->hG CN m H' s'.heap e (some (T,fl))->(∀q∈X.pn++pinsz_,q.1<m)->(∀x c,X.env.cells.lookup x=some c->c<m)->an H'->
  ∀(V':Value->Shared->Prop) (A1:Around),wpAny (model X.prog X.w) A1 (setFlight (.ref e) X.env.frame) (λ_ W'=>X.xe (.ref e) W') V' s':=by
  intro l H' s' e T fl m t hm x y hc ha V' A1;refine rb (s:=s') x.at_ λh2 m' k3=>?_;have p':s'.heap.FunFrames X.base (X.env::X.outer):=by rw[<-j];exact t.stack
  obtain⟨q',r'⟩:=ik (C:=CN) (n:=m) (h1:=h2) (T:=T) t j hm x y hc (.inr ⟨_,O⟩) m' ⟨λb o q n1 n2=>k3.keep b o q (by simp) λz=>n2 (by simp[dQ,List.mem_singleton.mp z]),
   λb o q n1=>⟨o.slots,k3.keep b o q (by simp) λz=>x.at_.jm p' (by rw[<-List.mem_singleton.mp z];exact n1)⟩,k3.there⟩
  exact _p pinsz_ l H' _ e _ m q' hm r' y hc ha
 have _r:f9 CN (X.dG (λe u'=>wpAny (model X.prog X.w) X.A (noteFrame e X.env) (λ_ v'=>wpAny (model X.prog X.w) X.A (setFlight e none) (λ_ w'=>
  wpAny (model X.prog X.w) X.A (handleBy e X.env [.ExceptHandler (some (.Name "Fault" tp)) (some n) [.Raise (some (.Call (.Name "NotKnown" np) [] [] dW)) (some (.Name n cp)) pN] hq]) (SP X pinsz_ D) X.xe w') X.xe v') X.xe u') (X.pn++pinsz_))
  (λ_ H'=>an H'):=by
  intro gJ l H' s' e _s m t hm x y hc y';have z':s'.heap.FunFrames X.base (X.env::X.outer):=by rw[<-j];exact t.stack
  have Y:X.A.frames=some (X.env::X.outer):=by rw[<-j];exact t.ok.frames
  refine mM (C:=CN) (dx:=none) (L:=X.env.locals) Y z' f' x.at_ λh1 T E A' kx=>?_;obtain⟨B',C'⟩:=ik (C:=CN) (n:=m) t j hm x y hc A' E kx;have D':∀q∈X.pn++pinsz_,q.1<m:=λq b'=>y q (ft _ b');have u:Inv X pinsz_ l H' {s' with heap:=h1,toks:=s'.toks}:=B'.c8;obtain⟨_t,g,d,tk,os⟩:=s';obtain⟨nm,q,N,bs,hdct,sn,sub,ab,col,dd,k0,k1,k2,k3,k5,_u,ag',ah'⟩:=G.obj;obtain⟨ai',aj',ak',al',am',an',ao',ap',aq',ar',as',au',av',aw',ax',E'⟩:=F.obj;obtain⟨oe,vs,a0,he,F',ay',X',_,_v,_⟩:=id E.ex;have G':Inv (X.b6 e (X.pn++pinsz_++[])) [] l H' ⟨h1,g,d,tk,os⟩:=u.b6 λq z=>nomatch z;refine oL (oi ?_) (by intro q;cases q);refine eV (X:=X.b6 e (X.pn++pinsz_++[])) G' T' F.mgC (G2 (u.ck _ _ _u) (u.ck _ _ E') aJ he F' X' (by simp[_n.symm]) (wpAny_handleBy_nil ?_));unfold PySem.passOn;refine aT (gH he X' _v ?_);rw[ar (show ¬((Value.ref T==Value.none)=true) from by simp)];refine aT (df (out l H' _ e T _ m u hm C' D' hc y' (λ_ _=>False) _) (λ_ W' _w=>qT _w) λ_ _ z=>False.elim z)
 have _x:du C (X.dG (λe u'=>wpAny (model X.prog X.w) X.A (noteFrame e X.env) (λ_ v'=>wpAny (model X.prog X.w) X.A (setFlight e none) (λ_ w'=>
  wpAny (model X.prog X.w) X.A (handleBy e X.env [.ExceptHandler (some (.Name "Fault" tp)) (some n) [.Raise (some (.Call (.Name "NotKnown" np) [] [] dW)) (some (.Name n cp)) pN] hq]) (SP X pinsz_ D) X.xe w') X.xe v') X.xe u') (X.pn++pinsz_))
  (λ_ _ _ H'=>an H'):=by
  intro gJ l H' s' e k p _s m t hm x y hc y';obtain⟨dx,Y',az',aA',aB',aC',aD',aE',_⟩:=id x.ex;have z':s'.heap.FunFrames X.base (X.env::X.outer):=by rw[<-j];exact t.stack
  have Y:X.A.frames=some (X.env::X.outer):=by rw[<-j];exact t.ok.frames
  refine mM (C:=C) (dx:=some dx) (L:=X.env.locals) Y z' f' Y' λh1 T E A' kx=>?_;obtain⟨B',C'⟩:=kj (C:=C) (n:=m) (k:=k) (p:=p) t j hm x y hc A' E Y' kx;have D':∀q∈X.pn++pinsz_,q.1<m:=λq b'=>y q (ft _ b');have u:Inv X pinsz_ l H' {s' with heap:=h1,toks:=s'.toks}:=B'.c8;obtain⟨_t,g,d,tk,os⟩:=s';obtain⟨nm,q,N,bs,hdct,sn,sub,ab,col,dd,k0,k1,k2,k3,k5,E'⟩:=F.obj;obtain⟨oe,vs,a0,he,F',_⟩:=E.ex;have _y:=u.ck _ _ E';have G':Inv (X.b6 e (X.pn++pinsz_++[])) [] l H' ⟨h1,g,d,tk,os⟩:=u.b6 λq z=>nomatch z;refine oL (oi ?_) (by intro q;cases q);refine eV (X:=X.b6 e (X.pn++pinsz_++[])) G' T' F.mgC (qv _y he F' aJ (Cu (pd (s:=⟨h1,g,d,tk,os⟩) E λh2 m' k3=>?_)));have p':h1.FunFrames X.base (X.env::X.outer):=by rw[<-j];exact u.stack
  obtain⟨q',r'⟩:=kj (C:=C) (n:=m) (k:=k) (p:=p) (h1:=h2) (T:=T) u j hm C' D' hc (.inr ⟨_,O⟩) m' E ⟨λb o q n1 n2=>k3.keep b o q (by simp) λz=>n2 (by simp[dQ,List.mem_singleton.mp z]),
   λb o q n1=>⟨o.slots,k3.keep b o q (by simp) λz=>E.jm p' (by rw[<-List.mem_singleton.mp z];exact n1)⟩,k3.there⟩
  refine oU (X:=X) (v:= .ref e) q' U' hi (.inl hx) O (λi' I' ⟨a,J',ha⟩=>?_) (.inr hx)
  have K':∀b,m<=b->b≠a:=λb M z=>by
   rcases ha with ha | ha
   .rw[<-z] at ha;rw[ha] at M;exact absurd hm (Nat.not_lt.mpr M)
   .exact absurd (hc n a ha) (by rw[<-z];exact Nat.not_lt.mpr M)
  have _z:hQ C m H' i'.heap e k p (some (T,.none)):=by
   obtain⟨Z',_A,_a,_b,_B,_C,_D,_c,mA,t1,t2,_E,hk,_F⟩:=r'.ex;obtain⟨L',M',N',e1,J,e3,e4,e5,e6,e7,O',P',e8,e9,e10⟩:=_A.ex;exact⟨Z',⟨L',M',N',(J'.2 e (K' e _a)).trans e1,J,e3,e4,e5,e6,e7,O',P',(J'.2 T (K' T (_c T _ O).1)).trans e8,e9,e10⟩,_a,_b,_B,_C,_D,_c,mA,t1,t2,_E.sameBut J' (K' Z' _b),hk,_F⟩
  obtain⟨pn,_G,b'⟩:=_z.pins (X:=X) I' hm;have _H:Inv (X.b6 e (X.pn++pinsz_++pn)) [] (l.set i (some (.ref e))) H' i':=I'.b6 b'
  have _I:lX C (X.pn++pinsz_++pn) e k p:=by
   obtain⟨oe,vs,dx,od,m1,m2,r⟩:=_G;exact⟨oe,vs,dx,od,fz _ m1,fz _ m2,r⟩
  have _J:i<l.length:=by rw[u.len];exact(List.getElem?_eq_some_iff.mp hi).1
  have ok:=I.ok;obtain⟨e',j',k'⟩:=I'.young;refine oZ (MS F G _o _I _H (_q e _) (nR _J) λ_K J _L _d=>?_);have _e:Inv X pinsz_ (l.set i (some (.ref e))) H' _K:=_L.uncaught ok;have R':∀{s0:Shared} {_M:St},Inv X pinsz_ _M H' s0->s0.heap.FunFrames X.base (X.env::X.outer):=λ_N=>by rw[<-j];exact _N.stack
  refine pR (C:=CN) (dx:=none) (L:=X.env.locals) (outer:=X.outer) (base:=X.base) Y (R' _e) f' _d.at_ λaF' Q _O _P _Q _R=>?_;obtain⟨_S,U⟩:=ik (C:=CN) _e j e' _d j' k' _Q _P _R;refine o8 _S U' hi hx λ_f _g _h=>?_;have _i:∀b,i'.heap.objs.size<=b->b≠X.env.locals:=λb M z=>absurd e' (Nat.not_lt.mpr (z▸M))
  have l':hG CN i'.heap.objs.size H' _f.heap J (some (Q,_O)):=by
   obtain⟨L',M',N',e1,_T,e3,e4,e5,e6,e7,O',P',e8,e9,e10⟩:=U.at_.ex;exact⟨⟨L',M',N',(_h.2 J (_i J U.ge)).trans e1,_T,e3,e4,e5,e6,e7,O',P',(_h.2 Q (_i Q (U.mK Q _ O).1)).trans e8,e9,e10⟩,U.ge,U.fr,U.mK⟩
  obtain⟨aG',aH',aI',_U,aJ',aK',_V,aL',_W,aM',_⟩:=id l'.at_.ex;unfold PySem.passOn;refine aT (gH _U _V _W ?_);rw[ar (show ¬((Value.ref Q==Value.none)=true) from by simp)];refine aT (rb (s:=_f) l'.at_ λ_X _Y S'=>qT ?_)
  obtain⟨_j,_k⟩:=ik (C:=CN) (h1:=_X) (T:=Q) _g j e' l' j' k' (.inr ⟨_,O⟩) _Y ⟨λb o q n1 n2=>S'.keep b o q (by simp) λz=>n2 (by simp[dQ,List.mem_singleton.mp z]),
   λb o q n1=>⟨o.slots,S'.keep b o q (by simp) λz=>l'.at_.jm (R' _g) (by rw[<-List.mem_singleton.mp z];exact n1)⟩,S'.there⟩
  show wpAny (model X.prog X.w) (X.A.mark (some (.ref e))) (noteFrame (.ref J) X.env) _ _ _;refine pR (C:=CN) (dx:=none) (L:=X.env.locals) (outer:=X.outer) (base:=X.base) Y (R' _j) f' _k.at_ λaN' _l aO' _Z aa' ab'=>?_;obtain⟨ac',_m⟩:=ik (C:=CN) _j j e' _k j' k' aa' _Z ab';obtain⟨aP',aQ',aR',ad',aS',aT',ae',aU',af',aV',_⟩:=id _m.at_.ex;show cameBackBy (model X.prog X.w) X.A X.env X.xe (.ref J) _;unfold cameBackBy;refine aT (gH ad' ae' af' ?_);rw[ar (show ¬((Value.ref _l==Value.none)=true) from by simp)];exact out _ H' _ J _l _ _ ac' e' _m j' k' y' _ _
 refine df (M _ (X.pn++pinsz_) _x _r rA [] s σ H D I.dG h) (λf aW' q=>?_) λ_ _ z=>z
 cases f with
 | next=>exact iM q.c8
 | ret v=>exact q.c8
 | brk=>exact q.c8
 | cont=>exact q.c8
theorem Inv.Il {σ:St}{T:Addr}{g:HO}(I:Inv X pinsz_ σ H s)(k:∀b o,b∉ch->s.heap.get? b=some o->h'.get? b=some o)(d:∀b∈ch,g7 X pinsz_ H b)(h:s.heap.objs.size<=T)(new:ee X.prog X.w (ah H T g) h' T g):Inv X pinsz_ σ (ah H T g) {s with heap:=h',toks:=t'}:=by
 have f:H T=none:=I.aG.fresh h
 have i:∀b u,H b=some u->b∉ch:=λb u e z=>by
  have q:=(d b z).1;rw[q] at e;cases e
 refine I.step (g':=s.gens) (d':=s.drawn) (ch:=ch) (λb a=>⟨(d b a).2.2.2.1,(d b a).2.1,(d b a).2.2.2.2.1,(d b a).2.2.2.2.2⟩) (λb o _ _ hc e _=>k b o hc e) (λb o _ _ hc e _=>⟨o.slots,k b o hc e⟩)
  (λb o _ e n=>?_) (λb o hc e=>⟨o,k b o hc e⟩) (λb xs e=>?_) (λb o u e=>?_) (λb ps e=>⟨#[],?_⟩) (λm hm=>?_) (λb u e=>?_) I.bare
 .rw[ak (dh (cc (bP e) h))];exact n
 .rw[ak (a6 e f)];exact e
 .rw[ak (a6 e f)];exact e
 .rw[ak (a6 e f),e];simp
 .obtain⟨o,es,j,l,r⟩:=hm;exact⟨o,es,j,k _ o (λz=>(d _ z).2.1 O) l,r⟩
 .by_cases a:b=T
  .subst a;rw[au] at e;cases e;exact new
  .rw[ak a] at e;refine(I.aG b u e).jO (λc v hc q=>k c v ?_ q) (λc q=>by rw[ak (a6 q f)];exact q) λc xs q=>by rw[ak (a6 q f)];exact q
   rcases hc with z | z
   .rw[z];exact i b u e
   .exact i c _ z
noncomputable def ot (K:Frag)(a:Addr):It:=
 ⟨λi H=>∃(xs:List V) (x:V),ay K H a xs/\xs[i]?=some x,λi H v H'=>∃T x,v= .ref T/\H T=none/\H'=ah H T (.tup [.int (i:Nat),x])/\∀xs,ay K H a xs->xs[i]?=some x,λi H=>∃xs:List V,ay K H a xs/\xs.length<=i⟩
theorem Fp {K:Frag}(a e it:Addr):
 o7 P w K (.Tuple Ay kk q9) (ot K a) [e,it] e (λi h=>(∃d,IsEnum h e it ((i:Nat):Int) d)/\h.IsListIter it a i/\e≠it) where
 mem:=by simp
 obj:=λi h st b c=>by
  obtain⟨⟨d,he⟩,⟨o,m,hc,hd⟩,_⟩:=st;have n:b=e∨b=it:=by simpa using c
  rcases n with z | z
  .rw[z];exact⟨_,he,λv q=>nomatch q⟩
  .rw[z];exact⟨o,m,λv q=>by rw[hd] at q;cases q⟩
 keep:=λi h h' st k=>let ⟨⟨d,he⟩,hi,f⟩:=st;⟨⟨d,k e (by simp) _ he⟩,hi.at λo q=>k it (by simp) o q,f⟩
 item:=by
  intro X r t y hc i pinsz_ s σ H E I g st C;subst r t y;obtain⟨⟨d,he⟩,j,f⟩:=st;obtain⟨xs,x,l,hx⟩:=C;obtain⟨aD,D,p,N⟩:=I.list l;obtain⟨u,T,U⟩:=D.get hx;have M:e<s.heap.objs.size:=bP he;have Y:it<s.heap.objs.size:=by obtain⟨_,q,_⟩:=j;exact bP q
  refine wpAny_pyNext_enum_item he j p.isList (x:=u) (by simpa using T) f λh' m b' e' hsz hk=>⟨_,O,wpAny_letOwnedTupleGo_enum (s:={s with heap:=h',toks:=s.toks+1}) m λG f' J=>?_⟩;have i':G.get? s.heap.objs.size=some {cls:= .type "tuple",data:= .seq #[.int i s.toks,u]}:=(J.2 _ (hv M)).trans e'
  have new:ee X.prog X.w (ah H s.heap.objs.size (.tup [.int (i:Nat),x])) G s.heap.objs.size (.tup [.int (i:Nat),x]):=
   ⟨by show 2<=sizeLine;decide,[.int i s.toks,u],.cons ⟨_,O⟩ (.cons U .nil),_,i',O,_,O⟩
  have j':Inv X pinsz_ σ (ah H s.heap.objs.size (.tup [.int (i:Nat),x])) {s with heap:=G,toks:=s.toks+1}:=
   I.Il (ch:=[e,it]) (λb k' c q=>(J.2 b (λz=>c (by simp[z]))).trans (hk b k' (λz=>c (by simp[z])) (λz=>c (by simp[z])) q)) g (bY _) new
  refine⟨.ref s.heap.objs.size,_,j',O,⟨_,x,O,I.aG.fresh (bY _),O,λys hy=>by rw[I.yc hy l];exact hx⟩,⟨⟨u,?_⟩,b'.at λo q=>(J.2 it (eP f)).trans q,f⟩,λb c=>?_⟩
  .have e1:((i+1:Nat):Int)=(i:Int)+1:=af;rw[e1];exact f'
  .have l':b<s.heap.objs.size:=by
    have n:b=e∨b=it:=by simpa using c
    rcases n with z | z
    .rw[z];exact M
    .rw[z];exact Y
   rw[ak (dh l')];exact(g b c).1
 done:=by
  intro X r t y hc i pinsz_ s σ H E I g st C;subst r t y;obtain⟨⟨d,he⟩,j,f⟩:=st;obtain⟨xs,l,hx⟩:=C;obtain⟨aD,D,p,N⟩:=I.list l;obtain⟨m',p',w',q',r',u'⟩:=g it (by simp);have y':=D.length;exact wpAny_pyNext_enum_end (I.ok.hd hc) he j p.isList (by simp;omega) λh' v'=>⟨O,I.turned (t':=s.toks) (λb o c q=>v' b o c q) m' p' q' r' u'⟩
 self:=λA i s Q E st h=>let ⟨⟨_,he⟩,_⟩:=st;wpAny_pyIter_enum he h
inductive DF (K:Frag)(R:It->Hp->Prop)(vs:List V)(H1:Hp):Prop
 | mk a xs (_:vs=[.ref a]) (_:ay K H1 a xs) (_:R (ot K a) H1)
noncomputable def HR (K:Frag)(ta:TA):TI:=λσ H R=>ta σ H λvs H1=>DF K R vs H1
theorem Ls {ta:TA}(g:Gl X "enumerate")(hm:X.mg "enumerate"=none)(ha:PA X [e] ta)(hs:starEach [e] X.env=[(false,eval e X.env)]:=by rfl):
 PI X (.Tuple Ay kk q9) (.Call (.Name "enumerate" p) [e] [] aH) (HR X.K ta):=by
 intro pinsz_ s σ H R I h;refine Call_ (qH I g hm boot_enumerate (uF (bg (ha aH pinsz_ s σ H _ I h) λus c ⟨vs,H1,d,i,j⟩=>?_) hs O));obtain⟨a,xs,ex,k,q⟩:=j;subst ex
 cases i with
 | cons r l=>
  cases l;cases r;obtain⟨aD,v,m,w⟩:=d.list k;refine call_enumerate_list m.isList λh' he n hsz hk=>wpAny_pyIter_enum he ?_;have o:Inv X pinsz_ σ H1 {c with heap:=h'}:=d.kept (t':=c.toks) hk;refine⟨c.heap.objs.size+1,[c.heap.objs.size+1,c.heap.objs.size],_,_,H1,O,o,Fp a (c.heap.objs.size+1) c.heap.objs.size,⟨⟨.none,he⟩,n,Nat.succ_ne_self _⟩,λb t=>?_,q⟩;have u:b=c.heap.objs.size+1∨b=c.heap.objs.size:=by simpa using t
  have f:c.heap.objs.size<=b:=by
   rcases u with z | z
   .rw[z];exact Nat.le_add_right _ _
   .rw[z];exact bY _
  exact d.mU f (d.aG.fresh f)
end L2
namespace RL
open PySem PySem.Spec PyProof.Rows L2
open LwReel (Bytes Info)
open LwReel (At HEAD INDEX MOST NAME PART PARTS Rate SETUP STREAMS andThen begins boxAt byIndex crc crcBit crcByte disorder ends firstWrong give headBody headBox headOf here indexBody isKey lastOf lengthOf ofLe okTime okZig rForm rHead rHeld rLoose rPart rStream readVar string var varOf zag zig)
open ReelCalls (Answer BAD BYTES Call FAULT LONG MANY NONE NOT State infoTold n_ okPart over_ says takes tells)
open ReelNeutral (asked asked1 callOf nats natural toldInts whole53)
open PySem.W (Frag clsIn fnOf mg_of)
open RM (bb e0 lF fA eo cg dE eG lI gn gb dA eb d4 cD cS cv fK gs opening d8 dH dM fH gK aV hp)
variable {A B U:Prop} {C CB CC CD CL CP CR CS CT a bo cu d dr dx f fI l lp ls pl r rl tk:Addr} {D:Ends} {G:List Value->Prop} {H H' H0 H1 H2:Hp} {K:PySem.W.Frag} {L b:Bytes} {P:Program} {Q:VK} {R:Addr->Hp->Prop} {b5 u xs:List Int} {q5 be out:List Addr} {ax:L2.St->XK} {base h:Heap} {c c':RM.bb} {cl closed ae wr:Bool} {e:Nat×Nat} {es:List Expr} {fd:FuncData} {flags i j k kind m n p q:Nat} {g' bO:Nat->Bool} {aK:List Info} {hi i1 i2 i3 time v z:Int} {mg:Str->Option Value} {o:HO} {aH:Pos} {ps:List (Addr×Info)} {rd:V} {s:BS} {s' st:State} {sp:Sp} {ss:List LwReel.Stream} {t:At} {t1 lO ru t2 t3 t4 t5 t6 t7 t8 t9:TS} {te:TE} {w:World} {x:Str} {y:State×List Int} {ys:List V} {α β:Type} {σ:L2.St} {g:α->LwReel.Rd β}
noncomputable def Num (mg:Str->Option Value)(x:Str)(v:Int):Prop:=∃t,mg x=some (.int v t)
structure zV (mg:Str->Option Value):Prop where
 eQ:Num mg "FORM_FAULT" (4)
 Ij:Num mg "MOST_NUMBER_BYTES" (10)
 DN:Num mg "NUMBER_BOUND" (18446744073709551616)
 z6:Num mg "MOST_BYTE" (255)
 zQ:Num mg "KEY" (1)
 C1:Num mg "STREAM_ENDS" (2)
 wc:Num mg "NONE_FOUND" (-1)
 wg:Num mg "FORM" (1)
 BR:Num mg "MOST_STREAMS" (4)
 AU:Num mg "MOST_KIND" (255)
 pF:Num mg "MOST_RATE" (4294967295)
 xj:Num mg "MOST_NAME" (16)
 wG:Num mg "MOST_SETUP" (40)
 vT:Num mg "MOST_PARTS" (16)
 yW:Num mg "MOST_TIME" (1125899906842624)
 yB:Num mg "MOST_LENGTH" (4294967295)
 zM:Num mg "MOST_FLAGS" (3)
 FK:Num mg "MOST_SIZE" (600)
 nD:Num mg "PLACE_SIZE" (8)
 BX:Num mg "INDEX_FAULT" (7)
 zB:Num mg "ALL_ONES" (4294967295)
 LP:Num mg "POLYNOMIAL" (2197175160)
 qD:Num mg "HEAD_KIND" (72)
 qC:Num mg "PART_KIND" (80)
 oD:Num mg "INDEX_KIND" (73)
 s9:Num mg "MOST_BODY" (600)
 nj:Num mg "OPENING_SIZE" (12)
 kZ:Num mg "CRC_SIZE" (4)
 ri:Num mg "BOX_SIZE" (16)
 w3:Num mg "MARK_FAULT" (1)
 Km:Num mg "LENGTH_FAULT" (2)
 Fu:Num mg "OPENING_FAULT" (3)
 MO:Num mg "BODY_FAULT" (6)
 En:Num mg "MOST_SECONDS_BACK" (10)
 qS:Num mg "NONE_WRONG" (-1)
 LU:Num mg "STREAM_WRONG" (0)
 B9:Num mg "TIME_WRONG" (1)
 MJ:Num mg "FLAGS_WRONG" (3)
 H8:Num mg "TOLD_NOTHING" (0)
 yx:Num mg "TOLD_HEAD" (1)
 Co:Num mg "TOLD_PART" (2)
 xM:Num mg "TOLD_INDEX" (3)
 wz:Num mg "TOLD_FAULT" (4)
 r8:Num mg "TOLD_FOUND" (5)
 pQ:Num mg "TOLD_END" (6)
 D_:Num mg "ORDER_FAULT" (5)
 D8:Num mg "CUT_FAULT" (8)
 J7:Num mg "BEHIND_FAULT" (9)
 y3:Num mg "AGAINST_ORDER" (128)
 r6:Num mg "NOWHERE" (-1)
 r3:Num mg "BOX_DUE" (0)
 xo:Num mg "END_DUE" (1)
 wU:Num mg "SEARCH_DUE" (2)
 wD:Num mg "OVER" (3)
 MI:Num mg "LEAST_BYTES" (48)
 Kj:Num mg "TAIL_SIZE" (16)
 JB:Num mg "JUDGE" (0)
 Dm:Num mg "READ" (1)
 DA:Num mg "FEED" (2)
 DP:Num mg "NEXT" (3)
 Ez:Num mg "STREAM" (4)
 MK:Num mg "FIND" (5)
 Ef:Num mg "WRITE" (6)
 JE:Num mg "PUT" (7)
 ET:Num mg "END" (8)
 KL:Num mg "SEEK" (9)
 zd:Num mg "MOST_BYTES" (1500)
 lL:Num mg "NOT_LET" (-1)
 xQ:Num mg "TOO_MANY" (-2)
 ko:Num mg "NOT_NOW" (-4)
 Dz:Num mg "NO_PART" (-6)
 Mu:Num mg "FULL" (-7)
 wK:Num mg "NOT_RIGHT" (-8)
 sO:mg "any"=none
 Jg:mg "enumerate"=none
 B8:mg "len"=none
 rD:mg "list"=none
 Dv:mg "min"=none
 jK:mg "range"=none
theorem Fv {X:Cx}(h:Num X.mg x v)(a:Gl X x)(hd:(x==("__debug__":Str))=false:=by decide):PE X (.Name x aH) (tC (.int v)):=by
 obtain⟨t,h⟩:=h;exact lr a h ⟨t,O⟩ hd
noncomputable def bV (b:LwReel.Bytes):List V:=b.map λc=>V.int (c.toNat:Int)
theorem bS {c:Prop}[Decidable c](h1:c->A)(h2:¬c->B):if decide c=true then A else B:=by
 by_cases h:c
 .rw[az (cR h)];exact h1 h
 .rw[ar (by simpa using h)];exact h2 h
theorem kl {c:Prop}[Decidable c](h1:¬c->A)(h2:c->B):if(!decide c)=true then A else B:=by
 by_cases h:c
 .rw[ar (by simpa using h)];exact h2 h
 .rw[az (by simpa using h)];exact h1 h
theorem hX {x y:Int}:V.int x=V.int y↔x=y:=⟨λh=>by injection h,λh=>by rw[h]⟩
theorem bx {x y:Int}(h1:x=y->A)(h2:x≠y->B):if decide (V.int x=V.int y)=true then A else B:=bS (λh=>h1 (hX.mp h)) λh=>h2 λz=>h (hX.mpr z)
theorem kq {x y:Int}(h1:x≠y->A)(h2:x=y->B):if(!decide (V.int x=V.int y))=true then A else B:=kl (λh=>h1 λz=>h (hX.mpr z)) λh=>h2 (hX.mp h)
theorem tU {b:LwReel.Bytes}{y:V}(h:(bV b)[i]?=some y):∃c,b[i]?=some c/\y=V.int (c.toNat:Int):=by
 unfold bV at h;rw[dk] at h
 cases e:b[i]? with
 | none=>rw[e] at h;cases h
 | some z=>rw[e] at h;exact⟨z,O,(cx h).symm⟩
theorem bu (b:LwReel.Bytes):(bV b).length=b.length:=by unfold bV;rw[aX]
theorem kY {b:LwReel.Bytes}{c:UInt8}(h:b[i]?=some c):(bV b)[i]?=some (V.int (c.toNat:Int)):=by
 unfold bV;rw[dk,h];rfl
theorem bJ {st:Stmt}{ps:List Str}(F:Fn K mg x st ps)(N:List Str)(a:∀(y:Addr×Value×Around×List Env×Shared) (H:Hp) (vs:List V) (Q:VK) (E:XK),N.Nodup->bT k (y.2.2.1.deeper (envOfC x (bL st) y.2.2.2.2.heap.objs.size y.1 y.2.1))->sp vs H Q E->
 let X:=(dX (ez (k+1)) ba P w K mg base N x (bL st) y.1 y.2.1 y.2.2.1 y.2.2.2.1 y.2.2.2.2 H E).hP;let D:Ends:={nx:=λ_ H'=>Q .aE H',rt:=Q};∃t,cT X (ew st) t/\t D (start N vs) H)(S:c4 N ps (bL st):=by exact⟨O,O,O,by decide+kernel,O,by decide+kernel,by decide+kernel⟩)(len:∀vs H Q E,sp vs H Q E->vs.length=ps.length:=by intro _ _ _ _ h;cases h;subst_vars;rfl):aS P w K mg base ba (k+1) x ps sp:=
 F.has S len λf bc A outer s H vs Q E=>a ⟨f,bc,A,outer,s⟩ H vs Q E S.nd
theorem c0 {st:Stmt}{ps:List Str}(F:Fn K mg x st ps)(N:List Str)(a:∀(y:Addr×Value×Around×List Env×Shared) (H:Hp) (vs:List V) (Q:VK) (E:XK),N.Nodup->bT k (y.2.2.1.deeper (envOfC x (bL st) y.2.2.2.2.heap.objs.size y.1 y.2.1))->sp vs H Q E->
 let X:=dX (ez (k+1)) (bZ P w C) P w K mg base N x (bL st) y.1 y.2.1 y.2.2.1 y.2.2.2.1 y.2.2.2.2 H E;let D:Ends:={nx:=λ_ H'=>Q .aE H',rt:=Q};∃t,cT X (ew st) t/\t D (start N vs) H)(S:c4 N ps (bL st):=by exact⟨O,O,O,by decide+kernel,O,by decide+kernel,by decide+kernel⟩)(len:∀vs H Q E,sp vs H Q E->vs.length=ps.length:=by intro _ _ _ _ h;cases h;subst_vars;rfl):aS P w K mg base (bZ P w C) (k+1) x ps sp:=
 F.G0 S len λf bc A outer s H vs Q E=>a ⟨f,bc,A,outer,s⟩ H vs Q E S.nd
theorem fL {N P:List Str}{sc:Scope}(h:c4 N P sc:=by exact⟨O,O,O,by decide+kernel,O,by decide+kernel,by decide+kernel⟩):c4 N P sc:=h
theorem aO {X:Cx}{ps:List Str}{p:Pos}{e:Expr}{t:TA}(h:aS X.prog X.w X.K X.mg X.base ba k x ps sp)(a:bT j X.A)(ha:PA X (e::es) t)(hk:k<=j:=by decide)(b:Gl X x:=by rfl)(c:(x==("__debug__":Str))=false:=by decide)(he:starEach (e::es) X.env=(false,eval e X.env)::starEach es X.env:=by rfl)(d:(backTo aH (starEach es X.env)).any (·.1)=false:=by rfl):PE X (.Call (.Name x p) (e::es) [] aH) (jZ sp [] E0 t):=uN h (a.mono hk) b ha c he d
theorem bI {X:Cx}{ps:List Str}{p:Pos}{e:Expr}{t:TA}(h:aS X.prog X.w X.K X.mg X.base (bZ X.prog X.w C) k x ps sp)(hx:du C X ax)(a:bT j X.A)(ha:PA X (e::es) t)(hk:k<=j:=by decide)(b:Gl X x:=by rfl)(c:(x==("__debug__":Str))=false:=by decide)(he:starEach (e::es) X.env=(false,eval e X.env)::starEach es X.env:=by rfl)(d:(backTo aH (starEach es X.env)).any (·.1)=false:=by rfl):PE X (.Call (.Name x p) (e::es) [] aH) (pb sp ax t):=KG h hx (a.mono hk) b ha c he d
theorem dj {X:Cx}{ps:List Str}{p:Pos}{e:Expr}{t:TA}(h:gU X.prog X.w X.K X.mg X.base k x C ps sp)(a:bT j X.A)(ha:PA X (e::es) t)(hk:k+1<=j:=by decide)(b:Gl X x:=by rfl)(c:(x==("__debug__":Str))=false:=by decide)(he:starEach (e::es) X.env=(false,eval e X.env)::starEach es X.env:=by rfl)(d:(backTo aH (starEach es X.env)).any (·.1)=false:=by rfl):PE X (.Call (.Name x p) (e::es) [] aH) (lq C sp [] E0 t):=M2 h (a.mono hk) b ha c he d
theorem aW {X:Cx}{fy:Pos}{e:Expr}(i:Nat)(a:X.N.Nodup)(he:PE X e te)(hi:X.N[i]?=some x:=by rfl)(hx:Loc X.env.scope x:=by exact Or.inl O)(hs:swapsWith e (some (.Name x fy)) aH.line X.env=pure false:=by rfl)(b:X.fn x=true∨X.env.scope.names.lookup x=some .local:=by first | exact .inl O | exact .inr O | assumption):PS X (.Assign [.Name x fy] e aH) (jI te (gQ i)):=wY a hi hx he hs b
theorem dc {X:Cx}(i:Nat)(a:X.N.Nodup)(hi:X.N[i]?=some x:=by rfl)(hx:Loc X.env.scope x:=by exact Or.inl O)(b:X.fn x=true∨X.env.scope.names.lookup x=some .local:=by first | exact .inl O | exact .inr O | assumption):PG X (.Name x aH) (gQ i):=FC a hi hx b
theorem d6 {X:Cx}{np:Pos}{dW:Pos}{t:TA}{a b:Expr}(F:FX X.K X.mg C fI)(c:bT j X.A)(hx:du C X ax)(ha:PA X [a,b] t)(hc:X.calm=true:=by rfl)(d:Gl X "Fault":=by rfl)(hk:1<=j:=by decide)(he:starEach [a,b] X.env=(false,eval a X.env)::starEach [b] X.env:=by rfl)(e:(backTo dW (starEach [b] X.env)).any (·.1)=false:=by rfl):PS X (.Raise (some (.Call (.Name "Fault" np) [a,b] [] dW)) none aH) (zc ax t):=nX F hc (c.mono hk) d hx ha he e
theorem aA {X:Cx}(h:Num X.mg x v)(a:Gl X x:=by rfl)(hd:(x==("__debug__":Str))=false:=by decide):PE X (.Name x aH) (tC (.int v)):=Fv h a hd
theorem aY {X:Cx}{a b:Expr}{ta tb:TE}{op:CmpOp}{r:R2}(c:c3 X (compareOp op) r)(ha:PE X a ta)(d:PE X b tb)(hm:behindInMarks op b=false:=by exact hI _):PT X (.Compare a [op] [b] aH) (Ae (gw r ta tb)):=sI c ha d hm
theorem aB {X:Cx}{e:Expr}(h:PE X e te)(hs:starEach [e] X.env=[(false,eval e X.env)]:=by rfl):PA X [e] (c9 te eE):=a_ h fw hs
theorem aF {X:Cx}{e:Expr}{f:Expr}{a:TE}(h:PE X e te)(g:PE X f a)(hs:starEach [e,f] X.env=[(false,eval e X.env),(false,eval f X.env)]:=by rfl)(b:starEach [f] X.env=[(false,eval f X.env)]:=by rfl):PA X [e,f] (c9 te (c9 a eE)):=a_ h (aB g b) (hs.trans (by rw[b]))
theorem bX {X:Cx}{p:Pos}{e:Expr}(n:zV X.mg)(h:PE X e te)(a:Gl X "len":=by rfl)(hs:starEach [e] X.env=[(false,eval e X.env)]:=by rfl):PE X (.Call (.Name "len" p) [e] [] aH) (pG (λxs H Q=>∃p ys,xs=[.ref p]/\(ay X.K H p ys∨cI X.K H p ys)/\Q (.int ys.length) H) (c9 te eE)):=lP zA a n.B8 PySem.boot_len (aB h hs) aJ aJ hs O
theorem lk (h:Nat.ble (n+1) m=true:=by rfl):n<m:=Bu h
theorem bR {x y:Int}(h:B)(n:x≠y:=by decide):if decide (V.int x=V.int y)=true then A else B:=bx (λz=>absurd z n) λ_=>h
theorem fJ {r:TS}(h:let a:=r;aC t1 a D σ H):aC t1 r D σ H:=h
theorem cV {r:TS}(h:let a:=r;let b:=aC t2 a;aC t1 b D σ H):aC t1 (aC t2 r) D σ H:=h
theorem iT {r:TS}(h:let a:=r;let b:=aC t3 a;let c:=aC t2 b;aC t1 c D σ H):aC t1 (aC t2 (aC t3 r)) D σ H:=h
theorem hJ {r:TS}(h:let a:=r;let b:=aC t4 a;let c:=aC t3 b;let d:=aC t2 c;aC t1 d D σ H):aC t1 (aC t2 (aC t3 (aC t4 r))) D σ H:=h
theorem gA {r:TS}(h:let a:=r;let b:=aC t5 a;let c:=aC t4 b;let d:=aC t3 c;let e:=aC t2 d;aC t1 e D σ H):aC t1 (aC t2 (aC t3 (aC t4 (aC t5 r)))) D σ H:=h
theorem pk {r:TS}(h:let a:=r;let b:=aC t6 a;let c:=aC t5 b;let d:=aC t4 c;let e:=aC t3 d;let f:=aC t2 e;aC t1 f D σ H):aC t1 (aC t2 (aC t3 (aC t4 (aC t5 (aC t6 r))))) D σ H:=h
theorem Fc {r:TS}(h:let u8:=r;let a:=aC t7 u8;let b:=aC t6 a;let c:=aC t5 b;let d:=aC t4 c;let e:=aC t3 d;let f:=aC t2 e;aC t1 f D σ H):aC t1 (aC t2 (aC t3 (aC t4 (aC t5 (aC t6 (aC t7 r)))))) D σ H:=h
theorem Np {r:TS}(h:let a:=r;let u8:=aC t8 a;let b:=aC t7 u8;let c:=aC t6 b;let d:=aC t5 c;let e:=aC t4 d;let f:=aC t3 e;let g:=aC t2 f;aC t1 g D σ H):aC t1 (aC t2 (aC t3 (aC t4 (aC t5 (aC t6 (aC t7 (aC t8 r))))))) D σ H:=h
theorem Mq {r:TS}(h:let a:=r;let b:=aC t9 a;let u8:=aC t8 b;let c:=aC t7 u8;let d:=aC t6 c;let e:=aC t5 d;let f:=aC t4 e;let g:=aC t3 f;let i:=aC t2 g;aC t1 i D σ H):aC t1 (aC t2 (aC t3 (aC t4 (aC t5 (aC t6 (aC t7 (aC t8 (aC t9 r)))))))) D σ H:=h
theorem Nr {r:TS}(h:let a:=r;let b:=aC lO a;let c:=aC t9 b;let u8:=aC t8 c;let d:=aC t7 u8;let e:=aC t6 d;let f:=aC t5 e;let g:=aC t4 f;let i:=aC t3 g;let j:=aC t2 i;aC t1 j D σ H):aC t1 (aC t2 (aC t3 (aC t4 (aC t5 (aC t6 (aC t7 (aC t8 (aC t9 (aC lO r))))))))) D σ H:=h
theorem KN {r:TS}(h:let a:=r;let b:=aC ru a;let c:=aC lO b;let d:=aC t9 c;let u8:=aC t8 d;let e:=aC t7 u8;let f:=aC t6 e;let g:=aC t5 f;let i:=aC t4 g;let j:=aC t3 i;let k:=aC t2 j;aC t1 k D σ H):aC t1 (aC t2 (aC t3 (aC t4 (aC t5 (aC t6 (aC t7 (aC t8 (aC t9 (aC lO (aC ru r)))))))))) D σ H:=h
theorem Nq {a r:TS}(h:let b:=r;let c:=aC a b;let d:=aC ru c;let e:=aC lO d;let f:=aC t9 e;let u8:=aC t8 f;let g:=aC t7 u8;let i:=aC t6 g;let j:=aC t5 i;let k:=aC t4 j;let l:=aC t3 k;let m:=aC t2 l;aC t1 m D σ H):aC t1 (aC t2 (aC t3 (aC t4 (aC t5 (aC t6 (aC t7 (aC t8 (aC t9 (aC lO (aC ru (aC a r))))))))))) D σ H:=h
inductive M5 (K:Frag)(vs:List V)(H:Hp)(Q:VK)(_:XK):Prop
 | mk a b (_:vs=[.ref a]) (_:ay K H a (bV b)) (_:Q (.int (eG b:Nat)) H)
noncomputable def kz:Nat->Nat->Nat
 | 0,c=>c
 | n+1,c=>crcBit (kz n c)
theorem vf (a b:Nat):Builtin.bitXor (a:Int) (b:Int)=((Nat.xor a b:Nat):Int):=Bits.IA (lC a) (lC b)
theorem vF (a:Nat):Builtin.bitAnd (a:Int) 1=((a % 2:Nat):Int):=by
 have:=Bits.pT (x:=(a:Int)) 1 (lC a);simpa using this
variable (u1:Fn K mg "crc_of" w7 ["data"])
variable (ag:zV mg)
variable (lU:aS P w K mg base ba 5 "crc_of" ["data"] (M5 K))
include u1 ag in
theorem K7:type_of% lU:=by
 refine bJ u1 ["data","rest","byte","step"] ?_;rintro m H vs Q E f o ⟨a,b,rfl,ha,q⟩ p r
 refine⟨_,aj (aW 1 f (aA ag.zB))
  (aj (fc fE O (fF (pv 0)) (dc 2 f)
   (aj (aW 1 f (aR uT (pv 1) (pv 2)))
   (aq (fc fE O (jT O ag.jK (aB aL)) (dc 3 f)
    (aq (aZ (aY bW (aR j6 (pv 1) aL) aL)
     (aq (aW 1 f (aR uT (aR qK (pv 1) aL) (aA ag.LP))))
     (aq (aW 1 f (aR qK (pv 1) aL)))))))))
  (aq (aI (aR uT (pv 1) (aA ag.zB))))),?_⟩
 refine cV ?_
 intros
 refine⟨_,O,a,O,⟨_,ha⟩,kg (K:=K) (a:=a) (xs:=bV b) (λi σ H'=>H'=H/\∃g d,σ=[some (.ref a),some (.int (((b.take i).foldl crcByte 0xFFFFFFFF:Nat):Int)),g,d]) ⟨O,none,none,O⟩ (λi σ H' _ ⟨e,_⟩=>by rw[e];exact ha) ?_ ?_⟩
 .rintro i y σ H' hi ⟨rfl,g,d,rfl⟩;obtain⟨c,hc,rfl⟩:=tU hi;refine⟨_,O,_,O,_,_,O,O,8,O,aJ,aJ,oo (n:=8) (λj σ h=>h=H'/\∃d,σ=[some (.ref a),some (.int ((kz j (Nat.xor ((b.take i).foldl crcByte 0xFFFFFFFF) c.toNat):Nat):Int)),some (.int (c.toNat:Int)),d]) ?_ ?_ ?_⟩
  .exact⟨O,d,by(try dsimp only);rw[vf];rfl⟩
  .rintro j σ h s ⟨rfl,d,rfl⟩;refine⟨_,O,_,_,O,O,O,_,O,?_⟩;generalize l:kz j (Nat.xor ((b.take i).foldl crcByte 0xFFFFFFFF) c.toNat)=z;refine bx (λk=>?_) λk=>?_
   .refine⟨_,O,_,_,O,O,(show(0:Int)<=1 by decide),_,_,O,O,O,some (.int (0+(j:Int))),?_⟩
    .show _=_
     (try dsimp only)
     have:(z:Int) / 2 ^ (1:Int).toNat=((z / 2:Nat):Int):=by simp
     rw[this,show(2197175160:Int)=((2197175160:Nat):Int) from O,vf]
     have e:kz (j+1) (Nat.xor ((b.take i).foldl crcByte 0xFFFFFFFF) c.toNat)=Nat.xor (z / 2) 2197175160:=by
      show crcBit (kz j _)=_;rw[l];unfold crcBit;rw[az (by rw[vF] at k;omega)]
     rw[e];rfl
   .refine⟨_,O,_,_,O,O,(show(0:Int)<=1 by decide),O,some (.int (0+(j:Int))),?_⟩
    .show _=_
     (try dsimp only)
     have:(z:Int) / 2 ^ (1:Int).toNat=((z / 2:Nat):Int):=by simp
     rw[this]
     have e:kz (j+1) (Nat.xor ((b.take i).foldl crcByte 0xFFFFFFFF) c.toNat)=z / 2:=by
      show crcBit (kz j _)=_;rw[l];unfold crcBit;rw[ar (by rw[vF] at k;omega)]
     rw[e];rfl
  .rintro σ h ⟨rfl,d,rfl⟩;refine⟨O,some (.int (c.toNat:Int)),d,?_⟩;rw[RM.take_snoc hc,List.foldl_append];rfl
 .rintro σ H' ⟨rfl,g,d,rfl⟩;refine⟨_,O,_,_,O,O,?_⟩
  (try dsimp only)
  rw[bu,gM,show(4294967295:Int)=((4294967295:Nat):Int) from O,vf];exact q
structure BS where
 d:Addr
 bytes:Bytes
 at_:Nat
 e:Nat
 pl:Addr
 ps:List Int
 st:Int
noncomputable def ei (s:BS):List (Str×V):=[("data",.ref s.d),("at",.int (s.at_:Int)),("end",.int (s.e:Int)),("plain",.bl false),("places",.ref s.pl),("stream",.int s.st)]
noncomputable def BS.X (s:BS):Bytes:=s.bytes.take s.e
structure bj (CB:Addr)(H:Hp)(b:Addr)(s:BS):Prop where
 ins:∃dx,H b=some (.ins CB dx (ei s))
 bH:H s.pl=some (.lst (s.ps.map V.int))
 dat:H s.d=some (.lst (bV s.bytes))
 ne:s.d≠s.pl
 le:s.at_<=s.e
 el:s.e<=s.bytes.length
 cZ:s.bytes.length<=3000
noncomputable def BS.fb (s:BS):Prop:=s.ps.length<=s.at_
noncomputable def e_ (CB:Addr)(H:Hp)(b:Addr)(st:Int):Prop:=∃dx fs,H b=some (.ins CB dx fs)/\fs.lookup ("stream":Str)=some (V.int st)
noncomputable def aQ (b pl:Addr)(H H':Hp):Prop:=∀c o,H c=some o->c≠b->c≠pl->H' c=some o
theorem aQ.refl {b:Addr}:aQ b pl H H:=λ_ _ h _ _=>h
theorem aQ.trans {b:Addr}(x:aQ b pl H H1)(y:aQ b pl H1 H2):aQ b pl H H2:=λc o h n1 n2=>y c o (x c o h n1 n2) n1 n2
theorem aQ.g0 {b:Addr}:aQ b pl H (ah H b o):=λc a h n1 _=>by rw[ak n1];exact h
theorem aQ.qd {b:Addr}:aQ b pl H (ah H pl o):=λc a h _ n2=>by rw[ak n2];exact h
theorem BS.gg {b:Addr}(B:bj CB H b s):s.X.length=s.e:=by unfold BS.X;rw[cF];have:=B.el;omega
theorem bj.stream {b:Addr}(B:bj CB H b s):e_ CB H b s.st:=let ⟨dx,h⟩:=B.ins;⟨dx,_,h,O⟩
theorem bj.bp {b:Addr}(B:bj CB H b s):b≠s.pl:=let ⟨_,h⟩:=B.ins;ef h B.bH (by intro z;cases z)
theorem bj.bd {b:Addr}(B:bj CB H b s):b≠s.d:=let ⟨_,h⟩:=B.ins;ef h B.dat (by intro z;cases z)
section
variable {b:Addr}
theorem bj.get (B:bj CB H b s) (h:s.at_<s.e):∃c,s.bytes[s.at_]?=some c/\s.X[s.at_]?=some c:=by
 have h1:=B.el;refine⟨s.bytes[s.at_]'af,dy _,?_⟩;unfold BS.X;rw[List.getElem?_take,az h];exact dy _
end
theorem bj.setAt {b:Addr}(B:bj CB H b s)(h2:n<=s.e)(c:H' b=some (.ins CB dx (ei {s with at_:=n})))(a:aQ b b H H'):bj CB H' b {s with at_:=n}:=
 ⟨⟨dx,c⟩,a _ _ B.bH B.bp.symm B.bp.symm,a _ _ B.dat B.bd.symm B.bd.symm,B.ne,h2,B.el,B.cZ⟩
noncomputable def J5:List Str:=["data","at","end","plain","places","stream"]
inductive Ht (CB:Addr)(vs:List V)(H:Hp)(Q:VK)(E:XK):Prop
 | mk b s (_:vs=[.ref b]) (_:bj CB H b s) (_:(∀c H',s.at_<s.e->s.bytes[s.at_]?=some c->s.X[s.at_]?=some c->bj CB H' b {s with at_:=s.at_+1}->aQ b s.pl H H'->Q (.int (c.toNat:Int)) H')) (_:(s.at_=s.e->E 4 (s.e:Int) H))
variable (mL:Fn K mg "take_one" xn ["body"])
variable (aM:gi K CB J5)
variable (bf:FX K mg CF fI)
variable (fu:aS P w K mg base (bZ P w CF) 5 "take_one" ["body"] (Ht CB))
include ag mL aM bf in
theorem Gx:type_of% fu:=by
 refine c0 mL ["body"] ?_;rintro l H vs Q E m h ⟨b,s,rfl,B,q,i⟩ o p
 refine⟨_,aj (aZ (aY bW (aw aM (pv 0)) (aw aM (pv 0)))
  (aq (d6 bf h bw (aF (aA ag.eQ) (aw aM (pv 0))))) a7)
  (aj (hT aM (pv 0) aL iQ)
  (aq (aI (cz cC (aw aM (pv 0)) (aR d_ (aw aM (pv 0)) aL) (λ_ _=>rfl))))),?_⟩
 refine cV ?_
 intros
 obtain⟨dx,a⟩:=B.ins;refine⟨_,O,b,dx,_,_,O,a,O,_,O,b,dx,_,_,O,a,O,O,_,O,bx (λk=>?_) λk=>?_⟩
 .exact⟨_,O,b,dx,_,_,O,a,O,_,_,O,i af⟩
 .have d:s.at_<s.e:=by have:=B.le;omega
  obtain⟨c,hc,hx⟩:=B.get d;have f:=B.setAt (n:=s.at_+1) af (H':=ah H b (.ins CB dx (ei {s with at_:=s.at_+1}))) (dx:=dx) au aQ.g0;have g:ah H b (.ins CB dx (ei {s with at_:=s.at_+1})) b=some (.ins CB dx (ei {s with at_:=s.at_+1})):=au;exact⟨_,O,b,dx,_,_,O,a,O,_,_,O,O,dx,_,a,lk,_,O,b,dx,_,_,O,g,O,_,O,b,dx,_,_,O,g,O,_,_,O,O,_,_,_,_,O,O,ay.of f.dat,f_ (j:=s.at_) (v:=V.int (c.toNat:Int)) (by simp) (kY hc),q c _ d hc hx f aQ.g0⟩
inductive Hw (CB:Addr)(vs:List V)(H:Hp)(Q:VK)(E:XK):Prop
 | mk b s wd kd (_:vs=[.ref b,.int wd,.int kd]) (_:bj CB H b s) (_:(∀c H',s.at_<s.e->s.X[s.at_]?=some c->(c.toNat:Int)=wd->bj CB H' b {s with at_:=s.at_+1}->aQ b s.pl H H'->Q .aE H')) (_:(∀c H',s.at_<s.e->s.X[s.at_]?=some c->(c.toNat:Int)≠wd->e_ CB H' b s.st->aQ b s.pl H H'->E kd (s.at_:Int) H')) (_:(s.at_=s.e->E 4 (s.e:Int) H))
variable (sh:Fn K mg "expect_byte" AD ["body","wanted","kind"])
variable (i9:aS P w K mg base (bZ P w CF) 6 "expect_byte" ["body","wanted","kind"] (Hw CB))
include aM bf fu sh in
theorem L5:type_of% i9:=by
 refine c0 sh ["body","wanted","kind"] ?_;rintro n H vs Q E o f ⟨b,s,p,i,rfl,B,j,k,l⟩ r t
 refine⟨_,aq (aZ (aY ky (bI fu bw f (aB (pv 0))) (pv 1))
  (aq (d6 bf f bw (aF (pv 2) (aR d_ (aw aM (pv 0)) aL)))) a7),?_⟩
 refine⟨_,O,b,s,O,B,λc H' g hc hx a h=>?_,l⟩;refine⟨_,O,O,_,O,kq (λd=>?_) λd=>?_⟩
 .obtain⟨dx,m⟩:=a.ins;refine⟨_,O,_,O,b,dx,_,_,O,m,O,_,_,O,O,_,_,O,?_⟩;have e:(((s.at_+1:Nat):Int) - 1)=(s.at_:Int):=af;show E i (((s.at_+1:Nat):Int) - 1) H';rw[e];exact k c H' g hx d a.stream h
 .exact j c H' g hx d a h
inductive Lu (CB:Addr)(vs:List V)(H:Hp)(Q:VK)(E:XK):Prop
 | mk b s (_:vs=[.ref b,.int (s.at_:Int)]) (_:bj CB H b s) (_:(∀n j H',readVar (s.X.drop s.at_)=some (n,s.X.drop (s.at_+j))->0<j->s.at_+j<=s.e->n<2 ^ 64->bj CB H' b {s with at_:=s.at_+j}->aQ b s.pl H H'->Q (.int (n:Int)) H')) (_:(∀H',readVar (s.X.drop s.at_)=none->e_ CB H' b s.st->aQ b s.pl H H'->E 4 (eo (s.X.drop s.at_) s.at_:Nat) H'))
theorem Bk (c:UInt8):Builtin.bitAnd (c.toNat:Int) 127=((c.toNat % 128:Nat):Int):=by
 have:=Bits.pT (x:=(c.toNat:Int)) 7 (lC _);simpa using this
theorem FZ (a k:Nat):((a:Nat):Int)*2 ^ ((7:Int)*(k:Int)).toNat=((a*128 ^ k:Nat):Int):=by
 have e:((7:Int)*(k:Int)).toNat=7*k:=af;rw[e,q4,vD,tI];rfl
variable (wB:Fn K mg "read_number_form" AA ["body","first"])
variable (iU:aS P w K mg base (bZ P w CF) 6 "read_number_form" ["body","first"] (Lu CB))
include ag bf fu wB in
theorem JV:type_of% iU:=by
 refine c0 wB ["body","first","value","k","byte"] ?_;rintro Y H vs Q E l u ⟨b,s,rfl,B,I,v⟩ b' e'
 refine⟨_,aj (aW 2 l aL)
  (aj (fc j5 O (jT O ag.jK (aB (aA ag.Ij))) (dc 3 l)
   (aj (aW 4 l (bI fu bw u (aB (pv 0))))
   (aj (tY (i:=2) l O (Or.inl O) (aR wZ (aR j6 (pv 4) aL) (aR gW aL (pv 3))) sX)
   (aq (aZ (aY fM (pv 4) aL)
    (aj (aZ (PW.pt (gp (aY jP (pv 2) (aA ag.DN)) (gu (PW.pt (iY (aY bW (pv 4) aL) (h5 (aY cQ (pv 3) aL)))))))
     (aq (d6 bf u bw (aF (aA ag.eQ) (pv 1)))) a7)
    (aq (aI (pv 2)))) a7)))))
  (aq (d6 bf u bw (aF (aA ag.eQ) (pv 1))))),?_⟩
 refine cV ?_
 intros
 have J:=BS.gg B;have f':=B.le;have i':=B.el;have j':=B.cZ
 refine⟨10,O,aJ,aJ,oo (n:=10) (λj σ H'=>∃n w x,σ=[some (.ref b),some (.int (s.at_:Int)),some (.int ((n:Nat):Int)),w,x]/\RM.fi (s.X.drop s.at_) j n/\
  bj CB H' b {s with at_:=s.at_+j}/\aQ b s.pl H H') ⟨0,none,none,O,RM.fi.start _,B,aQ.refl⟩ ?_ ?_⟩
 .rintro j σ H' m ⟨n,w,x,rfl,N,o,a⟩;have M:(s.X.drop s.at_).length=s.e - s.at_:=by rw[bQ,J]
  refine⟨_,O,b,_,O,o,λc H2 k' hc hx t D=>?_,λy=>?_⟩
  .have A:(s.X.drop s.at_)[j]?=some c:=by rw[lI];exact hx
   refine⟨_,O,_,O,_,_,O,O,_,O,_,_,O,O,.inl ⟨aJ,aJ⟩,_,_,O,O,?_,_,_,O,O,?_⟩
   .show B6 (Builtin.bitAnd (c.toNat:Int) 127) ((7:Int)*(0+(j:Int)));rw[Bk];refine⟨af,af,?_⟩;have h2:c.toNat % 128<128:=Nat.mod_lt _ aJ;omega
   have d:(n:Int)+Builtin.bitAnd (c.toNat:Int) 127*2 ^ ((7:Int)*(0+(j:Int))).toNat=((n+c.toNat % 128*128 ^ j:Nat):Int):=by
    rw[Bk,show(0:Int)+(j:Int)=(j:Int) by omega,FZ]
    push_cast
    rfl
   refine⟨_,O,_,_,O,O,_,O,bS (λy=>?_) λy=>?_⟩
   .have f:c.toNat<128:=af;have C:c.toNat % 128=c.toNat:=pV f;rw[C] at d;have G:aQ b s.pl H H2:=a.trans D
    have bad:(2 ^ 64<=n+c.toNat*128 ^ j∨(c.toNat=0/\0<j))->E 4 (s.at_:Int) H2:=λz=>by
     obtain⟨g,h⟩:=N.bad (p:=s.at_) m A f z;have:=v H2 g t.stream G;rw[h] at this;exact this
    refine⟨_,O,_,_,O,O,_,O,bS (λk=>?_) λk=>?_⟩
    .refine gR ⟨_,O,_,_,O,bad (.inl ?_)⟩
     (try dsimp only at k)
     rw[d] at k;omega
    .refine⟨_,O,O,_,O,?_⟩
     have bO:¬(c.toNat=0/\0<j)->Q (.int ((n:Int)+Builtin.bitAnd (c.toNat:Int) 127*2 ^ ((7:Int)*(0+(j:Int))).toNat)) H2:=λz=>by
      (try dsimp only at k)
      rw[d] at k ⊢;have r:=N.good m A f af z;rw[fv] at r;exact I _ (j+1) H2 r af (by have:=t.le;exact this) af t G
     refine bx (λT=>?_) λT=>?_
     .refine⟨_,O,_,_,O,O,_,O,bS (λhk=>?_) λhk=>?_⟩
      .exact⟨_,O,_,_,O,bad (.inr ⟨af,af⟩)⟩
      .exact⟨_,O,bO af⟩
     .exact vG ⟨_,O,bO af⟩
   .have f:128<=c.toNat:=af;have C:c.toNat % 128=c.toNat - 128:=by have:=c.toNat_lt;omega
    rw[C] at d;refine⟨_,some (.int (0+(j:Int))),some (.int (c.toNat:Int)),?_,N.more m A f,t,a.trans D⟩;rw[<-d];rfl
  .have U:s.at_+j=s.e:=y;obtain⟨g,h⟩:=N.out (p:=s.at_) m (by rw[M];omega);have:=v H' g o.stream a;rw[h,U] at this;exact this
 .rintro σ H' ⟨n,w,x,rfl,N,o,a⟩;obtain⟨g,h⟩:=N.Gz (p:=s.at_);have:=v H' g o.stream a;rw[h] at this;exact⟨_,O,_,_,O,this⟩
inductive GC (CB:Addr)(vs:List V)(H:Hp)(Q:VK)(E:XK):Prop
 | mk b s (_:vs=[.ref b]) (_:bj CB H b s) (_:s.fb) (_:(∀n j H',readVar (s.X.drop s.at_)=some (n,s.X.drop (s.at_+j))->0<j->s.at_+j<=s.e->n<2 ^ 64->bj CB H' b {s with at_:=s.at_+j,ps:=s.ps++[(s.at_:Int)]}->aQ b s.pl H H'->Q (.int (n:Int)) H')) (_:(∀H',readVar (s.X.drop s.at_)=none->e_ CB H' b s.st->aQ b s.pl H H'->E 4 (eo (s.X.drop s.at_) s.at_:Nat) H'))
variable (mw:Fn K mg "read_number" wR ["body"])
variable (fk:aS P w K mg base (bZ P w CF) 7 "read_number" ["body"] (GC CB))
include aM fu iU mw in
theorem Ew:type_of% fk:=by
 refine c0 mw ["body"] ?_;rintro t H vs Q E u f ⟨b,s,rfl,B,L,k,l⟩ v w
 refine⟨_,aj (bU (eW fe hY hZ iW (aw aM (pv 0)) (aB (aw aM (pv 0)))))
  (aj (aZ (d2 (aw aM (pv 0))) (aq (aI (bI fu bw f (aB (pv 0))))) a7)
  (aq (aI (bI iU bw f (aF (pv 0) (aw aM (pv 0))))))),?_⟩
 refine cV ?_
 intros
 obtain⟨dx,a⟩:=B.ins;have x:=B.le;have y:=B.el;have z:=B.cZ;refine⟨_,O,b,dx,_,_,O,a,O,.inl ⟨O,_,ay.of B.bH⟩,_,O,b,dx,_,_,O,a,O,s.pl,_,_,O,O,B.bH,?_,?_⟩
 .rw[aX];have:s.ps.length<=s.at_:=L;exact fG (show s.ps.length<=3000 by omega) aJ
 have g:bj CB (ah H s.pl (.lst (s.ps.map V.int++[V.int (s.at_:Int)]))) b {s with ps:=s.ps++[(s.at_:Int)]}:=
  ⟨⟨dx,by rw[ak B.bp];exact a⟩,by show ah H s.pl _ s.pl=_;rw[au,cj];rfl,by show ah H s.pl _ s.d=_;rw[ak B.ne];exact B.dat,B.ne,B.le,B.el,B.cZ⟩
 obtain⟨h,i⟩:=g.ins;refine⟨_,O,b,h,_,_,O,i,O,_,O,vG ⟨_,O,_,O,b,h,_,_,O,i,O,b,{s with ps:=s.ps++[(s.at_:Int)]},O,g,λn j H' c m o p r e=>?_,λH' c hs e=>?_⟩⟩
 .exact k n j H' c m o p r (aQ.qd.trans e)
 .exact l H' c hs (aQ.qd.trans e)
theorem jR {b:Addr}{l:List Int}{x:Int}(a:σ[0]?=some (some (V.ref b)))(B:bj CB H b s)(e:s.ps=l++[x])(q:Q (.int x) H):
 gw (sM K) (tF CB (c_ 0) "places") (tW (rU λi=>V.int (-i)) (tC (V.int 1))) σ H Q:=by
 obtain⟨dx,c⟩:=B.ins;refine⟨_,a,b,dx,_,_,O,c,O,_,O,s.pl,_,_,_,O,O,ay.of B.bH,?_,q⟩;show f5 (s.ps.map V.int) (-1)=some (V.int x);rw[e,cj];exact ub _ _
noncomputable def rG (CB:Addr)(kind:Nat)(bO:Nat->Bool)(b:Addr)(s:BS)(H:Hp)(Q:Nat->Hp->Prop)(E:XK):Prop:=
 (∀n j H',LwReel.num kind bO ⟨s.X.drop s.at_,s.at_⟩= .ok (n,⟨s.X.drop (s.at_+j),s.at_+j⟩)->bO n=true->0<j->s.at_+j<=s.e->n<2 ^ 64->bj CB H' b {s with at_:=s.at_+j,ps:=s.ps++[(s.at_:Int)]}->aQ b s.pl H H'->Q n H')/\
 (∀(k p:Nat) H',LwReel.num kind bO ⟨s.X.drop s.at_,s.at_⟩= .error (k,p)->e_ CB H' b s.st->aQ b s.pl H H'->E (k:Int) (p:Int) H')
inductive Fq (CB:Addr)(vs:List V)(H:Hp)(Q:VK)(E:XK):Prop
 | mk b s lo hi bO (_:vs=[.ref b,.int lo,.int hi]) (_:bj CB H b s) (_:s.fb) (_:(∀n:Nat,bO n=true↔(lo<=(n:Int)/\(n:Int)<=hi))) (_:rG CB 4 bO b s H (λn H'=>Q (.int (n:Int)) H') E)
variable (lM:Fn K mg "read_within" wF ["body","least","most"])
variable (c6:aS P w K mg base (bZ P w CF) 8 "read_within" ["body","least","most"] (Fq CB))
include ag aM bf fk lM in
theorem Hr:type_of% c6:=by
 refine c0 lM ["body","least","most","value"] ?_;rintro r H vs Q E l g ⟨b,s,lo,hi,bO,rfl,B,L,f,m,h⟩ t u
 refine⟨_,aj (aW 3 l (bI fk bw g (aB (pv 0))))
  (aj (aZ (PW.pt (gp (aY fM (pv 3) (pv 1)) (gu (aY cQ (pv 3) (pv 2)))))
   (aq (d6 bf g bw (aF (aA ag.eQ) (cz cC (aw aM (pv 0)) (eM eK aL) (λ_ _=>rfl))))) a7)
  (aq (aI (pv 3)))),?_⟩
 refine cV ?_
 intros
 refine⟨_,O,b,s,O,B,L,λn j H' a o i p c d=>?_,λH' a hs d=>?_⟩
 .have bad:bO n≠true->E 4 (s.at_:Int) H':=λz=>h 4 s.at_ H' (RM.q7 (s:=⟨s.X.drop s.at_,s.at_⟩) a (by cases e:bO n with | true=>exact absurd e z | false=>rfl)) c.stream d;refine⟨_,O,_,O,_,_,O,O,_,O,bS (λh1=>?_) λh1=>?_⟩
  .exact gR (jR O c O ⟨_,_,O,bad λz=>by have:=(f n).mp z;omega⟩)
  .refine⟨_,O,_,O,_,_,O,O,_,O,bS (λh2=>?_) λh2=>?_⟩
   .exact jR O c O ⟨_,_,O,bad λz=>by have:=(f n).mp z;omega⟩
   .have k:bO n=true:=(f n).mpr ⟨af,af⟩;exact⟨_,O,m n j H' (RM.oY a (by rw[BS.gg B];exact i) k) k o i p c d⟩
 .have:=h 4 (eo (s.X.drop s.at_) s.at_) H' (RM.pK (s:=⟨s.X.drop s.at_,s.at_⟩) a) hs d;exact this
noncomputable def L7:Nat->Bool:=λ_=>true
inductive LY (CB:Addr)(vs:List V)(H:Hp)(Q:VK)(E:XK):Prop
 | mk b s (_:vs=[.ref b]) (_:bj CB H b s) (_:s.fb) (_:rG CB 4 L7 b s H (λn H'=>Q (.int (zag n)) H') E)
theorem q_ (n:Nat):Builtin.bitAnd (n:Int) 1=(n:Int) % 2:=by
 rw[vF];omega
variable (tV:Fn K mg "read_signed" xa ["body"])
variable (l8:aS P w K mg base (bZ P w CF) 8 "read_signed" ["body"] (LY CB))
include fk tV in
theorem Im:type_of% l8:=by
 refine c0 tV ["body","value"] ?_;rintro m H vs Q E e f ⟨b,s,rfl,B,L,g,h⟩ o p
 refine⟨_,aj (aW 1 e (bI fk bw f (aB (pv 0))))
  (aj (aZ (aY bW (aR j6 (pv 1) aL) aL)
   (aq (aI (eM eK (aR Be (aR cJ (pv 1) aL) aL)))) a7)
  (aq (aI (aR Be (pv 1) aL)))),?_⟩
 refine cV ?_
 intros
 refine⟨_,O,b,s,O,B,L,λn j H' a i d k l c=>?_,λH' a hs c=>?_⟩
 .have q:=g n j H' (RM.oY a (by rw[BS.gg B];exact d) O) O i d k l c
  (try dsimp only at q)
  rw[RM.Mt] at q;refine⟨_,O,_,_,O,O,O,_,O,bx (λh1=>?_) λh1=>?_⟩
  .rw[q_] at h1;rw[az h1] at q;exact⟨_,O,_,_,O,O,_,_,O,O,⟨aJ,aJ⟩,_,O,q⟩
  .rw[q_] at h1;rw[ar h1] at q;exact⟨_,O,_,_,O,O,⟨aJ,aJ⟩,q⟩
 .exact h 4 (eo (s.X.drop s.at_) s.at_) H' (RM.pK (s:=⟨s.X.drop s.at_,s.at_⟩) a) hs c
inductive HV (CB:Addr)(vs:List V)(H:Hp)(Q:VK)(E:XK):Prop
 | mk b s (_:vs=[.ref b]) (_:bj CB H b s) (_:(s.at_=s.e->Q .aE H)) (_:(s.at_<s.e->E 4 (s.at_:Int) H))
variable (uw:Fn K mg "expect_end" zh ["body"])
variable (i0:aS P w K mg base (bZ P w CF) 5 "expect_end" ["body"] (HV CB))
include ag aM bf uw in
theorem Iu:type_of% i0:=by
 refine c0 uw ["body"] ?_;rintro f H vs Q E g c ⟨b,s,rfl,B,d,e⟩ h i
 refine⟨_,aq (aZ (aY fM (aw aM (pv 0)) (aw aM (pv 0)))
  (aq (d6 bf c bw (aF (aA ag.eQ) (aw aM (pv 0))))) a7),?_⟩
 obtain⟨dx,a⟩:=B.ins;have:=B.le;refine⟨_,O,b,dx,_,_,O,a,O,_,O,b,dx,_,_,O,a,O,_,_,O,O,_,O,bS (λh1=>?_) λh1=>?_⟩
 .exact⟨_,O,b,dx,_,_,O,a,O,_,_,O,e af⟩
 .exact d af
inductive IF (CB:Addr)(vs:List V)(H:Hp)(Q:VK)(_:XK):Prop
 | mk b s (_:vs=[.ref b]) (_:bj CB H b s) (_:(∀p H',H p=none->H' p=some (.lst (bV (s.X.drop s.at_)))->bj CB H' b {s with at_:=s.e}->aQ b s.pl H H'->Q (.ref p) H'))
theorem DW (b:Bytes)(n:Nat):(bV b).drop n=bV (b.drop n):=by unfold bV;rw[ui]
theorem JU (b:Bytes)(n:Nat):(bV b).take n=bV (b.take n):=by unfold bV;rw[u5]
theorem o9 (h1:i<=j)(h2:j<=b.length):fN (bV b) (some (i:Int)) (some (j:Int))=bV ((b.take j).drop i):=by
 unfold fN;have e1:min i b.length=i:=nQ af;rw[HT.pC,HT.pC,bu,e1,nQ h2,DW,JU,iB]
theorem aQ.new {b p:Addr}(x:aQ b pl H H1)(n:H p=none)(n1:H1 p=none):aQ b pl H (ah H1 p o):=λc a h n2 n3=>by
 rw[ak (by intro z;rw[z,n] at h;cases h)];exact x c a h n2 n3
theorem bj.same {b:Addr}(B:bj CB H b s)(h:∀c o,H c=some o->H' c=some o):bj CB H' b s:=⟨let ⟨dx,z⟩:=B.ins;⟨dx,h _ _ z⟩,h _ _ B.bH,h _ _ B.dat,B.ne,B.le,B.el,B.cZ⟩
theorem a9 {p:Addr}(n:H p=none):∀c a,H c=some a->ah H p o c=some a:=λc a h=>by rw[ak (a6 h n)];exact h
variable (sQ:Fn K mg "read_rest" y6 ["body"])
variable (nu:aS P w K mg base ba 5 "read_rest" ["body"] (IF CB))
include aM sQ in
theorem MT:type_of% nu:=by
 refine bJ sQ ["body","rest"] ?_;rintro k H vs Q E i l ⟨b,s,rfl,B,q⟩ m r
 refine⟨_,aj (aW 1 i (ke j8 (aw aM (pv 0)) (fo (aw aM (pv 0))) (fo (aw aM (pv 0)))))
  (aj (bz aM (pv 0) (aw aM (pv 0))) (aq (aI (pv 1)))),?_⟩
 refine cV ?_
 intros
 obtain⟨dx,c⟩:=B.ins;refine⟨_,O,b,dx,_,_,O,c,O,_,O,b,dx,_,_,O,c,O,_,O,_,O,b,dx,_,_,O,c,O,_,O,s.d,_,O,ay.of B.dat,λp a=>?_⟩;rw[o9 B.le B.el];have g:=B.same (a9 (o:= .lst (bV (s.X.drop s.at_))) a);obtain⟨f,h⟩:=g.ins;refine⟨_,O,b,f,_,_,O,h,O,_,O,b,f,_,O,h,lk,_,O,?_⟩;have j:p≠b:=λz=>by rw[z,c] at a;cases a
 refine q p _ a ?_ (g.setAt (n:=s.e) (bY _) (dx:=f) au aQ.g0) ((aQ.refl.new a a).trans aQ.g0);rw[ak j];exact au
theorem il {b p:Addr}(B:bj CB H' b s)(f:aQ b s.pl H H')(a:H' p=none):H p=none:=by
 cases e:H p with
 | none=>rfl
 | some o=>
  exfalso;by_cases c:p=b
  .obtain⟨dx,z⟩:=B.ins;rw[c,z] at a;cases a
  .by_cases d:p=s.pl
   .have:=B.bH;rw[<-d,a] at this;cases this
   .rw[f p o e c d] at a;cases a
theorem jJ {A B:Hp->Prop}(h:A H):z5 σ H (λb a=>if b=true then A a else B a):=show(if true=true then A H else B H) from gR h
theorem ia {p:Addr}{a:HO}:ah (ah H p o) p a=ah H p a:=by
 funext c;unfold ah;split<;>rfl
theorem FQ (n:Nat):(List.replicate n false).any id=false:=by
 induction n with
 | zero=>rfl
 | succ n a=>rw[List.replicate_succ,kT,a];rfl
inductive Fw (CB:Addr)(vs:List V)(H:Hp)(Q:VK)(E:XK):Prop
 | mk (b:Addr) (s:BS) (c5:Nat) (_:vs=[.ref b,.int (c5:Int)]) (_:bj CB H b s) (_:s.fb) (_:(∀(str:Bytes) a' p H',string c5 ⟨s.X.drop s.at_,s.at_⟩= .ok (str,⟨s.X.drop a',a'⟩)->s.at_<a'->a'<=s.e->str.length<=c5->H p=none->H' p=some (.lst (bV str))->bj CB H' b {s with at_:=a',ps:=s.ps++[(s.at_:Int)]}->aQ b s.pl H H'->Q (.ref p) H')) (_:(∀(k p:Nat) H',string c5 ⟨s.X.drop s.at_,s.at_⟩= .error (k,p)->e_ CB H' b s.st->aQ b s.pl H H'->E (k:Int) (p:Int) H'))
variable (mN:Fn K mg "read_string" pz ["body","most"])
variable (kS:aS P w K mg base (bZ P w CF) 8 "read_string" ["body","most"] (Fw CB))
include ag aM bf fk mN in
theorem MP:type_of% kS:=by
 refine c0 mN ["body","most","size","data","byte"] ?_;rintro j' H vs Q E k t ⟨b,s,c5,rfl,B,L,U,G⟩ k' l'
 refine⟨_,aj (aW 2 k (bI fk bw t (aB (pv 0))))
  (aj (aZ (PW.pt (gp (aY cQ (pv 2) (pv 1)) (gu (aY cQ (pv 2) (aR d_ (aw aM (pv 0)) (aw aM (pv 0)))))))
   (aq (d6 bf t bw (aF (aA ag.eQ) (cz cC (aw aM (pv 0)) (eM eK aL) (λ_ _=>rfl))))) a7)
  (aj (hT aM (pv 0) (pv 2) iQ)
  (aj (aW 3 k (ke j8 (aw aM (pv 0)) (fo (aR d_ (aw aM (pv 0)) (pv 2))) (fo (aw aM (pv 0)))))
  (aj (aZ (d2 (lP (tG O) (by rfl) ag.sO r7 (aB (ov O k (fF (pv 3)) (ib (own:=[("byte",4)]) (show g8 ["body","most","size","data","byte"] (bL pz) _ [("byte",4)]=true by decide+kernel)) (λ_ _ _ _ _=>dc 4 k) (λ_ _ _ _ _=>kb)
   (λ_ _ _ _ _=>hU cQ (pv 4) (aA ag.z6) (hI _))))))
   (aq (d6 bf t bw (aF (aA ag.eQ) (cz cC (aw aM (pv 0)) (eM eK aL) (λ_ _=>rfl))))) a7)
  (aq (aI (pv 3))))))),?_⟩
 refine gA ?_
 intros
 have m':=BS.gg B;refine⟨_,O,b,s,O,B,L,λn j H' l p' q' r' f g=>?_,λH' l hs g=>?_⟩
 .have bad:(c5<n∨s.X.length<s.at_+j+n)->E 4 (s.at_:Int) H':=λz=>G 4 s.at_ H' (RM.M6 l af z) f.stream g;obtain⟨dx,m⟩:=f.ins;refine⟨_,O,_,O,_,_,O,O,_,O,bS (λh1=>?_) λh1=>?_⟩
  .exact gR (jR O f O ⟨_,_,O,bad af⟩)
  .refine⟨_,O,_,O,b,dx,_,_,O,m,O,_,O,b,dx,_,_,O,m,O,_,_,O,O,_,_,O,O,_,O,bS (λh2=>?_) λh2=>?_⟩
   .refine jR O f O ⟨_,_,O,bad (.inr ?_)⟩;have h2:((s.e:Nat):Int) - ((s.at_+j:Nat):Int) < (n:Int):=h2;omega
   .have h2:¬(((s.e:Nat):Int) - ((s.at_+j:Nat):Int) < (n:Int)):=h2;have Y:((s.at_+j:Nat):Int)+(n:Int)=((s.at_+j+n:Nat):Int):=af;have I:=f.setAt (n:=s.at_+j+n) (by show _<=s.e;omega) (dx:=dx) (H':=ah H' b (.ins CB dx (ei {s with at_:=s.at_+j+n,ps:=s.ps++[(s.at_:Int)]}))) au aQ.g0;have u:ah H' b (.ins CB dx (ei {s with at_:=s.at_+j+n,ps:=s.ps++[(s.at_:Int)]})) b=some (.ins CB dx (ei {s with at_:=s.at_+j+n,ps:=s.ps++[(s.at_:Int)]})):=au;refine⟨_,O,b,dx,_,_,O,m,O,_,O,_,_,O,O,dx,_,m,lk,?_⟩;rw[show bM "at" (V.int (((s.at_+j:Nat):Int)+(n:Int))) (ei {s with at_:=s.at_+j,ps:=s.ps++[(s.at_:Int)]})=ei {s with at_:=s.at_+j+n,ps:=s.ps++[(s.at_:Int)]} from by rw[Y];rfl];refine⟨_,O,b,dx,_,_,O,u,O,_,O,b,dx,_,_,O,u,O,_,O,_,_,O,O,_,O,_,O,b,dx,_,_,O,u,O,_,O,s.d,_,O,ay.of I.dat,λp v=>?_⟩;have hi:(((s.at_+j+n:Nat):Int) - (n:Int))=((s.at_+j:Nat):Int):=af
    have b':fN (bV s.bytes) (some (((s.at_+j+n:Nat):Int) - (n:Int))) (some ((s.at_+j+n:Nat):Int))=bV ((s.X.drop (s.at_+j)).take n):=by
     rw[hi,o9 af (by have:=B.el;omega)];unfold BS.X;rw[RM.FI (e:=s.e) af]
    (try dsimp only)
    rw[b'];have J:=I.same (a9 (o:= .lst (bV ((s.X.drop (s.at_+j)).take n))) v)
    have M:H p=none:=by
     cases e:H p with
     | none=>rfl
     | some o=>
      have:ah H' b (.ins CB dx (ei {s with at_:=s.at_+j+n,ps:=s.ps++[(s.at_:Int)]})) p≠none:=by
       by_cases w:p=b
       .rw[w,au];simp
       .by_cases N:p=s.pl
        .rw[N,ak f.bp.symm];have:=f.bH;intro z;rw[show H' s.pl=some _ from this] at z;cases z
        .rw[ak w,g p o e w N];simp
      exact absurd v this
    have T:aQ b s.pl H (ah (ah H' b (.ins CB dx (ei {s with at_:=s.at_+j+n,ps:=s.ps++[(s.at_:Int)]}))) p (.lst (bV ((s.X.drop (s.at_+j)).take n)))):=(g.trans aQ.g0).new M v;generalize e':ah (ah H' b (.ins CB dx (ei {s with at_:=s.at_+j+n,ps:=s.ps++[(s.at_:Int)]}))) p (.lst (bV ((s.X.drop (s.at_+j)).take n)))=x at*;have A:x p=some (.lst (bV ((s.X.drop (s.at_+j)).take n))):=by rw[<-e'];exact au
    generalize C:(s.X.drop (s.at_+j)).take n=str at*
    have u':str.length<=3000:=by
     have:=B.cZ;have:=B.el;rw[<-C,cF,bQ];omega
    refine⟨_,O,p,O,⟨_,ay.of A⟩,λD h=>mT (K:=K) (a:=p) (xs:=bV str) (λi r=>r=ah x D (.lst ((List.replicate i false).map V.bl))) O (λi r _ e=>?_) ?_ ?_⟩
    .rw[e];exact ay.of (a9 h _ _ A)
    .rintro i y r hi rfl;obtain⟨c,hc,rfl⟩:=tU hi;have v':i<str.length:=(List.getElem?_eq_some_iff.mp hc).1;refine⟨O,jJ ⟨_,O,_,_,O,O,_,au,?_,?_⟩⟩
     .rw[aX,pZ];exact fG (show i<=3000 by omega) aJ
     .have w':=c.toNat_lt;have f':decide ((255:Int) < (c.toNat:Int))=false:=dC af;show ah (ah x D _) D (.lst (_++[V.bl (decide ((255:Int) < (c.toNat:Int)))]))=_;rw[f',ia,vp,cj];rfl
    .rintro r rfl;refine⟨D,_,O,ay.of au,?_⟩;rw[FQ];refine⟨_,O,vG ⟨_,O,?_⟩⟩;have i':=J.same (a9 (o:= .lst ((List.replicate (bV str).length false).map V.bl)) h);exact U str (s.at_+j+n) p _ (by rw[<-C];exact RM.M7 l af af af) af af (by rw[<-C,cF];omega) M (a9 h _ _ A) i' (T.new (il J T h) h)
 .exact G 4 (eo (s.X.drop s.at_) s.at_) H' (RM.FY l) hs g
inductive KO (K:Frag)(vs:List V)(H:Hp)(Q:VK)(_:XK):Prop
 | mk (d:Addr) (b:Bytes) (p n:Nat) (_:vs=[.ref d,.int (p:Int),.int (n:Int)]) (_:ay K H d (bV b)) (_:p+n<=b.length) (_:n<=8) (_:Q (.int (ofLe ((b.drop p).take n):Nat)) H)
theorem Lk (a k:Nat):((a:Nat):Int)*2 ^ ((8:Int)*(0+(k:Int))).toNat=((a*256 ^ k:Nat):Int):=by
 have e:((8:Int)*(0+(k:Int))).toNat=8*k:=af;rw[e,q4,vD,tI];rfl
variable (s7:Fn K mg "from_lowest_first" Cg ["data","place","size"])
variable (iG:aS P w K mg base ba 5 "from_lowest_first" ["data","place","size"] (KO K))
include ag s7 in
theorem F1:type_of% iG:=by
 refine bJ s7 ["data","place","size","value","k"] ?_;rintro h H vs Q E a l ⟨d,b,p,n,rfl,hd,m,o,q⟩ r s
 refine⟨_,aj (aW 3 a aL)
  (aj (fc fE O (jT O ag.jK (aB (pv 2))) (dc 4 a)
   (aq (tY (i:=3) a O (Or.inl O) (aR wZ (cz cC (pv 0) (aR cJ (pv 1) (pv 4)) (λ_ _=>rfl)) (aR gW aL (pv 4))) sX)))
  (aq (aI (pv 3)))),?_⟩
 refine cV ?_
 intros
 refine⟨_,O,_,O,af,af,oo (n:=((n:Nat):Int).toNat) (λk σ H'=>H'=H/\∃e,σ=[some (.ref d),some (.int (p:Int)),some (.int (n:Int)),some (.int (ofLe ((b.drop p).take k):Nat)),e]) ⟨O,none,O⟩ ?_ ?_⟩
 .rintro k σ H' hk ⟨rfl,e,rfl⟩;rw[ep] at hk;obtain⟨c,hc⟩:∃c,b[p+k]?=some c:=⟨_,dy af⟩;have f:(b.drop p)[k]?=some c:=by rw[lI];exact hc
  refine⟨_,O,_,O,_,O,_,O,_,_,O,O,d,_,_,_,O,O,hd,f_ (j:=p+k) (by simp) (kY hc),_,O,_,_,O,O,.inl ⟨aJ,aJ⟩,_,_,O,O,?_,_,_,O,O,O,some (.int (0+(k:Int))),?_⟩
  .refine⟨?_,?_,?_⟩
   .show(0:Int)<=8*(0+(k:Int));omega
   .show 8*(0+(k:Int))<=1000000;omega
   .have:=c.toNat_lt;show((c.toNat:Nat):Int).natAbs<2 ^ 64;omega
  .have g:((ofLe ((b.drop p).take k):Nat):Int)+(c.toNat:Int)*2 ^ ((8:Int)*(0+(k:Int))).toNat=((ofLe ((b.drop p).take (k+1)):Nat):Int):=by
    rw[Lk,RM.take_snoc f,RM.zw,cF,bQ,nQ af];omega
   rw[<-g];rfl
 .rintro σ H' ⟨rfl,e,rfl⟩;rw[ep];exact⟨_,O,q⟩
inductive Ei (vs:List V)(H:Hp)(Q:VK)(_:XK):Prop
 | mk (v n:Nat) (_:vs=[.int (v:Int),.int (n:Int)]) (_:n<=8) (_:∀p,H p=none->Q (.ref p) (ah H p (.lst (bV (LwReel.le n v)))))
theorem Ke (v k:Nat):((v:Nat):Int) / 2 ^ ((8:Int)*(0+(k:Int))).toNat=((v / 256 ^ k:Nat):Int):=by
 have e:((8:Int)*(0+(k:Int))).toNat=8*k:=af;rw[e,tI,Int.natCast_ediv,vD];rfl
theorem LO (n:Nat):Builtin.bitAnd (n:Int) 255=((n % 256:Nat):Int):=by
 have:=Bits.pT (x:=(n:Int)) 8 (lC _);simpa using this
variable (vR:Fn K mg "lowest_first" wo ["value","size"])
variable (fq:aS P w K mg base ba 5 "lowest_first" ["value","size"] Ei)
include ag vR in
theorem G_:type_of% fq:=by
 refine bJ vR ["value","size","k"] ?_;rintro d H vs Q E a f ⟨v,n,rfl,g,q⟩ h i
 refine⟨_,aq (aI (ov O a (jT O ag.jK (aB (pv 1))) (ib (own:=[("k",2)]) (show g8 ["value","size","k"] (bL wo) _ [("k",2)]=true by decide+kernel)) (λ_ _ _ _ _=>dc 2 a) (λ_ _ _ _ _=>kb)
  (λ_ _ _ _ _=>aR j6 (aR qK (pv 0) (aR gW aL (pv 2))) aL))),?_⟩
 refine⟨_,O,_,O,af,af,λD b=>vz (n:=((n:Nat):Int).toNat) (λk H'=>H'=ah H D (.lst ((bV (LwReel.le n v)).take k))) O ?_ ?_⟩
 .rintro k H' hk rfl;rw[ep] at hk;refine⟨O,jJ ⟨_,O,_,O,_,_,O,O,.inl ⟨aJ,aJ⟩,_,_,O,O,?_,_,_,O,O,_,au,?_,?_⟩⟩
  .show(0:Int)<=8*(0+(k:Int));omega
  .rw[cF];exact fG (Nat.min_le_left _ _) (fG (show k<=8 by omega) aJ)
  .have c:Builtin.bitAnd (((v:Nat):Int) / 2 ^ ((8:Int)*(0+(k:Int))).toNat) 255=((UInt8.ofNat (v / 256 ^ k % 256)).toNat:Int):=by
    rw[Ke,LO,RM.vc]
   rw[ia];show ah H D (.lst ((bV (LwReel.le n v)).take k++[V.int (Builtin.bitAnd (((v:Nat):Int) / 2 ^ ((8:Int)*(0+(k:Int))).toNat) 255)]))=_;rw[c,RM.take_snoc (kY (RM.zS hk))]
 .rintro H' rfl
  have e:(bV (LwReel.le n v)).take ((n:Nat):Int).toNat=bV (LwReel.le n v):=by
   rw[wM (by rw[bu,fK,ep];exact bY _)]
  rw[e];exact q D b
inductive My (vs:List V)(H:Hp)(Q:VK)(_:XK):Prop
 | mk (z:Int) (_:vs=[.int z]) (_:Q (.int (zig z:Nat)) H)
variable (vj:Fn K mg "signed_form" x_ ["value"])
variable (h4:aS P w K mg base ba 5 "signed_form" ["value"] My)
include vj in
theorem LB:type_of% h4:=by
 refine bJ vj ["value"] ?_;rintro b H vs Q E c d ⟨z,rfl,q⟩ e f;refine⟨_,aj (aZ (aY fM (pv 0) aL) (aq (aI (aR d_ (aR gW (eM eK aL) (pv 0)) aL))) a7) (aq (aI (aR gW aL (pv 0)))),fJ ?_⟩
 intros
 have a:=RM.IS z;refine⟨_,O,_,_,O,O,_,O,bS (λh=>?_) λh=>?_⟩
 .rw[az h] at a;rw[a] at q;exact⟨_,O,_,O,_,_,O,O,.inl ⟨aJ,aJ⟩,_,_,O,O,q⟩
 .rw[ar h] at a;rw[a] at q;exact⟨_,O,_,_,O,O,.inl ⟨aJ,aJ⟩,q⟩
noncomputable def rq (K:Frag)(mg:Str->Option Value)(x:Str)(xs:List V):Prop:=∃a,mg x=some (.ref a)/\∀H,cI K H a xs
inductive Jl (K:Frag)(vs:List V)(H:Hp)(Q:VK)(_:XK):Prop
 | mk (d:Addr) (b:Bytes) (p:Nat) (_:vs=[.ref d,.int (p:Int)]) (_:ay K H d (bV b)) (_:p+8<=b.length) (_:Q (.int (lengthOf (b.drop p):Nat)) H)
variable (sY:Fn K mg "body_length" BV ["data","place"])
variable (ih:aS P w K mg base ba 6 "body_length" ["data","place"] (Jl K))
include iG sY in
theorem Fd:type_of% ih:=by
 refine bJ sY ["data","place"] ?_;rintro c H vs Q E e a ⟨d,b,p,rfl,hd,f,q⟩ g h;refine⟨_,aq (aI (aO iG a (a_ (pv 0) (aF (aR cJ (pv 1) aL) aL)))),_,O,_,O,_,_,O,O,d,b,p+4,4,?_,hd,af,af,?_⟩
 .rfl
 .rw[<-fv];exact q
inductive IB (K:Frag)(vs:List V)(H:Hp)(Q:VK)(_:XK):Prop
 | mk a b (_:vs=[.ref a]) (_:ay K H a (bV b)) (_:∀p,H p=none->Q (.ref p) (ah H p (.lst (bV (crc b)))))
variable (we:Fn K mg "crc_form" yY ["data"])
variable (hz:aS P w K mg base ba 6 "crc_form" ["data"] (IB K))
include ag lU fq we in
theorem Kn:type_of% hz:=by
 refine bJ we ["data"] ?_;rintro d H vs Q E e c ⟨a,b,rfl,ha,q⟩ f g;exact⟨_,aq (aI (aO fq c (aF (aO lU c (aB (pv 0))) (aA ag.kZ)))),_,O,a,b,O,ha,eG b,4,O,aJ,q⟩
inductive FG (K:Frag)(vs:List V)(H:Hp)(Q:VK)(_:XK):Prop
 | mk (d:Addr) (b:Bytes) (p e:Nat) (_:vs=[.ref d,.int (p:Int),.int (e:Int)]) (_:ay K H d (bV b)) (_:p<=e) (_:e+4<=b.length) (_:∀H',ao H H'->Q (.bl (decide (eG ((b.take e).drop p)=ofLe ((b.drop e).take 4)))) H')
noncomputable def bD (b:Bytes):List PyData:=b.map λc=>PyData.int (c.toNat:Int)
theorem pf (H:Hp):∀b:Bytes,kI K H (bV b) (bD b)
 | []=> .nil
 | c::b=> .cons (.int _) (pf H b)
theorem zG:∀b:Bytes,PyData.canLayAll0 (bD b)=true/\PyData.depthAll (bD b)=0
 | []=>⟨by simp[bD,PyData.canLayAll0],by simp[bD,PyData.depthAll]⟩
 | c::b=>by
  obtain⟨h1,h2⟩:=zG b;refine⟨?_,?_⟩
  .show PyData.canLayAll0 (PyData.int _::bD b)=true;simp[PyData.canLayAll0,PyData.canLay0,h1]
  .show PyData.depthAll (PyData.int _::bD b)=0;simp[PyData.depthAll,PyData.depth,h2]
theorem pq (b:Bytes):SeqAt.shaped (.list (bD b))=true:=by
 obtain⟨h1,h2⟩:=zG b;unfold SeqAt.shaped;simp[PyData.canLay0,PyData.depth,h1,h2]
theorem yj:∀a b:Bytes,PyData.eqvAll (bD a) (bD b)=decide (a=b)
 | [],[]=>by simp[bD,PyData.eqvAll]
 | [],c::b=>by simp[bD,PyData.eqvAll]
 | c::a,[]=>by simp[bD,PyData.eqvAll]
 | c::a,d::b=>by
  show PyData.eqvAll (PyData.int _::bD a) (PyData.int _::bD b)=_;rw[eI];simp only[PyData.eqvAll,PyData.eqv,yj a b,cH,fX,dz,r5];have:(c.toNat:Int)=(d.toNat:Int)↔c=d:=⟨λz=>UInt8.toNat_inj.mp af,λz=>by rw[z]⟩;rw[this]
theorem y0 (a b:Bytes):PyData.eqv (.list (bD a)) (.list (bD b))=decide (a=b):=by
 simp only[PyData.eqv,yj]
variable (um:Fn K mg "crc_stands" y2 ["data","place","end"])
variable (h6:aS P w K mg base ba 7 "crc_stands" ["data","place","end"] (FG K))
include ag hz um in
theorem De:type_of% h6:=by
 refine bJ um ["data","place","end"] ?_;rintro m H vs Q E n a ⟨d,b,p,e,rfl,hd,h,r,q⟩ s t;refine⟨_,aq (aI (hU (Gw a.units) (aO hz a (aB (ke j8 (pv 0) (fo (pv 1)) (fo (pv 2))))) (ke j8 (pv 0) (fo (pv 2)) (fo (aR cJ (pv 2) (aA ag.kZ)))) (hI _))),_,O,_,O,_,O,_,O,_,O,d,_,O,hd,λl i=>?_⟩;rw[o9 h af];have sm:ao H (ah H l (.lst (bV ((b.take e).drop p)))):=a9 i;refine⟨l,_,O,ay.of au,λl2 j=>?_⟩;have c:=ao.trans sm (a9 (o:= .lst (bV (crc ((b.take e).drop p)))) j);refine⟨_,O,_,O,_,O,_,O,_,_,O,O,_,O,d,_,O,c.seq hd,λl3 k=>?_⟩;rw[show((e:Int)+4)=((e+4:Nat):Int) by omega,o9 af af];have f:=a9 (o:= .lst (bV ((b.take (e+4)).drop e))) k;refine⟨.list (bD (crc ((b.take e).drop p))),.list (bD ((b.take (e+4)).drop e)),.lst (ay.of (f _ _ au)) (pf _ _),.lst (ay.of au) (pf _ _),pq _,pq _,?_⟩;rw[y0];have e1:(b.take (e+4)).drop e=(b.drop e).take 4:=by rw[iB];congr 1;omega
 have g:=RM.qA (x:=(b.take e).drop p) (bs:=(b.drop e).take 4) (by rw[cF,bQ];omega);rw[RM.rx] at g;have:=q _ (c.trans f);rw[<-g,<-e1] at this;exact this
theorem ff {x:Bool}(h1:x=true->A)(h2:x=false->B):if x=true then A else B:=by
 cases x with
 | true=>rw[az O];exact h1 O
 | false=>rw[ar aJ];exact h2 O
theorem jN {c1:Prop}[Decidable c1]{c:Bool}{A B:Hp->Prop}(S:Hp->Prop)(a:S H)(b:c1->(∀H',S H'->if c=true then A H' else B H')->U)(h:∀H',S H'->if(decide c1&&c)=true then A H' else B H'):
 if decide c1=true then U else(if false=true then A H else B H):=by
 by_cases z:c1
 .rw[az (cR z)];exact b z λH' s=>by have:=h H' s;rw[cR z,fZ] at this;exact this
 .rw[ar (show ¬decide c1=true by simpa using z)];have:=h H a;rw[dC z,nU] at this;exact this
theorem sg (i:Int):∀a:List Int,j0 (V.int i) (a.map V.int)=decide (i∈a)
 | []=>rfl
 | k::a=>by
  have b:=sg i a;unfold j0 at b ⊢;rw[gZ,kT,b,eI];simp only[lV,dz,ed]
  have:hL (V.int k) (V.int i)=true↔i=k:=by
   simp[hL];exact⟨λh=>h.symm,λh=>h.symm⟩
  rw[this]
theorem yQ:∀a:List Int,(a.map V.int).all iF=true
 | []=>rfl
 | k::a=>by
  rw[gZ,nJ,yQ a];rfl
inductive IT (K:Frag)(vs:List V)(H:Hp)(Q:VK)(E:XK):Prop
 | mk (d kt:Addr) (b:Bytes) (p:Nat) (ks:List Int) (al:UInt8->Bool) (_:vs=[.ref d,.int (p:Int),.ref kt]) (_:ay K H d (bV b)) (_:cI K H kt (ks.map V.int)) (_:p<=b.length) (_:b.length<=3000) (_:(∀c:UInt8,al c=decide ((c.toNat:Int)∈ks))) (_:(∀H',opening b p al=none->ao H H'->Q .aE H')) (_:(∀(k q:Nat) H',opening b p al=some (k,q)->ao H H'->E (k:Int) (q:Int) H'))
theorem EE (h:k<3):∃m,LwReel.MARK[k]?=some m/\([V.int 76,V.int 119,V.int 142]:List V)[k]?=some (V.int (m.toNat:Int)):=by
 match k,h with
 | 0,_=>exact⟨0x4C,O,O⟩
 | 1,_=>exact⟨0x77,O,O⟩
 | 2,_=>exact⟨0x8E,O,O⟩
variable (vy:Fn K mg "check_opening" BZ ["data","place","kinds"])
variable (hM:rq K mg "MARK" [.int 76,.int 119,.int 142])
variable (gI:aS P w K mg base (bZ P w CF) 8 "check_opening" ["data","place","kinds"] (IT K))
include ag bf ih h6 vy hM in
theorem IY:type_of% gI:=by
 obtain⟨D,hM,b'⟩:=hM;refine c0 vy ["data","place","kinds","there","k"] ?_;rintro y' H vs Q E G x ⟨d,I,b,p,y,al,rfl,hd,hk,z',A',e',q,i⟩ B' C';have l:=x.mono (show 1<=_ by decide)
 refine⟨_,aj (aW 3 G (aR d_ (bX ag (pv 0)) (pv 1)))
  (aj (fc j5 O (jT O ag.jK (aB (lP (Hj O) (by rfl) ag.Dv PyProof.Rows.boot_min (aF (pv 3) aL)))) (dc 4 G)
   (aq (aZ (aY ky (cz cC (pv 0) (aR cJ (pv 1) (pv 4)) (λ_ _=>rfl)) (cz FP (lr (v:= .ref D) O hM O) (pv 4) (λ_ _=>rfl)))
    (aq (nX bf O l O bw (aF (aA ag.w3) (aR cJ (pv 1) (pv 4))))) a7)))
  (aj (aZ (PW.pt (iY (aY jP (pv 3) aL) (h5 (sI yK (cz cC (pv 0) (aR cJ (pv 1) aL) (λ_ _=>rfl)) (pv 2) (by rfl)))))
   (aq (nX bf O l O bw (aF (aA ag.w3) (aR cJ (pv 1) aL)))) a7)
  (aj (aZ (PW.pt (iY (aY jP (pv 3) aL) (h5 (aY cQ (aO ih x (aF (pv 0) (pv 1))) (aA ag.s9)))))
   (aq (nX bf O l O bw (aF (aA ag.Km) (aR cJ (pv 1) aL)))) a7)
  (aq (aZ (PW.pt (iY (aY jP (pv 3) (aA ag.nj)) (h5 (m7 (d2 (aO h6 x (a_ (pv 0) (aF (pv 1) (aR cJ (pv 1) aL)))))))))
   (aq (nX bf O l O bw (aF (aA ag.Fu) (aR cJ (pv 1) aL)))) a7))))),?_⟩
 refine hJ ?_
 intros
 generalize J:((bV b).length:Int) - (p:Int)=T;have D':T=((b.drop p).length:Nat):=by rw[<-J,bu,bQ];omega
 have E':(b.drop p).length=b.length - p:=bQ;refine⟨_,O,d,_,O,.inl hd,_,O,_,_,O,O,?_⟩;rw[J]
 refine⟨_,O,_,_,O,_,O,?_,?_,oo (n:=(if(3:Int) <T then(3:Int) else T).toNat) (λk σ H'=>H'=H/\(∃A,σ=[some (.ref d),some (.int (p:Int)),some (.ref I),some (.int T),A])/\
  firstWrong LwReel.MARK (b.drop p) p=firstWrong (LwReel.MARK.drop k) ((b.drop p).drop k) (p+k)) ⟨O,⟨none,O⟩,O⟩ ?_ ?_⟩
 .split<;>omega
 .split<;>omega
 .rintro k σ H' f' ⟨rfl,⟨A,rfl⟩,o⟩
  have i':k<3/\k< (b.drop p).length:=by
   split at f'<;>omega
  obtain⟨m,hm,j'⟩:=EE i'.1;obtain⟨c,hc⟩:∃c,b[p+k]?=some c:=⟨_,dy af⟩;have k':(b.drop p)[k]?=some c:=by rw[lI];exact hc
  have r:=RM.EY (p:=p) hm k';refine⟨_,O,_,O,_,O,_,_,O,O,d,_,_,_,O,O,hd,f_ (j:=p+k) (by simp) (kY hc),_,O,D,_,_,_,O,O,b' _,f_ (j:=k) (by simp) j',O,_,O,kq (λa=>?_) λa=>?_⟩
  .have l':¬m=c:=λz=>a (by rw[z]);rw[ar l'] at r;refine⟨_,O,_,O,_,_,O,O,_,_,O,?_⟩;have:=i 1 (p+k) H' (RM.IP (o.trans r)) (ao.refl _);have e:(p:Int)+(0+(k:Int))=((p+k:Nat):Int):=af;show E 1 ((p:Int)+(0+(k:Int))) H';rw[e];exact this
  .have m':m=c:=UInt8.toNat_inj.mp af;rw[az m'] at r;exact⟨O,⟨some (.int (0+(k:Int))),O⟩,o.trans r⟩
 .rintro σ H' ⟨rfl,⟨A,rfl⟩,o⟩
  have s:firstWrong LwReel.MARK (b.drop p) p=none:=by
   rw[o];refine RM.Gg ?_;split<;>omega
  have t:(b.drop p)[3]?=some (cD b p)∨(b.drop p).length<4:=by
   by_cases z:(b.drop p).length<4
   .exact .inr z
   .left;unfold cD;rw[dy af];rfl
  refine⟨_,O,_,_,O,O,_,O,jN (c1:=(4:Int)<=T) (c:=!al (cD b p)) (λH1=>H1=H') O (λp' f=>?_) λH1 e1=>?_⟩
  .have F':(4:Int)<=T:=p';have t:=t.resolve_right af;rw[lI] at t;refine⟨_,O,_,O,_,_,O,O,d,_,_,_,O,O,hd,f_ (j:=p+3) (by simp) (kY t),_,O,I,_,O,.inr hk,O,yQ y,_,O,?_⟩
   have e:(if true=true then !j0 (V.int ((cD b p).toNat:Int)) (y.map V.int) else j0 (V.int ((cD b p).toNat:Int)) (y.map V.int))=!al (cD b p):=by
    rw[az O,sg,e']
   rw[e];exact f _ O
  .subst e1
   have hA:(decide ((4:Int)<=T)&&!al (cD b p))=true↔(4<=(b.drop p).length/\al (cD b p)=false):=by
    rw[cH,cb,rz];exact⟨λz=>⟨af,z.2⟩,λz=>⟨af,z.2⟩⟩
   refine ff (λa=>?_) λa=>?_
   .obtain⟨g,h⟩:=hA.mp a;exact⟨_,O,_,_,O,O,_,_,O,i 1 (p+3) H1 (RM.D5 s g h) (ao.refl _)⟩
   .have C:¬(4<=(b.drop p).length/\al (cD b p)=false):=λz=>by rw[hA.mpr z] at a;cases a
    refine⟨_,O,_,_,O,O,_,O,jN (c1:=(8:Int)<=T) (c:=decide ((600:Int) < (lengthOf (b.drop p):Nat))) (λH2=>H2=H1) O (λq' f=>?_) λH2 r'=>?_⟩
    .have G':(8:Int)<=T:=q';exact⟨_,O,_,O,d,b,p,O,hd,af,_,_,O,O,_,O,f _ O⟩
    .subst r'
     have M:(decide ((8:Int)<=T)&&decide ((600:Int) < (lengthOf (b.drop p):Nat)))=true↔(8<=(b.drop p).length/\MOST<lengthOf (b.drop p)):=by
      rw[cH,cb,cb,show MOST=600 from O];omega
     refine ff (λu=>?_) λu=>?_
     .obtain⟨g,h⟩:=M.mp u;exact⟨_,O,_,_,O,O,_,_,O,i 2 (p+4) H2 (RM.E7 s C g h) (ao.refl _)⟩
     .have N:¬(8<=(b.drop p).length/\MOST<lengthOf (b.drop p)):=λz=>by rw[M.mpr z] at u;cases u
      refine⟨_,O,_,_,O,O,_,O,jN (c1:=(12:Int)<=T) (c:=!RM.kD b p) (ao H2) (ao.refl _) (λu' f=>?_) λU e3=>?_⟩
      .have I':(12:Int)<=T:=u';exact⟨_,O,_,O,_,O,_,_,O,O,d,b,p,p+8,O,hd,af,af,λv' w'=>⟨_,O,f v' w'⟩⟩
      .have Y:(decide ((12:Int)<=T)&&!RM.kD b p)=true↔(12<=(b.drop p).length/\RM.kD b p=false):=by
        rw[cH,cb,rz];exact⟨λz=>⟨af,z.2⟩,λz=>⟨af,z.2⟩⟩
       refine ff (λw=>?_) λw=>?_
       .obtain⟨g,h⟩:=Y.mp w;exact⟨_,O,_,_,O,O,_,_,O,i 3 (p+8) U (RM.HF s C N g h) e3⟩
       .exact q U (RM.Mj s C N λz=>by rw[Y.mpr z] at w;cases w) e3
noncomputable def pj:UInt8->Bool:=λk=>k==PART||k==INDEX
theorem zR (c:UInt8):pj c=decide ((c.toNat:Int)∈([80,73]:List Int)):=by
 unfold pj;rw[eI];simp only[lV,fX,dz,ed,ij,iX];have h1:c=PART↔(c.toNat:Int)=80:=⟨λz=>by rw[z];rfl,λz=>UInt8.toNat_inj.mp (by show c.toNat=80;omega)⟩;have h2:c=INDEX↔(c.toNat:Int)=73:=⟨λz=>by rw[z];rfl,λz=>UInt8.toNat_inj.mp (by show c.toNat=73;omega)⟩;rw[h1,h2]
inductive Ll (K:Frag)(vs:List V)(H:Hp)(Q:VK)(_:XK):Prop
 | mk (d:Addr) (b:Bytes) (p:Nat) (_:vs=[.ref d,.int (p:Int)]) (_:ay K H d (bV b)) (_:p<=b.length) (_:b.length<=3000) (_:∀H',ao H H'->Q (.bl (opening b p pj).isNone) H')
variable (sC:Fn K mg "may_begin" xv ["data","place"])
variable (mD:aS P w K mg base ba 9 "may_begin" ["data","place"] (Ll K))
include ag bf gI sC in
theorem Hk:type_of% mD:=by
 refine bJ sC ["data","place"] ?_;rintro h H vs Q E i a ⟨d,b,p,rfl,hd,c,f,q⟩ j l
 refine⟨_,aj (tJ bf O O O
  (λxe pn ax hx m=>aq (bU (bI gI hx a (a_ (pv 0) (aF (pv 1) (lS (aF (aA ag.qC) (aA ag.oD))))))))
  (λe pn=>aq (aI dN)))
  (aq (aI dN)),?_⟩
 refine fJ ?_
 intros
 refine⟨_,O,_,O,(by show 2<=sizeLine;decide),λt g=>?_⟩;have sm:ao H (ah H t (.tup [.int 80,.int 73])):=a9 g;refine⟨d,t,b,p,[80,73],pj,O,sm.seq hd,cI.of au,c,f,zR,λH' e s=>?_,λk n H' e s=>?_⟩
 .have:=q H' (sm.trans s);rw[e] at this;exact this
 .have:=q H' (sm.trans s);rw[e] at this;exact this
inductive yF (CB:Addr)(vs:List V)(H:Hp)(Q:VK)(_:XK):Prop
 | mk (x dx d:Addr) (p e:Int) (_:vs=[.ref x,.ref d,.int p,.int e]) (_:H x=some (.ins CB dx [])) (_:∀pl H',pl≠x->H pl=none->H' x=some (.ins CB dx [("data",.ref d),("at",.int p),("end",.int e),("plain",.bl false),("places",.ref pl),("stream",.int 0)])->H' pl=some (.lst [])->(∀c o,H c=some o->c≠x->H' c=some o)->Q .aE H')
theorem JQ:c4 ["self","data","place","end"] ["self","data","place","end"] (bL px):=fL
include aM in
theorem KW (F:dB K "__init__" "Body.__init__" px f fd):cP P w K mg base ba 1 f fd ["self","data","place","end"] (yF CB):=by
 refine F.ok (k:=0) JQ (λvs H Q E h=>?_) (λbc A outer s0 H vs Q E l h=>?_)
 .obtain⟨x,dx,d,p,e,rfl,_⟩:=h;rfl
 .obtain⟨x,dx,d,p,e,rfl,hx,q⟩:=h;refine⟨_,aj (bz aM (pv 0) (pv 1)) (aj (bz aM (pv 0) (pv 2)) (aj (bz aM (pv 0) (pv 3)) (aj (bz aM (pv 0) dN) (aj (bz aM (pv 0) (bK fw)) (aq (bz aM (pv 0) aL)))))),gA ?_⟩
  intros
  refine⟨_,O,_,O,x,dx,_,O,hx,lk,_,O,_,O,x,dx,_,O,au,lk,_,O,_,O,x,dx,_,O,au,lk,_,O,x,dx,_,O,au,lk,b3 _,λpl g=>?_⟩;have a:pl≠x:=λz=>by rw[z,au] at g;cases g
  have j:∀{H0:Hp} {o:HO},ah H0 pl o x=H0 x:=λ{H0 o}=>ak a.symm;refine⟨_,O,x,dx,_,O,(by rw[j];exact au),lk,_,O,x,dx,_,O,au,lk,?_⟩
  have i:H pl=none:=by
   rw[ak a,ak a,ak a,ak a] at g;exact g
  refine q pl _ a i au ?_ λc o hc b=>?_
  .rw[ak a,ak a];exact au
  .rw[ak b,ak b,ak (λz=>by rw[z,i] at hc;cases hc),ak b,ak b,ak b,ak b];exact hc
inductive yV (CB:Addr)(vs:List V)(H:Hp)(Q:VK)(_:XK):Prop
 | mk (d:Addr) (b:Bytes) (p:Nat) (_:vs=[.ref d,.int (p:Int)]) (_:H d=some (.lst (bV b))) (_:p<=b.length) (_:b.length<=3000) (_:(((b.drop p).length<12∨(b.drop p).length<16+lengthOf (b.drop p))->Q .aE H)) (_:(12<=(b.drop p).length->16+lengthOf (b.drop p)<=(b.drop p).length->∀bo pl H',H bo=none->H pl=none->bj CB H' bo ⟨d,b,p+12,p+12+lengthOf (b.drop p),pl,[],0⟩->ao H H'->Q (.ref bo) H'))
variable (s_:Fn K mg "whole_body" Ag ["data","place"])
variable (gO:gU P w K mg base 1 "Body" CB ["self","data","place","end"] (yF CB))
variable (iC:aS P w K mg base ba 7 "whole_body" ["data","place"] (yV CB))
include ag ih s_ gO in
theorem JL:type_of% iC:=by
 refine bJ s_ ["data","place","end"] ?_;rintro t H vs Q E j f ⟨d,b,p,rfl,hd,u,k,g,l⟩ v w
 refine⟨_,aj (aZ (aY fM (aR d_ (bX ag (pv 0)) (pv 1)) (aA ag.nj)) (aq (aI gG)) a7)
  (aj (aW 2 j (aR cJ (aR cJ (pv 1) (aA ag.nj)) (aO ih f (aF (pv 0) (pv 1)))))
  (aj (aZ (aY fM (bX ag (pv 0)) (aR cJ (pv 2) (aA ag.kZ))) (aq (aI gG)) a7)
  (aq (aI (dj gO f (a_ (pv 0) (aF (aR cJ (pv 1) (aA ag.nj)) (pv 2)))))))),?_⟩
 refine iT ?_
 intros
 have y:(b.drop p).length=b.length - p:=bQ;have A:=bu b;refine⟨_,O,d,_,O,.inl (ay.of hd),_,O,_,_,O,O,_,_,O,O,_,O,bS (λh1=>?_) λh1=>?_⟩
 .exact g (.inl (by have h1:((bV b).length:Int) - (p:Int) <12:=h1;omega))
 .have h1:¬(((bV b).length:Int) - (p:Int) <12):=h1;refine⟨_,O,_,_,O,O,_,O,_,O,d,b,p,O,ay.of hd,af,_,_,O,O,?_⟩;generalize C:lengthOf (b.drop p)=a at*;refine⟨_,O,d,_,O,.inl (ay.of hd),_,O,_,_,O,O,_,_,O,O,_,O,bS (λh2=>?_) λh2=>?_⟩
  .refine g (.inr ?_);have h2:((bV b).length:Int) < (p:Int)+12+(a:Int)+4:=h2;omega
  .have h2:¬(((bV b).length:Int) < (p:Int)+12+(a:Int)+4):=h2;refine⟨_,O,_,O,_,_,O,O,_,O,λx dx nx h D=>⟨x,dx,d,_,_,O,au,λpl H' m e n r keep=>⟨O,?_⟩⟩⟩
   have i:H pl=none:=by
    rw[ak m] at e;by_cases z:pl=dx
    .rw[z];exact h
    .rw[ak z] at e;exact e
   have sm:ao H H':=λc o hc=>keep c o (by rw[ak (a6 hc nx),ak (a6 hc h)];exact hc) (a6 hc nx);refine l af af x pl H' nx i ⟨⟨dx,?_⟩,r,sm _ _ hd,a6 hd i,by show p+12<=p+12+a;omega,by show p+12+a<=b.length;omega,k⟩ sm;rw[n];have e1:(p:Int)+12=((p+12:Nat):Int):=af;have s:(p:Int)+12+(a:Int)=((p+12+a:Nat):Int):=af;show some (HO.ins CB dx [(("data":Str),V.ref d),("at",V.int ((p:Int)+12)),("end",V.int ((p:Int)+12+(a:Int))),("plain",V.bl false),("places",V.ref pl),("stream",V.int 0)])=_;rw[s,e1];rfl
inductive Nb (CB:Addr)(vs:List V)(H:Hp)(Q:VK)(E:XK):Prop
 | mk (b:Addr) (s:BS) (_:vs=[.ref b]) (_:bj CB H b s) (_:s.e+4<=s.bytes.length) (_:(∀H',eG (s.X.drop s.at_)=ofLe ((s.bytes.drop s.e).take 4)->ao H H'->Q .aE H')) (_:(∀H',eG (s.X.drop s.at_)≠ofLe ((s.bytes.drop s.e).take 4)->ao H H'->E 6 (s.e:Int) H'))
variable (uX:Fn K mg "check_body" yv ["body"])
variable (iw:aS P w K mg base (bZ P w CF) 8 "check_body" ["body"] (Nb CB))
include ag aM bf h6 uX in
theorem CZ:type_of% iw:=by
 refine c0 uX ["body"] ?_;rintro k H vs Q E l f ⟨b,s,rfl,B,g,h,i⟩ m n
 refine⟨_,aq (aZ (m7 (d2 (aO h6 f (a_ (aw aM (pv 0)) (aF (aw aM (pv 0)) (aw aM (pv 0)))))))
  (aq (d6 bf f bw (aF (aA ag.MO) (aw aM (pv 0))))) a7),?_⟩
 obtain⟨dx,a⟩:=B.ins;refine⟨_,O,b,dx,_,_,O,a,O,_,O,b,dx,_,_,O,a,O,_,O,b,dx,_,_,O,a,O,s.d,s.bytes,s.at_,s.e,O,ay.of B.dat,B.le,g,λH' sm=>⟨_,O,?_⟩⟩;have j:(s.bytes.take s.e).drop s.at_=s.X.drop s.at_:=rfl;rw[j];refine kl (λc=>?_) λc=>?_
 .exact⟨_,O,b,dx,_,_,O,sm _ _ a,O,_,_,O,i H' c sm⟩
 .exact h H' c sm
noncomputable def Lc:List Str:=["kind","num","den","name","setup"]
noncomputable def tq (x:LwReel.Stream)(n m:Addr):List (Str×V):=[("kind",.int (x.kind:Int)),("num",.int (x.rate.num:Int)),("den",.int (x.rate.den:Int)),("name",.ref n),("setup",.ref m)]
noncomputable def nT (CS:Addr)(H:Hp)(a:Addr)(x:LwReel.Stream):Prop:=∃dx n m,H a=some (.ins CS dx (tq x n m))/\H n=some (.lst (bV x.name))/\H m=some (.lst (bV x.setup))
noncomputable def g_ (CS:Addr)(H0 H:Hp)(a:Addr)(x:LwReel.Stream):Prop:=∃dx n m,H a=some (.ins CS dx (tq x n m))/\H n=some (.lst (bV x.name))/\H m=some (.lst (bV x.setup))/\H0 a=none/\H0 n=none/\H0 m=none
noncomputable def kB (H0 H H':Hp):Prop:=∀c o,H0 c=none->H c=some o->H' c=some o
theorem g_.keep {x:LwReel.Stream}(h:g_ CS H0 H a x)(k:kB H0 H H'):g_ CS H0 H' a x:=
 let ⟨dx,n,m,h1,h2,e,b,c,d⟩:=h;⟨dx,n,m,k _ _ b h1,k _ _ c h2,k _ _ d e,b,c,d⟩
theorem nT.same {x:LwReel.Stream}(h:nT CS H a x)(k:ao H H'):nT CS H' a x:=let ⟨dx,n,m,h1,h2,b⟩:=h;⟨dx,n,m,k _ _ h1,k _ _ h2,k _ _ b⟩
theorem g_.o_ {x:LwReel.Stream}(h:g_ CS H1 H a x)(k:∀c,H1 c=none->H0 c=none):g_ CS H0 H a x:=
 let ⟨dx,n,m,h1,h2,b,d,e,f⟩:=h;⟨dx,n,m,h1,h2,b,k _ d,k _ e,k _ f⟩
inductive yE (CS:Addr)(vs:List V)(H:Hp)(Q:VK)(_:XK):Prop
 | mk (x dx n m:Addr) (k a b:Int) (_:vs=[.ref x,.int k,.int a,.int b,.ref n,.ref m]) (_:H x=some (.ins CS dx [])) (_:∀H',H' x=some (.ins CS dx [("kind",.int k),("num",.int a),("den",.int b),("name",.ref n),("setup",.ref m)])->(∀c o,H c=some o->c≠x->H' c=some o)->Q .aE H')
theorem G4:c4 ["self","kind","num","den","name","setup"] ["self","kind","num","den","name","setup"] (bL qb):=fL
variable (cO:gi K CS Lc)
include cO in
theorem IX (F:dB K "__init__" "Stream.__init__" qb f fd):cP P w K mg base ba 1 f fd ["self","kind","num","den","name","setup"] (yE CS):=by
 refine F.ok (k:=0) G4 (λvs H Q E h=>?_) (λbc A outer s0 H vs Q E e h=>?_)
 .obtain⟨x,dx,n,m,k,a,b,rfl,_⟩:=h;rfl
 .obtain⟨x,dx,n,m,k,a,b,rfl,hx,q⟩:=h;refine⟨_,aj (bz cO (pv 0) (pv 1)) (aj (bz cO (pv 0) (pv 2)) (aj (bz cO (pv 0) (pv 3)) (aj (bz cO (pv 0) (pv 4)) (aq (bz cO (pv 0) (pv 5)))))),hJ ?_⟩
  intros
  refine⟨_,O,_,O,x,dx,_,O,hx,lk,_,O,_,O,x,dx,_,O,au,lk,_,O,_,O,x,dx,_,O,au,lk,_,O,_,O,x,dx,_,O,au,lk,_,O,_,O,x,dx,_,O,au,lk,q _ au λc o hc d=>?_⟩;rw[ak d,ak d,ak d,ak d,ak d];exact hc
inductive C5 (vs:List V)(H:Hp)(Q:VK)(_:XK):Prop
 | mk (a b:Nat) (_:vs=[.int (a:Int),.int (b:Int)]) (_:Q (.int (Nat.gcd a b:Nat)) H)
variable (sA:Fn K mg "common_divisor" zm ["a","b"])
variable (ic:aS P w K mg base ba 5 "common_divisor" ["a","b"] C5)
include sA in
theorem DZ:type_of% ic:=by
 refine bJ sA ["a","b","rest"] ?_;rintro l H vs Q E d m ⟨a0,b0,rfl,q⟩ n o
 refine⟨_,aj (kJ fE (aY cQ (pv 1) aL)
  (aj (aW 2 d (aR DE (pv 0) (pv 1))) (aj (aW 0 d (pv 1)) (aq (aW 1 d (pv 2))))))
  (aq (aI (pv 0))),?_⟩
 refine fJ ?_
 intros
 refine nO (λσ H'=>H'=H/\∃(a b:Nat) (f:Option V),σ=[some (.int (a:Int)),some (.int (b:Int)),f]/\Nat.gcd a b=Nat.gcd a0 b0) (λσ _=>match σ with | [_,some (.int b),_]=>b.toNat | _=>0) ⟨O,a0,b0,none,O,O⟩ ?_ ?_
 .rintro σ H' ⟨rfl,a,b,f,rfl,e⟩;refine⟨_,O,_,_,O,O,_,O,bS (λc=>?_) λc=>?_⟩
  .have c:(0:Int) < (b:Int):=c;refine⟨_,O,_,O,_,_,O,O,c,_,O,_,O,⟨O,b,a % b,some (.int ((a:Int) % (b:Int))),O,?_⟩,?_⟩
   .rw[<-e,Nat.gcd_comm a b,Nat.gcd_rec b a,Nat.gcd_comm]
   .show((a:Int) % (b:Int)).toNat< ((b:Nat):Int).toNat;have:a % b<b:=Nat.mod_lt _ af;omega
  .have c:¬(0:Int) < (b:Int):=c;have:b=0:=af;subst this;rw[Nat.gcd_zero_right] at e;rw[<-e] at q;exact⟨_,O,q⟩
 .rintro σ H Q Q' i ⟨v,h1,a,b,h2,g,k,h,j⟩;exact⟨v,h1,a,b,h2,g,k,h,i _ _ j⟩
noncomputable def yp (CB:Addr)(f:LwReel.Rd α)(R:Hp->Hp->α->V->Prop)(b:Addr)(s:BS)(H:Hp)(Q:VK)(E:XK):Prop:=
 (∀x a c H' v,f ⟨s.X.drop s.at_,s.at_⟩= .ok (x,⟨s.X.drop a,a⟩)->s.at_<=a->bj CB H' b {s with at_:=a,ps:=c}->c.length<=a->aQ b s.pl H H'->R H H' x v->Q v H')/\
 (∀(k p:Nat) H',f ⟨s.X.drop s.at_,s.at_⟩= .error (k,p)->e_ CB H' b s.st->aQ b s.pl H H'->E (k:Int) (p:Int) H')
noncomputable def Dh (CS:Addr):Hp->Hp->LwReel.Stream->V->Prop:=λH H' x v=>∃a,v= .ref a/\g_ CS H H' a x
inductive Hn (CB CS:Addr)(vs:List V)(H:Hp)(Q:VK)(E:XK):Prop
 | mk b s (_:vs=[.ref b]) (_:bj CB H b s) (_:s.fb) (_:yp CB rStream (Dh CS) b s H Q E)
theorem bC {f:LwReel.Rd α}{s:At}{x:α}(h:f s= .ok (x,t)):andThen f g s=g x t:=by unfold andThen;rw[h]
theorem cB {f:LwReel.Rd α}{s:At}(h:f s= .error e):andThen f g s= .error e:=by unfold andThen;rw[h]
theorem xb {g:Nat->Bool}{s:At}(h:LwReel.num k g s= .ok (n,t))(a:g' n=true):LwReel.num k g' s= .ok (n,t):=by
 unfold LwReel.num at h ⊢
 cases e:readVar s.left with
 | none=>rw[e] at h;simp only at h;split at h<;>cases h
 | some y=>
  obtain⟨m,r⟩:=y;rw[e] at h;simp only at h ⊢;by_cases hm:g m=true
  .rw[az hm] at h;cases h;rw[az a]
  .rw[ar hm] at h;cases h
theorem Bm {g:Nat->Bool}{s:At}(h:LwReel.num k g s= .ok (n,t))(a:g' n=false):LwReel.num k g' s= .error (k,s.place):=by
 unfold LwReel.num at h ⊢
 cases e:readVar s.left with
 | none=>rw[e] at h;simp only at h;split at h<;>cases h
 | some y=>
  obtain⟨m,r⟩:=y;rw[e] at h;simp only at h ⊢;by_cases hm:g m=true
  .rw[az hm] at h;cases h;rw[ar (by rw[a];decide)]
  .rw[ar hm] at h;cases h
theorem BG {g:Nat->Bool}{s:At}(h:LwReel.num 4 g s= .error e)(b:∀n,g' n=true->g n=true):LwReel.num 4 g' s= .error e:=by
 unfold LwReel.num at h ⊢
 cases a:readVar s.left with
 | none=>rw[a] at h;exact h
 | some y=>
  obtain⟨m,r⟩:=y;rw[a] at h;simp only at h ⊢;by_cases hm:g m=true
  .rw[az hm] at h;cases h
  .rw[ar hm] at h;rw[ar (λz=>hm (b m z))];exact h
theorem bj.off {b:Addr}(B:bj CB H b s)(f:aQ b s.pl H H'):kB H H' H'/\∀{H2:Hp},aQ b s.pl H' H2->kB H H' H2:=by
 refine⟨λ_ _ _ h=>h,λ{H2} d c o a hc=>d c o hc ?_ ?_⟩
 .intro z;obtain⟨dx,e⟩:=B.ins;rw[z,e] at a;cases a
 .intro z;rw[z,B.bH] at a;cases a
theorem bj.sV {b:Addr}{s':BS}(B:bj CB H b s)(f:aQ b s.pl H H'){c:Addr}(a:H c=none)(d:aQ b s.pl H' H2)(hc:H' c=some o):H2 c=some o:=(B.off f).2 d c o a hc
abbrev sd:Nat->Bool:=λ(k:Nat)=>decide (1<=k)&&decide (k<2 ^ 32)
variable (nH:Fn K mg "read_stream" AQ ["body"])
variable (jB:gU P w K mg base 1 "Stream" CS ["self","kind","num","den","name","setup"] (yE CS))
variable (mQ:aS P w K mg base (bZ P w CF) 9 "read_stream" ["body"] (Hn CB CS))
include ag aM bf c6 kS ic nH jB in
theorem Dg:type_of% mQ:=by
 refine c0 nH ["body","kind","num","den","name","setup"] ?_;rintro L' H vs Q E l g ⟨b,s,rfl,B,L,l',j⟩ M' N'
 refine⟨_,aj (aW 1 l (bI c6 bw g (a_ (pv 0) (aF aL (aA ag.AU)))))
  (aj (aW 2 l (bI c6 bw g (a_ (pv 0) (aF aL (aA ag.pF)))))
  (aj (aW 3 l (bI c6 bw g (a_ (pv 0) (aF aL (aA ag.pF)))))
  (aj (aZ (aY cQ (aO ic g (aF (pv 2) (pv 3))) aL)
   (aq (d6 bf g bw (aF (aA ag.eQ) (cz cC (aw aM (pv 0)) (eM eK aL) (λ_ _=>rfl))))) a7)
  (aj (aW 4 l (bI kS bw g (aF (pv 0) (aA ag.xj))))
  (aj (aW 5 l (bI kS bw g (aF (pv 0) (aA ag.wG))))
  (aq (aI (dj jB g (a_ (pv 1) (a_ (pv 2) (a_ (pv 3) (aF (pv 4) (pv 5))))))))))))),?_⟩
 refine pk ?_
 intros
 have O':s.ps.length<=s.at_:=L;have P':=BS.gg B;refine⟨_,O,b,s,0,255,(λ(k:Nat)=>decide (k<=255)),O,B,L,(λn=>by rw[cb];omega),λn1 a H1 h R' p1 e1 m1 m' A=>?_,λk p H' he hs f=>j k p H' (cB he) hs f⟩;have h:LwReel.upTo 255 ⟨s.X.drop s.at_,s.at_⟩= .ok (n1,⟨s.X.drop (s.at_+a),s.at_+a⟩):=h;refine⟨_,O,b,_,1,4294967295,sd,O,m',?_,(λn=>by rw[cH,cb,cb];omega),λn2 d H2 i p' p2 S' m2 q' N=>?_,λk p H' he hs f=>j k p H' (by unfold rStream;rw[bC h];exact cB he) hs (A.trans f)⟩
 .show(s.ps++[(s.at_:Int)]).length<=s.at_+a;rw[aP];simp only[bA,cn];omega
 have i:LwReel.num 4 (λ(k:Nat)=>decide (1<=k)&&decide (k<2 ^ 32)) ⟨s.X.drop (s.at_+a),s.at_+a⟩= .ok (n2,⟨s.X.drop (s.at_+a+d),s.at_+a+d⟩):=i
 refine⟨_,O,b,_,1,4294967295,sd,O,q',?_,(λn=>by rw[cH,cb,cb];omega),λn3 e T r r' p3 e3 m3 t u'=>?_,λk p H' he hs f=>j k p H' (by
  unfold rStream;rw[bC h,bC i]
  exact cB (BG he λn C=>by
   rw[cH,cH] at C;show(decide (1<=n)&&decide (n<2 ^ 32))=true
   rw[C.1,C.2.1];rfl)) hs ((A.trans N).trans f)⟩
 .show(s.ps++[(s.at_:Int)]++[((s.at_+a:Nat):Int)]).length<=s.at_+a+d;rw[aP,aP];simp only[bA,cn];omega
 have r:LwReel.num 4 sd ⟨s.X.drop (s.at_+a+d),s.at_+a+d⟩= .ok (n3,⟨s.X.drop (s.at_+a+d+e),s.at_+a+d+e⟩):=r;have u:aQ b s.pl H T:=(A.trans N).trans u'
 have T':1<=n2:=by
  have:=(cH _ _▸p':_/\_).1;exact dS this
 have v:decide (1<=n3)=true/\decide (n3<2 ^ 32)=true:=by
  have z:(decide (1<=n3)&&decide (n3<2 ^ 32))=true:=r';rw[cH] at z;exact z
 refine⟨_,O,_,O,n2,n3,O,_,_,O,O,_,O,bS (λhd=>?_) λhd=>?_⟩
 .have hd:(1:Int) < ((Nat.gcd n2 n3:Nat):Int):=hd;refine jR O t O ⟨_,_,O,j 4 (s.at_+a+d) T ?_ t.stream u⟩;unfold rStream;rw[bC h,bC i];refine cB (Bm r ?_);rw[v.1,v.2,fZ,fZ];exact dC af
 have hd:¬(1:Int) < ((Nat.gcd n2 n3:Nat):Int):=hd
 have v':Nat.gcd n2 n3=1:=by
  have:0<Nat.gcd n2 n3:=zC _ af;omega
 have D:LwReel.num 4 (λ(k:Nat)=>decide (1<=k)&&(decide (k<2 ^ 32)&&decide (Nat.gcd n2 k=1))) ⟨s.X.drop (s.at_+a+d),s.at_+a+d⟩= .ok (n3,⟨s.X.drop (s.at_+a+d+e),s.at_+a+d+e⟩):=
  xb r (by rw[v.1,v.2,cR v'];rfl)
 have w':(s.ps++[(s.at_:Int)]++[((s.at_+a:Nat):Int)]++[((s.at_+a+d:Nat):Int)]).length<=s.at_+a+d+e:=by
  rw[aP,aP,aP];simp only[bA,cn];omega
 refine⟨_,O,b,_,16,O,t,w',λG a4 l1 y' w U U' V' z' A' Y B'=>?_,λk p H' he hs f=>j k p H' (by
  unfold rStream;rw[bC h,bC i,bC D]
  exact cB he) hs (u.trans f)⟩
 have w:string NAME ⟨s.X.drop (s.at_+a+d+e),s.at_+a+d+e⟩= .ok (G,⟨s.X.drop a4,a4⟩):=w;have y:aQ b s.pl H y':=u.trans B';have b':H l1=none:=il t u z';have U:s.at_+a+d+e<a4:=U
 have C':(s.ps++[(s.at_:Int)]++[((s.at_+a:Nat):Int)]++[((s.at_+a+d:Nat):Int)]++[((s.at_+a+d+e:Nat):Int)]).length<=a4:=by
  rw[aP];simp only[bA,cn];omega
 refine⟨_,O,b,_,40,O,Y,C',λe' m l2 I J f' W' X' D' E' i' j'=>?_,λk p H' he hs f=>j k p H' (by
  unfold rStream;rw[bC h,bC i,bC D,bC w]
  exact cB he) hs (y.trans f)⟩
 have J:string SETUP ⟨s.X.drop a4,a4⟩= .ok (e',⟨s.X.drop m,m⟩):=J;have k':aQ b s.pl H I:=y.trans j';have F':H l2=none:=il Y y D';have f':a4<m:=f';have G':I l1=some (.lst (bV G)):=B.sV (s':=s) y b' j' A';refine⟨_,O,_,O,_,O,_,O,_,O,λx dx nx I' Y'=>⟨x,dx,l1,l2,_,_,_,O,au,λM hx keep=>⟨O,?_⟩⟩⟩;have sm:ao I M:=ao.made nx I' keep;have J':aQ b s.pl H M:=λc o hc n1 n2=>sm c o (k' c o hc n1 n2);have K':H x=none:=il i' k' nx;refine l' ⟨n1,⟨n2,n3⟩,G,e'⟩ m _ M (.ref x) ?_ af (i'.same sm) ?_ J' ⟨x,O,dx,l1,l2,hx,sm _ _ G',sm _ _ E',K',b',F'⟩
 .unfold rStream;rw[bC h,bC i,bC D,bC w,bC J];rfl
 .show(s.ps++[(s.at_:Int)]++[((s.at_+a:Nat):Int)]++[((s.at_+a+d:Nat):Int)]++[((s.at_+a+d+e:Nat):Int)]++[((a4:Nat):Int)]).length<=m;rw[aP];simp only[bA,cn];omega
noncomputable def jM (CS:Addr)(H0 H:Hp)(l:Addr)(ss:List LwReel.Stream):Prop:=∃as:List Addr,H l=some (.lst (as.map V.ref))/\H0 l=none/\as.length=ss.length/\∀(i:Nat) (a:Addr) (x:LwReel.Stream),as[i]?=some a->ss[i]?=some x->g_ CS H0 H a x
noncomputable def EM (CS:Addr):Hp->Hp->List LwReel.Stream->V->Prop:=λH H' ss v=>∃l,v= .ref l/\jM CS H H' l ss
inductive K_ (CB CS:Addr)(vs:List V)(H:Hp)(Q:VK)(E:XK):Prop
 | mk b s (_:vs=[.ref b]) (_:bj CB H b s) (_:s.fb) (_:yp CB rHead (EM CS) b s H Q E)
theorem Aa {X:Bytes}{a:Nat}(h:a<=X.length):LwReel.finish ⟨X.drop a,a⟩=if a=X.length then .ok ((),⟨X.drop a,a⟩) else .error (4,a):=by
 unfold LwReel.finish;by_cases z:a=X.length
 .rw[az z,az (by simp[z])]
 .rw[ar z,ar];simp only[vQ,List.drop_eq_nil_iff];omega
theorem bj.jV {b D:Addr}(B:bj CB H b s)(h1:D≠b)(h2:D≠s.pl)(a:D≠s.d):bj CB (ah H D o) b s:=
 ⟨let ⟨dx,h⟩:=B.ins;⟨dx,by rw[ak h1.symm];exact h⟩,by rw[ak h2.symm];exact B.bH,by rw[ak a.symm];exact B.dat,B.ne,B.le,B.el,B.cZ⟩
variable (r_:Fn K mg "read_head" rL ["body"])
variable (ir:aS P w K mg base (bZ P w CF) 10 "read_head" ["body"] (K_ CB CS))
include ag c6 i0 mQ r_ in
theorem Ju:type_of% ir:=by
 refine c0 r_ ["body","count","streams","k"] ?_;rintro X' H vs Q E j' M ⟨b,s,rfl,B,L,F',N⟩ Y' Z'
 refine⟨_,aj (bU (bI c6 bw M (a_ (pv 0) (aF (aA ag.wg) (aA ag.wg)))))
  (aj (aW 1 j' (bI c6 bw M (a_ (pv 0) (aF aL (aA ag.BR)))))
  (aj (Ai (i:=2) zp O j' O O (qh O O O O) (jT O ag.jK (aB (pv 1))) (ib (own:=[("k",3)]) (show g8 ["body","count","streams","k"] (bL rL) _ [("k",3)]=true by decide+kernel))
   (λ_ _ _ _ _=>dc 3 j') (λ_ _ _ _ _=>kb) (λ_ _ _ _ _ _ hx=>bI mQ hx M (aB (pv 0))))
  (aj (bU (bI i0 bw M (aB (pv 0))))
  (aq (aI (pv 2)))))),?_⟩
 refine hJ ?_
 intros
 have _a:s.ps.length<=s.at_:=L;have _b:=BS.gg B;refine⟨_,O,b,s,1,1,(λ(k:Nat)=>k==1),O,B,L,(λn=>by rw[fX];omega),λn1 f H1 m _c p1 e1 m1 G' u'=>?_,λk p H' he hs w=>N k p H' (cB he) hs w⟩;have m:LwReel.num 4 (λ(k:Nat)=>k==1) ⟨s.X.drop s.at_,s.at_⟩= .ok (n1,⟨s.X.drop (s.at_+f),s.at_+f⟩):=m;refine⟨_,O,b,_,1,4,(λ(k:Nat)=>decide (1<=k)&&decide (k<=STREAMS)),O,G',?_,(λn=>by rw[cH,cb,cb,show STREAMS=4 from O];omega),λn2 l H2 y v' p2 _d m2 w' I'=>?_,λk p H' he hs w=>N k p H' (by unfold rHead;rw[bC m];exact cB he) hs (u'.trans w)⟩
 .show(s.ps++[(s.at_:Int)]).length<=s.at_+f;rw[aP];simp only[bA,cn];omega
 have y:LwReel.num 4 (λ(k:Nat)=>decide (1<=k)&&decide (k<=STREAMS)) ⟨s.X.drop (s.at_+f),s.at_+f⟩= .ok (n2,⟨s.X.drop (s.at_+f+l),s.at_+f+l⟩):=y
 have J':n2<=4:=by
  rw[cH] at v';exact dS v'.2
 have T:aQ b s.pl H H2:=u'.trans I'
 have K':(s.ps++[(s.at_:Int)]++[((s.at_+f:Nat):Int)]).length<=s.at_+f+l:=by
  rw[aP,aP];simp only[bA,cn];omega
 generalize L':({s with at_:=s.at_+f+l,ps:=s.ps++[(s.at_:Int)]++[((s.at_+f:Nat):Int)]}:BS)=_e at w';have g:bj CB H2 b {s with at_:=s.at_+f+l,ps:=s.ps++[(s.at_:Int)]++[((s.at_+f:Nat):Int)]}:=by rw[L'];exact w'
 refine⟨_,O,_,O,af,af,λD r=>?_⟩;have y':D≠b:=λz=>by obtain⟨dx,A⟩:=g.ins;rw[z,A] at r;cases r
 have z':D≠s.pl:=λz=>by have:=g.bH;rw[<-z,r] at this;cases this
 have M':D≠s.d:=λz=>by have:=g.dat;rw[<-z,r] at this;cases this
 have U:H D=none:=il g T r;have C:ao H2 (ah H2 D (.lst [])):=a9 r
 refine vz (n:=((n2:Nat):Int).toNat) (λk H'=>∃(as:List Addr) (done:List LwReel.Stream) (a:Nat) (ps:List Int),H' D=some (.lst (as.map V.ref))/\as.length=k/\done.length=k/\bj CB H' b {s with at_:=a,ps:=ps}/\ps.length<=a/\s.at_<=a/\
  RM.eZ rStream n2 k done ⟨s.X.drop (s.at_+f+l),s.at_+f+l⟩ ⟨s.X.drop a,a⟩/\(∀(i:Nat) (c:Addr) (x:LwReel.Stream),as[i]?=some c->done[i]?=some x->g_ CS (ah H2 D (.lst [])) H' c x)/\∀c o,(ah H2 D (.lst [])) c=some o->c≠b->c≠s.pl->c≠D->H' c=some o)
  ⟨[],[],_,_,au,O,O,g.same C,K',af,RM.eZ.start,λi c x h=>by simp at h,λc o h _ _ _=>h⟩ ?_ ?_
 .rintro k H' hk ⟨as,done,a,ps,Y,t,b',j,k',l',G,m',I⟩;rw[ep] at hk;have e':aQ b s.pl H H':=λc o hc n1 n2=>I c o (C c o (T c o hc n1 n2)) n1 n2 (a6 hc U);refine⟨O,jJ ⟨_,O,b,_,O,j,k',λx p' N' u v q' O' P' R' r' S'=>?_,λkk p u he hs w=>N kk p u ?_ hs (e'.trans w)⟩⟩
  .obtain⟨c,rfl,T'⟩:=S';have U':u D=some (.lst (as.map V.ref)):=r' _ _ Y y' z';have q':rStream ⟨s.X.drop a,a⟩= .ok (x,⟨s.X.drop p',p'⟩):=q'
   have V':∀c,H' c=none->(ah H2 D (.lst [])) c=none:=λc hc=>by
    cases e:(ah H2 D (.lst [])) c with
    | none=>rfl
    | some o=>
     exfalso;by_cases A':c=b
     .obtain⟨dx,A⟩:=j.ins;rw[A',A] at hc;cases hc
     .by_cases B':c=s.pl
      .have:=j.bH;rw[<-B',hc] at this;cases this
      .by_cases C':c=D
       .rw[C',Y] at hc;cases hc
       .rw[I c o e A' B' C'] at hc;cases hc
   have off:∀{c:Addr},(ah H2 D (.lst [])) c=none->c≠b/\c≠s.pl/\c≠D:=λ{c} hc=>by
    refine⟨λz=>?_,λz=>?_,λz=>?_⟩
    .obtain⟨dx,A⟩:=(g.same C).ins;rw[z,A] at hc;cases hc
    .have:=(g.same C).bH;rw[<-z,hc] at this;cases this
    .rw[z,au] at hc;cases hc
   have k1:kB (ah H2 D (.lst [])) H' u:=λc o f' hc=>r' c o hc (off f').1 (off f').2.1;have k2:kB (ah H2 D (.lst [])) u (ah u D (.lst (as.map V.ref++[V.ref c]))):=λc o f' hc=>by rw[ak (off f').2.2];exact hc
   refine⟨_,U',?_,as++[c],done++[x],p',N',?_,?_,?_,P'.jV y' z' M',R',bB l' O',G.step hk q',λi c' W' h1 h2=>?_,λc' o h n1 n2 n3=>?_⟩
   .rw[aX,t];exact cc hk (bB J' aJ)
   .rw[au,cj];rfl
   .rw[aP,t];rfl
   .rw[aP,b'];rfl
   .by_cases hi:i<k
    .rw[k9 af] at h1 h2;exact((m' i c' W' h1 h2).keep k1).keep k2
    .rw[qw af] at h1 h2
     have D':i - k=0:=by
      have:=(List.getElem?_eq_some_iff.mp h1).1;simp only[bA,cn,t] at this;omega
     rw[t,D'] at h1;rw[b',D'] at h2;cases h1;cases h2;exact(T'.o_ V').keep k2
   .rw[ak n3];exact r' c' o (I c' o h n1 n2 n3) n1 n2
  .unfold rHead;rw[bC m,bC y];exact cB (G.err hk he)
 .rintro H' ⟨as,done,a,ps,Y,t,b',j,k',l',G,m',I⟩;rw[ep] at t b' G;have e':aQ b s.pl H H':=λc o hc n1 n2=>I c o (C c o (T c o hc n1 n2)) n1 n2 (a6 hc U);have _f:a<=s.e:=j.le;have E':=G.all;have i':=Aa (X:=s.X) (a:=a) af;refine⟨_,O,b,_,O,j,λJ=>?_,λJ=>?_⟩
  .have J:a=s.e:=J;rw[az af] at i';refine⟨_,O,F' done a ps H' (.ref D) ?_ l' j k' e' ⟨D,O,as,Y,U,af,λi c x h1 h2=>(m' i c x h1 h2).o_ λc hc=>?_⟩⟩
   .unfold rHead;rw[bC m,bC y,bC E',bC i'];rfl
   .by_cases z:c=D
    .rw[z];exact U
    .rw[ak z] at hc;exact il g T hc
  .have J:a<s.e:=J;rw[ar af] at i';refine N 4 a H' ?_ j.stream e';unfold rHead;rw[bC m,bC y,bC E'];exact cB i'
noncomputable def Ea:List Str:=["stream","time","length","flags","data","size","place"]
noncomputable def cW (st tm ln fl:Int)(dl:Addr)(sz pl:Int):List (Str×V):=[("stream",.int st),("time",.int tm),("length",.int ln),("flags",.int fl),("data",.ref dl),("size",.int sz),("place",.int pl)]
inductive wH (K:Frag)(CP:Addr)(vs:List V)(H:Hp)(Q:VK)(_:XK):Prop
 | mk (x dx dl:Addr) (st tm ln fl:Int) (xs:List V) (_:vs=[.ref x,.int st,.int tm,.int ln,.int fl,.ref dl]) (_:H x=some (.ins CP dx [])) (_:H dl=some (.lst xs)) (_:∀H',H' x=some (.ins CP dx (cW st tm ln fl dl (xs.length:Int) 0))->(∀c o,H c=some o->c≠x->H' c=some o)->Q .aE H')
theorem HJ:c4 ["self","stream","time","length","flags","data"] ["self","stream","time","length","flags","data"] (bL qQ):=fL
variable (bh:gi K CP Ea)
include ag bh in
theorem L0 (F:dB K "__init__" "Part.__init__" qQ f fd):cP P w K mg base ba 1 f fd ["self","stream","time","length","flags","data"] (wH K CP):=by
 refine F.ok (k:=0) HJ (λvs H Q E h=>?_) (λbc A outer s0 H vs Q E e h=>?_)
 .obtain⟨x,dx,dl,st,tm,ln,fl,xs,rfl,_⟩:=h;rfl
 .obtain⟨x,dx,dl,st,tm,ln,fl,xs,rfl,hx,d,q⟩:=h;refine⟨_,aj (bz bh (pv 0) (pv 1)) (aj (bz bh (pv 0) (pv 2)) (aj (bz bh (pv 0) (pv 3)) (aj (bz bh (pv 0) (pv 4)) (aj (bz bh (pv 0) (pv 5)) (aj (bz bh (pv 0) (bX ag (pv 5))) (aq (bz bh (pv 0) aL))))))),pk ?_⟩
  intros
  have b:dl≠x:=λz=>by rw[z,hx] at d;cases d
  refine⟨_,O,_,O,x,dx,_,O,hx,lk,_,O,_,O,x,dx,_,O,au,lk,_,O,_,O,x,dx,_,O,au,lk,_,O,_,O,x,dx,_,O,au,lk,_,O,_,O,x,dx,_,O,au,lk,_,O,dl,_,O,.inl (ay.of (xs:=xs) (by rw[ak b,ak b,ak b,ak b,ak b];exact d)),_,O,x,dx,_,O,au,lk,_,O,x,dx,_,O,au,lk,q _ au λc o hc a=>?_⟩;rw[ak a,ak a,ak a,ak a,ak a,ak a,ak a];exact hc
noncomputable def JS:List Str:=["streams","parts"]
noncomputable def gd (ls lp:Addr):List (Str×V):=[("streams",.ref ls),("parts",.ref lp)]
inductive rY (CL:Addr)(vs:List V)(H:Hp)(Q:VK)(_:XK):Prop
 | mk (x dx ls:Addr) (_:vs=[.ref x,.ref ls]) (_:H x=some (.ins CL dx [])) (_:∀lp H',lp≠x->H lp=none->H' x=some (.ins CL dx (gd ls lp))->H' lp=some (.lst [])->(∀c o,H c=some o->c≠x->H' c=some o)->Q .aE H')
theorem IC:c4 ["self","streams"] ["self","streams"] (bL pI):=fL
variable (bG:gi K CL JS)
include bG in
theorem Io (F:dB K "__init__" "Reel.__init__" pI f fd):cP P w K mg base ba 1 f fd ["self","streams"] (rY CL):=by
 refine F.ok (k:=0) IC (λvs H Q E h=>?_) (λbc A outer s0 H vs Q E g h=>?_)
 .obtain⟨x,dx,ls,rfl,_⟩:=h;rfl
 .obtain⟨x,dx,ls,rfl,hx,q⟩:=h;refine⟨_,aj (bz bG (pv 0) (pv 1)) (aq (bz bG (pv 0) (bK fw))),fJ ?_⟩
  intros
  refine⟨_,O,_,O,x,dx,_,O,hx,lk,b3 _,λlp a=>?_⟩;have b:lp≠x:=λz=>by rw[z,au] at a;cases a
  refine⟨_,O,x,dx,_,O,(by rw[ak b.symm];exact au),lk,?_⟩;have d:H lp=none:=by rw[ak b] at a;exact a
  refine q lp _ b d au ?_ λc o hc e=>?_
  .rw[ak b];exact au
  .rw[ak e,ak (λz=>by rw[z,d] at hc;cases hc),ak e];exact hc
inductive I5 (CB:Addr)(vs:List V)(H:Hp)(Q:VK)(E:XK):Prop
 | mk (b:Addr) (s:BS) (bf:Int) (bO:Nat->Bool) (_:vs=[.ref b,.int bf]) (_:bj CB H b s) (_:s.fb) (_:(∀n,bO n=okTime (zag n+bf))) (_:rG CB 4 bO b s H (λn H'=>Q (.int (zag n+bf)) H') E)
theorem kr:okTime z=true↔(-1125899906842624<z/\z<=1125899906842624):=by
 unfold okTime;rw[cH,cb,cb];constructor<;>intro h<;>exact⟨by have:=h.1;omega,by have:=h.2;omega⟩
variable (wy:Fn K mg "read_time" Cm ["body","before"])
variable (iL:aS P w K mg base (bZ P w CF) 9 "read_time" ["body","before"] (I5 CB))
include ag aM bf l8 wy in
theorem Ej:type_of% iL:=by
 refine c0 wy ["body","before","time"] ?_;rintro x H vs Q E m g ⟨b,s,a,bO,rfl,B,L,o,r,h⟩ y A
 refine⟨_,aj (aW 2 m (aR cJ (pv 1) (bI l8 bw g (aB (pv 0)))))
  (aj (aZ (PW.pt (gp (aY uI (pv 2) (eM eK (aA ag.yW))) (gu (aY cQ (pv 2) (aA ag.yW)))))
   (aq (d6 bf g bw (aF (aA ag.eQ) (cz cC (aw aM (pv 0)) (eM eK aL) (λ_ _=>rfl))))) a7)
  (aq (aI (pv 2)))),?_⟩
 refine cV ?_
 intros
 refine⟨_,O,_,O,b,s,O,B,L,λn j H' i C t u v c d=>?_,λk p H' he hs d=>?_⟩
 .have bad:bO n=false->E 4 (s.at_:Int) H':=λz=>h 4 s.at_ H' (Bm i z) c.stream d;have w:a+zag n=zag n+a:=Int.add_comm _ _;have e:=o n;have f:=kr (z:=zag n+a);refine⟨_,_,O,O,_,O,_,O,_,_,O,O,_,O,bS (λh1=>?_) λh1=>?_⟩
  .have h1:a+zag n<= -1125899906842624:=h1;exact gR (jR O c O ⟨_,_,O,bad (by rw[e,oH];intro z;have:=f.mp z;omega)⟩)
  .have h1:¬(a+zag n<= -1125899906842624):=h1;refine⟨_,O,_,_,O,O,_,O,bS (λh2=>?_) λh2=>?_⟩
   .have h2:1125899906842624<a+zag n:=h2;exact jR O c O ⟨_,_,O,bad (by rw[e,oH];intro z;have:=f.mp z;omega)⟩
   .have h2:¬(1125899906842624<a+zag n):=h2;have l:bO n=true:=by rw[e];exact f.mpr ⟨af,af⟩
    have:=r n j H' (xb i l) l t u v c d;refine⟨_,O,?_⟩;show Q (.int (a+zag n)) H';rw[w];exact this
 .exact h k p H' (BG he λn _=>rfl) hs d
noncomputable def I4 (CP:Addr)(H0 H:Hp)(a:Addr)(p:LwReel.Part)(fl pl:Int):Prop:=∃dx dl,H a=some (.ins CP dx (cW (p.stream:Int) p.time (p.lasts:Int) fl dl (p.bytes.length:Int) pl))/\H dl=some (.lst (bV p.bytes))/\H0 a=none/\H0 dl=none/\a≠dl
noncomputable def j4 (n:Nat)(left:Bytes):Int:=match LwReel.run (LwReel.num 4 λ(k:Nat)=>decide (k<n)) left 0 with
 | .ok k=>(k:Int)
 | .error _=>0
inductive HS (K:Frag)(CB CP:Addr)(vs:List V)(H:Hp)(Q:VK)(E:XK):Prop
 | mk (b l:Addr) (s:BS) (xs:List V) (_:vs=[.ref b,.ref l]) (_:bj CB H b s) (_:ay K H l xs) (_:l≠b) (_:l≠s.pl) (_:1<=xs.length) (_:xs.length<=4) (_:s.ps=[]) (_:s.st=0) (_:(∀(p:LwReel.Part) (x0 x1 x2 x3:Nat) (a:Addr) H',rPart xs.length ⟨s.X.drop s.at_,s.at_⟩= .ok ((p,[x0,x1,x3,x3]),⟨[],s.at_+(s.X.drop s.at_).length⟩)->p.stream<xs.length->p.flags<=3->okTime p.time=true->p.bytes.length<=s.X.length->bj CB H' b {s with at_:=s.e,ps:=[(x0:Int),(x1:Int),(x2:Int),(x3:Int)],st:=(p.stream:Int)}->I4 CP H H' a p (p.flags:Int) 0->(p.stream:Int)=j4 xs.length (s.X.drop s.at_)->aQ b s.pl H H'->Q (.ref a) H')) (_:(∀(k q:Nat) H',rPart xs.length ⟨s.X.drop s.at_,s.at_⟩= .error (k,q)->e_ CB H' b (j4 xs.length (s.X.drop s.at_))->aQ b s.pl H H'->E (k:Int) (q:Int) H'))
theorem Kd (h:LwReel.num k bO ⟨L,p⟩= .ok (n,t)):∃t',LwReel.num k bO ⟨L,q⟩= .ok (n,t'):=by
 unfold LwReel.num at h ⊢
 cases e:readVar L with
 | none=>simp only[e] at h;split at h<;>cases h
 | some y=>
  obtain⟨m,r⟩:=y;simp only[e] at h ⊢;by_cases hm:bO m=true
  .rw[az hm] at h ⊢;cases h;exact⟨_,O⟩
  .rw[ar hm] at h;cases h
theorem II (h:LwReel.num k bO ⟨L,p⟩= .error e):∃b,LwReel.num k bO ⟨L,q⟩= .error b:=by
 unfold LwReel.num at h ⊢
 cases a:readVar L with
 | none=>simp only[a];split<;>exact⟨_,O⟩
 | some y=>
  obtain⟨m,r⟩:=y;simp only[a] at h ⊢;by_cases hm:bO m=true
  .rw[az hm] at h;cases h
  .rw[ar hm];exact⟨_,O⟩
theorem Lb (h:LwReel.num 4 (λ(k:Nat)=>decide (k<n)) ⟨L,p⟩= .ok (k,t)):j4 n L=(k:Int):=by
 obtain⟨t',h'⟩:=Kd (q:=0) h;unfold j4 LwReel.run;rw[h']
theorem J0 (h:LwReel.num 4 (λ(k:Nat)=>decide (k<n)) ⟨L,p⟩= .error e):j4 n L=0:=by
 obtain⟨t',h'⟩:=II (q:=0) h;unfold j4 LwReel.run;rw[h']
theorem bj.G1 {b:Addr}(B:bj CB H b s)(st:Int)(a:H b=some (.ins CB dx (ei s))):bj CB (ah H b (.ins CB dx (bM "stream" (.int st) (ei s)))) b {s with st:=st}:=
 ⟨⟨dx,au⟩,by rw[ak B.bp.symm];exact B.bH,by rw[ak B.bd.symm];exact B.dat,B.ne,B.le,B.el,B.cZ⟩
theorem m_ {g:Nat->LwReel.Rd β}{s:At}:andThen here g s=g s.place s:=(O)
variable (uD:Fn K mg "read_part" xX ["body","streams"])
variable (gX:gU P w K mg base 1 "Part" CP ["self","stream","time","length","flags","data"] (wH K CP))
variable (iJ:aS P w K mg base (bZ P w CF) 10 "read_part" ["body","streams"] (HS K CB CP))
include ag aM c6 nu iL uD gX in
theorem Gq:type_of% iJ:=by
 refine c0 uD ["body","streams","stream","time","length","flags"] ?_;rintro N' H vs Q E y i ⟨b,l,s,xs,rfl,B,m',O',P',R',S',j,p',q',A⟩ T' U'
 refine⟨_,aj (aW 2 y (bI c6 bw i (a_ (pv 0) (aF aL (aR d_ (bX ag (pv 1)) aL)))))
  (aj (bz aM (pv 0) (pv 2))
  (aj (aW 3 y (bI iL bw i (aF (pv 0) aL)))
  (aj (aW 4 y (bI c6 bw i (a_ (pv 0) (aF aL (aA ag.yB)))))
  (aj (aW 5 y (bI c6 bw i (a_ (pv 0) (aF aL (aA ag.zM)))))
  (aq (aI (dj gX i (a_ (pv 2) (a_ (pv 3) (a_ (pv 4) (aF (pv 5) (aO nu i (aB (pv 0)))))))))))))),?_⟩
 refine gA ?_
 intros
 have V':=BS.gg B;have L:s.fb:=by unfold BS.fb;rw[j];exact b3 _
 have m:∀t,rPart xs.length t=andThen (LwReel.num 4 λ(k:Nat)=>decide (k<xs.length)) (λ(s:Nat)=>andThen here λ(b:Nat)=>
  andThen (LwReel.num 4 okZig) λ(tm:Nat)=>andThen (LwReel.upTo (2 ^ 32 - 1)) λ(l:Nat)=>andThen here λ(c:Nat)=>
  andThen (LwReel.upTo 3) λ(f:Nat)=>λ(x:At)=> .ok ((⟨s,zag tm,l,f,x.left⟩,[t.place,b,c,c]),⟨[],x.place+x.left.length⟩)) t:=λt=>rfl
 refine⟨_,O,_,O,l,_,O,.inl m',_,_,O,O,b,s,0,(xs.length:Int) - 1,(λ(k:Nat)=>decide (k<xs.length)),O,B,L,(λn=>by rw[cb];omega),λn1 a H1 r r' p1 e1 m1 M u'=>?_,λk p H' he hs h=>A k p H' (by rw[m];exact cB he) (by rw[J0 he,<-p'];exact hs) h⟩;have v':n1<xs.length:=dS r';have C:=Lb r;obtain⟨G,N⟩:=M.ins;have T:=M.G1 (n1:Int) N;refine⟨_,O,_,O,b,G,_,O,N,lk,?_⟩;have I:aQ b s.pl H (ah H1 b (.ins CB G (bM "stream" (.int (n1:Int)) (ei {s with at_:=s.at_+a,ps:=s.ps++[(s.at_:Int)]})))):=u'.trans aQ.g0;generalize W':ah H1 b (.ins CB G (bM "stream" (.int (n1:Int)) (ei {s with at_:=s.at_+a,ps:=s.ps++[(s.at_:Int)]})))=X' at T I;refine⟨_,O,b,_,0,okZig,O,T,?_,(λn=>by unfold okZig;rw[Int.add_zero]),λn2 d H2 u w' p2 Y' m2 y' z'=>?_,λk p H' he hs h=>A k p H' (by rw[m,bC r,m_];exact cB he) (by rw[C];exact hs) (I.trans h)⟩
 .show(s.ps++[(s.at_:Int)]).length<=s.at_+a;rw[aP,j];simp only[bA,cn];omega
 have U:aQ b s.pl H H2:=I.trans z';have u:LwReel.num 4 okZig ⟨s.X.drop (s.at_+a),s.at_+a⟩= .ok (n2,⟨s.X.drop (s.at_+a+d),s.at_+a+d⟩):=u;refine⟨_,O,b,_,0,4294967295,(λ(k:Nat)=>decide (k<=2 ^ 32 - 1)),O,y',?_,(λn=>by rw[cb];omega),λn3 g A' D Z' p3 e3 m3 B' C'=>?_,λk p H' he hs h=>A k p H' (by rw[m,bC r,m_,bC u];exact cB he) (by rw[C];exact hs) (U.trans h)⟩
 .show(s.ps++[(s.at_:Int)]++[((s.at_+a:Nat):Int)]).length<=s.at_+a+d;rw[aP,aP,j];simp only[bA,cn];omega
 have Y:aQ b s.pl H A':=U.trans C';have D:LwReel.upTo (2 ^ 32 - 1) ⟨s.X.drop (s.at_+a+d),s.at_+a+d⟩= .ok (n3,⟨s.X.drop (s.at_+a+d+g),s.at_+a+d+g⟩):=D;refine⟨_,O,b,_,0,3,(λ(k:Nat)=>decide (k<=3)),O,B',?_,(λn=>by rw[cb];omega),λn4 v D' J E' p4 e4 _a b' F'=>?_,λk p H' he hs h=>A k p H' (by rw[m,bC r,m_,bC u,bC D,m_];exact cB he) (by rw[C];exact hs) (Y.trans h)⟩
 .show(s.ps++[(s.at_:Int)]++[((s.at_+a:Nat):Int)]++[((s.at_+a+d:Nat):Int)]).length<=s.at_+a+d+g;rw[aP,aP,aP,j];simp only[bA,cn];omega
 have e':aQ b s.pl H D':=Y.trans F';have J:LwReel.upTo 3 ⟨s.X.drop (s.at_+a+d+g),s.at_+a+d+g⟩= .ok (n4,⟨s.X.drop (s.at_+a+d+g+v),s.at_+a+d+g+v⟩):=J;have e4:s.at_+a+d+g+v<=s.e:=e4;refine⟨_,O,_,O,_,O,_,O,_,O,b,_,O,b',λp f' G' w i' I'=>?_⟩;have J':H p=none:=il b' e' G';have j':aQ b s.pl H f':=e'.trans I';refine λx dx nx k' _b=>⟨x,dx,p,_,_,_,_,bV (s.X.drop (s.at_+a+d+g+v)),O,au,?_,λK' hx keep=>⟨O,?_⟩⟩
 .rw[ak (a6 w nx),ak (a6 w k')];exact w
 have sm:ao f' K':=ao.made nx k' keep;have l':=i'.same sm;have L':H x=none:=il i' j' nx;have M':x≠p:=λz=>by rw[z,w] at nx;cases nx
 refine q' ⟨n1,zag n2,n3,n4,s.X.drop (s.at_+a+d+g+v)⟩ s.at_ (s.at_+a) (s.at_+a+d) (s.at_+a+d+g) x _ ?_ v' (dS E') (by have:okTime (zag n2)=true:=w';exact this) (by show(s.X.drop _).length<=_;rw[bQ];omega) ?_ ?_ C.symm ?_
 .rw[m,bC r,m_,bC u,bC D,m_,bC J];simp only[bQ];congr 3;omega
 .rw[j] at l';exact l'
 .refine⟨dx,p,?_,sm _ _ w,L',J',M'⟩;rw[hx,Int.add_zero,bu]
 .exact λc o hc n1 n2=>sm c o (j' c o hc n1 n2)
noncomputable def dD (CP:Addr)(H:Hp)(a:Addr)(x:Info):Prop:=∃dx dl,H a=some (.ins CP dx (cW (x.stream:Int) x.time (x.lasts:Int) (x.flags:Int) dl (x.size:Int) (x.place:Int)))
noncomputable def mJ (CP:Addr)(H:Hp)(l:Addr)(ps:List (Addr×Info)):Prop:=H l=some (.lst (ps.map λp=>V.ref p.1))/\∀p∈ps,dD CP H p.1 p.2
noncomputable def hN (CS:Addr)(H:Hp)(l:Addr)(ss:List LwReel.Stream):Prop:=∃as:List Addr,H l=some (.lst (as.map V.ref))/\as.length=ss.length/\∀(i:Nat) (a:Addr) (x:LwReel.Stream),as[i]?=some a->ss[i]?=some x->nT CS H a x
theorem dD.same {x:Info}(h:dD CP H a x)(k:ao H H'):dD CP H' a x:=let ⟨dx,dl,h1⟩:=h;⟨dx,dl,k _ _ h1⟩
theorem mJ.same {CP:Addr}{H H':Hp}{l:Addr}{ps:List (Addr×Info)}(h:mJ CP H l ps)(k:ao H H'):mJ CP H' l ps:=⟨k _ _ h.1,λp a=>(h.2 p a).same k⟩
theorem hN.same {CS:Addr}{H H':Hp}{l:Addr}{ss:List LwReel.Stream}(h:hN CS H l ss)(k:ao H H'):hN CS H' l ss:=let ⟨as,h1,h2,b⟩:=h;⟨as,k _ _ h1,h2,λi a x e1 c=>(b i a x e1 c).same k⟩
noncomputable def fO (CL CS CP:Addr)(H:Hp)(r:Addr)(ss:List LwReel.Stream)(ps:List (Addr×Info)):Prop:=∃dr ls lp,H r=some (.ins CL dr (gd ls lp))/\hN CS H ls ss/\mJ CP H lp ps
theorem fO.same {CL CS CP:Addr}{H H':Hp}{r:Addr}{ss:List LwReel.Stream}{ps:List (Addr×Info)}(h:fO CL CS CP H r ss ps)(k:ao H H'):fO CL CS CP H' r ss ps:=let ⟨dr,ls,lp,h1,h2,a⟩:=h;⟨dr,ls,lp,k _ _ h1,h2.same k,a.same k⟩
structure hD (n:Nat)(x:Info):Prop where
 st:x.stream<n
 tm: -1125899906842624<x.time/\x.time<=1125899906842624
 fl:x.flags<256
structure qL (ss:List LwReel.Stream):Prop where
 num:∀s∈ss,s.rate.num<2 ^ 32
 den:∀s∈ss,s.rate.den<2 ^ 32
noncomputable def lA (ss:List LwReel.Stream)(stream:Nat)(time:Int)(x:Info):Bool:=
 let a (k:Nat):Rate:=((ss[k]?).map LwReel.Stream.rate).getD ⟨1,1⟩
 decide (time*(a stream).num*(a x.stream).den+10*((a stream).den*(a x.stream).den:Nat) <x.time*(a x.stream).num*(a stream).den)
inductive I1 (CS CP:Addr)(vs:List V)(H:Hp)(Q:VK)(_:XK):Prop
 | mk (ls a c:Addr) (ss:List LwReel.Stream) (x y:Info) (_:vs=[.ref ls,.ref a,.ref c]) (_:hN CS H ls ss) (_:qL ss) (_:dD CP H a x) (_:dD CP H c y) (_:hD ss.length x) (_:hD ss.length y) (_:Q (.bl (lA ss x.stream x.time y)) H)
theorem hN.get {H:Hp}{l:Addr}{ss:List LwReel.Stream}(h:hN CS H l ss){k:Nat}(hk:k<ss.length):∃(as:List Addr) (a:Addr) (x:LwReel.Stream),H l=some (.lst (as.map V.ref))/\(as.map V.ref)[k]?=some (V.ref a)/\ss[k]?=some x/\x∈ss/\nT CS H a x:=by
 obtain⟨as,h1,h2,c⟩:=h;have e1:as[k]?=some (as[k]'af):=dy _;have b:ss[k]?=some (ss[k]'hk):=dy _;exact⟨as,_,_,h1,by rw[dk,e1];rfl,b,List.getElem_mem _,c k _ _ e1 b⟩
variable (vX:Fn K mg "is_too_early" xl ["streams","part","before"])
variable (nz:aS P w K mg base ba 5 "is_too_early" ["streams","part","before"] (I1 CS CP))
include ag cO bh vX in
theorem Hs:type_of% nz:=by
 refine bJ vX ["streams","part","before","rate","rate_before","time","time_before"] ?_;rintro t H vs Q E f u ⟨ls,a,c,ss,x,y,rfl,j,g,hx,hy,k,l,q⟩ v w
 refine⟨_,aj (aW 3 f (cz cC (pv 0) (aw bh (pv 1)) (λ_ _=>rfl)))
  (aj (aW 4 f (cz cC (pv 0) (aw bh (pv 2)) (λ_ _=>rfl)))
  (aj (aW 5 f (aR gW (aR gW (aw bh (pv 1)) (aw cO (pv 3))) (aw cO (pv 4))))
  (aj (aW 6 f (aR gW (aR gW (aw bh (pv 2)) (aw cO (pv 4))) (aw cO (pv 3))))
  (aq (aI (hU cQ (aR d_ (pv 6) (pv 5)) (aR gW (aR gW (aA ag.En) (aw cO (pv 3))) (aw cO (pv 4))) (hI _))))))),?_⟩
 refine hJ ?_
 intros
 obtain⟨dx,dl,ex⟩:=hx;obtain⟨m,z,n⟩:=hy;obtain⟨as,a1,b,l1,o,p,m1,h,n1,A,t1,_⟩:=j.get k.st;obtain⟨C,a2,d,l2,r,s,m2,i,n2,D,t2,_⟩:=j.get l.st;have b1:=g.num b m1;have b2:=g.den b m1;have G:=g.num d m2;have I:=g.den d m2;have J:=k.tm;have ty:=l.tm;refine⟨_,O,_,O,a,dx,_,_,O,ex,O,ls,_,_,_,O,O,ay.of l1,gf o,_,O,_,O,c,m,_,_,O,n,O,ls,_,_,_,O,O,ay.of l2,gf r,_,O,a,dx,_,_,O,ex,O,_,O,a1,h,_,_,O,t1,O,_,_,O,O,.inl ⟨af,af⟩,_,O,a2,i,_,_,O,t2,O,_,_,O,O,.inr ⟨af,af⟩,_,O,c,m,_,_,O,n,O,_,O,a2,i,_,_,O,t2,O,_,_,O,O,.inl ⟨af,af⟩,_,O,a1,h,_,_,O,t1,O,_,_,O,O,.inr ⟨af,af⟩,_,O,_,O,_,_,O,O,_,O,a1,h,_,_,O,t1,O,_,_,O,O,.inl ⟨aJ,aJ⟩,_,O,a2,i,_,_,O,t2,O,_,_,O,O,.inr ⟨af,af⟩,_,_,O,O,?_⟩
 have e:lA ss x.stream x.time y=decide ((10:Int)*(b.rate.den:Int)*(d.rate.den:Int) <y.time*(d.rate.num:Int)*(b.rate.den:Int) - x.time*(b.rate.num:Int)*(d.rate.den:Int)):=by
  unfold lA;simp only[p,s,pO,Option.getD_some];rw[oO,q4,<-Int.mul_assoc];omega
 rw[e] at q;exact q
noncomputable def hB (o:Option Nat):Int:=match o with
 | some i=>(i:Int)
 | none=> -1
inductive LI (CL CS CP:Addr)(vs:List V)(H:Hp)(Q:VK)(_:XK):Prop
 | mk (r a:Addr) (ss:List LwReel.Stream) (ps:List (Addr×Info)) (x:Info) (_:vs=[.ref r,.ref a]) (_:fO CL CS CP H r ss ps) (_:qL ss) (_:(∀p∈ps,hD ss.length p.2)) (_:ps.length<=1000) (_:dD CP H a x) (_:hD ss.length x) (_:∀H',ao H H'->Q (.int (hB (disorder ss (ps.map (·.2)) x.stream x.time x.flags))) H')
theorem Dc {f:Nat}(h:f<256):(0<Builtin.bitAnd (f:Int) 2)↔ends f=true:=by
 have:=(by decide+kernel:∀g:Fin 256,decide (0<Builtin.bitAnd ((g.val:Nat):Int) 2)=ends g.val) ⟨f,h⟩;rw[<-this,cb]
theorem BU {stream:Nat}:disorder ss aK stream time flags=
 if aK.any (λ(x:Info)=>x.stream==stream&&ends x.flags)=true then some 0
 else if(match lastOf aK stream with | some x=>decide (time<x.time) | none=>false)=true then some 1
 else if(match aK.getLast? with | some x=>lA ss stream time x | none=>false)=true then some 1
 else if(lastOf aK stream).isNone=true/\isKey flags=false then some 3 else none:=(O)
abbrev ownOf (ps:List (Addr×Info))(s:Nat):List (Addr×Info):=ps.filter λp=>p.2.stream==s
theorem D7 (ps:List (Addr×Info))(s:Nat):(ownOf ps s).map (·.2)=(ps.map (·.2)).filter λ(x:Info)=>x.stream==s:=by
 unfold ownOf;rw[List.filter_map];rfl
theorem MM (ps:List (Addr×Info))(s:Nat):lastOf (ps.map (·.2)) s=(ownOf ps s).getLast?.map (·.2):=by
 unfold lastOf;rw[<-D7,qU]
theorem JD (ps:List (Addr×Info))(s:Nat):(ps.map (·.2)).any (λ(x:Info)=>x.stream==s&&ends x.flags)=(ownOf ps s).any λp=>ends p.2.flags:=by
 unfold ownOf;rw[oK,List.any_filter];rfl
theorem rK {l:List α}{v:α}(f:α->V)(h:l.getLast?=some v):f5 (l.map f) (-1)=some (f v):=by
 obtain⟨r,e⟩:∃r,l=r++[v]:=by
  obtain⟨a,e⟩:=List.getLast?_eq_some_iff.mp h;exact⟨_,e⟩
 rw[e,cj];exact ub _ _
variable (sb:Fn K mg "wrong_in_order" vr ["reel","part"])
variable (gm:aS P w K mg base ba 6 "wrong_in_order" ["reel","part"] (LI CL CS CP))
include ag bh bG nz sb in
theorem MV:type_of% gm:=by
 refine bJ sb ["reel","part","own","other"] ?_;rintro p' H vs Q E t b' ⟨r,a,ss,ps,x,rfl,e',f',J,q',hx,i',q⟩ r' u';obtain⟨dr,ls,lp,n,j',g⟩:=e'
 refine⟨_,aj (yD (i:=2) O t O O (qh O O O O) (fF (aw bG (pv 0))) (ib (own:=[("other",3)]) (show g8 ["reel","part","own","other"] (bL vr) _ [("other",3)]=true by decide+kernel))
  (λ_ _ _ _ _=>dc 3 t) (λ_ _ _ _ _=>Dq (aY bW (aw bh (pv 3)) (aw bh (pv 1)))) (λ_ _ _ _ _=>pv 3))
  (aj (fc fE O (fF (pv 2)) (dc 3 t)
   (aq (aZ (aY cQ (aR j6 (aw bh (pv 3)) (aA ag.C1)) aL) (aq (aI (aA ag.LU))) a7)))
  (aj (aZ (PW.pt (iY (aY cQ (bX ag (pv 2)) aL) (h5 (aY fM (aw bh (pv 1)) (aw bh (cz cC (pv 2) (eM eK aL) (λ_ _=>rfl)))))))
   (aq (aI (aA ag.B9))) a7)
  (aj (aZ (PW.pt (iY (aY cQ (bX ag (aw bG (pv 0))) aL) (h5 (d2 (aO nz b' (a_ (aw bG (pv 0)) (aF (pv 1) (cz cC (aw bG (pv 0)) (eM eK aL) (λ_ _=>rfl)))))))))
   (aq (aI (aA ag.B9))) a7)
  (aj (aZ (PW.pt (iY (aY bW (bX ag (pv 2)) aL) (h5 (aY bW (aR j6 (aw bh (pv 1)) (aA ag.zQ)) aL))))
   (aq (aI (aA ag.MJ))) a7)
  (aq (aI (aA ag.qS))))))),?_⟩
 refine gA ?_
 intros
 obtain⟨dx,dl,ex⟩:=id hx;refine⟨_,O,r,dr,_,_,O,n,O,lp,O,⟨_,ay.of g.1⟩,λD u=>mT (K:=K) (a:=lp) (xs:=ps.map λp=>V.ref p.1) (λi H'=>H'=ah H D (.lst ((ownOf (ps.take i) x.stream).map λp=>V.ref p.1))) O (λi H' _ e=>?_) ?_ ?_⟩
 .rw[e];exact ay.of (a9 u _ _ g.1)
 .rintro i y H' hy rfl;rw[dk] at hy;obtain⟨p,b,rfl⟩:=Option.map_eq_some_iff.mp hy;have sm:ao H (ah H D (.lst ((ownOf (ps.take i) x.stream).map λp=>V.ref p.1))):=a9 u;obtain⟨dp,M,m⟩:=(g.2 p (fx b)).same sm;refine⟨O,_,O,p.1,dp,_,_,O,m,O,_,O,a,dx,_,_,O,sm _ _ ex,O,O,_,O,bx (λf=>?_) λf=>?_⟩
  .have v:(p.2.stream==x.stream)=true:=by rw[fX];omega
   refine⟨_,O,_,au,?_,?_⟩
   .rw[aX];refine fG (bB (List.length_filter_le _ _) ?_) (show 1000<sizeLine by decide);rw[cF];omega
   .rw[ia,RM.take_snoc b];unfold ownOf;rw[p9,cj,qj,az v];rfl
  .have v:¬(p.2.stream==x.stream)=true:=by rw[fX];omega
   rw[RM.take_snoc b];unfold ownOf;rw[p9,qj,ar v,uy,et]
 rintro H' rfl;rw[aX,gM];have sm:ao H (ah H D (.lst ((ownOf ps x.stream).map λp=>V.ref p.1))):=a9 u;have j:ah H D (.lst ((ownOf ps x.stream).map λp=>V.ref p.1)) D=some (.lst ((ownOf ps x.stream).map λp=>V.ref p.1)):=au;generalize ah H D (.lst ((ownOf ps x.stream).map λp=>V.ref p.1))=H1 at sm j;have d:=q H1 sm;rw[BU,JD,MM] at d;have N:=sm _ _ ex;have w:∀p∈ownOf ps x.stream,p∈ps:=λp b=>(List.mem_filter.mp b).1
 refine⟨_,O,D,O,⟨_,ay.of j⟩,kg (K:=K) (a:=D) (xs:=(ownOf ps x.stream).map λp=>V.ref p.1) (λi σ H'=>H'=H1/\(∃A,σ=[some (.ref r),some (.ref a),some (.ref D),A])/\∀p∈(ownOf ps x.stream).take i,ends p.2.flags=false)
  ⟨O,⟨none,O⟩,λp b=>by simp at b⟩ (λi σ H' _ e=>by rw[e.1];exact ay.of j) ?_ ?_⟩
 .rintro i y σ H' hy ⟨rfl,⟨A,rfl⟩,o⟩;rw[dk] at hy;obtain⟨p,b,rfl⟩:=Option.map_eq_some_iff.mp hy;have k:=fx b;obtain⟨dp,M,m⟩:=(g.2 p (w p k)).same sm;have a2:=Dc (J p (w p k)).fl;refine⟨_,O,p.1,dp,_,_,O,m,O,_,_,O,O,_,_,O,O,_,O,bS (λf=>?_) λf=>?_⟩
  .have:(ownOf ps x.stream).any (λp=>ends p.2.flags)=true:=List.any_eq_true.mpr ⟨p,k,a2.mp f⟩;rw[az this] at d;exact d
  .refine⟨O,⟨some (.ref p.1),O⟩,λk' T=>?_⟩;rw[RM.take_snoc b] at T;rcases List.mem_append.mp T with h | h
   .exact o k' h
   .rw[List.mem_singleton.mp h,oH];exact λz=>f (a2.mpr z)
 .rintro σ H' ⟨rfl,⟨A,rfl⟩,o⟩;rw[aX,gM] at o
  have l':¬(ownOf ps x.stream).any (λp=>ends p.2.flags)=true:=λz=>by
   obtain⟨p,b,e⟩:=List.any_eq_true.mp z;rw[o p b] at e;cases e
  rw[ar l'] at d;have U:((ownOf ps x.stream).map λp=>V.ref p.1).length=(ownOf ps x.stream).length:=aX ..;refine⟨_,O,D,_,O,.inl (ay.of j),_,_,O,O,_,O,?_⟩;rw[U];refine jN (c1:=(0:Int) < ((ownOf ps x.stream).length:Int)) (c:=match(ownOf ps x.stream).getLast?.map (·.2) with | some y=>decide (x.time<y.time) | none=>false) (λH2=>H2=H') O (λl hk=>?_) λH2 C=>?_
  .obtain⟨p,b⟩:∃p,(ownOf ps x.stream).getLast?=some p:=by
    cases e:(ownOf ps x.stream).getLast? with
    | none=>rw[qZ] at e;rw[e] at l;simp at l
    | some p=>exact⟨p,O⟩
   obtain⟨dp,M,m⟩:=(g.2 p (w p (mc b))).same sm;rw[b] at hk;exact⟨_,O,a,dx,_,_,O,N,O,_,O,_,O,D,_,_,_,O,O,ay.of j,rK (λp=>V.ref p.1) b,p.1,dp,_,_,O,m,O,_,_,O,O,_,O,hk _ O⟩
  subst C
  have e1:(decide ((0:Int) < ((ownOf ps x.stream).length:Int))&&(match(ownOf ps x.stream).getLast?.map (·.2) with | some y=>decide (x.time<y.time) | none=>false))=(match(ownOf ps x.stream).getLast?.map (·.2) with | some y=>decide (x.time<y.time) | none=>false):=by
   cases e:(ownOf ps x.stream).getLast? with
   | none=>simp
   | some p=>
    have:0< (ownOf ps x.stream).length:=Cq (mc e);rw[cR af,fZ]
  rw[e1];refine ff (λf=>?_) λf=>?_
  .rw[az f] at d;exact d
  rw[ar (by rw[f];decide)] at d;refine⟨_,O,r,dr,_,_,O,sm _ _ n,O,lp,_,O,.inl (ay.of (sm _ _ g.1)),_,_,O,O,_,O,?_⟩;rw[aX];refine jN (c1:=(0:Int) < (ps.length:Int)) (c:=match(ps.map (·.2)).getLast? with | some y=>lA ss x.stream x.time y | none=>false) (λG=>G=H2) O (λl hk=>?_) λG e3=>?_
  .obtain⟨p,b⟩:∃p,ps.getLast?=some p:=by
    cases e:ps.getLast? with
    | none=>rw[qZ] at e;rw[e] at l;simp at l
    | some p=>exact⟨p,O⟩
   have k:=mc b;rw[qU,b] at hk;exact⟨_,O,r,dr,_,_,O,sm _ _ n,O,_,O,_,O,r,dr,_,_,O,sm _ _ n,O,_,O,lp,_,_,_,O,O,ay.of (sm _ _ g.1),rK (λp=>V.ref p.1) b,ls,a,p.1,ss,x,p.2,O,j'.same sm,f',hx.same sm,(g.2 p k).same sm,i',J p k,_,O,hk _ O⟩
  subst e3
  have C:(decide ((0:Int) < (ps.length:Int))&&(match(ps.map (·.2)).getLast? with | some y=>lA ss x.stream x.time y | none=>false))=(match(ps.map (·.2)).getLast? with | some y=>lA ss x.stream x.time y | none=>false):=by
   rw[qU]
   cases e:ps.getLast? with
   | none=>simp
   | some p=>
    have:0<ps.length:=Cq (mc e);rw[cR af,fZ]
  rw[C];refine ff (λI=>?_) λI=>?_
  .rw[az I] at d;exact d
  rw[ar (by rw[I];decide)] at d;refine⟨_,O,D,_,O,.inl (ay.of j),O,_,O,?_⟩;rw[U];refine jN (c1:=V.int ((ownOf ps x.stream).length:Int)=V.int 0) (c:=!LwReel.isKey x.flags) (λY=>Y=G) O (λl hk=>?_) λY e4=>?_
  .have m':decide (V.int (Builtin.bitAnd (x.flags:Int) 1)=V.int 0)=!LwReel.isKey x.flags:=by
    rw[eI,cb,hX,q_,rz,isKey,AZ];omega
   refine⟨_,O,a,dx,_,_,O,N,O,_,_,O,O,O,_,O,?_⟩;rw[m'];exact hk _ O
  subst e4
  have e3:(decide (V.int ((ownOf ps x.stream).length:Int)=V.int 0)&&!LwReel.isKey x.flags)=true↔(((ownOf ps x.stream).getLast?.map (·.2)).isNone=true/\isKey x.flags=false):=by
   rw[cH,cb,hX,rz,Option.isNone_map,AH,qZ];exact⟨λz=>⟨List.length_eq_zero_iff.mp af,z.2⟩,λz=>⟨by rw[z.1];rfl,z.2⟩⟩
  refine ff (λs=>?_) λs=>?_
  .rw[az (e3.mp s)] at d;exact d
  .rw[ar (λz=>by rw[e3.mpr z] at s;cases s)] at d;exact d
noncomputable def ni (x:Info):List V:=[.int (x.stream:Int),.int (x.flags:Int),.int x.time,.int (x.lasts:Int),.int (x.place:Int),.int (x.size:Int)]
inductive yf (CP:Addr)(vs:List V)(H:Hp)(Q:VK)(_:XK):Prop
 | mk (a:Addr) (x:Info) (_:vs=[.ref a]) (_:dD CP H a x) (_:∀l,H l=none->Q (.ref l) (ah H l (.lst (ni x))))
variable (sS:Fn K mg "part_row" Am ["part"])
variable (ie:aS P w K mg base ba 5 "part_row" ["part"] (yf CP))
include bh sS in
theorem IG:type_of% ie:=by
 refine bJ sS ["part"] ?_;rintro b H vs Q E c d ⟨a,x,rfl,⟨dx,dl,ha⟩,q⟩ e f;exact⟨_,aq (aI (bK (a_ (aw bh (pv 0)) (a_ (aw bh (pv 0)) (a_ (aw bh (pv 0)) (a_ (aw bh (pv 0)) (aF (aw bh (pv 0)) (aw bh (pv 0))))))))),_,O,a,dx,_,_,O,ha,O,_,O,a,dx,_,_,O,ha,O,_,O,a,dx,_,_,O,ha,O,_,O,a,dx,_,_,O,ha,O,_,O,a,dx,_,_,O,ha,O,_,O,a,dx,_,_,O,ha,O,(by show 6<=sizeLine;decide),q⟩
noncomputable def Kp (be:List Addr)(H H':Hp):Prop:=∀c o,H c=some o->c∉be->H' c=some o
theorem Kp.refl:Kp be H H:=λ_ _ h _=>h
theorem Kp.trans (a:Kp be H H1)(b:Kp be H1 H2):Kp be H H2:=λc o h n=>b c o (a c o h n) n
theorem Kp.same (s:ao H H'):Kp be H H':=λc o h _=>s c o h
theorem Kp.mono (k:Kp be H H')(h:∀c∈be,c∈q5):Kp q5 H H':=λc o e n=>k c o e λz=>n (h c z)
theorem Kp.upd {be:List Addr}{H:Hp}{a:Addr}{o:HO}(h:a∈be):Kp be H (L2.ah H a o):=λc d e n=>by
 have b:c≠a:=λz=>n (by rw[z];exact h);rw[ak b];exact e
noncomputable def gB (H H':Hp):Prop:=∀e,H e≠none->H' e≠none
theorem gB.upd {H:Hp}{a:Addr}{o:HO}:gB H (L2.ah H a o):=λe h=>by
 by_cases z:e=a
 .rw[z,au];simp
 .rw[ak z];exact h
theorem gB.kp (k:Kp be H H')(h:∀a∈be,H' a≠none):gB H H':=λe he=>by
 by_cases z:e∈be
 .exact h e z
 .cases y:H e with
  | none=>exact absurd y he
  | some o=>rw[k e o y z];simp
noncomputable def pU (CS:Addr)(be:List Addr)(H:Hp)(a:Addr)(x:LwReel.Stream):Prop:=∃dx n m,H a=some (.ins CS dx (tq x n m))/\H n=some (.lst (bV x.name))/\H m=some (.lst (bV x.setup))/\a∉be/\n∉be/\m∉be
noncomputable def dO (CS:Addr)(be:List Addr)(H:Hp)(l:Addr)(ss:List LwReel.Stream):Prop:=∃as:List Addr,H l=some (.lst (as.map V.ref))/\l∉be/\as.length=ss.length/\∀(i:Nat) (a:Addr) (x:LwReel.Stream),as[i]?=some a->ss[i]?=some x->pU CS be H a x
noncomputable def kX (CP:Addr)(be:List Addr)(H:Hp)(a:Addr)(x:Info):Prop:=∃dx dl,H a=some (.ins CP dx (cW (x.stream:Int) x.time (x.lasts:Int) (x.flags:Int) dl (x.size:Int) (x.place:Int)))/\a∉be
theorem pU.kp {x:LwReel.Stream}(h:pU CS be H a x)(k:Kp be H H'):pU CS be H' a x:=
 let ⟨dx,n,m,h1,h2,e,b,c,d⟩:=h;⟨dx,n,m,k _ _ h1 b,k _ _ h2 c,k _ _ e d,b,c,d⟩
theorem dO.kp {CS:Addr}{be:List Addr}{H H':Hp}{l:Addr}{ss:List LwReel.Stream}(h:dO CS be H l ss)(k:Kp be H H'):dO CS be H' l ss:=
 let ⟨as,h1,g,h2,b⟩:=h;⟨as,k _ _ h1 g,g,h2,λi a x e1 c=>(b i a x e1 c).kp k⟩
theorem kX.kp {x:Info}(h:kX CP be H a x)(k:Kp be H H'):kX CP be H' a x:=
 let ⟨dx,dl,h1,b⟩:=h;⟨dx,dl,k _ _ h1 b,b⟩
theorem dO.at_ (h:dO CS be H l ss):hN CS H l ss:=
 let ⟨as,h1,g,h2,b⟩:=h;⟨as,h1,h2,λi a x e1 c=>let ⟨dx,n,m,d,e,f,_⟩:=b i a x e1 c;⟨dx,n,m,d,e,f⟩⟩
theorem kX.at_ {x:Info}(h:kX CP be H a x):dD CP H a x:=let ⟨dx,dl,h1,_⟩:=h;⟨dx,dl,h1⟩
theorem jM.off (h:jM CS H0 H l ss)(ha:∀c∈be,H0 c≠none):dO CS be H l ss:=by
 obtain⟨as,h1,g,h2,b⟩:=h;refine⟨as,h1,λz=>ha _ z g,h2,λi a x e1 d=>?_⟩;obtain⟨dx,n,m,e,f,j,k,o,p⟩:=b i a x e1 d;exact⟨dx,n,m,e,f,j,λz=>ha _ z k,λz=>ha _ z o,λz=>ha _ z p⟩
structure RX where
 ae:Int
 tk:Addr
 closed:Bool
 aU:Int
 place:Int
 opr:Bool
 ls:Addr
 lp:Addr
 rl:Addr
 lost:Bool
 pend:V
 endt:Bool
 out:List Addr
noncomputable def Ek:List Str:=["mend","taken","closed","due","place","opening_right","reel","lost","pending","end_told"]
noncomputable def b8 (x:RX):List (Str×V):=[("mend",.int x.ae),("taken",.ref x.tk),("closed",.bl x.closed),("due",.int x.aU),("place",.int x.place),("opening_right",.bl x.opr),("reel",.ref x.rl),("lost",.bl x.lost),("pending",x.pend),("end_told",.bl x.endt)]
noncomputable def z4:RM.Due->Int
 | .box=>0
 | .tail=>1
 | .search=>2
 | .over=>3
 | .done=>3
structure qI (ss:List LwReel.Stream):Prop where
 KS:qL ss
 one:1<=ss.length
 four:ss.length<=4
noncomputable def jY (CS:Addr)(be:List Addr)(H:Hp)(l:Addr)(o:Option (List LwReel.Stream)):Prop:=match o with
 | none=>H l=some (.lst [])/\l∉be
 | some ss=>dO CS be H l ss/\qI ss
structure bF (CR CL CS CP:Addr)(H:Hp)(r:Addr)(x:RX)(ae closed:Bool)(b:Bytes)(c:bb)(ps:List (Addr×Info)):Prop where
 ins:∃dx,H r=some (.ins CR dx (b8 x))
 ae:x.ae=if ae=true then 1 else 0
 tk:H x.tk=some (.lst (bV b))
 closed:x.closed=closed
 aU:x.aU=z4 c.aU
 at_:c.aU= .box∨c.aU= .tail->x.place=(c.at_:Int)/\c.at_<=b.length
 seek:c.aU= .search->∃q:Nat,x.place=(q:Int)/\c.at_<=q/\∀k,c.at_<=k->k<q->k+12<=b.length/\begins b k=false
 opr:x.opr=true->c.aU= .box/\opening b c.at_ (cS c.streams c.parts)=none/\12<=(b.drop c.at_).length
 str:jY CS (r::x.tk::x.lp::x.rl::x.out) H x.ls c.streams
 cY:H x.lp=some (.lst (ps.map λp=>V.ref p.1))
 de:∀p∈ps,kX CP (r::x.tk::x.lp::x.rl::x.out) H p.1 p.2/\hD ((c.streams.getD []).length) p.2
 inf:ps.map (·.2)=c.parts
 lost:c.lost=(x.lost||c.parts.any λ(i:Info)=>decide (128<=i.flags))
 endt:x.endt=decide (c.aU= .done)
 ne:x.tk≠x.lp
 cZ:b.length<=1500
 eH:c.parts.length<=16
 rel:∃dr,H x.rl=some (.ins CL dr (gd x.ls x.lp))
 outs:∀e∈x.out,H e≠none
noncomputable def CO:List Str:=["answer","place","streams","part"]
noncomputable def nP (a:Addr)(pl:Int)(b:Addr)(pt:V):List (Str×V):=[("answer",.ref a),("place",.int pl),("streams",.ref b),("part",pt)]
noncomputable def g9 (t:LwReel.Thing):List Int:=(RM.told t).code::(RM.told t).told.flatMap toldInts
noncomputable def f7 (CT CS CP:Addr)(be:List Addr)(H:Hp)(a:Addr)(c:bb)(t:LwReel.Thing)(c':bb):Prop:=∃dx b pl d pt,H a=some (.ins CT dx (nP b pl d pt))/\a∉be/\H b=some (.lst ((g9 t).map V.int))/\b∉be/\(match t with
 | .head=>pl=(c'.at_:Int)/\∃ss,c'.streams=some ss/\dO CS be H d ss/\qI ss
 | .part p place=>pl=(c'.at_:Int)/\∃e,pt= .ref e/\kX CP be H e (p.info place)/\hD ((c.streams.getD []).length) (p.info place)
 | .index=>pl=(c'.at_:Int)
 | .fault _ _ _=>pl=(c.at_:Int)
 | .found (some q)=>pl=(q:Int)
 | .found none=>pl= -1
 | .end_=>True)
theorem f7.kp {CT CS CP:Addr}{be:List Addr}{H H':Hp}{a:Addr}{c c':bb}{t:LwReel.Thing}(h:f7 CT CS CP be H a c t c')(k:Kp be H H'):f7 CT CS CP be H' a c t c':=by
 obtain⟨dx,i,pl,j,pt,h1,f,h2,g,b⟩:=h;refine⟨dx,i,pl,j,pt,k _ _ h1 f,f,k _ _ h2 g,g,?_⟩
 cases t with
 | head=>obtain⟨e,ss,d,s,o⟩:=b;exact⟨e,ss,d,s.kp k,o⟩
 | part p place=>obtain⟨e,l,d,s,o⟩:=b;exact⟨e,l,d,s.kp k,o⟩
 | index=>exact b
 | fault _ _ _=>exact b
 | found o=>cases o<;>exact b
 | end_=>trivial
noncomputable def nextT (ae closed:Bool)(b:Bytes)(c:bb):Option (LwReel.Thing×bb):=if c.aU= .done then some (.end_,c) else aV ae closed b c
noncomputable def eB (CT CS CP:Addr)(be:List Addr)(H:Hp)(v:V)(c:bb)(o:Option (LwReel.Thing×bb)):Prop:=match o with
 | none=>v= .aE
 | some (t,c')=>∃a,v= .ref a/\f7 CT CS CP be H a c t c'
inductive oP (CT:Addr)(vs:List V)(H:Hp)(Q:VK)(_:XK):Prop
 | mk (x dx la:Addr) (pl:Int) (_:vs=[.ref x,.ref la,.int pl]) (_:H x=some (.ins CT dx [])) (_:∀sl H',sl≠x->H sl=none->H' x=some (.ins CT dx (nP la pl sl .aE))->H' sl=some (.lst [])->(∀c o,H c=some o->c≠x->H' c=some o)->Q .aE H')
theorem JM:c4 ["self","answer","place"] ["self","answer","place"] (bL qa):=fL
variable (c7:gi K CT CO)
include c7 in
theorem FW (F:dB K "__init__" "Thing.__init__" qa f fd):cP P w K mg base ba 1 f fd ["self","answer","place"] (oP CT):=by
 refine F.ok (k:=0) JM (λvs H Q E h=>?_) (λbc A outer s0 H vs Q E j h=>?_)
 .obtain⟨x,dx,i,pl,rfl,_⟩:=h;rfl
 .obtain⟨x,dx,i,pl,rfl,hx,q⟩:=h;refine⟨_,aj (bz c7 (pv 0) (pv 1)) (aj (bz c7 (pv 0) (pv 2)) (aj (bz c7 (pv 0) (bK fw)) (aq (bz c7 (pv 0) gG)))),iT ?_⟩
  intros
  refine⟨_,O,_,O,x,dx,_,O,hx,lk,_,O,_,O,x,dx,_,O,au,lk,b3 _,λe b=>?_⟩;have a:e≠x:=λz=>by rw[z,au] at b;cases b
  refine⟨_,O,x,dx,_,O,(by rw[ak a.symm];exact au),lk,_,O,x,dx,_,O,au,lk,?_⟩
  have g:H e=none:=by
   rw[ak a,ak a] at b;exact b
  refine q e _ a g au ?_ λc o hc d=>?_
  .rw[ak a,ak a];exact au
  .rw[ak d,ak d,ak (λz=>by rw[z,g] at hc;cases hc),ak d,ak d];exact hc
noncomputable def gC (CT:Addr)(H H':Hp)(a:Addr)(b5:List Int)(pl:Int):Prop:=∃dx b c,H' a=some (.ins CT dx (nP b pl c .aE))/\H' b=some (.lst (b5.map V.int))/\H' c=some (.lst [])/\H a=none/\H b=none/\H c=none/\ao H H'
theorem hW {b:Addr}{pl:Int}(f:H b=none)(q:∀a H',gC CT H H' a b5 pl->R a H'):
 ∀x dx,(ah H b (.lst (b5.map V.int))) x=none->(ah H b (.lst (b5.map V.int))) dx=none->dx≠x->
  oP CT [.ref x,.ref b,.int pl] (ah (ah (ah H b (.lst (b5.map V.int))) dx (.own x)) x (.ins CT dx [])) (λv H2=>v= .aE/\R x H2) E0:=by
 intro x dx nx c p;refine⟨x,dx,b,pl,O,au,λd H' h e i j keep=>⟨O,?_⟩⟩;have k:x≠b:=λz=>by rw[z,au] at nx;cases nx
 have l:dx≠b:=λz=>by rw[z,au] at c;cases c
 have sm:ao (ah H b (.lst (b5.map V.int))) H':=ao.made nx c keep;have m:ao H H':=(ao.trans (a9 f) sm);have n:H x=none:=by rw[ak k] at nx;exact nx
 have o:H d=none:=by
  rw[ak h] at e;by_cases z:d=dx
  .rw[ak l] at c;rw[z];exact c
  .rw[ak z] at e;by_cases g:d=b
   .rw[g];exact f
   .rw[ak g] at e;exact e
 exact q x H' ⟨dx,b,d,i,sm _ _ au,j,n,f,o,m⟩
inductive sE (CR CT:Addr)(vs:List V)(H:Hp)(Q:VK)(_:XK):Prop
 | mk (r:Addr) (x:RX) (k s p:Int) (_:vs=[.ref r,.int k,.int s,.int p]) (_:(∃dx,H r=some (.ins CR dx (b8 x)))) (_:∀a H',gC CT H H' a [4,k,s,p] x.place->Q (.ref a) H')
variable (uH:Fn K mg "fault_thing" xy ["reader","kind","stream","place"])
variable (aN:gi K CR Ek)
variable (di:gU P w K mg base 1 "Thing" CT ["self","answer","place"] (oP CT))
variable (f6:aS P w K mg base ba 3 "fault_thing" ["reader","kind","stream","place"] (sE CR CT))
include ag uH aN di in
theorem GD:type_of% f6:=by
 refine bJ uH ["reader","kind","stream","place"] ?_;rintro f H vs Q E g c ⟨r,x,k,s,p,rfl,⟨dx,a⟩,q⟩ h i;refine⟨_,aq (aI (dj di c (aF (bK (a_ (aA ag.wz) (a_ (pv 1) (aF (pv 2) (pv 3))))) (aw aN (pv 0))))),_,O,_,O,_,O,(by show 4<=sizeLine;decide),λd b=>?_⟩;have e:r≠d:=λz=>by rw[z,b] at a;cases a
 exact⟨_,O,r,dx,_,_,O,(by rw[ak e];exact a),O,hW (b5:=[4,k,s,p]) b q⟩
section
variable {pl:Int}
theorem gC.fault {k s p:Nat} (h:gC CT H H' a [4,(k:Int),(s:Int),(p:Int)] pl) (b:∀c∈be,H c≠none) (d:pl=(c.at_:Int)):f7 CT CS CP be H' a c (.fault k s p) c':=
 let ⟨dx,e,f,h1,h2,j,g,i,_,_⟩:=h;⟨dx,e,pl,f,.aE,h1,λz=>b _ z g,h2,λz=>b _ z i,d⟩
end
section
variable {pl:Int}
theorem gC.end_ (h:gC CT H H' a [6] pl) (b:∀c∈be,H c≠none):f7 CT CS CP be H' a c .end_ c':=
 let ⟨dx,d,e,h1,h2,i,f,g,_,_⟩:=h;⟨dx,d,pl,e,.aE,h1,λz=>b _ z f,h2,λz=>b _ z g,trivial⟩
end
section
variable {pl:Int}
theorem gC.found {q:Nat} (h:gC CT H H' a [5,(q:Int)] pl) (b:∀c∈be,H c≠none) (d:pl=(q:Int)):f7 CT CS CP be H' a c (.found (some q)) c':=
 let ⟨dx,e,f,h1,h2,j,g,i,_,_⟩:=h;⟨dx,e,pl,f,.aE,h1,λz=>b _ z g,h2,λz=>b _ z i,d⟩
end
theorem gC.Ml (h:gC CT H H' a [5, -1] (-1))(b:∀c∈be,H c≠none):f7 CT CS CP be H' a c (.found none) c':=
 let ⟨dx,d,e,h1,h2,i,f,g,_,_⟩:=h;⟨dx,d, -1,e,.aE,h1,λz=>b _ z f,h2,λz=>b _ z g,O⟩
theorem gC.same {pl:Int}(h:gC CT H H' a b5 pl):ao H H':=let ⟨_,_,_,_,_,_,_,_,_,s⟩:=h;s
theorem bF.av {x:RX}(R:bF CR CL CS CP H r x ae closed b c ps):∀e∈(r::x.tk::x.lp::x.rl::x.out),H e≠none:=λe he=>by
 obtain⟨dx,h⟩:=R.ins;obtain⟨dr,h2⟩:=R.rel;rcases List.mem_cons.mp he with z | he
 .rw[z,h];simp
 .rcases List.mem_cons.mp he with z | he
  .rw[z,R.tk];simp
  .rcases List.mem_cons.mp he with z | he
   .rw[z,R.cY];simp
   .rcases List.mem_cons.mp he with z | he
    .rw[z,h2];simp
    .exact R.outs e he
theorem bF.rt {x:RX}(R:bF CR CL CS CP H r x ae closed b c ps):x.tk≠r:=let ⟨_,h⟩:=R.ins;ef R.tk h (by intro z;cases z)
theorem bF.ti {x:RX}(R:bF CR CL CS CP H r x ae closed b c ps):x.lp≠r:=let ⟨_,h⟩:=R.ins;ef R.cY h (by intro z;cases z)
theorem bF.Cj {x:RX}(R:bF CR CL CS CP H r x ae closed b c ps):x.rl≠x.tk:=let ⟨_,h⟩:=R.rel;ef h R.tk (by intro z;cases z)
theorem bF.AI {x:RX}(R:bF CR CL CS CP H r x ae closed b c ps):x.rl≠x.lp:=let ⟨_,h⟩:=R.rel;ef h R.cY (by intro z;cases z)
theorem bF.r1 {x:RX}(R:bF CR CL CS CP H r x ae closed b c ps):x.rl≠r:=let ⟨_,h⟩:=R.rel;let ⟨_,g⟩:=R.ins;ef h g (by intro z;cases z)
theorem jY.kp {be:List Addr}{l:Addr}{o:Option (List LwReel.Stream)}(h:jY CS be H l o)(k:Kp be H H'):jY CS be H' l o:=by
 cases o with
 | none=>exact⟨k _ _ h.1 h.2,h.2⟩
 | some ss=>exact⟨h.1.kp k,h.2⟩
theorem bF.set {x:RX}{d:RX}(R:bF CR CL CS CP H r x ae closed b c ps)(hi:∃dx,H' r=some (.ins CR dx (b8 d)))(k:Kp [r] H H')(e1:d.ae=x.ae)(f:d.tk=x.tk)(e3:d.closed=x.closed)(e4:d.aU=x.aU)(e5:d.ls=x.ls)(e6:d.lp=x.lp)(e7:d.lost=x.lost)(e8:d.endt=x.endt)(ha:c.aU= .box∨c.aU= .tail->d.place=(c.at_:Int)/\c.at_<=b.length)(hs:c.aU= .search->∃q:Nat,d.place=(q:Int)/\c.at_<=q/\∀k,c.at_<=k->k<q->k+12<=b.length/\begins b k=false)(i:d.opr=true->c.aU= .box/\opening b c.at_ (cS c.streams c.parts)=none/\12<=(b.drop c.at_).length)(e9:d.rl=x.rl:=by rfl)(e10:d.out=x.out:=by rfl):bF CR CL CS CP H' r d ae closed b c ps:=by
 have k3:Kp (r::x.tk::x.lp::x.rl::x.out) H H':=k.mono λc hc=>by rw[List.mem_singleton.mp hc];exact cq
 have t1:x.tk∉[r]:=by simpa using R.rt
 have t2:x.lp∉[r]:=by simpa using R.ti
 have t3:x.rl∉[r]:=by simpa using R.r1
 refine⟨hi,by rw[e1];exact R.ae,by rw[f];exact k _ _ R.tk t1,by rw[e3];exact R.closed,by rw[e4];exact R.aU,ha,hs,i,?_,by rw[e6];exact k _ _ R.cY t2,?_,R.inf,by rw[e7];exact R.lost,by rw[e8];exact R.endt,by rw[f,e6];exact R.ne,R.cZ,R.eH,by rw[e5,e6,e9];exact(let ⟨dr,h⟩:=R.rel;⟨dr,k _ _ h t3⟩),by rw[e10];exact λe he=>gB.kp k (λa ha=>by rw[List.mem_singleton.mp ha];obtain⟨l,j⟩:=hi;rw[j];simp) e (R.outs e he)⟩
 .rw[f,e5,e6,e9,e10];exact R.str.kp k3
 .rw[f,e6,e9,e10];exact λp g=>⟨(R.de p g).1.kp k3,(R.de p g).2⟩
section
variable {x:RX}
theorem bF.same (R:bF CR CL CS CP H r x ae closed b c ps) (s:ao H H'):bF CR CL CS CP H' r x ae closed b c ps:=
 R.set (let ⟨dx,h⟩:=R.ins;⟨dx,s _ _ h⟩) (Kp.same s) O O O O O O O O R.at_ R.seek R.opr
end
theorem bF.Ao {x:RX}{c:bb}(R:bF CR CL CS CP H r x ae closed b c ps)(h:c.streams=some ss):fO CL CS CP H x.rl ss ps:=by
 obtain⟨dr,a⟩:=R.rel;have hs:=R.str;rw[h] at hs;exact⟨dr,x.ls,x.lp,a,hs.1.at_,R.cY,λp d=>(R.de p d).1.at_⟩
inductive Nc (CR CL CT CS CP:Addr)(vs:List V)(H:Hp)(Q:VK)(_:XK):Prop
 | mk (r:Addr) (x:RX) (ae closed:Bool) (b:Bytes) (c:bb) (ps:List (Addr×Info)) (_:vs=[.ref r]) (_:bF CR CL CS CP H r x ae closed b c ps) (_:c.aU= .tail) (_:∀v H',eB CT CS CP (r::x.tk::x.lp::x.rl::x.out) H' v c (aV ae closed b c)->ao H H'->Q v H')
variable (sx:Fn K mg "look_behind_index" yX ["reader"])
variable (nB:aS P w K mg base ba 5 "look_behind_index" ["reader"] (Nc CR CL CT CS CP))
include ag aN di f6 sx in
theorem HE:type_of% nB:=by
 refine bJ sx ["reader"] ?_;rintro n H vs Q E o j ⟨r,x,ae,closed,b,c,ps,rfl,R,hd,q⟩ p s
 refine⟨_,aj (aZ (aY cQ (bX ag (aw aN (pv 0))) (aw aN (pv 0)))
  (aq (aI (aO f6 j (a_ (pv 0) (a_ (aA ag.J7) (aF aL (aw aN (pv 0)))))))) a7)
  (aj (aZ (d2 (aw aN (pv 0))) (aq (aI (dj di j (aF (bK (aB (aA ag.pQ))) (aw aN (pv 0)))))) a7)
  (aq (aI gG))),?_⟩
 refine cV ?_
 intros
 obtain⟨dx,d⟩:=R.ins;obtain⟨g,t⟩:=R.at_ (.inr hd);have e:aV ae closed b c=if c.at_<b.length then some (.fault 9 0 c.at_,c.b7 ae) else if closed=true then some (.end_,⟨.done,c.at_,c.streams,c.parts,c.lost⟩) else none:=by unfold aV;rw[hd]
 refine⟨_,O,r,dx,_,_,O,d,O,x.tk,_,O,.inl (ay.of R.tk),_,O,r,dx,_,_,O,d,O,_,_,O,O,_,O,bS (λh=>?_) λh=>?_⟩
 .rw[bu,g] at h;refine⟨_,O,_,O,r,dx,_,_,O,d,O,r,x,_,_,_,O,⟨dx,d⟩,λa H' f=>q _ _ ?_ f.same⟩;rw[e,az af];rw[g] at f;exact⟨a,O,f.fault R.av O⟩
 .rw[bu,g] at h;rw[ar af] at e;refine⟨_,O,r,dx,_,_,O,d,O,_,O,?_⟩;rw[R.closed];refine ff (λi=>?_) λi=>?_
  .rw[az i] at e;refine⟨(by show 1<=sizeLine;decide),λl k=>?_⟩;have m:r≠l:=λz=>by rw[z,k] at d;cases d
   refine⟨_,O,r,dx,_,_,O,(by rw[ak m];exact d),O,hW (b5:=[6]) k λa H' f=>q _ _ ?_ f.same⟩;rw[e];exact⟨a,O,f.end_ R.av⟩
  .rw[ar (by rw[i];decide)] at e;refine q _ _ ?_ (ao.refl _);rw[e];rfl
inductive Dt (CR CL CT CS CP:Addr)(vs:List V)(H:Hp)(Q:VK)(_:XK):Prop
 | mk (r:Addr) (x:RX) (ae closed:Bool) (b:Bytes) (c:bb) (ps:List (Addr×Info)) (_:vs=[.ref r]) (_:bF CR CL CS CP H r x ae closed b c ps) (_:c.aU= .search) (_:∀v (pl:Int) H',bF CR CL CS CP H' r {x with place:=pl} ae closed b c ps->eB CT CS CP (r::x.tk::x.lp::x.rl::x.out) H' v c (aV ae closed b c)->Kp [r] H H'->Q v H')
theorem EG (h:p+12<=b.length):begins b p=(opening b p pj).isNone:=by
 rw[RM.JT,cR (by rw[bQ];omega),fZ];rfl
variable (uC:Fn K mg "search" z_ ["reader"])
variable (mV:aS P w K mg base ba 10 "search" ["reader"] (Dt CR CL CT CS CP))
include ag mD aN di uC in
theorem EW:type_of% mV:=by
 refine bJ uC ["reader"] ?_;rintro D' H vs Q E E' w ⟨r,x,ae,closed,b,c,ps,rfl,R,hd,q⟩ F' G'
 refine⟨_,aj (kJ fE (aY uI (aR cJ (aw aN (pv 0)) (aA ag.nj)) (bX ag (aw aN (pv 0))))
  (aj (aZ (d2 (aO mD w (aF (aw aN (pv 0)) (aw aN (pv 0)))))
   (aq (aI (dj di w (aF (bK (aF (aA ag.r8) (aw aN (pv 0)))) (aw aN (pv 0)))))) a7)
  (aq (hT aN (pv 0) aL iQ))))
  (aj (aZ (d2 (aw aN (pv 0))) (aq (aI (dj di w (aF (bK (aF (aA ag.r8) (aA ag.r6))) (aA ag.r6))))) a7)
  (aq (aI gG))),?_⟩
 refine cV ?_
 intros
 have g:aV ae closed b c=(match LwReel.search b c.at_ with
  | some q=>some (.found (some q),⟨.box,q,c.streams,c.parts,c.lost⟩)
  | none=>if closed=true then some (.found none,⟨.over,c.at_,c.streams,c.parts,c.lost⟩) else none):=by unfold aV;rw[hd]<;>rfl
 obtain⟨D,J,M,N⟩:=R.seek hd;have T:¬(c.aU= .box∨c.aU= .tail):=by rw[hd];decide
 have U:∀{H1 H2:Hp} {d l:Nat},bF CR CL CS CP H1 r {x with place:=(d:Int)} ae closed b c ps->(∃dx,H2 r=some (.ins CR dx (b8 {x with place:=(l:Int)})))->Kp [r] H1 H2->c.at_<=l->(∀k,c.at_<=k->k<l->k+12<=b.length/\begins b k=false)->
  bF CR CL CS CP H2 r {x with place:=(l:Int)} ae closed b c ps:=λ{H1 H2 d l} f hi k h1 Y=>
  f.set hi k O O O O O O O O (λz=>absurd z T) (λ_=>⟨l,O,h1,Y⟩) f.opr
 have b':bF CR CL CS CP H r {x with place:=(D:Int)} ae closed b c ps:=by rw[<-J];exact R
 refine nO (λσ H'=>σ=[some (.ref r)]/\∃q:Nat,bF CR CL CS CP H' r {x with place:=(q:Int)} ae closed b c ps/\c.at_<=q/\(∀k,c.at_<=k->k<q->k+12<=b.length/\begins b k=false)/\Kp [r] H H')
  (λ_ H'=>match H' r with | some (.ins _ _ fs)=>(match fs.lookup ("place":Str) with | some (.int q)=>b.length+1 - q.toNat | _=>0) | _=>0) ⟨O,D,b',M,N,Kp.refl⟩ ?_ ?_
 .rintro σ H' ⟨rfl,d,f,e',s,k1⟩;obtain⟨dx,m⟩:=f.ins;have f':(match H' r with | some (.ins _ _ fs)=>(match fs.lookup ("place":Str) with | some (.int q)=>b.length+1 - q.toNat | _=>0) | _=>0)=b.length+1 - d:=by rw[m];rfl
  refine⟨_,O,r,dx,_,_,O,m,O,_,_,O,O,_,O,r,dx,_,_,O,m,O,x.tk,_,O,.inl (ay.of f.tk),_,_,O,O,_,O,?_⟩;rw[bu];refine bS (λo=>?_) λo=>?_
  .have o:(d:Int)+12<=(b.length:Int):=o;refine⟨_,O,r,dx,_,_,O,m,O,_,O,r,dx,_,_,O,m,O,x.tk,b,d,O,ay.of f.tk,af,by have:=R.cZ;omega,λH2 y=>⟨_,O,?_⟩⟩;rw[<-EG af];have R2:=f.same y;obtain⟨h,n⟩:=R2.ins;refine ff (λt=>?_) λt=>?_
   .have i':LwReel.search b c.at_=some d:=RM.Al.mpr ⟨e',t,λk h1 h2=>(s k h1 h2).2⟩;rw[i'] at g;refine⟨_,O,r,h,_,_,O,n,O,(by show 2<=sizeLine;decide),λG u=>?_⟩;have j':r≠G:=λz=>by rw[z,u] at n;cases n
    refine⟨_,O,r,h,_,_,O,(by rw[ak j'];exact n),O,hW (b5:=[5,(d:Int)]) u λa A j=>q _ _ A (R2.same j.same) ?_ ((k1.trans (Kp.same y)).trans (Kp.same j.same))⟩;rw[g];exact⟨a,O,j.found R2.av O⟩
   .refine⟨_,O,r,h,_,_,O,n,O,_,_,O,O,h,_,n,lk,⟨O,d+1,?_,af,λk C k'=>?_,?_⟩,?_⟩
    .refine U R2 ⟨h,?_⟩ (Kp.upd (by simp)) af λk C k'=>?_
     .rw[au];rfl
     .by_cases e:k=d
      .rw[e];exact⟨af,t⟩
      .exact s k C af
    .by_cases e:k=d
     .rw[e];exact⟨af,t⟩
     .exact s k C af
    .exact(k1.trans (Kp.same y)).trans (Kp.upd (by simp))
    .try dsimp only
     rw[au,f'];show b.length+1 - ((d:Int)+1).toNat<b.length+1 - d;omega
  .have o:¬((d:Int)+12<=(b.length:Int)):=o
   have l':LwReel.search b c.at_=none:=RM.Na.mpr λk hk=>by
    by_cases e:k<d
    .exact(s k hk e).2
    .rw[oH];intro z;have:=RM.pS z;omega
   rw[l'] at g;refine⟨_,O,r,dx,_,_,O,m,O,_,O,?_⟩;have I:=f.closed
   (try dsimp only at I)
   rw[I];refine ff (λhc=>?_) λhc=>?_
   .try dsimp only at g
    rw[az hc] at g;refine⟨(by show 2<=sizeLine;decide),λG u=>hW (b5:=[5, -1]) u λa A j=>q _ _ A (f.same j.same) ?_ (k1.trans (Kp.same j.same))⟩;rw[g];exact⟨a,O,j.Ml f.av⟩
   .try dsimp only at g
    rw[ar (by rw[hc];decide)] at g;refine q _ _ H' f ?_ k1;rw[g];rfl
 .rintro σ H Q Q' i ⟨v,m',a,dx,fs,p',e1,q',e3,i1,r',u',v',w',y',a2,h,z',A',e4,e5,e6,p,ys,e7,e8,i2,B',e9,e10,k,e11,C'⟩;exact⟨v,m',a,dx,fs,p',e1,q',e3,i1,r',u',v',w',y',a2,h,z',A',e4,e5,e6,p,ys,e7,e8,i2,B',e9,e10,k,e11,i _ _ C'⟩
inductive E6 (CB CT CS:Addr)(vs:List V)(H:Hp)(Q:VK)(E:XK):Prop
 | mk (bo:Addr) (s:BS) (_:vs=[.ref bo]) (_:bj CB H bo s) (_:s.fb) (_:(∀(ss:List LwReel.Stream) (a:Addr) H' dx la sl,LwReel.run rHead (s.X.drop s.at_) s.at_= .ok ss->H' a=some (.ins CT dx (nP la ((s.e+4:Nat):Int) sl .aE))->H' la=some (.lst [.int 1])->H a=none->H la=none->jM CS H H' sl ss->aQ bo s.pl H H'->Q (.ref a) H')) (_:(∀(k p:Nat) H',LwReel.run rHead (s.X.drop s.at_) s.at_= .error (k,p)->e_ CB H' bo s.st->aQ bo s.pl H H'->E (k:Int) (p:Int) H'))
theorem lR {f:LwReel.Rd α}{x:α}(h:f ⟨b,p⟩= .ok (x,t)):LwReel.run f b p= .ok x:=by unfold LwReel.run;rw[h]
theorem h_ {f:LwReel.Rd α}(h:f ⟨b,p⟩= .error e):LwReel.run f b p= .error e:=by unfold LwReel.run;rw[h]
theorem kM (s:ao H H'):aQ bo pl H H':=λc o h _ _=>s c o h
variable (sq:Fn K mg "head_thing" AS ["body"])
variable (mb:aS P w K mg base (bZ P w CF) 11 "head_thing" ["body"] (E6 CB CT CS))
include ag aM ir c7 di sq in
theorem HA:type_of% mb:=by
 refine c0 sq ["body","thing"] ?_;rintro p' H vs Q E u m ⟨bo,s,rfl,B,L,w,y⟩ q' r'
 refine⟨_,aj (aW 1 u (dj di m (aF (bK (aB (aA ag.yx))) (aR cJ (aw aM (pv 0)) (aA ag.kZ)))))
  (aj (bz c7 (pv 1) (bI ir bw m (aB (pv 0))))
  (aq (aI (pv 1)))),?_⟩
 refine cV ?_
 intros
 obtain⟨dx,f⟩:=B.ins;refine⟨(by show 1<=sizeLine;decide),λA n=>?_⟩;have C:bo≠A:=λz=>by rw[z,n] at f;cases f
 refine⟨_,O,bo,dx,_,_,O,(by rw[ak C];exact f),O,_,_,O,O,?_⟩;rw[show V.int (((s.e:Nat):Int)+4)=V.int ((s.e+4:Nat):Int) from da V.int af];refine hW (b5:=[1]) n λa H1 D=>?_;obtain⟨r,g,u',h1,h2,v',b,h,w',sm⟩:=D;have G:=B.same sm;have I:a≠bo:=λz=>by rw[z,f] at b;cases b
 have J:a≠s.pl:=λz=>by have:=B.bH;rw[<-z,b] at this;cases this
 have y':a≠s.d:=λz=>by have:=B.dat;rw[<-z,b] at this;cases this
 refine⟨_,O,bo,s,O,G,L,λss z' A' H2 v M B' C' D' j N=>?_,λk p H2 he hs T=>y k p H2 (h_ he) hs ((kM sm).trans T)⟩;obtain⟨l,rfl,U⟩:=N;have Y:=j _ _ h1 I J;refine⟨_,O,a,r,_,O,Y,lk,_,O,?_⟩;have b':g≠a:=λz=>by rw[z,h1] at h2;cases h2
 have e':g≠bo:=λz=>by rw[z,f] at h;cases h
 have f':g≠s.pl:=λz=>by have:=B.bH;rw[<-z,h] at this;cases this
 have back:∀e,H1 e=none->H e=none:=λe he=>by
  cases z:H e with
  | none=>rfl
  | some o=>rw[sm e o z] at he;cases he
 have off:∀e,H1 e=none->e≠a:=λe he z=>by rw[z,h1] at he;cases he
 refine w ss a _ r g l (lR M) (by rw[au];rfl) (by rw[ak b'];exact j _ _ h2 e' f') b h ?_ λe o he n1 n2=>?_
 .obtain⟨as,i',t,j',k'⟩:=U;refine⟨as,by rw[ak (off _ t)];exact i',back _ t,j',λi c x e1 l'=>?_⟩;have:=k' i c x e1 l';exact(this.keep λe o m' he=>by rw[ak (off _ m')];exact he).o_ back
 .rw[ak (a6 he b)];exact((kM sm).trans j) e o he n1 n2
structure jX (CB CR CL CS CP:Addr)(H0 H:Hp)(r bo:Addr)(x:RX)(ae closed:Bool)(b:Bytes)(c:bb)(ps:List (Addr×Info))(s:BS):Prop where
 rep:bF CR CL CS CP H0 r x ae closed b c ps
 box:c.aU= .box
 sm:ao H0 H
 nb:H0 bo=none
 np:H0 s.pl=none
 body:bj CB H bo s
 at_:s.at_=c.at_+12
 vg:s.ps=[]
 rj:s.st=0
theorem jX.same {x:RX}{c:bb}(B:jX CB CR CL CS CP H0 H r bo x ae closed b c ps s)(f:aQ bo s.pl H H'):ao H0 H':=λe o h=>
 f e o (B.sm e o h) (a6 h B.nb) (a6 h B.np)
theorem GF (n:Nat)(L:Bytes):j4 n L=(((match LwReel.run (LwReel.num 4 λ(k:Nat)=>decide (k<n)) L 0 with | .ok k=>k | .error _=>0:Nat)):Int):=by
 unfold j4;cases LwReel.run (LwReel.num 4 λ(k:Nat)=>decide (k<n)) L 0<;>rfl
theorem EV {stream:Nat}(h:disorder ss aK stream time flags=some i):i=0∨i=1∨i=3:=by
 rw[BU] at h
 repeat' split at h
 all_goals first | (cases h;simp;done) | cases h
inductive Ki (K:Frag)(CB CT CR CL CS CP:Addr)(vs:List V)(H:Hp)(Q:VK)(E:XK):Prop
 | mk (r bo:Addr) (H0:Hp) (x:RX) (ae closed:Bool) (b:Bytes) (c:bb) (ps:List (Addr×Info)) (s:BS) (ss:List LwReel.Stream) (_:vs=[.ref r,.ref bo]) (_:jX CB CR CL CS CP H0 H r bo x ae closed b c ps s) (_:c.streams=some ss) (_:c.parts.length<16) (_:(∀(a:Addr) (p:LwReel.Part) (c':bb) H',d8 ae c ss (s.X.drop s.at_) (s.e+4)=(.part p c.at_,c')->f7 CT CS CP (r::x.tk::x.lp::x.rl::x.out) H' a c (.part p c.at_) c'->ao H0 H'->Q (.ref a) H')) (_:(∀(k st q:Nat) H',d8 ae c ss (s.X.drop s.at_) (s.e+4)=(.fault k st q,c.b7 ae)->e_ CB H' bo (st:Int)->ao H0 H'->E (k:Int) (q:Int) H'))
theorem xP (p:LwReel.Part)(place:Nat):(g9 (.part p place)).map V.int=[V.int 2,.int (p.stream:Int),.int (p.flags:Int),.int p.time,.int (p.lasts:Int),.int (place:Int),.int (p.bytes.length:Int),.int (p.bytes.length:Int)]++bV p.bytes:=by
 unfold g9 RM.told infoTold LwReel.Part.info bV;simp[n_,toldInts]
variable (sy:Fn K mg "part_thing" w8 ["reader","body"])
variable (ny:aS P w K mg base (bZ P w CF) 11 "part_thing" ["reader","body"] (Ki K CB CT CR CL CS CP))
include ag aM bf bh bG iJ gm ie c7 aN di sy in
theorem Lj:type_of% ny:=by
 refine c0 sy ["reader","body","part","wrong","answer","thing"] ?_;rintro _Z H vs Q E M v ⟨r,bo,H0,x,ae,closed,b,c,ps,s,ss,rfl,B,N,aa',_h,G'⟩ ab' ac'
 refine⟨_,aj (aW 2 M (bI iJ bw v (aF (pv 1) (aw bG (aw aN (pv 0))))))
  (aj (bz bh (pv 2) (aw aN (pv 0)))
  (aj (aW 3 M (aO gm v (aF (aw aN (pv 0)) (pv 2))))
  (aj (aZ (aY ky (pv 3) (aA ag.qS))
   (aj (aZ (aY bW (aw aN (pv 0)) aL)
    (aq (d6 bf v bw (aF (aA ag.D_) (cz cC (aw aM (pv 1)) (pv 3) (λ_ _=>rfl))))) a7)
   (aq (hT bh (pv 2) (aA ag.y3) iQ))) a7)
  (aj (aW 4 M (aR dJ (aR dJ (aR dJ (bK (aB (aA ag.Co))) (aO ie v (aB (pv 2)))) (bK (aB (aw bh (pv 2))))) (aw bh (pv 2))))
  (aj (aW 5 M (dj di v (aF (pv 4) (aR cJ (aw aM (pv 1)) (aA ag.kZ)))))
  (aj (bz c7 (pv 5) (pv 2))
  (aq (aI (pv 5))))))))),?_⟩
 refine Fc ?_
 intros
 have T:=B.rep.str;rw[N] at T;obtain⟨T,r'⟩:=T
 have _i:∀{e:Addr},H e=none->e∉(r::x.tk::x.lp::x.rl::x.out):=λ{e} he z=>by
  have:=B.rep.av e z
  cases l:H0 e with
  | none=>exact this l
  | some o=>rw[B.sm e o l] at he;cases he
 obtain⟨as,u',ad',U,ae'⟩:=id T;have _j:=(B.rep.at_ (.inl B.box)).1;obtain⟨dr,Y⟩:=B.rep.ins;have _k:=B.sm _ _ Y;have _l:=B.sm _ _ u';obtain⟨_m,_n⟩:=B.rep.rel;have _o:=B.sm _ _ _n;refine⟨_,O,_,O,r,dr,_,_,O,_k,O,x.rl,_m,_,_,O,_o,O,bo,x.ls,s,as.map V.ref,O,B.body,ay.of _l,a6 u' B.nb,a6 u' B.np,by rw[aX,U];exact r'.one,by rw[aX,U];exact r'.four,B.vg,B.rj,λp0 w A I' n a H1 J' v' af' K' ag' _p _q ah' _r=>?_,λk q H1 he hs _s=>?_⟩
 rotate_left
 .rw[aX,U] at he hs;refine G' k _ q H1 ?_ (by rw[<-GF];exact hs) (B.same _s);unfold d8;rw[<-B.at_,h_ he]<;>rfl
 rw[aX,U] at J' v';obtain⟨dp,dl,ha,_t,t,ai',L'⟩:=_q;have M':=B.same _r;have _u:=M' _ _ Y
 have n0:∀{e:Addr},H e=none->H0 e=none:=λ{e} he=>by
  cases l:H0 e with
  | none=>rfl
  | some o=>rw[B.sm e o l] at he;cases he
 have b':LwReel.run (rPart ss.length) (s.X.drop s.at_) (c.at_+12)= .ok (p0,[w,A,n,n]):=by rw[<-B.at_];exact lR J'
 refine⟨_,O,r,dr,_,_,O,_u,O,_,O,a,dp,_,O,ha,lk,?_⟩;rw[_j];rw[show bM "place" (V.int (c.at_:Int)) (cW (p0.stream:Int) p0.time (p0.lasts:Int) (p0.flags:Int) dl (p0.bytes.length:Int) 0)=cW (p0.stream:Int) p0.time (p0.lasts:Int) (p0.flags:Int) dl (p0.bytes.length:Int) (c.at_:Int) from O];have w':ah H1 a (.ins CP dp (cW (p0.stream:Int) p0.time (p0.lasts:Int) (p0.flags:Int) dl (p0.bytes.length:Int) (c.at_:Int))) a=some (.ins CP dp (cW (p0.stream:Int) p0.time (p0.lasts:Int) (p0.flags:Int) dl (p0.bytes.length:Int) (c.at_:Int))):=au;have N':ah H1 a (.ins CP dp (cW (p0.stream:Int) p0.time (p0.lasts:Int) (p0.flags:Int) dl (p0.bytes.length:Int) (c.at_:Int))) dl=some (.lst (bV p0.bytes)):=by rw[ak L'.symm];exact _t
 have e':ao H0 (ah H1 a (.ins CP dp (cW (p0.stream:Int) p0.time (p0.lasts:Int) (p0.flags:Int) dl (p0.bytes.length:Int) (c.at_:Int)))):=λe o h=>by rw[ak (a6 h (n0 t))];exact M' e o h
 have O':a≠bo:=λz=>by obtain⟨d0,l⟩:=B.body.ins;rw[z,l] at t;cases t
 have _v:a≠s.pl:=λz=>by have:=B.body.bH;rw[<-z,t] at this;cases this
 have aK:a≠s.d:=λz=>by have:=B.body.dat;rw[<-z,t] at this;cases this
 have P':=_p.jV (o:= .ins CP dp (cW (p0.stream:Int) p0.time (p0.lasts:Int) (p0.flags:Int) dl (p0.bytes.length:Int) (c.at_:Int))) O' _v aK;generalize ah H1 a (.ins CP dp (cW (p0.stream:Int) p0.time (p0.lasts:Int) (p0.flags:Int) dl (p0.bytes.length:Int) (c.at_:Int)))=H2 at w' N' e' P';have R2:=B.rep.same e';have _w:dD CP H2 a (p0.info c.at_):=⟨dp,dl,w'⟩;have _x:hD ss.length (p0.info c.at_):=⟨v',kr.mp K',by show p0.flags<256;omega⟩;have _y:∀p∈ps,hD ss.length p.2:=λp y'=>by have:=(B.rep.de p y').2;rw[N] at this;exact this
 have _z:ps.length<=1000:=by have:=da List.length B.rep.inf;rw[aX] at this;omega
 refine⟨_,O,r,dr,_,_,O,e' _ _ Y,O,_,O,x.rl,a,ss,ps,p0.info c.at_,O,R2.Ao N,r'.KS,_y,_z,_w,_x,λR' f'=>?_⟩;rw[B.rep.inf];have i':=e'.trans f';have z':=f' _ _ w';have S':=f' _ _ N';have C:=P'.same f'
 have fin:∀(fl:Nat) (f:Hp) (p:LwReel.Part) (c':bb),p={p0 with flags:=fl}->fl<256->d8 ae c ss (s.X.drop s.at_) (s.e+4)=(.part p c.at_,c')->c'.at_=s.e+4->ao H0 f->f a=some (.ins CP dp (cW (p0.stream:Int) p0.time (p0.lasts:Int) (fl:Int) dl (p0.bytes.length:Int) (c.at_:Int)))->f dl=some (.lst (bV p0.bytes))->
  (∃d,f bo=some (.ins CB d (ei {s with at_:=s.e,ps:=[(w:Int),(A:Int),(I':Int),(n:Int)],st:=(p0.stream:Int)})))->∀T':Int,
  aC (jI (gw pX (gw pX (gw pX (qn (c9 (tC (V.int 2)) eE)) (jZ (yf CP) [] E0 (c9 (c_ 2) eE))) (qn (c9 (tF CP (c_ 2) "size") eE))) (tF CP (c_ 2) "data")) (gQ 4))
   (aC (jI (lq CT (oP CT) [] E0 (c9 (c_ 4) (c9 (gw (fY λi j=>V.int (i+j)) (tF CB (c_ 1) "end") (tC (V.int 4))) eE))) (gQ 5))
   (aC (sF CT (c_ 5) (c_ 2) "part") (kE (c_ 5)))) {nx:=λ_ H'=>Q .aE H',rt:=Q} [some (.ref r),some (.ref bo),some (.ref a),some (.int T'),none,none] f:=by
  intro fl f p c' y' _A _B _C U' j' _D k' T';obtain⟨_E,k'⟩:=k'
  have aj':p0.bytes.length<=3000:=by
   have ak':=BS.gg B.body;have al':=B.body.cZ;have am':=B.body.el;omega
  refine⟨(by show 1<=sizeLine;decide),λl0 _F=>?_⟩;have A':ao f (ah f l0 (.lst [V.int 2])):=a9 _F;have V':ah f l0 (.lst [V.int 2]) l0=some (.lst [V.int 2]):=au;generalize ah f l0 (.lst [V.int 2])=l' at A' V';refine⟨_,O,a,LwReel.Part.info {p0 with flags:=fl} c.at_,O,⟨dp,dl,A' _ _ j'⟩,λl1 _G=>?_⟩;generalize W':ni (LwReel.Part.info {p0 with flags:=fl} c.at_)=g;have B':g.length=6:=by rw[<-W'];rfl
  have t1:ao l' (ah l' l1 (.lst g)):=a9 _G;have e1:ah l' l1 (.lst g) l1=some (.lst g):=au;generalize ah l' l1 (.lst g)=m' at t1 e1;refine⟨l0,l1,_,_,O,O,t1 _ _ V',e1,(by rw[B'];show 7<=sizeLine;decide),λl2 _H=>?_⟩;have t2:ao m' (ah m' l2 (.lst ([V.int 2]++g))):=a9 _H;have X':ah m' l2 (.lst ([V.int 2]++g)) l2=some (.lst ([V.int 2]++g)):=au;generalize ah m' l2 (.lst ([V.int 2]++g))=D at t2 X';have Y':ao f D:=(A'.trans t1).trans t2;refine⟨_,O,a,dp,_,_,O,Y' _ _ j',O,(by show 1<=sizeLine;decide),λl3 _I=>?_⟩;have t3:ao D (ah D l3 (.lst [V.int (p0.bytes.length:Int)])):=a9 _I;have e3:ah D l3 (.lst [V.int (p0.bytes.length:Int)]) l3=some (.lst [V.int (p0.bytes.length:Int)]):=au;generalize ah D l3 (.lst [V.int (p0.bytes.length:Int)])=p' at t3 e3;refine⟨l2,l3,_,_,O,O,t3 _ _ X',e3,(by rw[aP,B'];show 8<=sizeLine;decide),λl4 _J=>?_⟩;have t4:ao p' (ah p' l4 (.lst ([V.int 2]++g++[V.int (p0.bytes.length:Int)]))):=a9 _J;have e4:ah p' l4 (.lst ([V.int 2]++g++[V.int (p0.bytes.length:Int)])) l4=some (.lst ([V.int 2]++g++[V.int (p0.bytes.length:Int)])):=au;generalize ah p' l4 (.lst ([V.int 2]++g++[V.int (p0.bytes.length:Int)]))=Z' at t4 e4;have G:ao f Z':=(Y'.trans t3).trans t4;refine⟨_,O,a,dp,_,_,O,G _ _ j',O,l4,dl,_,_,O,O,e4,G _ _ _D,?_,λ_K C'=>?_⟩
  .rw[bu,aP,aP,B'];exact bB (show 1+6+1+p0.bytes.length<=4000 by omega) aJ
  subst y'
  have _L:[V.int 2]++g++[V.int (p0.bytes.length:Int)]++bV p0.bytes=(g9 (.part {p0 with flags:=fl} c.at_)).map V.int:=by
   rw[<-W'];exact(xP {p0 with flags:=fl} c.at_).symm
  rw[_L];have _M:bo≠_K:=λz=>by rw[<-z,G _ _ k'] at C';cases C'
  refine⟨_,O,_,O,bo,_E,_,_,O,(by rw[ak _M];exact G _ _ k'),O,_,_,O,O,?_⟩;rw[show V.int (((s.e:Nat):Int)+4)=V.int ((s.e+4:Nat):Int) from da V.int af];refine hW (b5:=g9 (.part {p0 with flags:=fl} c.at_)) C' λtt _a _N=>?_;obtain⟨D',u,_b,t1,t2,t3,_c,_d,an',_O⟩:=_N;have E':ao f Z':=G;have _P:ao f _a:=E'.trans _O;refine⟨_,O,_,O,tt,D',_,O,t1,lk,_,O,?_⟩
  have _e:f tt=none:=by
   cases z:f tt with
   | none=>rfl
   | some o=>rw[E' tt o z] at _c;cases _c
  have _Q:f u=none:=by
   cases z:f u with
   | none=>rfl
   | some o=>rw[E' u o z] at _d;cases _d
  have _f:∀{e:Addr},f e=none->e∉(r::x.tk::x.lp::x.rl::x.out):=λ{e} he z=>by
   have:=B.rep.av e z
   cases l:H0 e with
   | none=>exact this l
   | some o=>rw[U' e o l] at he;cases he
  have _R:u≠tt:=λz=>by rw[z,t1] at t2;cases t2
  have _g:∀e o,f e=some o->ah _a tt (.ins CT D' (bM "part" (V.ref a) (nP u ((s.e+4:Nat):Int) _b .aE))) e=some o:=λe o he=>by
   rw[ak (a6 he _e)];exact _P e o he
  refine _h tt _ c' _ _B ⟨D',u,((s.e+4:Nat):Int),_b,.ref a,au,_f _e,by rw[ak _R];exact t2,_f _Q,by rw[_C],a,O,⟨dp,dl,_g _ _ j',_i t⟩,?_⟩ (U'.trans _g);rw[N];exact⟨v',kr.mp K',_A⟩
 have ao':=b';refine⟨_,O,O,_,O,kq (λF'=>?_) λF'=>?_⟩
 ·
  cases m:disorder ss c.parts p0.stream p0.time p0.flags with
  | none=>
   exfalso;apply F';show hB (disorder ss c.parts p0.stream p0.time p0.flags)= -1;rw[m]
   rfl
  | some i=>
   have _S:hB (disorder ss c.parts (p0.info c.at_).stream (p0.info c.at_).time (p0.info c.at_).flags)=(i:Int):=by
    show hB (disorder ss c.parts p0.stream p0.time p0.flags)=(i:Int);rw[m];rfl
   rw[_S];have _T:=i' _ _ Y;refine⟨_,O,r,dr,_,_,O,_T,O,O,_,O,?_⟩;have hm:=B.rep.ae;refine bx (λq'=>?_) λq'=>?_
   .have _U:ae=false:=by
     cases ae with
     | false=>rfl
     | true=>rw[az O] at hm;rw[hm] at q';cases q'
    obtain⟨I,J⟩:=C.ins
    have _V:∃y:Nat,f5 ([(w:Int),(A:Int),(I':Int),(n:Int)].map V.int) (i:Int)=some (V.int (y:Int))/\[w,A,n,n].getD i 0=y:=by
     rcases EV m with rfl | rfl | rfl
     .exact⟨w,gf O,O⟩
     .exact⟨A,gf O,O⟩
     .exact⟨n,gf O,O⟩
    obtain⟨y,_W,_X⟩:=_V;refine⟨_,O,bo,I,_,_,O,J,O,_,O,s.pl,_,_,_,O,O,ay.of C.bH,_W,_,_,O,G' 5 p0.stream y R' ?_ C.stream i'⟩;unfold d8;rw[b'];simp only[m,_U,_X];rfl
   .have _Y:ae=true:=by
     cases ae with
     | true=>rfl
     | false=>rw[ar aJ] at hm;exact absurd hm q'
    refine⟨_,O,a,dp,_,_,O,z',O,_,_,O,O,dp,_,z',lk,?_⟩;obtain⟨I,J⟩:=C.ins;refine fin (p0.flags+128) _ {p0 with flags:=p0.flags+128} ⟨.box,s.e+4,c.streams,c.parts++[LwReel.Part.info {p0 with flags:=p0.flags+128} c.at_],true⟩ O af ?_ O (λe o he=>?_) (by rw[au];rfl) (by rw[ak L'.symm];exact S') ⟨I,by rw[ak O'.symm];exact J⟩ _
    .unfold d8;rw[b'];simp only[m,_Y,c2];rfl
    .rw[ak (a6 he (n0 t))];exact i' e o he
 .cases m:disorder ss c.parts p0.stream p0.time p0.flags with
  | some i=>
   exfalso;have:hB (disorder ss c.parts p0.stream p0.time p0.flags)= -1:=F';rw[m] at this;unfold hB at this;simp only at this
   omega
  | none=>
   obtain⟨I,J⟩:=C.ins;refine fin p0.flags R' p0 ⟨.box,s.e+4,c.streams,c.parts++[p0.info c.at_],c.lost⟩ O af ?_ O i' z' S' ⟨I,J⟩ _;unfold d8;rw[b'];simp only[m]
inductive HK (CB CT CR CL CS CP:Addr)(vs:List V)(H:Hp)(Q:VK)(E:XK):Prop
 | mk (r bo:Addr) (H0:Hp) (x:RX) (ae closed:Bool) (b:Bytes) (c:bb) (ps:List (Addr×Info)) (s:BS) (ss:List LwReel.Stream) (_:vs=[.ref r,.ref bo]) (_:jX CB CR CL CS CP H0 H r bo x ae closed b c ps s) (_:c.streams=some ss) (_:(∀(a:Addr) (c':bb) H',d4 ae c ss (s.X.drop s.at_) (s.e+4)=(.index,c')->f7 CT CS CP (r::x.tk::x.lp::x.rl::x.out) H' a c .index c'->ao H0 H'->Q (.ref a) H')) (_:(∀(k q:Nat) H',d4 ae c ss (s.X.drop s.at_) (s.e+4)=(.fault k 0 q,c.b7 ae)->e_ CB H' bo 0->ao H0 H'->E (k:Int) (q:Int) H'))
inductive xr (CB CT CR CL CS CP:Addr)(vs:List V)(H:Hp)(Q:VK)(_:XK):Prop
 | mk (r bo:Addr) (H0:Hp) (x:RX) (ae closed:Bool) (b:Bytes) (c:bb) (ps:List (Addr×Info)) (pl:Addr) (_:vs=[.ref r,.ref bo]) (_:jX CB CR CL CS CP H0 H r bo x ae closed b c ps ⟨x.tk,b,c.at_+12,c.at_+12+lengthOf (b.drop c.at_),pl,[],0⟩) (_:12<=(b.drop c.at_).length) (_:16+lengthOf (b.drop c.at_)<=(b.drop c.at_).length) (_:opening b c.at_ (cS c.streams c.parts)=none) (_:∀v H',eB CT CS CP (r::x.tk::x.lp::x.rl::x.out) H' v c (dE ae closed b c)->ao H0 H'->Q v H')
theorem LM {al:UInt8->Bool}(h:opening b p al=none)(c:4<=(b.drop p).length):(b.drop p)[3]?=some (cD b p)/\al (cD b p)=true:=by
 have e:(b.drop p)[3]?=some (cD b p):=by unfold cD;rw[dy af];rfl
 refine⟨e,?_⟩;unfold opening at h
 cases a:firstWrong LwReel.MARK (b.drop p) p with
 | some q=>rw[a] at h;cases h
 | none=>
  rw[a] at h;simp only[e] at h
  cases ha:al (cD b p) with
  | true=>rfl
  | false=>rw[az ha] at h;cases h
theorem IK (h:1<=ss.length/\ss.length<=4/\∀s∈ss,s.right=true):qI ss:=by
 refine⟨⟨λs hs=>?_,λs hs=>?_⟩,h.1,h.2.1⟩
 .have:=h.2.2 s hs;unfold LwReel.Stream.right at this;simp only[cH,dz] at this;exact this.2.2.1
 .have:=h.2.2 s hs;unfold LwReel.Stream.right at this;simp only[cH,dz] at this;exact this.2.2.2.2.1
theorem GJ (h:LwReel.run rHead b p= .ok ss):qI ss:=IK (RM.vk h)
theorem oz {k:UInt8}(a:n<256):((k.toNat:Int)=(n:Int))↔k=UInt8.ofNat n:=by
 constructor
 .intro h;apply UInt8.toNat_inj.mp;have:k.toNat=n:=af;rw[this];simp;omega
 .intro h;rw[h];simp;omega
theorem jX.crc {H0 H:Hp}{r bo pl:Addr}{x:RX}{ae closed:Bool}{b:Bytes}{c:bb}{ps:List (Addr×Info)}(B:jX CB CR CL CS CP H0 H r bo x ae closed b c ps ⟨x.tk,b,c.at_+12,c.at_+12+lengthOf (b.drop c.at_),pl,[],0⟩)(a:16+lengthOf (b.drop c.at_)<=(b.drop c.at_).length):LwReel.same (crc (((b.drop c.at_).drop 12).take (lengthOf (b.drop c.at_)))) (((b.drop c.at_).drop (12+lengthOf (b.drop c.at_))).take 4)=
 decide (eG ((BS.X ⟨x.tk,b,c.at_+12,c.at_+12+lengthOf (b.drop c.at_),pl,[],0⟩).drop (c.at_+12))=ofLe ((b.drop (c.at_+12+lengthOf (b.drop c.at_))).take 4))/\
 ((b.drop c.at_).drop 12).take (lengthOf (b.drop c.at_))=(BS.X ⟨x.tk,b,c.at_+12,c.at_+12+lengthOf (b.drop c.at_),pl,[],0⟩).drop (c.at_+12):=by
 have d:(b.drop c.at_).length=b.length - c.at_:=bQ
 have e1:((b.drop c.at_).drop 12).take (lengthOf (b.drop c.at_))=(BS.X ⟨x.tk,b,c.at_+12,c.at_+12+lengthOf (b.drop c.at_),pl,[],0⟩).drop (c.at_+12):=by
  unfold BS.X;rw[fv,iB,s6]
 refine⟨?_,e1⟩;rw[RM.qA (by rw[cF,bQ];omega),e1,fv,pB]
variable (wh:Fn K mg "look_at_body" BK ["reader","body"])
variable (lQ:aS P w K mg base (bZ P w CF) 12 "index_thing" ["reader","body"] (HK CB CT CR CL CS CP))
variable (nL:aS P w K mg base ba 13 "look_at_body" ["reader","body"] (xr CB CT CR CL CS CP))
include ag aM bf iw aN f6 mb ny wh lQ in
theorem Jx:type_of% nL:=by
 refine bJ wh ["reader","body","kind","fault"] ?_;rintro G' H vs Q E I v ⟨r,bo,H0,x,ae,closed,b,c,ps,pl,rfl,B,I',j',J,q⟩ J' K'
 refine⟨_,aj (aW 2 I (cz cC (aw aN (pv 0)) (aR cJ (aw aN (pv 0)) aL) (λ_ _=>rfl)))
  (aq (w4 (i:=3) bf O I O O O O
   (λxe pn ax hx L'=>aj (bU (bI iw hx v (aB (pv 1))))
    (aj (aZ (aY bW (pv 2) (aA ag.qD)) (aq (aI (bI mb hx v (aB (pv 1))))) a7)
    (aj (aZ (aY bW (pv 2) (aA ag.qC)) (aq (aI (bI ny hx v (aF (pv 0) (pv 1))))) a7)
    (aq (aI (bI lQ hx v (aF (pv 0) (pv 1))))))))
   (λe k p pn M=>aq (aI (uN f6 (v.mark aJ O) O (a_ (pv 0) (a_ (p7 bf M (.inl ⟨O,O⟩) (pv 3)) (aF (aw aM (pv 1)) (p7 bf M (.inr ⟨O,O⟩) (pv 3)))))))))),?_⟩
 refine fJ ?_
 intros
 obtain⟨dr,N⟩:=B.rep.ins;have T:=(B.rep.at_ (.inl B.box)).1;have M':(b.drop c.at_).length=b.length - c.at_:=bQ;obtain⟨U,g⟩:=LM J af;have Y:=U;rw[lI] at Y;obtain⟨k',l'⟩:=B.crc j';generalize m':lengthOf (b.drop c.at_)=L at*;generalize N':cD b c.at_=m at*
 have d:dE ae closed b c=if eG ((BS.X ⟨x.tk,b,c.at_+12,c.at_+12+L,pl,[],0⟩).drop (c.at_+12))=ofLe ((b.drop (c.at_+12+L)).take 4) then
  some (RM.fQ ae c m ((BS.X ⟨x.tk,b,c.at_+12,c.at_+12+L,pl,[],0⟩).drop (c.at_+12)) (c.at_+12+L+4)) else some (.fault 6 0 (c.at_+12+L),c.b7 ae):=by
  unfold dE;rw[RM.jH,J];simp only[m'];rw[ar af,ar af,k',l',U];by_cases z:eG ((BS.X ⟨x.tk,b,c.at_+12,c.at_+12+L,pl,[],0⟩).drop (c.at_+12))=ofLe ((b.drop (c.at_+12+L)).take 4)
  .rw[az z,ar (by rw[cR z];decide)];simp only;rw[show c.at_+16+L=c.at_+12+L+4 by omega]
  .rw[ar z,az (dC z)]
 have w:∀(k st p:Nat) (H1:Hp) (b':V),dE ae closed b c=some (.fault k st p,c.b7 ae)->e_ CB H1 bo (st:Int)->ao H0 H1->∀e,H1 e=none->
  kE (jZ (sE CR CT) [] E0 (c9 (c_ 0) (c9 (sD 3 e (.int (k:Int))) (c9 (tF CB (c_ 1) "stream") (c9 (sD 3 e (.int (p:Int))) eE))))) (qx 3 {nx:=λ_ H'=>Q .aE H',rt:=Q}) [some (.ref r),some (.ref bo),some b',some (.ref e)] H1:=by
  intro k st p H1 b' hs p' s e he;obtain⟨q',fs,r',u'⟩:=p';refine⟨_,O,O,_,O,bo,q',_,_,O,r',u',O,r,x,_,_,_,O,⟨dr,s _ _ N⟩,λa H2 t=>q _ _ ?_ (s.trans t.same)⟩;rw[hs];rw[T] at t;exact⟨a,O,t.fault (B.rep.same s).av O⟩
 have e':=B.sm _ _ N;refine⟨_,O,r,dr,_,_,O,e',O,_,O,r,dr,_,_,O,e',O,_,_,O,O,x.tk,_,_,_,O,O,ay.of (B.sm _ _ B.rep.tk),f_ (j:=c.at_+3) (by rw[T];omega) (kY Y),_,O,bo,_,O,B.body,by show c.at_+12+L+4<=b.length;omega,λH1 hc s=>?_,λH1 hc s=>?_⟩
 rotate_left
 .rw[ar hc] at d;exact w 6 0 (c.at_+12+L) H1 _ d (B.body.same s).stream (B.sm.trans s)
 rw[az hc] at d;have u:jX CB CR CL CS CP H0 H1 r bo x ae closed b c ps ⟨x.tk,b,c.at_+12,c.at_+12+L,pl,[],0⟩:=⟨B.rep,B.box,B.sm.trans s,B.nb,B.np,B.body.same s,B.at_,B.vg,B.rj⟩;refine⟨_,O,O,_,O,bx (λA=>?_) λA=>?_⟩
 ·
  have v':m=HEAD:=(oz (k:=m) (n:=72) aJ).mp A
  have w':c.streams=none:=by
   cases hs:c.streams with
   | none=>rfl
   | some ss=>
    rw[hs,v'] at g;have:cS (some ss) c.parts HEAD=false:=by unfold cS;rfl
    rw[this] at g;cases g
  unfold RM.fQ RM.hE at d;rw[w'] at d;simp only at d;refine⟨_,O,bo,_,O,u.body,b3 _,λss a H2 dx y' z' f h1 h2 A' B' C' C=>?_,λk p H2 he hs C=>?_⟩
  .have l:=u.same C;have f:LwReel.run rHead ((BS.X ⟨x.tk,b,c.at_+12,c.at_+12+L,pl,[],0⟩).drop (c.at_+12)) (c.at_+12)= .ok ss:=f;rw[f] at d;refine q _ _ ?_ l;rw[d]
   have D:∀e∈(r::x.tk::x.lp::x.rl::x.out),H1 e≠none:=λe he z=>by
    have:=u.rep.av e he
    cases f':H0 e with
    | none=>exact this f'
    | some o=>rw[u.sm e o f'] at z;cases z
   exact⟨a,O,dx,y',_,z',.aE,h1,λz=>D _ z A',h2,λz=>D _ z B',O,ss,O,C'.off D,GJ f⟩
  .have l:=u.same C;have he:LwReel.run rHead ((BS.X ⟨x.tk,b,c.at_+12,c.at_+12+L,pl,[],0⟩).drop (c.at_+12)) (c.at_+12)= .error (k,p):=he;rw[he] at d;exact w k 0 p H2 _ d hs l
 .refine⟨_,O,O,_,O,?_⟩;have D':m≠HEAD:=λz=>A ((oz (k:=m) (n:=72) aJ).mpr z)
  obtain⟨ss,y⟩:∃ss,c.streams=some ss:=by
   cases hs:c.streams with
   | some ss=>exact⟨ss,O⟩
   | none=>
    rw[hs] at g;unfold cS at g;simp only[Option.isNone_none,c2,fX] at g;exact absurd g D'
  unfold RM.fQ at d;rw[y] at d;simp only at d;refine bx (λG=>?_) λG=>?_
  .have i':m=PART:=(oz (k:=m) (n:=80) aJ).mp G;rw[az i'] at d
   have E':c.parts.length<16:=by
    rw[y,i'] at g;unfold cS at g;simp only[Option.isNone_some,mW,dV,lV,cH,dz] at g;rcases g with⟨_,h⟩ | h
    .exact h
    .cases h
   refine⟨_,O,_,O,r,bo,H0,x,ae,closed,b,c,ps,_,ss,O,u,y,E',λa p c' H2 f t l=>q _ _ ?_ l,λk st p H2 f hs l=>?_⟩
   .rw[d,show d8 ae c ss ((BS.X ⟨x.tk,b,c.at_+12,c.at_+12+L,pl,[],0⟩).drop (c.at_+12)) (c.at_+12+L+4)=_ from f];exact⟨a,O,t⟩
   .rw[show d8 ae c ss ((BS.X ⟨x.tk,b,c.at_+12,c.at_+12+L,pl,[],0⟩).drop (c.at_+12)) (c.at_+12+L+4)=_ from f] at d;exact w k st p H2 _ d hs l
  .have F':m≠PART:=λz=>G ((oz (k:=m) (n:=80) aJ).mpr z);rw[ar F'] at d;refine⟨_,O,_,O,r,bo,H0,x,ae,closed,b,c,ps,_,ss,O,u,y,λa c' H2 f t l=>q _ _ ?_ l,λk p H2 f hs l=>?_⟩
   .rw[d,show d4 ae c ss ((BS.X ⟨x.tk,b,c.at_+12,c.at_+12+L,pl,[],0⟩).drop (c.at_+12)) (c.at_+12+L+4)=_ from f];exact⟨a,O,t⟩
   .rw[show d4 ae c ss ((BS.X ⟨x.tk,b,c.at_+12,c.at_+12+L,pl,[],0⟩).drop (c.at_+12)) (c.at_+12+L+4)=_ from f] at d;exact w k 0 p H2 _ d hs l
inductive F_ (K:Frag)(CR CL CS CP:Addr)(vs:List V)(H:Hp)(Q:VK)(_:XK):Prop
 | mk (r:Addr) (x:RX) (ae closed:Bool) (b:Bytes) (c:bb) (ps:List (Addr×Info)) (_:vs=[.ref r]) (_:bF CR CL CS CP H r x ae closed b c ps) (_:∀(kt:Addr) (ks:List Int) H',cI K H' kt (ks.map V.int)->(∀u:UInt8,cS c.streams c.parts u=decide ((u.toNat:Int)∈ks))->ao H H'->Q (.ref kt) H')
inductive DT (CR CL CT CS CP:Addr)(vs:List V)(H:Hp)(Q:VK)(_:XK):Prop
 | mk (r:Addr) (x:RX) (ae closed:Bool) (b:Bytes) (c:bb) (ps:List (Addr×Info)) (_:vs=[.ref r]) (_:bF CR CL CS CP H r x ae closed b c ps) (_:c.aU= .box) (_:∀v (o:Bool) H',bF CR CL CS CP H' r {x with opr:=o} ae closed b c ps->eB CT CS CP (r::x.tk::x.lp::x.rl::x.out) H' v c (aV ae closed b c)->Kp [r] H H'->Q v H')
variable (uS:Fn K mg "look_at_box" yH ["reader"])
variable (mH:aS P w K mg base ba 5 "kinds_due" ["reader"] (F_ K CR CL CS CP))
variable (mj:aS P w K mg base ba 14 "look_at_box" ["reader"] (DT CR CL CT CS CP))
include ag bf gI iC aN f6 nL uS mH in
theorem J9:type_of% mj:=by
 refine bJ uS ["reader","fault","body"] ?_;rintro p' H vs Q E D l ⟨r,x,ae,closed,b,c,ps,rfl,R,hd,q⟩ q' r'
 refine⟨_,aj (aZ (m7 (d2 (aw aN (pv 0))))
  (aj (w4 (i:=1) bf O D O O O O
   (λxe pn ax hx u'=>aq (bU (bI gI hx l (a_ (aw aN (pv 0)) (aF (aw aN (pv 0)) (aO mH l (aB (pv 0))))))))
   (λe k p pn G=>aq (aI (uN f6 (l.mark aJ O) O (a_ (pv 0) (a_ (p7 bf G (.inl ⟨O,O⟩) (pv 1)) (aF aL (p7 bf G (.inr ⟨O,O⟩) (pv 1)))))))))
  (aq (bz aN (pv 0) (hU jP (aR d_ (bX ag (aw aN (pv 0))) (aw aN (pv 0))) (aA ag.nj) (hI _))))) a7)
  (aj (aW 2 D (aO iC l (aF (aw aN (pv 0)) (aw aN (pv 0)))))
  (aj (aZ (kn (B1 (pv 2))) (aq (aI (aO nL l (aF (pv 0) (pv 2))))) a7)
  (aj (aZ (d2 (aw aN (pv 0))) (aq (aI (aO f6 l (a_ (pv 0) (a_ (aA ag.D8) (aF aL (bX ag (aw aN (pv 0))))))))) a7)
  (aq (aI gG))))),?_⟩
 refine hJ ?_
 intros
 have w:aV ae closed b c=dE ae closed b c:=by unfold aV;rw[hd]
 obtain⟨n,I⟩:=R.at_ (.inl hd);have v':=R.cZ;have w':(b.drop c.at_).length=b.length - c.at_:=bQ
 have rest:∀(H1:Hp) (o:Bool) (J:Option V),bF CR CL CS CP H1 r {x with opr:=o} ae closed b c ps->opening b c.at_ (cS c.streams c.parts)=none->Kp [r] H H1->
  aC (jI (jZ (yV CB) [] E0 (c9 (tF CR (c_ 0) "taken") (c9 (tF CR (c_ 0) "place") eE))) (gQ 2))
   (aC (uh (tB (z9 (c_ 2))) (kE (jZ (xr CB CT CR CL CS CP) [] E0 (c9 (c_ 0) (c9 (c_ 2) eE)))) ve)
   (aC (uh (tB (tF CR (c_ 0) "closed")) (kE (jZ (sE CR CT) [] E0 (c9 (c_ 0) (c9 (tC (V.int 8)) (c9 (tC (V.int 0)) (c9 (pG (λxs H Q=>∃p ys,xs=[.ref p]/\(ay K H p ys∨cI K H p ys)/\Q (.int ys.length) H) (c9 (tF CR (c_ 0) "taken") eE)) eE)))))) ve)
   (kE (tC .aE)))) {nx:=λ_ H'=>Q .aE H',rt:=Q} [some (.ref r),J,none] H1:=by
  intro H1 o J d h k1;obtain⟨dr,f⟩:=d.ins;refine⟨_,O,r,dr,_,_,O,f,O,_,O,r,dr,_,_,O,f,O,x.tk,b,c.at_,?_,d.tk,I,af,λy'=>?_,λT U bo pl H2 nb np Y j=>?_⟩
  .rw[show(RX.place {x with opr:=o})=x.place from O,n];rfl
  ·
   have y:dE ae closed b c=if closed=true then some (.fault 8 0 b.length,c.b7 ae) else none:=by
    unfold dE;rw[RM.jH,h];simp only;by_cases z:(b.drop c.at_).length<12
    .rw[az z]
    .rw[ar z,az af]
   refine⟨_,O,_,O,kl (λz=>absurd O z) λ_=>⟨_,O,r,dr,_,_,O,f,O,_,O,?_⟩⟩;have M:=d.closed
   (try dsimp only at M)
   rw[M];refine ff (λhc=>?_) λhc=>?_
   .rw[az hc] at y;refine⟨_,O,_,O,r,dr,_,_,O,f,O,x.tk,_,O,.inl (ay.of d.tk),r,{x with opr:=o},_,_,_,O,⟨dr,f⟩,λa t g=>q _ o t (d.same g.same) ?_ (k1.trans (Kp.same g.same))⟩;rw[w,y];rw[bu] at g;exact⟨a,O,g.fault d.av n⟩
   .rw[ar (by rw[hc];decide)] at y;refine q _ o H1 d ?_ k1;rw[w,y];rfl
  .refine⟨_,O,_,O,kl (λ_=>?_) λz=>(by cases z)⟩;refine⟨_,O,_,O,r,bo,H1,{x with opr:=o},ae,closed,b,c,ps,pl,O,⟨d,hd,j,nb,np,Y,O,O,O⟩,T,U,h,λv t b' N=>q v o t (d.same N) (by rw[w];exact b') (k1.trans (Kp.same N))⟩
 obtain⟨dr,f⟩:=R.ins;refine⟨_,O,r,dr,_,_,O,f,O,_,O,ff (λA=>?_) λA=>?_⟩
 .refine⟨_,O,r,dr,_,_,O,f,O,_,O,r,dr,_,_,O,f,O,_,O,r,x,ae,closed,b,c,ps,O,R,λe' f' H1 i' j' C=>?_⟩;have d:=R.same C;refine⟨x.tk,e',b,c.at_,f',cS c.streams c.parts,?_,ay.of d.tk,i',I,af,j',λH2 h j=>?_,λk k' H2 h j=>?_⟩
  .rw[n]
  .have R2:=d.same j;obtain⟨m,u⟩:=R2.ins;refine⟨_,O,r,m,_,_,O,u,O,x.tk,_,O,.inl (ay.of R2.tk),_,O,r,m,_,_,O,u,O,_,_,O,O,_,_,O,O,_,O,r,m,_,O,u,lk,?_⟩;rw[bu,n];refine rest _ (decide ((12:Int)<=(b.length:Int) - (c.at_:Int))) none ?_ h ((Kp.same (C.trans j)).trans (Kp.upd (by simp)));refine R2.set ⟨m,?_⟩ (Kp.upd (by simp)) O O O O O O O O R2.at_ R2.seek (λz=>⟨hd,h,?_⟩)
   .rw[au];rfl
   .have z:decide ((12:Int)<=(b.length:Int) - (c.at_:Int))=true:=z;have:=dS z;omega
  .intro e he;have R2:=d.same j;obtain⟨m,u⟩:=R2.ins
   have l':dE ae closed b c=some (.fault k 0 k',c.b7 ae):=by
    unfold dE;rw[RM.jH,h]
   refine⟨_,O,O,O,r,x,_,_,_,O,⟨m,u⟩,λa t g=>q _ x.opr t (R2.same g.same) ?_ (Kp.same ((C.trans j).trans g.same))⟩;rw[w,l'];exact⟨a,O,g.fault (s:=0) R2.av n⟩
 .have m':x.opr=true:=by
   cases z:x.opr with
   | true=>rfl
   | false=>rw[z] at A;cases A
  exact rest H x.opr none R (R.opr m').2.1 Kp.refl
theorem eB.kp {be:List Addr}{H H':Hp}{v:V}{c:bb}{o:Option (LwReel.Thing×bb)}(h:eB CT CS CP be H v c o)(k:Kp be H H'):eB CT CS CP be H' v c o:=by
 cases o with
 | none=>exact h
 | some y=>obtain⟨t,c'⟩:=y;obtain⟨a,e,z⟩:=h;exact⟨a,e,z.kp k⟩
inductive Lr (CR CL CT CS CP:Addr)(vs:List V)(H:Hp)(Q:VK)(_:XK):Prop
 | mk (r:Addr) (x:RX) (ae closed:Bool) (b:Bytes) (c:bb) (ps:List (Addr×Info)) (_:vs=[.ref r]) (_:bF CR CL CS CP H r x ae closed b c ps) (_:((x.pend= .aE/\∀x' H',bF CR CL CS CP H' r x' ae closed b c ps->x'.tk=x.tk->x'.lp=x.lp->x'.ls=x.ls->x'.rl=x.rl->x'.out=x.out->eB CT CS CP (r::x.tk::x.lp::x.rl::x.out) H' x'.pend c (nextT ae closed b c)->Kp [r] H H'->Q .aE H')∨(x.pend≠ .aE/\Q .aE H)))
theorem bF.Ak {x:RX}{c:bb}(R:bF CR CL CS CP H r x ae closed b c ps)(v:V):bF CR CL CS CP (ah H r (.ins CR dx (b8 {x with pend:=v}))) r {x with pend:=v} ae closed b c ps:=
 R.set ⟨dx,au⟩ (Kp.upd (by simp)) O O O O O O O O R.at_ R.seek R.opr
variable (se:Fn K mg "look" BC ["reader"])
variable (fS:aS P w K mg base ba 15 "look" ["reader"] (Lr CR CL CT CS CP))
include ag aN di nB mV mj se in
theorem EO:type_of% fS:=by
 refine bJ se ["reader"] ?_;rintro w H vs Q E y m ⟨r,x,ae,closed,b,c,ps,rfl,R,q⟩ A C
 refine⟨_,aj (aZ (kn (B1 (aw aN (pv 0)))) (aq Dn) a7)
  (aq (aZ (aY bW (aw aN (pv 0)) (aA ag.r3)) (aq (bz aN (pv 0) (aO mj m (aB (pv 0)))))
   (aq (aZ (aY bW (aw aN (pv 0)) (aA ag.xo)) (aq (bz aN (pv 0) (aO nB m (aB (pv 0)))))
    (aq (aZ (aY bW (aw aN (pv 0)) (aA ag.wU)) (aq (bz aN (pv 0) (aO mV m (aB (pv 0)))))
     (aq (bz aN (pv 0) (dj di m (aF (bK (aB (aA ag.pQ))) (aw aN (pv 0)))))))))))),?_⟩
 refine fJ ?_
 intros
 obtain⟨dr,f⟩:=R.ins;refine⟨_,O,r,dr,_,_,O,f,O,_,O,?_⟩;rcases q with⟨n,q⟩ | ⟨n,q⟩
 rotate_left
 .exact kl (λ_=>q) λz=>absurd z n
 refine kl (λz=>absurd n z) λ_=>?_
 have put:∀{v:V} {H1:Hp} {g:RX},bF CR CL CS CP H1 r g ae closed b c ps->g.tk=x.tk->g.lp=x.lp->g.ls=x.ls->g.rl=x.rl->g.out=x.out->eB CT CS CP (r::x.tk::x.lp::x.rl::x.out) H1 v c (nextT ae closed b c)->Kp [r] H H1->∀{dx:Addr},H1 r=some (.ins CR dx (b8 g))->
  Q .aE (ah H1 r (.ins CR dx (bM "pending" v (b8 g)))):=λ{v H1 g} e e1 u e3 e4 e5 j k1 {dx} h1=>
  q {g with pend:=v} _ (e.Ak v) e1 u e3 e4 e5 (j.kp (Kp.upd (by simp))) (k1.trans (Kp.upd (by simp)))
 have d:=R.aU;refine⟨_,O,r,dr,_,_,O,f,O,O,_,O,?_⟩
 cases hd:c.aU with
 | box=>
  rw[hd] at d;refine bx (λ_=>?_) λz=>absurd d z;have h:nextT ae closed b c=aV ae closed b c:=by unfold nextT;rw[ar (by rw[hd];decide)]
  refine⟨_,O,r,x,ae,closed,b,c,ps,O,R,hd,λv o H1 e j k1=>?_⟩;obtain⟨i,h1⟩:=e.ins
  exact⟨_,O,r,i,_,O,h1,lk,put e O O O O O (by rw[h];exact j) k1 h1⟩
 | tail=>
  rw[hd] at d;refine bx (λz=>by rw[d] at z;cases z) λ_=>⟨_,rfl,r,dr,_,_,rfl,f,rfl,rfl,_,rfl,bx (λ_=>?_) λz=>absurd d z⟩;have h:nextT ae closed b c=aV ae closed b c:=by unfold nextT;rw[ar (by rw[hd];decide)]
  refine⟨_,O,r,x,ae,closed,b,c,ps,O,R,hd,λv H1 j t=>?_⟩;have e:=R.same t;obtain⟨i,h1⟩:=e.ins
  exact⟨_,O,r,i,_,O,h1,lk,put e O O O O O (by rw[h];exact j) (Kp.same t) h1⟩
 | search=>
  rw[hd] at d;refine bx (λz=>by rw[d] at z;cases z) λ_=>⟨_,rfl,r,dr,_,_,rfl,f,rfl,rfl,_,rfl,bx (λz=>by rw[d] at z;cases z) λ_=>⟨_,rfl,r,dr,_,_,rfl,f,rfl,rfl,_,rfl,bx (λ_=>?_) λz=>absurd d z⟩⟩;have h:nextT ae closed b c=aV ae closed b c:=by unfold nextT;rw[ar (by rw[hd];decide)]
  refine⟨_,O,r,x,ae,closed,b,c,ps,O,R,hd,λv pl H1 e j k1=>?_⟩;obtain⟨i,h1⟩:=e.ins
  exact⟨_,O,r,i,_,O,h1,lk,put e O O O O O (by rw[h];exact j) k1 h1⟩
 | over=>
  rw[hd] at d;refine bx (λz=>by rw[d] at z;cases z) λ_=>⟨_,rfl,r,dr,_,_,rfl,f,rfl,rfl,_,rfl,bx (λz=>by rw[d] at z;cases z) λ_=>⟨_,rfl,r,dr,_,_,rfl,f,rfl,rfl,_,rfl,bx (λz=>by rw[d] at z;cases z) λ_=>⟨(by show 1<=sizeLine;decide),λp l=>?_⟩⟩⟩;have s:r≠p:=λz=>by rw[z,l] at f;cases f
  refine⟨_,O,r,dr,_,_,O,(by rw[ak s];exact f),O,hW (b5:=[6]) l λa H1 k=>?_⟩;have e:=R.same k.same;obtain⟨i,h1⟩:=e.ins;refine⟨_,O,r,i,_,O,h1,lk,put e O O O O O ?_ (Kp.same k.same) h1⟩;have h:nextT ae closed b c=some (.end_,⟨.done,c.at_,c.streams,c.parts,c.lost⟩):=by unfold nextT aV;rw[hd];rfl
  rw[h]
  exact⟨a,O,k.end_ R.av⟩
 | done=>
  rw[hd] at d;refine bx (λz=>by rw[d] at z;cases z) λ_=>⟨_,rfl,r,dr,_,_,rfl,f,rfl,rfl,_,rfl,bx (λz=>by rw[d] at z;cases z) λ_=>⟨_,rfl,r,dr,_,_,rfl,f,rfl,rfl,_,rfl,bx (λz=>by rw[d] at z;cases z) λ_=>⟨(by show 1<=sizeLine;decide),λp l=>?_⟩⟩⟩;have s:r≠p:=λz=>by rw[z,l] at f;cases f
  refine⟨_,O,r,dr,_,_,O,(by rw[ak s];exact f),O,hW (b5:=[6]) l λa H1 k=>?_⟩;have e:=R.same k.same;obtain⟨i,h1⟩:=e.ins;refine⟨_,O,r,i,_,O,h1,lk,put e O O O O O ?_ (Kp.same k.same) h1⟩;have h:nextT ae closed b c=some (.end_,c):=by unfold nextT;rw[az hd]
  rw[h];exact⟨a,O,k.end_ R.av⟩
noncomputable def pW (ae:Bool)(a:Bool)(x:RX):RX:=if ae=true/\a=true then{x with aU:=2,place:=x.place+1,lost:=true} else{x with aU:=3}
inductive Hf (CR CL CS:Addr)(vs:List V)(H:Hp)(Q:VK)(_:XK):Prop
 | mk (r dx:Addr) (x:RX) (ae:Bool) (o:Option (List LwReel.Stream)) (_:vs=[.ref r]) (_:H r=some (.ins CR dx (b8 x))) (_:x.ae=(if ae=true then 1 else 0)) (_:jY CS (r::x.tk::x.lp::x.rl::x.out) H x.ls o) (_:(∃dq,H x.rl=some (.ins CL dq (gd x.ls x.lp)))) (_:∀H',H' r=some (.ins CR dx (b8 (pW ae o.isSome x)))->Kp [r] H H'->Q .aE H')
theorem jY.len {be:List Addr}{H:Hp}{l:Addr}{o:Option (List LwReel.Stream)}(h:jY CS be H l o):∃ys,H l=some (.lst ys)/\(ys.length=0↔o.isSome=false)/\ys.length=(o.getD []).length:=by
 cases o with
 | none=>exact⟨[],h.1,by simp,O⟩
 | some ss=>
  obtain⟨⟨as,h1,_,h2,_⟩,ok⟩:=h;have:=ok.one;refine⟨_,h1,?_,by rw[aX,h2];rfl⟩;rw[aX,h2];simp only[Option.isSome_some];constructor
  .intro z;omega
  .intro z;cases z
variable (uE:Fn K mg "leave_fault" x4 ["reader"])
variable (mo:aS P w K mg base ba 5 "leave_fault" ["reader"] (Hf CR CL CS))
include ag bG aN uE in
theorem EX:type_of% mo:=by
 refine bJ uE ["reader"] ?_;rintro i H vs Q E j k ⟨r,dx,x,ae,o,rfl,a,hm,d,⟨e,f⟩,q⟩ l m
 refine⟨_,aq (aZ (PW.pt (gp (aY bW (aw aN (pv 0)) aL) (gu (aY bW (bX ag (aw bG (aw aN (pv 0)))) aL))))
  (aq (bz aN (pv 0) (aA ag.wD)))
  (aj (bz aN (pv 0) (aA ag.wU)) (aj (hT aN (pv 0) aL iQ) (aq (bz aN (pv 0) dN))))),?_⟩
 obtain⟨ys,hy,c,_⟩:=d.len
 have over:¬(ae=true/\o.isSome=true)->Q .aE (ah H r (.ins CR dx (bM "due" (V.int 3) (b8 x)))):=λz=>by
  refine q _ ?_ (Kp.upd (by simp));rw[au];unfold pW;rw[ar z];rfl
 refine⟨_,O,r,dx,_,_,O,a,O,O,_,O,bx (λb=>?_) λb=>?_⟩
 .refine gR ⟨_,O,r,dx,_,O,a,lk,over λz=>?_⟩;rw[z.1,az O] at hm;rw[hm] at b;cases b
 .have g:ae=true:=by
   cases ae with
   | true=>rfl
   | false=>rw[ar aJ] at hm;exact absurd hm b
  refine⟨_,O,r,dx,_,_,O,a,O,x.rl,e,_,_,O,f,O,x.ls,_,O,.inl (ay.of hy),O,_,O,bx (λh=>?_) λh=>?_⟩
  .refine⟨_,O,r,dx,_,O,a,lk,over λz=>?_⟩;rw[c.mp af] at z;cases z.2
  .have hs:o.isSome=true:=by
    cases z:o.isSome with
    | true=>rfl
    | false=>exact absurd (c.mpr z) af
   refine⟨_,O,r,dx,_,O,a,lk,_,O,r,dx,_,_,O,au,O,_,_,O,O,dx,_,au,lk,_,O,r,dx,_,O,au,lk,q _ ?_ (((Kp.upd (by simp)).trans (Kp.upd (by simp))).trans (Kp.upd (by simp)))⟩;rw[au];unfold pW;rw[az ⟨g,hs⟩];rfl
inductive GV (CR CL CT CS CP:Addr)(vs:List V)(H:Hp)(Q:VK)(_:XK):Prop
 | mk (r a:Addr) (x:RX) (ae closed:Bool) (b:Bytes) (c c':bb) (t:LwReel.Thing) (ps:List (Addr×Info)) (_:vs=[.ref r,.ref a]) (_:bF CR CL CS CP H r x ae closed b c ps) (_:nextT ae closed b c=some (t,c')) (_:f7 CT CS CP (r::x.tk::x.lp::x.rl::x.out) H a c t c') (_:∀x' hl H',bF CR CL CS CP H' r x' ae closed b c' hl->x'.tk=x.tk->x'.lp=x.lp->x'.rl=x.rl->x'.out=x.out->x'.pend=x.pend->Kp [r,x.lp,x.rl] H H'->Q .aE H')
variable (uf:Fn K mg "take_over" z7 ["reader","thing"])
variable (mF:aS P w K mg base ba 6 "take_over" ["reader","thing"] (GV CR CL CT CS CP))
include ag bG c7 aN mo uf in
theorem Mm:type_of% mF:=by
 refine bJ uf ["reader","thing","told"] ?_;rintro X' H vs Q E w' y' ⟨r,a,x,ae,closed,b,c,c',t,ps,rfl,R,d,z',q⟩ Y' Z'
 refine⟨_,aj (aW 2 w' (cz cC (aw c7 (pv 1)) aL (λ_ _=>rfl)))
  (aj (bz aN (pv 0) (aw c7 (pv 1)))
  (aj (bz aN (pv 0) dN)
  (aq (aZ (aY bW (pv 2) (aA ag.yx)) (aq (bz bG (aw aN (pv 0)) (aw c7 (pv 1))))
   (aq (aZ (aY bW (pv 2) (aA ag.Co)) (aq (bU (eW fe hY hZ iW (aw bG (aw aN (pv 0))) (aB (aw c7 (pv 1))))))
    (aq (aZ (aY bW (pv 2) (aA ag.xM)) (aq (bz aN (pv 0) (aA ag.xo)))
     (aq (aZ (aY bW (pv 2) (aA ag.wz)) (aq (bU (aO mo y' (aB (pv 0)))))
      (aq (aZ (aY bW (pv 2) (aA ag.r8)) (aq (bz aN (pv 0) (E_ (aY bW (aw c7 (pv 1)) (aA ag.r6)) (aA ag.wD) (aA ag.r3))))
       (aj (bz aN (pv 0) (aA ag.wD)) (aq (bz aN (pv 0) dN))))))))))))))),?_⟩
 refine iT ?_
 intros
 obtain⟨G,f',pl,T,pt,i',A',B',C',I⟩:=z';obtain⟨dr,D'⟩:=R.ins;have E':a≠r:=λz=>A' (by rw[z];exact cq);have _a:f'≠r:=λz=>C' (by rw[z];exact cq);have j':=R.rt;have U:=R.ti;have M:=R.r1;obtain⟨A,Y⟩:=R.rel
 have mk:∀(f:RX) (g:bb) (H':Hp),(∃dx,H' r=some (.ins CR dx (b8 f)))->Kp [r] H H'->f.ae=x.ae->f.tk=x.tk->f.closed=x.closed->f.ls=x.ls->f.lp=x.lp->f.rl=x.rl->f.out=x.out->f.opr=false->f.aU=z4 g.aU->
  (g.aU= .box∨g.aU= .tail->f.place=(g.at_:Int)/\g.at_<=b.length)->(g.aU= .search->∃q:Nat,f.place=(q:Int)/\g.at_<=q/\∀k,g.at_<=k->k<q->k+12<=b.length/\begins b k=false)->g.streams=c.streams->g.parts=c.parts->
  g.lost=(f.lost||c.parts.any λ(i:Info)=>decide (128<=i.flags))->f.endt=decide (g.aU= .done)->bF CR CL CS CP H' r f ae closed b g ps:=by
  intro f g H' hi k e1 b' e3 e4 e5 k' l' e6 F' v G' hs u I' he;have k3:Kp (r::x.tk::x.lp::x.rl::x.out) H H':=k.mono λc hc=>by rw[List.mem_singleton.mp hc];exact cq
  refine⟨hi,by rw[e1];exact R.ae,by rw[b'];exact k _ _ R.tk (by simpa using j'),by rw[e3];exact R.closed,F',v,G',λz=>(by rw[e6] at z;cases z),by rw[b',e4,e5,k',l',hs];exact R.str.kp k3,by rw[e5];exact k _ _ R.cY (by simpa using U),λp r'=>⟨?_,?_⟩,by rw[u];exact R.inf,by rw[u];exact I',he,by rw[b',e5];exact R.ne,R.cZ,by rw[u];exact R.eH,by rw[e4,e5,k'];exact⟨A,k _ _ Y (by simpa using M)⟩,by rw[l'];exact λe he=>gB.kp k (λa ha=>by rw[List.mem_singleton.mp ha];obtain⟨_b,J'⟩:=hi;rw[J'];simp) e (R.outs e he)⟩
  .rw[b',e5,k',l'];exact(R.de p r').1.kp k3
  .rw[hs];exact(R.de p r').2
 have C:=R.lost;have w:∀{H':Hp},Kp [r] H H'->Kp [r,x.lp,x.rl] H H':=λk=>k.mono λc hc=>by rw[List.mem_singleton.mp hc];exact cq
 have K':(c.aU= .box∨c.aU= .tail)->c.at_<=b.length:=λz=>(R.at_ z).2;refine⟨_,O,a,G,_,_,O,i',O,f',_,_,_,O,O,ay.of B',gf (j:=0) O,_,O,a,G,_,_,O,i',O,_,O,r,dr,_,O,D',lk,_,O,r,dr,_,O,au,lk,?_⟩;have h:ah (ah H r (.ins CR dr (bM "place" (V.int pl) (b8 x)))) r (.ins CR dr (bM "opening_right" (V.bl false) (bM "place" (V.int pl) (b8 x)))) r=some (.ins CR dr (b8 {x with place:=pl,opr:=false})):=au;have k2:Kp [r] H (ah (ah H r (.ins CR dr (bM "place" (V.int pl) (b8 x)))) r (.ins CR dr (bM "opening_right" (V.bl false) (bM "place" (V.int pl) (b8 x))))):=(Kp.upd (by simp)).trans (Kp.upd (by simp));generalize ah (ah H r (.ins CR dr (bM "place" (V.int pl) (b8 x)))) r (.ins CR dr (bM "opening_right" (V.bl false) (bM "place" (V.int pl) (b8 x))))=H2 at h k2;have m':H2 a=some (.ins CT G (nP f' pl T pt)):=k2 _ _ i' (by simpa using E');refine⟨_,O,O,_,O,?_⟩;by_cases y:c.aU= .done
 ·
  unfold nextT at d;rw[az y] at d;cases d;refine bR ⟨_,O,O,_,O,bR ⟨_,O,O,_,O,bR ⟨_,O,O,_,O,bR ⟨_,O,O,_,O,bR ⟨_,O,r,dr,_,O,h,lk,_,O,r,dr,_,O,au,lk,?_⟩⟩⟩⟩⟩;have kk:=(k2.trans (Kp.upd (o:= .ins CR dr (bM "due" (V.int 3) (b8 {x with place:=pl,opr:=false}))) (show r∈[r] by simp))).trans (Kp.upd (o:= .ins CR dr (bM "end_told" (V.bl true) (bM "due" (V.int 3) (b8 {x with place:=pl,opr:=false})))) (show r∈[r] by simp));refine q {x with place:=pl,opr:=false,aU:=3,endt:=true} ps _ (mk _ c _ ⟨dr,au⟩ kk O O O O O O O O ?_ (λz=>?_) (λz=>?_) O O C ?_) O O O O O (w kk)
  .rw[y];rfl
  .rw[y] at z;rcases z with z | z<;>cases z
  .rw[y] at z;cases z
  .rw[y];rfl
 unfold nextT at d;rw[ar y] at d;have v:=RM.xi d K';have J:=RM.kd d;have D:x.endt=false:=by rw[R.endt];exact dC y
 cases t with
 | head=>
  obtain⟨m,ss,L',M',aG⟩:=I;refine bx (λ_=>?_) λz=>absurd O z;have N':=M'
  cases J with
  | @head l n O'=>
   have u':ps=[]:=by
    cases u:ps with
    | nil=>rfl
    | cons p _c=>
     exfalso;have:=(R.de p (by rw[u];exact cq)).2.st;rw[O'] at this;exact absurd this (Nat.not_lt_zero _)
   have _d:c.parts=[]:=by rw[<-R.inf,u'];rfl
   have e':=k2 _ _ Y (by simpa using M);refine⟨_,O,a,G,_,_,O,m',O,_,O,r,dr,_,_,O,h,O,x.rl,A,_,O,e',lk,?_⟩;have kk:Kp [r,x.lp,x.rl] H (ah H2 x.rl (.ins CL A (bM "streams" (V.ref T) (gd x.ls x.lp)))):=(w k2).trans (Kp.upd (by simp))
   have k3:Kp (r::x.tk::x.lp::x.rl::x.out) H (ah H2 x.rl (.ins CL A (bM "streams" (V.ref T) (gd x.ls x.lp)))):=kk.mono λc hc=>by
    rcases List.mem_cons.mp hc with z | z
    .rw[z];exact cq
    .rcases List.mem_cons.mp z with z | z
     .rw[z];simp
     .rw[List.mem_singleton.mp z];simp
   refine q {x with place:=pl,opr:=false,ls:=T} ps _ ⟨⟨dr,by rw[ak M.symm];exact h⟩,R.ae,by show ah H2 x.rl _ x.tk=_;rw[ak R.Cj.symm];exact k2 _ _ R.tk (by simpa using j'),R.closed,?_,λz=>⟨m,v z⟩,λz=>(by cases z),λz=>(by cases z),?_,by show ah H2 x.rl _ x.lp=_;rw[ak R.AI.symm];exact k2 _ _ R.cY (by simpa using U),λp u=>?_,R.inf,C,?_,R.ne,R.cZ,R.eH,⟨A,au⟩,λe he=>gB.upd e (gB.kp k2 (λa ha=>by rw[List.mem_singleton.mp ha,h];simp) e (R.outs e he))⟩ O O O O O kk
   .show x.aU=0;rw[R.aU]
    have:c.aU= .box:=by
     unfold aV at d
     cases hd:c.aU with
     | box=>rfl
     | tail=>simp only[hd] at d;split at d;cases d;split at d<;>cases d
     | search=>simp only[hd] at d;split at d;cases d;split at d<;>cases d
     | over=>simp only[hd] at d;cases d
     | done=>exact absurd hd y
    rw[this];rfl
   .have:l=ss:=by simpa using L'
    subst this;exact⟨N'.kp k3,aG⟩
   .rw[u'] at u;cases u
   .exact D
 | part p place=>
  obtain⟨m,p',rfl,P',R'⟩:=I;obtain⟨q',_e⟩:=RM.Gv d;refine bx (λz=>absurd z (by show ¬(2:Int)=1;decide)) λ_=>?_;refine⟨_,O,O,_,O,bx (λ_=>?_) λz=>absurd O z⟩
  have S':c.aU= .box:=by
   unfold aV at d
   cases hd:c.aU with
   | box=>rfl
   | tail=>simp only[hd] at d;split at d;cases d;split at d<;>cases d
   | search=>simp only[hd] at d;split at d;cases d;split at d<;>cases d
   | over=>simp only[hd] at d;cases d
   | done=>exact absurd hd y
  cases J with
  | @part _f n lo T'=>
   have v':=k2 _ _ R.cY (by simpa using U);have U':ps.length<16:=by have:=da List.length R.inf;rw[aX] at this;omega
   have e':=k2 _ _ Y (by simpa using M);refine⟨_,O,r,dr,_,_,O,h,O,x.rl,A,_,_,O,e',O,.inl ⟨O,_,ay.of v'⟩,_,O,a,G,_,_,O,m',O,x.lp,_,_,O,O,v',?_,?_⟩
   .rw[aX];exact cc U' aJ
   have kk:Kp [r,x.lp,x.rl] H (ah H2 x.lp (.lst (ps.map (λp=>V.ref p.1)++[V.ref p']))):=(w k2).trans (Kp.upd (by simp))
   have k3:Kp (r::x.tk::x.lp::x.rl::x.out) H (ah H2 x.lp (.lst (ps.map (λp=>V.ref p.1)++[V.ref p']))):=kk.mono λc hc=>by
    rcases List.mem_cons.mp hc with z | z
    .rw[z];exact cq
    .rcases List.mem_cons.mp z with z | z
     .rw[z];simp
     .rw[List.mem_singleton.mp z];simp
   refine q {x with place:=pl,opr:=false} (ps++[(p',p.info c.at_)]) _ ⟨⟨dr,by rw[ak U.symm];exact h⟩,R.ae,by show ah H2 x.lp _ x.tk=_;rw[ak R.ne];exact k2 _ _ R.tk (by simpa using j'),R.closed,by show x.aU=0;rw[R.aU,S'];rfl,λz=>⟨m,v z⟩,λz=>(by cases z),λz=>(by cases z),R.str.kp k3,?_,λp1 u=>?_,?_,?_,D,R.ne,R.cZ,?_,⟨A,by show ah H2 x.lp _ x.rl=_;rw[ak R.AI];exact e'⟩,λe he=>gB.upd e (gB.kp k2 (λa ha=>by rw[List.mem_singleton.mp ha,h];simp) e (R.outs e he))⟩ O O O O O kk
   .show ah H2 x.lp _ x.lp=_;rw[au,cj];rfl
   .rcases List.mem_append.mp u with z | z
    .exact⟨(R.de p1 z).1.kp k3,(R.de p1 z).2⟩
    .rw[List.mem_singleton.mp z];exact⟨P'.kp k3,R'⟩
   .rw[cj,R.inf];rfl
   .show lo=(x.lost||(c.parts++[p.info c.at_]).any λ(i:Info)=>decide (128<=i.flags));have q':lo=(c.lost||decide (128<=p.flags)):=q';rw[q',C,List.any_append,Bool.or_assoc];simp[LwReel.Part.info]
   .show(c.parts++[p.info c.at_]).length<=16;rw[aP];simp only[bA,cn]
    omega
 | index=>
  have m:pl=(c'.at_:Int):=I;refine bx (λz=>absurd z (by show ¬(3:Int)=1;decide)) λ_=>?_;refine⟨_,O,O,_,O,bx (λz=>absurd z (by show ¬(3:Int)=2;decide)) λ_=>?_⟩;refine⟨_,O,O,_,O,bx (λ_=>?_) λz=>absurd O z⟩
  cases J with
  | @index n T'=>
   refine⟨_,O,r,dr,_,O,h,lk,?_⟩;have kk:=k2.trans (Kp.upd (o:= .ins CR dr (bM "due" (V.int 1) (b8 {x with place:=pl,opr:=false}))) (show r∈[r] by simp))
   exact q {x with place:=pl,opr:=false,aU:=1} ps _ (mk _ _ _ ⟨dr,au⟩ kk O O O O O O O O O (λz=>⟨m,v z⟩) (λz=>(by cases z)) rfl rfl C D) rfl rfl rfl rfl rfl (w kk)
 | fault k s p=>
  have m:pl=(c.at_:Int):=I;refine bx (λz=>absurd z (by show ¬(4:Int)=1;decide)) λ_=>?_;refine⟨_,O,O,_,O,bx (λz=>absurd z (by show ¬(4:Int)=2;decide)) λ_=>?_⟩;refine⟨_,O,O,_,O,bx (λz=>absurd z (by show ¬(4:Int)=3;decide)) λ_=>?_⟩;refine⟨_,O,O,_,O,bx (λ_=>?_) λz=>absurd O z⟩;have k3:Kp (r::x.tk::x.lp::x.rl::x.out) H H2:=k2.mono λc hc=>by rw[List.mem_singleton.mp hc];exact cq
  refine⟨_,O,r,dr,{x with place:=pl,opr:=false},ae,c.streams,O,h,R.ae,R.str.kp k3,⟨A,k2 _ _ Y (by simpa using M)⟩,λ_g N V'=>?_⟩;have kk:=k2.trans V';cases J;unfold pW at N;unfold RM.bb.b7 at q v;by_cases hm:ae=true/\c.streams.isSome=true
  .rw[az hm] at N q v;refine q _ ps _ (mk _ _ _ ⟨dr,N⟩ kk O O O O O O O O O (λz=>(by rcases z with z | z<;>cases z)) (λ_=>⟨c.at_+1,by show pl+1=_;rw[m];rfl,bY _,λk h1 h2=>?_⟩) O O ?_ D) O O O O O (w kk)
   .have h1:c.at_+1<=k:=h1;omega
   .rfl
  .rw[ar hm] at N q v
   exact q _ ps _ (mk _ _ _ ⟨dr,N⟩ kk O O O O O O O O O (λz=>(by rcases z with z | z<;>cases z)) (λz=>(by cases z)) rfl rfl C D) rfl rfl rfl rfl rfl (w kk)
 | found o=>
  refine bx (λz=>absurd z (by show ¬(5:Int)=1;decide)) λ_=>?_;refine⟨_,O,O,_,O,bx (λz=>absurd z (by show ¬(5:Int)=2;decide)) λ_=>?_⟩;refine⟨_,O,O,_,O,bx (λz=>absurd z (by show ¬(5:Int)=3;decide)) λ_=>?_⟩;refine⟨_,O,O,_,O,bx (λz=>absurd z (by show ¬(5:Int)=4;decide)) λ_=>?_⟩;refine⟨_,O,O,_,O,bx (λ_=>?_) λz=>absurd O z⟩;refine⟨_,O,a,G,_,_,O,m',O,O,_,O,?_⟩
  cases J with
  | @found W'=>
   have m:pl=(W':Int):=I;refine bx (λz=>absurd z (by rw[m];omega)) λ_=>⟨_,O,r,dr,_,O,h,lk,?_⟩;have kk:=k2.trans (Kp.upd (o:= .ins CR dr (bM "due" (V.int 0) (b8 {x with place:=pl,opr:=false}))) (show r∈[r] by simp))
   exact q {x with place:=pl,opr:=false,aU:=0} ps _ (mk _ _ _ ⟨dr,au⟩ kk O O O O O O O O O (λz=>⟨m,v z⟩) (λz=>(by cases z)) rfl rfl C D) rfl rfl rfl rfl rfl (w kk)
  | lost=>
   have m:pl= -1:=I;refine bx (λ_=>?_) λz=>absurd m z;refine⟨_,O,r,dr,_,O,h,lk,?_⟩;have kk:=k2.trans (Kp.upd (o:= .ins CR dr (bM "due" (V.int 3) (b8 {x with place:=pl,opr:=false}))) (show r∈[r] by simp))
   exact q {x with place:=pl,opr:=false,aU:=3} ps _ (mk _ _ _ ⟨dr,au⟩ kk O O O O O O O O O (λz=>(by rcases z with z | z<;>cases z)) (λz=>(by cases z)) rfl rfl C D) rfl rfl rfl rfl rfl (w kk)
 | end_=>
  refine bx (λz=>absurd z (by show ¬(6:Int)=1;decide)) λ_=>?_;refine⟨_,O,O,_,O,bx (λz=>absurd z (by show ¬(6:Int)=2;decide)) λ_=>?_⟩;refine⟨_,O,O,_,O,bx (λz=>absurd z (by show ¬(6:Int)=3;decide)) λ_=>?_⟩;refine⟨_,O,O,_,O,bx (λz=>absurd z (by show ¬(6:Int)=4;decide)) λ_=>?_⟩;refine⟨_,O,O,_,O,bx (λz=>absurd z (by show ¬(6:Int)=5;decide)) λ_=>?_⟩;refine⟨_,O,r,dr,_,O,h,lk,_,O,r,dr,_,O,au,lk,?_⟩;have kk:=(k2.trans (Kp.upd (o:= .ins CR dr (bM "due" (V.int 3) (b8 {x with place:=pl,opr:=false}))) (show r∈[r] by simp))).trans (Kp.upd (o:= .ins CR dr (bM "end_told" (V.bl true) (bM "due" (V.int 3) (b8 {x with place:=pl,opr:=false})))) (show r∈[r] by simp));cases J;exact q {x with place:=pl,opr:=false,aU:=3,endt:=true} ps _ (mk _ _ _ ⟨dr,au⟩ kk O O O O O O O O O (λz=>(by rcases z with z | z<;>cases z)) (λz=>(by cases z)) rfl rfl C rfl) rfl rfl rfl rfl rfl (w kk)
inductive Ee (CR CL CT CS CP:Addr)(vs:List V)(H:Hp)(Q:VK)(_:XK):Prop
 | mk (r:Addr) (x:RX) (ae closed:Bool) (b:Bytes) (c:bb) (ps:List (Addr×Info)) (_:vs=[.ref r]) (_:bF CR CL CS CP H r x ae closed b c ps) (_:eB CT CS CP (r::x.tk::x.lp::x.rl::x.out) H x.pend c (nextT ae closed b c)) (_:(nextT ae closed b c=none->∀l,H l=none->Q (.ref l) (ah H l (.lst [.int 0])))) (_:(∀t c',nextT ae closed b c=some (t,c')->∀la x' hl H',bF CR CL CS CP H' r x' ae closed b c' hl->x'.tk=x.tk->x'.lp=x.lp->x'.rl=x.rl->x'.out=x.out->eB CT CS CP (r::x.tk::x.lp::x.rl::x.out) H' x'.pend c' (nextT ae closed b c')->H' la=some (.lst ((g9 t).map V.int))->la∉(r::x.tk::x.lp::x.rl::x.out)->Kp [r,x.lp,x.rl] H H'->Q (.ref la) H'))
variable (vq:Fn K mg "tell" yu ["reader"])
variable (gP:aS P w K mg base ba 16 "tell" ["reader"] (Ee CR CL CT CS CP))
include ag c7 aN fS mF vq in
theorem I0:type_of% gP:=by
 refine bJ vq ["reader","thing"] ?_;rintro k' H vs Q E v m ⟨r,x,ae,closed,b,c,ps,rfl,R,d,w,A⟩ l' m'
 refine⟨_,aj (aW 1 v (aw aN (pv 0)))
  (aj (aZ (kn (oa (pv 1))) (aq (aI (bK (aB (aA ag.H8))))) a7)
  (aj (bz aN (pv 0) gG)
  (aj (bU (aO mF m (aF (pv 0) (pv 1))))
  (aj (bU (aO fS m (aB (pv 0))))
  (aq (aI (aw c7 (pv 1)))))))),?_⟩
 refine gA ?_
 intros
 obtain⟨dr,n⟩:=R.ins;refine⟨_,O,r,dr,_,_,O,n,O,_,O,_,O,?_⟩
 cases e:nextT ae closed b c with
 | none=>
  rw[e] at d;have d:x.pend= .aE:=d;refine bS (λ_=>?_) λz=>absurd d z
  exact⟨(by show 1<=sizeLine;decide),λl C=>w e l C⟩
 | some y=>
  obtain⟨t,c'⟩:=y;rw[e] at d;obtain⟨a,j,o⟩:=d;refine bS (λz=>by rw[j] at z;cases z) λ_=>⟨_,rfl,r,dr,_,rfl,n,lk,?_⟩;have D:=R.Ak (dx:=dr) V.aE;have k1:Kp [r] H (ah H r (.ins CR dr (b8 {x with pend:=V.aE}))):=Kp.upd (by simp);have G:f7 CT CS CP (r::x.tk::x.lp::x.rl::x.out) (ah H r (.ins CR dr (b8 {x with pend:=V.aE}))) a c t c':=o.kp (Kp.upd (by simp));refine⟨_,O,_,?_,r,a,{x with pend:=V.aE},ae,closed,b,c,c',t,ps,O,D,e,G,λf p H2 R2 e1 g h i e3 k2=>?_⟩
  .rw[j];rfl
  have e1:f.tk=x.tk:=e1;have g:f.lp=x.lp:=g;have h:f.rl=x.rl:=h;have i:f.out=x.out:=i;refine⟨_,O,r,f,ae,closed,b,c',p,O,R2,.inl ⟨e3,λI k J M N p' T U s k3=>?_⟩⟩;have u:Kp [r,x.lp,x.rl] H k:=((k1.mono λc hc=>by rw[List.mem_singleton.mp hc];exact cq).trans k2).trans (k3.mono λc hc=>by rw[List.mem_singleton.mp hc];exact cq)
  have Y:Kp (r::x.tk::x.lp::x.rl::x.out) H k:=u.mono λc hc=>by
   rcases List.mem_cons.mp hc with z | z
   .rw[z];exact cq
   .rcases List.mem_cons.mp z with z | z
    .rw[z];simp
    .rw[List.mem_singleton.mp z];simp
  obtain⟨b',e',pl,q',pt,f',r',i',j',_⟩:=o.kp Y;refine⟨_,?_,a,b',_,_,O,f',O,?_⟩
  .rw[j];rfl
  .rw[e1,g,h,i] at s;exact A t c' e e' I p k J (M.trans e1) (N.trans g) (T.trans h) (U.trans i) s i' j' u
theorem bF.feed {x:RX}{c:bb}(R:bF CR CL CS CP H r x ae closed b c ps)(u:UInt8)(h:b.length+1<=1500):bF CR CL CS CP (ah H x.tk (.lst (bV b++[V.int (u.toNat:Int)]))) r x ae closed (b++[u]) c ps:=by
 have k:Kp (r::x.tk::x.lp::x.rl::x.out) H (ah H x.tk (.lst (bV b++[V.int (u.toNat:Int)]))):=Kp.upd (by simp);refine⟨let ⟨dx,z⟩:=R.ins;⟨dx,by rw[ak R.rt.symm];exact z⟩,R.ae,?_,R.closed,R.aU,λz=>⟨(R.at_ z).1,?_⟩,λz=>?_,λz=>?_,R.str.kp k,by rw[ak R.ne.symm];exact R.cY,λp d=>⟨(R.de p d).1.kp k,(R.de p d).2⟩,R.inf,R.lost,R.endt,R.ne,?_,R.eH,let ⟨f,z⟩:=R.rel;⟨f,by rw[ak R.Cj];exact z⟩,λe he=>gB.upd e (R.outs e he)⟩
 .rw[au];unfold bV;rw[cj];rfl
 .have:=(R.at_ z).2;rw[aP];omega
 .obtain⟨q,e1,a,e3⟩:=R.seek z;refine⟨q,e1,a,λk h1 h2=>?_⟩;obtain⟨g,i⟩:=e3 k h1 h2;exact⟨by rw[aP];omega,by rw[RM.wm g];exact i⟩
 .obtain⟨e1,a,e3⟩:=R.opr z;have j:12<=b.length - c.at_:=by rw[bQ] at e3;exact e3
  refine⟨e1,by rw[RM.wu e3];exact a,?_⟩;rw[bQ,aP];omega
 .rw[aP];exact h
inductive E3 (CR CL CT CS CP:Addr)(vs:List V)(H:Hp)(Q:VK)(_:XK):Prop
 | mk (r d:Addr) (last:Int) (x:RX) (ae:Bool) (b l:Bytes) (c:bb) (ps:List (Addr×Info)) (_:vs=[.ref r,.ref d,.int last]) (_:bF CR CL CS CP H r x ae false b c ps) (_:c.aU≠ .done) (_:eB CT CS CP (r::x.tk::x.lp::x.rl::x.out) H x.pend c (aV ae false b c)) (_:H d=some (.lst (bV l))) (_:d∉(r::x.tk::x.lp::x.rl::x.out)) (_:b.length+l.length<=1500) (_:∀(k:Nat) x' H',k<=l.length->(∀j,j<k->aV ae false (b++l.take j) c=none)->(k=l.length∨aV ae false (b++l.take k) c≠none)->bF CR CL CS CP H' r x' ae (decide (k=l.length)&&decide (last=1)) (b++l.take k) c ps->x'.tk=x.tk->x'.lp=x.lp->x'.rl=x.rl->x'.out=x.out->eB CT CS CP (r::x.tk::x.lp::x.rl::x.out) H' x'.pend c (aV ae (decide (k=l.length)&&decide (last=1)) (b++l.take k) c)->Kp [r,x.tk] H H'->Q (.int (k:Int)) H')
variable (rS:Fn K mg "take_bytes" Ck ["reader","data","last"])
variable (mz:aS P w K mg base ba 16 "take_bytes" ["reader","data","last"] (E3 CR CL CT CS CP))
include ag aN fS rS in
theorem Hu:type_of% mz:=by
 refine bJ rS ["reader","data","last","count"] ?_;rintro _e H vs Q E i' j' ⟨r,d,last,x,ae,b,l,c,ps,rfl,R,A',B',hd,k',_f,q⟩ _g _h
 refine⟨_,aj (aW 3 i' aL)
  (aj (kJ fE (PW.pt (iY (aY fM (pv 3) (bX ag (pv 1))) (h5 (kn (oa (aw aN (pv 0)))))))
   (aj (bU (eW fe hY hZ iW (aw aN (pv 0)) (aB (cz cC (pv 1) (pv 3) (λ_ _=>rfl)))))
   (aj (tY (i:=3) i' O (Or.inl O) aL sX)
   (aq (bU (aO fS j' (aB (pv 0))))))))
  (aj (aZ (PW.pt (iY (aY bW (pv 3) (bX ag (pv 1))) (h5 (aY bW (pv 2) aL))))
   (aj (bz aN (pv 0) dN) (aq (bU (aO fS j' (aB (pv 0)))))) a7)
  (aq (aI (pv 3))))),?_⟩
 refine iT ?_
 intros
 have C':d≠r:=λz=>k' (by rw[z];exact cq);have D':d≠x.tk:=λz=>k' (by rw[z];simp);have l':∀{cl:Bool} {D:Bytes},nextT ae cl D c=aV ae cl D c:=λ{cl D}=>by unfold nextT;rw[ar A']
 refine nO (λσ H'=>∃(k:Nat) (o:RX),σ=[some (.ref r),some (.ref d),some (.int last),some (.int (k:Int))]/\k<=l.length/\bF CR CL CS CP H' r o ae false (b++l.take k) c ps/\o.tk=x.tk/\o.lp=x.lp/\o.rl=x.rl/\o.out=x.out/\eB CT CS CP (r::x.tk::x.lp::x.rl::x.out) H' o.pend c (aV ae false (b++l.take k) c)/\
  (∀j,j<k->aV ae false (b++l.take j) c=none)/\Kp [r,x.tk] H H') (λσ _=>match σ with | [_,_,_,some (.int k)]=>l.length - k.toNat | _=>0) ⟨0,x,O,b3 _,by simpa using R,O,O,O,O,by simpa using B',λj m'=>absurd m' (Nat.not_lt_zero _),Kp.refl⟩ ?_ ?_
 .rintro σ H1 ⟨k,f,rfl,hk,g,t1,t2,t3,t4,m,C,k1⟩;obtain⟨dr,G⟩:=g.ins;have I:H1 d=some (.lst (bV l)):=k1 _ _ hd (by simp[C',D']);refine⟨_,O,_,O,d,_,O,.inl (ay.of I),_,_,O,O,_,O,?_⟩;rw[bu];refine jN (c1:=(k:Int) < (l.length:Int)) (c:=decide (f.pend=V.aE)) (λH2=>H2=H1) O (λ_ J=>?_) λH2 E'=>?_
  .exact⟨_,O,r,dr,_,_,O,G,O,_,O,J _ O⟩
  subst E';refine ff (λA=>?_) λA=>?_
  .rw[cH,cb,cb] at A;obtain⟨p',s⟩:=A;have p':k<l.length:=af
   have F':aV ae false (b++l.take k) c=none:=by
    cases e:aV ae false (b++l.take k) c with
    | none=>rfl
    | some y=>obtain⟨t,c'⟩:=y;rw[e] at m;obtain⟨a,z,_⟩:=m;rw[s] at z;cases z
   obtain⟨u,q'⟩:∃u,l[k]?=some u:=⟨_,dy p'⟩;have r':(b++l.take k).length=b.length+k:=by rw[aP,cF];omega
   refine⟨_,O,r,dr,_,_,O,G,O,.inl ⟨O,_,ay.of g.tk⟩,_,O,_,O,d,_,_,_,O,O,ay.of I,gf (kY q'),f.tk,_,_,O,O,g.tk,?_,?_⟩
   .rw[bu,r'];exact fG (show b.length+k<=1500 by omega) aJ
   have R2:=g.feed u (by rw[r'];omega);rw[gv,<-RM.take_snoc q'] at R2;refine⟨_,O,_,_,O,O,_,O,r,f,ae,false,_,c,ps,O,R2,.inl ⟨s,λM h G' N T I' U Y u' k3=>?_⟩⟩;rw[l',t1,t2,t3,t4] at u';refine⟨⟨k+1,M,O,af,G',N.trans t1,T.trans t2,U.trans t3,Y.trans t4,u',λj m'=>?_,?_⟩,?_⟩
   .by_cases e:j=k
    .rw[e];exact F'
    .exact C j af
   .rw[t1] at k3;exact(k1.trans (Kp.upd (by simp))).trans (k3.mono λc hc=>by rw[List.mem_singleton.mp hc];exact cq)
   .show l.length - ((k:Int)+1).toNat<l.length - ((k:Nat):Int).toNat;omega
  .have b':k=l.length∨aV ae false (b++l.take k) c≠none:=by
    by_cases e:k=l.length
    .exact .inl e
    .right;intro z;rw[z] at m;have m:f.pend= .aE:=m;rw[cR (show(k:Int) < (l.length:Int) by omega),cR m] at A;cases A
   refine⟨_,O,_,O,d,_,O,.inl (ay.of I),O,_,O,?_⟩;rw[bu];refine jN (c1:=V.int (k:Int)=V.int (l.length:Int)) (c:=decide (V.int last=V.int 1)) (λh=>h=H2) O (λ_ J=>?_) λh e3=>?_
   .exact⟨_,O,O,_,O,J _ O⟩
   subst e3
   have J':(decide (V.int (k:Int)=V.int (l.length:Int))&&decide (V.int last=V.int 1))=(decide (k=l.length)&&decide (last=1)):=by
    have e':decide (V.int (k:Int)=V.int (l.length:Int))=decide (k=l.length):=by rw[oO,hX];omega
    have f':decide (V.int last=V.int 1)=decide (last=1):=by rw[oO,hX]
    rw[e',f']
   rw[J'];refine ff (λn=>?_) λn=>?_
   ·
    refine⟨_,O,r,dr,_,O,G,lk,?_⟩;have K':Kp (r::x.tk::x.lp::x.rl::x.out) h (ah h r (.ins CR dr (b8 {f with closed:=true}))):=Kp.upd (by simp);have L':=g.rt;have M':=g.ti
    have R2:bF CR CL CS CP (ah h r (.ins CR dr (b8 {f with closed:=true}))) r {f with closed:=true} ae true (b++l.take k) c ps:=by
     have v':Kp (r::f.tk::f.lp::f.rl::f.out) h (ah h r (.ins CR dr (b8 {f with closed:=true}))):=Kp.upd (by simp);exact⟨⟨dr,au⟩,g.ae,by show ah h r _ f.tk=_;rw[ak L'];exact g.tk,O,g.aU,g.at_,g.seek,g.opr,g.str.kp v',by show ah h r _ f.lp=_;rw[ak M'];exact g.cY,λp w'=>⟨(g.de p w').1.kp v',(g.de p w').2⟩,g.inf,g.lost,g.endt,g.ne,g.cZ,g.eH,let ⟨N',z⟩:=g.rel;⟨N',by show ah h r _ f.rl=_;rw[ak g.r1];exact z⟩,λe he=>gB.upd e (g.outs e he)⟩
    have y':Kp [r,x.tk] H (ah h r (.ins CR dr (b8 {f with closed:=true}))):=k1.trans (Kp.upd (by simp));refine⟨_,O,r,{f with closed:=true},ae,true,_,c,ps,O,R2,?_⟩;by_cases s:f.pend=V.aE
    .refine .inl ⟨s,λM O' P' N T I' U Y z' R'=>⟨_,O,?_⟩⟩;rw[l',show(RX.tk {f with closed:=true})=f.tk from O,show(RX.lp {f with closed:=true})=f.lp from O,show(RX.rl {f with closed:=true})=f.rl from O,show(RX.out {f with closed:=true})=f.out from O,t1,t2,t3,t4] at z';refine q k M O' hk C b' ?_ (N.trans t1) (T.trans t2) (U.trans t3) (Y.trans t4) ?_ (y'.trans (R'.mono λc hc=>by rw[List.mem_singleton.mp hc];exact cq))
     .rw[n];exact P'
     .rw[n];exact z'
    .refine .inr ⟨s,_,O,?_⟩
     obtain⟨y,hy⟩:∃y,aV ae false (b++l.take k) c=some y:=by
      cases e:aV ae false (b++l.take k) c with
      | some y=>exact⟨y,O⟩
      | none=>rw[e] at m;exact absurd m s
     obtain⟨ty,S'⟩:=y
     have T':aV ae true (b++l.take k) c=some (ty,S'):=by
      have:=RM.B4 (x:=[]) (last:=true) (λz=>(g.at_ (.inl z)).2) hy;rwa [et] at this
     refine q k {f with closed:=true} _ hk C b' ?_ t1 t2 t3 t4 ?_ y'
     .rw[n];exact R2
     .rw[n,T'];rw[hy] at m;exact m.kp K'
   .refine⟨_,O,q k f h hk C b' ?_ t1 t2 t3 t4 ?_ k1⟩
    .rw[n];exact g
    .rw[n];exact m
 .rintro σ H Q Q' i ⟨v,U',V',W',p,ys,e7,e8,i2,X',e9,e10,k,e11,w⟩;refine⟨v,U',V',W',p,ys,e7,e8,i2,X',e9,e10,k,e11,?_⟩;by_cases hk:k=true
  .rw[az hk] at w ⊢;obtain⟨Y',Z',a,dx,fs,_a,e',f',_b,_c,_d,w⟩:=w;exact⟨Y',Z',a,dx,fs,_a,e',f',_b,_c,_d,i _ _ w⟩
  .rw[ar hk] at w ⊢;exact i _ _ w
noncomputable def hh (m:Int)(tk ls lp rl:Addr):RX:=⟨m,tk,false,0,0,false,ls,lp,rl,false,.aE,false,[]⟩
noncomputable def o3 (CL:Addr)(H H':Hp)(rl ls lp:Addr):Prop:=H rl=none/\H ls=none/\H lp=none/\ls≠lp/\(∃dr,H' rl=some (.ins CL dr (gd ls lp)))/\H' ls=some (.lst [])/\H' lp=some (.lst [])
theorem rM (e:H ls=none)(q:∀rl lp H',o3 CL H H' rl ls lp->ao H H'->R rl H'):
 ∀x dx,(ah H ls (.lst [])) x=none->(ah H ls (.lst [])) dx=none->dx≠x->rY CL [.ref x,.ref ls] (ah (ah (ah H ls (.lst [])) dx (.own x)) x (.ins CL dx [])) (λv H2=>v= .aE/\R x H2) E0:=by
 intro x dx nx b k;refine⟨x,dx,ls,O,au,λlp H' f c g h keep=>⟨O,?_⟩⟩;have i:x≠ls:=λz=>by rw[z,au] at nx;cases nx
 have sm:ao (ah H ls (.lst [])) H':=ao.made nx b keep;rw[ak f] at c
 have d:ls≠lp:=λz=>by
  by_cases a:lp=dx
  .rw[<-z] at a;rw[<-a,au] at b;cases b
  .rw[ak a,<-z,au] at c;cases c
 have j:H lp=none:=by
  by_cases a:lp=dx
  .rw[a] at d ⊢;rw[ak d.symm] at b;exact b
  .rw[ak a,ak d.symm] at c;exact c
 refine q x lp H' ⟨by rw[ak i] at nx;exact nx,e,j,d,⟨dx,g⟩,sm _ _ au,h⟩ (ao.trans (a9 e) sm)
inductive xN (CR CL:Addr)(vs:List V)(H:Hp)(Q:VK)(_:XK):Prop
 | mk (x dx:Addr) (m:Int) (_:vs=[.ref x,.int m]) (_:H x=some (.ins CR dx [])) (_:∀tk ls lp rl H',H tk=none->o3 CL H H' rl ls lp->tk≠ls->tk≠lp->tk≠rl->tk≠x->ls≠x->lp≠x->rl≠x->H' x=some (.ins CR dx (b8 (hh m tk ls lp rl)))->H' tk=some (.lst [])->(∀c o,H c=some o->c≠x->H' c=some o)->Q .aE H')
theorem I6:c4 ["self","mend"] ["self","mend"] (bL rm):=fL
variable (ey:gU P w K mg base 1 "Reel" CL ["self","streams"] (rY CL))
include ag aN ey in
theorem Ec (F:dB K "__init__" "Reader.__init__" rm f fd):cP P w K mg base ba 3 f fd ["self","mend"] (xN CR CL):=by
 refine F.ok (k:=2) I6 (λvs H Q E h=>?_) (λbc A outer s0 H vs Q E y h=>?_)
 .obtain⟨x,dx,m,rfl,_⟩:=h;rfl
 .obtain⟨x,dx,m,rfl,hx,q⟩:=h;refine⟨_,aj (bz aN (pv 0) (pv 1)) (aj (bz aN (pv 0) (bK fw)) (aj (bz aN (pv 0) dN) (aj (bz aN (pv 0) (aA ag.r3)) (aj (bz aN (pv 0) aL) (aj (bz aN (pv 0) dN) (aj (bz aN (pv 0) (dj ey y (aB (bK fw)))) (aj (bz aN (pv 0) dN) (aj (bz aN (pv 0) gG) (aq (bz aN (pv 0) dN)))))))))),Mq ?_⟩
  intros
  refine⟨_,O,_,O,x,dx,_,O,hx,lk,b3 _,λtk g=>?_⟩;have a:tk≠x:=λz=>by rw[z,au] at g;cases g
  have n:H tk=none:=by rw[ak a] at g;exact g
  refine⟨_,O,x,dx,_,O,(by rw[ak a.symm];exact au),lk,_,O,x,dx,_,O,au,lk,_,O,x,dx,_,O,au,lk,_,O,x,dx,_,O,au,lk,_,O,x,dx,_,O,au,lk,?_⟩;generalize j:ah (ah (ah (ah (ah (ah (ah H x _) tk _) x _) x _) x _) x _) x _=H1;have e1:H1 x=some (.ins CR dx [("mend",V.int m),("taken",V.ref tk),("closed",V.bl false),("due",V.int 0),("place",V.int 0),("opening_right",V.bl false)]):=by rw[<-j];exact au
  have p:H1 tk=some (.lst []):=by
   rw[<-j,ak a,ak a,ak a,ak a,ak a];exact au
  have e3:∀c o,H c=some o->c≠x->H1 c=some o:=λc o hc b=>by
   have n1:c≠tk:=a6 hc n;rw[<-j,ak b,ak b,ak b,ak b,ak b,ak n1,ak b];exact hc
  have back:∀{e:Addr},H1 e=none->H e=none:=λ{e} he=>by
   cases z:H e with
   | none=>rfl
   | some o=>
    exfalso;by_cases r:e=x
    .rw[r,e1] at he;cases he
    .rw[e3 e o z r] at he;cases he
  refine⟨b3 _,λls C=>rM C λrl lp H2 D sm=>?_⟩;obtain⟨n1,n2,n3,n4,n5,n6,n7⟩:=D;obtain⟨dr,n5⟩:=n5;have d:∀{e:Addr},H1 e=none->e≠x:=λ{e} he z=>by rw[z,e1] at he;cases he
  have l:∀{e:Addr},H1 e=none->tk≠e:=λ{e} he z=>by rw[<-z,p] at he;cases he
  refine⟨_,O,x,dx,_,O,sm _ _ e1,lk,_,O,x,dx,_,O,au,lk,_,O,x,dx,_,O,au,lk,_,O,x,dx,_,O,au,lk,?_⟩
  have fin:∀{e:Addr} {o:HO} {s t u v:HO},H2 e=some o->e≠x->ah (ah (ah (ah H2 x s) x t) x u) x v e=some o:=λ{e o s t u v} he i=>by
   rw[ak i,ak i,ak i,ak i];exact he
  exact q tk ls lp rl _ n ⟨back n1,back n2,back n3,n4,⟨dr,fin n5 (d n1)⟩,fin n6 (d n2),fin n7 (d n3)⟩ (l n2) (l n3) (l n1) a (d n2) (d n3) (d n1) au (fin (sm _ _ p) a) λc o hc b=>fin (sm _ _ (e3 c o hc b)) b
theorem bF.A7 (h:H r=some (.ins CR dx (b8 {hh (if ae=true then 1 else 0) tk ls lp rl with closed:=cl})))(h1:H tk=some (.lst (bV b)))(h2:H ls=some (.lst []))(c:H lp=some (.lst []))(a:H rl=some (.ins CL dr (gd ls lp)))(n1:tk≠ls)(n2:tk≠lp)(n3:ls≠lp)(d:b.length<=1500)(f:ls∉out)(hd:∀e∈out,H e≠none):bF CR CL CS CP H r {hh (if ae=true then 1 else 0) tk ls lp rl with closed:=cl,out:=out} ae cl b RM.start []:=by
 have g:ls≠r:=ef h2 h (by intro z;cases z);have i:ls≠rl:=ef h2 a (by intro z;cases z);exact⟨⟨dx,h⟩,O,h1,O,O,λ_=>⟨O,b3 _⟩,λz=>(by cases z),λz=>(by cases z),⟨h2,by simp[hh,g,i,n1.symm,n3,f]⟩,c,λp j=>(by cases j),rfl,rfl,rfl,n2,d,b3 _,⟨dr,a⟩,hd⟩
theorem bF.Mf (h:H r=some (.ins CR dx (b8 {hh (if ae=true then 1 else 0) tk ls lp rl with closed:=cl})))(h1:H tk=some (.lst (bV b)))(h2:H ls=some (.lst []))(a:H lp=some (.lst []))(c:H rl=some (.ins CL dr (gd ls lp)))(n1:tk≠ls)(n2:tk≠lp)(n3:ls≠lp)(d:b.length<=1500):
 bF CR CL CS CP H r {hh (if ae=true then 1 else 0) tk ls lp rl with closed:=cl} ae cl b RM.start []:=bF.A7 (out:=[]) h h1 h2 a c n1 n2 n3 d (by simp) (by simp)
theorem rn:bootBuiltins "list"=some (.type "list"):=by decide+kernel
noncomputable def qc (b:Bytes):List Int:=match LwReel.fault b with
 | some (k,s,p)=>[4,(k:Int),(s:Int),(p:Int)]
 | none=>[6]
inductive GX (K:Frag)(vs:List V)(H:Hp)(Q:VK)(_:XK):Prop
 | mk (d:Addr) (b:Bytes) (_:vs=[.ref d]) (_:ay K H d (bV b)) (_:b.length<=1500) (_:∀la H',H' la=some (.lst ((qc b).map V.int))->ao H H'->Q (.ref la) H')
variable (tS:Fn K mg "strict_stop" yb ["data"])
variable (j9:gU P w K mg base 3 "Reader" CR ["self","mend"] (xN CR CL))
variable (nN:aS P w K mg base ba 17 "strict_stop" ["data"] (GX K))
include ag c7 aN fS gP tS j9 in
theorem MG:type_of% nN:=by
 refine bJ tS ["data","reader"] ?_;rintro _Z H vs Q E U' N ⟨d,b,rfl,hd,V',q⟩ aa' ab'
 refine⟨_,aj (aW 1 U' (dj j9 N (aB aL)))
  (aj (bz aN (pv 1) (ra rB (by rfl) ag.rD rn (aB (pv 0))))
  (aj (bz aN (pv 1) dN)
  (aj (bU (aO fS N (aB (pv 1))))
  (aj (kJ fE (sI yK (cz cC (aw c7 (aw aN (pv 1))) aL (λ_ _=>rfl)) (lS (aF (aA ag.wz) (aA ag.pQ))) (by rfl)) (aq (bU (aO gP N (aB (pv 1))))))
  (aq (aI (aw c7 (aw aN (pv 1))))))))),?_⟩
 refine gA ?_
 intros
 intro r dx T y' ac';refine⟨r,dx,0,O,au,λtk ls lp rl H1 ad' W' n1 n2 ae' n4 n5 n6 n7 h1 h2 keep=>⟨O,?_⟩⟩;obtain⟨X',Y',Z',n3,⟨_a,z'⟩,A',y⟩:=W';have U:ao H H1:=ao.made T y' keep
 have back:∀{e:Addr},(ah (ah H dx (.own r)) r (.ins CR dx [])) e=none->e≠r->H e=none:=λ{e} he _b=>by
  rw[ak _b] at he;by_cases z:e=dx
  .rw[z];exact y'
  .rw[ak z] at he;exact he
 have _c:=back Z' n6;have af':=back Y' n5;have _d:=back X' n7;refine⟨_,O,d,_,O,.inl (U.seq hd),λl h=>?_⟩;have Y:l≠r:=λz=>by rw[z,h1] at h;cases h
 have B':l≠ls:=λz=>by rw[z,A'] at h;cases h
 have C':l≠lp:=λz=>by rw[z,y] at h;cases h
 have _e:l≠rl:=λz=>by rw[z,z'] at h;cases h
 refine⟨_,O,r,dx,_,O,(by rw[ak Y.symm];exact h1),lk,_,O,r,dx,_,O,au,lk,?_⟩
 have _f:H l=none:=by
  cases z:H l with
  | none=>rfl
  | some o=>rw[U l o z] at h;cases h
 generalize b':ah (ah (ah H1 l (.lst (bV b))) r (.ins CR dx (bM "taken" (V.ref l) (b8 (hh 0 tk ls lp rl))))) r (.ins CR dx (bM "closed" (V.bl true) (bM "taken" (V.ref l) (b8 (hh 0 tk ls lp rl)))))=D;have e3:D r=some (.ins CR dx (b8 {hh 0 l ls lp rl with closed:=true})):=by rw[<-b'];exact au
 have G:∀{e:Addr},e≠r->e≠l->D e=H1 e:=λ{e} I e'=>by rw[<-b',ak I,ak I,ak e']
 have _g:ao H D:=λe o he=>by rw[G (a6 he T) (a6 he _f)];exact U e o he
 have _h:bF CR CL CS CP D r {hh (if false=true then 1 else 0) l ls lp rl with closed:=true} false true b RM.start []:=by
  refine bF.Mf (dr:=_a) e3 ?_ ?_ ?_ ?_ B' C' n3 V'
  .rw[<-b',ak Y,ak Y];exact au
  .rw[G n5 B'.symm];exact A'
  .rw[G n6 C'.symm];exact y
  .rw[G n7 _e.symm];exact z'
 have _i:∀e∈[r,lp,rl],H e=none:=λe he=>by
  rcases List.mem_cons.mp he with z | z
  .rw[z];exact T
  .rcases List.mem_cons.mp z with z | z
   .rw[z];exact _c
   .rw[List.mem_singleton.mp z];exact _d
 have D':∀{f' i':Hp},ao H f'->Kp [r,lp,rl] f' i'->ao H i':=λ{f' i'} sa _j e o he=>_j e o (sa e o he) λz=>by rw[_i e z] at he;cases he
 refine⟨_,O,r,_,false,true,b,RM.start,[],O,_h,.inl ⟨O,λA ag' _k j' k' ah' l' m' _l _m=>?_⟩⟩;have j':A.tk=l:=j';have k':A.lp=lp:=k';have l':A.rl=rl:=l';have m':A.out=[]:=m'
 refine nO (λσ H'=>σ=[some (.ref d),some (.ref r)]/\∃(n:Nat) (c:bb) (f:RX) (ps:List (Addr×Info)),bF CR CL CS CP H' r f false true b c ps/\f.tk=l/\f.lp=lp/\f.rl=rl/\f.out=[]/\eB CT CS CP [r,l,lp,rl] H' f.pend c (nextT false true b c)/\RM.runN false true b n=some c/\
  (∀t∈(LwReel.found false true b).take n,RM.iv t=none)/\c.aU≠ .done/\ao H H')
  (λ_ H'=>match H' r with | some (.ins _ _ fs)=>(match fs.lookup ("place":Str),fs.lookup ("due":Str) with | some (.int p),some (.int p')=>2*(b.length+1 - p.toNat)+(if p'=0 then 1 else 0) | _,_=>0) | _=>0)
  ⟨O,0,RM.start,A,[],_k,j',k',l',m',_l,O,λt _n=>by simp at _n,aJ,D' _g (_m.mono λc hc=>by rw[List.mem_singleton.mp hc];exact cq)⟩ ?_ ?_
 .rintro σ H' ⟨rfl,n,c,f,ps,J,t1,t2,t3,t4,E',M,F',G',I'⟩;have w:nextT false true b c=aV false true b c:=by unfold nextT;rw[ar G']
  obtain⟨⟨t,c'⟩,g⟩:=RM.K8 (ae:=false) (b:=b) G';rw[w,g] at E';obtain⟨a,q',J'⟩:=E';obtain⟨K',L',pl,ai',pt,M',aj',N',ak',al'⟩:=id J';obtain⟨dr,O'⟩:=J.ins;have _o:(match H' r with | some (.ins _ _ fs)=>(match fs.lookup ("place":Str),fs.lookup ("due":Str) with | some (.int p),some (.int p')=>2*(b.length+1 - p.toNat)+(if p'=0 then 1 else 0) | _,_=>0) | _=>0)=2*(b.length+1 - f.place.toNat)+(if f.aU=0 then 1 else 0):=by rw[O'];rfl
  refine⟨_,O,r,dr,_,_,O,O',O,a,K',_,_,q',M',O,L',_,_,_,O,O,ay.of N',gf (j:=0) O,(by show 2<=sizeLine;decide),λtp r'=>?_⟩;have x:ao H' (ah H' tp (.tup [V.int 4,V.int 6])):=a9 r';refine⟨tp,_,O,.inr (cI.of au),O,O,_,O,?_⟩
  have _p:(if true=true then !j0 (V.int (RM.told t).code) [V.int 4,V.int 6] else j0 (V.int (RM.told t).code) [V.int 4,V.int 6])=!decide ((RM.told t).code∈([4,6]:List Int)):=by
   rw[az O,<-sg];rfl
  rw[_p];refine kl (λm=>?_) λm=>?_
  ·
   have y:RM.iv t=none:=by
    cases t with
    | fault k s p=>exact absurd (by show(4:Int)∈([4,6]:List Int);simp) m
    | _=>rfl
   have _q:t≠ .end_:=λz=>by rw[z] at m;exact m (by show(6:Int)∈([4,6]:List Int);simp)
   have _r:=RM.yr M;obtain⟨_s,am',P'⟩:=RM.Hz g y _q _r;have u':=J.same x;refine⟨_,O,r,f,false,true,b,c,ps,O,u',?_,λz=>?_,λt9 _t u an' C _u ao' v' e1 w' _v _w R' ap' aq' S'=>⟨⟨O,n+1,_t,C,_u,v',e1.trans t1,w'.trans t2,_v.trans t3,_w.trans t4,?_,?_,?_,?_,?_⟩,?_⟩⟩
   .rw[w,g,t1,t2,t3,t4];exact⟨a,q',J'.kp (Kp.same x)⟩
   .rw[w,g] at z;cases z
   .rw[w,g] at u;cases u;rw[t1,t2,t3,t4] at R';exact R'
   .rw[w,g] at u;cases u;exact RM.runN_succ M g
   .exact RM.Jo M g F' y
   .rw[w,g] at u;cases u;rcases P' with z | z<;>rw[z]<;>decide
   .rw[t2,t3] at S';exact D' (I'.trans x) S'
   .rw[w,g] at u;cases u;obtain⟨ar',_x⟩:=v'.ins;have T':=v'.at_ P';have _y:=J.at_ (.inl _s);rw[_o,_x];show 2*(b.length+1 - C.place.toNat)+(if C.aU=0 then 1 else 0) <2*(b.length+1 - f.place.toNat)+(if f.aU=0 then 1 else 0);have e1:C.place.toNat=c'.at_:=by rw[T'.1];exact ep _
    have w':f.place.toNat=c.at_:=by rw[_y.1];exact ep _
    have e3:(if C.aU=0 then 1 else 0)<=1:=by split<;>omega
    have:=T'.2;rw[e1,w'];omega
  ·
   have u':=J.same x;obtain⟨_z,_A⟩:=u'.ins;refine⟨_,O,r,_z,_,_,O,_A,O,a,K',_,_,q',x _ _ M',O,?_⟩;obtain⟨_B,_C⟩:=RM.FU M g F';refine q L' _ ?_ (I'.trans x);rw[x _ _ N']
   have:qc b=g9 t:=by
    unfold qc
    cases t with
    | fault k s p=>rw[_B k s p O];rfl
    | end_=>rw[_C O];rfl
    | head=>exact absurd m (by show ¬(1:Int)∈([4,6]:List Int);decide)
    | part p pl=>exact absurd m (by show ¬(2:Int)∈([4,6]:List Int);decide)
    | index=>exact absurd m (by show ¬(3:Int)∈([4,6]:List Int);decide)
    | found o=>exact absurd m (by show ¬(5:Int)∈([4,6]:List Int);decide)
   rw[this]
 .rintro σ H Q Q' i ⟨v,_D,a,dx,fs,_E,I,e',_F,a2,_G,_H,_I,_J,_K,_L,p,xs,i1,_M,_N,_O,_P,_Q,_R,gP⟩;refine⟨v,_D,a,dx,fs,_E,I,e',_F,a2,_G,_H,_I,_J,_K,_L,p,xs,i1,_M,_N,_O,_P,_Q,_R,λtp r'=>?_⟩;obtain⟨p2,_S,_T,_U,_V,_W,k,_X,_Y⟩:=gP tp r';exact⟨p2,_S,_T,_U,_V,_W,k,_X,i _ _ _Y⟩
theorem xR {a:Nat}{X r:Bytes}{c d:UInt8}(h:X[a]?=some d):LwReel.told kind (c::r) ⟨X.drop a,a⟩=if c=d then LwReel.told kind r ⟨X.drop (a+1),a+1⟩ else .error (kind,a):=by
 rw[RM.oN h];rfl
theorem xV {a:Nat}{X r:Bytes}{c:UInt8}(h:X.length<=a):LwReel.told kind (c::r) ⟨X.drop a,a⟩= .error (4,a):=by
 rw[lB h];rfl
noncomputable def Aj (CB:Addr)(f:LwReel.Rd Unit)(b:Addr)(s:BS)(H:Hp)(Q:VK)(E:XK):Prop:=
 (∀t a c H',f ⟨s.X.drop s.at_,s.at_⟩= .ok ((),t)->bj CB H' b {s with at_:=a,ps:=c}->aQ b s.pl H H'->Q .aE H')/\
 (∀(k p:Nat) H',f ⟨s.X.drop s.at_,s.at_⟩= .error (k,p)->e_ CB H' b s.st->aQ b s.pl H H'->E (k:Int) (p:Int) H')
noncomputable def kv:LwReel.Rd Unit:=andThen (LwReel.told 4 (LwReel.MARK++[0x2E])) λ_=>LwReel.finish
inductive ED (CB:Addr)(vs:List V)(H:Hp)(Q:VK)(E:XK):Prop
 | mk b s (_:vs=[.ref b]) (_:bj CB H b s) (_:Aj CB kv b s H Q E)
theorem BB {H H':Hp}{b:Addr}{s:BS}{kind:Nat}{r:Bytes}{c d:UInt8}(hx:s.X[s.at_]?=some d)(h:(d.toNat:Int)=(c.toNat:Int)):LwReel.told kind (c::r) ⟨s.X.drop s.at_,s.at_⟩=LwReel.told kind r ⟨s.X.drop (s.at_+1),s.at_+1⟩:=by
 rw[xR hx,az (UInt8.toNat_inj.mp af)]
theorem A8 {b:Addr}{r:Bytes}{c d:UInt8}(hx:s.X[s.at_]?=some d)(h:(d.toNat:Int)≠(c.toNat:Int)):LwReel.told kind (c::r) ⟨s.X.drop s.at_,s.at_⟩= .error (kind,s.at_):=by
 rw[xR hx,ar (λz=>h (by rw[z]))]
theorem HL (h:k<4):∃m,(LwReel.MARK++[0x2E])[k]?=some m/\([V.int 76,V.int 119,V.int 142,V.int 46]:List V)[k]?=some (V.int (m.toNat:Int)):=by
 match k,h with
 | 0,_=>exact⟨0x4C,O,O⟩
 | 1,_=>exact⟨0x77,O,O⟩
 | 2,_=>exact⟨0x8E,O,O⟩
 | 3,_=>exact⟨0x2E,O,O⟩
variable (r0:Fn K mg "expect_index_end" yh ["body"])
variable (eR:rq K mg "LAST_BYTES" [.int 76,.int 119,.int 142,.int 46])
variable (iV:aS P w K mg base (bZ P w CF) 7 "expect_index_end" ["body"] (ED CB))
include ag i9 i0 r0 eR in
theorem FT:type_of% iV:=by
 obtain⟨k,eR,p⟩:=eR;refine c0 r0 ["body","wanted"] ?_;rintro G H vs Q E w r ⟨b,s,rfl,B,x,l⟩ I J
 refine⟨_,aj (fc j5 O (IQ (lr (v:= .ref k) O eR O)) (dc 1 w)
  (aq (bU (bI i9 bw r (a_ (pv 0) (aF (pv 1) (aA ag.eQ)))))))
  (aq (bU (bI i0 bw r (aB (pv 0))))),?_⟩
 refine fJ ?_
 intros
 have M:=BS.gg B
 refine⟨k,O,⟨_,p _⟩,FN (K:=K) (a:=k) (xs:=[.int 76,.int 119,.int 142,.int 46]) (λi σ H'=>(∃n,σ=[some (.ref b),n])/\bj CB H' b {s with at_:=s.at_+i}/\aQ b s.pl H H'/\
  LwReel.told 4 (LwReel.MARK++[0x2E]) ⟨s.X.drop s.at_,s.at_⟩=LwReel.told 4 ((LwReel.MARK++[0x2E]).drop i) ⟨s.X.drop (s.at_+i),s.at_+i⟩) ⟨⟨none,O⟩,B,aQ.refl,O⟩ (λi σ H' _ _=>p _) ?_ ?_⟩
 .rintro i y σ H' hi ⟨⟨n,rfl⟩,t,o,f⟩;have z:i<4:=(List.getElem?_eq_some_iff.mp hi).1;obtain⟨m,hm,A⟩:=HL z;have hy:y=V.int (m.toNat:Int):=cx (hi.symm.trans A);subst hy;have C:(LwReel.MARK++[0x2E]).drop i=m::(LwReel.MARK++[0x2E]).drop (i+1):=RM.oN hm;rw[C] at f;refine⟨_,O,_,O,b,_,_,_,O,t,λc H2 D hc d g h=>?_,λc H2 D hc d hs h=>?_,λd=>?_⟩
  .exact⟨⟨some (.int (m.toNat:Int)),O⟩,g,o.trans h,f.trans (BB (H:=H) (H':=H) (b:=b) (s:={s with at_:=s.at_+i}) hc d)⟩
  .refine l 4 (s.at_+i) H2 ?_ hs (o.trans h);exact cB (f.trans (A8 (b:=b) (s:={s with at_:=s.at_+i}) hc d))
  .have d:s.at_+i=s.e:=d;have:=l 4 (s.at_+i) H' (cB (f.trans (xV af))) t.stream o;rw[d] at this;exact this
 .rintro σ H' ⟨⟨n,rfl⟩,g,h,f⟩;have u:LwReel.told 4 (LwReel.MARK++[0x2E]) ⟨s.X.drop s.at_,s.at_⟩= .ok ((),⟨s.X.drop (s.at_+4),s.at_+4⟩):=f;have N:s.at_+4<=s.e:=g.le;have j:=Aa (X:=s.X) (a:=s.at_+4) af;refine⟨_,O,b,_,O,g,λhe=>?_,λhe=>?_⟩
  .have he:s.at_+4=s.e:=he;rw[az af] at j;exact x _ (s.at_+4) s.ps H' ((bC u).trans j) g h
  .have he:s.at_+4<s.e:=he;rw[ar af] at j;exact l 4 (s.at_+4) H' ((bC u).trans j) g.stream h
structure PB where
 d:Addr
 xs:List Nat
 at_:Nat
 pl:Addr
 ps:List Int
noncomputable def nV (xs:List Nat):List V:=xs.map λ(n:Nat)=>V.int (n:Int)
noncomputable def eD (s:PB):List (Str×V):=[("data",.ref s.d),("at",.int (s.at_:Int)),("end",.int (s.xs.length:Int)),("plain",.bl true),("places",.ref s.pl),("stream",.int 0)]
structure PlainAt (CB:Addr)(H:Hp)(b:Addr)(s:PB):Prop where
 ins:∃dx,H b=some (.ins CB dx (eD s))
 bH:H s.pl=some (.lst (s.ps.map V.int))
 dat:H s.d=some (.lst (nV s.xs))
 ne:s.d≠s.pl
 le:s.at_<=s.xs.length
 cZ:s.xs.length<=300
theorem mv (xs:List Nat):(nV xs).length=xs.length:=by unfold nV;rw[aX]
theorem Ic {xs:List Nat}(h:xs[i]?=some n):(nV xs)[i]?=some (V.int (n:Int)):=by unfold nV;rw[dk,h];rfl
theorem wq {xs:List Nat}{y:V}(h:(nV xs)[i]?=some y):∃n,xs[i]?=some n/\y=V.int (n:Int):=by
 unfold nV at h;rw[dk] at h
 cases e:xs[i]? with
 | none=>rw[e] at h;cases h
 | some z=>rw[e] at h;exact⟨z,O,(cx h).symm⟩
theorem B3 {l:List Nat}(h:l.all (λc=>decide (c<=255))=true):nV l=bV (l.map UInt8.ofNat):=by
 unfold nV bV;rw[mi];refine rh λn a=>?_;have:=List.all_eq_true.mp h n a;have h2:n<=255:=dS this;show V.int (n:Int)=V.int (((UInt8.ofNat n).toNat:Nat):Int);rw[RM.u8 af]
theorem PlainAt.bp {b:Addr}{s:PB}(B:PlainAt CB H b s):b≠s.pl:=let ⟨_,h⟩:=B.ins;ef h B.bH (by intro z;cases z)
theorem PlainAt.bd {b:Addr}{s:PB}(B:PlainAt CB H b s):b≠s.d:=let ⟨_,h⟩:=B.ins;ef h B.dat (by intro z;cases z)
theorem PlainAt.setAt {b:Addr}{s:PB}(B:PlainAt CB H b s)(h2:n<=s.xs.length)(c:H' b=some (.ins CB dx (eD {s with at_:=n})))(a:aQ b b H H'):PlainAt CB H' b {s with at_:=n}:=
 ⟨⟨dx,c⟩,a _ _ B.bH B.bp.symm B.bp.symm,a _ _ B.dat B.bd.symm B.bd.symm,B.ne,h2,B.cZ⟩
theorem PlainAt.same {b:Addr}{s:PB}(B:PlainAt CB H b s)(h:ao H H'):PlainAt CB H' b s:=⟨let ⟨dx,z⟩:=B.ins;⟨dx,h _ _ z⟩,h _ _ B.bH,h _ _ B.dat,B.ne,B.le,B.cZ⟩
theorem PlainAt.jV {b:Addr}{s:PB}{D:Addr}(B:PlainAt CB H b s)(h1:D≠b)(h2:D≠s.pl)(a:D≠s.d):PlainAt CB (ah H D o) b s:=
 ⟨let ⟨dx,h⟩:=B.ins;⟨dx,by rw[ak h1.symm];exact h⟩,by rw[ak h2.symm];exact B.bH,by rw[ak a.symm];exact B.dat,B.ne,B.le,B.cZ⟩
theorem PlainAt.back {b:Addr}{s:PB}{p:Addr}(B:PlainAt CB H' b s)(f:aQ b s.pl H H')(a:H' p=none):H p=none:=by
 cases e:H p with
 | none=>rfl
 | some o=>
  exfalso;by_cases c:p=b
  .obtain⟨dx,z⟩:=B.ins;rw[c,z] at a;cases a
  .by_cases d:p=s.pl
   .have:=B.bH;rw[<-d,a] at this;cases this
   .rw[f p o e c d] at a;cases a
abbrev kG (b pl:Addr)(H:Hp)(E:XK):Prop:=∀(k p:Int) H',aQ b pl H H'->E k p H'
inductive Mp (CB:Addr)(vs:List V)(H:Hp)(Q:VK)(E:XK):Prop
 | mk b s (_:vs=[.ref b]) (_:PlainAt CB H b s) (_:(∀n H',s.xs[s.at_]?=some n->PlainAt CB H' b {s with at_:=s.at_+1}->aQ b s.pl H H'->Q (.int (n:Int)) H')) (_:(s.xs[s.at_]?=none->kG b s.pl H E))
variable (mh:aS P w K mg base (bZ P w CF) 5 "take_one" ["body"] (Mp CB))
include ag mL aM bf in
theorem FF:type_of% mh:=by
 refine c0 mL ["body"] ?_;rintro k H vs Q E l f ⟨b,s,rfl,B,q,g⟩ m o
 refine⟨_,aj (aZ (aY bW (aw aM (pv 0)) (aw aM (pv 0)))
  (aq (d6 bf f bw (aF (aA ag.eQ) (aw aM (pv 0))))) a7)
  (aj (hT aM (pv 0) aL iQ)
  (aq (aI (cz cC (aw aM (pv 0)) (aR d_ (aw aM (pv 0)) aL) (λ_ _=>rfl))))),?_⟩
 refine cV ?_
 intros
 obtain⟨dx,a⟩:=B.ins;refine⟨_,O,b,dx,_,_,O,a,O,_,O,b,dx,_,_,O,a,O,O,_,O,bx (λh=>?_) λh=>?_⟩
 .refine⟨_,O,b,dx,_,_,O,a,O,_,_,O,g (List.getElem?_eq_none_iff.mpr af) _ _ _ aQ.refl⟩
 .have i:s.at_<s.xs.length:=by have:=B.le;omega
  obtain⟨c,hc⟩:∃c,s.xs[s.at_]?=some c:=⟨_,dy i⟩;have d:=B.setAt (n:=s.at_+1) af (H':=ah H b (.ins CB dx (eD {s with at_:=s.at_+1}))) (dx:=dx) au aQ.g0;have e:ah H b (.ins CB dx (eD {s with at_:=s.at_+1})) b=some (.ins CB dx (eD {s with at_:=s.at_+1})):=au;exact⟨_,O,b,dx,_,_,O,a,O,_,_,O,O,dx,_,a,lk,_,O,b,dx,_,_,O,e,O,_,O,b,dx,_,_,O,e,O,_,_,O,O,_,_,_,_,O,O,ay.of d.dat,f_ (j:=s.at_) (v:=V.int (c:Int)) (by simp) (Ic hc),q c _ hc d aQ.g0⟩
inductive Dk (CB:Addr)(vs:List V)(H:Hp)(Q:VK)(E:XK):Prop
 | mk b s (_:vs=[.ref b]) (_:PlainAt CB H b s) (_:s.ps.length<=s.at_) (_:(∀n H',s.xs[s.at_]?=some n->PlainAt CB H' b {s with at_:=s.at_+1,ps:=s.ps++[(s.at_:Int)]}->aQ b s.pl H H'->Q (.int (n:Int)) H')) (_:(s.xs[s.at_]?=none->kG b s.pl H E))
variable (iI:aS P w K mg base (bZ P w CF) 7 "read_number" ["body"] (Dk CB))
include aM iU mw mh in
theorem Mx:type_of% iI:=by
 refine c0 mw ["body"] ?_;rintro o H vs Q E r f ⟨b,s,rfl,B,L,h,i⟩ t u
 refine⟨_,aj (bU (eW fe hY hZ iW (aw aM (pv 0)) (aB (aw aM (pv 0)))))
  (aj (aZ (d2 (aw aM (pv 0))) (aq (aI (bI mh bw f (aB (pv 0))))) a7)
  (aq (aI (bI iU bw f (aF (pv 0) (aw aM (pv 0))))))),?_⟩
 refine cV ?_
 intros
 obtain⟨dx,a⟩:=B.ins;have v:=B.le;have w:=B.cZ;refine⟨_,O,b,dx,_,_,O,a,O,.inl ⟨O,_,ay.of B.bH⟩,_,O,b,dx,_,_,O,a,O,s.pl,_,_,O,O,B.bH,?_,?_⟩
 .rw[aX];exact fG (show s.ps.length<=300 by omega) aJ
 have g:PlainAt CB (ah H s.pl (.lst (s.ps.map V.int++[V.int (s.at_:Int)]))) b {s with ps:=s.ps++[(s.at_:Int)]}:=
  ⟨⟨dx,by rw[ak B.bp];exact a⟩,by show ah H s.pl _ s.pl=_;rw[au,cj];rfl,by show ah H s.pl _ s.d=_;rw[ak B.ne];exact B.dat,B.ne,B.le,B.cZ⟩
 obtain⟨j,l⟩:=g.ins;refine⟨_,O,b,j,_,_,O,l,O,_,O,gR ⟨_,O,b,{s with ps:=s.ps++[(s.at_:Int)]},O,g,λn H' c m e=>?_,λc k p H' e=>?_⟩⟩
 .exact h n H' c m (aQ.qd.trans e)
 .exact i c k p H' (aQ.qd.trans e)
theorem ma {b:Addr}{s:PB}{l:List Int}{x:Int}(a:σ[0]?=some (some (V.ref b)))(B:PlainAt CB H b s)(e:s.ps=l++[x])(q:Q (.int x) H):
 gw (sM K) (tF CB (c_ 0) "places") (tW (rU λi=>V.int (-i)) (tC (V.int 1))) σ H Q:=by
 obtain⟨dx,c⟩:=B.ins;refine⟨_,a,b,dx,_,_,O,c,O,_,O,s.pl,_,_,_,O,O,ay.of B.bH,?_,q⟩;show f5 (s.ps.map V.int) (-1)=some (V.int x);rw[e,cj];exact ub _ _
inductive Mi (CB:Addr)(vs:List V)(H:Hp)(Q:VK)(E:XK):Prop
 | mk b s lo hi (_:vs=[.ref b,.int lo,.int hi]) (_:PlainAt CB H b s) (_:s.ps.length<=s.at_) (_:(∀(n:Nat) H',s.xs[s.at_]?=some n->lo<=(n:Int)->(n:Int)<=hi->PlainAt CB H' b {s with at_:=s.at_+1,ps:=s.ps++[(s.at_:Int)]}->aQ b s.pl H H'->Q (.int (n:Int)) H')) (_:((∀n:Nat,s.xs[s.at_]?=some n->¬(lo<=(n:Int)/\(n:Int)<=hi))->kG b s.pl H E))
variable (kf:aS P w K mg base (bZ P w CF) 8 "read_within" ["body","least","most"] (Mi CB))
include ag aM bf lM iI in
theorem CU:type_of% kf:=by
 refine c0 lM ["body","least","most","value"] ?_;rintro j H vs Q E h d ⟨b,s,lo,hi,rfl,B,L,i,e⟩ k l
 refine⟨_,aj (aW 3 h (bI iI bw d (aB (pv 0))))
  (aj (aZ (PW.pt (gp (aY fM (pv 3) (pv 1)) (gu (aY cQ (pv 3) (pv 2)))))
   (aq (d6 bf d bw (aF (aA ag.eQ) (cz cC (aw aM (pv 0)) (eM eK aL) (λ_ _=>rfl))))) a7)
  (aq (aI (pv 3)))),?_⟩
 refine cV ?_
 intros
 refine⟨_,O,b,s,O,B,L,λn H' a c f=>?_,λa=>e λn g=>by rw[a] at g;cases g⟩;have bad:¬(lo<=(n:Int)/\(n:Int)<=hi)->E 4 (s.at_:Int) H':=λz=>e (λm hm=>by rw[a] at hm;cases hm;exact z) _ _ _ f;refine⟨_,O,_,O,_,_,O,O,_,O,bS (λh1=>?_) λh1=>?_⟩
 .exact gR (ma O c O ⟨_,_,O,bad af⟩)
 .refine⟨_,O,_,O,_,_,O,O,_,O,bS (λh2=>?_) λh2=>?_⟩
  .exact ma O c O ⟨_,_,O,bad af⟩
  .exact⟨_,O,i n H' a af af c f⟩
abbrev eF (xs:List Nat)(a n:Nat):List Nat:=(xs.drop a).take n
inductive EN (CB:Addr)(vs:List V)(H:Hp)(Q:VK)(E:XK):Prop
 | mk (b:Addr) (s:PB) (c5:Nat) (_:vs=[.ref b,.int (c5:Int)]) (_:PlainAt CB H b s) (_:s.ps.length<=s.at_) (_:(∀(n:Nat) p H',s.xs[s.at_]?=some n->n<=c5->s.at_+1+n<=s.xs.length->(eF s.xs (s.at_+1) n).all (λc=>decide (c<=255))=true->H p=none->H' p=some (.lst (nV (eF s.xs (s.at_+1) n)))->PlainAt CB H' b {s with at_:=s.at_+1+n,ps:=s.ps++[(s.at_:Int)]}->aQ b s.pl H H'->Q (.ref p) H')) (_:((∀n:Nat,s.xs[s.at_]?=some n->¬(n<=c5/\s.at_+1+n<=s.xs.length/\(eF s.xs (s.at_+1) n).all (λc=>decide (c<=255))=true))->kG b s.pl H E))
theorem Ff {xs:List Nat}(h1:i<=j)(h2:j<=xs.length):fN (nV xs) (some (i:Int)) (some (j:Int))=nV ((xs.drop i).take (j - i)):=by
 unfold fN;have e1:min i xs.length=i:=nQ af;rw[HT.pC,HT.pC,mv,e1,nQ h2];unfold nV;rw[u5,ui]
variable (lz:aS P w K mg base (bZ P w CF) 8 "read_string" ["body","most"] (EN CB))
include ag aM bf mN iI in
theorem K2:type_of% lz:=by
 refine c0 mN ["body","most","size","data","byte"] ?_;rintro m' H vs Q E k x ⟨b,s,c5,rfl,B,L,f',T⟩ p' q'
 refine⟨_,aj (aW 2 k (bI iI bw x (aB (pv 0))))
  (aj (aZ (PW.pt (gp (aY cQ (pv 2) (pv 1)) (gu (aY cQ (pv 2) (aR d_ (aw aM (pv 0)) (aw aM (pv 0)))))))
   (aq (d6 bf x bw (aF (aA ag.eQ) (cz cC (aw aM (pv 0)) (eM eK aL) (λ_ _=>rfl))))) a7)
  (aj (hT aM (pv 0) (pv 2) iQ)
  (aj (aW 3 k (ke j8 (aw aM (pv 0)) (fo (aR d_ (aw aM (pv 0)) (pv 2))) (fo (aw aM (pv 0)))))
  (aj (aZ (d2 (lP (tG O) (by rfl) ag.sO r7 (aB (ov O k (fF (pv 3)) (ib (own:=[("byte",4)]) (show g8 ["body","most","size","data","byte"] (bL pz) _ [("byte",4)]=true by decide+kernel)) (λ_ _ _ _ _=>dc 4 k) (λ_ _ _ _ _=>kb)
   (λ_ _ _ _ _=>hU cQ (pv 4) (aA ag.z6) (hI _))))))
   (aq (d6 bf x bw (aF (aA ag.eQ) (cz cC (aw aM (pv 0)) (eM eK aL) (λ_ _=>rfl))))) a7)
  (aq (aI (pv 3))))))),?_⟩
 refine gA ?_
 intros
 refine⟨_,O,b,s,O,B,L,λn H' l h A=>?_,λl=>T λn U=>by rw[l] at U;cases U⟩;have bad:∀{H2:Hp},aQ b s.pl H H2->¬(n<=c5/\s.at_+1+n<=s.xs.length/\(eF s.xs (s.at_+1) n).all (λc=>decide (c<=255))=true)->E 4 (s.at_:Int) H2:=λf z=>T (λm hm=>by rw[l] at hm;cases hm;exact z) _ _ _ f;obtain⟨dx,r⟩:=h.ins;refine⟨_,O,_,O,_,_,O,O,_,O,bS (λh1=>?_) λh1=>?_⟩
 .exact gR (ma O h O ⟨_,_,O,bad A af⟩)
 .refine⟨_,O,_,O,b,dx,_,_,O,r,O,_,O,b,dx,_,_,O,r,O,_,_,O,O,_,_,O,O,_,O,bS (λh2=>?_) λh2=>?_⟩
  .have h2:((s.xs.length:Nat):Int) - ((s.at_+1:Nat):Int) < (n:Int):=h2;exact ma O h O ⟨_,_,O,bad A af⟩
  .have h2:¬(((s.xs.length:Nat):Int) - ((s.at_+1:Nat):Int) < (n:Int)):=h2;have i':((s.at_+1:Nat):Int)+(n:Int)=((s.at_+1+n:Nat):Int):=af;have r':=h.le;have t:=h.setAt (n:=s.at_+1+n) (by show _<=s.xs.length;omega) (dx:=dx) (H':=ah H' b (.ins CB dx (eD {s with at_:=s.at_+1+n,ps:=s.ps++[(s.at_:Int)]}))) au aQ.g0;have u:ah H' b (.ins CB dx (eD {s with at_:=s.at_+1+n,ps:=s.ps++[(s.at_:Int)]})) b=some (.ins CB dx (eD {s with at_:=s.at_+1+n,ps:=s.ps++[(s.at_:Int)]})):=au;refine⟨_,O,b,dx,_,_,O,r,O,_,O,_,_,O,O,dx,_,r,lk,?_⟩;rw[show bM "at" (V.int (((s.at_+1:Nat):Int)+(n:Int))) (eD {s with at_:=s.at_+1,ps:=s.ps++[(s.at_:Int)]})=eD {s with at_:=s.at_+1+n,ps:=s.ps++[(s.at_:Int)]} from by rw[i'];rfl];have C:aQ b s.pl H (ah H' b (.ins CB dx (eD {s with at_:=s.at_+1+n,ps:=s.ps++[(s.at_:Int)]}))):=A.trans aQ.g0;generalize ah H' b (.ins CB dx (eD {s with at_:=s.at_+1+n,ps:=s.ps++[(s.at_:Int)]}))=H2 at t u C;refine⟨_,O,b,dx,_,_,O,u,O,_,O,b,dx,_,_,O,u,O,_,O,_,_,O,O,_,O,_,O,b,dx,_,_,O,u,O,_,O,s.d,_,O,ay.of t.dat,λp G=>?_⟩;have hi:(((s.at_+1+n:Nat):Int) - (n:Int))=((s.at_+1:Nat):Int):=af
   have j':fN (nV s.xs) (some (((s.at_+1+n:Nat):Int) - (n:Int))) (some ((s.at_+1+n:Nat):Int))=nV (eF s.xs (s.at_+1) n):=by
    rw[hi,Ff af af];congr 2;omega
   (try dsimp only)
   rw[j'];have I:=t.same (a9 (o:= .lst (nV (eF s.xs (s.at_+1) n))) G);have Y:H p=none:=t.back C G;have J:aQ b s.pl H (ah H2 p (.lst (nV (eF s.xs (s.at_+1) n)))):=C.new Y G;have v:ah H2 p (.lst (nV (eF s.xs (s.at_+1) n))) p=some (.lst (nV (eF s.xs (s.at_+1) n))):=au;generalize ah H2 p (.lst (nV (eF s.xs (s.at_+1) n)))=M at I J v;generalize N:eF s.xs (s.at_+1) n=str at*
   have u':str.length<=300:=by
    have:=B.cZ;rw[<-N,cF,bQ];omega
   refine⟨_,O,p,O,⟨_,ay.of v⟩,λD j=>mT (K:=K) (a:=p) (xs:=nV str) (λi w=>w=ah M D (.lst (((str.take i).map λc=>decide (255<c)).map V.bl))) O (λi w _ e=>?_) ?_ ?_⟩
   .rw[e];exact ay.of (a9 j _ _ v)
   .rintro i y w hi rfl;obtain⟨c,hc,rfl⟩:=wq hi;have v':i<str.length:=(List.getElem?_eq_some_iff.mp hc).1;refine⟨O,jJ ⟨_,O,_,_,O,O,_,au,?_,?_⟩⟩
    .rw[aX,aX,cF];exact fG (show min i str.length<=300 by omega) aJ
    .have k':decide ((255:Int) < (c:Int))=decide (255<c):=by rw[oO];omega
     show ah (ah M D _) D (.lst (_++[V.bl (decide ((255:Int) < (c:Int)))]))=_;rw[k',ia,RM.take_snoc hc,cj,cj];rfl
   .rintro w rfl;rw[mv,gM];refine⟨D,_,O,ay.of au,?_⟩
    have l':(str.map λc=>decide (255<c)).any id=!(str.all λc=>decide (c<=255)):=by
     rw[<-RM.wt,oK];rfl
    rw[l'];have b':aQ b s.pl H (ah M D (.lst ((str.map λc=>decide (255<c)).map V.bl))):=J.new (I.back J j) j;have e':=I.same (a9 (o:= .lst ((str.map λc=>decide (255<c)).map V.bl)) j);refine⟨_,O,ff (λg=>?_) λg=>?_⟩
    .have g:¬(str.all λc=>decide (c<=255))=true:=by
      intro z;rw[z] at g;cases g
     exact ma O e' O ⟨_,_,O,bad b' λz=>g z.2.2⟩
    .have g:(str.all λc=>decide (c<=255))=true:=by
      cases z:(str.all λc=>decide (c<=255)) with
      | true=>rfl
      | false=>rw[z] at g;cases g
     exact⟨_,O,f' n p _ l af af (by rw[N];exact g) Y (by rw[N];exact a9 j _ _ v) e' b'⟩
abbrev Gives (H:Hp)(Q:VK)(xs:List V):Prop:=∀p H',H p=none->H' p=some (.lst xs)->ao H H'->Q (.ref p) H'
theorem eU (a b:Bytes):bV (a++b)=bV a++bV b:=by unfold bV;rw[cj]
inductive GB (vs:List V)(H:Hp)(Q:VK)(_:XK):Prop
 | mk (n:Nat) (_:vs=[.int (n:Int)]) (_:n<2 ^ 64) (_:∀p,H p=none->Q (.ref p) (ah H p (.lst (bV (var n)))))
theorem H7 (n:Nat):Builtin.bitAnd (n:Int) 127=((n % 128:Nat):Int):=by
 have:=Bits.pT (x:=(n:Int)) 7 (lC _);simpa using this
theorem Jy (h:n<128):Builtin.bitOr (n:Int) 128=((n+128:Nat):Int):=by
 have:=Bits.Jv (a:=(n:Int)) (b:=1) (k:=7) af af aJ;simpa using this
variable (wA:Fn K mg "number_form" Az ["value"])
variable (ip:aS P w K mg base ba 5 "number_form" ["value"] GB)
include wA in
theorem Jw:type_of% ip:=by
 refine bJ wA ["value","form"] ?_;rintro u H vs Q E d w ⟨n,rfl,l,q⟩ x y
 refine⟨_,aj (aW 1 d (bK fw))
  (aj (kJ fE (aY cQ (pv 0) aL)
   (aj (bU (eW fe hY hZ iW (pv 1) (aB (aR Ia (aR j6 (pv 0) aL) aL))))
   (aq (aW 0 d (aR qK (pv 0) aL)))))
  (aj (bU (eW fe hY hZ iW (pv 1) (aB (pv 0))))
  (aq (aI (pv 1))))),?_⟩
 refine iT ?_
 intros
 refine⟨b3 _,λp m=>?_⟩
 refine nO (λσ H'=>∃(v k:Nat) (done:Bytes),σ=[some (.int (v:Int)),some (.ref p)]/\H'=ah H p (.lst (bV done))/\done++varOf (k+1) v=var n/\v<128 ^ (k+1)/\done.length+(k+1)=10)
  (λσ _=>match σ with | [some (.int v),_]=>v.toNat | _=>0) ⟨n,9,[],O,O,O,m4 l aJ,O⟩ ?_ ?_
 .rintro σ H' ⟨v,k,done,rfl,rfl,f,g,z⟩;refine⟨_,O,_,_,O,O,_,O,?_⟩
  have h:(bV done).length<sizeLine:=by
   rw[bu];exact fG (show done.length<=10 by omega) aJ
  refine bS (λc=>?_) λc=>?_
  .have c:(127:Int) < (v:Int):=c;refine⟨_,O,.inl ⟨O,_,ay.of au⟩,_,O,_,_,O,O,_,_,O,O,p,_,_,O,O,au,h,?_⟩
   obtain⟨j,rfl⟩:∃j,k=j+1:=by
    rcases k with _ | j
    .simp at g;omega
    .exact⟨j,O⟩
   have o:Builtin.bitOr (Builtin.bitAnd (v:Int) 127) 128=((UInt8.ofNat (v % 128+128)).toNat:Int):=by
    have hm:v % 128<128:=Nat.mod_lt _ aJ;rw[H7,Jy hm,RM.u8 af]
   refine⟨_,O,_,_,O,O,(show(0:Int)<=7 by decide),⟨v / 128,j,done++[UInt8.ofNat (v % 128+128)],?_,?_,?_,?_,?_⟩,?_⟩
   .have:(v:Int) / 2 ^ (7:Int).toNat=((v / 128:Nat):Int):=by simp
    (try dsimp only)
    rw[this];rfl
   .try dsimp only
    rw[o,ia,eU];rfl
   .rw[<-f,gv];congr 1;exact(RM.Jf (k:=j+1) af).symm
   .exact w6 (by rw[j2] at g;omega)
   .rw[aP];simp only[bA,cn];omega
   .show((v:Int) / 2 ^ (7:Int).toNat).toNat< ((v:Nat):Int).toNat;have:(v:Int) / 2 ^ (7:Int).toNat=((v / 128:Nat):Int):=by simp
    rw[this];simp only[ep];exact Nat.div_lt_self af aJ
  .have c:¬(127:Int) < (v:Int):=c;refine⟨_,O,.inl ⟨O,_,ay.of au⟩,_,O,p,_,_,O,O,au,h,_,O,?_⟩;have:=q p m;rw[<-f,RM.Mr af,eU] at this;rw[ia];have e:V.int (v:Int)=V.int (((UInt8.ofNat v).toNat:Nat):Int):=by rw[RM.u8 af]
   rw[e];exact this
 .rintro σ H Q Q' i ⟨v,h1,a,b,h2,r,k,s,t⟩;exact⟨v,h1,a,b,h2,r,k,s,i _ _ t⟩
inductive C3 (K:Frag)(vs:List V)(H:Hp)(Q:VK)(_:XK):Prop
 | mk (a:Addr) (ns:List Nat) (_:vs=[.ref a]) (_:ay K H a (nV ns)) (_:(∀n∈ns,n<2 ^ 64)) (_:ns.length<=100) (_:Gives H Q (bV (ns.flatMap var)))
theorem kQ (ns:List Nat):(ns.flatMap var).length<=10*ns.length:=by
 induction ns with
 | nil=>simp
 | cons n ns a=>
  rw[lE,aP,bA];have:=hp n;omega
variable (vu:Fn K mg "numbers_form" w5 ["values"])
variable (fT:aS P w K mg base ba 6 "numbers_form" ["values"] (C3 K))
include ip vu in
theorem GY:type_of% fT:=by
 refine bJ vu ["values","form","value"] ?_;rintro m H vs Q E g j ⟨a,ns,rfl,ha,k,r,q⟩ s t
 refine⟨_,aj (aW 1 g (bK fw))
  (aj (fc fE O (fF (pv 0)) (dc 2 g)
   (aq (bU (eW fe mS mx mE (pv 1) (aB (aO ip j (aB (pv 2))))))))
  (aq (aI (pv 1)))),?_⟩
 refine cV ?_
 intros
 refine⟨b3 _,λp b=>⟨_,O,a,O,⟨_,ao.seq (a9 b) ha⟩,kg (K:=K) (a:=a) (xs:=nV ns) (λi σ H'=>(∃d,σ=[some (.ref a),some (.ref p),d])/\H' p=some (.lst (bV ((ns.take i).flatMap var)))/\ao H H') ⟨⟨none,O⟩,au,a9 b⟩ (λi σ H' _ e=>e.2.2.seq ha) ?_ ?_⟩⟩
 .rintro i y σ H' hi ⟨⟨d,rfl⟩,h1,sm⟩;obtain⟨n,f,rfl⟩:=wq hi;have u:i<ns.length:=(List.getElem?_eq_some_iff.mp f).1;refine⟨_,O,.inl ⟨O,_,ay.of h1⟩,_,O,n,O,k n (fx f),λp2 h=>?_⟩;have l:p≠p2:=a6 h1 h;refine⟨p,p2,_,_,O,O,by rw[ak l];exact h1,au,?_,⟨some (.int (n:Int)),O⟩,?_,λc o hc=>?_⟩
  .rw[bu,bu];have v:=kQ (ns.take i);have w:=hp n;have x:(ns.take i).length<=100:=by rw[cF];omega
   exact bB (show _<=2000 by omega) aJ
  .rw[au,RM.take_snoc f,tw,eU];simp
  .rw[ak (a6 hc b),ak (a6 (sm c o hc) h)];exact sm c o hc
 .rintro σ H' ⟨⟨d,rfl⟩,h1,sm⟩;rw[mv,gM] at h1;exact⟨_,O,q p H' b h1 sm⟩
inductive J_ (vs:List V)(H:Hp)(Q:VK)(_:XK):Prop
 | mk (d:Addr) (b:Bytes) (_:vs=[.ref d]) (_:H d=some (.lst (bV b))) (_:b.length<=3000) (_:Gives H Q (bV (LwReel.str b)))
variable (tQ:Fn K mg "string_form" Ca ["data"])
variable (lj:aS P w K mg base ba 6 "string_form" ["data"] J_)
include ag ip tQ in
theorem HP:type_of% lj:=by
 refine bJ tQ ["data"] ?_;rintro g H vs Q E h e ⟨d,b,rfl,hd,i,q⟩ j k;refine⟨_,aq (aI (aR dJ (aO ip e (aB (bX ag (pv 0)))) (pv 0))),_,O,d,_,O,.inl (ay.of hd),b.length,by rw[bu];rfl,af,λp f=>?_⟩;have a:ao H (ah H p (.lst (bV (var b.length)))):=a9 f;refine⟨_,O,p,d,_,_,O,O,au,a _ _ hd,?_,λp2 c=>?_⟩
 .rw[bu,bu];have:=hp b.length;exact bB (show _<=4000 by omega) aJ
 .rw[<-eU];exact q p2 _ (a.free c) au (a.trans (a9 c))
inductive M_ (CS:Addr)(vs:List V)(H:Hp)(Q:VK)(_:XK):Prop
 | mk (ls:Addr) (ss:List LwReel.Stream) (_:vs=[.ref ls]) (_:hN CS H ls ss) (_:(∀s∈ss,s.right=true)) (_:ss.length<=4) (_:Gives H Q (bV (headBody ss)))
theorem mr {s:LwReel.Stream}(h:s.right=true):s.kind<=255/\s.rate.num<2 ^ 32/\s.rate.den<2 ^ 32/\s.name.length<=16/\s.setup.length<=40:=by
 unfold LwReel.Stream.right at h;simp only[cH,dz] at h;exact⟨h.1,h.2.2.1,h.2.2.2.2.1,h.2.2.2.2.2.2.1,h.2.2.2.2.2.2.2⟩
theorem qe:(LwReel.str b).length<=b.length+10:=by
 unfold LwReel.str;rw[aP];have:=hp b.length;omega
theorem yC (s:LwReel.Stream):s.text=([s.kind,s.rate.num,s.rate.den]:List Nat).flatMap var++LwReel.str s.name++LwReel.str s.setup:=by
 unfold LwReel.Stream.text;simp[lE]
theorem Hh {s:LwReel.Stream}(h:s.right=true):s.text.length<=106:=by
 obtain⟨_,_,_,a,c⟩:=mr h;rw[yC,aP,aP];have h1:=kQ [s.kind,s.rate.num,s.rate.den];have h2:=qe (b:=s.name);have d:=qe (b:=s.setup);simp only[bA,cn] at h1;omega
theorem rV:∀{l:List LwReel.Stream},(∀s∈l,s.right=true)->(l.flatMap LwReel.Stream.text).length<=106*l.length
 | [],_=>by simp
 | s::l,h=>by
  rw[lE,aP,bA];have h1:=Hh (h s cq);have h2:=rV (l:=l) λt a=>h t (dw _ a);omega
variable (ua:Fn K mg "head_form" zu ["streams"])
variable (i8:aS P w K mg base ba 7 "head_form" ["streams"] (M_ CS))
include ag cO fT lj ua in
theorem Lg:type_of% i8:=by
 refine bJ ua ["streams","form","stream"] ?_;rintro z' H vs Q E G h ⟨ls,ss,rfl,⟨as,u,v,Y⟩,I,A',q⟩ B' C';have ext:∀{e:Expr} {t:TE} {X:Cx},True:=λ{_ _ _}=>trivial
 refine⟨_,aj (aW 1 G (aO fT h (aB (bK (aF (aA ag.wg) (bX ag (pv 0)))))))
  (aj (fc fE O (fF (pv 0)) (dc 2 G)
   (aj (bU (eW fe mS mx mE (pv 1) (aB (aO fT h (aB (bK (a_ (aw cO (pv 2)) (aF (aw cO (pv 2)) (aw cO (pv 2))))))))))
   (aj (bU (eW fe mS mx mE (pv 1) (aB (aO lj h (aB (aw cO (pv 2)))))))
   (aq (bU (eW fe mS mx mE (pv 1) (aB (aO lj h (aB (aw cO (pv 2)))))))))))
  (aq (aI (pv 1)))),?_⟩
 refine cV ?_
 intros
 refine⟨_,O,ls,_,O,.inl (ay.of u),(by show 2<=sizeLine;decide),λl0 n0=>?_⟩;rw[aX,v];have J:ao H (ah H l0 (.lst [V.int 1,V.int (ss.length:Int)])):=a9 n0;refine⟨l0,[1,ss.length],O,ay.of au,λn f=>?_,by simp,λp H1 b' h1 e'=>?_⟩
 .simp only[ed,ij,iX] at f;rcases f with rfl | rfl
  .decide
  .omega
 have M:ao H H1:=J.trans e';have j:H p=none:=J.free b';refine⟨_,O,ls,O,⟨_,ay.of (M _ _ u)⟩,kg (K:=K) (a:=ls) (xs:=as.map V.ref) (λi σ H'=>(∃w,σ=[some (.ref ls),some (.ref p),w])/\H' p=some (.lst (bV (var 1++(var ss.length++(ss.take i).flatMap LwReel.Stream.text))))/\ao H H') ⟨⟨none,O⟩,?_,M⟩ (λi σ H' _ e=>ay.of (e.2.2 _ _ u)) ?_ ?_⟩
 .rw[h1];simp[lE]
 .rintro i y σ H2 hi ⟨⟨w,rfl⟩,h2,d⟩;rw[dk] at hi;obtain⟨a,ha,rfl⟩:=Option.map_eq_some_iff.mp hi;have f':i<ss.length:=by rw[<-v];exact(List.getElem?_eq_some_iff.mp ha).1
  obtain⟨x,hx⟩:∃x,ss[i]?=some x:=⟨_,dy f'⟩;have i':=I x (fx hx);obtain⟨D',E',F',G',I'⟩:=mr i';obtain⟨dx,j',k',g,l',m'⟩:=Y i a x ha hx;have J':(ss.take i).length<=4:=by rw[cF];omega
  have K':=rV (l:=ss.take i) λs hs=>I s (List.mem_of_mem_take hs);have L':=hp 1;have M':=hp ss.length;have t1:=kQ [x.kind,x.rate.num,x.rate.den];have t2:=qe (b:=x.name);have t3:=qe (b:=x.setup);simp only[bA,cn] at t1;refine⟨_,O,.inl ⟨O,_,ay.of h2⟩,_,O,a,dx,_,_,O,d _ _ g,O,_,O,a,dx,_,_,O,d _ _ g,O,_,O,a,dx,_,_,O,d _ _ g,O,(by show 3<=sizeLine;decide),λl1 n1=>⟨l1,[x.kind,x.rate.num,x.rate.den],O,ay.of au,λn f=>?_,by simp,λp3 k p' q' r'=>?_⟩⟩
  .simp only[ed,ij,iX] at f;rcases f with rfl | rfl | rfl<;>omega
  have N:ao H2 k:=ao.trans (a9 n1) r';have N':p≠p3:=λz=>by rw[z,ao.free (a9 n1) p'] at h2;cases h2
  refine⟨p,p3,_,_,O,O,N _ _ h2,q',?_,?_⟩
  .rw[bu,bu,aP,aP];exact bB (show _<=1000 by omega) aJ
  have A:ah k p (.lst (bV (var 1++(var ss.length++(ss.take i).flatMap LwReel.Stream.text))++bV (([x.kind,x.rate.num,x.rate.den]:List Nat).flatMap var))) p=some (.lst (bV (var 1++(var ss.length++(ss.take i).flatMap LwReel.Stream.text))++bV (([x.kind,x.rate.num,x.rate.den]:List Nat).flatMap var))):=au;have m:ao H (ah k p (.lst (bV (var 1++(var ss.length++(ss.take i).flatMap LwReel.Stream.text))++bV (([x.kind,x.rate.num,x.rate.den]:List Nat).flatMap var)))):=λc o hc=>by rw[ak (a6 hc j)];exact N _ _ (d _ _ hc)
  generalize ah k p (.lst (bV (var 1++(var ss.length++(ss.take i).flatMap LwReel.Stream.text))++bV (([x.kind,x.rate.num,x.rate.den]:List Nat).flatMap var)))=O' at A m;refine⟨_,O,.inl ⟨O,_,ay.of A⟩,_,O,a,dx,_,_,O,m _ _ g,O,j',x.name,O,m _ _ l',af,λu' C P' v' T=>⟨p,u',_,_,O,O,T _ _ A,v',?_,?_⟩⟩
  .rw[aP,bu,bu,bu,aP,aP];exact bB (show _<=1000 by omega) aJ
  rw[<-eU,<-eU];have D:ah C p (.lst (bV (var 1++(var ss.length++(ss.take i).flatMap LwReel.Stream.text)++([x.kind,x.rate.num,x.rate.den]:List Nat).flatMap var++LwReel.str x.name))) p=some (.lst (bV (var 1++(var ss.length++(ss.take i).flatMap LwReel.Stream.text)++([x.kind,x.rate.num,x.rate.den]:List Nat).flatMap var++LwReel.str x.name))):=au;have r:ao H (ah C p (.lst (bV (var 1++(var ss.length++(ss.take i).flatMap LwReel.Stream.text)++([x.kind,x.rate.num,x.rate.den]:List Nat).flatMap var++LwReel.str x.name)))):=λc o hc=>by rw[ak (a6 hc j)];exact T _ _ (m _ _ hc)
  generalize ah C p (.lst (bV (var 1++(var ss.length++(ss.take i).flatMap LwReel.Stream.text)++([x.kind,x.rate.num,x.rate.den]:List Nat).flatMap var++LwReel.str x.name)))=R' at D r;refine⟨_,O,.inl ⟨O,_,ay.of D⟩,_,O,a,dx,_,_,O,r _ _ g,O,k',x.setup,O,r _ _ m',af,λw' S' T' y' U=>⟨p,w',_,_,O,O,U _ _ D,y',?_,⟨some (.ref a),O⟩,?_,λc o hc=>?_⟩⟩
  .rw[bu,bu,aP,aP,aP,aP];exact bB (show _<=1000 by omega) aJ
  .rw[au,<-eU,RM.take_snoc hx,tw];simp[yC]
  .rw[ak (a6 hc j)];exact U _ _ (r _ _ hc)
 .rintro σ H2 ⟨⟨w,rfl⟩,h2,d⟩;rw[aX,v,gM] at h2;exact⟨_,O,q p H2 j h2 d⟩
noncomputable def lN (x:Info):Bytes:=LwReel.Part.front ⟨x.stream,x.time,x.lasts,x.flags,[]⟩
theorem Cs (x:Info):lN x=([x.stream,zig x.time,x.lasts,x.flags]:List Nat).flatMap var:=by
 unfold lN LwReel.Part.front;simp[lE]
structure ki (x:Info):Prop where
 st:x.stream<2 ^ 64
 tm:zig x.time<2 ^ 64
 ln:x.lasts<2 ^ 64
 fl:x.flags<2 ^ 64
inductive Fe (CP:Addr)(vs:List V)(H:Hp)(Q:VK)(_:XK):Prop
 | mk (a:Addr) (x:Info) (_:vs=[.ref a]) (_:dD CP H a x) (_:ki x) (_:Gives H Q (bV (lN x)))
variable (ud:Fn K mg "part_numbers_form" BO ["part"])
variable (iz:aS P w K mg base ba 7 "part_numbers_form" ["part"] (Fe CP))
include h4 bh fT ud in
theorem DR:type_of% iz:=by
 refine bJ ud ["part"] ?_;rintro g H vs Q E h c ⟨a,x,rfl,⟨dx,dl,ha⟩,b,q⟩ i j;refine⟨_,aq (aI (aO fT c (aB (bK (a_ (aw bh (pv 0)) (a_ (aO h4 c (aB (aw bh (pv 0)))) (aF (aw bh (pv 0)) (aw bh (pv 0))))))))),_,O,a,dx,_,_,O,ha,O,_,O,a,dx,_,_,O,ha,O,x.time,O,_,O,a,dx,_,_,O,ha,O,_,O,a,dx,_,_,O,ha,O,(by show 4<=sizeLine;decide),λl d=>⟨l,[x.stream,zig x.time,x.lasts,x.flags],O,ay.of au,λn e=>?_,by simp,λp H' f h1 sm=>?_⟩⟩
 .simp only[ed,ij,iX] at e;rcases e with rfl | rfl | rfl | rfl
  .exact b.st
  .exact b.tm
  .exact b.ln
  .exact b.fl
 .rw[<-Cs] at h1;exact q p H' (ao.free (a9 d) f) h1 (ao.trans (a9 d) sm)
noncomputable def gj (CP:Addr)(H:Hp)(a:Addr)(p:LwReel.Part)(pl:Int):Prop:=∃dx dl,H a=some (.ins CP dx (cW (p.stream:Int) p.time (p.lasts:Int) (p.flags:Int) dl (p.bytes.length:Int) pl))/\H dl=some (.lst (bV p.bytes))
theorem gj.same {p:LwReel.Part}{pl:Int}(h:gj CP H a p pl)(s:ao H H'):gj CP H' a p pl:=let ⟨dx,dl,h1,h2⟩:=h;⟨dx,dl,s _ _ h1,s _ _ h2⟩
theorem gj.info {H:Hp}{a:Addr}{p:LwReel.Part}{pl:Nat}(h:gj CP H a p (pl:Int)):dD CP H a (p.info pl):=let ⟨dx,dl,h1,_⟩:=h;⟨dx,dl,h1⟩
theorem xu (p:LwReel.Part)(pl:Nat):p.body=lN (p.info pl)++p.bytes:=(O)
theorem IM (x:Info):(lN x).length<=40:=by
 rw[Cs];exact kQ _
inductive El (CP:Addr)(vs:List V)(H:Hp)(Q:VK)(_:XK):Prop
 | mk (a:Addr) (p:LwReel.Part) (pl:Nat) (_:vs=[.ref a]) (_:gj CP H a p (pl:Int)) (_:ki (p.info pl)) (_:p.bytes.length<=3000) (_:Gives H Q (bV p.body))
variable (uq:Fn K mg "part_form" yn ["part"])
variable (iS:aS P w K mg base ba 8 "part_form" ["part"] (El CP))
include bh iz uq in
theorem Di:type_of% iS:=by
 refine bJ uq ["part"] ?_;rintro i H vs Q E j e ⟨a,p,pl,rfl,c,f,k,q⟩ m n;refine⟨_,aq (aI (aR dJ (aO iz e (aB (pv 0))) (aw bh (pv 0)))),_,O,a,p.info pl,O,c.info,f,λl H1 o h1 b=>?_⟩;obtain⟨dx,dl,g,h⟩:=c.same b;refine⟨_,O,a,dx,_,_,O,g,O,l,dl,_,_,O,O,h1,h,?_,λl2 d=>?_⟩
 .rw[bu,bu];have:=IM (p.info pl);exact bB (show _<=4000 by omega) aJ
 .rw[<-eU,<-xu];exact q l2 _ (b.free d) au (b.trans (a9 d))
inductive Nj (vs:List V)(H:Hp)(Q:VK)(_:XK):Prop
 | mk (d:Addr) (b:Bytes) (k:UInt8) (_:vs=[.int (k.toNat:Int),.ref d]) (_:H d=some (.lst (bV b))) (_:b.length<=3000) (_:Gives H Q (bV (LwReel.box k b)))
theorem pe (b:Bytes):(crc b).length=4:=fK _ _
variable (tj:Fn K mg "box_of" A6 ["kind","body"])
variable (gy:aS P w K mg base ba 7 "box_of" ["kind","body"] Nj)
include ag fq hz hM tj in
theorem Er:type_of% gy:=by
 obtain⟨t,hM,G⟩:=hM;refine bJ tj ["kind","body","first"] ?_;rintro Y H vs Q E I r ⟨d,b,k,rfl,hd,b',q⟩ e' f'
 refine⟨_,aj (aW 2 I (aR dJ (aR dJ (ra rB (by rfl) ag.rD rn (aB (lr (v:= .ref t) O hM O))) (bK (aB (pv 0))))
  (aO fq r (aF (bX ag (pv 1)) aL))))
  (aq (aI (aR dJ (aR dJ (aR dJ (pv 2) (aO hz r (aB (pv 2)))) (pv 1)) (aO hz r (aB (pv 1)))))),?_⟩
 refine fJ ?_
 intros
 refine⟨t,_,O,.inr (G _),λl0 n0=>?_⟩;have u:ao H (ah H l0 (.lst [V.int 76,V.int 119,V.int 142])):=a9 n0;have w:ah H l0 (.lst [V.int 76,V.int 119,V.int 142]) l0=some (.lst [V.int 76,V.int 119,V.int 142]):=au;generalize ah H l0 (.lst [V.int 76,V.int 119,V.int 142])=m at u w;refine⟨_,O,(by show 1<=sizeLine;decide),λl1 n1=>?_⟩;have t1:ao m (ah m l1 (.lst [V.int (k.toNat:Int)])):=a9 n1;have e1:ah m l1 (.lst [V.int (k.toNat:Int)]) l1=some (.lst [V.int (k.toNat:Int)]):=au;generalize ah m l1 (.lst [V.int (k.toNat:Int)])=n at t1 e1;refine⟨l0,l1,_,_,O,O,t1 _ _ w,e1,(by show 4<=sizeLine;decide),λl2 n2=>?_⟩;have J:([V.int 76,V.int 119,V.int 142]++[V.int (k.toNat:Int)]:List V)=bV (LwReel.MARK++[k]):=(O);rw[J];have t2:ao n (ah n l2 (.lst (bV (LwReel.MARK++[k])))):=a9 n2;have x:ah n l2 (.lst (bV (LwReel.MARK++[k]))) l2=some (.lst (bV (LwReel.MARK++[k]))):=au;generalize ah n l2 (.lst (bV (LwReel.MARK++[k])))=c at t2 x;have y:ao H c:=(u.trans t1).trans t2;refine⟨_,O,d,_,O,.inl (ay.of (y _ _ hd)),b.length,4,by rw[bu];rfl,aJ,λl3 n3=>?_⟩;have t3:ao c (ah c l3 (.lst (bV (LwReel.le 4 b.length)))):=a9 n3;have e3:ah c l3 (.lst (bV (LwReel.le 4 b.length))) l3=some (.lst (bV (LwReel.le 4 b.length))):=au;generalize ah c l3 (.lst (bV (LwReel.le 4 b.length)))=o at t3 e3;refine⟨l2,l3,_,_,O,O,t3 _ _ x,e3,(by rw[bu,bu,fK];show 8<=sizeLine;decide),λl4 n4=>?_⟩;rw[<-eU,gv];generalize z:LwReel.MARK++([k]++LwReel.le 4 b.length)=a;have s:a.length=8:=by rw[<-z,aP,aP,fK];rfl
 have t4:ao o (ah o l4 (.lst (bV a))):=a9 n4;have e4:ah o l4 (.lst (bV a)) l4=some (.lst (bV a)):=au;generalize ah o l4 (.lst (bV a))=e at t4 e4;have M:ao H e:=(y.trans t3).trans t4;refine⟨_,O,_,O,l4,a,O,ay.of e4,λf n5=>?_⟩;have t5:ao e (ah e f (.lst (bV (crc a)))):=a9 n5;have e5:ah e f (.lst (bV (crc a))) f=some (.lst (bV (crc a))):=au;generalize ah e f (.lst (bV (crc a)))=p at t5 e5;refine⟨l4,f,_,_,O,O,t5 _ _ e4,e5,(by rw[bu,bu,pe,s];decide),λg n6=>?_⟩;rw[<-eU];have t6:ao p (ah p g (.lst (bV (a++crc a)))):=a9 n6;have e6:ah p g (.lst (bV (a++crc a))) g=some (.lst (bV (a++crc a))):=au;generalize ah p g (.lst (bV (a++crc a)))=h at t6 e6;have A:ao H h:=(M.trans t5).trans t6;refine⟨_,O,g,d,_,_,O,O,e6,A _ _ hd,?_,λi n7=>?_⟩
 .rw[bu,bu,aP,pe,s];exact bB (show _<=4000 by omega) aJ
 rw[<-eU];have t7:ao h (ah h i (.lst (bV (a++crc a++b)))):=a9 n7;have e7:ah h i (.lst (bV (a++crc a++b))) i=some (.lst (bV (a++crc a++b))):=au;generalize ah h i (.lst (bV (a++crc a++b)))=j at t7 e7;have C:ao H j:=A.trans t7;refine⟨_,O,d,b,O,ay.of (C _ _ hd),λl n8=>?_⟩;have t8:ao j (ah j l (.lst (bV (crc b)))):=a9 n8;have e8:ah j l (.lst (bV (crc b))) l=some (.lst (bV (crc b))):=au;generalize ah j l (.lst (bV (crc b)))=N at t8 e8;have D:ao H N:=C.trans t8;refine⟨i,l,_,_,O,O,t8 _ _ e7,e8,?_,λT n9=>?_⟩
 .rw[bu,bu,aP,aP,pe,pe,s];exact bB (show _<=4000 by omega) aJ
 rw[<-eU]
 have U:a++crc a++b++crc b=LwReel.box k b:=by
  rw[<-z];unfold LwReel.box;simp[gv]
 rw[U];exact q T _ (D.free n9) au (D.trans (a9 n9))
theorem xt (h:j<n):gV n (j:Int)=some j:=by
 unfold gV;rw[az af,az af];rfl
noncomputable def b9 (n:Nat)(aK:List Info):List V:=((List.range n).map λk=>cv aK k).map V.int
theorem sG (n:Nat)(aK:List Info):(b9 n aK).length=n:=by unfold b9;rw[aX,aX,oC]
theorem tL (aK:List Info)(h:k<n):(b9 n aK)[k]?=some (V.int (cv aK k)):=by
 unfold b9;rw[dk,dk,o4 h];rfl
theorem xZ {x:Info}(h:x.stream<n):(b9 n aK).set x.stream (V.int x.time)=b9 n (aK++[x]):=by
 unfold b9;rw[<-RM.CW h,List.map_set]
inductive LK (CL CS CP:Addr)(vs:List V)(H:Hp)(Q:VK)(_:XK):Prop
 | mk (r:Addr) (ss:List LwReel.Stream) (ps:List (Addr×Info)) (_:vs=[.ref r]) (_:fO CL CS CP H r ss ps) (_:ss.length<=4) (_:(∀p∈ps,p.2.stream<ss.length)) (_:ps.length<=16) (_:Gives H Q (nV (eb (ps.map (·.2)))))
variable (ur:Fn K mg "index_numbers" u6 ["reel"])
variable (h3:aS P w K mg base ba 6 "index_numbers" ["reel"] (LK CL CS CP))
include ag h4 bh bG ur in
theorem Gs:type_of% h3:=by
 refine bJ ur ["reel","times","numbers","part","since","stream"] ?_;rintro p' H vs Q E f e' ⟨r,ss,ps,rfl,⟨dr,ls,lp,n,⟨as,I,f',_⟩,j⟩,q',i',r',q⟩ u' v'
 refine⟨_,aj (yD (i:=1) O f O O (qh O O O O) (fF (aw bG (pv 0))) (ib (own:=[("stream",5)]) (show g8 ["reel","times","numbers","part","since","stream"] (bL u6) _ [("stream",5)]=true by decide+kernel))
  (λ_ _ _ _ _=>dc 5 f) (λ_ _ _ _ _=>kb) (λ_ _ _ _ _=>aL))
  (aj (aW 2 f (bK (aB (bX ag (aw bG (pv 0))))))
  (aj (fc fE O (fF (aw bG (pv 0))) (dc 3 f)
   (aj (aW 4 f (aR d_ (aw bh (pv 3)) (cz cC (pv 1) (aw bh (pv 3)) (λ_ _=>rfl))))
   (aj (yw (aw bh (pv 3)) (xA (pv 1) (aw bh (pv 3)) CI))
   (aq (bU (eW fe mS mx mE (pv 2)
    (aB (bK (a_ (aw bh (pv 3)) (a_ (aO h4 e' (aB (pv 4))) (a_ (aw bh (pv 3)) (aF (aw bh (pv 3)) (aw bh (pv 3))))))))))))))
  (aq (aI (pv 2))))),?_⟩
 refine iT ?_
 intros
 refine⟨_,O,r,dr,_,_,O,n,O,ls,O,⟨_,ay.of I⟩,λlt s=>mT (K:=K) (a:=ls) (xs:=as.map V.ref) (λi H'=>H'=ah H lt (.lst ((List.replicate i 0).map V.int))) O (λi H' _ e=>?_) ?_ ?_⟩
 .rw[e];exact ay.of (a9 s _ _ I)
 .rintro i y H' hy rfl
  have J:i<4:=by
   have:=(List.getElem?_eq_some_iff.mp hy).1;rw[aX] at this;omega
  refine⟨O,jJ ⟨_,au,?_,?_⟩⟩
  .rw[aX,pZ];exact cc J aJ
  .rw[ia,vp,cj];rfl
 rintro H1 rfl
 have j':(List.replicate (as.map V.ref).length 0).map V.int=b9 ss.length []:=by
  rw[aX,f'];unfold b9;congr 1;apply tZ;intro i;rw[vn,dk];by_cases hi:i<ss.length
  .rw[az hi,o4 hi];rfl
  .rw[ar hi,nF (by rw[oC];omega)];rfl
 rw[j'];have g:ao H (ah H lt (.lst (b9 ss.length []))):=a9 s;have e1:ah H lt (.lst (b9 ss.length [])) lt=some (.lst (b9 ss.length [])):=au;generalize ah H lt (.lst (b9 ss.length []))=H1 at g e1;refine⟨_,O,r,dr,_,_,O,g _ _ n,O,lp,_,O,.inl (ay.of (g _ _ j.1)),(by show 1<=sizeLine;decide),λln t=>?_⟩;rw[aX];have u:ao H1 (ah H1 ln (.lst [V.int (ps.length:Int)])):=a9 t;have M:ah H1 ln (.lst [V.int (ps.length:Int)]) ln=some (.lst [V.int (ps.length:Int)]):=au;generalize ah H1 ln (.lst [V.int (ps.length:Int)])=H2 at u M;have v:ao H H2:=g.trans u;have N:H ln=none:=g.free t;have T:lt≠ln:=a6 e1 t
 refine⟨_,O,r,dr,_,_,O,v _ _ n,O,lp,O,⟨_,ay.of (v _ _ j.1)⟩,kg (K:=K) (a:=lp) (xs:=ps.map λp=>V.ref p.1) (λi σ H'=>(∃w x k,σ=[some (.ref r),some (.ref lt),some (.ref ln),w,x,k])/\
  H' lt=some (.lst (b9 ss.length ((ps.take i).map (·.2))))/\H' ln=some (.lst (nV (ps.length::dA [] ((ps.take i).map (·.2)))))/\ao H H') ⟨⟨none,none,none,O⟩,u _ _ e1,M,v⟩ (λi σ H' _ e=>ay.of (e.2.2.2 _ _ j.1)) ?_ ?_⟩
 .rintro i y σ b hy ⟨⟨w,x,k,rfl⟩,h1,h2,l⟩;rw[dk] at hy;obtain⟨p,A,rfl⟩:=Option.map_eq_some_iff.mp hy;have U:=fx A;have J:i<ps.length:=(List.getElem?_eq_some_iff.mp A).1;have hx:=i' p U;obtain⟨dx,dl,d⟩:=(j.2 p U).same l;generalize Y:(ps.take i).map (·.2)=aK at h1 h2;have b':(ps.take (i+1)).map (·.2)=aK++[p.2]:=by rw[RM.take_snoc A,cj,Y];rfl
  refine⟨_,O,p.1,dx,_,_,O,d,O,_,O,_,O,p.1,dx,_,_,O,d,O,lt,_,_,_,O,O,ay.of h1,gf (tL aK hx),_,_,O,O,_,O,p.1,dx,_,_,O,d,O,_,O,_,O,p.1,dx,_,_,O,d,O,lt,_,_,p.2.stream,O,O,h1,?_,?_⟩
  .rw[sG];exact xt hx
  rw[xZ hx];have k':p.1≠lt:=λz=>by rw[z,h1] at d;cases d
  have C:ah b lt (.lst (b9 ss.length (aK++[p.2]))) lt=some (.lst (b9 ss.length (aK++[p.2]))):=au;have m:ah b lt (.lst (b9 ss.length (aK++[p.2]))) ln=_:=(ak T.symm).trans h2;have h:ah b lt (.lst (b9 ss.length (aK++[p.2]))) p.1=_:=(ak k').trans d;have D:ao H (ah b lt (.lst (b9 ss.length (aK++[p.2])))):=λc o hc=>by rw[ak (a6 hc s)];exact l c o hc
  generalize ah b lt (.lst (b9 ss.length (aK++[p.2])))=w' at C m h D;refine⟨_,O,.inl ⟨O,_,ay.of m⟩,_,O,p.1,dx,_,_,O,h,O,_,O,_,O,_,O,p.1,dx,_,_,O,h,O,_,O,p.1,dx,_,_,O,h,O,_,O,p.1,dx,_,_,O,h,O,(by show 5<=sizeLine;decide),λG n5=>?_⟩;have l':ln≠G:=a6 m n5;have m':lt≠G:=a6 C n5;refine⟨ln,G,_,_,O,O,by rw[ak l'];exact m,au,?_,⟨some (.ref p.1),some (.int (p.2.time - cv aK p.2.stream)),k,O⟩,?_,?_,λc o hc=>?_⟩
  .rw[mv,bA,RM.wC,<-Y,aX,cF];simp only[bA,cn];exact bB (show _<=200 by omega) aJ
  .rw[ak T,ak m',b'];exact C
  .rw[au,b',RM.xG];unfold nV;simp only[gZ,cj,List.nil_append,List.cons_append,qP]
  .rw[ak (a6 hc N),ak (a6 (D c o hc) n5)];exact D c o hc
 .rintro σ b ⟨⟨w,x,k,rfl⟩,h1,h2,l⟩;rw[aX,gM] at h2;refine⟨_,O,q ln b N ?_ l⟩;rw[h2];unfold eb;rw[aX]
inductive Hc (CB CL CS CP:Addr)(vs:List V)(H:Hp)(Q:VK)(E:XK):Prop
 | mk (b r:Addr) (s:BS) (ss:List LwReel.Stream) (ps:List (Addr×Info)) (place:Nat) (_:vs=[.ref b,.ref r,.int (place:Int)]) (_:bj CB H b s) (_:s.fb) (_:fO CL CS CP H r ss ps) (_:ss.length<=4) (_:(∀p∈ps,p.2.stream<ss.length)) (_:ps.length<=16) (_:Aj CB (rHeld (ps.map (·.2)) place) b s H Q E)
variable (uu:Fn K mg "expect_index" Aq ["body","reel","place"])
variable (l7:aS P w K mg base (bZ P w CF) 8 "expect_index" ["body","reel","place"] (Hc CB CL CS CP))
include ag aM bf i9 fk fq iV h3 uu in
theorem G8:type_of% l7:=by
 refine c0 uu ["body","reel","place","wanted"] ?_;rintro N' H vs Q E k' w ⟨b,r,s,ss,ps,place,rfl,B,L,A',B',C',D',E',D⟩ O' P'
 refine⟨_,aj (fc j5 O (fF (aO h3 w (aB (pv 1)))) (dc 3 k')
  (aq (aZ (aY ky (bI fk bw w (aB (pv 0))) (pv 3))
   (aq (d6 bf w bw (aF (aA ag.BX) (cz cC (aw aM (pv 0)) (eM eK aL) (λ_ _=>rfl))))) a7)))
  (aj (fc j5 O (fF (aO fq w (aF (pv 2) (aA ag.nD)))) (dc 3 k')
   (aq (bU (bI i9 bw w (a_ (pv 0) (aF (pv 3) (aA ag.BX)))))))
  (aq (bU (bI iV bw w (aB (pv 0)))))),?_⟩
 refine cV ?_
 intros
 have R':=BS.gg B;generalize l':eb (ps.map (·.2))=u;have aU:∀t,rHeld (ps.map (·.2)) place t=andThen (gn u) (λ_=>andThen (LwReel.told 7 (LwReel.le 8 place)) λ_=>kv) t:=λt=>by rw[RM.KA,l'];rfl
 refine⟨_,O,r,ss,ps,O,A',B',C',D',λln H1 Y h1 m'=>?_⟩;rw[l'] at h1;have F':=B.same m';have p':ln≠b/\ln≠s.pl:=⟨λz=>(by obtain⟨dx,b'⟩:=B.ins;rw[z,b'] at Y;cases Y),λz=>(by have:=B.bH;rw[<-z,Y] at this;cases this)⟩
 refine⟨ln,O,⟨_,ay.of h1⟩,kg (K:=K) (a:=ln) (xs:=nV u) (λi σ H'=>(∃x,σ=[some (.ref b),some (.ref r),some (.int (place:Int)),x])/\H' ln=some (.lst (nV u))/\∃a bH,bj CB H' b {s with at_:=a,ps:=bH}/\bH.length<=a/\aQ b s.pl H H'/\
  gn u ⟨s.X.drop s.at_,s.at_⟩=gn (u.drop i) ⟨s.X.drop a,a⟩) ⟨⟨none,O⟩,h1,s.at_,s.ps,F',L,kM m',O⟩ (λi σ H' _ e=>ay.of e.2.1) ?_ ?_⟩
 .rintro i y σ H2 hy ⟨⟨x,rfl⟩,h2,a,bH,G,q',I,g⟩;obtain⟨n,r',rfl⟩:=wq hy
  have e':u.drop i=n::u.drop (i+1):=by
   rw[nv (List.getElem?_eq_some_iff.mp r').1];congr 1;exact(List.getElem?_eq_some_iff.mp r').2
  rw[e'] at g;refine⟨_,O,b,_,O,G,q',λm j T f S' u' hm J M=>?_,λT f hs M=>?_⟩
  .have f:readVar (s.X.drop a)=some (m,s.X.drop (a+j)):=f;have u':a+j<=s.e:=u';refine⟨_,O,O,_,O,kq (λh=>?_) λh=>?_⟩
   .refine jR O J O ⟨_,_,O,D 7 a T ?_ J.stream (I.trans M)⟩;rw[aU];exact cB (g.trans (cB (RM.q7 (s:=⟨s.X.drop a,a⟩) f (by rw[AZ];omega))))
   .have G':m=n:=af;subst G';refine⟨⟨some (.int (m:Int)),O⟩,M _ _ h2 p'.1 p'.2,a+j,bH++[(a:Int)],J,?_,I.trans M,?_⟩
    .rw[aP];simp only[bA,cn];omega
    .rw[g];exact bC (RM.oY f af (by simp))
  .have f:readVar (s.X.drop a)=none:=f;have:=D 4 (eo (s.X.drop a) a) T (by rw[aU];exact cB (g.trans (cB (RM.pK (s:=⟨s.X.drop a,a⟩) f)))) hs (I.trans M);exact this
 .rintro σ H2 ⟨⟨x,rfl⟩,h2,a,bH,G,q',I,g⟩;rw[mv,vH] at g;have g:gn u ⟨s.X.drop s.at_,s.at_⟩= .ok ((),⟨s.X.drop a,a⟩):=g;have f':rHeld (ps.map (·.2)) place ⟨s.X.drop s.at_,s.at_⟩=andThen (LwReel.told 7 (LwReel.le 8 place)) (λ_=>kv) ⟨s.X.drop a,a⟩:=by rw[aU,bC g]
  refine⟨_,O,place,8,O,aJ,λl U=>?_⟩;have i':ao H2 (ah H2 l (.lst (bV (LwReel.le 8 place)))):=a9 U;have e3:ah H2 l (.lst (bV (LwReel.le 8 place))) l=some (.lst (bV (LwReel.le 8 place))):=au;generalize ah H2 l (.lst (bV (LwReel.le 8 place)))=T at i' e3;have J:=G.same i';have v':l≠b/\l≠s.pl:=⟨λz=>(by obtain⟨dx,b'⟩:=G.ins;rw[z,b'] at U;cases U),λz=>(by have:=G.bH;rw[<-z,U] at this;cases this)⟩;generalize I':LwReel.le 8 place=d at*
  refine⟨l,O,⟨_,ay.of e3⟩,kg (K:=K) (a:=l) (xs:=bV d) (λi σ H'=>(∃x,σ=[some (.ref b),some (.ref r),some (.int (place:Int)),x])/\H' l=some (.lst (bV d))/\bj CB H' b {s with at_:=a+i,ps:=bH}/\aQ b s.pl H H'/\
   LwReel.told 7 d ⟨s.X.drop a,a⟩=LwReel.told 7 (d.drop i) ⟨s.X.drop (a+i),a+i⟩) ⟨⟨x,O⟩,e3,J,I.trans (kM i'),O⟩ (λi σ H' _ e=>ay.of e.2.1) ?_ ?_⟩
  .rintro i y σ w' hy ⟨⟨J',rfl⟩,y',N,A,o⟩;obtain⟨m,hm,rfl⟩:=tU hy;have e':d.drop i=m::d.drop (i+1):=RM.oN hm;rw[e'] at o;refine⟨_,O,_,O,b,_,_,_,O,N,λc C K' hc h j' v=>?_,λc C K' hc h hs v=>?_,λh=>?_⟩
   .exact⟨⟨some (.int (m.toNat:Int)),O⟩,v _ _ y' v'.1 v'.2,j',A.trans v,o.trans (BB (H:=H) (H':=H) (b:=b) (s:={s with at_:=a+i}) hc h)⟩
   .refine D 7 (a+i) C ?_ hs (A.trans v);rw[f'];exact cB (o.trans (A8 (b:=b) (s:={s with at_:=a+i}) hc h))
   .have h:a+i=s.e:=h;have:=D 4 (a+i) w' (by rw[f'];exact cB (o.trans (xV af))) N.stream A;rw[h] at this;exact this
  .rintro σ w' ⟨⟨J',rfl⟩,y',N,A,o⟩;have T':d.length=8:=by rw[<-I'];exact fK 8 place
   rw[bu,vH] at o;have o:LwReel.told 7 d ⟨s.X.drop a,a⟩= .ok ((),⟨s.X.drop (a+d.length),a+d.length⟩):=o;rw[bu] at N;have z':rHeld (ps.map (·.2)) place ⟨s.X.drop s.at_,s.at_⟩=kv ⟨s.X.drop (a+d.length),a+d.length⟩:=by rw[f',bC o]
   refine⟨_,O,b,_,O,N,λt L' M' C f j' v=>?_,λk p C he hs v=>?_⟩
   .exact E' t L' M' C (z'.trans f) j' (A.trans v)
   .exact D k p C (z'.trans he) hs (A.trans v)
noncomputable def eg (b pl l:Addr)(H H':Hp):Prop:=∀c o,H c=some o->c≠b->c≠pl->c≠l->H' c=some o
theorem eg.of {b:Addr}(f:aQ b pl H H'):eg b pl l H H':=λc o h n1 n2 _=>f c o h n1 n2
theorem eg.trans {b:Addr}(x:eg b pl l H H1)(y:eg b pl l H1 H2):eg b pl l H H2:=λc o h n1 n2 n3=>y c o (x c o h n1 n2 n3) n1 n2 n3
theorem eg.upd {b pl l:Addr}{H:Hp}{o:HO}:eg b pl l H (L2.ah H l o):=λc a h _ _ n3=>by rw[ak n3];exact h
noncomputable def qk (CP:Addr)(H H':Hp)(a:Addr)(x:Info):Prop:=dD CP H' a x/\H a=none
inductive D6 (CB CP:Addr)(vs:List V)(H:Hp)(Q:VK)(E:XK):Prop
 | mk (b lt:Addr) (s:BS) (n:Nat) (aK:List Info) (_:vs=[.ref b,.ref lt]) (_:bj CB H b s) (_:s.fb) (_:H lt=some (.lst (b9 n aK))) (_:lt≠s.pl) (_:lt≠s.d) (_:1<=n) (_:n<=4) (_:(∀x a' hl a H',fH n aK ⟨s.X.drop s.at_,s.at_⟩= .ok (x,⟨s.X.drop a',a'⟩)->s.at_<=a'->x.stream<n->bj CB H' b {s with at_:=a',ps:=hl}->hl.length<=a'->eg b s.pl lt H H'->H' lt=some (.lst (b9 n (aK++[x])))->qk CP H H' a x->Q (.ref a) H')) (_:(∀(k p:Nat) H',fH n aK ⟨s.X.drop s.at_,s.at_⟩= .error (k,p)->e_ CB H' b s.st->eg b s.pl lt H H'->E (k:Int) (p:Int) H'))
theorem bj.lb {b:Addr}{xs:List V}(B:bj CB H b s)(h:H l=some (.lst xs)):l≠b:=λz=>by obtain⟨dx,a⟩:=B.ins;rw[z,a] at h;cases h
variable (rE:Fn K mg "read_listed_part" yP ["body","times"])
variable (lZ:aS P w K mg base (bZ P w CF) 10 "read_listed_part" ["body","times"] (D6 CB CP))
include ag c6 bh iL gX rE in
theorem CQ:type_of% lZ:=by
 refine c0 rE ["body","times","stream","length","flags","part"] ?_;rintro _g H vs Q E T v ⟨b,lt,s,n,aK,rfl,B,L,f',w,I',_h,_i,J',G⟩ _j _k
 refine⟨_,aj (aW 2 T (bI c6 bw v (a_ (pv 0) (aF aL (aR d_ (bX ag (pv 1)) aL)))))
  (aj (yw (bI iL bw v (aF (pv 0) (cz cC (pv 1) (pv 2) (λ_ _=>rfl)))) (xA (pv 1) (pv 2) CI))
  (aj (aW 3 T (bI c6 bw v (a_ (pv 0) (aF aL (aA ag.yB)))))
  (aj (aW 4 T (bI c6 bw v (a_ (pv 0) (aF aL (aA ag.zM)))))
  (aj (aW 5 T (dj gX v (a_ (pv 2) (a_ (cz cC (pv 1) (pv 2) (λ_ _=>rfl)) (a_ (pv 3) (aF (pv 4) (bK fw)))))))
  (aj (bz bh (pv 5) (bI c6 bw v (a_ (pv 0) (aF aL (aA ag.FK)))))
  (aq (aI (pv 5)))))))),?_⟩
 refine pk ?_
 intros
 have _l:s.ps.length<=s.at_:=L;have _m:=BS.gg B;have y:=B.lb f';refine⟨_,O,_,O,lt,_,O,.inl (ay.of f'),_,_,O,O,b,s,0,((b9 n aK).length:Int) - 1,(λ(k:Nat)=>decide (k<n)),O,B,L,(λm=>by rw[cb,sG];omega),λn1 g H1 u K' p1 e1 m1 L' i'=>?_,λk p H' he hs l=>G k p H' (cB he) hs (.of l)⟩;have I:n1<n:=dS K';have u':=i' _ _ f' y w;have u:LwReel.num 4 (λ(k:Nat)=>decide (k<n)) ⟨s.X.drop s.at_,s.at_⟩= .ok (n1,⟨s.X.drop (s.at_+g),s.at_+g⟩):=u;refine⟨_,O,_,O,_,O,lt,_,_,_,O,O,ay.of u',gf (tL aK I),b,_,cv aK n1,(λ(k:Nat)=>okTime (zag k+cv aK n1)),O,L',?_,(λ_=>rfl),λn2 h H2 A _n p2 _o m2 M' v'=>?_,λk p H' he hs l=>G k p H' (by unfold fH;rw[bC u];exact cB he) hs (.of (i'.trans l))⟩
 .show(s.ps++[(s.at_:Int)]).length<=s.at_+g;rw[aP];simp only[bA,cn];omega
 have A:LwReel.num 4 (λ(k:Nat)=>okTime (zag k+cv aK n1)) ⟨s.X.drop (s.at_+g),s.at_+g⟩= .ok (n2,⟨s.X.drop (s.at_+g+h),s.at_+g+h⟩):=A;have N':=v' _ _ u' y w;refine⟨_,O,_,O,lt,_,_,n1,O,O,N',by rw[sG];exact xt I,?_⟩;have j':=xZ (n:=n) (aK:=aK) (x:=⟨n1,zag n2+cv aK n1,0,0,0,0⟩) I;have j':(b9 n aK).set n1 (V.int (zag n2+cv aK n1))=b9 n (aK++[⟨n1,zag n2+cv aK n1,0,0,0,0⟩]):=j';rw[j']
 have any:∀(a f z:Nat),b9 n (aK++[(⟨n1,zag n2+cv aK n1,0,0,0,0⟩:Info)])=b9 n (aK++[⟨n1,zag n2+cv aK n1,a,f,0,z⟩]):=λa f z=>by
  unfold b9;congr 1;refine rh λk _=>?_;rw[RM.pa,RM.pa]
 generalize O':b9 n (aK++[(⟨n1,zag n2+cv aK n1,0,0,0,0⟩:Info)])=C at*
 have P':C[n1]?=some (V.int (zag n2+cv aK n1)):=by
  rw[<-O',tL _ I,RM.pa,az O]
 have w':=M'.jV (o:= .lst C) y w I';have k':eg b s.pl lt H (ah H2 lt (.lst C)):=(eg.of (i'.trans v')).trans eg.upd;have y':ah H2 lt (.lst C) lt=some (.lst C):=au;generalize ah H2 lt (.lst C)=_p at w' k' y';refine⟨_,O,b,_,0,4294967295,(λ(k:Nat)=>decide (k<=2 ^ 32 - 1)),O,w',?_,(λm=>by rw[cb];omega),λn3 i R' J _q p3 e3 m3 S' z'=>?_,λk p H' he hs l=>G k p H' (by unfold fH;rw[bC u,bC A];exact cB he) hs (k'.trans (.of l))⟩
 .show(s.ps++[(s.at_:Int)]++[((s.at_+g:Nat):Int)]).length<=s.at_+g+h;rw[aP,aP];simp only[bA,cn];omega
 have J:LwReel.upTo (2 ^ 32 - 1) ⟨s.X.drop (s.at_+g+h),s.at_+g+h⟩= .ok (n3,⟨s.X.drop (s.at_+g+h+i),s.at_+g+h+i⟩):=J;have A':eg b s.pl lt H R':=k'.trans (.of z');have T':=z' _ _ y' y w;refine⟨_,O,b,_,0,3,(λ(k:Nat)=>decide (k<=3)),O,S',?_,(λm=>by rw[cb];omega),λn4 j r U _r p4 e4 _s D B'=>?_,λk p H' he hs l=>G k p H' (by unfold fH;rw[bC u,bC A,bC J];exact cB he) hs (A'.trans (.of l))⟩
 .show(s.ps++[(s.at_:Int)]++[((s.at_+g:Nat):Int)]++[((s.at_+g+h:Nat):Int)]).length<=s.at_+g+h+i;rw[aP,aP,aP];simp only[bA,cn];omega
 have U:LwReel.upTo 3 ⟨s.X.drop (s.at_+g+h+i),s.at_+g+h+i⟩= .ok (n4,⟨s.X.drop (s.at_+g+h+i+j),s.at_+g+h+i+j⟩):=U;have C':eg b s.pl lt H r:=A'.trans (.of B');have Y:=B' _ _ T' y w
 have back:∀{e:Addr},r e=none->H e=none:=λ{e} he=>by
  cases z:H e with
  | none=>rfl
  | some o=>
   exfalso;by_cases M:e=b
   .obtain⟨dx,U'⟩:=D.ins;rw[M,U'] at he;cases he
   .by_cases N:e=s.pl
    .have:=D.bH;rw[<-N,he] at this;cases this
    .by_cases b':e=lt
     .rw[b',Y] at he;cases he
     .rw[C' e o z M N b'] at he;cases he
 refine⟨_,O,_,O,_,O,lt,_,_,_,O,O,ay.of Y,gf P',_,O,_,O,b3 _,λld V'=>?_⟩;have l':ao r (ah r ld (.lst [])):=a9 V';have e5:ah r ld (.lst []) ld=some (.lst []):=au;generalize ah r ld (.lst [])=W' at l' e5;refine λx dx nx D' _t=>⟨x,dx,ld,_,_,_,_,[],O,au,?_,λm' hx keep=>⟨O,?_⟩⟩
 .rw[ak (a6 e5 nx),ak (a6 e5 D')];exact e5
 have X':ao W' m':=ao.made nx D' keep;have p':ao r m':=l'.trans X';have t:r x=none:=l'.free nx;have Y':=D.same p';have E':eg b s.pl lt H m':=C'.trans (.of (kM p'));have Z':=p' _ _ Y;refine⟨_,O,b,_,0,600,(λ(k:Nat)=>decide (k<=MOST)),O,Y',?_,(λm=>by rw[cb,show MOST=600 from O];omega),λn7 e' _u q' _v _w e7 _x _a r'=>?_,λk p H' he hs l=>G k p H' (by unfold fH;rw[bC u,bC A,bC J,bC U];exact cB he) hs (E'.trans (.of l))⟩
 .show(s.ps++[(s.at_:Int)]++[((s.at_+g:Nat):Int)]++[((s.at_+g+h:Nat):Int)]++[((s.at_+g+h+i:Nat):Int)]).length<=s.at_+g+h+i+j;rw[aP,aP,aP,aP];simp only[bA,cn];omega
 have q':LwReel.upTo MOST ⟨s.X.drop (s.at_+g+h+i+j),s.at_+g+h+i+j⟩= .ok (n7,⟨s.X.drop (s.at_+g+h+i+j+e'),s.at_+g+h+i+j+e'⟩):=q';have F':x≠b:=λz=>by obtain⟨_y,_b⟩:=D.ins;rw[z,_b] at t;cases t
 have G':x≠s.pl:=λz=>by have:=D.bH;rw[<-z,t] at this;cases this
 have _c:x≠s.d:=λz=>by have:=D.dat;rw[<-z,t] at this;cases this
 have _d:x≠lt:=λz=>by rw[z,Y] at t;cases t
 have _e:=r' _ _ hx F' G';have _f:=r' _ _ Z' y w;refine⟨_,O,x,dx,_,O,_e,lk,_,O,J' ⟨n1,zag n2+cv aK n1,n3,n4,0,n7⟩ (s.at_+g+h+i+j+e') _ x _ ?_ af I (_a.jV (o:= .ins CP dx (bM "size" (V.int (n7:Int)) (cW (n1:Int) (zag n2+cv aK n1) (n3:Int) (n4:Int) ld 0 0))) F' G' _c) ?_ ?_ ?_ ⟨⟨dx,ld,?_⟩,back t⟩⟩
 .unfold fH;rw[bC u,bC A,bC J,bC U,bC q'];rfl
 .show(s.ps++[(s.at_:Int)]++[((s.at_+g:Nat):Int)]++[((s.at_+g+h:Nat):Int)]++[((s.at_+g+h+i:Nat):Int)]++[((s.at_+g+h+i+j:Nat):Int)]).length<=s.at_+g+h+i+j+e';rw[aP,aP,aP,aP,aP];simp only[bA,cn];omega
 .exact λc o hc M N b'=>by
   rw[ak (a6 hc (back t))];exact r' _ _ (E' c o hc M N b') M N
 .rw[ak _d.symm,<-any n3 n4 n7];exact _f
 .rw[au];rfl
structure IL (CP:Addr)(H H':Hp)(lp:Addr)(ps:List (Addr×Info)):Prop where
 lst:H' lp=some (.lst (ps.map λp=>V.ref p.1))
 new:H lp=none
 each:∀p∈ps,qk CP H H' p.1 p.2
 nd:(ps.map (·.1)).Nodup
inductive LR (K:Frag)(CB CP:Addr)(vs:List V)(H:Hp)(Q:VK)(E:XK):Prop
 | mk (b ls:Addr) (s:BS) (xs:List V) (_:vs=[.ref b,.ref ls]) (_:bj CB H b s) (_:s.fb) (_:ay K H ls xs) (_:1<=xs.length) (_:xs.length<=4) (_:(∀l q a' hl lp ps H',LwReel.run (rForm xs.length) (s.X.drop s.at_) s.at_= .ok (l,q)->bj CB H' b {s with at_:=a',ps:=hl}->aQ b s.pl H H'->IL CP H H' lp ps->ps.map (·.2)=l->(∀p∈ps,p.2.stream<xs.length)->Q (.ref lp) H')) (_:(∀(k p:Nat) H',LwReel.run (rForm xs.length) (s.X.drop s.at_) s.at_= .error (k,p)->e_ CB H' b s.st->aQ b s.pl H H'->E (k:Int) (p:Int) H'))
theorem oM (n:Nat)(t:At):rForm n t=andThen (LwReel.upTo PARTS) (λcnt=>andThen (rLoose n cnt []) λl=>andThen (LwReel.takeAll 8) λa=>andThen kv λ_=>give (l,ofLe a)) t:=by
 unfold rForm;refine RM.fB λcnt t1=>RM.fB λl t2=>RM.fB λa t3=>?_;unfold kv;rw[RM.ly]
variable (v_:Fn K mg "read_loose_index" qM ["body","streams"])
variable (iE:aS P w K mg base (bZ P w CF) 11 "read_loose_index" ["body","streams"] (LR K CB CP))
include ag fu c6 iV lZ v_ in
theorem GW:type_of% iE:=by
 refine c0 v_ ["body","streams","times","count","parts","stream","k"] ?_;rintro _o H vs Q E w j' ⟨b,ls,s,xs,rfl,B,L,I',U',V',W',k'⟩ _p _q
 refine⟨_,aj (wY (i:=2) w O (Or.inr O) (ov O w (fF (pv 1)) (ib (own:=[("stream",5)]) (show g8 ["body","streams","times","count","parts","stream","k"] (bL qM) _ [("stream",5)]=true by decide+kernel))
  (λ_ _ _ _ _=>dc 5 w) (λ_ _ _ _ _=>kb) (λ_ _ _ _ _=>aL)))
  (aj (aW 3 w (bI c6 bw j' (a_ (pv 0) (aF aL (aA ag.vT)))))
  (aj (Ai (i:=4) zp O w O O (qh O O O O) (jT O ag.jK (aB (pv 3))) (ib (own:=[("k",6)]) (show g8 ["body","streams","times","count","parts","stream","k"] (bL qM) _ [("k",6)]=true by decide+kernel))
   (λ_ _ _ _ _=>dc 6 w) (λ_ _ _ _ _=>kb) (λ_ _ _ _ _ _ hx=>bI lZ hx j' (aF (pv 0) (pv 2))))
  (aj (fc j5 O (jT O ag.jK (aB (aA ag.nD))) (dc 6 w)
   (aq (bU (bI fu bw j' (aB (pv 0))))))
  (aj (bU (bI iV bw j' (aB (pv 0))))
  (aq (aI (pv 4))))))),?_⟩
 refine gA ?_
 intros
 have X':=BS.gg B;have _r:s.ps.length<=s.at_:=L;generalize Y':xs.length=n at*;refine⟨_,O,ls,O,⟨_,I'⟩,λlt U=>mT (K:=K) (a:=ls) (xs:=xs) (λi H'=>H'=ah H lt (.lst ((List.replicate i 0).map V.int))) O (λi H' _ e=>?_) ?_ ?_⟩
 .rw[e];exact ao.seq (a9 U) I'
 .rintro i y H' hy rfl
  have Z':i<4:=by
   have:=(List.getElem?_eq_some_iff.mp hy).1;omega
  refine⟨O,jJ ⟨_,au,?_,?_⟩⟩
  .rw[aX,pZ];exact cc Z' aJ
  .rw[ia,vp,cj];rfl
 rintro H1 rfl
 have _a:(List.replicate xs.length 0).map V.int=b9 n []:=by
  rw[Y'];unfold b9;congr 1;apply tZ;intro i;rw[vn,dk];by_cases hi:i<n
  .rw[az hi,o4 hi];rfl
  .rw[ar hi,nF (by rw[oC];omega)];rfl
 rw[_a];have l':ao H (ah H lt (.lst (b9 n []))):=a9 U;have e1:ah H lt (.lst (b9 n [])) lt=some (.lst (b9 n [])):=au;generalize ah H lt (.lst (b9 n []))=H1 at l' e1;have _b:=B.same l';have m':∀{c:Addr},H c=none->c≠b/\c≠s.pl/\c≠s.d:=λ{c} hc=>⟨λz=>(by obtain⟨dx,w'⟩:=B.ins;rw[z,w'] at hc;cases hc),λz=>(by have:=B.bH;rw[<-z,hc] at this;cases this),λz=>(by have:=B.dat;rw[<-z,hc] at this;cases this)⟩;obtain⟨tb,tp,_c⟩:=m' U;refine⟨_,O,b,s,0,16,(λ(k:Nat)=>decide (k<=PARTS)),O,_b,L,(λm=>by rw[cb,show PARTS=16 from O];omega),λcnt A H2 I _d p2 _s m2 J' K'=>?_,λk p H' he hs y'=>k' k p H' (by refine h_ ?_;rw[oM];exact cB he) hs ((kM l').trans y')⟩;have I:LwReel.upTo PARTS ⟨s.X.drop s.at_,s.at_⟩= .ok (cnt,⟨s.X.drop (s.at_+A),s.at_+A⟩):=I;have _e:cnt<=16:=dS _d;have L':aQ b s.pl H H2:=(kM l').trans K';have M':=K' _ _ e1 tb tp;refine⟨_,O,_,O,af,af,λD Y=>?_⟩;have p':H D=none:=il J' L' Y;obtain⟨z',dp,dd⟩:=m' p';have N':D≠lt:=λz=>by rw[z,M'] at Y;cases Y
 have O':ao H2 (ah H2 D (.lst [])):=a9 Y
 refine vz (n:=((cnt:Nat):Int).toNat) (λk H'=>∃(f:List (Addr×Info)) (a:Nat) (bH:List Int),H' D=some (.lst (f.map λp=>V.ref p.1))/\f.length=k/\bj CB H' b {s with at_:=a,ps:=bH}/\bH.length<=a/\s.at_<=a/\H' lt=some (.lst (b9 n (f.map (·.2))))/\
  rLoose n cnt [] ⟨s.X.drop (s.at_+A),s.at_+A⟩=rLoose n (cnt - k) (f.map (·.2)) ⟨s.X.drop a,a⟩/\(∀p∈f,qk CP H H' p.1 p.2/\p.2.stream<n)/\(f.map (·.1)).Nodup/\aQ b s.pl H H')
  ⟨[],_,_,au,O,J'.same O',?_,af,O' _ _ M',O,λp j=>(by cases j),List.nodup_nil,L'.new p' Y⟩ ?_ ?_
 .show(s.ps++[(s.at_:Int)]).length<=s.at_+A;rw[aP];simp only[bA,cn];omega
 .rintro k A' hk ⟨f,a,bH,b',B',J,P',R',C',l,M,D',N⟩;rw[ep] at hk;obtain⟨m,hm⟩:∃m,cnt - k=m+1:=⟨cnt - k - 1,af⟩;rw[hm] at l;refine⟨O,jJ ⟨_,O,_,O,b,lt,{s with at_:=a,ps:=bH},n,f.map (·.2),O,J,P',C',tp,_c,U',V',λx e' E' c u C _f hx G _g r _h S'=>?_,λkk p u he hs y'=>k' kk p u ?_ hs ?_⟩⟩
  .have C:fH n (f.map (·.2)) ⟨s.X.drop a,a⟩= .ok (x,⟨s.X.drop e',e'⟩):=C;have _i:u D=some (.lst (f.map λp=>V.ref p.1)):=r _ _ b' z' dp N';have v:A' c=none:=S'.2;have q':aQ b s.pl H u:=λe o he g h=>r e o (N e o he g h) g h (a6 he U)
   have _j:H c=none:=by
    cases z:H c with
    | none=>rfl
    | some o=>
     exfalso;by_cases g:c=b
     .obtain⟨dx,w'⟩:=J.ins;rw[g,w'] at v;cases v
     .by_cases h:c=s.pl
      .have:=J.bH;rw[<-h,v] at this;cases this
      .rw[N c o z g h] at v;cases v
   have _k:c≠D:=λz=>by rw[z,b'] at v;cases v
   have each:∀p∈f,qk CP H (ah u D (.lst ((f.map λp=>V.ref p.1)++[V.ref c]))) p.1 p.2:=λp j=>by
    obtain⟨⟨⟨dx,dl,h1⟩,h2⟩,_t⟩:=M p j;obtain⟨g,h,_⟩:=m' h2;have _l:p.1≠lt:=λz=>by rw[z,C'] at h1;cases h1
    have _m:p.1≠D:=λz=>by rw[z,b'] at h1;cases h1
    exact⟨⟨dx,dl,by rw[ak _m];exact r _ _ h1 g h _l⟩,h2⟩
   refine⟨_,_i,?_,f++[(c,x)],e',E',?_,?_,G.jV z' dp dd,_g,bB R' _f,?_,?_,λp j=>?_,?_,λe o he g h=>?_⟩
   .rw[aX,B'];exact cc hk (bB _e aJ)
   .rw[au,cj];rfl
   .rw[aP,B'];rfl
   .rw[ak N'.symm,cj];exact _h
   .rw[l,RM.tN,bC C,show cnt - (k+1)=m by omega,cj];rfl
   .rcases List.mem_append.mp j with z | z
    .exact⟨each p z,(M p z).2⟩
    .rw[List.mem_singleton.mp z];obtain⟨⟨dx,dl,h1⟩,h2⟩:=S';exact⟨⟨⟨dx,dl,by rw[ak _k];exact h1⟩,_j⟩,hx⟩
   .rw[cj,List.nodup_append];refine⟨D',by simp,λy hy z f'=>?_⟩;obtain⟨p,j,rfl⟩:=List.mem_map.mp hy;simp only[gZ,qP,md] at f';obtain⟨⟨⟨dx,dl,h1⟩,_⟩,_⟩:=M p j;rintro rfl;rw[f',v] at h1;cases h1
   .rw[ak (a6 he p')];exact q' e o he g h
  .refine h_ ?_;rw[oM,bC I];refine cB ?_;rw[l,RM.tN];exact cB he
  .exact λe o he g h=>y' e o (N e o he g h) g h (a6 he U)
 .rintro A' ⟨f,a,bH,b',B',J,P',R',C',l,M,D',N⟩;rw[ep] at l;rw[s8] at l;have l:rLoose n cnt [] ⟨s.X.drop (s.at_+A),s.at_+A⟩= .ok (f.map (·.2),⟨s.X.drop a,a⟩):=l;have _u:a<=s.e:=J.le;have i':=RM.Kg (X:=s.X) (a:=a) (n:=8) af;refine⟨8,O,aJ,aJ,oo (n:=8) (λi σ H'=>(∃r' u' F',σ=[some (.ref b),some (.ref ls),some (.ref lt),r',some (.ref D),u',F'])/\bj CB H' b {s with at_:=a+i,ps:=bH}/\aQ b s.pl A' H') ⟨⟨_,_,_,O⟩,J,aQ.refl⟩ ?_ ?_⟩
  .rintro i σ u hi ⟨⟨r',u',F',rfl⟩,G,r⟩;refine⟨_,O,b,_,O,G,λc v' _v hc hx G' T=>⟨⟨r',u',some (.int (0+(i:Int))),O⟩,G',r.trans T⟩,λf'=>?_⟩;have f':a+i=s.e:=f';rw[az af] at i';have:=k' 4 s.X.length u (by refine h_ ?_;rw[oM,bC I,bC l];exact cB i') G.stream (N.trans r);rw[X'] at this;exact this
  .rintro σ u ⟨⟨r',u',F',rfl⟩,G,r⟩;have _w:a+8<=s.e:=G.le;rw[ar af] at i';have q':=N.trans r;refine⟨_,O,b,_,O,G,λt e' E' v' C G' T=>?_,λk p v' he hs T=>?_⟩
   .have _n:=q'.trans T;have T':=r.trans T;refine⟨_,O,W' _ (ofLe ((s.X.drop a).take 8)) e' E' D f v' ?_ G' _n ⟨T' _ _ b' z' dp,p',λp j=>?_,D'⟩ O λp j=>(M p j).2⟩
    .refine lR (t:=t) ?_;have C:kv ⟨s.X.drop (a+8),a+8⟩= .ok ((),t):=C;rw[oM,bC I,bC l,bC i',bC C];rfl
    .obtain⟨⟨⟨dx,dl,h1⟩,h2⟩,_⟩:=M p j;obtain⟨g,h,_⟩:=m' h2;exact⟨⟨dx,dl,T' _ _ h1 g h⟩,h2⟩
   .refine k' k p v' ?_ hs (q'.trans T);refine h_ ?_;rw[oM,bC I,bC l,bC i'];exact cB he
theorem Hq {x c:Bool}{A B:Hp->Prop}(S:Hp->Prop)(a:S H)(b:x=false->(∀H',S H'->if c=true then A H' else B H')->U)(h:∀H',S H'->if(x||c)=true then A H' else B H'):
 if x=true then(if true=true then A H else B H) else U:=by
 cases x with
 | true=>
  rw[az O];have:=h H a
  rwa [Bool.true_or] at this
 | false=>
  rw[ar aJ];exact b O λH' s=>by have:=h H' s;rwa [Bool.false_or] at this
theorem Aw {u:UInt8}(h:n<256):((u.toNat:Int)=(n:Int))↔u=UInt8.ofNat n:=oz h
variable (uL:Fn K mg "kinds_due" Cw ["reader"])
include ag bG aN uL in
theorem I9:type_of% mH:=by
 refine bJ uL ["reader"] ?_;rintro m H vs Q E o p ⟨r,x,ae,closed,b,c,ps,rfl,R,q⟩ s v
 refine⟨_,aj (aZ (aY bW (bX ag (aw bG (aw aN (pv 0)))) aL) (aq (aI (lS (aB (aA ag.qD))))) a7)
  (aj (aZ (aY bW (bX ag (aw bG (aw aN (pv 0)))) (aA ag.vT)) (aq (aI (lS (aB (aA ag.oD))))) a7)
  (aq (aI (lS (aF (aA ag.qC) (aA ag.oD)))))),?_⟩
 refine cV ?_
 intros
 obtain⟨dr,d⟩:=R.ins;obtain⟨f,g⟩:=R.rel;obtain⟨ys,hy,h,_⟩:=R.str.len;refine⟨_,O,r,dr,_,_,O,d,O,x.rl,f,_,_,O,g,O,x.ls,_,O,.inl (ay.of hy),O,_,O,?_⟩;have w:ps.length=c.parts.length:=by have:=da List.length R.inf;rw[aX] at this;exact this
 have y:=R.eH;refine bx (λi=>?_) λi=>?_
 .have k:c.streams.isNone=true:=by
   have:=h.mp af
   cases e:c.streams with
   | none=>rfl
   | some ss=>rw[e] at this;cases this
  refine⟨(by show 1<=sizeLine;decide),λt a=>q t [72] _ (cI.of au) (λu=>?_) (a9 a)⟩;unfold cS;rw[az k,eI,fX,cb,md];exact(Aw (u:=u) (n:=72) aJ).symm
 .have j:¬c.streams.isNone=true:=λz=>by
   refine i ?_
   have:ys.length=0:=h.mpr (by
    cases e:c.streams with
    | none=>rfl
    | some ss=>rw[e] at z;cases z)
   omega
  refine⟨_,O,r,dr,_,_,O,d,O,x.rl,f,_,_,O,g,O,x.lp,_,O,.inl (ay.of R.cY),O,_,O,?_⟩;rw[aX];refine bx (λl=>?_) λl=>?_
  .refine⟨(by show 1<=sizeLine;decide),λt a=>q t [73] _ (cI.of au) (λu=>?_) (a9 a)⟩;unfold cS;rw[ar j,dC (show ¬c.parts.length<PARTS by rw[show PARTS=16 from O];omega),rJ,Bool.false_or,eI,fX,cb,md];exact(Aw (u:=u) (n:=73) aJ).symm
  .refine⟨(by show 2<=sizeLine;decide),λt a=>q t [80,73] _ (cI.of au) (λu=>?_) (a9 a)⟩;unfold cS;rw[ar j,cR (show c.parts.length<PARTS by rw[show PARTS=16 from O];omega),Bool.and_true];exact zR u
variable (vW:Fn K mg "index_thing" ux ["reader","body"])
include ag aM bh bG aN di l7 iE vW in
theorem Ii:type_of% lQ:=by
 refine c0 vW ["reader","body","part"] ?_;rintro V' H vs Q E e' J ⟨r,bo,H0,x,ae,closed,b,c,ps,s,ss,rfl,B,M,z',f'⟩ W' X'
 refine⟨_,aj (aZ (PW.pt (gp (d2 (aw aN (pv 0))) (gu (d2 (lP (tG O) (by rfl) ag.sO r7 (aB (ov O e' (fF (aw bG (aw aN (pv 0)))) (ib (own:=[("part",2)]) (show g8 ["reader","body","part"] (bL ux) _ [("part",2)]=true by decide+kernel))
  (λ_ _ _ _ _=>dc 2 e') (λ_ _ _ _ _=>kb) (λ_ _ _ _ _=>hU jP (aw bh (pv 2)) (aA ag.y3) (hI _)))))))))
  (aq (bU (bI iE bw J (aF (pv 1) (aw bG (aw aN (pv 0)))))))
  (aq (bU (bI l7 bw J (a_ (pv 1) (aF (aw aN (pv 0)) (aw aN (pv 0))))))))
  (aq (aI (dj di J (aF (bK (aB (aA ag.xM))) (aR cJ (aw aM (pv 1)) (aA ag.kZ)))))),?_⟩
 refine fJ ?_
 intros
 have C:=B.rep.str;rw[M] at C;obtain⟨C,N⟩:=C;obtain⟨as,A',Y',G,Z'⟩:=id C;have B':=(B.rep.at_ (.inl B.box)).1;obtain⟨dr,i'⟩:=B.rep.ins;obtain⟨j',k'⟩:=B.rep.rel;have l':=B.sm _ _ i';have C':=B.sm _ _ k';have D':ps.length<=16:=by have:=da List.length B.rep.inf;rw[aX] at this;have:=B.rep.eH;omega
 have L:s.fb:=by unfold BS.fb;rw[B.vg];exact b3 _
 have m':=B.sm _ _ B.rep.cY
 have fin:∀(d:Hp) (h:Nat) (m:List Int) (p':Option V),bj CB d bo {s with at_:=h,ps:=m}->ao H0 d->d4 ae c ss (s.X.drop s.at_) (s.e+4)=(.index,⟨.tail,s.e+4,c.streams,c.parts,c.lost⟩)->
  kE (lq CT (oP CT) [] E0 (c9 (qn (c9 (tC (V.int 3)) eE)) (c9 (gw (fY λi j=>V.int (i+j)) (tF CB (c_ 1) "end") (tC (V.int 4))) eE))) {nx:=λ_ H'=>Q .aE H',rt:=Q} [some (.ref r),some (.ref bo),p'] d:=by
  intro d h m p' n q' E';obtain⟨F',T⟩:=n.ins;refine⟨(by show 1<=sizeLine;decide),λG' r'=>?_⟩;have I':bo≠G':=λz=>by rw[z,r'] at T;cases T
  refine⟨_,O,bo,F',_,_,O,(by rw[ak I'];exact T),O,_,_,O,O,?_⟩;rw[show V.int (((s.e:Nat):Int)+4)=V.int ((s.e+4:Nat):Int) from da V.int af];refine hW (b5:=[3]) r' λa J' K'=>?_;obtain⟨L',M',N',h1,h2,_a,O',P',_b,sm⟩:=K'
  have u':∀{e:Addr},d e=none->e∉(r::x.tk::x.lp::x.rl::x.out):=λ{e} he z=>by
   have:=B.rep.av e z
   cases v':H0 e with
   | none=>exact this v'
   | some o=>rw[q' e o v'] at he;cases he
  exact z' a _ J' E' ⟨L',M',_,N',.aE,h1,u' O',h2,u' P',O⟩ (q'.trans sm)
 have R':=B.rep.lost;refine⟨_,O,r,dr,_,_,O,l',O,_,O,Hq (x:=x.lost) (c:=c.parts.any λ(i:Info)=>decide (128<=i.flags)) (ao H) (ao.refl _) (λ_ hk=>?_) λH1 w'=>?_⟩
 .refine⟨_,O,r,dr,_,_,O,l',O,x.rl,j',_,_,O,C',O,x.lp,O,⟨_,ay.of m'⟩,λD U=>mT (K:=K) (a:=x.lp) (xs:=ps.map λp=>V.ref p.1) (λi H'=>H'=ah H D (.lst (((ps.take i).map λ(p:Addr×Info)=>decide (128<=p.2.flags)).map V.bl))) O (λi H' _ e=>?_) ?_ ?_⟩
  .rw[e];exact ay.of (a9 U _ _ m')
  .rintro i y H' hy rfl;rw[dk] at hy;obtain⟨p,u,rfl⟩:=Option.map_eq_some_iff.mp hy;have _c:i<ps.length:=(List.getElem?_eq_some_iff.mp u).1;obtain⟨dp,dl,S'⟩:=((B.rep.de p (fx u)).1.at_).same (B.sm.trans (a9 (o:= .lst (((ps.take i).map λ(p:Addr×Info)=>decide (128<=p.2.flags)).map V.bl)) U));refine⟨O,jJ ⟨_,O,p.1,dp,_,_,O,S',O,_,_,O,O,_,au,?_,?_⟩⟩
   .rw[aX,aX,cF];exact fG (show min i ps.length<=16 by omega) aJ
   .have Y:decide ((128:Int)<=(p.2.flags:Int))=decide (128<=p.2.flags):=by rw[oO];omega
    show ah (ah H D _) D (.lst (_++[V.bl (decide ((128:Int)<=(p.2.flags:Int)))]))=_;rw[Y,ia,RM.take_snoc u,cj,cj];rfl
  .rintro H' rfl;rw[aX,gM];refine⟨D,_,O,ay.of au,_,O,?_⟩
   have Y:(ps.map λ(p:Addr×Info)=>decide (128<=p.2.flags)).any id=c.parts.any λ(i:Info)=>decide (128<=i.flags):=by
    rw[<-B.rep.inf,oK,oK];rfl
   rw[Y];exact hk _ (a9 U)
 .rw[<-R'];have v:=B.sm.trans w';have T':=(B.rep.same v);have b':=v _ _ i';have U':=v _ _ k';have y':=B.body.same w';have I:∀{d:Hp},aQ bo s.pl H1 d->ao H0 d:=λ{d} f e o he=>f e o (v e o he) (a6 he B.nb) (a6 he B.np);refine ff (λw=>?_) λw=>?_
  .refine⟨_,O,_,O,r,dr,_,_,O,b',O,x.rl,j',_,_,O,U',O,bo,x.ls,s,as.map V.ref,O,y',L,ay.of (v _ _ A'),by rw[aX,G];exact N.one,by rw[aX,G];exact N.four,λl _d h m lp _e d A n g _ _ _=>?_,λk p d he hs g=>?_⟩
   .rw[aX,G] at A;refine fin d h m _ n (I g) ?_;unfold d4;rw[w,az O,<-B.at_,A]
   .rw[aX,G] at he;refine f' k p d ?_ (by rw[<-B.rj];exact hs) (I g);unfold d4;rw[w,az O,<-B.at_,he]
  .refine⟨_,O,_,O,r,dr,_,_,O,b',O,_,O,r,dr,_,_,O,b',O,bo,x.rl,s,ss,ps,c.at_,?_,y',L,T'.Ao M,N.four,λp u=>?_,D',λt h m d A n g=>?_,λk p d he hs g=>?_⟩
   .rw[B']
   .have:=(B.rep.de p u).2.st;rw[M] at this;exact this
   .rw[B.rep.inf] at A;refine fin d h m _ n (I g) ?_;unfold d4;rw[w,ar aJ,<-B.at_,lR A]
   .rw[B.rep.inf] at he;refine f' k p d ?_ (by rw[<-B.rj];exact hs) (I g);unfold d4;rw[w,ar aJ,<-B.at_,h_ he]
inductive GQ (CB CS:Addr)(vs:List V)(H:Hp)(Q:VK)(E:XK):Prop
 | mk b s (_:vs=[.ref b]) (_:PlainAt CB H b s) (_:s.ps.length<=s.at_) (_:(∀x a' hl a H',dH (s.xs.drop s.at_)=some (x,s.xs.drop a')->s.at_<a'->PlainAt CB H' b {s with at_:=a',ps:=hl}->hl.length<=a'->aQ b s.pl H H'->g_ CS H H' a x->Q (.ref a) H')) (_:(dH (s.xs.drop s.at_)=none->kG b s.pl H E))
theorem PlainAt.sV {b:Addr}{s:PB}(B:PlainAt CB H b s){c:Addr}(a:H c=none)(d:aQ b s.pl H' H2)(hc:H' c=some o):H2 c=some o:=d c o hc (λz=>by obtain⟨dx,e⟩:=B.ins;rw[z,e] at a;cases a) (λz=>by rw[z,B.bH] at a;cases a)
variable (nq:aS P w K mg base (bZ P w CF) 9 "read_stream" ["body"] (GQ CB CS))
include ag aM bf ic nH jB kf lz in
theorem D4:type_of% nq:=by
 refine c0 nH ["body","kind","num","den","name","setup"] ?_;rintro P' H vs Q E j i ⟨b,s,rfl,B,L,k',l'⟩ R' S'
 refine⟨_,aj (aW 1 j (bI kf bw i (a_ (pv 0) (aF aL (aA ag.AU)))))
  (aj (aW 2 j (bI kf bw i (a_ (pv 0) (aF aL (aA ag.pF)))))
  (aj (aW 3 j (bI kf bw i (a_ (pv 0) (aF aL (aA ag.pF)))))
  (aj (aZ (aY cQ (aO ic i (aF (pv 2) (pv 3))) aL)
   (aq (d6 bf i bw (aF (aA ag.eQ) (cz cC (aw aM (pv 0)) (eM eK aL) (λ_ _=>rfl))))) a7)
  (aj (aW 4 j (bI lz bw i (aF (pv 0) (aA ag.xj))))
  (aj (aW 5 j (bI lz bw i (aF (pv 0) (aA ag.wG))))
  (aq (aI (dj jB i (a_ (pv 1) (a_ (pv 2) (a_ (pv 3) (aF (pv 4) (pv 5))))))))))))),?_⟩
 refine pk ?_
 intros
 have bad:(∀k a b n m,¬lF s.xs s.at_ k a b n m)->kG b s.pl H E:=λz=>l' (by
  cases e:dH (s.xs.drop s.at_) with
  | none=>rfl
  | some y=>obtain⟨y,r⟩:=y;obtain⟨k,a,b,n,m,d⟩:=RM.BM e;exact absurd d (z _ _ _ _ _))
 have t:∀{H1:Hp},(∀k a b n m,¬lF s.xs s.at_ k a b n m)->aQ b s.pl H H1->kG b s.pl H1 E:=λ{H1} z f k p H2 C=>bad z k p H2 (f.trans C);have g:∀{l:List Int} {x:Int} {m:Nat},l.length<=m->(l++[x]).length<=m+1:=λ{l x m} h=>by rw[aP];simp only[bA,cn];omega
 refine⟨_,O,b,s,0,255,O,B,L,λn1 H1 m' lo1 T' p' N=>?_,λz=>bad λk a b n m d=>z k d.k0 ⟨af,by have:=d.k1;omega⟩⟩;refine⟨_,O,b,_,1,4294967295,O,p',g L,λn2 H2 u U' V' q' C=>?_,λz=>t (λk a b n m d=>z a d.a0 ⟨by have:=d.a1;omega,by have:=d.a2;omega⟩) N⟩;have u:s.xs[s.at_+1]?=some n2:=u;have T:=N.trans C;refine⟨_,O,b,_,1,4294967295,O,q',g (g L),λn3 r' v W' X' D u'=>?_,λz=>t (λk a b n m d=>z b d.b0 ⟨by have:=d.b1;omega,by have:=d.b2;omega⟩) T⟩;have v:s.xs[s.at_+1+1]?=some n3:=v;have w:aQ b s.pl H r':=T.trans u';refine⟨_,O,_,O,n2,n3,O,_,_,O,O,_,O,bS (λhd=>?_) λhd=>?_⟩
 .have hd:(1:Int) < ((Nat.gcd n2 n3:Nat):Int):=hd;refine ma O D O ⟨_,_,O,bad (λk a b n m d=>?_) _ _ _ w⟩;have e1:a=n2:=cx (d.a0.symm.trans u);have v':b=n3:=cx (d.b0.symm.trans v);have:=d.gc;rw[e1,v'] at this;omega
 have hd:¬(1:Int) < ((Nat.gcd n2 n3:Nat):Int):=hd
 have w':Nat.gcd n2 n3=1:=by
  have:0<Nat.gcd n2 n3:=zC _ af;omega
 refine⟨_,O,b,_,16,O,D,g (g (g L)),λn4 l1 y' A z' U A' B' C' Y D'=>?_,λz=>t (λk a b n m d=>z n d.n0 ⟨d.n1,d.n2,d.n3⟩) w⟩;have A:s.xs[s.at_+1+1+1]?=some n4:=A;have U:s.at_+1+1+1+1+n4<=s.xs.length:=U;have G:aQ b s.pl H y':=w.trans D';have b':H l1=none:=D.back w B';refine⟨_,O,b,_,40,O,Y,?_,λn5 l2 I J E' e' F' G' I' f' i'=>?_,λz=>t (λk a b n m d=>?_) G⟩
 .show(s.ps++[(s.at_:Int)]++[((s.at_+1:Nat):Int)]++[((s.at_+1+1:Nat):Int)]++[((s.at_+1+1+1:Nat):Int)]).length<=s.at_+1+1+1+1+n4;exact bB (g (g (g (g L)))) af
 rotate_left
 .have e4:n=n4:=cx (d.n0.symm.trans A);subst e4;refine z m ?_ ⟨d.m1,?_,?_⟩
  .have:=d.m0;rw[show s.at_+4+n=s.at_+1+1+1+1+n by omega] at this;exact this
  .have:=d.m2;show s.at_+1+1+1+1+n+1+m<=s.xs.length;omega
  .have:=d.m3;rw[show s.at_+5+n=s.at_+1+1+1+1+n+1 by omega] at this;exact this
 have J:s.xs[s.at_+1+1+1+1+n4]?=some n5:=J;have e':s.at_+1+1+1+1+n4+1+n5<=s.xs.length:=e';have j':aQ b s.pl H I:=G.trans i';have J':H l2=none:=Y.back G G';have K':I l1=some _:=B.sV b' i' C'
 have d:lF s.xs s.at_ n1 n2 n3 n4 n5:=⟨m',u,v,A,by rw[show s.at_+4+n4=s.at_+1+1+1+1+n4 by omega];exact J,af,af,af,af,af,w',z',af,A',E',af,
  by rw[show s.at_+5+n4=s.at_+1+1+1+1+n4+1 by omega];exact F'⟩
 have L':=RM.Bo d;refine⟨_,O,_,O,_,O,_,O,_,O,λx dx nx M' Y'=>⟨x,dx,l1,l2,_,_,_,O,au,λM hx keep=>⟨O,?_⟩⟩⟩;have sm:ao I M:=ao.made nx M' keep;have N':aQ b s.pl H M:=λc o hc n1 n2=>sm c o (j' c o hc n1 n2);have O':H x=none:=f'.back j' nx;refine k' _ (s.at_+5+n4+n5) (s.ps++[(s.at_:Int)]++[((s.at_+1:Nat):Int)]++[((s.at_+1+1:Nat):Int)]++[((s.at_+1+1+1:Nat):Int)]++[((s.at_+1+1+1+1+n4:Nat):Int)]) x M L' af ?_ ?_ N' ⟨dx,l1,l2,hx,?_,?_,O',b',J'⟩
 .have:=f'.same sm;rw[show s.at_+5+n4+n5=s.at_+1+1+1+1+n4+1+n5 by omega];exact this
 .refine bB (g (g (g (g (g L))))) af
 .rw[<-B3 d.n3];exact sm _ _ K'
 .rw[<-B3 d.m3,show s.at_+5+n4=s.at_+1+1+1+1+n4+1 by omega];exact sm _ _ I'
inductive HH (CS:Addr)(vs:List V)(H:Hp)(Q:VK)(E:XK):Prop
 | mk (d:Addr) (xs:List Nat) (_:vs=[.ref d]) (_:H d=some (.lst (nV xs))) (_:xs.length<=300) (_:(∀ss l H',gs xs=some ss->jM CS H H' l ss->ao H H'->Q (.ref l) H')) (_:(gs xs=none->∀(k p:Int) H',ao H H'->E k p H'))
variable (vU:Fn K mg "listed_streams" xp ["numbers"])
variable (nE:aS P w K mg base (bZ P w CF) 10 "listed_streams" ["numbers"] (HH CS))
include ag aM bf gO nq vU in
theorem Lp:type_of% nE:=by
 refine c0 vU ["numbers","body","streams"] ?_;rintro _t H vs Q E D' e' ⟨d,xs,rfl,hd,P',R',f'⟩ _u _v
 refine⟨_,aj (aW 1 D' (dj gO e' (a_ (pv 0) (aF aL (bX ag (pv 0))))))
  (aj (bz aM (pv 1) dN)
  (aj (aW 2 D' (bK fw))
  (aj (kJ j5 (aY fM (aw aM (pv 1)) (aw aM (pv 1)))
   (aq (bU (eW fe hY hZ iW (pv 2) (aB (bI nq bw e' (aB (pv 1))))))))
  (aj (aZ (PW.pt (gp (aY bW (bX ag (pv 2)) aL) (gu (aY cQ (bX ag (pv 2)) (aA ag.BR)))))
   (aq (d6 bf e' bw (aF (aA ag.eQ) aL))) a7)
  (aq (aI (pv 2))))))),?_⟩
 refine gA ?_
 intros
 refine⟨_,O,_,O,d,_,O,.inl (ay.of hd),λb dx nb E' _w=>⟨b,dx,d,_,_,O,au,λpl H1 F' i' S' T' keep=>⟨O,?_⟩⟩⟩;have G':ao H H1:=ao.made nb E' keep
 have j':H pl=none:=by
  rw[ak F'] at i';by_cases z:pl=dx
  .rw[z];exact E'
  .rw[ak z] at i';exact i'
 have U':=G' _ _ hd;refine⟨_,O,b,_,_,O,S',lk,?_⟩;have V':d≠b:=a6 hd nb;have k':PlainAt CB (ah H1 b (.ins CB dx (eD ⟨d,xs,0,pl,[]⟩))) b ⟨d,xs,0,pl,[]⟩:=⟨⟨dx,au⟩,by show ah H1 b _ pl=_;rw[ak F'];exact T',by show ah H1 b _ d=_;rw[ak V'];exact U',a6 hd j',b3 _,P'⟩;have W':bM "plain" (V.bl true) [("data",V.ref d),("at",V.int 0),("end",V.int ((nV xs).length:Int)),("plain",V.bl false),("places",V.ref pl),("stream",V.int 0)]=eD ⟨d,xs,0,pl,[]⟩:=by rw[mv];rfl
 have l':ao H (ah H1 b (.ins CB dx (eD ⟨d,xs,0,pl,[]⟩))):=λc o hc=>by rw[ak (a6 hc nb)];exact G' c o hc
 rw[show(bM "plain" (V.bl true) [(("data":Str),V.ref d),("at",V.int 0),("end",V.int ((nV xs).length:Int)),("plain",V.bl false),("places",V.ref pl),("stream",V.int 0)])=eD ⟨d,xs,0,pl,[]⟩ from W'];generalize ah H1 b (.ins CB dx (eD ⟨d,xs,0,pl,[]⟩))=H2 at k' l';refine⟨b3 _,λl m'=>?_⟩;have p':ao H2 (ah H2 l (.lst [])):=a9 m';have q':H l=none:=l'.free m';have e3:ah H2 l (.lst []) l=some (.lst []):=au;generalize ah H2 l (.lst [])=j at p' e3;have M:=k'.same p';have X':∀{at_:Nat} {ps:List Int} {H':Hp} {ys:List V},PlainAt CB H' b ⟨d,xs,at_,pl,ps⟩->H' l=some (.lst ys)->l≠b:=λ{at_ ps H' ys} Y' I'=>λz=>by obtain⟨Z',m⟩:=Y'.ins;rw[z,m] at I';cases I'
 have r':l≠pl:=λz=>by have:=k'.bH;rw[<-z,m'] at this;cases this
 have J':l≠d:=(a6 hd q').symm;have u':l≠b:=X' M e3;have K':ao H j:=l'.trans p'
 refine nO (λσ H'=>σ=[some (.ref d),some (.ref b),some (.ref l)]/\∃(a:Nat) (bH:List Int) (as:List Addr) (done:List LwReel.Stream),PlainAt CB H' b ⟨d,xs,a,pl,bH⟩/\bH.length<=a/\H' l=some (.lst (as.map V.ref))/\as.length=done.length/\done.length<=a/\
  (∀(i:Nat) (c:Addr) (x:LwReel.Stream),as[i]?=some c->done[i]?=some x->g_ CS j H' c x)/\eg b pl l j H'/\dM xs.length xs=(dM (xs.drop a).length (xs.drop a)).map λr=>done++r)
  (λ_ H'=>match H' b with | some (.ins _ _ fs)=>(match fs.lookup ("at":Str) with | some (.int q)=>xs.length+1 - q.toNat | _=>0) | _=>0)
  ⟨O,0,[],[],[],M,bY _,e3,O,bY _,λi c x h=>by simp at h,λ_ _ h _ _ _=>h,?_⟩ ?_ ?_
 .rw[kC];cases dM xs.length xs<;>rfl
 .rintro σ N ⟨rfl,a,bH,as,done,T,_a,w,y,_x,L',U,v'⟩;obtain⟨M',Y⟩:=T.ins;have _b:(match N b with | some (.ins _ _ fs)=>(match fs.lookup ("at":Str) with | some (.int q)=>xs.length+1 - q.toNat | _=>0) | _=>0)=xs.length+1 - a:=by rw[Y];rfl
  have _y:a<=xs.length:=T.le;have same:∀{w':Hp},eg b pl l j w'->ao H w':=λ{w'} f e o he=>f e o (K' e o he) (a6 he nb) (a6 he j') (a6 he q');have y':∀{c:Addr},j c=none->c≠b/\c≠pl/\c≠l:=λ{c} hc=>⟨λz=>(by obtain⟨Z',m⟩:=M.ins;rw[z,m] at hc;cases hc),λz=>(by have:=M.bH;rw[<-z,hc] at this;cases this),λz=>(by rw[z,e3] at hc;cases hc)⟩;refine⟨_,O,b,M',_,_,O,Y,O,_,O,b,M',_,_,O,Y,O,_,_,O,O,_,O,bS (λm=>?_) λm=>?_⟩
  .have m:(a:Int) < (xs.length:Int):=m;have z':xs.drop a≠[]:=λz=>by have:=da List.length z;rw[bQ] at this;simp only[cn] at this;omega
   obtain⟨g,A'⟩:∃g,(xs.drop a).length=g+1:=⟨(xs.drop a).length - 1,by have:=List.length_pos_iff.mpr z';omega⟩;refine⟨_,O,.inl ⟨O,_,ay.of w⟩,_,O,b,_,O,T,_a,λx n _c c A s N' B' _d D _e=>?_,λs k p A D=>?_⟩
   .have s:dH (xs.drop a)=some (x,xs.drop n):=s;have N':a<n:=N';have _f:A l=some (.lst (as.map V.ref)):=D _ _ w u' r';have _z:n<=xs.length:=B'.le
    have back:∀e,N e=none->j e=none:=λe he=>by
     cases z:j e with
     | none=>rfl
     | some o=>
      exfalso;by_cases G:e=b
      .rw[G,Y] at he;cases he
      .by_cases I:e=pl
       .have:=T.bH;rw[<-I,he] at this;cases this
       .by_cases J:e=l
        .rw[J,w] at he;cases he
        .rw[U e o z G I J] at he;cases he
    have k1:kB j N A:=λe o b' he=>D e o he (y' b').1 (y' b').2.1;have k2:kB j A (ah A l (.lst (as.map V.ref++[V.ref c]))):=λe o b' he=>by rw[ak (y' b').2.2];exact he
    refine⟨l,_,_,O,O,_f,?_,⟨O,n,_c,as++[c],done++[x],B'.jV u' r' J',_d,?_,?_,?_,λi c' _g u t=>?_,λe o he G I J=>?_,?_⟩,?_⟩
    .rw[aX,y];exact fG (show done.length<=300 by omega) aJ
    .rw[au,cj];rfl
    .rw[aP,aP,y];rfl
    .rw[aP];simp only[bA,cn];omega
    .by_cases hi:i<done.length
     .rw[k9 af] at u t;exact((L' i c' _g u t).keep k1).keep k2
     .rw[qw af] at u t
      have O':i - done.length=0:=by
       have:=(List.getElem?_eq_some_iff.mp t).1;simp only[bA,cn] at this;omega
      rw[y,O'] at u;rw[O'] at t;cases u;cases t;exact(_e.o_ back).keep k2
    .rw[ak J];exact D e o (U e o he G I J) G I
    .rw[v',A',RM.F3 z' s,RM.BL g (xs.drop n).length (xs.drop n) (by rw[bQ] at A' ⊢;omega) (bY _)]
     cases dM (xs.drop n).length (xs.drop n) with
     | none=>rfl
     | some r=>simp
    .obtain⟨_A,_h⟩:=(B'.jV (o:= .lst (as.map V.ref++[V.ref c])) u' r' J').ins;rw[_b,_h];show xs.length+1 - ((n:Nat):Int).toNat<xs.length+1 - a;rw[ep];omega
   .have s:dH (xs.drop a)=none:=s;refine f' ?_ k p A λe o he=>D e o (same U e o he) (a6 he nb) (a6 he j');unfold gs;rw[v',A',RM.Mo z' s];rfl
  .have m:¬(a:Int) < (xs.length:Int):=m;have _i:xs.drop a=[]:=lB af
   have _j:dM xs.length xs=some done:=by
    rw[v',_i];show some (done++[])=_;rw[et]
   have C:gs xs=if 1<=done.length/\done.length<=4 then some done else none:=by unfold gs;rw[_j]
   have C':=same U;refine⟨_,O,l,_,O,.inl (ay.of w),O,_,O,?_⟩;rw[aX,y];refine bx (λh1=>?_) λh1=>?_
   .rw[ar af] at C;exact gR ⟨_,_,O,f' C _ _ _ C'⟩
   .refine⟨_,O,l,_,O,.inl (ay.of w),_,_,O,O,_,O,?_⟩;rw[aX,y];refine bS (λh2=>?_) λh2=>?_
    .have h2:(4:Int) < (done.length:Int):=h2;rw[ar af] at C;exact⟨_,_,O,f' C _ _ _ C'⟩
    .have h2:¬(4:Int) < (done.length:Int):=h2;rw[az af] at C;exact⟨_,O,R' done l N C ⟨as,w,q',y,λi c x u t=>(L' i c x u t).o_ λe he=>K'.free he⟩ C'⟩
 .rintro σ H Q Q' i ⟨v,s,a,dx,fs,_k,e1,_l,e3,_m,_n,a2,_o,_p,_q,e4,e5,e6,i2,_r,e9,e10,k,e11,_s⟩;exact⟨v,s,a,dx,fs,_k,e1,_l,e3,_m,_n,a2,_o,_p,_q,e4,e5,e6,i2,_r,e9,e10,k,e11,i _ _ _s⟩
abbrev qo (H:Hp)(Q:VK)(v:V):Prop:=∀H',ao H H'->Q v H'
inductive MF (CL CS CP:Addr)(vs:List V)(H:Hp)(Q:VK)(_:XK):Prop
 | mk (r:Addr) (ss:List LwReel.Stream) (ps:List (Addr×Info)) (place:Nat) (_:vs=[.ref r,.int (place:Int)]) (_:fO CL CS CP H r ss ps) (_:ss.length<=4) (_:(∀p∈ps,p.2.stream<ss.length)) (_:ps.length<=16) (_:(∀n∈eb (ps.map (·.2)),n<2 ^ 64)) (_:Gives H Q (bV (indexBody (ps.map (·.2)) place)))
theorem A9:([V.int 76,V.int 119,V.int 142,V.int 46]:List V)=bV (LwReel.MARK++[0x2E]):=(O)
theorem rH (l:List Info):(eb l).length=5*l.length+1:=by
 unfold eb;rw[bA,RM.wC]
variable (uK:Fn K mg "index_form" z3 ["reel","place"])
variable (mu:aS P w K mg base ba 7 "index_form" ["reel","place"] (MF CL CS CP))
include ag fq eR fT h3 uK in
theorem M8:type_of% mu:=by
 obtain⟨f,eR,i⟩:=eR;refine bJ uK ["reel","place"] ?_;rintro A H vs Q E C e ⟨r,ss,ps,place,rfl,j,k,l,m,n,q⟩ D G
 refine⟨_,aq (aI (aR dJ (aR dJ (aO fT e (aB (aO h3 e (aB (pv 0))))) (aO fq e (aF (pv 1) (aA ag.nD))))
  (ra rB (by rfl) ag.rD rn (aB (lr (v:= .ref f) O eR O))))),?_⟩
 have o:=rH (ps.map (·.2));rw[aX] at o;have I:=kQ (eb (ps.map (·.2)));refine⟨_,O,r,ss,ps,O,j,k,l,m,λl1 H1 n1 e1 p=>⟨l1,_,O,ay.of e1,n,af,λl2 H2 n2 s t=>?_⟩⟩;have u:ao H H2:=p.trans t;refine⟨_,O,place,8,O,aJ,λl3 n3=>?_⟩;have t3:ao H2 (ah H2 l3 (.lst (bV (LwReel.le 8 place)))):=a9 n3;have e3:ah H2 l3 (.lst (bV (LwReel.le 8 place))) l3=some (.lst (bV (LwReel.le 8 place))):=au;generalize ah H2 l3 (.lst (bV (LwReel.le 8 place)))=d at t3 e3;refine⟨l2,l3,_,_,O,O,t3 _ _ s,e3,?_,λl4 n4=>?_⟩
 .rw[bu,bu,fK];exact bB (show _<=1000 by omega) aJ
 rw[<-eU];generalize g:(eb (ps.map (·.2))).flatMap var++LwReel.le 8 place=a;have J:a.length<=900:=by rw[<-g,aP,fK];omega
 have t4:ao d (ah d l4 (.lst (bV a))):=a9 n4;have e4:ah d l4 (.lst (bV a)) l4=some (.lst (bV a)):=au;generalize ah d l4 (.lst (bV a))=b at t4 e4;have w:ao H b:=(u.trans t3).trans t4;refine⟨f,_,O,.inr (i _),λc n5=>?_⟩;rw[A9];have t5:ao b (ah b c (.lst (bV (LwReel.MARK++[0x2E])))):=a9 n5;have e5:ah b c (.lst (bV (LwReel.MARK++[0x2E]))) c=some (.lst (bV (LwReel.MARK++[0x2E]))):=au;generalize ah b c (.lst (bV (LwReel.MARK++[0x2E])))=x at t5 e5;have h:ao H x:=w.trans t5;refine⟨l4,c,_,_,O,O,t5 _ _ e4,e5,?_,λy n6=>?_⟩
 .rw[bu,bu];exact bB (show a.length+4<=1000 by omega) aJ
 rw[<-eU];have z:a++(LwReel.MARK++[0x2E])=indexBody (ps.map (·.2)) place:=by rw[RM.uU,<-g,gv]
 rw[z];exact q y _ (h.free n6) au (h.trans (a9 n6))
inductive GP (CP:Addr)(vs:List V)(H:Hp)(Q:VK)(_:XK):Prop
 | mk (a:Addr) (x:Info) (_:vs=[.ref a]) (_:dD CP H a x) (_:ki x) (_:qo H Q (.int ((16+gb x+x.size:Nat):Int)))
variable (t_:Fn K mg "part_box_size" CM ["part"])
variable (my:aS P w K mg base ba 8 "part_box_size" ["part"] (GP CP))
include ag bh iz t_ in
theorem J6:type_of% my:=by
 refine bJ t_ ["part"] ?_;rintro f H vs Q E g c ⟨a,x,rfl,hx,d,q⟩ h i;refine⟨_,aq (aI (aR cJ (aR cJ (aA ag.ri) (bX ag (aO iz c (aB (pv 0))))) (aw bh (pv 0)))),_,O,a,x,O,hx,d,λl H1 j e1 b=>?_⟩;obtain⟨dx,dl,ha⟩:=hx.same b;refine⟨l,_,O,.inl (ay.of e1),_,_,O,O,_,O,a,dx,_,_,O,ha,O,_,_,O,O,?_⟩;have:=q H1 b
 have e:(16:Int)+((bV (lN x)).length:Int)+(x.size:Int)=((16+gb x+x.size:Nat):Int):=by
  rw[bu];show(16:Int)+((gb x:Nat):Int)+(x.size:Int)=_;omega
 (try dsimp only)
 rw[e];exact this
structure eX (ss:List LwReel.Stream)(l:List Info):Prop where
 right:∀s∈ss,s.right=true
 one:1<=ss.length
 four:ss.length<=4
 parts:∀x∈l,ki x/\hD ss.length x
 eH:l.length<=16
inductive JC (CL CS CP:Addr)(vs:List V)(H:Hp)(Q:VK)(_:XK):Prop
 | mk (r:Addr) (ss:List LwReel.Stream) (ps:List (Addr×Info)) (_:vs=[.ref r]) (_:fO CL CS CP H r ss ps) (_:eX ss (ps.map (·.2))) (_:qo H Q (.int (cg ss (ps.map (·.2)):Nat)))
theorem hV (k:UInt8)(b:Bytes):(LwReel.box k b).length=16+b.length:=by
 unfold LwReel.box;simp only[aP,bA,fK,pe];show 3+_+_=_;omega
variable (uV:Fn K mg "place_behind" Cb ["reel"])
variable (gr:aS P w K mg base ba 9 "place_behind" ["reel"] (JC CL CS CP))
include ag bh bG i8 my uV in
theorem Fh:type_of% gr:=by
 refine bJ uV ["reel","last"] ?_;rintro t H vs Q E j i ⟨r,ss,ps,rfl,⟨dr,ls,lp,b,k,a⟩,c,q⟩ u v
 refine⟨_,aj (aZ (aY bW (bX ag (aw bG (pv 0))) aL)
  (aq (aI (aR cJ (aA ag.ri) (bX ag (aO i8 i (aB (aw bG (pv 0)))))))) a7)
  (aj (aW 1 j (cz cC (aw bG (pv 0)) (eM eK aL) (λ_ _=>rfl)))
  (aq (aI (aR cJ (aw bh (pv 1)) (aO my i (aB (pv 1))))))),?_⟩
 refine cV ?_
 intros
 refine⟨_,O,r,dr,_,_,O,b,O,lp,_,O,.inl (ay.of a.1),O,_,O,?_⟩;rw[aX];refine bx (λd=>?_) λd=>?_
 .have m:ps=[]:=List.length_eq_zero_iff.mp af;refine⟨_,O,r,dr,_,_,O,b,O,ls,ss,O,k,c.right,c.four,λl H1 w e1 f=>⟨l,_,O,.inl (ay.of e1),_,_,O,O,?_⟩⟩;have:=q H1 f;rw[m] at this
  have e:(16:Int)+((bV (headBody ss)).length:Int)=(cg ss ([]:List Info):Nat):=by
   rw[RM.sf,bu];unfold headBox;rw[hV];omega
  (try dsimp only)
  rw[e];exact this
 .obtain⟨p,g⟩:∃p,ps.getLast?=some p:=by
   cases e:ps.getLast? with
   | none=>rw[qZ] at e;rw[e] at d;exact absurd O d
   | some p=>exact⟨p,O⟩
  have h:=mc g;obtain⟨dx,dl,n⟩:=id (a.2 p h);have o:=(c.parts p.2 (i6 h)).1;refine⟨_,O,r,dr,_,_,O,b,O,_,O,lp,_,_,_,O,O,ay.of a.1,rK (λp=>V.ref p.1) g,_,O,p.1,dx,_,_,O,n,O,_,O,p.1,p.2,O,a.2 p h,o,λH1 f=>⟨_,_,O,O,?_⟩⟩;have:=q H1 f
  have e:cg ss (ps.map (·.2))=p.2.place+16+gb p.2+p.2.size:=by
   unfold cg;rw[qU,g];rfl
  rw[e] at this;have s:(p.2.place:Int)+((16+gb p.2+p.2.size:Nat):Int)=((p.2.place+16+gb p.2+p.2.size:Nat):Int):=af
  (try dsimp only)
  rw[s];exact this
structure en (CL CS CP:Addr)(out:List Addr)(H:Hp)(r ls lp:Addr)(ss:List LwReel.Stream)(ps:List (Addr×Info)):Prop where
 ins:∃dr,H r=some (.ins CL dr (gd ls lp))
 str:dO CS (r::lp::out) H ls ss
 cY:H lp=some (.lst (ps.map λp=>V.ref p.1))
 de:∀p∈ps,dD CP H p.1 p.2
theorem en.at_ {out:List Addr}{H:Hp}{r ls lp:Addr}{ss:List LwReel.Stream}{ps:List (Addr×Info)}(R:en CL CS CP out H r ls lp ss ps):fO CL CS CP H r ss ps:=let ⟨dr,h⟩:=R.ins;⟨dr,ls,lp,h,R.str.at_,R.cY,R.de⟩
theorem en.same {out:List Addr}{H H':Hp}{r ls lp:Addr}{ss:List LwReel.Stream}{ps:List (Addr×Info)}(R:en CL CS CP out H r ls lp ss ps)(s:ao H H'):en CL CS CP out H' r ls lp ss ps:=⟨let ⟨dr,h⟩:=R.ins;⟨dr,s _ _ h⟩,R.str.kp (Kp.same s),s _ _ R.cY,λp a=>(R.de p a).same s⟩
theorem dD.jL {c:Addr}{x:Info}(h:dD CP H a x)(hc:H c=some o)(hk:∀dx dl st tm ln fl sz pl,o≠ .ins CP dx (cW st tm ln fl dl sz pl)):a≠c:=λz=>by
 obtain⟨dx,dl,h1⟩:=h;rw[z,hc] at h1;cases h1;exact hk _ _ _ _ _ _ _ _ O
theorem dO.part {x:Info}(h:dO CS be H l ss)(ha:dD CP H a x):dO CS be (ah H a o) l ss:=by
 obtain⟨as,h1,g,h2,f⟩:=h;refine⟨as,by rw[ak (ha.jL h1 (λ_ _ _ _ _ _ _ _=>by intro z;cases z)).symm];exact h1,g,h2,λi c y e1 j=>?_⟩;obtain⟨dx,n,m,b,d,e,k,p,r⟩:=f i c y e1 j;refine⟨dx,n,m,by rw[ak (ha.jL b (λ_ _ _ _ _ _ _ _=>by intro z;cases z)).symm];exact b,by rw[ak (ha.jL d (λ_ _ _ _ _ _ _ _=>by intro z;cases z)).symm];exact d,by rw[ak (ha.jL e (λ_ _ _ _ _ _ _ _=>by intro z;cases z)).symm];exact e,k,p,r⟩
inductive Kf (CL CS CP:Addr)(vs:List V)(H:Hp)(Q:VK)(_:XK):Prop
 | mk (out:List Addr) (r a ls lp:Addr) (ss:List LwReel.Stream) (ps:List (Addr×Info)) (x:Info) (_:vs=[.ref r,.ref a]) (_:en CL CS CP out H r ls lp ss ps) (_:eX ss (ps.map (·.2))) (_:dD CP H a x) (_:a∉ps.map (·.1)) (_:∀H',en CL CS CP out H' r ls lp ss (ps++[(a,{x with place:=cg ss (ps.map (·.2))})])->Kp [a,lp] H H'->Q .aE H')
variable (u3:Fn K mg "add_part" yz ["reel","part"])
variable (iy:aS P w K mg base ba 10 "add_part" ["reel","part"] (Kf CL CS CP))
include bh bG gr u3 in
theorem H_:type_of% iy:=by
 refine bJ u3 ["reel","part"] ?_;rintro A H vs Q E C t ⟨out,r,a,ls,lp,ss,ps,x,rfl,R,j,hx,u,q⟩ D G
 refine⟨_,aj (bz bh (pv 1) (aO gr t (aB (pv 0))))
  (aq (bU (eW fe hY hZ iW (aw bG (pv 0)) (aB (pv 1))))),?_⟩
 refine fJ ?_
 intros
 refine⟨_,O,r,ss,ps,O,R.at_,j,λH1 h=>?_⟩;have c:=R.same h;have e:=hx.same h;obtain⟨dx,dl,ha⟩:=id e;refine⟨_,O,a,dx,_,O,ha,lk,?_⟩;obtain⟨dr,k⟩:=c.ins;have v:a≠r:=e.jL k (λ_ _ _ _ _ _ _ _=>by intro z;cases z);have l:a≠lp:=e.jL c.cY (λ_ _ _ _ _ _ _ _=>by intro z;cases z);generalize I:cg ss (ps.map (·.2))=b at*;have w:bM "place" (V.int (b:Int)) (cW (x.stream:Int) x.time (x.lasts:Int) (x.flags:Int) dl (x.size:Int) (x.place:Int))=cW (x.stream:Int) x.time (x.lasts:Int) (x.flags:Int) dl (x.size:Int) (b:Int):=rfl;rw[w];have f:ah H1 a (.ins CP dx (cW (x.stream:Int) x.time (x.lasts:Int) (x.flags:Int) dl (x.size:Int) (b:Int))) r=_:=(ak v.symm).trans k;have d:ah H1 a (.ins CP dx (cW (x.stream:Int) x.time (x.lasts:Int) (x.flags:Int) dl (x.size:Int) (b:Int))) lp=_:=(ak l.symm).trans c.cY;have m:ah H1 a (.ins CP dx (cW (x.stream:Int) x.time (x.lasts:Int) (x.flags:Int) dl (x.size:Int) (b:Int))) a=some (.ins CP dx (cW (x.stream:Int) x.time (x.lasts:Int) (x.flags:Int) dl (x.size:Int) (b:Int))):=au;have n:=c.str.part (o:= .ins CP dx (cW (x.stream:Int) x.time (x.lasts:Int) (x.flags:Int) dl (x.size:Int) (b:Int))) e
 have s:∀p∈ps,dD CP (ah H1 a (.ins CP dx (cW (x.stream:Int) x.time (x.lasts:Int) (x.flags:Int) dl (x.size:Int) (b:Int)))) p.1 p.2:=λp g=>by
  obtain⟨i,l2,h2⟩:=c.de p g;exact⟨i,l2,by rw[ak (λz=>u (by rw[<-z];exact i6 g))];exact h2⟩
 have k2:Kp [a,lp] H (ah H1 a (.ins CP dx (cW (x.stream:Int) x.time (x.lasts:Int) (x.flags:Int) dl (x.size:Int) (b:Int)))):=(Kp.same h).trans (Kp.upd (by simp));generalize ah H1 a (.ins CP dx (cW (x.stream:Int) x.time (x.lasts:Int) (x.flags:Int) dl (x.size:Int) (b:Int)))=H2 at f d m n s k2;refine⟨_,O,r,dr,_,_,O,f,O,.inl ⟨O,_,ay.of d⟩,_,O,lp,_,_,O,O,d,?_,?_⟩
 .rw[aX];have:=j.eH;rw[aX] at this;exact fG this aJ
 .have y:r≠lp:=ef f d (by intro z;cases z);refine q _ ⟨⟨dr,by rw[ak y];exact f⟩,n.kp (Kp.upd (by simp)),by rw[au,cj];rfl,λp g=>?_⟩ (k2.trans (Kp.upd (by simp)));rcases List.mem_append.mp g with z | z
  .obtain⟨i,l2,h2⟩:=s p z;exact⟨i,l2,by rw[ak (ef h2 d (by intro z;cases z))];exact h2⟩
  .rw[List.mem_singleton.mp z];exact⟨dx,dl,by show ah H2 lp _ a=_;rw[ak l];exact m⟩
theorem M0 {X:Cx}(h:X.K=K):lH X (.builtin "len") (λxs H Q=>∃p ys,xs=[.ref p]/\(ay K H p ys∨cI K H p ys)/\Q (.int ys.length) H):=by
 subst h;exact zA
noncomputable def kK (ss:List LwReel.Stream)(l:List Info)(p:LwReel.Part):Bool:=decide (p.body.length<=600)&&okPart ss l p.stream p.flags p.time p.lasts
inductive GN (CL CS CP:Addr)(vs:List V)(H:Hp)(Q:VK)(_:XK):Prop
 | mk (r a:Addr) (ss:List LwReel.Stream) (ps:List (Addr×Info)) (p:LwReel.Part) (_:vs=[.ref r,.ref a]) (_:fO CL CS CP H r ss ps) (_:eX ss (ps.map (·.2))) (_:gj CP H a p 0) (_:ki (p.info 0)) (_:p.bytes.length<=3000) (_:qo H Q (.bl (kK ss (ps.map (·.2)) p)))
theorem Ct (h:∀s∈ss,s.right=true):qL ss:=⟨λs hs=>(mr (h s hs)).2.1,λs hs=>(mr (h s hs)).2.2.1⟩
theorem vP {o:Option Nat}:(hB o= -1)↔o=none:=by
 cases o with
 | none=>simp[hB]
 | some i=>simp only[hB];constructor<;>intro h<;>first | omega | cases h
variable (wb:Fn K mg "may_be_put" Ar ["reel","part"])
variable (m9:aS P w K mg base ba 11 "may_be_put" ["reel","part"] (GN CL CS CP))
include ag bf gO bG iJ gm iS wb in
theorem Mb:type_of% m9:=by
 refine bJ wb ["reel","part","form"] ?_;rintro G' H vs Q E j' t ⟨r,a,ss,ps,p,rfl,I,j,J,l,k',q⟩ I' J'
 refine⟨_,aj (aW 2 j' (aO iS t (aB (pv 1))))
  (aj (aZ (aY cQ (bX ag (pv 2)) (aA ag.s9)) (aq (aI dN)) a7)
  (aj (tJ bf O O O
   (λxe pn ax hx K'=>aq (bU (bI iJ hx t (aF (dj gO t (a_ (pv 2) (aF aL (lP (M0 (K:=K) O) (by rfl) ag.B8 PySem.boot_len (aB (pv 2)))))) (aw bG (pv 0))))))
   (λe pn=>aq (aI dN)))
  (aq (aI (hU bW (aO gm t (aF (pv 0) (pv 1))) (aA ag.qS) (hI _)))))),?_⟩
 refine iT ?_
 intros
 refine⟨_,O,a,p,0,O,J,l,k',λd H1 nd e1 u=>⟨_,O,d,_,O,.inl (ay.of e1),_,_,O,O,_,O,?_⟩⟩;rw[bu];refine bS (λm=>?_) λm=>?_
 .have m:(600:Int) < (p.body.length:Int):=m;have:=q H1 u;unfold kK at this;rw[dC af,nU] at this;exact this
 have m:¬(600:Int) < (p.body.length:Int):=m
 have M:kK ss (ps.map (·.2)) p=okPart ss (ps.map (·.2)) p.stream p.flags p.time p.lasts:=by
  unfold kK;rw[cR af,fZ]
 have v:=RM.Kh (n:=ss.length) (stream:=p.stream) (flags:=p.flags) (lasts:=p.lasts) (time:=p.time) (b:=p.bytes) (q:=0) l.st l.tm l.ln l.fl;refine⟨_,O,_,O,d,_,O,.inl (ay.of e1),λb dx nb N L'=>⟨b,dx,d,_,_,O,au,λpl H2 l' y g m' keep=>⟨O,?_⟩⟩⟩;have T:ao H1 H2:=ao.made nb N keep;have A:ao H H2:=u.trans T
 have U:H1 pl=none:=by
  rw[ak l'] at y;by_cases z:pl=dx
  .rw[z];exact N
  .rw[ak z] at y;exact y
 have p':bj CB H2 b ⟨d,p.body,0,p.body.length,pl,[],0⟩:=⟨⟨dx,by rw[g,bu];rfl⟩,m',T _ _ e1,a6 e1 U,b3 _,bY _,by show p.body.length<=3000;omega⟩;have Y:H b=none:=u.free nb;have b':H pl=none:=u.free U;obtain⟨dr,ls,lp,q',r',M'⟩:=id I;obtain⟨as,C,w,_⟩:=id r'
 have e':(BS.X ⟨d,p.body,0,p.body.length,pl,[],0⟩).drop 0=p.body:=by
  show(p.body.take p.body.length).drop 0=p.body;rw[gM];rfl
 have f':∀{h:Hp},aQ b pl H2 h->ao H h:=λ{h} f e o he=>f e o (A e o he) (a6 he Y) (a6 he b');refine⟨_,O,r,dr,_,_,O,A _ _ q',O,b,ls,_,as.map V.ref,O,p',ay.of (A _ _ C),a6 C Y,a6 C b',by rw[aX,w];exact j.one,by rw[aX,w];exact j.four,O,O,λp0 u' v' N' i' c h s w' O' P' R' S' T' _ D=>?_,λk y' h he hs D=>?_⟩
 rotate_left
 ·
  rw[aX,w] at he;have he:rPart ss.length ⟨(BS.X ⟨d,p.body,0,p.body.length,pl,[],0⟩).drop 0,0⟩= .error (k,y'):=he;rw[e'] at he
  have z':¬(p.stream<ss.length/\okTime p.time=true/\p.lasts<2 ^ 32/\p.flags<=3):=λz=>by
   rw[az z] at v;obtain⟨bH,g⟩:=v;rw[show LwReel.Part.body ⟨p.stream,p.time,p.lasts,p.flags,p.bytes⟩=p.body from O,h_ he] at g;cases g
  have:=q h (f' D);rw[M] at this
  have A':okPart ss (ps.map (·.2)) p.stream p.flags p.time p.lasts=false:=by
   rw[oH];intro z;unfold okPart at z;simp only[cH,dz] at z;exact z' ⟨z.1,z.2.1,z.2.2.1,z.2.2.2.1⟩
  rw[A'] at this;exact this
 .rw[aX,w] at s w';have s:rPart ss.length ⟨(BS.X ⟨d,p.body,0,p.body.length,pl,[],0⟩).drop 0,0⟩= .ok ((p0,[u',v',i',i']),_):=s;rw[e'] at s
  have i:p.stream<ss.length/\okTime p.time=true/\p.lasts<2 ^ 32/\p.flags<=3:=by
   refine w1 λz=>?_;rw[ar z] at v;obtain⟨e,g⟩:=v;rw[show LwReel.Part.body ⟨p.stream,p.time,p.lasts,p.flags,p.bytes⟩=p.body from O,lR s] at g;cases g
  have G:=f' D;have B':=I.same G;have C':=J.same G;refine⟨_,O,_,O,r,a,ss,ps,p.info 0,O,B',Ct j.right,λx hx=>(j.parts x.2 (i6 hx)).2,?_,gj.info (pl:=0) C',⟨i.1,kr.mp i.2.1,by show p.flags<256;omega⟩,λD' E'=>?_⟩
  .have:=j.eH;rw[aX] at this;omega
  .refine⟨O,?_⟩;have:=q D' (G.trans E');rw[M] at this
   have F':okPart ss (ps.map (·.2)) p.stream p.flags p.time p.lasts=decide (V.int (hB (disorder ss (ps.map (·.2)) (p.info 0).stream (p.info 0).time (p.info 0).flags))=V.int (-1)):=by
    unfold okPart;rw[cR i.1,i.2.1,cR i.2.2.1,cR i.2.2.2];simp only[fZ];rw[eI,cb,hX,vP,AH];rfl
   rw[F'] at this;exact this
inductive JF (CL CS CP:Addr)(vs:List V)(H:Hp)(Q:VK)(_:XK):Prop
 | mk (r:Addr) (ss:List LwReel.Stream) (ps:List (Addr×Info)) (_:vs=[.ref r]) (_:fO CL CS CP H r ss ps) (_:eX ss (ps.map (·.2))) (_:Gives H Q (bV (ReelCalls.before ss (ps.map (·.2)))))
theorem zK (h:∀s∈ss,s.right=true)(a:ss.length<=4):(headBody ss).length<=500:=by
 unfold headBody;rw[aP,aP];have:=rV h;have:=hp 1;have:=hp ss.length;omega
variable (u9:Fn K mg "head_if_first" AG ["reel"])
variable (h7:aS P w K mg base ba 8 "head_if_first" ["reel"] (JF CL CS CP))
include ag bG i8 gy u9 in
theorem Ms:type_of% h7:=by
 refine bJ u9 ["reel"] ?_;rintro n H vs Q E o e ⟨r,ss,ps,rfl,⟨dr,ls,lp,f,h,i⟩,b,q⟩ p s
 refine⟨_,aj (aZ (aY cQ (bX ag (aw bG (pv 0))) aL) (aq (aI (bK fw))) a7)
  (aq (aI (aO gy e (aF (aA ag.qD) (aO i8 e (aB (aw bG (pv 0)))))))),?_⟩
 refine fJ ?_
 intros
 refine⟨_,O,r,dr,_,_,O,f,O,lp,_,O,.inl (ay.of i.1),_,_,O,O,_,O,?_⟩;rw[aX];refine bS (λa=>?_) λa=>?_
 .have a:(0:Int) < (ps.length:Int):=a;refine⟨b3 _,λl c=>?_⟩
  have d:ReelCalls.before ss (ps.map (·.2))=[]:=by
   unfold ReelCalls.before;rw[ar];rw[vQ];intro z;have:=da List.length z;rw[aX] at this;simp only[cn] at this;omega
  rw[d] at q;exact q l _ c au (a9 c)
 .have a:¬(0:Int) < (ps.length:Int):=a;have j:ps=[]:=List.length_eq_zero_iff.mp af;have d:ReelCalls.before ss (ps.map (·.2))=headBox ss:=by rw[j];rfl
  rw[d] at q;exact⟨_,O,r,dr,_,_,O,f,O,ls,ss,O,h,b.right,b.four,λl H1 c e1 g=>⟨l,headBody ss,HEAD,O,e1,bB (zK b.right b.four) aJ,λl2 H2 n2 k m=>q l2 H2 (g.free n2) k (g.trans m)⟩⟩
theorem l_ {l:List Info}(h:eX ss l):(ReelCalls.before ss l).length<=600:=by
 unfold ReelCalls.before;split
 .unfold headBox;rw[hV];have:=zK h.right h.four;omega
 .simp
inductive I_ (CL CS CP:Addr)(vs:List V)(H:Hp)(Q:VK)(_:XK):Prop
 | mk (out:List Addr) (r a ls lp:Addr) (ss:List LwReel.Stream) (ps:List (Addr×Info)) (p:LwReel.Part) (_:vs=[.ref r,.ref a]) (_:en CL CS CP out H r ls lp ss ps) (_:eX ss (ps.map (·.2))) (_:gj CP H a p 0) (_:ki (p.info 0)) (_:p.body.length<=600) (_:a∉ps.map (·.1)) (_:∀l H',H' l=some (.lst (bV (ReelCalls.before ss (ps.map (·.2))++LwReel.box PART p.body)))->H l=none->en CL CS CP out H' r ls lp ss (ps++[(a,p.info (cg ss (ps.map (·.2))))])->Kp [a,lp] H H'->Q (.ref l) H')
variable (tx:Fn K mg "put_part" x6 ["reel","part"])
variable (mX:aS P w K mg base ba 11 "put_part" ["reel","part"] (I_ CL CS CP))
include ag iS gy iy h7 tx in
theorem LN:type_of% mX:=by
 refine bJ tx ["reel","part","boxes"] ?_;rintro G H vs Q E m c ⟨out,r,a,ls,lp,ss,ps,p,rfl,R,d,e,n,I,o,q⟩ J M
 refine⟨_,aj (aW 2 m (aR dJ (aO h7 c (aB (pv 0))) (aO gy c (aF (aA ag.qC) (aO iS c (aB (pv 1)))))))
  (aj (bU (aO iy c (aF (pv 0) (pv 1)))) (aq (aI (pv 2)))),?_⟩
 refine cV ?_
 intros
 have N:p.bytes.length<=600:=by
  have:p.body.length=(LwReel.Part.front p).length+p.bytes.length:=by unfold LwReel.Part.body;rw[aP]
  omega
 refine⟨_,O,r,ss,ps,O,R.at_,d,λl1 H1 n1 e1 i=>⟨_,O,a,p,0,O,e.same i,n,af,λl2 H2 n2 s t=>⟨l2,p.body,PART,O,s,af,λl3 b n3 e3 u=>?_⟩⟩⟩;have j:ao H1 b:=t.trans u;have k:ao H b:=i.trans j;refine⟨l1,l3,_,_,O,O,j _ _ e1,e3,?_,λl4 n4=>?_⟩
 .rw[bu,bu,hV];have:=l_ d;exact bB (show _<=2000 by omega) aJ
 rw[<-eU];have l:ao b (ah b l4 (.lst (bV (ReelCalls.before ss (ps.map (·.2))++LwReel.box PART p.body)))):=a9 n4;have e4:ah b l4 (.lst (bV (ReelCalls.before ss (ps.map (·.2))++LwReel.box PART p.body))) l4=some (.lst (bV (ReelCalls.before ss (ps.map (·.2))++LwReel.box PART p.body))):=au;generalize ah b l4 (.lst (bV (ReelCalls.before ss (ps.map (·.2))++LwReel.box PART p.body)))=v at l e4;have f:ao H v:=k.trans l;have h:H l4=none:=k.free n4;have w:=e.same f;have x:=gj.info (pl:=0) w;refine⟨_,O,_,O,out,r,a,ls,lp,ss,ps,p.info 0,O,R.same f,d,x,o,λy A k5=>?_⟩;have C:l4≠a:=λz=>by obtain⟨dx,dl,g,_⟩:=e;rw[<-z,h] at g;cases g
 have D:l4≠lp:=λz=>by have:=R.cY;rw[<-z,h] at this;cases this
 exact⟨_,O,q l4 y (k5 _ _ e4 (by simp[C,D])) h A ((Kp.same f).trans k5)⟩
inductive Mw (CL CS CP:Addr)(vs:List V)(H:Hp)(Q:VK)(_:XK):Prop
 | mk (r:Addr) (ss:List LwReel.Stream) (ps:List (Addr×Info)) (_:vs=[.ref r]) (_:fO CL CS CP H r ss ps) (_:eX ss (ps.map (·.2))) (_:(∀n∈eb (ps.map (·.2)),n<2 ^ 64)) (_:Gives H Q (bV (ReelCalls.before ss (ps.map (·.2))++LwReel.box INDEX (indexBody (ps.map (·.2)) (cg ss (ps.map (·.2)))))))
variable (tE:Fn K mg "end_reel" xg ["reel"])
variable (nf:aS P w K mg base ba 10 "end_reel" ["reel"] (Mw CL CS CP))
include ag gy mu gr h7 tE in
theorem KY:type_of% nf:=by
 refine bJ tE ["reel"] ?_;rintro t H vs Q E u b ⟨r,ss,ps,rfl,c,a,j,q⟩ v w;refine⟨_,aq (aI (aR dJ (aO h7 b (aB (pv 0))) (aO gy b (aF (aA ag.oD) (aO mu b (aF (pv 0) (aO gr b (aB (pv 0))))))))),?_⟩;have e:=a.eH;rw[aX] at e;have k:∀p∈ps,p.2.stream<ss.length:=λp l=>(a.parts p.2 (i6 l)).2.st;refine⟨_,O,r,ss,ps,O,c,a,λl1 H1 n1 e1 d=>⟨_,O,_,O,r,ss,ps,O,c.same d,a,λH2 f=>?_⟩⟩;have m:=d.trans f;refine⟨r,ss,ps,_,O,c.same m,a.four,k,e,j,λl3 x n3 e3 n=>?_⟩
 have y:(indexBody (ps.map (·.2)) (cg ss (ps.map (·.2)))).length<=1000:=by
  rw[RM.uU,aP,aP,fK];have h1:=kQ (eb (ps.map (·.2)));have h2:=rH (ps.map (·.2));rw[aX] at h2;show _+(8+4)<=1000;omega
 refine⟨l3,_,INDEX,O,e3,af,λl4 g n4 e4 o=>?_⟩;have h:ao H1 g:=(f.trans n).trans o;have i:ao H g:=d.trans h;refine⟨l1,l4,_,_,O,O,h _ _ e1,e4,?_,λs n5=>?_⟩
 .rw[bu,bu,hV];have:=l_ a;exact bB (show _<=2000 by omega) aJ
 rw[<-eU];exact q s _ (i.free n5) au (i.trans (a9 n5))
abbrev eT (b:Bytes):Bytes:=b.drop (b.length - 16)
noncomputable def ry (b:Bytes):Prop:=b.length<48∨LwReel.same (((eT b).drop 8).take 4) (LwReel.MARK++[0x2E])=false∨b.length<ofLe ((eT b).take 8)+16∨ofLe ((eT b).take 8)+(MOST+16) <b.length
inductive L6 (vs:List V)(H:Hp)(Q:VK)(E:XK):Prop
 | mk (d:Addr) (b:Bytes) (_:vs=[.ref d]) (_:H d=some (.lst (bV b))) (_:b.length<=3000) (_:(¬ry b->∀H',ao H H'->Q (.int (ofLe ((eT b).take 8):Nat)) H')) (_:(ry b->∀H',ao H H'->E (-1) 0 H'))
theorem qq:c4 ["data","tail","place","back"] ["data"] (bL wj):=fL
variable (sP:Fn K mg "told_place" wj ["data"])
variable (d7:NX K mg CN)
variable (mC:aS P w K mg base (kA P w CN) 6 "told_place" ["data"] L6)
include ag iG eR sP d7 in
theorem Hy:type_of% mC:=by
 obtain⟨i,eR,p⟩:=eR;refine sP.tD (k:=5) qq (λvs H Q E h=>?_) (λf bc A outer s0 H vs Q E r h=>?_)
 .obtain⟨d,b,rfl,_⟩:=h;rfl
 .obtain⟨d,b,rfl,hd,N,y,j⟩:=h
  refine⟨_,aj (aZ (aY fM (bX ag (pv 0)) (aA ag.MI)) (aq (k7 d7 O O iu)) a7)
   (aj (aW 1 qq.nd (aR d_ (bX ag (pv 0)) (aA ag.Kj)))
   (aj (aZ (aY (DJ r.units) (ke j8 (pv 0) (fo (aR cJ (pv 1) (aA ag.nD))) (fo (aR cJ (aR cJ (pv 1) (aA ag.nD)) (bX ag (lr (v:= .ref i) O eR O)))))
    (ra rB (by rfl) ag.rD rn (aB (lr (v:= .ref i) O eR O)))) (aq (k7 d7 O O iu)) a7)
   (aj (aW 2 qq.nd (aO iG r (a_ (pv 0) (aF (pv 1) (aA ag.nD)))))
   (aj (aW 3 qq.nd (aR d_ (bX ag (pv 0)) (pv 2)))
   (aj (aZ (PW.pt (gp (aY fM (pv 3) (aA ag.ri)) (gu (aY cQ (pv 3) (aR cJ (aA ag.ri) (aA ag.s9)))))) (aq (k7 d7 O O iu)) a7)
   (aq (aI (pv 2)))))))),?_⟩
  refine pk ?_
  intros
  have m:=bu b;refine⟨_,O,d,_,O,.inl (ay.of hd),_,_,O,O,_,O,?_⟩;rw[m];refine bS (λc=>?_) λc=>?_
  .have c:(b.length:Int) <48:=c;exact j (.inl af) H (ao.refl _)
  have c:¬(b.length:Int) <48:=c;refine⟨_,O,d,_,O,.inl (ay.of hd),_,_,O,O,?_⟩;rw[m];have C:(b.length:Int) - 16=((b.length - 16:Nat):Int):=af
  (try dsimp only)
  rw[C];generalize s:b.length - 16=T at*;refine⟨_,O,_,O,_,_,O,O,_,O,_,O,_,_,O,O,i,_,O,.inr (p _),_,_,O,O,_,O,d,_,O,ay.of hd,λl1 n1=>?_⟩;have e1:(T:Int)+8=((T+8:Nat):Int):=af
  have D:(T:Int)+8+(([V.int 76,V.int 119,V.int 142,V.int 46]:List V).length:Int)=((T+8+4:Nat):Int):=by
   show(T:Int)+8+4=_;omega
  (try dsimp only)
  rw[D,e1,o9 af af];have t:ao H (ah H l1 (.lst (bV ((b.take (T+8+4)).drop (T+8))))):=a9 n1;have u:ah H l1 (.lst (bV ((b.take (T+8+4)).drop (T+8)))) l1=some (.lst (bV ((b.take (T+8+4)).drop (T+8)))):=au;generalize ah H l1 (.lst (bV ((b.take (T+8+4)).drop (T+8))))=H1 at t u;refine⟨i,_,O,.inr (p _),λl2 n2=>?_⟩;rw[A9];have n:ao H1 (ah H1 l2 (.lst (bV (LwReel.MARK++[0x2E])))):=a9 n2;have w:ah H1 l2 (.lst (bV (LwReel.MARK++[0x2E]))) l2=some (.lst (bV (LwReel.MARK++[0x2E]))):=au;generalize ah H1 l2 (.lst (bV (LwReel.MARK++[0x2E])))=H2 at n w;have a:ao H H2:=t.trans n;refine⟨.list (bD ((b.take (T+8+4)).drop (T+8))),.list (bD (LwReel.MARK++[0x2E])),.lst (ay.of (n _ _ u)) (pf _ _),.lst (ay.of w) (pf _ _),pq _,pq _,_,O,?_⟩;rw[y0]
  have G:(b.take (T+8+4)).drop (T+8)=((eT b).drop 8).take 4:=by
   rw[iB,show eT b=b.drop T from by rw[<-s],fv];congr 1;omega
  rw[G];have x:LwReel.same (((eT b).drop 8).take 4) (LwReel.MARK++[0x2E])=decide (((eT b).drop 8).take 4=LwReel.MARK++[0x2E]):=RM.rx;refine kl (λo=>?_) λo=>?_
  .exact j (.inr (.inl (by rw[x];exact dC o))) H2 a
  refine⟨_,O,_,O,d,b,T,8,O,a.seq (ay.of hd),af,aJ,?_⟩;have I:(b.drop T).take 8=(eT b).take 8:=by rw[show eT b=b.drop T from by rw[<-s]]
  rw[I];generalize l:ofLe ((eT b).take 8)=pl at*;refine⟨_,O,d,_,O,.inl (a.seq (ay.of hd)),_,O,_,_,O,O,?_⟩;rw[m];refine⟨_,O,_,_,O,O,_,O,?_⟩;have J:b.length<pl+16->E (-1) 0 H2:=λz=>j (.inr (.inr (.inl (by rw[l];exact z)))) H2 a;have M:pl+(MOST+16) <b.length->E (-1) 0 H2:=λz=>j (.inr (.inr (.inr (by rw[l];exact z)))) H2 a;refine bS (λe=>?_) λe=>?_
  .have e:(b.length:Int) - (pl:Int) <16:=e;exact gR (J af)
  have e:¬(b.length:Int) - (pl:Int) <16:=e;refine⟨_,O,_,_,O,O,_,_,O,O,_,O,bS (λg=>?_) λg=>?_⟩
  .have g:(16:Int)+600< (b.length:Int) - (pl:Int):=g;exact M (by rw[show MOST=600 from O];omega)
  have g:¬(16:Int)+600< (b.length:Int) - (pl:Int):=g;refine⟨_,O,y ?_ H2 a⟩;rintro(z | z | z | z)
  .omega
  .rw[x,cR o] at z;cases z
  .rw[l] at z;omega
  .rw[l,show MOST=600 from O] at z;omega
inductive Ds (CB:Addr)(vs:List V)(H:Hp)(Q:VK)(E:XK):Prop
 | mk (d:Addr) (b:Bytes) (p:Nat) (kd:UInt8) (_:vs=[.ref d,.int (p:Int),.int (kd.toNat:Int)]) (_:H d=some (.lst (bV b))) (_:p<=b.length) (_:b.length<=3000) (_:(∀k body pl bo H',boxAt b p (λc=>c==kd)= .whole k body (p+16+body.length)->H bo=none->H pl=none->bj CB H' bo ⟨d,b,p+12,p+12+body.length,pl,[],0⟩->(BS.X ⟨d,b,p+12,p+12+body.length,pl,[],0⟩).drop (p+12)=body->ao H H'->Q (.ref bo) H')) (_:((∀k body n,boxAt b p (λc=>c==kd)≠ .whole k body n)->∀(k q:Int) H',ao H H'->E k q H'))
theorem yR:c4 ["data","place","kind","body"] ["data","place","kind"] (bL uj):=fL
theorem Kb (a c:UInt8):(c==a)=decide ((c.toNat:Int)∈([(a.toNat:Int)]:List Int)):=by
 rw[eI,fX,cb,md];exact⟨λz=>by rw[z],λz=>UInt8.toNat_inj.mp af⟩
variable (tf:Fn K mg "checked_body" uj ["data","place","kind"])
variable (lg:aS P w K mg base (hH P w CF CN) 9 "checked_body" ["data","place","kind"] (Ds CB))
include gI iC iw d7 tf in
theorem Lz:type_of% lg:=by
 refine tf.JA (k:=8) yR (λvs H Q E h=>?_) (λf bc A outer s0 H vs Q E l h=>?_)
 .obtain⟨d,b,p,a,rfl,_⟩:=h;rfl
 .obtain⟨d,b,p,a,rfl,hd,s,u,G,m⟩:=h
  refine⟨_,aj (bU (bI gI yy l (a_ (pv 0) (aF (pv 1) (lS (aB (pv 2)))))))
   (aj (aW 3 yR.nd (aO iC l (aF (pv 0) (pv 1))))
   (aj (aZ (kn (oa (pv 3))) (aq (k7 d7 O O Eu)) a7)
   (aj (bU (bI iw yy l (aB (pv 3))))
   (aq (aI (pv 3)))))),?_⟩
  refine hJ ?_
  intros
  have b':(b.drop p).length=b.length - p:=bQ;refine⟨_,O,_,O,_,O,(by show 1<=sizeLine;decide),λt I=>?_⟩;have g:ao H (ah H t (.tup [.int (a.toNat:Int)])):=a9 I;have v:ah H t (.tup [.int (a.toNat:Int)]) t=some (.tup [.int (a.toNat:Int)]):=au;generalize ah H t (.tup [.int (a.toNat:Int)])=H1 at g v;refine⟨d,t,b,p,[(a.toNat:Int)],(λc=>c==a),O,g.seq (ay.of hd),cI.of v,s,u,Kb a,λH2 n o=>?_,λk q H2 n o=>m (RM.va (.inl (by rw[n];simp))) _ _ H2 (g.trans o)⟩;have e:=g.trans o;refine⟨_,O,_,O,d,b,p,O,e _ _ hd,s,u,λJ=>?_,λM N bo pl e' nb T w U=>?_⟩
  .refine⟨_,O,_,O,bS (λ_=>?_) λz=>absurd O z⟩;exact m (RM.va (by rcases J with z | z;exact .inr (.inl z);exact .inr (.inr (.inl z)))) _ _ H2 e
  .have x:=e.trans U;refine⟨_,O,_,O,bS (λz=>by cases z) λ_=>?_⟩;generalize i:lengthOf (b.drop p)=L at*
   have y:((b.drop p).drop 12).take L=(BS.X ⟨d,b,p+12,p+12+L,pl,[],0⟩).drop (p+12):=by
    unfold BS.X;rw[fv,iB,s6]
   have Y:(((b.drop p).drop 12).take L).length=L:=by rw[cF,bQ];omega
   have C:LwReel.same (crc (((b.drop p).drop 12).take L)) (((b.drop p).drop (12+L)).take 4)=decide (eG ((BS.X ⟨d,b,p+12,p+12+L,pl,[],0⟩).drop (p+12))=ofLe ((b.drop (p+12+L)).take 4)):=by
    rw[RM.qA (by rw[cF,bQ];omega),y,fv,pB]
   refine⟨_,O,bo,_,O,w,by show p+12+L+4<=b.length;omega,λr hc j=>?_,λr hc j=>m (RM.va (.inr (.inr (.inr (by rw[i,C];exact dC hc))))) _ _ r (x.trans j)⟩;refine⟨_,O,?_⟩;obtain⟨k,hk,D⟩:=RM.GU n M (by rw[i];exact N) (by rw[i,C];exact cR hc);rw[i] at D;generalize f':((b.drop p).drop 12).take L=body at*;subst Y;exact G k body pl bo r D (e.free nb) (e.free T) (w.same j) y.symm (x.trans j)
inductive F6 (CL CS CP:Addr)(vs:List V)(H:Hp)(Q:VK)(E:XK):Prop
 | mk (out:List Addr) (r lq ls lp:Addr) (ss:List LwReel.Stream) (qs:List (Addr×Info)) (_:vs=[.ref r,.ref lq]) (_:en CL CS CP out H r ls lp ss []) (_:eX ss (qs.map (·.2))) (_:H lq=some (.lst (qs.map λp=>V.ref p.1))) (_:lq≠lp) (_:(∀p∈qs,dD CP H p.1 p.2)) (_:(qs.map (·.1)).Nodup) (_:(∀ps H',fA ss [] (qs.map (·.2))=some (ps.map (·.2))->ps.map (·.1)=qs.map (·.1)->eX ss (ps.map (·.2))->en CL CS CP out H' r ls lp ss ps->Kp (lp::qs.map (·.1)) H H'->Q .aE H')) (_:(fA ss [] (qs.map (·.2))=none->∀H',Kp (lp::qs.map (·.1)) H H'->E (-1) 0 H'))
theorem y9:c4 ["reel","parts","part"] ["reel","parts"] (bL vo):=fL
variable (r9:Fn K mg "add_parts_in_order" vo ["reel","parts"])
variable (nM:aS P w K mg base (kA P w CN) 11 "add_parts_in_order" ["reel","parts"] (F6 CL CS CP))
include ag gm iy d7 r9 in
theorem Hd:type_of% nM:=by
 refine r9.tD (k:=10) y9 (λvs H Q E h=>?_) (λf bc A outer s0 H vs Q E I h=>?_)
 .obtain⟨out,r,l,ls,lp,ss,b,rfl,_⟩:=h;rfl
 .obtain⟨out,r,l,ls,lp,ss,b,rfl,R,d,J,Y,b',M,e',f'⟩:=h
  refine⟨_,aq (fc j5 O (fF (pv 1)) (dc 2 y9.nd)
   (aj (aZ (aY ky (aO gm I (aF (pv 0) (pv 2))) (aA ag.qS)) (aq (k7 d7 O O iu)) a7)
   (aq (bU (aO iy I (aF (pv 0) (pv 2))))))),?_⟩
  have i':=d.eH;rw[aX] at i'
  refine⟨_,O,l,O,⟨_,ay.of J⟩,kg (K:=K) (a:=l) (xs:=b.map λp=>V.ref p.1) (λi σ H'=>(∃D,σ=[some (.ref r),some (.ref l),D])/\H' l=some (.lst (b.map λp=>V.ref p.1))/\∃ps:List (Addr×Info),en CL CS CP out H' r ls lp ss ps/\ps.map (·.1)=(b.take i).map (·.1)/\
   eX ss (ps.map (·.2))/\fA ss [] (b.map (·.2))=fA ss (ps.map (·.2)) ((b.drop i).map (·.2))/\(∀p∈b.drop i,dD CP H' p.1 p.2)/\Kp (lp::b.map (·.1)) H H') ⟨⟨none,O⟩,J,[],R,O,⟨d.right,d.one,d.four,λx hx=>(by cases hx),b3 _⟩,rfl,b',Kp.refl⟩ (λi σ H' _ e=>ay.of e.2.1) ?_ ?_⟩
  .rintro i y σ H1 hy ⟨⟨D,rfl⟩,h1,ps,o,m,s,t,hrest,k1⟩;rw[dk] at hy;obtain⟨p,v,rfl⟩:=Option.map_eq_some_iff.mp hy;have N:=fx v;have u':i<b.length:=(List.getElem?_eq_some_iff.mp v).1;have u:b.drop i=p::b.drop (i+1):=RM.lD v;have hx:=hrest p (by rw[u];exact cq);have j:=d.parts p.2 (i6 N)
   have v':ps.length=i:=by
    have:=da List.length m;rw[aX,aX,cF] at this;omega
   rw[u,gZ] at t;have w:fA ss [] (b.map (·.2))=if(disorder ss (ps.map (·.2)) p.2.stream p.2.time p.2.flags).isSome=true then none else fA ss (ps.map (·.2)++[{p.2 with place:=cg ss (ps.map (·.2))}]) ((b.drop (i+1)).map (·.2)):=t
   refine⟨_,O,_,O,r,p.1,ss,ps,p.2,O,o.at_,Ct d.right,λx hx=>(s.parts x.2 (i6 hx)).2,af,hx,j.2,λH2 n=>⟨O,_,O,kq (λG=>?_) λG=>?_⟩⟩
   .have:(disorder ss (ps.map (·.2)) p.2.stream p.2.time p.2.flags).isSome=true:=by
     cases e:disorder ss (ps.map (·.2)) p.2.stream p.2.time p.2.flags with
     | none=>exact absurd (vP.mpr e) G
     | some i=>rfl
    rw[az this] at w;exact f' w H2 (k1.trans (Kp.same n))
   .have j':=vP.mp G;rw[ar (by rw[j'];decide)] at w
    have k':p.1∉ps.map (·.1):=by
     rw[m];intro z;have C:=List.nodup_append.mp (by rw[<-cj,kW];exact M:((b.take i).map (·.1)++(b.drop i).map (·.1)).Nodup);exact C.2.2 _ z _ (by rw[u];simp) O
    refine⟨_,O,_,O,out,r,p.1,ls,lp,ss,ps,p.2,O,o.same n,s,hx.same n,k',λl' m' k3=>?_⟩;have p':p.1≠l:=hx.jL h1 (λ_ _ _ _ _ _ _ _=>by intro z;cases z)
    have kk:Kp (lp::b.map (·.1)) H l':=(k1.trans (Kp.same n)).trans (k3.mono λc hc=>by
     rcases List.mem_cons.mp hc with z | z
     .rw[z];exact dw _ (i6 N)
     .rw[List.mem_singleton.mp z];exact cq)
    refine⟨⟨some (.ref p.1),O⟩,k3 _ _ (n _ _ h1) (by simp[p'.symm,Y]),ps++[(p.1,{p.2 with place:=cg ss (ps.map (·.2))})],m',?_,?_,?_,λx T=>?_,kk⟩
    .rw[cj,m,RM.take_snoc v,cj];rfl
    .refine⟨d.right,d.one,d.four,λx hx=>?_,?_⟩
     .rw[cj] at hx;rcases List.mem_append.mp hx with z | z
      .exact s.parts x z
      .simp only[gZ,qP,md] at z;rw[z];exact⟨⟨j.1.st,j.1.tm,j.1.ln,j.1.fl⟩,j.2.st,j.2.tm,j.2.fl⟩
     .rw[aX,aP];simp only[bA,cn];omega
    .rw[w,cj];rfl
    .have U:=hrest x (by rw[u];exact dw _ T);obtain⟨dx,dl,g⟩:=U.same n
     have q':x.1≠p.1:=by
      have C:((b.drop i).map (·.1)).Nodup:=(List.nodup_append.mp (by rw[<-cj,kW];exact M:((b.take i).map (·.1)++(b.drop i).map (·.1)).Nodup)).2.1;rw[u,gZ,List.nodup_cons] at C;exact λz=>C.1 (by rw[<-z];exact i6 T)
     have r':x.1≠lp:=U.jL o.cY (λ_ _ _ _ _ _ _ _=>by intro z;cases z);exact⟨dx,dl,k3 _ _ g (by simp[q',r'])⟩
  .rintro σ H1 ⟨⟨D,rfl⟩,h1,ps,o,m,s,t,hrest,k1⟩;rw[aX,gM] at m;rw[aX,vH] at t;exact e' ps H1 t m s o k1
theorem jM.B5 (h:jM CS H0 H l ss)(ha:∀c∈be,H c=none∨H0 c≠none):dO CS be H l ss:=by
 obtain⟨as,h1,g,h2,j⟩:=h
 have off:∀{e:Addr} {o:HO},H e=some o->H0 e=none->e∉be:=λ{e o} he k z=>by
  rcases ha e z with y | y
  .rw[y] at he;cases he
  .exact y k
 refine⟨as,h1,off h1 g,h2,λi a x e1 p=>?_⟩;obtain⟨dx,n,m,b,d,f,r,s,t⟩:=j i a x e1 p;exact⟨dx,n,m,b,d,f,off b r,off d s,off f t⟩
theorem dO.mono (h:dO CS be H l ss)(hs:∀c∈q5,c∈be):dO CS q5 H l ss:=by
 obtain⟨as,h1,g,h2,b⟩:=h;refine⟨as,h1,λz=>g (hs _ z),h2,λi a x e1 d=>?_⟩;obtain⟨dx,n,m,e,f,j,k,o,p⟩:=b i a x e1 d;exact⟨dx,n,m,e,f,j,λz=>k (hs _ z),λz=>o (hs _ z),λz=>p (hs _ z)⟩
theorem Jq {x:Info}(h:RM.oW n x)(b:n<=4):ki x/\hD n x:=by
 have a:=kr.mp h.tm;have h1:=h.st;have h2:=h.ln;have c:=h.fl;refine⟨⟨af,m4 (RM.Jn af af) aJ,af,af⟩,h.st,a,af⟩
inductive EC (CL CS CP:Addr)(vs:List V)(H:Hp)(Q:VK)(E:XK):Prop
 | mk (out:List Addr) (d:Addr) (b:Bytes) (_:vs=[.ref d]) (_:(∀c∈out,H c≠none)) (_:H d=some (.lst (bV b))) (_:b.length<=3000) (_:(∀r ls lp ss ps H',gK b=some (ss,ps.map (·.2))->en CL CS CP out H' r ls lp ss ps->eX ss (ps.map (·.2))->ao H H'->(∀c∈r::lp::ps.map (·.1),H c=none)->Q (.ref r) H')) (_:(gK b=none->∀H',ao H H'->E (-1) 0 H'))
theorem lu:c4 ["data","place","head","index","reel","parts","fault"] ["data"] (bL vh):=fL
theorem zk {body:Bytes}{k:UInt8}(h:boxAt b 0 (λc=>c==HEAD)= .whole k body n):headOf b=match LwReel.run rHead body 0 with
 | .ok l=>some l
 | .error _=>none:=by
 unfold headOf;rw[h];rfl
theorem uo (h:∀k body n,boxAt b 0 (λc=>c==HEAD)≠ .whole k body n):headOf b=none:=by
 unfold headOf;split
 .rename_i e;exact absurd e (h _ _ _)
 .rfl
theorem Gu (h:ry b):gK b=none:=by
 unfold gK;exact az h
theorem D2 (h:¬ry b):gK b=match headOf b,boxAt b (ofLe ((eT b).take 8)) (λ(k:UInt8)=>k==INDEX) with
 | some l,.whole _ body next=>if next≠b.length then none else match LwReel.run (rForm l.length) body (ofLe ((eT b).take 8)+12) with
  | .error _=>none
  | .ok (ps,_)=>match fA l [] ps with
   | none=>none
   | some a=>if cg l a=ofLe ((eT b).take 8) then some (l,a) else none
 | _,_=>none:=by
 unfold gK;exact ar h
variable (vA:Fn K mg "known_by_end" vh ["data"])
variable (sU:CN≠CF)
variable (mf:aS P w K mg base (kA P w CN) 12 "known_by_end" ["data"] (EC CL CS CP))
include ag aM bf ir bG ey iE gr d7 mC lg nM vA sU in
theorem FJ:type_of% mf:=by
 refine vA.tD (k:=11) lu (λvs H Q E h=>?_) (λf bc A outer s0 H vs Q E r h=>?_)
 .obtain⟨out,d,b,rfl,_⟩:=h;rfl
 .obtain⟨out,d,b,rfl,_l,hd,q',_m,L'⟩:=h
  refine⟨_,aj (aW 1 lu.nd (vI mC iu (r.mono aJ) O (aB (pv 0))))
   (aj (K3 (i:=6) bf d7 sU O O lu.nd O O O O iu (λe pn=>pv 6)
    (λxe pn hx M' _n=>aj (aW 2 lu.nd (Cr lg hx M' (r.mono aJ) O (a_ (pv 0) (aF aL (aA ag.qD)))))
     (aj (aW 3 lu.nd (Cr lg hx M' (r.mono aJ) O (a_ (pv 0) (aF (pv 1) (aA ag.oD)))))
     (aj (aW 4 lu.nd (dj ey r (aB (bI ir hx r (aB (pv 2))))))
     (aq (aW 5 lu.nd (bI iE hx r (aF (pv 3) (aw bG (pv 4))))))))))
   (aj (aZ (aY ky (aR cJ (aw aM (pv 3)) (aA ag.kZ)) (bX ag (pv 0))) (aq (k7 d7 O O iu)) a7)
   (aj (bU (vI nM iu (r.mono aJ) O (aF (pv 4) (pv 5))))
   (aj (aZ (aY ky (aO gr r (aB (pv 4))) (pv 1)) (aq (k7 d7 O O iu)) a7)
   (aq (aI (pv 4))))))),?_⟩
  refine gA ?_
  intros
  refine⟨_,O,d,b,O,hd,q',λN' H1 u=>?_,λr' H1 u=>L' (Gu r') H1 u⟩;have a:=D2 N'
  have ac':ofLe ((eT b).take 8)+16<=b.length:=by
   refine w1 λz=>N' (.inr (.inr (.inl af)))
  generalize ad':ofLe ((eT b).take 8)=pl at*;have bad:∀{H':Hp},gK b=none->ao H H'->E (-1) 0 H':=λz s=>L' z _ s;refine⟨_,O,d,b,0,HEAD,O,u _ _ hd,b3 _,q',λk1 u' p1 v' H2 _o _p _q w' O' y'=>?_,λz' k q H2 y'=>?_⟩
  rotate_left
  .refine bad ?_ (u.trans y');rw[a,uo z']
  have I:ao H H2:=u.trans y';have P':=zk _o;refine⟨_,O,_,O,d,b,pl,INDEX,O,I _ _ hd,af,q',λk2 J p2 j w _r R' S' m T' i'=>?_,λz' k q w i'=>?_⟩
  rotate_left
  .refine bad ?_ (I.trans i');rw[a]
   cases headOf b with
   | none=>rfl
   | some l=>
    cases e:boxAt b pl (λ(k:UInt8)=>k==INDEX) with
    | more=>rfl
    | fault _ _=>rfl
    | whole k body n=>exact absurd e (z' _ _ _)
  have A':ao H w:=I.trans i';have _s:=w'.same i';rw[_r] at a;have B':H v'=none:=u.free _p;have C':H p1=none:=u.free _q;have U':H j=none:=I.free R';have V':H p2=none:=I.free S';have W':∀{c:Addr},H2 c=none->c≠v'/\c≠p1:=λ{c} hc=>⟨λz=>(by obtain⟨dx,r'⟩:=w'.ins;rw[z,r'] at hc;cases hc),λz=>(by have:=w'.bH;rw[<-z,hc] at this;cases this)⟩;refine⟨_,O,v',_,O,_s,b3 _,λss ae' af' t v j' ag' ah' _n M _t=>?_,λk q t he hs M=>?_⟩
  rotate_left
  .have he:rHead ⟨(BS.X ⟨d,b,0+12,0+12+u'.length,p1,[],0⟩).drop (0+12),0+12⟩= .error (k,q):=he;rw[O'] at he
   have _u:headOf b=none:=by
    rw[P']
    cases e:LwReel.run rHead u' 0 with
    | error _=>rfl
    | ok l=>
     have:=RM.oj RM.sN e 12;rw[h_ he] at this;cases this
   refine bad ?_ λc o hc=>M c o (A' c o hc) (a6 hc B') (a6 hc C');rw[a,_u]
  obtain⟨ls,rfl,_v⟩:=_t;have j':rHead ⟨(BS.X ⟨d,b,0+12,0+12+u'.length,p1,[],0⟩).drop (0+12),0+12⟩= .ok (ss,_):=j';rw[O'] at j';have X':=RM.oj RM.sN (lR j') 0;have _w:headOf b=some ss:=by rw[P',X']
  rw[_w] at a;have C:=RM.vk X';have D':ao H t:=λc o hc=>M c o (A' c o hc) (a6 hc B') (a6 hc C');have Y':∀{c:Addr} {o:HO},H2 c=none->w c=some o->t c=some o:=λN hc=>M _ _ hc (W' N).1 (W' N).2;have _x:=a6 hd B';have _y:=a6 hd C';have T:bj CB t j ⟨d,b,pl+12,pl+12+J.length,p2,[],0⟩:=⟨let ⟨dx,z⟩:=m.ins;⟨dx,Y' R' z⟩,Y' S' m.bH,M _ _ m.dat _x _y,m.ne,m.le,m.el,m.cZ⟩;intro x dx nx Z' ai';refine⟨x,dx,ls,O,au,λlp k' _z E' _a _b keep=>⟨O,?_⟩⟩;have F':ao t k':=ao.made nx Z' keep
  have U:t lp=none:=by
   rw[ak _z] at E';by_cases z:lp=dx
   .rw[z];exact Z'
   .rw[ak z] at E';exact E'
  have G':ao H k':=D'.trans F';have _A:=T.same F';have _B:jM CS w t ls ss:=_v;have _C:w j≠none:=by obtain⟨_c,g⟩:=m.ins;rw[g];simp
  have _D:w p2≠none:=by
   have:w p2=some (.lst (([]:List Int).map V.int)):=m.bH;rw[this];simp
  have _E:dO CS (x::lp::j::p2::out) t ls ss:=_B.B5 λc hc=>by
   simp only[ed] at hc;rcases hc with rfl | rfl | rfl | rfl | hc
   .exact .inl nx
   .exact .inl U
   .exact .inr _C
   .exact .inr _D
   .exact .inr (λz=>_l c hc (A'.free z))
  have _d:dO CS (x::lp::j::p2::out) k' ls ss:=_E.kp (Kp.same F');obtain⟨as,_F,_,l',_⟩:=id _d;have _G:x≠j:=λz=>by obtain⟨_c,g⟩:=T.ins;rw[z,g] at nx;cases nx
  have _H:x≠p2:=λz=>by have:=T.bH;rw[<-z,nx] at this;cases this
  have _I:lp≠j:=λz=>by obtain⟨_c,g⟩:=T.ins;rw[z,g] at U;cases U
  have _J:lp≠p2:=λz=>by have:=T.bH;rw[<-z,U] at this;cases this
  refine⟨_,O,_,O,x,dx,_,_,O,_a,O,j,ls,_,as.map V.ref,O,_A,b3 _,ay.of _F,by rw[aX,l'];exact C.1,by rw[aX,l'];exact C.2.1,λl _K aj' ak' _e m' Y D _L G b' p' _M=>?_,λk q Y he hs G=>?_⟩
  rotate_left
  .rw[aX,l'] at he;have he:LwReel.run (rForm ss.length) ((BS.X ⟨d,b,pl+12,pl+12+J.length,p2,[],0⟩).drop (pl+12)) (pl+12)= .error (k,q):=he;rw[T'] at he;refine bad ?_ λc o hc=>G c o (G' c o hc) (a6 hc U') (a6 hc V');rw[a]
   (try dsimp only)
   rw[he];split<;>rfl
  rw[aX,l'] at D _M;have D:LwReel.run (rForm ss.length) ((BS.X ⟨d,b,pl+12,pl+12+J.length,p2,[],0⟩).drop (pl+12)) (pl+12)= .ok (l,_K):=D;rw[T'] at D;have I':ao H Y:=λc o hc=>G c o (G' c o hc) (a6 hc U') (a6 hc V');obtain⟨aG,_N⟩:=RM.Hm D;obtain⟨_O,_P⟩:=_L.ins;refine⟨_,O,j,_O,_,_,O,_P,O,_,_,O,O,_,O,d,_,O,.inl (ay.of (I' _ _ hd)),O,_,O,?_⟩;rw[bu];refine kq (λg=>?_) λg=>?_
  .have g:((pl+12+J.length:Nat):Int)+4≠(b.length:Int):=g;refine bad ?_ I';rw[a]
   (try dsimp only)
   rw[az af]
  have g:((pl+12+J.length:Nat):Int)+4=(b.length:Int):=g
  (try dsimp only at a)
  rw[ar af,D] at a;have _Q:=G _ _ _a _G _H;have _R:=G _ _ _b _I _J;have _S:dO CS (x::lp::j::p2::out) Y ls ss:=_d.kp λc o hc N=>G c o hc (λz=>N (by rw[z];simp)) (λz=>N (by rw[z];simp));have _T:en CL CS CP out Y x ls lp ss []:=⟨⟨dx,_Q⟩,_S.mono (by intro c hc;simp only[ed] at hc ⊢;rcases hc with z | z | z;exact .inl z;exact .inr (.inl z);exact .inr (.inr (.inr (.inr z)))),_R,λp e'=>by cases e'⟩;have _U:eX ss (m'.map (·.2)):=⟨C.2.2,C.1,C.2.1,λy hy=>Jq (aG y (by rw[<-p'];exact hy)) C.2.1,by rw[p'];exact _N⟩;have _V:_e≠lp:=λz=>by have:=b'.new;rw[z,_b] at this;cases this
  have _W:∀{c:Addr},k' c=none->H c=none:=λhc=>G'.free hc
  have _f:∀c∈lp::m'.map (·.1),H c=none:=λc hc=>by
   rcases List.mem_cons.mp hc with z | z
   .rw[z];exact D'.free U
   .obtain⟨p,e',rfl⟩:=List.mem_map.mp z;exact _W (b'.each p e').2
  have _g:∀{J':Hp},Kp (lp::m'.map (·.1)) Y J'->ao H J':=λ{J'} kx c o hc=>kx c o (I' c o hc) λz=>by rw[_f c z] at hc;cases hc
  refine⟨_,O,_,O,out,x,_e,ls,lp,ss,m',O,_T,_U,b'.lst,_V,λp e'=>(b'.each p e').1,b'.nd,λps _X f' _Y _h _i K'=>?_,λf' _X K'=>?_⟩
  rotate_left
  .refine bad ?_ (_g K');rw[p'] at f';rw[a]
   (try dsimp only)
   rw[f']
  rw[p'] at f'
  (try dsimp only at a)
  rw[f'] at a;have _Z:=_g K';refine⟨_,O,x,ss,ps,O,_i.at_,_h,λaa' _j=>?_⟩;have _k:=_Z.trans _j;refine⟨_,O,O,_,O,?_⟩
  (try dsimp only at a)
  refine kq (λab'=>?_) λab'=>?_
  .refine bad ?_ _k;rw[a,ar af]
  .rw[az af] at a
   exact⟨_,O,_m x ls lp ss ps aa' a (_i.same _j) _h _k λc hc=>(by
    rcases List.mem_cons.mp hc with z | z
    .rw[z];exact D'.free nx
    .exact _f c (by rw[<-_Y];exact z))⟩
theorem L9 {K:Frag}{xs:List V}{g:TG}{tb:TS}(Pv:Nat->L2.St->Hp->Prop)(h:Pv 0 σ H)(j:∀i σ H,i<=xs.length->Pv i σ H->ay K H a xs)(hs:∀i x σ H T,xs[i]?=some x->Pv i σ H->H T=none->g (.ref T) σ (ah H T (.tup [.int (i:Nat),x])) λb H2=>tb {D with nx:=Pv (i+1),ct:=Pv (i+1),bk:=D.nx} b H2)(hd:∀σ H,Pv xs.length σ H->D.nx σ H):
 ∃W:Nat->Nat->L2.St->Hp->Prop,(∃m,W 0 m σ H)/\∀i m σ H,W i m σ H->
  ((ot K a).stop i H/\D.nx σ H)∨((ot K a).go i H/\∃N:L2.St->Hp->Prop,(∀c H',N c H'->∃d,d<m/\W (i+1) d c H')/\∀x H',(ot K a).iD i H x H'->g x σ H' λb H2=>tb {D with nx:=N,ct:=N,bk:=D.nx} b H2):=by
 refine⟨λi m σ H=>m=xs.length - i/\i<=xs.length/\Pv i σ H,⟨xs.length,by simp,b3 _,h⟩,?_⟩;rintro i m σ H ⟨rfl,hi,p⟩;have q:=j i σ H hi p;by_cases f:i<xs.length
 .refine .inr ⟨⟨xs,xs[i],q,by simp[f]⟩,Pv (i+1),λc H' k=>⟨xs.length - (i+1),af,O,f,k⟩,λx H' y=>?_⟩;obtain⟨T,z,rfl,l,rfl,y⟩:=y;exact hs i z σ H T (y xs q) p l
 .have e:i=xs.length:=af;subst e;exact .inl ⟨⟨xs,q,bY _⟩,hd σ H p⟩
noncomputable def ll (o:Option Nat):Int:=match o with
 | some i=>(i:Int)
 | none=> -1
inductive Ig (CP:Addr)(vs:List V)(H:Hp)(Q:VK)(_:XK):Prop
 | mk (l:Addr) (ps:List (Addr×Info)) (s:Nat) (t:Int) (_:vs=[.ref l,.int (s:Int),.int t]) (_:mJ CP H l ps) (_:qo H Q (.int (ll (LwReel.seek (ps.map (·.2)) s t))))
theorem tT {o:Option Nat}:ll o= -1↔o=none:=by
 cases o with
 | none=>simp[ll]
 | some i=>simp only[ll];constructor<;>intro h<;>first | omega | cases h
theorem L4 (f:Nat):decide ((0:Int) <Builtin.bitAnd (f:Int) 1)=isKey f:=by
 rw[eI,cb,q_,isKey,fX];omega
variable (wa:Fn K mg "found_number" Bs ["parts","stream","time"])
variable (mG:aS P w K mg base ba 5 "found_number" ["parts","stream","time"] (Ig CP))
include ag bh wa in
theorem Kt:type_of% mG:=by
 refine bJ wa ["parts","stream","time","found","k","part","fits"] ?_;rintro U H vs Q E d Y ⟨l,ps,s,t,rfl,h,q⟩ b' e'
 refine⟨_,aj (aW 3 d (aA ag.wc))
  (aj (fc fE O (Ls (by rfl) ag.Jg (aB (pv 0))) (Ip O (yN (dc 4 d) (yN (dc 5 d) DM)))
   (aq (aZ (aY bW (aw bh (pv 5)) (pv 1))
    (aj (aW 6 d (I8 (hU cQ (aR j6 (aw bh (pv 5)) (aA ag.zQ)) aL (hI _)) (Ir (hU uI (aw bh (pv 5)) (pv 2) (hI _)))))
    (aq (aZ (PW.pt (gp (d2 (pv 6)) (gu (aY bW (pv 3) (aA ag.wc))))) (aq (aW 3 d (pv 4))) a7))) a7)))
  (aq (aI (pv 3)))),?_⟩
 refine cV ?_
 intros
 refine⟨_,O,l,_,O,ay.of h.1,L9 (K:=K) (a:=l) (xs:=ps.map λp=>V.ref p.1) (λi σ H'=>(∃k m n,σ=[some (.ref l),some (.int (s:Int)),some (.int t),some (.int (ll (LwReel.seek ((ps.take i).map (·.2)) s t))),k,m,n])/\ao H H') ⟨⟨none,none,none,O⟩,ao.refl _⟩ (λi σ H' _ e=>ay.of (e.2 _ _ h.1)) ?_ ?_⟩
 .rintro i y σ H1 T hy ⟨⟨k,m,n,rfl⟩,r⟩ x;rw[dk] at hy;obtain⟨p,u,rfl⟩:=Option.map_eq_some_iff.mp hy;have C:=fx u;have f':i<ps.length:=(List.getElem?_eq_some_iff.mp u).1;have b:ao H (ah H1 T (.tup [.int (i:Nat),.ref p.1])):=r.trans (a9 x);have v:ah H1 T (.tup [.int (i:Nat),.ref p.1]) T=some (.tup [.int (i:Nat),.ref p.1]):=au;generalize ah H1 T (.tup [.int (i:Nat),.ref p.1])=H2 at b v;obtain⟨dx,dl,ha⟩:=(h.2 p C).same b;have D:((ps.take i).map (·.2)).length=i:=by rw[aX,cF];omega
  have c:LwReel.seek ((ps.take (i+1)).map (·.2)) s t=if p.2.stream=s then(if isKey p.2.flags=true/\p.2.time<=t then some i else RM.kU (LwReel.seek ((ps.take i).map (·.2)) s t) (some i)) else LwReel.seek ((ps.take i).map (·.2)) s t:=by
   rw[RM.take_snoc u,cj];have:=RM.A5 ((ps.take i).map (·.2)) p.2 s t;rw[D] at this;exact this
  refine⟨T,_,O,cI.of v,O,_,_,O,_,_,O,O,_,O,p.1,dx,_,_,O,ha,O,_,O,O,_,O,bx (λf=>?_) λf=>?_⟩
  .have f:(p.2.stream:Int)=(s:Int):=f;rw[az af] at c;refine⟨_,O,p.1,dx,_,_,O,ha,O,_,_,O,O,_,_,O,O,_,O,?_⟩;rw[L4]
   have G:∀o:Option Nat,o≠none->RM.kU o (some i)=o:=λo I=>by
    cases o with
    | none=>exact absurd O I
    | some j=>rfl
   have w:¬(isKey p.2.flags=true/\p.2.time<=t)->∀{A B:Prop},((LwReel.seek ((ps.take i).map (·.2)) s t=none->LwReel.seek ((ps.take (i+1)).map (·.2)) s t=some i->A))->((LwReel.seek ((ps.take (i+1)).map (·.2)) s t=LwReel.seek ((ps.take i).map (·.2)) s t->B))->
    if decide (V.int (ll (LwReel.seek ((ps.take i).map (·.2)) s t))=V.int (-1))=true then A else B:=λJ A B hA M=>by
    rw[ar J] at c;refine bx (λz=>?_) λz=>?_
    .have z:=tT.mp z;exact hA z (by rw[c,z];rfl)
    .exact M (by rw[c,G _ λy=>z (tT.mpr y)])
   cases hk:isKey p.2.flags with
   | false=>
    refine⟨_,O,_,O,_,O,O,_,O,w (by rw[hk];simp) (λN z=>?_) λz=>?_⟩
    .exact⟨_,O,⟨_,_,_,by rw[z];rfl⟩,b⟩
    .exact⟨⟨_,_,_,by rw[z];rfl⟩,b⟩
   | true=>
    refine⟨_,O,p.1,dx,_,_,O,ha,O,_,O,_,_,O,O,_,O,_,O,?_⟩;by_cases g:p.2.time<=t
    .rw[cR g];rw[az ⟨hk,g⟩] at c;exact⟨_,O,⟨_,_,_,by rw[c];rfl⟩,b⟩
    .rw[dC g];refine⟨_,O,O,_,O,w (λz=>g z.2) (λN z=>?_) λz=>?_⟩
     .exact⟨_,O,⟨_,_,_,by rw[z];rfl⟩,b⟩
     .exact⟨⟨_,_,_,by rw[z];rfl⟩,b⟩
  .have f:¬(p.2.stream:Int)=(s:Int):=f;rw[ar af] at c;exact⟨⟨_,_,_,by rw[c];rfl⟩,b⟩
 .rintro σ H1 ⟨⟨k,m,n,rfl⟩,r⟩;rw[aX,gM];exact⟨_,O,q _ r⟩
noncomputable def JY:List Str:=["reader","reel","writes"]
noncomputable def eC (rd:V)(rl:Addr)(wr:Bool):List (Str×V):=[("reader",rd),("reel",.ref rl),("writes",.bl wr)]
noncomputable def IE:List Str:=["numbers","at"]
noncomputable def eJ (d:Addr)(n:Nat):List (Str×V):=[("numbers",.ref d),("at",.int (n:Int))]
abbrev dt (a:Addr)(H H':Hp):Prop:=∀c o,H c=some o->c≠a->H' c=some o
inductive AO (CD CL:Addr)(vs:List V)(H:Hp)(Q:VK)(_:XK):Prop
 | mk (x dx:Addr) (_:vs=[.ref x]) (_:H x=some (.ins CD dx [])) (_:∀rl ls lp H',o3 CL H H' rl ls lp->H' x=some (.ins CD dx (eC .aE rl false))->dt x H H'->Q .aE H')
theorem I3:c4 ["self"] ["self"] (bL qE):=fL
variable (cy:gi K CD JY)
include ey cy in
theorem Hv (F:dB K "__init__" "Record.__init__" qE f fd):cP P w K mg base ba 3 f fd ["self"] (AO CD CL):=by
 refine F.ok (k:=2) I3 (λvs H Q E h=>?_) (λbc A outer s0 H vs Q E b h=>?_)
 .obtain⟨x,dx,rfl,_⟩:=h;rfl
 .obtain⟨x,dx,rfl,hx,q⟩:=h;refine⟨_,aj (bz cy (pv 0) gG) (aj (bz cy (pv 0) (dj ey b (aB (bK fw)))) (aq (bz cy (pv 0) dN))),cV ?_⟩
  intros
  refine⟨_,O,x,dx,_,O,hx,lk,b3 _,λls d=>rM d λrl lp H2 g sm=>?_⟩;obtain⟨n1,n2,n3,n4,⟨dr,n5⟩,n6,n7⟩:=g;have e1:H2 x=some (.ins CD dx [("reader",V.aE)]):=sm _ _ au
  have back:∀{e:Addr},ah H x (.ins CD dx [("reader",V.aE)]) e=none->e≠x/\H e=none:=λ{e} he=>by
   have z:e≠x:=λz=>by rw[z,au] at he;cases he
   rw[ak z] at he;exact⟨z,he⟩
  refine⟨_,O,x,dx,_,O,e1,lk,_,O,x,dx,_,O,au,lk,q rl ls lp _ ⟨(back n1).2,(back n2).2,(back n3).2,n4,⟨dr,?_⟩,?_,?_⟩ au λc o hc a=>?_⟩
  .rw[ak (back n1).1,ak (back n1).1];exact n5
  .rw[ak (back n2).1,ak (back n2).1];exact n6
  .rw[ak (back n3).1,ak (back n3).1];exact n7
  .rw[ak a,ak a];exact sm _ _ (by rw[ak a];exact hc)
inductive Jk (CD:Addr)(vs:List V)(H:Hp)(Q:VK)(_:XK):Prop
 | mk (x dx uZ:Addr) (vJ:V) (rO:Bool) (rd:V) (rl:Addr) (wr:Bool) (_:vs=[.ref x,rd,.ref rl,.bl wr]) (_:H x=some (.ins CD dx (eC vJ uZ rO))) (_:∀H',H' x=some (.ins CD dx (eC rd rl wr))->(∀c,c≠x->H' c=H c)->Q .aE H')
variable (sZ:Fn K mg "become" wV ["record","reader","reel","writes"])
variable (fm:aS P w K mg base ba 5 "become" ["record","reader","reel","writes"] (Jk CD))
include cy sZ in
theorem Ed:type_of% fm:=by
 refine bJ sZ ["record","reader","reel","writes"] ?_;rintro a H vs Q E b d ⟨x,dx,e,f,g,rd,rl,wr,rfl,hx,q⟩ h i;refine⟨_,aj (bz cy (pv 0) (pv 1)) (aj (bz cy (pv 0) (pv 2)) (aq (bz cy (pv 0) (pv 3)))),cV ?_⟩
 intros
 exact⟨_,O,_,O,x,dx,_,O,hx,lk,_,O,_,O,x,dx,_,O,au,lk,_,O,_,O,x,dx,_,O,au,lk,q _ au λc hc=>by rw[ak hc,ak hc,ak hc]⟩
inductive Nd (CD CL:Addr)(vs:List V)(H:Hp)(Q:VK)(_:XK):Prop
 | mk (x dx uZ:Addr) (vJ:V) (rO:Bool) (_:vs=[.ref x]) (_:H x=some (.ins CD dx (eC vJ uZ rO))) (_:∀rl ls lp H',o3 CL H H' rl ls lp->H' x=some (.ins CD dx (eC .aE rl false))->dt x H H'->Q .aE H')
variable (rW:Fn K mg "become_empty" y_ ["record"])
variable (iA:aS P w K mg base ba 6 "become_empty" ["record"] (Nd CD CL))
include ey fm rW in
theorem Lv:type_of% iA:=by
 refine bJ rW ["record"] ?_;rintro l H vs Q E m a ⟨x,dx,b,d,f,rfl,hx,q⟩ n p;refine⟨_,aq (bU (aO fm a (a_ (pv 0) (a_ gG (aF (dj ey a (aB (bK fw))) dN))))),_,O,b3 _,λls g=>rM g λrl lp H2 h sm=>?_⟩;obtain⟨n1,n2,n3,n4,⟨dr,n5⟩,n6,n7⟩:=h;have nx:∀{e:Addr},H e=none->e≠x:=λ{e} he z=>by rw[z,hx] at he;cases he
 refine⟨x,dx,b,d,f,.aE,rl,false,O,sm _ _ hx,λi j k3=>?_⟩;exact q rl ls lp i ⟨n1,n2,n3,n4,⟨dr,by rw[k3 _ (nx n1)];exact n5⟩,by rw[k3 _ (nx n2)];exact n6,by rw[k3 _ (nx n3)];exact n7⟩ j λc o hc k=>by rw[k3 c k];exact sm _ _ hc
inductive xH (CC:Addr)(vs:List V)(H:Hp)(Q:VK)(_:XK):Prop
 | mk (x dx d:Addr) (_:vs=[.ref x,.ref d]) (_:H x=some (.ins CC dx [])) (_:∀H',H' x=some (.ins CC dx (eJ d 0))->dt x H H'->Q .aE H')
theorem Dx:c4 ["self","numbers"] ["self","numbers"] (bL qW):=fL
variable (eh:gi K CC IE)
include eh in
theorem C7 (F:dB K "__init__" "Cursor.__init__" qW f fd):cP P w K mg base ba 1 f fd ["self","numbers"] (xH CC):=by
 refine F.ok (k:=0) Dx (λvs H Q E h=>?_) (λbc A outer s0 H vs Q E b h=>?_)
 .obtain⟨x,dx,d,rfl,_⟩:=h;rfl
 .obtain⟨x,dx,d,rfl,hx,q⟩:=h;refine⟨_,aj (bz eh (pv 0) (pv 1)) (aq (bz eh (pv 0) aL)),fJ ?_⟩
  intros
  refine⟨_,O,_,O,x,dx,_,O,hx,lk,_,O,x,dx,_,O,au,lk,?_⟩;exact q _ au λc o hc a=>by rw[ak a,ak a];exact hc
noncomputable def fU (K:Frag)(CC:Addr)(H:Hp)(cu d:Addr)(xs:List Int)(n:Nat):Prop:=(∃dx,H cu=some (.ins CC dx (eJ d n)))/\ay K H d (xs.map V.int)
theorem zT {x:Addr}{xs:List V}{fs:List (Str×V)}(h:ay K H d xs)(hx:H x=some (.ins C dx fs))(b:dt x H H'):ay K H' d xs:=by
 rcases h with(h | ⟨o,h⟩) | h
 .exact .inl (.inl (b _ _ h (ef h hx (by intro z;cases z))))
 .exact .inl (.inr ⟨o,b _ _ h (ef h hx (by intro z;cases z))⟩)
 .exact .inr h
theorem dt.upd {H:Hp}{a:Addr}{o:HO}:dt a H (ah H a o):=λc b h n=>by rw[ak n];exact h
inductive D0 (K:Frag)(CC:Addr)(vs:List V)(H:Hp)(Q:VK)(_:XK):Prop
 | mk (cu d:Addr) (xs:List Int) (n:Nat) (v:Int) (_:vs=[.ref cu]) (_:fU K CC H cu d xs n) (_:xs[n]?=some v) (_:∀H',fU K CC H' cu d xs (n+1)->(∀c,c≠cu->H' c=H c)->Q (.int v) H')
variable (uG:Fn K mg "take_number" Ci ["cursor"])
variable (dZ:aS P w K mg base ba 5 "take_number" ["cursor"] (D0 K CC))
include eh uG in
theorem J8:type_of% dZ:=by
 refine bJ uG ["cursor"] ?_;rintro g H vs Q E h i ⟨cu,d,xs,n,v,rfl,⟨⟨dx,hc⟩,hd⟩,e,q⟩ k l;refine⟨_,aj (hT eh (pv 0) aL iQ) (aq (aI (cz cC (aw eh (pv 0)) (aR d_ (aw eh (pv 0)) aL) (λ_ _=>rfl)))),fJ ?_⟩
 intros
 refine⟨_,O,cu,dx,_,_,O,hc,O,_,_,O,O,dx,_,hc,lk,?_⟩;have f:bM "at" (V.int ((n:Int)+1)) (eJ d n)=eJ d (n+1):=rfl;rw[f];have a:ah H cu (.ins CC dx (eJ d (n+1))) cu=some (.ins CC dx (eJ d (n+1))):=au;have b:ay K (ah H cu (.ins CC dx (eJ d (n+1)))) d (xs.map V.int):=zT hd hc dt.upd;have hk:∀c,c≠cu->ah H cu (.ins CC dx (eJ d (n+1))) c=H c:=λc hc=>ak hc;generalize ah H cu (.ins CC dx (eJ d (n+1)))=H1 at a b hk;exact⟨_,O,cu,dx,_,_,O,a,O,_,O,cu,dx,_,_,O,a,O,_,_,O,O,d,_,_,_,O,O,b,f_ (j:=n) (v:=V.int v) (by simp) (by rw[dk,e];rfl),q H1 ⟨⟨dx,a⟩,b⟩ hk⟩
theorem J2 (h1:i<=j)(h2:j<=xs.length):fN (xs.map V.int) (some (i:Int)) (some (j:Int))=((xs.drop i).take (j - i)).map V.int:=by
 unfold fN
 have e1:HT.dU (xs.map V.int).length 0 (some (i:Int))=i:=by
  rw[aX];unfold HT.dU;simp only[];rw[ar af];omega
 have a:HT.dU (xs.map V.int).length (xs.map V.int).length (some (j:Int))=j:=by
  rw[aX];unfold HT.dU;simp only[];rw[ar af];omega
 rw[e1,a,u5,ui]
inductive DD (K:Frag)(CC:Addr)(vs:List V)(H:Hp)(Q:VK)(_:XK):Prop
 | mk (cu d:Addr) (xs:List Int) (n m:Nat) (_:vs=[.ref cu]) (_:fU K CC H cu d xs n) (_:xs[n]?=some (m:Int)) (_:n+1+m<=xs.length) (_:∀l H',H l=none->H' l=some (.lst (((xs.drop (n+1)).take m).map V.int))->fU K CC H' cu d xs (n+1+m)->dt cu H H'->Q (.ref l) H')
variable (vB:Fn K mg "take_row" Ap ["cursor"])
variable (gE:aS P w K mg base ba 6 "take_row" ["cursor"] (DD K CC))
include eh dZ vB in
theorem C8:type_of% gE:=by
 refine bJ vB ["cursor","size"] ?_;rintro v H vs Q E i j ⟨cu,d,xs,n,m,rfl,k,p,r,q⟩ w x
 refine⟨_,aj (aW 1 i (aO dZ j (aB (pv 0))))
  (aj (hT eh (pv 0) (pv 1) iQ)
  (aq (aI (ke j8 (aw eh (pv 0)) (fo (aR d_ (aw eh (pv 0)) (pv 1))) (fo (aw eh (pv 0))))))),?_⟩
 refine cV ?_
 intros
 refine⟨_,O,cu,d,xs,n,_,O,k,p,λH1 s k1=>?_⟩;obtain⟨⟨dx,hc⟩,hd⟩:=s;refine⟨_,O,cu,dx,_,_,O,hc,O,_,O,_,_,O,O,dx,_,hc,lk,?_⟩;have t:bM "at" (V.int (((n+1:Nat):Int)+(m:Int))) (eJ d (n+1))=eJ d (n+1+m):=rfl;rw[t];have a:ah H1 cu (.ins CC dx (eJ d (n+1+m))) cu=some (.ins CC dx (eJ d (n+1+m))):=au;have f:ay K (ah H1 cu (.ins CC dx (eJ d (n+1+m)))) d (xs.map V.int):=zT hd hc dt.upd;have hk:∀c,c≠cu->ah H1 cu (.ins CC dx (eJ d (n+1+m))) c=H c:=λc hc=>(ak hc).trans (k1 c hc);generalize ah H1 cu (.ins CC dx (eJ d (n+1+m)))=H2 at a f hk;refine⟨_,O,cu,dx,_,_,O,a,O,_,O,cu,dx,_,_,O,a,O,_,O,_,_,O,O,_,O,_,O,cu,dx,_,_,O,a,O,_,O,d,_,O,f,λl b=>?_⟩;have g:l≠cu:=λz=>by rw[z,a] at b;cases b
 have e:(((n+1+m:Nat):Int) - (m:Int))=((n+1:Nat):Int):=af;rw[e,J2 af r,show n+1+m - (n+1)=m by omega];refine q l _ (by rw[<-hk l g];exact b) au ⟨⟨dx,by rw[ak g.symm];exact a⟩,ao.seq (a9 b) f⟩ λc o h u=>?_;rw[ak (λz=>by rw[z,<-hk l g,b] at h;cases h),hk c u];exact h
inductive LW (vs:List V)(H:Hp)(Q:VK)(_:XK):Prop
 | mk (d:Addr) (xs:List V) (_:vs=[.ref d]) (_:H d=some (.lst xs)) (_:xs.length<10000) (_:Gives H Q (.int (xs.length:Int)::xs))
variable (sj:Fn K mg "counted" Bh ["data"])
variable (fV:aS P w K mg base ba 5 "counted" ["data"] LW)
include ag sj in
theorem Ft:type_of% fV:=by
 refine bJ sj ["data"] ?_;rintro c H vs Q E e f ⟨d,xs,rfl,hd,g,q⟩ h i;refine⟨_,aq (aI (aR dJ (bK (aB (bX ag (pv 0)))) (pv 0))),_,O,d,_,O,.inl (ay.of hd),(by show 1<=sizeLine;decide),λl b=>?_⟩;have a:ao H (ah H l (.lst [V.int (xs.length:Int)])):=a9 b;have e1:ah H l (.lst [V.int (xs.length:Int)]) l=some (.lst [V.int (xs.length:Int)]):=au;generalize ah H l (.lst [V.int (xs.length:Int)])=H1 at a e1;refine⟨_,O,l,d,_,_,O,O,e1,a _ _ hd,?_,λl2 n2=>?_⟩
 .exact bB (show 1+xs.length<=20000 by omega) aJ
 .exact q l2 _ (a.free n2) au (a.trans (a9 n2))
inductive JX (K:Frag)(CC CP:Addr)(vs:List V)(H:Hp)(Q:VK)(_:XK):Prop
 | mk (cu d:Addr) (xs:List Int) (n m:Nat) (st fl tm ln:Int) (_:vs=[.ref cu]) (_:fU K CC H cu d xs n) (_:xs[n]?=some st) (_:xs[n+1]?=some fl) (_:xs[n+2]?=some tm) (_:xs[n+3]?=some ln) (_:xs[n+4]?=some (m:Int)) (_:n+5+m<=xs.length) (_:∀a dx dl H',H a=none->H dl=none->a≠dl->H' a=some (.ins CP dx (cW st tm ln fl dl (m:Int) 0))->H' dl=some (.lst (((xs.drop (n+5)).take m).map V.int))->fU K CC H' cu d xs (n+5+m)->dt cu H H'->Q (.ref a) H')
variable (tX:Fn K mg "take_part" AM ["cursor"])
variable (nc:aS P w K mg base ba 7 "take_part" ["cursor"] (JX K CC CP))
include gX dZ gE tX in
theorem LC:type_of% nc:=by
 refine bJ tX ["cursor","stream","flags","time","length"] ?_;rintro l' H vs Q E f e ⟨cu,d,xs,n,m,st,fl,tm,ln,rfl,x,y,A,C,D,G,m',q⟩ p' q'
 refine⟨_,aj (aW 1 f (aO dZ e (aB (pv 0))))
  (aj (aW 2 f (aO dZ e (aB (pv 0))))
  (aj (aW 3 f (aO dZ e (aB (pv 0))))
  (aj (aW 4 f (aO dZ e (aB (pv 0))))
  (aq (aI (dj gX e (a_ (pv 1) (a_ (pv 3) (a_ (pv 4) (aF (pv 2) (aO gE e (aB (pv 0))))))))))))),?_⟩
 refine hJ ?_
 intros
 refine⟨_,O,cu,d,xs,n,_,O,x,y,λH1 I k1=>⟨_,O,cu,d,xs,n+1,_,O,I,A,λH2 J k2=>⟨_,O,cu,d,xs,n+2,_,O,J,C,λr' M k3=>⟨_,O,cu,d,xs,n+3,_,O,M,D,λN g T=>?_⟩⟩⟩⟩;have k:∀c,c≠cu->N c=H c:=λc hc=>by rw[T c hc,k3 c hc,k2 c hc,k1 c hc]
 refine⟨_,O,_,O,_,O,_,O,_,O,cu,d,xs,n+4,m,O,g,G,af,λl h i e5 U j=>?_⟩;intro a dx b p u'
 have Y:(ah (ah h dx (.own a)) a (.ins CP dx [])) l=some (.lst (((xs.drop (n+5)).take m).map V.int)):=by
  rw[ak (a6 e5 b),ak (a6 e5 p)];exact e5
 refine⟨a,dx,l,_,_,_,_,_,O,au,Y,λr s keep=>⟨O,?_⟩⟩;have sm:ao h r:=ao.made b p keep;obtain⟨⟨b',t⟩,e'⟩:=U;have f':l≠cu:=λz=>by obtain⟨⟨v',u⟩,_⟩:=g;rw[<-z,i] at u;cases u
 have v:a≠cu:=λz=>by rw[z,t] at b;cases b
 have i':H a=none:=by
  cases z:H a with
  | none=>rfl
  | some o=>rw[j a o (by rw[k a v];exact z) v] at b;cases b
 have j':(((xs.drop (n+5)).take m).map V.int).length=m:=by rw[aX,cF,bQ];omega
 rw[j'] at s;refine q a dx l r i' (by rw[<-k l f'];exact i) (λz=>by rw[z,e5] at b;cases b) s (sm _ _ e5) ⟨⟨b',sm _ _ t⟩,sm.seq e'⟩ λc o k' w=>sm _ _ (j c o (by rw[k c w];exact k') w)
noncomputable def stepI (s:State)(c:Call):State×List Int:=((ReelCalls.step s c).1,(ReelCalls.step s c).2.code::(ReelCalls.step s c).2.told.flatMap toldInts)
theorem cU {s:State}{c:Call}{a:Answer}(h:ReelCalls.step s c=(s',a)):stepI s c=(s',a.code::a.told.flatMap toldInts):=by
 unfold stepI;rw[h]
structure mq (x:Info):Prop where
 st:x.stream<4
 tm: -1125899906842624<x.time/\x.time<=1125899906842624
 ln:x.lasts<2 ^ 32
 fl:x.flags<=3
 sz:x.size<=600
noncomputable def HeldAt (CL CS CP:Addr)(out:List Addr)(H:Hp)(rl:Addr)(l:List LwReel.Stream)(a:List Info):Prop:=∃(ls lp:Addr) (ps:List (Addr×Info)),en CL CS CP out H rl ls lp l ps/\ps.map (·.2)=a/\eX l a/\rl∉out/\lp∉out/\∀p∈ps,p.1∉out
noncomputable def hg (CR CL CT CS CP:Addr)(out:List Addr)(H:Hp)(rd:V)(rl:Addr)(wr:Bool)(st:State):Prop:=match st with
 | .empty=>rd= .aE/\wr=false/\∃ls lp dr,H rl=some (.ins CL dr (gd ls lp))/\H ls=some (.lst [])/\H lp=some (.lst [])/\rl∉out/\ls∉out/\lp∉out
 | .reading ae over b told=>wr=false/\∃(r:Addr) (x:RX) (c:bb) (ps:List (Addr×Info)),rd= .ref r/\x.rl=rl/\x.out=out/\bF CR CL CS CP H r x ae over b c ps/\eB CT CS CP (r::x.tk::x.lp::x.rl::x.out) H x.pend c (nextT ae over b c)/\RM.runN ae over b told=some c/\∀e∈out,e∉[r,x.tk,x.lp,x.rl]
 | .known l a=>rd= .aE/\wr=false/\HeldAt CL CS CP out H rl l a
 | .writing l a long=>rd= .aE/\wr=true/\HeldAt CL CS CP out H rl l a/\(∀x∈a,mq x)/\long+(ReelCalls.before l a).length=cg l a
noncomputable def RecAt (CD CR CL CT CS CP:Addr)(out:List Addr)(H:Hp)(a:Addr)(st:State):Prop:=a∈out/\(∀e∈out,H e≠none)/\∃dx rd rl wr,H a=some (.ins CD dx (eC rd rl wr))/\hg CR CL CT CS CP out H rd rl wr st
noncomputable def cf (out:List Addr)(a:Addr)(H H':Hp):Prop:=∀c∈out,c≠a->H' c=H c
noncomputable def d5 (CD CR CL CT CS CP:Addr)(out:List Addr)(a:Addr)(H:Hp)(Q:VK)(y:State×List Int):Prop:=∀l H',H' l=some (.lst (y.2.map V.int))->l∉out->RecAt CD CR CL CT CS CP out H' a y.1->cf out a H H'->Q (.ref l) H'
theorem cf.trans {out:List Addr}{a:Addr}{H H1 H2:Hp}(x:cf out a H H1)(y:cf out a H1 H2):cf out a H H2:=λc hc b=>(y c hc b).trans (x c hc b)
theorem cf.same (hd:∀e∈out,H e≠none)(s:ao H H'):cf out a H H':=λc hc _=>by
 cases e:H c with
 | none=>exact absurd e (hd c hc)
 | some o=>exact s c o e
theorem cf.but (hd:∀e∈out,H e≠none)(s:dt a H H'):cf out a H H':=λc hc b=>by
 cases e:H c with
 | none=>exact absurd e (hd c hc)
 | some o=>exact s c o e b
theorem cf.kp (hd:∀e∈out,H e≠none)(k:Kp be H H')(b:∀e∈out,e∉be):cf out a H H':=λc hc _=>by
 cases e:H c with
 | none=>exact absurd e (hd c hc)
 | some o=>exact k c o e (b c hc)
theorem lx (hd:∀e∈out,H e≠none)(s:ao H H'):∀e∈out,H' e≠none:=λe he z=>hd e he (s.free z)
theorem ht (hd:∀e∈out,H e≠none)(h:H l=none):l∉out:=λz=>hd l z h
theorem bF.outer {x:RX}{c:bb}(R:bF CR CL CS CP H r x ae closed b c ps)(k:Kp x.out H H')(hd:∀e∈x.out,H' e≠none)(d:∀e∈x.out,e∉[r,x.tk,x.lp,x.rl]):bF CR CL CS CP H' r x ae closed b c ps:=by
 have off:∀{e:Addr},e∈[r,x.tk,x.lp,x.rl]->e∉x.out:=λhe z=>d _ z he;have a:Kp (r::x.tk::x.lp::x.rl::x.out) H H':=k.mono λe he=>by simp[he]
 have hs:jY CS (r::x.tk::x.lp::x.rl::x.out) H' x.ls c.streams:=by
  have h:=R.str
  revert h
  cases c.streams with
  | none=>exact λh=>⟨a _ _ h.1 h.2,h.2⟩
  | some ss=>exact λh=>⟨dO.kp h.1 a,h.2⟩
 exact⟨let ⟨dx,h⟩:=R.ins;⟨dx,k _ _ h (off (by simp))⟩,R.ae,k _ _ R.tk (off (by simp)),R.closed,R.aU,R.at_,R.seek,R.opr,hs,k _ _ R.cY (off (by simp)),
  λp f=>let ⟨⟨dx,dl,h1,h2⟩,g⟩:=R.de p f;⟨⟨dx,dl,a _ _ h1 h2,h2⟩,g⟩,R.inf,R.lost,R.endt,R.ne,R.cZ,R.eH,let ⟨dr,h⟩:=R.rel;⟨dr,k _ _ h (off (by simp))⟩,hd⟩
theorem HeldAt.kp {out:List Addr}{H H':Hp}{rl:Addr}{l:List LwReel.Stream}{a:List Info}(h:HeldAt CL CS CP out H rl l a)(k:Kp out H H'):HeldAt CL CS CP out H' rl l a:=by
 obtain⟨ls,lp,ps,X,e,W,n1,n2,n3⟩:=h;refine⟨ls,lp,ps,⟨let ⟨dr,z⟩:=X.ins;⟨dr,k _ _ z n1⟩,X.str.kp (k.mono λc hc=>by simp[hc]),k _ _ X.cY n2,λp b=>let ⟨dx,dl,z⟩:=X.de p b;⟨dx,dl,k _ _ z (n3 p b)⟩⟩,e,W,n1,n2,n3⟩
theorem hg.kp {out:List Addr}{H H':Hp}{rd:V}{rl:Addr}{wr:Bool}{st:State}(h:hg CR CL CT CS CP out H rd rl wr st)(k:Kp out H H')(hd:∀e∈out,H' e≠none):hg CR CL CT CS CP out H' rd rl wr st:=by
 cases st with
 | empty=>obtain⟨h1,h2,ls,lp,dr,a,d,g,n1,n2,n3⟩:=h;exact⟨h1,h2,ls,lp,dr,k _ _ a n1,k _ _ d n2,k _ _ g n3,n1,n2,n3⟩
 | reading ae over b told=>
  obtain⟨h1,r,x,c,ps,h2,a,d,R,i,j,f⟩:=h;subst d
  exact⟨h1,r,x,c,ps,h2,a,O,R.outer k hd f,i.kp (k.mono λe he=>by simp[he]),j,f⟩
 | known l m=>exact⟨h.1,h.2.1,h.2.2.kp k⟩
 | writing l m long=>exact⟨h.1,h.2.1,h.2.2.1.kp k,h.2.2.2⟩
theorem hg.same {out:List Addr}{H H':Hp}{rd:V}{rl:Addr}{wr:Bool}{st:State}(h:hg CR CL CT CS CP out H rd rl wr st)(hd:∀e∈out,H e≠none)(s:ao H H'):hg CR CL CT CS CP out H' rd rl wr st:=h.kp (Kp.same s) (lx hd s)
theorem RecAt.same {out:List Addr}{H H':Hp}{a:Addr}{st:State}(h:RecAt CD CR CL CT CS CP out H a st)(s:ao H H'):RecAt CD CR CL CT CS CP out H' a st:=by
 obtain⟨h1,h2,dx,rd,rl,wr,b,c⟩:=h;exact⟨h1,lx h2 s,dx,rd,rl,wr,s _ _ b,c.same h2 s⟩
theorem d5.here (q:d5 CD CR CL CT CS CP out a H Q (st,b5))(h:RecAt CD CR CL CT CS CP out H a st)(s:ao H H1):∀l,H1 l=none->Q (.ref l) (ah H1 l (.lst (b5.map V.int))):=λl b=>by
 have c:ao H (ah H1 l (.lst (b5.map V.int))):=s.trans (a9 b);exact q l _ au (ht h.2.1 (s.free b)) (h.same c) (cf.same h.2.1 c)
theorem d5.after (q:d5 CD CR CL CT CS CP out a H Q (st,b5))(h:RecAt CD CR CL CT CS CP out H1 a st)(o:cf out a H H1)(s:ao H1 H2):∀l,H2 l=none->Q (.ref l) (ah H2 l (.lst (b5.map V.int))):=λl b=>by
 have c:ao H1 (ah H2 l (.lst (b5.map V.int))):=s.trans (a9 b);exact q l _ au (ht h.2.1 (s.free b)) (h.same c) (o.trans (cf.same h.2.1 c))
theorem d5.one (q:d5 CD CR CL CT CS CP out a H Q y)(e:y=(st,[v]))(h:RecAt CD CR CL CT CS CP out H a st)(s:ao H H1):[V.int v].length<=sizeLine/\∀l,H1 l=none->Q (.ref l) (ah H1 l (.lst [V.int v])):=by
 rw[e] at q;exact⟨(by show 1<=sizeLine;decide),λl b=>q.here h s l b⟩
theorem d5.ml (q:d5 CD CR CL CT CS CP out a H Q y)(e:y=(st,[v]))(h:RecAt CD CR CL CT CS CP out H1 a st)(o:cf out a H H1)(s:ao H1 H2):[V.int v].length<=sizeLine/\∀l,H2 l=none->Q (.ref l) (ah H2 l (.lst [V.int v])):=by
 rw[e] at q;exact⟨(by show 1<=sizeLine;decide),λl b=>q.after h o s l b⟩
noncomputable def Gh (CS:Addr)(H:Hp)(ls:Addr)(a:Option (List LwReel.Stream)):Prop:=match a with
 | none=>H ls=some (.lst [])
 | some ss=>hN CS H ls ss/\1<=ss.length/\ss.length<=4/\∀s∈ss,s.right=true
noncomputable def zb (CL CS CP:Addr)(H:Hp)(rl:Addr)(a:Option (List LwReel.Stream))(b:List Info):Prop:=∃dr ls lp ps,H rl=some (.ins CL dr (gd ls lp))/\Gh CS H ls a/\mJ CP H lp ps/\ps.map (·.2)=b
theorem MQ (h:headOf b=some ss):1<=ss.length/\ss.length<=4/\∀s∈ss,s.right=true:=by
 cases e:boxAt b 0 (λc=>c==HEAD) with
 | more=>rw[uo (λ_ _ _ z=>by rw[e] at z;cases z)] at h;cases h
 | fault _ _=>rw[uo (λ_ _ _ z=>by rw[e] at z;cases z)] at h;cases h
 | whole k body n=>
  rw[zk e] at h
  cases a:LwReel.run rHead body 0 with
  | error z=>rw[a] at h;cases h
  | ok l=>rw[a] at h;cases h;exact RM.vk a
theorem hg.view (h:hg CR CL CT CS CP out H rd rl wr st):zb CL CS CP H rl st.streams st.infos:=by
 have i:∀{l a},HeldAt CL CS CP out H rl l a->zb CL CS CP H rl (some l) a:=λ{l a} z=>by
  obtain⟨ls,lp,ps,X,e,W,_⟩:=z;obtain⟨dr,d⟩:=X.ins;exact⟨dr,ls,lp,ps,d,⟨X.str.at_,W.one,W.four,W.right⟩,⟨X.cY,X.de⟩,e⟩
 cases st with
 | empty=>obtain⟨h1,h2,ls,lp,dr,g,j,k,_⟩:=h;exact⟨dr,ls,lp,[],g,j,⟨k,λp f=>by cases f⟩,rfl⟩
 | known l a=>exact i h.2.2
 | writing l a long=>exact i h.2.2.1
 | reading ae over b told=>
  obtain⟨h1,r,x,c,ps,h2,g,j,R,f,d,n⟩:=h;subst g;obtain⟨dr,m⟩:=R.rel;refine⟨dr,x.ls,x.lp,ps,m,?_,⟨R.cY,λp f=>let ⟨⟨dx,dl,z,_⟩,_⟩:=R.de p f;⟨dx,dl,z⟩⟩,by rw[RM.F9 d];exact R.inf⟩;rw[RM.F5 d];have hs:=R.str
  cases e:c.streams with
  | none=>rw[e] at hs;exact hs.1
  | some ss=>rw[e] at hs;exact⟨hs.1.at_,MQ (RM.tK d e)⟩
inductive M4 (CD CR CL CT CS CP:Addr)(vs:List V)(H:Hp)(Q:VK)(_:XK):Prop
 | mk (out:List Addr) (a:Addr) (st:State) (_:vs=[.ref a]) (_:RecAt CD CR CL CT CS CP out H a st) (_:d5 CD CR CL CT CS CP out a H Q (stepI st .next))
variable (vC:Fn K mg "answer_next" ya ["record"])
variable (nK:aS P w K mg base ba 18 "answer_next" ["record"] (M4 CD CR CL CT CS CP))
include ag gP cy vC in
theorem Ho:type_of% nK:=by
 refine bJ vC ["record"] ?_;rintro j' H vs Q E k' w ⟨out,a,st,rfl,hA,q⟩ l' m';obtain⟨ha,hd,dx,rd,rl,wr,j,aG⟩:=id hA;refine⟨_,aj (aZ (kn (oa (aw cy (pv 0)))) (aq (aI (bK (aB (aA ag.ko))))) a7) (aq (aI (aO gP w (aB (aw cy (pv 0)))))),fJ ?_⟩
 intros
 refine⟨_,O,a,dx,_,_,O,j,O,_,O,?_⟩
 cases st with
 | empty=>exact bS (λ_=>q.one O hA (ao.refl _)) λz=>absurd aG.1 z
 | known l y=>exact bS (λ_=>q.one O hA (ao.refl _)) λz=>absurd aG.1 z
 | writing l y long=>exact bS (λ_=>q.one O hA (ao.refl _)) λz=>absurd aG.1 z
 | reading ae over b told=>
  obtain⟨h1,r,x,c,ps,h2,A,C,R,D,h,p⟩:=aG;subst C;subst A;subst h2;refine bS (λz=>by cases z) λ_=>⟨_,rfl,a,dx,_,_,rfl,j,rfl,r,x,ae,over,b,c,ps,rfl,R,D,λi l G=>?_,λt c' g m d I H' s e1 u e3 e4 J M N k=>?_⟩
  .unfold nextT at i;have f:c.aU≠ .done:=λz=>by rw[az z] at i;cases i
   rw[ar f] at i
   have o:stepI (.reading ae over b told) .next=(.reading ae over b told,[0]):=by
    refine cU (a:=says 0) ?_;have:=RM.vK h i;rw[ar f] at this;exact this
   rw[o] at q;exact q.here hA (ao.refl _) l G
  .have v:∀e∈x.out,e∉[r,x.lp,x.rl]:=λe he z=>p e he (by simp only[ed,ij,iX] at z ⊢;rcases z with z | z | z<;>simp[z]);have hO:cf x.out a H H':=cf.kp hd k v;have T:H' a=some (.ins CD dx (eC (.ref r) x.rl wr)):=k _ _ j (v a ha)
   have U:∀e∈x.out,H' e≠none:=λe he=>by
    have:=s.outs e (by rw[e4];exact he);exact this
   have Y:m∉x.out:=λz=>N (by simp[z]);have b':eB CT CS CP (r::d.tk::d.lp::d.rl::d.out) H' d.pend c' (nextT ae over b c'):=by rw[e1,u,e3,e4];exact J
   have e':∀e∈x.out,e∉[r,d.tk,d.lp,d.rl]:=by rw[e1,u,e3];exact p
   have fin:∀n,stepI (.reading ae over b told) .next=(.reading ae over b n,g9 t)->RM.runN ae over b n=some c'->Q (.ref m) H':=λn o f'=>by
    rw[o] at q;exact q m H' M Y ⟨ha,U,dx,.ref r,x.rl,wr,T,h1,r,d,c',I,O,e3,e4,s,b',f',e'⟩ hO
   unfold nextT at g;by_cases f:c.aU= .done
   .rw[az f] at g;cases g;refine fin told ?_ h;have i':aV ae over b c=none:=by unfold aV;rw[f]
    refine cU (a:=says 6) ?_;have:=RM.vK h i';rw[az f] at this;exact this
   .rw[ar f] at g;refine fin (told+1) ?_ ?_
    .exact cU (a:=RM.told t) (RM.zP h g)
    .show(RM.runN ae over b told).bind _=some c';rw[h];show(aV ae over b c).map _=some c';rw[g];rfl
inductive Fx (CD CR CL CT CS CP:Addr)(vs:List V)(H:Hp)(Q:VK)(_:XK):Prop
 | mk (out:List Addr) (a:Addr) (st:State) (m:Nat) (_:vs=[.ref a,.int (m:Int)]) (_:RecAt CD CR CL CT CS CP out H a st) (_:d5 CD CR CL CT CS CP out a H Q (stepI st (.read m)))
theorem Du (ae:Bool):nextT ae false [] RM.start=none:=by cases ae<;>rfl
theorem pA (ha:a∈out)(k:∀c,c≠a->H' c=H c):Kp out H H':=λc o hc b=>by
 rw[k c (λz=>b (by rw[z];exact ha))];exact hc
variable (vt:Fn K mg "answer_read" xJ ["record","mend"])
variable (m8:aS P w K mg base ba 7 "answer_read" ["record","mend"] (Fx CD CR CL CT CS CP))
include ag aN j9 fm vt in
theorem Fl:type_of% m8:=by
 refine bJ vt ["record","mend","reader"] ?_;rintro N H vs Q E n h ⟨out,a,st,m,rfl,hA,q⟩ T U;obtain⟨ha,hd,dx,rd,rl,wr,o,aG⟩:=id hA
 refine⟨_,aj (aZ (aY cQ (pv 1) aL) (aq (aI (bK (aB (aA ag.lL))))) a7)
  (aj (aW 2 n (dj j9 h (aB (pv 1))))
  (aj (bU (aO fm h (a_ (pv 0) (a_ (pv 2) (aF (aw aN (pv 2)) dN)))))
  (aq (aI (bK (aB aL)))))),?_⟩
 refine iT ?_
 intros
 refine⟨_,O,_,_,O,O,_,O,bS (λb=>?_) λb=>?_⟩
 .have b:(1:Int) < (m:Int):=b;refine q.one (cU (a:=BAD) ?_) hA (ao.refl _);show(if 1<m then(st,BAD) else _)=_;rw[az af]
 have b:¬(1:Int) < (m:Int):=b;refine⟨_,O,?_⟩;intro r dr i j Y;refine⟨r,dr,_,O,au,λtk ls lp d H1 p s n1 n2 b' n4 n5 n6 n7 h1 h2 keep=>⟨O,?_⟩⟩;obtain⟨t,u,v,n3,⟨w,x⟩,y,A⟩:=s;have g:ao H H1:=ao.made i j keep
 have back:∀{e:Addr},(ah (ah H dr (.own r)) r (.ins CR dr [])) e=none->e≠r->H e=none:=λ{e} he C=>by
  rw[ak C] at he;by_cases z:e=dr
  .rw[z];exact j
  .rw[ak z] at he;exact he
 have hm:(m:Int)=if(m==1)=true then 1 else 0:=by
  by_cases z:m=1
  .rw[az (by simpa using z)];omega
  .rw[ar (by simpa using z)];omega
 have f:∀{e:Addr},H e=none->e∉out:=λhe=>ht hd he
 have D:bF CR CL CS CP H1 r {hh (if(m==1)=true then 1 else 0) tk ls lp d with closed:=false,out:=out} (m==1) false [] RM.start []:=
  bF.A7 (dr:=w) (by rw[<-hm];exact h1) h2 y A x n1 n2 n3 (b3 _) (f (back u n5)) (lx hd g)
 have G:∀e∈out,e∉[r,tk,lp,d]:=λe he z=>by
  simp only[ed,ij,iX] at z;rcases z with z | z | z | z
  .rw[z] at he;exact f i he
  .rw[z] at he;exact f (back p n4) he
  .rw[z] at he;exact f (back v n6) he
  .rw[z] at he;exact f (back t n7) he
 have I:hg CR CL CT CS CP out H1 (.ref r) d false (.reading (m==1) false [] 0):=⟨O,r,_,RM.start,[],O,O,O,D,(by rw[Du];rfl),O,G⟩;refine⟨_,O,_,O,_,O,r,dr,_,_,O,h1,O,a,dx,rl,rd,wr,.ref r,d,false,O,g _ _ o,λH2 k k2=>?_⟩
 have l:∀e∈out,H2 e≠none:=λe he=>by
  by_cases z:e=a
  .rw[z,k];simp
  .rw[k2 e z];exact lx hd g e he
 have J:RecAt CD CR CL CT CS CP out H2 a (.reading (m==1) false [] 0):=⟨ha,l,dx,.ref r,d,false,k,I.kp (pA ha k2) l⟩;have hO:cf out a H H2:=(cf.same hd g).trans λc _ M=>k2 c M;refine q.ml (cU (a:=says 0) ?_) J hO (ao.refl _);show(if 1<m then(st,BAD) else _)=_;rw[ar af]
inductive EA (CD CR CL CT CS CP:Addr)(vs:List V)(H:Hp)(Q:VK)(_:XK):Prop
 | mk (out:List Addr) (a d:Addr) (st:State) (last:Nat) (l:Bytes) (H0:Hp) (_:vs=[.ref a,.int (last:Int),.ref d]) (_:RecAt CD CR CL CT CS CP out H0 a st) (_:H0 d=none) (_:Kp out H0 H) (_:H a=H0 a) (_:(∀e∈out,H e≠none)) (_:H d=some (.lst (bV l))) (_:d5 CD CR CL CT CS CP out a H Q (stepI st (.feed last l)))
variable (uJ:Fn K mg "answer_feed" BF ["record","last","data"])
variable (nh:aS P w K mg base ba 18 "answer_feed" ["record","last","data"] (EA CD CR CL CT CS CP))
include ag aN mz cy uJ in
theorem F7:type_of% nh:=by
 refine bJ uJ ["record","last","data","reader"] ?_;rintro D' H vs Q E M N ⟨out,a,d,st,last,l,H0,rfl,T,i,p,U,hd,w,q⟩ E' F';obtain⟨ha,Y,dx,rd,rl,wr,b',A⟩:=id T;have s:H a=some (.ins CD dx (eC rd rl wr)):=U.trans b';have aG:=A.kp p hd;have hA:RecAt CD CR CL CT CS CP out H a st:=⟨ha,hd,dx,rd,rl,wr,s,aG⟩
 refine⟨_,aj (aW 3 M (aw cy (pv 0)))
  (aj (aZ (kn (oa (pv 3))) (aq (aI (bK (aB (aA ag.ko))))) a7)
  (aj (aZ (aY cQ (pv 1) aL) (aq (aI (bK (aB (aA ag.lL))))) a7)
  (aj (aZ (PW.pt (gp (d2 (aw aN (pv 3))) (gu (d2 (aw aN (pv 3)))))) (aq (aI (bK (aB (aA ag.ko))))) a7)
  (aj (aZ (aY cQ (aR cJ (bX ag (aw aN (pv 3))) (bX ag (pv 2))) (aA ag.zd)) (aq (aI (bK (aB (aA ag.xQ))))) a7)
  (aq (aI (bK (aB (aO mz N (a_ (pv 3) (aF (pv 2) (pv 1)))))))))))),?_⟩
 refine gA ?_
 intros
 refine⟨_,O,a,dx,_,_,O,s,O,_,O,_,O,?_⟩
 cases st with
 | empty=>exact bS (λ_=>q.one O hA (ao.refl _)) λz=>absurd aG.1 z
 | known ss e'=>exact bS (λ_=>q.one O hA (ao.refl _)) λz=>absurd aG.1 z
 | writing ss e' long=>exact bS (λ_=>q.one O hA (ao.refl _)) λz=>absurd aG.1 z
 | reading ae over b told=>
  obtain⟨h1,r,x,c,ps,h2,f',i',j,j',t,u⟩:=A;subst i';subst f';subst h2;have R:=j.outer p hd u;have C:=j'.kp (p.mono λe he=>(by simp[he]:e∈r::x.tk::x.lp::x.rl::x.out));obtain⟨dr,v⟩:=R.ins
  have k':d∉(r::x.tk::x.lp::x.rl::x.out):=λz=>by
   simp only[ed] at z;rcases z with z | z | z | z | z
   .obtain⟨l',e⟩:=j.ins;rw[<-z,i] at e;cases e
   .have e:=j.tk;rw[<-z,i] at e;cases e
   .have e:=j.cY;rw[<-z,i] at e;cases e
   .obtain⟨l',e⟩:=j.rel;rw[<-z,i] at e;cases e
   .exact Y d z i
  refine bS (λz=>by cases z) λ_=>⟨_,rfl,_,_,rfl,rfl,_,rfl,?_⟩
  have f:ReelCalls.step (.reading ae over b told) (.feed last l)=if 1<last then(.reading ae over b told,BAD) else if over_ ae over b told=true then(.reading ae over b told,NOT) else if BYTES<b.length+l.length then(.reading ae over b told,LONG) else
   (.reading ae (decide (takes ae b told l=l.length)&&last==1) (b++l.take (takes ae b told l)) told,says ((takes ae b told l:Nat):Int)):=(O)
  refine bS (λm=>?_) λm=>?_
  .have m:(1:Int) < (last:Int):=m;refine q.one (cU (a:=BAD) ?_) hA (ao.refl _);rw[f,az af]
  have m:¬(1:Int) < (last:Int):=m;rw[ar (show ¬1<last by omega),RM.Dl t] at f;refine⟨_,O,r,dr,_,_,O,v,O,_,O,?_⟩;have o:=R.closed;have D:=R.endt;have go:(over||decide (c.aU= .done))=true->_:=λz=>q.one (cU (a:=NOT) (by rw[f,az z])) hA (ao.refl H)
  cases h:over with
  | true=>
   rw[h] at o;rw[o]
   exact go (by rw[h];rfl)
  | false=>
   rw[h] at o;rw[o];refine⟨_,O,r,dr,_,_,O,v,O,_,O,?_⟩;by_cases g:c.aU= .done
   .rw[D,cR g];exact go (by rw[h,cR g];rfl)
   .rw[D,dC g];rw[h,dC g] at f;rw[ar aJ] at f;subst h;refine⟨_,O,r,dr,_,_,O,v,O,x.tk,_,O,.inl (ay.of R.tk),_,O,d,_,O,.inl (ay.of w),_,_,O,O,_,_,O,O,_,O,?_⟩;rw[bu,bu];refine bS (λn=>?_) λn=>?_
    .have n:(1500:Int) < (b.length:Int)+(l.length:Int):=n;refine q.one (cU (a:=LONG) ?_) hA (ao.refl _);rw[f,az (show BYTES<b.length+l.length from(show 1500<b.length+l.length by omega))]
    have n:¬(1500:Int) < (b.length:Int)+(l.length:Int):=n;rw[ar (show ¬BYTES<b.length+l.length from(show ¬1500<b.length+l.length by omega))] at f;have m':nextT ae false b c=aV ae false b c:=by unfold nextT;rw[ar g]
    rw[m'] at C;refine⟨_,O,_,O,_,O,r,d,_,x,ae,b,l,c,ps,O,R,g,C,w,k',af,λk p' H' q' r' u' G e1 I e3 e4 v' kk=>?_⟩
    have w':takes ae b told l=k:=RM.GO t q' r' (u'.imp id λz=>by
     cases e:aV ae false (b++l.take k) c with
     | none=>exact absurd e z
     | some y=>rfl)
    rw[w'] at f
    have y':(last==1)=decide ((last:Int)=1):=by
     rw[eI,fX,cb];omega
    rw[y'] at f;have J:∀e∈x.out,e∉[r,x.tk]:=λe he z=>u e he (by simp only[ed,ij,iX] at z ⊢;rcases z with z | z<;>simp[z]);have hO:cf x.out a H H':=cf.kp hd kk J;have z':H' a=some (.ins CD dx (eC (.ref r) x.rl wr)):=kk _ _ s (J a ha);have A':∀e∈x.out,H' e≠none:=λe he=>G.outs e (by rw[e4];exact he);generalize G':(decide (k=l.length)&&decide ((last:Int)=1))=cl at*;have B':nextT ae cl (b++l.take k) c=aV ae cl (b++l.take k) c:=by unfold nextT;rw[ar g]
    have C':RecAt CD CR CL CT CS CP x.out H' a (.reading ae cl (b++l.take k) told):=⟨ha,A',dx,.ref r,x.rl,wr,z',h1,r,p',c,ps,O,e3,e4,G,(by rw[B',e1,I,e3,e4];exact v'),RM.so t,(by rw[e1,I,e3];exact u)⟩;exact q.ml (cU f) C' hO (ao.refl _)
inductive JO (CD CR CL CT CS CP:Addr)(vs:List V)(H:Hp)(Q:VK)(_:XK):Prop
 | mk (out:List Addr) (a d:Addr) (st:State) (b:Bytes) (_:vs=[.ref a,.ref d]) (_:RecAt CD CR CL CT CS CP out H a st) (_:H d=some (.lst (bV b))) (_:d5 CD CR CL CT CS CP out a H Q (stepI st (.judge b)))
theorem AV (ha:a∈out)(hd:∀e∈out,H e≠none)(d:o3 CL H H' rl ls lp)(h:H' a=some (.ins CD dx (eC .aE rl false)))(b:dt a H H'):RecAt CD CR CL CT CS CP out H' a .empty:=by
 obtain⟨n1,n2,n3,n4,⟨dr,n5⟩,n6,n7⟩:=d;refine⟨ha,λe he=>?_,dx,.aE,rl,false,h,O,O,ls,lp,dr,n5,n6,n7,ht hd n1,ht hd n2,ht hd n3⟩;by_cases z:e=a
 .rw[z,h];simp
 .cases c:H e with
  | none=>exact absurd c (hd e he)
  | some o=>rw[b e o c z];simp
variable (vM:Fn K mg "answer_judge" Br ["record","data"])
variable (lY:aS P w K mg base ba 18 "answer_judge" ["record","data"] (JO CD CR CL CT CS CP))
include ag nN iA vM in
theorem Mg:type_of% lY:=by
 refine bJ vM ["record","data","stop"] ?_;rintro J H vs Q E A n ⟨out,a,d,st,b,rfl,hA,h,q⟩ M N;obtain⟨ha,hd,dx,rd,rl,wr,o,aG⟩:=id hA
 refine⟨_,aj (aZ (aY cQ (bX ag (pv 1)) (aA ag.zd)) (aq (aI (bK (aB (aA ag.xQ))))) a7)
  (aj (bU (aO iA n (aB (pv 0))))
  (aj (aW 2 A (aO nN n (aB (pv 1))))
  (aj (aZ (aY bW (cz cC (pv 2) aL (λ_ _=>rfl)) (aA ag.pQ)) (aq (aI (bK (aB aL)))) a7)
  (aq (aI (aR dJ (bK (aB (aA ag.wK))) (ke j8 (pv 2) (fo aL) K0))))))),?_⟩
 refine hJ ?_
 intros
 refine⟨_,O,d,_,O,.inl (ay.of h),_,_,O,O,_,O,?_⟩;rw[bu]
 have c:ReelCalls.step st (.judge b)=if BYTES<b.length then(st,LONG) else(.empty,match LwReel.fault b with
  | none=>says 0
  | some (k,t,p)=>⟨-8,[n_ k,n_ t,n_ p]⟩):=(O)
 refine bS (λf=>?_) λf=>?_
 .have f:(1500:Int) < (b.length:Int):=f;refine q.one (cU (a:=LONG) ?_) hA (ao.refl _);rw[c,az (show BYTES<b.length from(show 1500<b.length by omega))]
 have f:¬(1500:Int) < (b.length:Int):=f;rw[ar (show ¬BYTES<b.length from(show ¬1500<b.length by omega))] at c;refine⟨_,O,a,dx,rl,rd,wr,O,o,λT ls lp H1 C h1 b1=>?_⟩;have r:RecAt CD CR CL CT CS CP out H1 a .empty:=AV ha hd C h1 b1;have D:cf out a H H1:=cf.but hd b1;have G:H1 d=some (.lst (bV b)):=b1 _ _ h (ef h o (by intro z;cases z));refine⟨_,O,d,b,O,ay.of G,af,λi H2 e s=>?_⟩;have u:=r.same s;have w:cf out a H H2:=D.trans (cf.same r.2.1 s);unfold qc at e
 cases x:LwReel.fault b with
 | none=>
  rw[x] at e c;refine⟨_,O,i,_,_,_,O,O,ay.of e,f_ (j:=0) (v:=V.int 6) (by simp) O,O,_,O,bx (λ_=>?_) λz=>absurd O z⟩
  exact q.ml (cU c) u w (ao.refl _)
 | some y=>
  obtain⟨k,t,p⟩:=y;rw[x] at e c;refine⟨_,O,i,_,_,_,O,O,ay.of e,f_ (j:=0) (v:=V.int 4) (by simp) O,O,_,O,bR ⟨(by show 1<=sizeLine;decide),λl1 n1=>?_⟩⟩;have l:ao H2 (ah H2 l1 (.lst [V.int (-8)])):=a9 n1;have e3:ah H2 l1 (.lst [V.int (-8)]) l1=some (.lst [V.int (-8)]):=au;generalize ah H2 l1 (.lst [V.int (-8)])=g at l e3;refine⟨_,O,_,O,i,_,O,ay.of (l _ _ e),λl2 n2=>?_⟩;have I:fN (([4,(k:Int),(t:Int),(p:Int)]:List Int).map V.int) (some (1:Int)) none=[V.int (k:Int),V.int (t:Int),V.int (p:Int)]:=rfl
  (try dsimp only)
  rw[I];have m:ao g (ah g l2 (.lst [V.int (k:Int),V.int (t:Int),V.int (p:Int)])):=a9 n2;have e4:ah g l2 (.lst [V.int (k:Int),V.int (t:Int),V.int (p:Int)]) l2=some (.lst [V.int (k:Int),V.int (t:Int),V.int (p:Int)]):=au;generalize ah g l2 (.lst [V.int (k:Int),V.int (t:Int),V.int (p:Int)])=U at m e4;refine⟨l1,l2,_,_,O,O,m _ _ e3,e4,(by show 4<=sizeLine;decide),λl3 n3=>?_⟩;rw[cU c] at q;exact q.after u w (l.trans m) l3 n3
inductive Nh (CD CR CL CT CS CP:Addr)(vs:List V)(H:Hp)(Q:VK)(_:XK):Prop
 | mk (out:List Addr) (a:Addr) (st:State) (k:Nat) (_:vs=[.ref a,.int (k:Int)]) (_:RecAt CD CR CL CT CS CP out H a st) (_:d5 CD CR CL CT CS CP out a H Q (stepI st (.stream k)))
variable (rN:Fn K mg "answer_stream" BD ["record","k"])
variable (lT:aS P w K mg base ba 7 "answer_stream" ["record","k"] (Nh CD CR CL CT CS CP))
include ag cO bG cy fV rN in
theorem C0:type_of% lT:=by
 refine bJ rN ["record","k","streams","stream"] ?_;rintro b' H vs Q E p r ⟨out,a,st,k,rfl,hA,q⟩ e' f';obtain⟨ha,hd,dx,rd,rl,wr,D,aG⟩:=id hA;obtain⟨dr,ls,lp,ps,G,f,i',j'⟩:=aG.view
 refine⟨_,aj (aW 2 p (aw bG (aw cy (pv 0))))
  (aj (aZ (aY bW (bX ag (pv 2)) aL) (aq (aI (bK (aB (aA ag.ko))))) a7)
  (aj (aZ (aY jP (pv 1) (bX ag (pv 2))) (aq (aI (bK (aB (aA ag.lL))))) a7)
  (aj (aW 3 p (cz cC (pv 2) (pv 1) (λ_ _=>rfl)))
  (aq (aI (aR dJ (aR dJ (bK (a_ aL (a_ (aw cO (pv 3)) (aF (aw cO (pv 3)) (aw cO (pv 3)))))) (aO fV r (aB (aw cO (pv 3))))) (aO fV r (aB (aw cO (pv 3)))))))))),?_⟩
 refine hJ ?_
 intros
 have b:ReelCalls.step st (.stream k)=(st,match st.streams with
  | none=>NOT
  | some l=>match l[k]? with
   | none=>BAD
   | some x=>tells [n_ x.kind,n_ x.rate.num,n_ x.rate.den,.t x.name,.t x.setup]):=(O)
 refine⟨_,O,a,dx,_,_,O,D,O,rl,dr,_,_,O,G,O,?_⟩
 cases s:st.streams with
 | none=>
  rw[s] at f b;refine⟨_,O,ls,_,O,.inl (ay.of f),O,_,O,bx (λ_=>?_) λz=>absurd O z⟩
  exact q.one (cU b) hA (ao.refl _)
 | some ss=>
  rw[s] at f b;obtain⟨⟨as,h,u,I⟩,h1,k',J⟩:=f;refine⟨_,O,ls,_,O,.inl (ay.of h),O,_,O,?_⟩;rw[aX,u];refine bx (λz=>af) λ_=>⟨_,O,_,O,ls,_,O,.inl (ay.of h),_,_,O,O,_,O,?_⟩;rw[aX,u];refine bS (λd=>?_) λd=>?_
  .have d:(ss.length:Int)<=(k:Int):=d
   (try dsimp only at b)
   rw[nF af] at b;exact q.one (cU b) hA (ao.refl _)
  have d:¬(ss.length:Int)<=(k:Int):=d;have M:k<ss.length:=af;have hx:ss[k]?=some ss[k]:=dy M;have i:as[k]?=some (as[k]'af):=dy af;generalize as[k]'af=c at i;generalize ss[k]=x at hx;have N:=J x (fx hx);obtain⟨_,_,_,l',m'⟩:=mr N
  (try dsimp only at b)
  rw[hx] at b;obtain⟨e,n,m,hc,T,hm⟩:=I k c x i hx;refine⟨_,O,_,O,ls,_,_,_,O,O,ay.of h,f_ (j:=k) (v:=V.ref c) O (by rw[dk,i];rfl),_,O,c,e,_,_,O,hc,O,_,O,c,e,_,_,O,hc,O,_,O,c,e,_,_,O,hc,O,(by show 4<=sizeLine;decide),λl1 n1=>?_⟩;have g:ao H (ah H l1 (.lst [V.int 0,V.int (x.kind:Int),V.int (x.rate.num:Int),V.int (x.rate.den:Int)])):=a9 n1;have e1:ah H l1 (.lst [V.int 0,V.int (x.kind:Int),V.int (x.rate.num:Int),V.int (x.rate.den:Int)]) l1=some (.lst [V.int 0,V.int (x.kind:Int),V.int (x.rate.num:Int),V.int (x.rate.den:Int)]):=au;generalize ah H l1 (.lst [V.int 0,V.int (x.kind:Int),V.int (x.rate.num:Int),V.int (x.rate.den:Int)])=H1 at g e1;refine⟨_,O,c,e,_,_,O,g _ _ hc,O,n,_,O,g _ _ T,by rw[bu];omega,λl2 H2 n2 w y=>⟨l1,l2,_,_,O,O,y _ _ e1,w,?_,λl3 n3=>?_⟩⟩
  .have:=bu x.name;exact bB (m:=1000) (show 4+((bV x.name).length+1)<=1000 by omega) aJ
  have A:ao H2 (ah H2 l3 (.lst ([V.int 0,V.int (x.kind:Int),V.int (x.rate.num:Int),V.int (x.rate.den:Int)]++(V.int ((bV x.name).length:Int)::bV x.name)))):=a9 n3;have e3:ah H2 l3 (.lst ([V.int 0,V.int (x.kind:Int),V.int (x.rate.num:Int),V.int (x.rate.den:Int)]++(V.int ((bV x.name).length:Int)::bV x.name))) l3=some (.lst ([V.int 0,V.int (x.kind:Int),V.int (x.rate.num:Int),V.int (x.rate.den:Int)]++(V.int ((bV x.name).length:Int)::bV x.name))):=au;generalize ah H2 l3 (.lst ([V.int 0,V.int (x.kind:Int),V.int (x.rate.num:Int),V.int (x.rate.den:Int)]++(V.int ((bV x.name).length:Int)::bV x.name)))=U at A e3;have o:ao H U:=(g.trans y).trans A;refine⟨_,O,c,e,_,_,O,o _ _ hc,O,m,_,O,o _ _ hm,by rw[bu];omega,λl4 p' n4 e4 C=>⟨l3,l4,_,_,O,O,C _ _ e3,e4,?_,λY n5=>?_⟩⟩
  .have e1:=bu x.name;have w:=bu x.setup;refine bB (m:=1000) ?_ aJ;rw[aP,bA,bA];show 4+((bV x.name).length+1)+((bV x.setup).length+1)<=1000;omega
  rw[cU b] at q;have:=q.here hA (o.trans C) Y n5
  have he:((tells [n_ x.kind,n_ x.rate.num,n_ x.rate.den,.t x.name,.t x.setup]).code::(tells [n_ x.kind,n_ x.rate.num,n_ x.rate.den,.t x.name,.t x.setup]).told.flatMap toldInts).map V.int
   =[V.int 0,V.int (x.kind:Int),V.int (x.rate.num:Int),V.int (x.rate.den:Int)]++(V.int ((bV x.name).length:Int)::bV x.name)++(V.int ((bV x.setup).length:Int)::bV x.setup):=by
   rw[bu,bu];simp[tells,n_,toldInts,bV,mi,uP]
  rw[he] at this;exact this
inductive Mz (CD CR CL CT CS CP:Addr)(vs:List V)(H:Hp)(Q:VK)(_:XK):Prop
 | mk (out:List Addr) (a:Addr) (st:State) (k:Nat) (t:Int) (_:vs=[.ref a,.int (k:Int),.int t]) (_:RecAt CD CR CL CT CS CP out H a st) (_:d5 CD CR CL CT CS CP out a H Q (stepI st (.find k t)))
variable (rP:Fn K mg "answer_find" Bv ["record","which","time"])
variable (nr:aS P w K mg base ba 7 "answer_find" ["record","which","time"] (Mz CD CR CL CT CS CP))
include ag bG ie mG cy rP in
theorem EL:type_of% nr:=by
 refine bJ rP ["record","which","time","reel","found"] ?_;rintro I H vs Q E r s ⟨out,a,st,k,t,rfl,hA,q⟩ J M;obtain⟨ha,hd,dx,rd,rl,wr,D,aG⟩:=id hA;obtain⟨dr,ls,lp,ps,c,e,h,m⟩:=aG.view
 refine⟨_,aj (aW 3 r (aw cy (pv 0)))
  (aj (aZ (aY bW (bX ag (aw bG (pv 3))) aL) (aq (aI (bK (aB (aA ag.ko))))) a7)
  (aj (aZ (aY jP (pv 1) (bX ag (aw bG (pv 3)))) (aq (aI (bK (aB (aA ag.lL))))) a7)
  (aj (aW 4 r (aO mG s (a_ (aw bG (pv 3)) (aF (pv 1) (pv 2)))))
  (aj (aZ (aY bW (pv 4) (aA ag.wc)) (aq (aI (bK (aB (aA ag.Dz))))) a7)
  (aq (aI (aR dJ (bK (aB (pv 4))) (aO ie s (aB (cz cC (aw bG (pv 3)) (pv 4) (λ_ _=>rfl))))))))))),?_⟩
 refine gA ?_
 intros
 have b:ReelCalls.step st (.find k t)=(st,match st.streams with
  | none=>NOT
  | some l=>if l.length<=k then BAD else match LwReel.seek st.infos k t with
   | none=>NONE
   | some i=>⟨(i:Nat),((st.infos[i]?).map infoTold).getD []⟩):=(O)
 refine⟨_,O,a,dx,_,_,O,D,O,?_⟩
 cases u:st.streams with
 | none=>
  rw[u] at e b;refine⟨_,O,rl,dr,_,_,O,c,O,ls,_,O,.inl (ay.of e),O,_,O,bx (λ_=>?_) λz=>absurd O z⟩
  exact q.one (cU b) hA (ao.refl _)
 | some ss=>
  rw[u] at e b;obtain⟨⟨as,w,x,N⟩,h1,T,U⟩:=e;refine⟨_,O,rl,dr,_,_,O,c,O,ls,_,O,.inl (ay.of w),O,_,O,?_⟩;rw[aX,x];refine bx (λz=>af) λ_=>⟨_,O,_,O,rl,dr,_,_,O,c,O,ls,_,O,.inl (ay.of w),_,_,O,O,_,O,?_⟩;rw[aX,x];refine bS (λd=>?_) λd=>?_
  .have d:(ss.length:Int)<=(k:Int):=d
   (try dsimp only at b)
   rw[az af] at b;exact q.one (cU b) hA (ao.refl _)
  have d:¬(ss.length:Int)<=(k:Int):=d
  (try dsimp only at b)
  rw[ar af] at b;refine⟨_,O,rl,dr,_,_,O,c,O,_,O,_,O,lp,ps,k,t,O,h,λH1 y=>?_⟩;rw[m];refine⟨_,O,O,_,O,?_⟩
  cases n:LwReel.seek st.infos k t with
  | none=>
   rw[n] at b;refine bx (λ_=>?_) λz=>absurd O z
   exact q.one (cU b) hA y
  | some i=>
   rw[n] at b;refine bx (λz=>absurd (tT.mp z) (by simp)) λ_=>?_;have Y:=RM.ES _ st.infos k t i O n;have b':ps.length=st.infos.length:=by rw[<-m,aX]
   have f:ps[i]?=some (ps[i]'af):=dy af;generalize ps[i]'af=p at f;have hi:st.infos[i]?=some p.2:=by rw[<-m,dk,f];rfl
   (try dsimp only at b)
   rw[hi] at b;refine⟨_,O,(by show 1<=sizeLine;decide),λl1 n1=>?_⟩;have G:ll (some i)=(i:Int):=rfl;rw[G];have A:ao H1 (ah H1 l1 (.lst [V.int (i:Int)])):=a9 n1;have C:ah H1 l1 (.lst [V.int (i:Int)]) l1=some (.lst [V.int (i:Int)]):=au;generalize ah H1 l1 (.lst [V.int (i:Int)])=H2 at A C;have g:ao H H2:=y.trans A;refine⟨_,O,rl,dr,_,_,O,g _ _ c,O,_,O,lp,_,_,_,O,O,ay.of (g _ _ h.1),f_ (j:=i) (v:=V.ref p.1) O (by rw[dk,f];rfl),p.1,p.2,O,(h.2 p (fx f)).same g,λl2 n2=>?_⟩;have o:ao H2 (ah H2 l2 (.lst (ni p.2))):=a9 n2;have e3:ah H2 l2 (.lst (ni p.2)) l2=some (.lst (ni p.2)):=au;generalize ah H2 l2 (.lst (ni p.2))=e' at o e3;refine⟨l1,l2,_,_,O,O,o _ _ C,e3,(by show 7<=sizeLine;decide),λl3 n3=>?_⟩;rw[cU b] at q;exact q.here hA (g.trans o) l3 n3
inductive L8 (CD CR CL CT CS CP:Addr)(vs:List V)(H:Hp)(Q:VK)(_:XK):Prop
 | mk (out:List Addr) (a d:Addr) (st:State) (xs:List Nat) (_:vs=[.ref a,.ref d]) (_:RecAt CD CR CL CT CS CP out H a st) (_:H d=some (.lst (nV xs))) (_:xs.length<=300) (_:d5 CD CR CL CT CS CP out a H Q (stepI st (.write xs)))
variable (ug:Fn K mg "answer_write" yL ["record","numbers"])
variable (nG:aS P w K mg base ba 12 "answer_write" ["record","numbers"] (L8 CD CR CL CT CS CP))
include ag bf ey nE fm ug in
theorem DO:type_of% nG:=by
 refine bJ ug ["record","numbers","streams"] ?_;rintro f' H vs Q E u h ⟨out,a,d,st,xs,rfl,hA,v,w,q⟩ i' j';obtain⟨ha,hd,dx,rd,rl,wr,A,aG⟩:=id hA
 refine⟨_,aj (tJ bf O O O
  (λxe pn ax hx k'=>aq (aW 2 u (bI nE hx h (aB (pv 1)))))
  (λe pn=>aq (aI (bK (aB (aA ag.lL))))))
  (aj (bU (aO fm h (a_ (pv 0) (a_ gG (aF (dj ey h (aB (pv 2))) dN)))))
  (aq (aI (bK (aB aL))))),?_⟩
 refine cV ?_
 intros
 have f:=RM.Bq st xs;refine⟨_,O,d,xs,O,v,w,λss ls H1 g C b=>?_,λg k p H1 b=>?_⟩
 .rw[g] at f;obtain⟨D,G,I⟩:=RM.Ld g;refine⟨_,O,_,O,?_⟩;intro x dr nx n l';refine⟨x,dr,ls,O,au,λlp H2 J i M N keep=>⟨O,?_⟩⟩;have o:ao H1 H2:=ao.made nx n keep
  have r:H1 lp=none:=by
   rw[ak J] at i;by_cases z:lp=dr
   .rw[z];exact n
   .rw[ak z] at i;exact i
  have j:ao H H2:=b.trans o
  have T:dO CS (x::lp::out) H1 ls ss:=C.B5 λc hc=>by
   simp only[ed] at hc;rcases hc with rfl | rfl | hc
   .exact .inl nx
   .exact .inl r
   .exact .inr (hd c hc)
  have U:en CL CS CP out H2 x ls lp ss []:=⟨⟨dr,M⟩,T.kp (Kp.same o),N,λp l=>by cases l⟩;have Y:hg CR CL CT CS CP out H2 .aE x true (.writing ss [] 0):=⟨O,O,⟨ls,lp,[],U,O,⟨I,D,G,λy hy=>(by cases hy),b3 _⟩,ht hd (b.free nx),ht hd (b.free r),λp l=>(by cases l)⟩,λy hy=>(by cases hy),(by rw[RM.sf];exact Nat.zero_add _)⟩;refine⟨a,dx,rl,rd,wr,.aE,x,true,O,j _ _ A,λm s k3=>?_⟩
  have t:∀e∈out,m e≠none:=λe he=>by
   by_cases z:e=a
   .rw[z,s];simp
   .rw[k3 e z];exact lx hd j e he
  have b':RecAt CD CR CL CT CS CP out m a (.writing ss [] 0):=⟨ha,t,dx,.aE,x,true,s,Y.kp (pA ha k3) t⟩;have hO:cf out a H m:=(cf.same hd j).trans λc _ e'=>k3 c e';exact q.ml (cU f) b' hO (ao.refl _)
 .rw[g] at f;exact q.one (cU f) hA b
theorem BA (h1: -9007199254740992<=z)(h2:z<=9007199254740992):zig z<2 ^ 64:=by
 unfold zig;split<;>omega
theorem D3 (h:∀x∈aK,mq x): -1125899906842624<=cv aK k/\cv aK k<=1125899906842624:=by
 unfold cv
 cases e:lastOf aK k with
 | none=>exact⟨aJ,aJ⟩
 | some x=>
  unfold lastOf at e;have:=(h x (List.mem_filter.mp (mc e)).1).tm;show -1125899906842624<=x.time/\x.time<=1125899906842624;omega
theorem zj:∀(l aK:List Info),(∀x∈aK,mq x)->(∀x∈l,mq x)->∀n∈dA aK l,n<2 ^ 64
 | [],_,_,_,n,a=>by cases a
 | x::r,aK,b,c,n,a=>by
  have hx:=c x cq;have d:=D3 (k:=x.stream) b;have a:n∈[x.stream,zig (x.time - cv aK x.stream),x.lasts,x.flags,x.size]++dA (aK++[x]) r:=a;rcases List.mem_append.mp a with z | z
  .simp only[ed,ij,iX] at z;have h1:=hx.st;have h2:=hx.tm;have e:=hx.ln;have f:=hx.fl;have g:=hx.sz;rcases z with z | z | z | z | z
   .omega
   .rw[z];exact BA af af
   .omega
   .omega
   .omega
  .refine zj r (aK++[x]) (λy hy=>?_) (λy hy=>c y (dw _ hy)) n z;rcases List.mem_append.mp hy with w | w
   .exact b y w
   .rw[List.mem_singleton.mp w];exact hx
theorem Gi {l:List Info}(h:∀x∈l,mq x)(b:l.length<=16):∀n∈eb l,n<2 ^ 64:=λn a=>by
 have a:n∈l.length::dA [] l:=a;rcases List.mem_cons.mp a with z | z
 .omega
 .exact zj l [] (λx hx=>by cases hx) h n z
theorem BY {l:List Info}(a:l.length<=16)(pl:Nat):(indexBody l pl).length<=900:=by
 rw[RM.uU,aP,aP,fK];have h1:=rH l;have h2:=kQ (eb l);have b:(LwReel.MARK++[0x2E]).length=4:=rfl;omega
theorem Bz (b:Bytes):((tells [.t b]).code::(tells [.t b]).told.flatMap toldInts).map V.int=[V.int 0]++(V.int ((bV b).length:Int)::bV b):=by
 rw[bu];simp[tells,toldInts,bV,mi,uP]
inductive Gr (CD CR CL CT CS CP:Addr)(vs:List V)(H:Hp)(Q:VK)(_:XK):Prop
 | mk (out:List Addr) (a:Addr) (st:State) (_:vs=[.ref a]) (_:RecAt CD CR CL CT CS CP out H a st) (_:d5 CD CR CL CT CS CP out a H Q (stepI st .end_))
variable (rT:Fn K mg "answer_end" xC ["record"])
variable (l9:aS P w K mg base ba 13 "answer_end" ["record"] (Gr CD CR CL CT CS CP))
include ag nf cy fV rT in
theorem Lo:type_of% l9:=by
 refine bJ rT ["record"] ?_;rintro J H vs Q E M j ⟨out,a,st,rfl,hA,q⟩ N T;obtain⟨ha,hd,dx,rd,rl,wr,k,aG⟩:=id hA
 refine⟨_,aj (aZ (m7 (d2 (aw cy (pv 0)))) (aq (aI (bK (aB (aA ag.ko))))) a7)
  (aj (bz cy (pv 0) dN)
  (aq (aI (aR dJ (bK (aB aL)) (aO fV j (aB (aO nf j (aB (aw cy (pv 0)))))))))),?_⟩
 refine cV ?_
 intros
 refine⟨_,O,a,dx,_,_,O,k,O,_,O,?_⟩
 cases st with
 | empty=>obtain⟨h1,h2,_⟩:=aG;subst h2;exact q.one O hA (ao.refl _)
 | known ss d=>obtain⟨h1,h2,_⟩:=aG;subst h2;exact q.one O hA (ao.refl _)
 | reading ae over b told=>obtain⟨h2,_⟩:=aG;subst h2;exact q.one O hA (ao.refl _)
 | writing ss d long=>
  obtain⟨h1,h2,u,v,w⟩:=aG;subst h1;subst h2;have l:ReelCalls.step (.writing ss d long) .end_=(.known ss d,tells [.t (ReelCalls.before ss d++LwReel.box INDEX (indexBody d (long+(ReelCalls.before ss d).length)))]):=(O);rw[w] at l;refine⟨_,O,a,dx,_,O,k,lk,?_⟩;have x:bM "writes" (V.bl false) (eC .aE rl true)=eC .aE rl false:=rfl;rw[x];have h1:ah H a (.ins CD dx (eC .aE rl false)) a=some (.ins CD dx (eC .aE rl false)):=au;have k1:∀c,c≠a->ah H a (.ins CD dx (eC .aE rl false)) c=H c:=λc hc=>ak hc;generalize ah H a (.ins CD dx (eC .aE rl false))=H1 at h1 k1
  have y:∀e∈out,H1 e≠none:=λe he=>by
   by_cases z:e=a
   .rw[z,h1];simp
   .rw[k1 e z];exact hd e he
  have n:=u.kp (pA ha k1);have A:RecAt CD CR CL CT CS CP out H1 a (.known ss d):=⟨ha,y,dx,.aE,rl,false,h1,O,O,n⟩;have C:cf out a H H1:=λc _ D=>k1 c D;refine⟨(by show 1<=sizeLine;decide),λl1 n1=>?_⟩;have f:ao H1 (ah H1 l1 (.lst [V.int 0])):=a9 n1;have o:ah H1 l1 (.lst [V.int 0]) l1=some (.lst [V.int 0]):=au;generalize ah H1 l1 (.lst [V.int 0])=H2 at f o;obtain⟨ls,lp,ps,X,g,h,_,_,_⟩:=n;have p:=h.eH;refine⟨_,O,a,dx,_,_,O,f _ _ h1,O,rl,ss,ps,O,(X.same f).at_,by rw[g];exact h,by rw[g];exact Gi v p,λl3 U n3 e3 r=>?_⟩;rw[g] at e3;have Y:=l_ h;have b':=BY p (cg ss d);generalize G:ReelCalls.before ss d++LwReel.box INDEX (indexBody d (cg ss d))=i at*;have e':i.length<=2000:=by rw[<-G,aP,hV];omega
  refine⟨l3,_,O,e3,by rw[bu];omega,λl4 f' n4 e4 s=>⟨l1,l4,_,_,O,O,s _ _ (r _ _ o),e4,?_,λI n5=>?_⟩⟩
  .have:=bu i;exact bB (m:=3000) (show 1+((bV i).length+1)<=3000 by omega) aJ
  rw[cU l] at q;have:=q.after A C ((f.trans r).trans s) I n5;rw[Bz] at this;exact this
inductive GA (CD CR CL CT CS CP:Addr)(vs:List V)(H:Hp)(Q:VK)(_:XK):Prop
 | mk (out:List Addr) (a pa:Addr) (st:State) (p:LwReel.Part) (H0:Hp) (_:vs=[.ref a,.ref pa]) (_:RecAt CD CR CL CT CS CP out H0 a st) (_:H0 pa=none) (_:Kp out H0 H) (_:H a=H0 a) (_:(∀e∈out,H e≠none)) (_:gj CP H pa p 0) (_:ki (p.info 0)) (_:p.bytes.length<=3000) (_:d5 CD CR CL CT CS CP out a H Q (stepI st (.put p.stream p.flags p.time p.lasts p.bytes)))
variable (r2:Fn K mg "answer_put" zW ["record","part"])
variable (mO:aS P w K mg base ba 13 "answer_put" ["record","part"] (GA CD CR CL CT CS CP))
include ag bG m9 mX cy fV r2 in
theorem JZ:type_of% mO:=by
 refine bJ r2 ["record","part"] ?_;rintro S' H vs Q E T' C ⟨out,a,h,st,p,H0,rfl,l',T,l,m',hd,D,i,p',q⟩ U' V';obtain⟨ha,q',dx,rd,rl,wr,r',U⟩:=id l';have j:H a=some (.ins CD dx (eC rd rl wr)):=m'.trans r';have aG:=U.kp l hd;have hA:RecAt CD CR CL CT CS CP out H a st:=⟨ha,hd,dx,rd,rl,wr,j,aG⟩
 refine⟨_,aj (aZ (m7 (d2 (aw cy (pv 0)))) (aq (aI (bK (aB (aA ag.ko))))) a7)
  (aj (aZ (m7 (d2 (aO m9 C (aF (aw cy (pv 0)) (pv 1))))) (aq (aI (bK (aB (aA ag.lL))))) a7)
  (aj (aZ (aY bW (bX ag (aw bG (aw cy (pv 0)))) (aA ag.vT)) (aq (aI (bK (aB (aA ag.Mu))))) a7)
  (aq (aI (aR dJ (bK (aB aL)) (aO fV C (aB (aO mX C (aF (aw cy (pv 0)) (pv 1)))))))))),?_⟩
 refine iT ?_
 intros
 refine⟨_,O,a,dx,_,_,O,j,O,_,O,?_⟩
 cases st with
 | empty=>obtain⟨h1,h2,_⟩:=aG;subst h2;exact q.one O hA (ao.refl _)
 | known ss d=>obtain⟨h1,h2,_⟩:=aG;subst h2;exact q.one O hA (ao.refl _)
 | reading ae over b told=>obtain⟨h2,_⟩:=aG;subst h2;exact q.one O hA (ao.refl _)
 | writing ss d long=>
  obtain⟨h1,h2,u',v',w'⟩:=U;subst h1;subst h2
  have g:ReelCalls.step (.writing ss d long) (.put p.stream p.flags p.time p.lasts p.bytes)=if MOST<p.body.length∨okPart ss d p.stream p.flags p.time p.lasts=false then(.writing ss d long,BAD) else if PARTS<=d.length then(.writing ss d long,MANY) else
   (.writing ss (d++[p.info (long+(ReelCalls.before ss d).length)]) (long+(ReelCalls.before ss d++LwReel.box PART p.body).length),tells [.t (ReelCalls.before ss d++LwReel.box PART p.body)]):=(O)
  obtain⟨ls,lp,ps,n,r,f,n1,n2,n3⟩:=id u';have Y:h∉out:=ht q' T
  have y':h∉ps.map (·.1):=λz=>by
   obtain⟨y,hy,e⟩:=List.mem_map.mp z;obtain⟨z',A',s⟩:=n.de y hy;rw[e,T] at s;cases s
  have X:en CL CS CP out H rl ls lp ss ps:=⟨let ⟨dr,z⟩:=n.ins;⟨dr,l _ _ z n1⟩,n.str.kp (l.mono λc hc=>by simp[hc]),l _ _ n.cY n2,λp b'=>let ⟨dx,dl,z⟩:=n.de p b';⟨dx,dl,l _ _ z (n3 p b')⟩⟩;have e':eX ss (ps.map (·.2)):=by rw[r];exact f
  refine⟨_,O,a,dx,_,_,O,j,O,_,O,rl,h,ss,ps,p,O,X.at_,e',D,i,p',λH1 k=>⟨_,O,?_⟩⟩;rw[r]
  cases w:kK ss d p with
  | false=>
   have:MOST<p.body.length∨okPart ss d p.stream p.flags p.time p.lasts=false:=by
    unfold kK at w;rcases Bool.and_eq_false_iff.mp w with z | z
    .exact .inl (by have:=u7 z;show 600<_;omega)
    .exact .inr z
   rw[az this] at g
   exact q.one (cU g) hA k
  | true=>
   unfold kK at w;obtain⟨m1,m2⟩:=Bool.and_eq_true_iff.mp w;have m1:p.body.length<=600:=dS m1
   rw[ar (λz=>by
    rcases z with z | z
    .have z:600<p.body.length:=z;omega
    .rw[m2] at z;cases z)] at g
   have x:=X.same k;obtain⟨dr,B'⟩:=x.ins;refine⟨_,O,a,dx,_,_,O,k _ _ j,O,rl,dr,_,_,O,B',O,lp,_,O,.inl (ay.of x.cY),O,_,O,?_⟩;have C':ps.length=d.length:=by rw[<-r,aX]
   rw[aX,C'];have W':=f.eH;refine bx (λu=>?_) λu=>?_
   .have u:(d.length:Int)=16:=u;rw[az (show PARTS<=d.length from(show 16<=d.length by omega))] at g;exact q.one (cU g) hA k
   have u:¬(d.length:Int)=16:=u;rw[ar (show ¬PARTS<=d.length from(show ¬16<=d.length by omega)),w'] at g;refine⟨(by show 1<=sizeLine;decide),λl1 G=>?_⟩;have I:ao H1 (ah H1 l1 (.lst [V.int 0])):=a9 G;have s:ah H1 l1 (.lst [V.int 0]) l1=some (.lst [V.int 0]):=au;generalize ah H1 l1 (.lst [V.int 0])=H2 at I s;have v:ao H H2:=k.trans I;have D':=x.same I;refine⟨_,O,a,dx,_,_,O,v _ _ j,O,_,O,out,rl,h,ls,lp,ss,ps,p,O,D',e',D.same v,i,m1,y',λl3 A e3 X' f' k3=>?_⟩;rw[r] at e3 f'
   have J:∀e∈out,e∉[h,lp]:=λe he z=>by
    simp only[ed,ij,iX] at z;rcases z with z | z
    .rw[z] at he;exact Y he
    .rw[z] at he;exact n2 he
   have i':=lx hd v;have E':cf out a H A:=(cf.same hd v).trans (cf.kp i' k3 J)
   have F':∀e∈out,A e≠none:=λe he z=>by
    cases e4:H2 e with
    | none=>exact i' e he e4
    | some o=>rw[k3 e o e4 (J e he)] at z;cases z
   have Y':p.body.length=gb (p.info (cg ss d))+p.bytes.length:=by
    rw[xu p (cg ss d),aP];rfl
   have M:okPart ss d p.stream p.flags p.time p.lasts=true:=m2;unfold okPart at M;simp only[cH,dz] at M;obtain⟨k1,k2,G',k5,_⟩:=M;have I':=f.four;have J':mq (p.info (cg ss d)):=⟨cc k1 I',kr.mp k2,G',k5,by show p.bytes.length<=600;omega⟩
   have K':eX ss (d++[p.info (cg ss d)]):=⟨f.right,f.one,f.four,λy hy=>by
    rcases List.mem_append.mp hy with z | z
    .exact f.parts y z
    .rw[List.mem_singleton.mp z]
     exact⟨⟨i.st,i.tm,i.ln,i.fl⟩,k1,kr.mp k2,by show p.flags<256;omega⟩,by rw[aP];show _+1<=16;omega⟩
   have L':ReelCalls.before ss (d++[p.info (cg ss d)])=[]:=by
    unfold ReelCalls.before;rw[ar];rw[vQ];intro z;have:=da List.length z;rw[aP] at this;simp at this
   have M':(long+(ReelCalls.before ss d++LwReel.box PART p.body).length)+(ReelCalls.before ss (d++[p.info (cg ss d)])).length=cg ss (d++[p.info (cg ss d)]):=by
    rw[L',RM.yk,aP,hV];show long+(_+(16+p.body.length))+0=cg ss d+16+gb (p.info (cg ss d))+p.bytes.length;omega
   have N':RecAt CD CR CL CT CS CP out A a (.writing ss (d++[p.info (cg ss d)]) (long+(ReelCalls.before ss d++LwReel.box PART p.body).length)):=
    ⟨ha,F',dx,.aE,rl,true,k3 _ _ (v _ _ j) (J a ha),O,O,⟨ls,lp,_,f',by rw[cj,r];rfl,K',n1,n2,λy hy=>by
     rcases List.mem_append.mp hy with z | z
     .exact n3 y z
     .rw[List.mem_singleton.mp z];exact Y⟩,λy hy=>by
     rcases List.mem_append.mp hy with z | z
     .exact v' y z
     .rw[List.mem_singleton.mp z];exact J',M'⟩
   have Z':=l_ f;generalize O':ReelCalls.before ss d++LwReel.box PART p.body=N at*;have _a:N.length<=2000:=by rw[<-O',aP,hV];omega
   have j':l1≠h/\l1≠lp:=⟨λz=>(by obtain⟨z',A',e,_⟩:=D.same k;rw[<-z,G] at e;cases e),λz=>(by have e:=x.cY;rw[<-z,G] at e;cases e)⟩;have P':A l1=some (.lst [V.int 0]):=k3 _ _ s (by simp[j'.1,j'.2]);refine⟨l3,_,O,e3,by rw[bu];omega,λl4 _b n4 e4 k'=>⟨l1,l4,_,_,O,O,k' _ _ P',e4,?_,λR' n5=>?_⟩⟩
   .have:=bu N;exact bB (m:=3000) (show 1+((bV N).length+1)<=3000 by omega) aJ
   rw[cU g] at q;have:=q.after N' E' k' R' n5;rw[Bz] at this;exact this
inductive Iq (CD CR CL CT CS CP:Addr)(vs:List V)(H:Hp)(Q:VK)(_:XK):Prop
 | mk (out:List Addr) (a d:Addr) (st:State) (b:Bytes) (_:vs=[.ref a,.ref d]) (_:RecAt CD CR CL CT CS CP out H a st) (_:H d=some (.lst (bV b))) (_:b.length<=3000) (_:d5 CD CR CL CT CS CP out a H Q (stepI st (.seek b)))
variable (uk:Fn K mg "answer_seek" wW ["record","data"])
variable (mI:aS P w K mg base ba 14 "answer_seek" ["record","data"] (Iq CD CR CL CT CS CP))
include ag d7 mf fm iA uk in
theorem EB:type_of% mI:=by
 refine bJ uk ["record","data"] ?_;rintro T H vs Q E U i ⟨out,a,d,st,b,rfl,hA,m,t,q⟩ Y b';obtain⟨ha,hd,dx,rd,rl,wr,n,aG⟩:=id hA
 refine⟨_,aj (bU (aO iA i (aB (pv 0))))
  (aj (LF d7 O O O
   (λxe pn an u e'=>aq (bU (aO fm i (a_ (pv 0) (a_ gG (aF (vI mf u (i.mono aJ) O (aB (pv 1))) dN))))))
   (λe pn=>aq (aI (bK (aB (aA ag.wK))))))
  (aq (aI (bK (aB aL))))),?_⟩
 refine cV ?_
 intros
 have f:ReelCalls.step st (.seek b)=(match byIndex b with
  | none=>(.empty,FAULT)
  | some x=>(.known x.1 x.2,says 0)):=(O)
 rw[RM.L_] at f;refine⟨_,O,a,dx,rl,rd,wr,O,n,λv f' i' H1 w h1 b1=>?_⟩;have g:RecAt CD CR CL CT CS CP out H1 a .empty:=AV ha hd w h1 b1;have o:cf out a H H1:=cf.but hd b1;have y:H1 d=some (.lst (bV b)):=b1 _ _ m (ef m n (by intro z;cases z));refine⟨_,O,_,O,out,d,b,O,g.2.1,y,t,λr ls lp ss ps H2 j X A h C=>?_,λj H2 h=>?_⟩
 .rw[j] at f;refine⟨a,dx,v,.aE,false,.aE,r,false,O,h _ _ h1,λk s k3=>?_⟩;have l:∀c∈r::lp::ps.map (·.1),c∉out:=λc hc=>ht g.2.1 (C c hc);have D:HeldAt CL CS CP out H2 r ss (ps.map (·.2)):=⟨ls,lp,ps,X,O,A,l r (by simp),l lp (by simp),λp G=>l p.1 (by simp only[ed];exact .inr (.inr (i6 G)))⟩
  have I:∀e∈out,k e≠none:=λe he=>by
   by_cases z:e=a
   .rw[z,s];simp
   .rw[k3 e z];exact lx g.2.1 h e he
  have J:RecAt CD CR CL CT CS CP out k a (.known ss (ps.map (·.2))):=⟨ha,I,dx,.aE,r,false,s,O,O,D.kp (pA ha k3)⟩;have M:cf out a H k:=(o.trans (cf.same g.2.1 h)).trans λc _ N=>k3 c N;exact q.ml (cU f) J M (ao.refl _)
 .rw[j] at f;exact q.ml (cU f) g o h
theorem HD {X:Cx}{st:Stmt}:PS X st (λ_ _ _=>False):=λ_ _ _ _ _ _ h=>h.elim
theorem kN (h:natural z n=true):V.int z=V.int ((z.toNat:Nat):Int)/\z<2 ^ n:=by
 unfold natural at h;obtain⟨h1,h2⟩:=Bool.and_eq_true_iff.mp h;have h1:=dS h1;exact⟨by rw[qO h1],dS h2⟩
theorem oq {lo:Int}(h:ReelNeutral.long u n lo hi=true):u.length<=n/\∀z∈u,lo<=z/\z<=hi:=by
 unfold ReelNeutral.long at h;obtain⟨h1,h2⟩:=Bool.and_eq_true_iff.mp h;refine⟨dS h1,λz a=>?_⟩;obtain⟨b,c⟩:=Bool.and_eq_true_iff.mp (List.all_eq_true.mp h2 z a);exact⟨dS b,dS c⟩
theorem p8 (h:∀z∈u,0<=z/\z<=255):u.map V.int=bV (ReelNeutral.bytes u):=by
 unfold bV ReelNeutral.bytes;rw[mi];refine rh λz a=>?_;have h1:=h z a
 have h2:(UInt8.ofNat z.toNat).toNat=z.toNat:=by
  rw[UInt8.toNat_ofNat'];exact pV af
 show V.int z=V.int (((UInt8.ofNat z.toNat).toNat:Nat):Int);rw[h2,qO h1.1]
theorem tR (u:List Int):(ReelNeutral.bytes u).length=u.length:=by
 unfold ReelNeutral.bytes;rw[aX]
theorem LL (h:∀z∈u,0<=z/\z<=hi):u.map V.int=nV (nats u):=by
 unfold nV nats;rw[mi];refine rh λz a=>?_;show V.int z=V.int ((z.toNat:Nat):Int);rw[qO (h z a).1]
theorem fj {l:List Int}(h:xs.drop n=l)(i:Nat):xs[n+i]?=l[i]?:=by rw[<-h,vN]
theorem hj {l:List Int}(h:xs.drop n=l)(i:Nat):xs.drop (n+i)=l.drop i:=by rw[<-h,fv]
theorem o2 {a t:List Int}(h:xs.drop n=a++t)(hm:a.length=m):(xs.drop n).take m=a/\xs.drop (n+m)=t/\(n<=xs.length->n+m<=xs.length):=by
 refine⟨by rw[h,<-hm,List.take_left],by rw[hj h,<-hm,List.drop_left],λb=>?_⟩;have:=da List.length h;rw[bQ,aP] at this;omega
noncomputable def pD (K:Frag)(out:List Addr)(a cu d:Addr)(ys:List V):Prop:=(d∈out/\d≠a/\d≠cu)∨∀H,ay K H d ys
theorem pD.keep (s:pD K out a cu d ys)(h:ay K H d ys)(o:∀e∈out,e≠a->e≠cu->H' e=H e):ay K H' d ys:=by
 rcases s with⟨b,c,f⟩ | s
 .have e:=o d b c f;rcases h with(h | ⟨g,h⟩) | h
  .exact .inl (.inl (e.trans h))
  .exact .inl (.inr ⟨g,e.trans h⟩)
  .exact .inr h
 .exact s H'
theorem RecAt.moved (h:RecAt CD CR CL CT CS CP out H a st)(hc:cu∈out)(g:a≠cu)(b:dt cu H H')(hd:H' cu≠none):RecAt CD CR CL CT CS CP out H' a st:=by
 obtain⟨h1,h2,dx,rd,rl,wr,i,j⟩:=h
 have d:∀e∈out,H' e≠none:=λe he=>by
  by_cases z:e=cu
  .rw[z];exact hd
  .cases f:H e with
   | none=>exact absurd f (h2 e he)
   | some o=>rw[b e o f z];simp
 exact⟨h1,d,dx,rd,rl,wr,b _ _ i g,j.kp (λc o e n=>b c o e λz=>n (by rw[z];exact hc)) d⟩
theorem fU.some (h:fU K CC H cu d xs n):H cu≠none:=by
 obtain⟨⟨dx,h⟩,_⟩:=h;rw[h];simp
inductive GL (K:Frag)(CC CD CR CL CT CS CP:Addr)(vs:List V)(H:Hp)(Q:VK)(_:XK):Prop
 | mk (out:List Addr) (a cu d:Addr) (st:State) (xs:List Int) (n:Nat) (c:List (List Int)) (t:List Int) (_:vs=[.ref a,.ref cu]) (_:RecAt CD CR CL CT CS CP out H a st) (_:cu∈out) (_:pD K out a cu d (xs.map V.int)) (_:fU K CC H cu d xs n) (_:n<=xs.length) (_:e0 (xs.drop n) c t) (_:asked1 c=true) (_:∀l H' n',H' l=some (.lst ((ReelNeutral.step st c).2.map V.int))->l∉out->RecAt CD CR CL CT CS CP out H' a (ReelNeutral.step st c).1->fU K CC H' cu d xs n'->n'<=xs.length->xs.drop n'=t->(∀e∈out,e≠a->e≠cu->H' e=H e)->Q (.ref l) H')
variable (uc:Fn K mg "answer_call" za ["record","cursor"])
variable (mR:aS P w K mg base ba 20 "answer_call" ["record","cursor"] (GL K CC CD CR CL CT CS CP))
include ag dZ gE nc nK m8 nh lY lT nr nG l9 mO mI uc in
theorem H4:type_of% mR:=by
 refine bJ uc ["record","cursor","call","last","which"] ?_;rintro _a H vs Q E y' j ⟨out,a,cu,d,st,xs,n,c,t,rfl,hA,N,J',Y,_b,D',hask,q⟩ _c _d
 refine⟨_,aj (aW 2 y' (aO dZ j (aB (pv 1))))
  (aj (aZ (aY bW (pv 2) (aA ag.JB)) (aq (aI (aO lY j (aF (pv 0) (aO gE j (aB (pv 1))))))) a7)
  (aj (aZ (aY bW (pv 2) (aA ag.Dm)) (aq (aI (aO m8 j (aF (pv 0) (aO dZ j (aB (pv 1))))))) a7)
  (aj (aZ (aY bW (pv 2) (aA ag.DA)) (aj (aW 3 y' (aO dZ j (aB (pv 1)))) (aq (aI (aO nh j (a_ (pv 0) (aF (pv 3) (aO gE j (aB (pv 1))))))))) a7)
  (aj (aZ (aY bW (pv 2) (aA ag.DP)) (aq (aI (aO nK j (aB (pv 0))))) a7)
  (aj (aZ (aY bW (pv 2) (aA ag.Ez)) (aq (aI (aO lT j (aF (pv 0) (aO dZ j (aB (pv 1))))))) a7)
  (aj (aZ (aY bW (pv 2) (aA ag.MK)) (aj (aW 4 y' (aO dZ j (aB (pv 1)))) (aq (aI (aO nr j (a_ (pv 0) (aF (pv 4) (aO dZ j (aB (pv 1))))))))) a7)
  (aj (aZ (aY bW (pv 2) (aA ag.Ef)) (aq (aI (aO nG j (aF (pv 0) (aO gE j (aB (pv 1))))))) a7)
  (aj (aZ (aY bW (pv 2) (aA ag.JE)) (aq (aI (aO mO j (aF (pv 0) (aO nc j (aB (pv 1))))))) a7)
  (aj (aZ (aY bW (pv 2) (aA ag.ET)) (aq (aI (aO l9 j (aB (pv 0))))) a7)
  (aj (aZ (aY bW (pv 2) (aA ag.KL)) (aq (aI (aO mI j (aF (pv 0) (aO gE j (aB (pv 1))))))) a7)
  (aq HD))))))))))),?_⟩
 refine KN ?_
 intros
 have T:a≠cu:=by
  obtain⟨_,_,dx,rd,rl,wr,e,_⟩:=id hA;obtain⟨⟨E',w⟩,_⟩:=id Y;exact ef e w (by intro z;cases z)
 have fin:∀{w':Hp} {q':Nat},fU K CC w' cu d xs q'->q'<=xs.length->xs.drop q'=t->(∀e∈out,e≠cu->w' e=H e)->d5 CD CR CL CT CS CP out a w' Q (ReelNeutral.step st c):=λ{w' q'} C K' L' hk l H' e1 w e3 e4=>by
  refine q l H' q' e1 w e3 ?_ K' L' λe he z' M'=>(e4 e he z').trans (hk e he M');obtain⟨⟨E',G⟩,I⟩:=C;exact⟨⟨E',(e4 cu N T.symm).trans G⟩,J'.keep I λe he z' _=>e4 e he z'⟩
 have N':=hA.2.1
 have e':∀{x},callOf c=some x->ReelNeutral.step st c=stepI st x:=λ{x} e=>by
  unfold ReelNeutral.step;rw[e];rfl
 have U:∀{H1:Hp},dt cu H H1->∀e∈out,e≠cu->H1 e=H e:=λ{H1} b e he z=>by
  cases w:H e with
  | none=>exact absurd w (N' e he)
  | some o=>exact b e o w z
 generalize f:xs.drop n=l at D';have A:n+l.length=xs.length:=by rw[<-f,bQ];omega
 have f':∀{v r},l=v::r->xs[n]?=some v:=λ{v r} e=>by
  have:=fj f 0;rw[e] at this;exact this
 have b1:∀{H1:Hp},(∀c,c≠cu->H1 c=H c)->dt cu H H1:=λ{H1} k c o e z=>by rw[k c z];exact e
 cases D' with
 | judge m g t hm=>
  refine⟨_,O,cu,d,xs,n,_,O,Y,f' O,λH1 h k1=>?_⟩;have p:=b1 k1;refine⟨_,O,O,_,O,bx (λ_=>?_) λz=>absurd O z⟩;have i':xs.drop (n+1+1)=g++t:=hj f 2;obtain⟨j',k',M⟩:=o2 i' hm;have A:n+(g++t).length+2=xs.length:=by simp only[bA] at A;omega
  refine⟨_,O,_,O,cu,d,xs,n+1,m,O,h,fj f 1,M af,λl2 H2 F' w i l'=>?_⟩;rw[j'] at w;have D:dt cu H H2:=λc o e z=>l' c o (p c o e z) z;have A2:=hA.moved N T D i.some;have J:=fin i (M af) k' (U D);obtain⟨G,I⟩:=oq (u:=g) (n:=3000) (lo:=0) (hi:=255) hask;rw[p8 I] at w;rw[e' O] at J
  exact⟨out,a,l2,st,_,O,A2,w,J⟩
 | read x t=>
  refine⟨_,O,cu,d,xs,n,_,O,Y,f' O,λH1 h k1=>?_⟩;have p:=b1 k1;refine⟨_,O,O,_,O,bR ⟨_,O,O,_,O,bx (λ_=>?_) λz=>absurd O z⟩⟩;refine⟨_,O,_,O,cu,d,xs,n+1,_,O,h,fj f 1,λH2 i k2=>?_⟩;have D:dt cu H H2:=λc o e z=>by rw[k2 c z];exact p c o e z
  have A2:=hA.moved N T D i.some;have A:n+t.length+2=xs.length:=by simp only[bA] at A;omega
  have J:=fin i af (hj f 2) (U D);obtain⟨G,I⟩:=kN (z:=x) (n:=53) hask;rw[e' O] at J
  exact⟨out,a,st,x.toNat,by rw[G];rfl,A2,J⟩
 | feed x m g t hm=>
  refine⟨_,O,cu,d,xs,n,_,O,Y,f' O,λH1 h k1=>?_⟩;have p:=b1 k1;refine⟨_,O,O,_,O,bR ⟨_,O,O,_,O,bR ⟨_,O,O,_,O,bx (λ_=>?_) λz=>absurd O z⟩⟩⟩;obtain⟨b',G⟩:=Bool.and_eq_true_iff.mp (show(natural x 53&&ReelNeutral.long g 3000 0 255)=true from hask);have b':=(kN b').1;obtain⟨G,I⟩:=oq G;refine⟨_,O,cu,d,xs,n+1,_,O,h,fj f 1,λH2 i k2=>?_⟩;have i':xs.drop (n+1+1+1)=g++t:=hj f 3;obtain⟨j',k',M⟩:=o2 i' hm;have A:n+(g++t).length+3=xs.length:=by simp only[bA] at A;omega
  refine⟨_,O,_,O,_,O,cu,d,xs,n+1+1,m,O,i,fj f 2,M af,λl3 A' B' e3 r' O'=>?_⟩;rw[j',p8 I] at e3;have m':dt cu H A':=λc o e z=>O' c o (by rw[k2 c z];exact p c o e z) z;have A3:=hA.moved N T m' r'.some;have u':=fin r' (M af) k' (U m');rw[e' O] at u';have G':l3≠cu:=λz=>by rw[z] at B';exact i.some B'
  have P':H l3=none:=by rw[<-k1 l3 G',<-k2 l3 G'];exact B'
  refine⟨out,a,l3,st,x.toNat,_,H,by rw[b'];rfl,hA,P',λc o e z=>m' c o e λy=>z (by rw[y];exact N),U m' a hA.1 T,A3.2.1,e3,u'⟩
 | next t=>
  refine⟨_,O,cu,d,xs,n,_,O,Y,f' O,λH1 h k1=>?_⟩;have p:=b1 k1;refine⟨_,O,O,_,O,bR ⟨_,O,O,_,O,bR ⟨_,O,O,_,O,bR ⟨_,O,O,_,O,bx (λ_=>?_) λz=>absurd O z⟩⟩⟩⟩;have A:n+t.length+1=xs.length:=by simp only[bA] at A;omega
  have A1:=hA.moved N T p h.some;have v':=fin h af (hj f 1) (U p);rw[e' O] at v'
  exact⟨_,O,out,a,st,O,A1,v'⟩
 | stream x t=>
  refine⟨_,O,cu,d,xs,n,_,O,Y,f' O,λH1 h k1=>?_⟩;have p:=b1 k1;refine⟨_,O,O,_,O,bR ⟨_,O,O,_,O,bR ⟨_,O,O,_,O,bR ⟨_,O,O,_,O,bR ⟨_,O,O,_,O,bx (λ_=>?_) λz=>absurd O z⟩⟩⟩⟩⟩;refine⟨_,O,_,O,cu,d,xs,n+1,_,O,h,fj f 1,λH2 i k2=>?_⟩;have D:dt cu H H2:=λc o e z=>by rw[k2 c z];exact p c o e z
  have A2:=hA.moved N T D i.some;have A:n+t.length+2=xs.length:=by simp only[bA] at A;omega
  have J:=fin i af (hj f 2) (U D);obtain⟨G,I⟩:=kN (z:=x) (n:=53) hask;rw[e' O] at J
  exact⟨out,a,st,x.toNat,by rw[G];rfl,A2,J⟩
 | find x tm t=>
  refine⟨_,O,cu,d,xs,n,_,O,Y,f' O,λH1 h k1=>?_⟩;have p:=b1 k1;refine⟨_,O,O,_,O,bR ⟨_,O,O,_,O,bR ⟨_,O,O,_,O,bR ⟨_,O,O,_,O,bR ⟨_,O,O,_,O,bR ⟨_,O,O,_,O,bx (λ_=>?_) λz=>absurd O z⟩⟩⟩⟩⟩⟩;obtain⟨b',G⟩:=Bool.and_eq_true_iff.mp (show(natural x 53&&whole53 tm)=true from hask);have b':=(kN b').1;refine⟨_,O,cu,d,xs,n+1,_,O,h,fj f 1,λH2 i k2=>⟨_,O,_,O,_,O,cu,d,xs,n+1+1,_,O,i,fj f 2,λA' r' k3=>?_⟩⟩;have m':dt cu H A':=λc o e z=>by rw[k3 c z,k2 c z];exact p c o e z
  have A3:=hA.moved N T m' r'.some;have A:n+t.length+3=xs.length:=by simp only[bA] at A;omega
  have u':=fin r' af (hj f 3) (U m');rw[e' O] at u'
  exact⟨out,a,st,x.toNat,tm,by rw[b'];rfl,A3,u'⟩
 | write m g t hm=>
  refine⟨_,O,cu,d,xs,n,_,O,Y,f' O,λH1 h k1=>?_⟩;have p:=b1 k1;refine⟨_,O,O,_,O,bR ⟨_,O,O,_,O,bR ⟨_,O,O,_,O,bR ⟨_,O,O,_,O,bR ⟨_,O,O,_,O,bR ⟨_,O,O,_,O,bR ⟨_,O,O,_,O,bx (λ_=>?_) λz=>absurd O z⟩⟩⟩⟩⟩⟩⟩;have i':xs.drop (n+1+1)=g++t:=hj f 2;obtain⟨j',k',M⟩:=o2 i' hm;have A:n+(g++t).length+2=xs.length:=by simp only[bA] at A;omega
  refine⟨_,O,_,O,cu,d,xs,n+1,m,O,h,fj f 1,M af,λl2 H2 F' w i l'=>?_⟩;rw[j'] at w;have D:dt cu H H2:=λc o e z=>l' c o (p c o e z) z;have A2:=hA.moved N T D i.some;have J:=fin i (M af) k' (U D);obtain⟨G,I⟩:=oq (u:=g) (n:=300) (lo:=0) (hi:=9007199254740991) hask;rw[LL I] at w;rw[e' O] at J
  exact⟨out,a,l2,st,_,O,A2,w,by unfold nats;rw[aX];exact G,J⟩
 | put s fl tm ln m g t hm=>
  refine⟨_,O,cu,d,xs,n,_,O,Y,f' O,λH1 h k1=>?_⟩;have p:=b1 k1;refine⟨_,O,O,_,O,bR ⟨_,O,O,_,O,bR ⟨_,O,O,_,O,bR ⟨_,O,O,_,O,bR ⟨_,O,O,_,O,bR ⟨_,O,O,_,O,bR ⟨_,O,O,_,O,bR ⟨_,O,O,_,O,bx (λ_=>?_) λz=>absurd O z⟩⟩⟩⟩⟩⟩⟩⟩;have hask:(natural s 53&&(natural fl 53&&(whole53 tm&&(natural ln 53&&ReelNeutral.long g 3000 0 255))))=true:=hask;obtain⟨b',hask⟩:=Bool.and_eq_true_iff.mp hask;obtain⟨G,hask⟩:=Bool.and_eq_true_iff.mp hask;obtain⟨I,hask⟩:=Bool.and_eq_true_iff.mp hask;obtain⟨C',hask⟩:=Bool.and_eq_true_iff.mp hask;obtain⟨R',S'⟩:=oq hask;obtain⟨b',_e⟩:=kN b';obtain⟨G,_f⟩:=kN G;obtain⟨C',_g⟩:=kN C';unfold whole53 at I;obtain⟨I,I'⟩:=Bool.and_eq_true_iff.mp I;have I:=dS I;have I':=dS I';have i':xs.drop (n+1+5)=g++t:=hj f 6;obtain⟨j',k',M⟩:=o2 i' hm;have A:n+(g++t).length+6=xs.length:=by simp only[bA] at A;omega
  refine⟨_,O,_,O,cu,d,xs,n+1,m,s,fl,tm,ln,O,h,fj f 1,fj f 2,fj f 3,fj f 4,fj f 5,M af,λp' dx dl H2 np _h _i w e3 i l'=>?_⟩;rw[j',p8 S'] at e3;have D:dt cu H H2:=λc o e z=>l' c o (p c o e z) z;have A2:=hA.moved N T D i.some;have J:=fin i (M af) k' (U D);rw[e' O] at J;have T':p'≠cu:=λz=>by rw[z] at np;exact h.some np
  have U':H p'=none:=by rw[<-k1 p' T'];exact np
  have V':(ReelNeutral.bytes g).length=m:=by rw[tR];exact hm
  have W':gj CP H2 p' ⟨s.toNat,tm,ln.toNat,fl.toNat,ReelNeutral.bytes g⟩ 0:=⟨dx,dl,by
   have X':s=((s.toNat:Nat):Int):=by injection b'
   have Y':fl=((fl.toNat:Nat):Int):=by injection G
   have Z':ln=((ln.toNat:Nat):Int):=by injection C'
   show H2 p'=some (.ins CP dx (cW ((s.toNat:Nat):Int) tm ((ln.toNat:Nat):Int) ((fl.toNat:Nat):Int) dl ((ReelNeutral.bytes g).length:Int) 0));rw[V',<-X',<-Y',<-Z']
   exact w,e3⟩
  refine⟨out,a,p',st,⟨s.toNat,tm,ln.toNat,fl.toNat,ReelNeutral.bytes g⟩,H,O,hA,U',λc o e z=>D c o e λy=>z (by rw[y];exact N),U D a hA.1 T,A2.2.1,W',⟨?_,?_,?_,?_⟩,?_,J⟩
  .show s.toNat<2 ^ 64;omega
  .exact BA (z:=tm) af af
  .show ln.toNat<2 ^ 64;omega
  .show fl.toNat<2 ^ 64;omega
  .show(ReelNeutral.bytes g).length<=3000;rw[tR];exact R'
 | end_ t=>
  refine⟨_,O,cu,d,xs,n,_,O,Y,f' O,λH1 h k1=>?_⟩;have p:=b1 k1;refine⟨_,O,O,_,O,bR ⟨_,O,O,_,O,bR ⟨_,O,O,_,O,bR ⟨_,O,O,_,O,bR ⟨_,O,O,_,O,bR ⟨_,O,O,_,O,bR ⟨_,O,O,_,O,bR ⟨_,O,O,_,O,bR ⟨_,O,O,_,O,bx (λ_=>?_) λz=>absurd O z⟩⟩⟩⟩⟩⟩⟩⟩⟩;have A:n+t.length+1=xs.length:=by simp only[bA] at A;omega
  have A1:=hA.moved N T p h.some;have v':=fin h af (hj f 1) (U p);rw[e' O] at v'
  exact⟨_,O,out,a,st,O,A1,v'⟩
 | seek m g t hm=>
  refine⟨_,O,cu,d,xs,n,_,O,Y,f' O,λH1 h k1=>?_⟩;have p:=b1 k1;refine⟨_,O,O,_,O,bR ⟨_,O,O,_,O,bR ⟨_,O,O,_,O,bR ⟨_,O,O,_,O,bR ⟨_,O,O,_,O,bR ⟨_,O,O,_,O,bR ⟨_,O,O,_,O,bR ⟨_,O,O,_,O,bR ⟨_,O,O,_,O,bR ⟨_,O,O,_,O,bx (λ_=>?_) λz=>absurd O z⟩⟩⟩⟩⟩⟩⟩⟩⟩⟩;have i':xs.drop (n+1+1)=g++t:=hj f 2;obtain⟨j',k',M⟩:=o2 i' hm;have A:n+(g++t).length+2=xs.length:=by simp only[bA] at A;omega
  refine⟨_,O,_,O,cu,d,xs,n+1,m,O,h,fj f 1,M af,λl2 H2 F' w i l'=>?_⟩;rw[j'] at w;have D:dt cu H H2:=λc o e z=>l' c o (p c o e z) z;have A2:=hA.moved N T D i.some;have J:=fin i (M af) k' (U D);obtain⟨G,I⟩:=oq (u:=g) (n:=3000) (lo:=0) (hi:=255) hask;rw[p8 I] at w;rw[e' O] at J;exact⟨out,a,l2,st,_,O,A2,w,by rw[tR];exact G,J⟩
theorem Nm (b:Bytes):(toldInts (.t b)).length=b.length+1:=by
 unfold toldInts;rw[bA,aX]
theorem Es {over:Bool}{c c':bb}{t:LwReel.Thing}(h:aV ae over b c=some (t,c'))(a:b.length<=1500):(g9 t).length<=2000:=by
 cases t with
 | part p pl=>
  have d:=RM.Kv h;have:=da List.length (xP p pl);rw[aX,aP,bu] at this;rw[this];show 8+p.bytes.length<=2000
  omega
 | head=>exact(by decide:1<=2000)
 | index=>exact(by decide:1<=2000)
 | fault _ _ _=>exact(by decide:4<=2000)
 | found o=>cases o<;>exact(by decide:2<=2000)
 | end_=>exact(by decide:1<=2000)
theorem nC {s:State}{c:Call}{a:Answer}(h:ReelCalls.step s c=(s',a)):(stepI s c).2.length=(a.told.flatMap toldInts).length+1:=by
 rw[cU h];rfl
theorem d1 {s:State}{c:Call}(h:ReelCalls.step s c=(s',says z)):(stepI s c).2.length<=4000:=by
 rw[nC h];exact(by decide:0+1<=4000)
theorem BE {s:State}{c:Call}(h:ReelCalls.step s c=(s',tells [.t b]))(a:b.length<=3000):(stepI s c).2.length<=4000:=by
 rw[nC h];show((toldInts (.t b))++[]).length+1<=4000;rw[et,Nm];omega
theorem IU {l t:List Int}{c:List (List Int)}(hA:RecAt CD CR CL CT CS CP out H a st)(D:e0 l c t)(hask:asked1 c=true):(ReelNeutral.step st c).2.length<=4000:=by
 obtain⟨_,_,dx,rd,rl,wr,_,aG⟩:=hA
 cases D with
 | judge m f t hm=>
  show(stepI st (.judge (ReelNeutral.bytes f))).2.length<=4000;generalize ReelNeutral.bytes f=b;by_cases h:BYTES<b.length
  .exact d1 (z:= -2) (s':=st) (az h)
  .have d:ReelCalls.step st (.judge b)=(.empty,match LwReel.fault b with
    | none=>says 0
    | some (k,t,p)=>⟨-8,[n_ k,n_ t,n_ p]⟩):=ar h
   cases v:LwReel.fault b with
   | none=>rw[v] at d;exact d1 d
   | some y=>rw[v] at d;rw[nC d];exact(by decide:4<=4000)
 | read x t=>
  show(stepI st (.read x.toNat)).2.length<=4000;by_cases h:1<x.toNat
  .exact d1 (z:= -1) (s':=st) (az h)
  .exact d1 (z:=0) (s':= .reading (x.toNat==1) false [] 0) (ar h)
 | feed x m f t hm=>
  show(stepI st (.feed x.toNat (ReelNeutral.bytes f))).2.length<=4000;generalize ReelNeutral.bytes f=b
  cases st with
  | reading ae over aK told=>
   by_cases h1:1<x.toNat
   .exact d1 (z:= -1) (s':= .reading ae over aK told) (az h1)
   by_cases h2:over_ ae over aK told=true
   .exact d1 (z:= -4) (s':= .reading ae over aK told) ((ar h1).trans (az h2))
   by_cases o:BYTES<aK.length+b.length
   .exact d1 (z:= -2) (s':= .reading ae over aK told) ((ar h1).trans ((ar h2).trans (az o)))
   .exact d1 (z:=(takes ae aK told b:Nat)) (s':= .reading ae (decide (takes ae aK told b=b.length)&&x.toNat==1) (aK++b.take (takes ae aK told b)) told) ((ar h1).trans ((ar h2).trans (ar o)))
  | empty=>exact(by decide:1<=4000)
  | known _ _=>exact(by decide:1<=4000)
  | writing _ _ _=>exact(by decide:1<=4000)
 | next t=>
  show(stepI st .next).2.length<=4000
  cases st with
  | reading ae over b told=>
   obtain⟨h1,r,x,c,ps,h2,o,J,R,M,w,N⟩:=aG
   cases hs:aV ae over b c with
   | none=>exact d1 (RM.vK w hs)
   | some y=>
    obtain⟨t,c'⟩:=y;have:=Es hs R.cZ;rw[nC (show ReelCalls.step (.reading ae over b told) .next=_ from RM.zP w hs)];have e:(g9 t).length=((RM.told t).told.flatMap toldInts).length+1:=by unfold g9;rw[bA]
    omega
  | empty=>exact(by decide:1<=4000)
  | known _ _=>exact(by decide:1<=4000)
  | writing _ _ _=>exact(by decide:1<=4000)
 | stream x t=>
  show(stepI st (.stream x.toNat)).2.length<=4000;have E:=aG.view;obtain⟨dr,ls,lp,ps,Q,A,T,C⟩:=E
  have d:ReelCalls.step st (.stream x.toNat)=(st,match st.streams with
   | none=>NOT
   | some l=>match l[x.toNat]? with
    | none=>BAD
    | some x=>tells [n_ x.kind,n_ x.rate.num,n_ x.rate.den,.t x.name,.t x.setup]):=(O)
  cases n:st.streams with
  | none=>rw[n] at d;exact d1 d
  | some ss=>
   rw[n] at d A
   (try dsimp only at d)
   cases hx:ss[x.toNat]? with
   | none=>rw[hx] at d;exact d1 d
   | some y=>
    rw[hx] at d
    (try dsimp only at d)
    obtain⟨_,_,_,U,Y⟩:=mr (A.2.2.2 y (fx hx));rw[nC d]
    have e:((tells [n_ y.kind,n_ y.rate.num,n_ y.rate.den,.t y.name,.t y.setup]).told.flatMap toldInts).length=3+((y.name.length+1)+(y.setup.length+1)):=by
     simp[tells,n_,toldInts];omega
    omega
 | find x tm t=>
  show(stepI st (.find x.toNat tm)).2.length<=4000
  have d:ReelCalls.step st (.find x.toNat tm)=(st,match st.streams with
   | none=>NOT
   | some l=>if l.length<=x.toNat then BAD else match LwReel.seek st.infos x.toNat tm with
    | none=>NONE
    | some i=>⟨(i:Nat),((st.infos[i]?).map infoTold).getD []⟩):=(O)
  cases n:st.streams with
  | none=>rw[n] at d;exact d1 d
  | some ss=>
   rw[n] at d
   (try dsimp only at d)
   by_cases g:ss.length<=x.toNat
   .rw[az g] at d;exact d1 d
   .rw[ar g] at d
    cases hk:LwReel.seek st.infos x.toNat tm with
    | none=>rw[hk] at d;exact d1 d
    | some i=>
     rw[hk] at d
     (try dsimp only at d)
     rw[nC d]
     cases st.infos[i]? with
     | none=>exact(by decide:0+1<=4000)
     | some y=>exact(by decide:6+1<=4000)
 | write m f t hm=>
  show(stepI st (.write (nats f))).2.length<=4000;have d:=RM.Bq st (nats f)
  cases g:gs (nats f) with
  | none=>rw[g] at d;exact d1 d
  | some x=>rw[g] at d;exact d1 d
 | put s fl tm ln m f t hm=>
  show(stepI st (.put s.toNat fl.toNat tm ln.toNat (ReelNeutral.bytes f))).2.length<=4000;generalize ReelNeutral.bytes f=b
  cases st with
  | reading ae over b told=>exact(by decide:1<=4000)
  | empty=>exact(by decide:1<=4000)
  | known _ _=>exact(by decide:1<=4000)
  | writing ss j long=>
   obtain⟨h1,h2,⟨ls,lp,ps,X,C,u,_⟩,G,I⟩:=aG;by_cases h1:MOST< (LwReel.Part.body ⟨s.toNat,tm,ln.toNat,fl.toNat,b⟩).length∨okPart ss j s.toNat fl.toNat tm ln.toNat=false
   .exact d1 (z:= -1) (s':= .writing ss j long) (az h1)
   by_cases h2:PARTS<=j.length
   .exact d1 (z:= -7) (s':= .writing ss j long) ((ar h1).trans (az h2))
   refine BE ((ar h1).trans (ar h2)) ?_;have h:=l_ u;have o:¬600< (LwReel.Part.body ⟨s.toNat,tm,ln.toNat,fl.toNat,b⟩).length:=λz=>h1 (.inl z);rw[aP,hV]
   omega
 | end_ t=>
  show(stepI st .end_).2.length<=4000
  cases st with
  | reading ae over b told=>exact(by decide:1<=4000)
  | empty=>exact(by decide:1<=4000)
  | known _ _=>exact(by decide:1<=4000)
  | writing ss j long=>
   obtain⟨h1,h2,⟨ls,lp,ps,X,C,u,_⟩,G,I⟩:=aG;refine BE (s':= .known ss j) O ?_;have h:=l_ u;have hi:=BY u.eH (long+(ReelCalls.before ss j).length);rw[aP,hV]
   omega
 | seek m f t hm=>
  show(stepI st (.seek (ReelNeutral.bytes f))).2.length<=4000
  have d:ReelCalls.step st (.seek (ReelNeutral.bytes f))=(match byIndex (ReelNeutral.bytes f) with
   | none=>(.empty,FAULT)
   | some x=>(.known x.1 x.2,says 0)):=(O)
  cases g:byIndex (ReelNeutral.bytes f) with
  | none=>rw[g] at d;exact d1 d
  | some x=>rw[g] at d;exact d1 d
inductive mm (K:Frag)(vs:List V)(H:Hp)(Q:VK)(_:XK):Prop
 | mk (d:Addr) (xs:List Int) (cs:List (List (List Int))) (_:vs=[.ref d]) (_:ay K H d (xs.map V.int)) (_:PyFlat.calls PyWrlntj.shape xs.length xs=some cs) (_:cs.length<=200) (_:(∀c∈cs,asked1 c=true)) (_:∀l H',H' l=some (.lst ((PyFlat.told (PyFlat.played ReelNeutral.step ReelNeutral.start cs)).map V.int))->Q (.ref l) H')
theorem oy:c4 ["calls","record","cursor","told","answer"] ["calls"] (bL lh):=fL
theorem DX (h:ay K H d ys):∃dl:List Addr,(∀e∈dl,H e≠none)/\∀a cu tl,H a=none->H cu=none->H tl=none->pD K (a::cu::tl::dl) a cu d ys/\(d≠tl∨∀H,ay K H d ys):=by
 rcases h with(h | ⟨o,h⟩) | h
 .refine⟨[d],λe he=>by rw[List.mem_singleton.mp he,h];simp,λa cu tl h1 h2 b=>⟨.inl ⟨by simp,a6 h h1,a6 h h2⟩,.inl (a6 h b)⟩⟩
 .refine⟨[d],λe he=>by rw[List.mem_singleton.mp he,h];simp,λa cu tl h1 h2 b=>⟨.inl ⟨by simp,a6 h h1,a6 h h2⟩,.inl (a6 h b)⟩⟩
 .exact⟨[],λe he=>(by cases he),λa cu tl _ _ _=>⟨.inr λ_=> .inr h,.inr λ_=> .inr h⟩⟩
variable (nS:gU P w K mg base 3 "Record" CD ["self"] (AO CD CL))
variable (og:gU P w K mg base 1 "Cursor" CC ["self","numbers"] (xH CC))
include ag eh mR nS og in
theorem K9 (F:dB K "answers" "answers" lh f fd):cP P w K mg base ba 21 f fd ["calls"] (mm K):=by
 refine F.ok (k:=20) oy (λvs H Q E h=>?_) (λbc A outer s0 H vs Q E Y h=>?_)
 .obtain⟨d,xs,b,rfl,_⟩:=h;rfl
 .obtain⟨d,xs,b,rfl,hd,g,_v,hask,q⟩:=h
  refine⟨_,aj (aW 1 oy.nd (Ng nS (Y.mono aJ) O))
   (aj (aW 2 oy.nd (dj og Y (aB (pv 0))))
   (aj (aW 3 oy.nd (bK fw))
   (aj (kJ fE (aY fM (aw eh (pv 2)) (bX ag (pv 0)))
    (aj (aW 4 oy.nd (aO mR Y (aF (pv 1) (pv 2))))
    (aj (bU (eW fe hY hZ iW (pv 3) (aB (bX ag (pv 4)))))
    (aq (bU (eW fe mS mx mE (pv 3) (aB (pv 4))))))))
   (aq (aI (pv 3)))))),?_⟩
  refine hJ ?_
  intros
  obtain⟨dl,p',K'⟩:=DX hd;intro a dx q' r' _w;refine⟨a,dx,O,au,λrl ls lp H1 L' h1 b1=>⟨O,?_⟩⟩;obtain⟨m1,m2,m3,_x,⟨dr,u'⟩,v',w'⟩:=L';have b':ao H H1:=ao.made q' r' b1
  have back:∀{e:Addr},(ah (ah H dx (.own a)) a (.ins CD dx [])) e=none->e≠a/\H e=none:=λ{e} he=>by
   have z:e≠a:=λz=>by rw[z,au] at he;cases he
   rw[ak z] at he;refine⟨z,?_⟩;by_cases y:e=dx
   .rw[y];exact r'
   .rw[ak y] at he;exact he
  refine⟨_,O,?_⟩;intro cu y' G M' _y;refine⟨cu,y',d,O,au,λH2 h2 b2=>⟨O,?_⟩⟩;have I:ao H1 H2:=ao.made G M' b2;refine⟨b3 _,λtl i=>?_⟩;have J:ao H2 (ah H2 tl (.lst [])):=a9 i;have e':ah H2 tl (.lst []) tl=some (.lst []):=au;generalize ah H2 tl (.lst [])=u at J e';have j:ao H1 u:=I.trans J;have z':ao H u:=b'.trans j;have _z:a≠cu:=a6 h1 G;have A':a≠tl:=a6 (I _ _ h1) i;have B':cu≠tl:=a6 h2 i;have N':H cu=none:=b'.free G;have O':H tl=none:=(b'.trans I).free i;obtain⟨P',R'⟩:=K' a cu tl q' N' O'
  have S':∀e∈a::cu::tl::dl,u e≠none:=λe he=>by
   simp only[ed] at he;rcases he with z | z | z | z
   .rw[z,j _ _ h1];simp
   .rw[z,J _ _ h2];simp
   .rw[z,e'];simp
   .exact λy=>p' e z (z'.free y)
  have off:∀{e:Addr} {o:HO},(ah (ah H dx (.own a)) a (.ins CD dx [])) e=none->H1 e=some o->e∉a::cu::tl::dl:=λ{e o} he M z=>by
   simp only[ed] at z;rcases z with z | z | z | z
   .exact(back he).1 z
   .rw[z,G] at M;cases M
   .rw[z] at M;rw[I _ _ M] at i;cases i
   .exact p' e z (back he).2
  have T':RecAt CD CR CL CT CS CP (a::cu::tl::dl) u a .empty:=⟨by simp,S',dx,.aE,rl,false,j _ _ h1,O,O,ls,lp,dr,j _ _ u',j _ _ v',j _ _ w',off m1 u',off m2 v',off m3 w'⟩;have U':fU K CC u cu d xs 0:=⟨⟨y',J _ _ h2⟩,z'.seq hd⟩;generalize C':a::cu::tl::dl=out at*;have V':cu∈out:=by rw[<-C'];simp
  have f':tl∈out:=by rw[<-C'];simp
  generalize W':PyFlat.told (PyFlat.played ReelNeutral.step ReelNeutral.start b)=D' at*
  have X':∀{i' N:Hp},ay K i' d (xs.map V.int)->(∀c,c≠tl->N c=i' c)->ay K N d (xs.map V.int):=λ{i' N} h k=>by
   rcases R' with z | z
   .rcases h with(h | ⟨o,h⟩) | h
    .exact .inl (.inl ((k d z).trans h))
    .exact .inl (.inr ⟨o,(k d z).trans h⟩)
    .exact .inr h
   .exact z N
  refine⟨λm σ H'=>∃(n f:Nat) (st:State) (b:List (List (List Int))) (done:List Int) (E':Option V),σ=[some (.ref d),some (.ref a),some (.ref cu),some (.ref tl),E']/\RecAt CD CR CL CT CS CP out H' a st/\fU K CC H' cu d xs n/\n<=xs.length/\PyFlat.calls PyWrlntj.shape f (xs.drop n)=some b/\(∀c∈b,asked1 c=true)/\b.length=m/\H' tl=some (.lst (done.map V.int))/\done++PyFlat.told (PyFlat.played ReelNeutral.step st b)=D'/\done.length+4001*b.length<=800200,⟨b.length,0,xs.length,.empty,b,[],none,O,T',U',b3 _,g,hask,O,e',W',by simp only[cn];omega⟩,?_⟩;rintro m σ Y' ⟨n,f,st,b,done,E',rfl,F',G',Z',g,hask,rfl,e4,v,hsz⟩;obtain⟨⟨_a,_b⟩,_c⟩:=id G';refine⟨_,O,cu,_a,_,_,O,_b,O,_,O,d,_,O,.inl _c,_,_,O,O,_,O,?_⟩;rw[aX];refine bS (λC=>?_) λC=>?_
  .have C:(n:Int) < (xs.length:Int):=C
   obtain⟨p,r,j'⟩:∃p r,xs.drop n=p::r:=by
    cases e:xs.drop n with
    | nil=>
     have:=da List.length e;rw[bQ,cn] at this
     omega
    | cons p r=>exact⟨p,r,O⟩
   obtain⟨D,rfl⟩:∃D,f=D+1:=by
    cases f with
    | zero=>rw[j'] at g;unfold PyFlat.calls at g;cases g
    | succ D=>exact⟨D,O⟩
   rw[j'] at g;obtain⟨c,t,T,_d,_e,rfl⟩:=RM.K6 g;have k':=RM.KI _d;have I':=hask c cq;have _A:=IU F' k' I';rw[<-j'] at k';refine⟨λ_B H'=>∃_f,_f< (c::T).length/\_,λ_ _ z=>z,_,O,_,O,out,a,cu,d,st,xs,n,c,t,O,F',V',P',G',Z',k',I',λl s _g e5 _h _i _j _k _l k5=>?_⟩;have J':s tl=some (.lst (done.map V.int)):=(k5 tl f' A'.symm B'.symm).trans e4;have _m:l≠tl:=λz=>_h (by rw[z];exact f');generalize _n:(ReelNeutral.step st c).2=b5 at*;generalize _o:(ReelNeutral.step st c).1=_p at*;simp only[bA] at hsz;refine⟨_,O,.inl ⟨O,_,ay.of J'⟩,_,O,l,_,O,.inl (ay.of e5),tl,_,_,O,O,J',?_,?_⟩
   .rw[aX];exact cc (show done.length<1000000 by omega) aJ
   rw[aX];have l':∀c,c≠tl->ah s tl (.lst (done.map V.int++[V.int (b5.length:Int)])) c=s c:=λc hc=>ak hc;have e6:ah s tl (.lst (done.map V.int++[V.int (b5.length:Int)])) tl=some (.lst (done.map V.int++[V.int (b5.length:Int)])):=au;generalize ah s tl (.lst (done.map V.int++[V.int (b5.length:Int)]))=m' at l' e6;refine⟨_,O,.inl ⟨O,_,ay.of e6⟩,_,O,tl,l,_,_,O,O,e6,(l' l _m).trans e5,?_,?_⟩
   .rw[aP,aX,aX];exact bB (show done.length+1+b5.length<=1000000 by omega) aJ
   have U:∀c,c≠tl->ah m' tl (.lst (done.map V.int++[V.int (b5.length:Int)]++b5.map V.int)) c=s c:=λc hc=>(ak hc).trans (l' c hc);have e7:ah m' tl (.lst (done.map V.int++[V.int (b5.length:Int)]++b5.map V.int)) tl=some (.lst (done.map V.int++[V.int (b5.length:Int)]++b5.map V.int)):=au;generalize ah m' tl (.lst (done.map V.int++[V.int (b5.length:Int)]++b5.map V.int))=_C at U e7;obtain⟨⟨_q,_r⟩,_s⟩:=id _j;refine⟨T.length,by simp,_g,D,_p,T,done++((b5.length:Int)::b5),_,O,?_,⟨⟨_q,(U cu B').trans _r⟩,X' _s U⟩,_k,by rw[_l];exact _e,λx hx=>hask x (dw _ hx),O,?_,?_,?_⟩
   .exact _i.moved f' A' (λc o e z=>by rw[U c z];exact e) (by rw[e7];simp)
   .rw[e7,cj,gv];rfl
   .rw[<-v,gv];congr 1;show _=PyFlat.told ((ReelNeutral.step st c).2::PyFlat.played ReelNeutral.step (ReelNeutral.step st c).1 T);rw[_n,_o];rfl
   .rw[aP,bA];omega
  .have C:¬(n:Int) < (xs.length:Int):=C;have _t:xs.drop n=[]:=lB af;rw[_t] at g
   have _u:b=[]:=by
    unfold PyFlat.calls at g;cases g;rfl
   subst _u;have v:done++[]=D':=v;rw[et] at v;rw[v] at e4;exact⟨_,O,q tl Y' e4⟩
noncomputable def Kl (K:Frag)(mg:Str->Option Value)(x:Str)(C:Addr)(q:Str)(st:Stmt)(ps:List Str):Prop:=∃(f:Addr) (fd:FuncData),dB K "__init__" q st f fd/\mg x=some (.ref C)/\Mk K C f/\Binds K fd ps []
variable (E5:Kl K mg "Body" CB "Body.__init__" px ["self","data","place","end"])
variable (MX:Kl K mg "Stream" CS "Stream.__init__" qb ["self","kind","num","den","name","setup"])
variable (Lm:Kl K mg "Part" CP "Part.__init__" qQ ["self","stream","time","length","flags","data"])
variable (Fk:Kl K mg "Reel" CL "Reel.__init__" pI ["self","streams"])
variable (G6:Kl K mg "Thing" CT "Thing.__init__" qa ["self","answer","place"])
variable (LG:Kl K mg "Reader" CR "Reader.__init__" rm ["self","mend"])
variable (HM:Kl K mg "Record" CD "Record.__init__" qE ["self"])
variable (Js:Kl K mg "Cursor" CC "Cursor.__init__" qW ["self","numbers"])
noncomputable def Ih (F:dB K "answers" "answers" lh f fd):cP P w K mg base ba 21 f fd ["calls"] (mm K):=by
 have lU:type_of% lU:=K7 u1 ag;have fu:type_of% fu:=Gx ag mL aM bf;have i9:type_of% i9:=L5 aM bf fu sh;have iU:type_of% iU:=JV ag bf fu wB;have fk:type_of% fk:=Ew aM fu iU mw;have c6:type_of% c6:=Hr ag aM bf fk lM;have l8:type_of% l8:=Im fk tV;have i0:type_of% i0:=Iu ag aM bf uw;have nu:type_of% nu:=MT aM sQ;have kS:type_of% kS:=MP ag aM bf fk mN;have iG:type_of% iG:=F1 ag s7;have fq:type_of% fq:=G_ ag vR;have h4:type_of% h4:=LB vj;have ih:type_of% ih:=Fd iG sY;have hz:type_of% hz:=Kn ag lU fq we;have h6:type_of% h6:=De ag hz um;have gI:type_of% gI:=IY ag bf ih h6 vy hM;have mD:type_of% mD:=Hk ag bf gI sC;have gO:type_of% gO:=let ⟨f,fd,F,m,M,b⟩:=E5;⟨f,fd,KW aM F,m,M,b⟩
 have iC:type_of% iC:=JL ag ih s_ gO;have iw:type_of% iw:=CZ ag aM bf h6 uX;have jB:type_of% jB:=let ⟨f,fd,F,m,M,b⟩:=MX;⟨f,fd,IX cO F,m,M,b⟩
 have ic:type_of% ic:=DZ sA;have mQ:type_of% mQ:=Dg ag aM bf c6 kS ic nH jB;have ir:type_of% ir:=Ju ag c6 i0 mQ r_;have gX:type_of% gX:=let ⟨f,fd,F,m,M,b⟩:=Lm;⟨f,fd,L0 ag bh F,m,M,b⟩
 have ey:type_of% ey:=let ⟨f,fd,F,m,M,b⟩:=Fk;⟨f,fd,Io bG F,m,M,b⟩
 have iL:type_of% iL:=Ej ag aM bf l8 wy;have iJ:type_of% iJ:=Gq ag aM c6 nu iL uD gX;have nz:type_of% nz:=Hs ag cO bh vX;have gm:type_of% gm:=MV ag bh bG nz sb;have ie:type_of% ie:=IG bh sS;have di:type_of% di:=let ⟨f,fd,F,m,M,b⟩:=G6;⟨f,fd,FW c7 F,m,M,b⟩
 have f6:type_of% f6:=GD ag uH aN di;have nB:type_of% nB:=HE ag aN di f6 sx;have mV:type_of% mV:=EW ag mD aN di uC;have mb:type_of% mb:=HA ag aM ir c7 di sq;have ny:type_of% ny:=Lj ag aM bf bh bG iJ gm ie c7 aN di sy;have mo:type_of% mo:=EX ag bG aN uE;have mF:type_of% mF:=Mm ag bG c7 aN mo uf;have j9:type_of% j9:=let ⟨f,fd,F,m,M,b⟩:=LG;⟨f,fd,Ec ag aN ey F,m,M,b⟩
 have iV:type_of% iV:=FT ag i9 i0 r0 eR;have mh:type_of% mh:=FF ag mL aM bf;have iI:type_of% iI:=Mx aM iU mw mh;have kf:type_of% kf:=CU ag aM bf lM iI;have lz:type_of% lz:=K2 ag aM bf mN iI;have ip:type_of% ip:=Jw wA;have fT:type_of% fT:=GY ip vu;have lj:type_of% lj:=HP ag ip tQ;have i8:type_of% i8:=Lg ag cO fT lj ua;have iz:type_of% iz:=DR h4 bh fT ud;have iS:type_of% iS:=Di bh iz uq;have gy:type_of% gy:=Er ag fq hz hM tj;have h3:type_of% h3:=Gs ag h4 bh bG ur;have l7:type_of% l7:=G8 ag aM bf i9 fk fq iV h3 uu;have lZ:type_of% lZ:=CQ ag c6 bh iL gX rE;have iE:type_of% iE:=GW ag fu c6 iV lZ v_;have mH:type_of% mH:=I9 ag bG aN uL;have lQ:type_of% lQ:=Ii ag aM bh bG aN di l7 iE vW;have nq:type_of% nq:=D4 ag aM bf ic nH jB kf lz;have nE:type_of% nE:=Lp ag aM bf gO nq vU;have mu:type_of% mu:=M8 ag fq eR fT h3 uK;have my:type_of% my:=J6 ag bh iz t_;have gr:type_of% gr:=Fh ag bh bG i8 my uV;have iy:type_of% iy:=H_ bh bG gr u3;have m9:type_of% m9:=Mb ag bf gO bG iJ gm iS wb;have h7:type_of% h7:=Ms ag bG i8 gy u9;have mX:type_of% mX:=LN ag iS gy iy h7 tx;have nf:type_of% nf:=KY ag gy mu gr h7 tE;have mC:type_of% mC:=Hy ag iG eR sP d7;have lg:type_of% lg:=Lz gI iC iw d7 tf;have nM:type_of% nM:=Hd ag gm iy d7 r9;have mf:type_of% mf:=FJ ag aM bf ir bG ey iE gr d7 mC lg nM vA sU;have mG:type_of% mG:=Kt ag bh wa;have nS:type_of% nS:=let ⟨f,fd,F,m,M,b⟩:=HM;⟨f,fd,Hv ey cy F,m,M,b⟩
 have fm:type_of% fm:=Ed cy sZ;have iA:type_of% iA:=Lv ey fm rW;have og:type_of% og:=let ⟨f,fd,F,m,M,b⟩:=Js;⟨f,fd,C7 eh F,m,M,b⟩
 have dZ:type_of% dZ:=J8 eh uG;have gE:type_of% gE:=C8 eh dZ vB;have fV:type_of% fV:=Ft ag sj;have nc:type_of% nc:=LC gX dZ gE tX;have m8:type_of% m8:=Fl ag aN j9 fm vt;have lT:type_of% lT:=C0 ag cO bG cy fV rN;have nr:type_of% nr:=EL ag bG ie mG cy rP;have nG:type_of% nG:=DO ag bf ey nE fm ug;have l9:type_of% l9:=Lo ag nf cy fV rT;have mO:type_of% mO:=JZ ag bG m9 mX cy fV r2;have mI:type_of% mI:=EB ag d7 mf fm iA uk;have nL:type_of% nL:=Jx ag aM bf iw aN f6 mb ny wh lQ;have mj:type_of% mj:=J9 ag bf gI iC aN f6 nL uS mH;have fS:type_of% fS:=EO ag aN di nB mV mj se;have gP:type_of% gP:=I0 ag c7 aN fS mF vq;have mz:type_of% mz:=Hu ag aN fS rS;have nN:type_of% nN:=MG ag c7 aN fS gP tS j9;have nK:type_of% nK:=Ho ag gP cy vC;have nh:type_of% nh:=F7 ag aN mz cy uJ;have lY:type_of% lY:=Mg ag nN iA vM;have mR:type_of% mR:=H4 ag dZ gE nc nK m8 nh lY lT nr nG l9 mO mI uc;exact K9 ag eh mR nS og F
theorem br (X:K.In h)(G:h.Ns mainGlobals mg)(a:bq K x v):Num mg x v:=by
 obtain⟨t,a⟩:=a;exact⟨t,i_ X G a⟩
theorem zt (X:K.In h)(G:h.Ns mainGlobals mg)(F:yt K x i1 i2 i3):rq K mg x [.int i1,.int i2,.int i3]:=by
 obtain⟨ad,t1,t2,t3,n,od,b,a,l⟩:=F;exact⟨ad,i_ X G a,λ_=> .inr ⟨_,_,n,l,O,O,(by show 3<=sizeLine;decide),.cons ⟨_,O⟩ (.cons ⟨_,O⟩ (.cons ⟨_,O⟩ .nil))⟩⟩
theorem x9 {b:Int}(X:K.In h)(G:h.Ns mainGlobals mg)(F:yo K x i1 i2 i3 b):rq K mg x [.int i1,.int i2,.int i3,.int b]:=by
 obtain⟨ad,t1,t2,t3,t4,n,od,c,a,l⟩:=F;exact⟨ad,i_ X G a,λ_=> .inr ⟨_,_,n,l,O,O,(by show 4<=sizeLine;decide),.cons ⟨_,O⟩ (.cons ⟨_,O⟩ (.cons ⟨_,O⟩ (.cons ⟨_,O⟩ .nil)))⟩⟩
noncomputable def Bd (x q:Str)(st:Stmt)(ps:List Str):Prop:=∀(kV cL pm:Value) (an:Option Addr) (bc ct:Value) (us:List Value),us.length=ps.length->bindArgs (fnOf x q (jU st) (ew st) (bL st) .none kV cL pm an bc ct) ⟨us,[]⟩=pure (ps.zip us)
theorem zo (h:G []):∀us:List Value,us.length=0->G us
 | [],_=>h
theorem yA (h:∀a,G [a]):∀us:List Value,us.length=1->G us
 | [a],_=>h a
theorem yI (h:∀a b,G [a,b]):∀us:List Value,us.length=2->G us
 | [a,b],_=>h a b
theorem xF (h:∀a b c,G [a,b,c]):∀us:List Value,us.length=3->G us
 | [a,b,c],_=>h a b c
theorem yq (h:∀a b c d,G [a,b,c,d]):∀us:List Value,us.length=4->G us
 | [a,b,c,d],_=>h a b c d
theorem xY (h:∀a b c d e,G [a,b,c,d,e]):∀us:List Value,us.length=5->G us
 | [a,b,c,d,e],_=>h a b c d e
theorem BQ (h:∀a b c d e f,G [a,b,c,d,e,f]):∀us:List Value,us.length=6->G us
 | [a,b,c,d,e,f],_=>h a b c d e f
theorem y7 (h:∀a b c d e f g,G [a,b,c,d,e,f,g]):∀us:List Value,us.length=7->G us
 | [a,b,c,d,e,f,g],_=>h a b c d e f g
theorem vV {q:Str}{st:Stmt}{ps:List Str}(h:Bd x q st ps:=by(intro _ _ _ _ _ _;first | refine zo ?_ | refine yA ?_ | refine yI ?_ | refine xF ?_ | refine yq ?_ | refine xY ?_ | refine BQ ?_ | refine y7 ?_);intros;rfl):Bd x q st ps:=h
theorem a8 {st:Stmt}{ps:List Str}(X:K.In h)(G:h.Ns mainGlobals mg)(F:a5 K x st)(b:Bd x x st ps:=by exact vV):Fn K mg x st ps:=by
 obtain⟨f,a,oc,od,an,cX,kV,cL,pm,bc,ct,l,c,k⟩:=F;exact⟨f,_,oJ l c k,i_ X G a,(oJ l c k).binds b⟩
theorem iq {q:Str}{st:Stmt}{ps:List Str}(X:K.In h)(G:h.Ns mainGlobals mg)(F:h9 K x C q st)(b:Bd "__init__" q st ps:=by exact vV):Kl K mg x C q st ps:=by
 obtain⟨f,a,i,m,n,d,oc,od,an,cX,kV,cL,pm,bc,ct,l,c,k⟩:=F;exact⟨f,_,oJ l c k,i_ X G a,⟨m,i,n,d⟩,(oJ l c k).binds b⟩
theorem wL {C:Addr}:∀{l:List Str},uM K C l->∀f∈l,jA K C f
 | [],_,_,a=>nomatch a
 | x::l,⟨n,r⟩,f,a=>by
  cases a with
  | head=>exact n
  | tail _ q=>exact wL r f q
theorem iH {l:List Str}(F:i5 K C l):gi K C l:=by
 obtain⟨pg,hd,po,sa,n⟩:=F;exact⟨⟨pg,hd,po,sa⟩,wL n⟩
theorem Bb (X:K.In h)(G:h.Ns mainGlobals mg)(F:Ce K C fI)(f:Bd "__init__" "Fault.__init__" pY ["self","kind","place"]:=by intro _ _ _ _ _ _ us j;rcases us with _ | ⟨_,_ | ⟨_,_ | ⟨_,_ | ⟨_,_⟩⟩⟩⟩<;>first | (cases j;done) | rfl):FX K mg C fI:=by
 obtain⟨od,an,cX,kV,cL,pm,bc,ct,nm,q,N,bs,sn,sub,ab,col,dd,k0,k1,k2,k3,k5,a,o,b,c,d,e,g,g',i,l,k⟩:=F;exact{c:=⟨b,c,d,_,by unfold clsIn;rw[o],O,O⟩,nk:=g,np:=g',mgC:=i_ X G a,kp:=e,obj:=⟨nm,q,N,bs,true,sn,sub,ab,col,dd,k0,k1,k2,k3,k5,o⟩,init:=i,fn:=⟨_,od,cX,_,_,_,_,_,_,_,_,l,k,O,λs ev m pv=> .of_eq (f kV cL pm an bc ct [.ref ev,m,pv] O),O,O,O,O⟩}
theorem CG (X:K.In h)(G:h.Ns mainGlobals mg)(F:y8 K C):NX K mg C:=by
 obtain⟨nm,q,N,bs,hdct,sn,sub,ab,col,dd,k0,k1,k2,k3,k5,a,o,e,n,i⟩:=F;exact{mgC:=i_ X G a,kp:=e,obj:=⟨nm,q,N,bs,hdct,sn,sub,ab,col,dd,k0,k1,k2,k3,k5,o,n,i⟩}
end RL
namespace L2
open PySem PySem.Spec PyProof.Rows
open PySem.W (WData Codec OpenSpec Well WellAll ReadsW ReadsAllW)
variable {A B:List Addr} {CX:gN} {H:Hp} {K:PySem.W.Frag} {P q:Program} {R:PySem.W.WRecords} {XP:(Str->Option Value)->Heap->Prop} {YP:World->Heap->Prop} {a b:Addr} {cl:Str->Option Addr} {d:DefRec} {ds:List WData} {h:Heap} {k:Nat} {loose ps:List Str} {r:OpenSpec} {u:HO} {us vs:List Value} {v:Value} {w:World} {xs:List V}
mutual
inductive Dw (K:PySem.W.Frag) (H:Hp):V->WData->Prop
 | aE:Dw K H .aE .none
 | bl (b:Bool):Dw K H (.bl b) (.bool b)
 | int (i:Int):Dw K H (.int i) (.int i)
 | str (x:Str):Dw K H (.str x) (.str x)
 | eA (b:Array UInt8):Dw K H (.eA b) (.bytes b.toList)
 | lst {a:Addr} {xs:List V} {ds:List WData}:ay K H a xs->gk K H xs ds->Dw K H (.ref a) (.list ds)
 | tup {a:Addr} {xs:List V} {ds:List WData}:cI K H a xs->gk K H xs ds->Dw K H (.ref a) (.tuple ds)
inductive gk (K:PySem.W.Frag) (H:Hp):List V->List WData->Prop
 | nil:gk K H [] []
 | cons {v:V} {vs:List V} {d:WData} {ds:List WData}:Dw K H v d->gk K H vs ds->gk K H (v::vs) (d::ds)
end
theorem Cp {K:PySem.W.Frag}{H:Hp}:∀ns:List Int,gk K H (ns.map V.int) (ns.map WData.int)
 | []=> .nil
 | n::r=> .cons (.int n) (Cp r)
theorem Ah {K:PySem.W.Frag}{H:Hp}:∀(ns:List Int) (xs:List V),gk K H xs (ns.map WData.int)->xs=ns.map V.int
 | [],xs,h=>by
  cases h
  rfl
 | n::r,xs,h=>by
  cases h with
  | cons h1 h2=>
   cases h1;rw[Ah r _ h2]<;>rfl
theorem DU (aG:cA P w H h)(KX:K.In h)(q:ay K H a xs):∃(aD:List Value) (o:Obj) (n:Nat),bt xs aD/\h.get? a=some o/\o.cls= .type "list"/\o.data= .seq aD.toArray n:=by
 rcases q with q | ⟨o,aD,n,e,hc,_,hd,_,b⟩
 .obtain⟨_,aD,n,b,e⟩:=(show ee P w H h a (.lst xs) from q.ok aG);exact⟨aD,_,n,b,e,O,O⟩
 .exact⟨aD.toList,o,n,b,KX _ _ e,hc,by simp[hd]⟩
theorem F2 (aG:cA P w H h)(KX:K.In h)(q:cI K H a xs):∃(aD:List Value) (o:Obj) (n:Nat),bt xs aD/\h.get? a=some o/\o.cls= .type "tuple"/\o.data= .seq aD.toArray n:=by
 rcases q with q | ⟨o,aD,n,e,hc,hd,_,b⟩
 .obtain⟨_,aD,b,o,e,hc,n,hd⟩:=(show ee P w H h a (.tup xs) from q.ok aG);exact⟨aD,o,n,b,e,hc,hd⟩
 .exact⟨aD.toList,o,n,b,KX _ _ e,hc,by simp[hd]⟩
mutual
theorem Dw.reads (aG:cA P w H h) (KX:K.In h):∀(d:WData) (v:V) (u:Value),Dw K H v d->RelV v u->∃as,ReadsW R cl h u d as
 | .none,_,_,x,r=>by
  cases x;cases r
  exact⟨_,ReadsW.none⟩
 | .bool b,_,_,x,r=>by
  cases x;cases r
  exact⟨_,ReadsW.bool b⟩
 | .int i,_,_,x,r=>by
  cases x;obtain⟨t,rfl⟩:=r
  exact⟨_,ReadsW.int i t⟩
 | .str s,_,_,x,r=>by
  cases x;obtain⟨t,rfl⟩:=r
  exact⟨_,ReadsW.str s t⟩
 | .bytes b,_,_,x,r=>by
  cases x;obtain⟨t,rfl⟩:=r
  exact⟨_,ReadsW.bytes _ t⟩
 | .list ds,_,_,x,r=>by
  cases x with
  | lst hs ha=>
   cases r;obtain⟨aD,o,n,rv,ho,hc,hd⟩:=DU aG KX hs;obtain⟨as,hr⟩:=Dw.readsAll aG KX ds _ aD ha rv
   exact⟨_,ReadsW.list ho hc hd hr⟩
 | .tuple ds,_,_,x,r=>by
  cases x with
  | tup hs ha=>
   cases r;obtain⟨aD,o,n,rv,ho,hc,hd⟩:=F2 aG KX hs;obtain⟨as,hr⟩:=Dw.readsAll aG KX ds _ aD ha rv
   exact⟨_,ReadsW.tuple ho hc hd hr⟩
 | .float _,_,_,x,_=>by cases x
 | .dict _,_,_,x,_=>by cases x
 | .bytearray _,_,_,x,_=>by cases x
 | .set _,_,_,x,_=>by cases x
 | .frozenset _,_,_,x,_=>by cases x
 | .obj _ _,_,_,x,_=>by cases x
theorem Dw.readsAll (aG:cA P w H h) (KX:K.In h):∀(ds:List WData) (vs:List V) (us:List Value),gk K H vs ds->bt vs us->∃as,ReadsAllW R cl h us ds as
 | [],_,_,x,r=>by
  cases x;cases r
  exact⟨_,ReadsAllW.nil⟩
 | d::ds,_,_,x,r=>by
  cases x with
  | cons h1 h2=>
   cases r with
   | cons r1 r2=>
    obtain⟨as,q1⟩:=Dw.reads aG KX d _ _ h1 r1;obtain⟨bs,q2⟩:=Dw.readsAll aG KX ds _ _ h2 r2;exact⟨_,ReadsAllW.cons q1 q2⟩
end
mutual
noncomputable def fC:WData->Bool
 | .none=>true
 | .bool _=>true
 | .int _=>true
 | .str _=>true
 | .bytes _=>true
 | .list xs=>gz xs
 | .tuple xs=>gz xs
 | _=>false
noncomputable def gz:List WData->Bool
 | []=>true
 | x::r=>fC x&&gz r
end
theorem BH {α:Type}{f:α->WData}(h:∀a,fC (f a)=true):∀l:List α,gz (l.map f)=true
 | []=>rfl
 | x::r=>by
  show(fC (f x)&&gz (r.map f))=true;rw[h x,BH h r]<;>rfl
theorem ka:∀(c:Codec) (a:c.denote),fC (c.enc a)=true
 | .unit,_=>rfl
 | .bool,_=>rfl
 | .int _ _,_=>rfl
 | .nat _ _,_=>rfl
 | .u8,_=>rfl
 | .bytes _ _,_=>rfl
 | .text _ _ _ _,_=>rfl
 | .list _ _ c,a=>BH (λx=>ka c x) a
 | .pair c d,a=>by
  show(fC (c.enc a.1)&&(fC (d.enc a.2)&&true))=true
  rw[ka c a.1,ka d a.2]<;>rfl
 | .triple c d e,a=>by
  show(fC (c.enc a.1)&&(fC (d.enc a.2.1)&&(fC (e.enc a.2.2)&&true)))=true
  rw[ka c a.1,ka d a.2.1,ka e a.2.2]<;>rfl
 | .option c,none=>rfl
 | .option c,some x=>ka c x
theorem Bw:∀(b:List Codec) (a:Codec.denoteAll b),gz (Codec.encAll b a)=true
 | [],_=>rfl
 | c::b,a=>by
  show(fC (c.enc a.1)&&gz (Codec.encAll b a.2))=true;rw[ka c a.1,Bw b a.2]<;>rfl
theorem v3:∀{xs:List WData} {d:WData},d∈xs->d.weight<=WData.weightAll xs
 | [],d,h=>absurd h (by simp)
 | x::r,d,h=>by
  show d.weight<=x.weight+1+WData.weightAll r;rcases List.mem_cons.mp h with e | m
  .rw[e];omega
  .have z:=v3 m;omega
noncomputable def er:Value->V
 | .none=> .aE
 | .bool b=> .bl b
 | .int i _=> .int i
 | .str x _=> .str x
 | .bytes b _=> .eA b
 | .ref a=> .ref a
 | _=> .aE
noncomputable def fR (A:List Addr):Value->Prop
 | .none=>True
 | .bool _=>True
 | .int _ _=>True
 | .str _ _=>True
 | .bytes _ _=>True
 | .ref a=>a∈A
 | _=>False
theorem fR.mono (h:∀a∈A,a∈B):∀{u:Value},fR A u->fR B u:=λ{u} x=>by
 cases u with
 | ref a=>exact h a x
 | none=>trivial
 | bool b=>trivial
 | int i t=>trivial
 | str s t=>trivial
 | bytes b t=>trivial
 | _=>exact False.elim x
theorem Hx {u:Value}(x:fR A u):RelV (er u) u:=by
 cases u with
 | ref a=>rfl
 | none=>rfl
 | bool b=>rfl
 | int i t=>exact⟨t,O⟩
 | str s t=>exact⟨t,O⟩
 | bytes b t=>exact⟨t,O⟩
 | _=>exact False.elim x
theorem lK {A:List Addr}:∀{vs:List Value},(∀u∈vs,fR A u)->bt (vs.map er) vs
 | [],_=> .nil
 | u::r,h=> .cons (Hx (h u (cq ..))) (lK λx hx=>h x (dw _ hx))
noncomputable def gh (h:Heap)(A:List Addr)(a:Addr):Prop:=∃vs:List Value,vs.length<=sizeLine/\(∀u∈vs,fR A u)/\
 (h.get? a=some {cls:= .type "list",data:= .seq vs.toArray}∨h.get? a=some {cls:= .type "tuple",data:= .seq vs.toArray})
theorem gh.mono {h:Heap}{A B:List Addr}{a:Addr}(k:∀a∈A,a∈B)(x:gh h A a):gh h B a:=by
 obtain⟨vs,h1,h2,b⟩:=x;exact⟨vs,h1,λu c=>(h2 u c).mono k,b⟩
theorem qB {P:Params}{h:Heap}:∀{vs:List Value} {ds:List WData},WellAll P h vs ds->vs.length=ds.length
 | _,_,.nil=>rfl
 | _,_,.cons _ b=>by
  show _+1=_+1;rw[qB b]
theorem Cc {P:Params}(x:Well P h v (.list ds)):∃(a:Addr) (vs:List Value),v= .ref a/\h.get? a=some {cls:= .type "list",data:= .seq vs.toArray}/\WellAll P h vs ds:=by
 cases x with
 | list b c=>exact⟨_,_,O,b,c⟩
theorem z1 {P:Params}(x:Well P h v (.tuple ds)):∃(a:Addr) (vs:List Value),v= .ref a/\h.get? a=some {cls:= .type "tuple",data:= .seq vs.toArray}/\WellAll P h vs ds:=by
 cases x with
 | tuple b c=>exact⟨_,_,O,b,c⟩
theorem xx {P:Params}{d:WData}(x:WellAll P h us (d::ds)):∃(v:Value) (vs:List Value),us=v::vs/\Well P h v d/\WellAll P h vs ds:=by
 cases x with
 | cons a b=>exact⟨_,_,O,a,b⟩
theorem y4 {n:Nat}(h:n<=1048576):n<=sizeLine:=bB h aJ
section
variable {P:Params}
mutual
theorem HI:∀(d:WData) (v:Value),Well P h v d->fC d=true->d.weight<=1048576->∃A:List Addr,fR A v/\∀a∈A,gh h A a
 | .none,_,x,_,_=>by
  cases x
  exact⟨[],trivial,λa m=>absurd m (by simp)⟩
 | .bool b,_,x,_,_=>by
  cases x
  exact⟨[],trivial,λa m=>absurd m (by simp)⟩
 | .int i,_,x,_,_=>by
  cases x
  exact⟨[],trivial,λa m=>absurd m (by simp)⟩
 | .str s,_,x,_,_=>by
  cases x
  exact⟨[],trivial,λa m=>absurd m (by simp)⟩
 | .bytes b,_,x,_,_=>by
  cases x
  exact⟨[],trivial,λa m=>absurd m (by simp)⟩
 | .list ds,_,x,p,z=>by
  obtain⟨a,vs,rfl,ho,h8⟩:=Cc x;have z2:WData.weightAll ds<=1048576:=z;obtain⟨A,h1,h2⟩:=rf ds _ h8 p λd hd=>bB (v3 hd) z2;have k:∀b∈A,b∈a::A:=λb hb=>dw _ hb;refine⟨a::A,cq ..,λb hb=>?_⟩;rcases List.mem_cons.mp hb with e | m
  .rw[e];exact⟨vs,y4 (by rw[qB h8];exact bB (yd ds) z2),λu hu=>(h1 u hu).mono k,.inl ho⟩
  .exact(h2 b m).mono k
 | .tuple ds,_,x,p,z=>by
  obtain⟨a,vs,rfl,ho,h8⟩:=z1 x;have z2:WData.weightAll ds<=1048576:=z;obtain⟨A,h1,h2⟩:=rf ds _ h8 p λd hd=>bB (v3 hd) z2;have k:∀b∈A,b∈a::A:=λb hb=>dw _ hb;refine⟨a::A,cq ..,λb hb=>?_⟩;rcases List.mem_cons.mp hb with e | m
  .rw[e];exact⟨vs,y4 (by rw[qB h8];exact bB (yd ds) z2),λu hu=>(h1 u hu).mono k,.inr ho⟩
  .exact(h2 b m).mono k
 | .float _,_,_,p,_=>Bool.noConfusion (show false=true from p)
 | .dict _,_,_,p,_=>Bool.noConfusion (show false=true from p)
 | .bytearray _,_,_,p,_=>Bool.noConfusion (show false=true from p)
 | .set _,_,_,p,_=>Bool.noConfusion (show false=true from p)
 | .frozenset _,_,_,p,_=>Bool.noConfusion (show false=true from p)
 | .obj _ _,_,_,p,_=>Bool.noConfusion (show false=true from p)
theorem rf:∀(ds:List WData) (vs:List Value),WellAll P h vs ds->gz ds=true->(∀d∈ds,d.weight<=1048576)->∃A:List Addr,(∀u∈vs,fR A u)/\∀a∈A,gh h A a
 | [],_,x,_,_=>by
  cases x
  exact⟨[],λu m=>absurd m (by simp),λa m=>absurd m (by simp)⟩
 | d::ds,_,x,p,z=>by
  obtain⟨v,vs,rfl,x1,x2⟩:=xx x;have q:fC d=true/\gz ds=true:=Bool.and_eq_true_iff.mp p;obtain⟨A,a1,a2⟩:=HI d v x1 q.1 (z d (cq ..));obtain⟨B,b1,b2⟩:=rf ds vs x2 q.2 λe he=>z e (dw _ he);have kA:∀b∈A,b∈A++B:=λb hb=>List.mem_append.mpr (.inl hb);have kB:∀b∈B,b∈A++B:=λb hb=>List.mem_append.mpr (.inr hb);refine⟨A++B,λu hu=>?_,λb hb=>?_⟩
  .rcases List.mem_cons.mp hu with e | m
   .rw[e];exact a1.mono kA
   .exact(b1 u m).mono kB
  .rcases List.mem_append.mp hb with m | m
   .exact(a2 b m).mono kA
   .exact(b2 b m).mono kB
end
end
noncomputable def rr (o:Obj):Option HO:=match o.data with
 | .seq vs _=>if(o.cls==Value.type "list")=true then some (.d9 o (.lst (vs.toList.map er))) else some (.d9 o (.tup (vs.toList.map er)))
 | _=>none
noncomputable def d3 (K:PySem.W.Frag)(h:Heap)(A:List Addr):Hp:=λb=>if b∈A then(if(K.lookup b).isNone=true then(h.get? b).bind rr else none) else none
noncomputable def oh (H:Hp):Prop:=∀b,H b=none∨∃o u,H b=some (.d9 o u)
theorem xc (vs:List Value):rr {cls:= .type "list",data:= .seq vs.toArray}=some (.d9 {cls:= .type "list",data:= .seq vs.toArray} (.lst (vs.map er))):=by
 show(if(Value.type "list"==Value.type "list")=true then some (HO.d9 {cls:= .type "list",data:= .seq vs.toArray} (.lst (vs.toArray.toList.map er))) else some (HO.d9 {cls:= .type "list",data:= .seq vs.toArray} (.tup (vs.toArray.toList.map er))))=_;rw[az (beq_self_eq_true _)]
theorem Bg (vs:List Value):rr {cls:= .type "tuple",data:= .seq vs.toArray}=some (.d9 {cls:= .type "tuple",data:= .seq vs.toArray} (.tup (vs.map er))):=by
 show(if(Value.type "tuple"==Value.type "list")=true then some (HO.d9 {cls:= .type "tuple",data:= .seq vs.toArray} (.lst (vs.toArray.toList.map er))) else some (HO.d9 {cls:= .type "tuple",data:= .seq vs.toArray} (.tup (vs.toArray.toList.map er))))=_;rw[ar aJ]
theorem pJ {o:Obj}(a:b∈A)(hk:K.lookup b=none)(e:h.get? b=some o):d3 K h A b=rr o:=by
 unfold d3;rw[az a,hk,az (show(none:Option Obj).isNone=true from O),e]<;>rfl
theorem Ka (q:d3 K h A b=some u):b∈A/\K.lookup b=none:=by
 unfold d3 at q;by_cases a:b∈A
 .rw[az a] at q
  cases hk:K.lookup b with
  | none=>exact⟨a,O⟩
  | some o=>
   rw[hk,ar (by simp)] at q;cases q
 .rw[ar a] at q;cases q
theorem q8 (d:∀a∈A,gh h A a)(q:d3 K h A b=some u):K.lookup b=none/\∃vs:List Value,vs.length<=sizeLine/\(∀u∈vs,fR A u)/\
 (
  (h.get? b=some {cls:= .type "list",data:= .seq vs.toArray}/\u= .d9 {cls:= .type "list",data:= .seq vs.toArray} (.lst (vs.map er)))∨
  (h.get? b=some {cls:= .type "tuple",data:= .seq vs.toArray}/\u= .d9 {cls:= .type "tuple",data:= .seq vs.toArray} (.tup (vs.map er)))):=by
 obtain⟨c,hk⟩:=Ka q;obtain⟨vs,h1,h2,f⟩:=d b c;refine⟨hk,vs,h1,h2,?_⟩;rcases f with e | e
 .rw[pJ c hk e,xc] at q;exact .inl ⟨e,(cx q).symm⟩
 .rw[pJ c hk e,Bg] at q;exact .inr ⟨e,(cx q).symm⟩
theorem HZ (c:∀a∈A,gh h A a):oh (d3 K h A):=λb=>by
 cases q:d3 K h A b with
 | none=>exact .inl O
 | some u=>
  obtain⟨_,vs,_,_,⟨_,e⟩ | ⟨_,e⟩⟩:=q8 c q
  .exact .inr ⟨_,_,by rw[e]⟩
  .exact .inr ⟨_,_,by rw[e]⟩
theorem DK (c:∀a∈A,gh h A a):cA P w (d3 K h A) h:=λb u q=>by
 obtain⟨_,vs,h1,h2,⟨e,rfl⟩ | ⟨e,rfl⟩⟩:=q8 c q
 .exact⟨e,by rw[aX];exact h1,vs,_,lK h2,e⟩
 .exact⟨e,by rw[aX];exact h1,vs,lK h2,_,e,O,_,O⟩
theorem q3 {c c':Value}(e:(some {cls:=c,data:= .seq vs.toArray}:Option Obj)=some {cls:=c',data:= .seq us.toArray}):c=c'/\vs=us:=by
 have e1:=cx e;have a:c=c':=da Obj.cls e1;have e3:Data.seq vs.toArray=Data.seq us.toArray:=da Obj.data e1;injection e3 with e4
 refine⟨a,?_⟩;have e5:=da Array.toList e4;simpa using e5
theorem MC (KX:K.In h)(c:∀a∈A,gh h A a)(ha:a∈A)(e:h.get? a=some {cls:= .type "list",data:= .seq vs.toArray}):(∀u∈vs,fR A u)/\ay K (d3 K h A) a (vs.map er):=by
 obtain⟨us,h1,h2,d⟩:=c a ha
 have f:us=vs:=by
  rcases d with q | q
  .rw[e] at q;exact(q3 q).2.symm
  .rw[e] at q;exact absurd (Value.type.inj (q3 q).1) aJ
 subst f;refine⟨h2,?_⟩
 cases hk:K.lookup a with
 | none=>exact .inl (.inr ⟨_,by rw[pJ ha hk e,xc]⟩)
 | some o=>
  have b:=KX a o hk;rw[e] at b;obtain rfl:=cx b;exact .inr ⟨_,us.toArray,_,hk,O,O,O,by rw[dq];exact h1,by simpa using lK h2⟩
theorem HC (KX:K.In h)(c:∀a∈A,gh h A a)(ha:a∈A)(e:h.get? a=some {cls:= .type "tuple",data:= .seq vs.toArray}):(∀u∈vs,fR A u)/\cI K (d3 K h A) a (vs.map er):=by
 obtain⟨us,h1,h2,d⟩:=c a ha
 have f:us=vs:=by
  rcases d with q | q
  .rw[e] at q;exact absurd (Value.type.inj (q3 q).1) aJ
  .rw[e] at q;exact(q3 q).2.symm
 subst f;refine⟨h2,?_⟩
 cases hk:K.lookup a with
 | none=>exact .inl (.inr ⟨_,by rw[pJ ha hk e,Bg]⟩)
 | some o=>
  have b:=KX a o hk;rw[e] at b;obtain rfl:=cx b;exact .inr ⟨_,us.toArray,_,hk,O,O,by rw[dq];exact h1,by simpa using lK h2⟩
mutual
theorem Ge {Pm:Params} (KX:K.In h) (ar:∀a∈A,gh h A a):∀(d:WData) (v:Value),Well Pm h v d->fC d=true->fR A v->Dw K (d3 K h A) (er v) d
 | .none,_,x,_,_=>by
  cases x
  exact .aE
 | .bool b,_,x,_,_=>by
  cases x
  exact .bl b
 | .int i,_,x,_,_=>by
  cases x
  exact .int i
 | .str s,_,x,_,_=>by
  cases x
  exact .str s
 | .bytes b,_,x,_,_=>by
  cases x;have z:=Dw.eA (K:=K) (H:=d3 K h A) b.toArray
  exact z
 | .list ds,_,x,p,hu=>by
  obtain⟨a,vs,rfl,ho,h8⟩:=Cc x;obtain⟨h2,hs⟩:=MC KX ar hu ho
  exact .lst hs (pP KX ar ds _ h8 p h2)
 | .tuple ds,_,x,p,hu=>by
  obtain⟨a,vs,rfl,ho,h8⟩:=z1 x;obtain⟨h2,hs⟩:=HC KX ar hu ho
  exact .tup hs (pP KX ar ds _ h8 p h2)
 | .float _,_,_,p,_=>Bool.noConfusion (show false=true from p)
 | .dict _,_,_,p,_=>Bool.noConfusion (show false=true from p)
 | .bytearray _,_,_,p,_=>Bool.noConfusion (show false=true from p)
 | .set _,_,_,p,_=>Bool.noConfusion (show false=true from p)
 | .frozenset _,_,_,p,_=>Bool.noConfusion (show false=true from p)
 | .obj _ _,_,_,p,_=>Bool.noConfusion (show false=true from p)
theorem pP {Pm:Params} (KX:K.In h) (ar:∀a∈A,gh h A a):∀(ds:List WData) (vs:List Value),WellAll Pm h vs ds->gz ds=true->(∀u∈vs,fR A u)->gk K (d3 K h A) (vs.map er) ds
 | [],_,x,_,_=>by
  cases x
  exact .nil
 | d::ds,_,x,p,hu=>by
  obtain⟨v,vs,rfl,x1,x2⟩:=xx x;have q:fC d=true/\gz ds=true:=Bool.and_eq_true_iff.mp p;exact .cons (Ge KX ar d v x1 q.1 (hu _ (cq ..))) (pP KX ar ds vs x2 q.2 λu m=>hu u (dw _ m))
end
theorem KQ {mg j:Str->Option Value}{fa:Addr}{fd:FuncData}{sp:Sp}{a:Shared}{c:List Value}{d0:WData}(KX:K.In a.heap)(t:a.heap.Ns mainGlobals mg)(l:a.heap.Ns builtinsNs j)(Q:∀x:Str,x≠"__name__"->j x=bootBuiltins x)(T:a.heap.NoLimit)(U:a.gens=#[])(p:WellAll w.params a.heap c ds)(y:gz ds=true)(Y:∀d∈ds,d.weight<=1048576)(b':bT k callerA)(F:∀base:Heap,K.In base->base.Ns mainGlobals mg->cP P w K mg base CX k fa fd ps sp)(e':∀(s:Shared) (us:List Value),us.length=ps.length->BindsTo s fd ⟨us,[]⟩ (ps.zip us))(f':ds.length=ps.length)(i':∀(H:Hp) (xs:List V),oh H->gk K H xs ds->sp xs H (λv H'=>Dw K H' v d0) λ_ _ _=>False)(j':∀H e s',CX [] H a (λ_ _ _=>False) e s'->False):
 codeAny (model P w) callerA (.call (.ref fa) ⟨c,[]⟩) (λr s'=>∃u as,r= .ok (.ret u)/\ReadsW R cl s'.heap u d0 as/\OldK a.heap s'.heap/\s'.os=a.os/\AllBare s'.gens) a:=by
 obtain⟨A,C,g⟩:=rf ds c p y Y;have hO:oh (d3 K a.heap A):=HZ g;have aG:cA P w (d3 K a.heap A) a.heap:=DK g;have D:=pP KX g ds c p y C;have k':=lK C;have E:∀b u,d3 K a.heap A b=some u->K.lookup b=none:=λb u q=>(q8 g q).1
 have G:∀{b:Addr} {o:Obj} {es:Array DictEntry} {f:Nat},a.heap.get? b=some o->o.data= .dict es f->d3 K a.heap A b=none:=λ{b o es f} e d=>by
  cases q:d3 K a.heap A b with
  | none=>rfl
  | some u=>
   obtain⟨_,vs,_,_,⟨h,_⟩ | ⟨h,_⟩⟩:=q8 g q
   .rw[h] at e;cases e;have d':Data.seq vs.toArray _=Data.dict es f:=d;cases d'
   .rw[h] at e;cases e;have d':Data.seq vs.toArray _=Data.dict es f:=d;cases d'
 generalize d3 K a.heap A=H at hO aG D E G;have I:∀{b:Addr} {o:Obj},a.heap.get? b=some o->H b=none->(i4 a.heap H).get? b=some o:=λe n=>MY e n;have i:∀{b:Addr} {m:Str->Option Value},a.heap.Ns b m->(i4 a.heap H).Ns b m:=λ{b m} ⟨o,es,f,e,d,r⟩=>⟨o,es,f,I e (G e d),d,r⟩
 have l':∀b o,K.lookup b=some o->H b=none:=λb o e=>by
  cases q:H b with
  | none=>rfl
  | some u=>
   rw[E b u q] at e;cases e
 have J:K.In (i4 a.heap H):=λb o e=>I (KX b o e) (l' b o e);have m':Mod K mg (i4 a.heap H):=⟨J,i t,⟨j,i l,Q⟩,let ⟨p',h1,h2⟩:=T;⟨p',i h1,h2⟩⟩;have q':km P w K mg (i4 a.heap H) callerA [] a H:=⟨O,m',λb o e=>Nf e,nY (Ln _ _),trivial,λb l=>absurd (show b∈([]:List Addr) from l) (by simp),aG,.of_eq U⟩;have r':c.length=ps.length:=by rw[qB p];exact f'
 refine k4 ((F _ J (i t)).run callerA [] a H ⟨c,[]⟩ c (c.map er) _ _ b' q' (e' a c r') k' (i' H _ hO D)) λr s' x=>?_
 cases r with
 | error e=>exact(j' H e s' x).elim
 | ok fl=>
  cases fl with
  | next=>exact False.elim x
  | brk=>exact False.elim x
  | cont=>exact False.elim x
  | ret u=>
   obtain⟨v,H',os,bare,un,M,u',q⟩:=x
   have kept:∀b o,a.heap.get? b=some o->s'.heap.get? b=some o:=λb o e=>by
    cases N:H b with
    | none=>exact un.keep b o e N (by intro z;exact absurd (show b∈([]:List Addr) from z) (by simp)) (by simp)
    | some A'=>
     rcases hO b with z | ⟨v',B',z⟩
     .rw[N] at z;cases z
     .have w':=un.frzs b v' _ z;obtain⟨e1,_⟩:=aG b _ z;obtain⟨h,_⟩:=M b _ w';rw[e] at e1;cases e1;exact h
   have y':K.In s'.heap:=λb o e=>kept b o (KX b o e);obtain⟨as,z'⟩:=Dw.reads (R:=R) (cl:=cl) M y' d0 v u q u';exact⟨u,as,O,z',OldK.of_keep kept,os,bare⟩
theorem J3 (h:WData.layableAll ds=true):∀d∈ds,d.weight<=1048576:=λd hd=>
 (PySem.W.layableW_iff.mp (List.all_eq_true.mp h d hd)).2.2
theorem zi:∀(b:List Codec) (a:Codec.denoteAll b),(Codec.encAll b a).length=b.length
 | [],_=>rfl
 | c::b,a=>by
  show(Codec.encAll b a.2).length+1=b.length+1;rw[zi b a.2]
theorem D9 {K:Params->PySem.W.Frag}{CX:World->gN}{sp:World->Sp}(c:r.wellSaid=true)(U:d.params.defaults=[])(i:r.args.length=ps.length)(j:bT k callerA)(l:∀(w:World) (h:Heap),YP w h->(K w.params).In h)(F:∀(w:World) (mg:Str->Option Value) (fa:Addr) (h:Heap),YP w h->(K w.params).In h->h.Ns mainGlobals mg->mg d.name=some (.ref fa)->
 ∃fd:FuncData,(∀(s:Shared) (us:List Value),us.length=ps.length->BindsTo s fd ⟨us,[]⟩ (ps.zip us))/\
  ∀base:Heap,(K w.params).In base->base.Ns mainGlobals mg->cP r.prog w (K w.params) mg base (CX w) k fa fd ps (sp w))(m:∀(w:World) (H:Hp) (xs:List V) (a:Codec.denoteAll r.args),oh H->Codec.withinAll r.args a=true->Codec.app r.args r.asked a=true->gk (K w.params) H xs (Codec.encAll r.args a)->
 sp w xs H (λv H'=>Dw (K w.params) H' v (r.ret.enc (Codec.app r.args r.f a))) λ_ _ _=>False)(n:∀(w:World) (H:Hp) (s:Shared) (e:Value) (s':Shared),CX w [] H s (λ_ _ _=>False) e s'->False):
 PySem.W.WalkOS q loose XP YP r d [] (λf vs=>PySem.call f vs):=by
 intro w s_0 p mg b' G Y fa o pm cd cL e' kV f' hd i' j' hmg t args k' as x y l' A m';obtain⟨a,e1,C⟩:=PySem.W.os_pre_some x;obtain⟨e3,hwi⟩:=Codec.encAll_of_decAll r.args args a e1;subst e3;have KX:=l w _ Y;obtain⟨fd,D,E⟩:=F w mg fa _ Y KX G.T.g hmg
 refine PySem.W.enter_call (k4 (KQ (R:=[]) (cl:=classAt s_0.heap) (d0:=r.ret.enc (Codec.app r.args r.f a)) KX G.T.g G.T.b G.T.builtins G.T.nolimit t A (Bw _ _) (J3 y) j E D (by rw[zi];exact i)
  (λH xs hO I=>m w H xs a hO hwi C I) λH e s'=>n w H p e s') λp' s' J=>?_)
 obtain⟨u,M,rfl,h1,h2,N,Q⟩:=J;exact⟨.inl ⟨u,_,M,O,λ_=>rfl,h1,(OpenSpec.post_iff c hwi _ _).mpr O,λz=>Bool.noConfusion (show false=true from z)⟩,h2,N,Q⟩
theorem Ko {K:Params->PySem.W.Frag}{sp:PySem.W.Frag->Sp}(b:r.wellSaid=true)(c:d.params.defaults=[])(g:r.args.length=ps.length)(i:bT k callerA)(j:∀(w:World) (h:Heap),YP w h->(K w.params).In h)(F:∀(w:World) (mg:Str->Option Value) (fa:Addr) (h:Heap),YP w h->(K w.params).In h->h.Ns mainGlobals mg->mg d.name=some (.ref fa)->
 ∃fd:FuncData,(∀(s:Shared) (us:List Value),us.length=ps.length->BindsTo s fd ⟨us,[]⟩ (ps.zip us))/\
  ∀base:Heap,(K w.params).In base->base.Ns mainGlobals mg->cP r.prog w (K w.params) mg base CX k fa fd ps (sp (K w.params)))(l:∀(K:PySem.W.Frag) (H:Hp) (xs:List V) (a:Codec.denoteAll r.args),oh H->Codec.withinAll r.args a=true->Codec.app r.args r.asked a=true->gk K H xs (Codec.encAll r.args a)->
 sp K xs H (λv H'=>Dw K H' v (r.ret.enc (Codec.app r.args r.f a))) λ_ _ _=>False)(m:∀(H:Hp) (s:Shared) (e:Value) (s':Shared),CX [] H s (λ_ _ _=>False) e s'->False):
 PySem.W.WalkOS q loose XP YP r d [] (λf vs=>PySem.call f vs):=
 D9 (K:=K) (CX:=λ_=>CX) (sp:=λw=>sp (K w.params)) b c g i j F (λw H xs a h1 h2 n o=>l (K w.params) H xs a h1 h2 n o) λ_ H s e s'=>m H s e s'
end L2
namespace RL
open PySem PySem.Spec PyProof.Rows L2
open LwReel (Bytes Info)
open LwReel (At HEAD INDEX MOST NAME PART PARTS Rate SETUP STREAMS andThen begins boxAt byIndex crc crcBit crcByte disorder ends firstWrong give headBody headBox headOf here indexBody isKey lastOf lengthOf ofLe okTime okZig rForm rHead rHeld rLoose rPart rStream readVar string var varOf zag zig)
open ReelCalls (Answer BAD BYTES Call FAULT LONG MANY NONE NOT State infoTold n_ okPart over_ says takes tells)
open ReelNeutral (asked asked1 callOf nats natural toldInts whole53)
open PySem.W (Frag clsIn fnOf mg_of)
open RM (bb e0 lF fA eo cg dE eG lI gn gb dA eb d4 cD cS cv fK gs opening d8 dH dM fH gK aV hp)
variable {G:List Value->Prop} {H H':Hp} {K:PySem.W.Frag} {P:Program} {a d f l:Addr} {base h:Heap} {c:RM.bb} {e:Nat×Nat} {fd:FuncData} {k:Nat} {mg:Str->Option Value} {s:BS} {v:Int} {w:World}
theorem Jz {l:List Int}(h:PyWrlntj.answers_asked l=true):∃a,PyFlat.calls PyWrlntj.shape l.length l=some a/\a.length<=200/\(∀c∈a,asked1 c=true)/\PyWrlntj.answers l=PyFlat.told (PyFlat.played ReelNeutral.step ReelNeutral.start a):=by
 unfold PyWrlntj.answers_asked at h;unfold PyWrlntj.answers
 have hc:PyWrlntj.calls l=match PyFlat.calls PyWrlntj.shape l.length l with
  | none=>none
  | some a=>some (a.map PyWrlntj.whole):=rfl
 cases e:PyFlat.calls PyWrlntj.shape l.length l with
 | none=>rw[e] at hc;rw[hc] at h;cases h
 | some a=>
  rw[e] at hc
  have b:a.map PyWrlntj.whole=a:=by
   have:PyWrlntj.whole=id:=funext RM.MN;rw[this,List.map_id]
  have hc:PyWrlntj.calls l=some (a.map PyWrlntj.whole):=hc;rw[b] at hc;rw[hc] at h ⊢
  (try dsimp only at h ⊢)
  obtain⟨h1,h2⟩:=Bool.and_eq_true_iff.mp h;unfold asked at h2;obtain⟨_,d⟩:=Bool.and_eq_true_iff.mp h2;obtain⟨_,f⟩:=Bool.and_eq_true_iff.mp d;unfold PyFlat.atMost at h1;exact⟨a,O,dS h1,λc hc=>List.all_eq_true.mp f c hc,O⟩
theorem DS {K:Frag}{l:List Int}(hs:ay K H d (l.map V.int))(h:PyWrlntj.answers_asked l=true):mm K [.ref d] H (λv H'=>Dw K H' v (.list ((PyWrlntj.answers l).map PySem.W.WData.int))) λ_ _ _=>False:=by
 obtain⟨a,h1,h2,b,c⟩:=Jz h;refine⟨d,l,a,O,hs,h1,h2,b,λp H' e=>?_⟩;rw[c];exact .lst (ay.of e) (Cp _)
theorem Lh {K:Frag}{fa:Addr}(X:K.In h)(G:h.Ns mainGlobals mg)(b:mg "answers"=some (.ref fa))(F:a5 K "answers" lh)(ok:∀(base:Heap) (f:Addr) (fd:FuncData),dB K "answers" "answers" lh f fd->cP P w K mg base ba 21 f fd ["calls"] (mm K))(d:Bd "answers" "answers" lh ["calls"]:=λ_ _ _ _ _ _ us g=>match us,g with | [_],_=>rfl):
 ∃fd:FuncData,(∀(s:Shared) (us:List Value),us.length=(["calls"]:List Str).length->BindsTo s fd ⟨us,[]⟩ ((["calls"]:List Str).zip us))/\∀base:Heap,K.In base->base.Ns mainGlobals mg->cP P w K mg base ba 21 fa fd ["calls"] (mm K):=by
 obtain⟨f,a,oc,od,an,cX,kV,cL,pm,bc,ct,l,c,k⟩:=F;have e:=b.symm.trans (i_ X G a);cases e;exact⟨_,λs us i=> .of_eq (d kV cL pm an bc ct us i),λbase _ _=>ok base _ _ (oJ l c k)⟩
end RL
open PySem PySem.W PyProof.Rows
open RL (a8 br Bb CG zt x9 iH iq vV zo yA yI xF yq xY BQ y7)
theorem PySem.Challenge.cw_reelcutdesk_s01_answers_holds : PySem.Challenge.rw_reelcutdesk_s01_answers.Holds := by
  refine HB.Fj ?_
  refine L2.Ko (r := PySem.Challenge.rw_reelcutdesk_s01_answers) (k := 21) (K := HB.K) (CX := L2.ba) (ps := ["calls"]) (sp := RL.mm) (by decide +kernel) rfl rfl ⟨fun _ => rfl, by decide, by decide⟩ (fun w h Y => PySem.W.kIn_of Y) ?F ?S (fun _ _ _ _ z => z)
  case F =>
    intro w mg fa h Y KX G hmg
    obtain ⟨CB, CS, CP, CL, CR, CT, CD, CC, CF, CN, fI, hA, e1, ⟨n0, n1, n2, n3, n4, n5, n6, n7, n8, n9, n10, n11, n12, n13, n14, n15, n16, n17, n18, n19, n20, n21, n22, n23, n24, n25, n26, n27, n28, n29, n30, n31, n32, n33, n34, n35, n36, n37, n38, n39, n40, n41, n42, n43, n44, n45, n46, n47, n48, n49, n50, n51, n52, n53, n54, n55, n56, n57, n58, n59, n60, n61, n62, n63, n64, n65, n66, n67, n68, n69, n70, n71, n72, n73, n74, n75, n76, n77, n78⟩, e3, e4, e5, e6, e7, e8, e9, e10, e11, e12, e13, e14, e15, e16, e17, e18, e19, e20, e21, e22, e23, e24, e25, e26, e27, e28, e29, e30, e31, e32, e33, e34, e35, e36, e37, e38, e39, e40, e41, e42, e43, e44, e45, e46, e47, e48, e49, e50, e51, e52, e53, e54, e55, e56, e57, e58, e59, e60, e61, e62, e63, e64, e65, e66, e67, e68, e69, e70, e71, e72, e73, e74, e75, e76, e77, e78, e79, e80, e81, e82, e83, e84, e85, e86, e87, e88, e89, e90, e91, e92, e93, e94, e95, e96, e97, e98, e99, e100, e101, e102, e103, e104, e105, e106, e107, e108⟩ := RL.facts w
    exact RL.Lh KX G hmg hA fun base f fd => RL.Ih (a8 KX G e1) ⟨br KX G n0, br KX G n1, br KX G n2, br KX G n3, br KX G n4, br KX G n5, br KX G n6, br KX G n7, br KX G n8, br KX G n9, br KX G n10, br KX G n11, br KX G n12, br KX G n13, br KX G n14, br KX G n15, br KX G n16, br KX G n17, br KX G n18, br KX G n19, br KX G n20, br KX G n21, br KX G n22, br KX G n23, br KX G n24, br KX G n25, br KX G n26, br KX G n27, br KX G n28, br KX G n29, br KX G n30, br KX G n31, br KX G n32, br KX G n33, br KX G n34, br KX G n35, br KX G n36, br KX G n37, br KX G n38, br KX G n39, br KX G n40, br KX G n41, br KX G n42, br KX G n43, br KX G n44, br KX G n45, br KX G n46, br KX G n47, br KX G n48, br KX G n49, br KX G n50, br KX G n51, br KX G n52, br KX G n53, br KX G n54, br KX G n55, br KX G n56, br KX G n57, br KX G n58, br KX G n59, br KX G n60, br KX G n61, br KX G n62, br KX G n63, br KX G n64, br KX G n65, br KX G n66, br KX G n67, br KX G n68, br KX G n69, br KX G n70, br KX G n71, br KX G n72, PySem.W.mg_none_of KX G n73, PySem.W.mg_none_of KX G n74, PySem.W.mg_none_of KX G n75, PySem.W.mg_none_of KX G n76, PySem.W.mg_none_of KX G n77, PySem.W.mg_none_of KX G n78⟩ (a8 KX G e3) (iH e4) (Bb KX G e5) (a8 KX G e6) (a8 KX G e7) (a8 KX G e8) (a8 KX G e9) (a8 KX G e10) (a8 KX G e11) (a8 KX G e12) (a8 KX G e13) (a8 KX G e14) (a8 KX G e15) (a8 KX G e16) (a8 KX G e17) (a8 KX G e18) (a8 KX G e19) (a8 KX G e20) (zt KX G e21) (a8 KX G e22) (a8 KX G e23) (a8 KX G e24) (iH e25) (a8 KX G e26) (a8 KX G e27) (a8 KX G e28) (iH e29) (iH e30) (a8 KX G e31) (a8 KX G e32) (a8 KX G e33) (a8 KX G e34) (a8 KX G e35) (iH e36) (a8 KX G e37) (iH e38) (a8 KX G e39) (a8 KX G e40) (a8 KX G e41) (a8 KX G e42) (a8 KX G e43) (a8 KX G e44) (a8 KX G e45) (a8 KX G e46) (a8 KX G e47) (a8 KX G e48) (a8 KX G e49) (a8 KX G e50) (a8 KX G e51) (x9 KX G e52) (a8 KX G e53) (a8 KX G e54) (a8 KX G e55) (a8 KX G e56) (a8 KX G e57) (a8 KX G e58) (a8 KX G e59) (a8 KX G e60) (a8 KX G e61) (a8 KX G e62) (a8 KX G e63) (a8 KX G e64) (a8 KX G e65) (a8 KX G e66) (a8 KX G e67) (a8 KX G e68) (a8 KX G e69) (a8 KX G e70) (a8 KX G e71) (a8 KX G e72) (a8 KX G e73) (a8 KX G e74) (a8 KX G e75) (CG KX G e76) (a8 KX G e77) (a8 KX G e78) (a8 KX G e79) e80 (a8 KX G e81) (iH e82) (a8 KX G e83) (a8 KX G e84) (iH e85) (a8 KX G e86) (a8 KX G e87) (a8 KX G e88) (a8 KX G e89) (a8 KX G e90) (a8 KX G e91) (a8 KX G e92) (a8 KX G e93) (a8 KX G e94) (a8 KX G e95) (a8 KX G e96) (a8 KX G e97) (a8 KX G e98) (a8 KX G e99) (a8 KX G e100) (iq KX G e101) (iq KX G e102) (iq KX G e103) (iq KX G e104) (iq KX G e105) (iq KX G e106) (iq KX G e107) (iq KX G e108)
  case S =>
    intro K H xs a hO hwi hask hx
    cases hx with
    | cons h1 h2 =>
      cases h2
      cases h1 with
      | lst hs ha =>
        have e := L2.Ah a.1 _ ha
        subst e
        exact RL.DS hs hask
