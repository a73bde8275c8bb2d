import PyProof.Rows.All
import Wide.All
import OpenK.AllK
import Wide.FinOn
import PyProof.EqAt
import PyProof.EqKinds
import PyProof.TupleCall
import KE.BitLaws
import Open.SpecLaws
import KE.OsHead
import KE.OsGo
import PyProof.Rows.SetFrom
import PyProof.SetScanFacts
import PyProof.ListRange
import PyProof.FitsBits
import PyProof.NoPylong
import PyProof.Rows.SeqMore
import PySem.Challenge.RW_knotbookdesk_s01_answers
import PyProof.DictItems
import KE.KSortAsk
import KE.KSortTupAny
import PyProof.FactsAll.list_2
import KE.SpHead
import KE.OsShapes
set_option Elab.async false
set_option linter.all false
set_option maxRecDepth 100000
set_option maxHeartbeats 4000000
set_option bootstrap.genMatcherCode false
set_option compiler.extract_closed false
noncomputable section
open Kb(at_ merge detBy bitsOf BASE poke leasts)
open KnotNeutral(natural rowOf nats long)
open List(range replicate)
def ag:=@if_pos
def af:=@if_neg
def aY:=@Nat.le_refl
def bY:=@Nat.ne_of_lt
def cx:=@Nat.le_trans
def cU:=@decide_eq_false
def d_:=@List.getElem?_eq_some_iff
def cF:=@Int.toNat_natCast
def dq:=@Bool.and_eq_true
def dH:=@of_decide_eq_false
def cV:=@or_false
def eG:=@Nat.zero_le
def dA:=@decide_eq_true_eq
def dG:=@Bool.false_ne_true
def fc:=@Nat.lt_of_lt_of_le
def dR:=@if_true
def qW:=@Nat.le_of_lt
def fZ:=@decide_eq_true
def eE:=@Option.some.inj
def c8:=@if_false
def gB:=@of_decide_eq_true
def iU:=@Ne.symm
def ed:=@Bool.false_eq_true
def iZ:=@Int.ofNat_le
def iq:=@Array.length_toList
def j5:=@Nat.le_succ
def mW:=@Int.zero_add
def nS:=@Int.dvd_mul_of_dvd_right
def ly:=@Nat.lt_irrefl
def og:=@Nat.ne_of_gt
def j4:=@Bool.eq_iff_iff
def iT:=@beq_eq_false_iff_ne
def oA:=@decide_eq_false_iff_not
def pY:=@Classical.byContradiction
def pR:=@True.intro
def om:=@Array.getElem?_toList
def ot:=@Nat.lt_succ_of_lt
def rE:=@Nat.lt_trans
def lG:=@Int.natCast_add
def uR:=@Int.one_mul
def rA:=@Nat.mul_comm
def rQ:=@Nat.pow_succ
def rR:=@Int.emod_nonneg
def uz:=@PyProof.Rows.callWith_type1
def uE:=@Nat.lt_of_le_of_lt
def uH:=@Bool.not_true
def uP:=@bne_iff_ne
def yd:=@Option.map_some
def rD:=@Bool.or_eq_true
def uQ:=@Bool.or_eq_false_iff
def uT:=@Int.dvd_add
def xM:=@Nat.le_of_eq
def Bv:=@Nat.lt_or_ge
def mR:=@bne_self_eq_false
def x6:=@Nat.mul_add
def BN:=@Nat.min_eq_left
def pT:=@Option.some.injEq
def ye:=@Int.emod_lt_of_pos
def yf:=@Int.dvd_mul_of_dvd_left
def yg:=@Int.dvd_self_sub_emod
def yh:=@Int.dvd_sub
def yj:=@PyProof.Rows.KeyOrd.kle_refl
def yk:=@PyProof.Rows.KeyOrd.kle_trans
def ym:=@decide_eq_true_iff
def xN:=@Nat.lt_succ_self
def xS:=@Nat.le_of_succ_le
def BD:=@Array.getElem?_eq_getElem
def BK:=@Nat.add_zero
def BM:=@Int.eq_of_mul_eq_mul_left
def BO:=@Int.emod_eq_of_lt
def BQ:=@Nat.pow_le_pow_right
def BR:=@Nat.sub_self
def BS:=@Int.natCast_mul
def BU:=@Nat.mul_assoc
def Kx:=@Int.dvd_neg
def B4:=@Nat.lt_of_not_le
def JL:=@Bool.false_and
def JN:=@Int.fdiv_eq_ediv_of_nonneg
def JT:=@Bool.and_false
def JV:=@Bool.false_or
def J1:=@PyProof.Rows.F.plain_set_update_loop
def uO:=@Int.ofNat_eq_natCast
def Yh:=@Nat.zero_add
def Kh:=@Bool.true_and
def Kk:=@decide_eq_decide
def Ko:=@Int.pow_succ
def Kp:=@Int.pow_ne_zero
def Kq:=@Int.mul_ediv_cancel_left
def Ku:=@Int.toNat_of_nonneg
def Kz:=@Nat.le_succ_of_le
def KG:=@Int.zero_mul
def Yq:=@Int.add_zero
def KI:=@PyProof.Rows.KeyOrd.kle_of_not_klt
def KJ:=@PyProof.Rows.KeyOrd.kle_of_klt
def KN:=@Array.getElem_toList
def Yf:=@PyProof.noPylong_small
def Yj:=@PyProof.Rows.sortedAll_at
def Yk:=@PyProof.Rows.sortedAll_old
def Ym:=@Option.map_eq_some_iff
def Yw:=@Array.getElem?_eq_some_iff
def YA:=@Nat.mul_le_mul_right
def YE:=@Array.getD_eq_getD_getElem?
def YJ:=@Bool.and_eq_true_iff
def YK:=@Option.isNone_iff_eq_none
section
open List
def aH:=@mem_map
def a9:=@map_cons
def bq:=@getElem?_eq_getElem
def bj:=@length_map
def a_:=@mem_cons
def bC:=@getD_eq_getElem?_getD
def bR:=@mem_flatMap
def cz:=@getElem?_map
def bQ:=@mem_range
def b7:=@map_map
def bW:=@mem_cons_of_mem
def cE:=@mem_append
def bZ:=@length_cons
def dz:=@mem_filter
def cZ:=@length_append
def dY:=@flatMap_cons
def cA:=@not_mem_nil
def fg:=@mem_of_getElem?
def c7:=@size_toArray
def eJ:=@map_append
def ef:=@map_congr_left
def lB:=@getElem?_eq_none
def oy:=@getElem?_range
def eI:=@nil_append
def fY:=@nodup_cons
def gO:=@length_set
def gR:=@length_range
def ip:=@getElem?_set_ne
def gP:=@foldl_cons
def gQ:=@map_nil
def lD:=@getElem_mem
def iX:=@take_length
def iY:=@flatMap_map
def gN:=@mem_cons_self
def jF:=@range_succ
def jC:=@getElem?_set_self
def jD:=@find?_cons
def j8:=@ext_getElem?
def lF:=@mem_zipIdx_iff_getElem?
def lA:=@of_mem_zip
def lC:=@mem_iff_getElem
def j6:=@length_drop
def j9:=@nodup_range
def lH:=@mem_of_mem_take
def lI:=@sum_cons
def mQ:=@mem_append_right
def iW:=@length_nil
def mV:=@length_zipIdx
def mX:=@flatMap_append
def mY:=@nodup_append
def mZ:=@mem_of_mem_drop
def ou:=@nodup_nil
def pW:=@Perm.swap
def oB:=@cons_append
def oq:=@all_eq_true
def oj:=@append_assoc
def pX:=@map_flatMap
def rO:=@mem_singleton
def pS:=@append_nil
def rg:=@any_cons
def rF:=@take_append_drop
def rG:=@drop_eq_getElem_cons
def rH:=@pairwise_cons
def rJ:=@filter_cons
def rK:=@findIdx?_eq_some_iff_getElem
def uL:=@length_eq_zero_iff
def rL:=@length_zip
def rM:=@length_filter_le
def BJ:=@count_pos_iff
def x8:=@contains_iff_mem
def rN:=@countP_map
def ux:=@mem_append_left
def q_:=@length_take
def uD:=@take_of_length_le
def uM:=@Perm.refl
def uN:=@pairwise_map
def uS:=@countP_cons
def xK:=@filterMap_cons
def xQ:=@all_cons
def xU:=@pairwise_iff_getElem
def Bz:=@foldl_append
def xY:=@take_append_getElem
def x9:=@countP_append
def x_:=@countP_congr
def ya:=@Nodup.sublist
def yb:=@Perm.trans
def yc:=@map_id'
def Bt:=@range_succ_eq_map
def Bw:=@Pairwise.filter
def J_:=@getElem?_zip_eq_some
def JK:=@getElem?_set
def BG:=@filter_append
def BH:=@filter_eq_self
def Kd:=@count_cons
def BI:=@contains_cons
def Kf:=@fst_mem_of_mem_zipIdx
def BL:=@filter_sublist
def BV:=@drop_zero
def BZ:=@take_add_one
def B0:=@idxOf_lt_length_of_mem
def B3:=@countP_eq_length_filter
def uC:=@replicate_succ
def JZ:=@pairwise_lt_range
def J0:=@findIdx?_eq_none_iff
def J6:=@getElem?_zipIdx
def Ka:=@set_set
def Kc:=@perm_ext_iff_of_nodup
def Ke:=@length_pos_of_mem
def Kg:=@ext_getElem
def Ki:=@countP_singleton
def Yi:=@getElem?_append_left
def Kj:=@findSome?_map
def Kr:=@sum_append
def Ks:=@reverse_append
def Kt:=@reverse_reverse
def Kv:=@headD_cons
def Kw:=@drop_succ_cons
def BP:=@sum_nil
def KL:=@drop_eq_nil_iff
def KO:=@getElem_map
def KP:=@any_eq_true
def Ys:=@pairwise_append
def Yt:=@length_eraseIdx
def Yu:=@getElem?_toArray
def Y9:=@count_cons_self
def Yx:=@perm_iff_count
def Yy:=@pairwise_flatMap
def JQ:=@getElem?_append_right
def Yz:=@findSome?_cons
def YB:=@dropLast_eq_take
def Y_:=@getElem?_replicate
def Za:=@getLast?_eq_getElem?
def YF:=@zipIdx_map_fst
def YG:=@mem_erase_of_ne
def YH:=@mem_or_eq_of_mem_set
end
section
open PySem
abbrev YX:=W.Frag
abbrev YZ:=Str → Option Value
abbrev YY:=Value → Shared → Prop
abbrev YW:=List (Addr × Obj)
def ak:=@wpAny_bind
def aI:=@wpAny_pure
def bF:=@Heap.lt_size
def bJ:=@Heap.get?_push_of_some
def cy:=@Heap.get?_push_size
def eg:=@W.mg_of
def eF:=@Heap.size_push
def ir:=@mem_of_lookup
def iV:=@wpAny_mono
def jE:=@PassesOwn.never
def j7:=@wpAny_newObj_type
def j_:=@wpAny_loadPart'
def lz:=@wpAny_holding
def lE:=@wpAny_call_entry
def pU:=@codeAny_builtin
def pV:=@F.called_set
def qV:=@Paired.length
def qX:=@wpAny_truthy_bool
def qY:=@wpAny_passesOwn
def qZ:=@sizeLine_eq
def rh:=@call_meets
def uA:=@codeAny_mono
def uB:=@Heap.get?_update_other
def uF:=@wpAny_setState_of
def uG:=@wpAny_askSetting
def uI:=@wpAny_attempt
def uJ:=@wpAny_callSpecial?_slot
def uK:=@wpAny_fieldsOf
def uU:=@Heap.get?_push_ne
def xO:=@wpAny_Call_Name_kw
def xP:=@Heap.get?_update_self
def xV:=@Around.under_plainId
def xW:=@plainId_quiet
def xX:=@wpAny_setEntries_of
def xZ:=@F.plainAttrs_list
def yi:=@F.slot_dict_itemiterator_next
def yl:=@Heap.size_update
def Bs:=@wpAny_execs_nil
def Bu:=@pushCells_keeps
def Bx:=@fits_of_scanBound
def By:=@Heap.SameBut.update
def BA:=@wpAny_of_eq
def BC:=@wpAny_isInstance
def BF:=@wpAny_newList
def BW:=@wpAny_field
def BX:=@wpAny_typeNameOfWhole_itemiter
def BY:=@wpAny_typeNameOf_itemiter
def JJ:=@Value.isInt_shape
def JM:=@wpAny_pyIter_list
def JO:=@Calls.spliced_cons
def JP:=@W.callWith_K
def JW:=@tupleKind_room_in1
def JX:=@F.slot_dict_get
def J2:=@isSubtype_type
def J3:=@isSubtype_stop
def J4:=@wpAny_pyIter_slot
def J5:=@wpAny_setEpoch_of
def J7:=@wpAny_newTuple
def J8:=@wpAny_ite_split
def J9:=@boot_len
def KA:=@wpAny_dictEntries
def KC:=@wpAny_dictEpoch
def KD:=@wpAny_isOneOf_itemiter
def Ye:=@Calls.Name_function_global
def Yg:=@W.cellsFrom_some
def Yl:=@F.slot_list_index
def Yn:=@F.slot_dict_getitem
def Yo:=@F.entry_dict_get
def Yp:=@F.args_dict_get_3
def Yr:=@wpAny_letOwnedTupleGo_items
def Yv:=@Calls.call_function_entry
def YC:=@F.entry_dict_itemiterator_next
def YD:=@F.args_dict_itemiterator_next_1
def YI:=@W.length_le_weightAllW
end
namespace L2
open PySem PySem.Spec PyProof.Rows
abbrev Key:=Sum Int Str
def kH:Key→Value→Bool
 | .inl k,v=>Value.isInt k v
 | .inr x,v=>Value.isStrOf x v
def Im(w:World):Key→Int
 | .inl k=>hashInt k
 | .inr x=>hashStr w x
theorem ku:∀{k:Key}{v:Value},kH k v=true→(∃i t,k=Sum.inl i∧v=Value.int i t)∨(∃x t,k=Sum.inr x∧v=Value.str x t)
 | .inl i,v,h=>by obtain⟨t,e⟩:=JJ h;simp[*]
 | .inr x,v,h=>by obtain⟨t,e⟩:=Value.isStrOf_shape h;simp[*]
theorem Np(i:Int)(t:Tok):kH (.inl i) (.int i t)=true:=by simp[kH,Value.isInt]
theorem Ti(x:Str)(t:Tok):kH (.inr x) (.str x t)=true:=by simp[kH,Value.isStrOf]
theorem Wz(a b:Int):decide ((Sum.inl a:Key)=Sum.inl b)=(a==b):=by lia
theorem OA(a b:Str):decide ((Sum.inr a:Key)=Sum.inr b)=decide (a=b):=by simp
theorem Pu(a:Int)(b:Str):decide ((Sum.inl a:Key)=Sum.inr b)=false:=cU (fun q=>nomatch q)
theorem Xh(a:Str)(b:Int):decide ((Sum.inr a:Key)=Sum.inl b)=false:=cU (fun q=>nomatch q)
def dZ(prog:Program)(w:World):PySem.KeyKind prog w Key where
 is:=kH
 hash:=Im w
 inj:=fun v a b ha hb=>by
  rcases ku ha with⟨i,t,rfl,rfl⟩|⟨x,t,rfl,rfl⟩
  ·rcases ku hb with⟨j,u,rfl,e⟩|⟨y,u,rfl,e⟩
   ·injection e with e1 _;rw[e1]
   ·exact nomatch e
  ·rcases ku hb with⟨j,u,rfl,e⟩|⟨y,u,rfl,e⟩
   ·exact nomatch e
   ·injection e with e1 _;rw[e1]
 byValue:=fun k v h=>by rcases ku h with⟨i,t,rfl,rfl⟩|⟨x,t,rfl,rfl⟩<;>rfl
 pyHash:=fun hv h=>by
  rcases ku hv with⟨i,t,rfl,rfl⟩|⟨x,t,rfl,rfl⟩
  ·exact wpAny_pyHash_int h
  ·exact wpAny_pyHash_str h
 eqBool:=fun hu hv h=>by
  rcases ku hu with⟨i,t,rfl,rfl⟩|⟨x,t,rfl,rfl⟩
  ·rcases ku hv with⟨j,u,rfl,rfl⟩|⟨y,u,rfl,rfl⟩
   ·rw[Wz]at h;exact wpAny_eqBool_int h
   ·rw[Pu]at h;exact SeqAt.EqAt.int_str i t y u _ _ _ _ h
  ·rcases ku hv with⟨j,u,rfl,rfl⟩|⟨y,u,rfl,rfl⟩
   ·rw[Xh]at h;exact SeqAt.EqAt.str_int x t j u _ _ _ _ h
   ·rw[OA]at h;exact wpAny_eqBool_str h
 «strs»:=fun k x t v h=>by
  rcases ku h with⟨i,u,rfl,e⟩|⟨y,u,rfl,e⟩
  ·exact nomatch e
  ·injection e with e1 _;subst e1;cases v<;>rfl
theorem O6(prog:Program)(w:World)(i:Int)(t:Tok):(dZ prog w).is (.inl i) (.int i t)=true:=Np i t
theorem S5(prog:Program)(w:World)(x:Str)(t:Tok):(dZ prog w).is (.inr x) (.str x t)=true:=Ti x t
inductive V where
 |a8|bl (b:Bool)|int (i:Int)|str (x:Str)|fT (b:Array UInt8)|flt (b:UInt64)|ref (a:Addr)|ty (n:String)
 deriving DecidableEq
def RelV:V→Value→Prop
 | .a8,u=>u=Value.none
 | .bl b,u=>u=Value.bool b
 | .int i,u=>∃t,u=Value.int i t
 | .str x,u=>∃t,u=Value.str x t
 | .fT b,u=>∃t,u=Value.bytes b t
 | .flt b,u=>∃t,u=Value.float b t
 | .ref a,u=>u=Value.ref a
 | .ty n,u=>u=Value.type n
abbrev Vals:List V→List Value→Prop:=Paired RelV
theorem Vals.length(r:Vals xs us):xs.length=us.length:=qV r
theorem Vals.get:∀{xs:List V}{us:List Value}{i:Nat}{x:V},Vals xs us→xs[i]?=some x→∃u,us[i]?=some u∧RelV x u
 |_,_,_,_, .nil,e=>by simp at e
 |_,_,0,_, .cons r _,e=>by simp at e;subst e;exact⟨_,rfl,r⟩
 |_,_,i+1,x, .cons _ t,e=>by obtain⟨u,h1,h2⟩:=Vals.get t (by simpa using e);simp[*]
theorem Vals.set(r:RelV x u):∀{xs:List V}{us:List Value}(i:Nat),Vals xs us→Vals (xs.set i x) (us.set i u)
 |_,_,_, .nil=> .nil
 |_,_,0, .cons _ t=> .cons r t
 |_,_,i+1, .cons q t=> .cons q (Vals.set r i t)
theorem Vals.append:∀{xs ys:List V}{us ws:List Value},Vals xs us→Vals ys ws→Vals (xs++ys) (us++ws)
 |_,_,_,_, .nil,s=>s
 |_,_,_,_, .cons r t,s=> .cons r (Vals.append t s)
theorem Vals.take:∀{xs:List V}{us:List Value}(n:Nat),Vals xs us→Vals (xs.take n) (us.take n)
 |_,_,0,_=> .nil
 |_,_,_+1, .nil=> .nil
 |_,_,n+1, .cons r t=> .cons r (Vals.take n t)
theorem Vals.drop:∀{xs:List V}{us:List Value}(n:Nat),Vals xs us→Vals (xs.drop n) (us.drop n)
 |_,_,0,r=>r
 |_,_,_+1, .nil=> .nil
 |_,_,n+1, .cons _ t=>Vals.drop n t
def gf:Option V→Option Value→Prop
 |some v,some u=>RelV v u
 |none,none=>True
 |_,_=>False
def KV{κ:Type}:List (κ×V)→List (κ×Value)→Prop:=Paired fun(p:κ×V)(q:κ×Value)=>p.1=q.1∧RelV p.2 q.2
def kV:Key→V
 | .inl i=> .int i
 | .inr x=> .str x
inductive HO where
 |lst (xs:List V)
 |tup (xs:List V)
 |dK (ab:List (Key×V))|dT (ab:List (List Key×V))
 |set (S:Int→Bool) (n:Nat)
 |ins (C dx:Addr) (fs:List (Str×V))
 |own (x:Addr)
 |xd (fs:List (Str×V))
 |met (f x:Addr)
 |kN (lo hi:Int)
 |aX (o:Obj) (u:HO)
 |oQ (ps:Array Value)
 |ext (φ:Heap→Prop)
abbrev Hp:=Addr→Option HO
def upd(H:Hp)(a:Addr)(o:HO):Hp:=fun b=>if b=a then some o else H b
theorem aE:upd H a o a=some o:=by unfold upd;rw[ag rfl]
theorem aB(h:b≠a):upd H a o b=H b:=by unfold upd;rw[af h]
theorem HL{H:Hp}(h:H a=some o)(h':H b=some u)(d:o≠u):a≠b:=by lia
theorem bB{H:Hp}(h:H a=some o)(h':H b=none):a≠b:=by lia
section
variable(P:Program)(w:World)
def cw(H:Hp)(h:Heap)(a:Addr):HO→Prop
 | .lst xs=>xs.length≤sizeLine∧∃(ao:List Value)(n:Nat),Vals xs ao∧h.get? a=some {cls:= .type "list",data:= .seq ao.toArray n}
 | .tup xs=>xs.length≤sizeLine∧∃ao:List Value,Vals xs ao∧IsTup h a ao.toArray
 | .dK ab=>ab.length≤sizeLine∧(a==sysModules)=false∧∃vs,KV ab vs∧h.DictOf (dZ P w) a vs
 | .dT ab=>ab.length≤sizeLine∧(a==sysModules)=false∧∃xs:List (List Key×Addr×Value),
   Paired (fun(p:List Key×V)(q:List Key×Addr×Value)=>p.1=q.1∧H q.2.1=some (.tup (p.1.map kV))∧RelV p.2 q.2.2) ab xs∧
   ∃o es ep,h.get? a=some o∧o.ExactDict∧o.data= .dict es ep∧es.toList=xs.map (entryOfKey (tupleKind (dZ P w)))∧(xs.map (·.1)).Nodup
 | .set S n=>h.SetOf (intKind P w) a S n
 | .ins C dx fs=>H dx=some (.own a)∧fs.length≤1000∧dx≠a∧h.get? a=some (W.instObj C dx)∧
   ∃mA,h.Ns1 dx mA∧(∀f,gf (fs.lookup f) (mA f))∧PySem.Within mA (fs.map (·.1))
 | .own _=>∃o,h.get? a=some o
 | .xd fs=>∃mA,h.Ns1 a mA∧∀f,gf (fs.lookup f) (mA f)
 | .kN lo hi=>∃t u v,h.get? a=some {cls:= .type "range",data:= .fields #[.int lo t, .int hi u, .int 1 v]}
 | .aX o u=>h.get? a=some o∧cw H h a u
 | .oQ ps=>h.get? a=some {cls:= .none,data:= .fields ps}
 | .met f x=>h.get? a=some (W.methodObj (.ref f) (.ref x))
 | .ext φ=>φ h∧(∃o,h.get? a=some o)∧∀h1 h2:Heap,φ h1→(∀o,h1.get? a=some o→h2.get? a=some o)→φ h2
def b_(H:Hp)(h:Heap):Prop:=∀a o,H a=some o→cw P w H h a o
end
section
variable{P:Program}{w:World}{H H':Hp}{h h':Heap}{a:Addr}{o:HO}
theorem cw.lt(x:cw P w H h a o):a<h.objs.size:=by
 cases o with
 |lst xs=>obtain⟨_,_,_,_,e⟩:=x;exact bF e
 |tup xs=>obtain⟨_,_,_,p⟩:=x;exact p.lt
 |dK ab=>obtain⟨_,_,_,_,o,_,_,e,_⟩:=x;exact bF e
 |dT ab=>obtain⟨_,_,_,_,o,_,_,e,_⟩:=x;exact bF e
 |set S n=>obtain⟨o,_,_,_,e,_⟩:=x;exact bF e
 |ins C dx fs=>obtain⟨_,_,_,e,_⟩:=x;exact bF e
 |own y=>obtain⟨_,e⟩:=x;exact bF e
 |xd fs=>obtain⟨_,⟨_,_,_,e,_⟩,_⟩:=x;exact bF e
 |kN lo hi=>obtain⟨_,_,_,e⟩:=x;exact bF e
 |aX ob u=>obtain⟨e,_⟩:=x;exact bF e
 |oQ ps=>exact bF (x)
 |met f y=>exact bF (x)
 |ext φ=>obtain⟨_,⟨_,e⟩,_⟩:=x;exact bF e
theorem Paired.AV:∀{l₁:List α}{l₂:List β},Paired F l₁ l₂→(∀a b,F a b→G a b)→Paired G l₁ l₂
 |_,_, .nil,_=> .nil
 |_,_, .cons r t,f=> .cons (f _ _ r) (Paired.AV t f)
theorem cw.kJ(x:cw P w H h a o)(k:∀b u,(b=a∨H b=some (.own a))→h.get? b=some u→h'.get? b=some u)
  (ho:∀b,H b=some (.own a)→H' b=some (.own a))(ht:∀b xs,H b=some (.tup xs)→H' b=some (.tup xs)):cw P w H' h' a o:=by
 induction o with
 |lst xs=>obtain⟨z,ao,n,r,e⟩:=x;exact⟨z,ao,n,r,k _ _ (.inl rfl) e⟩
 |tup xs=>obtain⟨z,ao,r,ob,e,c⟩:=x;exact⟨z,ao,r,ob,k _ _ (.inl rfl) e,c⟩
 |dK ab=>obtain⟨z,y,vs,r,ob,es,ep,e,c⟩:=x;exact⟨z,y,vs,r,ob,es,ep,k _ _ (.inl rfl) e,c⟩
 |dT ab=>obtain⟨z,y,xs,r,ob,es,ep,e,c⟩:=x;exact⟨z,y,xs,Paired.AV r fun p q z=>⟨z.1,ht _ _ z.2.1,z.2.2⟩,ob,es,ep,k _ _ (.inl rfl) e,c⟩
 |set S n=>obtain⟨ob,es,ep,t,e,c⟩:=x;exact⟨ob,es,ep,t,k _ _ (.inl rfl) e,c⟩
 |ins C dx fs=>obtain⟨d,z,ne,e,mA,⟨od,es,ep,e2,c⟩,r⟩:=x;exact⟨ho _ d,z,ne,k _ _ (.inl rfl) e,mA,⟨od,es,ep,k _ _ (.inr d) e2,c⟩,r⟩
 |own y=>obtain⟨ob,e⟩:=x;exact⟨ob,k _ _ (.inl rfl) e⟩
 |xd fs=>obtain⟨mA,⟨od,es,ep,e,c⟩,r⟩:=x;exact⟨mA,⟨od,es,ep,k _ _ (.inl rfl) e,c⟩,r⟩
 |kN lo hi=>obtain⟨t,u,v,e⟩:=x;exact⟨t,u,v,k _ _ (.inl rfl) e⟩
 |aX ob u ih=>obtain⟨e,q⟩:=x;exact⟨k _ _ (.inl rfl) e,ih q⟩
 |oQ ps=>have e:h.get? a=some {cls:= .none,data:= .fields ps}:=x;show h'.get? a=some {cls:= .none,data:= .fields ps};simp[*]
 |met f y=>have e:h.get? a=some (W.methodObj (.ref f) (.ref y)):=x;show h'.get? a=some (W.methodObj (.ref f) (.ref y));simp[*]
 |ext φ=>obtain⟨p,⟨o,e⟩,st⟩:=x;exact⟨st _ _ p fun o q=>k _ _ (.inl rfl) q,⟨o,k _ _ (.inl rfl) e⟩,st⟩
theorem b_.lt(x:b_ P w H h)(e:H a=some o):a<h.objs.size:=(x a o e).lt
theorem b_.fresh(x:b_ P w H h)(e:h.objs.size≤a):H a=none:=by
 cases q:H a with
 |none=>rfl
 |some u=>exact absurd (fc (x.lt q) e) (ly _)
theorem b_.kept(x:b_ P w H h)(k:∀b u,h.get? b=some u→h'.get? b=some u):b_ P w H h':=fun a o e=>
 (x a o e).kJ (fun b u _ q=>k b u q) (fun _ q=>q) fun _ _ q=>q
theorem b_.laid(x:b_ P w H h)(k:∀b u,h.get? b=some u→h'.get? b=some u)(hp:h.objs.size≤a)(new:cw P w (upd H a o) h' a o):b_ P w (upd H a o) h':=fun b u e=>by
 have hn:=x.fresh hp;by_cases hb:b=a
 ·subst hb;rw[aE]at e;cases e;exact new
 ·rw[aB hb]at e;exact(x b u e).kJ (fun c v _ q=>k c v q) (fun c q=>by rw[aB (bB q hn)];exact q) fun c xs q=>by rw[aB (bB q hn)];exact q
end
def Rd(H:Hp)(a:Addr)(u:HO):Prop:=H a=some u∨∃o,H a=some (.aX o u)
theorem Rd.ok(r:Rd H a u)(x:b_ P w H h):cw P w H h a u:=by
 rcases r with r|⟨o,r⟩
 ·exact x a u r
 ·obtain⟨_,q⟩:=x a _ r;exact q
def qt:Option HO→Prop
 |some (.lst _)=>True
 |some (.dK _)=>True
 |some (.dT _)=>True
 |some (.set _ _)=>True
 |some (.ins _ _ _)=>True
 |some (.ext _)=>True
 |_=>False
section
variable{P:Program}{w:World}{H:Hp}{h h':Heap}{x e:Addr}{o':HO}
theorem b_.write(ok:b_ P w H h)(mu:qt (H x))(he:e=x∨H e=some (.own x))(k:∀b u,b≠e→h.get? b=some u→h'.get? b=some u)(heo:∃u,h'.get? e=some u)
  (new:cw P w (upd H x o') h' x o'):b_ P w (upd H x o') h':=fun b u q=>by
 have nown:∀c y,H c=some (.own y)→c≠x:=fun c y r z=>by subst z;rw[r]at mu;exact mu
 have ntup:∀c xs,H c=some (.tup xs)→c≠x:=fun c xs r z=>by subst z;rw[r]at mu;exact mu
 by_cases hb:b=x
 ·subst hb;rw[aE]at q;cases q;exact new
 ·rw[aB hb]at q;by_cases hbe:b= e
  ·have q':H b=some (.own x):=by
    lia
   rw[q]at q';cases q';obtain⟨v,hv⟩:=heo;exact⟨v,by rw[hbe];exact hv⟩
  ·refine(ok b u q).kJ (fun c v hc r=>k c v ?_ r) (fun c r=>by rw[aB (nown c b r)];exact r) fun c xs r=>by rw[aB (ntup c xs r)];exact r
   grind
end
structure Un(fs ex:List Addr)(H H':Hp)(h h':Heap):Prop where
 keep:∀b o,h.get? b=some o→H b=none→b∉fs→b∉ex→h'.get? b=some o
 slot:∀b o,h.get? b=some o→H b=none→b∈fs→b∉ex→∃sl,h'.get? b=some {o with slots:=sl}
 free:∀b o,h.get? b=some o→H b=none→b∉ex→H' b=none
 there:∀b o,h.get? b=some o→b∉ex→∃o',h'.get? b=some o'
 mf:∀b xs,H b=some (.tup xs)→H' b=some (.tup xs)
 kZ:∀b o u,H b=some (.aX o u)→H' b=some (.aX o u)
 mw:∀b ps,H b=some (.oQ ps)→∃more,H' b=some (.oQ (ps++more))
section
variable{fs fs' ex ex':List Addr}{H H1 H2:Hp}{h h1 h2 h':Heap}{a x e:Addr}{o:HO}
theorem Un.any(u:Un fs ex H H1 h h1)(q:h.get? b=some ob)(n:H b=none)(hx:b∉ex):∃sl,h1.get? b=some {ob with slots:=sl}:=by
 by_cases hb:b∈fs
 ·exact u.slot b ob q n hb hx
 ·exact⟨ob.slots,u.keep b ob q n hb hx⟩
theorem Un.kept(k:∀b u,h.get? b=some u→h'.get? b=some u):Un fs ex H H h h':=
 ⟨fun b ob q _ _ _=>k b ob q,fun b ob q _ _ _=>⟨ob.slots,k b ob q⟩,fun _ _ _ n _=>n,fun b ob q _=>⟨ob,k b ob q⟩,fun _ _ q=>q,fun _ _ _ q=>q,fun _ ps q=>⟨#[],by rw[q];simp⟩⟩
theorem Un.refl:Un fs ex H H h h:=Un.kept fun _ _ q=>q
theorem Un.laid(k:∀b u,h.get? b=some u→h'.get? b=some u)(hp:h.objs.size≤a)(hn:H a=none):Un fs ex H (upd H a o) h h' where
 keep:=fun b u q _ _ _=>k b u q
 slot:=fun b u q _ _ _=>⟨u.slots,k b u q⟩
 free:=fun b u q n _=>by rw[aB (bY (fc (bF q) hp))];exact n
 there:=fun b u q _=>⟨u,k b u q⟩
 mf:=fun b xs q=>by rw[aB (bB q hn)];exact q
 kZ:=fun b u xs q=>by rw[aB (bB q hn)];exact q
 mw:=fun b ps q=>⟨#[],by rw[aB (bB q hn),q];simp⟩
theorem Un.write(mu:qt (H x))(he:e=x∨H e=some (.own x))(k:∀b u,b≠e→h.get? b=some u→h'.get? b=some u)(heo:∃u,h'.get? e=some u):Un fs ex H (upd H x o) h h':=by
 have hx:∀b,H b=none→b≠x:=fun b n z=>by subst z;rw[n]at mu;exact mu
 have hb:∀b,H b=none→b≠e:=fun b n z=>by simp_all
 have hm:∀b u,H b=some u→¬qt (some u)→b≠x:=fun b u q nm z=>by subst z;rw[q]at mu;exact nm mu
 refine⟨fun b u q n _ _=>k b u (hb b n) q,fun b u q n _ _=>⟨u.slots,k b u (hb b n) q⟩,fun b u q n _=>by rw[aB (hx b n)];exact n,fun b u q _=>?_,
  fun b xs q=>by rw[aB (hm b _ q fun z=>z)];exact q,fun b u xs q=>by rw[aB (hm b _ q fun z=>z)];exact q,fun b ps q=>⟨#[],by rw[aB (hm b _ q fun z=>z),q];simp⟩⟩
 grind
end
def wV(h:Heap)(H:Hp):List Addr:=(range h.objs.size).filter fun a=>(H a).isSome
def mn(h:Heap)(H:Hp):Heap:=W.hideAll h (wV h H)
theorem SQ(h:Heap)(H:Hp):(mn h H).objs.size=h.objs.size:=W.hideAll_size _ _
theorem SK(e:h.get? b=some o)(n:H b=none):(mn h H).get? b=some o:=
 W.hideAll_get _ e fun hm=>by have q:(H b).isSome=true:=(dz.mp hm).2;simp_all
theorem Wh(e:(mn h H).get? b=some o):h.get? b=some o∧H b=none:=by
 have e':h.get? b=some o:=W.of_hideAll (wV h H) e;refine⟨e',?_⟩;cases q:H b with
 |none=>rfl
 |some x=>
  have hm:b∈wV h H:=dz.mpr ⟨bQ.mpr (bF e'),by simp[q]⟩;have z:(mn h H).get? b=none:=W.hideAll_none (wV h H) hm
  lia
structure Mod(K:YX)(mg:YZ)(base:Heap):Prop where
 iO:K.In base
 glob:base.Ns mainGlobals mg
 blt:∃mb,base.Ns builtinsNs mb∧∀x:Str,x≠"__name__"→mb x=bootBuiltins x
 nolimit:base.NoLimit
structure Cx where
 prog:Program
 w:World
 K:YX
 mg:Str→Option Value
 base:Heap
 A:Around
 N:List Str
 eM:Shared
 kb:Hp
 env:Env
 outer:List Env
 stack:List Env
 ex:List Addr
 fn:Str→Bool
 calm:Bool
 pn:YW
 xe:Value→Shared→Prop
def jG(l:List Env):List Addr:=l.filterMap (·.frame)
abbrev Cx.fs(X:Cx):List Addr:=jG X.outer
def dJ(sc:Scope)(x:Str):Prop:=sc.names.lookup x=some .local∨sc.names.lookup x=some .cell∨sc.names.lookup x=some .free
def Loc(sc:Scope)(x:Str):Prop:=sc.names.lookup x=some .local∨sc.names.lookup x=some .cell
def Look(env:Env)(h:Heap)(m:YZ)(x:Str)(u:Value):Prop:=
 (env.kindOf x=some .local∧m x=some u)∨((env.kindOf x=some .cell∨env.kindOf x=some .free)∧∃c,env.cells.lookup x=some c∧h.IsCell c (some u))
structure Cx.Ok(X:Cx):Prop where
 mod:Mod X.K X.mg X.base
 kind:X.env.scope.kind= .function
 glob:X.env.globals=mainGlobals
 blt:X.env.builtins=builtinsNs
 above:X.eM.heap.objs.size≤X.env.locals
 inj:∀x y c,X.env.cells.lookup x=some c→X.env.cells.lookup y=some c→x=y
 has:∀x,(X.env.kindOf x=some .cell∨X.env.kindOf x=some .free)→∃c,X.env.cells.lookup x=some c
 sH:∀x c,X.fn x=true→X.env.cells.lookup x=some c→X.eM.heap.objs.size≤c
 hd:X.calm=true→X.A.handled=none
 frames:X.A.frames=some X.stack
 uX:X.stack=X.outer∨(X.stack=X.env::X.outer∧X.env.frame=some X.env.locals)
 xf:∀b∈X.ex,b≠X.env.locals∧∀x c,X.env.cells.lookup x=some c→c≠b
 bs:∀b o,X.base.get? b=some o→X.eM.heap.get? b=some o∧X.kb b=none
 mi:X.base.objs.size≤X.eM.heap.objs.size
 sy:∀b o,X.base.get? b=some o→b∉X.ex
 sq:∀b∈X.ex,b∉X.fs
 ja:X.eM.heap.FunFrames X.base X.outer
 pK:∀b∈X.fs,X.kb b=none
structure Inv(X:Cx)(pins:YW)(σ:List (Option V))(H:Hp)(s:Shared):Prop where
 ok:X.Ok
 os:s.os=X.eM.os
 bare:AllBare s.gens
 base:Un X.fs X.ex X.kb H X.eM.heap s.heap
 loc:∃m,s.heap.Ns X.env.locals m∧∀(i:Nat)(x:Str)(v:V),X.N[i]?=some x→σ[i]?=some (some v)→dJ X.env.scope x→∃u,RelV v u∧Look X.env s.heap m x u
 cell:∀x c,X.env.cells.lookup x=some c→∃v,s.heap.IsCell c v
 free:H X.env.locals=none
 iz:∀x c,X.env.cells.lookup x=some c→H c=none
 pin:∀p∈X.pn++pins,s.heap.get? p.1=some p.2∧H p.1=none∧p.1≠X.env.locals∧p.1∉X.fs∧∀v,p.2.data≠ .cell v
 aG:b_ X.prog X.w H s.heap
 len:σ.length=X.N.length
section
variable{X:Cx}{pins:YW}{σ:List (Option V)}{H H':Hp}{s:Shared}{h':Heap}
theorem Cx.Ok.Mw(ok:X.Ok)(e:X.base.get? b=some o):b∉X.fs:=fun hb=>by
 have:=(ok.ja.mem hb).1
 lia
theorem Inv.bs(I:Inv X pins σ H s):∀b o,X.base.get? b=some o→s.heap.get? b=some o∧H b=none:=fun b o e=>
 ⟨I.base.keep b o (I.ok.bs b o e).1 (I.ok.bs b o e).2 (I.ok.Mw e) (I.ok.sy b o e),I.base.free b o (I.ok.bs b o e).1 (I.ok.bs b o e).2 (I.ok.sy b o e)⟩
theorem Inv.bk(I:Inv X pins σ H s):∀b o,X.base.get? b=some o→s.heap.get? b=some o:=fun b o e=>(I.bs b o e).1
theorem Inv.mod(I:Inv X pins σ H s):Mod X.K X.mg X.base:=I.ok.mod
theorem Inv.iy(I:Inv X pins σ H s):X.K.In s.heap:=I.ok.mod.iO.keeps I.bk
theorem Inv.lt(I:Inv X pins σ H s):X.env.locals<s.heap.objs.size:=let⟨_,hn,_⟩:=I.loc;hn.lt
theorem Inv.sz(I:Inv X pins σ H s):X.eM.heap.objs.size≤s.heap.objs.size:=cx I.ok.above (qW I.lt)
theorem Inv.LL(I:Inv X pins σ H s)(h:s.heap.objs.size≤a):a∉X.fs:=fun hb=>by obtain⟨_,o,ho,_⟩:=I.ok.ja.mem hb;exact absurd (fc (bF ho) (cx I.sz h)) (ly _)
theorem Inv.oE(I:Inv X pins σ H s):∀x c,X.env.cells.lookup x=some c→c≠X.env.locals:=fun x c e z=>by obtain⟨v,o,ho,hd⟩:=I.cell x c e;obtain⟨m,⟨o',es,ep,gy,hd',_⟩,_⟩:=I.loc;simp_all
theorem Inv.ja(I:Inv X pins σ H s):s.heap.FunFrames X.base X.outer:=by
 have all:∀(l:List Env),(∀b∈jG l,b∈X.fs)→X.eM.heap.FunFrames X.base l→s.heap.FunFrames X.base l:=by
  intro l;induction l with
  |nil=>intro _ _;trivial
  |cons env r ih=>intro hs hl;obtain⟨hk,⟨L,o,hf,hn,ho,hd⟩,hr⟩:=hl;have hL:L∈X.fs:=hs L (by unfold jG;rw[xK,hf];exact gN);obtain⟨sl,e⟩:=I.base.slot L o ho (I.ok.pK L hL) hL fun z=>I.ok.sq L z hL;exact⟨hk,⟨L,_,hf,hn,e,hd⟩,ih (fun b hb=>hs b (by unfold jG;rw[xK,hf];exact bW _ hb)) hr⟩
 exact all X.outer (fun _ hb=>hb) I.ok.ja
theorem Inv.stack(I:Inv X pins σ H s):s.heap.FunFrames X.base X.stack:=by
 rcases I.ok.uX with e|⟨e,hf⟩
 ·rw[e];exact I.ja
 ·rw[e];obtain⟨m,hn,_⟩:=I.loc;refine .cons (by rw[I.ok.kind];decide) hf hn ?_ I.ja;exact Heap.get?_none_of_le (cx I.ok.mi I.ok.above)
theorem Inv.yM(I:Inv X pins σ H s):∀b∈jG X.stack,b∈X.env.locals::X.fs:=fun b hb=>by
 rcases I.ok.uX with e|⟨e,hf⟩
 ·simp_all
 ·rw[e]at hb;unfold jG at hb;rwa[xK,hf]at hb
theorem Inv.Gu(I:Inv X pins σ H s):∀b∈jG X.stack,H b=none:=fun b hb=>by
 rcases a_.mp (I.yM b hb)with e|hb
 ·rw[e];exact I.free
 ·obtain⟨_,o,ho,_⟩:=I.ok.ja.mem hb;exact I.base.free b o ho (I.ok.pK b hb) fun z=>I.ok.sq b z hb
theorem Inv.step{ch:List Addr}(I:Inv X pins σ H s)(k0:∀b∈ch,(b∈X.ex∨X.eM.heap.objs.size≤b)∧b≠X.env.locals∧(∀x c,X.env.cells.lookup x=some c→c≠b)∧∀p∈X.pn++pins,p.1≠b)(keep:∀b o,b≠X.env.locals→b∉X.fs→b∉ch→s.heap.get? b=some o→H b=none→h'.get? b=some o)(slot:∀b o,b≠X.env.locals→b∈X.fs→b∉ch→s.heap.get? b=some o→H b=none→∃sl,h'.get? b=some {o with slots:=sl})(free:∀b o,b∉ch→s.heap.get? b=some o→H b=none→H' b=none)(there:∀b o,b∉ch→s.heap.get? b=some o→∃o',h'.get? b=some o')(mf:∀b xs,H b=some (.tup xs)→H' b=some (.tup xs))(kZ:∀b o u,H b=some (.aX o u)→H' b=some (.aX o u))(mw:∀b ps,H b=some (.oQ ps)→∃more,H' b=some (.oQ (ps++more)))(ns:∀m,s.heap.Ns X.env.locals m→h'.Ns X.env.locals m)(aG:b_ X.prog X.w H' h')(hg:AllBare g'):
  Inv X pins σ H' {s with heap:=h',gens:=g',drawn:=d',toks:=t'}:=by
 have neL:∀b o,X.eM.heap.get? b=some o→b≠X.env.locals:=fun b o e=>bY (fc (bF e) I.ok.above);have neC:∀b o,X.eM.heap.get? b=some o→b∉X.ex→b∉ch:=fun b o e hx hb=>by
  rcases(k0 b hb).1 with z|z
  ·lia
  ·exact absurd (fc (bF e) z) (ly _)
 have cellK:∀x c,X.env.cells.lookup x=some c→∀v,s.heap.IsCell c v→h'.IsCell c v:=fun x c e v⟨o,ho,hd⟩=>by
  have nch:c∉ch:=fun z=>(k0 c z).2.2.1 x c e rfl;by_cases hc:c∈X.fs
  ·obtain⟨sl,q⟩:=slot c o (I.oE x c e) hc nch ho (I.iz x c e);exact⟨_,q,hd⟩
  ·exact⟨o,keep c o (I.oE x c e) hc nch ho (I.iz x c e),hd⟩
 refine⟨I.ok,I.os,hg,⟨fun b o e n hb hx=>?_,fun b o e n hb hx=>?_,fun b o e n hx=>?_,fun b o e hx=>?_,fun b xs e=>mf b xs (I.base.mf b xs e),fun b o xs e=>kZ b o xs (I.base.kZ b o xs e),fun b ps e=>?_⟩,?_,fun x c e=>?_,?_,fun x c e=>?_,fun p hp=>?_,aG,I.len⟩
 ·exact keep b o (neL b o e) hb (neC b o e hx) (I.base.keep b o e n hb hx) (I.base.free b o e n hx)
 ·obtain⟨sl,e1⟩:=I.base.slot b o e n hb hx;obtain⟨sl',e2⟩:=slot b _ (neL b o e) hb (neC b o e hx) e1 (I.base.free b o e n hx);exact⟨sl',e2⟩
 ·obtain⟨o',e1⟩:=I.base.there b o e hx;exact free b o' (neC b o e hx) e1 (I.base.free b o e n hx)
 ·obtain⟨o',e1⟩:=I.base.there b o e hx;exact there b o' (neC b o e hx) e1
 ·obtain⟨m1,e1⟩:=I.base.mw b ps e;obtain⟨m2,e2⟩:=mw b _ e1;exact⟨m1++m2,by rw[e2,Array.append_assoc]⟩
 ·obtain⟨m,hn,hl⟩:=I.loc;refine⟨m,ns m hn,fun i x v e1 e2 e3=>?_⟩;obtain⟨u,r,l⟩:=hl i x v e1 e2 e3;refine⟨u,r,?_⟩;rcases l with l|⟨k,c,e,z⟩
  ·exact .inl l
  ·exact .inr ⟨k,c,e,cellK x c e _ z⟩
 ·obtain⟨v,z⟩:=I.cell x c e;exact⟨v,cellK x c e v z⟩
 ·obtain⟨m,⟨o,_,_,ho,_⟩,_⟩:=I.loc;exact free _ o (fun z=>(k0 _ z).2.1 rfl) ho I.free
 ·obtain⟨v,o,ho,hd⟩:=I.cell x c e;exact free c o (fun z=>(k0 c z).2.2.1 x c e rfl) ho (I.iz x c e)
 ·obtain⟨e,n,ne,nf,d⟩:=I.pin p hp;have nch:p.1∉ch:=fun z=>(k0 p.1 z).2.2.2 p hp rfl;exact⟨keep p.1 p.2 ne nf nch e n,free p.1 p.2 nch e n,ne,nf,d⟩
theorem Inv.un(I:Inv X pins σ H s)(u:Un X.fs [] H H' s.heap h')(aG:b_ X.prog X.w H' h'):Inv X pins σ H' {s with heap:=h',toks:=t'}:=by obtain⟨m,⟨o,es,ep,ho,r⟩,_⟩:=id I.loc;obtain⟨sl,hL⟩:=u.any ho I.free (by simp);exact I.step (ch:=[]) (fun _ z=>nomatch z) (fun b o _ hb _ e n=>u.keep b o e n hb (by simp)) (fun b o _ hb _ e n=>u.slot b o e n hb (by simp)) (fun b o _ e n=>u.free b o e n (by simp)) (fun b o _ e=>u.there b o e (by simp)) u.mf u.kZ u.mw (fun m' hm=>by obtain⟨o',di,d6,gy,r'⟩:=hm;rw[ho]at gy;cases gy;exact⟨_,di,d6,hL,r'⟩) aG I.bare
theorem Inv.call(I:Inv X pins σ H s)(u:Un (jG X.stack) ch H H' s.heap h')(aG:b_ X.prog X.w H' h')(hg:AllBare g')(k0:∀b∈ch,(b∈X.ex∨X.eM.heap.objs.size≤b)∧b≠X.env.locals∧(∀x c,X.env.cells.lookup x=some c→c≠b)∧∀p∈X.pn++pins,p.1≠b):
  Inv X pins σ H' {s with heap:=h',gens:=g',drawn:=d',toks:=t'}:=by
 obtain⟨m,⟨o,es,ep,ho,r⟩,_⟩:=id I.loc;obtain⟨sl,hL⟩:=u.any ho I.free fun z=>(k0 _ z).2.1 rfl;exact I.step k0 (fun b o hL hb hc e n=>u.keep b o e n (fun z=>(a_.mp (I.yM b z)).elim hL hb) hc) (fun b o _ _ hc e n=>u.any e n hc) (fun b o hc e n=>u.free b o e n hc) (fun b o hc e=>u.there b o e hc) u.mf u.kZ u.mw (fun m' hm=>by obtain⟨o',di,d6,gy,r'⟩:=hm;rw[ho]at gy;cases gy;exact⟨_,di,d6,hL,r'⟩) aG hg
theorem Inv.turned(I:Inv X pins σ H s)(k:∀b o,b≠it→s.heap.get? b=some o→h'.get? b=some o)(hn:H it=none)(hL:it≠X.env.locals)(h1:it∈X.ex∨X.eM.heap.objs.size≤it)(h2:∀x c,X.env.cells.lookup x=some c→c≠it)(h3:∀p∈X.pn++pins,p.1≠it):Inv X pins σ H {s with heap:=h',toks:=t'}:=by
 refine I.step (ch:=[it]) (fun b hb=>?_) (fun b o _ _ hc e _=>k b o (fun z=>hc (by simp[z])) e) (fun b o _ _ hc e _=>⟨o.slots,k b o (fun z=>hc (by simp[z])) e⟩) (fun _ _ _ _ n=>n)
  (fun b o hc e=>⟨o,k b o (fun z=>hc (by simp[z])) e⟩) (fun _ _ e=>e) (fun _ _ _ e=>e) (fun b ps e=>⟨#[],by rw[e];simp⟩) (fun m hm=>?_) (fun b u e=>?_) I.bare
 ·grind
 ·obtain⟨o,es,ep,ho,r⟩:=hm;exact⟨o,es,ep,k _ o (iU hL) ho,r⟩
 ·refine(I.aG b u e).kJ (fun c v hc q=>k c v ?_ q) (fun _ q=>q) fun _ _ q=>q
  lia
theorem Inv.tok(I:Inv X pins σ H s)(t:Nat):Inv X pins σ H {s with toks:=t}:=I.un Un.refl I.aG
theorem Inv.kept(I:Inv X pins σ H s)(k:∀b u,s.heap.get? b=some u→h'.get? b=some u):Inv X pins σ H {s with heap:=h',toks:=t'}:=I.un (Un.kept k) (I.aG.kept k)
theorem Inv.laid(I:Inv X pins σ H s)(k:∀b u,s.heap.get? b=some u→h'.get? b=some u)(hp:s.heap.objs.size≤a)(new:cw X.prog X.w (upd H a o) h' a o):
  Inv X pins σ (upd H a o) {s with heap:=h',toks:=t'}:=I.un (Un.laid k hp (I.aG.fresh hp)) (I.aG.laid k hp new)
theorem Inv.write(I:Inv X pins σ H s)(mu:qt (H x))(he:e=x∨H e=some (.own x))(k:∀b u,b≠e→s.heap.get? b=some u→h'.get? b=some u)(heo:∃u,h'.get? e=some u)(new:cw X.prog X.w (upd H x o) h' x o):Inv X pins σ (upd H x o) {s with heap:=h',toks:=t'}:=I.un (Un.write mu he k heo) (I.aG.write mu he k heo new)
theorem Inv.weak(I:Inv X pins σ H s)(hl:σ'.length=σ.length)(w:∀(i:Nat) v,σ'[i]?=some (some v)→σ[i]?=some (some v)):Inv X pins σ' H s:=
 ⟨I.ok,I.os,I.bare,I.base,let⟨m,hn,cb⟩:=I.loc;⟨m,hn,fun i x v e1 e2 e3=>cb i x v e1 (w i v e2) e3⟩,I.cell,I.free,I.iz,I.pin,I.aG,hl.trans I.len⟩
theorem Inv.CI(I:Inv X pins σ H s)(h:∀p∈pins',s.heap.get? p.1=some p.2∧H p.1=none∧p.1≠X.env.locals∧p.1∉X.fs∧∀v,p.2.data≠ .cell v):Inv X pins' σ H s:=
 ⟨I.ok,I.os,I.bare,I.base,I.loc,I.cell,I.free,I.iz,fun p hp=>(cE.mp hp).elim (fun z=>I.pin p (ux _ z)) (h p),I.aG,I.len⟩
theorem Au{N:List Str}(hN:N.Nodup){i j:Nat}(a:N[i]?=some x)(b:N[j]?=some x):i=j:=by obtain⟨h1,e1⟩:=d_.mp a;obtain⟨h2,e2⟩:=d_.mp b;exact(List.getElem_inj hN).mp (e1.trans e2.symm)
theorem GB(I:Inv X pins σ H s)(hN:X.N.Nodup)(hi:X.N[i]?=some x)(hx:Loc X.env.scope x)(r:RelV v u)(h:∀s',Inv X pins (σ.set i (some v)) H s'→(∃a,Heap.SameBut a s.heap s'.heap∧(a=X.env.locals∨X.env.cells.lookup x=some a))→Q () s')(hf:X.fn x=true∨X.env.scope.names.lookup x=some .local:=by first|exact .inl rfl|exact .inr rfl|assumption):wpAny M A (storeName X.env x u) Q E s:=by
 obtain⟨m,hn,hl⟩:=id I.loc;have hcls:(X.env.scope.kind== .class||(X.env.scope.kind== .module&&X.env.locals !=X.env.globals))=false:=by rw[I.ok.kind];rfl
 have hiσ:i<σ.length:=by rw[I.len];exact(d_.mp hi).1
 have oE:=I.oE;have tracked:∀{a:Addr}{h':Heap},(∃o,s.heap.get? a=some o∧H a=none)→Heap.SameBut a s.heap h'→b_ X.prog X.w H h':=fun{a h'} ha hs b ob e=>by
  obtain⟨_,_,qR⟩:=ha;refine(I.aG b ob e).kJ (fun c w' hc q=>(hs.2 c ?_).trans q) (fun _ q=>q) fun _ _ q=>q
  lia
 rcases hx with hk|hk
 ·refine wpAny_storeName_local hk hn (fun h' hn' hs=>?_) hcls;obtain⟨oL,_,_,hoL,_⟩:=id hn;refine h _ ⟨I.ok,I.os,I.bare,⟨fun b o e n hb hx=>?_,fun b o e n hb hx=>?_,I.base.free,fun b o e hx=>?_,I.base.mf,I.base.kZ,I.base.mw⟩,⟨_,hn',fun j y v' e1 e2 e3=>?_⟩,fun y c e=>?_,I.free,I.iz,fun p hp=>?_,tracked ⟨oL,hoL,I.free⟩ hs,by simpa using I.len⟩ ⟨_,hs, .inl rfl⟩
  ·exact(hs.2 b (bY (fc (bF e) I.ok.above))).trans (I.base.keep b o e n hb hx)
  ·obtain⟨sl,e1⟩:=I.base.slot b o e n hb hx;exact⟨sl,(hs.2 b (bY (fc (bF e) I.ok.above))).trans e1⟩
  ·obtain⟨o',e1⟩:=I.base.there b o e hx;exact⟨o',(hs.2 b (bY (fc (bF e) I.ok.above))).trans e1⟩
  ·by_cases hj:j=i
   ·subst hj;rw[hi]at e1;cases e1;rw[jC hiσ]at e2;cases e2;exact⟨u,r, .inl ⟨hk,by simp⟩⟩
   ·rw[ip (iU hj)]at e2;obtain⟨u',r',q⟩:=hl j y v' e1 e2 e3;refine⟨u',r',?_⟩;rcases q with⟨k,e⟩|⟨k,c,e,z⟩
    ·refine .inl ⟨k,?_⟩;have:y≠x:=fun e=>hj (Au hN e1 (e▸hi));simp[*]
    ·exact .inr ⟨k,c,e,z.sameBut hs (oE y c e)⟩
  ·obtain⟨w',z⟩:=I.cell y c e;exact⟨w',z.sameBut hs (oE y c e)⟩
  ·obtain⟨e,n,ne,nf,d⟩:=I.pin p hp;exact⟨(hs.2 p.1 ne).trans e,n,ne,nf,d⟩
 ·have hfn:X.fn x=true:=by
   lia
  obtain⟨c,hc⟩:=I.ok.has x (.inl hk);obtain⟨w',z⟩:=I.cell x c hc;refine wpAny_storeName_cell I.ok.kind hk hc z (fun h' dP hs=>?_);obtain⟨oc,hoc,hocd⟩:=id z;refine h {s with heap:=h'} ⟨I.ok,I.os,I.bare,⟨fun b o e n hb hx=>?_,fun b o e n hb hx=>?_,I.base.free,fun b o e hx=>?_,I.base.mf,I.base.kZ,I.base.mw⟩,⟨m,hn.sameBut hs (iU (oE x c hc)),fun j y v' e1 e2 e3=>?_⟩,fun y c' e=>?_,I.free,I.iz,fun p hp=>?_,tracked ⟨oc,hoc,I.iz x c hc⟩ hs,by simpa using I.len⟩ ⟨c,hs, .inr hc⟩
  ·exact(hs.2 b (bY (fc (bF e) (I.ok.sH x c hfn hc)))).trans (I.base.keep b o e n hb hx)
  ·obtain⟨sl,e1⟩:=I.base.slot b o e n hb hx;exact⟨sl,(hs.2 b (bY (fc (bF e) (I.ok.sH x c hfn hc)))).trans e1⟩
  ·obtain⟨o',e1⟩:=I.base.there b o e hx;exact⟨o',(hs.2 b (bY (fc (bF e) (I.ok.sH x c hfn hc)))).trans e1⟩
  ·by_cases hj:j=i
   ·subst hj;rw[hi]at e1;cases e1;rw[jC hiσ]at e2;cases e2;exact⟨u,r, .inr ⟨.inl hk,c,hc,dP⟩⟩
   ·rw[ip (iU hj)]at e2;obtain⟨u',r',q⟩:=hl j y v' e1 e2 e3;refine⟨u',r',?_⟩;rcases q with q|⟨k,c',e,z'⟩
    ·exact .inl q
    ·refine .inr ⟨k,c',e,z'.sameBut hs ?_⟩;rintro rfl;exact hj (Au hN e1 (I.ok.inj _ _ _ e hc▸hi))
  ·by_cases hcc:c'=c
   ·subst hcc;exact⟨_,dP⟩
   ·obtain⟨w2,z2⟩:=I.cell y c' e;exact⟨w2,z2.sameBut hs hcc⟩
  ·obtain⟨e,n,ne,nf,d⟩:=I.pin p hp;refine⟨(hs.2 p.1 ?_).trans e,n,ne,nf,d⟩;intro q;rw[q,hoc]at e;have q':oc=p.2:=eE e;exact d w' (by rw[←q'];exact hocd)
theorem Bk(I:Inv X pins σ H s)(hN:X.N.Nodup)(hi:X.N[i]?=some x)(hx:Loc X.env.scope x)(r:RelV v u)(h:∀s',Inv X pins (σ.set i (some v)) H s'→Q () s')(hf:X.fn x=true∨X.env.scope.names.lookup x=some .local:=by first|exact .inl rfl|exact .inr rfl|assumption):wpAny M A (storeName X.env x u) Q E s:=
 GB I hN hi hx r (fun s' I' _=>h s' I') hf
theorem Inv.En(I:Inv X pins σ H s)(ho:s'.os=s.os)(u:Un (jG X.stack) ch H H' s.heap s'.heap)(aG:b_ X.prog X.w H' s'.heap)(hg:AllBare s'.gens)(k0:∀b∈ch,(b∈X.ex∨X.eM.heap.objs.size≤b)∧b≠X.env.locals∧(∀x c,X.env.cells.lookup x=some c→c≠b)∧∀p∈X.pn++pins,p.1≠b):Inv X pins σ H' s':=by obtain⟨h',g',d',t',o'⟩:=s';have e:o'=s.os:=ho;subst e;exact I.call u aG hg k0
end
abbrev XK:=Value→Option Addr→Hp→Prop
abbrev St:=List (Option V)
abbrev VK:=V→Hp→Prop
abbrev TE:=St→Hp→VK→Prop
abbrev TT:=St→Hp→(Bool→Hp→Prop)→Prop
abbrev TA:=St→Hp→(List V→Hp→Prop)→Prop
structure Ends where
 nx:St→Hp→Prop
 rt:VK
 bk:St→Hp→Prop:=fun _ _=>False
 ct:St→Hp→Prop:=fun _ _=>False
abbrev TS:=Ends→St→Hp→Prop
def EP(X:Cx)(pins:YW)(σ:St)(Q:VK)(u:Value)(s':Shared):Prop:=∃v H',Inv X pins σ H' s'∧RelV v u∧Q v H'
def TP(X:Cx)(pins:YW)(σ:St)(Q:Bool→Hp→Prop)(b:Bool)(s':Shared):Prop:=∃H',Inv X pins σ H' s'∧Q b H'
def AP(X:Cx)(pins:YW)(σ:St)(Q:List V→Hp→Prop)(us:List Value)(s':Shared):Prop:=∃vs H',Inv X pins σ H' s'∧Vals vs us∧Q vs H'
def SP(X:Cx)(pins:YW)(D:Ends)(f:Flow)(s':Shared):Prop:=
 match f with
 | .next=>∃σ' H',Inv X pins σ' H' s'∧D.nx σ' H'
 | .brk=>∃σ' H',Inv X pins σ' H' s'∧D.bk σ' H'
 | .cont=>∃σ' H',Inv X pins σ' H' s'∧D.ct σ' H'
 | .ret u=>∃v σ' H',Inv X pins σ' H' s'∧RelV v u∧D.rt v H'
def PE(X:Cx)(e:Expr)(t:TE):Prop:=
 ∀(pins:YW)(s:Shared)(σ:St)(H:Hp)(Q:VK),Inv X pins σ H s→t σ H Q→wpAny (model X.prog X.w) X.A (eval e X.env) (EP X pins σ Q) X.xe s
def PT(X:Cx)(e:Expr)(t:TT):Prop:=
 ∀(pins:YW)(s:Shared)(σ:St)(H:Hp)(Q:Bool→Hp→Prop),Inv X pins σ H s→t σ H Q→wpAny (model X.prog X.w) X.A (isTrue e X.env (eval e X.env)) (TP X pins σ Q) X.xe s
def PW(X:Cx)(e:Expr)(t:TT):Prop:=
 ∀(whole:Sem Value)(pins:YW)(s:Shared)(σ:St)(H:Hp)(Q:Bool→Hp→Prop),Inv X pins σ H s→t σ H Q→wpAny (model X.prog X.w) X.A (isTrue e X.env whole) (TP X pins σ Q) X.xe s
theorem PW.pt(h:PW X e t):PT X e t:=h _
def PA(X:Cx)(es:List Expr)(t:TA):Prop:=
 ∀(pos:Pos)(pins:YW)(s:Shared)(σ:St)(H:Hp)(Q:List V→Hp→Prop),Inv X pins σ H s→t σ H Q→wpAny (model X.prog X.w) X.A (spliced (backTo pos (starEach es X.env))) (AP X pins σ Q) X.xe s
def PS(X:Cx)(st:Stmt)(t:TS):Prop:=
 ∀(pins:YW)(s:Shared)(σ:St)(H:Hp)(D:Ends),Inv X pins σ H s→t D σ H→wpAny (model X.prog X.w) X.A (exec st X.env) (SP X pins D) X.xe s
def fq(X:Cx)(st:List Stmt)(t:TS):Prop:=
 ∀(pins:YW)(s:Shared)(σ:St)(H:Hp)(D:Ends),Inv X pins σ H s→t D σ H→wpAny (model X.prog X.w) X.A (execs st X.env) (SP X pins D) X.xe s
theorem aP(h:wpAny M A t Q E s)(hQ:∀a s,Q a s→Q' a s):wpAny M A t Q' E s:=iV h hQ fun _ _ x=>x
section
variable{X:Cx}
def FD(i:Nat):TE:=fun σ H Q=>∃v,σ[i]?=some (some v)∧Q v H
def tC(v:V):TE:=fun _ H Q=>Q v H
theorem iF(hN:X.N[i]?=some x)(hv:dJ X.env.scope x)(hd:(x==("__debug__":Str))=false:=by decide)(bH:(x==("__classdict__":Str))=false:=by decide):PE X (.Name x pos) (FD i):=by
 intro pins s σ H Q I h;obtain⟨v,e,h⟩:=h;obtain⟨m,hn,hl⟩:=I.loc;obtain⟨u,r,l⟩:=hl i x v hN e hv;have fin:EP X pins σ Q u s:=⟨v,H,I,r,h⟩;rcases l with⟨hk,hm⟩|⟨hk,c,hc,xF⟩
 ·exact wpAny_Name (wpAny_loadName_local I.ok.kind hk hn hm fin) hd
 ·rcases hk with hk|hk
  ·exact wpAny_Name (wpAny_loadName_cell I.ok.kind hk hc xF fin) hd
  ·exact wpAny_Name (wpAny_loadName_free I.ok.kind hk hc xF fin bH) hd
theorem LJ:PE X (.Constant (.int i) j pos) (tC (.int i)):=fun _ _ _ H _ I h=>wpAny_Constant_int ⟨.int i,H,I.tok _,⟨_,rfl⟩,h⟩
theorem RN:PE X (.Constant (.bool b) j pos) (tC (.bl b)):=fun _ _ _ H _ I h=>Constant_bool ⟨.bl b,H,I,rfl,h⟩
theorem HW:PE X (.Constant .none j pos) (tC .a8):=fun _ _ _ H _ I h=>Constant_none ⟨.a8,H,I,rfl,h⟩
def Gl(X:Cx)(x:Str):Prop:=X.env.kindOf x=some .globalImplicit
theorem yW(I:Inv X pins σ H s)(hg:Gl X x)(hm:X.mg x=some u)(h:Q u s)(hd:(x==("__debug__":Str))=false:=by decide):wpAny (model X.prog X.w) X.A (eval (.Name x pos) X.env) Q E s:=
 Ye I.ok.kind hg (Calls.loadGlobal_global (by rw[I.ok.glob];exact I.mod.glob.keeps I.bk) hm h) hd
theorem oV(I:Inv X pins σ H s)(hg:Gl X x)(hm:X.mg x=none)(hv:bootBuiltins x=some u)(h:Q u s)(hn:x≠"__name__":=by decide)(hd:(x==("__debug__":Str))=false:=by decide):wpAny (model X.prog X.w) X.A (eval (.Name x pos) X.env) Q E s:=by obtain⟨mb,h1,h2⟩:=I.mod.blt;exact Ye I.ok.kind hg (Calls.loadGlobal_builtin (by rw[I.ok.glob];exact I.mod.glob.keeps I.bk) hm (by rw[I.ok.blt];exact h1.keeps I.bk) ((h2 x hn).trans hv) h) hd
theorem Al(hg:Gl X x)(hm:X.mg x=some u)(r:RelV v u)(hd:(x==("__debug__":Str))=false:=by decide):PE X (.Name x pos) (tC v):=
 fun _ _ _ H _ I h=>yW I hg hm ⟨v,H,I,r,h⟩ hd
variable{a b:Expr}{ta tb:TE}{pos:Pos}
def PC(X:Cx)(op:CmpOp)(a b:Expr)(t:TE):Prop:=
 ∀(pins:YW)(s:Shared)(σ:St)(H:Hp)(Q:VK),Inv X pins σ H s→t σ H Q→
  wpAny (model X.prog X.w) X.A (eval a X.env) (fun v s₁=>wpAny (model X.prog X.w) X.A (eval b X.env) (fun u s₂=>wpAny (model X.prog X.w) X.A (compareOp op v u) (EP X pins σ Q) X.xe s₂) X.xe s₁) X.xe s
theorem Qt(b:Expr)(h:op≠ .In)(h2:op≠ .NotIn):behindInMarks op b=false:=by
 have e1:(op==CmpOp.In)=false:=by cases op<;>first|rfl|exact absurd rfl h
 have e2:(op==CmpOp.NotIn)=false:=by cases op<;>first|rfl|exact absurd rfl h2
 cases b<;>simp[behindInMarks,e1,e2]
def LD(ta:TE):TE:=fun σ H Q=>ta σ H fun x H1=>Q (.bl (decide (x= .a8))) H1
theorem RelV.Ua(r:RelV x v):(v==Value.none)=decide (x= .a8):=by
 cases x with
 |a8=>cases r;rfl
 |bl _=>cases r;rfl
 |int _=>obtain⟨t,rfl⟩:=r;rfl
 |str _=>obtain⟨t,rfl⟩:=r;rfl
 |fT _=>obtain⟨t,rfl⟩:=r;rfl
 |flt _=>obtain⟨t,rfl⟩:=r;rfl
 |ref _=>cases r;rfl
 |ty _=>cases r;rfl
theorem XY(ha:PE X a ta):PC X .Is a (.Constant .none j pos') (LD ta):=by intro pins s σ H Q I h;refine aP (ha pins s σ H _ I h) fun v s1⟨x,H1,I1,r1,q1⟩=>?_;exact Constant_none (is_none_gen ⟨.bl _,H1,I1,by rw[r1.Ua];rfl,q1⟩)
def tB(t:TE):TT:=fun σ H Q=>t σ H fun x H1=>∃c,x= .bl c∧Q c H1
theorem DZ(h:PC X op a b t)(h1:behindInMarks op b=false:=by first|exact Qt _ (by decide) (by decide)|rfl):PT X (.Compare a [op] [b] pos) (tB t):=by intro pins s σ H Q I hw;refine wpAny_isTrue_Compare1 (aP (h pins s σ H _ I hw) fun v s1 h1=>aP h1 fun u s2 h2=>aP h2 fun c s3 hh=>?_) h1;obtain⟨x,H1,I1,r1,q1⟩:=hh;obtain⟨d,rfl,q⟩:=q1;cases r1;exact qX ⟨H1,I1,q⟩
theorem QY(h:PE X e t)(he:∀whole,isTrue e X.env whole=(do let v←whole;standAt e.pos;holding [v] (truthy v)):=by intro _;rfl):PT X e (tB t):=by intro pins s σ H Q I hw;refine isTrue_plain (aP (h pins s σ H _ I hw) fun v s1 hh=>?_) (he _);obtain⟨x,H1,I1,r1,q1⟩:=hh;obtain⟨d,rfl,q⟩:=q1;cases r1;exact qX ⟨H1,I1,q⟩
variable{tA tB':TT}{rest:List Expr}
def OS(t u:TT):TT:=fun σ H Q=>t σ H fun c H1=>if c=true then u σ H1 Q else Q false H1
def R6(t u:TT):TT:=fun σ H Q=>t σ H fun c H1=>if c=true then Q true H1 else u σ H1 Q
def LZ(t:TT):TT:=fun σ H Q=>t σ H fun c H1=>Q (!c) H1
theorem Tg(ha:PT X a tA):PW X (.BoolOp .And [a] pos) tA:=by
 intro wh pins s σ H Q I h;refine isTrue_and (aP (ha pins s σ H Q I h) fun c s1 e=>?_);cases c with
 |true=>exact isTrue_and_nil e
 |false=>exact e
theorem Jr(ha:PT X a tA):PW X (.BoolOp .Or [a] pos) tA:=by
 intro wh pins s σ H Q I h;refine isTrue_or (aP (ha pins s σ H Q I h) fun c s1 e=>?_);cases c with
 |false=>exact isTrue_or_nil e
 |true=>exact e
theorem PM(ha:PT X a tA)(hb:PW X (.BoolOp .And (b::rest) pos) tB'):PW X (.BoolOp .And (a::b::rest) pos) (OS tA tB'):=by
 intro wh pins s σ H Q I h;refine isTrue_and (aP (ha pins s σ H _ I h) fun c s1 hh=>?_);obtain⟨H1,I1,q1⟩:=hh;cases c with
 |true=>exact hb wh pins s1 σ H1 Q I1 q1
 |false=>exact⟨H1,I1,q1⟩
theorem yt(ha:PT X a tA)(hb:PW X (.BoolOp .Or (b::rest) pos) tB'):PW X (.BoolOp .Or (a::b::rest) pos) (R6 tA tB'):=by
 intro wh pins s σ H Q I h;refine isTrue_or (aP (ha pins s σ H _ I h) fun c s1 hh=>?_);obtain⟨H1,I1,q1⟩:=hh;cases c with
 |true=>exact⟨H1,I1,q1⟩
 |false=>exact hb wh pins s1 σ H1 Q I1 q1
theorem OH(ha:PT X a tA):PT X (.UnaryOp .Not a pos) (LZ tA):=by intro pins s σ H Q I h;exact isTrue_not (ha pins s σ H (fun c H1=>Q (!c) H1) I h)
def SW(ta tb:TE):TE:=fun σ H Q=>ta σ H fun x H1=>∃c,x= .bl c∧if c=true then tb σ H1 Q else Q (.bl false) H1
def R1(ta tb:TE):TE:=fun σ H Q=>ta σ H fun x H1=>∃c,x= .bl c∧if c=true then Q (.bl true) H1 else tb σ H1 Q
theorem Ey(h:PE X a t):PE X (.BoolOp op [a] pos) t:=fun pins s σ H Q I hw=>BoolOp_one (h pins s σ H Q I hw)
theorem Te(ha:PE X a ta)(hb:PE X (.BoolOp .And (b::rest) pos) tb):PE X (.BoolOp .And (a::b::rest) pos) (SW ta tb):=by
 intro pins s σ H Q I h;refine BoolOp_and (aP (ha pins s σ H _ I h) fun v s1 hh=>?_);obtain⟨x,H1,I1,r1,q1⟩:=hh;obtain⟨c,rfl,q1⟩:=q1;cases r1;refine qX ?_;cases c with
 |true=>exact hb pins s1 σ H1 Q I1 q1
 |false=>exact⟨.bl false,H1,I1,rfl,q1⟩
theorem WQ(ha:PE X a ta)(hb:PE X (.BoolOp .Or (b::rest) pos) tb):PE X (.BoolOp .Or (a::b::rest) pos) (R1 ta tb):=by
 intro pins s σ H Q I h;refine BoolOp_or (aP (ha pins s σ H _ I h) fun v s1 hh=>?_);obtain⟨x,H1,I1,r1,q1⟩:=hh;obtain⟨c,rfl,q1⟩:=q1;cases r1;refine qX ?_;cases c with
 |false=>exact hb pins s1 σ H1 Q I1 q1
 |true=>exact⟨.bl true,H1,I1,rfl,q1⟩
def V1(t:TT)(ta tb:TE):TE:=fun σ H Q=>t σ H fun c H1=>if c=true then ta σ H1 Q else tb σ H1 Q
theorem GD(hc:PT X c tA)(ha:PE X a ta)(hb:PE X b tb):PE X (.IfExp c a b pos) (V1 tA ta tb):=by
 intro pins s σ H Q I h;refine wpAny_IfExp (aP (hc pins s σ H _ I h) fun d s1 hh=>?_);obtain⟨H1,I1,q1⟩:=hh;cases d with
 |true=>exact ha pins s1 σ H1 Q I1 q1
 |false=>exact hb pins s1 σ H1 Q I1 q1
end
def aU(K:YX)(H:Hp)(a:Addr)(xs:List V):Prop:=
 Rd H a (.lst xs)∨
  ∃(o:Obj)(ao:Array Value)(n:Nat),K.lookup a=some o∧o.cls= .type "list"∧o.dict=none∧o.data= .seq ao n∧ao.size≤sizeLine∧Vals xs ao.toList
def dD(K:YX)(H:Hp)(a:Addr)(xs:List V):Prop:=
 Rd H a (.tup xs)∨
  ∃(o:Obj)(ao:Array Value)(n:Nat),K.lookup a=some o∧o.cls= .type "tuple"∧o.data= .seq ao n∧ao.size≤sizeLine∧Vals xs ao.toList
def P1:Value→Option V
 | .none=>some .a8
 | .bool b=>some (.bl b)
 | .int i _=>some (.int i)
 | .str x _=>some (.str x)
 | .bytes b _=>some (.fT b)
 | .float b _=>some (.flt b)
 | .ref a=>some (.ref a)
 | .type n=>some (.ty n)
 |_=>none
theorem RelV.abs(r:RelV x u):P1 u=some x:=by
 cases x with
 |a8=>cases r;rfl
 |bl _=>cases r;rfl
 |int _=>obtain⟨t,rfl⟩:=r;rfl
 |str _=>obtain⟨t,rfl⟩:=r;rfl
 |fT _=>obtain⟨t,rfl⟩:=r;rfl
 |flt _=>obtain⟨t,rfl⟩:=r;rfl
 |ref _=>cases r;rfl
 |ty _=>cases r;rfl
theorem RelV.inj(r:RelV x u)(q:RelV y u):x=y:=eE (r.abs.symm.trans q.abs)
theorem Vals.inj:∀{xs ys:List V}{us:List Value},Vals xs us→Vals ys us→xs=ys
 |_,_,_, .nil, .nil=>rfl
 |_,_,_, .cons r t, .cons r' t'=>by rw[r.inj r',Vals.inj t t']
section
variable{X:Cx}{pins:YW}{σ:St}{H:Hp}{s:Shared}{a:Addr}{xs ys:List V}
theorem aU.of{K:YX}(h:H a=some (.lst xs)):aU K H a xs:= .inl (.inl h)
theorem dD.of{K:YX}(h:H a=some (.tup xs)):dD K H a xs:= .inl (.inl h)
theorem Inv.list(I:Inv X pins σ H s)(h:aU X.K H a xs):∃ao:List Value,Vals xs ao∧PlainL s.heap a ao.toArray∧xs.length≤sizeLine:=by
 rcases h with h|⟨o,ao,n,hk,hc,hd,hs,hz,r⟩
 ·obtain⟨z,ao,n,r,e⟩:=h.ok I.aG;exact⟨ao,r,⟨_,n,e,rfl,rfl,rfl⟩,z⟩
 ·refine⟨ao.toList,r,⟨o,n,I.iy a o hk,hc,hd,by simpa using hs⟩,?_⟩;have e:=r.length;simp[*]
theorem Inv.tuple(I:Inv X pins σ H s)(h:dD X.K H a xs):∃ao:List Value,Vals xs ao∧IsTup s.heap a ao.toArray∧xs.length≤sizeLine:=by
 rcases h with h|⟨o,ao,n,hk,hc,hs,hz,r⟩
 ·obtain⟨z,ao,r,p⟩:=h.ok I.aG;grind
 ·refine⟨ao.toList,r,⟨o,I.iy a o hk,hc,n,by simpa using hs⟩,?_⟩;have e:=r.length;grind
theorem Inv.vJ(I:Inv X pins σ H s)(h:aU X.K H a xs)(h':aU X.K H a ys):xs=ys:=by
 obtain⟨ao,r,⟨o,n,e,_,_,d⟩,_⟩:=I.list h;obtain⟨mB,r',⟨o',n',e',_,_,d'⟩,_⟩:=I.list h';rw[e]at e';cases e';rw[d]at d';injection d' with d1 _;have:ao=mB:=by simpa using congrArg Array.toList d1
 subst this;exact r.inj r'
theorem Inv.PL(I:Inv X pins σ H s)(h:dD X.K H a xs)(h':dD X.K H a ys):xs=ys:=by
 obtain⟨ao,r,⟨o,e,_,n,d⟩,_⟩:=I.tuple h;obtain⟨mB,r',⟨o',e',_,n',d'⟩,_⟩:=I.tuple h';rw[e]at e';cases e';rw[d]at d';injection d' with d1 _;have:ao=mB:=by simpa using congrArg Array.toList d1
 subst this;exact r.inj r'
end
abbrev Cx.kF(X:Cx)(E:YY):Cx:={X with xe:=E}
abbrev Cx.kP(X:Cx):Cx:=X.kF fun _ _=>False
theorem Cx.Ok.kF{X:Cx}(ok:X.Ok)(E:YY):(X.kF E).Ok:=
 ⟨ok.mod,ok.kind,ok.glob,ok.blt,ok.above,ok.inj,ok.has,ok.sH,ok.hd,ok.frames,ok.uX,ok.xf,ok.bs,ok.mi,ok.sy,ok.sq,ok.ja,ok.pK⟩
theorem Cx.Ok.nu{X:Cx}(ok:(X.kF E).Ok):X.Ok:=
 ⟨ok.mod,ok.kind,ok.glob,ok.blt,ok.above,ok.inj,ok.has,ok.sH,ok.hd,ok.frames,ok.uX,ok.xf,ok.bs,ok.mi,ok.sy,ok.sq,ok.ja,ok.pK⟩
section
variable{X:Cx}{pins:YW}{σ:St}{H:Hp}{s:Shared}{E:YY}
theorem Inv.kF(I:Inv X pins σ H s)(E:YY):Inv (X.kF E) pins σ H s:=⟨I.ok.kF E,I.os,I.bare,I.base,I.loc,I.cell,I.free,I.iz,I.pin,I.aG,I.len⟩
theorem Inv.nu(I:Inv (X.kF E) pins σ H s):Inv X pins σ H s:=⟨I.ok.nu,I.os,I.bare,I.base,I.loc,I.cell,I.free,I.iz,I.pin,I.aG,I.len⟩
theorem SP.nu(h:SP (X.kF E) pins D f s'):SP X pins D f s':=by
 cases f with
 |next=>obtain⟨σ',H',I,q⟩:=h;exact⟨σ',H',I.nu,q⟩
 |brk=>obtain⟨σ',H',I,q⟩:=h;exact⟨σ',H',I.nu,q⟩
 |cont=>obtain⟨σ',H',I,q⟩:=h;exact⟨σ',H',I.nu,q⟩
 |ret u=>obtain⟨v,σ',H',I,r,q⟩:=h;exact⟨v,σ',H',I.nu,r,q⟩
theorem fq.kP{st:List Stmt}(h:fq X.kP st t):fq X st t:=fun pins s σ H D I hw=>
 iV (h pins s σ H D (I.kF _) hw) (fun _ _ q=>q.nu) fun _ _ z=>False.elim z
end
section
variable{X:Cx}{st:Stmt}{rest:List Stmt}{t u:TS}{e:Expr}{te:TE}{pos:Pos}
def PZ:TS:=fun D σ H=>D.nx σ H
def Wk(t u:TS):TS:=fun D σ H=>t {D with nx:=u D} σ H
theorem M_:fq X [] PZ:=fun _ _ σ H _ I h=>Bs ⟨σ,H,I,h⟩
theorem qh(h1:PS X st t)(h2:fq X rest u):fq X (st::rest) (Wk t u):=by
 intro pins s σ H D I h;refine wpAny_execs_cons (aP (h1 pins s σ H {D with nx:=u D} I h) fun f s1 q=>?_);cases f with
 |next=>obtain⟨σ',H',I',q⟩:=q;exact h2 pins s1 σ' H' D I' q
 |ret v=>exact q
 |brk=>exact q
 |cont=>exact q
theorem Gi(h1:PS X st t):fq X [st] t:=by
 intro pins s σ H D I h;refine wpAny_execs_cons (aP (h1 pins s σ H D I h) fun f s1 q=>?_);cases f with
 |next=>exact Bs q
 |ret v=>exact q
 |brk=>exact q
 |cont=>exact q
theorem Inv.quiet(I:Inv X pins σ H s):interactive X.env=false:=by simp[interactive,I.ok.kind]
def TU(te:TE):TS:=fun D σ H=>te σ H fun _ H1=>D.nx σ H1
theorem DM(he:PE X e te)(hs:swapsWith e none pos.line X.env=pure false:=by rfl):PS X (.Expr e pos) (TU te):=by intro pins s σ H D I h;exact wpAny_Expr_any (aP (he pins s σ H _ I h) fun v s1⟨x,H1,I1,r1,q1⟩=>⟨σ,H1,I1,q1⟩) I.quiet hs
def X3(te:TE):TS:=fun D σ H=>te σ H D.rt
theorem pG(he:PE X e te):PS X (.Return (some e) pos) (X3 te):=by intro pins s σ H D I h;exact wpAny_Return_some (aP (he pins s σ H _ I h) fun v s1⟨x,H1,I1,r1,q1⟩=>⟨x,σ,H1,I1,r1,q1⟩)
def Vv(c:TT)(t u:TS):TS:=fun D σ H=>c σ H fun b H1=>if b=true then t D σ H1 else u D σ H1
theorem UN(hc:PT X c tc)(ha:fq X a t)(hb:fq X b u):PS X (.If c a b pos) (Vv tc t u):=by
 intro pins s σ H D I h;refine wpAny_If (aP (hc pins s σ H _ I h) fun d s1 hh=>?_);obtain⟨H1,I1,q1⟩:=hh;cases d with
 |true=>exact ha pins s1 σ H1 D I1 q1
 |false=>exact hb pins s1 σ H1 D I1 q1
end
abbrev TG:=V→St→Hp→(St→Hp→Prop)→Prop
abbrev oR:=List V→St→Hp→(St→Hp→Prop)→Prop
def PG(X:Cx)(target:Expr)(t:TG):Prop:=
 ∀(pins:YW)(s:Shared)(σ:St)(H:Hp)(v:V)(u:Value)(Q:St→Hp→Prop),Inv X pins σ H s→RelV v u→t v σ H Q→
  wpAny (model X.prog X.w) X.A (assign target X.env u) (fun _ s'=>∃σ' H',Inv X pins σ' H' s'∧Q σ' H') X.xe s
def xy(X:Cx)(ts:List Expr)(t:oR):Prop:=
 ∀(pins:YW)(s:Shared)(σ:St)(H:Hp)(vs:List V)(us:List Value)(Q:St→Hp→Prop),Inv X pins σ H s→Vals vs us→t vs σ H Q→
  wpAny (model X.prog X.w) X.A (assignInOrder ((assignEach ts X.env).map (·.2)) us) (fun _ s'=>∃σ' H',Inv X pins σ' H' s'∧Q σ' H') X.xe s
abbrev ug:=V→V→V→Hp→(Hp→Prop)→Prop
def AG(X:Cx)(t:ug):Prop:=
 ∀(pins:YW)(s:Shared)(σ:St)(H:Hp)(o i v:V)(ov iv u:Value)(Q:Hp→Prop),Inv X pins σ H s→RelV o ov→RelV i iv→RelV v u→t o i v H Q→
  wpAny (model X.prog X.w) X.A (setItem ov iv u) (fun _ s'=>∃H',Inv X pins σ H' s'∧Q H') X.xe s
abbrev qe:=V→V→Hp→VK→Prop
def qE(X:Cx)(op:Operator)(t:qe):Prop:=
 ∀(pins:YW)(s:Shared)(σ:St)(H:Hp)(x y:V)(v u:Value)(Q:VK),Inv X pins σ H s→RelV x v→RelV y u→t x y H Q→
  wpAny (model X.prog X.w) X.A (inplaceOp op v u) (EP X pins σ Q) X.xe s
section
variable{X:Cx}{pos:Pos}
def iA(i:Nat):TG:=fun v σ H Q=>Q (σ.set i (some v)) H
theorem qM(hN:X.N.Nodup)(hi:X.N[i]?=some x)(hx:Loc X.env.scope x)(hf:X.fn x=true∨X.env.scope.names.lookup x=some .local:=by first|exact .inl rfl|exact .inr rfl|assumption):PG X (.Name x pos) (iA i):=by intro pins s σ H v u Q I r h;exact wpAny_assign_Name (Bk I hN hi hx r (fun s' I'=>⟨_,H,I',h⟩) hf)
def DK:oR:=fun vs σ H Q=>vs=[]∧Q σ H
def zq(t:TG)(u:oR):oR:=fun vs σ H Q=>∃v r,vs=v::r∧t v σ H fun σ' H'=>u r σ' H' Q
theorem Cu:xy X [] DK:=by intro pins s σ H vs us Q I r h;obtain⟨e,h⟩:=h;subst e;cases r;exact assignInOrder_nil ⟨σ,H,I,h⟩
theorem wB(h1:PG X e t)(h2:xy X es u)(hs:(assignEach (e::es) X.env).map (·.2)=assign e X.env::(assignEach es X.env).map (·.2):=by rfl):xy X (e::es) (zq t u):=by
 intro pins s σ H vs us Q I r h;obtain⟨v,vr,e1,h⟩:=h;subst e1;cases r with
 |cons r rr=>rw[hs];refine assignInOrder_cons (aP (h1 pins s σ H _ _ _ I r h) fun _ s1⟨σ1,H1,I1,q1⟩=>?_);exact h2 pins s1 σ1 H1 _ _ Q I1 rr q1
def C_(K:YX)(n:Nat)(t:oR):TG:=fun v σ H Q=>∃a xs,v= .ref a∧dD K H a xs∧xs.length=n∧t xs σ H Q
theorem FF(hc:X.calm=true)(h:xy X es t)(hn:(assignEach es X.env).length=n:=by rfl)(dj:(assignEach es X.env).findIdx? (·.1)=none:=by rfl):PG X (.Tuple es k pos) (C_ X.K n t):=by intro pins s σ H v u Q I r hw;obtain⟨a,xs,e1,hq,hl,hw⟩:=hw;subst e1;cases r;obtain⟨ao,rv,ht,hz⟩:=I.tuple hq;refine assign_Tuple_tuple (I.ok.hd hc) ht (by simp[hn,←hl,rv.length]) dj fun h' hx=>?_;have I1:Inv X pins σ H {s with heap:=h'}:=I.kept fun b o e=>hx b o (bY (bF e)) e;exact h pins _ σ H xs _ Q I1 (by simpa using rv) hw
def RM(to ti:TE)(t:ug):TG:=fun v σ H Q=>to σ H fun o H1=>ti σ H1 fun i H2=>t o i v H2 fun H3=>Q σ H3
theorem O9(ho:PE X o to)(hi:PE X i ti)(hs:AG X t)(ha:∀v,assign (.Subscript o i pos) X.env v=(do
   let ov←holding [v] (eval o X.env);let iv←holding [v,ov] (eval i X.env)
   standAt pos
   holding [v,ov,iv] (setItem ov iv v)
   release [v,ov,iv] []):=by intro _;rfl):PG X (.Subscript o i pos) (RM to ti t):=by
 intro pins s σ H v u Q I r h;rw[ha];refine ak (lz (aP (ho pins s σ H _ I h) fun ov s1⟨x,H1,I1,r1,q1⟩=>?_));refine ak (lz (aP (hi pins s1 σ H1 _ I1 q1) fun iv s2⟨y,H2,I2,r2,q2⟩=>?_));refine ak (wpAny_standAt (ak (lz (aP (hs pins s2 σ H2 x y v ov iv u _ I2 r1 r2 r q2) fun _ s3⟨H3,I3,q3⟩=>?_))));exact wpAny_release ⟨σ,H3,I3,q3⟩
def yq(te:TE)(g:TG):TS:=fun D σ H=>te σ H fun x H1=>g x σ H1 D.nx
theorem Pd(he:PE X e te)(hg:PG X tg g)(hs:swapsWithSole [tg] e pos.line X.env=pure false:=by rfl)(hw:swappedStores [tg] e X.env=pure none:=by rfl)(h1:(assignEach [tg] X.env).map (·.2)=[assign tg X.env]:=by rfl):PS X (.Assign [tg] e pos) (yq te g):=by intro pins s σ H D I h;refine wpAny_Assign_stores (aP (he pins s σ H _ I h) fun v s1⟨x,H1,I1,r1,q1⟩=>?_) hs hw;rw[h1];exact aP (hg pins s1 σ H1 x v _ I1 r1 q1) fun _ s2 q=>q
theorem pq(hN:X.N.Nodup)(hi:X.N[i]?=some x)(hx:Loc X.env.scope x)(he:PE X e te)(hs:swapsWith e (some (.Name x pos')) pos.line X.env=pure false:=by rfl)(hf:X.fn x=true∨X.env.scope.names.lookup x=some .local:=by first|exact .inl rfl|exact .inr rfl|assumption):
  PS X (.Assign [.Name x pos'] e pos) (yq te (iA i)):=by
 intro pins s σ H D I h;refine wpAny_Assign_Name (aP (he pins s σ H _ I h) fun v s1 hh=>?_) hs;obtain⟨y,H1,I1,r1,q1⟩:=hh;exact Bk I1 hN hi hx r1 (fun s2 I2=>⟨_,H1,I2,q1⟩) hf
def QK(i:Nat)(te:TE)(ti:qe):TS:=fun D σ H=>∃x,σ[i]?=some (some x)∧te σ H fun y H1=>ti x y H1 fun z H2=>D.nx (σ.set i (some z)) H2
theorem Ut(hN:X.N.Nodup)(hi:X.N[i]?=some x)(hx:Loc X.env.scope x)(he:PE X e te)(ho:qE X op ti)(hf:X.fn x=true∨X.env.scope.names.lookup x=some .local:=by first|exact .inl rfl|exact .inr rfl|assumption):
  PS X (.AugAssign (.Name x pos') op e pos) (QK i te ti):=by
 intro pins s σ H D I h;obtain⟨v,e1,h⟩:=h;obtain⟨m,hn,hl⟩:=I.loc;have bO:dJ X.env.scope x:=by rcases hx with k|k;exact .inl k;exact .inr (.inl k)
 obtain⟨u,r,l⟩:=hl i x v hi e1 bO;refine wpAny_AugAssign_Name ?_;have go:wpAny (model X.prog X.w) X.A (eval e X.env) (fun w s₂=>wpAny (model X.prog X.w) X.A (inplaceOp op u w) (fun r s₃=>wpAny (model X.prog X.w) X.A (storeName X.env x r) (fun _=>SP X pins D .next) X.xe s₃) X.xe s₂) X.xe s:=by refine aP (he pins s σ H _ I h) fun w s1 hh=>?_;obtain⟨y,H1,I1,r1,q1⟩:=hh;refine aP (ho pins s1 σ H1 v y u w _ I1 r r1 q1) fun z s2⟨zv,H2,I2,r2,q2⟩=>?_;exact Bk I2 hN hi hx r2 (fun s3 I3=>⟨_,H2,I3,q2⟩) hf
 rcases l with⟨hk,hm⟩|⟨hk,c,hc,xF⟩
 ·exact wpAny_loadName_local I.ok.kind hk hn hm go
 ·rcases hk with hk|hk
  ·exact wpAny_loadName_cell I.ok.kind hk hc xF go
  ·rcases hx with k|k
   ·have:X.env.scope.names.lookup x=some .free:=hk;simp_all
   ·have:X.env.scope.names.lookup x=some .free:=hk;simp_all
def LG(to ti te:TE)(tget:V→V→Hp→VK→Prop)(tip:qe)(tset:ug):TS:=fun D σ H=>to σ H fun o H1=>ti σ H1 fun i H2=>tget o i H2 fun x H3=>te σ H3 fun y H4=>tip x y H4 fun z H5=>tset o i z H5 fun H6=>D.nx σ H6
def IM(X:Cx)(t:V→V→Hp→VK→Prop):Prop:=
 ∀(pins:YW)(s:Shared)(σ:St)(H:Hp)(o i:V)(ov iv:Value)(Q:VK),Inv X pins σ H s→RelV o ov→RelV i iv→t o i H Q→
  wpAny (model X.prog X.w) X.A (getItem ov iv) (EP X pins σ Q) X.xe s
theorem ND(ho:PE X o to)(hi:PE X i ti)(hg:IM X tget)(he:PE X e te)(hp:qE X op tip)(hs:AG X tset)(ha:∀ov iv new,augStore i ov iv new=(do holding [new,ov,iv] (setItem ov iv new);release [new,ov,iv] [];pure .next):=by intros;rfl):PS X (.AugAssign (.Subscript o i cg) op e pos) (LG to ti te tget tip tset):=by intro pins s σ H D I h;refine wpAny_AugAssign_SubscriptAny (aP (ho pins s σ H _ I h) fun ov s1 hh=>?_) ha;obtain⟨x1,H1,I1,r1,q1⟩:=hh;refine aP (hi pins s1 σ H1 _ I1 q1) fun iv s2 hh=>?_;obtain⟨x2,H2,I2,r2,q2⟩:=hh;refine aP (hg pins s2 σ H2 x1 x2 ov iv _ I2 r1 r2 q2) fun old s3⟨x3,H3,I3,r3,q3⟩=>?_;refine aP (he pins s3 σ H3 _ I3 q3) fun v s4⟨x4,H4,I4,r4,q4⟩=>?_;refine aP (hp pins s4 σ H4 x3 x4 old v _ I4 r3 r4 q4) fun new s5⟨x5,H5,I5,r5,q5⟩=>?_;exact aP (hs pins s5 σ H5 x1 x2 x5 ov iv new _ I5 r1 r2 r5 q5) fun _ s6⟨H6,I6,q6⟩=>⟨σ,H6,I6,q6⟩
def u6(f:Int→Int→Int):qe:=fun x y H Q=>∃i j,x= .int i∧y= .int j∧Q (.int (f i j)) H
theorem oS:qE X .Add (u6 fun i j=>i+j):=by intro pins s σ H x y v u Q I r1 r2 h;obtain⟨i,j,e1,e2,q⟩:=h;subst e1;subst e2;obtain⟨t,rfl⟩:=r1;obtain⟨t',rfl⟩:=r2;exact iadd_int ⟨.int _,H,I.tok _,⟨_,rfl⟩,q⟩
theorem Fb:qE X .Sub (u6 fun i j=>i-j):=by intro pins s σ H x y v u Q I r1 r2 h;obtain⟨i,j,e1,e2,q⟩:=h;subst e1;subst e2;obtain⟨t,rfl⟩:=r1;obtain⟨t',rfl⟩:=r2;exact isub_int ⟨.int _,H,I.tok _,⟨_,rfl⟩,q⟩
end
section
variable{X:Cx}{pos:Pos}
def Oh(c:TT)(tb:TS):TS:=fun D σ H=>∃W:Nat→St→Hp→Prop,(∃m,W m σ H)∧∀m σ H,W m σ H→
 c σ H fun b H1=>if b=true then∃N:St→Hp→Prop,(∀σ' H',N σ' H'→∃m',m'<m∧W m' σ' H')∧tb {D with nx:=N,ct:=N,bk:=D.nx} σ H1 else D.nx σ H1
theorem WV(hp:PassesOwn (model X.prog X.w) X.A X.env X.xe)(hc:PT X c tc)(hb:fq X body tb):PS X (.While c body [] pos) (Oh tc tb):=by
 intro pins s σ H D I h;obtain⟨W,⟨m0,w0⟩,turn⟩:=h;refine wpAny_While (codeAny_whileLoop (fun n s'=>∃σ' H',Inv X pins σ' H' s'∧W n σ' H') ?_ m0 ⟨σ,H,I,w0⟩);rintro n s1 ⟨σ1,H1,I1,w1⟩;refine qY hp (aP (hc pins s1 σ1 H1 _ I1 (turn n σ1 H1 w1)) fun b s2 hh=>?_);obtain⟨H2,I2,q2⟩:=hh;cases b with
 |true=>
  obtain⟨N,hN,q2⟩:=q2;rw[ag rfl];refine qY hp (aP (hb pins s2 σ1 H2 _ I2 q2) fun f s3 q3=>?_);cases f with
  |next=>obtain⟨σ3,H3,I3,n3⟩:=q3;grind
  |cont=>obtain⟨σ3,H3,I3,n3⟩:=q3;grind
  |brk=>exact q3
  |ret v=>exact q3
 |false=>rw[af dG];exact Bs ⟨σ1,H2,I2,q2⟩
end
structure It where
 go:Nat→Hp→Prop
 sF:Nat→Hp→V→Hp→Prop
 stop:Nat→Hp→Prop
def jo(X:Cx)(pins:YW)(H:Hp)(b:Addr):Prop:=
 H b=none∧b≠X.env.locals∧b∉X.fs∧(b∈X.ex∨X.eM.heap.objs.size≤b)∧(∀x c,X.env.cells.lookup x=some c→c≠b)∧∀p∈X.pn++pins,p.1≠b
theorem Inv.pA(I:Inv X pins σ H s)(hb:s.heap.objs.size≤b)(hn:H' b=none):jo X pins H' b:=by
 refine⟨hn,og (fc I.lt hb),I.LL hb, .inr (cx I.sz hb),fun x c e z=>?_,fun p hp z=>?_⟩
 ·obtain⟨v,q⟩:=I.cell x c e;exact absurd (fc q.lt (by rw[z];exact hb)) (ly _)
 ·exact absurd (fc (bF (I.pin p hp).1) (by rw[z];exact hb)) (ly _)
structure Turn(P:Program)(w:World)(K:YX)(tg:Expr)(J:It)(fp:List Addr)(it:Addr)(tn:Nat→Heap→Prop):Prop where
 mem:it∈fp
 obj:∀i h,tn i h→∀b∈fp,∃o,h.get? b=some o∧∀v,o.data≠ .cell v
 keep:∀i h h',tn i h→(∀b∈fp,∀o,h.get? b=some o→h'.get? b=some o)→tn i h'
 item:∀(X:Cx),X.prog=P→X.w=w→X.K=K→X.calm=true→∀(i:Nat)(pins:YW)(s:Shared)(σ:St)(H:Hp)(E:YY),Inv X pins σ H s→(∀b∈fp,jo X pins H b)→tn i s.heap→J.go i H→
  wpAny (model P w) X.A (pyNext (.ref it)) (fun r s1=>∃u,r=some u∧
   wpAny (model P w) X.A (letOwnedTupleGo tg (.ref it) u) (fun _ s2=>∃x H',Inv X pins σ H' s2∧RelV x u∧J.sF i H x H'∧tn (i+1) s2.heap∧∀b∈fp,H' b=none) E s1) E s
 done:∀(X:Cx),X.prog=P→X.w=w→X.K=K→X.calm=true→∀(i:Nat)(pins:YW)(s:Shared)(σ:St)(H:Hp)(E:YY),Inv X pins σ H s→(∀b∈fp,jo X pins H b)→tn i s.heap→J.stop i H→
  wpAny (model P w) X.A (pyNext (.ref it)) (fun r s1=>r=none∧Inv X pins σ H s1) E s
 self:∀(A:Around)(i:Nat)(s:Shared)(Q:YY)(E:YY),tn i s.heap→Q (.ref it) s→wpAny (model P w) A (pyIter (.ref it)) Q E s
abbrev TI:=St→Hp→(It→Hp→Prop)→Prop
def uf(X:Cx)(pins:YW)(σ:St)(tg:Expr)(R:It→Hp→Prop)(itv:Value)(s2:Shared):Prop:=
 ∃(it:Addr)(fp:List Addr)(tn:Nat→Heap→Prop)(J:It)(H':Hp),itv= .ref it∧Inv X pins σ H' s2∧Turn X.prog X.w X.K tg J fp it tn∧tn 0 s2.heap∧(∀b∈fp,jo X pins H' b)∧R J H'
def PI(X:Cx)(tg iter:Expr)(wi:TI):Prop:=
 ∀(pins:YW)(s:Shared)(σ:St)(H:Hp)(R:It→Hp→Prop),Inv X pins σ H s→wi σ H R→
  wpAny (model X.prog X.w) X.A (eval iter X.env) (fun v s1=>wpAny (model X.prog X.w) X.A (pyIter v) (uf X pins σ tg R) X.xe s1) X.xe s
theorem w_(ho:s.heap.get? it=some o)(hc:o.cls= .type n)(hd:o.data= .fields vs)(hn:["enumerate","zip","dict_itemiterator","dict_reverseitemiterator","odict_iterator","itertools.zip_longest","itertools.pairwise"].contains n=false)(hQ:Q () s):wpAny M A (letOwnedTupleGo tg (.ref it) u) Q E s:=by
 cases tg<;>first
  |exact aI hQ
  |(cases u<;>first
    |exact aI hQ
    |(refine ak (wpAny_load ho ?_)
      rw[hc,hd];show wpAny M A (if(["enumerate","zip","dict_itemiterator","dict_reverseitemiterator","odict_iterator","itertools.zip_longest","itertools.pairwise"].contains n&&vs[0]?==some (rawInt _))=true then _ else _) Q E s;rw[af (by intro h;rw[hn,JL]at h;cases h)];exact aI hQ))
def DU(K:YX)(a:Addr):It:=
 ⟨fun i H=>∃xs x,aU K H a xs∧xs[i]?=some x,fun i H x H'=>H'=H∧∀xs,aU K H a xs→xs[i]?=some x,fun i H=>∃xs,aU K H a xs∧xs.length≤i⟩
def DH(K:YX)(a:Addr):It:=
 ⟨fun i H=>∃xs x,dD K H a xs∧xs[i]?=some x,fun i H x H'=>H'=H∧∀xs,dD K H a xs→xs[i]?=some x,fun i H=>∃xs,dD K H a xs∧xs.length≤i⟩
def um(lo:Int)(n:Nat):It:=⟨fun i _=>i<n,fun i H x H'=>H'=H∧x= .int (lo+i),fun i _=>n≤i⟩
theorem Uu{P:Program}{w:World}{K:YX}{tg:Expr}(a it:Addr):Turn P w K tg (DU K a) [it] it (fun i h=>h.IsListIter it a i)where
 mem:=by simp
 obj:=fun i h st b hb=>by
  have e:b=it:=by simpa using hb
  subst e;obtain⟨o,e,c,d⟩:=st;exact⟨o,e,fun v z=>by rw[d]at z;cases z⟩
 keep:=fun i h h' st k=>st.at fun o e=>k it (by simp) o e
 item:=by intro X hP hw hK hc i pins s σ H E I hf st hg;subst hP hw hK;obtain⟨xs,x,hq,hx⟩:=hg;obtain⟨ao,rv,p,hz⟩:=I.list hq;obtain⟨u,hu,ru⟩:=rv.get hx;obtain⟨f0,f1,f2,f3,f4,f5⟩:=hf it (by simp);refine wpAny_pyNext_list_item st p.isList (by simpa using hu) fun h' fA sb=>?_;have I1:Inv X pins σ H {s with heap:=h'}:=I.turned (fun b o hb e=>(sb.2 b hb).trans e) f0 f1 f3 f4 f5;obtain⟨o,e,c,d⟩:=id fA;exact⟨u,rfl,w_ e c d (by decide) ⟨x,H,I1,ru,⟨rfl,fun ys hy=>by rw[I.vJ hy hq];exact hx⟩,fA,fun b hb=>(hf b hb).1⟩⟩
 done:=by intro X hP hw hK hc i pins s σ H E I hf st hg;subst hP hw hK;obtain⟨xs,hq,hx⟩:=hg;obtain⟨ao,rv,p,hz⟩:=I.list hq;obtain⟨f0,f1,f2,f3,f4,f5⟩:=hf it (by simp);have hl:=rv.length;exact wpAny_pyNext_list_end (I.ok.hd hc) st p.isList (by simp;simp_all) fun h' eb=>⟨rfl,I.turned (fun b o hb e=>eb b o hb e) f0 f1 f3 f4 f5⟩
 self:=fun _ _ _ _ _ st h=>wpAny_pyIter_listiter st h
theorem Mv{P:Program}{w:World}{K:YX}{tg:Expr}(a it:Addr):Turn P w K tg (DH K a) [it] it (fun i h=>h.IsTupleIter it a i)where
 mem:=by simp
 obj:=fun i h st b hb=>by
  have e:b=it:=by simpa using hb
  subst e;obtain⟨o,e,c,d⟩:=st;exact⟨o,e,fun v z=>by rw[d]at z;cases z⟩
 keep:=fun i h h' st k=>st.at fun o e=>k it (by simp) o e
 item:=by intro X hP hw hK hc i pins s σ H E I hf st hg;subst hP hw hK;obtain⟨xs,x,hq,hx⟩:=hg;obtain⟨ao,rv,p,hz⟩:=I.tuple hq;obtain⟨u,hu,ru⟩:=rv.get hx;obtain⟨f0,f1,f2,f3,f4,f5⟩:=hf it (by simp);refine wpAny_pyNext_tuple_item st (p) (by simpa using hu) fun h' fA sb=>?_;have I1:Inv X pins σ H {s with heap:=h'}:=I.turned (fun b o hb e=>(sb.2 b hb).trans e) f0 f1 f3 f4 f5;obtain⟨o,e,c,d⟩:=id fA;exact⟨u,rfl,w_ e c d (by decide) ⟨x,H,I1,ru,⟨rfl,fun ys hy=>by rw[I.PL hy hq];exact hx⟩,fA,fun b hb=>(hf b hb).1⟩⟩
 done:=by intro X hP hw hK hc i pins s σ H E I hf st hg;subst hP hw hK;obtain⟨xs,hq,hx⟩:=hg;obtain⟨ao,rv,p,hz⟩:=I.tuple hq;obtain⟨f0,f1,f2,f3,f4,f5⟩:=hf it (by simp);have hl:=rv.length;exact wpAny_pyNext_tuple_end (I.ok.hd hc) st (p) (by simp;simp_all) fun h' eb=>⟨rfl,I.turned (fun b o hb e=>eb b o hb e) f0 f1 f3 f4 f5⟩
 self:=fun _ _ _ _ _ st h=>wpAny_pyIter_tupleiter st h
theorem Td{P:Program}{w:World}{K:YX}{tg:Expr}(it:Addr)(lo:Int)(n:Nat):Turn P w K tg (um lo n) [it] it (fun i h=>IsRangeIter h it (lo+(i:Nat)*1) ((n:Int)-(i:Nat)) 1)where
 mem:=by simp
 obj:=fun i h st b hb=>by simp_all
 keep:=fun i h h' st k=>k it (by simp) _ st
 item:=by intro X hP hw hK hc i pins s σ H E I hf st hg;subst hP hw hK;obtain⟨f0,f1,f2,f3,f4,f5⟩:=hf it (by simp);have W:=Walks.range (prog:=X.prog) (w:=X.w) (I.ok.hd hc) it lo 1 n;refine W.item i s _ _ hg st fun v h' tk hv fA kk=>?_;obtain⟨t,rfl⟩:=hv;have I1:Inv X pins σ H {s with heap:=h',toks:=tk}:=I.turned (fun b o hb e=>kk b o (by simpa using hb) e) f0 f1 f3 f4 f5;refine⟨_,rfl,w_ fA rfl rfl (by decide) ⟨.int (lo+i),H,I1,⟨t,?_⟩,⟨rfl,rfl⟩,fA,fun b hb=>(hf b hb).1⟩⟩;rw[Int.mul_one]
 done:=by intro X hP hw hK hc i pins s σ H E I hf st hg;obtain⟨f0,f1,f2,f3,f4,f5⟩:=hf it (by simp);exact wpAny_pyNext_range_end (I.ok.hd hc) st (by have:n≤i:=hg;lia) fun h' eb=>⟨rfl,I.turned (t':=s.toks) (fun b o hb e=>eb b o hb e) f0 f1 f3 f4 f5⟩
 self:=fun _ _ _ _ _ st h=>wpAny_pyIter_rangeiter st h
section
variable{X:Cx}{tg:Expr}
def NP(K:YX)(tl:TE):TI:=fun σ H R=>tl σ H fun x H1=>∃a,x= .ref a∧(∃xs,aU K H1 a xs)∧R (DU K a) H1
def L4(K:YX)(tl:TE):TI:=fun σ H R=>tl σ H fun x H1=>∃a,x= .ref a∧(∃xs,dD K H1 a xs)∧R (DH K a) H1
theorem FK(hl:PE X l tl):PI X tg l (NP X.K tl):=by
 intro pins s σ H R I h;refine aP (hl pins s σ H _ I h) fun v s1 hh=>?_;obtain⟨x,H1,I1,r1,q1⟩:=hh;obtain⟨a,e,⟨xs,hq⟩,q⟩:=q1;subst e;cases r1;obtain⟨ao,rv,p,hz⟩:=I1.list hq;refine JM p.isList ?_;refine⟨s1.heap.objs.size,[s1.heap.objs.size],_,_,H1,rfl,I1.kept fun b o e=>bJ _ e,Uu a _,⟨_,cy _ rfl,rfl,rfl⟩,fun b hb=>?_,q⟩;have e:b=s1.heap.objs.size:=by simpa using hb
 subst e;exact I1.pA (aY _) (I1.aG.fresh (aY _))
theorem Xj(hl:PE X l tl):PI X tg l (L4 X.K tl):=by
 intro pins s σ H R I h;refine aP (hl pins s σ H _ I h) fun v s1 hh=>?_;obtain⟨x,H1,I1,r1,q1⟩:=hh;obtain⟨a,e,⟨xs,hq⟩,q⟩:=q1;subst e;cases r1;obtain⟨ao,rv,p,hz⟩:=I1.tuple hq;refine wpAny_pyIter_tuple (p) ?_;refine⟨s1.heap.objs.size,[s1.heap.objs.size],_,_,H1,rfl,I1.kept fun b o e=>bJ _ e,Mv a _,⟨_,cy _ rfl,rfl,rfl⟩,fun b hb=>?_,q⟩;have e:b=s1.heap.objs.size:=by simpa using hb
 subst e;exact I1.pA (aY _) (I1.aG.fresh (aY _))
theorem Hq{lo hi:Int}(I:Inv X pins σ H s)(h1:-(2^62)≤lo)(h2:lo<2^62)(h3:-(2^62)≤hi)(h4:hi<2^62)(q:R (um lo (hi-lo).toNat) H):wpAny (model X.prog X.w) X.A (pyIter (.ref s.heap.objs.size)) (uf X pins σ tg R) E {s with heap:=s.heap.push {cls:= .type "range",data:= .fields #[.int lo t, .int hi u, .int 1 v]},toks:=tk}:=by
 refine wpAny_pyIter_range (IsRange.new ..) (small_one h1 h2 h3 h4) ?_;have I1:Inv X pins σ H {s with heap:=s.heap.push {cls:= .type "range",data:= .fields #[.int lo t, .int hi u, .int 1 v]},toks:=tk}:=I.kept fun b o e=>bJ _ e;refine⟨(s.heap.push {cls:= .type "range",data:= .fields #[.int lo t, .int hi u, .int 1 v]}).objs.size,[(s.heap.push {cls:= .type "range",data:= .fields #[.int lo t, .int hi u, .int 1 v]}).objs.size],_,_,H,rfl,
  I1.kept fun b o e=>bJ _ e,Td _ lo (hi-lo).toNat,?_,fun b hb=>?_,q⟩
 ·have e1:lo+((0:Nat):Int)*1=lo:=by simp
  have e2:(((hi-lo).toNat:Nat):Int)-((0:Nat):Int)=Builtin.Range.rangeSize lo hi 1:=by rw[rangeSize_one];split<;>grind
  rw[e1,e2];exact cy _ rfl
 ·have e:b=(s.heap.push {cls:= .type "range",data:= .fields #[.int lo t, .int hi u, .int 1 v]}).objs.size:=by simpa using hb
  subst e;exact I1.pA (aY _) (I1.aG.fresh (aY _))
def Lv(ta:TA):TI:=fun σ H R=>ta σ H fun vs H1=>∃j:Int,vs=[.int j]∧-(2^62)≤j∧j<2^62∧R (um 0 j.toNat) H1
def PH(ta:TA):TI:=fun σ H R=>ta σ H fun vs H1=>∃i j:Int,vs=[.int i, .int j]∧(-(2^62)≤i∧i<2^62∧-(2^62)≤j∧j<2^62)∧R (um i (j-i).toNat) H1
theorem Lg(hg:Gl X "range")(hm:X.mg "range"=none)(ha:PA X [a] ta)(hs:starEach [a] X.env=[(false,eval a X.env)]:=by rfl):PI X tg (.Call (.Name "range" p) [a] [] pos) (Lv ta):=by
 intro pins s σ H R I h;refine Call_ (oV I hg hm boot_range (uz (aP (ha pos pins s σ H _ I h) fun us s1 hh=>?_) hs rfl));obtain⟨vs,H1,I1,r1,q1⟩:=hh;obtain⟨j,e,q1,q2,q⟩:=q1;subst e;cases r1 with
 |cons r rr=>cases rr;obtain⟨t,rfl⟩:=r;exact call_range_1 (Hq I1 (by simp) (by simp) q1 q2 (by simpa using q))
theorem Pt(hg:Gl X "range")(hm:X.mg "range"=none)(ha:PA X [a,b] ta)(hs:starEach [a,b] X.env=[(false,eval a X.env),(false,eval b X.env)]:=by rfl)(hs2:starEach [b] X.env=[(false,eval b X.env)]:=by rfl):
  PI X tg (.Call (.Name "range" p) [a,b] [] pos) (PH ta):=by
 intro pins s σ H R I h;refine Call_ (oV I hg hm boot_range (uz (aP (ha pos pins s σ H _ I h) fun us s1 hh=>?_) (by rw[hs,hs2]) (by rw[hs2];rfl)));obtain⟨vs,H1,I1,r1,q1⟩:=hh;obtain⟨i,j,e,⟨q1,q2,q3,q4⟩,q⟩:=q1;subst e;cases r1 with
 |cons r rr=>
  cases rr with
  |cons r' rr=>cases rr;obtain⟨t,rfl⟩:=r;obtain⟨t',rfl⟩:=r';exact call_range_2 (Hq I1 q1 q2 q3 q4 q)
def RP(wi:TI)(g:TG)(tb:TS):TS:=fun D σ H=>wi σ H fun J H1=>∃W:Nat→Nat→St→Hp→Prop,(∃m,W 0 m σ H1)∧∀i m σ H,W i m σ H→
 (J.stop i H∧D.nx σ H)∨(J.go i H∧∃N:St→Hp→Prop,(∀σ' H',N σ' H'→∃m',m'<m∧W (i+1) m' σ' H')∧∀x H',J.sF i H x H'→g x σ H' fun σ2 H2=>tb {D with nx:=N,ct:=N,bk:=D.nx} σ2 H2)
def sO(fp:List Addr)(h:Heap):YW:=fp.filterMap fun b=>(h.get? b).map fun o=>(b,o)
theorem zZ(hb:b∈fp)(e:h.get? b=some o):(b,o)∈sO fp h:=List.mem_filterMap.mpr ⟨b,hb,by rw[e];rfl⟩
theorem X9(hp:p∈sO fp h):p.1∈fp∧h.get? p.1=some p.2:=by
 obtain⟨b,hb,e⟩:=List.mem_filterMap.mp hp;cases q:h.get? b with
 |none=>rw[q]at e;cases e
 |some o=>grind
theorem Inv.pinned(I:Inv X pins σ H s)(hf:∀b∈fp,jo X pins H b)(ho:∀b∈fp,∃o,s.heap.get? b=some o∧∀v,o.data≠ .cell v):Inv X (pins++sO fp s.heap) σ H s:=
 I.CI fun p hp=>(cE.mp hp).elim (fun z=>I.pin p (mQ _ z)) fun z=>by obtain⟨hb,e⟩:=X9 z;obtain⟨f0,f1,f2,_⟩:=hf p.1 hb;grind
theorem Inv.vF(I:Inv X (pins++pl) σ H s):Inv X pins σ H s:=I.CI fun p hp=>I.pin p (mQ _ (ux _ hp))
theorem Ae(hp:PassesOwn (model X.prog X.w) X.A X.env X.xe)(hc:X.calm=true)(hi:PI X tg iter wi)(hg:PG X tg g)(hb:fq X body tb)(hs:∀x,foldedSetIterable iter X.env x=pure x:=by intro _;rfl):PS X (.For tg iter body [] pos) (RP wi g tb):=by
 intro pins s σ H D I h;refine wpAny_For (aP (hi pins s σ H _ I h) fun v s1 h1=>aP h1 fun itv s2 h2=>?_) hs;obtain⟨it,fp,tn,J,H2,e,I2,T,st2,f2,W,⟨m0,w0⟩,turn⟩:=h2;subst e;have pP:∀{H':Hp},(∀b∈fp,H' b=none)→∀b∈fp,jo X pins H' b:=fun hn b hb=>⟨hn b hb,(f2 b hb).2⟩;refine codeAny_forLoop_any (fun n s'=>∃i σ' H',Inv X pins σ' H' s'∧tn i s'.heap∧(∀b∈fp,H' b=none)∧W i n σ' H') ?_ m0 ⟨0,σ,H2,I2,st2,fun b hb=>(f2 b hb).1,w0⟩;rintro n s3 ⟨i,σ3,H3,I3,st3,fr3,w3⟩;rcases turn i n σ3 H3 w3 with⟨stop,qn⟩|⟨go,N,hN,step⟩
 ·refine qY hp (aP (T.done X rfl rfl rfl hc i pins s3 σ3 H3 X.xe I3 (pP fr3) st3 stop) fun r s4 hh=>?_);obtain⟨hr,I4⟩:=hh;subst hr;exact Bs ⟨σ3,H3,I4,qn⟩
 ·refine qY hp (aP (T.item X rfl rfl rfl hc i pins s3 σ3 H3 X.xe I3 (pP fr3) st3 go) fun r s4 hh=>?_);obtain⟨u,hr,h4⟩:=hh;subst hr;refine qY hp (aP h4 fun _ s5⟨x,H5,I5,r5,y5,st5,fr5⟩=>?_);have I5':=I5.pinned (pP fr5) (T.obj _ _ st5);refine qY hp (aP (hg _ s5 σ3 H5 x u _ I5' r5 (step x H5 y5)) fun _ s6⟨σ6,H6,I6,q6⟩=>?_);refine qY hp (aP (hb _ s6 σ6 H6 _ I6 q6) fun f s7 q7=>?_);have again:∀{σ7:St}{H7:Hp},Inv X (pins++sO fp s5.heap) σ7 H7 s7→N σ7 H7→∃m,m<n∧∃i σ' H',Inv X pins σ' H' s7∧tn i s7.heap∧(∀b∈fp,H' b=none)∧W i m σ' H':=fun{σ7 H7} I7 n7=>by obtain⟨m',hm,w7⟩:=hN σ7 H7 n7;refine⟨m',hm,i+1,σ7,H7,I7.vF,T.keep _ _ _ st5 fun b hb o e=>(I7.pin (b,o) (mQ _ (mQ _ (zZ hb e)))).1,fun b hb=>?_,w7⟩;obtain⟨o,e,d⟩:=T.obj _ _ st5 b hb;exact(I7.pin (b,o) (mQ _ (mQ _ (zZ hb e)))).2.1
  cases f with
  |next=>obtain⟨σ7,H7,I7,n7⟩:=q7;exact again I7 n7
  |cont=>obtain⟨σ7,H7,I7,n7⟩:=q7;exact again I7 n7
  |brk=>obtain⟨σ7,H7,I7,q7⟩:=q7;exact⟨σ7,H7,I7.vF,q7⟩
  |ret v=>obtain⟨x7,σ7,H7,I7,r7,q7⟩:=q7;exact⟨x7,σ7,H7,I7.vF,r7,q7⟩
end
abbrev R2:=V→V→Hp→VK→Prop
def cR(X:Cx)(f:Value→Value→Sem Value)(r:R2):Prop:=
 ∀(pins:YW)(s:Shared)(σ:St)(H:Hp)(x y:V)(v u:Value)(Q:VK),Inv X pins σ H s→RelV x v→RelV y u→r x y H Q→
  wpAny (model X.prog X.w) X.A (f v u) (EP X pins σ Q) X.xe s
def A1(X:Cx)(f:Value→Sem Value)(r:V→Hp→VK→Prop):Prop:=
 ∀(pins:YW)(s:Shared)(σ:St)(H:Hp)(x:V)(v:Value)(Q:VK),Inv X pins σ H s→RelV x v→r x H Q→
  wpAny (model X.prog X.w) X.A (f v) (EP X pins σ Q) X.xe s
def eX(X:Cx)(f:Value)(r:List V→Hp→VK→Prop):Prop:=
 ∀(pins:YW)(s:Shared)(σ:St)(H:Hp)(xs:List V)(us:List Value)(Q:VK),Inv X pins σ H s→Vals xs us→r xs H Q→
  wpAny (model X.prog X.w) X.A (call f us) (EP X pins σ Q) X.xe s
def wA(r:R2)(ta tb:TE):TE:=fun σ H Q=>ta σ H fun x H1=>tb σ H1 fun y H2=>r x y H2 Q
def Uz(r:V→Hp→VK→Prop)(ta:TE):TE:=fun σ H Q=>ta σ H fun x H1=>r x H1 Q
def rI(C:Int→Int→Prop)(g:Int→Int→V):R2:=fun x y H Q=>∃i j,x= .int i∧y= .int j∧C i j∧Q (g i j) H
def jf(g:Int→Int→V):R2:=fun x y H Q=>∃i j,x= .int i∧y= .int j∧Q (g i j) H
def rU(g:Int→V):V→Hp→VK→Prop:=fun x H Q=>∃i,x= .int i∧Q (g i) H
section
variable{X:Cx}{a b c:Expr}{ta tb tc:TE}{pos:Pos}
theorem AM(ha:PE X a ta)(hb:PE X b tb){R:V→V→Hp→Prop}(I:Inv X pins σ H s)(h:ta σ H fun x H1=>tb σ H1 fun y H2=>R x y H2){f:Value→Value→Sem Value}(hf:∀v u s2 x y H2,Inv X pins σ H2 s2→RelV x v→RelV y u→R x y H2→wpAny (model X.prog X.w) X.A (f v u) Q X.xe s2):
  wpAny (model X.prog X.w) X.A (eval a X.env) (fun v s₁=>wpAny (model X.prog X.w) X.A (eval b X.env) (fun u s₂=>wpAny (model X.prog X.w) X.A (f v u) Q X.xe s₂) X.xe s₁) X.xe s:=by
 refine aP (ha pins s σ H _ I h) fun v s1⟨x,H1,I1,r1,q1⟩=>?_;refine aP (hb pins s1 σ H1 _ I1 q1) fun u s2⟨y,H2,I2,r2,q2⟩=>?_;grind
theorem tj(ho:cR X (binaryOp op) r)(ha:PE X a ta)(hb:PE X b tb):PE X (.BinOp a op b pos) (wA r ta tb):=by intro pins s σ H Q I h;exact wpAny_BinOp (AM ha hb I h fun v u s2 x y H2 I2 rx ry q=>ho pins s2 σ H2 x y v u Q I2 rx ry q)
theorem Nw(ho:A1 X (unaryOp op) r)(ha:PE X a ta):PE X (.UnaryOp op a pos) (Uz r ta):=by intro pins s σ H Q I h;exact UnaryOp_ (aP (ha pins s σ H _ I h) fun v s1⟨x,H1,I1,r1,q1⟩=>ho pins s1 σ H1 x v Q I1 r1 q1)
theorem pI{g:Int→Int→Int}(rule:∀(i j:Int)(t u:Tok)(s:Shared)(Q:YY)(E:YY),C i j→Q (.int (g i j) s.toks) {s with toks:=s.toks+1}→wpAny (model X.prog X.w) X.A (f (.int i t) (.int j u)) Q E s):
  cR X f (rI C fun i j=> .int (g i j)):=by
 intro pins s σ H x y v u Q I rx ry h;obtain⟨i,j,rfl,rfl,hc,q⟩:=h;obtain⟨t,rfl⟩:=rx;obtain⟨t',rfl⟩:=ry;exact rule i j t t' s _ _ hc ⟨.int (g i j),H,I.tok _,⟨_,rfl⟩,q⟩
theorem Ac{g:Int→Int→Int}(rule:∀(i j:Int)(t u:Tok)(s:Shared)(Q:YY)(E:YY),Q (.int (g i j) s.toks) {s with toks:=s.toks+1}→wpAny (model X.prog X.w) X.A (f (.int i t) (.int j u)) Q E s):
  cR X f (jf fun i j=> .int (g i j)):=by
 intro pins s σ H x y v u Q I rx ry h;obtain⟨i,j,rfl,rfl,q⟩:=h;obtain⟨t,rfl⟩:=rx;obtain⟨t',rfl⟩:=ry;exact rule i j t t' s _ _ ⟨.int (g i j),H,I.tok _,⟨_,rfl⟩,q⟩
theorem w8{g:Int→Int→Bool}(rule:∀(i j:Int)(t u:Tok)(s:Shared)(Q:YY)(E:YY),Q (.bool (g i j)) s→wpAny (model X.prog X.w) X.A (f (.int i t) (.int j u)) Q E s):
  cR X f (jf fun i j=> .bl (g i j)):=by
 intro pins s σ H x y v u Q I rx ry h;obtain⟨i,j,rfl,rfl,q⟩:=h;obtain⟨t,rfl⟩:=rx;obtain⟨t',rfl⟩:=ry;exact rule i j t t' s _ _ ⟨.bl (g i j),H,I,rfl,q⟩
def Hw(i j:Int):Prop:=0<j∧j<1073741824
def F5(i j:Int):Prop:=0≤j∧j≤1000000∧i.natAbs<2^64
def tw(i j:Int):Prop:=(-(2^64)<i∧i<2^64)∨(-(2^64)<j∧j<2^64)
theorem tw.ok(h:tw i j):IntMulOk i j:=by
 rcases h with⟨h1,h2⟩|⟨h1,h2⟩
 ·exact .of_left (intBits_le_64 h1 h2)
 ·exact .of_right (intBits_le_64 h1 h2)
theorem Xr(k:Nat):(0:Int)≤2^k:=by lia
theorem P5:cR X (binaryOp .Add) (jf fun i j=> .int (i+j)):=Ac fun _ _ _ _ _ _ _ q=>add_int q
theorem Vl:cR X (binaryOp .Sub) (jf fun i j=> .int (i-j)):=Ac fun _ _ _ _ _ _ _ q=>sub_int q
theorem Xq:cR X (binaryOp .Mult) (rI tw fun i j=> .int (i*j)):=pI fun _ _ _ _ _ _ _ hc q=>mul_int q hc.ok
theorem KR:cR X (binaryOp .FloorDiv) (rI Hw fun i j=> .int (i/j)):=pI fun i j _ _ _ _ _ hc q=>by have h1:(0:Int)<j:=hc.1;have h2:j<1073741824:=hc.2;exact floordiv_int (by lia) (by rw[JN i (by lia)];exact q) (.inl (Yf (by omega)))
theorem Q6:cR X (binaryOp .Mod) (rI (fun _ j=>0<j) fun i j=> .int (i%j)):=pI fun i j _ _ _ _ _ hc q=>by have h1:0<j:=hc;exact mod_int' (by lia) (by rw[Int.fmod_eq_emod_of_nonneg i (by lia)];exact q)
theorem So:cR X (binaryOp .LShift) (rI F5 fun i j=> .int (i*2^j.toNat)):=pI fun _ _ _ _ _ _ _ hc q=>lshift_int_small hc.1 hc.2.1 hc.2.2 q
theorem Lm:cR X (binaryOp .RShift) (rI (fun _ j=>0≤j) fun i j=> .int (i/2^j.toNat)):=pI fun i j _ _ _ _ _ hc q=>
 rshift_int hc (by rw[JN i (Xr _)];exact q)
theorem MF:cR X (binaryOp .BitAnd) (jf fun i j=> .int (Builtin.bitAnd i j)):=Ac fun _ _ _ _ _ _ _ q=>and_int q
theorem Pr{g:Int→Int}(rule:∀(i:Int)(t:Tok)(s:Shared)(Q:YY)(E:YY),Q (.int (g i) s.toks) {s with toks:=s.toks+1}→wpAny (model X.prog X.w) X.A (f (.int i t)) Q E s):
  A1 X f (rU fun i=> .int (g i)):=by
 intro pins s σ H x v Q I rx h;obtain⟨i,rfl,q⟩:=h;obtain⟨t,rfl⟩:=rx;exact rule i t s _ _ ⟨.int (g i),H,I.tok _,⟨_,rfl⟩,q⟩
theorem Ox:A1 X (unaryOp .USub) (rU fun i=> .int (-i)):=Pr fun _ _ _ _ _ q=>neg_int q
end
def Hv:V→V→Bool
 | .a8, .a8=>true| .a8, .int _=>true| .int _, .a8=>true| .a8, .bl _=>true| .bl _, .a8=>true| .a8, .str _=>true| .str _, .a8=>true
 | .int _, .int _=>true| .bl _, .bl _=>true| .str _, .str _=>true| .fT _, .fT _=>true
 | .int _, .str _=>true| .str _, .int _=>true| .bl _, .str _=>true| .str _, .bl _=>true
 |_,_=>false
def W5:R2:=fun x y H Q=>Hv x y=true∧Q (.bl (decide (x=y))) H
def Tp:R2:=fun x y H Q=>Hv x y=true∧Q (.bl (!decide (x=y))) H
theorem Fc:decide (V.int i=V.int j)=(i==j):=by lia
theorem Hc:decide (V.bl i=V.bl j)=(i==j):=by lia
theorem Gg:decide (V.str i=V.str j)=(i==j):=by lia
theorem F6:decide (V.fT i=V.fT j)=(i.toList==j.toList):=by rw[j4];simp_all
section
variable{X:Cx}{a b c:Expr}{ta tb tc:TE}{pos:Pos}
theorem cQ(I:Inv X pins σ H s)(q:Q (.bl k) H)(e:k=k'):EP X pins σ Q (.bool k') s:=by subst e;exact⟨.bl k,H,I,rfl,q⟩
theorem F7:cR X (compareOp .Eq) W5:=by
 intro pins s σ H x y v u Q I rx ry h;obtain⟨hs,q⟩:=h;cases x with
 |a8=>
  cases rx;cases y with
  |a8=>cases ry;exact PySem.EqNone.eq_none_none (cQ I q (by simp))
  |bl j=>cases ry;exact PySem.EqNone.eq_none_bool (cQ I q (by simp))
  |int j=>obtain⟨t',rfl⟩:=ry;exact PySem.EqNone.eq_none_int (cQ I q (by simp))
  |str j=>obtain⟨t',rfl⟩:=ry;exact PySem.EqNone.eq_none_str (cQ I q (by simp))
  |_=>exact absurd (hs) dG
 |bl i=>
  cases rx;cases y with
  |a8=>cases ry;exact PySem.EqNone.eq_bool_none (cQ I q (by simp))
  |bl j=>cases ry;exact eq_bool (cQ I q Hc)
  |str j=>obtain⟨t',rfl⟩:=ry;exact PySem.EqMixed.eq_bool_str (cQ I q (by simp))
  |_=>exact absurd (hs) dG
 |int i=>
  obtain⟨t,rfl⟩:=rx;cases y with
  |a8=>cases ry;exact PySem.EqNone.eq_int_none (cQ I q (by simp))
  |int j=>obtain⟨t',rfl⟩:=ry;exact eq_int (cQ I q Fc)
  |str j=>obtain⟨t',rfl⟩:=ry;exact PySem.EqMixed.eq_int_str (cQ I q (by simp))
  |_=>exact absurd (hs) dG
 |str i=>
  obtain⟨t,rfl⟩:=rx;cases y with
  |a8=>cases ry;exact PySem.EqNone.eq_str_none (cQ I q (by simp))
  |bl j=>cases ry;exact PySem.EqMixed.eq_str_bool (cQ I q (by simp))
  |int j=>obtain⟨t',rfl⟩:=ry;exact PySem.EqMixed.eq_str_int (cQ I q (by simp))
  |str j=>obtain⟨t',rfl⟩:=ry;exact eq_str (cQ I q Gg)
  |_=>exact absurd (hs) dG
 |fT i=>
  obtain⟨t,rfl⟩:=rx;cases y with
  |fT j=>obtain⟨t',rfl⟩:=ry;exact W.eq_bytes (cQ I q F6)
  |_=>exact absurd (hs) dG
 |_=>cases y<;>exact absurd (hs) dG
theorem He:cR X (compareOp .NotEq) Tp:=by
 intro pins s σ H x y v u Q I rx ry h;obtain⟨hs,q⟩:=h;cases x with
 |a8=>
  cases rx;cases y with
  |a8=>cases ry;exact PySem.EqNone.ne_none_none (cQ I q (by simp))
  |bl j=>cases ry;exact PySem.EqNone.ne_none_bool (cQ I q (by simp))
  |int j=>obtain⟨t',rfl⟩:=ry;exact PySem.EqNone.ne_none_int (cQ I q (by simp))
  |str j=>obtain⟨t',rfl⟩:=ry;exact PySem.EqNone.ne_none_str (cQ I q (by simp))
  |_=>exact absurd (hs) dG
 |bl i=>
  cases rx;cases y with
  |a8=>cases ry;exact PySem.EqNone.ne_bool_none (cQ I q (by simp))
  |bl j=>cases ry;exact ne_bool (cQ I q (congrArg not Hc))
  |str j=>obtain⟨t',rfl⟩:=ry;exact PySem.EqMixed.ne_bool_str (cQ I q (by simp))
  |_=>exact absurd (hs) dG
 |int i=>
  obtain⟨t,rfl⟩:=rx;cases y with
  |a8=>cases ry;exact PySem.EqNone.ne_int_none (cQ I q (by simp))
  |int j=>obtain⟨t',rfl⟩:=ry;exact ne_int (cQ I q (congrArg not Fc))
  |str j=>obtain⟨t',rfl⟩:=ry;exact PySem.EqMixed.ne_int_str (cQ I q (by simp))
  |_=>exact absurd (hs) dG
 |str i=>
  obtain⟨t,rfl⟩:=rx;cases y with
  |a8=>cases ry;exact PySem.EqNone.ne_str_none (cQ I q (by simp))
  |bl j=>cases ry;exact PySem.EqMixed.ne_str_bool (cQ I q (by simp))
  |int j=>obtain⟨t',rfl⟩:=ry;exact PySem.EqMixed.ne_str_int (cQ I q (by simp))
  |str j=>obtain⟨t',rfl⟩:=ry;exact ne_str (cQ I q (congrArg not Gg))
  |_=>exact absurd (hs) dG
 |fT i=>
  obtain⟨t,rfl⟩:=rx;cases y with
  |fT j=>obtain⟨t',rfl⟩:=ry;exact W.ne_bytes (cQ I q (congrArg not F6))
  |_=>exact absurd (hs) dG
 |_=>cases y<;>exact absurd (hs) dG
theorem GY:cR X (compareOp .Lt) (jf fun i j=> .bl (decide (i<j))):=w8 fun _ _ _ _ _ _ _ q=>lt_int q
theorem Vx:cR X (compareOp .LtE) (jf fun i j=> .bl (decide (i≤j))):=w8 fun _ _ _ _ _ _ _ q=>le_int q
theorem MV:cR X (compareOp .Gt) (jf fun i j=> .bl (decide (j<i))):=w8 fun _ _ _ _ _ _ _ q=>gt_int q
theorem TQ:cR X (compareOp .GtE) (jf fun i j=> .bl (decide (j≤i))):=w8 fun _ _ _ _ _ _ _ q=>ge_int q
theorem my(b:Expr)(h:op≠ .In:=by decide)(h2:op≠ .NotIn:=by decide):behindInMarks op b=false:=by
 have e1:(op==CmpOp.In)=false:=by cases op<;>first|rfl|exact absurd rfl h
 have e2:(op==CmpOp.NotIn)=false:=by cases op<;>first|rfl|exact absurd rfl h2
 cases b<;>simp[behindInMarks,e1,e2]
theorem vI(ho:cR X (compareOp op) r)(ha:PE X a ta)(hb:PE X b tb)(hm:behindInMarks op b=false):PE X (.Compare a [op] [b] pos) (wA r ta tb):=by intro pins s σ H Q I h;exact wpAny_Compare1 (AM ha hb I h fun v u s2 x y H2 I2 rx ry q=>ho pins s2 σ H2 x y v u Q I2 rx ry q) hm
def U7(t:TE):TT:=fun σ H Q=>t σ H fun x H'=>∃k,x= .bl k∧Q k H'
theorem sN(ho:cR X (compareOp op) r)(ha:PE X a ta)(hb:PE X b tb)(hm:behindInMarks op b=false):PT X (.Compare a [op] [b] pos) (U7 (wA r ta tb)):=by
 intro pins s σ H Q I h;refine wpAny_isTrue_Compare1 (aP (ha pins s σ H _ I h) fun v s1⟨x,H1,I1,r1,q1⟩=>aP (hb pins s1 σ H1 _ I1 q1) fun u s2⟨y,H2,I2,r2,q2⟩=>
  aP (ho pins s2 σ H2 x y v u _ I2 r1 r2 q2) fun c s3⟨z,H3,I3,r3,k,e,q3⟩=>?_) hm
 subst e;cases r3;exact qX ⟨H3,I3,q3⟩
theorem tV:(sizeLine:Nat)<2^63:=by rw[qZ];decide
theorem vals1(r:Vals [x] us):∃u,us=[u]∧RelV x u:=by
 cases r with
 |cons r1 r2=>cases r2;exact⟨_,rfl,r1⟩
theorem vals2(r:Vals [x,y] us):∃u w',us=[u,w']∧RelV x u∧RelV y w':=by
 cases r with
 |cons r1 r2=>
  cases r2 with
  |cons r3 r4=>cases r4;exact⟨_,_,rfl,r1,r3⟩
theorem MA(hc:X.calm=true):eX X (.builtin "max") (fun xs H Q=>∃i j,xs=[.int i, .int j]∧Q (.int (if j>i then j else i)) H):=by
 intro pins s σ H xs us Q I r h;obtain⟨i,j,rfl,q⟩:=h;obtain⟨u,w',rfl,⟨t,rfl⟩,⟨t',rfl⟩⟩:=vals2 r;refine max_two_ints (I.ok.hd hc) fun h' tk k=>⟨_,H,I.kept k,?_,q⟩;by_cases hj:j>i
 ·rw[ag hj,ag hj];exact⟨_,rfl⟩
 ·rw[af hj,af hj];exact⟨_,rfl⟩
theorem U6(hc:X.calm=true):eX X (.builtin "min") (fun xs H Q=>∃i j,xs=[.int i, .int j]∧Q (.int (if j<i then j else i)) H):=by
 intro pins s σ H xs us Q I r h;obtain⟨i,j,rfl,q⟩:=h;obtain⟨u,w',rfl,⟨t,rfl⟩,⟨t',rfl⟩⟩:=vals2 r;refine min_two_ints (I.ok.hd hc) fun h' tk k=>⟨_,H,I.kept k,?_,q⟩;by_cases hj:j<i
 ·rw[ag hj,ag hj];exact⟨_,rfl⟩
 ·rw[af hj,af hj];exact⟨_,rfl⟩
end
structure qP(h:Heap)(x dx C:Addr)(mA:YZ):Prop where
 obj:h.get? x=some (W.instObj C dx)
 ns:h.Ns1 dx mA
 ne:dx≠x
theorem Wd{h:Heap}(n:h.Ns1 dx mA):∃od,h.get? dx=some od∧∀name,W.lookIn name od=some (mA name):=by
 obtain⟨o,es,ep,ho,hd,hk,_,hm⟩:=n;refine⟨o,ho,fun name=>?_⟩;have e:=hm name;unfold nsFind findBy at e;rw[←Array.find?_toList]at e;unfold W.lookIn;rw[hd];dsimp only;split
 ·simp_all
 ·rename_i q;rw[q]at e;have a:es.toList.any (·.refKey)=false:=by rw[List.any_eq_false];intro y hy;obtain⟨z,t,nT⟩:=hk y (Array.mem_toList_iff.mp hy);simp[DictEntry.refKey,nT]
  grind
theorem qP.look(I:qP h x dx C mA):∃od,W.InstAt h x (W.instObj C dx) C (some od)∧∀name,W.lookIn name od=some (mA name):=
 let⟨od,ho,hl⟩:=Wd I.ns
 ⟨od,⟨I.obj,rfl,rfl,ho⟩,hl⟩
section
variable{prog:Program}{w:World}{A:Around}{E:YY}{s:Shared}{K:YX}{x dx C f:Addr}{mA:YZ}{name:Str}{v:Value}
theorem get_map(X:K.In s.heap)(I:qP s.heap x dx C mA)(hg:W.plainGet K C name=true)(hh:W.hasDictIn K C=true)(ha:W.findIn K (.ref C) name=some none)(hv:mA name=some v)(fV:W.handedIn v=true)(h:Q v {s with toks:=s.toks+1}):
  wpAny (model prog w) A (getAttr (.ref x) name expr) Q E s:=by
 obtain⟨od,J,hl⟩:=I.look;exact W.get_value X J (W.plainGet_of hg).1 (W.findObj_own hh ha rfl (by rw[hl,hv])) fV h
theorem MJ(X:K.In s.heap)(I:qP s.heap x dx C mA)(hs:W.findIn K (.ref C) "__setattr__"=some (some (.builtin "object.__setattr__")))(hp:W.plainOver K C=true)(ht:W.takerIn K C name=some none)(hh:W.hasDictIn K C=true)(hw:PySem.Within mA ns)(hsz:ns.length≤sizeLine)(h:∀h',qP h' x dx C (fun y=>if y=name then some v else mA y)→Heap.SameBut dx s.heap h'→Q () {s with heap:=h',toks:=s.toks+2}):
  wpAny (model prog w) A (setAttr (.ref x) name v) Q E s:=by
 obtain⟨od,J,hl⟩:=I.look;refine W.set_plain X J hs (W.osa_open X J hp ht fun b=>?_);obtain⟨cd,hc,hd'⟩:=W.any_some hh;have hx:s.heap.get? x=some ⟨.ref C,some dx, .plain,#[]⟩:=I.obj;refine ak (aI (ak (ak (wpAny_loadPart hx (ak (W.Looks.here (W.looks_clsIn X hc) ?_))))));rw[hd'];refine aI (ak (aI (ak ?_)));refine wpAny_nsSet1 I.ns fun h' mE hs2=>?_;obtain⟨oD,esD,epD,hoD,hdD,hcD⟩:=mE.count (PySem.Within.cons name v hw);refine ak (wpAny_lookBehind hoD (by rw[hdD];exact pastItsLine_dict (cx hcD (by rw[bZ];simp[*]))) ?_);exact aI (h _ ⟨(hs2.2 _ (iU I.ne)).trans I.obj,mE,I.ne⟩ hs2)
theorem TF(X:K.In s.heap)(hm:W.makesIn K C=true)(hi:W.findIn K (.ref C) "__init__"=some (some (.ref f)))(hf:W.typeIn K (.ref f)=some (.type "function"))(h:codeAny (model prog w) (A.under (.builtin "type.__call__" ⟨.ref C::vs,kw⟩)) (.call (.ref f) ⟨.ref (s.heap.objs.size+1)::vs,kw⟩) (W.InitBack (s.heap.objs.size+1) R)
   {s with heap:=(s.heap.push W.emptyDict).push (W.instObj C s.heap.objs.size)}):
  codeAny (model prog w) A (.call (.ref C) ⟨vs,kw⟩) R s:=by
 obtain⟨hh,g,d,t,os⟩:=s;exact W.make_core (W.makes_of X hm) (W.looks_findIn X hi) (fun self=>W.bind_fn X self hf) (.inl rfl) h
end
def f_(f:Str)(v:V):List (Str×V)→List (Str×V)
 |[]=>[(f,v)]
 |(g,x)::r=>if g=f then(g,v)::r else(g,x)::f_ f v r
theorem Fp(f g:Str)(v:V):∀fs:List (Str×V),(f_ f v fs).lookup g=if g=f then some v else fs.lookup g
 |[]=>by show List.lookup g [(f,v)]=_;grind
 |(k,x)::r=>by have ih:=Fp f g v r;rw[show f_ f v ((k,x)::r)=(if k=f then(k,v)::r else(k,x)::f_ f v r)from rfl];grind
theorem zw(f:Str)(v:V):∀fs:List (Str×V),f∈(f_ f v fs).map (·.1)∧∀g,g∈fs.map (·.1)→g∈(f_ f v fs).map (·.1)
 |[]=>⟨by simp[f_],fun g h=>by simp at h⟩
 |(k,x)::r=>by obtain⟨i1,i2⟩:=zw f v r;rw[show f_ f v ((k,x)::r)=(if k=f then(k,v)::r else(k,x)::f_ f v r)from rfl];grind
theorem FJ(f:Str)(v:V):∀fs:List (Str×V),(f_ f v fs).length≤fs.length+1
 |[]=>by simp[f_]
 |(k,x)::r=>by have ih:=FJ f v r;rw[show f_ f v ((k,x)::r)=(if k=f then(k,v)::r else(k,x)::f_ f v r)from rfl];grind
theorem gf.some_of(r:gf (some v) o):∃u,o=some u∧RelV v u:=by
 cases o with
 |none=>exact(r).elim
 |some u=>exact⟨u,rfl,r⟩
theorem SU(r:RelV v u):W.handedIn u=true:=by
 cases v with
 |a8=>cases (r);rfl
 |bl b=>cases (r);rfl
 |int i=>obtain⟨t,e⟩:=(r);cases e;rfl
 |str x=>obtain⟨t,e⟩:=(r);cases e;rfl
 |fT b=>obtain⟨t,e⟩:=(r);cases e;rfl
 |flt b=>obtain⟨t,e⟩:=(r);cases e;rfl
 |ref a=>cases (r);rfl
 |ty n=>cases (r);rfl
section
variable{P:Program}{w:World}{H H':Hp}{h h':Heap}{a C dx:Addr}{fs fs':List (Str×V)}
theorem Fv(aG:b_ P w H h)(e:H a=some (.ins C dx fs)):∃mA,qP h a dx C mA∧(∀f,gf (fs.lookup f) (mA f))∧PySem.Within mA (fs.map (·.1))∧fs.length≤1000∧H dx=some (.own a):=by obtain⟨d,z,ne,ob,mA,n,r,q⟩:=(aG a _ e);exact⟨mA,⟨ob,n,ne⟩,r,q,z,d⟩
end
structure lO(K:YX)(C:Addr):Prop where
 pg:W.plainGet K C Str.empty=true
 hd:W.hasDictIn K C=true
 po:W.plainOver K C=true
 sa:W.findIn K (.ref C) "__setattr__"=some (some (.builtin "object.__setattr__"))
theorem lO.get{K:YX}(c:lO K C)(f:Str):W.plainGet K C f=true:=c.pg
def ig(K:YX)(C:Addr)(f:Str):Prop:=W.findIn K (.ref C) f=some none
theorem ig.Mu{K:YX}(n:ig K C f):W.takerIn K C f=some none:=by unfold W.takerIn;rw[show W.findIn K (.ref C) f=some none from n];rfl
section
variable{X:Cx}{pins:YW}{σ:St}{H:Hp}{s:Shared}{a C dx:Addr}{fs:List (Str×V)}{f:Str}{v:V}{A:Around}{E:YY}
theorem Xd(I:Inv X pins σ H s)(e:H a=some (.ins C dx fs))(c:lO X.K C)(n:ig X.K C f)(l:fs.lookup f=some v)(h:∀u s',Inv X pins σ H s'→RelV v u→Q u s'):wpAny (model X.prog X.w) A (getAttr (.ref a) f b) Q E s:=by obtain⟨mA,O,r,_,_,_⟩:=Fv I.aG e;obtain⟨u,hu,ru⟩:=gf.some_of (by rw[←l];exact r f);exact get_map I.iy O (c.get f) c.hd n hu (SU ru) (h u _ (I.tok _) ru)
theorem UB(I:Inv X pins σ H s)(e:H a=some (.ins C dx fs))(c:lO X.K C)(n:ig X.K C f)(hl:fs.length<1000)(ry:RelV y u)(h:∀s',Inv X pins σ (upd H a (.ins C dx (f_ f y fs))) s'→Q () s'):wpAny (model X.prog X.w) A (setAttr (.ref a) f u) Q E s:=by
 obtain⟨mA,O,r,wi,_,ho⟩:=Fv I.aG e;have hz:(fs.map (·.1)).length≤sizeLine:=by rw[bj,qZ];lia
 refine MJ I.iy O c.sa c.po n.Mu c.hd wi hz fun h' O' sb=>h _ ?_;have hd:∃o,h'.get? dx=some o:=let⟨o,_,_,e',_⟩:=O'.ns;⟨o,e'⟩;refine I.write (by rw[e];exact pR) (.inr ho) (fun b q hb z=>(sb.2 b hb).trans z) hd ?_;refine⟨by rw[aB O.ne];exact ho,?_,O.ne,O'.obj,_,O'.ns,fun g=>?_,fun g hg=>?_⟩
 ·have:=FJ f y fs;lia
 ·show gf ((f_ f y fs).lookup g) (if g=f then some u else mA g);rw[Fp];by_cases q:g=f
  ·rw[ag q,ag q];exact ry
  ·simp[*]
 ·by_cases q:g=f
  ·rw[q];exact(zw f y fs).1
  ·refine(zw f y fs).2 g (wi g fun z=>hg ?_);simp[*]
theorem Inv.made(I:Inv X pins σ H s):Inv X pins σ (upd (upd H s.heap.objs.size (.own (s.heap.objs.size+1))) (s.heap.objs.size+1) (.ins C s.heap.objs.size []))
  {s with heap:=(s.heap.push W.emptyDict).push (W.instObj C s.heap.objs.size)}:=by
 have e1:(s.heap.push W.emptyDict).get? s.heap.objs.size=some W.emptyDict:=cy s.heap rfl;have e2:((s.heap.push W.emptyDict).push (W.instObj C s.heap.objs.size)).get? (s.heap.objs.size+1)=some (W.instObj C s.heap.objs.size):=by have:=cy (s.heap.push W.emptyDict) (o:=W.instObj C s.heap.objs.size) rfl;simp_all
 have e3:(s.heap.push W.emptyDict).Ns s.heap.objs.size (fun _=>none):=⟨W.emptyDict,#[],_,e1,rfl,(fun e he=>absurd he (by simp)),fun _=>rfl⟩;have I1:=I.laid (o:= .own (s.heap.objs.size+1)) (t':=s.toks) (fun b u q=>bJ _ q) (aY _) ⟨_,e1⟩;refine I1.laid (fun b u q=>bJ _ q) (xM (eF _ _)) ?_;have ne:s.heap.objs.size≠s.heap.objs.size+1:=bY (xN _);refine⟨by rw[aB ne,aE],eG _,ne,e2,fun _=>none,(Heap.Ns1.of_empty e3).at fun o q=>bJ _ q,fun _=>pR,fun y hy=>absurd rfl hy⟩
theorem OC(hb:attributeBase e f env (eval e env)= eval e env)(h:wpAny (model prog w) A (eval e env) (fun o s₁=>wpAny (model prog w) A (getAttr o f true) Q E s₁) E s):wpAny (model prog w) A (eval (.Attribute e f pos) env) Q E s:=
 Attribute_any_ h (by rw[arm_eval_Attribute,hb])
end
def Xp(K:YX)(ta:TE)(f:Str):TE:=fun σ H Q=>ta σ H fun x H1=>∃a C dx fs v,x= .ref a∧H1 a=some (.ins C dx fs)∧lO K C∧ig K C f∧fs.lookup f=some v∧Q v H1
def Qq(K:YX)(ta tv:TE)(f:Str):TS:=fun D σ H=>tv σ H fun y H1=>ta σ H1 fun x H2=>∃a C dx fs,x= .ref a∧H2 a=some (.ins C dx fs)∧lO K C∧ig K C f∧fs.length<1000∧
 D.nx σ (upd H2 a (.ins C dx (f_ f y fs)))
section
variable{X:Cx}{o e value:Expr}{f:Str}{pos pos' cg:Pos}{ta tv:TE}
theorem Ap(he:PE X e ta)(hb:attributeBase e f X.env (eval e X.env)= eval e X.env):PE X (.Attribute e f pos) (Xp X.K ta f):=by intro pins s σ H Q I h;refine OC hb (aP (he pins s σ H _ I h) fun u s1 hh=>?_);obtain⟨x,H1,I1,rx,a,C,dx,fs,v,ex,ea,c,n,l,q⟩:=hh;subst ex;obtain rfl:u=Value.ref a:=rx;exact Xd I1 ea c n l fun u' s2 I2 ru=>⟨v,H1,I2,ru,q⟩
theorem oT(ha:PE X o ta)(hv:PE X value tv)(hs:swapsWith value (some (.Attribute o f pos')) pos.line X.env=pure false):PS X (.Assign [.Attribute o f pos'] value pos) (Qq X.K ta tv f):=by intro pins s σ H D I h;refine plainObj_wpAny_Assign_Attribute (aP (hv pins s σ H _ I h) fun u s1⟨y,H1,I1,ry,q⟩=>aP (ha pins s1 σ H1 _ I1 q) fun ov s2 hh=>?_) hs;obtain⟨x,H2,I2,rx,a,C,dx,fs,ex,ea,c,n,l,q2⟩:=hh;subst ex;obtain rfl:ov=Value.ref a:=rx;exact UB I2 ea c n l ry fun s3 I3=>⟨σ,_,I3,q2⟩
end
structure bM(k:Nat)(A:Around):Prop where
 hd:A.handled=none
 dp:A.depth+3*k+5<recursionLimit
 un:A.units+16*k+200<cLine
theorem bM.mono(r:bM k A)(h:j≤k):bM j A:=⟨r.hd,by have:=r.dp;lia,by have:=r.un;lia⟩
theorem bM.deeper(r:bM (k+1) A)(env:Env):bM k (A.deeper env):=
 ⟨r.hd,by have:=r.dp;show A.depth+1+3*k+5<_;lia,by have:=r.un;show A.units+3+16*k+200<_;lia⟩
theorem SJ{A:Around}:(A.under (.builtin "type.__call__" ⟨.ref C::us,kw⟩)).depth=A.depth+1:=by
 first|rfl|simp
theorem QT{A:Around}:(A.under (.builtin "type.__call__" ⟨.ref C::us,kw⟩)).units=A.units+1:=by
 first|rfl|simp
theorem bM.make(r:bM (k+1) A)(C:Addr)(us:List Value)(kw:List (Str×Value)):bM k (A.under (.builtin "type.__call__" ⟨.ref C::us,kw⟩)):=
 ⟨r.hd,by have:=r.dp;rw[SJ];lia,by have:=r.un;rw[QT];lia⟩
theorem bM.depth(r:bM k A):A.depth<recursionLimit:=by have:=r.dp;lia
theorem bM.units(r:bM k A):A.units+64<cLine:=by have:=r.un;lia
def Q1:TA:=fun _ H Q=>Q [] H
def RG(ta:TE)(tr:TA):TA:=fun σ H Q=>ta σ H fun x H1=>tr σ H1 fun xs H2=>Q (x::xs) H2
section
variable{X:Cx}{e:Expr}{es:List Expr}{te:TE}{t:TA}{pos:Pos}
theorem fG:PA X [] Q1:=fun _ _ _ _ H Q I h=>Calls.spliced_nil ⟨[],H,I, .nil,h⟩
theorem fm(ha:PE X e te)(hr:PA X es t)(hs:starEach (e::es) X.env=(false,eval e X.env)::starEach es X.env:=by rfl):PA X (e::es) (RG te t):=by intro pos pins s σ H Q I h;rw[hs];refine JO (aP (ha pins s σ H _ I h) fun u s1⟨x,H1,I1,r1,q1⟩=>?_);exact aP (hr pos pins s1 σ H1 _ I1 q1) fun us s2⟨xs,H2,I2,r2,q2⟩=>⟨x::xs,H2,I2, .cons r1 r2,q2⟩
def PF(t:TA):TE:=fun σ H Q=>t σ H fun xs H1=>xs.length≤sizeLine∧∀p,H1 p=none→Q (.ref p) (upd H1 p (.tup xs))
def U5(t:TA):TE:=fun σ H Q=>t σ H fun xs H1=>xs.length≤sizeLine∧∀p,H1 p=none→Q (.ref p) (upd H1 p (.lst xs))
theorem Jo(h:PA X es t):PE X (.Tuple es x1 pos) (PF t):=by intro pins s σ H Q I hq;refine wpAny_Tuple_spliced (aP (h pos pins s σ H _ I hq) fun us s1⟨xs,H1,I1,r,z,q⟩=>⟨by rw[←r.length];exact z,?_⟩);have hf:H1 s1.heap.objs.size=none:=I1.aG.fresh (aY _);refine⟨.ref s1.heap.objs.size,upd H1 s1.heap.objs.size (.tup xs),I1.laid (fun b u e=>bJ _ e) (aY _) ?_,rfl,q _ hf⟩;exact⟨z,us,r,⟨_,cy _ rfl,rfl,_,rfl⟩⟩
theorem Nh(h:PA X es t):PE X (.List es pos) (U5 t):=by intro pins s σ H Q I hq;refine wpAny_List_spliced (aP (h pos pins s σ H _ I hq) fun us s1⟨xs,H1,I1,r,z,q⟩=>⟨by rw[←r.length];exact z,?_⟩);have hf:H1 s1.heap.objs.size=none:=I1.aG.fresh (aY _);refine⟨.ref s1.heap.objs.size,upd H1 s1.heap.objs.size (.lst xs),I1.laid (fun b u e=>bJ _ e) (aY _) ?_,rfl,q _ hf⟩;exact⟨z,us,0,r,cy _ rfl⟩
end
abbrev Sp:=List V→Hp→VK→XK→Prop
abbrev jN:=List Env→Hp→Shared→XK→Value→Shared→Prop
structure pd(P:Program)(w:World)(K:YX)(mg:YZ)(base:Heap)(A:Around)(outer:List Env)(s:Shared)(H:Hp):Prop where
 frames:A.frames=some outer
 mod:Mod K mg base
 bs:∀b o,base.get? b=some o→s.heap.get? b=some o∧H b=none
 mi:base.objs.size≤s.heap.objs.size
 ja:s.heap.FunFrames base outer
 pK:∀b∈jG outer,H b=none
 aG:b_ P w H s.heap
 bare:AllBare s.gens
def CE(outer:List Env)(P:Program)(w:World)(H:Hp)(s:Shared)(Q:VK)(u:Value)(s':Shared):Prop:=
 ∃v H',s'.os=s.os∧AllBare s'.gens∧Un (jG outer) [] H H' s.heap s'.heap∧b_ P w H' s'.heap∧RelV v u∧Q v H'
def CR(CX:jN)(outer:List Env)(P:Program)(w:World)(H:Hp)(s:Shared)(Q:VK)(E:XK)(r:Result)(s':Shared):Prop:=
 match r with
 | .ok (.ret u)=>CE outer P w H s Q u s'
 | .ok _=>False
 | .error e=>CX outer H s E e s'
structure gU(P:Program)(w:World)(K:YX)(mg:YZ)(base:Heap)(CX:jN)(k:Nat)(f:Addr)(fd:FuncData)(ps:List Str)(sp:Sp):Prop where
 len:∀vs H Q E,sp vs H Q E→vs.length=ps.length
 run:∀(A:Around)(outer:List Env)(s:Shared)(H:Hp)(args:Args)(us:List Value)(vs:List V)(Q:VK)(E:XK),bM k A→pd P w K mg base A outer s H→BindsTo s fd args (ps.zip us)→Vals vs us→sp vs H Q E→
  codeAny (model P w) A (.call (.ref f) args) (CR CX outer P w H s Q E) s
theorem pd.make{K:YX}(e:pd P w K mg base A outer s H)(C:Addr)(us:List Value)(kw:List (Str×Value)):
  pd P w K mg base (A.under (.builtin "type.__call__" ⟨.ref C::us,kw⟩)) outer s H:=⟨by first|exact e.frames|(simpa[Around.under,Code.envs,Code.isFrame,pushEnvs]using e.frames),e.mod,e.bs,e.mi,e.ja,e.pK,e.aG,e.bare⟩
section
variable{X:Cx}{pins:YW}{σ:St}{H:Hp}{s s':Shared}
theorem Inv.Du(I:Inv X pins σ H s):pd X.prog X.w X.K X.mg X.base X.A X.stack s H:=
 ⟨I.ok.frames,I.ok.mod,I.bs,cx I.ok.mi I.sz,I.stack,I.Gu,I.aG,I.bare⟩
theorem Inv.after(I:Inv X pins σ H s)(h:CE X.stack X.prog X.w H s Q u s'):EP X pins σ Q u s':=by obtain⟨v,H',os,bare,un,aG,r,q⟩:=h;obtain⟨hh,g,d,t,os'⟩:=s';obtain rfl:os'=s.os:=os;exact⟨v,H',I.call un aG bare (fun b z=>absurd z (by simp)),r,q⟩
end
def MY(sp:Sp)(gJ:List V)(E:XK)(t:TA):TE:=fun σ H Q=>t σ H fun vs H1=>sp (vs++gJ) H1 Q E
def RB(C:Addr)(sp:Sp)(gJ:List V)(E:XK)(t:TA):TE:=fun σ H Q=>t σ H fun vs H1=>∀x dx,H1 x=none→H1 dx=none→dx≠x→
 sp (.ref x::(vs++gJ)) (upd (upd H1 dx (.own x)) x (.ins C dx [])) (fun v H2=>v= .a8∧Q (.ref x) H2) E
def Binds(K:YX)(fd:FuncData)(ps:List Str)(ds:List Value):Prop:=
 ∀(s:Shared)(us:List Value),K.In s.heap→(us++ds).length=ps.length→BindsTo s fd ⟨us,[]⟩ (ps.zip (us++ds))
theorem Binds.all{K:YX}(h:∀us:List Value,us.length=ps.length→bindArgs fd ⟨us,[]⟩=pure (ps.zip us)):Binds K fd ps []:=fun s us _ hl=>by rw[pS]at hl⊢;exact .of_eq (h us hl)
def Passes(CX:jN)(X:Cx)(E:XK):Prop:=∀(pins:YW)(σ:St)(H:Hp)(s:Shared)(e:Value)(s':Shared),Inv X pins σ H s→CX X.stack H s E e s'→X.xe e s'
section
variable{X:Cx}{CX:jN}{k:Nat}{f C:Addr}{fd:FuncData}{ps:List Str}{sp:Sp}{gJ:List V}{ds:List Value}{E:XK}{x m:Str}{p pos apos:Pos}{e o:Expr}{es:List Expr}{ta:TE}{t:TA}
theorem IF(F:gU X.prog X.w X.K X.mg X.base CX k f fd ps sp)(hr:bM k X.A)(hb:Binds X.K fd ps ds)(hd:Vals gJ ds)(hx:Passes CX X E)(I:Inv X pins σ H s)(r:Vals vs us)(h:sp (vs++gJ) H Q E):wpAny (model X.prog X.w) X.A (call (.ref f) us) (EP X pins σ Q) X.xe s:=by
 have r2:Vals (vs++gJ) (us++ds):=r.append hd;have hl:(us++ds).length=ps.length:=by rw[←r2.length];exact F.len _ _ _ _ h
 refine wpAny_call (uA (F.run X.A X.stack s H ⟨us,[]⟩ (us++ds) (vs++gJ) Q E hr I.Du (hb s us I.iy hl) r2 h) fun r s' hq=>?_);cases r with
 |error e=>exact hx pins σ H s e s' I hq
 |ok fl=>
  cases fl with
  |ret u=>exact I.after hq
  |next=>exact False.elim hq
  |brk=>exact False.elim hq
  |cont=>exact False.elim hq
theorem Na(F:gU X.prog X.w X.K X.mg X.base CX k f fd ps sp)(hr:bM k X.A)(hg:Gl X x)(hm:X.mg x=some (.ref f))(hk:W.keepIn X.K (.ref f)=true)(hb:Binds X.K fd ps ds)(hd:Vals gJ ds)(hx:Passes CX X E)
  (ha:PA X (e::es) t)(bG:(x==("__debug__":Str))=false:=by decide)(he:starEach (e::es) X.env=(false,eval e X.env)::starEach es X.env:=by rfl)(bo:(backTo pos (starEach es X.env)).any (·.1)=false:=by rfl):
  PE X (.Call (.Name x p) (e::es) [] pos) (MY sp gJ E t):=by
 intro pins s σ H Q I h;refine xO (yW I hg hm ?_ bG);refine JP I.ok.mod.iO hk (aP (ha pos pins s σ H _ I h) fun us s1⟨vs,H1,I1,r,q⟩=>⟨I1.iy,?_⟩) he bo;exact IF F hr hb hd hx I1 r q
structure Mk(K:YX)(C f:Addr):Prop where
 makes:W.makesIn K C=true
 init:W.findIn K (.ref C) "__init__"=some (some (.ref f))
 fn:W.isFn K (.ref f)=true
 kp:W.keepIn K (.ref C)=true
theorem R3(M:Mk X.K C f)(F:gU X.prog X.w X.K X.mg X.base CX k f fd ps sp)(hr:bM (k+1) X.A)(hb:Binds X.K fd ps ds)(hd:Vals gJ ds)(hx:Passes CX X E)(I:Inv X pins σ H s)(r:Vals vs us)(h:∀x dx,H x=none→H dx=none→dx≠x→sp (.ref x::(vs++gJ)) (upd (upd H dx (.own x)) x (.ins C dx [])) (fun v H2=>v= .a8∧Q (.ref x) H2) E):
  wpAny (model X.prog X.w) X.A (call (.ref C) us) (EP X pins σ Q) X.xe s:=by
 have hq:=h (s.heap.objs.size+1) s.heap.objs.size (I.aG.fresh (j5 _)) (I.aG.fresh (aY _)) (bY (xN _));have I2:=Inv.made (C:=C) I;have r2:Vals (V.ref (s.heap.objs.size+1)::(vs++gJ)) (Value.ref (s.heap.objs.size+1)::(us++ds)):= .cons rfl (r.append hd);have hl:(Value.ref (s.heap.objs.size+1)::us++ds).length=ps.length:=by have e:=r2.length;rw[F.len _ _ _ _ hq]at e;simp[*]
 refine wpAny_call (TF I.iy M.makes M.init (beq_iff_eq.mp M.fn) (uA (F.run _ X.stack _ _ ⟨Value.ref (s.heap.objs.size+1)::us,[]⟩ (Value.ref (s.heap.objs.size+1)::(us++ds)) _ _ E (hr.make C us [])
  (I2.Du.make C us []) (hb _ (Value.ref (s.heap.objs.size+1)::us) I2.iy hl) r2 hq) fun r s' nU=>?_))
 cases r with
 |error e=>exact hx pins σ _ _ e s' I2 nU
 |ok fl=>
  cases fl with
  |ret u=>obtain⟨v,H',I3,rv,ev,q3⟩:=I2.after nU;subst ev;exact⟨rv,⟨V.ref (s.heap.objs.size+1),H',I3,rfl,q3⟩⟩
  |next=>exact False.elim nU
  |brk=>exact False.elim nU
  |cont=>exact False.elim nU
theorem I0(M:Mk X.K C f)(F:gU X.prog X.w X.K X.mg X.base CX k f fd ps sp)(hr:bM (k+1) X.A)(hg:Gl X x)(hm:X.mg x=some (.ref C))(hb:Binds X.K fd ps ds)(hd:Vals gJ ds)(hx:Passes CX X E)
  (ha:PA X (e::es) t)(bG:(x==("__debug__":Str))=false:=by decide)(he:starEach (e::es) X.env=(false,eval e X.env)::starEach es X.env:=by rfl)(bo:(backTo pos (starEach es X.env)).any (·.1)=false:=by rfl):
  PE X (.Call (.Name x p) (e::es) [] pos) (RB C sp gJ E t):=by
 intro pins s σ H Q I h;refine xO (yW I hg hm ?_ bG);refine JP I.ok.mod.iO M.kp (aP (ha pos pins s σ H _ I h) fun us s1⟨vs,H1,I1,r,q⟩=>⟨I1.iy,?_⟩) he bo;exact R3 M F hr hb hd hx I1 r q
end
structure rV(N P:List Str)(sc:Scope):Prop where
 kind:sc.kind= .function
 co:sc.isCoroutine=false
 gen:sc.isGenerator=false
 nd:N.Nodup
 pre:N.take P.length=P
 par:∀x∈P,sc.names.lookup x=some .local∨sc.names.lookup x=some .cell
 Xa:∀y∈sc.names,y.2≠ .free
theorem G0{kindOf:Str→Option NameKind}:∀{binds:List (Str×Value)}{m:YZ},(∀v,(x,v)∉binds)→bindL kindOf binds m x=m x
 |[],_,_=>rfl
 |(n,v)::r,m,h=>by
  unfold bindL;rw[G0 fun w hw=>h w (bW _ hw)];split
  ·grind
  ·rfl
theorem HH{kindOf:Str→Option NameKind}:∀{binds:List (Str×Value)}{m:YZ},(∀v,(x,v)∉binds)→bindC kindOf binds m x=m x
 |[],_,_=>rfl
 |(n,v)::r,m,h=>by
  unfold bindC;rw[HH fun w hw=>h w (bW _ hw)];split
  ·rfl
  ·grind
theorem Cv{kindOf:Str→Option NameKind}:∀{P:List Str}{vs:List Value}{i:Nat}{m:YZ},P.Nodup→P[i]?=some x→vs[i]?=some v→kindOf x=some .local→
  bindL kindOf (P.zip vs) m x=some v
 |[],_,_,_,_,h,_,_=>by simp at h
 |_::_,[],_,_,_,_,h,_=>by simp at h
 |p::P,w::vs,0,m,nd,h1,h2,hk=>by simp at h1 h2;subst h1;subst h2;show bindL kindOf ((p,w)::P.zip vs) m p=_;unfold bindL;rw[G0 fun v hv=>(fY.mp nd).1 (lA hv).1,ag hk];simp
 |p::P,w::vs,i+1,m,nd,h1,h2,hk=>by unfold bindL;exact Cv (fY.mp nd).2 (by simpa using h1) (by simpa using h2) hk
theorem Gh{kindOf:Str→Option NameKind}:∀{P:List Str}{vs:List Value}{i:Nat}{m:YZ},P.Nodup→P[i]?=some x→vs[i]?=some v→kindOf x≠some .local→
  bindC kindOf (P.zip vs) m x=some v
 |[],_,_,_,_,h,_,_=>by simp at h
 |_::_,[],_,_,_,_,h,_=>by simp at h
 |p::P,w::vs,0,m,nd,h1,h2,hk=>by simp at h1 h2;subst h1;subst h2;show bindC kindOf ((p,w)::P.zip vs) m p=_;unfold bindC;rw[HH fun v hv=>(fY.mp nd).1 (lA hv).1,af hk];simp
 |p::P,w::vs,i+1,m,nd,h1,h2,hk=>by unfold bindC;exact Gh (fY.mp nd).2 (by simpa using h1) (by simpa using h2) hk
def start(N:List Str)(vs:List V):St:=vs.map some++replicate (N.length-vs.length) none
def ju(CX:jN)(P:Program)(w:World)(K:YX)(mg:YZ)(base:Heap)(N:List Str)(qual:Str)(scope:Scope)(f:Addr)(cd:Value)(A:Around)(outer:List Env)(s:Shared)(H:Hp)(E:XK):Cx where
 prog:=P
 w:=w
 K:=K
 mg:=mg
 base:=base
 A:=A.deeper (envOfC qual scope s.heap.objs.size f cd)
 N:=N
 eM:=s
 kb:=H
 env:=envOfC qual scope s.heap.objs.size f cd
 outer:=outer
 stack:=envOfC qual scope s.heap.objs.size f cd::outer
 ex:=[]
 calm:=true
 fn:=fun _=>true
 pn:=[]
 xe:=fun e s'=>wpAny (model P w) (A.deeper (envOfC qual scope s.heap.objs.size f cd)) (leaving (envOfC qual scope s.heap.objs.size f cd) e) (fun _ s''=>CX outer H s E e s'') (fun e' s''=>CX outer H s E e' s'') s'
theorem HI{sc:Scope}(h:sc.names.lookup x=some .cell):∃c,(cellsFrom n sc.names []).lookup x=some c:=by have q:=Yg sc.names n [] (.inl h);exact Option.isSome_iff_exists.mp q
theorem RY{K:YX}(S:rV N ps scope)(hd:A.handled=none)(e0:pd P w K mg base A outer s H)(hl:vs.length=ps.length)(r:Vals vs us)(x:InCallC s s.heap.objs.size (bindL (envOfC qual scope s.heap.objs.size f cd).kindOf (ps.zip us) fun _=>none) (cellsFrom (s.heap.objs.size+1) scope.names []) (bindC (envOfC qual scope s.heap.objs.size f cd).kindOf (ps.zip us) fun _=>none) s1):
  Inv (ju CX P w K mg base N qual scope f cd A outer s H E) [] (start N vs) H s1:=by
 have bo:ps.length≤N.length:=by have:=congrArg List.length S.pre;rw[q_]at this;lia
 obtain⟨h1,tk,rfl,hk⟩:=x.done;have noA:∀b:Addr,b∉(ju CX P w K mg base N qual scope f cd A outer s H E).ex:=fun b z=>absurd (show b∈([]:List Addr)from z) (by simp);refine⟨⟨e0.mod,S.kind,rfl,rfl,aY _,fun y z c h1 h2=>?_,fun y hy=>?_,fun y c _ h=>?_,fun _=>hd,Around.frames_deeper e0.frames, .inr ⟨rfl,rfl⟩,fun b z=>absurd z (noA b),e0.bs,e0.mi,fun b _ _=>noA b,fun b z=>absurd z (noA b),e0.ja,e0.pK⟩,
  rfl,e0.bare,Un.kept hk,⟨_,x.toInCall.ns,fun i y v h1 h2 h3=>?_⟩,fun y c h=>⟨_,x.cell y c h⟩,e0.aG.fresh (aY _),fun y c h=>?_,fun p hp=>absurd (show p∈([]:YW)from hp) (by simp),e0.aG.kept hk,?_⟩
 ·exact name_of_addr x.apart (ir h1) (ir h2)
 ·have hy:scope.names.lookup y=some .cell∨scope.names.lookup y=some .free:=hy;rcases hy with hy|hy
  ·exact HI hy
  ·exact absurd rfl (S.Xa _ (ir hy))
 ·exact qW (x.above y c (ir h))
 ·have hi:i<vs.length:=by unfold start at h2;grind
  have ha:vs[i]?=some v:=by unfold start at h2;grind-ring-lia-linarith-order
  obtain⟨u,hu,rv⟩:=r.get ha;have hp:ps[i]?=some y:=by rw[←S.pre,List.getElem?_take_of_lt (by simp_all)];exact h1
  have ndP:ps.Nodup:=by rw[←S.pre];exact S.nd.sublist (List.take_sublist _ _)
  refine⟨u,rv,?_⟩;rcases S.par y (fg hp)with k|k
  ·exact .inl ⟨k,Cv ndP hp hu k⟩
  ·obtain⟨c,e⟩:=HI (n:=s.heap.objs.size+1) k;refine .inr ⟨.inl k,c,e,?_⟩;have q:=x.cell y c e;rw[Gh ndP hp hu (by show scope.names.lookup y≠_;rw[k];decide)]at q;exact q
 ·exact e0.aG.fresh (qW (x.above y c (ir h)))
 ·unfold start;show _=N.length;simp[*]
theorem VE{K:YX}{dV kV doc pm bI ct oc:Value}(lk:K.lookup f=some ⟨oc,od, .func (W.fnOf name qual params body scope dV kV doc pm an bI ct),osl⟩)(bH:W.codeIn K bI qual=true)(S:rV N ps scope)(len:∀vs H Q E,sp vs H Q E→vs.length=ps.length)(Bm:∀(A:Around)(outer:List Env)(s:Shared)(H:Hp)(vs:List V)(Q:VK)(E:XK),bM k (A.deeper (envOfC qual scope s.heap.objs.size f bI))→sp vs H Q E→
   ∃t,fq (ju CX P w K mg base N qual scope f bI A outer s H E) body t∧t {nx:=fun _ H'=>Q .a8 H',rt:=Q} (start N vs) H):
  gU P w K mg base CX (k+1) f (W.fnOf name qual params body scope dV kV doc pm an bI ct) ps sp:=by
 refine⟨len,fun A outer s H args us vs Q E hr e0 hb r k_=>?_⟩;have hl:=len _ _ _ _ k_;have KX:K.In s.heap:=e0.mod.iO.keeps fun b o e=>(e0.bs b o e).1;have lim:s.heap.NoLimit:=e0.mod.nolimit.keeps fun b o e=>(e0.bs b o e).1;have hkind:∀y∈ps.zip us,scope.names.lookup y.1=some .local∨(scope.names.lookup y.1=some .cell∧((cellsFrom (s.heap.objs.size+1) scope.names []).lookup y.1).isSome=true):=fun⟨n,v⟩ hy=>by
  rcases S.par n (lA hy).1 with q|q
  ·lia
  ·exact .inr ⟨q,Yg _ _ _ (.inl q)⟩
 refine codeAny_call_function hr.depth (KX _ _ lk) rfl S.co S.gen rfl (W.codeRec_of KX bH) (hb _ _ _ _ ?_);refine wpAny_newFunctionEnv_cells S.kind hkind fun env he s1 x=>?_;subst he;refine⟨lim.keeps x.toInCall.keep,codeAny_func ?_⟩;obtain⟨t,ht,hq⟩:=Bm A outer s H vs Q E (hr.deeper _) k_;have I:Inv (ju CX P w K mg base N qual scope f bI A outer s H E) [] (start N vs) H s1:=RY S hr.hd e0 hl r x;refine iV (ht [] s1 (start N vs) H _ I hq) (fun fl s' hs=>?_) fun e s' hs=>hs;have fin:∀{σ':St}{H':Hp}{v:V}{u:Value},Inv (ju CX P w K mg base N qual scope f bI A outer s H E) [] σ' H' s'→RelV v u→Q v H'→CE outer P w H s Q u s':=
  fun{σ' H' v u} J rv q=>⟨v,H',J.os,J.bare,J.base,J.aG,rv,q⟩
 cases fl with
 |ret u=>obtain⟨v,σ',H',J,rv,q⟩:=hs;exact fin J rv q
 |next=>obtain⟨σ',H',J,q⟩:=hs;exact fin (v:=V.a8) J rfl q
 |brk=>obtain⟨_,_,_,q⟩:=hs;simp_all
 |cont=>obtain⟨_,_,_,q⟩:=hs;simp_all
section
variable{X:Cx}{x:Str}{p pos:Pos}{e:Expr}{es:List Expr}{t:TA}{id T:String}{r:List V→Hp→VK→Prop}
def IW(r:List V→Hp→VK→Prop)(t:TA):TE:=fun σ H Q=>t σ H fun vs H1=>r vs H1 Q
theorem tS(hc:eX X (.builtin id) r)(hg:Gl X x)(hm:X.mg x=none)(hv:bootBuiltins x=some (.builtin id))(ha:PA X (e::es) t)(hn:x≠"__name__":=by decide)(bG:(x==("__debug__":Str))=false:=by decide)
  (he:starEach (e::es) X.env=(false,eval e X.env)::starEach es X.env:=by rfl)(bo:(backTo pos (starEach es X.env)).any (·.1)=false:=by rfl):PE X (.Call (.Name x p) (e::es) [] pos) (IW r t):=by
 intro pins s σ H Q I h;refine xO (oV I hg hm hv ?_ hn bG);exact PyProof.Rows.callWith_builtin1 (aP (ha pos pins s σ H _ I h) fun us s1⟨vs,H1,I1,r1,q1⟩=>hc pins s1 σ H1 vs us Q I1 r1 q1) he bo
theorem sZ(hc:eX X (.type T) r)(hg:Gl X x)(hm:X.mg x=none)(hv:bootBuiltins x=some (.type T))(ha:PA X (e::es) t)(hn:x≠"__name__":=by decide)(bG:(x==("__debug__":Str))=false:=by decide)
  (he:starEach (e::es) X.env=(false,eval e X.env)::starEach es X.env:=by rfl)(bo:(backTo pos (starEach es X.env)).any (·.1)=false:=by rfl):PE X (.Call (.Name x p) (e::es) [] pos) (IW r t):=by
 intro pins s σ H Q I h;refine xO (oV I hg hm hv ?_ hn bG);exact uz (aP (ha pos pins s σ H _ I h) fun us s1⟨vs,H1,I1,r1,q1⟩=>hc pins s1 σ H1 vs us Q I1 r1 q1) he bo
end
end L2
namespace HT
open PySem PyProof.Rows
section
variable{prog:Program}{w:World}{A:Around}{E:YY}{s:Shared}
def dU(n d:Nat):Option Int→Nat
 |none=>d
 |some v=>if v<0 then(v+(n:Int)).toNat else min v.toNat n
theorem DE(n d:Nat):dU n d none=d:=rfl
theorem U8(n d k:Nat):dU n d (some (k:Int))=min k n:=by show(if k<0 then(k+(n:Int)).toNat else min (k:Int).toNat n)=min k n;rfl
end
end HT
namespace L2
open PySem PySem.Spec PyProof.Rows
abbrev TO:=St→Hp→(Option Int→Hp→Prop)→Prop
def PO(X:Cx)(e:Option Expr)(t:TO):Prop:=
 ∀(pins:YW)(s:Shared)(σ:St)(H:Hp)(Q:Option Int→Hp→Prop),Inv X pins σ H s→t σ H Q→
  wpAny (model X.prog X.w) X.A (evalPart e X.env) (fun u s'=>∃o H',Inv X pins σ H' s'∧IsPart u o∧Q o H') X.xe s
def U0:TO:=fun _ H Q=>Q none H
def Qy(t:TE):TO:=fun σ H Q=>t σ H fun x H1=>∃i,x= .int i∧Q (some i) H1
section
variable{X:Cx}{e:Expr}{te:TE}{lo hi:Option Expr}{tl th:TO}{pos p2:Pos}
theorem M8:PO X none U0:=by intro pins s σ H Q I h;rw[evalPart_none];exact aI ⟨none,H,I, .none,h⟩
theorem Lc(h:PE X e te):PO X (some e) (Qy te):=by intro pins s σ H Q I hw;rw[evalPart_some];refine aP (h pins s σ H _ I hw) fun u s1 hh=>?_;obtain⟨x,H1,I1,r1,q1⟩:=hh;obtain⟨i,rfl,q⟩:=q1;obtain⟨t,rfl⟩:=r1;exact⟨some i,H1,I1, .int i t,q⟩
def IZ(X:Cx)(r:V→Option Int→Option Int→Hp→VK→Prop):Prop:=
 ∀(pins:YW)(s:Shared)(σ:St)(H:Hp)(x:V)(v vl vu:Value)(lo hi:Option Int)(sl:Addr)(Q:VK),Inv X pins σ H s→RelV x v→s.heap.IsSliceOf sl vl vu .none→IsPart vl lo→IsPart vu hi→r x lo hi H Q→
  ∃T id,typeLookup (.type T) "__getitem__"=pure (some (.builtin id))∧s.TypeIs v T∧wpAny (model X.prog X.w) X.A (getItem v (.ref sl)) (EP X pins σ Q) X.xe s
def LW(r:V→Option Int→Option Int→Hp→VK→Prop)(te:TE)(tl th:TO):TE:=fun σ H Q=>te σ H fun x H1=>tl σ H1 fun l H2=>th σ H2 fun u H3=>r x l u H3 Q
theorem Gd(hr:IZ X r)(he:PE X e te)(hl:PO X lo tl)(hu:PO X hi th):PE X (.Subscript e (.Slice lo hi none p2) pos) (LW r te tl th):=by intro pins s σ H Q I h;refine Subscript_ (aP (he pins s σ H _ I h) fun v s1 hh=>?_);obtain⟨x,H1,I1,r1,q1⟩:=hh;refine wpAny_Slice (aP (hl pins s1 σ H1 _ I1 q1) fun vl s2⟨l,H2,I2,pl,q2⟩=>aP (hu pins s2 σ H2 _ I2 q2) fun vu s3⟨u,H3,I3,pu,q3⟩=>?_);rw[evalPart_none];refine aI ?_;have I4:Inv X pins σ H3 {s3 with heap:=s3.heap.push {cls:= .type "slice",data:= .fields #[vl,vu, .none]}}:=I3.kept fun b ob q=>bJ _ q;obtain⟨T,id,hT,ht,hg⟩:=hr pins {s3 with heap:=s3.heap.push {cls:= .type "slice",data:= .fields #[vl,vu, .none]}} σ H3 x v vl vu l u s3.heap.objs.size Q I4 r1 (Heap.IsSliceOf.new ..) pl pu q3;exact tail_any ht hT hg (by with_unfolding_all rfl)
def oO(xs:List V)(lo hi:Option Int):List V:=(xs.drop (HT.dU xs.length 0 lo)).take (HT.dU xs.length xs.length hi-HT.dU xs.length 0 lo)
theorem SD(xs:List V)(lo hi:Option Int):(oO xs lo hi).length≤xs.length:=by unfold oO;grind
end
def jm(n:Nat)(i:Int):Option Nat:=if 0≤i then(if i<n then some i.toNat else none)else if-(n:Int)≤i then some (i+n).toNat else none
def cJ{α:Type}(xs:List α)(i:Int):Option α:=(jm xs.length i).bind fun j=>xs[j]?
theorem DQ(h:jm n i=some j):seqIndex? i n=some j∧j<n∧-(n:Int)≤i∧i<n:=by
 unfold jm at h;by_cases h0:0≤i
 ·rw[ag h0]at h;by_cases h1:i<n
  ·rw[ag h1]at h;have e:i.toNat=j:=eE h;exact⟨by rw[seqIndex_of h0 h1,e],by lia,by lia,h1⟩
  ·simp_all
 ·rw[af h0]at h;by_cases h1:-n≤i
  ·rw[ag h1]at h;have e:(i+n).toNat=j:=eE h;exact⟨by rw[seqIndex_neg (by simp_all) h1,e],by lia,h1,by lia⟩
  ·simp_all
theorem Hk(h:cJ xs i=some v):∃j,seqIndex? i xs.length=some j∧xs[j]?=some v∧j<xs.length∧-(xs.length:Int)≤i∧i<xs.length:=by
 unfold cJ at h;cases e:jm xs.length i with
 |none=>rw[e]at h;cases h
 |some j=>rw[e]at h;obtain⟨h1,h2,h3,h4⟩:=DQ e;simp_all
def tO(b:Expr):Prop:=∀o i,subscripted b false o i=operate [o,i] (getItem o i)
def A4(X:Cx)(r:R2):Prop:=
 ∀(value slice:Expr)(pins:YW)(s:Shared)(σ:St)(H:Hp)(x y:V)(v u:Value)(Q:VK),Inv X pins σ H s→RelV x v→RelV y u→r x y H Q→
  subscripted slice false v u=operate [v,u] (getItem v u)→wpAny (model X.prog X.w) X.A (subscriptTail value slice v u) (EP X pins σ Q) X.xe s
def yJ(X:Cx)(id:String)(r:V→List V→Hp→VK→Prop):Prop:=
 ∀(pins:YW)(s:Shared)(σ:St)(H:Hp)(x:V)(xs:List V)(v:Value)(us:List Value)(Q:VK),Inv X pins σ H s→RelV x v→Vals xs us→r x xs H Q→
  wpAny (model X.prog X.w) X.A (call (.builtin id) (v::us)) (EP X pins σ Q) X.xe s
section
variable{X:Cx}{a b:Expr}{ta tb:TE}{pos:Pos}
theorem sP(hr:A4 X r)(ha:PE X a ta)(hb:PE X b tb)(hs:tO b):PE X (.Subscript a b pos) (wA r ta tb):=by intro pins s σ H Q I h;exact Subscript_ (AM ha hb I h fun v u s2 x y H2 I2 rx ry q=>hr a b pins s2 σ H2 x y v u Q I2 rx ry q (hs _ _))
def Qm(K:YX):R2:=fun x y H Q=>∃p xs i v,x= .ref p∧y= .int i∧aU K H p xs∧cJ xs i=some v∧Q v H
def Oe(K:YX):R2:=fun x y H Q=>∃p xs i v,x= .ref p∧y= .int i∧dD K H p xs∧cJ xs i=some v∧Q v H
theorem zX:A4 X (Qm X.K):=by
 intro value slice pins s σ H x y v u Q I rx ry h hs;obtain⟨p,xs,i,z,rfl,rfl,hq,he,q⟩:=h;cases rx;obtain⟨t,rfl⟩:=ry;obtain⟨ao,r,pl,hz⟩:=I.list hq;obtain⟨j,h1,h2,h3,h4,h5⟩:=Hk he;obtain⟨w,ew,bA⟩:=r.get h2;have hl:=r.length;have hn:=tV;have fin:EP X pins σ Q w s:=⟨z,H,I,bA,q⟩;by_cases h0:0≤i
 ·have hj:i.toNat=j:=by rw[seqIndex_of h0 h5]at h1;simp_all
  exact item_listR pl.isList h0 (by lia) (by rw[hj];simpa using ew) fin hs
 ·have hj:(i+(ao.toArray.size:Int)).toNat=j:=by rw[seqIndex_neg (by simp_all) h4]at h1;simp_all
  exact subscriptTail_builtinR pl.isList.typeIs slot_list_getitem.lookup
   (wpAny_getItem_list_neg pl.isList (by simp_all) (by rw[c7]<;>simp_all) (by lia) (by rw[hj];simpa using ew) ⟨rfl,fin⟩) hs
theorem EJ:A4 X (Oe X.K):=by
 intro value slice pins s σ H x y v u Q I rx ry h hs;obtain⟨p,xs,i,z,rfl,rfl,hq,he,q⟩:=h;cases rx;obtain⟨t,rfl⟩:=ry;obtain⟨ao,r,pl,hz⟩:=I.tuple hq;obtain⟨j,h1,h2,h3,h4,h5⟩:=Hk he;obtain⟨w,ew,bA⟩:=r.get h2;have hl:=r.length;have hn:=tV;have fin:EP X pins σ Q w s:=⟨z,H,I,bA,q⟩;exact subscriptTail_builtinR pl.typeIs slot_tuple_getitem.lookup
  (getItem_tuple pl (by lia) (by lia) (by rw[c7,←hl];exact h1) (by simpa using ew) ⟨rfl,fin⟩) hs
theorem Su(ao:List Value)(n j:Nat)(u:Value):Obj.mapSeq (·.setIfInBounds j u) {cls:= .type "list",data:= .seq ao.toArray n}={cls:= .type "list",data:= .seq (ao.set j u).toArray n}:=by simp[Obj.mapSeq]
theorem Inv.lst(I:Inv X pins σ H s)(h:H p=some (.lst xs)):
  ∃(ao:List Value)(n:Nat),Vals xs ao∧s.heap.get? p=some {cls:= .type "list",data:= .seq ao.toArray n}∧xs.length≤sizeLine:=by
 obtain⟨z,ao,n,r,e⟩:=I.aG p _ h;simp[*]
theorem Inv.Ws{ao mB:List Value}(I:Inv X pins σ H s)(h:H p=some (.lst xs))(ho:s.heap.get? p=some {cls:= .type "list",data:= .seq ao.toArray n})(hf:f {cls:= .type "list",data:= .seq ao.toArray n}={cls:= .type "list",data:= .seq mB.toArray n'})(r:Vals ys mB)(hz:ys.length≤sizeLine)(t:Nat):
  Inv X pins σ (upd H p (.lst ys)) {s with heap:=s.heap.update p f,toks:=t}:=by
 have e:(s.heap.update p f).get? p=some {cls:= .type "list",data:= .seq mB.toArray n'}:=by rw[xP f ho (by rw[hf]<;>rfl),hf]
 refine I.write (by rw[h];trivial) (.inl rfl) (fun b u hb q=>(uB _ _ (iU hb)).trans q) ⟨_,e⟩ ?_;exact⟨hz,mB,n',r,e⟩
def Od:V→V→V→Hp→(Hp→Prop)→Prop:=fun o i v H Q=>∃p xs k j,o= .ref p∧i= .int k∧H p=some (.lst xs)∧jm xs.length k=some j∧Q (upd H p (.lst (xs.set j v)))
theorem set_list:AG X Od:=by
 intro pins s σ H o i v ov iv u Q I ro ri rv h;obtain⟨p,xs,k,j,rfl,rfl,hp,hj,q⟩:=h;cases ro;obtain⟨t,rfl⟩:=ri;obtain⟨ao,n,r,ho,hz⟩:=I.lst hp;obtain⟨h1,h2,h3,h4⟩:=DQ hj;have hl:=r.length;have hn:=tV;have I':Inv X pins σ (upd H p (.lst (xs.set j v))) {s with heap:=s.heap.update p (Obj.mapSeq (·.setIfInBounds j u))}:=
  I.Ws hp ho (Su ao n j u) (r.set rv j) (by rw[gO];exact hz) s.toks
 by_cases h0:0≤k
 ·have hk:k.toNat=j:=by
   rw[seqIndex_of h0 h4]at h1
   lia
  exact W.ki_setAt ho h0 (by lia) (by rw[c7,←hl];exact h4) (by rw[hk];exact⟨_,I',q⟩)
 ·have hk:(k+(ao.toArray.size:Int)).toNat=j:=by rw[seqIndex_neg (by simp_all) h3]at h1;simp_all
  exact W.ki_setBack ho (by simp_all) (by rw[c7,←hl];exact h3) (by lia) (by rw[hk];exact⟨_,I',q⟩)
theorem Wm(lo hi:Option Int)(n:Nat):(sliceBounds lo hi none n).1=((HT.dU n 0 lo:Nat):Int)∧(sliceBounds lo hi none n).2.1=((HT.dU n n hi:Nat):Int)∧(sliceBounds lo hi none n).2.2=1:=by
 refine⟨?_,?_,rfl⟩
 ·cases lo with
  |none=>simp[sliceBounds,HT.dU]
  |some i=>simp only[sliceBounds,HT.dU,Option.getD_none,show(1:Int)>0 by decide,dR];grind
 ·cases hi with
  |none=>simp[sliceBounds,HT.dU]
  |some i=>
   simp only[sliceBounds,HT.dU,Option.getD_none,show(1:Int)>0 by decide,dR]
   lia
theorem OI(ao:List Value)(lo hi:Option Int):slicePick ao.toArray lo hi none=((ao.drop (HT.dU ao.length 0 lo)).take (HT.dU ao.length ao.length hi-HT.dU ao.length 0 lo)).toArray:=by obtain⟨h1,h2,h3⟩:=Wm lo hi ao.toArray.size;unfold slicePick;rw[h1,h2,h3];simp only[sliceRange_one,pick_run,c7]<;>rfl
def Rh(K:YX):V→Option Int→Option Int→Hp→VK→Prop:=fun x lo hi H Q=>∃a xs,x= .ref a∧aU K H a xs∧∀p,H p=none→Q (.ref p) (upd H p (.lst (oO xs lo hi)))
theorem FC:IZ X (Rh X.K):=by intro pins s σ H x v vl vu lo hi sl Q I rx hs pl pu h;obtain⟨a,xs,rfl,hx,q⟩:=h;cases rx;obtain⟨ao,r,ht,hz⟩:=I.list hx;have hlen:=r.length;refine⟨"list",_,slot_list_getitem.lookup,ht.isList.typeIs,?_⟩;refine wpAny_getItem_list_slice ht.isList hs pl pu .none (by simp) ?_ (by rw[c7]<;>simp_all);rw[OI,←hlen];refine⟨.ref s.heap.objs.size,_,I.laid (fun b ob q=>bJ _ q) (aY _) ?_,rfl,q _ (I.aG.fresh (aY _))⟩;exact⟨cx (SD xs lo hi) hz,_,0,(r.drop (HT.dU xs.length 0 lo)).take (HT.dU xs.length xs.length hi-HT.dU xs.length 0 lo),cy _ rfl⟩
def gZ:V→Bool
 | .a8=>true
 | .bl _=>true
 | .int _=>true
 | .str _=>true
 |_=>false
def i9:V→V→Bool
 | .a8, .a8=>true
 | .bl a, .bl b=>a==b
 | .bl a, .int b=>(if a then 1 else 0)==b
 | .int a, .bl b=>a==(if b then 1 else 0)
 | .int a, .int b=>a==b
 | .str a, .str b=>a==b
 |_,_=>false
theorem RU(ry:RelV y u)(rx:RelV x v)(fy:gZ y=true)(fx:gZ x=true):SeqAt.EqAt A s u v (i9 y x):=by
 cases y with
 |a8=>
  cases ry;cases x with
  |a8=>cases rx;exact SeqAt.EqAt.same _
  |bl b=>cases rx;exact SeqAt.EqAt.none_bool b
  |int b=>obtain⟨t,rfl⟩:=rx;exact SeqAt.EqAt.none_int b t
  |str b=>obtain⟨t,rfl⟩:=rx;exact SeqAt.EqAt.none_str b t
  |_=>exact absurd (fx) dG
 |bl a=>
  cases ry;cases x with
  |a8=>cases rx;exact SeqAt.EqAt.bool_none a
  |bl b=>cases rx;exact SeqAt.EqAt.bool_bool a b
  |int b=>obtain⟨t,rfl⟩:=rx;exact SeqAt.EqAt.bool_int a b t
  |str b=>obtain⟨t,rfl⟩:=rx;exact SeqAt.EqAt.bool_str a b t
  |_=>exact absurd (fx) dG
 |int a=>
  obtain⟨t',rfl⟩:=ry;cases x with
  |a8=>cases rx;exact SeqAt.EqAt.int_none a t'
  |bl b=>cases rx;exact SeqAt.EqAt.int_bool a t' b
  |int b=>obtain⟨t,rfl⟩:=rx;exact SeqAt.EqAt.int_int a t' b t
  |str b=>obtain⟨t,rfl⟩:=rx;exact SeqAt.EqAt.int_str a t' b t
  |_=>exact absurd (fx) dG
 |str a=>
  obtain⟨t',rfl⟩:=ry;cases x with
  |a8=>cases rx;exact SeqAt.EqAt.str_none a t'
  |bl b=>cases rx;exact SeqAt.EqAt.str_bool a t' b
  |int b=>obtain⟨t,rfl⟩:=rx;exact SeqAt.EqAt.str_int a t' b t
  |str b=>obtain⟨t,rfl⟩:=rx;exact SeqAt.EqAt.str_str a t' b t
  |_=>exact absurd (fx) dG
 |_=>exact absurd (fy) dG
def kW(x:V)(u:Value):Bool:=match u with
 | .none=>i9 .a8 x
 | .bool b=>i9 (.bl b) x
 | .int i _=>i9 (.int i) x
 | .str z _=>i9 (.str z) x
 |_=>false
theorem xk(r:RelV y u)(f:gZ y=true):kW x u=i9 y x:=by
 cases y with
 |a8=>cases r;rfl
 |bl b=>cases r;rfl
 |int i=>obtain⟨t,rfl⟩:=r;rfl
 |str z=>obtain⟨t,rfl⟩:=r;rfl
 |_=>exact absurd (f) dG
theorem zV:∀{xs:List V}{us:List Value},Vals xs us→xs.all gZ=true→us.any (kW x)=xs.any fun y=>i9 y x
 |_,_, .nil,_=>rfl
 |y::xs,u::us, .cons r t,f=>by rw[xQ,dq]at f;rw[rg,rg,xk r f.1,zV t f.2]
theorem vP(rx:RelV x v)(fx:gZ x=true):∀{xs:List V}{us:List Value},Vals xs us→xs.all gZ=true→∀u∈us,SeqAt.EqAt A s u v (kW x u)
 |_,_, .nil,_=>fun u hu=>by cases hu
 |y::xs,u::us, .cons r t,f=>fun u' hu=>by
  rw[xQ,dq]at f;rcases a_.mp hu with rfl|hu
  ·rw[xk r f.1];exact RU r rx f.1 fx
  ·exact vP rx fx t f.2 u' hu
def wz(x:V)(xs:List V):Bool:=xs.any fun y=>i9 y x
def Xn(K:YX)(neg:Bool):R2:=fun x y H Q=>∃p xs,y= .ref p∧(aU K H p xs∨dD K H p xs)∧gZ x=true∧xs.all gZ=true∧Q (.bl (if neg then !wz x xs else wz x xs)) H
theorem QW:cR X (compareOp .NotIn) (Xn X.K true):=by
 intro pins s σ H x y v u Q I rx ry h;obtain⟨p,xs,rfl,hq,fx,fs,q⟩:=h;cases ry;rcases hq with hq|hq
 ·obtain⟨ao,r,pl,hz⟩:=I.list hq;refine SeqAt.notIn_listAt (kW x) pl.isList (fun w hw=>vP rx fx r fs w (by simpa using hw)) ⟨.bl _,H,I,rfl,?_⟩;rwa[show ao.toArray.any (kW x)=ao.any (kW x) by simp,zV r fs]
 ·obtain⟨ao,r,pl,hz⟩:=I.tuple hq;refine SeqAt.notIn_tupleAt (kW x) pl (fun w hw=>vP rx fx r fs w (by simpa using hw)) ⟨.bl _,H,I,rfl,?_⟩;rwa[show ao.toArray.any (kW x)=ao.any (kW x) by simp,zV r fs]
theorem Eg:eX X (.builtin "len") (fun xs H Q=>∃p ys,xs=[.ref p]∧(aU X.K H p ys∨dD X.K H p ys)∧Q (.int ys.length) H):=by
 intro pins s σ H xs us Q I r h;obtain⟨p,ys,rfl,hq,q⟩:=h;obtain⟨u,rfl,rx⟩:=vals1 r;cases rx;have hn:=tV;rcases hq with hq|hq
 ·obtain⟨ao,r',pl,hz⟩:=I.list hq;have hlen:=r'.length;exact Calls.call_len_list pl.isList (by simp<;>lia) ⟨.int ys.length,H,I.tok _,⟨s.toks+1,by rw[c7,hlen]⟩,q⟩
 ·obtain⟨ao,r',pl,hz⟩:=I.tuple hq;have hlen:=r'.length;exact len_tuple pl (by simp<;>lia) ⟨.int ys.length,H,I.tok _,⟨s.toks+1,by rw[c7,hlen]⟩,q⟩
theorem Th:eX X (.type "list") (fun xs H Q=>∃p ys,xs=[.ref p]∧(aU X.K H p ys∨dD X.K H p ys)∧∀l,H l=none→Q (.ref l) (upd H l (.lst ys))):=by
 intro pins s σ H xs us Q I r h;obtain⟨p,ys,rfl,hq,q⟩:=h;obtain⟨u,rfl,rx⟩:=vals1 r;cases rx;have fin:∀(ao:List Value),Vals ys ao→ys.length≤sizeLine→∀(h':Heap)(c':Nat),(∀b o',s.heap.get? b=some o'→h'.get? b=some o')→
   h'.get? s.heap.objs.size=some {cls:= .type "list",dict:=none,data:= .seq ao.toArray c',slots:=#[]}→EP X pins σ Q (.ref s.heap.objs.size) {s with heap:=h'}:=fun ao r' hz h' c' kp e=>
  ⟨.ref s.heap.objs.size,_,I.laid kp (aY _) (show cw X.prog X.w _ h' _ (.lst ys)from⟨hz,ao,c',r',e⟩),rfl,q _ (I.aG.fresh (aY _))⟩
 rcases hq with hq|hq
 ·obtain⟨ao,r',pl,hz⟩:=I.list hq;have hlen:=r'.length;obtain⟨o,ho,hc,n,hd⟩:=pl.isList;exact call_list_seq p (.inl rfl) ho hc hd (fun h' c' kp e=>fin ao r' hz h' c' kp e) (by simp<;>simp_all)
 ·obtain⟨ao,r',pl,hz⟩:=I.tuple hq;have hlen:=r'.length;obtain⟨o,ho,hc,n,hd⟩:=pl;exact call_list_seq p (.inr rfl) ho hc hd (fun h' c' kp e=>fin ao r' hz h' c' kp e) (by simp<;>simp_all)
def F8(K:YX)(T:String)(x:V)(H:Hp):Prop:=match x with
 | .str _=>T="str"
 | .int _=>T="int"
 | .ref p=>(T="list"∧∃xs,aU K H p xs)∨(T="tuple"∧∃o,K.lookup p=some o∧o.cls= .type "tuple"∧o.dict=none)∨
   (T="dict"∧((∃ab,H p=some (.dK ab))∨∃ab,H p=some (.dT ab)))∨(T="set"∧∃S n,H p=some (.set S n))
 |_=>False
theorem V6(I:Inv X pins σ H s)(r:RelV x v)(ty:F8 X.K T x H):
  s.TypeIs v T∧∀a,v= .ref a→∃ob,s.heap.get? a=some ob∧ob.dict=none:=by
 cases x with
 |str z=>obtain⟨t,rfl⟩:=r;cases (ty);exact⟨typeIs_str s z t,fun _ e=>nomatch e⟩
 |int i=>obtain⟨t,rfl⟩:=r;cases (ty);exact⟨typeIs_int s i t,fun _ e=>nomatch e⟩
 |ref p=>
  cases r;rcases ty with⟨rfl,xs,hq⟩|⟨rfl,o,hk,hc,hd⟩|⟨rfl,hk⟩|⟨rfl,S,n,hk⟩
  ·obtain⟨ao,_,pl,_⟩:=I.list hq;refine⟨pl.isList.typeIs,fun a e=>?_⟩;cases e;obtain⟨o,n,e,c,hd,_⟩:=pl;simp[*]
  ·refine⟨⟨o,I.iy p o hk,hc⟩,fun a e=>?_⟩;cases e;exact⟨o,I.iy _ o hk,hd⟩
  ·have z:∃o,s.heap.get? p=some o∧o.ExactDict:=by
    rcases hk with⟨ab,hk⟩|⟨ab,hk⟩
    ·obtain⟨_,_,_,_,o,_,_,e,ex,_⟩:=I.aG p _ hk;simp[*]
    ·obtain⟨_,_,_,_,o,_,_,e,ex,_⟩:=I.aG p _ hk;grind
   obtain⟨o,e,ex⟩:=z;refine⟨⟨o,e,ex.1⟩,fun a e2=>?_⟩;cases e2;exact⟨o,e,ex.2.1⟩
  ·obtain⟨o,_,_,_,e,ex,_⟩:=I.aG p _ hk;refine⟨⟨o,e,ex.1⟩,fun a e2=>?_⟩;cases e2;exact⟨o,e,ex.2.1⟩
 |_=>exact False.elim ty
def SG(K:YX)(T:String)(r:V→List V→Hp→VK→Prop)(to:TE)(t:TA):TE:=fun σ H Q=>to σ H fun x H1=>F8 K T x H1∧t σ H1 fun xs H2=>r x xs H2 Q
variable{o e:Expr}{es:List Expr}{to:TE}{t:TA}{name:Str}{apos eZ:Pos}{T id:String}{r:V→List V→Hp→VK→Prop}
theorem sf(pa:PlainAttrs T)(slot:Slot T name id)(hty:typeOf (.builtin id)=pure (.type "method_descriptor"))(hm:yJ X id r)(ho:PE X o to)(ha:PA X (e::es) t)
  (dW:attributeBase o name X.env (eval o X.env)= eval o X.env:=by rfl)
  (gK:((backTo eZ (starEach (e::es) X.env)).all (fun x=>!x.1)&&(backToKw eZ (keywordEach [] X.env)).all (fun x=>x.1.isSome)
   &&decide ((e::es).length+([]:List Keyword).length+(if([]:List Keyword).isEmpty then 0 else 1)<30))=true:=by rfl)
  (dX:(apos.endLine==eZ.line)=true:=by rfl)(hs:starEach (e::es) X.env=(false,eval e X.env)::starEach es X.env:=by rfl)(hplain:(backTo eZ (starEach es X.env)).any (·.1)=false:=by rfl):
  PE X (.Call (.Attribute o name apos) (e::es) [] eZ) (SG X.K T r to t):=by
 intro pins s σ H Q I h;refine wpAny_Call_method_late dW gK dX rfl (aP (ho pins s σ H _ I h) fun v s1 hh=>?_);obtain⟨x,H1,I1,r1,ty,q1⟩:=hh;obtain⟨h1,h2⟩:=V6 I1 r1 ty;refine⟨T,id,pa,slot,hty,h1,h2,?_⟩;have hA:=ha eZ pins s1 σ H1 _ I1 q1;rw[hs]at hA⊢;refine Calls.callWith_builtin (by show(false||(backTo eZ (starEach es X.env)).any (·.1))=false;rw[hplain]<;>rfl) (Calls.evalArgs_plain ?_);exact aP hA fun us s2⟨vs,H2,I2,r2,q2⟩=>hm pins s2 σ H2 x vs v us Q I2 r1 r2 q2
end
def Ax(X:Cx)(id:String)(r:V→List V→Hp→VK→Prop):Prop:=
 ∀(pins:YW)(s:Shared)(σ:St)(H:Hp)(x:V)(xs:List V)(v:Value)(us:List Value)(Q:VK),Inv X pins σ H s→RelV x v→Vals xs us→r x xs H Q→
  wpAny (model X.prog X.w) X.A (call (.builtin id) (v::us)) (EP X pins σ Q) X.xe s
theorem Vals.one:∀{x:V}{us:List Value},Vals [x] us→∃u,us=[u]∧RelV x u
 |_,_, .cons r .nil=>⟨_,rfl,r⟩
theorem Vals.eraseIdx:∀{xs:List V}{us:List Value}(i:Nat),Vals xs us→Vals (xs.eraseIdx i) (us.eraseIdx i)
 |_,_,_, .nil=> .nil
 |_,_,0, .cons _ t=>t
 |_,_,i+1, .cons r t=> .cons r (Vals.eraseIdx i t)
theorem Vals.rep(h:Vals xs us):∀k:Nat,Vals (replicate k xs).flatten (replicate k us).flatten
 |0=> .nil
 |k+1=>by rw[uC,uC,List.flatten_cons,List.flatten_cons];exact Vals.append h (Vals.rep h k)
theorem foldl_rep(ao:List Value):∀(k:Nat)(acc:List Value),
  List.foldl (fun x1 x2=>x1++x2) acc.toArray (replicate k ao.toArray)=(acc++(replicate k ao).flatten).toArray
 |0,acc=>by simp
 |k+1,acc=>by
  have e:acc.toArray++ao.toArray=(acc++ao).toArray:=by simp
  have e2:(acc++ao)++(replicate k ao).flatten=acc++(replicate (k+1) ao).flatten:=by grind
  rw[←e2,←foldl_rep ao k (acc++ao),←e,uC,gP]
section
variable{X:Cx}{pins:YW}{σ:St}{H:Hp}{s:Shared}{l b:Addr}{xs ys zs:List V}
theorem Inv.ze{ao mB:List Value}(I:Inv X pins σ H s)(hH:H l=some (.lst xs))(e:s.heap.get? l=some {cls:= .type "list",data:= .seq ao.toArray n})(hf:f ao.toArray=mB.toArray)(hv:Vals ys mB)(hz:ys.length≤sizeLine):
  Inv X pins σ (upd H l (.lst ys)) {s with heap:=s.heap.update l (Obj.mapSeq f),toks:=t'}:=by
 have q:=PySem.IsL.update e f;rw[hf]at q;refine I.write (by rw[hH];exact trivial) (.inl rfl) (fun b' u hb hu=>(uB s.heap (Obj.mapSeq f) (iU hb)).trans hu) ⟨_,q⟩ ?_;exact⟨hz,mB,_,hv,q⟩
theorem Inv.Ek(I:Inv X pins σ H s)(hv:Vals ys ao)(hz:ys.length≤sizeLine):
  Inv X pins σ (upd H s.heap.objs.size (.lst ys)) {s with heap:=s.heap.push {cls:= .type "list",data:= .seq ao.toArray},toks:=t'}:=
 I.laid (fun _ _ q=>bJ _ q) (aY _) ⟨hz,ao,0,hv,cy _ rfl⟩
theorem Inv.fresh(I:Inv X pins σ H s):H s.heap.objs.size=none:=I.aG.fresh (aY _)
theorem Inv.pF(I:Inv X pins σ H s)(hH:H l=some (.lst xs)):xs.length≤sizeLine∧∃(ao:List Value)(n:Nat),Vals xs ao∧xs.length=ao.length∧s.heap.get? l=some {cls:= .type "list",data:= .seq ao.toArray n}:=by obtain⟨z,ao,n,r,e⟩:=I.aG l _ hH;exact⟨z,ao,n,r,r.length,e⟩
theorem Ik(h:n≤sizeLine):Builtin.List.listTooLong n=false:=by unfold Builtin.List.listTooLong;simp[*]
end
section
variable{X:Cx}
def X0:V→List V→Hp→VK→Prop:=fun x vs H Q=>∃l xs y,x= .ref l∧vs=[y]∧H l=some (.lst xs)∧xs.length<sizeLine∧Q .a8 (upd H l (.lst (xs++[y])))
theorem T7:Ax X "list.append" X0:=by intro pins s σ H x vs v us Q I rx rv h;obtain⟨l,xs,y,rfl,rfl,hH,hz,q⟩:=h;cases rx;obtain⟨u,rfl,ru⟩:=rv.one;obtain⟨z,ao,n,r,hl,e⟩:=I.pF hH;refine rh F.slot_list_append ⟨_,e,rfl⟩ F.entry_list_append (F.args_list_append_2 _ _) (PySem.list_append l ao.toArray n u (by rw[c7];simp_all)) ⟨e,?_⟩;refine⟨.a8,_,I.ze hH e (by simp) (r.append (.cons ru .nil)) ?_,rfl,q⟩;rw[cZ,List.length_singleton];assumption
def Qc:V→List V→Hp→VK→Prop:=fun x vs H Q=>∃l b xs zs,x= .ref l∧vs=[.ref b]∧H l=some (.lst xs)∧H b=some (.lst zs)∧xs.length+zs.length≤sizeLine∧Q .a8 (upd H l (.lst (xs++zs)))
theorem Us:Ax X "list.extend" Qc:=by
 intro pins s σ H x vs v us Q I rx rv h;obtain⟨l,b,xs,zs,rfl,rfl,hH,hB,hz,q⟩:=h;cases rx;obtain⟨u,rfl,ru⟩:=rv.one;cases ru;obtain⟨z,ao,n,r,hl,e⟩:=I.pF hH;obtain⟨z2,jQ,n2,r2,jR,e2⟩:=I.pF hB;have hsz:ao.toArray.size+jQ.toArray.size≤sizeLine:=by rw[c7,c7];simp_all
 have Bn:¬(!ao.toArray.isEmpty&&Builtin.List.listTooLong (ao.toArray.size+jQ.toArray.size))=true:=by rw[Ik hsz,JT];simp
 refine rh F.slot_list_extend ⟨_,e,rfl⟩ F.entry_list_extend (F.args_list_extend_2 _ _)
  (AutoSeq1.list_extend_list_list_0 l ao.toArray n b jQ.toArray n2 Bn (by rw[c7];simp_all) (by lia)) ⟨e,e2,?_⟩
 refine⟨.a8,_,I.ze hH e (by simp) (r.append r2) ?_,rfl,q⟩;simp_all
def QC:V→List V→Hp→VK→Prop:=fun x vs H Q=>∃l xs i k y,x= .ref l∧vs=[.int i]∧H l=some (.lst xs)∧-(2^63)≤i∧i<2^63∧seqIndex? i xs.length=some k∧xs[k]?=some y∧Q y (upd H l (.lst (xs.eraseIdx k)))
theorem Ry:Ax X "list.pop" QC:=by
 intro pins s σ H x vs v us Q I rx rv h;obtain⟨l,xs,i,k,y,rfl,rfl,hH,h1,h2,hk,hy,q⟩:=h;cases rx;obtain⟨u,rfl,ru⟩:=rv.one;obtain⟨t,rfl⟩:=ru;obtain⟨z,ao,n,r,hl,e⟩:=I.pF hH;obtain⟨w,hw,bA⟩:=r.get hy;refine rh F.slot_list_pop ⟨_,e,rfl⟩ F.entry_list_pop (F.args_list_pop_2 _ _)
  (MeetsSeq.list_pop_at l ao.toArray n i t k w (fitsIndex_both h1 h2) (by rw[c7,←hl];exact hk) (by rw[←om];exact hw) (by rw[c7];simp_all)) ⟨e,?_⟩
 refine⟨y,_,I.ze hH e ?_ (r.eraseIdx k) ?_,bA,q⟩
 ·simp
 ·grind
def Xl:R2:=fun x y H Q=>∃l b xs zs,x= .ref l∧y= .ref b∧H l=some (.lst xs)∧H b=some (.lst zs)∧xs.length+zs.length≤sizeLine∧∀p,H p=none→Q (.ref p) (upd H p (.lst (xs++zs)))
theorem LH:cR X (binaryOp .Add) Xl:=by
 intro pins s σ H x y v u Q I rx ry h;obtain⟨l,b,xs,zs,rfl,rfl,hH,hB,hz,q⟩:=h;cases rx;cases ry;obtain⟨z,ao,n,r,hl,e⟩:=I.pF hH;obtain⟨z2,jQ,n2,r2,jR,e2⟩:=I.pF hB;refine PySem.P.add_list e e2 ?_ (by rw[c7,c7];simp_all);have ea:ao.toArray++jQ.toArray=(ao++jQ).toArray:=by simp
 rw[ea];exact⟨.ref _,_,I.Ek (r.append r2) (by rw[cZ];omega),rfl,q _ I.fresh⟩
def WH:R2:=fun x y H Q=>∃l k xs,x= .ref l∧y= .int k∧H l=some (.lst xs)∧-(2^63)≤k∧k<2^63∧xs.length*k.toNat≤sizeLine∧
 ∀p,H p=none→Q (.ref p) (upd H p (.lst (replicate k.toNat xs).flatten))
theorem len_rep(xs:List α)(k:Nat):(replicate k xs).flatten.length=k*xs.length:=by simp_all
theorem CK:cR X (binaryOp .Mult) WH:=by
 intro pins s σ H x y v u Q I rx ry h;obtain⟨l,k,xs,rfl,rfl,hH,h1,h2,hz,q⟩:=h;cases rx;obtain⟨t,rfl⟩:=ry;obtain⟨z,ao,n,r,hl,e⟩:=I.pF hH;have hlen:ao.toArray.size*k.toNat≤sizeLine:=by rw[c7,←hl];exact hz
 have hcap:¬ao.toArray.size*k.toNat>(2^63-1)/8:=by
  have:(sizeLine:Nat)≤(2^63-1)/8:=by decide
  lia
 have hfit:¬(!Builtin.List.listFitsIndex k)=true:=by
  rw[fitsIndex_both h1 h2]
  lia
 have Bn:¬Builtin.List.listTooLong (ao.toArray.size*k.toNat)=true:=by
  rw[Ik hlen]
  lia
 have qS:List.foldl (fun x1 x2=>x1++x2) #[] (replicate (if ao.toArray.isEmpty=true then 0 else k.toNat) ao.toArray)=(replicate k.toNat ao).flatten.toArray:=by
  have f0:∀m:Nat,List.foldl (fun x1 x2=>x1++x2) #[] (replicate m ao.toArray)=(replicate m ao).flatten.toArray:=fun m=>by have:=foldl_rep ao m [];assumption
  rw[f0];cases ao with
  |nil=>simp
  |cons a r'=>rw[af (by simp)]
 refine wpAny_binaryOp_repeat_ref (by decide) ⟨_,e,rfl⟩ (fun s'=>typeIs_int s' k t) noFill_list_mul F.fills_int_mul F.slot_int_rmul repeat_list F.slot_int_index.lookup
  (rh F.slot_int_rmul (typeIs_int s k t) F.entry_int_rmul (F.args_int_rmul_2 _ _) (int___rmul___int_list k t l ao.toArray n)
   ⟨e,rfl,⟨_,e,rfl⟩,rh F.slot_list_mul ⟨_,e,rfl⟩ F.entry_list_mul (F.args_list_mul_2 _ _) (AutoListH.list___mul___list_int_3 l ao.toArray n k t hfit hcap Bn) ⟨e,?_⟩⟩)
 rw[qS];exact⟨.ref _,_,I.Ek (r.rep k.toNat) (by rw[len_rep,rA];exact hz),rfl,q _ I.fresh⟩
end
theorem Vals.eQ:∀{ns:List Int}{us:List Value},Vals (ns.map V.int) us→IntsAre us ns
 |[],us,h=>by rw[gQ]at h;cases h;exact IntsAre.nil
 |n::ns,us,h=>by
  rw[a9]at h;cases h with
  |cons r t=>obtain⟨k,rfl⟩:=r;exact IntsAre.cons n k (Vals.eQ t)
theorem vQ:∀{us:List Value}{ns:List Int},IntsAre us ns→Vals (ns.map V.int) us
 |_,_, .nil=>by rw[gQ];exact Paired.nil
 |_,_, .cons n t h=>by rw[a9];exact Paired.cons (⟨t,rfl⟩) (vQ h)
theorem Vals.Ci:∀{bs:List Bool}{us:List Value},Vals (bs.map V.bl) us→us=bs.map Value.bool
 |[],us,h=>by rw[gQ]at h;cases h;rfl
 |b::bs,us,h=>by
  rw[a9]at h;cases h with
  |cons r t=>cases r;rw[Vals.Ci t,a9]
theorem Vals.kK(r:Vals [V.ref a] us):us=[Value.ref a]:=by
 cases r with
 |cons r t=>cases t;cases r;rfl
section
variable{prog:Program}{w:World}{A:Around}{E:YY}{s:Shared}{l:Addr}{ao:List Value}{ns:List Int}{Q:YY}
theorem Vn(hh:A.handled=none)(hl:s.heap.IsList l ao.toArray)(hi:IntsAre ao ns)
  (h:∀h' tk t',(∀b o,s.heap.get? b=some o→h'.get? b=some o)→Q (.int ns.sum t') {s with heap:=h',toks:=tk}):wpAny (model prog w) A (call (.builtin "sum") [.ref l]) Q E s:=by
 obtain⟨xs,e⟩:=hi.allInts.items;have hn:numsOf (intItems xs).toList=ns:=by rw[←e];exact hi.numsOf
 rw[nums_intItems]at hn;rw[e]at hl;refine PySem.sum_intListG hh hl fun h' tk t' hk=>?_;have:=h h' tk t' hk;rw[preSum_eq,uD (by simp),hn];exact this
theorem LV(hh:A.handled=none)(hl:s.heap.IsList l ao.toArray)(hi:IntsAre ao ns)(da:0<ns.length)
  (h:∀h' tk M t',(∀b o,s.heap.get? b=some o→h'.get? b=some o)→M∈ns→(∀a,a∈ns→a≤M)→Q (.int M t') {s with heap:=h',toks:=tk}):wpAny (model prog w) A (call (.builtin "max") [.ref l]) Q E s:=by
 obtain⟨xs,e⟩:=hi.allInts.items;have hn:numsOf (intItems xs).toList=ns:=by rw[←e];exact hi.numsOf
 rw[nums_intItems]at hn;subst hn;rw[e]at hl;have hsz:0<xs.size:=by simpa using da
 refine PySem.max_intList hh hl hsz fun v h' tk hv hk=>?_;obtain⟨t,rfl⟩:=intItems_at hv;obtain⟨h1,h2⟩:=argBest_gt (numAt xs) (xs.size-1);refine h h' tk _ t hk ?_ fun a ha=>?_
 ·rw[numAt_eq];exact PySem.getD_mem (by rw[bj,iq];omega)
 ·obtain⟨j,hj,rfl⟩:=mem_getD ha;rw[bj,iq]at hj;rw[←numAt_eq];exact h2 j (by lia)
theorem UO(hh:A.handled=none)(hl:s.heap.IsList l ao.toArray)(hi:IntsAre ao ns)(da:0<ns.length)
  (h:∀h' tk M t',(∀b o,s.heap.get? b=some o→h'.get? b=some o)→M∈ns→(∀a,a∈ns→M≤a)→Q (.int M t') {s with heap:=h',toks:=tk}):wpAny (model prog w) A (call (.builtin "min") [.ref l]) Q E s:=by
 obtain⟨xs,e⟩:=hi.allInts.items;have hn:numsOf (intItems xs).toList=ns:=by rw[←e];exact hi.numsOf
 rw[nums_intItems]at hn;subst hn;rw[e]at hl;have hsz:0<xs.size:=by simpa using da
 refine PySem.min_intList hh hl hsz fun v h' tk hv hk=>?_;obtain⟨t,rfl⟩:=intItems_at hv;obtain⟨h1,h2⟩:=argBest_lt (numAt xs) (xs.size-1);refine h h' tk _ t hk ?_ fun a ha=>?_
 ·rw[numAt_eq];exact PySem.getD_mem (by rw[bj,iq];omega)
 ·obtain⟨j,hj,rfl⟩:=mem_getD ha;rw[bj,iq]at hj;rw[←numAt_eq];exact h2 j (by lia)
end
section
variable{X:Cx}
def XW(K:YX):List V→Hp→VK→Prop:=fun vs H Q=>∃(a:Addr)(ns:List Int),vs=[V.ref a]∧aU K H a (ns.map V.int)∧Q (.int ns.sum) H
def V_(K:YX):List V→Hp→VK→Prop:=fun vs H Q=>∃(a:Addr)(ns:List Int),vs=[V.ref a]∧aU K H a (ns.map V.int)∧0<ns.length∧∀m,m∈ns→(∀y,y∈ns→y≤m)→Q (.int m) H
def RC(K:YX):List V→Hp→VK→Prop:=fun vs H Q=>∃(a:Addr)(ns:List Int),vs=[V.ref a]∧aU K H a (ns.map V.int)∧0<ns.length∧∀m,m∈ns→(∀y,y∈ns→m≤y)→Q (.int m) H
theorem Ou(hc:X.calm=true):eX X (.builtin "sum") (XW X.K):=by intro pins s σ H vs us Q I r h;obtain⟨a,ns,rfl,hs,q⟩:=h;obtain⟨ao,rv,hl,_⟩:=I.list hs;rw[Vals.kK r];exact Vn (I.ok.hd hc) hl.isList rv.eQ fun h' tk t' hk=>⟨.int _,H,I.kept hk,⟨_,rfl⟩,q⟩
theorem Uc(hc:X.calm=true):eX X (.builtin "max") (V_ X.K):=by intro pins s σ H vs us Q I r h;obtain⟨a,ns,rfl,hs,da,q⟩:=h;obtain⟨ao,rv,hl,_⟩:=I.list hs;rw[Vals.kK r];exact LV (I.ok.hd hc) hl.isList rv.eQ da fun h' tk m t' hk h1 h2=>⟨.int _,H,I.kept hk,⟨_,rfl⟩,q m h1 h2⟩
theorem Sx(hc:X.calm=true):eX X (.builtin "min") (RC X.K):=by intro pins s σ H vs us Q I r h;obtain⟨a,ns,rfl,hs,da,q⟩:=h;obtain⟨ao,rv,hl,_⟩:=I.list hs;rw[Vals.kK r];exact UO (I.ok.hd hc) hl.isList rv.eQ da fun h' tk m t' hk h1 h2=>⟨.int _,H,I.kept hk,⟨_,rfl⟩,q m h1 h2⟩
def Ub(K:YX):List V→Hp→VK→Prop:=fun vs H Q=>∃(a:Addr)(ns:List Int),vs=[V.ref a]∧aU K H a (ns.map V.int)∧ns.length<64∧
 ∀(ns':List Int)(p:Addr),ns'.Perm ns→ns'.Pairwise (·≤·)→H p=none→Q (.ref p) (upd H p (.lst (ns'.map V.int)))
theorem zY(h:n<64):n≤sizeLine:=by rw[qZ];lia
theorem ON:eX X (.builtin "sorted") (Ub X.K):=by
 intro pins s σ H vs us Q I r h;obtain⟨a,ns,rfl,hs,h64,q⟩:=h;obtain⟨ao,rv,hl,_⟩:=I.list hs;rw[Vals.kK r];have hi:=rv.eQ;refine PyProof.Rows.sorted_ints hl.isList hi (by rw[hi.length];exact h64) fun out ns' h1 h2 h3=>?_;obtain⟨ep,mG⟩:=Yj s.heap ao out;have hlen:(ns'.map V.int).length≤sizeLine:=by rw[bj,h2.length_eq];exact zY h64
 exact⟨.ref _,upd H (s.heap.objs.size+1) (.lst (ns'.map V.int)),I.laid (fun _ _=>Yk) (j5 _) ⟨hlen,out.toList,ep,vQ h1,mG⟩,rfl,q ns' _ h2 h3 (I.aG.fresh (j5 _))⟩
end
section
variable{X:Cx}
def Nf(K:YX):V→List V→Hp→VK→Prop:=fun x xs H Q=>∃(a:Addr)(ys:List V)(y:V)(j:Nat)(z:V),x=V.ref a∧xs=[y]∧aU K H a ys∧gZ y=true∧ys.all gZ=true∧ys[j]?=some z∧i9 z y=true∧
 (∀(m:Nat)(z':V),m<j→ys[m]?=some z'→i9 z' y=false)∧Q (.int (j:Nat)) H
theorem DR{ys:List V}(f:ys.all gZ=true){j:Nat}(h:ys[j]?=some z):gZ z=true:=oq.mp f z (fg h)
theorem KZ:yJ X "list.index" (Nf X.K):=by
 intro pins s σ H x xs v us Q I rx rxs h;obtain⟨a,ys,y,j,z,rfl,rfl,hs,fy,fys,hz,hzj,hno,q⟩:=h;cases rx;cases rxs with
 |cons ry rt=>
  rename_i uy ut;cases rt;obtain⟨ao,rv,⟨⟨cls,dd,data,sl⟩,n,ho,hc,hdn,hd⟩,hlen⟩:=I.list hs;simp only at hc hd;subst hc hd;obtain⟨u,hu,ru⟩:=rv.get hz;obtain⟨hjl,hje⟩:=d_.mp hu;have hvl:=rv.length;have hj:j<ao.toArray.size:=by simpa using hjl
  have hsl:=qZ;refine rh Yl ⟨_,ho,rfl⟩ PySem.F.entry_list_index (PySem.F.args_list_index_2 _ _)
   (SeqAt.list_indexAt a ao.toArray n dd sl uy (kW y) j hj (by lia) ?_ ?_) ⟨ho,fun u' lg=>vP ry fy rv fys u' (by simpa using lg),?_⟩
  ·have e1:ao.toArray[j]=u:=by simpa using hje
   rw[e1,xk ru (DR fys hz)];exact hzj
  ·intro m hm hmj;have hml:m<ao.length:=by simpa using hm
   have hmy:m<ys.length:=by simp[*]
   have hy':ys[m]?=some ys[m]:=bq hmy;obtain⟨u2,hu2,ru2⟩:=rv.get hy';obtain⟨_,hme⟩:=d_.mp hu2;have e1:ao.toArray[m]=u2:=by simpa using hme
   rw[e1,xk ru2 (DR fys hy')];exact hno m _ hmj hy'
  ·exact⟨.int (j:Nat),H,I.tok _,⟨_,rfl⟩,q⟩
end
theorem LB(hl:s.heap.IsList l items)(h:∀s₂:Shared,s₂={s with heap:=s.heap.push {cls:= .type "list_iterator",data:= .fields #[.ref l, .int 0 0]}}→
   (s₂.heap.IsListIter s.heap.objs.size l 0∧s₂.heap.IsList l items)→l≠s.heap.objs.size→Q (.ref s.heap.objs.size) s₂):wpAny (model prog w) A (pyIter (.ref l)) Q E s:=by
 have bw:l<s.heap.objs.size:=by obtain⟨_,e,_⟩:=hl;exact bF e
 exact JM hl (h _ rfl ⟨⟨_,cy _ rfl,rfl,rfl⟩,hl.push _⟩ (bY bw))
theorem Vm{bs:List Bool}(e:ao=bs.map Value.bool):
  TruthOf prog w A (fun i v=>ao.toArray[i]?=some v) (fun i=>bs.getD i false):=fun i v s Q E hv hq=>by
 have fV:ao[i]?=some v:=by simpa using hv
 rw[e,cz]at fV;obtain⟨b,hb,rfl⟩:=Ym.mp fV;have hg:bs.getD i false=b:=by rw[bC,hb]<;>rfl
 have nU:Q (bs.getD i false) s:=hq;rw[hg]at nU;exact qX nU
theorem all_range:∀bs:List Bool,(range bs.length).all (fun i=>bs.getD i false)=bs.all id
 |[]=>rfl
 |b::bs=>by
  rw[bZ,Bt,xQ,List.all_map,xQ,←all_range bs]
  all_goals rfl
section
variable{X:Cx}
def Yc(K:YX):List V→Hp→VK→Prop:=fun vs H Q=>∃(a:Addr)(bs:List Bool),vs=[V.ref a]∧aU K H a (bs.map V.bl)∧Q (.bl (bs.all id)) H
theorem Xy(hc:X.calm=true):eX X (.builtin "all") (Yc X.K):=by
 intro pins s σ H vs us Q I r h;obtain⟨a,bs,rfl,hs,q⟩:=h;obtain⟨ao,rv,hl,_⟩:=I.list hs;rw[Vals.kK r];have hb:=rv.Ci;refine call_all_walk (LB hl.isList fun s₂ e2 st da=>?_);subst e2;refine⟨_,_,_,_,_,_,_,rfl,Walks.list (A:=X.A.in1) (I.ok.hd hc) _ a da ao.toArray,st,Vm hb,fun h' tk hk=>?_⟩;refine⟨.bl _,H,I.kept fun b o eo=>hk b o (fun fB=>?_) (bJ _ eo),?_,q⟩
 ·rcases a_.mp fB with e1|fB
  ·exact absurd (e1▸bF eo) (ly _)
  ·simp_all
 ·show Value.bool _=Value.bool _;rw[←all_range,hb,c7,bj]
end
mutual
inductive Dp(K:YX)(H:Hp):V→PyData→Prop
 |a8:Dp K H .a8 .none
 |bl (b:Bool):Dp K H (.bl b) (.bool b)
 |int (i:Int):Dp K H (.int i) (.int i)
 |str (x:Str):Dp K H (.str x) (.str x)
 |lst {a:Addr} {xs:List V} {ds:List PyData}:aU K H a xs→m_ K H xs ds→Dp K H (.ref a) (.list ds)
 |tup {a:Addr} {xs:List V} {ds:List PyData}:dD K H a xs→m_ K H xs ds→Dp K H (.ref a) (.tuple ds)
inductive m_(K:YX)(H:Hp):List V→List PyData→Prop
 |nil:m_ K H [] []
 |cons {v:V} {vs:List V} {d:PyData} {ds:List PyData}:Dp K H v d→m_ K H vs ds→m_ K H (v::vs) (d::ds)
end
section
variable{X:Cx}{pins:YW}{σ:St}{H:Hp}{s:Shared}
mutual
theorem Dp.reads(I:Inv X pins σ H s):∀(d:PyData)(v:V)(u:Value),Dp X.K H v d→RelV v u→∃as,Reads s.heap u d as
 | .none,_,_,h,r=>by cases h;cases r;exact⟨_,Reads.none⟩
 | .bool b,_,_,h,r=>by cases h;cases r;exact⟨_,Reads.bool b⟩
 | .int i,_,_,h,r=>by cases h;obtain⟨t,rfl⟩:=r;exact⟨_,Reads.int i t⟩
 | .str x,_,_,h,r=>by cases h;obtain⟨t,rfl⟩:=r;exact⟨_,Reads.str x t⟩
 | .list ds,_,_,h,r=>by
  cases h with
  |lst hs ha=>cases r;obtain⟨ao,rv,⟨o,n,ho,hc,_,hd⟩,_⟩:=I.list hs;obtain⟨as,hr⟩:=Dp.readsAll I ds _ ao ha rv;exact⟨_,Reads.list ho hc hd hr⟩
 | .tuple ds,_,_,h,r=>by
  cases h with
  |tup hs ha=>cases r;obtain⟨ao,rv,⟨o,ho,hc,n,hd⟩,_⟩:=I.tuple hs;obtain⟨as,hr⟩:=Dp.readsAll I ds _ ao ha rv;exact⟨_,Reads.tuple ho hc hd hr⟩
 | .dict _,_,_,h,_=>by cases h
theorem Dp.readsAll(I:Inv X pins σ H s):∀(ds:List PyData)(vs:List V)(us:List Value),m_ X.K H vs ds→Vals vs us→∃as,ReadsAll s.heap us ds as
 |[],_,_,h,r=>by cases h;cases r;exact⟨_,ReadsAll.nil⟩
 |d::ds,_,_,h,r=>by
  cases h with
  |cons h1 h2=>
   cases r with
   |cons r1 r2=>obtain⟨as,q1⟩:=Dp.reads I d _ _ h1 r1;obtain⟨bs,q2⟩:=Dp.readsAll I ds _ _ h2 r2;exact⟨_,ReadsAll.cons q1 q2⟩
end
end
section
variable{X:Cx}
def Mo(K:YX):R2:=fun x y H Q=>∃d e,Dp K H x d∧Dp K H y e∧SeqAt.shaped d=true∧SeqAt.shaped e=true∧Q (.bl (PyData.eqv d e)) H
theorem Cg(hu:X.A.units+64<cLine):cR X (compareOp .Eq) (Mo X.K):=by intro pins s σ H x y v u Q I rx ry h;obtain⟨d,e,hd,he,sd,se,q⟩:=h;obtain⟨as,r1⟩:=Dp.reads I d x v hd rx;obtain⟨bs,r2⟩:=Dp.reads I e y u he ry;exact SeqAt.compareEq_shaped r1 r2 sd se hu ⟨.bl _,H,I,rfl,q⟩
end
abbrev GX(h:Heap)(c:Addr)(v:Option Value):Prop:=h.IsCell c v
def Uh(scope sc:Scope):Scope:=
 {scope with names:=scope.names.map fun(n,k)=>if(k== .free&&sc.kind== .function&&sc.names.lookup n==some .cell)then(n, .cell)else(n,k)}
def ez(cells:List (Str×Addr)):List (Str×NameKind)→List (Str×Addr)→List (Str×Addr)
 |[],acc=>acc
 |(n,k)::r,acc=>if k== .free then ez cells r ((n,(cells.lookup n).getD 0)::acc)else ez cells r acc
theorem IA(env:Env)(f:Str×NameKind→List (Str×Addr)→Sem (ForInStep (List (Str×Addr))))
  (hf:∀n k c,f (n,k) c=if k== .free then(do let a←cellOf env n;pure (.yield ((n,a)::c)))else pure (.yield c)):
  ∀(names:List (Str×NameKind))(acc:List (Str×Addr)),(∀y∈names,y.2= .free→∃c,env.cells.lookup y.1=some c)→forIn names acc f=pure (ez env.cells names acc)
 |[],acc,_=>by rw[List.forIn_nil];rfl
 |(n,k)::r,acc,h=>by
  rw[List.forIn_cons,hf];have ih:=fun acc=>IA env f hf r acc fun y hy=>h y (bW _ hy);unfold ez;by_cases hk:(k==NameKind.free)=true
  ·rw[ag hk,ag hk];obtain⟨c,hc⟩:=h (n,k) gN (by simpa using hk);have e:cellOf env n=pure c:=by unfold cellOf;rw[hc]
   simp[*]
  ·simp[*]
theorem NI(h:∀y∈scope.names,y.2= .free→∃c,env.cells.lookup y.1=some c):closureFor scope env=pure (ez env.cells scope.names []):=by simp only[closureFor];rw[IA env _ (fun n k c=>rfl) scope.names [] h];rfl
theorem mem_lookup:∀{l:List (Str×α)}{n:Str}{c:α},(n,c)∈l→∃c',l.lookup n=some c'
 |(k,v)::r,n,c,h=>by
  rw[List.lookup_cons];cases hb:n==k with
  |true=>exact⟨_,rfl⟩
  |false=>
   rcases a_.mp h with e|h
   ·simp_all
   ·exact mem_lookup h
theorem vK:∀{names:List (Str×NameKind)}{acc:List (Str×Addr)}{n:Str}{c:Addr},(n,c)∈ez cells names acc→(n,c)∈acc∨((n, .free)∈names∧c=(cells.lookup n).getD 0)
 |[],_,_,_,h=> .inl h
 |(m,k)::r,acc,n,c,h=>by
  unfold ez at h;split at h
  ·rename_i hk;rcases vK h with h|⟨h1,h2⟩
   ·grind
   ·simp[*]
  ·rcases vK h with h|⟨h1,h2⟩
   ·simp[*]
   ·grind
theorem Ag:∀{names:List (Str×NameKind)}{acc:List (Str×Addr)}{p:Str×Addr},p∈acc→p∈ez cells names acc
 |[],_,_,h=>h
 |(m,k)::r,acc,p,h=>by
  unfold ez;split
  ·exact Ag (bW _ h)
  ·exact Ag h
theorem yy:∀{names:List (Str×NameKind)}{acc:List (Str×Addr)}{n:Str},(n, .free)∈names→(n,(cells.lookup n).getD 0)∈ez cells names acc
 |(m,k)::r,acc,n,h=>by
  unfold ez;rcases a_.mp h with e|h
  ·cases e;exact Ag gN
  ·split
   ·exact yy h
   ·exact yy h
theorem uj:∀{names:List (Str×NameKind)}{h:Heap}{acc:List (Str×Addr)}{x:Str}{c:Addr},(x,c)∈cellsFrom h.objs.size names acc→
  (x,c)∈acc∨((x, .cell)∈names∧h.objs.size≤c∧GX (pushCells h names) c none)
 |[],_,_,_,_,h=> .inl h
 |(n,k)::r,h,acc,x,c,hm=>by
  unfold cellsFrom at hm;unfold pushCells;split at hm
  ·rename_i hk;rw[ag hk];have hk:k= .cell:=by simpa using hk
   rw[←eF h {cls:= .type "cell",data:= .cell none}]at hm;rcases uj hm with hm|⟨h1,h2,h3⟩
   ·rcases a_.mp hm with e|hm
    ·cases e;exact .inr ⟨hk▸gN,aY _,_,Bu r _ _ _ (cy _ rfl),rfl⟩
    ·simp[*]
   ·rw[eF]at h2;grind
  ·rename_i hk;rw[af hk];rcases uj hm with hm|⟨h1,h2,h3⟩
   ·simp[*]
   ·simp[*]
theorem xl:∀{names:List (Str×NameKind)}{n:Nat}{acc:List (Str×Addr)}{p:Str×Addr},p∈acc→p∈cellsFrom n names acc
 |[],_,_,_,h=>h
 |(m,k)::r,n,acc,p,h=>by
  unfold cellsFrom;split
  ·exact xl (bW _ h)
  ·exact xl h
theorem Ba:∀{names:List (Str×NameKind)}{n:Nat}{acc:List (Str×Addr)}{x:Str},(x, .cell)∈names→∃c,(x,c)∈cellsFrom n names acc
 |(m,k)::r,n,acc,x,h=>by
  unfold cellsFrom;rcases a_.mp h with e|h
  ·cases e;exact⟨n,xl gN⟩
  ·split
   ·exact Ba h
   ·exact Ba h
theorem yK:∀{names:List (Str×NameKind)}{h:Heap}{acc:List (Str×Addr)}{x y:Str}{c:Addr},(∀p∈acc,p.2<h.objs.size)→(∀x y c,(x,c)∈acc→(y,c)∈acc→x=y)→
  (x,c)∈cellsFrom h.objs.size names acc→(y,c)∈cellsFrom h.objs.size names acc→x=y
 |[],_,_,_,_,_,_,hi,h1,h2=>hi _ _ _ h1 h2
 |(n,k)::r,h,acc,x,y,c,hl,hi,h1,h2=>by
  unfold cellsFrom at h1 h2;split at h1
  ·rename_i hk;rw[ag hk]at h2;rw[←eF h {cls:= .type "cell",data:= .cell none}]at h1 h2;refine yK (fun p hp=>?_) (fun x y c a b=>?_) h1 h2
   ·rw[eF];grind
   ·grind
  ·rename_i hk;rw[af hk]at h2;exact yK hl hi h1 h2
theorem LO{code:Value}(h:Q (newEnv scope s.heap.objs.size globals (cellsFrom (s.heap.objs.size+1) scope.names closure) qual func code (some around) builtins)
   {s with heap:=pushCells (s.heap.push {cls:= .type "dict",data:= .dict #[]}) scope.names}):
  wpAny M A (newFunctionEnv scope globals closure [] qual func code (some around) builtins) Q E s:=by
 simp only[newFunctionEnv,Option.isSome_some,dR];refine ak (wpAny_alloc ?_);refine ak (wpAny_layCells _ (fun n k c=>rfl) scope.names closure _ _ ?_);rw[show({s with heap:=s.heap.push {cls:= .type "dict",data:= .dict #[]}}:Shared).heap.objs.size=s.heap.objs.size+1 from eF ..];rw[List.forIn_nil];exact ak (aI (aI h))
theorem Bh{sc:Scope}:∀{names:List (Str×NameKind)}{x:Str}{k:NameKind},
  (names.map fun(n,k)=>if(k==NameKind.free&&sc.kind== .function&&sc.names.lookup n==some .cell)then(n,NameKind.cell)else(n,k)).lookup x=some k→
  ∃k',names.lookup x=some k'∧(k=k'∨(k'= .free∧k= .cell))
 |[],_,_,h=>by simp at h
 |(n,k₀)::r,x,k,h=>by have ih:= @Bh sc r x k;grind
structure jO(N:List Str)(sc scope:Scope)(own:List (Str×Nat)):Prop where
 kind:scope.kind= .function
 uniq:∀y∈scope.names,scope.names.lookup y.1=some y.2
 ix:∀p∈own,N[p.2]?=some p.1
 free:∀y∈scope.names,y.2= .free→sc.names.lookup y.1=some .cell∨sc.names.lookup y.1=some .free
 own:∀y∈scope.names,y.2= .local∨y.2= .cell→y.1∈own.map (·.1)∨y.1∉N
def wipe(σ:St):List Nat→St
 |[]=>σ
 |v::vs=>(wipe σ vs).set v none
theorem vh(σ:St):∀vs:List Nat,(wipe σ vs).length=σ.length
 |[]=>rfl
 |v::vs=>by unfold wipe;rw[gO,vh σ vs]
theorem Bg:∀{vs:List Nat},(wipe σ vs)[i]?=some (some x)→σ[i]?=some (some x)∧i∉vs
 |[],h=>⟨h,by simp⟩
 |v::vs,h=>by
  unfold wipe at h;by_cases hi:v=i
  ·grind-ring-lia-linarith-order
  ·rw[ip hi]at h;obtain⟨h1,h2⟩:=Bg h;grind
abbrev Cx.eL(X:Cx)(s:Shared)(H:Hp)(scope:Scope)(cS:Env)(fp:List Addr):Cx:={X with eM:=s,kb:=H,env:=cS,outer:=X.stack,ex:=fp,fn:=fun x=>scope.names.lookup x==some .cell,pn:=[],xe:=fun _ _=>False}
section
variable{X:Cx}{pins:YW}{σ:St}{H:Hp}{s:Shared}
theorem T6(I:Inv X pins σ H s)(ok:jO X.N X.env.scope scope own)(hN:X.N.Nodup)(nV:∀b∈fp,jo X pins H b∧b<s.heap.objs.size):
  Inv (X.eL s H scope (compEnvC scope (cellsFrom (s.heap.objs.size+1) scope.names (ez X.env.cells scope.names [])) s.heap.objs.size X.env) fp) [] (wipe σ (own.map (·.2))) H {s with heap:=pushCells (s.heap.push {cls:= .type "dict",data:= .dict #[]}) scope.names}:=by
 have qR:∀y∈scope.names,y.2= .free→∃c,X.env.cells.lookup y.1=some c:=fun y hy e=>by
  rcases ok.free y hy e with k|k
  ·exact I.ok.has _ (.inl k)
  ·exact I.ok.has _ (.inr k)
 generalize uq:compEnvC scope (cellsFrom (s.heap.objs.size+1) scope.names (ez X.env.cells scope.names [])) s.heap.objs.size X.env=cS;have kp:∀b o,s.heap.get? b=some o→(pushCells (s.heap.push {cls:= .type "dict",data:= .dict #[]}) scope.names).get? b=some o:=fun b o e=>Bu _ _ _ _ (bJ _ e);have hL:cS.locals=s.heap.objs.size:=by rw[←uq];rfl
 have iP:cS.cells=cellsFrom (s.heap.objs.size+1) scope.names (ez X.env.cells scope.names []):=by rw[←uq];rfl
 have hsc:cS.scope=Uh scope X.env.scope:=by rw[←uq];rfl
 rw[←eF s.heap {cls:= .type "dict",data:= .dict #[]}]at iP;have cm:∀{y c},(y,c)∈ez X.env.cells scope.names []→X.env.cells.lookup y=some c∧c<s.heap.objs.size:=fun{y c} hm=>by
  rcases vK hm with hm|⟨h1,rfl⟩
  ·cases hm
  ·obtain⟨c,hc⟩:=qR _ h1 rfl;rw[hc];obtain⟨w,z⟩:=I.cell _ _ hc;exact⟨rfl,z.lt⟩
 have mem:∀{y c},cS.cells.lookup y=some c→(X.env.cells.lookup y=some c∧c<s.heap.objs.size)∨(s.heap.objs.size+1≤c∧GX (pushCells (s.heap.push {cls:= .type "dict",data:= .dict #[]}) scope.names) c none):=fun{y c} e=>by
  rw[iP]at e;rcases uj (ir e)with hm|⟨_,h2,h3⟩
  ·exact .inl (cm hm)
  ·rw[eF]at h2;exact .inr ⟨h2,h3⟩
 have look:∀{y},scope.names.lookup y=some .free→∃c,cS.cells.lookup y=some c∧X.env.cells.lookup y=some c:=fun{y} hl=>by
  have hy:(y,NameKind.free)∈scope.names:=ir hl;obtain⟨c',e'⟩:=mem_lookup (xl (yy hy));rw[←iP]at e';refine⟨c',e',?_⟩;rw[iP]at e';rcases uj (ir e')with hm|⟨h1,_,_⟩
  ·exact(cm hm).1
  ·have:=ok.uniq _ h1;rw[hl]at this;cases this
 have okB:(X.eL s H scope cS fp).Ok:=by
  refine⟨I.ok.mod,by rw[hsc];exact ok.kind,by rw[←uq];exact I.ok.glob,by rw[←uq];exact I.ok.blt,by rw[hL];exact aY _,
   fun y z c e1 e2=>?_,fun y hy=>?_,fun y c z e=>?_,I.ok.hd,I.ok.frames, .inl rfl,fun b hb=>⟨?_,fun y c e z=>?_⟩,I.bs,cx I.ok.mi I.sz,fun b o e hb=>?_,fun b hb z=>?_,I.stack,I.Gu⟩
  ·have e1:cS.cells.lookup y=some c:=e1;rw[iP]at e1 e2;refine yK (fun p hp=>?_) (fun y z c a b=>I.ok.inj y z c (cm a).1 (cm b).1) (ir e1) (ir e2);rw[eF];exact ot (cm hp).2
  ·show∃c,cS.cells.lookup y=some c;have key:∀k,cS.kindOf y=some k→(k= .cell∨k= .free)→∃c,cS.cells.lookup y=some c:=fun k hk hk'=>by
    unfold Env.kindOf at hk;rw[hsc]at hk;obtain⟨k',e,r⟩:=Bh hk;have:k'= .cell∨k'= .free:=by
     rcases r with rfl|⟨rfl,_⟩
     ·omega
     ·exact .inr rfl
    rcases this with rfl|rfl
    ·obtain⟨c,hm⟩:=Ba (ir e);obtain⟨c',e'⟩:=mem_lookup hm;exact⟨c',by rw[iP];exact e'⟩
    ·obtain⟨c,h1,_⟩:=look e;exact⟨c,h1⟩
   rcases hy with hy|hy
   ·exact key _ hy (.inl rfl)
   ·exact key _ hy (.inr rfl)
  ·have z:(scope.names.lookup y==some NameKind.cell)=true:=z;have z:scope.names.lookup y=some .cell:=by simpa using z
   rw[iP]at e;rcases uj (ir e)with hm|⟨_,h2,_⟩
   ·rcases vK hm with hm|⟨h1,_⟩
    ·cases hm
    ·have q:=ok.uniq _ h1;rw[z]at q;cases q
   ·rw[eF]at h2;exact xS h2
  ·show b≠cS.locals;rw[hL];exact bY (nV b hb).2
  ·have e:cS.cells.lookup y=some c:=e;rcases mem e with⟨h1,_⟩|⟨h1,_⟩
   ·exact(nV b hb).1.2.2.2.2.1 y c h1 z
   ·have h2:s.heap.objs.size+1≤b:=by rw[←z];exact h1
    exact absurd (fc (nV b hb).2 (xS h2)) (ly _)
  ·rcases(nV b hb).1.2.2.2.1 with z|z
   ·exact I.ok.sy b o e z
   ·exact absurd (fc (bF e) (cx I.ok.mi z)) (ly _)
  ·rcases a_.mp (I.yM b z)with z|z
   ·exact(nV b hb).1.2.1 z
   ·exact(nV b hb).1.2.2.1 z
 refine⟨okB,rfl,I.bare,Un.kept kp,⟨fun _=>none,?_,fun i y av e1 e2 e3=>?_⟩,fun y c e=>?_,?_,fun y c e=>?_,fun p hp=>?_,I.aG.kept kp,by rw[vh];exact I.len⟩
 ·show Heap.Ns _ cS.locals _;rw[hL];exact Heap.Ns.keeps (Heap.Ns.new ..) fun b o e=>Bu _ _ _ _ e
 ·obtain⟨e2,da⟩:=Bg e2;have hfr:scope.names.lookup y=some .free∧(cS.kindOf y=some .cell∨cS.kindOf y=some .free):=by
   have key:∀k,cS.scope.names.lookup y=some k→k= .local∨k= .cell∨k= .free→scope.names.lookup y=some .free∧(cS.kindOf y=some .cell∨cS.kindOf y=some .free):=fun k hk hk'=>by
    have hk0:=hk;rw[hsc]at hk;obtain⟨k',e,r⟩:=Bh hk;have no:¬(k'= .local∨k'= .cell):=fun hh=>by
     rcases ok.own _ (ir e) hh with e'|e'
     ·obtain⟨p,hp,hpy⟩:=aH.mp e';have e3:=ok.ix p hp;have:p.1=y:=hpy;rw[this]at e3;exact da (aH.mpr ⟨p,hp,Au hN e3 e1⟩)
     ·exact e' (fg e1)
    rcases r with rfl|⟨rfl,rfl⟩
    ·rcases hk' with rfl|rfl|rfl
     ·exact absurd (.inl rfl) no
     ·exact absurd (.inr rfl) no
     ·exact⟨e, .inr hk0⟩
    ·exact⟨e, .inl hk0⟩
   rcases e3 with e3|e3|e3
   ·exact key _ e3 (.inl rfl)
   ·exact key _ e3 (.inr (.inl rfl))
   ·exact key _ e3 (.inr (.inr rfl))
  obtain⟨m,hn,hl⟩:=I.loc;have hvis:dJ X.env.scope y:=(ok.free _ (ir hfr.1) rfl).elim (fun k=> .inr (.inl k)) (fun k=> .inr (.inr k));obtain⟨w,r,q⟩:=hl i y av e1 e2 hvis;refine⟨w,r, .inr ⟨hfr.2,?_⟩⟩;obtain⟨c,h1,h2⟩:=look hfr.1;rcases q with⟨k,_⟩|⟨_,c',e',z⟩
  ·have k:X.env.scope.names.lookup y=some .local:=k;rcases ok.free _ (ir hfr.1) rfl with k'|k'<;>rw[show X.env.scope.names.lookup y=_ from k']at k<;>cases k
  ·rw[h2]at e';cases e';exact⟨c,h1,z.keeps kp⟩
 ·have e:cS.cells.lookup y=some c:=e;rcases mem e with⟨h1,_⟩|⟨_,z⟩
  ·obtain⟨w,z⟩:=I.cell y c h1;exact⟨w,z.keeps kp⟩
  ·exact⟨_,z⟩
 ·show H cS.locals=none;rw[hL];exact I.aG.fresh (aY _)
 ·have e:cS.cells.lookup y=some c:=e;rcases mem e with⟨h1,_⟩|⟨h1,_⟩
  ·exact I.iz y c h1
  ·exact I.aG.fresh (xS h1)
 ·exact absurd (hp) (by simp)
theorem V8(I:Inv X pins σ H s)(hD:H D=some (.lst xs))(hz:xs.length<sizeLine)(r:RelV y v)(h:∀s',Inv X pins σ (upd H D (.lst (xs++[y]))) s'→Q .none s'):wpAny (model X.prog X.w) X.A (call (.builtin "list.append") [.ref D,v]) Q E s:=by obtain⟨hz',ao,n,ri,e⟩:=I.aG D _ hD;have hl:=ri.length;refine append_at (hsz:=by rw[c7];omega) e fun h' sb gy=>?_;refine h {s with heap:=h'} (I.write (by rw[hD];trivial) (.inl rfl) (fun b u hb q=>(sb.2 b hb).trans q) ⟨_,gy⟩ ⟨by rw[cZ];exact hz,ao++[v],n+1,ri.append (.cons r .nil),?_⟩);simp[*]
def tH(X:Cx)(ifs:List Expr)(t:TT):Prop:=
 ∀(pins:YW)(s:Shared)(σ:St)(H:Hp)(Q:Bool→Hp→Prop),Inv X pins σ H s→t σ H Q→
  wpAny (model X.prog X.w) X.A (forIn ifs true fun c r=>if r=true then do let ok←isTrue c X.env (eval c X.env);pure (ForInStep.yield ok)else pure (ForInStep.yield r)) (TP X pins σ Q) X.xe s
def Ph:TT:=fun _ H Q=>Q true H
theorem Ol:tH X [] Ph:=fun _ _ _ H _ I h=>wpAny_tests_nil ⟨H,I,h⟩
theorem V4(h:PT X c t):tH X [c] t:=fun pins s σ H Q I hw=>wpAny_tests_one (h pins s σ H Q I hw)
end
theorem qy(h:wpAny M A t Q (fun _ _=>False) s)(hQ:∀a s,Q a s→Q' a s):wpAny M A t Q' E s:=iV h hQ fun _ _ z=>False.elim z
theorem S8(I:Nat→Shared→Prop)(turn:∀n s,I n s→wpAny (model prog w) A (pyNext it) (fun r s₁=>match r with
   |none=>R (.ok .next) s₁
   |some v=>wpAny (model prog w) A (letOwnedTupleGo target it v) (fun _ s₁'=>wpAny (model prog w) A (assign target env v) (fun _ s₂=>
     wpAny (model prog w) A (forIn ifs true fun c r=>if r=true then do let ok←isTrue c env (eval c env);pure (ForInStep.yield ok)else pure (ForInStep.yield r)) (fun ok s₃=>
      if ok=true then wpAny (model prog w) A (eval elt env) (fun x s₄=>
       wpAny (model prog w) A (call (.builtin "list.append") [acc,x]) (fun _ s₅=>∃m,m<n∧I m s₅) (notedBy (model prog w) A env fun e s'=>R (.error e) s') s₄) (notedBy (model prog w) A env fun e s'=>R (.error e) s') s₃
      else∃m,m<n∧I m s₃) (notedBy (model prog w) A env fun e s'=>R (.error e) s') s₂) (notedBy (model prog w) A env fun e s'=>R (.error e) s') s₁') (notedBy (model prog w) A env fun e s'=>R (.error e) s') s₁) (notedBy (model prog w) A env fun e s'=>R (.error e) s') s)(n:Nat)(h:I n s):
  codeAny (model prog w) A (.compLoop (.ListComp elt [⟨target,iter,ifs,0⟩] scope pos) 0 it acc env) R s:=by
 refine codeAny_loop rfl I (fun n s hI=>?_) n h;show wpAny _ A ((compTurn (.ListComp elt [⟨target,iter,ifs,0⟩] scope pos) 0 it acc env).onRaise (fun x=>do noteFrame x env;theTreesLotGoes x)) _ _ s;refine wpAny_noted ?_;rw[compTurn_list];refine ak (wpAny_standAt (ak (iV (turn n s hI) (fun r s₁ h₁=>?_) fun _ _ h'=>h')));cases r with
 |none=>exact aI h₁
 |some v=>
  refine ak (iV h₁ (fun _ s₁' h₁'=>?_) fun _ _ h'=>h');refine ak (iV h₁' (fun _ s₂ h₂=>ak (iV h₂ (fun ok s₃ h₃=>?_) fun _ _ h'=>h')) fun _ _ h'=>h');cases ok with
  |false=>exact aI ⟨rfl,h₃⟩
  |true=>exact ak (ak (iV h₃ (fun x s₄ h₄=>ak (iV h₄ (fun _ s₅ h₅=>aI (aI ⟨rfl,h₅⟩)) fun _ _ h'=>h')) fun _ _ h'=>h'))
section
variable{X:Cx}
def wK(wi:TI)(g:TG)(tt:TT)(te:TE)(vs:List Nat):TE:=fun σ H Q=>wi σ H fun J H1=>∀D,H1 D=none→∃W:Nat→Nat→Hp→Prop,(∃m,W 0 m (upd H1 D (.lst [])))∧∀i m H,W i m H→
 (J.stop i H∧Q (.ref D) H)∨(J.go i H∧∃Nx:Hp→Prop,(∀H',Nx H'→∃m',m'<m∧W (i+1) m' H')∧∀x H',J.sF i H x H'→g x (wipe σ vs) H' fun σ2 H2=>wipe σ2 vs=wipe σ vs∧tt σ2 H2 fun b H3=>
  if b=true then te σ2 H3 fun y H4=>∃acc,H4 D=some (.lst acc)∧acc.length<sizeLine∧Nx (upd H4 D (.lst (acc++[y])))else Nx H3)
theorem DV(hc:X.calm=true)(hN:X.N.Nodup)(I:Inv X pins σ H s)(hi:PI X tg iter wi)(ok:jO X.N X.env.scope scope own)(hg:∀(s:Shared)(H:Hp)(C:Addr)(cl:List (Str×Addr))(fp:List Addr),PG (X.eL s H scope (compEnvC scope cl C X.env) fp) tg g)(ht:∀(s:Shared)(H:Hp)(C:Addr)(cl:List (Str×Addr))(fp:List Addr),tH (X.eL s H scope (compEnvC scope cl C X.env) fp) ifs tt)(he:∀(s:Shared)(H:Hp)(C:Addr)(cl:List (Str×Addr))(fp:List Addr),PE (X.eL s H scope (compEnvC scope cl C X.env) fp) elt te)(hs:∀x,foldedSetIterable iter X.env x=pure x)(h:wK wi g tt te (own.map (·.2)) σ H Q)(hRR:∀D C s' m H',Inv X pins σ H' s'→Q (.ref D) H'→s'.heap.Ns C m→jo X pins H' C→compPost (model X.prog X.w) X.A X.xe use Qf (.ref D) C (.ok .next) s'):
  wpAny (model X.prog X.w) X.A (comprehension (.ListComp elt [⟨tg,iter,ifs,0⟩] scope pos) scope X.env pos' (newList []) false (eval iter X.env) use) Qf X.xe s:=by
 have qR:∀y∈scope.names,y.2= .free→∃c,X.env.cells.lookup y.1=some c:=fun y hy e=>by
  rcases ok.free y hy e with k|k
  ·exact I.ok.has _ (.inl k)
  ·exact I.ok.has _ (.inr k)
 refine wpAny_comprehension_free (use:=use) rfl hs (NI qR) ok.kind (fun y hy e=>by rw[ok.uniq y hy,e])
  (aP (hi pins s σ H _ I h) fun xv s1 hx=>aP hx fun itv s2 h2=>?_)
 obtain⟨it,fp,tn,J,H2,e,I2,T,st2,f2,q⟩:=h2;subst e;refine j7 (LO ?_) (by show 0≤sizeLine;decide);generalize hD:s2.heap.objs.size=D;have hDn:H2 D=none:=I2.aG.fresh (xM hD);obtain⟨W,⟨m0,w0⟩,turn⟩:=q D hDn;generalize hs3:({s2 with heap:=s2.heap.push {cls:= .type "list",data:= .seq ([]:List Value).toArray}}:Shared)=s3;have I3:Inv X pins σ (upd H2 D (.lst [])) s3:=by rw[←hs3];refine I2.laid (t':=s2.toks) (fun b o e=>bJ _ e) (xM hD) ⟨eG _,[],0, .nil,?_⟩;rw[←hD];exact cy _ rfl
 have h3:s3.heap=s2.heap.push {cls:= .type "list",data:= .seq ([]:List Value).toArray}:=by rw[←hs3]
 have sz:∀b∈fp,b<s2.heap.objs.size:=fun b hb=>by obtain⟨o,e,_⟩:=T.obj _ _ st2 b hb;exact bF e
 have f3:∀b∈fp,jo X pins (upd H2 D (.lst [])) b∧b<s3.heap.objs.size:=fun b hb=>by have bw:=sz b hb;refine⟨⟨?_,(f2 b hb).2⟩,by rw[h3,eF];exact ot bw⟩;rw[aB (by rw[←hD];exact bY bw)];exact(f2 b hb).1
 have st3:tn 0 s3.heap:=T.keep _ _ _ st2 fun b _ o e=>by rw[h3];exact bJ _ e
 have I4:=T6 I3 ok hN f3;have pg:=hg s3 (upd H2 D (.lst [])) s3.heap.objs.size (cellsFrom (s3.heap.objs.size+1) scope.names (ez X.env.cells scope.names [])) fp;have pt:=ht s3 (upd H2 D (.lst [])) s3.heap.objs.size (cellsFrom (s3.heap.objs.size+1) scope.names (ez X.env.cells scope.names [])) fp;have pe:=he s3 (upd H2 D (.lst [])) s3.heap.objs.size (cellsFrom (s3.heap.objs.size+1) scope.names (ez X.env.cells scope.names [])) fp;show codeAny _ _ (.compStart (.ListComp elt [⟨tg,iter,ifs,0⟩] scope pos) 0 (.ref it) (.ref D) (compEnvC scope (cellsFrom (s3.heap.objs.size+1) scope.names (ez X.env.cells scope.names [])) s3.heap.objs.size X.env)) (compPost (model X.prog X.w) X.A X.xe use Qf (.ref D) s3.heap.objs.size) {s3 with heap:=pushCells (s3.heap.push {cls:= .type "dict",data:= .dict #[]}) scope.names};have nfp:∀b∈fp,(upd H2 D (.lst [])) b=none:=fun b hb=>(f3 b hb).1.1;generalize hce:compEnvC scope (cellsFrom (s3.heap.objs.size+1) scope.names (ez X.env.cells scope.names [])) s3.heap.objs.size X.env=ce at I4 pg pt pe⊢;have cL:ce.locals=s3.heap.objs.size:=by subst hce;rfl
 generalize hH3:upd H2 D (.lst [])=H3 at I3 I4 pg pt pe w0 nfp f3;generalize hs4:({s3 with heap:=pushCells (s3.heap.push {cls:= .type "dict",data:= .dict #[]}) scope.names}:Shared)=s4 at I4⊢;have st4:tn 0 s4.heap:=T.keep _ _ _ st3 fun b _ o e=>by rw[←hs4];exact Bu _ _ _ _ (bJ _ e)
 have pP:∀{σ':St}{H':Hp}{s':Shared},Inv (X.eL s3 H3 scope ce fp) [] σ' H' s'→(∀b∈fp,H' b=none)→∀b∈fp,jo (X.eL s3 H3 scope ce fp) [] H' b:=fun{σ' H' s'} I' hn b hb=>
  ⟨hn b hb,(I'.ok.xf b hb).1,I'.ok.sq b hb, .inl hb,fun x c e=>(I'.ok.xf b hb).2 x c e,fun p hp=>absurd (hp) (by simp)⟩
 have loop:codeAny (model X.prog X.w) X.A (.compLoop (.ListComp elt [⟨tg,iter,ifs,0⟩] scope pos) 0 (.ref it) (.ref D) ce) (compPost (model X.prog X.w) X.A X.xe use Qf (.ref D) s3.heap.objs.size) s4:=by
  refine S8 (fun n s'=>∃i H',Inv (X.eL s3 H3 scope ce fp) [] (wipe σ (own.map (·.2))) H' s'∧tn i s'.heap∧(∀b∈fp,H' b=none)∧W i n H') ?_ m0 ⟨0,H3,I4,st4,nfp,w0⟩;rintro n s5 ⟨i,H5,I5,st5,n5,w5⟩;rcases turn i n H5 w5 with⟨stop,qq⟩|⟨go,Nx,hNx,step⟩
  ·have td:=T.done (X.eL s3 H3 scope ce fp) rfl rfl rfl hc i [] s5 _ H5 (fun _ _=>False) I5 (pP I5 n5) st5 stop;refine qy td fun r s6 hh=>?_;obtain⟨hr,I6⟩:=hh;subst hr;have I7:Inv X pins σ H5 s6:=I3.En (ch:=fp) I6.os I6.base I6.aG I6.bare fun b hb=>⟨(f3 b hb).1.2.2.2.1,(f3 b hb).1.2.1,(f3 b hb).1.2.2.2.2.1,(f3 b hb).1.2.2.2.2.2⟩;have nC:H5 s3.heap.objs.size=none:=by have z:H5 ce.locals=none:=I6.free;rw[cL]at z;exact z
   obtain⟨m,hn,_⟩:=I6.loc;have hn:s6.heap.Ns ce.locals m:=hn;rw[cL]at hn;exact hRR D s3.heap.objs.size s6 m H5 I7 qq hn (I3.pA (aY _) nC)
  ·have ti:=T.item (X.eL s3 H3 scope ce fp) rfl rfl rfl hc i [] s5 _ H5 (fun _ _=>False) I5 (pP I5 n5) st5 go;refine qy ti fun r s6 hh=>?_;obtain⟨u,hr,h6⟩:=hh;subst hr;refine qy h6 fun _ s7⟨x,H7,I7,r7,y7,st7,n7⟩=>?_;have I7':=I7.pinned (pP I7 n7) (T.obj _ _ st7);refine qy (pg _ s7 _ H7 x u _ I7' r7 (step x H7 y7)) fun _ s8⟨σ8,H8,I8,hw8,q8⟩=>?_;refine qy (pt _ s8 σ8 H8 _ I8 q8) fun b s9 hh=>?_;obtain⟨H9,I9,q9⟩:=hh;have fin:∀{s':Shared}{H':Hp},Inv (X.eL s3 H3 scope ce fp) ([]++sO fp s7.heap) σ8 H' s'→Nx H'→∃m,m<n∧∃i H',Inv (X.eL s3 H3 scope ce fp) [] (wipe σ (own.map (·.2))) H' s'∧tn i s'.heap∧(∀b∈fp,H' b=none)∧W i m H':=fun{s' H'} I' nx=>by
    obtain⟨m',hm,w'⟩:=hNx H' nx;have pin':∀b∈fp,∀o,s7.heap.get? b=some o→s'.heap.get? b=some o∧H' b=none:=fun b hb o e=>
     let z:=I'.pin (b,o) (mQ _ (mQ _ (zZ hb e)))
     ⟨z.1,z.2.1⟩
    have hl:(wipe σ (own.map (·.2))).length=σ8.length:=by rw[←hw8,vh]
    refine⟨m',hm,i+1,H',(I'.vF (pins:=[])).weak hl (fun j v e=>?_),T.keep _ _ _ st7 fun b hb o e=>(pin' b hb o e).1,fun b hb=>?_,w'⟩
    ·rw[←hw8]at e;exact(Bg e).1
    ·obtain⟨o,e,_⟩:=T.obj _ _ st7 b hb;exact(pin' b hb o e).2
   cases b with
   |false=>simp at q9⊢;exact fin I9 q9
   |true=>simp only[dR]at q9⊢;refine qy (pe _ s9 σ8 H9 _ I9 q9) fun z s10⟨yv,iQ,I10,mH,acc,hD10,hz10,nx⟩=>?_;exact V8 (X:=X.eL s3 H3 scope ce fp) I10 hD10 hz10 mH fun s11 I11=>fin I11 nx
 exact codeAny_compStart_list loop (T.self X.A 0 _ _ _ st4 loop)
theorem Nm(hc:X.calm=true)(hN:X.N.Nodup)(hi:PI X tg iter wi)(ok:jO X.N X.env.scope scope own)(hg:∀(s:Shared)(H:Hp)(C:Addr)(cl:List (Str×Addr))(fp:List Addr),PG (X.eL s H scope (compEnvC scope cl C X.env) fp) tg g)(ht:∀(s:Shared)(H:Hp)(C:Addr)(cl:List (Str×Addr))(fp:List Addr),tH (X.eL s H scope (compEnvC scope cl C X.env) fp) ifs tt)(he:∀(s:Shared)(H:Hp)(C:Addr)(cl:List (Str×Addr))(fp:List Addr),PE (X.eL s H scope (compEnvC scope cl C X.env) fp) elt te)(hs:∀x,foldedSetIterable iter X.env x=pure x:=by intro _;rfl):
  PE X (.ListComp elt [⟨tg,iter,ifs,0⟩] scope pos) (wK wi g tt te (own.map (·.2))):=by
 intro pins s σ H Q I h;rw[eval_ListComp];refine DV hc hN I hi ok hg ht he hs h fun D C s' m H' I' q hn f=>⟨m,hn,fun gz sb=>?_⟩;obtain⟨f0,f1,f2,f3,f4,f5⟩:=f;exact⟨.ref D,H',I'.turned (fun b o hb e=>(sb.2 b hb).trans e) f0 f1 f3 f4 f5,rfl,q⟩
theorem Ez(hc:X.calm=true)(hN:X.N.Nodup)(hy:X.N[i]?=some y)(lh:X.env.scope.names.lookup y=some .local)(dk:swapsWith (.ListComp elt [⟨tg,iter,ifs,0⟩] scope pos) (some (.Name y py)) spos.line X.env=pure true)(hi:PI X tg iter wi)(ok:jO X.N X.env.scope scope own)(hg:∀(s:Shared)(H:Hp)(C:Addr)(cl:List (Str×Addr))(fp:List Addr),PG (X.eL s H scope (compEnvC scope cl C X.env) fp) tg g)(ht:∀(s:Shared)(H:Hp)(C:Addr)(cl:List (Str×Addr))(fp:List Addr),tH (X.eL s H scope (compEnvC scope cl C X.env) fp) ifs tt)(he:∀(s:Shared)(H:Hp)(C:Addr)(cl:List (Str×Addr))(fp:List Addr),PE (X.eL s H scope (compEnvC scope cl C X.env) fp) elt te)(hs:∀x,foldedSetIterable iter X.env x=pure x:=by intro _;rfl):
  PS X (.Assign [.Name y py] (.ListComp elt [⟨tg,iter,ifs,0⟩] scope pos) spos) (yq (wK wi g tt te (own.map (·.2))) (iA i)):=by
 intro pins s σ H D I h;rw[exec_Assign_Name_used _ _ _ _ dk];refine ak (wpAny_standAt (ak ?_));refine ak (aP (DV hc hN I hi ok hg ht he hs h fun L C s' m H' I' q hn f=>?_) fun _ s' hq=>aI (aI hq));refine wpAny_assign_Name (GB (v:=V.ref L) I' hN hy (.inl lh) rfl (fun s2 I2⟨a,sb,ha⟩=>?_) (.inr lh));obtain⟨f0,f1,f2,f3,f4,f5⟩:=f;have haC:C≠a:=by grind
 refine⟨m,hn.sameBut sb haC,fun h3 sb3=>?_⟩;exact⟨_,H',I2.turned (fun b o hb e=>(sb3.2 b hb).trans e) f0 f1 f3 f4 f5,q⟩
theorem vX(hk:env.scope.kind= .function)(hy:env.scope.names.lookup y=some .local)(hl:(py.line==pos.line)=true)(ha:(scope.names.any fun(n,k)=>n==y&&(k== .local||k== .cell))=false):swapsWith (.ListComp elt gs scope pos) (some (.Name y py)) l env=pure true:=by
 have ky:env.kindOf y=some .local:=hy;have hb:env.blockKind= .function:=by unfold Env.blockKind;rw[hk];rfl
 unfold swapsWith;simp only[hb,ky,ha,Expr.pos,hl];rfl
end
def cu(N:List Str)(sc scope:Scope)(own:List (Str×Nat)):Bool:=
 (match scope.kind with| .function=>true|_=>false)&&(scope.names.all fun y=>decide (scope.names.lookup y.1=some y.2))&&(own.all fun p=>decide (N[p.2]?=some p.1))&&
  (scope.names.all fun y=>match y.2 with
   | .free=>(match sc.names.lookup y.1 with|some .cell=>true|some .free=>true|_=>false)
   | .local=>decide (y.1∈own.map (·.1))||decide (y.1∉N)
   | .cell=>decide (y.1∈own.map (·.1))||decide (y.1∉N)
   |_=>true)
theorem cK(h:cu N sc scope own=true):jO N sc scope own:=by
 unfold cu at h;simp only[dq,oq,dA]at h;obtain⟨⟨⟨h1,h2⟩,h3⟩,h4⟩:=h;refine⟨?_,h2,h3,fun y hy e=>?_,fun y hy e=>?_⟩
 ·lia
 ·grind
 ·grind
section
variable{κ:Type} [DecidableEq κ]
def bD(ab:List (κ×V))(k:κ):Option V:=(ab.find? fun kv=>decide (kv.1=k)).map (·.2)
def putK(ab:List (κ×V))(k:κ)(v:V):List (κ×V):=
 if(ab.any fun kv=>decide (kv.1=k))=true then ab.map (fun kv=>if kv.1=k then(kv.1,v)else kv)else ab++[(k,v)]
theorem zL{k:κ}(e:p.1=k):bD (p::r) k=some p.2:=by simp[bD,jD,e]
theorem AO{k:κ}(e:¬p.1=k):bD (p::r) k=bD r k:=by simp[bD,jD,e]
theorem Iz(k:κ):∀ab:List (κ×V),(ab.any fun kv=>decide (kv.1=k))=(bD ab k).isSome
 |[]=>rfl
 |p::r=>by
  rw[rg];by_cases e:p.1=k
  ·simp only[zL e,fZ e,Bool.true_or,Option.isSome_some]
  ·rw[AO e,cU e,JV];exact Iz k r
theorem zQ(ab:List (κ×V))(k:κ)(v:V):(putK ab k v).length≤ab.length+1:=by unfold putK;grind
theorem gf.Je(r:gf o u):o.isSome=u.isSome:=by
 cases o with
 |none=>cases u with
  |none=>rfl
  |some _=>exact(r).elim
 |some _=>cases u with
  |none=>exact(r).elim
  |some _=>rfl
theorem gf.getD(r:gf o u)(rd:RelV d d'):RelV (o.getD d) (u.getD d'):=by
 cases o with
 |none=>cases u with
  |none=>exact rd
  |some _=>exact(r).elim
 |some _=>cases u with
  |none=>exact(r).elim
  |some _=>exact r
theorem KV.val(r:KV ab vs)(k:κ):gf (bD ab k) (valueAt vs k):=by
 induction r with
 |nil=>exact pR
 | @cons p q ps qs h t ih=>
  obtain⟨h1,h2⟩:=h;by_cases e:p.1=k
  ·have e':q.1=k:=h1.symm.trans e;have b:valueAt (q::qs) k=some q.2:=by simp[valueAt,jD,e']
   rw[zL e,b];exact h2
  ·have e':¬q.1=k:=fun z=>e (h1.trans z);have b:valueAt (q::qs) k=valueAt qs k:=by simp[valueAt,jD,e']
   rw[AO e,b];exact ih
theorem KV.any(r:KV ab vs)(k:κ):(ab.any fun kv=>decide (kv.1=k))=vs.any fun kv=>decide (kv.1=k):=by
 induction r with
 |nil=>rfl
 |cons h t ih=>rw[rg,rg,ih,h.1]
theorem KV.Aw(r:KV ab vs)(k:κ)(ry:RelV y u):
  KV (ab.map fun kv=>if kv.1=k then(kv.1,y)else kv) (vs.map fun kv=>if kv.1=k then(kv.1,u)else kv):=by
 induction r with
 |nil=>exact .nil
 | @cons p q ps qs h t ih=>
  rw[a9,a9];refine .cons ?_ ih
  lia
theorem KV.put(r:KV ab vs)(k:κ)(ry:RelV y u):KV (putK ab k y) (stored vs k u):=by
 unfold putK stored;rw[r.any k];by_cases e:(vs.any fun kv=>decide (kv.1=k))=true
 ·rw[ag e,ag e];exact r.Aw k ry
 ·rw[af e,af e];exact Paired.snoc r ⟨rfl,ry⟩
theorem KV.length(r:KV ab vs):ab.length=vs.length:=qV r
end
theorem oP(r:RelV (kV k) u):(dZ P w).is k u=true:=by
 cases k with
 |inl i=>obtain⟨t,e⟩:=(r);subst e;exact O6 P w i t
 |inr x=>obtain⟨t,e⟩:=(r);subst e;exact S5 P w x t
theorem Dx:∀{ks:List Key}{us:List Value},Vals (ks.map kV) us→ItemsAre (dZ P w) ks us
 |[],_,r=>by rw[gQ]at r;cases r;exact .nil
 |k::ks,_,r=>by
  rw[a9]at r;cases r with
  |cons h t=>exact .cons (oP h) (Dx t)
abbrev KT(H:Hp):List (List Key×V)→List (List Key×Addr×Value)→Prop:=Paired fun p q=>p.1=q.1∧H q.2.1=some (.tup (p.1.map kV))∧RelV p.2 q.2.2
theorem KT.val(r:KT H ab xs)(k:List Key):gf (bD ab k) ((atKey xs k).map (·.2)):=by
 induction r with
 |nil=>exact pR
 | @cons p q ps qs h t ih=>
  obtain⟨h1,_,h2⟩:=h;by_cases e:p.1=k
  ·have e':q.1=k:=h1.symm.trans e;have b:atKey (q::qs) k=some q.2:=by simp[atKey,jD,e']
   rw[zL e,b];exact h2
  ·have e':¬q.1=k:=fun z=>e (h1.trans z);have b:atKey (q::qs) k=atKey qs k:=by simp[atKey,jD,e']
   rw[AO e,b];exact ih
theorem KT.Aw(r:KT H ab xs)(k:List Key)(ry:RelV y u):
  KT H (ab.map fun kv=>if kv.1=k then(kv.1,y)else kv) (xs.map (putAt k u)):=by
 induction r with
 |nil=>exact .nil
 | @cons p q ps qs h t ih=>
  rw[a9,a9];refine .cons ?_ ih;obtain⟨h1,h2,h3⟩:=h;unfold putAt
  lia
theorem KT.put(r:KT H ab xs)(k:List Key)(hb:H b=some (.tup (k.map kV)))(ry:RelV y u):
  KT H (putK ab k y) (storedH xs k b u):=by
 have e:(ab.any fun kv=>decide (kv.1=k))=(atKey xs k).isSome:=by rw[Iz,(r.val k).Je,Option.isSome_map]
 unfold putK storedH;rw[e];by_cases q:(atKey xs k).isSome=true
 ·rw[ag q,ag q];exact r.Aw k ry
 ·rw[af q,af q];exact Paired.snoc r ⟨rfl,hb,ry⟩
theorem KT.keeps(r:KT H ab xs)(ht:∀b ys,H b=some (.tup ys)→H' b=some (.tup ys)):KT H' ab xs:=
 Paired.AV r fun _ _ z=>⟨z.1,ht _ _ z.2.1,z.2.2⟩
section
variable{P:Program}{w:World}{H:Hp}{h:Heap}{a:Addr}
theorem CB(ok:b_ P w H h)(e:Rd H a u):cw P w H h a u:=e.ok ok
theorem t_(ok:b_ P w H h)(e:Rd H a (.dK ab)):ab.length≤sizeLine∧(a==sysModules)=false∧∃vs,KV ab vs∧h.DictOf (dZ P w) a vs:=
 show cw P w H h a (.dK ab)from CB ok e
theorem GK(ok:b_ P w H h)(e:H a=some (.dK ab)):ab.length≤sizeLine∧(a==sysModules)=false∧∃vs,KV ab vs∧h.DictOf (dZ P w) a vs:=t_ ok (.inl e)
theorem vW(ok:b_ P w H h)(e:H a=some (.tup (ks.map kV))):(tupleKind (dZ P w)).is h ks a:=by obtain⟨_,ao,r,o,h1,h2,n,h3⟩:=(ok a _ e);exact⟨o,ao.toArray,n,h1,h2,h3,by simpa using Dx r⟩
theorem ud(ok:b_ P w H h)(e:Rd H a (.dT ab)):ab.length≤sizeLine∧(a==sysModules)=false∧
  ∃xs,KT H ab xs∧h.DictOfH (tupleKind (dZ P w)) a xs:=by
 obtain⟨z,y,xs,r,o,es,ep,h1,h2,h3,h4,h5⟩:=(CB ok e);refine⟨z,y,xs,r,o,es,ep,h1,h2,h3,h4,fun x hx=>?_,h5⟩;have all:∀{l:List (List Key×V)}{m:List (List Key×Addr×Value)},KT H l m→∀x∈m,(tupleKind (dZ P w)).is h x.1 x.2.1:=by
  intro l m q;induction q with
  |nil=>intro x hx;exact nomatch hx
  | @cons p q ps qs hq t ih=>
   intro x hx;rcases a_.mp hx with e|hx
   ·subst e;exact vW ok (by rw[←hq.1];exact hq.2.1)
   ·simp[*]
 grind
theorem V5(ok:b_ P w H h)(e:H a=some (.dT ab)):ab.length≤sizeLine∧(a==sysModules)=false∧
  ∃xs,KT H ab xs∧h.DictOfH (tupleKind (dZ P w)) a xs:=ud ok (.inl e)
end
def i5(H:Hp)(a:Addr)(y:V)(r:Option V):Prop:=
 (∃ab k,Rd H a (.dK ab)∧y=kV k∧r=bD ab k)∨∃ab k b,Rd H a (.dT ab)∧y= .ref b∧H b=some (.tup (k.map kV))∧r=bD ab k
def lT(H:Hp)(a:Addr)(y v:V)(H':Hp):Prop:=
 (∃ab k,H a=some (.dK ab)∧y=kV k∧ab.length<sizeLine∧H'=upd H a (.dK (putK ab k v)))∨
 ∃ab k b,H a=some (.dT ab)∧y= .ref b∧H b=some (.tup (k.map kV))∧ab.length<sizeLine∧H'=upd H a (.dT (putK ab k v))
theorem i5.k{k:Key}(e:H a=some (.dK ab)):i5 H a (kV k) (bD ab k):= .inl ⟨ab,k, .inl e,rfl,rfl⟩
theorem i5.t{k:List Key}(e:H a=some (.dT ab))(eb:H b=some (.tup (k.map kV))):i5 H a (.ref b) (bD ab k):= .inr ⟨ab,k,b, .inl e,rfl,eb,rfl⟩
theorem lT.k{k:Key}(e:H a=some (.dK ab))(hl:ab.length<sizeLine):lT H a (kV k) v (upd H a (.dK (putK ab k v))):= .inl ⟨ab,k,e,rfl,hl,rfl⟩
theorem lT.t{k:List Key}(e:H a=some (.dT ab))(eb:H b=some (.tup (k.map kV)))(hl:ab.length<sizeLine):
  lT H a (.ref b) v (upd H a (.dT (putK ab k v))):= .inr ⟨ab,k,b,e,rfl,eb,hl,rfl⟩
section
variable{X:Cx}{pins:YW}{σ:St}{H:Hp}{s:Shared}{a:Addr}{y v:V}{u r:Value}{o:Option V}{A:Around}{E:YY}
theorem Inv.big(I:Inv X pins σ H s):sysModules<s.heap.objs.size:=by have h:mainGlobals<s.heap.objs.size:=(I.mod.glob.keeps I.bk).lt;exact rE (by decide) h
theorem Sb(hu:A.units+1<cLine)(I:Inv X pins σ H s)(g:i5 H a y (some v))(ry:RelV y u)(h:∀w' s',Inv X pins σ H s'→RelV v w'→Q w' s'):
  wpAny (model X.prog X.w) A (getItem (.ref a) u) Q E s:=by
 rcases g with⟨ab,k,e,ey,l⟩|⟨ab,k,b,e,ey,eb,l⟩
 ·subst ey;obtain⟨z,hd,vs,rel,dd⟩:=t_ I.aG e;obtain⟨w',hw,bA⟩:=gf.some_of (by rw[l];exact rel.val k);exact wpAny_getItem_of (oP ry) dd.mapOf hw (h w' _ (I.tok _) bA)
 ·subst ey;cases (ry);obtain⟨z,hd,xs,rel,dd⟩:=ud I.aG e;obtain⟨w',hw,bA⟩:=gf.some_of (by rw[l];exact rel.val k);obtain⟨p,hp,hp2⟩:=Ym.mp hw;refine wpAny_getItem_heap (JW hu) (vW I.aG eb) dd hp ?_;rw[hp2];exact h w' _ (I.tok _) bA
theorem AJ(I:Inv X pins σ H s)(mu:qt (H a))(hs:Heap.SameBut a s.heap h')(he:∃q,h'.get? a=some q)(new:cw X.prog X.w (upd H a ob) h' a ob):
  Inv X pins σ (upd H a ob) {s with heap:=h',toks:=t'}:=
 I.write mu (.inl rfl) (fun b q hb z=>(hs.2 b hb).trans z) he new
theorem FU(z:ab.length≤sizeLine)(hd:(a==sysModules)=false)(rel:KV ab vs)(dd:h'.DictOf (dZ P w) a vs):
  cw P w H' h' a (.dK ab):=⟨z,hd,vs,rel,dd⟩
theorem PQ(hu:A.units+1<cLine)(I:Inv X pins σ H s)(g:lT H a y v H')(ry:RelV y u)(rv:RelV v r)(h:∀s',Inv X pins σ H' s'→Q () s'):
  wpAny (model X.prog X.w) A (setItem (.ref a) u r) Q E s:=by
 rcases g with⟨ab,k,e,ey,l,eH⟩|⟨ab,k,b,e,ey,eb,l,eH⟩
 ·subst ey eH;obtain⟨z,hd,vs,rel,dd⟩:=GK I.aG e;have hz:vs.length≤sizeLine:=by rw[←rel.length];exact z
  have hl:(putK ab k v).length≤sizeLine:=by have:=zQ ab k v;lia
  refine wpAny_setItem_pairs (oP ry) dd fun h' dd' hs=>h _ ?_;have he:∃q,h'.get? a=some q:=let⟨q,_,_,hq,_⟩:=dd';⟨q,hq⟩;exact AJ I (by rw[e];exact pR) hs he (FU hl hd (rel.put k rv) dd')
 ·subst ey eH;cases (ry);obtain⟨z,hd,xs,rel,dd⟩:=V5 I.aG e;have hz:xs.length≤sizeLine:=by rw[←qV rel];exact z
  have hl:(putK ab k v).length≤sizeLine:=by have:=zQ ab k v;lia
  refine wpAny_setItem_heap (JW hu) (vW I.aG eb) dd fun h' dd' hs=>h _ ?_;obtain⟨q,es,ep,hq,h2,h3,h4,_,h5⟩:=dd';refine AJ I (by rw[e];exact pR) hs ⟨q,hq⟩ ⟨hl,hd,_,(rel.put k eb rv).keeps fun c ys ec=>?_,q,es,ep,hq,h2,h3,h4,h5⟩;rw[aB (HL ec e (fun z=>nomatch z))];exact ec
end
def sv(i:Expr):Prop:=∀ov iv,subscripted i false ov iv=operate [ov,iv] (getItem ov iv)
theorem D5{T id:String}(hl:typeLookup (.type T) "__getitem__"=pure (some (.builtin id)))(hs:sv slice)(h:wpAny (model prog w) A (eval value env) (fun o s₁=>wpAny (model prog w) A (eval slice env) (fun i s₂=>s₂.TypeIs o T∧wpAny (model prog w) A (getItem o i) Q E s₂) E s₁) E s):
  wpAny (model prog w) A (eval (.Subscript value slice pos) env) Q E s:=by
 refine Subscript_ (iV h (fun o s₁ h₁=>iV h₁ (fun i s₂ h₂=>?_) fun _ _ x=>x) fun _ _ x=>x);obtain⟨hT,h₂⟩:=h₂;refine ak ?_;rw[getitemInPython_of_ne hT.not_modules];refine ak (wpAny_specialOf hT hl ?_);have fin:wpAny (model prog w) A (subscripted slice false o i) (fun r s₃=>wpAny (model prog w) A (letTemporaryGo value o r>>=fun _=>pure r) Q E s₃) E s₂:=by rw[hs o i];exact wpAny_operating (iV h₂ (fun r s₃ h₃=>ak (wpAny_letTemporaryGo (aI h₃))) fun _ _ x=>x)
 first
  |exact aI (ak fin)
  |exact ak (aI (ak fin))
  |exact ak fin
theorem RE(I:Inv X pins σ H s)(g:i5 H a y o):s.TypeIs (.ref a) "dict":=by
 rcases g with⟨ab,k,e,_,_⟩|⟨ab,k,b,e,_,_,_⟩
 ·obtain⟨_,_,vs,_,dd⟩:=t_ I.aG e;exact dd.typeIs
 ·obtain⟨_,_,xs,_,dd⟩:=ud I.aG e;exact dd.typeIs
def UY(td ty:TE):TE:=fun σ H Q=>td σ H fun x H1=>ty σ H1 fun y H2=>∃a v,x= .ref a∧i5 H2 a y (some v)∧Q v H2
def ME(td ty tv:TE):TS:=fun D σ H=>tv σ H fun v H1=>td σ H1 fun x H2=>ty σ H2 fun y H3=>∃a H4,x= .ref a∧lT H3 a y v H4∧D.nx σ H4
section
variable{X:Cx}{o i e value:Expr}{pos pos' cg:Pos}{td ty tv:TE}
theorem OZ(hu:X.A.units+1<cLine)(ho:PE X o td)(hi:PE X i ty)(hs:sv i):PE X (.Subscript o i pos) (UY td ty):=by intro pins s σ H Q I h;refine D5 Yn.lookup hs (aP (ho pins s σ H _ I h) fun u s1⟨x,H1,I1,rx,q1⟩=>aP (hi pins s1 σ H1 _ I1 q1) fun iv s2 hh=>?_);obtain⟨y,H2,I2,ry,a,v,ex,g,q2⟩:=hh;subst ex;obtain rfl:u=Value.ref a:=rx;exact⟨RE I2 g,Sb hu I2 g ry fun w' s3 I3 bA=>⟨v,H2,I3,bA,q2⟩⟩
theorem Av(hu:X.A.units+1<cLine)(ho:PE X o td)(hi:PE X i ty)(hv:PE X value tv)(hs:swapsWith value (some (.Subscript o i pos')) pos.line X.env=pure false):
  PS X (.Assign [.Subscript o i pos'] value pos) (ME td ty tv):=by
 intro pins s σ H D I h;refine wpAny_Assign_Subscript (aP (hv pins s σ H _ I h) fun r s1⟨v,H1,I1,rv,q1⟩=>aP (ho pins s1 σ H1 _ I1 q1) fun u s2⟨x,H2,I2,rx,q2⟩=>aP (hi pins s2 σ H2 _ I2 q2) fun iv s3 hh=>?_) hs;obtain⟨y,H3,I3,ry,a,H4,ex,g,q3⟩:=hh;subst ex;obtain rfl:u=Value.ref a:=rx;exact PQ hu I3 g ry rv fun s4 I4=>⟨σ,H4,I4,q3⟩
end
theorem Ee(h:Heap)(hb:sysModules<h.objs.size):cw P w H (h.push {cls:= .type "dict",data:= .dict #[]}) h.objs.size (.dK []):=
 ⟨eG _,iT.mpr (iU (bY hb)),[], .nil,Heap.DictOf.new h⟩
theorem Xi(h:Heap)(hb:sysModules<h.objs.size):cw P w H (h.push {cls:= .type "dict",data:= .dict #[]}) h.objs.size (.dT []):=
 ⟨eG _,iT.mpr (iU (bY hb)),[], .nil,_,#[],0,cy _ rfl,⟨rfl,rfl,rfl⟩,rfl,rfl,ou⟩
def UC:TE:=fun _ H Q=>∀p,H p=none→Q (.ref p) (upd H p (.dK []))
def Om:TE:=fun _ H Q=>∀p,H p=none→Q (.ref p) (upd H p (.dT []))
section
variable{X:Cx}{pos:Pos}
theorem VU:PE X (.Dict [] [] pos) UC:=fun pins s σ H Q I h=>
 wpAny_Dict_empty ⟨.ref s.heap.objs.size,_,I.laid (fun _ _ q=>bJ _ q) (aY _) (Ee s.heap I.big),rfl,h _ (I.aG.fresh (aY _))⟩
theorem OK:PE X (.Dict [] [] pos) Om:=fun pins s σ H Q I h=>
 wpAny_Dict_empty ⟨.ref s.heap.objs.size,_,I.laid (fun _ _ q=>bJ _ q) (aY _) (Xi s.heap I.big),rfl,h _ (I.aG.fresh (aY _))⟩
end
def wq:List (TE×TE)→St→Hp→(List (V×V)→Hp→Prop)→Prop
 |[],_,H,Q=>Q [] H
 |(tk,tv)::r,σ,H,Q=>tk σ H fun x H1=>tv σ H1 fun y H2=>wq r σ H2 fun ps H3=>Q ((x,y)::ps) H3
abbrev VV:List (V×V)→List (Value×Value)→Prop:=Paired fun p q=>RelV p.1 q.1∧RelV p.2 q.2
def sX(X:Cx)(pos:Pos)(keys:List (Option Expr))(values:List Expr)(ij:List (TE×TE)):Prop:=
 ∀(pins:YW)(s:Shared)(σ:St)(H:Hp)(Q:List (V×V)→Hp→Prop),Inv X pins σ H s→wq ij σ H Q→
  wpAny (model X.prog X.w) X.A (evalPairs (pairTrees keys values X.env pos)) (fun vs s'=>∃ps H',Inv X pins σ H' s'∧VV ps vs∧Q ps H') X.xe s
theorem UD:sX X pos [] [] []:=fun pins s σ H Q I h=>pairTrees_nil_walk ⟨[],H,I, .nil,h⟩
theorem VB(hk:PE X k tk)(hv:PE X v tv)(hr:sX X pos ks vs ij):
  sX X pos (some k::ks) (v::vs) ((tk,tv)::ij):=fun pins s σ H Q I h=>
 pairTrees_cons_walk (aP (hk pins s σ H _ I h) fun u s1⟨x,H1,I1,rx,q1⟩=>aP (hv pins s1 σ H1 _ I1 q1) fun w2 s2⟨y,H2,I2,ry,q2⟩=>
  aP (hr pins s2 σ H2 _ I2 q2) fun ws s3⟨ps,H3,I3,rel,q3⟩=>⟨(x,y)::ps,H3,I3, .cons ⟨rx,ry⟩ rel,q3⟩)
def nR(ab more:List (Key×V)):List (Key×V):=more.foldl (fun acc kv=>putK acc kv.1 kv.2) ab
theorem KV.merge:∀{more:List (Key×V)}{rs:List (Key×Value)}{ab:List (Key×V)}{vs:List (Key×Value)},KV more rs→KV ab vs→KV (nR ab more) (merged vs rs):=by
 intro more rs ab vs r;induction r generalizing ab vs with
 |nil=>intro q;exact q
 | @cons p q ps qs h t ih=>
  intro r0;have e:KV (putK ab p.1 p.2) (stored vs q.1 q.2):=by have:=r0.put p.1 h.2;simp_all
  exact ih e
theorem Es:∀(more ab:List (Key×V)),(nR ab more).length≤ab.length+more.length
 |[],ab=>by show ab.length≤ab.length+0;simp
 |p::r,ab=>by have h1:=Es r (putK ab p.1 p.2);have h2:=zQ ab p.1 p.2;show(nR (putK ab p.1 p.2) r).length≤_;grind
theorem Ed:∀{ab:List (Key×V)}{ws:List (Value×Value)},VV (ab.map fun kv=>(kV kv.1,kv.2)) ws→∃rs,Carries (dZ P w) ws rs∧KV ab rs
 |[],_,r=>by rw[gQ]at r;cases r;exact⟨[],pR, .nil⟩
 |p::ab,_,r=>by
  rw[a9]at r;cases r with
  | @cons a b as bs h t=>obtain⟨rs,c,q⟩:=Ed t;obtain⟨b1,b2⟩:=b;exact⟨(p.1,b2)::rs,⟨oP h.1,rfl,c⟩, .cons ⟨rfl,h.2⟩ q⟩
def K1(ij:List (TE×TE)):TE:=fun σ H Q=>∀p,H p=none→wq ij σ (upd H p (.dK [])) fun ps H2=>H2 p=some (.dK [])∧∃ab:List (Key×V),ps=ab.map (fun kv=>(kV kv.1,kv.2))∧ab.length≤15∧Q (.ref p) (upd H2 p (.dK (nR [] ab)))
theorem OR(h:sX X pos keys values ij)(cY:keys.all (·.isSome)=true)(hl:keys.length=values.length)(h0:keys≠[])(h15:keys.length≤15):PE X (.Dict keys values pos) (K1 ij):=by
 intro pins s σ H Q I q;have hn:=I.aG.fresh (aY s.heap.objs.size);have I1:=I.laid (a:=s.heap.objs.size) (o:= .dK []) (t':=s.toks) (fun _ _ q=>bJ _ q) (aY _) (Ee s.heap I.big);refine wpAny_Dict_walk (knd:=dZ X.prog X.w) cY hl h0 h15 (aP (h pins _ σ _ _ I1 (q _ hn)) fun ws s2 hh=>?_);obtain⟨ps,H2,I2,rel,e,ab,ep,lk,q2⟩:=hh;subst ep;obtain⟨rs,c,rk⟩:=Ed rel;obtain⟨z,hd,vs0,r0,dd⟩:=GK I2.aG e;cases r0;refine⟨rs,c,dd,fun h' dd' hs=>⟨.ref s.heap.objs.size,_,?_,rfl,q2⟩⟩;have hz:(nR [] ab).length≤sizeLine:=by have h1:=Es ab [];rw[iW]at h1;rw[qZ];lia
 have he:∃q,h'.get? s.heap.objs.size=some q:=let⟨q,_,_,hq,_⟩:=dd';⟨q,hq⟩;exact AJ I2 (by rw[e];exact pR) hs he (FU hz hd (rk.merge .nil) dd')
structure M2(X:Cx)(o:Expr)(m:Str)(apos:Pos)(e f:Expr)(eZ:Pos):Prop where
 base:attributeBase o m X.env (eval o X.env)= eval o X.env
 UZ:((backTo eZ (starEach [e,f] X.env)).all (fun x=>!x.1)&&(backToKw eZ (keywordEach [] X.env)).all (fun x=>x.1.isSome)
  &&decide (([e,f]:List Expr).length+([]:List Keyword).length+(if([]:List Keyword).isEmpty then 0 else 1)<30))=true
 line:(apos.endLine==eZ.line)=true
 trees:backTo eZ (starEach [e,f] X.env)=[(false,eval e X.env),(false,eval f X.env)]
def IS(H:Hp)(a:Addr):Prop:=(∃ab,Rd H a (.dK ab))∨∃ab,Rd H a (.dT ab)
theorem OF(I:Inv X pins σ H s)(d:IS H a):
  s.TypeIs (.ref a) "dict"∧(∀b,Value.ref a= .ref b→∃ob,s.heap.get? b=some ob∧ob.dict=none)∧(a==sysModules)=false:=by
 rcases d with⟨ab,e⟩|⟨ab,e⟩
 ·obtain⟨_,hd,vs,_,dd⟩:=t_ I.aG e;refine⟨dd.typeIs,fun b q=>?_,hd⟩;cases q;obtain⟨ob,_,_,h1,h2,_⟩:=dd;exact⟨ob,h1,h2.2.1⟩
 ·obtain⟨_,hd,xs,_,dd⟩:=ud I.aG e;refine⟨dd.typeIs,fun b q=>?_,hd⟩;cases q;obtain⟨ob,_,_,h1,h2,_⟩:=dd;exact⟨ob,h1,h2.2.1⟩
section
variable{X:Cx}{pins:YW}{σ:St}{H:Hp}{s:Shared}{a:Addr}{y d:V}{u r:Value}{o:Option V}{A:Around}{E:YY}
theorem MZ(hu:A.units+1<cLine)(I:Inv X pins σ H s)(g:i5 H a y o)(ry:RelV y u)(rd:RelV d r)(h:∀w' s',Inv X pins σ H s'→RelV (o.getD d) w'→Q w' s'):
  wpAny (model X.prog X.w) A (call (.builtin "dict.get") [.ref a,u,r]) Q E s:=by
 rcases g with⟨ab,k,e,ey,l⟩|⟨ab,k,b,e,ey,eb,l⟩
 ·subst ey;obtain⟨z,hd,vs,rel,dd⟩:=t_ I.aG e;refine call_meetsIn JX dd.typeIs Yo (Yp _ _ _) (meets_dict_get_default (dZ X.prog X.w) a (oP ry) hd r) ⟨_,dd.mapOf,h _ _ (I.tok _) ?_⟩;rw[l];exact(rel.val k).getD rd
 ·subst ey;cases (ry);obtain⟨z,hd,xs,rel,dd⟩:=ud I.aG e;refine call_meetsIn JX dd.typeIs Yo (Yp _ _ _) (meetsH_dict_get_default (tupleKind (dZ X.prog X.w)) a b hd r) ⟨JW hu,k,xs,vW I.aG eb,dd,h _ _ (I.tok _) ?_⟩;rw[l];exact(rel.val k).getD rd
end
def Wq(td ty tx:TE):TE:=fun σ H Q=>td σ H fun x H1=>∃a,x= .ref a∧IS H1 a∧ty σ H1 fun y H2=>tx σ H2 fun z H3=>∃o,i5 H3 a y o∧Q (o.getD z) H3
section
variable{X:Cx}{o e f:Expr}{apos eZ:Pos}{td ty tx:TE}
theorem FX(hu:X.A.units+1<cLine)(ho:PE X o td)(he:PE X e ty)(hf:PE X f tx)(m:M2 X o "get" apos e f eZ):PE X (.Call (.Attribute o "get" apos) [e,f] [] eZ) (Wq td ty tx):=by
 intro pins s σ H Q I h;refine wpAny_Call_method m.base m.UZ m.line PySem.F.plainAttrs_dict JX PySem.F.type_dict_get (aP (ho pins s σ H _ I h) fun u s1 hh=>?_);obtain⟨x,H1,I1,rx,a,ex,d,q1⟩:=hh;subst ex;obtain rfl:u=Value.ref a:=rx;obtain⟨t1,t2,_⟩:=OF I1 d;refine⟨t1,t2,?_⟩;rw[m.trees];refine Calls.callWith_builtin rfl (Calls.evalArgs_plain (JO (aP (he pins s1 σ H1 _ I1 q1) fun iv s2⟨y,H2,I2,ry,q2⟩=>
  JO (aP (hf pins s2 σ H2 _ I2 q2) fun fv s3⟨z,H3,I3,rz,ov,g,q3⟩=>Calls.spliced_nil ?_))))
 exact MZ hu I3 g ry rz fun w' s4 I4 bA=>⟨_,H3,I4,bA,q3⟩
end
section
variable{X:Cx}{pins:YW}{σ:St}{H:Hp}{s:Shared}{h':Heap}
theorem Inv.NY{ch:List Addr}(I:Inv X pins σ H s)(k:∀b o,b∉ch→s.heap.get? b=some o→h'.get? b=some o)(hf:∀b∈ch,jo X pins H b):Inv X pins σ H {s with heap:=h',toks:=t'}:=by
 have nit:∀b u,H b=some u→b∉ch:=fun b u e z=>by
  have q:=(hf b z).1
  lia
 refine I.step (fun b hb=>⟨(hf b hb).2.2.2.1,(hf b hb).2.1,(hf b hb).2.2.2.2.1,(hf b hb).2.2.2.2.2⟩) (fun b o _ _ hc e _=>k b o hc e) (fun b o _ _ hc e _=>⟨o.slots,k b o hc e⟩)
  (fun _ _ _ _ n=>n) (fun b o hc e=>⟨o,k b o hc e⟩) (fun _ _ e=>e) (fun _ _ _ e=>e) (fun b ps e=>⟨#[],by rw[e];simp⟩) (fun m hm=>?_) (fun b u e=>?_) I.bare
 ·obtain⟨o,es,ep,ho,r⟩:=hm;exact⟨o,es,ep,k _ o (fun z=>(hf _ z).2.1 rfl) ho,r⟩
 ·refine(I.aG b u e).kJ (fun c v hc q=>k c v ?_ q) (fun _ q=>q) fun _ _ q=>q;grind
theorem Inv.wo{ch:List Addr}(I:Inv X pins σ H s)(k:∀b o,b∉ch→s.heap.get? b=some o→h'.get? b=some o)(hf:∀b∈ch,jo X pins H b)(hT:s.heap.objs.size≤T)(new:cw X.prog X.w (upd H T ob) h' T ob):Inv X pins σ (upd H T ob) {s with heap:=h',toks:=t'}:=by
 have hn:H T=none:=I.aG.fresh hT;have nit:∀b u,H b=some u→b∉ch:=fun b u e z=>by
  have q:=(hf b z).1
  lia
 refine I.step (fun b hb=>⟨(hf b hb).2.2.2.1,(hf b hb).2.1,(hf b hb).2.2.2.2.1,(hf b hb).2.2.2.2.2⟩) (fun b o _ _ hc e _=>k b o hc e) (fun b o _ _ hc e _=>⟨o.slots,k b o hc e⟩)
  (fun b o _ e n=>?_) (fun b o hc e=>⟨o,k b o hc e⟩) (fun b xs e=>?_) (fun b o u e=>?_) (fun b ps e=>⟨#[],?_⟩) (fun m hm=>?_) (fun b u e=>?_) I.bare
 ·rw[aB (bY (fc (bF e) hT))];exact n
 ·rw[aB (bB e hn)];exact e
 ·rw[aB (bB e hn)];exact e
 ·rw[aB (bB e hn),e];simp
 ·obtain⟨o,es,ep,ho,r⟩:=hm;exact⟨o,es,ep,k _ o (fun z=>(hf _ z).2.1 rfl) ho,r⟩
 ·by_cases hb:b=T
  ·subst hb;rw[aE]at e
   lia
  ·rw[aB hb]at e;refine(I.aG b u e).kJ (fun c v hc q=>k c v ?_ q) (fun c q=>by rw[aB (bB q hn)];exact q) fun c xs q=>by rw[aB (bB q hn)];exact q
   grind
theorem Inv.lock(I:Inv X pins σ H s)(h:H d=some u)(mu:qt (some u)):∃od,Inv X pins σ (upd H d (.aX od u)) s:=by
 have x:=I.aG d u h;have ex:∃od,s.heap.get? d=some od:=by
  cases u with
  |lst xs=>obtain⟨_,_,_,_,e⟩:=x;exact⟨_,e⟩
  |dK ab=>obtain⟨_,_,_,_,o,_,_,e,_⟩:=x;exact⟨o,e⟩
  |dT ab=>obtain⟨_,_,_,_,o,_,_,e,_⟩:=x;exact⟨o,e⟩
  |set S n=>obtain⟨o,_,_,_,e,_⟩:=x;exact⟨o,e⟩
  |ins C dx fs=>obtain⟨_,_,_,e,_⟩:=x;exact⟨_,e⟩
  |ext φ=>obtain⟨_,⟨_,e⟩,_⟩:=x;exact⟨_,e⟩
  |_=>exact False.elim mu
 obtain⟨od,e⟩:=ex;have new:cw X.prog X.w (upd H d (.aX od u)) s.heap d (.aX od u):=by
  refine⟨e,x.kJ (fun b v _ q=>q) (fun b q=>?_) fun b xs q=>?_⟩
  ·rw[aB (fun z=>by rw[z,h]at q;cases q;exact mu)];exact q
  ·rw[aB (fun z=>by rw[z,h]at q;cases q;exact mu)];exact q
 exact⟨od,I.write (by rw[h];exact mu) (.inl rfl) (fun b v _ q=>q) ⟨od,e⟩ new⟩
theorem Inv.unlock(I:Inv X pins σ H s)(h:H d=some (.aX od u))(hn:∀o' u',X.kb d≠some (.aX o' u')):Inv X pins σ (upd H d u) s:=by
 have neH:∀b o,H b=some o→(∀o' u',o≠ .aX o' u')→b≠d:=fun b o e da z=>by grind
 have neN:∀b,H b=none→b≠d:=fun b e z=>by rw[z,h]at e;cases e
 refine⟨I.ok,I.os,I.bare,⟨I.base.keep,I.base.slot,fun b o e n hx=>?_,I.base.there,fun b xs e=>?_,fun b o x e=>?_,fun b ps e=>?_⟩,I.loc,I.cell,?_,fun x c e=>?_,fun p hp=>?_,fun b o e=>?_,I.len⟩
 ·rw[aB (neN b (I.base.free b o e n hx))];exact I.base.free b o e n hx
 ·have q:=I.base.mf b xs e;rw[aB (neH b _ q (fun _ _ z=>nomatch z))];exact q
 ·have q:=I.base.kZ b o x e;rw[aB (fun z=>by rw[z]at e;exact hn _ _ e)];exact q
 ·obtain⟨m,q⟩:=I.base.mw b ps e;exact⟨m,by rw[aB (neH b _ q (fun _ _ z=>nomatch z))];exact q⟩
 ·rw[aB (neN _ I.free)];exact I.free
 ·rw[aB (neN c (I.iz x c e))];exact I.iz x c e
 ·obtain⟨e,n,r⟩:=I.pin p hp;exact⟨e,by rw[aB (neN _ n)];exact n,r⟩
 ·by_cases hb:b=d
  ·rw[hb,aE]at e;cases e;rw[hb];obtain⟨_,x⟩:=I.aG d _ h;exact x.kJ (fun c v _ q=>q) (fun c q=>by rw[aB (neH c _ q (fun _ _ z=>nomatch z))];exact q) fun c xs q=>by rw[aB (neH c _ q (fun _ _ z=>nomatch z))];exact q
  ·rw[aB hb]at e;exact(I.aG b o e).kJ (fun c v _ q=>q) (fun c q=>by rw[aB (neH c _ q (fun _ _ z=>nomatch z))];exact q) fun c xs q=>by rw[aB (neH c _ q (fun _ _ z=>nomatch z))];exact q
end
section
variable{X:Cx}
theorem H_(I:Inv X pins σ H s)(o:Obj)(T:Turn X.prog X.w X.K tg J [s.heap.objs.size] s.heap.objs.size tn)(st:tn 0 (s.heap.push o))(q:R J H):uf X pins σ tg R (.ref s.heap.objs.size) {s with heap:=s.heap.push o,toks:=tk}:=by
 refine⟨s.heap.objs.size,[s.heap.objs.size],tn,J,H,rfl,I.kept fun b ob e=>bJ _ e,T,st,fun b hb=>?_,q⟩;have e:b=s.heap.objs.size:=by simpa using hb
 subst e;exact I.pA (aY _) (I.aG.fresh (aY _))
end
def GN(lo c:Int)(n:Nat):It:=⟨fun i _=>i<n,fun i H x H'=>H'=H∧x= .int (lo+(i:Nat)*c),fun i _=>n≤i⟩
theorem N1{P:Program}{w:World}{K:YX}{tg:Expr}(it:Addr)(lo c:Int)(n:Nat):Turn P w K tg (GN lo c n) [it] it (fun i h=>IsRangeIter h it (lo+(i:Nat)*c) ((n:Int)-(i:Nat)) c)where
 mem:=by simp
 obj:=fun i h st b hb=>by simp_all
 keep:=fun i h h' st k=>k it (by simp) _ st
 item:=by intro X hP hw hK hc i pins s σ H E I hf st hg;subst hP hw hK;obtain⟨f0,f1,f2,f3,f4,f5⟩:=hf it (by simp);have W:=Walks.range (prog:=X.prog) (w:=X.w) (I.ok.hd hc) it lo c n;refine W.item i s _ _ hg st fun v h' tk hv fA kk=>?_;obtain⟨t,rfl⟩:=hv;have I1:Inv X pins σ H {s with heap:=h',toks:=tk}:=I.turned (fun b o hb e=>kk b o (by simpa using hb) e) f0 f1 f3 f4 f5;exact⟨_,rfl,w_ fA rfl rfl (by decide) ⟨.int (lo+(i:Nat)*c),H,I1,⟨t,rfl⟩,⟨rfl,rfl⟩,fA,fun b hb=>(hf b hb).1⟩⟩
 done:=by intro X hP hw hK hc i pins s σ H E I hf st hg;obtain⟨f0,f1,f2,f3,f4,f5⟩:=hf it (by simp);exact wpAny_pyNext_range_end (I.ok.hd hc) st (by have:n≤i:=hg;omega) fun h' eb=>⟨rfl,I.turned (fun b o hb e=>eb b o hb e) f0 f1 f3 f4 f5⟩
 self:=fun A i s Q E st h=>wpAny_pyIter_rangeiter st h
def z9(i j c:Int)(n:Nat):Prop:=c≠0∧c.natAbs<1073741824∧Builtin.Range.small i j c=true∧Builtin.Range.rangeSize i j c=n
def Ng(ta:TA):TI:=fun σ H R=>ta σ H fun vs H1=>∃(i j c:Int)(n:Nat),vs=[.int i, .int j, .int c]∧z9 i j c n∧R (GN i c n) H1
section
variable{X:Cx}{tg:Expr}
theorem Pf(hg:Gl X "range")(hm:X.mg "range"=none)(ha:PA X [a,b,c] ta)(hs:starEach [a,b,c] X.env=(false,eval a X.env)::starEach [b,c] X.env:=by rfl)(bo:(backTo pos (starEach [b,c] X.env)).any (·.1)=false:=by rfl):
  PI X tg (.Call (.Name "range" p) [a,b,c] [] pos) (Ng ta):=by
 intro pins s σ H R I h;refine Call_ (oV I hg hm boot_range (uz (aP (ha pos pins s σ H _ I h) fun us s1 hh=>?_) hs bo));obtain⟨vs,H1,I1,r1,q1⟩:=hh;obtain⟨i,j,k,n,e,⟨c0,c1,c2,c3⟩,q⟩:=q1;subst e;cases r1 with
 |cons r rr=>
  cases rr with
  |cons r' rr=>
   cases rr with
   |cons r'' rr=>
    cases rr;obtain⟨t,rfl⟩:=r;obtain⟨t',rfl⟩:=r';obtain⟨t'',rfl⟩:=r'';refine call_range_3 c0 ?_ (.inl (Yf c1));refine wpAny_pyIter_range (IsRange.new ..) c2 ?_;have I2:Inv X pins σ H1 {s1 with heap:=s1.heap.push {cls:= .type "range",data:= .fields #[.int i t, .int j t', .int k t'']}}:=I1.kept fun b o e=>bJ _ e;refine H_ I2 _ (N1 _ i k n) ?_ q;have e1:i+((0:Nat):Int)*k=i:=by simp
    have e2:n-((0:Nat):Int)=Builtin.Range.rangeSize i j k:=by rw[c3];simp
    rw[e1,e2];exact cy _ rfl
end
theorem LK{ab:List (κ×V)}{vs:List (κ×Value)}(h:KV ab vs):∀{i:Nat}{k:κ}{v:V},ab[i]?=some (k,v)→∃u,vs[i]?=some (k,u)∧RelV v u:=by
 induction h with
 |nil=>intro i k v e;simp at e
 | @cons a b l₁ l₂ r t ih=>grind-ring-lia-linarith-order
theorem Nl{G:α→β→Prop}{l₁:List α}{l₂:List β}(h:Paired G l₁ l₂):∀{i:Nat}{a:α},l₁[i]?=some a→∃b,l₂[i]?=some b∧G a b:=by
 induction h with
 |nil=>intro i a e;simp at e
 | @cons a b l₁ l₂ r t ih=>grind-ring-lia-linarith-order
theorem SH(h:kH k u=true):RelV (kV k) u:=by
 rcases ku h with⟨i,t,rfl,rfl⟩|⟨x,t,rfl,rfl⟩
 ·exact⟨t,rfl⟩
 ·exact⟨t,rfl⟩
section
variable{X:Cx}{pins:YW}{σ:St}{H:Hp}{s:Shared}{d:Addr}{o:Obj}
theorem Inv.AA(I:Inv X pins σ H s)(h:H d=some (.aX o (.dK ab))):
  (d==sysModules)=false∧s.heap.get? d=some o∧o.ExactDict∧∃(es:Array DictEntry)(ep:Nat)(vs:List (Key×Value)),o.data= .dict es ep∧es.size=ab.length∧KV ab vs∧s.heap.DictAt (dZ X.prog X.w) d vs ep:=by
 obtain⟨hd,z,hs,vs,kv,o',es,ep,ho,hx,d7,r⟩:=I.aG d _ h;rw[hd]at ho;cases ho;refine⟨hs,hd,hx,es,ep,vs,d7,?_,kv,o,es,hd,hx,d7,r⟩;have l1:=r.2.1.length;have l2:ab.length=vs.length:=qV kv;simp_all
end
def vO(d:Addr)(o:Obj)(ab:List (Key×V)):It:=
 ⟨fun i H=>H d=some (.aX o (.dK ab))∧i<ab.length,fun i H x H'=>∃T k v,ab[i]?=some (k,v)∧x= .ref T∧H T=none∧H'=upd H T (.tup [kV k,v]),fun i H=>H d=some (.aX o (.dK ab))∧ab.length≤i⟩
theorem vw{o:Obj}(h:o.data= .dict es ep)(h':o.data= .dict di d6):di= es∧d6= ep:=by simp_all
section
variable{P:Program}{w:World}{K:YX}{tg:Expr}{d:Addr}{o:Obj}{es:Array DictEntry}{ep:Nat}
theorem WG{ab:List (Key×V)}{elts:List Expr}{kk:Nat}{cg:Pos}(it:Addr)(jS:o.data= .dict es ep):
  Turn P w K (.Tuple elts kk cg) (vO d o ab) [it] it (fun i h=>∃ok ov,IsItemIter h it d i ab.length ep ok ov)where
 mem:=by simp
 obj:=fun i h st b hb=>by
  have e:b=it:=by simpa using hb
  subst e;obtain⟨ok,ov,e⟩:=st;exact⟨_,e,fun v z=>nomatch z⟩
 keep:=fun i h h' st k=>let⟨ok,ov,e⟩:=st;⟨ok,ov,k it (by simp) _ e⟩
 item:=by
  intro X hP hw hK hc i pins s σ H E I hf st hg;subst hP hw hK;obtain⟨hd,hi⟩:=hg;obtain⟨hs,iR,hx,di,d6,vs,d7,hsz,kv,hm⟩:=I.AA hd;obtain⟨rfl,rfl⟩:=vw jS d7;obtain⟨⟨k,v⟩,fW⟩:∃p,ab[i]?=some p:=⟨ab[i],bq hi⟩;obtain⟨u,hu,ru⟩:=LK kv fW;have hl:ab.length=vs.length:=qV kv;obtain⟨ok,ov,he⟩:=st;rw[hl]at he;have bw:it<s.heap.objs.size:=bF he;refine wpAny_pyNext_items_item he hm hu fun key h' nT ho hT hz hk=>?_;refine⟨_,rfl,Yr ho fun gz mG sb=>?_⟩;have ik:gz.get? s.heap.objs.size=some {cls:= .type "tuple",data:= .seq #[key,u]}:=(sb.2 _ (og bw)).trans hT;have new:cw X.prog X.w (upd H s.heap.objs.size (.tup [kV k,v])) gz s.heap.objs.size (.tup [kV k,v]):=
   ⟨by show 2≤sizeLine;decide,[key,u], .cons (SH (nT)) (.cons ru .nil),⟨_,ik,rfl,_,rfl⟩⟩
  have I1:Inv X pins σ (upd H s.heap.objs.size (.tup [kV k,v])) {s with heap:=gz}:=
   I.wo (fun b ob hb e=>(sb.2 b (by simpa using hb)).trans (hk b ob (by simpa using hb) e)) hf (aY _) new
  refine⟨.ref s.heap.objs.size,_,I1,rfl,⟨_,k,v,fW,rfl,I.aG.fresh (aY _),rfl⟩,⟨key,u,?_⟩,fun b hb=>?_⟩
  ·rw[hl];exact mG
  ·have e:b=it:=by simpa using hb
   rw[e,aB (bY bw)];exact(hf it (by simp)).1
 done:=by intro X hP hw hK hc i pins s σ H E I hf st hg;subst hP hw hK;obtain⟨hd,hi⟩:=hg;obtain⟨f0,f1,f2,f3,f4,f5⟩:=hf it (by simp);obtain⟨hs,iR,hx,di,d6,vs,d7,hsz,kv,hm⟩:=I.AA hd;obtain⟨rfl,rfl⟩:=vw jS d7;have hl:ab.length=vs.length:=qV kv;obtain⟨ok,ov,he⟩:=st;rw[hl]at he;exact wpAny_pyNext_items_end (I.ok.hd hc) he hm (lB (by simp_all)) fun h' eb=>⟨rfl,I.turned (fun b ob hb e=>eb b ob hb e) f0 f1 f3 f4 f5⟩
 self:=fun A i s Q E st h=>let⟨_,_,e⟩:=st;W.kcp_self e h
end
def DI(K:YX)(a:Addr):It:=
 ⟨fun i H=>∃(xs:List V)(x:V),aU K H a xs∧xs[i]?=some x,fun i H v H'=>∃T x,v= .ref T∧H T=none∧H'=upd H T (.tup [.int (i:Nat),x])∧∀xs,aU K H a xs→xs[i]?=some x,fun i H=>∃xs:List V,aU K H a xs∧xs.length≤i⟩
theorem Sw{P:Program}{w:World}{K:YX}{elts:List Expr}{kk:Nat}{cg:Pos}(a e it:Addr):
  Turn P w K (.Tuple elts kk cg) (DI K a) [e,it] e (fun i h=>(∃old,IsEnum h e it ((i:Nat):Int) old)∧h.IsListIter it a i∧e≠it)where
 mem:=by simp
 obj:=fun i h st b hb=>by
  obtain⟨⟨old,he⟩,⟨o,ho,hc,hd⟩,_⟩:=st;have e':b= e∨b=it:=by simpa using hb
  rcases e' with z|z
  ·rw[z];exact⟨_,he,fun v q=>nomatch q⟩
  ·rw[z];exact⟨o,ho,fun v q=>by rw[hd]at q;cases q⟩
 keep:=fun i h h' st k=>let⟨⟨old,he⟩,hi,da⟩:=st;⟨⟨old,k e (by simp) _ he⟩,hi.at fun o q=>k it (by simp) o q,da⟩
 item:=by
  intro X hP hw hK hc i pins s σ H E I hf st hg;subst hP hw hK;obtain⟨⟨old,he⟩,hit,da⟩:=st;obtain⟨xs,x,hq,hx⟩:=hg;obtain⟨ao,rv,p,hz⟩:=I.list hq;obtain⟨u,hu,ru⟩:=rv.get hx;have hel:e<s.heap.objs.size:=bF he;have hil:it<s.heap.objs.size:=by obtain⟨_,q,_⟩:=hit;exact bF q
  refine wpAny_pyNext_enum_item he hit p.isList (by simpa using hu) da fun h' ho hit' hT hsz hk=>?_;refine⟨_,rfl,wpAny_letOwnedTupleGo_enum ho fun gz mG sb=>?_⟩;have ik:gz.get? s.heap.objs.size=some {cls:= .type "tuple",data:= .seq #[.int i s.toks,u]}:=(sb.2 _ (og hel)).trans hT;have new:cw X.prog X.w (upd H s.heap.objs.size (.tup [.int (i:Nat),x])) gz s.heap.objs.size (.tup [.int (i:Nat),x]):=
   ⟨by show 2≤sizeLine;decide,[.int i s.toks,u], .cons ⟨_,rfl⟩ (.cons ru .nil),⟨_,ik,rfl,_,rfl⟩⟩
  have I1:Inv X pins σ (upd H s.heap.objs.size (.tup [.int (i:Nat),x])) {s with heap:=gz,toks:=s.toks+1}:=
   I.wo (fun b ob hb q=>(sb.2 b (fun z=>hb (by simp[z]))).trans (hk b ob (fun z=>hb (by simp[z])) (fun z=>hb (by simp[z])) q)) hf (aY _) new
  refine⟨.ref s.heap.objs.size,_,I1,rfl,⟨_,x,rfl,I.aG.fresh (aY _),rfl,fun ys hy=>by rw[I.vJ hy hq];exact hx⟩,⟨⟨u,?_⟩,hit'.at fun o q=>(sb.2 it (iU da)).trans q,da⟩,fun b hb=>?_⟩
  ·have e1:((i+1:Nat):Int)=i+1:=by rfl
   rw[e1];exact mG
  ·have fC:b<s.heap.objs.size:=by
    have e':b= e∨b=it:=by simpa using hb
    rcases e' with z|z
    ·rw[z];exact hel
    ·rw[z];exact hil
   rw[aB (bY fC)];exact(hf b hb).1
 done:=by intro X hP hw hK hc i pins s σ H E I hf st hg;subst hP hw hK;obtain⟨⟨old,he⟩,hit,da⟩:=st;obtain⟨xs,hq,hx⟩:=hg;obtain⟨ao,rv,p,hz⟩:=I.list hq;obtain⟨f0,f1,f2,f3,f4,f5⟩:=hf it (by simp);have hl:=rv.length;exact wpAny_pyNext_enum_end (I.ok.hd hc) he hit p.isList (by simp;lia) fun h' eb=>⟨rfl,I.turned (fun b o hb q=>eb b o hb q) f0 f1 f3 f4 f5⟩
 self:=fun A i s Q E st h=>let⟨⟨_,he⟩,_⟩:=st;wpAny_pyIter_enum he h
def Sg(K:YX)(ta:TA):TI:=fun σ H R=>ta σ H fun vs H1=>∃a xs,vs=[.ref a]∧aU K H1 a xs∧R (DI K a) H1
theorem Ul(hg:Gl X "enumerate")(hm:X.mg "enumerate"=none)(ha:PA X [e] ta)(hs:starEach [e] X.env=[(false,eval e X.env)]:=by rfl):
  PI X (.Tuple elts kk cg) (.Call (.Name "enumerate" p) [e] [] pos) (Sg X.K ta):=by
 intro pins s σ H R I h;refine Call_ (oV I hg hm boot_enumerate (uz (aP (ha pos pins s σ H _ I h) fun us s1 hh=>?_) hs rfl));obtain⟨vs,H1,I1,r1,q1⟩:=hh;obtain⟨a,xs,ex,hq,q⟩:=q1;subst ex;cases r1 with
 |cons r rr=>
  cases rr;cases r;obtain⟨ao,rv,p',hz⟩:=I1.list hq;refine call_enumerate_list p'.isList fun h' he hit hsz hk=>wpAny_pyIter_enum he ?_;have I2:Inv X pins σ H1 {s1 with heap:=h'}:=I1.kept (t':=s1.toks) hk;refine⟨s1.heap.objs.size+1,[s1.heap.objs.size+1,s1.heap.objs.size],_,_,H1,rfl,I2,Sw a (s1.heap.objs.size+1) s1.heap.objs.size,⟨⟨.none,he⟩,hit,Nat.succ_ne_self _⟩,fun b hb=>?_,q⟩;have hle:s1.heap.objs.size≤b:=by grind
  exact I1.pA hle (I1.aG.fresh hle)
theorem W6:bootBuiltins "zip"=some (.type "zip"):=by decide+kernel
def EH(K:YX)(a b:Addr):It:=
 ⟨fun i H=>∃(xs ys:List V)(x y:V),aU K H a xs∧aU K H b ys∧xs[i]?=some x∧ys[i]?=some y,
  fun i H v H'=>∃T x y,v= .ref T∧H T=none∧H'=upd H T (.tup [x,y])∧(∀xs,aU K H a xs→xs[i]?=some x)∧∀ys,aU K H b ys→ys[i]?=some y,
  fun i H=>∃xs ys:List V,aU K H a xs∧aU K H b ys∧(xs.length≤i∨ys.length≤i)⟩
theorem Mi{P:Program}{w:World}{K:YX}{elts:List Expr}{kk:Nat}{cg:Pos}{a b z TI TO i1 i2:Addr}(D:ZipApart z TI TO i1 i2 a b):
  Turn P w K (.Tuple elts kk cg) (EH K a b) [z,TI,TO,i1,i2] z (fun i h=>IsZip h z TI TO .none∧IsPair h TI (.ref i1) (.ref i2)∧(∃x y,IsPair h TO x y)∧h.IsListIter i1 a i∧h.IsListIter i2 b i)where
 mem:=by simp
 obj:=fun i h st c hc=>by
  obtain⟨hz,jT,⟨x,y,lj⟩,⟨o1,e1,_,d1⟩,⟨o2,e2,_,d2⟩⟩:=st;have e':c=z∨c=TI∨c=TO∨c=i1∨c=i2:=by simpa using hc
  rcases e' with q|q|q|q|q
  ·rw[q];exact⟨_,hz,fun v q=>nomatch q⟩
  ·rw[q];exact⟨_,jT,fun v q=>nomatch q⟩
  ·rw[q];exact⟨_,lj,fun v q=>nomatch q⟩
  ·rw[q];exact⟨o1,e1,fun v q=>by rw[d1]at q;cases q⟩
  ·rw[q];exact⟨o2,e2,fun v q=>by rw[d2]at q;cases q⟩
 keep:=fun i h h' st k=>by obtain⟨hz,jT,⟨x,y,lj⟩,h1,h2⟩:=st;exact⟨k z (by simp) _ hz,k TI (by simp) _ jT,⟨x,y,k TO (by simp) _ lj⟩,h1.at fun o q=>k i1 (by simp) o q,h2.at fun o q=>k i2 (by simp) o q⟩
 item:=by
  intro X hP hw hK hc i pins s σ H E I hf st hg;subst hP hw hK;obtain⟨hz,jT,⟨x0,y0,lj⟩,h1,h2⟩:=st;obtain⟨xs,ys,x,y,hqx,hqy,hx,hy⟩:=hg;obtain⟨ao,rv,p,_⟩:=I.list hqx;obtain⟨jQ,rv2,p2,_⟩:=I.list hqy;obtain⟨u,hu,ru⟩:=rv.get hx;obtain⟨u2,hu2,ru2⟩:=rv2.get hy;have hzl:z<s.heap.objs.size:=bF hz;refine wpAny_pyNext_zip_item D hz jT lj h1 h2 p.isList p2.isList (by simpa using hu) (by simpa using hu2) fun h' z' TO' h1' nW hT hsz hk=>?_;refine⟨_,rfl,wpAny_letOwnedTupleGo_zip z' fun gz z'' sb=>?_⟩;have ik:gz.get? s.heap.objs.size=some {cls:= .type "tuple",data:= .seq #[u,u2]}:=(sb.2 _ (og hzl)).trans hT;have new:cw X.prog X.w (upd H s.heap.objs.size (.tup [x,y])) gz s.heap.objs.size (.tup [x,y]):=
   ⟨by show 2≤sizeLine;decide,[u,u2], .cons ru (.cons ru2 .nil),⟨_,ik,rfl,_,rfl⟩⟩
  have I1:Inv X pins σ (upd H s.heap.objs.size (.tup [x,y])) {s with heap:=gz}:=
   I.wo (fun c o hb q=>(sb.2 c (fun q'=>hb (by simp[q']))).trans (hk c o (fun q'=>hb (by simp[q'])) (fun q'=>hb (by simp[q'])) (fun q'=>hb (by simp[q'])) (fun q'=>hb (by simp[q'])) q)) hf (aY _) new
  refine⟨.ref s.heap.objs.size,_,I1,rfl,⟨_,x,y,rfl,I.aG.fresh (aY _),rfl,fun l hl=>by rw[I.vJ hl hqx];exact hx,fun l hl=>by rw[I.vJ hl hqy];exact hy⟩,⟨z'',?_,⟨u,u2,?_⟩,?_,?_⟩,fun c hcm=>?_⟩
  ·exact(sb.2 _ D.TIz).trans (hk _ _ D.TIz D.TITO D.TIi1 D.TIi2 jT)
  ·exact(sb.2 _ D.TOz).trans TO'
  ·exact h1'.at fun o q=>(sb.2 _ D.i1z).trans q
  ·exact nW.at fun o q=>(sb.2 _ D.i2z).trans q
  ·have bw:c<s.heap.objs.size:=by
    have e':c=z∨c=TI∨c=TO∨c=i1∨c=i2:=by simpa using hcm
    rcases e' with q|q|q|q|q
    ·rw[q];exact hzl
    ·rw[q];exact bF jT
    ·rw[q];exact bF lj
    ·rw[q];obtain⟨_,e1,_⟩:=h1;exact bF e1
    ·rw[q];obtain⟨_,e2,_⟩:=h2;exact bF e2
   rw[aB (bY bw)];exact(hf c hcm).1
 done:=by
  intro X hP hw hK hc i pins s σ H E I hf st hg;subst hP hw hK;obtain⟨hz,jT,⟨x0,y0,lj⟩,h1,h2⟩:=st;obtain⟨xs,ys,hqx,hqy,hend⟩:=hg;obtain⟨ao,rv,p,_⟩:=I.list hqx;obtain⟨jQ,rv2,p2,_⟩:=I.list hqy;have l1:=rv.length;have l2:=rv2.length;have he:ao.toArray[i]?=none∨jQ.toArray[i]?=none:=by
   rcases hend with q|q
   ·exact .inl (by simp;simp_all)
   ·exact .inr (by simp;simp_all)
  exact wpAny_pyNext_zip_end (I.ok.hd hc) D hz jT lj h1 h2 p.isList p2.isList he fun h' hk=>⟨rfl,I.NY (fun c o hb q=>
   hk c o (fun q'=>hb (by simp[q'])) (fun q'=>hb (by simp[q'])) (fun q'=>hb (by simp[q'])) (fun q'=>hb (by simp[q'])) q) hf⟩
 self:=fun A i s Q E st h=>wpAny_pyIter_zip st.1 h
def Qi(K:YX)(ta:TA):TI:=fun σ H R=>ta σ H fun vs H1=>∃a b xs ys,vs=[.ref a, .ref b]∧aU K H1 a xs∧aU K H1 b ys∧R (EH K a b) H1
theorem Px(hg:Gl X "zip")(hm:X.mg "zip"=none)(ha:PA X [e,e2] ta)(hs:starEach [e,e2] X.env=(false,eval e X.env)::starEach [e2] X.env:=by rfl)(bo:(backTo pos (starEach [e2] X.env)).any (·.1)=false:=by rfl):
  PI X (.Tuple elts kk cg) (.Call (.Name "zip" p) [e,e2] [] pos) (Qi X.K ta):=by
 intro pins s σ H R I h;refine Call_ (oV I hg hm W6 (uz (aP (ha pos pins s σ H _ I h) fun us s1 hh=>?_) hs bo));obtain⟨vs,H1,I1,r1,q1⟩:=hh;obtain⟨a,b,xs,ys,ex,hqx,hqy,q⟩:=q1;subst ex;cases r1 with
 |cons r rr=>
  cases rr with
  |cons r' rr=>
   cases rr;cases r;cases r';obtain⟨ao,rv,p1,_⟩:=I1.list hqx;obtain⟨jQ,rv2,p2,_⟩:=I1.list hqy;have la:a<s1.heap.objs.size:=p1.lt;have lb:b<s1.heap.objs.size:=p2.lt;refine call_zip_2 p1.isList p2.isList fun h' hz jT lj h1 h2 hsz hk=>wpAny_pyIter_zip hz ?_;have I2:Inv X pins σ H1 {s1 with heap:=h'}:=I1.kept hk;refine⟨s1.heap.objs.size+4,[s1.heap.objs.size+4,s1.heap.objs.size+2,s1.heap.objs.size+3,s1.heap.objs.size,s1.heap.objs.size+1],_,_,H1,rfl,I2,Mi (W.ktu_apart s1.heap.objs.size a b la lb),⟨hz,jT,⟨_,_,lj⟩,h1,h2⟩,fun c hcm=>?_,q⟩;have hle:s1.heap.objs.size≤c:=by grind
   exact I1.pA hle (I1.aG.fresh hle)
def inClass(s:Stmt)(j:Nat):Stmt:=match s with
 | .ClassDef _ _ _ body _ _ _ _ _ _ _=>body.getD j (.Pass ⟨0,0,0,0⟩)
 |_=> .Pass ⟨0,0,0,0⟩
def qi(s:Stmt):Arguments:=match s with
 | .FunctionDef _ a _ _ _ _ _ _ _ _=>a
 |_=>{posonlyargs:=[],args:=[],vararg:=none,kwonlyargs:=[],kw_defaults:=[],kwarg:=none,defaults:=[]}
def iH(s:Stmt):List Stmt:=match s with
 | .FunctionDef _ _ b _ _ _ _ _ _ _=>b
 |_=>[]
def bE(s:Stmt):Scope:=match s with
 | .FunctionDef _ _ _ _ _ _ sc _ _ _=>sc
 |_=>{kind:= .function,names:=[],isGenerator:=false,isCoroutine:=false}
abbrev g_:jN:=fun _ _ _ _ _ _=>False
abbrev E0:XK:=fun _ _ _=>False
theorem xn:Passes g_ X E0:=fun _ _ _ _ _ _ _ h=>h.elim
structure lW(K:YX)(x qual:Str)(st:Stmt)(f:Addr)(fd:FuncData):Prop where
 ex:∃(oc:Value)(od:Option Addr)(kV doc pm:Value)(an:Option Addr)(bI ct:Value)(osl:Array (Option Value)),
  fd=W.fnOf x qual (qi st) (iH st) (bE st) .none kV doc pm an bI ct∧K.lookup f=some ⟨oc,od, .func fd,osl⟩∧W.codeIn K bI qual=true
 kp:W.keepIn K (.ref f)=true
section
variable{P:Program}{w:World}{K:YX}{mg:YZ}{base:Heap}
theorem lW.ok{st:Stmt}(F:lW K x qual st f fd)(S:rV N ps (bE st))(len:∀vs H Q E,sp vs H Q E→vs.length=ps.length)(Bm:∀(bI:Value)(A:Around)(outer:List Env)(s:Shared)(H:Hp)(vs:List V)(Q:VK)(E:XK),bM k (A.deeper (envOfC qual (bE st) s.heap.objs.size f bI))→sp vs H Q E→
   ∃t,fq (ju g_ P w K mg base N qual (bE st) f bI A outer s H E).kP (iH st) t∧t {nx:=fun _ H'=>Q .a8 H',rt:=Q} (start N vs) H):gU P w K mg base g_ (k+1) f fd ps sp:=by
 obtain⟨oc,od,kV,doc,pm,an,bI,ct,osl,rfl,lk,bH⟩:=F.ex;refine VE lk bH S len fun A outer s H vs Q E hr k_=>?_;obtain⟨t,h,q⟩:=Bm bI A outer s H vs Q E hr k_;exact⟨t,h.kP,q⟩
theorem lW.binds{st:Stmt}(F:lW K x qual st f fd)(h:∀(kV doc pm:Value)(an:Option Addr)(bI ct:Value)(us:List Value),us.length=ps.length→bindArgs (W.fnOf x qual (qi st) (iH st) (bE st) .none kV doc pm an bI ct) ⟨us,[]⟩=pure (ps.zip us)):Binds K fd ps []:=by obtain⟨oc,od,kV,doc,pm,an,bI,ct,osl,rfl,lk,bH⟩:=F.ex;exact .all (h kV doc pm an bI ct)
theorem DO{st:Stmt}{kV doc pm bI ct:Value}(l:K.lookup f=some ⟨oc,od, .func (W.fnOf x qual (qi st) (iH st) (bE st) .none kV doc pm an bI ct),osl⟩)(c:W.codeIn K bI qual=true)(k:W.keepIn K (.ref f)=true):lW K x qual st f (W.fnOf x qual (qi st) (iH st) (bE st) .none kV doc pm an bI ct):=⟨⟨oc,od,kV,doc,pm,an,bI,ct,osl,rfl,l,c⟩,k⟩
end
theorem iE(hr:bM k A):A.units+1<cLine:=uE (Nat.add_le_add_left (by decide:1≤64) _) hr.units
theorem yP(h:n≤1000):n<sizeLine:=uE h (by decide)
section
variable{X:Cx}
theorem pv(i:Nat)(hN:X.N[i]?=some x:=by rfl)(hv:dJ X.env.scope x:=by first|exact Or.inl rfl|exact Or.inr (Or.inl rfl)|exact Or.inr (Or.inr rfl))(hd:(x==("__debug__":Str))=false:=by decide)(bH:(x==("__classdict__":Str))=false:=by decide):PE X (.Name x pos) (FD i):=iF hN hv hd bH
end
theorem lM{A B:Prop}(h:B):if false=true then A else B:=by assumption
theorem mh{A B:Prop}(h:A):if true=true then A else B:=by assumption
def aj(H H':Hp):Prop:=∀b o,H b=some o→H' b=some o
theorem aj.refl(H:Hp):aj H H:=fun _ _ h=>h
theorem aj.trans(a:aj H H1)(b:aj H1 H2):aj H H2:=fun c o h=>b c o (a c o h)
theorem aj.free(e:aj H H')(h:H' l=Option.none):H l=Option.none:=by
 cases q:H l with
 |none=>rfl
 |some o=>rw[e l o q]at h;cases h
end L2
namespace KS
open PySem PySem.SetTable
def iu(l:List Nat):Prop:=l.Pairwise (·<·)
theorem Y4(xs:Array Nat)(j:Nat)(hr:iu xs.toList):∀(f lo hi:Nat),hi≤xs.size→lo≤hi→hi-lo≤f→(∀i x,i<lo→xs[i]?=some x→x<j)→(∀i x,hi≤i→xs[i]?=some x→j≤x)→
  (SetTable.below.go xs j f lo hi≤xs.size∧(∀i x,i<SetTable.below.go xs j f lo hi→xs[i]?=some x→x<j)∧∀i x,SetTable.below.go xs j f lo hi≤i→xs[i]?=some x→j≤x)
 |0,lo,hi,h1,h2,h3,h4,h5=>by
  have e:lo=hi:=by lia
  subst e;exact⟨h1,h4,h5⟩
 |f+1,lo,hi,h1,h2,h3,h4,h5=>by
  unfold SetTable.below.go;by_cases c:lo<hi
  ·rw[ag c];have hm:(lo+hi)/2<xs.size:=by lia
   have pw:∀(i k:Nat)(x y:Nat),i<k→xs[i]?=some x→xs[k]?=some y→x<y:=fun i k x y hik hx hy=>by rw[←om]at hx hy;obtain⟨a1,a2⟩:=d_.mp hx;obtain⟨b1,b2⟩:=d_.mp hy;have:=xU.mp hr i k a1 b1 hik;rw[a2,b2]at this;exact this
   have xG:xs[(lo+hi)/2]?=some (xs.getD ((lo+hi)/2) j):=by simp[Array.getD,hm]
   by_cases d:xs.getD ((lo+hi)/2) j<j
   ·simp only[ag d];refine Y4 xs j hr f ((lo+hi)/2+1) hi h1 (by lia) (by omega) (fun i x dQ hx=>?_) h5;by_cases e:i=(lo+hi)/2
    ·subst e;rw[xG]at hx;cases hx;exact d
    ·exact rE (pw i _ x _ (by lia) hx xG) d
   ·simp only[af d];refine Y4 xs j hr f lo ((lo+hi)/2) (by exact qW ‹_›) (by lia) (by omega) h4 (fun i x dQ hx=>?_);by_cases e:i=(lo+hi)/2
    ·subst e;rw[xG]at hx;cases hx;simp_all
    ·have:=pw _ i _ x (by lia) xG hx
     lia
  ·rw[af c];have e:lo=hi:=by lia
   subst e;exact⟨h1,h4,h5⟩
theorem yD(xs:Array Nat)(j:Nat)(hr:iu xs.toList):SetTable.below xs j≤xs.size∧(∀i x,i<SetTable.below xs j→xs[i]?=some x→x<j)∧∀i x,SetTable.below xs j≤i→xs[i]?=some x→j≤x:=
 Y4 xs j hr xs.size 0 xs.size (aY _) (eG _) (by simp) (fun i x h=>by simp_all) fun i x h hx=>by simp_all
theorem RL(xs:Array Nat)(hr:iu xs.toList):SetTable.below xs 0=0:=by
 have h:=yD xs 0 hr;rcases Nat.eq_zero_or_pos (SetTable.below xs 0)with e|e
 ·omega
 ·obtain⟨x,hx⟩:∃x,xs[0]?=some x:=⟨xs[0]'(by omega),by simp⟩;simp_all
theorem SF(xs:Array Nat)(hr:iu xs.toList)(hx:xs[i]?=some x):SetTable.below xs (x+1)=i+1:=by
 have h:=yD xs (x+1) hr;have pw:∀(i k:Nat)(x y:Nat),i<k→xs[i]?=some x→xs[k]?=some y→x<y:=fun i k x y hik hx hy=>by rw[←om]at hx hy;obtain⟨a1,a2⟩:=d_.mp hx;obtain⟨b1,b2⟩:=d_.mp hy;have:=xU.mp hr i k a1 b1 hik;rw[a2,b2]at this;exact this
 have h1:i<SetTable.below xs (x+1):=by
  rcases Bv i (SetTable.below xs (x+1))with q|q
  ·exact q
  ·have:=h.2.2 i x q hx
   lia
 rcases Bv (i+1) (SetTable.below xs (x+1))with q|q
 ·have hs:i+1<xs.size:=by omega
  have hy:xs[i+1]?=some xs[i+1]:=by simp[hs]
  have a:=h.2.1 (i+1) _ q hy;have b:=pw i (i+1) x _ (by simp) hx hy
  lia
 ·lia
theorem SA(xs:Array Nat)(j:Nat)(hr:iu xs.toList)(hn:xs[SetTable.below xs j]?≠some j):iu (SetTable.insertAt xs (SetTable.below xs j) j).toList:=by
 rw[SetTable.toList_insertAt];have h:=yD xs j hr;generalize SetTable.below xs j=b at h hn⊢;unfold iu at hr⊢;rw[←rF b xs.toList,Ys]at hr;rw[Ys];have bw:∀x∈xs.toList.take b,x<j:=fun x hx=>by obtain⟨i,hi,e⟩:=lC.mp hx;grind
 have hgt:∀x∈xs.toList.drop b,j<x:=fun x hx=>by
  obtain⟨i,hi,e⟩:=lC.mp hx;rw[j6]at hi;rw[List.getElem_drop]at e;have e2:xs[b+i]?=some x:=by grind
  have h1:=h.2.2 (b+i) x (by simp) e2;rcases Bv j x with q|q
  ·omega
  ·have ex:x=j:=by lia
   rcases Nat.eq_zero_or_pos i with z|z
   ·simp_all
   ·
    have hb:b<xs.toList.length:=by lia
    have hd:xs.toList.drop b=xs.toList[b]::xs.toList.drop (b+1):=rG hb;have hp:=hr.2.1;rw[hd,rH]at hp;grind
 simp_all
structure Tab(led:Bool)(t:SetTable):Prop where
 led:t.led=led
 DY:t.dummies=#[]
 rise:iu t.place.toList
theorem C0(n:Nat):iu (range n):=JZ
theorem Tab.standIn{led:Bool}(h:Tab led t)(n:Nat):Tab led (t.standIn n):=
 ⟨h.led,rfl,by show iu (Array.range n).toList;rw[Array.toList_range];exact C0 n⟩
theorem has_none(j:Nat):SetTable.has #[] j=false:=by unfold SetTable.has;simp
theorem EU(t:SetTable)(hd:t.dummies=#[])(hashAt:Nat→Int)(h:Int):∀(f:Nat)(p:SetTable.Probe)(j:Nat)(d:Option Nat),p.dummy=none→SetTable.probe.go t hashAt h f p=some (.empty j d)→d=none∧t.slot j= .empty
 |0,p,j,d,_,e=>by cases e
 |f+1,p,j,d,hp,e=>by
  unfold SetTable.probe.go at e;have nod:∀j,t.slot j≠ .dummy:=fun j q=>by
   unfold SetTable.slot at q;rw[hd,has_none]at q
   lia
  cases hs:t.slot p.j with
  |empty=>simp_all
  |dummy=>exact absurd hs (nod _)
  |live i=>
   rw[hs]at e;simp only at e;split at e
   ·lia
   ·refine EU t hd hashAt h f _ j d ?_ e;unfold SetTable.advance
    lia
theorem Tab.layNew{led:Bool}(h:Tab led t)(es:Array (Int×Value))(k:Int)(x:Value):Tab led (layNew t es k x).2.1:=by
 unfold PySem.layNew;split
 ·rename_i slot wasDummy hf;unfold SetTable.freeSlot at hf;cases hp:t.probe (fun _=>k+1) k (t.probeStart k)with
  |none=>rw[hp]at hf;cases hf
  |some met=>
   rw[hp]at hf;cases met with
   |candidate j i nx=>cases hf
   |empty j d=>
    obtain⟨hd,hj⟩:=EU t h.DY _ _ _ (t.probeStart k) j d rfl hp;subst hd;simp at hf;obtain⟨rfl,_⟩:=hf;have hput:Tab led (t.put j).1:=by
     unfold SetTable.put;refine⟨h.led,?_,SA _ _ h.rise fun q=>?_⟩
     ·simp only[h.DY,has_none];rfl
     ·unfold SetTable.slot at hj;simp_all
    simp only;unfold SetTable.orStandIn;split
    ·omega
    ·exact hput.standIn _
 ·exact h.standIn _
theorem Tq(g:Nat→Option Nat):∀(l:List Nat),iu l→iu ((l.filterMap fun j=>(g j).map (j,·)).map (·.1)):=by
 intro l hl;have e:(l.filterMap fun j=>(g j).map (j,·)).map (·.1)=l.filter fun j=>(g j).isSome:=by
  clear hl;induction l with
  |nil=>rfl
  |cons a l ih=>
   rw[xK,rJ];cases q:g a with
   |none=>simpa[q]using ih
   |some b=>simpa[q]using ih
 rw[e];exact Bw _ hl
theorem Tab.relayAll{led:Bool}(h:Tab led t)(es:Array (Int×Value))(n:Nat):Tab led (relayAll t es n).2.1:=by
 unfold PySem.relayAll;split
 ·rename_i t' order hr;have ht:Tab led t':=by
   unfold SetTable.relaid SetTable.laid at hr;cases hl:SetTable.layClean (SetTable.sizeAbove n-1) (es.map (·.1))with
   |none=>rw[hl]at hr;cases hr
   |some owner=>rw[hl]at hr;obtain⟨rfl,_⟩:=hr;exact⟨h.led,rfl,by simpa using Tq _ _ (C0 _)⟩
  simp only;split
  ·omega
  ·exact h.standIn _
 ·exact h.standIn _
open PySem PySem.Spec PyProof.Rows
abbrev fo(w:World):Bool:=w.params.followText "set-order"
def valOf:Value→Int
 | .int k _=>k
 |_=>0
abbrev b8(es:Array (Int×Value))(ep:Nat)(t:SetTable):Obj:={cls:= .type "set",dict:=none,data:= .set es ep t,slots:=#[]}
structure eS(prog:Program)(w:World)(es:Array (Int×Value))(t:SetTable)(ms:List Int):Prop where
 el:ElemsOf (PySem.intKind prog w) es.toList
 pm:(es.toList.map fun e=>valOf e.2).Perm ms
 sm:es.size<scanBound
 ft:t.fits es.size=true
 tb:Tab (!fo w) t
section
variable{prog:Program}{w:World}{A:Around}{E:YY}{s:Shared}
theorem Dr(h:ElemsOf (PySem.intKind prog w) es)(he:e∈es):∃t,e.2= .int (valOf e.2) t:=by obtain⟨⟨k,hk,_⟩,_⟩:=h e he;obtain⟨t,ht⟩:=JJ (hk);exact⟨t,by rw[ht];rfl⟩
theorem HA(h:ElemsOf (PySem.intKind prog w) es)(he:e∈es)(k:Int):(PySem.intKind prog w).is k e.2=true↔valOf e.2=k:=by
 obtain⟨t,ht⟩:=Dr h he;constructor
 ·intro q;obtain⟨u,hu⟩:=JJ (q)
  lia
 ·intro q;rw[ht,q];exact intKind_is prog w k t
theorem eS.mem(S:eS prog w es t ms)(k:Int):k∈ms↔∃e∈es.toList,(PySem.intKind prog w).is k e.2=true:=by
 rw[←S.pm.mem_iff,aH];constructor
 ·rintro⟨e,he,q⟩;exact⟨e,he,(HA S.el he k).mpr q⟩
 ·rintro⟨e,he,q⟩;exact⟨e,he,(HA S.el he k).mp q⟩
theorem eS.size(S:eS prog w es t ms):es.size=ms.length:=by have:=S.pm.length_eq;simpa using this
theorem Rc(ho:s.heap.get? a=some (b8 es ep t))(S:eS prog w es t ms)(hr:ms.length+1<scanBound)(h:∀h' di d6 t',Heap.SameBut a s.heap h'→h'.get? a=some (b8 di d6 t')→eS prog w di t' (if k∈ms then ms else ms++[k])→Q (!decide (k∈ms)) {s with heap:=h'}):
  wpAny (model prog w) A (setAddHashed a (.int k tk) (hashInt k)) Q E s:=by
 have nT:(PySem.intKind prog w).is k (.int k tk)=true:=intKind_is prog w k tk;have hsz:=S.size;unfold setAddHashed setAddHashedIn;refine lz (ak (uF ho rfl S.ft ?_));simp only[byScan_of (knd:=PySem.intKind prog w) (x:=Value.int k tk) rfl S.sm S.el,dR];unfold setAddByScan;refine ak (ak (wpAny_rule (ak ?_)));refine wpAny_setScan_of nT ho rfl S.ft S.el ?_;cases hf:List.findIdx? (fun e=>(PySem.intKind prog w).is k e.2) es.toList with
 |some j=>simp only;obtain⟨hj,hp,_⟩:=rK.mp hf;have hm:k∈ms:=(S.mem k).mpr ⟨_,lD hj,hp⟩;have q:=h s.heap es ep t (Heap.SameBut.refl a s.heap) ho (by rw[ag hm];exact S);rw[fZ hm]at q;exact aI (aI (q))
 |none=>
  simp only;have hm:¬k∈ms:=fun q=>by obtain⟨e,he,hp⟩:=(S.mem k).mp q;have:=J0.mp hf e he;rw[hp]at this;cases this
  have jv:=layNew_perm t es (hashInt k) (.int k tk);have hft:=layNew_fits t es (hashInt k) (.int k tk);have htb:=S.tb.layNew es (hashInt k) (.int k tk);generalize layNew t es (hashInt k) (.int k tk)=L at jv hft htb⊢;obtain⟨cT,t1,wd,gv⟩:=L;simp only at jv hft htb⊢;rw[Array.toList_push]at jv;have hel1:ElemsOf (PySem.intKind prog w) cT.toList:=(S.el.push nT rfl).perm jv;have hpm1:(cT.toList.map fun e=>valOf e.2).Perm (ms++[k]):=by refine(jv.map _).trans ?_;rw[eJ];exact S.pm.append_right _
  have hl1:cT.size=ms.length+1:=by simpa using hpm1.length_eq
  have sm1:cT.size<scanBound:=by simp[*]
  have gw:∀(b:Bool)(s₁:Shared)(Q':Unit→Shared→Prop),Q' () s₁→wpAny (model prog w) A (match b with|true=>rule "set.scan.the-table-gave-way"|false=>pure ()) Q' E s₁:=fun b s₁ Q' q=>by
   cases b
   ·exact aI q
   ·exact wpAny_rule q
  have tail:∀t2:SetTable,t2.fits cT.size=true→Tab (!fo w) t2→∀{R:Option Bool→Shared→Prop},(∀h' di d6 t',Heap.SameBut a s.heap h'→h'.get? a=some (b8 di d6 t')→eS prog w di t' (ms++[k])→R (some true) {s with heap:=h'})→
    wpAny (model prog w) A (do
     storeSet a cT t2
     if(!wd&&t2.tooFull)=true then do
       (match(relayAll t2 cT (SetTable.grown cT.size)).2.2 with|true=>rule "set.scan.the-table-gave-way"|false=>pure ())
       storeSet a (relayAll t2 cT (SetTable.grown cT.size)).1 (relayAll t2 cT (SetTable.grown cT.size)).2.1
       pure (some true)
      else pure (some true)) R E s:=by
   intro t2 f2 b2 R hR;refine ak (wpAny_storeSet_of ho rfl ?_ (Bx sm1));have g1:(s.heap.update a (Obj.putSet cT t2)).get? a=some (b8 cT (ep+1) t2):=by have q:=xP (Obj.putSet cT t2) ho (by rw[putSet_of cT t2 rfl];rfl);rw[putSet_of cT t2 rfl]at q;exact q
   split
   ·have p2:=relayAll_perm t2 cT (SetTable.grown cT.size);have f3:=relayAll_fits t2 cT (SetTable.grown cT.size);have b3:=b2.relayAll cT (SetTable.grown cT.size);generalize relayAll t2 cT (SetTable.grown cT.size)=L2 at p2 f3 b3⊢;obtain⟨mI,t3,gv2⟩:=L2;simp only at p2 f3 b3⊢;have l2:mI.size=cT.size:=by simpa using p2.length_eq
    refine ak (gw _ _ _ ?_);refine ak (wpAny_storeSet_of g1 rfl ?_ (Bx (by simp[*])));have g2:((s.heap.update a (Obj.putSet cT t2)).update a (Obj.putSet mI t3)).get? a=some (b8 mI (ep+1+1) t3):=by have q:=xP (Obj.putSet mI t3) g1 (by rw[putSet_of mI t3 rfl];rfl);rw[putSet_of mI t3 rfl]at q;exact q
    exact aI (hR _ mI _ t3 ((By s.heap a _).trans (By _ a _)) g2 ⟨hel1.perm p2,(p2.map _).trans hpm1,by simp[*],f3,b3⟩)
   ·exact aI (hR _ cT _ t2 (By s.heap a _) g1 ⟨hel1,hpm1,sm1,f2,b2⟩)
  have fin:∀h' di d6 t',Heap.SameBut a s.heap h'→h'.get? a=some (b8 di d6 t')→eS prog w di t' (ms++[k])→wpAny (model prog w) A (pure true) Q E {s with heap:=h'}:=fun h' di d6 t' sb g q=>by have z:=h h' di d6 t' sb g (by rw[af hm];exact q);rw[cU hm]at z;exact aI z
  refine ak (gw _ _ _ ?_);split
  ·refine ak ?_;rw[hashByValue_scannable 8 rfl];exact aI (tail t1 hft htb fin)
  ·exact ak (aI (tail t1 hft htb fin))
end
def dh(ms:List Int)(k:Int):List Int:=if k∈ms then ms else ms++[k]
theorem MN(ms:List Int)(k:Int):(dh ms k).length≤ms.length+1:=by unfold dh;split<;>simp
theorem xq:∀(l ms:List Int),(l.foldl dh ms).length≤ms.length+l.length
 |[],ms=>by simp
 |k::l,ms=>by
  have h1:=xq l (dh ms k);have h2:=MN ms k;simp
  lia
section
variable{prog:Program}{w:World}{A:Around}{R:Result→Shared→Prop}{E:YY}{s:Shared}
theorem P7{St:Nat→Shared→Prop}(W:WalksS prog w A.in1 I fp wr G n P St)(a:Addr)(ha:a∉fp)(ns:List Int)(hn:ns.length=n)(hP:∀i v,P i v→∃t,v= .int (ns.getD i 0) t)(hb:n+1<scanBound):
  ∀(k i:Nat)(s:Shared)(es:Array (Int×Value))(ep:Nat)(t:SetTable),n-i=k→i≤n→St i s→s.heap.get? a=some (b8 es ep t)→eS prog w es t ((ns.take i).foldl dh [])→
   (∀s' di d6 t',Moved (a::wr) G s s'→s'.heap.get? a=some (b8 di d6 t')→eS prog w di t' (ns.foldl dh [])→R (.ok (.ret .none)) s')→
   codeAny (model prog w) A (.builtin "set.update.loop" ⟨[.ref a, .ref I],[]⟩) R s:=by
 have hw:a∉wr:=fun h=>ha (W.sub _ h);have sub:∀b∈wr,b∈a::wr:=fun b hb=>bW _ hb;intro k;induction k with
 |zero=>
  intro i s es ep t hk hi st ho S hR;have e:i=n:=by grind
  subst e;rw[←hn,iX]at S;refine pU F.entry_set_update_loop ?_;rw[xV J1 _];show wpAny _ A.in1 (pyNext (.ref I)>>=_) _ _ s;refine ak (W.done s _ _ st fun s' mv=>?_);exact aI (hR s' es ep t (mv.mono sub) (mv.heap a _ hw ho) S)
 |succ k ih=>
  intro i s es ep t hk hi st ho S hR;have lt:i<n:=by lia
  refine pU F.entry_set_update_loop ?_;rw[xV J1 _];show wpAny _ A.in1 (pyNext (.ref I)>>=_) _ _ s;refine ak (W.item i s _ _ lt st fun v s' pv fA mv=>?_);obtain⟨tk,rfl⟩:=hP i v pv;have gy:=mv.heap a _ hw ho;have room:((ns.take i).foldl dh []).length+1<scanBound:=by
   have:=xq (ns.take i) [];simp at this
   lia
  show wpAny _ A.in1 (holding [Value.int (ns.getD i 0) tk] (setAdd a (.int (ns.getD i 0) tk))>>=_) _ _ s';refine ak (lz ?_);unfold setAdd;refine lz (ak (wpAny_pyHash_int ?_));refine Rc gy S room fun h' di d6 t' sb ho2 S2=>?_;have S3:eS prog w di t' ((ns.take (i+1)).foldl dh []):=by
   have dQ:i<ns.length:=by simp[*]
   have e:ns.take (i+1)=ns.take i++[ns.getD i 0]:=by rw[List.take_succ,bq dQ];simp[bC,dQ]
   rw[e,Bz];exact S2
  refine aI ⟨xW J1 _,ih (i+1) _ di d6 t' (by grind) lt (W.frame _ s' _ _ fA (j5 _) fun b hb o e=>?_) ho2 S3 fun s2 mI ep2 t2 mv2 ho3 S4=>?_⟩
  ·rw[sb.2 b fun z=>ha (z▸hb)];exact e
  ·refine hR s2 mI ep2 t2 (Moved.trans W.gtrans ((mv.mono sub).then_heap (j5 _) fun b o hb e=>?_) mv2) ho3 S4;rw[sb.2 b fun z=>hb (z▸gN)];exact e
theorem Tj(x:Value)(h:Q (.ref s.heap.objs.size) {s with heap:=s.heap.push (b8 #[] 0 (.fresh 0 0 (!fo w)))}):
  codeAny (model prog w) A (.call (.builtin "set.__new__") ⟨[.type "set",x],[]⟩) (wants Q E) s:=by
 refine codeAny_of_tree ?_;show wpAny _ A.in1 (checkBuiltinCall "set.__new__" ⟨[.type "set",x],[]⟩>>=fun _=>again (.builtin "set.__new__" ⟨[.type "set",x],[]⟩)) _ _ s;refine ak (BA (F.newCall_set_1 x) (aI ⟨xW F.plain_set_new _,?_⟩));refine pU F.entry_set_new ?_;rw[xV F.plain_set_new _];unfold Builtin.«set.__new__» Builtin.Frozenset.newClass;have sub:=sub_set_self;obtain⟨hp,g,d,tk,os⟩:=s;dsimp only
 wp_walk;refine uG (aI ?_);dsimp only;simp only[newObj];refine ak (wpAny_alloc (aI ?_));exact aI h
theorem Ra:eS prog w #[] (.fresh 0 0 (!fo w)) []:=⟨fun e he=>by simp at he,by simp,by decide,by rfl,⟨rfl,rfl,List.Pairwise.nil⟩⟩
theorem Rb(hh:A.handled=none)(hl:s.heap.IsList l items)(hi:PyProof.Rows.IntsAre items.toList ns)(hb:items.size+1<scanBound)(h:∀(h':Heap)(tk:Nat) es ep t,h'.get? s.heap.objs.size=some (b8 es ep t)→eS prog w es t (ns.foldl dh [])→(∀b o,s.heap.get? b=some o→h'.get? b=some o)→Q (.ref s.heap.objs.size) {s with heap:=h',toks:=tk}):
  wpAny (model prog w) A (call (.type "set") [.ref l]) Q E s:=by
 have hlen:ns.length=items.size:=by have:=PyProof.Rows.IntsAre.length hi;simpa using this.symm
 obtain⟨c,tl,hmro⟩:=pV.mro;have k1:=pV.made;have k2:=pV.sub;refine wpAny_call (codeAny_of_tree ?_);show wpAny _ _ (callAny (.type "set") _) _ _ _;refine aI ⟨Code.quiet_builtin _ (by decide+kernel),pU F.entry_type_call ?_⟩;rw[Around.under_plain (weight_type_call_type "set" [.ref l] []) rfl];have k3:=pV.notType;have k4:=pV.canCreate;have k5:=F.typeCall_set_1 (.ref l)
 repeat (any_goals (first|assumption|wp_step))
 refine uA (Tj (.ref l) (E:=E) (Q:=fun obj s₁=>obj= .ref s.heap.objs.size∧s₁={s with heap:=s.heap.push (b8 #[] 0 (.fresh 0 0 (!fo w)))}) ⟨rfl,rfl⟩) fun r s₁ hr=>?_;cases r with
 |error e=>exact hr
 |ok fl=>
  cases fl with
  |ret obj=>
   obtain⟨rfl,rfl⟩:=hr;have hS:(s.heap.push (b8 #[] 0 (.fresh 0 0 (!fo w)))).get? s.heap.objs.size=some (b8 #[] 0 (.fresh 0 0 (!fo w))):=cy _ rfl;have hT:Shared.TypeIs {s with heap:=s.heap.push (b8 #[] 0 (.fresh 0 0 (!fo w)))} (.ref s.heap.objs.size) "set":=⟨_,hS,rfl⟩;have k6:=pV.init.lookup;have k7:=pV.init.bind (.ref s.heap.objs.size)
   repeat (any_goals (first|assumption|wp_step))
   refine uA (codeAny_call_builtin (R:=wants (fun r s₂=>r= .none∧∃h' tk es ep t,s₂={s with heap:=h',toks:=tk}∧h'.get? s.heap.objs.size=some (b8 es ep t)∧eS prog w es t (ns.foldl dh [])∧
     (∀b o,s.heap.get? b=some o→h'.get? b=some o)) E) pV.init.plain F.entry_set_init (check_set_init_1 hT ?_)) fun r₂ s₂ hr₂=>?_
   ·obtain⟨ol,hol,iP,nl,hdl⟩:=hl;obtain⟨ocls,odict,odata,oslots⟩:=ol;simp only at iP hdl;subst iP;subst hdl;have hol':(s.heap.push (b8 #[] 0 (.fresh 0 0 (!fo w)))).get? l=some {cls:= .type "list",dict:=odict,data:= .seq items nl,slots:=oslots}:=bJ _ hol;have k8:=F.sub_list_set;have k9:=F.sub_list_frozenset;have k10:(Value.type "list"==Value.type "dict")=false:=by decide
    have hl1:(s.heap.push (b8 #[] 0 (.fresh 0 0 (!fo w)))).IsList l items:=⟨_,hol',rfl,nl,rfl⟩;unfold Builtin.«set.__init__» noKeywords Builtin.Frozenset.updateFrom;generalize hPI:pyIter=PI
    wp_walk;subst hPI;refine JM hl1 (ak (wpAny_runValue ?_));have lt:l<s.heap.objs.size:=bF hol;have hh3:A.in1.in1.in1.handled=none:=by simp[hh]
    have ne:l≠(s.heap.push (b8 #[] 0 (.fresh 0 0 (!fo w)))).objs.size:=by rw[eF];exact fun z=>absurd lt (by rw[z];exact fun y=>absurd y (Nat.not_lt.mpr (j5 _)))
    have nf:s.heap.objs.size∉[(s.heap.push (b8 #[] 0 (.fresh 0 0 (!fo w)))).objs.size,l]:=by rw[eF];simp only[a_,cA,cV,not_or];exact⟨fun z=>absurd z (bY (xN _)),fun z=>absurd z (og lt)⟩
    refine P7 (Walks.list hh3 _ l ne items).toS s.heap.objs.size nf ns hlen (fun i v hv=>PyProof.Rows.IntsAre.int_at hi i v (by rw[om];exact hv)) hb items.size 0 _ #[] 0 _ (by simp) (eG _)
     ⟨⟨_,cy _ rfl,rfl,rfl⟩,hl1.push _⟩ (bJ _ hS) Ra fun s' es ep t mv ho S=>?_
    obtain⟨h',g',d',tk',os'⟩:=s';obtain rfl:g'=s.gens:=mv.gens;obtain rfl:d'=s.drawn:=mv.drawn;obtain rfl:os'=s.os:=mv.os;show wpAny _ _ _ _ _ _;refine aI ?_;show wpAny _ _ (ret Value.none) _ _ _;refine aI ⟨rfl,h',tk',es,ep,t,rfl,ho,S,fun b o e=>?_⟩;have hbl:=bF e;refine mv.heap b o ?_ (bJ _ (bJ _ e));rw[eF];simp only[a_,cA,cV,not_or];exact⟨fun z=>absurd z (bY hbl),fun z=>absurd z (bY (ot hbl))⟩
   ·cases r₂ with
    |error e=>exact hr₂
    |ok fl₂=>
     cases fl₂ with
     |ret r=>
      obtain⟨rfl,h',tk,es,ep,t,rfl,ho,S,kp⟩:=hr₂
      repeat (any_goals (first|assumption|wp_step))
      exact h _ _ es ep t ho S kp
     |_=>exact hr₂.elim
  |_=>exact hr.elim
end
theorem X6:entryFor table "set.__iter__"=some Builtin.«frozenset.__iter__»:=entryFor_alias (id':="frozenset.__iter__") (by kernel_rfl) rfl (by decide+kernel) (by kernel_rfl)
theorem Jd:Manifest.owners.lookup (String.ofList ['r', 'o', 't', 'a', 'r', 'e', 't', 'i', '_', 't', 'e', 's'].reverse)=some Manifest.sig_set_iterator:=by kernel_rfl
theorem jc:Slot "set_iterator" "__next__" "set_iterator.__next__":= .of (owner:="set_iterator") (n:="__next__") (by rw[typeLookup_type,builtinLookup_eq_fast];kernel_rfl) (by decide) (by decide) (by decide) (by first|exact .inl (by decide+kernel)|exact .inr (by decide+kernel)) (by rw[J2];kernel_rfl)
theorem vf:entryFor table "set_iterator.__next__"=some Builtin.«set_iterator.__next__»:=entryFor_of_tree (by kernel_rfl)
theorem vV(a:Value):argsOk "set_iterator.__next__" ⟨[a],[]⟩:=by unfold argsOk;rw[signature?_of (n:=['_', '_', 't', 'x', 'e', 'n', '_', '_']) (by kernel_rfl) Jd];kernel_rfl
abbrev kE(first:Value)(i n ep:Nat)(a:Value):Obj:={cls:= .type "set_iterator",dict:=none,data:= .fields #[first, .int i 0,a, .int n 0, .int ep 0],slots:=#[]}
section
variable{prog:Program}{w:World}{A:Around}{E:YY}{s:Shared}
theorem Ht{slot:Nat}(ho:s.heap.get? a=some (b8 es ep t))(hf:t.fits es.size=true)(hb:fo w=false)(hl:t.led=true)(hd:(!t.plain&&decide (es.size>1))=false)(hi:SetTable.below t.place slot=i)(h:Q (match es[i]?,t.place[i]? with|some (_,x),some j=>some (x,j+1)|_,_=>none) s):wpAny (model prog w) A (setNext a slot g ep) Q E s:=by unfold setNext setsByText;refine ak (uF ho rfl hf ?_);refine ak (ak (uG (aI ?_)));have e1:(model prog w).w.params.followText "set-order"=false:=hb;simp only[e1,ed,c8];show wpAny _ _ (if(!t.plain&&decide (es.size>1))=true then _ else _) _ _ _;simp only[hd,ed,c8];show wpAny _ _ ((if(!t.led&&!es.isEmpty)=true then _ else _)>>=_) _ _ _;simp only[hl,uH,JL,ed,c8];refine ak (aI (aI ?_));simp only[hi];exact h
theorem Fz{slot:Nat}(ho:s.heap.get? a=some (b8 es ep t))(hf:t.fits es.size=true)(hb:fo w=true)(h:Q (((pickOrder (w.params.setOrder a ep) es)[g]?).map fun e=>(e.2,slot)) s):wpAny (model prog w) A (setNext a slot g ep) Q E s:=by refine ak (uF ho rfl hf ?_);refine ak (ak (uG (aI ?_)));have e1:(model prog w).w.params.followText "set-order"=true:=hb;simp only[e1,dR,mR,ed,c8];refine ak ?_;refine ak (uF ho rfl hf ?_);refine ak (ak (uG (aI ?_)));simp only[e1,dR];refine ak (uG ?_);exact aI (aI h)
theorem HQ{ep slot i nx:Nat}(ho:s.heap.get? a=some (b8 es ep t))(hf:t.fits es.size=true)(hit:s.heap.get? it=some (kE (.int slot 0) i es.size ep (.ref a)))(hN:∀(A:Around)(E:YY)(Q':Option (Value×Nat)→Shared→Prop),Q' (some (x,nx)) s→wpAny (model prog w) A (setNext a slot i ep) Q' E s)(hQ:∀h',Heap.SameBut it s.heap h'→h'.get? it=some (kE (.int nx 0) (i+1) es.size ep (.ref a))→Q (some x) {s with heap:=h'}):wpAny (model prog w) A (pyNext (.ref it)) Q E s:=by have hT:s.TypeIs (.ref it) "set_iterator":=⟨_,hit,rfl⟩;refine ak (uI (uJ hT jc (lE jc hT vf ?_ (vV _))));refine ak (aI ?_);refine ak (uK hit rfl ?_);refine ak (xX ho rfl hf ?_);simp;refine ak (hN _ _ _ ?_);refine ak (wpAny_setField_rec hit (by simp) fun h1 g1 sb1=>?_);refine ak (wpAny_setField_rec g1 (by simp) fun h2 g2 sb2=>?_);refine aI ⟨_,rfl,aI (hQ h2 (sb1.trans sb2) ?_)⟩;exact g2
theorem EO{ep slot i:Nat}(hh:A.handled=none)(ho:s.heap.get? a=some (b8 es ep t))(hf:t.fits es.size=true)(hit:s.heap.get? it=some (kE (.int slot 0) i es.size ep (.ref a)))(hN:∀(A:Around)(E:YY)(Q':Option (Value×Nat)→Shared→Prop),Q' none s→wpAny (model prog w) A (setNext a slot i ep) Q' E s)(hQ:∀h',Heap.ExtBut it s.heap h'→Q none {s with heap:=h'}):wpAny (model prog w) A (pyNext (.ref it)) Q E s:=by have hT:s.TypeIs (.ref it) "set_iterator":=⟨_,hit,rfl⟩;unfold pyNext;refine ak (uI (uJ hT jc (lE jc hT vf ?_ (vV _))));unfold Builtin.«set_iterator.__next__»;refine ak (aI ?_);refine ak (uK hit rfl ?_);dsimp only;refine ak (xX ho rfl hf ?_);simp;refine ak (hN _ _ _ ?_);dsimp only;refine ak (wpAny_setField_rec hit (by simp) fun h1 g1 sb1=>?_);refine ak ?_;simp only[newExc,newTuple];refine ak (j7 ?_ (by size_fits));refine ak (BA (by first|rfl|(simp;rfl)) (j7 ?_ (by size_fits)));simp only[raiseNew];refine ak (wpAny_handled ?_);rw[show A.in1.handled=none from hh];refine ak (aI (wpAny_throw ?_));refine ak (BC ⟨_,cy _ rfl,rfl⟩ J3 (aI (hQ _ ?_)));exact(sb1.extBut.push _).push _
end
theorem E4:Slot "set_iterator" "__iter__" "set_iterator.__iter__":= .of (owner:="set_iterator") (n:="__iter__") (by rw[typeLookup_type,builtinLookup_eq_fast];kernel_rfl) (by decide) (by decide) (by decide) (by first|exact .inl (by decide+kernel)|exact .inr (by decide)) (by rw[J2];kernel_rfl)
theorem Xt:entryFor table "set_iterator.__iter__"=some Builtin.«dict_keyiterator.__iter__»:=entryFor_alias (id':="dict_keyiterator.__iter__") (by kernel_rfl) (by first|rfl|decide+kernel|(unfold String.splitOn;simp+decide [String.splitOnAux])) (by decide+kernel) (by kernel_rfl)
theorem OY(a:Value):argsOk "set_iterator.__iter__" ⟨[a],[]⟩:=by unfold argsOk;rw[signature?_of (n:=['_', '_', 'r', 'e', 't', 'i', '_', '_']) (by kernel_rfl) Jd];kernel_rfl
theorem ID(f:Nat→Nat):∀(n k:Nat)(l:List α)(out:Array α),l.length=n→(pickOrder.go f n k l out).toList.Perm (out.toList++l)
 |0,k,l,out,h=>by have:l=[]:=uL.mp h;subst this;unfold pickOrder.go;simp
 |n+1,k,l,out,h=>by
  unfold pickOrder.go;have lt:f k%l.length<l.length:=Nat.mod_lt _ (by simp[*]);rw[bq lt];have ih:=ID f n (k+1) (l.eraseIdx (f k%l.length)) (out.push l[f k%l.length]) (by rw[Yt];simp[lt];simp[*]);refine ih.trans ?_;rw[Array.toList_push,oj];refine List.Perm.append_left _ ?_;generalize f k%l.length=j at lt;clear ih h;induction l generalizing j with
  |nil=>simp at lt
  |cons x l ih=>
   cases j with
   |zero=>simp
   |succ j=>exact(pW _ _ _).trans ((ih j (by simpa using lt)).cons x)
section
variable{prog:Program}{w:World}{A:Around}{E:YY}{s:Shared}
theorem TC(hn:n≠0)(h:∀i d,i<n→Q i {s with drawn:=d}):wpAny (model prog w) A (choose src n) Q E s:=fun Γ p _=>⟨hn,h _ _ (Nat.mod_lt _ (Nat.pos_of_ne_zero hn))⟩
theorem qA:∀(l:List α)(i:Nat)(h:i<l.length),(l[i]::l.eraseIdx i).Perm l
 |[],i,h=>by simp at h
 |x::l,0,_=>by simp
 |x::l,i+1,h=>by exact(pW _ _ _).trans ((qA l i (by simpa using h)).cons x)
theorem Ga:∀(n:Nat)(l:List α)(s:Shared){Q:List α→Shared→Prop},l.length=n→(∀r d,r.Perm l→Q r {s with drawn:=d})→wpAny (model prog w) A (drawOrder n l) Q E s
 |0,l,s,Q,hl,h=>by have e:l=[]:=uL.mp hl;subst e;exact aI (h [] s.drawn (uM _))
 |n+1,[],s,Q,hl,h=>by simp at hl
 |n+1,x::l,s,Q,hl,h=>by refine ak (TC (by simp) fun i d hi=>?_);rw[bq hi];refine ak (Ga n ((x::l).eraseIdx i) {s with drawn:=d} (by rw[Yt];simp at hl hi;simp[hi];omega) fun r d' hp=>?_);exact aI (h _ d' ((hp.cons _).trans (qA (x::l) i hi)))
theorem yA(hit:s.heap.get? it=some (kE first i n ep a))(h:Q (.ref it) s):wpAny (model prog w) A (pyIter (.ref it)) Q E s:=by have hT:s.TypeIs (.ref it) "set_iterator":=⟨_,hit,rfl⟩;refine J4 hT E4 (lE E4 hT Xt ?_ (OY _));exact aI ⟨_,rfl,"set_iterator",_,hT,jc.lookup,h⟩
theorem T3(ho:s.heap.get? a=some (b8 es ep t))(hf:t.fits es.size=true)(hit:s.heap.get? it=some (kE (.ref tp) i es.size ep (.ref a)))(nX:s.heap.get? tp=some {cls:= .type "tuple",data:= .seq ps})(hp:ps[i]?=some (.int (pl:Nat) tk))(hx:es[pl]?=some x)(hQ:∀h',Heap.SameBut it s.heap h'→h'.get? it=some (kE (.ref tp) (i+1) es.size ep (.ref a))→Q (some x.2) {s with heap:=h'}):wpAny (model prog w) A (pyNext (.ref it)) Q E s:=by have hT:s.TypeIs (.ref it) "set_iterator":=⟨_,hit,rfl⟩;refine ak (uI (uJ hT jc (lE jc hT vf ?_ (vV _))));refine ak (aI ?_);refine ak (uK hit rfl ?_);refine ak (xX ho rfl hf ?_);simp;refine ak (wpAny_seqItems nX rfl ?_);simp only[hp,cF];refine ak ?_;refine ak (uF ho rfl hf ?_);simp only[mR,ed,c8,hx];refine aI ?_;refine ak (wpAny_setField_rec hit (by simp) fun h1 g1 sb1=>?_);exact aI ⟨_,rfl,aI (hQ h1 sb1 g1)⟩
theorem N8(hh:A.handled=none)(ho:s.heap.get? a=some (b8 es ep t))(hf:t.fits es.size=true)(hit:s.heap.get? it=some (kE (.ref tp) i es.size ep (.ref a)))(nX:s.heap.get? tp=some {cls:= .type "tuple",data:= .seq ps})(hp:ps[i]?=none)(hQ:∀h',Heap.ExtBut it s.heap h'→Q none {s with heap:=h'}):wpAny (model prog w) A (pyNext (.ref it)) Q E s:=by have hT:s.TypeIs (.ref it) "set_iterator":=⟨_,hit,rfl⟩;unfold pyNext;refine ak (uI (uJ hT jc (lE jc hT vf ?_ (vV _))));unfold Builtin.«set_iterator.__next__»;refine ak (aI ?_);refine ak (uK hit rfl ?_);dsimp only;refine ak (xX ho rfl hf ?_);simp;refine ak (wpAny_seqItems nX rfl ?_);simp only[hp];refine ak (wpAny_setField_rec hit (by simp) fun h0 g0 sb0=>?_);refine ak (wpAny_setField_rec g0 (by simp) fun h1 g1 sb1=>?_);refine ak ?_;simp;refine ak (j7 ?_ (by size_fits));refine ak (BA (by first|rfl|(simp;rfl)) (j7 ?_ (by size_fits)));simp only[raiseNew];refine ak (wpAny_handled ?_);rw[show A.in1.handled=none from hh];refine ak (aI (wpAny_throw ?_));refine ak (BC ⟨_,cy _ rfl,rfl⟩ J3 (aI (hQ _ ?_)));exact(((sb0.trans sb1).extBut).push _).push _
theorem Bl(sb:Heap.SameBut it h h'):∀b o,b∉[it]→h.get? b=some o→h'.get? b=some o:=fun b o hb e=>sb.extBut b o (fun z=>hb (by simp[z])) e
theorem Vf(hh:A.handled=none){a it:Addr}{es:Array (Int×Value)}{ep:Nat}{t:SetTable}(ne:a≠it)(hf:t.fits es.size=true)(hb:fo w=false)(hl:t.led=true)(hd:(!t.plain&&decide (es.size>1))=false)(hr:iu t.place.toList):
  Walks prog w A it [it,a] [it] es.size (fun i v=>(es[i]?).map (·.2)=some v) (fun i h=>h.get? a=some (b8 es ep t)∧∃slot:Nat,h.get? it=some (kE (.int slot 0) i es.size ep (.ref a))∧SetTable.below t.place slot=i)where
 sub:=fun b hb=>by simp at hb;simp[hb]
 frame:=fun i h h' st k=>⟨k a (by simp) _ st.1,by obtain⟨sl,e1,e2⟩:=st.2;exact⟨sl,k it (by simp) _ e1,e2⟩⟩
 item:=fun i s Q E hi st hQ=>by
  obtain⟨ho,slot,hit,hs⟩:=st;have hps:t.place.size= es.size:=by unfold SetTable.fits at hf;simp_all
  have h1:es[i]?=some es[i]:=by simp
  have h2:t.place[i]?=some (t.place[i]'(by simp[*])):=by simp
  refine HQ ho hf hit (fun A E Q' q=>Ht ho hf hb hl hd hs (by rw[h1,h2];exact q)) fun h' sb g=>?_;exact hQ _ h' s.toks (by rw[h1];rfl) ⟨sb.extBut a _ ne ho,_,g,SF _ hr h2⟩ (Bl sb)
 done:=fun s Q E st hQ=>by obtain⟨ho,slot,hit,hs⟩:=st;refine EO hh ho hf hit (fun A E Q' q=>Ht ho hf hb hl hd hs (by rw[show es[es.size]?=none by simp];exact q)) fun h' eb=>?_;exact hQ h' s.toks fun b o hb e=>eb b o (fun z=>hb (by simp[z])) e
 self:=fun _ _ _ _ st hQ=>by obtain⟨_,slot,hit,_⟩:=st;exact yA hit hQ
theorem O1(hh:A.handled=none){a it:Addr}{es:Array (Int×Value)}{ep:Nat}{t:SetTable}(ne:a≠it)(hf:t.fits es.size=true)(hb:fo w=true)(hz:(pickOrder (w.params.setOrder a ep) es).size= es.size):
  Walks prog w A it [it,a] [it] es.size (fun i v=>((pickOrder (w.params.setOrder a ep) es)[i]?).map (·.2)=some v) (fun i h=>h.get? a=some (b8 es ep t)∧h.get? it=some (kE (.int (0:Nat) 0) i es.size ep (.ref a)))where
 sub:=fun b hb=>by simp at hb;simp[hb]
 frame:=fun i h h' st k=>⟨k a (by simp) _ st.1,k it (by simp) _ st.2⟩
 item:=fun i s Q E hi st hQ=>by obtain⟨ho,hit⟩:=st;obtain⟨x,hx⟩:∃x,(pickOrder (w.params.setOrder a ep) es)[i]?=some x:=⟨_,BD (by simp[*])⟩;refine HQ ho hf hit (fun A E Q' q=>Fz ho hf hb (by rw[hx];exact q)) fun h' sb g=>?_;exact hQ _ h' s.toks (by rw[hx];rfl) ⟨sb.extBut a _ ne ho,g⟩ (Bl sb)
 done:=fun s Q E st hQ=>by obtain⟨ho,hit⟩:=st;refine EO hh ho hf hit (fun A E Q' q=>Fz ho hf hb (by rw[show(pickOrder (w.params.setOrder a ep) es)[es.size]?=none by rw[←hz];simp];exact q)) fun h' eb=>?_;exact hQ h' s.toks fun b o hb e=>eb b o (fun z=>hb (by simp[z])) e
 self:=fun _ _ _ _ st hQ=>yA st.2 hQ
theorem Ux(hh:A.handled=none){a it tp:Addr}{es:Array (Int×Value)}{ep:Nat}{t:SetTable}(ne:a≠it)(ne2:tp≠it)(hf:t.fits es.size=true)(r:List Nat)(hr:∀p∈r,p<es.size)(hl:r.length= es.size):
  Walks prog w A it [it,a,tp] [it] es.size (fun i v=>((r[i]?).bind fun p=>es[p]?).map (·.2)=some v) (fun i h=>h.get? a=some (b8 es ep t)∧h.get? it=some (kE (.ref tp) i es.size ep (.ref a))∧h.get? tp=some {cls:= .type "tuple",data:= .seq (r.map fun(p:Nat)=>rawInt p).toArray})where
 sub:=fun b hb=>by simp at hb;simp[hb]
 frame:=fun i h h' st k=>⟨k a (by simp) _ st.1,k it (by simp) _ st.2.1,k tp (by simp) _ st.2.2⟩
 item:=fun i s Q E hi st hQ=>by
  obtain⟨ho,hit,nX⟩:=st;have hri:r[i]?=some (r[i]'(by simp[*])):=by simp
  have hp:r[i]'(by omega)<es.size:=hr _ (lD _);refine T3 ho hf hit nX (x:=es[r[i]'(by omega)]) (by rw[Yu,cz,hri];rfl) (by simp) fun h' sb g=>?_;exact hQ _ h' s.toks (by rw[hri];simp[hp]) ⟨sb.extBut a _ ne ho,g,sb.extBut tp _ ne2 nX⟩ (Bl sb)
 done:=fun s Q E st hQ=>by obtain⟨ho,hit,nX⟩:=st;refine N8 hh ho hf hit nX (by rw[Yu,cz,lB (by simp[*])];rfl) fun h' eb=>?_;exact hQ h' s.toks fun b o hb e=>eb b o (fun z=>hb (by simp[z])) e
 self:=fun _ _ _ _ st hQ=>yA st.2.1 hQ
end
section
variable{prog:Program}{w:World}{A:Around}{E:YY}{s:Shared}
theorem Ef{es:Array (Int×Value)}{l:List (Int×Value)}(hp:l.Perm es.toList)(hm:(es.toList.map fun e=>valOf e.2).Perm ms):(l.map fun e=>valOf e.2).Perm ms:=(hp.map _).trans hm
theorem WW(ho:s.heap.get? a=some (b8 es ep t))(S:eS prog w es t ms)(hQ:∀(h':Heap)(d':Drawn)(I:Addr)(fp:List Addr)(ord:List Int)(P:Nat→Value→Prop)(St:Nat→Heap→Prop),(∀b o,s.heap.get? b=some o→h'.get? b=some o)→s.heap.objs.size≤I→(∀b∈fp,b=a∨s.heap.objs.size≤b)→ord.Perm ms→
   (∀i v,P i v→∃t,v= .int (ord.getD i 0) t)→(∀A':Around,A'.handled=none→Walks prog w A' I fp [I] es.size P St)→St 0 h'→Q (.ref I) {s with heap:=h',drawn:=d'}):wpAny (model prog w) A (pyIter (.ref a)) Q E s:=by
 have hT:s.TypeIs (.ref a) "set":=⟨_,ho,rfl⟩;have lt:a<s.heap.objs.size:=bF ho;have ivs:∀(l:List (Int×Value)),l.Perm es.toList→∀(i:Nat)(v:Value),(l[i]?).map (·.2)=some v→∃t,v= .int ((l.map fun e=>valOf e.2).getD i 0) t:=fun l hp i v hv=>by
  cases hx:l[i]? with
  |none=>rw[hx]at hv;cases hv
  |some e=>
   rw[hx]at hv;obtain⟨tk,q⟩:=Dr S.el (hp.mem_iff.mp (fg hx));refine⟨tk,?_⟩;rw[bC,cz,hx];have:e.2=v:=by simpa using hv
   rw[←this];exact q
 refine J4 hT F.slot_set_iter (lE F.slot_set_iter hT X6 ?_ (F.args_set_iter_1 _));unfold Builtin.«frozenset.__iter__» Builtin.Frozenset.slot0 slotArgs;simp only[List.isEmpty_nil,uH,ed,↓reduceIte,bind_assoc,iW,mR];unfold Builtin.Frozenset.addrOf Builtin.Frozenset.sizeOf setDrawn setsByText;refine ak (aI ?_)
 try dsimp only
 refine ak (aI ?_);refine ak (ak (xX ho rfl S.ft (aI ?_)));refine ak (ak (uF ho rfl S.ft ?_));refine ak (ak (uG (aI (aI ?_))));show wpAny _ _ (if(!(fo w)&&(!t.plain&&decide (es.size>1)))=true then _ else _) _ _ _;cases hb:fo w with
 |true=>
  simp only[uH,JL,ed,c8];refine ak (aI ?_);refine ak (J5 ho rfl S.ft ?_);refine ak (j7 (aI ⟨_,rfl,"set_iterator",_,⟨_,cy _ rfl,rfl⟩,jc.lookup,?_⟩));have hp:(pickOrder (w.params.setOrder a ep) es).toList.Perm es.toList:=by unfold pickOrder;simpa using ID (w.params.setOrder a ep) es.size 0 es.toList #[] (by simp)
  refine hQ _ s.drawn s.heap.objs.size [s.heap.objs.size,a] _ _ _ (fun b o e=>bJ _ e) (aY _) (by simp) (Ef hp S.pm) (fun i v hv=>ivs _ hp i v (by rw[←om]at hv;exact hv)) (fun A' hh=>O1 hh (bY lt) S.ft hb (by simpa using hp.length_eq)) ?_;exact⟨bJ _ ho,cy _ rfl⟩
 |false=>
  have hl:t.led=true:=by have:=S.tb.led;rw[hb]at this;exact this
  cases hd:(!t.plain&&decide (es.size>1))with
  |false=>simp only[JT,ed,c8];refine ak (aI ?_);refine ak (J5 ho rfl S.ft ?_);refine ak (j7 (aI ⟨_,rfl,"set_iterator",_,⟨_,cy _ rfl,rfl⟩,jc.lookup,?_⟩));refine hQ _ s.drawn s.heap.objs.size [s.heap.objs.size,a] _ _ _ (fun b o e=>bJ _ e) (aY _) (by simp) S.pm (fun i v hv=>ivs _ (uM _) i v (by rw[←om]at hv;exact hv)) (fun A' hh=>Vf (ep:=ep) hh (bY lt) S.ft hb hl hd S.tb.rise) ?_;exact⟨bJ _ ho,0,cy _ rfl,RL _ S.tb.rise⟩
  |true=>
   simp only[Bool.not_false,Bool.and_true,dR];refine ak (Ga es.size (range es.size) s (by simp) fun r d hp=>?_);have hrl:r.length= es.size:=by simpa using hp.length_eq
   have mJ:∀p∈r,p<es.size:=fun p h=>by simpa using hp.mem_iff.mp h
   refine ak (J7 ?_ (by rw[bj,hrl];exact Bx S.sm));refine ak (J5 (bJ _ ho) rfl S.ft ?_);refine ak (j7 (aI ⟨_,rfl,"set_iterator",_,⟨_,cy _ rfl,rfl⟩,jc.lookup,?_⟩));have jR:(r.filterMap fun p=>es[p]?).Perm es.toList:=by refine(hp.filterMap _).trans ?_;have:=List.filterMap_getElem?_range_length es.toList;rw[iq]at this;simp at this;rw[this]
   have xG:∀i:Nat,(r.filterMap fun p=>es[p]?)[i]?=(r[i]?).bind fun p=>es[p]?:=by
    clear hp hrl jR;intro i;induction r generalizing i with
    |nil=>simp
    |cons x r ih=>
     have hx:es[x]?=some (es[x]'(mJ x (by simp))):=by simp
     rw[xK,hx];cases i with
     |zero=>simp
     |succ i=>simpa using ih (fun p h=>mJ p (by simp[h])) i
   refine hQ _ d (s.heap.push _).objs.size [(s.heap.push _).objs.size,a,s.heap.objs.size] _ _ _ (fun b o e=>bJ _ (bJ _ e)) ?_ ?_ (Ef jR S.pm) (fun i v hv=>ivs _ jR i v (by rw[xG];exact hv)) (fun A' hh=>Ux (ep:=ep) hh ?_ ?_ S.ft r mJ hrl) ?_
   ·rw[eF];exact j5 _
   ·intro b fC;simp only[a_,cA,cV]at fC;rcases fC with z|z|z
    ·exact .inr (by rw[z,eF];exact j5 _)
    ·exact .inl z
    ·exact .inr (by rw[z];exact aY _)
   ·rw[eF];exact bY (ot lt)
   ·rw[eF];exact bY (xN _)
   ·exact⟨bJ _ (bJ _ ho),cy _ rfl,bJ _ (cy _ rfl)⟩
theorem U2(ho:s.heap.get? a=some (b8 es ep t))(h:Q false s):wpAny (model prog w) A (Builtin.List.listLengthHint (.ref a)) Q E s:=by
 have hT:s.TypeIs (.ref a) "set":=⟨_,ho,rfl⟩;refine ak (wpAny_specialOf hT F.slot_set_len.lookup ?_);generalize hid:("set.__len__":String)=id0
 wp_delta;rw[show splitId id0=some ("set","__len__")from by subst hid;decide];subst hid;refine ak (BC (b:=true) hT (by rw[J2];kernel_rfl) ?_);refine J8 (fun hab=>absurd hab (by decide)) (fun _=>?_);refine J8 (fun _=>?_) (fun hab=>absurd (by decide) hab);refine ak (wpAny_typeOf hT ?_);exact aI h
end
open PySem PySem.Spec PyProof.Rows L2
theorem IJ:∀{l:List Value},(∀(j:Nat)(v:Value),l[j]?=some v→∃t,v= .int (ord.getD j 0) t)→l.length=ord.length→PyProof.Rows.IntsAre l ord:=by
 induction ord with
 |nil=>intro l _ hl;have:l=[]:=uL.mp hl;subst this;exact .nil
 |cons k ord ih=>
  intro l h hl;cases l with
  |nil=>simp at hl
  |cons x l=>obtain⟨t,rfl⟩:=h 0 x rfl;exact .cons k t (ih (fun j v hv=>h (j+1) v (by simpa using hv)) (by simpa using hl))
section
variable{prog:Program}{w:World}{A:Around}{E:YY}{s:Shared}
theorem Ri(hh:A.handled=none)(ho:s.heap.get? a=some (b8 es ep t))(S:eS prog w es t ms)(h:∀(h':Heap)(d':Drawn)(tk:Nat)(vs:List Value)(ord:List Int),(∀b o,s.heap.get? b=some o→h'.get? b=some o)→PyProof.Rows.IntsAre vs ord→ord.Perm ms→Q vs {s with heap:=h',drawn:=d',toks:=tk}):
  wpAny (model prog w) A (collect (.ref a)) Q E s:=by
 unfold collect;refine ak (wpAny_runValue (pU entry_proto_collect' ?_));show wpAny _ _ (newList []>>=fun l=>again (.builtin "list.__iadd__" ⟨[l, .ref a],[]⟩)) _ _ s;refine ak (BF (aI ⟨Code.quiet_builtin _ (by decide+kernel),pU entry_list_iadd' ?_⟩));show wpAny _ _ (Builtin.List.listExtendWith (.ref s.heap.objs.size) (.ref a) (.ref s.heap.objs.size)) _ _ {s with heap:=s.heap.push (seqObj "list" #[] 0)};unfold Builtin.List.listExtendWith;have gy:(s.heap.push (seqObj "list" #[] 0)).get? a=some (b8 es ep t):=bJ _ ho;have lt:a<s.heap.objs.size:=bF ho;have hL0:(s.heap.push (seqObj "list" #[] 0)).get? s.heap.objs.size=some (seqObj "list" #[] 0):=cy _ rfl;refine ak (wpAny_typeOf ⟨_,gy,rfl⟩ ?_);have e1:Builtin.List.listSameRef (.ref s.heap.objs.size) (.ref a)=false:=by simp only[Builtin.List.listSameRef,iT];exact og lt
 have e2:(Value.type "set"==Value.type "list")=false:=by decide
 have e3:(Value.type "set"==Value.type "tuple")=false:=by decide
 simp only[e1,e2,e3,Bool.or_false,ed,c8];refine ak (WW gy S fun h1 d1 I fp ord P St kp hI nV jv hP W st=>?_);refine ak (lz (U2 (kp a _ gy) ?_));have hL1:=kp _ _ hL0;refine J8 (fun _=>?_) (fun hab=>absurd (by decide) hab);refine ak (wpAny_rule (ak ?_));show wpAny _ _ (updateSeq s.heap.objs.size (·.push .none)>>=fun _=>updateSeq s.heap.objs.size (·.pop)) _ _ _;refine ak (wpAny_updateSeq hL1 rfl ?_);have hL2:=xP (Obj.mapSeq (·.push Value.none)) hL1 rfl;refine wpAny_updateSeq hL2 rfl ?_;have hL3:=xP (Obj.mapSeq (·.pop)) hL2 rfl;have nfp:s.heap.objs.size∉fp:=fun z=>by
  rcases nV _ z with q|q
  ·exact absurd q (og lt)
  ·have q':(s.heap.push (seqObj "list" #[] 0)).objs.size≤s.heap.objs.size:=q;rw[eF]at q';exact absurd q' (Nat.not_succ_le_self _)
 refine aI ⟨xW F.plain_extend_loop _,?_⟩;have hAA:A.in1.in1.handled=none∧A.in1.handled=none:=⟨by simp[hh],by simp[hh]⟩;refine codeAny_extend_loopS ((W _ ?hx).toS) (Bx S.sm) s.heap.objs.size nfp _ es.size 0 _ #[] _ rfl (eG _) ((W A hh).frame 0 _ _ st fun b hb o e=>?_) hL3 (ItemsOf.nil _) fun s' bU c' mv hS' il=>?_
 case hx=>simp[hh]
 ·have nb:b≠s.heap.objs.size:=fun z=>nfp (z▸hb);exact(uB _ _ (iU nb)).trans ((uB _ _ (iU nb)).trans e)
 ·show wpAny _ _ (load s.heap.objs.size>>=_) _ _ s';refine ak (wpAny_load hS' (aI ?_));obtain⟨h',g',d',tk',os'⟩:=s';obtain rfl:g'=s.gens:=mv.gens;obtain rfl:d'=d1:=mv.drawn;obtain rfl:os'=s.os:=mv.os;have mK:ord.length= es.size:=by rw[jv.length_eq,S.size]
  refine h h' d' tk' _ ord (fun b o e=>?_) (IJ (fun j v hv=>hP j v (il.2 j v (by rw[←om];exact hv))) (by rw[iq,il.1,mK])) jv;have hb:=bF e;have nb:b≠s.heap.objs.size:=bY hb;have nI:b≠I:=fun z=>by have q':(s.heap.push (seqObj "list" #[] 0)).objs.size≤I:=hI;rw[eF,←z]at q';exact absurd (fc hb (xS q')) (ly _)
  refine mv.heap b o ?_ ?_
  ·simp;exact⟨nb,nI⟩
  ·exact(uB _ _ (iU nb)).trans ((uB _ _ (iU nb)).trans (kp b o (bJ _ e)))
theorem yw(hh:A.handled=none)(ho:s.heap.get? a=some (b8 es ep t))(S:eS prog w es t ms)(hm:ms.length<64)(h:∀(h1 h2:Heap)(d':Drawn)(tk:Nat)(out:Array Value)(ns:List Int)(e:Nat),(∀b o,s.heap.get? b=some o→h1.get? b=some o)→(∀b o,h1.get? b=some o→h2.get? b=some o)→h2.get? h1.objs.size=some (seqObj "list" out e)→PyProof.Rows.IntsAre out.toList ns→ns.Perm ms→ns.Pairwise (·≤·)→Q (.ref h1.objs.size) {s with heap:=h2,drawn:=d',toks:=tk}):
  wpAny (model prog w) A (call (.builtin "sorted") [.ref a]) Q E s:=by
 refine Yv kind_sorted plain_sorted entry_sorted (args_sorted1 _) ?_;refine ak (aI ?_);refine ak (Ri (by simp[hh]) ho S fun h1 d1 tk vs ord kp hi jv=>?_);refine ak (BF ?_ (by rw[hi.length,jv.length_eq];exact zY hm));have hL:(h1.push (seqObj "list" vs.toArray 0)).get? h1.objs.size=some (seqObj "list" vs.toArray 0):=cy _ rfl;refine ak (lz (lE slot_list_sort ⟨_,hL,rfl⟩ entry_list_sort (list_sort_tree hL hi (by rw[hi.length,jv.length_eq];exact hm) fun out ns a1 a2 a3=>⟨_,rfl,?_⟩) (args_list_sort _)));obtain⟨e,he⟩:=sortedHeap_at hL;refine aI ⟨_,rfl,h h1 _ d1 tk out ns e kp (fun b o eb=>?_) he a1 (a2.trans jv) a3⟩;have hb:=bF eb;rw[sortedHeap_old (bY hb) (by rw[eF];exact ot hb)];exact bJ _ eb
end
section
variable{X:Cx}
def oY(P:Program)(w:World)(a:Addr)(ms:List Int):HO:= .ext fun h=>∃es ep t,h.get? a=some (b8 es ep t)∧eS P w es t ms
theorem oY.ok(ho:h.get? a=some (b8 es ep t))(S:eS P w es t ms):cw P w H h a (oY P w a ms):=
 ⟨⟨es,ep,t,ho,S⟩,⟨_,ho⟩,fun h1 h2⟨cT,ep1,t1,o1,S1⟩ k=>⟨cT,ep1,t1,k _ o1,S1⟩⟩
def T5(K:YX)(P:Program)(w:World):List V→Hp→VK→Prop:=fun vs H Q=>∃(a:Addr)(ns:List Int),vs=[V.ref a]∧aU K H a (ns.map V.int)∧ns.length<4000∧∀p,H p=none→Q (.ref p) (upd H p (oY P w p (ns.foldl dh [])))
theorem F1(hc:X.calm=true):eX X (.type "set") (T5 X.K X.prog X.w):=by intro pins s σ H vs us Q I r h;obtain⟨a,ns,rfl,hs,hl4,q⟩:=h;obtain⟨ao,rv,hl,_⟩:=I.list hs;rw[Vals.kK r];have hi:=rv.eQ;refine Rb (I.ok.hd hc) hl.isList (by simpa using hi) (by rw[c7,hi.length];unfold scanBound;lia) fun h' tk es ep t ho S kp=>?_;exact⟨.ref _,_,I.laid kp (aY _) (oY.ok ho S),rfl,q _ (I.aG.fresh (aY _))⟩
def MX(P:Program)(w:World):List V→Hp→VK→Prop:=fun vs H Q=>∃(a:Addr)(ms:List Int),vs=[V.ref a]∧H a=some (oY P w a ms)∧Q (.int ms.length) H
theorem W3:eX X (.builtin "len") (MX X.prog X.w):=by
 intro pins s σ H vs us Q I r h;obtain⟨a,ms,rfl,ha,q⟩:=h;rw[Vals.kK r];obtain⟨⟨es,ep,t,ho,S⟩,_⟩:=I.aG a _ ha;refine call_len_set ho ⟨rfl,rfl,rfl⟩ rfl S.ft ?_ ⟨.int _,H,I.tok _,⟨_,by rw[S.size]⟩,q⟩;have:=S.sm;unfold scanBound at this
 lia
def MM(P:Program)(w:World):List V→Hp→VK→Prop:=fun vs H Q=>∃(a:Addr)(ms:List Int),vs=[V.ref a]∧H a=some (oY P w a ms)∧ms.length<64∧
 ∀(ns:List Int)(p:Addr),ns.Perm ms→ns.Pairwise (·≤·)→H p=none→Q (.ref p) (upd H p (.lst (ns.map V.int)))
theorem Sk(hc:X.calm=true):eX X (.builtin "sorted") (MM X.prog X.w):=by
 intro pins s σ H vs us Q I r h;obtain⟨a,ms,rfl,ha,hm,q⟩:=h;rw[Vals.kK r];obtain⟨⟨es,ep,t,ho,S⟩,_⟩:=I.aG a _ ha;refine yw (I.ok.hd hc) ho S hm fun h1 h2 d' tk out ns e k1 k2 he hi hp hs=>?_;have I1:Inv X pins σ H {s with heap:=h1,drawn:=d',toks:=tk}:=I.En (ch:=[]) rfl (Un.kept k1) (I.aG.kept k1) I.bare (fun b hb=>by cases hb);have hlen:(ns.map V.int).length≤sizeLine:=by rw[bj,hp.length_eq];exact zY hm
 have I2:Inv X pins σ (upd H h1.objs.size (.lst (ns.map V.int))) {s with heap:=h2,drawn:=d',toks:=tk}:=I1.laid k2 (aY _) ⟨hlen,out.toList,e,vQ hi,he⟩;exact⟨.ref _,_,I2,rfl,q ns _ hp hs (I1.aG.fresh (aY _))⟩
end
section
variable{X:Cx}
theorem Tb:eX X (.type "range") (fun xs H Q=>∃j:Int,xs=[.int j]∧∀p,H p=none→Q (.ref p) (upd H p (.kN 0 j))):=by intro pins s σ H xs us Q I r h;obtain⟨j,rfl,q⟩:=h;obtain⟨u,rfl,t,rfl⟩:=vals1 r;refine call_range_1 ?_;exact⟨.ref _,_,I.laid (fun b o e=>bJ _ e) (aY _) (show cw X.prog X.w _ _ _ (.kN 0 j)from⟨_,_,_,cy _ rfl⟩),rfl,q _ (I.aG.fresh (aY _))⟩
theorem QI(hc:X.calm=true):eX X (.type "list") (fun xs H Q=>∃(p:Addr)(n:Nat),xs=[.ref p]∧H p=some (.kN 0 n)∧n≤1000∧∀l,H l=none→Q (.ref l) (upd H l (.lst ((range n).map fun(i:Nat)=>V.int i)))):=by
 intro pins s σ H xs us Q I r h;obtain⟨p,n,rfl,hp,hn,q⟩:=h;rw[Vals.kK r];obtain⟨t,u,v,hob⟩:=I.aG p _ hp;have hz:Builtin.Range.rangeSize 0 n 1=(n:Int):=by rw[rangeSize_one];split<;>simp_all
 refine call_list_range (n:=n) (I.ok.hd hc) hob (small_one (by decide) (by decide) (by simp) (by lia)) hz (by lia) fun h' tk acc c' kp hS il=>?_;have hlen:((range n).map fun(i:Nat)=>V.int i).length≤sizeLine:=by rw[bj,gR];exact qW (yP hn)
 have hv:Vals ((range n).map fun(i:Nat)=>V.int i) acc.toList:=by
  have hi:PyProof.Rows.IntsAre acc.toList ((range n).map fun(i:Nat)=>(i:Int)):=by
   refine IJ (fun j v hv=>?_) (by rw[iq,il.1];simp);have fV:acc[j]?=some v:=by rw[←om];exact hv
   obtain⟨tk,rfl⟩:=il.2 j v fV;have hj:j<n:=by have:=(Yw.mp fV).1;rw[il.1]at this;exact this
   refine⟨tk,?_⟩;rw[bC,cz,oy hj];simp
  have:=vQ hi;rw[b7]at this;exact this
 exact⟨.ref _,_,I.laid (t':=tk) kp (aY _) (show cw X.prog X.w _ _ _ (.lst _)from⟨hlen,acc.toList,c',hv,by simpa using hS⟩),rfl,q _ (I.aG.fresh (aY _))⟩
theorem TL:yJ X "list.count" (fun x xs H Q=>∃(a:Addr)(ns:List Int)(k:Int),x=V.ref a∧xs=[V.int k]∧aU X.K H a (ns.map V.int)∧Q (.int (ns.count k:Nat)) H):=by intro pins s σ H x xs v us Q I rx rxs h;obtain⟨a,ns,k,rfl,rfl,hs,q⟩:=h;cases rx;obtain⟨u,rfl,t,rfl⟩:=vals1 rxs;obtain⟨ao,rv,hl,_⟩:=I.list hs;exact count_list_ints hl.isList rv.eQ ⟨.int _,H,I.tok _,⟨_,rfl⟩,q⟩
def hZ(i:Int):Prop:=i.natAbs<2^4000
theorem hZ.log(h:hZ i):i.natAbs.log2<4000:=by
 by_cases z:i.natAbs=0
 ·simp_all
 ·exact(Nat.log2_lt z).mpr h
theorem hZ.bits(h:hZ i):Builtin.Int.intBits i≤2^20:=by
 unfold Builtin.Int.intBits;have:=h.log
 lia
theorem Vg:cR X (binaryOp .Mult) (rI (fun i j=>hZ i∧hZ j) fun i j=> .int (i*j)):=pI fun _ _ _ _ _ _ _ hc q=>mul_int q (IntMulOk.of_bits hc.1.bits hc.2.bits)
theorem Lh:cR X (binaryOp .FloorDiv) (rI (fun _ j=>j≠0∧hZ j) fun i j=> .int (i.fdiv j)):=pI fun _ _ _ _ _ _ _ hc q=>floordiv_int hc.1 q (.inl (PyProof.noPylong_of_log2 (fc hc.2.log (by decide))))
end
end KS
namespace PySem
theorem Paired.imp{F G:α→β→Prop}(k:∀a b,F a b→G a b):∀{l:List α}{m:List β},Paired F l m→Paired G l m
 |_,_, .nil=> .nil
 |_,_, .cons h t=> .cons (k _ _ h) (Paired.imp k t)
theorem Paired.append:∀{l l':List α}{m m':List β},Paired F l m→Paired F l' m'→Paired F (l++l') (m++m')
 |_,_,_,_, .nil,q=>q
 |_,_,_,_, .cons h t,q=> .cons h (Paired.append t q)
theorem Paired.len:∀{l:List α}{m:List β},Paired F l m→l.length=m.length
 |_,_, .nil=>rfl
 |_,_, .cons _ t=>congrArg (·+1) (Paired.len t)
theorem Paired.at:∀{l:List α}{m:List β}{i:Nat}{b:β},Paired F l m→m[i]?=some b→∃a,l[i]?=some a∧F a b
 |_,_,i,b, .nil,h=>by simp at h
 |_,_,0,b, .cons h t,e=>⟨_,rfl,by cases eE e;exact h⟩
 |_,_,i+1,b, .cons h t,e=>Paired.at (i:=i) t (by simpa using e)
theorem Paired.take:∀{l:List α}{m:List β}(i:Nat),Paired F l m→Paired F (l.take i) (m.take i)
 |_,_,0,_=> .nil
 |_,_,_+1, .nil=> .nil
 |_,_,i+1, .cons h t=> .cons h (Paired.take i t)
theorem Paired.drop:∀{l:List α}{m:List β}(i:Nat),Paired F l m→Paired F (l.drop i) (m.drop i)
 |_,_,0,p=>p
 |_,_,_+1, .nil=> .nil
 |_,_,i+1, .cons h t=>Paired.drop i t
theorem Paired.set:∀{l:List α}{m:List β}(i:Nat),Paired F l m→F a b→Paired F (l.set i a) (m.set i b)
 |_,_,_, .nil,_=> .nil
 |_,_,0, .cons _ t,h=> .cons h t
 |_,_,i+1, .cons h t,k=> .cons h (Paired.set i t k)
theorem Paired.tE:∀{l:List α}{m:List β},Paired (fun a b=>a=f b) l m→l=m.map f
 |_,_, .nil=>rfl
 |_,_, .cons h t=>by rw[h,Paired.tE t];rfl
theorem Paired.of_map:∀{m:List β},Paired (fun a b=>a=f b) (m.map f) m
 |[]=> .nil
 |_::_=> .cons rfl Paired.of_map
end PySem
namespace Kn
open PySem PySem.Spec PyProof.Rows L2
abbrev SE(X:Cx)(e:Expr)(es:List Expr):Prop:=starEach (e::es) X.env=(false,eval e X.env)::starEach es X.env
abbrev AB(X:Cx)(e:Expr)(f:Str):Prop:=attributeBase e f X.env (eval e X.env)= eval e X.env
abbrev NS(X:Cx)(p:Pos)(es:List Expr):Prop:=(backTo p (starEach es X.env)).any (·.1)=false
abbrev Mg:=Str→Option Value
abbrev Fg:=W.Frag
abbrev aS:=L2.St
def WE(X:Cx)(e:Expr):TE:=fun σ H Q=>∀(pins:YW)(s:Shared),Inv X pins σ H s→wpAny (model X.prog X.w) X.A (eval e X.env) (EP X pins σ Q) X.xe s
def WT(X:Cx)(e:Expr):TT:=fun σ H Q=>∀(pins:YW)(s:Shared),Inv X pins σ H s→wpAny (model X.prog X.w) X.A (isTrue e X.env (eval e X.env)) (TP X pins σ Q) X.xe s
def WA(X:Cx)(es:List Expr):TA:=fun σ H Q=>∀(pos:Pos)(pins:YW)(s:Shared),Inv X pins σ H s→wpAny (model X.prog X.w) X.A (spliced (backTo pos (starEach es X.env))) (AP X pins σ Q) X.xe s
def WS(X:Cx)(st:Stmt):TS:=fun D σ H=>∀(pins:YW)(s:Shared),Inv X pins σ H s→wpAny (model X.prog X.w) X.A (exec st X.env) (SP X pins D) X.xe s
def WB(X:Cx)(gL:List Stmt):TS:=fun D σ H=>∀(pins:YW)(s:Shared),Inv X pins σ H s→wpAny (model X.prog X.w) X.A (execs gL X.env) (SP X pins D) X.xe s
section
variable{X:Cx}{e:Expr}{es:List Expr}{st:Stmt}{gL:List Stmt}{σ:aS}{H:Hp}
theorem aJ:PE X e (WE X e):=fun pins s _ _ _ I h=>h pins s I
theorem iK:PT X e (WT X e):=fun pins s _ _ _ I h=>h pins s I
theorem fH:PA X es (WA X es):=fun pos pins s _ _ _ I h=>h pos pins s I
theorem RD:PS X st (WS X st):=fun pins s _ _ _ I h=>h pins s I
theorem lP:fq X gL (WB X gL):=fun pins s _ _ _ I h=>h pins s I
theorem PE.we(p:PE X e t)(h:t σ H Q):WE X e σ H Q:=fun pins s I=>p pins s σ H Q I h
theorem PT.wt(p:PT X e t)(h:t σ H Q):WT X e σ H Q:=fun pins s I=>p pins s σ H Q I h
theorem PA.wa(p:PA X es t)(h:t σ H Q):WA X es σ H Q:=fun pos pins s I=>p pos pins s σ H Q I h
theorem PS.ws(p:PS X st t)(h:t D σ H):WS X st D σ H:=fun pins s I=>p pins s σ H D I h
theorem fq.wb(p:fq X gL t)(h:t D σ H):WB X gL D σ H:=fun pins s I=>p pins s σ H D I h
theorem WE.mono(h:WE X e σ H Q)(k:∀v H',Q v H'→Q' v H'):WE X e σ H Q':=fun pins s I=>aP (h pins s I) fun _ _⟨v,H',I',r,q⟩=>⟨v,H',I',r,k v H' q⟩
theorem WT.mono(h:WT X e σ H Q)(k:∀v H',Q v H'→Q' v H'):WT X e σ H Q':=fun pins s I=>aP (h pins s I) fun b _⟨H',I',q⟩=>⟨H',I',k b H' q⟩
end
structure au(H H1 G H2:Hp):Prop where
 hg:aj H G
 g2:aj G H2
 h2:aj H1 H2
 sep:∀b o,H b=Option.none→H1 b=some o→G b=Option.none
theorem au.cf(s:aj H H1):au H H1 H H1:=⟨aj.refl _,s,aj.refl _,fun _ _ h _=>h⟩
theorem au.trans(a:au H H1 G H2)(b:au G H2 G' H3):au H H1 G' H3:=
 ⟨a.hg.trans b.hg,b.g2,a.h2.trans b.h2,fun c o h1 h2=>b.sep c o (a.sep c o h1 h2) (a.h2 c o h2)⟩
theorem au.fI(a:au H H1 G H2)(h:H2 b=Option.none):G b=Option.none:=a.g2.free h
theorem au.bX(a:au H H1 G H2)(h:H2 b=Option.none):H1 b=Option.none:=a.h2.free h
theorem au.new(a:au H H1 G H2)(h:H2 b=Option.none)(o:HO):au H H1 G (upd H2 b o):=
 ⟨a.hg,fun c p e=>by rw[aB (bB (a.g2 c p e) h)];exact a.g2 c p e,fun c p e=>by rw[aB (bB (a.h2 c p e) h)];exact a.h2 c p e,a.sep⟩
theorem au.put(a:au H H1 G H2)(h1:H1 b=Option.none)(hg:G b=Option.none)(o:HO):au H H1 G (upd H2 b o):=
 ⟨a.hg,fun c p e=>by rw[aB (bB e hg)];exact a.g2 c p e,fun c p e=>by rw[aB (bB e h1)];exact a.h2 c p e,a.sep⟩
theorem au.aX(a:au H H1 G H2)(h1:H1 b=Option.none)(hg:G b=Option.none)(h2:H2 b=some o):au H H1 (upd G b o) H2:=by
 refine⟨fun c p e=>?_,fun c p e=>?_,a.h2,fun c p e1 e2=>?_⟩
 ·rw[aB (bB (a.hg c p e) hg)];exact a.hg c p e
 ·by_cases q:c=b
  ·subst q;rw[aE]at e;rw[h2,e]
  ·rw[aB q]at e;exact a.g2 c p e
 ·have q:c≠b:=bB e2 h1;rw[aB q];exact a.sep c p e1 e2
theorem au.tU(a:au H H1 G H2)(h:H2 b=Option.none)(o:HO):au H H1 (upd G b o) (upd H2 b o):=
 (a.new h o).aX (a.bX h) (a.fI h) aE
theorem aj.df(h:H b=Option.none):aj H (upd H b o):=fun c p e=>by rwa[aB (bB e h)]
theorem au.wide(s:aj H H')(s1:aj H' H1)(a:au H H1 G H2):∃G',aj G G'∧au H' H1 G' H2:=by
 refine⟨fun b=>match H' b with|some o=>some o|none=>G b,fun b o e=>?_,fun b o e=>?_,fun b o e=>?_,a.h2,fun b o e1 e2=>?_⟩
 ·cases q:H' b with
  |none=>simp only[q];exact e
  |some o'=>have e1:=a.h2 b o' (s1 b o' q);have e2:=a.g2 b o e;rw[e1]at e2;simp only[q];exact e2
 ·simp only[e]
 ·cases q:H' b with
  |none=>simp only[q]at e;exact a.g2 b o e
  |some o'=>simp only[q]at e;rw[←e];exact a.h2 b o' (s1 b o' q)
 ·simp only[e1];exact a.sep b o (s.free e1) e2
structure Rp(α:Type)where
 rel:Hp→V→α→Prop
 mono:∀{H H':Hp}{v:V}{a:α},aj H H'→rel H v a→rel H' v a
def aq:Rp Int:=⟨fun _ v n=>v= .int n,fun _ h=>h⟩
def aa:Rp Nat:=⟨fun _ v n=>v= .int (n:Int),fun _ h=>h⟩
def cG:Rp Bool:=⟨fun _ v b=>v= .bl b,fun _ h=>h⟩
def ah{α:Type}(R:Rp α):Rp (List α):=⟨fun H v xs=>∃a vs,v= .ref a∧H a=some (.lst vs)∧Paired (R.rel H) vs xs,fun s⟨a,vs,e,h,p⟩=>⟨a,vs,e,s a _ h,p.imp fun _ _=>R.mono s⟩⟩
def dF{α β:Type}(R:Rp α)(S:Rp β):Rp (α×β):=⟨fun H v x=>∃a v1 v2,v= .ref a∧H a=some (.tup [v1,v2])∧R.rel H v1 x.1∧S.rel H v2 x.2,fun s⟨a,v1,v2,e,h,p,q⟩=>⟨a,v1,v2,e,s a _ h,R.mono s p,S.mono s q⟩⟩
def lK{α:Type}(R:Rp α):Rp (Option α):=⟨fun H v x=>match x with|none=>v= .a8|some y=>v≠ .a8∧R.rel H v y,fun{H H' v a} s h=>match a,h with|none,h=>h|some _,h=>⟨h.1,R.mono s h.2⟩⟩
section
variable{α β γ:Type}{X:Cx}{σ:aS}{H:Hp}{e a b:Expr}{R:Rp α}{r:α}{pos:Pos}
def XE(X:Cx)(σ:aS)(H:Hp)(e:Expr)(R:Rp α)(r:α):Prop:=
 ∀H1,aj H H1→∀Q:VK,(∀y G H2,au H H1 G H2→R.rel G y r→Q y H2)→WE X e σ H1 Q
def XN(X:Cx)(σ:aS)(H:Hp)(e:Expr)(R:Rp α)(xs:List α):Prop:=
 ∀H1,aj H H1→∀Q:VK,(∀l vs G H2,au H H1 G H2→H1 l=Option.none→G l=Option.none→H2 l=some (.lst vs)→Paired (R.rel G) vs xs→Q (.ref l) H2)→WE X e σ H1 Q
def XT(X:Cx)(σ:aS)(H:Hp)(e:Expr)(b:Bool):Prop:=
 ∀H1,aj H H1→∀Q:Bool→Hp→Prop,(∀G H2,au H H1 G H2→Q b H2)→WT X e σ H1 Q
theorem XE.mono(h:XE X σ H e R r)(s:aj H H'):XE X σ H' e R r:=fun H1 s1 Q k=>
 h H1 (s.trans s1) Q fun y G H2 f q=>by obtain⟨G',sg,f'⟩:=au.wide s s1 f;exact k y G' H2 f' (R.mono sg q)
theorem XT.mono{b:Bool}(h:XT X σ H e b)(s:aj H H'):XT X σ H' e b:=fun H1 s1 Q k=>
 h H1 (s.trans s1) Q fun G H2 f=>by obtain⟨G',sg,f'⟩:=au.wide s s1 f;exact k G' H2 f'
theorem XN.xe(h:XN X σ H e R xs):XE X σ H e (ah R) xs:=fun H1 s1 Q k=>
 h H1 s1 Q fun l vs G H2 f h1 hg h2 p=>k (.ref l) (upd G l (.lst vs)) H2 (f.aX h1 hg h2) ⟨l,vs,rfl,aE,p.imp fun _ _ q=>R.mono (aj.df hg) q⟩
theorem XE.cast(h:XE X σ H e R r)(q:r=r'):XE X σ H e R r':=q▸h
theorem XN.cast(h:XN X σ H e R xs)(q:xs=ys):XN X σ H e R ys:=q▸h
theorem XT.cast{b c:Bool}(h:XT X σ H e b)(q:b=c):XT X σ H e c:=q▸h
theorem XE.nat{n:Nat}(h:XE X σ H e aq z)(q:z=(n:Int)):XE X σ H e aa n:=by subst q;exact h
theorem XE.int(h:XE X σ H e aa n):XE X σ H e aq (n:Int):=h
theorem XE.of(p:PE X e t)(h:∀H1,aj H H1→∀Q:VK,(∀y G H2,au H H1 G H2→R.rel G y r→Q y H2)→t σ H1 Q):XE X σ H e R r:=fun H1 s Q k=>PE.we p (h H1 s Q k)
theorem bx{i:Nat}(hs:σ[i]?=some (some v))(h:R.rel H v r)(hN:X.N[i]?=some x:=by rfl)(hv:dJ X.env.scope x:=by first|exact Or.inl rfl|exact Or.inr (Or.inl rfl)|exact Or.inr (Or.inr rfl))(hd:(x==("__debug__":Str))=false:=by decide)(bH:(x==("__classdict__":Str))=false:=by decide):XE X σ H (.Name x pos) R r:=
 XE.of (iF hN hv hd bH) fun H1 s Q k=>⟨v,hs,k v H H1 (au.cf s) h⟩
theorem xv(i:Nat)(h:R.rel H v r)(hs:σ[i]?=some (some v):=by rfl)(hN:X.N[i]?=some x:=by rfl)(hv:dJ X.env.scope x:=by first|exact Or.inl rfl|exact Or.inr (Or.inl rfl)|exact Or.inr (Or.inr rfl))(hd:(x==("__debug__":Str))=false:=by decide)(bH:(x==("__classdict__":Str))=false:=by decide):XE X σ H (.Name x pos) R r:=
 XE.of (iF hN hv hd bH) fun H1 s Q k=>⟨v,hs,k v H H1 (au.cf s) h⟩
theorem ax:XE X σ H (.Constant (.int i) j pos) aq i:=XE.of LJ fun H1 s Q k=>k _ H H1 (au.cf s) rfl
theorem vL:XE X σ H (.Constant (.bool i) j pos) cG i:=XE.of RN fun H1 s Q k=>k _ H H1 (au.cf s) rfl
theorem bN(hm:X.mg x=some (.int i t))(hg:Gl X x:=by rfl)(hd:(x==("__debug__":Str))=false:=by decide):XE X σ H (.Name x pos) aq i:=
 XE.of (Al (v:= .int i) hg hm ⟨t,rfl⟩ hd) fun H1 s Q k=>k _ H H1 (au.cf s) rfl
theorem x2(ha:XE X σ H a R r)(hb:XE X σ H b S c)(s:aj H H1){Q:V→V→Hp→Prop}(k:∀x y G H2,au H H1 G H2→R.rel G x r→S.rel G y c→Q x y H2):
  WE X a σ H1 fun x H2=>WE X b σ H2 fun y H3=>Q x y H3:=
 ha H1 s _ fun x G H2 f rx=>(hb.mono f.hg) H2 f.g2 _ fun y G' H3 f' ry=>k x y G' H3 (f.trans f') (R.mono f'.hg rx) ry
theorem Ai{c:γ}(ho:cR X (binaryOp op) (jf g))(hg:∀H,S.rel H (g i j) c)(ha:XE X σ H a aq i)(hb:XE X σ H b aq j):XE X σ H (.BinOp a op b pos) S c:=
 XE.of (tj ho aJ aJ) fun H1 s Q k=>x2 ha hb s fun x y G H2 f rx ry=>⟨i,j,rx,ry,k _ G H2 f (hg G)⟩
theorem oI{c:γ}(ho:cR X (binaryOp op) (rI C g))(hg:∀H,S.rel H (g i j) c)(hC:C i j)(ha:XE X σ H a aq i)(hb:XE X σ H b aq j):XE X σ H (.BinOp a op b pos) S c:=
 XE.of (tj ho aJ aJ) fun H1 s Q k=>x2 ha hb s fun x y G H2 f rx ry=>⟨i,j,rx,ry,hC,k _ G H2 f (hg G)⟩
theorem cj(ha:XE X σ H a aq i)(hb:XE X σ H b aq j):XE X σ H (.BinOp a .Add b pos) aq (i+j):=Ai P5 (fun _=>rfl) ha hb
theorem jP(ha:XE X σ H a aq i)(hb:XE X σ H b aq j):XE X σ H (.BinOp a .Sub b pos) aq (i-j):=Ai Vl (fun _=>rfl) ha hb
theorem jJ(hC:tw i j)(ha:XE X σ H a aq i)(hb:XE X σ H b aq j):XE X σ H (.BinOp a .Mult b pos) aq (i*j):=oI Xq (fun _=>rfl) hC ha hb
theorem kI(hC:0<j)(ha:XE X σ H a aq i)(hb:XE X σ H b aq j):XE X σ H (.BinOp a .Mod b pos) aq (i%j):=oI Q6 (fun _=>rfl) hC ha hb
theorem IQ(hC:Hw i j)(ha:XE X σ H a aq i)(hb:XE X σ H b aq j):XE X σ H (.BinOp a .FloorDiv b pos) aq (i/j):=oI KR (fun _=>rfl) hC ha hb
theorem Tz(hC:F5 i j)(ha:XE X σ H a aq i)(hb:XE X σ H b aq j):XE X σ H (.BinOp a .LShift b pos) aq (i*2^j.toNat):=oI So (fun _=>rfl) hC ha hb
theorem DF(hC:0≤j)(ha:XE X σ H a aq i)(hb:XE X σ H b aq j):XE X σ H (.BinOp a .RShift b pos) aq (i/2^j.toNat):=oI Lm (fun _=>rfl) hC ha hb
theorem Di(ha:XE X σ H a aq i)(hb:XE X σ H b aq j):XE X σ H (.BinOp a .BitAnd b pos) aq (Builtin.bitAnd i j):=Ai MF (fun _=>rfl) ha hb
theorem D4(h1:KS.hZ i)(h2:KS.hZ j)(ha:XE X σ H a aq i)(hb:XE X σ H b aq j):XE X σ H (.BinOp a .Mult b pos) aq (i*j):=oI KS.Vg (fun _=>rfl) ⟨h1,h2⟩ ha hb
theorem EF(h1:j≠0)(h2:KS.hZ j)(ha:XE X σ H a aq i)(hb:XE X σ H b aq j):XE X σ H (.BinOp a .FloorDiv b pos) aq (i.fdiv j):=oI KS.Lh (fun _=>rfl) ⟨h1,h2⟩ ha hb
theorem nh{b:Bool}(h:XE X σ H e cG b)(he:∀whole,isTrue e X.env whole=(do let v←whole;standAt e.pos;holding [v] (truthy v)):=by intro _;rfl):XT X σ H e b:=fun H1 s Q k=>
 PT.wt (QY aJ he) (h H1 s _ fun y G H2 f ry=>⟨b,ry,k G H2 f⟩)
theorem A7{g:Int→Int→Bool}(ho:cR X (compareOp op) (jf fun i j=> .bl (g i j)))(hm:behindInMarks op b=false)(ha:XE X σ H a aq i)(hb:XE X σ H b aq j):XT X σ H (.Compare a [op] [b] pos) (g i j):=fun H1 s Q k=>
 PT.wt (sN ho aJ aJ hm) (x2 ha hb s fun x y G H2 f rx ry=>⟨i,j,rx,ry,_,rfl,k G H2 f⟩)
theorem xC(ha:XE X σ H a aq i)(hb:XE X σ H b aq j):XT X σ H (.Compare a [.Lt] [b] pos) (decide (i<j)):=A7 GY (my _) ha hb
theorem je(ha:XE X σ H a aq i)(hb:XE X σ H b aq j):XT X σ H (.Compare a [.Gt] [b] pos) (decide (j<i)):=A7 MV (my _) ha hb
theorem ki(ha:XE X σ H a aq i)(hb:XE X σ H b aq j):XT X σ H (.Compare a [.GtE] [b] pos) (decide (j≤i)):=A7 TQ (my _) ha hb
theorem dB(ha:XE X σ H a aq i)(hb:XE X σ H b aq j):XT X σ H (.Compare a [.Eq] [b] pos) (decide (i=j)):=fun H1 s Q k=>
 PT.wt (sN F7 aJ aJ (my _)) (x2 ha hb s fun x y G H2 f rx ry=>by cases rx;cases ry;exact⟨rfl,decide (i=j),by simp,k G H2 f⟩)
theorem kR(ha:XE X σ H a aq i)(hb:XE X σ H b aq j):XT X σ H (.Compare a [.NotEq] [b] pos) (!decide (i=j)):=fun H1 s Q k=>
 PT.wt (sN He aJ aJ (my _)) (x2 ha hb s fun x y G H2 f rx ry=>by cases rx;cases ry;exact⟨rfl,!decide (i=j),by simp,k G H2 f⟩)
theorem Fy{g:Int→Int→Bool}(ho:cR X (compareOp op) (jf fun i j=> .bl (g i j)))(hm:behindInMarks op b=false)(ha:XE X σ H a aq i)(hb:XE X σ H b aq j):XE X σ H (.Compare a [op] [b] pos) cG (g i j):=fun H1 s Q k=>
 PE.we (vI ho aJ aJ hm) (x2 ha hb s fun x y G H2 f rx ry=>⟨i,j,rx,ry,k _ G H2 f rfl⟩)
theorem RI(ha:XE X σ H a aq i)(hb:XE X σ H b aq j):XE X σ H (.Compare a [.Lt] [b] pos) cG (decide (i<j)):=Fy GY (my _) ha hb
theorem Wc(ha:XE X σ H a aq i)(hb:XE X σ H b aq j):XE X σ H (.Compare a [.LtE] [b] pos) cG (decide (i≤j)):=Fy Vx (my _) ha hb
theorem nc(ha:XE X σ H a aq i)(hb:XE X σ H b aq j):XE X σ H (.Compare a [.Eq] [b] pos) cG (decide (i=j)):=fun H1 s Q k=>
 PE.we (vI F7 aJ aJ (my _)) (x2 ha hb s fun x y G H2 f rx ry=>by cases rx;cases ry;exact⟨rfl,k _ G H2 f (by simp[cG])⟩)
theorem Q8(ha:XE X σ H a aq i)(hb:XE X σ H b aq j):XE X σ H (.Compare a [.NotEq] [b] pos) cG (!decide (i=j)):=fun H1 s Q k=>
 PE.we (vI He aJ aJ (my _)) (x2 ha hb s fun x y G H2 f rx ry=>by cases rx;cases ry;exact⟨rfl,k _ G H2 f (by simp[cG])⟩)
theorem yu(ha:XE X σ H a cG p)(hb:p=true→XE X σ H b cG q):XE X σ H (.BoolOp .And [a,b] pos) cG (p&&q):=fun H1 s Q k=>
 PE.we (Te aJ (Ey aJ)) (ha H1 s _ fun x G H2 f rx=>⟨p,rx,by
  cases p with
  |false=>exact lM (k _ G H2 f rfl)
  |true=>exact mh (((hb rfl).mono f.hg) H2 f.g2 _ fun y G' H3 f' ry=>k y G' H3 (f.trans f') ry)⟩)
theorem Bf(ha:XE X σ H a cG p)(hb:p=false→XE X σ H b cG q):XE X σ H (.BoolOp .Or [a,b] pos) cG (p||q):=fun H1 s Q k=>
 PE.we (WQ aJ (Ey aJ)) (ha H1 s _ fun x G H2 f rx=>⟨p,rx,by
  cases p with
  |true=>exact mh (k _ G H2 f rfl)
  |false=>exact lM (((hb rfl).mono f.hg) H2 f.g2 _ fun y G' H3 f' ry=>k y G' H3 (f.trans f') ry)⟩)
theorem r_(ha:XT X σ H a p):XT X σ H (.UnaryOp .Not a pos) (!p):=fun H1 s Q k=>
 PT.wt (OH iK) (ha H1 s _ fun G H2 f=>k G H2 f)
theorem jh(hc:XT X σ H c p)(ha:p=true→XE X σ H a R r)(hb:p=false→XE X σ H b R r):XE X σ H (.IfExp c a b pos) R r:=fun H1 s Q k=>
 PE.we (GD iK aJ aJ) (hc H1 s _ fun G H2 f=>by
  cases p with
  |true=>exact mh (((ha rfl).mono f.hg) H2 f.g2 _ fun y G' H3 f' ry=>k y G' H3 (f.trans f') ry)
  |false=>exact lM (((hb rfl).mono f.hg) H2 f.g2 _ fun y G' H3 f' ry=>k y G' H3 (f.trans f') ry))
end
structure ck(α:Type)where
 rel:Hp→List V→α→Prop
 mono:∀{H H':Hp}{vs:List V}{a:α},aj H H'→rel H vs a→rel H' vs a
def bu:ck Unit:=⟨fun _ vs _=>vs=[],fun _ h=>h⟩
def aO{α β:Type}(R:Rp α)(A:ck β):ck (α×β):=⟨fun H vs x=>∃v r,vs=v::r∧R.rel H v x.1∧A.rel H r x.2,fun s⟨v,r,e,p,q⟩=>⟨v,r,e,R.mono s p,A.mono s q⟩⟩
section
variable{α β γ:Type}{X:Cx}{σ:aS}{H H1:Hp}{e:Expr}{es:List Expr}{R:Rp α}{S:Rp β}{r:α}{pos:Pos}{A:ck γ}{c:γ}
def XA(X:Cx)(σ:aS)(H:Hp)(es:List Expr)(A:ck γ)(c:γ):Prop:=
 ∀H1,aj H H1→∀Q:List V→Hp→Prop,(∀vs G H2,au H H1 G H2→A.rel G vs c→Q vs H2)→WA X es σ H1 Q
theorem XA.mono(h:XA X σ H es A c)(s:aj H H'):XA X σ H' es A c:=fun H1 s1 Q k=>
 h H1 (s.trans s1) Q fun y G H2 f q=>by obtain⟨G',sg,f'⟩:=au.wide s s1 f;exact k y G' H2 f' (A.mono sg q)
theorem M3:XA X σ H [] bu ():=fun H1 s Q k=>PA.wa fG (k [] H H1 (au.cf s) rfl)
theorem aF(h:XE X σ H e R r)(t:XA X σ H es A c)(hs:SE X e es:=by rfl):XA X σ H (e::es) (aO R A) (r,c):=fun H1 s Q k=>
 PA.wa (fm aJ fH hs) (h H1 s _ fun x G H2 f rx=>(t.mono f.hg) H2 f.g2 _ fun vs G' H3 f' rv=>k _ G' H3 (f.trans f') ⟨x,vs,rfl,R.mono f'.hg rx,rv⟩)
theorem az(h:XE X σ H e R r)(hs:SE X e []:=by rfl):XA X σ H [e] (aO R bu) (r,()):=aF h M3 hs
def Fn(A:ck γ)(R:Rp β)(P:γ→Prop)(f:γ→β):Sp:=fun vs H1 Q _=>∃H c,aj H H1∧A.rel H vs c∧P c∧∀y G H2,au H H1 G H2→R.rel G y (f c)→Q y H2
def tQ(A:ck γ)(R:Rp β)(P:γ→Prop)(f:γ→List β):Sp:=fun vs H1 Q _=>∃H c,aj H H1∧A.rel H vs c∧P c∧
 ∀l us G H2,au H H1 G H2→H1 l=Option.none→G l=Option.none→H2 l=some (.lst us)→Paired (R.rel G) us (f c)→Q (.ref l) H2
theorem DX{P:_→Prop}{J:Hp→_→Prop}(h:∃H c,aj H H1∧(aO t0 bu).rel H vs c∧P c∧J H c)(m:∀H a v0,aj H H1→t0.rel H v0 a→P (a,())→J H (a,())→WB X gL D (L2.start N [v0]) H1):WB X gL D (L2.start N vs) H1:=by obtain⟨H,⟨a,_⟩,s,⟨_,_,rfl,h0,rfl⟩,p,k⟩:=h;exact m H _ _ s h0 p k
theorem JS{P:_→Prop}{J:Hp→_→Prop}(h:∃H c,aj H H1∧(aO t0 (aO t1 bu)).rel H vs c∧P c∧J H c)(m:∀H a b v0 v1,aj H H1→t0.rel H v0 a→t1.rel H v1 b→P (a,b,())→J H (a,b,())→WB X gL D (L2.start N [v0,v1]) H1):WB X gL D (L2.start N vs) H1:=by obtain⟨H,⟨a,b,_⟩,s,⟨_,_,rfl,h0,_,_,rfl,h1,rfl⟩,p,k⟩:=h;exact m H _ _ _ _ s h0 h1 p k
theorem KH{P:_→Prop}{J:Hp→_→Prop}(h:∃H c,aj H H1∧(aO t0 (aO t1 (aO t2 bu))).rel H vs c∧P c∧J H c)(m:∀H a b c v0 v1 v2,aj H H1→t0.rel H v0 a→t1.rel H v1 b→t2.rel H v2 c→P (a,b,c,())→J H (a,b,c,())→WB X gL D (L2.start N [v0,v1,v2]) H1):WB X gL D (L2.start N vs) H1:=by obtain⟨H,⟨a,b,c,_⟩,s,⟨_,_,rfl,h0,_,_,rfl,h1,_,_,rfl,h2,rfl⟩,p,k⟩:=h;exact m H _ _ _ _ _ _ s h0 h1 h2 p k
theorem KQ{P:_→Prop}{J:Hp→_→Prop}(h:∃H c,aj H H1∧(aO t0 (aO t1 (aO t2 (aO t3 bu)))).rel H vs c∧P c∧J H c)(m:∀H a b c d v0 v1 v2 v3,aj H H1→t0.rel H v0 a→t1.rel H v1 b→t2.rel H v2 c→t3.rel H v3 d→P (a,b,c,d,())→J H (a,b,c,d,())→WB X gL D (L2.start N [v0,v1,v2,v3]) H1):WB X gL D (L2.start N vs) H1:=by obtain⟨H,⟨a,b,c,d,_⟩,s,⟨_,_,rfl,h0,_,_,rfl,h1,_,_,rfl,h2,_,_,rfl,h3,rfl⟩,p,k⟩:=h;exact m H _ _ _ _ _ _ _ _ s h0 h1 h2 h3 p k
def Def(P:Program)(w:World)(K:Fg)(mg:Mg)(base:Heap)(k:Nat)(x:Str)(ps:List Str)(sp:Sp):Prop:=
 ∃f fd,gU P w K mg base g_ k f fd ps sp∧mg x=some (.ref f)∧W.keepIn K (.ref f)=true∧Binds K fd ps []
abbrev Cx.Def(X:Cx)(k:Nat)(x:Str)(ps:List Str)(sp:Sp):Prop:=Kn.Def X.prog X.w X.K X.mg X.base k x ps sp
section
variable{k m:Nat}{x:Str}{ps:List Str}{sp:Sp}{p:Pos}{P:γ→Prop}{f:γ→β}{fN:γ→List β}
theorem pk(D:Cx.Def X k x ps sp)(hr:bM m X.A)(ha:XA X σ H (e::es) A c)(s:aj H H1)(q:∀vs G H2,au H H1 G H2→A.rel G vs c→sp vs H2 Q E0)(hk:k≤m:=by decide)(hg:Gl X x:=by rfl)(bG:(x==("__debug__":Str))=false:=by decide)(he:SE X e es:=by rfl)(bo:NS X pos es:=by rfl):WE X (.Call (.Name x p) (e::es) [] pos) σ H1 Q:=by obtain⟨fa,fd,F,hm,kp,hb⟩:=D;refine PE.we (Na F (hr.mono hk) hg hm kp hb .nil xn fH bG he bo) (ha H1 s _ fun vs G H2 fw rv=>?_);rw[pS];exact q vs G H2 fw rv
theorem aK(D:Cx.Def X k x ps (Fn A S P f))(hr:bM m X.A)(hp:P c)(ha:XA X σ H (e::es) A c)(hk:k≤m:=by decide)(hg:Gl X x:=by rfl)(bG:(x==("__debug__":Str))=false:=by decide)
  (he:SE X e es:=by rfl)(bo:NS X pos es:=by rfl):XE X σ H (.Call (.Name x p) (e::es) [] pos) S (f c):=fun H1 s Q q=>
 pk D hr ha s (fun vs G H2 fw rv=>⟨G,c,fw.g2,rv,hp,fun y G' H3 cP ry=>q y G' H3 (fw.trans cP) ry⟩) hk hg bG he bo
theorem vZ(D:Cx.Def X k x ps (tQ A S P fN))(hr:bM m X.A)(hp:P c)(ha:XA X σ H (e::es) A c)(hk:k≤m:=by decide)(hg:Gl X x:=by rfl)(bG:(x==("__debug__":Str))=false:=by decide)
  (he:SE X e es:=by rfl)(bo:NS X pos es:=by rfl):XN X σ H (.Call (.Name x p) (e::es) [] pos) S (fN c):=fun H1 s Q q=>
 pk D hr ha s (fun vs G H2 fw rv=>⟨G,c,fw.g2,rv,hp,fun l us G' H3 cP h1 jw h3 pr=>q l us G' H3 (fw.trans cP) (fw.bX h1) jw h3 pr⟩) hk hg bG he bo
theorem nN{id:String}(hc:eX X (.builtin id) q)(hm:X.mg x=none)(hv:bootBuiltins x=some (.builtin id))(ha:XA X σ H (e::es) A c)(k:∀vs G H2 Q,A.rel G vs c→aj G H2→(∀y,S.rel G y r'→Q y H2)→q vs H2 Q)(hg:Gl X x:=by rfl)(hn:x≠"__name__":=by decide)(bG:(x==("__debug__":Str))=false:=by decide)(he:SE X e es:=by rfl)(bo:NS X pos es:=by rfl):XE X σ H (.Call (.Name x p) (e::es) [] pos) S r':=fun H1 s Q q1=>
 PE.we (tS hc hg hm hv fH hn bG he bo) (ha H1 s _ fun vs G H2 fw rv=>k vs G H2 Q rv fw.g2 fun y ry=>q1 y G H2 fw ry)
theorem O8(hc:eX X (.type T) q)(hm:X.mg x=none)(hv:bootBuiltins x=some (.type T))(ha:XA X σ H (e::es) A c)(k:∀vs G H2 Q,A.rel G vs c→aj G H2→(∀l us,H2 l=Option.none→Paired (S.rel G) us xs→Q (.ref l) (upd H2 l (.lst us)))→q vs H2 Q)(hg:Gl X x:=by rfl)(hn:x≠"__name__":=by decide)(bG:(x==("__debug__":Str))=false:=by decide)(he:SE X e es:=by rfl)(bo:NS X pos es:=by rfl):XN X σ H (.Call (.Name x p) (e::es) [] pos) S xs:=fun H1 s Q q1=>
 PE.we (sZ hc hg hm hv fH hn bG he bo) (ha H1 s _ fun vs G H2 fw rv=>k vs G H2 Q rv fw.g2 fun l us hl pr=>q1 l us G _ (fw.new hl _) (fw.bX hl) (fw.fI hl) aE pr)
end
theorem cN(hm:X.mg "len"=none)(h:XE X σ H e (ah R) xs)(hg:Gl X "len":=by rfl)(hs:SE X e []:=by rfl):XE X σ H (.Call (.Name "len" p) [e] [] pos) aq (xs.length:Int):=
 nN Eg hm J9 (az h hs) (fun vs G H2 Q hh s k=>by obtain⟨v,r,e1,h1,h2⟩:=hh;obtain⟨a,us,rfl,ha,pr⟩:=h1;cases h2;subst e1;exact⟨a,us,rfl, .inl (aU.of (s _ _ ha)),k _ (by rw[pr.len];rfl)⟩) hg (by decide) (by decide) hs rfl
theorem aW(ho:XE X σ H o (ah R) xs)(hi:XE X σ H i aq z)(hx:cJ xs z=some x)(hp:tO i:=by exact(fun _ _=>rfl)):XE X σ H (.Subscript o i pos) R x:=fun H1 s Q k=>
 PE.we (sP zX aJ aJ hp) (x2 ho hi s fun v w G H2 f hh rz=>by
  obtain⟨a,us,ev,ha,pr⟩:=hh;subst ev;cases rz;unfold cJ at hx;rw[←pr.len]at hx;cases q:jm us.length z with
  |none=>rw[q]at hx;cases hx
  |some j=>rw[q]at hx;obtain⟨u,hu,ru⟩:=pr.at hx;exact⟨a,us,z,u,rfl,rfl,aU.of (f.g2 _ _ ha),by unfold cJ;rw[q];exact hu,k u G H2 f ru⟩)
theorem bt{j:Nat}(h:xs[j]?=some x):cJ xs (j:Int)=some x:=by have hl:j<xs.length:=(d_.mp h).1;unfold cJ jm;rw[ag (by simp),ag (by simp[*])];simpa using h
theorem u7(ho:XE X σ H o (dF R S) x)(hi:XE X σ H i aq 0)(hp:tO i:=by exact(fun _ _=>rfl)):XE X σ H (.Subscript o i pos) R x.1:=fun H1 s Q k=>
 PE.we (sP EJ aJ aJ hp) (x2 ho hi s fun v w G H2 f hh rz=>by obtain⟨a,v1,v2,ev,ha,p1,p2⟩:=hh;subst ev;cases rz;exact⟨a,_,0,v1,rfl,rfl,dD.of (f.g2 _ _ ha),rfl,k v1 G H2 f p1⟩)
theorem Em(ho:XE X σ H o (dF R S) x)(hi:XE X σ H i aq 1)(hp:tO i:=by exact(fun _ _=>rfl)):XE X σ H (.Subscript o i pos) S x.2:=fun H1 s Q k=>
 PE.we (sP EJ aJ aJ hp) (x2 ho hi s fun v w G H2 f hh rz=>by obtain⟨a,v1,v2,ev,ha,p1,p2⟩:=hh;subst ev;cases rz;exact⟨a,_,1,v2,rfl,rfl,dD.of (f.g2 _ _ ha),rfl,k v2 G H2 f p2⟩)
theorem jd(ha:XE X σ H a R x)(hb:XE X σ H b S y)(hs:SE X a [b]:=by rfl)(bL:SE X b []:=by rfl):
  XE X σ H (.Tuple [a,b] k pos) (dF R S) (x,y):=fun H1 s Q q=>
 PE.we (Jo fH) ((aF ha (az hb bL) hs) H1 s _ fun vs G H2 f hh=>by obtain⟨v,r,e1,r1,w,r',e2,r2,e3⟩:=hh;cases e3;subst e2;subst e1;refine⟨by show 2≤sizeLine;decide,fun p hp=>q (.ref p) _ _ (f.tU hp _) ⟨p,v,w,rfl,aE,R.mono (aj.df (f.fI hp)) r1,S.mono (aj.df (f.fI hp)) r2⟩⟩)
def XL(X:Cx)(σ:aS)(H:Hp)(es:List Expr)(R:Rp α)(xs:List α):Prop:=
 ∀H1,aj H H1→∀Q:List V→Hp→Prop,(∀vs G H2,au H H1 G H2→Paired (R.rel G) vs xs→Q vs H2)→WA X es σ H1 Q
theorem XL.mono(h:XL X σ H es R xs)(s:aj H H'):XL X σ H' es R xs:=fun H1 s1 Q k=>
 h H1 (s.trans s1) Q fun y G H2 f q=>by obtain⟨G',sg,f'⟩:=au.wide s s1 f;exact k y G' H2 f' (q.imp fun _ _=>R.mono sg)
theorem aZ:XL X σ H [] R []:=fun H1 s Q k=>PA.wa fG (k [] H H1 (au.cf s) .nil)
theorem aV(h:XE X σ H e R r)(t:XL X σ H es R xs)(hs:SE X e es:=by rfl):XL X σ H (e::es) R (r::xs):=fun H1 s Q k=>
 PA.wa (fm aJ fH hs) (h H1 s _ fun x G H2 f rx=>(t.mono f.hg) H2 f.g2 _ fun vs G' H3 f' rv=>k _ G' H3 (f.trans f') (.cons (R.mono f'.hg rx) rv))
theorem a5(h:XL X σ H es R xs)(hl:xs.length≤1000:=by first|decide|simp):XN X σ H (.List es pos) R xs:=fun H1 s Q q=>
 PE.we (Nh fH) (h H1 s _ fun vs G H2 f pr=>⟨by rw[pr.len];exact qW (yP hl),fun p hp=>q p vs G _ (f.new hp _) (f.bX hp) (f.fI hp) aE pr⟩)
theorem qG(ha:XE X σ H a (ah R) xs)(hb:XE X σ H b (ah R) ys)(hl:xs.length+ys.length≤1000):XN X σ H (.BinOp a .Add b pos) R (xs++ys):=fun H1 s Q q=>
 PE.we (tj LH aJ aJ) (x2 ha hb s fun v w G H2 f⟨l,us,e1,h1,p1⟩⟨l',aN,e2,h2,p2⟩=>by refine⟨l,l',us,aN,e1,e2,f.g2 _ _ h1,f.g2 _ _ h2,by rw[p1.len,p2.len];exact qW (yP hl),fun p hp=>q p _ G _ (f.new hp _) (f.bX hp) (f.fI hp) aE (p1.append p2)⟩)
theorem Hi(hm:X.mg "list"=none)(h:XE X σ H e (ah R) xs)(hv:bootBuiltins "list"=some (.type "list"):=by decide+kernel)(hg:Gl X "list":=by rfl)(hs:SE X e []:=by rfl):XN X σ H (.Call (.Name "list" p) [e] [] pos) R xs:=
 O8 Th hm hv (az h hs) (fun vs G H2 Q hh s k=>by obtain⟨v,r,e1,h1,h2⟩:=hh;obtain⟨a,us,rfl,ha,pr⟩:=h1;cases h2;subst e1;exact⟨a,us,rfl, .inl (aU.of (s _ _ ha)),fun l hl=>k l us hl pr⟩) hg (by decide) (by decide) hs rfl
end
section
variable{α β γ δ:Type}{X:Cx}{σ:aS}{H H1:Hp}{e:Expr}{R:Rp α}{S:Rp β}{r:α}{pos:Pos}{D:Ends}{st:Stmt}{rest:List Stmt}{x:Str}{p:Pos}{i:Nat}
theorem bp(h:D.nx σ H1):WB X [] D σ H1:=fq.wb M_ h
theorem cW(h:WS X st {D with nx:=WB X rest D} σ H1):WB X (st::rest) D σ H1:=fq.wb (qh RD lP) h
theorem br(hN:X.N.Nodup)(h:XE X σ H e R r)(s:aj H H1)(k:∀v G H2,au H H1 G H2→R.rel G v r→WB X rest D (σ.set i (some v)) H2)(hi:X.N[i]?=some x:=by rfl)(hx:Loc X.env.scope x:=by first|exact Or.inl rfl|exact Or.inr rfl)
  (hs:swapsWith e (some (.Name x p)) pos.line X.env=pure false:=by rfl)(hf:X.fn x=true∨X.env.scope.names.lookup x=some .local:=by first|exact .inl rfl|exact .inr rfl|assumption):WB X (.Assign [.Name x p] e pos::rest) D σ H1:=
 cW (PS.ws (pq hN hi hx aJ hs hf) (h H1 s _ fun v G H2 f rv=>k v G H2 f rv))
theorem i4(hN:X.N.Nodup)(h:XN X σ H e R xs)(s:aj H H1)(k:∀l vs G H2,au H H1 G H2→H1 l=Option.none→G l=Option.none→H2 l=some (.lst vs)→Paired (R.rel G) vs xs→WB X rest D (σ.set i (some (.ref l))) H2)(hi:X.N[i]?=some x:=by rfl)(hx:Loc X.env.scope x:=by first|exact Or.inl rfl|exact Or.inr rfl)(hs:swapsWith e (some (.Name x p)) pos.line X.env=pure false:=by rfl)(hf:X.fn x=true∨X.env.scope.names.lookup x=some .local:=by first|exact .inl rfl|exact .inr rfl|assumption):WB X (.Assign [.Name x p] e pos::rest) D σ H1:=
 cW (PS.ws (pq hN hi hx aJ hs hf) (h H1 s _ fun l vs G H2 f a b c d=>k l vs G H2 f a b c d))
theorem a7(h:XE X σ H e R r)(s:aj H H1)(k:∀v G H2,au H H1 G H2→R.rel G v r→D.rt v H2):WB X (.Return (some e) pos::rest) D σ H1:=
 cW (PS.ws (pG aJ) (h H1 s _ fun v G H2 f rv=>k v G H2 f rv))
theorem gD(hs:σ[i]?=some (some v))(k:D.rt v H1)(hN:X.N[i]?=some x:=by rfl)(hv:dJ X.env.scope x:=by first|exact Or.inl rfl|exact Or.inr (Or.inl rfl)|exact Or.inr (Or.inr rfl))(hd:(x==("__debug__":Str))=false:=by decide)(bH:(x==("__classdict__":Str))=false:=by decide):WB X (.Return (some (.Name x p)) pos::rest) D σ H1:=
 cW (PS.ws (pG (iF hN hv hd bH)) ⟨v,hs,k⟩)
theorem eV(h:XT X σ H c q)(s:aj H H1)(ha:q=true→∀G H2,au H H1 G H2→WB X a {D with nx:=WB X rest D} σ H2)(hb:q=false→∀G H2,au H H1 G H2→WB X b {D with nx:=WB X rest D} σ H2):
  WB X (.If c a b pos::rest) D σ H1:=
 cW (PS.ws (UN iK lP lP) (h H1 s _ fun G H2 f=>by
  cases q with
  |true=>exact mh (ha rfl G H2 f)
  |false=>exact lM (hb rfl G H2 f)))
def xx(J:It)(g:TG)(G:Hp)(xs:List γ)(B:γ→Hp→aS→aS→Prop):Prop:=
 ∀i H',aj G H'→(xs.length≤i→J.stop i H')∧∀c,xs[i]?=some c→J.go i H'∧∀x bV,J.sF i H' x bV→∃G',au G H' G' bV∧∀(σ:aS)(Q:aS→Hp→Prop),(∀σ',B c G' σ σ'→Q σ' bV)→g x σ bV Q
def XI(X:Cx)(σ:aS)(H:Hp)(tg it:Expr)(g:TG)(xs:List γ)(B:γ→Hp→aS→aS→Prop):Prop:=
 ∃wi,PI X tg it wi∧∀H1,aj H H1→∀Q:It→Hp→Prop,(∀J G H2,au H H1 G H2→xx J g G xs B→Q J H2)→wi σ H1 Q
def B1(k:Nat)(R:Rp γ):γ→Hp→aS→aS→Prop:=fun c G σ σ'=>∃v,R.rel G v c∧σ'=σ.set k (some v)
def B2(j k:Nat)(R:Rp γ)(T:Rp δ):γ×δ→Hp→aS→aS→Prop:=fun c G σ σ'=>∃v w,R.rel G v c.1∧T.rel G w c.2∧σ'=(σ.set j (some v)).set k (some w)
abbrev g2(K:Fg)(j k:Nat):TG:=C_ K 2 (zq (iA j) (zq (iA k) DK))
theorem qD{K:Fg}(h:H T=some (.tup [v,w]))(q:Q ((σ.set j (some v)).set k (some w)) H):g2 K j k (.ref T) σ H Q:=
 ⟨T,_,rfl,dD.of h,rfl,v,_,rfl,w,_,rfl,rfl,q⟩
theorem du(h:XE X σ H e (ah R) xs):XI X σ H tg e (iA k) xs (B1 k R):=by refine⟨_,FK aJ,fun H1 s Q q=>h H1 s _ fun v G H2 f hh=>?_⟩;obtain⟨a,vs,ev,ha,pr⟩:=hh;subst ev;refine⟨a,rfl,⟨vs,aU.of (f.g2 _ _ ha)⟩,q _ G H2 f fun i H' sg=>⟨fun hi=>⟨vs,aU.of (sg _ _ ha),by rw[pr.len];exact hi⟩,fun c hc=>?_⟩⟩;obtain⟨u,hu,ru⟩:=pr.at hc;refine⟨⟨vs,u,aU.of (sg _ _ ha),hu⟩,fun x bV hh=>?_⟩;obtain⟨e1,y⟩:=hh;subst e1;have e2:=y vs (aU.of (sg _ _ ha));rw[hu]at e2;cases e2;exact⟨G,au.cf sg,fun σ Q q=>q _ ⟨u,ru,rfl⟩⟩
theorem TX(h:XE X σ H e (ah (dF R S)) xs):XI X σ H tg e (g2 X.K j k) xs (B2 j k R S):=by refine⟨_,FK aJ,fun H1 s Q q=>h H1 s _ fun v G H2 f hh=>?_⟩;obtain⟨a,vs,ev,ha,pr⟩:=hh;subst ev;refine⟨a,rfl,⟨vs,aU.of (f.g2 _ _ ha)⟩,q _ G H2 f fun i H' sg=>⟨fun hi=>⟨vs,aU.of (sg _ _ ha),by rw[pr.len];exact hi⟩,fun c hc=>?_⟩⟩;obtain⟨u,hu,ru⟩:=pr.at hc;refine⟨⟨vs,u,aU.of (sg _ _ ha),hu⟩,fun x bV hh=>?_⟩;obtain⟨e1,y⟩:=hh;subst e1;have e2:=y vs (aU.of (sg _ _ ha));rw[hu]at e2;cases e2;obtain⟨T,v1,v2,et,hT,r1,r2⟩:=ru;subst et;exact⟨G,au.cf sg,fun σ Q q=>qD (sg _ _ hT) (q _ ⟨v1,v2,r1,r2,rfl⟩)⟩
theorem nB(hm:X.mg "enumerate"=none)(h:XE X σ H e (ah R) xs)(hg:Gl X "enumerate":=by rfl)(hs:starEach [e] X.env=[(false,eval e X.env)]:=by rfl):
  XI X σ H (.Tuple elts kk cg) (.Call (.Name "enumerate" p') [e] [] pos') (g2 X.K j k) xs.zipIdx (fun c=>B2 j k aa R (c.2,c.1)):=by
 refine⟨_,Ul hg hm fH hs,fun H1 s Q q=>(az h hs) H1 s _ fun vs G H2 f hh=>?_⟩;obtain⟨v,r,e1,⟨a,us,ev,ha,pr⟩,e2⟩:=hh;cases e2;subst ev;subst e1;refine⟨a,us,rfl,aU.of (f.g2 _ _ ha),q _ G H2 f fun i H' sg=>⟨fun hi=>⟨us,aU.of (sg _ _ ha),by rw[pr.len];simpa using hi⟩,fun c hc=>?_⟩⟩;rw[J6]at hc;cases q1:xs[i]? with
 |none=>rw[q1]at hc;cases hc
 |some z=>rw[q1]at hc;cases hc;obtain⟨u,hu,ru⟩:=pr.at q1;refine⟨⟨us,u,aU.of (sg _ _ ha),hu⟩,fun x bV hh=>?_⟩;obtain⟨T,y,ex,hT,eH,hy⟩:=hh;have e2:=hy us (aU.of (sg _ _ ha));rw[hu]at e2;cases e2;subst ex eH;refine⟨G,(au.cf sg).new hT _,fun σ Q q=>qD aE (q _ ⟨_,u,?_,ru,rfl⟩)⟩;show V.int (i:Nat)=V.int ((0+i:Nat):Int);grind
theorem HE(hm:X.mg "zip"=none)(ha:XE X σ H a (ah R) xs)(hb:XE X σ H b (ah S) ys)(hg:Gl X "zip":=by rfl)(hs:SE X a [b]:=by rfl)(bL:SE X b []:=by rfl)(bo:(backTo pos' (starEach [b] X.env)).any (·.1)=false:=by rfl):
  XI X σ H (.Tuple elts kk cg) (.Call (.Name "zip" p') [a,b] [] pos') (g2 X.K j k) (xs.zip ys) (B2 j k R S):=by
 refine⟨_,Px hg hm fH hs bo,fun H1 s Q q=>(aF ha (az hb bL) hs) H1 s _ fun vs G H2 f hh=>?_⟩;obtain⟨v,r,e1,⟨a,us,ev,ha,pr⟩,w,r',e2,⟨b,aN,ew,hb,jx⟩,e3⟩:=hh;cases e3;subst ev ew;subst e2;subst e1;refine⟨a,b,us,aN,rfl,aU.of (f.g2 _ _ ha),aU.of (f.g2 _ _ hb),q _ G H2 f fun i H' sg=>⟨fun hi=>⟨us,aN,aU.of (sg _ _ ha),aU.of (sg _ _ hb),?_⟩,fun c hc=>?_⟩⟩
 ·rw[rL]at hi;have e1:us.length=xs.length:=pr.len;have e2:aN.length=ys.length:=jx.len;omega
 ·rw[J_]at hc;obtain⟨u,hu,ru⟩:=pr.at hc.1;obtain⟨u',lg,ru'⟩:=jx.at hc.2;refine⟨⟨us,aN,u,u',aU.of (sg _ _ ha),aU.of (sg _ _ hb),hu,lg⟩,fun x bV hh=>?_⟩;obtain⟨T,y,z,ex,hT,eH,hy,hz⟩:=hh;have e2:=hy us (aU.of (sg _ _ ha));rw[hu]at e2;cases e2;have e3:=hz aN (aU.of (sg _ _ hb));rw[lg]at e3;cases e3;subst ex eH;exact⟨G,(au.cf sg).new hT _,fun σ Q q=>qD aE (q _ ⟨u,u',ru,ru',rfl⟩)⟩
def ups(lo:Int)(n:Nat):List Int:=(range n).map fun i=>lo+(i:Nat)
theorem xB{lo:Int}(h:(ups lo n)[i]?=some c):i<n∧c=lo+(i:Nat):=by
 unfold ups at h;rw[cz]at h;by_cases q:i<n
 ·rw[oy q]at h;exact⟨q,(eE h).symm⟩
 ·rw[lB (by simpa using q)]at h;cases h
theorem Iw{lo:Int}:xx (um lo n) (iA k) G (ups lo n) (B1 k aq):=fun i H' sg=>
 ⟨fun hi=>by show n≤i;simpa[ups]using hi,fun c hc=>by obtain⟨h1,h2⟩:=xB hc;refine⟨h1,fun x bV⟨e1,e2⟩=>?_⟩;subst e1 e2 h2;exact⟨G,au.cf sg,fun σ Q q=>q _ ⟨_,rfl,rfl⟩⟩⟩
theorem oF(hm:X.mg "range"=none)(h:XE X σ H a aq z)(h1:-(2^62)≤z)(h2:z<2^62)(hg:Gl X "range":=by rfl)(hs:starEach [a] X.env=[(false,eval a X.env)]:=by rfl):
  XI X σ H tg (.Call (.Name "range" p') [a] [] pos') (iA k) (ups 0 z.toNat) (B1 k aq):=
 ⟨_,Lg hg hm fH hs,fun H1 s Q q=>(az h hs) H1 s _ fun vs G H2 f hh=>by obtain⟨v,r,e1,e2,e3⟩:=hh;cases e3;cases e2;exact⟨z,e1,h1,h2,q _ G H2 f Iw⟩⟩
theorem zR(hm:X.mg "range"=none)(ha:XE X σ H a aq y)(hb:XE X σ H b aq z)(h1:-(2^62)≤y∧y<2^62∧-(2^62)≤z∧z<2^62)(hg:Gl X "range":=by rfl)(hs:starEach [a,b] X.env=[(false,eval a X.env),(false,eval b X.env)]:=by rfl)(bL:starEach [b] X.env=[(false,eval b X.env)]:=by rfl):
  XI X σ H tg (.Call (.Name "range" p') [a,b] [] pos') (iA k) (ups y (z-y).toNat) (B1 k aq):=
 ⟨_,Pt hg hm fH hs bL,fun H1 s Q q=>(aF ha (az hb bL) (by show starEach [a,b] X.env=_;rw[hs,bL])) H1 s _ fun vs G H2 f hh=>by obtain⟨v,r,e1,e2,w,r',e3,e4,e5⟩:=hh;cases e5;cases e2;cases e4;subst e3;exact⟨y,z,e1,h1,q _ G H2 f Iw⟩⟩
theorem kL(hp:PassesOwn (model X.prog X.w) X.A X.env X.xe)(hc:X.calm=true)(hg:PG X tg g)(h:XI X σ H tg it g xs B)(s:aj H H1)(Pv:Hp→Nat→aS→Hp→Prop)(h0:∀G H2,au H H1 G H2→Pv G 0 σ H2)(hk:∀G i σ' H',Pv G i σ' H'→aj G H')(ht:∀G i c σ' H',xs[i]?=some c→Pv G i σ' H'→∀σ'' G' bV,au G H' G' bV→B c G' σ' σ''→WB X body {nx:=Pv G (i+1),rt:=D.rt,ct:=Pv G (i+1),bk:=WB X rest D} σ'' bV)(hd:∀G σ' H',Pv G xs.length σ' H'→WB X rest D σ' H')(hs:∀x,foldedSetIterable it X.env x=pure x:=by intro _;rfl):WB X (.For tg it body [] pos::rest) D σ H1:=by
 obtain⟨wi,hi,hw⟩:=h;refine cW (PS.ws (Ae hp hc hi hg lP hs) (hw H1 s _ fun J G H2 f wk=>?_));refine⟨fun i m σ' H'=>m=xs.length-i∧i≤xs.length∧Pv G i σ' H',⟨xs.length,by simp,eG _,h0 G H2 f⟩,?_⟩;rintro i m σ' H' ⟨rfl,hi,p⟩;obtain⟨w1,w2⟩:=wk i H' (hk G i σ' H' p);by_cases bw:i<xs.length
 ·obtain⟨hgo,hy⟩:=w2 xs[i] (by simp);refine .inr ⟨hgo,Pv G (i+1),fun σ2 H3 p'=>⟨xs.length-(i+1),by omega,rfl,bw,p'⟩,fun x bV y=>?_⟩;grind
 ·grind
theorem Cp(vs:List Nat)(σ:aS):(wipe σ vs).length=σ.length:=vh σ vs
theorem pJ{σ:aS}:∀{vs:List Nat},(wipe σ vs)[j]?=if j∈vs then(σ[j]?).map (fun _=>Option.none)else σ[j]?
 |[]=>by simp[wipe]
 |v::vs=>by
  have ih:=pJ (σ:=σ) (j:=j) (vs:=vs);unfold wipe;by_cases e:v=j
  ·subst e;rw[JK,ag rfl,Cp];by_cases q:v<σ.length
   ·rw[ag q,ag (by simp),bq q];rfl
   ·rw[af q,ag (by simp),lB (by omega)];rfl
  ·rw[JK,af e,ih];by_cases q:j∈vs
   ·rw[ag q,ag (bW _ q)]
   ·rw[af q,af (by intro z;rcases a_.mp z with z|z;exact e z.symm;exact q z)]
theorem sC(h:k∈vs):wipe (σ.set k v) vs=wipe σ vs:=by apply j8;intro j;rw[pJ,pJ];grind
theorem Pq:wipe (wipe σ vs) vs=wipe σ vs:=by apply j8;intro j;rw[pJ,pJ];grind
def Own(B:γ→Hp→aS→aS→Prop)(vs:List Nat):Prop:=∀c G σ σ',B c G σ σ'→wipe σ' vs=wipe σ vs
theorem dS(h:k∈vs):Own (B1 k R) vs:=fun _ _ _ _ hh=>by obtain⟨_,_,e⟩:=hh;rw[e,sC h]
theorem yU(h1:j∈vs)(h2:k∈vs):Own (B2 j k R T) vs:=fun _ _ _ _ hh=>by obtain⟨_,_,_,_,e⟩:=hh;rw[e,sC h2,sC h1]
theorem sR{R:Rp γ}(h1:j∈vs)(h2:k∈vs):Own (fun c:γ×δ=>B2 j k T R (c.2,c.1)) vs:=fun _ _ _ _ hh=>by obtain⟨_,_,_,_,e⟩:=hh;rw[e,sC h2,sC h1]
abbrev hX(X:Cx)(scope:Scope)(s:Shared)(H:Hp)(C:Addr)(cl:List (Str×Addr))(fp:List Addr):Cx:=X.eL s H scope (compEnvC scope cl C X.env) fp
def BE(X:Cx)(scope:Scope)(e:Expr):TE:=fun σ H Q=>∀s0 H0 C cl fp,WE (hX X scope s0 H0 C cl fp) e σ H Q
def tR(X:Cx)(scope:Scope)(ifs:List Expr):TT:=fun σ H Q=>∀s0 H0 C cl fp(pins:YW)(s:Shared),Inv (hX X scope s0 H0 C cl fp) pins σ H s→
  wpAny (model X.prog X.w) X.A (forIn ifs true fun c r=>if r=true then do let ok←isTrue c (hX X scope s0 H0 C cl fp).env (eval c (hX X scope s0 H0 C cl fp).env);pure (ForInStep.yield ok)else pure (ForInStep.yield r)) (TP (hX X scope s0 H0 C cl fp) pins σ Q) (hX X scope s0 H0 C cl fp).xe s
def pN(X:Cx)(scope:Scope)(σ:aS)(H:Hp)(ifs:List Expr)(b:Bool):Prop:=∀H1,aj H H1→∀Q:Bool→Hp→Prop,(∀G H2,au H H1 G H2→Q b H2)→tR X scope ifs σ H1 Q
theorem yT:pN X scope σ H [] true:=fun H1 s Q k s0 H0 C cl fp pins s' I=>Ol pins s' σ H1 Q I (k H H1 (au.cf s))
theorem l9(h:∀s0 H0 C cl fp,XT (hX X scope s0 H0 C cl fp) σ H c b):pN X scope σ H [c] b:=fun H1 s Q k s0 H0 C cl fp pins s' I=>
 V4 iK pins s' σ H1 Q I (h s0 H0 C cl fp H1 s Q k)
def XB(X:Cx)(scope:Scope)(σ:aS)(H:Hp)(e:Expr)(R:Rp α)(r:α):Prop:=∀s0 H0 C cl fp,XE (hX X scope s0 H0 C cl fp) σ H e R r
theorem yH{Q:VK}(hO:Own B vs)(sg:aj G H2)(wk:xx J g G xs B)(hl:xs.length≤30000)(ht:∀x G' σ',x∈xs→aj G G'→B x G' (wipe σ vs) σ'→pN X scope σ' G' ifs (c x))(he:∀x G' σ',x∈xs→c x=true→aj G G'→B x G' (wipe σ vs) σ'→XB X scope σ' G' elt S (f x))(k:∀l us G' H3,au G H2 G' H3→H2 l=Option.none→G' l=Option.none→H3 l=some (.lst us)→Paired (S.rel G') us ((xs.filter c).map f)→Q (.ref l) H3):
  ∀D,H2 D=none→∃W:Nat→Nat→Hp→Prop,(∃m,W 0 m (upd H2 D (.lst [])))∧∀i m H,W i m H→
 (J.stop i H∧Q (.ref D) H)∨(J.go i H∧∃Nx:Hp→Prop,(∀H',Nx H'→∃m',m'<m∧W (i+1) m' H')∧∀x H',J.sF i H x H'→g x (wipe σ vs) H' fun σ2 H2=>wipe σ2 vs=wipe σ vs∧tR X scope ifs σ2 H2 fun b H3=>
  if b=true then BE X scope elt σ2 H3 fun y H4=>∃acc,H4 D=some (.lst acc)∧acc.length<sizeLine∧Nx (upd H4 D (.lst (acc++[y])))else Nx H3):=by
 intro L hL;let P:Nat→Hp→Prop:=fun i H'=>∃G' us,au G H2 G' H'∧G' L= .none∧H' L=some (.lst us)∧Paired (S.rel G') us (((xs.take i).filter c).map f);refine⟨fun i m H'=>m=xs.length-i∧i≤xs.length∧P i H',⟨xs.length,by simp,eG _,G,[],(au.cf sg).new hL _,sg.free hL,aE, .nil⟩,?_⟩;rintro i m H' ⟨rfl,hi,G',us,fw,hG,hU,pr⟩;obtain⟨w1,w2⟩:=wk i H' (fw.hg.trans fw.g2);by_cases bw:i<xs.length
 ·have hx:xs[i]?=some xs[i]:=by simp
  have hxm:xs[i]∈xs:=lD bw;obtain⟨hgo,hy⟩:=w2 xs[i] hx;have step:∀G2 H3 vs',au G H2 G2 H3→G2 L= .none→H3 L=some (.lst vs')→Paired (S.rel G2) vs' (((xs.take (i+1)).filter c).map f)→P (i+1) H3:=fun G2 H3 vs' a b d e=>⟨G2,vs',a,b,d,e⟩;have et:xs.take (i+1)=xs.take i++[xs[i]]:=by rw[xY bw]
  refine .inr ⟨hgo,P (i+1),fun H3 p'=>⟨xs.length-(i+1),by omega,rfl,bw,p'⟩,fun x bV y=>?_⟩;obtain⟨G1,f1,hq⟩:=hy x bV y;obtain⟨G3,s3,f3⟩:=au.wide fw.hg fw.g2 f1;refine hq (wipe σ vs) _ fun σ' hB=>⟨by rw[hO _ _ _ _ hB,Pq],?_⟩;have c3:=fw.trans f3;have n3:G3 L= .none:=f3.sep L _ hG hU;have u3:bV L=some (.lst us):=f3.h2 _ _ hU;refine((ht _ G1 σ' hxm f1.hg hB) bV f1.g2 _ fun G4' H4 cC=>?_);obtain⟨G4,s4,f4⟩:=au.wide s3 f3.g2 cC;have c4:=c3.trans f4;have n4:G4 L= .none:=f4.sep L _ n3 u3;have u4:H4 L=some (.lst us):=f4.h2 _ _ u3;cases hc:c xs[i]with
  |false=>refine lM (step G4 H4 us c4 n4 u4 ?_);rw[et,BG,rJ,hc];simp;exact pr.imp fun _ _=>S.mono (f3.hg.trans f4.hg)
  |true=>
   refine mh fun s0 H0 C cl fp=>?_;have hE:=he _ G1 σ' hxm hc f1.hg hB s0 H0 C cl fp;refine(hE.mono (s3.trans f4.hg)) H4 f4.g2 _ fun yv G5 H5 f5 ry=>?_;have c5:=c4.trans f5;have n5:G5 L= .none:=f5.sep L _ n4 u4;have u5:H5 L=some (.lst us):=f5.h2 _ _ u4;refine⟨us,u5,?_,step G5 _ (us++[yv]) (c5.put hL n5 _) n5 aE ?_⟩
   ·have e1:=pr.len;rw[e1,bj];refine uE (rM _ _) (uE (List.length_take_le _ _) (rE bw ?_));exact uE hl (by decide)
   ·rw[et,BG,eJ,rJ,hc];exact(pr.imp fun _ _=>S.mono (f3.hg.trans (f4.hg.trans f5.hg))).append (.cons ry .nil)
 ·grind
theorem sV(f:γ→β)(c:γ→Bool)(hc:X.calm=true)(hN:X.N.Nodup)(h:XI X σ H tg it g xs B)(ok:jO X.N X.env.scope scope own)(hg:∀s H C cl fp,PG (hX X scope s H C cl fp) tg g)(hO:Own B (own.map (·.2)))(hl:xs.length≤30000)(ht:∀x G σ',x∈xs→aj H G→B x G (wipe σ (own.map (·.2))) σ'→pN X scope σ' G ifs (c x))(he:∀x G σ',x∈xs→c x=true→aj H G→B x G (wipe σ (own.map (·.2))) σ'→XB X scope σ' G elt S (f x))(hs:∀x,foldedSetIterable it X.env x=pure x:=by intro _;rfl):XN X σ H (.ListComp elt [⟨tg,it,ifs,0⟩] scope pos) S ((xs.filter c).map f):=by intro H1 s Q k;obtain⟨wi,hi,hw⟩:=h;refine PE.we (Nm (te:=BE X scope elt) (tt:=tR X scope ifs) hc hN hi ok hg (fun s0 H0 C cl fp pins s' σ' H' Q' I q=>q s0 H0 C cl fp pins s' I) (fun s0 H0 C cl fp pins s' σ' H' Q' I q=>q s0 H0 C cl fp pins s' I) hs) (hw H1 s _ fun J G H2 fw wk=>?_);exact yH hO fw.g2 wk hl (fun x G' σ' m sG b=>ht x G' σ' m (fw.hg.trans sG) b) (fun x G' σ' m hx sG b=>he x G' σ' m hx (fw.hg.trans sG) b) fun l us G' H3 f' a b d e=>k l us G' H3 (fw.trans f') (fw.bX a) b d e
theorem vU(f:γ→β)(c:γ→Bool)(hc:X.calm=true)(hN:X.N.Nodup)(h:XI X σ H tg it g xs B)(s:aj H H1)(ok:jO X.N X.env.scope scope own)(hg:∀s H C cl fp,PG (hX X scope s H C cl fp) tg g)(hO:Own B (own.map (·.2)))(hl:xs.length≤30000)(ht:∀x G σ',x∈xs→aj H G→B x G (wipe σ (own.map (·.2))) σ'→pN X scope σ' G ifs (c x))(he:∀x G σ',x∈xs→c x=true→aj H G→B x G (wipe σ (own.map (·.2))) σ'→XB X scope σ' G elt S (f x))(k:∀l us G H2,au H H1 G H2→H1 l=Option.none→G l=Option.none→H2 l=some (.lst us)→Paired (S.rel G) us ((xs.filter c).map f)→WB X rest D (σ.set i (some (.ref l))) H2)(dQ:X.N[i]?=some x:=by rfl)(lh:X.env.scope.names.lookup x=some .local:=by rfl)(dk:swapsWith (.ListComp elt [⟨tg,it,ifs,0⟩] scope p') (some (.Name x p)) pos.line X.env=pure true:=by exact vX rfl rfl rfl rfl)(hs:∀x,foldedSetIterable it X.env x=pure x:=by intro _;rfl):WB X (.Assign [.Name x p] (.ListComp elt [⟨tg,it,ifs,0⟩] scope p') pos::rest) D σ H1:=by obtain⟨wi,hi,hw⟩:=h;refine cW (PS.ws (Ez (te:=BE X scope elt) (tt:=tR X scope ifs) hc hN dQ lh dk hi ok hg (fun s0 H0 C cl fp pins s' σ' H' Q' I q=>q s0 H0 C cl fp pins s' I) (fun s0 H0 C cl fp pins s' σ' H' Q' I q=>q s0 H0 C cl fp pins s' I) hs) (hw H1 s _ fun J G H2 fw wk=>?_));exact yH (Q:=fun v H3=>WB X rest D (σ.set i (some v)) H3) hO fw.g2 wk hl (fun x G' σ' m sG b=>ht x G' σ' m (fw.hg.trans sG) b) (fun x G' σ' m hx sG b=>he x G' σ' m hx (fw.hg.trans sG) b) fun l us G' H3 f' a b d e=>k l us G' H3 (fw.trans f') (fw.bX a) b d e
theorem gh(f:γ→β)(hc:X.calm=true)(hN:X.N.Nodup)(h:XI X σ H tg it g xs B)(ok:jO X.N X.env.scope scope own)(hg:∀s H C cl fp,PG (hX X scope s H C cl fp) tg g)(hO:Own B (own.map (·.2)))(hl:xs.length≤30000)(he:∀x G σ',x∈xs→aj H G→B x G (wipe σ (own.map (·.2))) σ'→XB X scope σ' G elt S (f x))(hs:∀x,foldedSetIterable it X.env x=pure x:=by intro _;rfl):XN X σ H (.ListComp elt [⟨tg,it,[],0⟩] scope pos) S (xs.map f):=by have q:=sV (pos:=pos) f (fun _=>true) hc hN h ok hg hO hl (fun _ _ _ _ _ _=>yT) (fun x G σ' m _ a b=>he x G σ' m a b) hs;rwa[BH.mpr (fun _ _=>rfl)]at q
theorem zE(f:γ→β)(c:γ→Bool)(hc:X.calm=true)(hN:X.N.Nodup)(h:XI X σ H tg it g xs B)(s:aj H H1)(ok:jO X.N X.env.scope scope own)(hg:∀s H C cl fp,PG (hX X scope s H C cl fp) tg g)(hO:Own B (own.map (·.2)))(hl:xs.length≤30000)(ht:∀x G σ',x∈xs→aj H G→B x G (wipe σ (own.map (·.2))) σ'→pN X scope σ' G ifs (c x))(he:∀x G σ',x∈xs→c x=true→aj H G→B x G (wipe σ (own.map (·.2))) σ'→XB X scope σ' G elt S (f x))(k:∀v G H2,au H H1 G H2→(ah S).rel G v ((xs.filter c).map f)→WB X rest D (σ.set i (some v)) H2)(dQ:X.N[i]?=some x:=by rfl)(lh:X.env.scope.names.lookup x=some .local:=by rfl)(dk:swapsWith (.ListComp elt [⟨tg,it,ifs,0⟩] scope p') (some (.Name x p)) pos.line X.env=pure true:=by exact vX rfl rfl rfl rfl)(hs:∀x,foldedSetIterable it X.env x=pure x:=by intro _;rfl):WB X (.Assign [.Name x p] (.ListComp elt [⟨tg,it,ifs,0⟩] scope p') pos::rest) D σ H1:=
 vU f c hc hN h s ok hg hO hl ht he (fun l us G H2 fw h1 jw h2 pr=>k (.ref l) (upd G l (.lst us)) H2 (fw.aX h1 jw h2) ⟨l,us,rfl,aE,pr.imp fun _ _ q=>S.mono (aj.df jw) q⟩) dQ lh dk hs
theorem sI(f:γ→β)(hc:X.calm=true)(hN:X.N.Nodup)(h:XI X σ H tg it g xs B)(s:aj H H1)(ok:jO X.N X.env.scope scope own)(hg:∀s H C cl fp,PG (hX X scope s H C cl fp) tg g)(hO:Own B (own.map (·.2)))(hl:xs.length≤30000)(he:∀x G σ',x∈xs→aj H G→B x G (wipe σ (own.map (·.2))) σ'→XB X scope σ' G elt S (f x))(k:∀v G H2,au H H1 G H2→(ah S).rel G v (xs.map f)→WB X rest D (σ.set i (some v)) H2)(dQ:X.N[i]?=some x:=by rfl)(lh:X.env.scope.names.lookup x=some .local:=by rfl)(dk:swapsWith (.ListComp elt [⟨tg,it,[],0⟩] scope p') (some (.Name x p)) pos.line X.env=pure true:=by exact vX rfl rfl rfl rfl)(hs:∀x,foldedSetIterable it X.env x=pure x:=by intro _;rfl):WB X (.Assign [.Name x p] (.ListComp elt [⟨tg,it,[],0⟩] scope p') pos::rest) D σ H1:=
 zE f (fun _=>true) hc hN h s ok hg hO hl (fun _ _ _ _ _ _=>yT) (fun x G σ' m _ a b=>he x G σ' m a b) (fun v G H2 fw q=>k v G H2 fw (by rw[BH.mpr (fun _ _=>rfl)]at q;exact q)) dQ lh dk hs
end
theorem xo{N P:List Str}{sc:Scope}(a:sc.kind= .function:=by rfl)(b:sc.isCoroutine=false:=by rfl)(c:sc.isGenerator=false:=by rfl)(d:N.Nodup:=by decide+kernel)(e:N.take P.length=P:=by rfl)(f:∀x∈P,sc.names.lookup x=some .local∨sc.names.lookup x=some .cell:=by decide+kernel)(g:∀y∈sc.names,y.2≠ .free:=by decide+kernel):rV N P sc:=⟨a,b,c,d,e,f,g⟩
noncomputable def top(i:Nat):Stmt:=PySem.Challenge.pw_knotbookdesk_s01_answers.main.body.getD i (.Pass ⟨0,0,0,0⟩)
abbrev CN:=top 1
abbrev GL:List Str:=["size","pairs","least","one","other","low","high","number"]
abbrev FT:=top 13
abbrev Dy:List Str:=["drawing","least","firsts","arc"]
abbrev HD:=top 17
abbrev Fx:List Str:=["arcs","end","ends","number","arc"]
abbrev ED:=top 19
abbrev HF:List Str:=["drawing","arcs","crossing","steps","end"]
abbrev CT:=top 28
abbrev CP:List Str:=["state","bits","bit"]
abbrev Bb:=top 30
abbrev Bj:List Str:=["drawing","total","way","number","part","power","more"]
abbrev FI:=top 31
abbrev D6:List Str:=["drawing","crossing"]
abbrev yS:=top 33
abbrev zk:List Str:=["polynomial","powers","numbers","power","number"]
abbrev CY:=top 36
abbrev HZ:List Str:=["crossings","least","met","crossing","arc"]
abbrev A0:=top 37
abbrev yZ:List Str:=["drawing","gone","pairs","left","least","met","crossings","crossing","arcs","closed","number","arc"]
abbrev DW:=top 41
abbrev Ce:List Str:=["drawing","crossing"]
abbrev FO:=top 42
abbrev De:List Str:=["drawing","crossing"]
abbrev GU:=top 46
abbrev Eh:List Str:=["row","top","before","number","above"]
abbrev oM:=top 47
abbrev tM:List Str:=["rows","left","sign","before","leading","top","number","row"]
abbrev FQ:=top 48
abbrev DG:List Str:=["row","top","column","prime","number","above"]
abbrev wY:=top 49
abbrev wX:List Str:=["rows","width","prime","rank","left","column","leading","row"]
abbrev AR:List Str:=["drawing","t","rows","crossing","above","below"]
abbrev sQ:=top 53
abbrev zi:List Str:=["value","numbers","left","digit"]
abbrev zJ:=top 54
abbrev AK:List Str:=["numbers","lowest","sign","power","number"]
abbrev Gp:=top 55
abbrev DA:List Str:=["drawing","rows","value","row"]
abbrev JA:=top 61
abbrev Fi:List Str:=["circles","row","crossings","at"]
abbrev B7:=top 62
abbrev Ho:List Str:=["drawing","leaving","arriving","crossing","arc"]
abbrev Ff:=top 66
abbrev GH:List Str:=["one","other","behind","crossing"]
abbrev Dz:=top 68
abbrev Hj:List Str:=["one","arc","other","second_arc","together","moved","heads","crossing"]
abbrev Gf:=top 72
abbrev Fj:List Str:=["drawing","start"]
abbrev HJ:=top 77
abbrev E3:List Str:=["drawing","gone","number"]
abbrev Iv:=top 78
abbrev Cr:List Str:=["drawing","number","crossing"]
abbrev GP:List Str:=["drawing","found","number","crossing","behind"]
abbrev Iq:=top 102
abbrev FR:List Str:=["number","part"]
abbrev JC:=top 122
abbrev Ip:List Str:=["calls","places","told","at","end","answer"]
open Kb (Cross Dia)
def sgn(b:Bool):Int:=if b then 1 else 0
def EZ:Rp Bool:=⟨fun _ v b=>v= .int (sgn b),fun _ h=>h⟩
def Aq(y:Cross):List (Str×V):=[("ui", .int y.ui),("uo", .int y.uo),("oi", .int y.oi),("oo", .int y.oo),("sign", .int (sgn y.minus))]
def a6(CC:Addr):Rp Cross:=⟨fun H v y=>∃p dx,v= .ref p∧H p=some (.ins CC dx (Aq y)),fun s⟨p,dx,e,h⟩=>⟨p,dx,e,s _ _ h⟩⟩
def Aa(l:Addr)(c:Nat):List (Str×V):=[("crossings", .ref l),("circles", .int c)]
def aA(CC CD:Addr):Rp Dia:=⟨fun H v d=>∃p dx l vs,v= .ref p∧H p=some (.ins CD dx (Aa l d.c))∧H l=some (.lst vs)∧Paired ((a6 CC).rel H) vs d.x,
 fun s⟨p,dx,l,vs,e,h,h',pr⟩=>⟨p,dx,l,vs,e,s _ _ h,s _ _ h',pr.imp fun _ _=>(a6 CC).mono s⟩⟩
def aQ(K:Fg)(mg:Mg)(x:Str)(st:Stmt)(ps:List Str):Prop:=∃f fd,lW K x x st f fd∧mg x=some (.ref f)∧Binds K fd ps []
structure AllHas(K:Fg)(mg:Mg):Prop where
 K5:aQ K mg "least_joined" CN ["size","pairs"]
 Xg:aQ K mg "count_groups" (top 2) ["size","pairs"]
 Pz:aQ K mg "crossings_from" (top 7) ["row"]
 X1:aQ K mg "row_from" (top 8) ["crossings"]
 Nj:aQ K mg "count_arcs" (top 9) ["drawing"]
 signed:aQ K mg "signed" (top 10) ["crossing"]
 Ss:aQ K mg "pairs_straight" (top 11) ["crossings"]
 L9:aQ K mg "first_arcs" (top 12) ["drawing"]
 Wf:aQ K mg "strands_by_arc" FT ["drawing"]
 N7:aQ K mg "count_strands" (top 14) ["drawing"]
 K9:aQ K mg "count_crossing_pieces" (top 15) ["drawing"]
 Ov:aQ K mg "arcs_around" (top 16) ["crossing"]
 UU:aQ K mg "far_end" HD ["arcs","end"]
 Wr:aQ K mg "turned_end" (top 18) ["end"]
 MB:aQ K mg "count_faces" ED ["drawing"]
 QQ:aQ K mg "pairs_along" (top 20) ["crossing"]
 Qw:aQ K mg "pairs_across" (top 21) ["crossing"]
 Ma:aQ K mg "pairs_opened" (top 22) ["crossing","to_b"]
 V7:aQ K mg "count_circles_along" (top 23) ["drawing"]
 T8:aQ K mg "count_circles_opened" (top 24) ["drawing","state"]
 S0:aQ K mg "multiplied" (top 26) ["one","other"]
 Mq:aQ K mg "circle_value" (top 27) ["circles"]
 Xu:aQ K mg "count_ones" CT ["state","bits"]
 P0:aQ K mg "count_ways" (top 29) ["drawing"]
 bracket:aQ K mg "bracket" Bb ["drawing"]
 writhe:aQ K mg "writhe" FI ["drawing"]
 jones:aQ K mg "jones" (top 32) ["drawing"]
 LR:aQ K mg "numbers_told" yS ["polynomial"]
 P6:aQ K mg "ends_of" (top 35) ["crossing"]
 Wt:aQ K mg "arcs_met" CY ["crossings","least"]
 without:aQ K mg "without" A0 ["drawing","gone","pairs"]
 changed:aQ K mg "changed" (top 39) ["crossing"]
 WZ:aQ K mg "run_back" (top 40) ["crossing"]
 mirrored:aQ K mg "mirrored" DW ["drawing"]
 turned:aQ K mg "turned" FO ["drawing"]
 flipped:aQ K mg "flipped" (top 43) ["drawing","number"]
 opened:aQ K mg "opened" (top 44) ["drawing","number"]
 reduced:aQ K mg "reduced" GU ["row","top","before"]
 WD:aQ K mg "determinant" oM ["rows"]
 cleared:aQ K mg "cleared" FQ ["row","top","column","prime"]
 Ue:aQ K mg "rank_by" wY ["rows","width","prime"]
 S9:aQ K mg "crossing_rows" (top 52) ["drawing","t"]
 Ls:aQ K mg "digits_apart" sQ ["value"]
 Xk:aQ K mg "lowest_first" zJ ["numbers"]
 alexander:aQ K mg "alexander" Gp ["drawing"]
 VN:aQ K mg "count_free_colours" (top 56) ["drawing","prime"]
 Wj:aQ K mg "five_as_told" (top 60) ["row","at","arcs"]
 Tx:aQ K mg "numbers_as_told" JA ["circles","row"]
 VQ:aQ K mg "loose_arcs" B7 ["drawing"]
 T4:aQ K mg "fits_ball" (top 63) ["drawing"]
 raised:aQ K mg "raised" (top 65) ["crossing","more"]
 beside:aQ K mg "beside" Ff ["one","other"]
 L7:aQ K mg "other_head" (top 67) ["crossing","heads"]
 joined:aQ K mg "joined" Dz ["one","arc","other","second_arc"]
 Wu:aQ K mg "heads_by_arc" (top 70) ["drawing"]
 Ll:aQ K mg "told_from" (top 71) ["drawing","start"]
 WU:aQ K mg "told_from_each" Gf ["drawing"]
 Vo:aQ K mg "are_same" (top 73) ["one","other"]
 Ms:aQ K mg "is_kink" (top 75) ["crossing"]
 Vu:aQ K mg "is_poke" (top 76) ["one","other"]
 undone:aQ K mg "undone" HJ ["drawing","gone"]
 S6:aQ K mg "kinks" Iv ["drawing"]
 Yb:aQ K mg "pokes" (top 79) ["drawing"]
 Xm:aQ K mg "undone_by_steps" (top 80) ["drawing"]
 SS:aQ K mg "put_drawing" (top 92) ["places","call"]
 Q_:aQ K mg "tell_drawing" (top 93) ["drawing","numbers"]
 W9:aQ K mg "tell_count" (top 94) ["drawing","numbers"]
 TB:aQ K mg "tell_strand" (top 95) ["drawing","numbers"]
 U3:aQ K mg "tell_sum" (top 96) ["drawing","numbers"]
 Mj:aQ K mg "tell_writhe" (top 97) ["drawing","numbers"]
 W7:aQ K mg "tell_circles" (top 98) ["drawing","numbers"]
 Nr:aQ K mg "tell_bracket" (top 99) ["drawing","numbers"]
 NN:aQ K mg "tell_jones" (top 100) ["drawing","numbers"]
 QA:aQ K mg "tell_alexander" (top 101) ["drawing","numbers"]
 Q7:aQ K mg "is_small_prime" Iq ["number"]
 NH:aQ K mg "tell_colours" (top 103) ["drawing","numbers"]
 OU:aQ K mg "drawing_at" (top 105) ["places","place"]
 Pw:aQ K mg "keep_made" (top 106) ["places","place","drawing","answer"]
 PB:aQ K mg "make_mirrored" (top 107) ["places","place","drawing","numbers"]
 Ru:aQ K mg "make_turned" (top 108) ["places","place","drawing","numbers"]
 To:aQ K mg "make_flipped" (top 109) ["places","place","drawing","numbers"]
 X4:aQ K mg "make_opened" (top 110) ["places","place","drawing","numbers"]
 Lb:aQ K mg "make_unkinked" (top 111) ["places","place","drawing","numbers"]
 Pp:aQ K mg "make_unpoked" (top 112) ["places","place","drawing","numbers"]
 KY:aQ K mg "make_plain" (top 113) ["places","place","drawing","numbers"]
 Qa:aQ K mg "make_beside" (top 114) ["places","place","drawing","numbers"]
 T9:aQ K mg "make_joined" (top 115) ["places","place","drawing","numbers"]
 X_:aQ K mg "answer_maker" (top 117) ["places","call"]
 OM:aQ K mg "answer_same" (top 118) ["places","call"]
 LC:aQ K mg "answer_teller" (top 119) ["places","call"]
 M4:aQ K mg "answer_call" (top 120) ["places","call"]
 Tt:aQ K mg "call_end" (top 121) ["calls","at"]
 answers:aQ K mg "answers" JC ["calls"]
structure Txt(K:Fg)(mg:Mg)(CC CD:Addr):Prop where
 kO:lO K CC
 hs:AllHas K mg
 iC:∃f fd,lW K "__init__" "Crossing.__init__" (inClass (top 5) 0) f fd∧Mk K CC f
 iD:∃f fd,lW K "__init__" "Drawing.__init__" (inClass (top 6) 0) f fd∧Mk K CD f
 wJ:lO K CD
 E_:ig K CC "ui"
 FL:ig K CC "uo"
 EA:ig K CC "oi"
 Fm:ig K CC "oo"
 FZ:ig K CC "sign"
 Jb:ig K CD "crossings"
 Jq:ig K CD "circles"
 mC:mg "Crossing"=some (.ref CC)
 mD:mg "Drawing"=some (.ref CD)
 len:mg "len"=none
 list:mg "list"=none
 range:mg "range"=none
 min:mg "min"=none
 max:mg "max"=none
 set:mg "set"=none
 sorted:mg "sorted"=none
 sum:mg "sum"=none
 all:mg "all"=none
 zip:mg "zip"=none
 enumerate:mg "enumerate"=none
 Jx:∃t,mg "NUMBERS_EACH"=some (.int 5 t)
 Cm:∃t,mg "APART"=some (.int 4294967296 t)
 Jl:∃t,mg "MOST_CROSSINGS"=some (.int 8 t)
 GZ:∃t,mg "MOST_CIRCLES"=some (.int 4 t)
 vd:∃t,mg "PLACES"=some (.int 6 t)
 Ds:∃t,mg "PUT"=some (.int 1 t)
 Qu:∃t,mg "SAME"=some (.int 21 t)
 Pj:∃t,mg "PRIMES_UP_TO"=some (.int 100 t)
 ib:∃t,mg "NOT_AS_TOLD"=some (.int (-1) t)
 N0:∃t,mg "TOO_LARGE"=some (.int (-2) t)
 C7:∃t,mg "NOT_TO_UNDO"=some (.int (-3) t)
 K4:∃t,mg "LOOSE_ARC"=some (.int (-6) t)
 Sj:∃t,mg "NOT_ON_BALL"=some (.int (-8) t)
section
variable{P:Program}{w:World}{K:Fg}{mg:Mg}{base:Heap}
theorem aQ.mk{st:Stmt}(F:aQ K mg x st ps)(N:List Str)(hb:∀{f:Addr}{bI:Value}{A:Around}{outer:List Env}{s:Shared}(_:N.Nodup)(H:Hp)(vs:List V)(Q:VK)(E:XK),bM k (A.deeper (envOfC x (bE st) s.heap.objs.size f bI))→sp vs H Q E→
   WB (ju g_ P w K mg base N x (bE st) f bI A outer s H E).kP (iH st) {nx:=fun _ H'=>Q .a8 H',rt:=Q} (start N vs) H)(S:rV N ps (bE st):=by exact xo)(len:∀vs H Q E,sp vs H Q E→vs.length=ps.length:=by first|exact Fn.len (fQ len0)|exact Fn.len (fQ (fQ len0))|exact gI.len (fQ (fQ (fQ len0)))|exact gI.len (fQ len0)|exact Fn.len (fQ (fQ (fQ len0)))|exact lN.len (fQ len0)|exact Fn.len (fQ (fQ (fQ (fQ len0))))|exact wU.len (fQ len0)|exact tQ.len (fQ len0)):Def P w K mg base (k+1) x ps sp:=by
 obtain⟨f,fd,F,hm,b⟩:=F;exact⟨f,fd,F.ok S len fun bI A outer s H vs Q E hr h=>⟨_,lP,hb S.nd H vs Q E hr h⟩,hm,F.kp,b⟩
end
section
variable{α β γ:Type}{A:ck γ}{R:Rp β}
def ck.Len(A:ck γ)(n:Nat):Prop:=∀H vs c,A.rel H vs c→vs.length=n
theorem len0:bu.Len 0:=fun _ _ _ h=>by cases h;rfl
theorem fQ(h:A.Len n):(aO R A).Len (n+1):=fun _ _ _ hh=>by obtain⟨_,_,e,_,q⟩:=hh;rw[e,bZ,h _ _ _ q]
theorem Fn.len(h:A.Len n):∀vs H Q E,Fn A R P f vs H Q E→vs.length=n:=fun _ _ _ _⟨_,_,_,a,_⟩=>h _ _ _ a
theorem tQ.len(h:A.Len n):∀vs H Q E,tQ A R P f vs H Q E→vs.length=n:=fun _ _ _ _⟨_,_,_,a,_⟩=>h _ _ _ a
end
section
variable{α β γ:Type}{X:Cx}{σ:aS}{H H1:Hp}{e a b:Expr}{R:Rp α}{S:Rp β}{r:α}{pos p:Pos}{D:Ends}{rest:List Stmt}{x:Str}{i:Nat}{CC CD:Addr}
theorem sU(h:XE X σ H e (a6 CC) y)(c:lO X.K CC)(n:ig X.K CC f)(hl:(Aq y).lookup f=some v)(hv:∀G,R.rel G v z)(hB:AB X e f):XE X σ H (.Attribute e f pos) R z:=fun H1 s Q k=>
 PE.we (Ap aJ hB) (h H1 s _ fun u G H2 fw⟨q,dx,eu,hq⟩=>by subst eu;exact⟨q,CC,dx,_,v,rfl,fw.g2 _ _ hq,c,n,hl,k v G H2 fw (hv G)⟩)
section
variable{y:Cross}(T:Txt X.K X.mg CC CD)
include T
theorem eN(h:XE X σ H e (a6 CC) y)(hB:AB X e "ui":=by rfl):XE X σ H (.Attribute e "ui" pos) aa y.ui:=sU h T.kO T.E_ rfl (fun _=>rfl) hB
theorem fP(h:XE X σ H e (a6 CC) y)(hB:AB X e "uo":=by rfl):XE X σ H (.Attribute e "uo" pos) aa y.uo:=sU h T.kO T.FL rfl (fun _=>rfl) hB
theorem eh(h:XE X σ H e (a6 CC) y)(hB:AB X e "oi":=by rfl):XE X σ H (.Attribute e "oi" pos) aa y.oi:=sU h T.kO T.EA rfl (fun _=>rfl) hB
theorem fJ(h:XE X σ H e (a6 CC) y)(hB:AB X e "oo":=by rfl):XE X σ H (.Attribute e "oo" pos) aa y.oo:=sU h T.kO T.Fm rfl (fun _=>rfl) hB
theorem g7(h:XE X σ H e (a6 CC) y)(hB:AB X e "sign":=by rfl):XE X σ H (.Attribute e "sign" pos) aq (sgn y.minus):=sU h T.kO T.FZ rfl (fun _=>rfl) hB
theorem bK(h:XE X σ H e (aA CC CD) d)(hB:AB X e "crossings":=by rfl):XE X σ H (.Attribute e "crossings" pos) (ah (a6 CC)) d.x:=fun H1 s Q k=>
 PE.we (Ap aJ hB) (h H1 s _ fun u G H2 fw hh=>by obtain⟨q,dx,l,vs,eu,hq,hl,pr⟩:=hh;subst eu;exact⟨q,CD,dx,_, .ref l,rfl,fw.g2 _ _ hq,T.wJ,T.Jb,rfl,k _ G H2 fw ⟨l,vs,rfl,hl,pr⟩⟩)
theorem eY(h:XE X σ H e (aA CC CD) d)(hB:AB X e "circles":=by rfl):XE X σ H (.Attribute e "circles" pos) aa d.c:=fun H1 s Q k=>
 PE.we (Ap aJ hB) (h H1 s _ fun u G H2 fw hh=>by obtain⟨q,dx,l,vs,eu,hq,hl,pr⟩:=hh;subst eu;exact⟨q,CD,dx,_, .int d.c,rfl,fw.g2 _ _ hq,T.wJ,T.Jq,rfl,k _ G H2 fw rfl⟩)
theorem RF{i j:Int}(hc:X.calm=true)(ha:XE X σ H a aq i)(hb:XE X σ H b aq j)(hv:bootBuiltins "min"=some (.builtin "min"):=by decide+kernel)(hg:Gl X "min":=by rfl)
  (hs:SE X a [b]:=by rfl)(bL:SE X b []:=by rfl)(bo:NS X pos [b]:=by rfl):
  XE X σ H (.Call (.Name "min" p) [a,b] [] pos) aq (min i j):=
 nN (U6 hc) T.min hv (aF ha (az hb bL) hs) (fun vs G H2 Q hh s k=>by obtain⟨v,r,e1,r1,w,r',e2,r2,e3⟩:=hh;cases e3;cases r1;cases r2;subst e2 e1;refine⟨i,j,rfl,k _ ?_⟩;show V.int _=V.int _;congr 1;split<;>grind) hg (by decide) (by decide) hs bo
theorem VD{i j:Int}(hc:X.calm=true)(ha:XE X σ H a aq i)(hb:XE X σ H b aq j)(hv:bootBuiltins "max"=some (.builtin "max"):=by decide+kernel)(hg:Gl X "max":=by rfl)
  (hs:SE X a [b]:=by rfl)(bL:SE X b []:=by rfl)(bo:NS X pos [b]:=by rfl):
  XE X σ H (.Call (.Name "max" p) [a,b] [] pos) aq (max i j):=
 nN (MA hc) T.max hv (aF ha (az hb bL) hs) (fun vs G H2 Q hh s k=>by obtain⟨v,r,e1,r1,w,r',e2,r2,e3⟩:=hh;cases e3;cases r1;cases r2;subst e2 e1;refine⟨i,j,rfl,k _ ?_⟩;show V.int _=V.int _;congr 1;split<;>lia) hg (by decide) (by decide) hs bo
theorem My(hc:X.calm=true)(h:XE X σ H e aa n)(hn:n≤1000)(hg:Gl X "list":=by rfl)(jw:Gl X "range":=by rfl)(hs:SE X e []:=by rfl)(bL:starEach [.Call (.Name "range" q) [e] [] q'] X.env=(false,eval (.Call (.Name "range" q) [e] [] q') X.env)::starEach [] X.env:=by rfl)(hv:bootBuiltins "list"=some (.type "list"):=by decide+kernel)(fV:bootBuiltins "range"=some (.type "range"):=by decide+kernel):
  XN X σ H (.Call (.Name "list" p) [.Call (.Name "range" q) [e] [] q'] [] pos) aa (range n):=fun H1 s Q k=>
 PE.we (sZ (KS.QI hc) hg T.list hv (fm (sZ KS.Tb jw T.range fV (fm aJ fG hs) (by decide) (by decide) hs rfl) fG bL) (by decide) (by decide) bL rfl) (h H1 s _ fun v G H2 fw rv=>by cases rv;refine⟨_,rfl,fun p hp=>⟨p,n,rfl,aE,hn,fun l hl=>?_⟩⟩;have f1:=fw.new hp (.kN 0 n);exact k l _ G _ (f1.new hl _) (f1.bX hl) (f1.fI hl) aE Paired.of_map)
end
theorem tP:(ah aa).rel H v ns↔(ah aq).rel H v (ns.map Int.ofNat):=by
 constructor
 ·rintro⟨a,vs,e,h,pr⟩;refine⟨a,vs,e,h,?_⟩;clear h;induction pr with
  |nil=>exact .nil
  |cons h t ih=>exact .cons h ih
 ·rintro⟨a,vs,e,h,pr⟩;refine⟨a,vs,e,h,?_⟩;clear h;generalize q:ns.map Int.ofNat=m at pr;induction pr generalizing ns with
  |nil=>cases ns with
   |nil=>exact .nil
   |cons=>cases q
  |cons h t ih=>cases ns with
   |nil=>cases q
   |cons n ns=>cases q;exact .cons h (ih rfl)
theorem XE.Jc(h:XE X σ H e (ah aq) (ns.map Int.ofNat)):XE X σ H e (ah aa) ns:=fun H1 s Q k=>h H1 s Q fun y G H2 f q=>k y G H2 f (tP.mpr q)
theorem XE.mq(h:XE X σ H e (ah aa) ns):XE X σ H e (ah aq) (ns.map Int.ofNat):=fun H1 s Q k=>h H1 s Q fun y G H2 f q=>k y G H2 f (tP.mp q)
theorem ma(h:(ah aq).rel H v ns):∃a,v= .ref a∧H a=some (.lst (ns.map V.int)):=by obtain⟨a,vs,e,h,pr⟩:=h;have q:vs=ns.map V.int:=pr.tE;exact⟨a,e,by rw[h,q]⟩
section
variable(T:Txt X.K X.mg CC CD)
include T
theorem Cb(hc:X.calm=true)(h:XE X σ H e (ah aq) ns)(hl:ns.length<4000)(hg:Gl X "len":=by rfl)(jw:Gl X "set":=by rfl)(hs:SE X e []:=by rfl)(bL:starEach [.Call (.Name "set" q) [e] [] q'] X.env=(false,eval (.Call (.Name "set" q) [e] [] q') X.env)::starEach [] X.env:=by rfl)(fV:bootBuiltins "set"=some (.type "set"):=by decide+kernel):
  XE X σ H (.Call (.Name "len" p) [.Call (.Name "set" q) [e] [] q'] [] pos) aq ((ns.foldl KS.dh []).length:Int):=fun H1 s Q k=>
 PE.we (tS KS.W3 hg T.len J9 (fm (sZ (KS.F1 hc) jw T.set fV (fm aJ fG hs) (by decide) (by decide) hs rfl) fG bL) (by decide) (by decide) bL rfl) (h H1 s _ fun v G H2 fw rv=>by obtain⟨a,rfl,ha⟩:=ma rv;refine⟨a,ns,rfl,aU.of (fw.g2 _ _ ha),hl,fun p hp=>⟨p,_,rfl,aE,k _ G _ (fw.new hp _) rfl⟩⟩)
theorem Gq(hc:X.calm=true)(h:XE X σ H e (ah aq) ns)(hl:ns.length<4000)(hm:(ns.foldl KS.dh []).length<64)(ho:∀m:List Int,m.Perm (ns.foldl KS.dh [])→m.Pairwise (·≤·)→m=out)(hg:Gl X "sorted":=by rfl)(jw:Gl X "set":=by rfl)(hs:SE X e []:=by rfl)(bL:starEach [.Call (.Name "set" q) [e] [] q'] X.env=(false,eval (.Call (.Name "set" q) [e] [] q') X.env)::starEach [] X.env:=by rfl)(hv:bootBuiltins "sorted"=some (.builtin "sorted"):=by decide+kernel)(fV:bootBuiltins "set"=some (.type "set"):=by decide+kernel):
  XN X σ H (.Call (.Name "sorted" p) [.Call (.Name "set" q) [e] [] q'] [] pos) aq out:=fun H1 s Q k=>
 PE.we (tS (KS.Sk hc) hg T.sorted hv (fm (sZ (KS.F1 hc) jw T.set fV (fm aJ fG hs) (by decide) (by decide) hs rfl) fG bL) (by decide) (by decide) bL rfl) (h H1 s _ fun v G H2 fw rv=>by obtain⟨a,rfl,ha⟩:=ma rv;refine⟨a,ns,rfl,aU.of (fw.g2 _ _ ha),hl,fun p hp=>⟨p,_,rfl,aE,hm,fun m l h1 h2 cb=>?_⟩⟩;have f1:=fw.new hp (KS.oY X.prog X.w p (ns.foldl KS.dh []));refine k l _ G _ (f1.new cb _) (f1.bX cb) (f1.fI cb) aE ?_;rw[←ho m h1 h2];exact Paired.of_map)
end
theorem tY(hs:σ[i]?=some (some (.ref l)))(hl:H1 l=some (.lst us))(hz:us.length<30000)(h:XE X σ H e R r)(s:aj H H1)(k:∀v G H2,au H H1 G H2→R.rel G v r→WB X rest D σ (upd H2 l (.lst (us++[v]))))(hN:X.N[i]?=some x:=by rfl)(hv:dJ X.env.scope x:=by first|exact Or.inl rfl|exact Or.inr (Or.inl rfl)|exact Or.inr (Or.inr rfl))(hd:(x==("__debug__":Str))=false:=by decide)(bH:(x==("__classdict__":Str))=false:=by decide)(dW:AB X (.Name x p) "append":=by rfl)(gK:((backTo cp (starEach [e] X.env)).all (fun x=>!x.1)&&(backToKw cp (keywordEach [] X.env)).all (fun x=>x.1.isSome)
   &&decide (([e]:List Expr).length+([]:List Keyword).length+(if([]:List Keyword).isEmpty then 0 else 1)<30))=true:=by rfl)(dX:(ap.endLine==cp.line)=true:=by rfl)(dj:SE X e []:=by rfl)(dk:swapsWith (.Call (.Attribute (.Name x p) "append" ap) [e] [] cp) none pos.line X.env=pure false:=by rfl):
  WB X (.Expr (.Call (.Attribute (.Name x p) "append" ap) [e] [] cp) pos::rest) D σ H1:=
 cW (PS.ws (DM (sf xZ PySem.F.slot_list_append PySem.F.type_list_append T7 (iF hN hv hd bH) (fm aJ fG dj) dW gK dX dj rfl) dk)
  ⟨.ref l,hs, .inl ⟨rfl,_,aU.of hl⟩,h H1 s _ fun v G H2 f rv=>⟨l,us,v,rfl,rfl,f.h2 _ _ hl,rE hz (by decide),k v G H2 f rv⟩⟩)
theorem rT(hs:σ[i]?=some (some (.ref l)))(hl:H1 l=some (.lst us))(h:XE X σ H e (ah R) xs)(s:aj H H1)(hz:us.length+xs.length≤30000)(k:∀vs G H2,au H H1 G H2→Paired (R.rel G) vs xs→WB X rest D σ (upd H2 l (.lst (us++vs))))(hN:X.N[i]?=some x:=by rfl)(hv:dJ X.env.scope x:=by first|exact Or.inl rfl|exact Or.inr (Or.inl rfl)|exact Or.inr (Or.inr rfl))(hd:(x==("__debug__":Str))=false:=by decide)(bH:(x==("__classdict__":Str))=false:=by decide)(dW:AB X (.Name x p) "extend":=by rfl)(gK:((backTo cp (starEach [e] X.env)).all (fun x=>!x.1)&&(backToKw cp (keywordEach [] X.env)).all (fun x=>x.1.isSome)
   &&decide (([e]:List Expr).length+([]:List Keyword).length+(if([]:List Keyword).isEmpty then 0 else 1)<30))=true:=by rfl)(dX:(ap.endLine==cp.line)=true:=by rfl)(dj:SE X e []:=by rfl)(dk:swapsWith (.Call (.Attribute (.Name x p) "extend" ap) [e] [] cp) none pos.line X.env=pure false:=by rfl):
  WB X (.Expr (.Call (.Attribute (.Name x p) "extend" ap) [e] [] cp) pos::rest) D σ H1:=
 cW (PS.ws (DM (sf xZ PySem.F.slot_list_extend PySem.F.type_list_extend Us (iF hN hv hd bH) (fm aJ fG dj) dW gK dX dj rfl) dk)
  ⟨.ref l,hs, .inl ⟨rfl,_,aU.of hl⟩,h H1 s _ fun v G H2 f⟨b,vs,eb,hb,pr⟩=>⟨l,b,us,vs,rfl,by rw[eb],f.h2 _ _ hl,f.g2 _ _ hb,by rw[pr.len];exact cx hz (by decide),k vs G H2 f pr⟩⟩)
end
def vA(l:List Nat)(p:Nat×Nat):List Nat:=l.map fun(w:Nat)=>if w=l.getD p.1 0∨w=l.getD p.2 0 then min (l.getD p.1 0) (l.getD p.2 0)else w
theorem rY(js:List (Nat×Nat))(m:Nat):merge js m=js.foldl vA (range m):=rfl
theorem vT:∀(js:List (Nat×Nat))(l:List Nat),(js.foldl vA l).length=l.length
 |[],l=>rfl
 |p::js,l=>by rw[gP,vT js];simp[vA]
theorem Eo{f:β→α→β}{l:List α}(h:l[i]?=some x):(l.take (i+1)).foldl f b=f ((l.take i).foldl f b) x:=by obtain⟨hl,e⟩:=d_.mp h;rw[←xY hl,Bz,e];rfl
theorem getD_at{l:List Nat}(h:i<l.length):l[i]?=some (l.getD i 0):=by simp[*]
abbrev gG:=List (Nat×Nat)
def gG.ok(n:Nat)(ps:gG):Prop:=∀p∈ps,p.1<n∧p.2<n
section
variable{K:Fg}(T:Txt K mg CC CD)
include T
abbrev kg:Rp gG:=ah (dF aa aa)
theorem v_:Def P w K mg base 1 "least_joined" ["size","pairs"] (Fn (aO aa (aO kg bu)) (ah aa) (fun c=>c.1≤1000∧gG.ok c.1 c.2.1) fun c=>merge c.2.1 c.1):=by
 refine T.hs.K5.mk GL (fun nd H1 vs Q E hr h=>?_);refine JS h fun H n ps v0 v1 s1 h0 h1 hh k=>?_;obtain⟨hn,hp⟩:=hh;refine br (i:=2) nd (My T rfl (xv 0 h0) hn).xe s1 fun v2 G H2 f2 r2=>?_;refine kL (H:=G) jE rfl (FF rfl (wB (qM (i:=3) nd rfl (Or.inl rfl)) (wB (qM (i:=4) nd rfl (Or.inl rfl)) Cu))) (TX (j:=3) (k:=4) (xv 1 (kg.mono f2.hg h1))) f2.g2
  (fun Gx i σ' H'=>∃G2 vl o3 o4 o5 o6,aj Gx G2∧au H H1 G2 H'∧(ah aa).rel G2 vl (merge (ps.take i) n)∧σ'=[some v0,some v1,some vl,o3,o4,o5,o6,none]) ?_ ?_ ?_ ?_
 ·intro Gx H3 f3;exact⟨Gx,v2,none,none,none,none,aj.refl _,f2.trans f3,(ah aa).mono f3.hg r2,rfl⟩
 ·rintro Gx i σ' H' ⟨G2,vl,o3,o4,o5,o6,sx,fx,rl,rfl⟩;exact sx.trans fx.g2
 ·rintro Gx i c σ' H' hc ⟨G2,vl,o3,o4,o5,o6,sx,fx,rl,rfl⟩ σ'' G3 H3 f3 ⟨va,vb,ra,rb,rfl⟩;obtain⟨G4,s4,f4⟩:=au.wide sx fx.g2 f3;have hm:(merge (ps.take i) n).length=n:=by rw[rY,vT,gR]
  obtain⟨hc1,hc2⟩:=hp c (fg hc);have ra:=aa.mono s4 ra;have rb:=aa.mono s4 rb;have rl:=(ah aa).mono f4.hg rl;have e1:(merge (ps.take i) n)[c.1]?=some ((merge (ps.take i) n).getD c.1 0):=getD_at (by rw[hm];exact hc1);have e2:(merge (ps.take i) n)[c.2]?=some ((merge (ps.take i) n).getD c.2 0):=getD_at (by rw[hm];exact hc2);have f5:=fx.trans f4;generalize hu:(merge (ps.take i) n).getD c.1 0=u at e1;generalize hv:(merge (ps.take i) n).getD c.2 0=v at e2;refine br (i:=5) nd (XE.nat (n:=min u v) (RF T rfl (XE.int (aW (xv 2 rl) (XE.int (xv 3 ra)) (bt e1))) (XE.int (aW (xv 2 rl) (XE.int (xv 4 rb)) (bt e2)))) (by omega)) f5.g2 fun v5 G5 H5 f6 r5=>?_;have rl:=(ah aa).mono f6.hg rl;refine br (i:=6) nd (XE.nat (n:=max u v) (VD T rfl (XE.int (aW (xv 2 rl) (XE.int (xv 3 ra)) (bt e1))) (XE.int (aW (xv 2 rl) (XE.int (xv 4 rb)) (bt e2)))) (by omega)) (f5.trans f6).g2 fun v6 G6 H6 f7 r6=>?_;have rl:=(ah aa).mono f7.hg rl;refine sI (i:=2) (own:=[("number",7)]) (S:=aa) (fun w=>if w=max u v then min u v else w) rfl nd (du (k:=7) (xv 2 rl)) ((f5.trans f6).trans f7).g2 (cK (by show cu GL (bE CN) _ _=true;decide+kernel)) (fun _ _ _ _ _=>qM (i:=7) nd rfl (Or.inl rfl)) (dS (by decide)) (by rw[hm];lia) ?_ ?_
  ·rintro x G7 _ _ sg ⟨vx,rx,rfl⟩ s0 H0 C cl fp;refine jh (dB (XE.int (xv 7 rx)) (XE.int (xv 6 (aa.mono sg r6)))) (fun h=>?_) fun h=>?_
   ·rw[ag (by simp at h;lia)];exact xv 5 (aa.mono sg r5)
   ·rw[af (by simp at h;lia)];exact xv 7 rx
  ·intro v7 G8 H8 f8 r7;refine bp ⟨G8,v7,_,_,_,_,sx.trans (f4.hg.trans (f6.hg.trans (f7.hg.trans f8.hg))),((f5.trans f6).trans f7).trans f8,?_,rfl⟩;rw[rY,Eo hc,←rY];refine(congrArg (fun m=>(ah aa).rel G8 v7 m) ?_).mp r7;unfold vA;rw[hu,hv];refine ef fun w _=>?_;by_cases e1:w=u<;>by_cases e2:w=v<;>simp[e1,e2]<;>lia
 ·rintro Gx σ' H' ⟨G2,vl,o3,o4,o5,o6,sx,fx,rl,rfl⟩;rw[iX]at rl;exact gD (i:=2) rfl (k vl G2 H' fx rl)
end
section
variable{α β γ δ:Type}{X:Cx}{σ:aS}{H H1 H2 G:Hp}{e a b:Expr}{R:Rp α}{S:Rp β}{r:α}{pos p:Pos}{D:Ends}{rest:List Stmt}{x:Str}{i:Nat}{CC CD:Addr}
structure cM(H1 G H2:Hp)(l:Addr)(R:Rp α)(acc:List α):Prop where
 n1:H1 l=Option.none
 ng:G l=Option.none
 ex:∃us,H2 l=some (.lst us)∧Paired (R.rel G) us acc
theorem cM.fwd(o:cM H1 G H2 l R acc)(f:au G H2 G' H3):cM H1 G' H3 l R acc:=by obtain⟨us,h,pr⟩:=o.ex;exact⟨o.n1,f.sep _ _ o.ng h,us,f.h2 _ _ h,pr.imp fun _ _=>R.mono f.hg⟩
theorem cM.known(o:cM H1 G H2 l R acc)(f:au H H1 G H2):∃G',aj G G'∧au H H1 G' H2∧(ah R).rel G' (.ref l) acc:=by obtain⟨us,h,pr⟩:=o.ex;exact⟨upd G l (.lst us),aj.df o.ng,f.aX o.n1 o.ng h,l,us,rfl,aE,pr.imp fun _ _=>R.mono (aj.df o.ng)⟩
def zI(B:γ→Hp→aS→aS→Prop):Prop:=∀c c' G G' σ σ0 σ1,B c G σ σ0→B c' G' σ0 σ1→B c' G' σ σ1
theorem NC:zI (B1 k R):=fun _ _ _ _ σ _ _⟨v,_,e⟩⟨w,h,e'⟩=>⟨w,h,by rw[e',e,Ka]⟩
theorem XS(a b c d:Option V):(((σ.set j a).set k b).set j c).set k d=(σ.set j c).set k d:=by
 by_cases q:j=k
 ·simp_all
 ·rw[List.set_comm a b q,Ka,List.set_comm b c (fun z=>q z.symm),Ka]
theorem VG{R:Rp γ}:zI (fun c:γ×δ=>B2 j k T R (c.2,c.1)):=fun _ _ _ _ σ _ _⟨v,w,_,_,e⟩⟨v',w',h,h',e'⟩=>⟨v',w',h,h',by rw[e',e,XS]⟩
def lV(ks:List Nat)(σ σ':aS):Prop:=∀j,j∉ks→σ'[j]?=σ[j]?
def A5(B:γ→Hp→aS→aS→Prop)(ks:List Nat):Prop:=∀c G σ σ',B c G σ σ'→lV ks σ σ'
theorem MT:A5 (B1 k R) [k]:=fun _ _ _ _⟨_,_,e⟩ j hj=>by grind
theorem PN{R:Rp γ}:A5 (fun c:γ×δ=>B2 j k T R (c.2,c.1)) [j,k]:=fun _ _ _ _⟨_,_,_,_,e⟩ i hi=>by grind
structure wH(B:γ→Hp→aS→aS→Prop)(ks:List Nat):Prop where
 Ly:zI B
 Pg:A5 B ks
 mon:∀c G G' σ σ',aj G G'→B c G σ σ'→B c G' σ σ'
theorem kq:wH (B1 k R) [k]:=⟨NC,MT,fun _ _ _ _ _ s⟨v,h,e⟩=>⟨v,R.mono s h,e⟩⟩
theorem DP{R:Rp γ}:wH (fun c:γ×δ=>B2 j k T R (c.2,c.1)) [j,k]:=⟨VG,PN,fun _ _ _ _ _ s⟨v,w,h,h',e⟩=>⟨v,w,T.mono s h,R.mono s h',e⟩⟩
theorem Fe(xs:List γ)(i:Nat):((xs.take i).flatMap f).length≤(xs.flatMap f).length:=by
 conv=>rhs;rw[←rF i xs]
 grind
theorem nM(f:γ→List α)(hc:X.calm=true)(hg:PG X tg g)(h:XI X σ G tg it g xs B)(N:wH B ks)(f0:au H H1 G H2)(o:cM H1 G H2 l R acc)(he:∀x G' H3 σ' bU,x∈xs→aj G G'→au H H1 G' H3→cM H1 G' H3 l R bU→B x G' σ σ'→bU.length+(f x).length≤(acc++xs.flatMap f).length→∀D':Ends,(∀G2 H4,aj G' G2→au H H1 G2 H4→cM H1 G2 H4 l R (bU++f x)→D'.nx σ' H4)→WB X body D' σ' H3)(k:∀σ' G' H3,aj G G'→au H H1 G' H3→cM H1 G' H3 l R (acc++xs.flatMap f)→lV ks σ σ'→WB X rest D σ' H3)(hs:∀x,foldedSetIterable it X.env x=pure x:=by intro _;rfl)(hp:PassesOwn (model X.prog X.w) X.A X.env X.xe:=by exact jE):
  WB X (.For tg it body [] pos::rest) D σ H2:=by
 refine kL hp hc hg h f0.g2 (fun Gx i σ' H'=>∃G2,aj Gx G2∧au H H1 G2 H'∧aj G Gx∧cM H1 G2 H' l R (acc++(xs.take i).flatMap f)∧(σ'=σ∨∃c Gc,B c Gc σ σ')) ?_ ?_ ?_ ?_ hs
 ·intro Gx H3 f3;exact⟨Gx,aj.refl _,f0.trans f3,f3.hg,by simpa using o.fwd f3, .inl rfl⟩
 ·rintro Gx i σ' H' ⟨G2,sx,fx,_⟩;exact sx.trans fx.g2
 ·rintro Gx i c σ' H' dP ⟨G2,sx,fx,sG,ox,hσ⟩ σ'' G3 H3 f3 hB;obtain⟨G4,s4,f4⟩:=au.wide sx fx.g2 f3;have hB':B c G4 σ σ'':=N.mon _ _ _ _ _ s4 (by
   rcases hσ with e|⟨c',Gc,hb⟩
   ·simp_all
   ·exact N.Ly _ _ _ _ _ _ _ hb hB)
  obtain⟨hl,e⟩:=d_.mp dP;have et:xs.take (i+1)=xs.take i++[c]:=by rw[←e,xY hl]
  have o4:=ox.fwd f4;refine he c G4 H3 σ'' _ (fg dP) (sG.trans (sx.trans f4.hg)) (fx.trans f4) o4 hB' ?_ _ fun G6 H6 s6 f6 o6=>?_
  ·have q:=Fe (f:=f) xs (i+1);grind
  ·refine⟨G6,(sx.trans f4.hg).trans s6,f6,sG,?_, .inr ⟨c,G4,hB'⟩⟩;simp_all
 ·rintro Gx σ' H' ⟨G2,sx,fx,sG,ox,hσ⟩;rw[iX]at ox;refine k σ' G2 H' (sG.trans sx) fx ox ?_;rcases hσ with e|⟨c,Gc,hb⟩
  ·rw[e];exact fun _ _=>rfl
  ·exact N.Pg _ _ _ _ hb
theorem nD(hs:σ[i]?=some (some (.ref l)))(f0:au H H1 G H2)(o:cM H1 G H2 l R acc)(h:XE X σ G e (ah R) xs)(hz:acc.length+xs.length≤30000)(k:∀G' H3,aj G G'→au H H1 G' H3→cM H1 G' H3 l R (acc++xs)→WB X rest D σ H3)(hN:X.N[i]?=some x:=by rfl)(hv:dJ X.env.scope x:=by first|exact Or.inl rfl|exact Or.inr (Or.inl rfl)|exact Or.inr (Or.inr rfl))(hd:(x==("__debug__":Str))=false:=by decide)(bH:(x==("__classdict__":Str))=false:=by decide)(dW:AB X (.Name x p) "extend":=by rfl)(gK:((backTo cp (starEach [e] X.env)).all (fun x=>!x.1)&&(backToKw cp (keywordEach [] X.env)).all (fun x=>x.1.isSome)
   &&decide (([e]:List Expr).length+([]:List Keyword).length+(if([]:List Keyword).isEmpty then 0 else 1)<30))=true:=by rfl)(dX:(ap.endLine==cp.line)=true:=by rfl)(dj:SE X e []:=by rfl)(dk:swapsWith (.Call (.Attribute (.Name x p) "extend" ap) [e] [] cp) none pos.line X.env=pure false:=by rfl):
  WB X (.Expr (.Call (.Attribute (.Name x p) "extend" ap) [e] [] cp) pos::rest) D σ H2:=by
 obtain⟨us,hu,pr⟩:=o.ex;refine rT hs hu h f0.g2 (by rw[pr.len];exact hz) (fun vs G' H3 fw pv=>?_) hN hv hd bH dW gK dX dj dk;have o':=o.fwd fw;exact k G' _ fw.hg ((f0.trans fw).put o.n1 o'.ng _) ⟨o.n1,o'.ng,_,aE,(pr.imp fun _ _=>R.mono fw.hg).append pv⟩
theorem si(hs:σ[i]?=some (some (.ref l)))(f0:au H H1 G H2)(o:cM H1 G H2 l R acc)(h:XE X σ G e R r)(hz:acc.length<30000)(k:∀G' H3,aj G G'→au H H1 G' H3→cM H1 G' H3 l R (acc++[r])→WB X rest D σ H3)(hN:X.N[i]?=some x:=by rfl)(hv:dJ X.env.scope x:=by first|exact Or.inl rfl|exact Or.inr (Or.inl rfl)|exact Or.inr (Or.inr rfl))(hd:(x==("__debug__":Str))=false:=by decide)(bH:(x==("__classdict__":Str))=false:=by decide)(dW:AB X (.Name x p) "append":=by rfl)(gK:((backTo cp (starEach [e] X.env)).all (fun x=>!x.1)&&(backToKw cp (keywordEach [] X.env)).all (fun x=>x.1.isSome)
   &&decide (([e]:List Expr).length+([]:List Keyword).length+(if([]:List Keyword).isEmpty then 0 else 1)<30))=true:=by rfl)(dX:(ap.endLine==cp.line)=true:=by rfl)(dj:SE X e []:=by rfl)(dk:swapsWith (.Call (.Attribute (.Name x p) "append" ap) [e] [] cp) none pos.line X.env=pure false:=by rfl):
  WB X (.Expr (.Call (.Attribute (.Name x p) "append" ap) [e] [] cp) pos::rest) D σ H2:=by
 obtain⟨us,hu,pr⟩:=o.ex;refine tY hs hu (by rw[pr.len];exact hz) h f0.g2 (fun v G' H3 fw rv=>?_) hN hv hd bH dW gK dX dj dk;have o':=o.fwd fw;exact k G' _ fw.hg ((f0.trans fw).put o.n1 o'.ng _) ⟨o.n1,o'.ng,_,aE,(pr.imp fun _ _=>R.mono fw.hg).append (.cons rv .nil)⟩
theorem iN(hN:X.N.Nodup)(h:XN X σ G e R xs)(f0:au H H1 G H2)(k:∀l G' H3,aj G G'→au H H1 G' H3→cM H1 G' H3 l R xs→WB X rest D (σ.set i (some (.ref l))) H3)(hi:X.N[i]?=some x:=by rfl)(hx:Loc X.env.scope x:=by first|exact Or.inl rfl|exact Or.inr rfl)(hs:swapsWith e (some (.Name x p)) pos.line X.env=pure false:=by rfl)(hf:X.fn x=true∨X.env.scope.names.lookup x=some .local:=by first|exact .inl rfl|exact .inr rfl|assumption):WB X (.Assign [.Name x p] e pos::rest) D σ H2:=
 i4 hN h f0.g2 (fun l vs G' H3 fw h1 hg h3 pr=>k l G' H3 fw.hg (f0.trans fw) ⟨f0.bX h1,hg,vs,h3,pr⟩) hi hx hs hf
theorem NG(hs:σ[i]?=some (some (.ref l)))(f0:au H H1 G H2)(o:cM H1 G H2 l R acc)(k:∀us,au H H1 G H2→H1 l=Option.none→G l=Option.none→H2 l=some (.lst us)→Paired (R.rel G) us acc→D.rt (.ref l) H2)(hN:X.N[i]?=some x:=by rfl)(hv:dJ X.env.scope x:=by first|exact Or.inl rfl|exact Or.inr (Or.inl rfl)|exact Or.inr (Or.inr rfl))(hd:(x==("__debug__":Str))=false:=by decide)(bH:(x==("__classdict__":Str))=false:=by decide):WB X (.Return (some (.Name x p)) pos::rest) D σ H2:=by obtain⟨us,h,pr⟩:=o.ex;exact gD hs (k us f0 o.n1 o.ng h pr) hN hv hd bH
theorem bT(hN:X.N.Nodup)(hi:X.N[k]?=some x:=by rfl)(hx:Loc X.env.scope x:=by first|exact Or.inl rfl|exact Or.inr rfl)(hf:X.fn x=true∨X.env.scope.names.lookup x=some .local:=by first|exact .inl rfl|exact .inr rfl|assumption):PG X (.Name x pos) (iA k):=qM hN hi hx hf
theorem gF(hc:X.calm=true)(hN:X.N.Nodup)(hi:X.N[j]?=some x:=by rfl)(hj:X.N[k]?=some y:=by rfl)(hx:Loc X.env.scope x:=by first|exact Or.inl rfl|exact Or.inr rfl)(hy:Loc X.env.scope y:=by first|exact Or.inl rfl|exact Or.inr rfl)(hf:X.fn x=true∨X.env.scope.names.lookup x=some .local:=by first|exact .inl rfl|exact .inr rfl|assumption)(hf':X.fn y=true∨X.env.scope.names.lookup y=some .local:=by first|exact .inl rfl|exact .inr rfl|assumption)(hs:(assignEach [.Name x p1, .Name y p2] X.env).map (·.2)=assign (.Name x p1) X.env::(assignEach [.Name y p2] X.env).map (·.2):=by rfl)(bL:(assignEach [.Name y p2] X.env).map (·.2)=assign (.Name y p2) X.env::(assignEach [] X.env).map (·.2):=by rfl)(hn:(assignEach [.Name x p1, .Name y p2] X.env).length=2:=by rfl)(dj:(assignEach [.Name x p1, .Name y p2] X.env).findIdx? (·.1)=none:=by rfl):PG X (.Tuple [.Name x p1, .Name y p2] kk pos) (g2 X.K j k):=
 FF hc (wB (qM hN hi hx hf) (wB (qM hN hj hy hf') Cu bL) hs) hn dj
end
end Kn
namespace Km
open Kb
def dh(l:List Int)(k:Int):List Int:=if k∈l then l else l++[k]
theorem yz(ns:List Int):∀(acc:List Int)(x:Int),x∈ns.foldl dh acc↔x∈acc∨x∈ns:=by
 induction ns with
 |nil=>intro acc x;simp
 |cons n ns ih=>intro acc x;rw[gP,ih];unfold dh;grind
theorem yX(ns:List Int):∀acc:List Int,acc.Nodup→(ns.foldl dh acc).Nodup:=by
 induction ns with
 |nil=>intro acc h;exact h
 |cons n ns ih=>intro acc h;rw[gP];apply ih;unfold dh;grind
theorem zz:∀{l m:List Int},l.Pairwise (·<·)→m.Pairwise (·<·)→(∀x,x∈l↔x∈m)→l=m
 |[],[],_,_,_=>rfl
 |[],b::m,_,_,h=>absurd ((h b).mpr (by simp)) (by simp)
 |a::l,[],_,_,h=>absurd ((h a).mp (by simp)) (by simp)
 |a::l,b::m,hl,hm,h=>by
  have cb:=rH.mp hl;have hm':=rH.mp hm;have e:a=b:=by have h1:=(h a).mp (by simp);have h2:=(h b).mpr (by simp);grind
  subst e;rw[zz cb.2 hm'.2 fun x=>?_];grind
theorem HX{l:List Int}(h:l.Pairwise (·≤·))(n:l.Nodup):l.Pairwise (·<·):=by have:=List.Pairwise.and h n;exact this.imp fun⟨a,b⟩=>by lia
structure Mg(l:List Nat)(n:Nat):Prop where
 len:l.length=n
 le:∀i,i<n→l.getD i 0≤i
 idem:∀i,i<n→l.getD (l.getD i 0) 0=l.getD i 0
theorem getD_map{l:List Nat}(h:i<l.length):(l.map f).getD i 0=f (l.getD i 0):=by simp[*]
theorem zW(n:Nat):Mg (range n) n:=by
 have q:∀i,i<n→(range n).getD i 0=i:=fun i h=>by rw[bC,oy h];rfl
 exact⟨gR,fun i h=>by rw[q i h];exact aY _,fun i h=>by rw[q i h,q i h]⟩
def c_(l:List Nat)(p:Nat×Nat):List Nat:=l.map fun(w:Nat)=>if w=l.getD p.1 0∨w=l.getD p.2 0 then min (l.getD p.1 0) (l.getD p.2 0)else w
theorem za(h:Mg l n)(h1:p.1<n)(h2:p.2<n):Mg (c_ l p) n:=by
 have e1:=h.idem p.1 h1;have e2:=h.idem p.2 h2;have l1:=h.le p.1 h1;have l2:=h.le p.2 h2;have hl:=h.len;unfold c_;generalize l.getD p.1 0=u at e1 l1⊢;generalize l.getD p.2 0=v at e2 l2⊢;have g:∀i,i<n→(l.map fun(w:Nat)=>if w=u∨w=v then min u v else w).getD i 0=if l.getD i 0=u∨l.getD i 0=v then min u v else l.getD i 0:=fun i hi=>getD_map (by simp_all)
 refine⟨by rw[bj];exact hl,fun i hi=>?_,fun i hi=>?_⟩
 ·rw[g i hi];have:=h.le i hi;grind
 ·rw[g i hi];have ei:=h.idem i hi;grind
theorem CW:∀(js:List (Nat×Nat))(l:List Nat),(∀p∈js,p.1<n∧p.2<n)→Mg l n→Mg (js.foldl c_ l) n
 |[],l,_,h=>h
 |p::js,l,hp,h=>CW js (c_ l p) (fun q hq=>hp q (bW _ hq)) (za h (hp p (by simp)).1 (hp p (by simp)).2)
theorem qH(hp:∀p∈js,p.1<n∧p.2<n):Mg (merge js n) n:=CW js _ hp (zW n)
theorem o_(hp:∀p∈js,p.1<n∧p.2<n)(i:Nat):i∈leasts js n↔i∈merge js n:=by
 have M:=qH hp;unfold leasts;simp;constructor
 ·rintro⟨h,e⟩;have h':i<(merge js n).length:=by rw[M.len];exact h
  grind
 ·intro h;obtain⟨j,hj,e⟩:=lC.mp h;have lq:j<n:=by rw[←M.len];exact hj
  have a:=M.le j lq;have b:=M.idem j lq;grind
theorem AD(js:List (Nat×Nat))(n:Nat):(leasts js n).Pairwise (·<·):=by exact Bw _ JZ
theorem Oy(js:List (Nat×Nat))(n:Nat):(leasts js n).Nodup:=(AD js n).imp fun h=>by lia
theorem yw(hp:∀p∈js,p.1<n∧p.2<n)(h1:m.Perm (((merge js n).map Int.ofNat).foldl dh []))(h2:m.Pairwise (·≤·)):m=(leasts js n).map Int.ofNat:=by
 apply zz (HX h2 (h1.nodup_iff.mpr (yX _ _ (by simp))))
 ·rw[uN];exact(AD js n).imp fun h=>by simp;grind
 ·intro x;rw[h1.mem_iff,yz];simp;constructor
  ·rintro⟨i,hi,e⟩;exact⟨i,(o_ hp i).mpr hi,e⟩
  ·rintro⟨i,hi,e⟩;exact⟨i,(o_ hp i).mp hi,e⟩
theorem IT(hp:∀p∈js,p.1<n∧p.2<n):(((merge js n).map Int.ofNat).foldl dh []).length=classes js n:=by
 have nd:=yX ((merge js n).map Int.ofNat) [] (by simp);have hn:((leasts js n).map Int.ofNat).Nodup:=by rw[List.Nodup,uN];exact(AD js n).imp fun h=>by simp;lia
 have p:(((merge js n).map Int.ofNat).foldl dh []).Perm ((leasts js n).map Int.ofNat):=by
  rw[Kc nd hn];intro x;rw[yz];simp;constructor
  ·rintro⟨i,hi,e⟩;exact⟨i,(o_ hp i).mpr hi,e⟩
  ·rintro⟨i,hi,e⟩;exact⟨i,(o_ hp i).mp hi,e⟩
 rw[p.length_eq,bj];rfl
end Km
namespace Kn
open PySem PySem.Spec PyProof.Rows L2
open Kb (Cross Dia)
theorem vB:upd (upd H a o) a o'=upd H a o':=by
 funext b
 unfold upd;simp_all
def DS(CC:Addr):Sp:=fun vs H Q _=>∃(p dx:Addr)(y:Cross),vs=[.ref p, .int y.ui, .int y.uo, .int y.oi, .int y.oo, .int (sgn y.minus)]∧H p=some (.ins CC dx [])∧Q .a8 (upd H p (.ins CC dx (Aq y)))
def IY(CD:Addr):Sp:=fun vs H Q _=>∃(p dx l:Addr)(c:Nat),vs=[.ref p, .ref l, .int c]∧H p=some (.ins CD dx [])∧Q .a8 (upd H p (.ins CD dx (Aa l c)))
def Makes(P:Program)(w:World)(K:Fg)(mg:Mg)(base:Heap)(C:Addr)(ps:List Str)(sp:Sp):Prop:=∃f fd,Mk K C f∧gU P w K mg base g_ 1 f fd ps sp∧Binds K fd ps []
section
variable{K:Fg}(T:Txt K mg CC CD)
include T
theorem qc:Makes P w K mg base CC ["self","ui","uo","oi","oo","sign"] (DS CC):=by
 obtain⟨f,fd,F,m⟩:=T.iC;have b:=F.binds (ps:=["self","ui","uo","oi","oo","sign"]) fun _ _ _ _ _ _ us hl=>match us,hl with|[_,_,_,_,_,_],_=>rfl
 refine⟨f,fd,m,F.ok (xo (N:=["self","ui","uo","oi","oo","sign"])) (fun vs H Q E h=>?_) (fun bI A outer s H vs Q E hr h=>?_),b⟩
 ·obtain⟨p,dx,y,rfl,_⟩:=h;rfl
 ·obtain⟨p,dx,y,rfl,hp,k⟩:=h;refine⟨_,qh (oT (pv 0) (pv 1) rfl) (qh (oT (pv 0) (pv 2) rfl) (qh (oT (pv 0) (pv 3) rfl) (qh (oT (pv 0) (pv 4) rfl) (Gi (oT (pv 0) (pv 5) rfl))))),?_⟩;refine⟨_,rfl,_,rfl,p,CC,dx,[],rfl,hp,T.kO,T.E_,(by decide),?_⟩;refine⟨_,rfl,_,rfl,p,CC,dx,_,rfl,aE,T.kO,T.FL,(by show 1<1000;decide),?_⟩;refine⟨_,rfl,_,rfl,p,CC,dx,_,rfl,aE,T.kO,T.EA,(by show 2<1000;decide),?_⟩;refine⟨_,rfl,_,rfl,p,CC,dx,_,rfl,aE,T.kO,T.Fm,(by show 3<1000;decide),?_⟩;refine⟨_,rfl,_,rfl,p,CC,dx,_,rfl,aE,T.kO,T.FZ,(by show 4<1000;decide),?_⟩;show Q .a8 _;simp only[vB];exact k
theorem pL:Makes P w K mg base CD ["self","crossings","circles"] (IY CD):=by
 obtain⟨f,fd,F,m⟩:=T.iD;have b:=F.binds (ps:=["self","crossings","circles"]) fun _ _ _ _ _ _ us hl=>match us,hl with|[_,_,_],_=>rfl
 refine⟨f,fd,m,F.ok (xo (N:=["self","crossings","circles"])) (fun vs H Q E h=>?_) (fun bI A outer s H vs Q E hr h=>?_),b⟩
 ·obtain⟨p,dx,l,c,rfl,_⟩:=h;rfl
 ·obtain⟨p,dx,l,c,rfl,hp,k⟩:=h;refine⟨_,qh (oT (pv 0) (pv 1) rfl) (Gi (oT (pv 0) (pv 2) rfl)),?_⟩;refine⟨_,rfl,_,rfl,p,CD,dx,[],rfl,hp,T.wJ,T.Jb,(by show 0<1000;decide),?_⟩;refine⟨_,rfl,_,rfl,p,CD,dx,_,rfl,aE,T.wJ,T.Jq,(by show 1<1000;decide),?_⟩;show Q .a8 _;simp only[vB];exact k
end
section
variable{α β γ:Type}{X:Cx}{σ:aS}{H H1:Hp}{a b c d e:Expr}{pos p:Pos}{CC CD:Addr}
abbrev MG:ck (Nat×Nat×Nat×Nat×Int×Unit):=aO aa (aO aa (aO aa (aO aa (aO aq bu))))
theorem qz(M:Makes X.prog X.w X.K X.mg X.base CC ["self","ui","uo","oi","oo","sign"] (DS CC))(T:Txt X.K X.mg CC CD)(hr:bM m X.A)(ha:XA X σ H (e::es) MG (y.ui,y.uo,y.oi,y.oo,sgn y.minus,()))(hk:2≤m:=by decide)(hg:Gl X "Crossing":=by rfl)(he:SE X e es:=by rfl)(bo:NS X pos es:=by rfl):XE X σ H (.Call (.Name "Crossing" p) (e::es) [] pos) (a6 CC) y:=fun H1 s Q k=>by
 obtain⟨f,fd,mk,F,bi⟩:=M;refine PE.we (I0 mk F (hr.mono hk) hg T.mC bi .nil xn fH (by decide) he bo) (ha H1 s _ fun vs G H2 fw rv=>?_);obtain⟨v0,_,rfl,h0,v1,_,rfl,h1,v2,_,rfl,h2,v3,_,rfl,h3,v4,_,rfl,h4,rfl⟩:=rv;cases h0;cases h1;cases h2;cases h3;cases h4;intro x dx hx hdx ne;refine⟨x,dx,y,rfl,aE,rfl,?_⟩;rw[vB];have f1:=fw.new hdx (.own x);have jU:upd H2 dx (.own x) x= .none:=by rw[aB (fun q=>ne q.symm)];exact hx
 exact k _ _ _ (f1.tU jU _) ⟨x,dx,rfl,aE⟩
theorem oW(M:Makes X.prog X.w X.K X.mg X.base CD ["self","crossings","circles"] (IY CD))(T:Txt X.K X.mg CC CD)(hr:bM m X.A)(ha:XE X σ H a (ah (a6 CC)) xs)(hb:XE X σ H b aa n)(hk:2≤m:=by decide)(hg:Gl X "Drawing":=by rfl)(hs:SE X a [b]:=by rfl)(bL:SE X b []:=by rfl)(bo:NS X pos [b]:=by rfl):XE X σ H (.Call (.Name "Drawing" p) [a,b] [] pos) (aA CC CD) ⟨xs,n⟩:=fun H1 s Q k=>by
 obtain⟨f,fd,mk,F,bi⟩:=M;refine PE.we (I0 mk F (hr.mono hk) hg T.mD bi .nil xn fH (by decide) hs bo) ((aF ha (az hb bL) hs) H1 s _ fun vs G H2 fw rv=>?_);obtain⟨v0,_,rfl,⟨l,us,rfl,hl,pr⟩,v1,_,rfl,h1,rfl⟩:=rv;cases h1;intro x dx hx hdx ne;refine⟨x,dx,l,n,rfl,aE,rfl,?_⟩;rw[vB];have f1:=fw.new hdx (.own x);have jU:upd H2 dx (.own x) x= .none:=by rw[aB (fun q=>ne q.symm)];exact hx
 have sm:aj G (upd G x (.ins CD dx (Aa l n))):=aj.df (fw.fI hx);exact k _ _ _ (f1.tU jU _) ⟨x,dx,l,us,rfl,aE,sm _ _ hl,pr.imp fun _ _=>(a6 CC).mono sm⟩
theorem fF(h:XE X σ H a aq z):XE X σ H (.UnaryOp .USub a pos) aq (-z):=fun H1 s Q k=>
 PE.we (Nw Ox aJ) (h H1 s _ fun v G H2 f rv=>⟨z,rv,k _ G H2 f rfl⟩)
end
section
variable{K:Fg}(T:Txt K mg CC CD)
def cH(d:Dia):Prop:=∀y∈d.x,y.ui<d.arcs∧y.uo<d.arcs∧y.oi<d.arcs∧y.oo<d.arcs
include T
theorem gi:Def P w K mg base 1 "count_arcs" ["drawing"] (Fn (aO (aA CC CD) bu) aa (fun _=>True) fun c=>c.1.arcs):=by refine T.hs.Nj.mk ["drawing"] (fun nd H1 vs Q E hr h=>?_);refine DX h fun H d v0 s1 h0 hp k=>?_;refine a7 (XE.nat (jJ (.inl ⟨by decide,by decide⟩) ax (cN T.len (bK T (xv 0 h0)))) (by show(2:Int)*(d.x.length:Int)=((2*d.x.length:Nat):Int);rfl)) s1 k
theorem Dj:Def P w K mg base 1 "signed" ["crossing"] (Fn (aO (a6 CC) bu) aq (fun _=>True) fun c=>c.1.sign):=by
 refine T.hs.signed.mk ["crossing"] (fun nd H1 vs Q E hr h=>?_);refine DX h fun H y v0 s1 h0 hp k=>?_;refine a7 (jh (dB (g7 T (xv 0 h0)) ax) (fun q=>?_) fun q=>?_) s1 k
 ·have e:y.minus=true:=by
   cases z:y.minus
   ·rw[show sgn y.minus=0 by rw[z];rfl]at q;simp at q
   ·rfl
  have e':(y,()).1.sign=-1:=by unfold Cross.sign;rw[ag e]
  show XE _ _ _ _ _ y.sign;rw[show y.sign=-1 from e'];exact fF ax
 ·have e:y.minus=false:=by
   cases z:y.minus
   ·rfl
   ·rw[show sgn y.minus=1 by rw[z];rfl]at q;simp at q
  show XE _ _ _ _ _ y.sign;rw[show y.sign=1 by unfold Cross.sign;rw[e];rfl];exact ax
theorem Lw:Def P w K mg base 1 "row_from" ["crossings"] (Fn (aO (ah (a6 CC)) bu) (ah aq) (fun c=>c.1.length≤16) fun c=>c.1.flatMap fun y=>[(y.ui:Int),y.uo,y.oi,y.oo,sgn y.minus]):=by
 refine T.hs.X1.mk ["crossings","row","crossing"] (fun nd H1 vs Q E hr h=>?_);refine DX h fun H xs v0 s1 h0 hp k=>?_;have eC:(xs.flatMap fun y:Cross=>[(y.ui:Int),y.uo,y.oi,y.oo,sgn y.minus]).length=5*xs.length:=by
  clear hp k h0;induction xs with
  |nil=>rfl
  |cons y ys ih=>rw[dY,cZ,ih];simp;lia
 refine iN (i:=1) (R:=aq) nd (a5 aZ) (au.cf s1) fun l G H2 sg f2 o2=>?_;refine nM (R:=aq) (fun y:Cross=>[(y.ui:Int),y.uo,y.oi,y.oo,sgn y.minus]) rfl (bT (k:=2) nd) (du (xv 0 ((ah (a6 CC)).mono sg h0))) kq f2 o2 ?_ ?_
 ·rintro y G' H3 σ' bU hy sG f3 o3 ⟨v,rv,rfl⟩ hl D' kk;refine nD (i:=1) rfl f3 o3 (a5 (aV (XE.int (eN T (xv 2 rv))) (aV (XE.int (fP T (xv 2 rv))) (aV (XE.int (eh T (xv 2 rv))) (aV (XE.int (fJ T (xv 2 rv))) (aV (g7 T (xv 2 rv)) aZ)))))).xe ?_ fun G2 H4 s4 f4 o4=>bp (kk G2 H4 s4 f4 o4);rw[eI,eC]at hl;have:xs.length≤16:=hp;simp at hl⊢
  lia
 ·intro σ' G' H3 sG f3 o3 hσ;obtain⟨G4,s4,f4,r4⟩:=o3.known f3;exact gD (hσ 1 (by decide)) (k _ G4 H3 f4 r4)
theorem vS:Def P w K mg base 1 "pairs_straight" ["crossings"] (tQ (aO (ah (a6 CC)) bu) (dF aa aa) (fun c=>c.1.length≤16) fun c=>c.1.flatMap Cross.straight):=by
 refine T.hs.Ss.mk ["crossings","pairs","crossing"] (fun nd H1 vs Q E hr h=>?_);refine DX h fun H xs v0 s1 h0 hp k=>?_;have eC:(xs.flatMap Cross.straight).length=2*xs.length:=by
  clear hp k h0;induction xs with
  |nil=>rfl
  |cons y ys ih=>rw[dY,cZ,ih];simp[Cross.straight];lia
 refine iN (i:=1) (R:=dF aa aa) nd (a5 aZ) (au.cf s1) fun l G H2 sg f2 o2=>?_;refine nM Cross.straight rfl (bT (k:=2) nd) (du (xv 0 ((ah (a6 CC)).mono sg h0))) kq f2 o2 ?_ ?_
 ·rintro y G' H3 σ' bU hy sG f3 o3 ⟨v,rv,rfl⟩ hl D' kk;refine nD (i:=1) rfl f3 o3 (a5 (aV (jd (eN T (xv 2 rv)) (fP T (xv 2 rv))) (aV (jd (eh T (xv 2 rv)) (fJ T (xv 2 rv))) aZ))).xe ?_ fun G2 H4 s4 f4 o4=>bp (kk G2 H4 s4 f4 o4);rw[eI,eC]at hl;have:xs.length≤16:=hp;simp at hl⊢
  lia
 ·intro σ' G' H3 sG f3 o3 hσ;exact NG (hσ 1 (by decide)) f3 o3 fun us a b c d e=>k l us G' H3 a b c d e
end
section
variable{α β γ δ:Type}{X:Cx}{σ:aS}{H H1 H2 G:Hp}{e o a b c:Expr}{R:Rp α}{S:Rp β}{r:α}{pos p:Pos}{D:Ends}{rest:List Stmt}{x:Str}{i:Nat}{CC CD:Addr}
theorem XE.sg(h:XE X σ H e aq z)(q:z=sgn m):XE X σ H e EZ m:=by subst q;exact h
theorem PJ{p q:Bool}(ha:XT X σ H a p)(hb:p=true→XT X σ H b q):XT X σ H (.BoolOp .And [a,b] pos) (p&&q):=fun H1 s Q k=>
 PT.wt (PW.pt (PM iK (Tg iK))) (ha H1 s _ fun G H2 f=>by
  cases p with
  |false=>exact lM (k G H2 f)
  |true=>exact mh (((hb rfl).mono f.hg) H2 f.g2 _ fun G' H3 f'=>k G' H3 (f.trans f')))
theorem pZ{p q:Bool}(ha:XT X σ H a p)(hb:p=false→XT X σ H b q):XT X σ H (.BoolOp .Or [a,b] pos) (p||q):=fun H1 s Q k=>
 PT.wt (PW.pt (yt iK (Jr iK))) (ha H1 s _ fun G H2 f=>by
  cases p with
  |true=>exact mh (k G H2 f)
  |false=>exact lM (((hb rfl).mono f.hg) H2 f.g2 _ fun G' H3 f'=>k G' H3 (f.trans f')))
theorem yo{p q r:Bool}(ha:XT X σ H a p)(hb:p=false→XT X σ H b q)(hc:p=false→q=false→XT X σ H c r):XT X σ H (.BoolOp .Or [a,b,c] pos) (p||q||r):=fun H1 s Q k=>
 PT.wt (PW.pt (yt iK (yt iK (Jr iK)))) (ha H1 s _ fun G H2 f=>by
  cases p with
  |true=>exact mh (k G H2 f)
  |false=>
   refine lM (((hb rfl).mono f.hg) H2 f.g2 _ fun G' H3 f'=>?_);cases q with
   |true=>exact mh (k G' H3 (f.trans f'))
   |false=>exact lM (((hc rfl rfl).mono (f.hg.trans f'.hg)) H3 f'.g2 _ fun jV H4 lr=>k jV H4 ((f.trans f').trans lr)))
theorem pC(ha:XE X σ H a (lK R) y):XT X σ H (.Compare a [.Is] [.Constant .none j pos'] pos) y.isNone:=fun H1 s Q k=>
 PT.wt (DZ (XY aJ)) (ha H1 s _ fun v G H2 f rv=>by
  refine⟨_,rfl,?_⟩;cases y with
  |none=>cases (rv);grind
  |some z=>rw[cU rv.1];exact k G H2 f)
theorem AL(ho:XE X σ H o (ah aa) xs)(he:XE X σ H e aa y)(hj:xs.findIdx? (fun z=>z==y)=some j)(dW:AB X o "index":=by rfl)(gK:((backTo cp (starEach [e] X.env)).all (fun x=>!x.1)&&(backToKw cp (keywordEach [] X.env)).all (fun x=>x.1.isSome)
   &&decide (([e]:List Expr).length+([]:List Keyword).length+(if([]:List Keyword).isEmpty then 0 else 1)<30))=true:=by rfl)(dX:(ap.endLine==cp.line)=true:=by rfl)(dj:SE X e []:=by rfl):
  XE X σ H (.Call (.Attribute o "index" ap) [e] [] cp) aa j:=fun H1 s Q k=>
 PE.we (sf xZ Yl PySem.F.type_list_index KZ aJ (fm aJ fG dj) dW gK dX dj rfl) (ho H1 s _ fun v G H2 f rv=>by
  obtain⟨l,rfl,hl⟩:=ma (tP.mp rv);refine⟨.inl ⟨rfl,_,aU.of (f.g2 _ _ hl)⟩,(he.mono f.hg) H2 f.g2 _ fun w G' H3 f' bA=>?_⟩;cases bA;rw[rK]at hj;obtain⟨bw,h1,h2⟩:=hj;have e1:xs[j]=y:=by simpa using h1
  refine⟨l,_,_,j, .int y,rfl,rfl,aU.of (f'.h2 _ _ (f.g2 _ _ hl)),rfl,by simp[gZ],by simp[bw,e1],by simp[i9],fun m z' hm hz=>?_,k _ G' H3 (f.trans f') rfl⟩;have h3:=h2 m hm;rw[cz,cz,bq (by lia)]at hz;cases eE hz;simp only[i9,uO,iT,ne_eq];intro q;simp at h3;exact h3 (by lia))
theorem DT(ho:XE X σ H o (ah aa) xs)(he:XE X σ H e aa y)(dW:AB X o "count":=by rfl)(gK:((backTo cp (starEach [e] X.env)).all (fun x=>!x.1)&&(backToKw cp (keywordEach [] X.env)).all (fun x=>x.1.isSome)
   &&decide (([e]:List Expr).length+([]:List Keyword).length+(if([]:List Keyword).isEmpty then 0 else 1)<30))=true:=by rfl)(dX:(ap.endLine==cp.line)=true:=by rfl)(dj:SE X e []:=by rfl):
  XE X σ H (.Call (.Attribute o "count" ap) [e] [] cp) aa (xs.count y):=fun H1 s Q k=>
 PE.we (sf xZ PySem.F.slot_list_count PySem.F.type_list_count KS.TL aJ (fm aJ fG dj) dW gK dX dj rfl) (ho H1 s _ fun v G H2 f rv=>by
  obtain⟨l,rfl,hl⟩:=ma (tP.mp rv);refine⟨.inl ⟨rfl,_,aU.of (f.g2 _ _ hl)⟩,(he.mono f.hg) H2 f.g2 _ fun w G' H3 f' bA=>?_⟩;cases bA;refine⟨l,_,_,rfl,rfl,aU.of (f'.h2 _ _ (f.g2 _ _ hl)),k _ G' H3 (f.trans f') ?_⟩;congr 2;clear hl rv ho k;induction xs with
  |nil=>rfl
  |cons z xs ih=>
   rw[a9,Kd,Kd,ih];congr 1;by_cases q:z=y
   ·simp[*]
   ·have q':¬z=(y:Int):=by lia
    simp[q,q'])
theorem DC(ha:XE X σ H a aa y)(hb:XE X σ H b (ah aa) xs)(hm:behindInMarks .NotIn b=false:=by rfl):XT X σ H (.Compare a [.NotIn] [b] pos) (!xs.contains y):=fun H1 s Q k=>
 PT.wt (sN QW aJ aJ hm) (x2 ha hb s fun v w G H2 f rv bA=>by
  cases rv;obtain⟨l,rfl,hl⟩:=ma (tP.mp bA);refine⟨l,_,rfl, .inl (aU.of (f.g2 _ _ hl)),rfl,by simp[gZ],_,rfl,?_⟩;have e:wz (V.int y) ((xs.map Int.ofNat).map V.int)=xs.contains y:=by
   unfold wz;clear hl bA hb k;induction xs with
   |nil=>rfl
   |cons z xs ih=>
    rw[a9,a9,rg,ih,BI];congr 1;show(Int.ofNat z==y)=(y==z)
    lia
  simp only[dR,e];exact k G H2 f)
def nE(lo c:Int)(n:Nat):List Int:=(range n).map fun i=>lo+(i:Nat)*c
theorem B5(hm:X.mg "range"=none)(ha:XE X σ H a aq y)(hb:XE X σ H b aq z)(hc:XE X σ H c aq k)(hr:z9 y z k n)(hg:Gl X "range":=by rfl)(hs:starEach [a,b,c] X.env=(false,eval a X.env)::starEach [b,c] X.env:=by rfl)(bL:SE X b [c]:=by rfl)(hs'':SE X c []:=by rfl)(bo:(backTo pos' (starEach [b,c] X.env)).any (·.1)=false:=by rfl):
  XI X σ H tg (.Call (.Name "range" p') [a,b,c] [] pos') (iA t) (nE y k n) (B1 t aq):=
 ⟨_,Pf hg hm fH hs bo,fun H1 s Q q=>(aF ha (aF hb (az hc hs'') bL) hs) H1 s _ fun vs G H2 f hh=>by
  obtain⟨v,r,e1,e2,w,r',e3,e4,u,r'',e5,e6,e7⟩:=hh;cases e7;cases e2;cases e4;cases e6;subst e5;subst e3;refine⟨y,z,k,n,e1,hr,q _ G H2 f fun i H' sg=>⟨fun hi=>by show n≤i;simpa[nE]using hi,fun c hc=>?_⟩⟩;unfold nE at hc;rw[cz]at hc;by_cases q:i<n
  ·rw[oy q]at hc;have h2:=(eE hc).symm;refine⟨q,fun x bV⟨e1,e2⟩=>?_⟩;subst e1 e2 h2;exact⟨G,au.cf sg,fun σ Q q=>q _ ⟨_,rfl,rfl⟩⟩
  ·rw[lB (by simpa using q)]at hc;cases hc⟩
section
variable(T:Txt X.K X.mg CC CD)
include T
theorem EX(hc:X.calm=true)(h:XE X σ H e (ah aq) ns)(hv:bootBuiltins "sum"=some (.builtin "sum"):=by decide+kernel)(hg:Gl X "sum":=by rfl)(hs:SE X e []:=by rfl):XE X σ H (.Call (.Name "sum" p) [e] [] pos) aq ns.sum:=
 nN (Ou hc) T.sum hv (az h hs) (fun vs G H2 Q hh s k=>by obtain⟨v,r,e1,h1,h2⟩:=hh;obtain⟨a,rfl,ha⟩:=ma h1;cases h2;subst e1;exact⟨a,ns,rfl,aU.of (s _ _ ha),k _ rfl⟩) hg (by decide) (by decide) hs rfl
theorem wI(hc:X.calm=true)(h:XE X σ H e (ah aq) ns)(h1:m∈ns)(h2:∀y∈ns,y≤m)(hv:bootBuiltins "max"=some (.builtin "max"):=by decide+kernel)(hg:Gl X "max":=by rfl)(hs:SE X e []:=by rfl):XE X σ H (.Call (.Name "max" p) [e] [] pos) aq m:=
 nN (Uc hc) T.max hv (az h hs) (fun vs G H2 Q hh s k=>by
  obtain⟨v,r,e1,h1',nW⟩:=hh;obtain⟨a,rfl,ha⟩:=ma h1';cases nW;subst e1;refine⟨a,ns,rfl,aU.of (s _ _ ha),Ke h1,fun m' q1 q2=>k _ ?_⟩;have:m'=m:=by have:=h2 m' q1;have:=q2 m h1;lia
  rw[this];rfl) hg (by decide) (by decide) hs rfl
theorem A_(hc:X.calm=true)(h:XE X σ H e (ah aq) ns)(h1:m∈ns)(h2:∀y∈ns,m≤y)(hv:bootBuiltins "min"=some (.builtin "min"):=by decide+kernel)(hg:Gl X "min":=by rfl)(hs:SE X e []:=by rfl):XE X σ H (.Call (.Name "min" p) [e] [] pos) aq m:=
 nN (Sx hc) T.min hv (az h hs) (fun vs G H2 Q hh s k=>by
  obtain⟨v,r,e1,h1',nW⟩:=hh;obtain⟨a,rfl,ha⟩:=ma h1';cases nW;subst e1;refine⟨a,ns,rfl,aU.of (s _ _ ha),Ke h1,fun m' q1 q2=>k _ ?_⟩;have:m'=m:=by have:=h2 m' q1;have:=q2 m h1;lia
  rw[this];rfl) hg (by decide) (by decide) hs rfl
theorem C6(hc:X.calm=true)(h:XE X σ H e (ah cG) bs)(hv:bootBuiltins "all"=some (.builtin "all"):=by decide+kernel)(hg:Gl X "all":=by rfl)(hs:SE X e []:=by rfl):XE X σ H (.Call (.Name "all" p) [e] [] pos) cG (bs.all id):=
 nN (Xy hc) T.all hv (az h hs) (fun vs G H2 Q hh s k=>by obtain⟨v,r,e1,⟨a,us,ea,ha,pr⟩,h2⟩:=hh;have q:us=bs.map V.bl:=pr.tE;cases h2;subst ea e1;exact⟨a,bs,rfl,aU.of (by rw[←q];exact s _ _ ha),k _ rfl⟩) hg (by decide) (by decide) hs rfl
end
def WO(X:Cx)(e:Option Expr):TO:=fun σ H Q=>∀(pins:YW)(s:Shared),Inv X pins σ H s→wpAny (model X.prog X.w) X.A (evalPart e X.env) (fun u s'=>∃o H',Inv X pins σ H' s'∧IsPart u o∧Q o H') X.xe s
theorem xE{e:Option Expr}:PO X e (WO X e):=fun pins s _ _ _ I h=>h pins s I
def XO(X:Cx)(σ:aS)(H:Hp)(e:Option Expr)(z:Option Int):Prop:=∀H1,aj H H1→∀Q:Option Int→Hp→Prop,(∀G H2,au H H1 G H2→Q z H2)→WO X e σ H1 Q
theorem lQ:XO X σ H none none:=fun H1 s Q k pins s' I=>M8 pins s' σ H1 Q I (k H H1 (au.cf s))
theorem iL(h:XE X σ H e aq z):XO X σ H (some e) (some z):=fun H1 s Q k pins s' I=>Lc aJ pins s' σ H1 Q I (h H1 s _ fun v G H2 f rv=>⟨z,rv,k G H2 f⟩)
theorem XO.mono{e:Option Expr}(h:XO X σ H e z)(s:aj H H'):XO X σ H' e z:=fun H1 s1 Q k=>h H1 (s.trans s1) Q fun G H2 f=>by obtain⟨G',sg,f'⟩:=au.wide s s1 f;exact k G' H2 f'
def gT{α:Type}(xs:List α)(lo hi:Option Int):List α:=(xs.drop (HT.dU xs.length 0 lo)).take (HT.dU xs.length xs.length hi-HT.dU xs.length 0 lo)
theorem kl{lo hi:Option Expr}(h:XE X σ H e (ah R) xs)(hl:XO X σ H lo zl)(hh:XO X σ H hi zh):XN X σ H (.Subscript e (.Slice lo hi none p2) pos) R (gT xs zl zh):=fun H1 s Q k=>
 PE.we (Gd FC aJ xE xE) (h H1 s _ fun v G H2 f⟨a,us,ev,ha,pr⟩=>(hl.mono f.hg) H2 f.g2 _ fun G' H3 f'=>(hh.mono (f.hg.trans f'.hg)) H3 f'.g2 _ fun jV H4 lr=>by subst ev;have ff:=(f.trans f').trans lr;refine⟨a,us,rfl,aU.of (lr.h2 _ _ (f'.h2 _ _ (f.g2 _ _ ha))),fun l cb=>k l _ jV _ (ff.new cb _) (ff.bX cb) (ff.fI cb) aE ?_⟩;have e1:=pr.len;unfold oO gT;rw[e1];exact((pr.imp fun _ _=>R.mono (f'.hg.trans lr.hg)).drop _).take _)
end
theorem jK{f:α→List β}(h:∀a,(f a).length=n):∀xs:List α,(xs.flatMap f).length=n*xs.length
 |[]=>by simp
 |x::xs=>by rw[dY,cZ,h,jK h xs,bZ,x6,Nat.mul_one];lia
def Sm(d:Dia):Prop:=d.x.length≤16
theorem qL(h:cH d):gG.ok d.arcs d.through:=by
 intro p hp;obtain⟨y,hy,hp⟩:=bR.mp hp;obtain⟨a,b,c,e⟩:=h y hy;simp only[Cross.straight,a_,cA,cV]at hp;rcases hp with rfl|rfl
 ·exact⟨a,b⟩
 ·exact⟨c,e⟩
theorem US(h:cH d):gG.ok d.arcs (d.x.flatMap Cross.along):=by
 intro p hp;obtain⟨y,hy,hp⟩:=bR.mp hp;obtain⟨a,b,c,e⟩:=h y hy;simp only[Cross.along,a_,cA,cV]at hp;rcases hp with rfl|rfl
 ·exact⟨a,e⟩
 ·exact⟨c,b⟩
theorem Xf(h:cH d)(st:Nat):gG.ok d.arcs (d.x.zipIdx.flatMap fun(y:Cross×Nat)=>y.1.opened (st.testBit y.2)):=by intro p hp;obtain⟨y,hy,hp⟩:=bR.mp hp;obtain⟨a,b,c,e⟩:=h y.1 (Kf hy);simp only[Cross.opened]at hp;split at hp<;>simp only[Cross.along,Cross.over,a_,cA,cV]at hp<;>rcases hp with rfl|rfl<;>exact⟨by assumption,by assumption⟩
theorem Jk(h:cH d):gG.ok d.arcs (d.through++d.x.flatMap fun y=>[(y.ui,y.oi)]):=by
 intro p hp;rcases cE.mp hp with hp|hp
 ·exact qL h p hp
 ·obtain⟨y,hy,hp⟩:=bR.mp hp;obtain⟨a,b,c,e⟩:=h y hy;simp only[a_,cA,cV]at hp;subst hp;exact⟨a,c⟩
section
variable{K:Fg}(T:Txt K mg CC CD)
abbrev fu(CC CD:Addr):ck (Dia×Unit):=aO (aA CC CD) bu
include T
theorem xu:Def P w K mg base 2 "count_groups" ["size","pairs"] (Fn (aO aa (aO kg bu)) aa (fun c=>c.1≤1000∧gG.ok c.1 c.2.1) fun c=>Kb.classes c.2.1 c.1):=by
 refine T.hs.Xg.mk ["size","pairs"] (fun nd H1 vs Q E hr h=>?_);refine JS h fun H n ps v0 v1 s1 h0 h1 hh k=>?_;obtain⟨hn,hp⟩:=hh;have hm:(merge ps n).length=n:=by rw[rY,vT,gR]
 refine a7 (XE.nat (Cb T rfl (XE.mq (aK (v_ T) hr ⟨hn,hp⟩ (aF (xv 0 h0) (az (xv 1 h1))))) ?_) (congrArg Nat.cast (Km.IT hp))) s1 k;show((merge ps n).map Int.ofNat).length<4000;rw[bj,hm];have:n≤1000:=hn
 lia
theorem Hm:Def P w K mg base 2 "first_arcs" ["drawing"] (Fn (fu CC CD) (ah aa) (fun c=>Sm c.1∧cH c.1) fun c=>leasts c.1.through c.1.arcs):=by
 refine T.hs.L9.mk ["drawing"] (fun nd H1 vs Q E hr h=>?_);refine DX h fun H d v0 s1 h0 hh k=>?_;obtain⟨hs,hp⟩:=hh;have hs:d.x.length≤16:=hs;have hn:d.arcs≤1000:=by unfold Dia.arcs;lia
 have hm:(merge d.through d.arcs).length=d.arcs:=by rw[rY,vT,gR]
 have hl:((merge d.through d.arcs).map Int.ofNat).length<40:=by rw[bj,hm];unfold Dia.arcs;lia
 refine a7 (XE.Jc (XN.xe (Gq T rfl (XE.mq (aK (v_ T) hr ⟨hn,qL hp⟩ (aF (aK (gi T) hr trivial (az (xv 0 h0))) (az (XN.xe (vZ (vS T) hr hs (az (bK T (xv 0 h0))))))))) (rE hl (by decide)) ?_ fun m h1 h2=>Km.yw (qL hp) h1 h2))) s1 k;have:=KS.xq ((merge d.through d.arcs).map Int.ofNat) [];show(((merge d.through d.arcs).map Int.ofNat).foldl KS.dh []).length<64;simp only[iW,Yh]at this
 lia
theorem FH:Def P w K mg base 3 "strands_by_arc" ["drawing"] (Fn (fu CC CD) (ah aa) (fun c=>Sm c.1∧cH c.1) fun c=>(range c.1.arcs).map c.1.strandOf):=by
 refine T.hs.Wf.mk Dy (fun nd H1 vs Q E hr h=>?_);refine DX h fun H d v0 s1 h0 hh k=>?_;obtain⟨hs,hp⟩:=hh;have bL:d.x.length≤16:=hs;have hn:d.arcs≤1000:=by unfold Dia.arcs;lia
 have M:=Km.qH (qL hp);have hm:(merge d.through d.arcs).length=d.arcs:=M.len;refine br (i:=1) nd (aK (v_ T) hr ⟨hn,qL hp⟩ (aF (aK (gi T) hr trivial (az (xv 0 h0))) (az (XN.xe (vZ (vS T) hr bL (az (bK T (xv 0 h0)))))))) s1 fun v1 G1 H2 f1 r1=>?_;refine br (i:=2) nd (aK (Hm T) hr ⟨hs,hp⟩ (az (xv 0 ((aA CC CD).mono f1.hg h0)))) f1.g2 fun v2 G2 H3 f2 r2=>?_;refine a7 (XE.cast (XN.xe (gh (own:=[("arc",3)]) (fun a=>((leasts d.through d.arcs).findIdx? fun r=>r==a).getD 0) rfl nd (du (xv 1 ((ah aa).mono f2.hg r1))) (cK (by show cu Dy (bE FT) _ _=true;decide)) (fun _ _ _ _ _=>bT (k:=3) nd) (dS (by decide)) (by show(merge d.through d.arcs).length≤30000;rw[hm];lia) ?_)) ?_) (f1.trans f2).g2 fun y G3 H4 f3 ry=>k y G3 H4 ((f1.trans f2).trans f3) ry
 ·rintro a G3 _ ha sg ⟨va,ra,rfl⟩ s0 H0 C cl fp;have hq:a∈leasts d.through d.arcs:=(Km.o_ (qL hp) a).mpr ha;cases q:(leasts d.through d.arcs).findIdx? fun r=>r==a with
  |none=>rw[J0]at q;have:=q a hq;simp at this
  |some j=>exact AL (xv 2 ((ah aa).mono sg r2)) (xv 3 ra) q
 ·show(merge d.through d.arcs).map _=_;apply j8;intro i;rw[cz,cz];by_cases hi:i<d.arcs
  ·rw[oy hi,getD_at (by rw[hm];exact hi)];rfl
  ·rw[lB (by rw[hm];lia),lB (by simpa using hi)];rfl
end
end Kn
namespace Km
open Kb
inductive Cn(js:List (Nat×Nat)):Nat→Nat→Prop
 |rfl (i:Nat):Cn js i i
 |pair {p:Nat×Nat}:p∈js→Cn js p.1 p.2
 |symm {i j:Nat}:Cn js i j→Cn js j i
 |trans {i j k:Nat}:Cn js i j→Cn js j k→Cn js i k
theorem Cn.const{f:Nat→Nat}(h:∀p∈js,f p.1=f p.2)(c:Cn js i j):f i=f j:=by
 induction c with
 |rfl i=>rfl
 |pair m=>exact h _ m
 |symm _ ih=>exact ih.symm
 |trans _ _ a b=>exact a.trans b
theorem qa(h:i<l.length):(c_ l p).getD i 0=if l.getD i 0=l.getD p.1 0∨l.getD i 0=l.getD p.2 0 then min (l.getD p.1 0) (l.getD p.2 0)else l.getD i 0:=getD_map h
theorem Vi(h:Mg l n)(hc:∀i,i<n→Cn J (l.getD i 0) i)(hp:p∈J)(h1:p.1<n)(h2:p.2<n):∀i,i<n→Cn J ((c_ l p).getD i 0) i:=by
 intro i hi;rw[qa (by rw[h.len];exact hi)];have ci:=hc i hi;have c1:=hc p.1 h1;have c2:=hc p.2 h2;have c12:Cn J (l.getD p.1 0) (l.getD p.2 0):=(c1.trans (.pair hp)).trans c2.symm;split
 ·rename_i q;have:min (l.getD p.1 0) (l.getD p.2 0)=l.getD p.1 0∨min (l.getD p.1 0) (l.getD p.2 0)=l.getD p.2 0:=by lia
  rcases this with e|e<;>rw[e]<;>rcases q with q|q
  ·lia
  ·refine c12.trans ?_;rw[←q];exact ci
  ·refine c12.symm.trans ?_;rw[←q];exact ci
  ·lia
 ·omega
theorem DB(J:List (Nat×Nat))(hJ:∀p∈J,p.1<n∧p.2<n):∀(js:List (Nat×Nat))(l:List Nat),(∀p∈js,p∈J)→Mg l n→(∀i,i<n→Cn J (l.getD i 0) i)→∀i,i<n→Cn J ((js.foldl c_ l).getD i 0) i
 |[],l,_,_,hc=>hc
 |p::js,l,hs,h,hc=>DB J hJ js (c_ l p) (fun q hq=>hs q (bW _ hq)) (za h (hJ p (hs p (by simp))).1 (hJ p (hs p (by simp))).2) (Vi h hc (hs p (by simp)) (hJ p (hs p (by simp))).1 (hJ p (hs p (by simp))).2)
theorem alike(ha:a<n)(hb:b<n):∀(js:List (Nat×Nat))(l:List Nat),l.length=n→l.getD a 0=l.getD b 0→(js.foldl c_ l).getD a 0=(js.foldl c_ l).getD b 0
 |[],l,_,e=>e
 |p::js,l,hl,e=>alike ha hb js (c_ l p) (by unfold c_;rw[bj];exact hl) (by rw[qa (by simp_all),qa (by simp_all),e])
theorem FN:∀(js:List (Nat×Nat))(l:List Nat),(∀p∈js,p.1<n∧p.2<n)→l.length=n→∀p∈js,(js.foldl c_ l).getD p.1 0=(js.foldl c_ l).getD p.2 0
 |[],l,_,_,p,hp=>by simp at hp
 |q::js,l,hj,hl,p,hp=>by
  have cb:(c_ l q).length=n:=by unfold c_;rw[bj];exact hl
  rcases a_.mp hp with e|hp
  ·subst e;refine alike (hj p (by simp)).1 (hj p (by simp)).2 js (c_ l p) cb ?_;have:=hj p (by simp);rw[qa (by simp_all),qa (by simp_all),ag (.inl rfl),ag (.inr rfl)]
  ·exact FN js (c_ l q) (fun r hr=>hj r (bW _ hr)) cb p hp
structure zB(js:List (Nat×Nat))(n:Nat)(t:List Nat):Prop where
 mg:Mg t n
 cn:∀i,i<n→Cn js (t.getD i 0) i
 con:∀p∈js,t.getD p.1 0=t.getD p.2 0
theorem Jt(hp:∀p∈js,p.1<n∧p.2<n):zB js n (merge js n):=by refine⟨qH hp,DB js hp js _ (fun _ h=>h) (zW n) (fun i hi=>?_),FN js _ hp gR⟩;rw[bC,oy hi];exact .rfl i
theorem RS(a:zB js n t)(b:zB js' n t')(h1:∀p∈js,Cn js' p.1 p.2)(h2:∀p∈js',Cn js p.1 p.2):t=t':=by
 have lift:∀{A B:List (Nat×Nat)},(∀p∈A,Cn B p.1 p.2)→∀{i j},Cn A i j→Cn B i j:=by
  intro A B h i j c;induction c with
  |rfl i=>exact .rfl i
  |pair m=>exact h _ m
  |symm _ ih=>exact .symm ih
  |trans _ _ x y=>exact .trans x y
 have e:∀i,i<n→t.getD i 0=t'.getD i 0:=fun i hi=>by
  have c1:t'.getD (t.getD i 0) 0=t'.getD i 0:=Cn.const (f:=fun j=>t'.getD j 0) b.con (lift h1 (a.cn i hi));have c2:t.getD (t'.getD i 0) 0=t.getD i 0:=Cn.const (f:=fun j=>t.getD j 0) a.con (lift h2 (b.cn i hi));have l1:=a.mg.le i hi;have l3:=b.mg.le (t.getD i 0) (by lia);have l4:=a.mg.le (t'.getD i 0) (by lia)
  lia
 apply Kg
 ·rw[a.mg.len,b.mg.len]
 ·intro i h1 h2;have hi:i<n:=by rw[←a.mg.len];exact h1
  grind
theorem Mb(hp:∀p∈js,p.1<n∧p.2<n)(h:∀p,p∈js↔p∈js'):merge js n=merge js' n:=
 RS (Jt hp) (Jt fun p m=>hp p ((h p).mpr m)) (fun p m=> .pair ((h p).mp m)) fun p m=> .pair ((h p).mpr m)
theorem Lr(hp:∀p∈js,p.1<n∧p.2<n)(h:∀p,p∈js↔p∈js'):classes js n=classes js' n:=by unfold classes leasts;rw[Mb hp h]
def tD(d:Dia):Prop:=∀a,a<d.arcs→often a d.ins=1∧often a d.outs=1
theorem Mn(h:d.faulty=none):tD d:=by intro a ha;unfold Dia.faulty at h;rw[List.find?_eq_none]at h;have q:=h a (bQ.mpr ha);unfold Dia.fine at q;simpa using q
theorem oN(a:Nat)(l:List Nat):often a l=l.count a:=by unfold often;grind
theorem uniq [BEq α] [LawfulBEq α]:∀{l:List α}{i j:Nat},l.count x=1→l[i]?=some x→l[j]?=some x→i=j
 |[],i,j,h,hi,hj=>by simp at hi
 |a::l,0,0,h,hi,hj=>rfl
 |a::l,0,j+1,h,hi,hj=>by
  have e:a=x:=by simpa using hi
  have lq:l[j]?=some x:=by simpa using hj
  subst e;have:=BJ.mpr (fg lq);rw[Y9]at h;simp_all
 |a::l,i+1,0,h,hi,hj=>by
  have e:a=x:=by simpa using hj
  have dQ:l[i]?=some x:=by simpa using hi
  subst e;have:=BJ.mpr (fg dQ);rw[Y9]at h;simp_all
 |a::l,i+1,j+1,h,hi,hj=>by
  have dQ:l[i]?=some x:=by simpa using hi
  have lq:l[j]?=some x:=by simpa using hj
  have:=BJ.mpr (fg dQ);have:l.count x=1:=by rw[Kd]at h;split at h<;>omega
  rw[uniq this dQ lq]
theorem DL(y:Cross)(a:Nat):y.ends.count (a,true)=[y.ui,y.oi].count a∧y.ends.count (a,false)=[y.uo,y.oo].count a:=by
 have t:∀(b c:Nat)(u v:Bool),((b,u)==(c,v))=(b==c&&u==v):=fun _ _ _ _=>rfl;unfold Cross.ends;split<;>constructor<;>simp[Kd,t]
 lia
theorem yB [BEq β] [BEq γ]{f:α→List β}{g:α→List γ}(h:∀a,(f a).count b=(g a).count c):∀l:List α,(l.flatMap f).count b=(l.flatMap g).count c
 |[]=>rfl
 |a::l=>by rw[dY,dY,List.count_append,List.count_append,h,yB h l]
theorem QP(d:Dia)(a:Nat):d.allEnds.count (a,true)=often a d.ins∧d.allEnds.count (a,false)=often a d.outs:=by rw[oN,oN];exact⟨yB (fun y=>(DL y a).1) d.x,yB (fun y=>(DL y a).2) d.x⟩
theorem yN(d:Dia):d.allEnds.length=4*d.n:=by
 unfold Dia.allEnds Dia.n;induction d.x with
 |nil=>rfl
 |cons y l ih=>
  rw[dY,cZ,ih,bZ];have:y.ends.length=4:=by unfold Cross.ends;split<;>rfl
  lia
def i_(arcs:List Nat)(e:Nat):List Nat:=(arcs.zipIdx.filter fun c=>c.1==arcs.getD e 0&&c.2 !=e).map (·.2)
theorem O0(hn:l.Nodup)(h:∀y,y∈l↔y=x):l=[x]:=by
 match l,hn,h with
 |[],_,h=>exact absurd ((h x).mpr rfl) (by simp)
 |[a],_,h=>rw[(h a).mp (by simp)]
 |a::b::r,hn,h=>have ea:=(h a).mp (by simp);simp_all
theorem JB(F:tD d)(hA:∀z∈d.allEnds,z.1<d.arcs)(he:e<4*d.n):i_ (d.allEnds.map (·.1)) e=[d.across e]∧d.across e<4*d.n:=by
 have hl:=yN d;obtain⟨z,hz⟩:∃z,d.allEnds[e]?=some z:=⟨_,bq (by simp_all)⟩;obtain⟨a,b⟩:=z;have ha:a<d.arcs:=hA (a,b) (fg hz);obtain⟨c1,c2⟩:=F a ha;obtain⟨q1,q2⟩:=QP d a;have hb:d.allEnds.count (a,b)=1:=by cases b<;>simp[*]
 have hnb:d.allEnds.count (a,!b)=1:=by cases b<;>simp<;>simp[*]
 have hm:(a,!b)∈d.allEnds:=BJ.mp (by simp_all);obtain⟨j,hj,ej⟩:=lC.mp hm;have lq:d.allEnds[j]?=some (a,!b):=by rw[bq hj,ej]
 have eac:d.across e=j:=by
  unfold Dia.across;have:d.allEnds.getD e (0,false)=(a,b):=by rw[bC,hz];rfl
  have:d.allEnds.findIdx? (fun z=>z==(a,!b))=some j:=by
   rw[rK];refine⟨hj,by rw[ej];simp,fun k hk=>?_⟩;have hkl:k<d.allEnds.length:=by grind
   simp;intro q;have:=uniq hnb (by rw[bq hkl,q]) lq
   lia
  simp_all
 rw[eac];refine⟨?_,by lia⟩;unfold i_;have hga:(d.allEnds.map (·.1)).getD e 0=a:=by rw[bC,cz,hz];rfl
 rw[hga];apply O0
 ·rw[List.Nodup,uN];apply Bw;rw[xU];grind
 ·intro k;simp only[aH,dz,Prod.exists,exists_eq_right,lF,cz,dq,beq_iff_eq,uP,ne_eq];constructor
  ·rintro⟨x,hx,e1,hk⟩;subst e1;cases q:d.allEnds[k]? with
   |none=>rw[q]at hx;cases hx
   |some z=>
    rw[q]at hx;obtain⟨x',b'⟩:=z;cases (eE hx);by_cases hbb:b'=b
    ·subst hbb;exact absurd (uniq hb q hz) hk
    ·have:b'=!b:=by cases b<;>cases b'<;>simp_all
     subst this;exact uniq hnb q lq
  ·grind
end Km
namespace Kn
open PySem PySem.Spec PyProof.Rows L2
open Kb (Cross Dia)
section
variable{K:Fg}(T:Txt K mg CC CD)
abbrev aC(CC:Addr):ck (Cross×Unit):=aO (a6 CC) bu
include T
theorem Ca:Def P w K mg base 3 "count_strands" ["drawing"] (Fn (fu CC CD) aa (fun c=>Sm c.1∧cH c.1) fun c=>c.1.strands):=by refine T.hs.N7.mk ["drawing"] (fun nd H1 vs Q E hr h=>?_);refine DX h fun H d v0 s1 h0 hp k=>?_;exact a7 (XE.nat (cj (cN T.len (aK (Hm T) hr hp (az (xv 0 h0)))) (XE.int (eY T (xv 0 h0)))) (by simp;rfl)) s1 k
theorem CM:Def P w K mg base 3 "count_crossing_pieces" ["drawing"] (Fn (fu CC CD) aa (fun c=>Sm c.1∧cH c.1) fun c=>c.1.pieces):=by
 refine T.hs.K9.mk ["drawing","pairs","crossing"] (fun nd H1 vs Q E hr h=>?_);refine DX h fun H d v0 s1 h0 hh k=>?_;obtain⟨hs,hp⟩:=hh;have bL:d.x.length≤16:=hs;have hl1:d.through.length=2*d.x.length:=jK (n:=2) (fun _=>rfl) d.x;refine iN (i:=1) nd (vZ (vS T) hr bL (az (bK T (xv 0 h0)))) (au.cf s1) fun l G H2 sg f2 o2=>?_;refine nM (fun y:Cross=>[(y.ui,y.oi)]) rfl (bT (k:=2) nd) (du (bK T (xv 0 ((aA CC CD).mono sg h0)))) kq f2 o2 ?_ ?_
 ·rintro y G' H3 σ' bU hy sG f3 o3 ⟨v,rv,rfl⟩ hl D' kk;refine si (i:=1) rfl f3 o3 (jd (eN T (xv 2 rv)) (eh T (xv 2 rv))) ?_ fun G2 H4 s4 f4 o4=>bp (kk G2 H4 s4 f4 o4);have e1:(d.x.flatMap fun y:Cross=>[(y.ui,y.oi)]).length=1*d.x.length:=jK (n:=1) (fun _=>rfl) d.x;have e2:(d.x.flatMap Cross.straight).length=2*d.x.length:=hl1;rw[cZ]at hl;simp only[e1]at hl;have e3:((d.x,()):List Cross×Unit).1.flatMap Cross.straight=d.x.flatMap Cross.straight:=rfl;rw[e3,e2]at hl
  lia
 ·intro σ' G' H3 sG f3 o3 hσ;obtain⟨G4,s4,f4,r4⟩:=o3.known f3;refine a7 (XE.cast (aK (xu T) hr ⟨by show d.arcs≤1000;unfold Dia.arcs;lia,Jk hp⟩ (aF (aK (gi T) hr trivial (az (bx (hσ 0 (by decide)) ((aA CC CD).mono (sg.trans (sG.trans s4)) h0)))) (az (bx (hσ 1 (by decide)) r4)))) ?_) f4.g2 fun y G5 H5 f5 r5=>k y G5 H5 (f4.trans f5) r5;refine Km.Lr (Jk hp) fun p=>?_;simp only[cE,Dia.through,bR,Cross.straight];constructor
  ·rintro(⟨y,hy,h⟩|⟨y,hy,h⟩)
   ·exact⟨y,hy,by simp at h⊢;rcases h with h|h<;>simp[h]⟩
   ·exact⟨y,hy,by simp at h⊢;simp[h]⟩
  ·rintro⟨y,hy,h⟩;simp at h;rcases h with h|h|h
   ·exact .inl ⟨y,hy,by simp[h]⟩
   ·exact .inl ⟨y,hy,by simp[h]⟩
   ·exact .inr ⟨y,hy,by simp[h]⟩
theorem A3{y:Cross}(hj:j=1)(q:decide (sgn y.minus=j)=true):y.minus=true:=by
 subst hj;cases z:y.minus
 ·rw[z]at q;simp[sgn]at q
 ·rfl
theorem yY{y:Cross}(hj:j=1)(q:decide (sgn y.minus=j)=false):y.minus=false:=by
 subst hj;cases z:y.minus
 ·rfl
 ·rw[z]at q;simp[sgn]at q
theorem UJ:Def P w K mg base 1 "arcs_around" ["crossing"] (Fn (aC CC) (ah aa) (fun _=>True) fun c=>c.1.ends.map (·.1)):=by
 refine T.hs.Ov.mk ["crossing"] (fun nd H1 vs Q E hr h=>?_);refine DX h fun H y v0 s1 h0 hp k=>?_;refine eV (dB (g7 T (xv 0 h0)) ax) s1 (fun q G H2 f2=>?_) fun q G H2 f2=>?_
 ·have e:=A3 T rfl q;have h0:=(a6 CC).mono f2.hg h0;refine a7 (XE.cast (XN.xe (a5 (aV (eN T (xv 0 h0)) (aV (eh T (xv 0 h0)) (aV (fP T (xv 0 h0)) (aV (fJ T (xv 0 h0)) aZ)))))) ?_) f2.g2 fun y G3 H3 f3 r3=>k y G3 H3 (f2.trans f3) r3;show _=y.ends.map (·.1);unfold Cross.ends;rw[ag e];rfl
 ·have e:=yY T rfl q;have h0:=(a6 CC).mono f2.hg h0;refine bp (a7 (XE.cast (XN.xe (a5 (aV (eN T (xv 0 h0)) (aV (fJ T (xv 0 h0)) (aV (fP T (xv 0 h0)) (aV (eh T (xv 0 h0)) aZ)))))) ?_) f2.g2 fun y G3 H3 f3 r3=>k y G3 H3 (f2.trans f3) r3);show _=y.ends.map (·.1);unfold Cross.ends;rw[e];rfl
theorem M5:Def P w K mg base 1 "turned_end" ["end"] (Fn (aO aa bu) aa (fun _=>True) fun c=>c.1/4*4+(c.1+1)%4):=by
 refine T.hs.Wr.mk ["end"] (fun nd H1 vs Q E hr h=>?_);refine DX h fun H n v0 s1 h0 hp k=>?_;refine a7 (XE.nat (cj (jP (XE.int (xv 0 h0)) (kI (by decide) (XE.int (xv 0 h0)) ax)) (kI (by decide) (cj (XE.int (xv 0 h0)) ax) ax)) ?_) s1 k;show n-n%4+(n+1)%4=((n/4*4+(n+1)%4:Nat):Int)
 lia
theorem Nb:Def P w K mg base 1 "far_end" ["arcs","end"] (Fn (aO (ah aa) (aO aa bu)) aa (fun c=>c.1.length≤1000∧c.2.1<c.1.length∧Km.i_ c.1 c.2.1≠[]) fun c=>(Km.i_ c.1 c.2.1).headD 0):=by
 refine T.hs.UU.mk Fx (fun nd H1 vs Q E hr h=>?_);refine JS h fun H as n v0 v1 s1 h0 h1 hh k=>?_;obtain⟨hl,hn,hp⟩:=hh;refine zE (i:=2) (own:=[("number",3),("arc",4)]) (S:=aa) (fun c:Nat×Nat=>c.2) (fun c=>c.1==as.getD n 0&&c.2 !=n) rfl nd (nB (j:=3) T.enumerate (xv 0 h0)) s1 (cK (by show cu Fx (bE HD) _ _=true;decide)) (fun _ _ _ _ _=>gF (k:=4) rfl nd) (sR (by decide) (by decide)) (by rw[mV];have:as.length≤1000:=hl;lia) ?_ ?_ ?_
 ·rintro⟨a,j⟩ G _ hm sg ⟨vj,va,rj,ra,rfl⟩;refine l9 fun s0 H0 C cl fp=>?_;refine XT.cast (PJ (dB (XE.int (xv 4 ra)) (XE.int (aW (xv 0 ((ah aa).mono sg h0)) (XE.int (xv 1 (aa.mono sg h1))) (bt (getD_at hn))))) fun _=>kR (XE.int (xv 3 rj)) (XE.int (xv 1 (aa.mono sg h1)))) ?_;show(decide ((a:Int)=(as.getD n 0:Nat))&&!decide ((j:Int)=(n:Int)))=(a==as.getD n 0&&j !=n);congr 1
  ·by_cases q:a=as.getD n 0
   ·simp[q]
   ·have q':¬(a:Int)=(as.getD n 0:Nat):=by lia
    rw[cU q',iT.mpr q]
  ·by_cases q:j=n
   ·simp[q]
   ·have q':¬(j:Int)=(n:Int):=by lia
    rw[cU q',uP.mpr q];rfl
 ·rintro⟨a,j⟩ G _ hm hc sg ⟨vj,va,rj,ra,rfl⟩ s0 H0 C cl fp;exact xv 3 rj
 ·intro v2 G H2 f2 r2;have r2:(ah aa).rel G v2 (Km.i_ as n):=r2;refine a7 (aW (xv 2 r2) ax ?_) f2.g2 fun y G3 H3 f3 r3=>k y G3 H3 (f2.trans f3) r3;have hp:Km.i_ as n≠[]:=hp;show cJ (Km.i_ as n) 0=some ((Km.i_ as n).headD 0)
  match Km.i_ as n,hp with
  |a::r,_=>exact bt (j:=0) rfl
theorem IC:Def P w K mg base 3 "count_faces" ["drawing"] (Fn (fu CC CD) aa (fun c=>Sm c.1∧cH c.1∧Km.tD c.1) fun c=>c.1.faces):=by
 refine T.hs.MB.mk HF (fun nd H1 vs Q E hr h=>?_);refine DX h fun H d v0 s1 h0 hh k=>?_;obtain⟨hs,hp,hf⟩:=hh;have bL:d.x.length≤16:=hs;have hel:∀y:Cross,(y.ends.map (·.1)).length=4:=fun y=>by unfold Cross.ends;split<;>rfl
 have eC:(d.x.flatMap fun y:Cross=>y.ends.map (·.1)).length=4*d.x.length:=jK hel d.x;have hmp:(d.x.flatMap fun y:Cross=>y.ends.map (·.1))=d.allEnds.map (·.1):=by unfold Dia.allEnds;rw[pX]
 refine iN (i:=1) (R:=aa) nd (a5 aZ) (au.cf s1) fun l G H2 sg f2 o2=>?_;refine nM (R:=aa) (fun y:Cross=>y.ends.map (·.1)) rfl (bT (k:=2) nd) (du (bK T (xv 0 ((aA CC CD).mono sg h0)))) kq f2 o2 ?_ ?_
 ·rintro y G' H3 σ' bU hy sG f3 o3 ⟨v,rv,rfl⟩ hl D' kk;refine nD (i:=1) rfl f3 o3 (aK (UJ T) hr trivial (az (xv 2 rv))) ?_ fun G2 H4 s4 f4 o4=>bp (kk G2 H4 s4 f4 o4);rw[eI,eC]at hl;show bU.length+(y.ends.map (·.1)).length≤30000
  lia
 ·intro σ' G' H3 sG f3 o3 hσ;obtain⟨G4,s4,f4,r4⟩:=o3.known f3;rw[eI,hmp]at r4;have hA:∀z∈d.allEnds,z.1<d.arcs:=by intro z hz;obtain⟨y,hy,hz⟩:=bR.mp hz;obtain⟨a,b,c,e⟩:=hp y hy;unfold Cross.ends at hz;split at hz<;>simp only[a_,cA,cV]at hz<;>rcases hz with rfl|rfl|rfl|rfl<;>assumption
  have hlen:(d.allEnds.map (·.1)).length=4*d.n:=by rw[bj,Km.yN]
  have hn:d.n≤16:=bL;refine sI (i:=3) (own:=[("end",4)]) (S:=dF aa aa) (fun z:Int=>(z.toNat,d.next z.toNat)) rfl nd (oF (k:=4) T.range (cN T.len (bx (i:=1) (hσ 1 (by decide)) r4)) (by simp) (by rw[hlen];grind)) f4.g2 (cK (by show cu HF (bE ED) _ _=true;decide+kernel)) (fun _ _ _ _ _=>bT (k:=4) nd) (dS (by decide)) (by simp only[ups,bj,gR,cF,bj,Km.yN];lia) ?_ ?_
  ·rintro z G5 _ hz sg5 ⟨vz,rz,rfl⟩ s0 H0 C cl fp;obtain⟨e,he,rfl⟩:∃e:Nat,e<4*d.n∧z= e:=by unfold ups at hz;obtain⟨e,he,q⟩:=aH.mp hz;rw[bQ,cF,hlen]at he;exact⟨e,he,by lia⟩
   have hfe:=Km.JB hf hA he;have rz:aa.rel G5 vz e:=rz;have hw:∀j,j∉[4]→((wipe σ' [4]).set 4 (some vz))[j]?=σ'[j]?:=fun j hj=>by rw[ip (by intro q;exact hj (by simp[q])),pJ,af hj]
   have hw4:((wipe σ' [4]).set 4 (some vz))[4]?=some (some vz):=by rw[jC];rw[Cp];have:=hσ 4 (by decide);exact(d_.mp (this.trans rfl:σ'[4]?=some none)).1
   refine XE.cast (jd (bx (i:=4) hw4 rz) (aK (M5 T) hr trivial (az (aK (Nb T) hr (c:=(d.allEnds.map (·.1),e,())) ⟨by show(d.allEnds.map (·.1)).length≤1000;rw[hlen];lia,by show e<(d.allEnds.map (·.1)).length;rw[hlen];exact he,by show Km.i_ (d.allEnds.map (·.1)) e≠[];rw[hfe.1];simp⟩ (aF (bx (i:=1) ((hw 1 (by decide)).trans (hσ 1 (by decide))) ((ah aa).mono sg5 r4)) (az (bx (i:=4) hw4 rz))))))) ?_;show(e,(Km.i_ (d.allEnds.map (·.1)) e).headD 0/4*4+((Km.i_ (d.allEnds.map (·.1)) e).headD 0+1)%4)=((e:Int).toNat,d.next (e:Int).toNat);rw[hfe.1,cF];rfl
  ·intro v3 G5 H5 f5 r5;have r5':kg.rel G5 v3 ((range (4*d.n)).map fun e=>(e,d.next e)):=by refine(congrArg (fun m=>kg.rel G5 v3 m) ?_).mp r5;unfold ups;rw[b7,cF,hlen];refine ef fun e _=>?_;show(((0:Int)+(e:Nat)).toNat,d.next ((0:Int)+(e:Nat)).toNat)=_;rw[mW,cF]
   have aG:gG.ok (4*d.n) ((range (4*d.n)).map fun e=>(e,d.next e)):=by
    intro p nY;obtain⟨e,he,rfl⟩:=aH.mp nY;rw[bQ]at he;refine⟨he,?_⟩;have:d.across e<4*d.n:=(Km.JB hf hA he).2;show d.across e/4*4+(d.across e+1)%4<4*d.n
    lia
   have hq:∀j,j≠3→(σ'.set 3 (some v3))[j]?=σ'[j]?:=fun j hj=>by rw[ip (fun q=>hj q.symm)]
   have h3:(σ'.set 3 (some v3))[3]?=some (some v3):=by rw[jC];exact(d_.mp ((hσ 3 (by decide)).trans rfl:σ'[3]?=some none)).1
   refine a7 (aK (xu T) hr (c:=(4*d.n,_,())) ⟨by show 4*d.n≤1000;lia,aG⟩ (aF (XE.nat (cN T.len (bx (i:=1) ((hq 1 (by decide)).trans (hσ 1 (by decide))) ((ah aa).mono f5.hg r4))) (by rw[hlen])) (az (bx (i:=3) h3 r5')))) (f4.trans f5).g2 fun y G6 H6 f6 r6=>k y G6 H6 ((f4.trans f5).trans f6) r6
theorem Ar:Def P w K mg base 1 "pairs_along" ["crossing"] (Fn (aC CC) kg (fun _=>True) fun c=>c.1.along):=by refine T.hs.QQ.mk ["crossing"] (fun nd H1 vs Q E hr h=>?_);refine DX h fun H y v0 s1 h0 hp k=>?_;exact a7 (XN.xe (a5 (aV (jd (eN T (xv 0 h0)) (fJ T (xv 0 h0))) (aV (jd (eh T (xv 0 h0)) (fP T (xv 0 h0))) aZ)))) s1 k
theorem T_:Def P w K mg base 1 "pairs_across" ["crossing"] (Fn (aC CC) kg (fun _=>True) fun c=>c.1.over):=by refine T.hs.Qw.mk ["crossing"] (fun nd H1 vs Q E hr h=>?_);refine DX h fun H y v0 s1 h0 hp k=>?_;exact a7 (XN.xe (a5 (aV (jd (eN T (xv 0 h0)) (eh T (xv 0 h0))) (aV (jd (fP T (xv 0 h0)) (fJ T (xv 0 h0))) aZ)))) s1 k
theorem O_:Def P w K mg base 2 "pairs_opened" ["crossing","to_b"] (Fn (aO (a6 CC) (aO EZ bu)) kg (fun _=>True) fun c=>c.1.opened c.2.1):=by
 refine T.hs.Ma.mk ["crossing","to_b"] (fun nd H1 vs Q E hr h=>?_);refine JS h fun H y b v0 v1 s1 h0 h1 hp k=>?_;have sgi:∀a b:Bool,sgn a=sgn b→a=b:=by decide
 refine a7 (jh (dB (bx (i:=1) rfl h1) (g7 T (xv 0 h0))) (fun q=>?_) fun q=>?_) s1 k
 ·have e:y.minus=b:=(sgi _ _ (gB q)).symm;refine XE.cast (aK (Ar T) hr trivial (az (xv 0 h0))) ?_;show y.along=y.opened b;unfold Cross.opened;rw[ag e]
 ·have e:¬y.minus=b:=fun z=>dH q (by rw[z]);refine XE.cast (aK (T_ T) hr trivial (az (xv 0 h0))) ?_;show y.over=y.opened b;unfold Cross.opened;rw[af e]
theorem PD:Def P w K mg base 3 "count_circles_along" ["drawing"] (Fn (fu CC CD) aa (fun c=>Sm c.1∧cH c.1) fun c=>c.1.seifert):=by
 refine T.hs.V7.mk ["drawing","pairs","crossing"] (fun nd H1 vs Q E hr h=>?_);refine DX h fun H d v0 s1 h0 hh k=>?_;obtain⟨hs,hp⟩:=hh;have bL:d.x.length≤16:=hs;have eC:(d.x.flatMap Cross.along).length=2*d.x.length:=jK (n:=2) (fun _=>rfl) d.x;refine iN (i:=1) (R:=dF aa aa) nd (a5 aZ) (au.cf s1) fun l G H2 sg f2 o2=>?_;refine nM Cross.along rfl (bT (k:=2) nd) (du (bK T (xv 0 ((aA CC CD).mono sg h0)))) kq f2 o2 ?_ ?_
 ·rintro y G' H3 σ' bU hy sG f3 o3 ⟨v,rv,rfl⟩ hl D' kk;refine nD (i:=1) rfl f3 o3 (aK (Ar T) hr trivial (az (xv 2 rv))) ?_ fun G2 H4 s4 f4 o4=>bp (kk G2 H4 s4 f4 o4);rw[eI,eC]at hl;show bU.length+y.along.length≤30000
  lia
 ·intro σ' G' H3 sG f3 o3 hσ;obtain⟨G4,s4,f4,r4⟩:=o3.known f3;rw[eI]at r4;have h4:=(aA CC CD).mono (sg.trans (sG.trans s4)) h0;exact a7 (XE.nat (cj (XE.int (aK (xu T) hr ⟨by show d.arcs≤1000;unfold Dia.arcs;lia,US hp⟩ (aF (aK (gi T) hr trivial (az (bx (hσ 0 (by decide)) h4))) (az (bx (hσ 1 (by decide)) r4))))) (XE.int (eY T (bx (hσ 0 (by decide)) h4)))) (by simp;rfl)) f4.g2 fun y G5 H5 f5 r5=>k y G5 H5 (f4.trans f5) r5
theorem D8(st j:Nat):Builtin.bitAnd ((st:Int)/2^((j:Int).toNat)) 1=sgn (st.testBit j):=by
 rw[PyProof.Rows.bitAnd_m1,cF];have e:(st/2^j)%2=((st/2^j%2:Nat):Int):=by rfl
 rw[e,Nat.testBit_eq_decide_div_mod_eq];by_cases q:st/2^j%2=1
 ·rw[q];simp[sgn]
 ·have:st/2^j%2=0:=by lia
  rw[this];simp[sgn]
theorem Iu:Def P w K mg base 3 "count_circles_opened" ["drawing","state"] (Fn (aO (aA CC CD) (aO aa bu)) aa (fun c=>Sm c.1∧cH c.1) fun c=>c.1.circles c.2.1):=by
 refine T.hs.T8.mk ["drawing","state","pairs","number","crossing"] (fun nd H1 vs Q E hr h=>?_);refine JS h fun H d st v0 v1 s1 h0 h1 hh k=>?_;obtain⟨hs,hp⟩:=hh;have bL:d.x.length≤16:=hs;have ho:∀y:Cross×Nat,(y.1.opened (st.testBit y.2)).length=2:=fun y=>by unfold Cross.opened;split<;>rfl
 have eC:(d.x.zipIdx.flatMap fun y:Cross×Nat=>y.1.opened (st.testBit y.2)).length=2*d.x.length:=by rw[jK ho,mV]
 refine iN (i:=2) (R:=dF aa aa) nd (a5 aZ) (au.cf s1) fun l G H2 sg f2 o2=>?_;refine nM (R:=dF aa aa) (fun y:Cross×Nat=>y.1.opened (st.testBit y.2)) rfl (gF (j:=3) (k:=4) rfl nd) (nB T.enumerate (bK T (xv 0 ((aA CC CD).mono sg h0)))) DP f2 o2 ?_ ?_
 ·rintro⟨y,j⟩ G' H3 σ' bU hy sG f3 o3 ⟨vj,v,rj,rv,rfl⟩ hl D' kk;refine nD (i:=2) rfl f3 o3 (aK (O_ T) hr trivial (aF (xv 4 rv) (az (XE.sg (Di (DF (by simp) (XE.int (xv 1 (aa.mono (sg.trans sG) h1))) (XE.int (xv 3 rj))) ax) (D8 T st j))))) ?_ fun G2 H4 s4 f4 o4=>bp (kk G2 H4 s4 f4 o4);rw[eI,eC]at hl;show bU.length+(y.opened (st.testBit j)).length≤30000;have:(y.opened (st.testBit j)).length=2:=ho (y,j)
  lia
 ·intro σ' G' H3 sG f3 o3 hσ;obtain⟨G4,s4,f4,r4⟩:=o3.known f3;rw[eI]at r4;have h4:=(aA CC CD).mono (sg.trans (sG.trans s4)) h0;exact a7 (XE.nat (cj (XE.int (aK (xu T) hr ⟨by show d.arcs≤1000;unfold Dia.arcs;lia,Xf hp st⟩ (aF (aK (gi T) hr trivial (az (bx (hσ 0 (by decide)) h4))) (az (bx (hσ 2 (by decide)) r4))))) (XE.int (eY T (bx (hσ 0 (by decide)) h4)))) (by simp;rfl)) f4.g2 fun y G5 H5 f5 r5=>k y G5 H5 (f4.trans f5) r5
end
section
variable{α β γ δ:Type}{X:Cx}{σ σ0:aS}{H H1 H2 G:Hp}{e a b:Expr}{R:Rp α}{S:Rp β}{r:α}{pos p:Pos}{D:Ends}{rest:List Stmt}{x:Str}{i:Nat}{CC CD:Addr}
theorem zf(hl:σ0.length=σ.length)(hk:k<σ.length):(σ0.set k (some v))[k]?=some (some v):=jC (by simp[*])
theorem Cq(hσ:lV ks σ σ0)(hk:k∈ks)(hj:j∉ks):(σ0.set k (some v))[j]?=σ[j]?:=by rw[ip (by intro q;subst q;exact hj hk)];exact hσ j hj
theorem Qp(hk:k∈ws)(hj:j∉ws):((wipe τ ws).set k (some v))[j]?=τ[j]?:=by rw[ip (by intro q;subst q;exact hj hk),pJ,af hj]
theorem cmp_self(hk:k<τ.length):((wipe τ ws).set k (some v))[k]?=some (some v):=jC (by rw[Cp];exact hk)
theorem xi(f:γ→List α)(hc:X.calm=true)(hg:PG X tg g)(h:XI X σ G tg it g xs B)(N:wH B ks')(hkk:∀j∈ks',j∈ks)(f0:au H H1 G H2)(o:cM H1 G H2 l R acc)(he:∀x G' H3 σ0 σ' bU,x∈xs→aj G G'→au H H1 G' H3→cM H1 G' H3 l R bU→lV ks σ σ0→σ0.length=σ.length→B x G' σ0 σ'→bU.length+(f x).length≤(acc++xs.flatMap f).length→∀D':Ends,(∀σ'' G2 H4,lV ks σ σ''→σ''.length=σ.length→aj G' G2→au H H1 G2 H4→cM H1 G2 H4 l R (bU++f x)→D'.nx σ'' H4)→WB X body D' σ' H3)(k:∀σ' G' H3,aj G G'→au H H1 G' H3→cM H1 G' H3 l R (acc++xs.flatMap f)→lV ks σ σ'→σ'.length=σ.length→WB X rest D σ' H3)(hs:∀x,foldedSetIterable it X.env x=pure x:=by intro _;rfl)(hp:PassesOwn (model X.prog X.w) X.A X.env X.xe:=by exact jE):
  WB X (.For tg it body [] pos::rest) D σ H2:=by
 refine kL hp hc hg h f0.g2 (fun Gx i σ' H'=>∃G2,aj Gx G2∧au H H1 G2 H'∧aj G Gx∧cM H1 G2 H' l R (acc++(xs.take i).flatMap f)∧lV ks σ σ'∧σ'.length=σ.length) ?_ ?_ ?_ ?_ hs
 ·intro Gx H3 f3;exact⟨Gx,aj.refl _,f0.trans f3,f3.hg,by simpa using o.fwd f3,fun _ _=>rfl,rfl⟩
 ·rintro Gx i σ' H' ⟨G2,sx,fx,_⟩;exact sx.trans fx.g2
 ·rintro Gx i c σ' H' dP ⟨G2,sx,fx,sG,ox,hσ,hσl⟩ σ'' G3 H3 f3 hB;obtain⟨G4,s4,f4⟩:=au.wide sx fx.g2 f3;have hB':B c G4 σ' σ'':=N.mon _ _ _ _ _ s4 hB;obtain⟨hl,e⟩:=d_.mp dP;have et:xs.take (i+1)=xs.take i++[c]:=by rw[←e,xY hl]
  have o4:=ox.fwd f4;refine he c G4 H3 σ' σ'' _ (fg dP) (sG.trans (sx.trans f4.hg)) (fx.trans f4) o4 hσ hσl hB' ?_ _ fun σ3 G6 H6 b3 l3 s6 f6 o6=>?_
  ·have q:=Fe (f:=f) xs (i+1);grind
  ·refine⟨G6,(sx.trans f4.hg).trans s6,f6,sG,?_,b3,l3⟩;rw[et,mX,←oj];simpa using o6
 ·rintro Gx σ' H' ⟨G2,sx,fx,sG,ox,hσ,hσl⟩;rw[iX]at ox;exact k σ' G2 H' (sG.trans sx) fx ox hσ hσl
def del(O:Hp)(l:Addr):Hp:=fun b=>if b=l then Option.none else O b
theorem iM{l b:Addr}(h:b≠l):del O l b=O b:=af h
end
def su(m:Nat)(l:List Nat):List Nat:=(range m).filter fun r=>l.contains r
theorem L6(h:∀x∈l,x<m)(h1:o.Perm ((l.map Int.ofNat).foldl Km.dh []))(h2:o.Pairwise (·≤·)):o=(su m l).map Int.ofNat:=by
 apply Km.zz (Km.HX h2 (h1.nodup_iff.mpr (Km.yX _ _ (by simp))))
 ·rw[uN];exact(Bw _ JZ).imp fun h=>by simp;omega
 ·intro x;rw[h1.mem_iff,Km.yz];simp only[cA,false_or,aH,su,dz,bQ,x8];grind
theorem vn:∀l:List α,(l.flatMap fun a=>[f a])=l.map f
 |[]=>rfl
 |a::l=>by rw[dY,vn l];rfl
def ek(d:Dia):Prop:=d.x.length≤8
def jL(xs:List Cross)(t:List Nat):List Nat:=xs.flatMap fun y=>y.all.map fun a=>t.getD a 0
section
variable{K:Fg}(T:Txt K mg CC CD)
include T
theorem EV:Def P w K mg base 1 "ends_of" ["crossing"] (Fn (aC CC) (ah aa) (fun _=>True) fun c=>c.1.all):=by refine T.hs.P6.mk ["crossing"] (fun nd H1 vs Q E hr h=>?_);refine DX h fun H y v0 s1 h0 hp k=>?_;exact a7 (XN.xe (a5 (aV (eN T (xv 0 h0)) (aV (fP T (xv 0 h0)) (aV (eh T (xv 0 h0)) (aV (fJ T (xv 0 h0)) aZ)))))) s1 k
theorem CL:Def P w K mg base 3 "changed" ["crossing"] (Fn (aC CC) (a6 CC) (fun _=>True) fun c=>c.1.swap):=by
 refine T.hs.changed.mk ["crossing"] (fun nd H1 vs Q E hr h=>?_);refine DX h fun H y v0 s1 h0 hp k=>?_;have e:1-sgn y.minus=sgn (!y.minus):=by cases y.minus<;>rfl
 exact a7 (qz (qc T) T hr (aF (eh T (xv 0 h0)) (aF (fJ T (xv 0 h0)) (aF (eN T (xv 0 h0)) (aF (fP T (xv 0 h0)) (az (XE.cast (jP ax (g7 T (xv 0 h0))) e))))))) s1 k
theorem VI:Def P w K mg base 3 "run_back" ["crossing"] (Fn (aC CC) (a6 CC) (fun _=>True) fun c=>c.1.back):=by refine T.hs.WZ.mk ["crossing"] (fun nd H1 vs Q E hr h=>?_);refine DX h fun H y v0 s1 h0 hp k=>?_;exact a7 (qz (qc T) T hr (y:=y.back) (aF (fP T (xv 0 h0)) (aF (eN T (xv 0 h0)) (aF (fJ T (xv 0 h0)) (aF (eh T (xv 0 h0)) (az (XE.cast (g7 T (xv 0 h0)) rfl))))))) s1 k
theorem Q0:Def P w K mg base 4 "mirrored" ["drawing"] (Fn (fu CC CD) (aA CC CD) (fun c=>Sm c.1) fun c=>c.1.mirror):=by refine T.hs.mirrored.mk Ce (fun nd H1 vs Q E hr h=>?_);refine DX h fun H d v0 s1 h0 hp k=>?_;have hp:d.x.length≤16:=hp;refine a7 (oW (pL T) T hr (xs:=d.x.map Cross.swap) (XN.xe (gh (own:=[("crossing",1)]) (S:=a6 CC) Cross.swap rfl nd (du (bK T (xv 0 h0))) (cK (by show cu Ce (bE DW) _ _=true;decide)) (fun _ _ _ _ _=>bT (k:=1) nd) (dS (by decide)) (by lia) ?_)) (eY T (xv 0 h0))) s1 k;rintro y G _ hy sg ⟨vy,ry,rfl⟩ s0 H0 C cl fp;exact XE.cast (aK (CL T) hr trivial (az (xv 1 ry))) rfl
theorem Tc:Def P w K mg base 4 "turned" ["drawing"] (Fn (fu CC CD) (aA CC CD) (fun c=>Sm c.1) fun c=>c.1.turn):=by refine T.hs.turned.mk De (fun nd H1 vs Q E hr h=>?_);refine DX h fun H d v0 s1 h0 hp k=>?_;have hp:d.x.length≤16:=hp;refine a7 (oW (pL T) T hr (xs:=d.x.map Cross.back) (XN.xe (gh (own:=[("crossing",1)]) Cross.back rfl nd (du (bK T (xv 0 h0))) (cK (by show cu De (bE FO) _ _=true;decide)) (fun _ _ _ _ _=>bT (k:=1) nd) (dS (by decide)) (by lia) ?_)) (eY T (xv 0 h0))) s1 k;rintro y G _ hy sg ⟨vy,ry,rfl⟩ s0 H0 C cl fp;exact XE.cast (aK (VI T) hr trivial (az (xv 1 ry))) rfl
theorem VX:Def P w K mg base 2 "arcs_met" ["crossings","least"] (Fn (aO (ah (a6 CC)) (aO (ah aa) bu)) (ah aa) (fun c=>c.1.length≤8∧c.2.1.length≤40∧(∀y∈c.1,∀a∈y.all,a<c.2.1.length)∧∀v∈c.2.1,v<c.2.1.length) fun c=>su c.2.1.length (jL c.1 c.2.1)):=by
 refine T.hs.Wt.mk HZ (fun nd H1 vs Q E hr h=>?_);refine JS h fun H xs t v0 v1 s1 h0 h1 hh k=>?_;obtain⟨hl,ht,ha,hv⟩:=hh;have hl:xs.length≤8:=hl;have ht:t.length≤40:=ht;have eC:(jL xs t).length=4*xs.length:=jK (f:=fun y:Cross=>y.all.map fun a=>t.getD a 0) (n:=4) (fun _=>rfl) xs;refine iN (i:=2) (R:=aa) nd (a5 aZ) (au.cf s1) fun l G H2 sg f2 o2=>?_;refine nM (R:=aa) (fun y:Cross=>y.all.map fun a=>t.getD a 0) rfl (bT (k:=3) nd) (du (xv 0 ((ah (a6 CC)).mono sg h0))) kq f2 o2 ?_ ?_
 ·rintro y G' H3 σ' bU hy sG f3 o3 ⟨v,rv,rfl⟩ cb D' kk;refine nD (i:=2) rfl f3 o3 (XN.xe (gh (own:=[("arc",4)]) (S:=aa) (fun a=>t.getD a 0) rfl nd (du (k:=4) (aK (EV T) hr trivial (az (xv 3 rv)))) (cK (by show cu HZ (bE CY) _ _=true;decide+kernel)) (fun _ _ _ _ _=>bT (k:=4) nd) (dS (by decide)) (by show(4:Nat)≤30000;decide) ?_)) ?_ fun G2 H4 s4 f4 o4=>bp (kk G2 H4 s4 f4 o4)
  ·rintro a G5 _ hm sg5 ⟨va,ra,rfl⟩ s0 H0 C cl fp;exact aW (xv 1 ((ah aa).mono (sg.trans (sG.trans sg5)) h1)) (XE.int (xv 4 ra)) (bt (getD_at (ha y hy a hm)))
  ·rw[eI]at cb;have e1:(xs.flatMap fun y:Cross=>y.all.map fun a=>t.getD a 0).length=4*xs.length:=eC;rw[e1]at cb;show bU.length+4≤30000;have:(y.all.map fun a=>t.getD a 0).length=4:=rfl
   lia
 ·intro σ' G' H3 sG f3 o3 hσ;obtain⟨G4,s4,f4,r4⟩:=o3.known f3;rw[eI]at r4;have r4:(ah aa).rel G4 (.ref l) (jL xs t):=r4;refine a7 (XE.Jc (XN.xe (Gq T rfl (XE.mq (bx (i:=2) (hσ 2 (by decide)) r4)) (by rw[bj,eC];lia) ?_ fun m h1 h2=>L6 (m:=t.length) (fun x hx=>?_) h1 h2))) f4.g2 fun y G5 H5 f5 r5=>k y G5 H5 (f4.trans f5) r5
  ·have:=KS.xq ((jL xs t).map Int.ofNat) [];simp only[iW,Yh,bj,eC]at this;show(((jL xs t).map Int.ofNat).foldl KS.dh []).length<64
   lia
  ·obtain⟨y,hy,hi⟩:=bR.mp hx;obtain⟨a,hm,rfl⟩:=aH.mp hi;exact hv _ (fg (getD_at (ha y hy a hm)))
theorem Rg(d:Dia)(gone:List Nat):((d.x.zipIdx.filter fun(y:Cross×Nat)=>!(gone.contains y.2)).map fun(y:Cross×Nat)=>y.1).length≤d.x.length:=by rw[bj];exact cx (rM _ _) (by rw[mV];exact aY _)
theorem Le{d:Dia}{gone:List Nat}(h:y∈(d.x.zipIdx.filter fun(y:Cross×Nat)=>!(gone.contains y.2)).map fun(y:Cross×Nat)=>y.1):y∈d.x:=by obtain⟨c,hc,rfl⟩:=aH.mp h;exact Kf (dz.mp hc).1
theorem UM(h:cH d)(hy:y∈d.x):∀a∈y.all,a<d.arcs:=by obtain⟨a,b,c,e⟩:=h y hy;intro x hx;simp only[Cross.all,a_,cA,cV]at hx;rcases hx with rfl|rfl|rfl|rfl<;>assumption
theorem Mz(hp:gG.ok n js)(xs:List Cross)(hx:∀y∈xs,∀a∈y.all,a<n):su (merge js n).length (jL xs (merge js n))=(leasts js n).filter fun r=>(jL xs (merge js n)).contains r:=by
 have M:=Km.qH hp;unfold su leasts;rw[List.filter_filter,M.len];refine List.filter_congr fun r hr=>?_;cases q:(jL xs (merge js n)).contains r with
 |false=>rfl
 |true=>
  rw[x8]at q;obtain⟨y,hy,q⟩:=bR.mp q;obtain⟨a,ha,rfl⟩:=aH.mp q;have:=M.idem a (hx y hy a ha)
  lia
theorem GV:Def P w K mg base 3 "without" ["drawing","gone","pairs"] (Fn (aO (aA CC CD) (aO (ah aa) (aO kg bu))) (aA CC CD) (fun c=>ek c.1∧cH c.1∧gG.ok c.1.arcs c.2.2.1) fun c=>c.1.without c.2.1 c.2.2.1):=by
 refine T.hs.without.mk yZ (fun nd H1 vs Q E hr h=>?_);refine KH h fun H d gone js v0 v1 v2 s1 h0 h1 h2 hh k=>?_;obtain⟨hs,hp,hj⟩:=hh;have hs:d.x.length≤8:=hs;have hj:gG.ok d.arcs js:=hj;have hp:cH d:=hp;have hn:d.arcs≤16:=by unfold Dia.arcs;lia
 have M:=Km.qH hj;have hm:(merge js d.arcs).length=d.arcs:=M.len;have hmv:∀v∈merge js d.arcs,v<(merge js d.arcs).length:=by
  intro v hv;obtain⟨i,hi,e⟩:=lC.mp hv;have:=M.le i (by rw[←hm];exact hi);rw[bC,bq hi,e]at this;have:v≤i:=this
  lia
 refine zE (i:=3) (own:=[("number",10),("crossing",7)]) (S:=a6 CC) (fun c:Cross×Nat=>c.1) (fun c=>!(gone.contains c.2)) rfl nd (nB (j:=10) (k:=7) T.enumerate (bK T (xv 0 h0))) s1 (cK (by show cu yZ (bE A0) _ _=true;decide+kernel)) (fun _ _ _ _ _=>gF (j:=10) (k:=7) rfl nd) (sR (by decide) (by decide)) (by rw[mV];show d.x.length≤30000;lia) ?_ ?_ ?_
 ·rintro⟨y,j⟩ G _ hm sg ⟨vj,va,rj,ra,rfl⟩;exact l9 fun s0 H0 C cl fp=>DC (xv 10 rj) (xv 1 ((ah aa).mono sg h1))
 ·rintro⟨y,j⟩ G _ hm hc sg ⟨vj,va,rj,ra,rfl⟩ s0 H0 C cl fp;exact xv 7 ra
 intro v3 G3 H3 f3 r3;have r3:(ah (a6 CC)).rel G3 v3 ((d.x.zipIdx.filter fun(y:Cross×Nat)=>!(gone.contains y.2)).map fun(y:Cross×Nat)=>y.1):=r3;have nZ:=Rg T d gone;have hlm:∀y,y∈((d.x.zipIdx.filter fun(y:Cross×Nat)=>!(gone.contains y.2)).map fun(y:Cross×Nat)=>y.1)→y∈d.x:=fun y h=>Le T h;generalize hL:((d.x.zipIdx.filter fun(y:Cross×Nat)=>!(gone.contains y.2)).map fun(y:Cross×Nat)=>y.1)=left at r3 nZ hlm;refine br (i:=4) nd (aK (v_ T) hr (c:=(d.arcs,js,())) ⟨by show d.arcs≤1000;lia,hj⟩ (aF (XE.cast (aK (gi T) hr trivial (az (xv 0 ((aA CC CD).mono f3.hg h0)))) rfl) (az (xv 2 (kg.mono f3.hg h2))))) f3.g2 fun v4 G4 H4 f4 r4=>?_;have r4:(ah aa).rel G4 v4 (merge js d.arcs):=r4;have hxa:∀y∈left,∀a∈y.all,a<d.arcs:=fun y hy=>UM T hp (hlm y hy);refine br (i:=5) nd (XE.cast (r':=(leasts js d.arcs).filter fun r=>(jL left (merge js d.arcs)).contains r) (aK (VX T) hr (c:=(left,merge js d.arcs,())) ⟨by show left.length≤8;lia,by show(merge js d.arcs).length≤40;lia,fun y hy a ha=>by show a<(merge js d.arcs).length;rw[hm];exact hxa y hy a ha,hmv⟩ (aF (xv 3 ((ah (a6 CC)).mono f4.hg r3)) (az (xv 4 r4)))) (Mz T hj left hxa)) (f3.trans f4).g2 fun v5 G5 H5 f5 r5=>?_;have f35:=(f3.trans f4).trans f5;refine iN (i:=6) (R:=a6 CC) nd (a5 aZ) f35 fun l G6 H6 s6 f6 o6=>?_;have mM:=(ah (a6 CC)).mono (f4.hg.trans (f5.hg.trans s6)) r3;have r4':=(ah aa).mono (f5.hg.trans s6) r4;have r5':=(ah aa).mono s6 r5;generalize hK:((leasts js d.arcs).filter fun r=>(jL left (merge js d.arcs)).contains r)=keep at r5 r5';have eC:(left.flatMap fun y:Cross=>[y.named fun(a:Nat)=>(keep.findIdx? fun(r:Nat)=>r==(merge js d.arcs).getD a 0).getD 0]).length=1*left.length:=jK (f:=fun y:Cross=>[y.named fun(a:Nat)=>(keep.findIdx? fun(r:Nat)=>r==(merge js d.arcs).getD a 0).getD 0]) (n:=1) (fun _=>rfl) left;refine xi (R:=a6 CC) (ks:=[7,8]) (fun y:Cross=>[y.named fun(a:Nat)=>(keep.findIdx? fun(r:Nat)=>r==(merge js d.arcs).getD a 0).getD 0]) rfl (bT (k:=7) nd) (du (xv 3 mM)) kq (by decide) f6 o6 ?_ ?_
 ·rintro y G' H7 σ0 σ' bU hy sG f7 o7 hσ hσl ⟨v,rv,rfl⟩ hl D' kk;have q7:=zf (v:=v) (k:=7) hσl (by show 7<12;decide);have qj:=fun j(hj:j∉[7,8])=>Cq (v:=v) (k:=7) hσ (by decide) hj;have mM:=(ah (a6 CC)).mono sG mM;have r4':=(ah aa).mono sG r4';have r5':=(ah aa).mono sG r5';refine sI (i:=8) (own:=[("arc",11)]) (S:=aa) (fun a=>(keep.findIdx? fun(r:Nat)=>r==(merge js d.arcs).getD a 0).getD 0) rfl nd (du (k:=11) (aK (EV T) hr trivial (az (bx (i:=7) q7 rv)))) f7.g2 (cK (by show cu yZ (bE A0) _ _=true;decide+kernel)) (fun _ _ _ _ _=>bT (k:=11) nd) (dS (by decide)) (by show(4:Nat)≤30000;decide) ?_ ?_
  ·rintro a G8 _ ha sg8 ⟨va,ra,rfl⟩ s0 H0 C cl fp;have haA:a<d.arcs:=hxa y hy a ha;have fB:(merge js d.arcs).getD a 0∈keep:=by rw[←hK,dz,x8];have e1:(merge js d.arcs).getD a 0∈jL left (merge js d.arcs):=bR.mpr ⟨y,hy,aH.mpr ⟨a,ha,rfl⟩⟩;exact⟨(Km.o_ hj _).mpr (fg (getD_at (by rw[hm];exact haA))),e1⟩
   have ql:11<(σ0.set 7 (some v)).length:=by rw[gO,hσl];show 11<12;decide
   have q11:=cmp_self (ws:=[11]) (v:=va) ql;have qw:=fun j(hj:j∉[11])=>Qp (τ:=σ0.set 7 (some v)) (ws:=[11]) (k:=11) (v:=va) (by decide) hj;cases q:keep.findIdx? fun r=>r==(merge js d.arcs).getD a 0 with
   |none=>rw[J0]at q;have:=q _ fB;simp at this
   |some j=>exact AL (bx (i:=5) ((qw 5 (by decide)).trans (qj 5 (by decide))) ((ah aa).mono sg8 r5')) (aW (bx (i:=4) ((qw 4 (by decide)).trans (qj 4 (by decide))) ((ah aa).mono sg8 r4')) (XE.int (bx (i:=11) q11 ra)) (bt (getD_at (by rw[hm];exact haA)))) q
  ·intro v8 G8 H8 f8 r8;have q8:((σ0.set 7 (some v)).set 8 (some v8))[8]?=some (some v8):=jC (by rw[gO,hσl];show 8<12;decide);have qj':∀j,j≠8→((σ0.set 7 (some v)).set 8 (some v8))[j]?=(σ0.set 7 (some v))[j]?:=fun j hj=>ip (fun z=>hj z.symm);have r8:(ah aa).rel G8 v8 (y.all.map fun a=>(keep.findIdx? fun(r:Nat)=>r==(merge js d.arcs).getD a 0).getD 0):=r8;refine si (i:=6) ((qj' 6 (by decide)).trans (qj 6 (by decide))) (f7.trans f8) (o7.fwd f8) (qz (qc T) T hr (y:=y.named fun(a:Nat)=>(keep.findIdx? fun(r:Nat)=>r==(merge js d.arcs).getD a 0).getD 0) (aF (aW (bx (i:=8) q8 r8) ax (bt (j:=0) rfl)) (aF (aW (bx (i:=8) q8 r8) ax (bt (j:=1) rfl)) (aF (aW (bx (i:=8) q8 r8) ax (bt (j:=2) rfl)) (aF (aW (bx (i:=8) q8 r8) ax (bt (j:=3) rfl)) (az (XE.cast (g7 T (bx (i:=7) ((qj' 7 (by decide)).trans q7) ((a6 CC).mono f8.hg rv))) rfl))))))) ?_ fun G9 H9 s9 f9 o9=>bp (kk _ G9 H9 (fun j hj=>?_) (by rw[gO,gO];exact hσl) (f8.hg.trans s9) f9 o9)
   ·rw[eI,eC]at hl;simp only[bZ,iW]at hl
    lia
   ·rw[qj' j (by intro z;subst z;exact hj (by decide))];exact qj j hj
 ·intro σ' G' H7 sG f7 o7 hσ hσl;obtain⟨G8,s8,f8,r8⟩:=o7.known f7;rw[eI,vn]at r8;have r4'':=(ah aa).mono (sG.trans s8) r4';have r5'':=(ah aa).mono (sG.trans s8) r5';have hkl:keep.length≤(leasts js d.arcs).length:=by rw[←hK];exact rM _ _
  refine br (i:=9) nd (XE.nat (n:=(leasts js d.arcs).length-keep.length) (jP (Cb T rfl (XE.mq (bx (i:=4) (hσ 4 (by decide)) r4'')) (by rw[bj,hm];lia)) (cN T.len (bx (i:=5) (hσ 5 (by decide)) r5''))) ?_) f8.g2 fun v9 G9 H9 f9 r9=>?_
  ·have:=Km.IT hj;unfold Kb.classes at this;have e:((((merge js d.arcs).map Int.ofNat).foldl KS.dh []).length:Int)=((leasts js d.arcs).length:Int):=congrArg Nat.cast this;rw[e];grind
  ·have lu:=(aA CC CD).mono (f3.hg.trans (f4.hg.trans (f5.hg.trans (s6.trans (sG.trans (s8.trans f9.hg)))))) h0;have q9:(σ'.set 9 (some v9))[9]?=some (some v9):=jC (by rw[hσl];show 9<12;decide);have qj':∀j,j≠9→(σ'.set 9 (some v9))[j]?=σ'[j]?:=fun j hj=>ip (fun z=>hj z.symm);refine a7 (XE.cast (oW (pL T) T hr (bx (i:=6) ((qj' 6 (by decide)).trans (hσ 6 (by decide))) ((ah (a6 CC)).mono f9.hg r8)) (XE.nat (n:=d.c+((leasts js d.arcs).length-keep.length)) (cj (XE.int (eY T (bx (i:=0) ((qj' 0 (by decide)).trans (hσ 0 (by decide))) lu))) (XE.int (bx (i:=9) q9 r9))) (by rw[lG]))) ?_) (f8.trans f9).g2 fun y e_ iQ bP mH=>k y e_ iQ ((f8.trans f9).trans bP) mH;show(⟨_,_⟩:Dia)=d.without gone js;unfold Dia.without;simp only[hL];congr 1
   ·rw[←hK];rfl
   ·rw[←hK];rfl
theorem O7:Def P w K mg base 4 "opened" ["drawing","number"] (Fn (aO (aA CC CD) (aO aa bu)) (aA CC CD) (fun c=>ek c.1∧cH c.1∧∃y,c.1.x[c.2.1]?=some y) fun c=>c.1.open_ c.2.1 (c.1.x.getD c.2.1 ⟨0,0,0,0,false⟩)):=by
 refine T.hs.opened.mk ["drawing","number"] (fun nd H1 vs Q E hr h=>?_);refine JS h fun H d n v0 v1 s1 h0 h1 hh k=>?_;obtain⟨hs,hp,y,hy⟩:=hh;have hy:d.x[n]?=some y:=hy;have e:d.x.getD n ⟨0,0,0,0,false⟩=y:=by rw[bC,hy];rfl
 obtain⟨a,b,c,e'⟩:=hp y (fg hy);refine a7 (XE.cast (aK (GV T) hr (c:=(d,[n],y.along,())) ⟨hs,hp,fun p hp=>?_⟩ (aF (xv 0 h0) (aF (XN.xe (a5 (aV (xv 1 h1) aZ))) (az (XE.cast (aK (Ar T) hr trivial (az (aW (bK T (xv 0 h0)) (XE.int (xv 1 h1)) (bt hy)))) rfl))))) ?_) s1 k
 ·simp only[Cross.along,a_,cA,cV]at hp;rcases hp with rfl|rfl
  ·exact⟨a,e'⟩
  ·exact⟨c,b⟩
 ·show d.without [n] y.along=d.open_ n (d.x.getD n ⟨0,0,0,0,false⟩);rw[e];rfl
theorem K7(d:Dia)(n:Nat)(hy:d.x[n]?=some y):(⟨d.x.set n y.swap,d.c⟩:Dia)=d.flip n:=by
 unfold Dia.flip;congr 1;apply j8;intro i;rw[JK,cz,J6];by_cases q:n=i
 ·subst q;rw[ag rfl,hy,ag (d_.mp hy).1];simp
 ·rw[af q];cases d.x[i]? with
  |none=>rfl
  |some z=>
   have q':¬0+i=n:=by lia
   simp only[yd,af q']
end
section
variable{α β γ δ:Type}{X:Cx}{σ σ0:aS}{H H1 H2 G:Hp}{e ie a b:Expr}{R:Rp α}{S:Rp β}{r:α}{pos p:Pos}{D:Ends}{rest:List Stmt}{x:Str}{i:Nat}{CC CD:Addr}
theorem Bc(hs:σ[i]?=some (some (.ref l)))(hl:H1 l=some (.lst us))(h:XE X σ H e R r)(hi:XE X σ H ie aa j)(hj:j<us.length)(s:aj H H1)(k:∀v G H2,au H H1 G H2→R.rel G v r→WB X rest D σ (upd H2 l (.lst (us.set j v))))(hN:X.N[i]?=some x:=by rfl)(hv:dJ X.env.scope x:=by first|exact Or.inl rfl|exact Or.inr (Or.inl rfl)|exact Or.inr (Or.inr rfl))(hd:(x==("__debug__":Str))=false:=by decide)(bH:(x==("__classdict__":Str))=false:=by decide)(ha:∀v,assign (.Subscript (.Name x p) ie tp) X.env v=(do
   let ov←holding [v] (eval (.Name x p) X.env);let iv←holding [v,ov] (eval ie X.env)
   standAt tp
   holding [v,ov,iv] (setItem ov iv v)
   release [v,ov,iv] []):=by intro _;rfl)(dk:swapsWithSole [.Subscript (.Name x p) ie tp] e pos.line X.env=pure false:=by rfl)(hw:swappedStores [.Subscript (.Name x p) ie tp] e X.env=pure none:=by rfl)(h1:(assignEach [.Subscript (.Name x p) ie tp] X.env).map (·.2)=[assign (.Subscript (.Name x p) ie tp) X.env]:=by rfl):
  WB X (.Assign [.Subscript (.Name x p) ie tp] e pos::rest) D σ H1:=
 cW (PS.ws (Pd aJ (O9 (iF hN hv hd bH) aJ set_list ha) dk hw h1) (h H1 s _ fun v G H2 f rv=>⟨.ref l,hs,(hi.mono f.hg) H2 f.g2 _ fun w G' H3 f' bA=>by cases bA;refine⟨l,us,j,j,rfl,rfl,f'.h2 _ _ (f.h2 _ _ hl),?_,k v G' H3 (f.trans f') (R.mono f'.hg rv)⟩;unfold jm;rw[ag (by simp),ag (by simp[*])];simp⟩))
theorem au.back(f0:au H H1 G H2)(n1:H1 l=Option.none)(ng:G l=Option.none)(h2:H2 l=some o)(f:au (upd G l o) H2 G2 H3):au H H1 (del G2 l) H3∧aj G (del G2 l)∧del G2 l l=Option.none∧H3 l=some o∧G2 l=some o:=by
 have hG2:G2 l=some o:=f.hg l o aE;have hS:aj G (del G2 l):=fun b q e=>by have nb:b≠l:=bB e ng;rw[iM nb];exact f.hg b q (by rw[aB nb];exact e)
 have hd:aj (del G2 l) G2:=fun b q e=>by
  by_cases z:b=l
  ·subst z;unfold del at e;rw[ag rfl]at e;cases e
  ·rw[iM z]at e;exact e
 refine⟨⟨f0.hg.trans hS,hd.trans f.g2,f0.h2.trans f.h2,fun b q e1 e2=>?_⟩,hS,ag rfl,f.h2 _ _ h2,hG2⟩;have nb:b≠l:=bB e2 n1;rw[iM nb];exact f.sep b q (by rw[aB nb];exact f0.sep b q e1 e2) (f0.h2 b q e2)
theorem Mc(hl:G l=some (.lst us))(h:(a6 CC).rel G v y):(a6 CC).rel (del G l) v y:=by obtain⟨q,dx,rfl,hq⟩:=h;exact⟨q,dx,rfl,by rw[iM (HL hq hl (by intro z;cases z))];exact hq⟩
end
section
variable{K:Fg}(T:Txt K mg CC CD)
def jn(d:Dia)(g:List Nat):List Cross:=g.map fun i=>d.x.getD i ⟨0,0,0,0,false⟩
include T
theorem MO:Def P w K mg base 4 "flipped" ["drawing","number"] (Fn (aO (aA CC CD) (aO aa bu)) (aA CC CD) (fun c=>Sm c.1∧c.2.1<c.1.n) fun c=>c.1.flip c.2.1):=by refine T.hs.flipped.mk ["drawing","number","crossings"] (fun nd H1 vs Q E hr h=>?_);refine JS h fun H d n v0 v1 s1 h0 h1 hh k=>?_;obtain⟨hs,hn⟩:=hh;have hn:n<d.x.length:=hn;obtain⟨y,hy⟩:∃y,d.x[n]?=some y:=⟨_,bq hn⟩;refine i4 (i:=2) nd (Hi T.list (bK T (xv 0 h0))) s1 fun l us G H2 f2 n1 ng h2 pr=>?_;have f2k:=f2.aX n1 ng h2;have rl:(ah (a6 CC)).rel (upd G l (.lst us)) (.ref l) d.x:=⟨l,us,rfl,aE,pr.imp fun _ _=>(a6 CC).mono (aj.df ng)⟩;refine Bc (i:=2) (H:=upd G l (.lst us)) rfl h2 (aK (CL T) hr trivial (az (aW (xv 2 rl) (XE.int (xv 1 h1)) (bt hy)))) (xv 1 h1) (by rw[pr.len];exact hn) f2k.g2 fun v G3 H3 f3 r3=>?_;obtain⟨f4,sg,ndl,h3,g3⟩:=au.back f2 n1 ng h2 f3;have r3:=Mc g3 r3;have f5:=f4.put n1 ndl (.lst (us.set n v));have f6:=f5.aX n1 ndl aE;have jx:Paired ((a6 CC).rel (del G3 l)) (us.set n v) (d.x.set n y.swap):=(pr.imp fun _ _=>(a6 CC).mono sg).set n r3;have rl':(ah (a6 CC)).rel (upd (del G3 l) l (.lst (us.set n v))) (.ref l) (d.x.set n y.swap):=⟨l,_,rfl,aE,jx.imp fun _ _=>(a6 CC).mono (aj.df ndl)⟩;have lu:=(aA CC CD).mono (f2.hg.trans (sg.trans (aj.df (o:= .lst (us.set n v)) ndl))) h0;exact a7 (XE.cast (oW (pL T) T hr (xv 2 rl') (eY T (xv 0 lu))) (K7 T d n hy)) f6.g2 fun y G7 H7 f7 r7=>k y G7 H7 (f6.trans f7) r7
theorem As(a b:Nat):decide ((a:Int)=(b:Int))=(a==b):=by lia
theorem HN:Def P w K mg base 1 "is_kink" ["crossing"] (Fn (aC CC) cG (fun _=>True) fun c=>c.1.kink):=by refine T.hs.Ms.mk ["crossing"] (fun nd H1 vs Q E hr h=>?_);refine DX h fun H y v0 s1 h0 hp k=>?_;refine a7 (XE.cast (Bf (nc (XE.int (fP T (xv 0 h0))) (XE.int (eh T (xv 0 h0)))) fun _=>nc (XE.int (fJ T (xv 0 h0))) (XE.int (eN T (xv 0 h0)))) ?_) s1 k;show _=y.kink;unfold Cross.kink;rw[As T,As T]
theorem FV:Def P w K mg base 1 "is_poke" ["one","other"] (Fn (aO (a6 CC) (aO (a6 CC) bu)) cG (fun _=>True) fun c=>poke c.1 c.2.1):=by
 refine T.hs.Vu.mk ["one","other","above","below"] (fun nd H1 vs Q E hr h=>?_);refine JS h fun H y z v0 v1 s1 h0 h1 hp k=>?_;have sgi:∀a b:Bool,sgn a=sgn b→a=b:=by decide
 refine eV (dB (g7 T (xv 0 h0)) (g7 T (xv 1 h1))) s1 (fun q G H2 f2=>?_) fun q G H2 f2=>?_
 ·have e:y.minus=z.minus:=sgi _ _ (gB q);refine a7 (XE.cast vL ?_) f2.g2 fun y G3 H3 f3 r3=>k y G3 H3 (f2.trans f3) r3;show false=poke y z;unfold poke;rw[e,mR];rfl
 ·have e:¬y.minus=z.minus:=fun z=>dH q (by rw[z]);refine bp ?_;have h0:=(a6 CC).mono f2.hg h0;have h1:=(a6 CC).mono f2.hg h1;refine br (i:=2) nd (Bf (nc (XE.int (fJ T (xv 0 h0))) (XE.int (eh T (xv 1 h1)))) fun _=>nc (XE.int (fJ T (xv 1 h1))) (XE.int (eh T (xv 0 h0)))) f2.g2 fun v2 G3 H3 f3 r3=>?_;have h0:=(a6 CC).mono f3.hg h0;have h1:=(a6 CC).mono f3.hg h1;refine br (i:=3) nd (Bf (nc (XE.int (fP T (xv 0 h0))) (XE.int (eN T (xv 1 h1)))) fun _=>nc (XE.int (fP T (xv 1 h1))) (XE.int (eN T (xv 0 h0)))) (f2.trans f3).g2 fun v3 G4 H4 f4 r4=>?_;refine a7 (XE.cast (yu (xv 2 (cG.mono f4.hg r3)) fun _=>xv 3 r4) ?_) ((f2.trans f3).trans f4).g2 fun y G5 H5 f5 r5=>k y G5 H5 (((f2.trans f3).trans f4).trans f5) r5;show _=poke y z;unfold poke;rw[uP.mpr e,Kh];simp only[As T]
theorem QJ(hp:cH d)(g:List Nat)(hg:∀i∈g,i<d.n):gG.ok d.arcs ((jn d g).flatMap Cross.straight):=by
 intro p hm;obtain⟨y,hy,hm⟩:=bR.mp hm;obtain⟨i,hi,rfl⟩:=aH.mp hy;have hy:d.x.getD i ⟨0,0,0,0,false⟩∈d.x:=by rw[bC,bq (hg i hi)];exact lD _
 obtain⟨a,b,c,e⟩:=hp _ hy;simp only[Cross.straight,a_,cA,cV]at hm;rcases hm with rfl|rfl
 ·exact⟨a,b⟩
 ·exact⟨c,e⟩
theorem AI:Def P w K mg base 4 "undone" ["drawing","gone"] (Fn (aO (aA CC CD) (aO (ah aa) bu)) (aA CC CD) (fun c=>ek c.1∧cH c.1∧c.2.1.length≤16∧∀i∈c.2.1,i<c.1.n) fun c=>c.1.without c.2.1 ((jn c.1 c.2.1).flatMap Cross.straight)):=by refine T.hs.undone.mk E3 (fun nd H1 vs Q E hr h=>?_);refine JS h fun H d g v0 v1 s1 h0 h1 hh k=>?_;obtain⟨hs,hp,hl,hg⟩:=hh;have hl:g.length≤16:=hl;have hg:∀i∈g,i<d.n:=hg;refine a7 (aK (GV T) hr ⟨hs,hp,QJ T hp g hg⟩ (aF (xv 0 h0) (aF (xv 1 h1) (az (XN.xe (XN.cast (vZ (vS T) hr (c:=(jn d g,())) (by unfold jn;rw[bj];exact hl) (az (XN.xe (gh (own:=[("number",2)]) (fun i=>d.x.getD i ⟨0,0,0,0,false⟩) rfl nd (du (xv 1 h1)) (cK (by show cu E3 (bE HJ) _ _=true;decide)) (fun _ _ _ _ _=>bT (k:=2) nd) (dS (by decide)) (by lia) ?_)))) rfl)))))) s1 k;rintro i G _ hi sg ⟨vi,ri,rfl⟩ s0 H0 C cl fp;exact aW (bK T (xv 0 ((aA CC CD).mono sg h0))) (XE.int (xv 2 ri)) (bt (by rw[bC,bq (hg i hi)];rfl))
theorem ES:Def P w K mg base 2 "kinks" ["drawing"] (Fn (fu CC CD) (ah (ah aa)) (fun c=>ek c.1) fun c=>(c.1.x.zipIdx.filter fun y=>y.1.kink).map fun y=>[y.2]):=by
 refine T.hs.S6.mk Cr (fun nd H1 vs Q E hr h=>?_);refine DX h fun H d v0 s1 h0 hs k=>?_;have hs:d.x.length≤8:=hs;refine a7 (XN.xe (sV (own:=[("number",1),("crossing",2)]) (S:=ah aa) (fun y:Cross×Nat=>[y.2]) (fun y=>y.1.kink) rfl nd (nB (j:=1) (k:=2) T.enumerate (bK T (xv 0 h0))) (cK (by show cu Cr (bE Iv) _ _=true;decide+kernel)) (fun _ _ _ _ _=>gF (j:=1) (k:=2) rfl nd) (sR (by decide) (by decide)) (by rw[mV];show d.x.length≤30000;lia) ?_ ?_)) s1 k
 ·rintro⟨y,j⟩ G _ hm sg ⟨vj,va,rj,ra,rfl⟩;exact l9 fun s0 H0 C cl fp=>nh (XE.cast (aK (HN T) hr trivial (az (xv 2 ra))) rfl)
 ·rintro⟨y,j⟩ G _ hm hc sg ⟨vj,va,rj,ra,rfl⟩ s0 H0 C cl fp;exact XN.xe (a5 (aV (xv 1 rj) aZ))
theorem UG:Def P w K mg base 3 "raised" ["crossing","more"] (Fn (aO (a6 CC) (aO aa bu)) (a6 CC) (fun _=>True) fun c=>c.1.named fun a=>a+c.2.1):=by refine T.hs.raised.mk ["crossing","more"] (fun nd H1 vs Q E hr h=>?_);refine JS h fun H y m v0 v1 s1 h0 h1 hp k=>?_;exact a7 (qz (qc T) T hr (y:=y.named fun a=>a+m) (aF (XE.nat (cj (XE.int (eN T (xv 0 h0))) (XE.int (xv 1 h1))) (lG _ _).symm) (aF (XE.nat (cj (XE.int (fP T (xv 0 h0))) (XE.int (xv 1 h1))) (lG _ _).symm) (aF (XE.nat (cj (XE.int (eh T (xv 0 h0))) (XE.int (xv 1 h1))) (lG _ _).symm) (aF (XE.nat (cj (XE.int (fJ T (xv 0 h0))) (XE.int (xv 1 h1))) (lG _ _).symm) (az (XE.cast (g7 T (xv 0 h0)) rfl))))))) s1 k
theorem CG:Def P w K mg base 4 "beside" ["one","other"] (Fn (aO (aA CC CD) (aO (aA CC CD) bu)) (aA CC CD) (fun c=>ek c.1∧ek c.2.1) fun c=>c.1.beside c.2.1):=by
 refine T.hs.beside.mk GH (fun nd H1 vs Q E hr h=>?_);refine JS h fun H d e v0 v1 s1 h0 h1 hh k=>?_;obtain⟨hd,he⟩:=hh;have hd:d.x.length≤8:=hd;have he:e.x.length≤8:=he;refine sI (i:=2) (own:=[("crossing",3)]) (S:=a6 CC) (fun y:Cross=>y.named fun a=>a+d.arcs) rfl nd (du (bK T (xv 1 h1))) s1 (cK (by show cu GH (bE Ff) _ _=true;decide)) (fun _ _ _ _ _=>bT (k:=3) nd) (dS (by decide)) (by show e.x.length≤30000;lia) ?_ ?_
 ·rintro y G _ hy sg ⟨vy,ry,rfl⟩ s0 H0 C cl fp;exact XE.cast (aK (UG T) hr trivial (aF (xv 3 ry) (az (XE.cast (aK (gi T) hr trivial (az (xv 0 ((aA CC CD).mono sg h0)))) rfl)))) rfl
 ·intro v2 G H2 f2 r2;have h0:=(aA CC CD).mono f2.hg h0;have h1:=(aA CC CD).mono f2.hg h1;exact a7 (XE.cast (oW (pL T) T hr (XN.xe (qG (bK T (xv 0 h0)) (xv 2 r2) (by rw[bj];show d.x.length+e.x.length≤1000;lia))) (XE.nat (cj (XE.int (eY T (xv 0 h0))) (XE.int (eY T (xv 1 h1)))) (lG _ _).symm)) rfl) f2.g2 fun y G3 H3 f3 r3=>k y G3 H3 (f2.trans f3) r3
end
section
variable{α β γ δ:Type}{X:Cx}{σ σ0:aS}{H H1 H2 G:Hp}{e ie a b o:Expr}{R:Rp α}{S:Rp β}{r:α}{pos p:Pos}{D:Ends}{rest:List Stmt}{x:Str}{i:Nat}{CC CD:Addr}
theorem tI(W:Nat→aS→Hp→Prop)(h0:∃m,W m σ H1)(hs:∀m σ' H',W m σ' H'→WT X c σ' H' fun q H2=>if q=true then WB X body {nx:=fun σ'' bV=>∃m',m'<m∧W m' σ'' bV,rt:=D.rt,ct:=fun σ'' bV=>∃m',m'<m∧W m' σ'' bV,bk:=WB X rest D} σ' H2 else WB X rest D σ' H2)(hp:PassesOwn (model X.prog X.w) X.A X.env X.xe:=by exact jE):WB X (.While c body [] pos::rest) D σ H1:=by refine cW (PS.ws (WV hp iK lP) ⟨W,h0,fun m σ' H' hw=>WT.mono (hs m σ' H' hw) fun q H2 h=>?_⟩);grind
theorem xt(ho:qE X op (u6 f))(hN:X.N.Nodup)(hx:σ[i]?=some (some (.int z)))(h:XE X σ H e aq y)(s:aj H H1)(k:∀G H2,au H H1 G H2→WB X rest D (σ.set i (some (.int (f z y)))) H2)(hi:X.N[i]?=some x:=by rfl)(hl:Loc X.env.scope x:=by first|exact Or.inl rfl|exact Or.inr rfl)(hf:X.fn x=true∨X.env.scope.names.lookup x=some .local:=by first|exact .inl rfl|exact .inr rfl|assumption):WB X (.AugAssign (.Name x p) op e pos::rest) D σ H1:=
 cW (PS.ws (Ut hN hi hl aJ ho hf) ⟨.int z,hx,h H1 s _ fun v G H2 fw rv=>by cases rv;exact⟨z,y,rfl,rfl,k G H2 fw⟩⟩)
def bc(xs:List (Int×Int)):List (Key×V):=xs.map fun x=>(Sum.inl x.1,V.int x.2)
def ic:Rp (List (Int×Int)):=⟨fun H v xs=>∃a,v= .ref a∧H a=some (.dK (bc xs)),fun s⟨a,e,h⟩=>⟨a,e,s _ _ h⟩⟩
def fU(xs:List (Int×Int))(k:Int):Option Int:=(xs.find? fun x=>decide (x.1=k)).map (·.2)
theorem Hg(k:Int):∀xs:List (Int×Int),bD (bc xs) (Sum.inl k)=(fU xs k).map V.int
 |[]=>rfl
 |x::xs=>by have ih:=Hg k xs;unfold bD bc fU at*;grind
theorem rZ(hu:X.A.units+1<cLine)(ho:XE X σ H o ic xs)(he:XE X σ H e aq k)(hf:XE X σ H f aq z)(m:M2 X o "get" ap e f cp):XE X σ H (.Call (.Attribute o "get" ap) [e,f] [] cp) aq ((fU xs k).getD z):=fun H1 s Q q=>
 PE.we (FX hu aJ aJ aJ m) (ho H1 s _ fun v G H2 fw⟨d,ev,hd⟩=>by subst ev;refine⟨d,rfl, .inl ⟨_, .inl (fw.g2 _ _ hd)⟩,(he.mono fw.hg) H2 fw.g2 _ fun w G' H3 cP bA=>(hf.mono (fw.hg.trans cP.hg)) H3 cP.g2 _ fun u jV H4 qT ru=>?_⟩;cases bA;cases ru;refine⟨_,i5.k (k:=Sum.inl k) (qT.h2 _ _ (cP.h2 _ _ (fw.g2 _ _ hd))),q _ jV H4 ((fw.trans cP).trans qT) ?_⟩;rw[Hg];cases fU xs k<;>rfl)
def XD(X:Cx)(σ:aS)(H:Hp)(e:Expr)(xs:List (Int×Int)):Prop:=
 ∀H1,aj H H1→∀Q:VK,(∀d G H2,au H H1 G H2→H1 d=Option.none→G d=Option.none→H2 d=some (.dK (bc xs))→Q (.ref d) H2)→WE X e σ H1 Q
theorem XD.xe(h:XD X σ H e xs):XE X σ H e ic xs:=fun H1 s Q k=>
 h H1 s Q fun d G H2 f h1 hg h2=>k (.ref d) (upd G d (.dK (bc xs))) H2 (f.aX h1 hg h2) ⟨d,rfl,aE⟩
def XP(X:Cx)(pos:Pos)(σ:aS)(H:Hp)(keys:List (Option Expr))(values:List Expr)(xs:List (Int×Int)):Prop:=
 ∃ij,sX X pos keys values ij∧∀H' H1,aj H H'→aj H' H1→∀Q:List (V×V)→Hp→Prop,(∀G H2,au H' H1 G H2→Q (xs.map fun x=>(V.int x.1,V.int x.2)) H2)→wq ij σ H1 Q
theorem uh:XP X pos σ H [] [] []:=⟨[],UD,fun H' H1 s' s Q k=>k H' H1 (au.cf s)⟩
theorem oK(hk:XE X σ H a aq k)(hv:XE X σ H b aq v)(h:XP X pos σ H ks vs xs):XP X pos σ H (some a::ks) (b::vs) ((k,v)::xs):=by obtain⟨ij,pp,h⟩:=h;refine⟨_,VB aJ aJ pp,fun H' H1 s' s Q q=>(hk.mono s') H1 s _ fun x G H2 f rx=>(hv.mono (s'.trans f.hg)) H2 f.g2 _ fun y G' H3 f' ry=>h G' H3 (s'.trans (f.hg.trans f'.hg)) f'.g2 _ fun jV H4 lr=>?_⟩;cases rx;cases ry;exact q jV H4 ((f.trans f').trans lr)
def dv(xs:List (Int×Int))(k v:Int):List (Int×Int):=if(xs.any fun x=>decide (x.1=k))=true then xs.map fun x=>if x.1=k then(k,v)else x else xs++[(k,v)]
theorem Dg(xs:List (Int×Int))(k v:Int):putK (bc xs) (Sum.inl k) (V.int v)=bc (dv xs k v):=by
 unfold putK dv;have e:((bc xs).any fun kv=>decide (kv.1=(Sum.inl k:Key)))=(xs.any fun x=>decide (x.1=k)):=by unfold bc;rw[List.any_map];congr 1;funext x;simp
 rw[e];by_cases q:(xs.any fun x=>decide (x.1=k))=true
 ·rw[ag q,ag q];unfold bc;rw[b7,b7];refine ef fun x _=>?_;simp only[Function.comp];by_cases z:x.1=k
  ·simp[z]
  ·simp[z]
 ·rw[af q,af q];unfold bc;rw[eJ];rfl
theorem tN(h:XP X pos σ H keys vals xs)(hx:xs.length≤15)(cY:keys.all (·.isSome)=true:=by rfl)(hl:keys.length=vals.length:=by rfl)(h0:keys≠[]:=by simp)(h15:keys.length≤15:=by decide):
  XD X σ H (.Dict keys vals pos) (xs.foldl (fun acc x=>dv acc x.1 x.2) []):=fun H1 s Q q=>by
 obtain⟨ij,pp,h⟩:=h;refine PE.we (OR pp cY hl h0 h15) fun d hd=>?_;have hH:H d= .none:=s.free hd;refine h H _ (aj.refl _) (fun c o e=>by rw[aB (bB e hH)];exact s c o e) _ fun G H2 f=>?_;have ng:G d= .none:=f.sep d _ hH aE;refine⟨f.h2 _ _ aE,xs.map fun x=>(Sum.inl x.1,V.int x.2),by rw[b7];rfl,by rw[bj];exact hx,?_⟩;have f':au H H1 G H2:=⟨f.hg,f.g2,fun c o e=>f.h2 c o (by rw[aB (bB e hd)];exact e),fun c o e1 e2=>f.sep c o e1 (by rw[aB (bB e2 hd)];exact e2)⟩;have e:nR [] (xs.map fun x=>(Sum.inl x.1,V.int x.2))=bc (xs.foldl (fun acc x=>dv acc x.1 x.2) []):=by
  have:∀(ys:List (Int×Int))(acc:List (Int×Int)),nR (bc acc) (ys.map fun x=>(Sum.inl x.1,V.int x.2))=bc (ys.foldl (fun acc x=>dv acc x.1 x.2) acc):=by
   intro ys;induction ys with
   |nil=>intro acc;rfl
   |cons y ys ih=>intro acc;show nR (putK (bc acc) (Sum.inl y.1) (V.int y.2)) (ys.map fun x=>(Sum.inl x.1,V.int x.2))=_;rw[Dg,ih];rfl
  exact this xs []
 rw[e];exact q d G _ (f'.put hd ng _) hd ng aE
end
def x0:Cross:=⟨0,0,0,0,false⟩
def jt(d:Dia)(y:Cross×Nat):List (List Nat):=(ups ((y.2:Int)+1) ((d.x.length:Int)-((y.2:Int)+1)).toNat).flatMap fun z=>if poke y.1 (d.x.getD z.toNat x0)=true then [[y.2,z.toNat]]else []
def d4(d:Dia):List (List Nat):=d.x.zipIdx.flatMap (jt d)
theorem oZ{lo:Int}(h:z∈ups lo n):lo≤z∧z<lo+n:=by obtain⟨i,hi,rfl⟩:=aH.mp h;grind
theorem kz(lo:Int)(n:Nat):(ups lo n).length=n:=by simp[ups]
theorem AY{f:α→List β}(h:∀a,(f a).length≤n):∀xs:List α,(xs.flatMap f).length≤n*xs.length
 |[]=>by simp
 |x::xs=>by
  have:=h x;have:=AY h xs;rw[dY,cZ,bZ,x6,Nat.mul_one]
  lia
theorem VY(d:Dia)(y:Cross×Nat):(jt d y).length≤1*d.x.length:=by refine cx (AY (n:=1) (fun z=>by split<;>simp) _) ?_;rw[kz];omega
theorem GG(d:Dia):(d4 d).length≤d.x.length*d.x.length:=by refine cx (AY (fun y=>by have:=VY d y;omega) _) ?_;simp_all
section
variable{K:Fg}(T:Txt K mg CC CD)
include T
theorem Ie:Def P w K mg base 2 "pokes" ["drawing"] (Fn (fu CC CD) (ah (ah aa)) (fun c=>ek c.1) fun c=>d4 c.1):=by
 refine T.hs.Yb.mk GP (fun nd H1 vs Q E hr h=>?_);refine DX h fun H d v0 s1 h0 hs k=>?_;have hs:d.x.length≤8:=hs;have bo:=GG d;have h0:(aA CC CD).rel H v0 d:=h0;have h64:d.x.length*d.x.length≤64:=Nat.mul_le_mul hs hs;refine iN (i:=1) (R:=ah aa) nd (a5 aZ) (au.cf s1) fun l G H2 sg f2 o2=>?_;have h0:=(aA CC CD).mono sg h0;refine xi (ks:=[2,3,4]) (jt d) rfl (gF (j:=2) (k:=3) rfl nd) (nB (j:=2) (k:=3) T.enumerate (bK T (xv 0 h0))) DP (by decide) f2 o2 ?_ ?_
 ·rintro⟨y,j⟩ G' H3 σ0 σ' bU hy sG f3 o3 hσ hσl ⟨vj,vy,rj,ry,rfl⟩ hl D' kk;have cb:((σ0.set 2 (some vj)).set 3 (some vy)).length=5:=by rw[gO,gO,hσl];rfl
  have q2:((σ0.set 2 (some vj)).set 3 (some vy))[2]?=some (some vj):=by rw[ip (by decide),jC (by rw[hσl];show 2<5;decide)]
  have q3:((σ0.set 2 (some vj)).set 3 (some vy))[3]?=some (some vy):=jC (by rw[gO,hσl];show 3<5;decide);have qj:∀t,t∉[2,3,4]→((σ0.set 2 (some vj)).set 3 (some vy))[t]?=(List.set (L2.start GP [v0]) 1 (some (.ref l)))[t]?:=fun t ht=>by rw[ip (by intro z;subst z;exact ht (by decide)),ip (by intro z;subst z;exact ht (by decide))];exact hσ t ht
  generalize hτ:(σ0.set 2 (some vj)).set 3 (some vy)=τ at cb q2 q3 qj;have h0:=(aA CC CD).mono sG h0;have hjl:j<d.x.length:=by have:=List.snd_lt_of_mem_zipIdx hy;simpa using this
  rw[eI]at hl;refine xi (R:=ah aa) (ks:=[4]) (σ:=τ) (fun z:Int=>if poke y (d.x.getD z.toNat x0)=true then [[j,z.toNat]]else []) rfl (bT (k:=4) nd) (zR (k:=4) T.range (cj (XE.int (bx (i:=2) q2 rj)) ax) (cN T.len (bK T (bx (qj 0 (by decide)) h0))) (by lia)) kq (by decide) f3 o3 ?_ ?_
  ·rintro z G4 H4 σ1 σ2 acc2 hz sG4 f4 o4 hσ1 hσ1l ⟨vz,rz,rfl⟩ jR D2 k2;obtain⟨zl,zh⟩:=oZ hz;have hzn:z.toNat<d.x.length:=by lia
   have rz':aa.rel G4 vz z.toNat:=by show vz=V.int ((z.toNat:Nat):Int);rw[show((z.toNat:Nat):Int)=z by lia];exact rz
   have p4:=zf (v:=vz) (k:=4) hσ1l (by rw[cb];decide);have pj:∀t,t≠4→(σ1.set 4 (some vz))[t]?=τ[t]?:=fun t ht=>by rw[ip (fun z=>ht z.symm)];exact hσ1 t (by simp[ht])
   have hgz:d.x[z.toNat]?=some (d.x.getD z.toNat x0):=by rw[bC,bq hzn];rfl
   refine eV (nh (XE.cast (aK (FV T) hr trivial (aF (bx ((pj 3 (by decide)).trans q3) ((a6 CC).mono sG4 ry)) (az (aW (bK T (bx (i:=0) ((pj 0 (by decide)).trans (qj 0 (by decide))) ((aA CC CD).mono sG4 h0))) (XE.int (bx p4 rz')) (bt hgz))))) rfl)) f4.g2 (fun q G5 H5 f5=>?_) fun q G5 H5 f5=>?_
   ·refine si ((pj 1 (by decide)).trans (qj 1 (by decide))) (f4.trans f5) (o4.fwd f5) (XN.xe (a5 (aV (bx (i:=2) ((pj 2 (by decide)).trans q2) rj) (aV (bx p4 rz') aZ)))) ?_ fun G6 H6 s6 f6 o6=>bp (bp (k2 _ G6 H6 ?_ (by rw[gO];exact hσ1l) (f5.hg.trans s6) f6 ?_))
    ·have e1:((ups (j+1) ((d.x.length:Int)-((j:Int)+1)).toNat).flatMap fun z:Int=>if poke y (d.x.getD z.toNat x0)=true then [[j,z.toNat]]else [])=jt d (y,j):=rfl;rw[cZ,e1]at jR;have e2:(List.flatMap (jt d) d.x.zipIdx)=d4 d:=rfl;rw[e2]at hl
     lia
    ·exact fun t ht=>pj t (by intro z;subst z;exact ht (by decide))
    ·have q:poke y (d.x.getD z.toNat x0)=true:=q;rw[ag q];exact o6
   ·refine bp (bp (k2 _ G5 H5 (fun t ht=>pj t (by intro z;subst z;exact ht (by decide))) (by rw[gO];exact hσ1l) f5.hg (f4.trans f5) ?_));have q:poke y (d.x.getD z.toNat x0)=false:=q;rw[af (by rw[q];simp),pS];exact o4.fwd f5
  ·intro σ3 G5 H5 s5 f5 o5 hσ3 hσ3l;refine bp (kk σ3 G5 H5 (fun t ht=>?_) (by rw[hσ3l,cb];rfl) s5 f5 o5);rw[hσ3 t (by simp;intro z;subst z;exact ht (by decide))];exact qj t ht
 ·intro σ' G' H3 sG f3 o3 hσ hσl;obtain⟨G4,s4,f4,r4⟩:=o3.known f3;exact gD (hσ 1 (by decide)) (k _ G4 H3 f4 (by rw[eI]at r4;exact r4))
theorem NA:Def P w K mg base 3 "other_head" ["crossing","heads"] (Fn (aO (a6 CC) (aO ic bu)) (a6 CC) (fun c=>∃i j:Nat,i≠j∧c.2.1=[((i:Int),(j:Int)),((j:Int),(i:Int))]) fun c=>{c.1 with ui:=((fU c.2.1 c.1.ui).getD c.1.ui).toNat,oi:=((fU c.2.1 c.1.oi).getD c.1.oi).toNat}):=by
 refine T.hs.L7.mk ["crossing","heads","ui","oi"] (fun nd H1 vs Q E hr h=>?_);refine JS h fun H y xs v0 v1 s1 h0 h1 hh k=>?_;obtain⟨i,j,iS,hx⟩:=hh;have hx:xs=[((i:Int),(j:Int)),(j,i)]:=hx;have hn:∀a:Nat,(fU xs a).getD a=(((fU xs a).getD a).toNat:Int):=fun a=>by
  rw[hx];unfold fU;simp;by_cases q1:i=(a:Int)
  ·simp[q1]
  ·by_cases q2:j=(a:Int)
   ·simp[q1,q2]
   ·simp[q1,q2]
 have hu:∀{m:Nat}{B:Around},bM m B→B.units+1<cLine:=fun r=>iE r;refine br (i:=2) nd (XE.nat (rZ (iE hr) (xv 1 h1) (XE.int (eN T (xv 0 h0))) (XE.int (eN T (xv 0 h0))) ⟨rfl,rfl,rfl,rfl⟩) (hn y.ui)) s1 fun v2 G2 H2 f2 r2=>?_;have h0:=(a6 CC).mono f2.hg h0;have h1:=ic.mono f2.hg h1;refine br (i:=3) nd (XE.nat (rZ (iE hr) (xv 1 h1) (XE.int (eh T (xv 0 h0))) (XE.int (eh T (xv 0 h0))) ⟨rfl,rfl,rfl,rfl⟩) (hn y.oi)) f2.g2 fun v3 G3 H3 f3 r3=>?_;have h0:=(a6 CC).mono f3.hg h0;exact a7 (qz (qc T) T hr (y:={y with ui:=((fU xs y.ui).getD y.ui).toNat,oi:=((fU xs y.oi).getD y.oi).toNat}) (aF (xv 2 (aa.mono f3.hg r2)) (aF (XE.cast (fP T (xv 0 h0)) rfl) (aF (xv 3 r3) (aF (XE.cast (fJ T (xv 0 h0)) rfl) (az (XE.cast (g7 T (xv 0 h0)) rfl))))))) (f2.trans f3).g2 fun z G4 H4 f4 r4=>k z G4 H4 ((f2.trans f3).trans f4) r4
theorem W_:Def P w K mg base 5 "joined" ["one","arc","other","second_arc"] (Fn (aO (aA CC CD) (aO aa (aO (aA CC CD) (aO aa bu)))) (aA CC CD) (fun c=>ek c.1∧ek c.2.2.1∧c.2.1<c.1.arcs) fun c=>c.1.join c.2.2.1 c.2.1 c.2.2.2.1):=by
 refine T.hs.joined.mk Hj (fun nd H1 vs Q E hr h=>?_);refine KQ h fun H d i e j v0 v1 v2 v3 s1 h0 h1 h2 h3 hh k=>?_;obtain⟨hd,he,hi⟩:=hh;have hi:i<d.arcs:=hi;refine br (i:=4) nd (aK (CG T) hr (c:=(d,e,())) ⟨hd,he⟩ (aF (xv 0 h0) (az (xv 2 h2)))) s1 fun v4 G4 H4 f4 r4=>?_;have h0:=(aA CC CD).mono f4.hg h0;have r4:(aA CC CD).rel G4 v4 (d.beside e):=r4;refine br (i:=5) nd (XE.nat (n:=j+d.arcs) (cj (XE.int (xv 3 (aa.mono f4.hg h3))) (XE.int (XE.cast (aK (gi T) hr trivial (az (xv 0 h0))) rfl))) (lG _ _).symm) f4.g2 fun v5 G5 H5 f5 r5=>?_;have r4:=(aA CC CD).mono f5.hg r4;have h1:aa.rel G5 v1 i:=h1;have da:¬(i:Int)=((j+d.arcs:Nat):Int):=by lia
 have Bo:([((i:Int),((j+d.arcs:Nat):Int)),(((j+d.arcs:Nat):Int),(i:Int))].foldl (fun acc x=>dv acc x.1 x.2) [])=[((i:Int),((j+d.arcs:Nat):Int)),(((j+d.arcs:Nat):Int),(i:Int))]:=by simp only[gP,List.foldl_nil,dv,List.any_nil,rg,ed,c8,eI];rw[cU da];rfl
 refine br (i:=6) nd (XE.cast (XD.xe (tN (oK (XE.int (xv 1 h1)) (XE.int (xv 5 r5)) (oK (XE.int (xv 5 r5)) (XE.int (xv 1 h1)) uh)) (by simp))) Bo) (f4.trans f5).g2 fun v6 G6 H6 f6 r6=>?_;have r4:=(aA CC CD).mono f6.hg r4;have hbl:(d.beside e).x.length≤16:=by
  show(d.x++e.x.map _).length≤16;have:d.x.length≤8:=hd;have:e.x.length≤8:=he;rw[cZ,bj]
  lia
 refine a7 (XE.cast (oW (pL T) T hr (XN.xe (gh (own:=[("crossing",7)]) (S:=a6 CC) (fun y:Cross=>{y with ui:=((fU [((i:Int),((j+d.arcs:Nat):Int)),(((j+d.arcs:Nat):Int),(i:Int))] y.ui).getD y.ui).toNat,oi:=((fU [((i:Int),((j+d.arcs:Nat):Int)),(((j+d.arcs:Nat):Int),(i:Int))] y.oi).getD y.oi).toNat}) rfl nd (du (k:=7) (bK T (xv 4 r4))) (cK (by show cu Hj (bE Dz) _ _=true;decide+kernel)) (fun _ _ _ _ _=>bT (k:=7) nd) (dS (by decide)) (by lia) ?_)) (eY T (xv 4 r4))) ?_) ((f4.trans f5).trans f6).g2 fun z G7 H7 f7 r7=>k z G7 H7 (((f4.trans f5).trans f6).trans f7) r7
 ·rintro y G7 _ hy sg ⟨vy,ry,rfl⟩ s0 H0 C cl fp;exact XE.cast (aK (NA T) hr (c:=(y,[((i:Int),((j+d.arcs:Nat):Int)),(((j+d.arcs:Nat):Int),(i:Int))],())) ⟨i,j+d.arcs,by lia,rfl⟩ (aF (xv 7 ry) (az (xv 6 (ic.mono sg r6))))) rfl
 ·show(⟨_,_⟩:Dia)=d.join e i j;unfold Dia.join Dia.heads;congr 1;refine ef fun y _=>?_;have hg:∀a:Nat,((fU [((i:Int),((j+d.arcs:Nat):Int)),(((j+d.arcs:Nat):Int),(i:Int))] a).getD a).toNat=if a=i then j+d.arcs else if a=j+d.arcs then i else a:=fun a=>by
   unfold fU;simp only[jD,List.find?_nil];by_cases q1:i=a
   ·rw[ag q1.symm,fZ (show(i:Int)=(a:Int) by simp[*])];exact cF _
   ·rw[af (fun z=>q1 z.symm)];have q1':¬(i:Int)=(a:Int):=by lia
    rw[cU q1'];by_cases q2:j+d.arcs=a
    ·rw[ag q2.symm,fZ (show((j+d.arcs:Nat):Int)=(a:Int) by simp[*])];exact cF _
    ·rw[af (fun z=>q2 z.symm)];have n9:¬((j+d.arcs:Nat):Int)=(a:Int):=by lia
     rw[cU n9];simp
  simp only[hg]
end
end Kn
namespace Km
open Kb
def cI(n:Nat)(l:List Nat)(F:List Nat)(r:Nat):Nat:=(range n).countP fun x=>decide (l.getD x 0=r)&&!F.contains x
theorem XX(ha:a<n)(hp:p a=true):(range n).countP (fun x=>p x&&!(x==a))+1=(range n).countP p:=by
 induction n with
 |zero=>simp_all
 |succ n ih=>
  rw[jF,x9,x9,Ki,Ki];by_cases q:a=n
  ·subst q;simp only[hp,beq_self_eq_true,uH,JT,ed,c8,dR,BK];congr 1;refine x_ fun x hx=>?_;grind
  ·lia
theorem XZ(h:∀x,¬(p x=true∧q x=true)):(range n).countP (fun x=>p x||q x)=(range n).countP p+(range n).countP q:=by
 induction n with
 |zero=>rfl
 |succ n ih=>simp only[jF,x9,Ki,ih];grind
theorem Dq(M:Mg l n)(h1:p.1<n)(h2:p.2<n)(hc:c<n)(hcF:F.contains c=false)(hcu:l.getD c 0=l.getD p.1 0∨l.getD c 0=l.getD p.2 0)(r:Nat):
  cI n (c_ l p) (c::F) r=if r=min (l.getD p.1 0) (l.getD p.2 0)then(if l.getD p.1 0=l.getD p.2 0 then cI n l F (l.getD p.1 0)else cI n l F (l.getD p.1 0)+cI n l F (l.getD p.2 0))-1 else if r=l.getD p.1 0∨r=l.getD p.2 0 then 0 else cI n l F r:=by
 have dj:∀x,x<n→(c_ l p).getD x 0=if l.getD x 0=l.getD p.1 0∨l.getD x 0=l.getD p.2 0 then min (l.getD p.1 0) (l.getD p.2 0)else l.getD x 0:=fun x hx=>qa (by rw[M.len];exact hx)
 generalize l.getD p.1 0=u at*;generalize l.getD p.2 0=v at*;by_cases hr:r=min u v
 ·rw[ag hr];have e1:cI n (c_ l p) (c::F) r=(range n).countP (fun x=>((decide (l.getD x 0=u)||decide (l.getD x 0=v))&&!F.contains x)&&!(x==c)):=by refine x_ fun x hx=>?_;grind
  rw[e1];have e2:=XX (p:=fun x=>(decide (l.getD x 0=u)||decide (l.getD x 0=v))&&!F.contains x) hc (by
   have:(decide (l.getD c 0=u)||decide (l.getD c 0=v))=true:=by simpa using hcu
   rw[this,hcF];rfl)
  have e3:(range n).countP (fun x=>(decide (l.getD x 0=u)||decide (l.getD x 0=v))&&!F.contains x)=if u=v then cI n l F u else cI n l F u+cI n l F v:=by
   by_cases q:u=v
   ·rw[ag q];unfold cI;simp[*]
   ·rw[af q];unfold cI;rw[←XZ]
    ·grind
    ·lia
  lia
 ·rw[af hr];by_cases hruv:r=u∨r=v
  ·rw[ag hruv];unfold cI;grind-ring-lia-linarith-order
  ·rw[af hruv];refine x_ fun x hx=>?_;rw[bQ]at hx;rw[dj x hx,BI];by_cases q:l.getD x 0=u∨l.getD x 0=v
   ·rw[ag q];have a1:¬min u v=r:=fun z=>hr z.symm;have a2:¬l.getD x 0=r:=by intro z;apply hruv;rwa[←z]
    rw[cU a1,cU a2];simp
   ·rw[af q];have:(x==c)=false:=by rw[iT];intro z;subst z;exact q hcu
    simp[this]
theorem FY:∀(js:List (Nat×Nat))(l F S:List Nat),(∀p∈js,p.1<n∧p.2<n)→Mg l n→(js.map (·.1)).Nodup→(js.map (·.2)).Nodup→(∀a∈js.map (·.1),F.contains a=false)→(∀a∈js.map (·.2),S.contains a=false)→
  (∀r,cI n l F r=cI n l S r∧cI n l F r≤1)→∀r,cI n (js.foldl c_ l) ((js.map (·.1)).reverse++F) r=cI n (js.foldl c_ l) ((js.map (·.2)).reverse++S) r∧cI n (js.foldl c_ l) ((js.map (·.1)).reverse++F) r≤1
 |[],l,F,S,_,_,_,_,_,_,h=>h
 |p::js,l,F,S,hj,M,n1,n2,hF,hS,h=>by
  obtain⟨h1,h2⟩:=hj p (by simp);rw[a9,fY]at n1 n2;have f1:F.contains p.1=false:=hF p.1 (by simp);have s1:S.contains p.2=false:=hS p.2 (by simp);have key:∀r,cI n (c_ l p) (p.1::F) r=cI n (c_ l p) (p.2::S) r∧cI n (c_ l p) (p.1::F) r≤1:=by intro r;rw[Dq M h1 h2 h1 f1 (.inl rfl),Dq M h1 h2 h2 s1 (.inr rfl)];grind
  have r:=FY js (c_ l p) (p.1::F) (p.2::S) (fun q hq=>hj q (bW _ hq)) (za M h1 h2) n1.2 n2.2 (fun a ha=>?_) (fun a ha=>?_) key
  ·grind
  ·rw[BI];have:(a==p.1)=false:=iT.mpr fun z=>by subst z;exact n1.1 ha
   rw[this,JV];exact hF a (bW _ ha)
  ·rw[BI];have:(a==p.2)=false:=iT.mpr fun z=>by subst z;exact n2.1 ha
   rw[this,JV];exact hS a (bW _ ha)
theorem RQ(hj:∀p∈js,p.1<n∧p.2<n)(n1:(js.map (·.1)).Nodup)(n2:(js.map (·.2)).Nodup)(r:Nat):
  cI n (merge js n) (js.map (·.1)) r=cI n (merge js n) (js.map (·.2)) r∧cI n (merge js n) (js.map (·.1)) r≤1:=by
 have h0:∀r,cI n (range n) [] r=cI n (range n) [] r∧cI n (range n) [] r≤1:=by
  intro r;refine⟨rfl,?_⟩;unfold cI;have:(range n).countP (fun x=>decide ((range n).getD x 0=r)&&!([]:List Nat).contains x)=(range n).countP (fun x=>x==r):=by refine x_ fun x hx=>?_;simp_all
  rw[this];show(range n).count r≤1;grind
 have:=FY js (range n) [] [] hj (zW n) n1 n2 (by simp) (by simp) h0 r;simp at this;have rv:∀(L F:List Nat),cI n L F.reverse r=cI n L F r:=by intro L F;unfold cI;simp
 rwa[rv,rv]at this
theorem Mf:∀{k:List Nat},k.Nodup→k.map (fun r=>(k.findIdx? fun z=>z==r).getD 0)=range k.length:=by
 intro k hk;apply j8;intro i;rw[cz];by_cases hi:i<k.length
 ·rw[oy hi,bq hi];congr 1;have:k.findIdx? (fun z=>z==k[i])=some i:=by
   rw[rK];refine⟨hi,by simp,fun j hj=>?_⟩;simp;intro z;have:=(List.getElem_inj hk).mp z
   lia
  simp[*]
 ·simp[*]
def Good(d:Dia):Prop:=(∀y∈d.x,y.ui<d.arcs∧y.uo<d.arcs∧y.oi<d.arcs∧y.oo<d.arcs)∧tD d
theorem MS(x:List Cross):(x.flatMap fun y:Cross=>[y.ui,y.oi]).length=2*x.length:=by
 induction x with
 |nil=>rfl
 |cons y l ih=>rw[dY,cZ,ih,bZ];simp;lia
theorem fS:Good d↔d.ins.Perm (range d.arcs)∧d.outs.Perm (range d.arcs):=by
 have cr:∀a,a<d.arcs→(range d.arcs).count a=1:=fun a ha=>by simp[*]
 have key:∀l:List Nat,(∀a∈l,a<d.arcs)→(∀a,a<d.arcs→often a l=1)→l.Perm (range d.arcs):=by
  intro l h1 h2;rw[Yx];intro a;by_cases ha:a<d.arcs
  ·rw[cr a ha,←oN];simp[*]
  ·grind
 constructor
 ·rintro⟨hA,hF⟩;refine⟨key _ (fun a ha=>?_) fun a ha=>(hF a ha).1,key _ (fun a ha=>?_) fun a ha=>(hF a ha).2⟩
  ·obtain⟨y,hy,ha⟩:=bR.mp ha;grind
  ·obtain⟨y,hy,ha⟩:=bR.mp ha;grind
 ·rintro⟨p1,p2⟩;refine⟨fun y hy=>?_,fun a ha=>⟨by rw[oN,p1.count_eq,cr a ha],by rw[oN,p2.count_eq,cr a ha]⟩⟩;have i1:∀a∈d.ins,a<d.arcs:=fun a m=>bQ.mp (p1.mem_iff.mp m);have i2:∀a∈d.outs,a<d.arcs:=fun a m=>bQ.mp (p2.mem_iff.mp m);exact⟨i1 _ (bR.mpr ⟨y,hy,by simp⟩),i2 _ (bR.mpr ⟨y,hy,by simp⟩),i1 _ (bR.mpr ⟨y,hy,by simp⟩),i2 _ (bR.mpr ⟨y,hy,by simp⟩)⟩
theorem vq(p:α→Bool):∀l:List α,l.Perm (l.filter p++l.filter fun x=>!p x)
 |[]=> .nil
 |a::l=>by
  rw[rJ,rJ];cases h:p a
  ·simp;exact((vq p l).cons a).trans (List.perm_middle.symm)
  ·simp only[dR,uH,ed,c8];exact(vq p l).cons a
structure Joins(d:Dia)(gone:List Nat)(js:List (Nat×Nat)):Prop where
 n1:(js.map (·.1)).Nodup
 n2:(js.map (·.2)).Nodup
 m1:∀a,a∈js.map (·.1)↔∃y∈d.x.zipIdx,gone.contains y.2=true∧(a=y.1.ui∨a=y.1.oi)
 m2:∀a,a∈js.map (·.2)↔∃y∈d.x.zipIdx,gone.contains y.2=true∧(a=y.1.uo∨a=y.1.oo)
theorem CJ(l:List α):l.zipIdx.map (·.1)=l:=by simp_all
theorem I_{d:Dia}{gone:List Nat}{F:List Nat}(hp:(d.x.flatMap f).Perm (range d.arcs))(hF:∀a,a∈F↔∃y∈d.x.zipIdx,gone.contains y.2=true∧a∈f y.1)(hL:left=(d.x.zipIdx.filter fun(y:Cross×Nat)=>!(gone.contains y.2)).map fun(y:Cross×Nat)=>y.1):
  (left.flatMap f).Nodup∧∀a,a∈left.flatMap f↔a<d.arcs∧a∉F:=by
 have pp:(d.x.flatMap f).Perm (((d.x.zipIdx.filter fun y=>!(gone.contains y.2)).map (·.1)).flatMap f++((d.x.zipIdx.filter fun y=>!(!(gone.contains y.2))).map (·.1)).flatMap f):=by
  rw[←mX,←eJ];have e:d.x.flatMap f=(d.x.zipIdx.map (·.1)).flatMap f:=by rw[CJ]
  rw[e];exact((vq (fun y:Cross×Nat=>!(gone.contains y.2)) d.x.zipIdx).map (·.1)).flatMap_right f
 have nd:(((d.x.zipIdx.filter fun y=>!(gone.contains y.2)).map (·.1)).flatMap f++((d.x.zipIdx.filter fun y=>!(!(gone.contains y.2))).map (·.1)).flatMap f).Nodup:=(pp.symm.trans hp).nodup_iff.mpr j9;have hL':left.flatMap f=((d.x.zipIdx.filter fun y=>!(gone.contains y.2)).map (·.1)).flatMap f:=by rw[hL]
 rw[mY]at nd;have hG:∀a,a∈((d.x.zipIdx.filter fun y=>!(!(gone.contains y.2))).map (·.1)).flatMap f↔a∈F:=by intro a;rw[hF a];simp;grind
 refine⟨by rw[hL'];exact nd.1,fun a=>?_⟩;rw[hL',←hG a];have hm:a∈range d.arcs↔a∈((d.x.zipIdx.filter fun y=>!(gone.contains y.2)).map (·.1)).flatMap f∨a∈((d.x.zipIdx.filter fun y=>!(!(gone.contains y.2))).map (·.1)).flatMap f:=by grind
 grind
theorem Dc{t F L:List Nat}(hn:L.Nodup)(hm:∀a,a∈L↔a<n∧a∉F)(r:Nat):(L.map fun a=>t.getD a 0).count r=cI n t F r:=by
 have hp:L.Perm ((range n).filter fun x=>!F.contains x):=by rw[Kc hn (ya BL j9)];simp[*]
 rw[(hp.map _).count_eq];unfold cI;rw[List.count,rN,List.countP_filter];rfl
theorem u9(g:Good d)(hj:∀p∈js,p.1<d.arcs∧p.2<d.arcs)(J:Joins d gone js):Good (d.without gone js):=by
 obtain⟨g1,g2⟩:=fS.mp g;have M:=qH hj;generalize hL:(d.x.zipIdx.filter fun(y:Cross×Nat)=>!(gone.contains y.2)).map (fun(y:Cross×Nat)=>y.1)=left;obtain⟨l1,l2⟩:=I_ (f:=fun y=>[y.ui,y.oi]) (gone:=gone) (F:=js.map (·.1)) g1 (fun a=>by rw[J.m1 a];simp) hL.symm;obtain⟨o1,o2⟩:=I_ (f:=fun y=>[y.uo,y.oo]) (gone:=gone) (F:=js.map (·.2)) g2 (fun a=>by rw[J.m2 a];simp) hL.symm;have cI1:=fun r=>Dc (t:=merge js d.arcs) l1 l2 r;have cO1:=fun r=>Dc (t:=merge js d.arcs) o1 o2 r;have cm:=RQ hj J.n1 J.n2;generalize hmet:(left.flatMap fun(y:Cross)=>y.all.map fun(a:Nat)=>(merge js d.arcs).getD a 0)=met;generalize hK:((leasts js d.arcs).filter fun(r:Nat)=>met.contains r)=keep;have kn:keep.Nodup:=by rw[←hK];exact ya BL (Oy js d.arcs)
 have hlA:∀y∈left,∀a∈y.all,a<d.arcs:=by intro y hy a ha;rw[←hL]at hy;obtain⟨z,hz,rfl⟩:=aH.mp hy;obtain⟨a1,a2,a3,a4⟩:=g.1 z.1 (Kf (dz.mp hz).1);simp only[Cross.all,a_,cA,cV]at ha;rcases ha with rfl|rfl|rfl|rfl<;>assumption
 have tmem:∀a,a<d.arcs→(merge js d.arcs).getD a 0∈leasts js d.arcs:=fun a ha=>(o_ hj _).mpr (by
  have h':a<(merge js d.arcs).length:=by rw[M.len];exact ha
  rw[bC,bq h'];exact lD h')
 have iO:∀y∈left,∀a∈y.all,(merge js d.arcs).getD a 0∈keep:=by intro y hy a ha;rw[←hK,dz,x8,←hmet];exact⟨tmem a (hlA y hy a ha),bR.mpr ⟨y,hy,aH.mpr ⟨a,ha,rfl⟩⟩⟩
 have perm:∀(f:Cross→List Nat)(F:List Nat),(∀y:Cross,∀a∈f y,a∈y.all)→(∀r,((left.flatMap f).map fun a=>(merge js d.arcs).getD a 0).count r=cI d.arcs (merge js d.arcs) F r)→(∀r,r∈keep→cI d.arcs (merge js d.arcs) F r=1)→((left.flatMap f).map fun a=>(merge js d.arcs).getD a 0).Perm keep:=by
  intro f F hf hc h1;rw[Yx];intro r;by_cases hr:r∈keep
  ·rw[hc r,h1 r hr];have c1:=List.nodup_iff_count.mp kn r;have c2:=BJ.mpr hr
   lia
  ·rw[List.count_eq_zero.mpr hr,List.count_eq_zero];intro m;obtain⟨a,ha,rfl⟩:=aH.mp m;obtain⟨y,hy,ha⟩:=bR.mp ha;exact hr (iO y hy a (hf y a ha))
 have kone:∀r,r∈keep→cI d.arcs (merge js d.arcs) (js.map (·.1)) r=1:=by
  intro r hr;have hc:=cm r;have d8:met.contains r=true:=by rw[←hK]at hr;exact(dz.mp hr).2
  rw[x8,←hmet]at d8;obtain⟨y,hy,d8⟩:=bR.mp d8;obtain⟨a,ha,e⟩:=aH.mp d8;have hio:a∈left.flatMap (fun y=>[y.ui,y.oi])∨a∈left.flatMap (fun y=>[y.uo,y.oo]):=by
   simp only[Cross.all,a_,cA,cV]at ha;rcases ha with rfl|rfl|rfl|rfl
   ·exact .inl (bR.mpr ⟨y,hy,by simp⟩)
   ·exact .inr (bR.mpr ⟨y,hy,by simp⟩)
   ·exact .inl (bR.mpr ⟨y,hy,by simp⟩)
   ·exact .inr (bR.mpr ⟨y,hy,by simp⟩)
  rcases hio with h|h
  ·have:1≤((left.flatMap fun y=>[y.ui,y.oi]).map fun a=>(merge js d.arcs).getD a 0).count r:=BJ.mpr (aH.mpr ⟨a,h,e⟩);rw[cI1]at this
   lia
  ·have:1≤((left.flatMap fun y=>[y.uo,y.oo]).map fun a=>(merge js d.arcs).getD a 0).count r:=BJ.mpr (aH.mpr ⟨a,h,e⟩);rw[cO1]at this
   lia
 have p1:=perm (fun y=>[y.ui,y.oi]) _ (fun y a ha=>by simp[Cross.all]at ha⊢;rcases ha with h|h<;>simp[h]) cI1 kone;have p2:=perm (fun y=>[y.uo,y.oo]) _ (fun y a ha=>by simp[Cross.all]at ha⊢;rcases ha with h|h<;>simp[h]) cO1 (fun r hr=>by rw[←(cm r).1];exact kone r hr);have hx:(d.without gone js).x=left.map fun y=>y.named fun a=>(keep.findIdx? fun r=>r==(merge js d.arcs).getD a 0).getD 0:=by unfold Dia.without;simp only[hL,hmet,hK]
 have hlen:keep.length=2*left.length:=by rw[←p1.length_eq,bj,MS]
 have harcs:(d.without gone js).arcs=keep.length:=by unfold Dia.arcs;rw[hx,bj,hlen]
 apply fS.mpr;rw[harcs,←Mf kn];constructor
 ·have e:(d.without gone js).ins=(((left.flatMap fun y=>[y.ui,y.oi]).map fun a=>(merge js d.arcs).getD a 0).map fun r=>(keep.findIdx? fun z=>z==r).getD 0):=by unfold Dia.ins;rw[hx,iY,b7,pX];rfl
  rw[e];exact p1.map _
 ·have e:(d.without gone js).outs=(((left.flatMap fun y=>[y.uo,y.oo]).map fun a=>(merge js d.arcs).getD a 0).map fun r=>(keep.findIdx? fun z=>z==r).getD 0):=by unfold Dia.outs;rw[hx,iY,b7,pX];rfl
  rw[e];exact p2.map _
theorem Az(g:Good d):d.ins.Nodup:=(fS.mp g).1.nodup_iff.mpr j9
theorem XR(g:Good d):d.outs.Nodup:=(fS.mp g).2.nodup_iff.mpr j9
theorem E5{d:Dia}(h:(d.x.flatMap f).Nodup){g:List Nat}(hn:g.Nodup)(hi:∀i∈g,i<d.n)(z:Cross):((g.map fun i=>d.x.getD i z).flatMap f).Nodup:=by
 rw[List.Nodup,Yy]at h;rw[List.Nodup,Yy];have hg:∀i,i<d.n→d.x.getD i z∈d.x:=fun i hi=>by rw[bC,bq hi];exact lD _
 constructor
 ·intro y hy;obtain⟨i,hm,rfl⟩:=aH.mp hy;exact h.1 _ (hg i (hi i hm))
 ·rw[uN];have hp:=xU.mp h.2;have:∀i j,i<d.n→j<d.n→i≠j→∀x∈f (d.x.getD i z),∀y∈f (d.x.getD j z),x≠y:=by
   intro i j h1 h2 iS x hx y hy;rw[bC,bq h1]at hx;rw[bC,bq h2]at hy;rcases Nat.lt_or_gt_of_ne iS with q|q
   ·exact hp i j h1 h2 q x hx y hy
   ·exact fun e=>hp j i h2 h1 q y hy x hx e.symm
  refine List.Pairwise.imp_of_mem (fun{i j} a b iS=>?_) hn;exact this i j (hi i a) (hi j b) iS
theorem GF(g:Good d)(h1:∀y,(pr y).map (·.1)=[y.ui,y.oi])(h2:∀y,(pr y).map (·.2)=[y.uo,y.oo]∨(pr y).map (·.2)=[y.oo,y.uo])(hn:l.Nodup)(hi:∀i∈l,i<d.n)(z:Cross):
  Joins d l ((l.map fun i=>d.x.getD i z).flatMap pr):=by
 have f1:((l.map fun i=>d.x.getD i z).flatMap pr).map (·.1)=(l.map fun i=>d.x.getD i z).flatMap fun y=>[y.ui,y.oi]:=by rw[pX];congr 1;funext y;exact h1 y
 have f2:((l.map fun i=>d.x.getD i z).flatMap pr).map (·.2)=(l.map fun i=>d.x.getD i z).flatMap fun y=>(pr y).map (·.2):=by rw[pX]
 have gm:∀(f:Cross→List Nat)(a:Nat),a∈(l.map fun i=>d.x.getD i z).flatMap f↔∃y∈d.x.zipIdx,l.contains y.2=true∧a∈f y.1:=by
  intro f a;simp only[bR,aH];constructor
  ·rintro⟨y,⟨i,hm,rfl⟩,ha⟩;refine⟨(d.x.getD i z,i),?_,by rw[x8];exact hm,ha⟩;rw[lF,bC,bq (hi i hm)];rfl
  ·rintro⟨y,hy,hm,ha⟩;rw[x8]at hm;rw[lF]at hy;refine⟨y.1,⟨y.2,hm,?_⟩,ha⟩;rw[bC,hy];rfl
 have o2:(d.x.flatMap fun y=>(pr y).map (·.2)).Perm d.outs:=by
  unfold Dia.outs;generalize d.x=x;induction x with
  |nil=>exact .nil
  |cons y x ih=>rw[dY,dY];refine List.Perm.append ?_ ih;rcases h2 y with e|e<;>rw[e];exact pW _ _ _
 refine⟨by rw[f1];exact E5 (Az g) hn hi z,by rw[f2];exact E5 (o2.nodup_iff.mpr (XR g)) hn hi z,fun a=>?_,fun a=>?_⟩
 ·rw[f1,gm];simp
 ·rw[f2,gm];constructor
  ·rintro⟨y,a1,a2,a3⟩;refine⟨y,a1,a2,?_⟩;rcases h2 y.1 with e|e<;>rw[e]at a3<;>simp at a3<;>rcases a3 with q|q<;>simp[q]
  ·rintro⟨y,a1,a2,a3⟩;refine⟨y,a1,a2,?_⟩;rcases h2 y.1 with e|e<;>rw[e]<;>simp<;>rcases a3 with q|q<;>simp[q]
theorem yL(g:Good d)(hn:l.Nodup)(hi:∀i∈l,i<d.n)(z:Cross):Joins d l ((l.map fun i=>d.x.getD i z).flatMap Cross.straight):=GF g (fun _=>rfl) (fun _=> .inl rfl) hn hi z
theorem UA(g:Good d)(hn:l.Nodup)(hi:∀i∈l,i<d.n)(z:Cross):Joins d l ((l.map fun i=>d.x.getD i z).flatMap Cross.along):=GF g (fun _=>rfl) (fun _=> .inr rfl) hn hi z
theorem p_{f g:α→List Nat}(h:∀a,(f a).Perm (g a)):∀l:List α,(l.flatMap f).Perm (l.flatMap g)
 |[]=> .nil
 |a::l=>by rw[dY,dY];exact(h a).append (p_ h l)
theorem Xb(g:Good d):Good d.mirror:=by
 obtain⟨g1,g2⟩:=fS.mp g;apply fS.mpr;have e:d.mirror.arcs=d.arcs:=by unfold Dia.arcs Dia.mirror;simp
 rw[e];constructor
 ·refine yb ?_ g1;unfold Dia.ins Dia.mirror;rw[iY];exact p_ (fun y=>pW _ _ _) d.x
 ·refine yb ?_ g2;unfold Dia.outs Dia.mirror;rw[iY];exact p_ (fun y=>pW _ _ _) d.x
theorem EI(g:Good d):Good d.turn:=by
 obtain⟨g1,g2⟩:=fS.mp g;apply fS.mpr;have e:d.turn.arcs=d.arcs:=by unfold Dia.arcs Dia.turn;simp
 rw[e];constructor
 ·refine yb ?_ g2;unfold Dia.ins Dia.outs Dia.turn;rw[iY];exact p_ (fun y=> .refl _) d.x
 ·refine yb ?_ g1;unfold Dia.ins Dia.outs Dia.turn;rw[iY];exact p_ (fun y=> .refl _) d.x
theorem PY(g:Good d)(i:Nat):Good (d.flip i):=by
 obtain⟨g1,g2⟩:=fS.mp g;apply fS.mpr;have e:(d.flip i).arcs=d.arcs:=by unfold Dia.arcs Dia.flip;simp
 rw[e];have k:∀f:Cross→List Nat,(∀y,(f y.swap).Perm (f y))→((d.flip i).x.flatMap f).Perm (d.x.flatMap f):=by
  intro f hf;unfold Dia.flip;have e:d.x.flatMap f=(d.x.zipIdx.map (·.1)).flatMap f:=by rw[CJ]
  rw[e,iY,iY];refine p_ (fun y=>?_) d.x.zipIdx;grind
 exact⟨(k _ fun y=>pW _ _ _).trans g1,(k _ fun y=>pW _ _ _).trans g2⟩
theorem range_add(m n:Nat):range (m+n)=range m++(range n).map fun a=>a+m:=by
 apply j8;intro i;by_cases h1:i<m
 ·rw[Yi (by simpa using h1),oy h1,oy (by lia)]
 ·rw[JQ (by simpa using h1),gR,cz];by_cases h2:i<m+n
  ·rw[oy h2,oy (by lia)];show some i=some (i-m+m);congr 1;simp_all
  ·rw[lB (by simpa using h2),lB (by simp;grind)];rfl
theorem Jz(g:Good d)(h:Good e):Good (d.beside e):=by
 obtain⟨g1,g2⟩:=fS.mp g;obtain⟨h1,h2⟩:=fS.mp h;apply fS.mpr;have ea:(d.beside e).arcs=d.arcs+e.arcs:=by unfold Dia.arcs Dia.beside;simp[x6]
 rw[ea,range_add];constructor
 ·have:(d.beside e).ins=d.ins++e.ins.map fun a=>a+d.arcs:=by unfold Dia.ins Dia.beside;rw[mX,iY,pX];rfl
  rw[this];exact g1.append (h1.map _)
 ·have:(d.beside e).outs=d.outs++e.outs.map fun a=>a+d.arcs:=by unfold Dia.outs Dia.beside;rw[mX,iY,pX];rfl
  rw[this];exact g2.append (h2.map _)
def sw(i j a:Nat):Nat:=if a=i then j else if a=j then i else a
theorem AU(i j a:Nat):sw i j (sw i j a)=a:=by
 unfold sw
 lia
theorem MP(hi:i<n)(hj:j<n):((range n).map (sw i j)).Perm (range n):=by
 have lt:∀a,a<n→sw i j a<n:=by
  intro a ha;unfold sw;split
  ·exact hj
  ·split<;>assumption
 have nd:((range n).map (sw i j)).Nodup:=by rw[List.Nodup,uN];refine List.Pairwise.imp (fun{a b} hab e=>?_) j9;exact hab (by rw[←AU i j a,e,AU])
 rw[Kc nd j9];intro a;simp only[aH,bQ];constructor
 ·rintro⟨b,hb,rfl⟩;exact lt b hb
 ·intro ha;exact⟨sw i j a,lt a ha,AU i j a⟩
theorem L3(g:Good d)(hi:i<d.arcs)(hj:j<d.arcs):Good (d.heads i j):=by
 obtain⟨g1,g2⟩:=fS.mp g;apply fS.mpr;have e:(d.heads i j).arcs=d.arcs:=by unfold Dia.arcs Dia.heads;simp
 rw[e];constructor
 ·have:(d.heads i j).ins=d.ins.map (sw i j):=by unfold Dia.ins Dia.heads;rw[iY,pX];rfl
  rw[this];exact(g1.map _).trans (MP hi hj)
 ·have:(d.heads i j).outs=d.outs:=by unfold Dia.outs Dia.heads;rw[iY]
  simp[*]
theorem Ot(g:Good d)(h:Good e)(hi:i<d.arcs)(hj:j<e.arcs):Good (d.join e i j):=by
 have ea:(d.beside e).arcs=d.arcs+e.arcs:=by unfold Dia.arcs Dia.beside;simp[x6]
 exact L3 (Jz g h) (by rw[ea];lia) (by rw[ea];lia)
theorem NO{d:Dia}:(d.without gone js).n=(d.x.zipIdx.filter fun(y:Cross×Nat)=>!(gone.contains y.2)).length:=by unfold Dia.without Dia.n;simp
theorem Si{d:Dia}(hi:i<d.n)(hm:i∈gone):(d.without gone js).n<d.n:=by
 rw[NO];have:(d.x.zipIdx.filter fun(y:Cross×Nat)=>!(gone.contains y.2)).length<d.x.zipIdx.length:=by apply List.length_filter_lt_length_iff_exists.mpr;refine⟨(d.x[i]'hi,i),?_,by simp[hm]⟩;rw[lF];simp[bq hi]
 rwa[mV]at this
def z0:Cross:=⟨0,0,0,0,false⟩
def fO(d:Dia):List (List Nat):=(d.x.zipIdx.filter fun y=>y.1.kink).map fun y=>[y.2]
def jt(d:Dia)(y:Cross×Nat):List (List Nat):=((range (d.x.length-(y.2+1))).map fun i=>y.2+1+i).flatMap fun z=>if poke y.1 (d.x.getD z z0)=true then [[y.2,z]]else []
def d4(d:Dia):List (List Nat):=d.x.zipIdx.flatMap (jt d)
def de(d:Dia)(g:List Nat):Dia:=d.without g ((g.map fun i=>d.x.getD i z0).flatMap Cross.straight)
theorem MW(l:List α)(z:α):l.zipIdx=(range l.length).map fun i=>(l.getD i z,i):=by
 apply j8;intro i;rw[J6,cz];by_cases h:i<l.length
 ·rw[oy h,bq h];show some (l[i],0+i)=some (l.getD i z,i);rw[bC,bq h,Yh];rfl
 ·rw[lB (by simp_all),lB (by simpa using h)];rfl
theorem Rl(n j:Nat)(f:Nat→Option α):((range n).findSome? fun i=>if j<i then f i else none)=(((range (n-(j+1))).map fun i=>j+1+i).findSome? f):=by
 by_cases h:j+1≤n
 ·have e:range n=range (j+1)++(range (n-(j+1))).map fun i=>j+1+i:=by
   have:=range_add (j+1) (n-(j+1));rw[show j+1+(n-(j+1))=n by simp_all]at this
   lia
  rw[e,List.findSome?_append];have h1:((range (j+1)).findSome? fun i=>if j<i then f i else none)=none:=by grind
  rw[h1,Option.none_or,Kj,Kj];congr 1;grind
 ·grind
theorem A9(d:Dia):d.undone=(fO d++d4 d).head?.map (de d):=by
 have kink_head:(fO d).head?=(d.x.zipIdx.find? fun y=>y.1.kink).map fun y=>[y.2]:=by unfold fO;simp_all
 unfold Dia.undone;rw[List.head?_append,kink_head];cases q:d.x.zipIdx.find? fun y=>y.1.kink with
 |some y=>unfold de Dia.unkink;grind
 |none=>
  unfold d4;rw[List.head?_flatMap];have e:∀y∈d.x.zipIdx,(d.x.zipIdx.findSome? fun z=>if y.2<z.2∧poke y.1 z.1=true then some (d.unpoke y.2 z.2 y.1 z.1)else none)=((jt d y).head?).map (de d):=by
   intro y hy;rw[MW d.x z0,Kj];have e1:((fun z:Cross×Nat=>if y.2<z.2∧poke y.1 z.1=true then some (d.unpoke y.2 z.2 y.1 z.1)else none)∘fun i=>(d.x.getD i z0,i))=fun i=>if y.2<i then(if poke y.1 (d.x.getD i z0)=true then some (de d [y.2,i])else none)else none:=by
    funext i
    simp only[Function.comp];by_cases h1:y.2<i
    ·by_cases h2:poke y.1 (d.x.getD i z0)=true
     ·rw[ag ⟨h1,h2⟩,ag h1,ag h2];unfold de Dia.unpoke;grind
     ·simp_all
    ·simp[*]
   rw[e1,Rl];unfold jt;rw[List.head?_flatMap];generalize((range (d.x.length-(y.2+1))).map fun i=>y.2+1+i)=L;induction L with
   |nil=>rfl
   |cons i L ih=>grind
  generalize hL:d.x.zipIdx=L at e;have:∀M:List (Cross×Nat),(∀y∈M,y∈L)→(M.findSome? fun y=>L.findSome? fun z=>if y.2<z.2∧poke y.1 z.1=true then some (d.unpoke y.2 z.2 y.1 z.1)else none)=(M.findSome? fun y=>(jt d y).head?).map (de d):=by
   intro M;induction M with
   |nil=>intro _;rfl
   |cons y M ih=>intro hM;rw[Yz,Yz,e y (hM y (by simp))];grind
  simp[*]
theorem IE(h:g∈fO d++d4 d):g.Nodup∧(∀i∈g,i<d.n)∧g.length≤2∧∃i,i∈g:=by
 rcases cE.mp h with h|h
 ·obtain⟨y,hy,rfl⟩:=aH.mp h;have:=(dz.mp hy).1;rw[lF]at this;have:=(d_.mp this).1;exact⟨by simp,fun i hi=>by rw[rO]at hi;subst hi;exact this,by simp,y.2,by simp⟩
 ·obtain⟨y,hy,h⟩:=bR.mp h;obtain⟨z,hz,h⟩:=bR.mp h;obtain⟨i,hi,rfl⟩:=aH.mp hz;rw[bQ]at hi;rw[lF]at hy;have hy:=(d_.mp hy).1;split at h
  ·rw[rO]at h;subst h;refine⟨?_,?_,by simp,y.2,by simp⟩
   ·simp;lia
   ·intro k hk;simp only[a_,cA,cV]at hk;unfold Dia.n;rcases hk with rfl|rfl<;>omega
  ·simp at h
theorem HB(G:Good d)(h:g∈fO d++d4 d):Good (de d g)∧(de d g).n<d.n:=by
 obtain⟨h1,h2,_,i,hi⟩:=IE h;refine⟨u9 G ?_ (yL G h1 h2 z0),Si (h2 i hi) hi⟩;intro p hp;obtain⟨y,hy,hp⟩:=bR.mp hp;obtain⟨k,hk,rfl⟩:=aH.mp hy;have hm:d.x.getD k z0∈d.x:=by rw[bC,bq (h2 k hk)];exact lD _
 obtain⟨a1,a2,a3,a4⟩:=G.1 _ hm;simp only[Cross.straight,a_,cA,cV]at hp;rcases hp with rfl|rfl
 ·exact⟨a1,a2⟩
 ·exact⟨a3,a4⟩
def eW:Nat→Dia→List Dia
 |0,d=>[d]
 |f+1,d=>match d.undone with
  |none=>[d]
  |some e=>d::eW f e
theorem E1:∀(f:Nat)(d:Dia),(eW f d).length=(Dia.plain f d).2+1∧(eW f d).getLast?=some (Dia.plain f d).1
 |0,d=>⟨rfl,rfl⟩
 |f+1,d=>by
  unfold eW Dia.plain;cases h:d.undone with
  |none=>exact⟨rfl,rfl⟩
  |some e=>obtain⟨a,b⟩:=E1 f e;refine⟨by simp only[bZ,a],?_⟩;show(d::eW f e).getLast?=_;rw[List.getLast?_cons,b];rfl
theorem B9:∀(f:Nat)(d:Dia),Good d→Good (Dia.plain f d).1∧(Dia.plain f d).1.n≤d.n
 |0,d,g=>⟨g,aY _⟩
 |f+1,d,g=>by
  unfold Dia.plain;cases h:d.undone with
  |none=>exact⟨g,aY _⟩
  |some e=>
   rw[A9]at h;cases q:(fO d++d4 d).head? with
   |none=>rw[q]at h;cases h
   |some l=>
    rw[q]at h;have e1:de d l= e:=eE h;have hm:l∈fO d++d4 d:=List.mem_of_mem_head? q;obtain⟨g1,g2⟩:=HB g hm;obtain⟨a,b⟩:=B9 f _ g1
    lia
end Km
namespace Kn
open PySem PySem.Spec PyProof.Rows L2
open Kb (Cross Dia)
theorem Cz(s:aj G G'):aj (del G l) (del G' l):=fun b o e=>by
 by_cases z:b=l
 ·subst z;unfold del at e;rw[ag rfl]at e;cases e
 ·rw[iM z]at e⊢;exact s b o e
theorem Fq:aj (del G l) G:=fun b o e=>by
 by_cases z:b=l
 ·subst z;unfold del at e;rw[ag rfl]at e;cases e
 ·rw[iM z]at e;exact e
theorem Ea(h:G l=Option.none):del (upd G l o) l=G:=by
 funext b
 by_cases z:b=l
 ·subst z;rw[h];exact ag rfl
 ·rw[iM z,aB z]
def off{α:Type}(l:Addr)(R:Rp α):Rp α:=⟨fun G v a=>R.rel (del G l) v a,fun s h=>R.mono (Cz s) h⟩
def xb{α:Type}(l:Addr)(A:ck α):ck α:=⟨fun G vs a=>A.rel (del G l) vs a,fun s h=>A.mono (Cz s) h⟩
section
variable{α β γ δ:Type}{X:Cx}{σ σ0:aS}{H H1 H2 G:Hp}{e ie a b o:Expr}{es:List Expr}{R:Rp α}{S:Rp β}{r:α}{pos p:Pos}{D:Ends}{rest:List Stmt}{x:Str}{i:Nat}{CC CD:Addr}{A:ck γ}{c:γ}{l:Addr}
theorem z6(hg:G l=Option.none)(h:R.rel G v r):(off l R).rel (upd G l ob) v r:=by show R.rel (del (upd G l ob) l) v r;rwa[Ea hg]
theorem yC:XA X σ H [] (xb l bu) ():=fun H1 s Q k=>PA.wa fG (k [] H H1 (au.cf s) rfl)
theorem vg(h:XE X σ H e (off l R) r)(t:XA X σ H es (xb l A) c)(hs:SE X e es:=by rfl):XA X σ H (e::es) (xb l (aO R A)) (r,c):=fun H1 s Q k=>
 PA.wa (fm aJ fH hs) (h H1 s _ fun x G H2 f rx=>(t.mono f.hg) H2 f.g2 _ fun vs G' H3 f' rv=>k _ G' H3 (f.trans f') ⟨x,vs,rfl,(off l R).mono f'.hg rx,rv⟩)
theorem zM(hl:H l=some ob)(Df:Cx.Def X k x ps (Fn A S P f))(hr:bM m X.A)(hp:P c)(ha:XA X σ H (e::es) (xb l A) c)(hk:k≤m:=by decide)(hg:Gl X x:=by rfl)(bG:(x==("__debug__":Str))=false:=by decide)(he:SE X e es:=by rfl)(bo:NS X pos es:=by rfl):XE X σ H (.Call (.Name x p) (e::es) [] pos) (off l S) (f c):=fun H1 s Q q=>
 pk Df hr ha s (fun vs G H2 fw rv=>⟨del G l,c,Fq.trans fw.g2,rv,hp,fun y G' H3 cP ry=>by
  have hGl:G l=some ob:=fw.hg _ _ hl;have hH2:H2 l=some ob:=fw.g2 _ _ hGl;have n':G' l= .none:=cP.sep l ob (ag rfl) hH2;have s1:aj G (upd G' l ob):=fun b o e=>by
   by_cases z:b=l
   ·subst z;rw[aE,←hGl];exact e
   ·rw[aB z];exact cP.hg b o (by rw[iM z];exact e)
  refine q y (upd G' l ob) H3 (fw.trans ⟨s1,fun b o e=>?_,cP.h2,fun b o e1 e2=>?_⟩) ?_
  ·by_cases z:b=l
   ·subst z;rw[aE]at e;rw[←e];exact cP.h2 _ _ hH2
   ·rw[aB z]at e;exact cP.g2 b o e
  ·have z:b≠l:=by intro z;subst z;rw[hGl]at e1;cases e1
   rw[aB z];exact cP.sep b o (by rw[iM z];exact e1) e2
  ·show S.rel (del (upd G' l ob) l) y (f c);rw[Ea n'];exact ry⟩) hk hg bG he bo
theorem XE.HU(h:XE X σ H e (off l (ah R)) xs):XE X σ H e (ah (off l R)) xs:=fun H1 s Q k=>h H1 s Q fun y G H2 f⟨a,vs,e,ha,pr⟩=>k y G H2 f ⟨a,vs,e,Fq _ _ ha,pr⟩
end
theorem AZ(d:Dia):d4 d=Km.d4 d:=by
 unfold d4 Km.d4;congr 1;funext y;unfold jt Km.jt ups;have e:((d.x.length:Int)-((y.2:Int)+1)).toNat=d.x.length-(y.2+1):=by omega
 rw[e,iY,iY];congr 1
section
variable{K:Fg}(T:Txt K mg CC CD)
include T
theorem Nd:Def P w K mg base 5 "undone_by_steps" ["drawing"] (Fn (fu CC CD) (ah (aA CC CD)) (fun c=>ek c.1∧Km.Good c.1) fun c=>Km.eW 9 c.1):=by
 refine T.hs.Xm.mk ["drawing","steps","found"] (fun nd H1 vs Q E hr h=>?_);refine DX h fun H d v0 s1 h0 hh k=>?_;obtain⟨hs,hg⟩:=hh;have hs:d.x.length≤8:=hs;have hg:Km.Good d:=hg;have h0:(aA CC CD).rel H v0 d:=h0;have flen:∀c:Dia,c.x.length≤8→(Km.fO c).length+(Km.d4 c).length≤1000:=by
  intro c hc;have h1:=GG c;rw[AZ]at h1;have h2:(Km.fO c).length≤c.x.length:=by unfold Km.fO;rw[bj];exact cx (rM _ _) (by rw[mV];exact aY _)
  have:c.x.length*c.x.length≤64:=Nat.mul_le_mul hc hc
  lia
 refine iN (i:=1) (R:=aA CC CD) nd (a5 (aV (xv 0 h0) aZ)) (au.cf s1) fun l G H2 sg f2 o2=>?_;have h0:=(aA CC CD).mono sg h0;refine br (i:=2) (H:=G) nd (XN.xe (qG (XE.cast (r':=Km.fO d) (aK (ES T) hr (c:=(d,())) hs (az (xv 0 h0))) rfl) (XE.cast (r':=Km.d4 d) (aK (Ie T) hr (c:=(d,())) hs (az (xv 0 h0))) (AZ d)) (flen d hs))) f2.g2 fun v2 G3 H3 f3 r3=>?_;have o3:=o2.fwd f3;have d9:=f2.trans f3;refine tI (fun m σ' H'=>∃(G':Hp)(pre:List Dia)(cur:Dia)(v:V),au H H1 G' H'∧cM H1 G' H' l (aA CC CD) (pre++[cur])∧(ah (ah aa)).rel G' v (Km.fO cur++Km.d4 cur)∧σ'=[some v0,some (.ref l),some v]∧Km.Good cur∧cur.n+pre.length≤8∧Km.eW 9 d=pre++Km.eW (9-pre.length) cur∧m=cur.n) ⟨d.n,G3,[],d,v2,d9,o3,r3,rfl,hg,by show d.x.length+0≤8;omega,rfl,rfl⟩ ?_;rintro m σ' H' ⟨G',pre,cur,v,fw,ow,rv,rfl,gc,hn,dj,rfl⟩;have hn8:cur.x.length≤8:=by show cur.n≤8;lia
 refine je (cN T.len (xv 2 rv)) ax H' fw.g2 _ fun G4 H4 f4=>?_;have ow:=ow.fwd f4;have fw4:=fw.trans f4;have rv:=(ah (ah aa)).mono f4.hg rv;cases hfd:Km.fO cur++Km.d4 cur with
 |nil=>
  rw[af (by simp)];obtain⟨G5,s5,f5,r5⟩:=ow.known fw4;refine gD (i:=1) rfl (k _ G5 H4 f5 ?_);have hu:cur.undone=none:=by rw[Km.A9,hfd];rfl
  have:Km.eW 9 d=pre++[cur]:=by rw[dj];obtain⟨t,ht⟩:∃t,9-pre.length=t+1:=⟨8-pre.length,by lia⟩;rw[ht];unfold Km.eW;rw[hu]
  show(ah (aA CC CD)).rel G5 (.ref l) (Km.eW 9 d);rw[this];exact r5
 |cons g fs=>
  rw[ag (by simp)];have hgm:g∈Km.fO cur++Km.d4 cur:=by rw[hfd];simp
  obtain⟨g1,g2,g3,_⟩:=Km.IE hgm;obtain⟨gg,gn⟩:=Km.HB gc hgm;have hg0:(Km.fO cur++Km.d4 cur)[0]?=some g:=by rw[hfd];rfl
  have hArc:cH cur:=gc.1;obtain⟨us,hu,pr⟩:=ow.ex;have hk:=fw4.aX ow.n1 ow.ng hu;have rl:(ah (off l (aA CC CD))).rel (upd G4 l (.lst us)) (.ref l) (pre++[cur]):=⟨l,us,rfl,aE,pr.imp fun _ _ h=>z6 ow.ng h⟩;have rf:(ah (off l (ah aa))).rel (upd G4 l (.lst us)) v (Km.fO cur++Km.d4 cur):=by obtain⟨b,vs,rfl,hb,pb⟩:=rv;exact⟨b,vs,rfl,(aj.df ow.ng) _ _ hb,pb.imp fun _ _ h=>z6 ow.ng h⟩
  have Bp:cJ (pre++[cur]) (-1)=some cur:=by
   unfold cJ jm;rw[af (by decide),ag (by simp;lia),cZ];have:(-1+((pre.length+[cur].length:Nat):Int)).toNat=pre.length:=by simp;lia
   rw[this];simp
  refine tY (i:=1) (H:=upd G4 l (.lst us)) rfl hu (by rw[pr.len,cZ];show pre.length+1<30000;lia) (R:=off l (aA CC CD)) (zM aE (AI T) hr (c:=(cur,g,())) ⟨hn8,hArc,by show g.length≤16;lia,g2⟩ (vg (aW (xv 1 rl) (fF ax) Bp) (vg (aW (xv 2 rf) ax (bt hg0)) yC))) hk.g2 fun v5 G5 H5 f5 r5=>?_;obtain⟨f6,s6,nl,h5,g5⟩:=au.back fw4 ow.n1 ow.ng hu f5;have r5:(aA CC CD).rel (del G5 l) v5 (Km.de cur g):=r5;have f7:=f6.put ow.n1 nl (.lst (us++[v5]));have jW:Paired ((aA CC CD).rel (del G5 l)) (us++[v5]) (pre++[cur]++[Km.de cur g]):=(pr.imp fun _ _=>(aA CC CD).mono s6).append (.cons r5 .nil);have h7:upd H5 l (.lst (us++[v5])) l=some (.lst (us++[v5])):=aE;have hk7:=f7.aX ow.n1 nl h7;have rl7:(ah (off l (aA CC CD))).rel (upd (del G5 l) l (.lst (us++[v5]))) (.ref l) (pre++[cur]++[Km.de cur g]):=⟨l,_,rfl,aE,jW.imp fun _ _ h=>z6 nl h⟩;have JE:cJ (pre++[cur]++[Km.de cur g]) (-1)=some (Km.de cur g):=by
   unfold cJ jm;rw[af (by decide),ag (by simp;lia)];have:(-1+(((pre++[cur]++[Km.de cur g]).length:Nat):Int)).toNat=(pre++[cur]).length:=by simp;lia
   rw[this];simp
  have hu8:(Km.de cur g).x.length≤8:=by have:(Km.de cur g).n<cur.n:=gn;show(Km.de cur g).n≤8;lia
  refine i4 (i:=2) (R:=off l (ah aa)) (H:=upd (del G5 l) l (.lst (us++[v5]))) nd (qG (XE.HU (XE.cast (r':=Km.fO (Km.de cur g)) (zM aE (ES T) hr (c:=(Km.de cur g,())) hu8 (vg (aW (xv 1 rl7) (fF ax) JE) yC)) rfl)) (XE.HU (XE.cast (r':=Km.d4 (Km.de cur g)) (zM aE (Ie T) hr (c:=(Km.de cur g,())) hu8 (vg (aW (xv 1 rl7) (fF ax) JE) yC)) (AZ _))) (flen _ hu8)) hk7.g2 fun l8 us8 G8 H8 f8 n8 mN h8 pr8=>?_;obtain⟨f9,s9,nl9,h9,g9⟩:=au.back f7 ow.n1 nl h7 f8;have ne8:l8≠l:=by intro z;subst z;rw[h7]at n8;cases n8
  have bP:=f9.aX (f7.bX n8) (by rw[iM ne8];exact mN) h8;refine bp ⟨(Km.de cur g).n,gn,upd (del G8 l) l8 (.lst us8),pre++[cur],Km.de cur g, .ref l8,bP,⟨ow.n1,?_,us++[v5],h9,?_⟩,⟨l8,us8,rfl,aE,?_⟩,rfl,gg,?_,?_,rfl⟩
  ·rw[aB (fun z=>ne8 z.symm)];exact nl9
  ·exact jW.imp fun _ _ h=>(aA CC CD).mono (s9.trans (aj.df (by rw[iM ne8];exact mN))) h
  ·exact pr8.imp fun _ _ h=>(ah aa).mono (aj.df (by rw[iM ne8];exact mN)) h
  ·rw[cZ];show(Km.de cur g).n+(pre.length+1)≤8
   lia
  ·rw[dj];obtain⟨t,ht⟩:∃t,9-pre.length=t+1:=⟨8-pre.length,by lia⟩;have lg:cur.undone=some (Km.de cur g):=by rw[Km.A9,hfd];rfl
   rw[ht];have:Km.eW (t+1) cur=cur::Km.eW t (Km.de cur g):=by
    conv=>lhs;unfold Km.eW
    rw[lg]
   rw[this,oj,cZ];have:9-(pre.length+[cur].length)=t:=by simp;lia
   rw[this];rfl
end
theorem F3{xs:List α}(h:i≤j)(hj:j≤xs.length):gT xs (some (i:Int)) (some (j:Int))=(xs.drop i).take (j-i):=by unfold gT HT.dU;grind
def nv(row:List Nat)(at_ arcs:Nat):Bool:=decide (max (max (max (row.getD at_ 0) (row.getD (at_+1) 0)) (row.getD (at_+2) 0)) (row.getD (at_+3) 0)<arcs)&&decide (row.getD (at_+4) 0≤1)
def fj(c:Nat)(row:List Nat):Bool:=decide (row.length%5=0)&&(decide (row.length/5≤8)&&(decide (c≤4)&&(decide (0<row.length/5+c)&&(range (row.length/5)).all fun j=>nv row (5*j) (2*(row.length/5)))))
def cO(row:List Nat):List Cross:=(range (row.length/5)).map fun j=>⟨row.getD (5*j) 0,row.getD (5*j+1) 0,row.getD (5*j+2) 0,row.getD (5*j+3) 0,row.getD (5*j+4) 0==1⟩
theorem GO:∀n:Nat,n≤12→z9 0 ((5*n:Nat):Int) 5 n:=by
 have:∀n:Fin 13,(Builtin.Range.small 0 ((5*n.1:Nat):Int) 5=true∧Builtin.Range.rangeSize 0 ((5*n.1:Nat):Int) 5=n.1):=by decide
 intro n hn;exact⟨by decide,by decide,(this ⟨n,by lia⟩).1,(this ⟨n,by lia⟩).2⟩
section
variable{K:Fg}(T:Txt K mg CC CD)
include T
theorem M7:Def P w K mg base 1 "five_as_told" ["row","at","arcs"] (Fn (aO (ah aa) (aO aa (aO aa bu))) cG (fun c=>c.2.1+4<c.1.length) fun c=>nv c.1 c.2.1 c.2.2.1):=by
 refine T.hs.Wj.mk ["row","at","arcs"] (fun nd H1 vs Q E hr h=>?_);refine KH h fun H row i n v0 v1 v2 s1 h0 h1 h2 hp k=>?_;have hp:i+4<row.length:=hp;have g:∀j,j<row.length→row[j]?=some (row.getD j 0):=fun j hj=>getD_at hj;have ecut:gT row (some (i:Int)) (some ((i:Int)+4))=[row.getD i 0,row.getD (i+1) 0,row.getD (i+2) 0,row.getD (i+3) 0]:=by
  have e:((i:Int)+4)=((i+4:Nat):Int):=by rfl
  rw[e,F3 (by simp) (by exact qW ‹_›)];have hd:∀m,i+m<row.length→row.drop (i+m)=row.getD (i+m) 0::row.drop (i+m+1):=fun m hm=>by rw[rG hm,bC,bq hm];rfl
  have d0:=hd 0 (by lia);have d1:=hd 1 (by lia);have d2:=hd 2 (by lia);have d3:=hd 3 (by exact qW ‹_›);simp only[BK]at d0;rw[d0,d1,d2,d3];have:i+4-i=4:=by simp
  rw[this];rfl
 have hmx:∀a b c d:Nat,((max (max (max a b) c) d:Nat):Int)∈([a,b,c,d].map Int.ofNat)∧∀y∈([a,b,c,d].map Int.ofNat),y≤((max (max (max a b) c) d:Nat):Int):=by
  intro a b c d;constructor
  ·have:max (max (max a b) c) d=a∨max (max (max a b) c) d=b∨max (max (max a b) c) d=c∨max (max (max a b) c) d=d:=by lia
   simp only[a9,gQ,a_,uO,cA,cV]
   lia
  ·intro y hy;simp only[a9,gQ,a_,uO,cA,cV]at hy;grind
 have hm:=hmx (row.getD i 0) (row.getD (i+1) 0) (row.getD (i+2) 0) (row.getD (i+3) 0);refine a7 (XE.cast (yu (RI (wI T rfl (XE.mq (XE.cast (XN.xe (kl (xv 0 h0) (iL (XE.int (xv 1 h1))) (iL (cj (XE.int (xv 1 h1)) ax)))) ecut)) hm.1 hm.2) (XE.int (xv 2 h2))) fun _=>Wc (XE.int (aW (xv 0 h0) (cj (XE.int (xv 1 h1)) ax) (by show cJ row ((i:Int)+4)=_;rw[show((i:Int)+4)=((i+4:Nat):Int) by rfl];exact bt (g (i+4) hp)))) ax) ?_) s1 k;show(decide (((max (max (max (row.getD i 0) (row.getD (i+1) 0)) (row.getD (i+2) 0)) (row.getD (i+3) 0):Nat):Int)<(n:Int))&&decide (((row.getD (i+4) 0:Nat):Int)≤1))=nv row i n;unfold nv;congr 1
 ·exact Kk.mpr (by simp)
 ·exact Kk.mpr (by omega)
theorem RT:Def P w K mg base 2 "numbers_as_told" ["circles","row"] (Fn (aO aa (aO (ah aa) bu)) cG (fun c=>c.2.1.length≤64) fun c=>fj c.1 c.2.1):=by
 refine T.hs.Tx.mk Fi (fun nd H1 vs Q E hr h=>?_);refine JS h fun H c row v0 v1 s1 h0 h1 hp k=>?_;have hp:row.length≤64:=hp;have h1:(ah aa).rel H v1 row:=h1;have h0:aa.rel H v0 c:=h0;obtain⟨t5,m5⟩:=T.Jx;obtain⟨t8,m8⟩:=T.Jl;obtain⟨t4,m4⟩:=T.GZ;refine eV (kR (kI (by decide) (cN T.len (xv 1 h1)) (bN m5)) ax) s1 (fun q G H2 f2=>?_) fun q G H2 f2=>?_
 ·refine a7 (XE.cast vL ?_) f2.g2 fun y G3 H3 f3 r3=>k y G3 H3 (f2.trans f3) r3;show false=fj c row;unfold fj;rw[cU (p:=row.length%5=0) (by simp at q;lia)];rfl
 ·refine bp ?_;have h5:row.length%5=0:=by simp at q;lia
  have h1:=(ah aa).mono f2.hg h1;refine br (i:=2) nd (XE.nat (n:=row.length/5) (IQ ⟨by decide,by decide⟩ (cN T.len (xv 1 h1)) (bN m5)) (by rfl)) f2.g2 fun v2 G3 H3 f3 r3=>?_;have h1:=(ah aa).mono f3.hg h1;have d9:=f2.trans f3;have lu:aa.rel G3 v0 c:=h0;refine eV (yo (je (XE.int (xv 2 r3)) (bN m8)) (fun _=>je (XE.int (xv 0 lu)) (bN m4)) (fun _ _=>dB (cj (XE.int (xv 2 r3)) (XE.int (xv 0 lu))) ax)) d9.g2 (fun q G4 H4 f4=>?_) fun q G4 H4 f4=>?_
  ·refine a7 (XE.cast vL ?_) (d9.trans f4).g2 fun y G5 H5 f5 r5=>k y G5 H5 ((d9.trans f4).trans f5) r5;show false=fj c row;unfold fj;simp only[rD,dA]at q;have q:(8<row.length/5∨4<c)∨row.length/5+c=0:=by lia
   by_cases a1:row.length/5≤8
   ·by_cases a2:c≤4
    ·rw[cU (p:=0<row.length/5+c) (by grind)];simp
    ·rw[cU a2];simp
   ·rw[cU a1];simp
  ·refine bp ?_;simp only[uQ,oA]at q;have a1:row.length/5≤8:=by lia
   have a2:c≤4:=by omega
   have a3:0<row.length/5+c:=by lia
   have h1:=(ah aa).mono f4.hg h1;have mM:aa.rel G4 v2 (row.length/5):=r3;have hlen:((row.length:Nat):Int)=((5*(row.length/5):Nat):Int):=by lia
   refine a7 (XE.cast (C6 T rfl (XN.xe (gh (own:=[("at",3)]) (S:=cG) (fun z:Int=>nv row z.toNat (2*(row.length/5))) rfl nd (B5 (t:=3) T.range ax (cN T.len (xv 1 h1)) (bN m5) (by rw[hlen];exact GO _ (by lia))) (cK (by show cu Fi (bE JA) _ _=true;decide+kernel)) (fun _ _ _ _ _=>bT (k:=3) nd) (dS (by decide)) (by simp[nE];lia) ?_))) ?_) (d9.trans f4).g2 fun y G5 H5 f5 r5=>k y G5 H5 ((d9.trans f4).trans f5) r5
   ·rintro z G5 _ hz sg ⟨vz,rz,rfl⟩ s0 H0 C cl fp;obtain⟨j,hj,rfl⟩:=aH.mp hz;rw[bQ]at hj;have e:((0:Int)+(j:Nat)*5)=((5*j:Nat):Int):=by lia
    rw[e,cF];have rz:aa.rel G5 vz (5*j):=by rw[e]at rz;exact rz
    exact XE.cast (aK (M7 T) hr (c:=(row,5*j,2*(row.length/5),())) (by show 5*j+4<row.length;lia) (aF (xv 1 ((ah aa).mono sg h1)) (aF (xv 3 rz) (az (XE.nat (n:=2*(row.length/5)) (jJ (.inl ⟨by decide,by decide⟩) ax (XE.int (xv 2 (aa.mono sg mM)))) (by rfl)))))) rfl
   ·show((nE 0 5 (row.length/5)).map fun z:Int=>nv row z.toNat (2*(row.length/5))).all id=fj c row;unfold fj nE;rw[fZ h5,fZ a1,fZ a2,fZ a3,b7,List.all_map];simp only[Kh];congr 1;funext j;simp only[Function.comp,id];rw[show((0:Int)+(j:Nat)*5)=((5*j:Nat):Int) by omega,cF]
theorem WJ:Def P w K mg base 3 "crossings_from" ["row"] (Fn (aO (ah aa) bu) (ah (a6 CC)) (fun c=>c.1.length≤60∧c.1.length%5=0∧∀j,j<c.1.length/5→c.1.getD (5*j+4) 0≤1) fun c=>cO c.1):=by
 refine T.hs.Pz.mk ["row","crossings","at"] (fun nd H1 vs Q E hr h=>?_);refine DX h fun H row v0 s1 h0 hh k=>?_;obtain⟨hl,h5,hs⟩:=hh;have hl:row.length≤60:=hl;have h5:row.length%5=0:=h5;have hs:∀j,j<row.length/5→row.getD (5*j+4) 0≤1:=hs;have h0:(ah aa).rel H v0 row:=h0;obtain⟨t5,m5⟩:=T.Jx;have hlen:((row.length:Nat):Int)=((5*(row.length/5):Nat):Int):=by lia
 refine iN (i:=1) (R:=a6 CC) nd (a5 aZ) (au.cf s1) fun l G H2 sg f2 o2=>?_;have h0:=(ah aa).mono sg h0;have eC:∀(g:Int→Cross)(xs:List Int),(xs.flatMap fun z=>[g z]).length=xs.length:=fun g xs=>by rw[vn,bj]
 refine nM (fun z:Int=>[(⟨row.getD z.toNat 0,row.getD (z.toNat+1) 0,row.getD (z.toNat+2) 0,row.getD (z.toNat+3) 0,row.getD (z.toNat+4) 0==1⟩:Cross)]) rfl (bT nd) (B5 (t:=2) T.range ax (cN T.len (xv 0 h0)) (bN m5) (by rw[hlen];exact GO _ (by lia))) kq f2 o2 ?_ ?_
 ·rintro z G' H3 σ' bU hz sG f3 o3 ⟨v,rv,rfl⟩ cb D' kk;obtain⟨j,hj,rfl⟩:=aH.mp hz;rw[bQ]at hj;have e:(0+(j:Nat)*5)=((5*j:Nat):Int):=by lia
  rw[e]at rv;rw[eI,eC]at cb;simp only[nE,bj,gR,bZ,iW]at cb;simp only[e,cF]at kk;have h0:=(ah aa).mono sG h0;have gx:∀m:Nat,m<5→cJ row (((5*j:Nat):Int)+m)=some (row.getD (5*j+m) 0):=fun m hm=>by rw[show((5*j:Nat):Int)+m=((5*j+m:Nat):Int) by rfl];exact bt (getD_at (by lia))
  have hsg:((row.getD (5*j+4) 0:Nat):Int)=sgn (row.getD (5*j+4) 0==1):=by
   have:=hs j hj;have:row.getD (5*j+4) 0=0∨row.getD (5*j+4) 0=1:=by lia
   rcases this with q|q<;>rw[q]<;>rfl
  exact si (i:=1) rfl f3 o3 (qz (qc T) T hr (y:=⟨row.getD (5*j) 0,row.getD (5*j+1) 0,row.getD (5*j+2) 0,row.getD (5*j+3) 0,row.getD (5*j+4) 0==1⟩) (aF (aW (xv 0 h0) (xv 2 rv) (bt (getD_at (by lia)))) (aF (aW (xv 0 h0) (cj (xv 2 rv) ax) (gx 1 (by decide))) (aF (aW (xv 0 h0) (cj (xv 2 rv) ax) (gx 2 (by decide))) (aF (aW (xv 0 h0) (cj (xv 2 rv) ax) (gx 3 (by decide))) (az (XE.cast (XE.int (aW (xv 0 h0) (cj (xv 2 rv) ax) (gx 4 (by decide)))) hsg))))))) (by lia) fun G2 H4 s4 f4 o4=>bp (kk G2 H4 s4 f4 o4)
 ·intro σ' G' H3 sG f3 o3 hσ;obtain⟨G4,s4,f4,r4⟩:=o3.known f3;refine gD (hσ 1 (by decide)) (k _ G4 H3 f4 ?_);rw[eI,vn]at r4;refine(congrArg (fun m=>(ah (a6 CC)).rel G4 (.ref l) m) ?_).mp r4;unfold nE cO;rw[b7];refine ef fun j _=>?_;simp only[Function.comp];rw[show(0+(j:Nat)*5)=((5*j:Nat):Int) by lia,cF]
end
theorem yx(ns:List Nat):Paired (aa.rel H) (ns.map fun n:Nat=>V.int (n:Int)) ns:=Paired.of_map
theorem Ab(p:Paired (aa.rel H) vs ns):vs=ns.map fun n:Nat=>V.int (n:Int):=Paired.tE p
section
variable{K:Fg}(T:Txt K mg CC CD)
include T
theorem K3:Def P w K mg base 2 "loose_arcs" ["drawing"] (Fn (fu CC CD) (ah aa) (fun c=>ek c.1) fun c=>(range c.1.arcs).filter fun a=>!(c.1.fine a)):=by
 refine T.hs.VQ.mk Ho (fun nd H1 vs Q E hr h=>?_);refine DX h fun H d v0 s1 h0 hs k=>?_;have hs:d.x.length≤8:=hs;have h0:(aA CC CD).rel H v0 d:=h0;refine i4 (i:=1) (R:=aa) nd (a5 aZ) s1 fun l1 us1 G2 H2 f2 n1 ng1 h1 pr1=>?_;cases pr1;refine i4 (i:=2) (R:=aa) (H:=G2) nd (a5 aZ) f2.g2 fun l2 us2 G3 H3 f3 n2 jX h2 fD=>?_;cases fD;have d9:=f2.trans f3;have h0:=(aA CC CD).mono d9.hg h0;have ne:l1≠l2:=bB h1 n2;refine kL (H:=G3) jE rfl (bT (k:=3) nd) (du (bK T (xv 0 h0))) d9.g2
  (fun Gx i σ' H'=>∃G4 o3,aj Gx G4∧au H H1 G4 H'∧G4 l1=Option.none∧G4 l2=Option.none∧H' l1=some (.lst (((d.x.take i).flatMap fun y:Cross=>[y.uo,y.oo]).map fun n:Nat=>V.int (n:Int)))∧H' l2=some (.lst (((d.x.take i).flatMap fun y:Cross=>[y.ui,y.oi]).map fun n:Nat=>V.int (n:Int)))∧aj G3 Gx∧σ'=[some v0,some (.ref l1),some (.ref l2),o3,none]) ?_ ?_ ?_ ?_
 ·intro Gx H4 f4;exact⟨Gx,none,aj.refl _,d9.trans f4,f4.sep _ _ (f3.sep _ _ ng1 h1) (f3.h2 _ _ h1),f4.sep _ _ jX h2,f4.h2 _ _ (f3.h2 _ _ h1),f4.h2 _ _ h2,f4.hg,rfl⟩
 ·rintro Gx i σ' H' ⟨G4,o3,sx,fx,_⟩;exact sx.trans fx.g2
 ·rintro Gx i y σ' H' hy ⟨G4,o3,sx,fx,g1,g2,q1,q2,sG,rfl⟩ σ'' G5 H5 f5 ⟨vy,ry,rfl⟩;obtain⟨G6,s6,f6⟩:=au.wide sx fx.g2 f5;have ry:=(a6 CC).mono s6 ry;have fx6:=fx.trans f6;have a1:=f6.sep _ _ g1 q1;have a2:=f6.sep _ _ g2 q2;have q1:=f6.h2 _ _ q1;have q2:=f6.h2 _ _ q2;have et:d.x.take (i+1)=d.x.take i++[y]:=by obtain⟨hl,e⟩:=d_.mp hy;rw[←e,xY hl]
  have hlen:∀f:Cross→List Nat,(∀y,(f y).length=2)→((d.x.take i).flatMap f).length≤16:=fun f hf=>by
   rw[jK hf,q_]
   lia
  refine rT (i:=1) (R:=aa) rfl q1 (XN.xe (a5 (aV (fP T (xv 3 ry)) (aV (fJ T (xv 3 ry)) aZ)))) fx6.g2 (by rw[bj];have:=hlen (fun y=>[y.uo,y.oo]) (fun _=>rfl);simp only[bZ,iW];lia) fun us G7 H7 f7 p7=>?_;have e7:=Ab p7;have b1:=f7.sep _ _ a1 q1;have b2:=f7.sep _ _ a2 q2;have f67:=(fx6.trans f7).put n1 b1 (.lst ((((d.x.take i).flatMap fun y:Cross=>[y.uo,y.oo]).map fun n:Nat=>V.int (n:Int))++us));have n9:upd H7 l1 (.lst ((((d.x.take i).flatMap fun y:Cross=>[y.uo,y.oo]).map fun n:Nat=>V.int (n:Int))++us)) l2=some (.lst (((d.x.take i).flatMap fun y:Cross=>[y.ui,y.oi]).map fun n:Nat=>V.int (n:Int))):=by rw[aB (fun z=>ne z.symm)];exact f7.h2 _ _ q2
  have ry:=(a6 CC).mono f7.hg ry;refine rT (i:=2) (R:=aa) rfl n9 (XN.xe (a5 (aV (eN T (xv 3 ry)) (aV (eh T (xv 3 ry)) aZ)))) f67.g2 (by rw[bj];have:=hlen (fun y=>[y.ui,y.oi]) (fun _=>rfl);simp only[bZ,iW];lia) fun aN G8 H8 f8 p8=>?_;have e8:=Ab p8;have c1:=f8.sep _ _ b1 aE;have c2:=f8.sep _ _ b2 n9;refine bp ⟨G8,_,sx.trans (f6.hg.trans (f7.hg.trans f8.hg)),(f67.trans f8).put (f2.bX n2) c2 _,c1,c2,?_,?_,sG,rfl⟩
  ·rw[aB ne,f8.h2 _ _ aE,et,mX,eJ,e7];rfl
  ·rw[aE,et,mX,eJ,e8];rfl
 ·rintro Gx σ' H' ⟨G4,o3,sx,fx,g1,g2,q1,q2,sG,rfl⟩;rw[iX]at q1 q2;have k1:=fx.aX n1 g1 q1;have k2:=k1.aX (f2.bX n2) (by rw[aB (fun z=>ne z.symm)];exact g2) q2;have sk:aj G4 (upd (upd G4 l1 (.lst (d.outs.map fun n:Nat=>V.int (n:Int)))) l2 (.lst (d.ins.map fun n:Nat=>V.int (n:Int)))):=(aj.df g1).trans (aj.df (by rw[aB (fun z=>ne z.symm)];exact g2));have r1:(ah aa).rel (upd (upd G4 l1 (.lst (d.outs.map fun n:Nat=>V.int (n:Int)))) l2 (.lst (d.ins.map fun n:Nat=>V.int (n:Int)))) (.ref l1) d.outs:=⟨l1,_,rfl,by rw[aB ne];exact aE,yx _⟩;have r2:(ah aa).rel (upd (upd G4 l1 (.lst (d.outs.map fun n:Nat=>V.int (n:Int)))) l2 (.lst (d.ins.map fun n:Nat=>V.int (n:Int)))) (.ref l2) d.ins:=⟨l2,_,rfl,aE,yx _⟩;have lu:=(aA CC CD).mono (sG.trans (sx.trans sk)) h0;have harc:d.arcs≤16:=by unfold Dia.arcs;lia
  refine a7 (XE.cast (XN.xe (sV (own:=[("arc",4)]) (S:=aa) (fun z:Int=>z.toNat) (fun z=>!(d.fine z.toNat)) rfl nd (oF (k:=4) T.range (XE.int (XE.cast (r':=d.arcs) (aK (gi T) hr (c:=(d,())) trivial (az (xv 0 lu))) rfl)) (by simp) (by lia)) (cK (by show cu Ho (bE B7) _ _=true;decide+kernel)) (fun _ _ _ _ _=>bT (k:=4) nd) (dS (by decide)) (by rw[kz,cF];lia) ?_ ?_)) ?_) k2.g2 fun y G5 H5 f5 r5=>k y G5 H5 (k2.trans f5) r5
  ·rintro z G5 _ hz sg ⟨vz,rz,rfl⟩;obtain⟨zl,zh⟩:=oZ hz;refine l9 fun s0 H0 C cl fp=>?_;have rz':aa.rel G5 vz z.toNat:=by show vz=V.int ((z.toNat:Nat):Int);rw[show((z.toNat:Nat):Int)=z by lia];exact rz
   refine XT.cast (pZ (kR (XE.int (DT (xv 1 ((ah aa).mono sg r1)) (xv 4 rz'))) ax) fun _=>kR (XE.int (DT (xv 2 ((ah aa).mono sg r2)) (xv 4 rz'))) ax) ?_;unfold Dia.fine;rw[Km.oN,Km.oN];have e:∀n:Nat,(!decide ((n:Int)=1))=!(n==1):=fun n=>by
    by_cases q:n=1
    ·simp[q]
    ·have:¬(n:Int)=1:=by lia
     simp[q,this]
   rw[e,e];cases (d.outs.count z.toNat==1)<;>cases (d.ins.count z.toNat==1)<;>rfl
  ·rintro z G5 _ hz hc sg ⟨vz,rz,rfl⟩ s0 H0 C cl fp;obtain⟨zl,zh⟩:=oZ hz;exact XE.nat (xv 4 rz) (by lia)
  ·unfold ups;rw[List.filter_map,b7,cF];have e1:((fun z:Int=>z.toNat)∘fun i:Nat=>(0:Int)+(i:Nat))=id:=by funext i;simp
   have e2:((fun z:Int=>!(d.fine z.toNat))∘fun i:Nat=>(0:Int)+(i:Nat))=fun i=>!(d.fine i):=by funext i;simp
   rw[e1,e2,List.map_id]
theorem Xc:Def P w K mg base 4 "fits_ball" ["drawing"] (Fn (fu CC CD) cG (fun c=>ek c.1∧Km.Good c.1) fun c=>c.1.drawn):=by
 refine T.hs.T4.mk ["drawing"] (fun nd H1 vs Q E hr h=>?_);refine DX h fun H d v0 s1 h0 hh k=>?_;obtain⟨hs,hg⟩:=hh;have hs:d.x.length≤8:=hs;have hg:Km.Good d:=hg;have hA:cH d:=hg.1;have hS:Sm d:=by show d.x.length≤16;lia
 refine a7 (XE.cast (nc (XE.int (aK (IC T) hr (c:=(d,())) ⟨hS,hA,hg.2⟩ (az (xv 0 h0)))) (cj (cN T.len (bK T (xv 0 h0))) (jJ (.inl ⟨by decide,by decide⟩) ax (XE.int (aK (CM T) hr ⟨hS,hA⟩ (az (xv 0 h0))))))) ?_) s1 k;show decide ((d.faces:Int)=(d.x.length:Int)+2*(d.pieces:Int))=d.drawn;unfold Dia.drawn Dia.n;by_cases q:d.faces=d.x.length+2*d.pieces
 ·rw[fZ (by simp[*]),q];simp
 ·rw[cU (by lia),iT.mpr q]
end
end Kn
namespace aD
abbrev Rw:=Nat→Int
def ex(f:List Nat→Int)(r:Rw):List Nat→Int
 |[]=>0
 |c::cs=>r c*f cs-ex (fun l=>f (c::l)) r cs
def det:List Rw→List Nat→Int
 |[],_=>1
 |r::rs,cols=>ex (det rs) r cols
theorem oX(k l:Int)(r s:Rw):∀(cs:List Nat)(f:List Nat→Int),ex f (fun c=>k*r c+l*s c) cs=k*ex f r cs+l*ex f s cs
 |[],f=>by simp[ex]
 |c::cs,f=>by simp only[ex];rw[oX k l r s cs];grind
theorem nQ(k l:Int)(r:Rw):∀(cs:List Nat)(f g:List Nat→Int),ex (fun x=>k*f x+l*g x) r cs=k*ex f r cs+l*ex g r cs
 |[],f,g=>by simp[ex]
 |c::cs,f,g=>by simp only[ex];rw[nQ k l r cs];grind
theorem uk(r:Rw):∀(cs:List Nat)(f:List Nat→Int),(∀l,f l=0)→ex f r cs=0
 |[],f,h=>rfl
 |c::cs,f,h=>by simp only[ex];rw[uk r cs _ (fun l=>h _),h];simp
theorem zx(r:Rw)(cs:List Nat)(h:∀l,f l=g l):ex f r cs= ex g r cs:=by have:f=g:=funext h;rw[this]
theorem tX(r:Rw):∀(cs:List Nat)(f:List Nat→Int),ex (ex f r) r cs=0
 |[],f=>rfl
 |c::cs,f=>by
  simp only[ex];have h:=tX r cs (fun l=>f (c::l));have e:ex (fun l=>r c*f l-ex (fun l=>f (c::l)) r l) r cs=r c*ex f r cs-ex (ex (fun l=>f (c::l)) r) r cs:=by have:=nQ (r c) (-1) r cs f (ex (fun l=>f (c::l)) r);grind
  simp[*]
theorem UQ(r s:Rw)(cs:List Nat)(f:List Nat→Int):ex (ex f r) s cs=-ex (ex f s) r cs:=by
 have h:=tX (fun c=>1*r c+1*s c) cs f;have e:ex f (fun c=>1*r c+1*s c)=fun l=>1*ex f r l+1*ex f s l:=by
  funext l
  exact oX 1 1 r s l f
 rw[e,nQ,oX,oX,tX,tX]at h
 lia
theorem GC(r s:Rw)(rs:List Rw)(cs:List Nat):det (r::s::rs) cs=-det (s::r::rs) cs:=by exact UQ s r cs (det rs)
theorem CF(k l:Int)(r s:Rw)(post:List Rw):∀(pre:List Rw)(cs:List Nat),det (pre++(fun c=>k*r c+l*s c)::post) cs=k*det (pre++r::post) cs+l*det (pre++s::post) cs
 |[],cs=>by exact oX k l r s cs _
 |p::pre,cs=>by simp only[oB,det];rw[←nQ];exact zx p cs fun x=>CF k l r s post pre x
theorem HS(a:Rw)(post:List Rw):∀(pre:List Rw)(cs:List Nat),det (a::(pre++a::post)) cs=0
 |[],cs=>by exact tX a cs _
 |p::pre,cs=>by rw[oB,GC];have:det (p::a::(pre++a::post)) cs= ex (det (a::(pre++a::post))) p cs:=rfl;rw[this,uk p cs _ (fun l=>HS a post pre l)];rfl
theorem IX(a:Rw)(post:List Rw):∀(pre:List Rw)(cs:List Nat),det (pre++a::post) cs=(if pre.length%2=0 then 1 else-1)*det (a::(pre++post)) cs
 |[],cs=>by simp
 |p::pre,cs=>by
  have h1:det (p::(pre++a::post)) cs= ex (det (pre++a::post)) p cs:=rfl;have h2:ex (det (pre++a::post)) p cs= ex (fun l=>(if pre.length%2=0 then 1 else-1)*det (a::(pre++post)) l+0*det (a::(pre++post)) l) p cs:=
   zx p cs fun l=>by rw[IX a post pre l];simp
  rw[oB,h1,h2,nQ];have h3:ex (det (a::(pre++post))) p cs=det (p::a::(pre++post)) cs:=rfl;rw[h3,GC,oB,bZ];grind
theorem Ct(r:Rw)(c0:Nat):∀(cs:List Nat)(f:List Nat→Int),c0∈cs→r c0=0→(∀l,l.length+1=cs.length→c0∈l→f l=0)→ex f r cs=0
 |[],f,h,_,_=>by simp at h
 |c::cs,f,h,hr,hf=>by
  simp only[ex];by_cases e:c=c0
  ·subst e;rw[hr];have z:∀(cs:List Nat)(g:List Nat→Int),(∀l,l.length+1=cs.length→g l=0)→ex g r cs=0:=by
    intro cs;induction cs with
    |nil=>intro g _;rfl
    |cons d ds ih=>intro g hg;simp only[ex];simp_all
   simp_all
  ·have hm:c0∈cs:=by grind
   rw[Ct r c0 cs (fun l=>f (c::l)) hm hr (fun l hl hc=>hf (c::l) (by simp[hl]) (by simp[hc])),hf cs rfl hm];simp
theorem yr(c0:Nat):∀(rs:List Rw)(cs:List Nat),rs.length=cs.length→c0∈cs→(∀r∈rs,r c0=0)→det rs cs=0
 |[],cs,hl,hc,_=>by grind
 |r::rs,cs,hl,hc,hr=>by exact Ct r c0 cs (det rs) hc (hr r (by simp)) fun l nZ iP=>yr c0 rs l (by simp at hl;lia) iP fun s hs=>hr s (by simp[hs])
theorem z8:∀(cs:List Nat)(f g:List Nat→Int),(∀c∈cs,r c=s c)→(∀l,(∀c∈l,c∈cs)→f l=g l)→ex f r cs= ex g s cs
 |[],f,g,_,_=>rfl
 |c::cs,f,g,hr,hf=>by simp only[ex];rw[hr c (by simp),hf cs (fun d hd=>by simp[hd]),z8 cs (fun l=>f (c::l)) (fun l=>g (c::l)) (fun d hd=>hr d (by simp[hd])) (fun l hl=>hf (c::l) (fun d hd=>?_))];grind
theorem AW:∀(rs:List α)(cs:List Nat),(∀r∈rs,∀c∈cs,φ r c=ψ r c)→det (rs.map φ) cs=det (rs.map ψ) cs
 |[],cs,_=>rfl
 |r::rs,cs,h=>by exact z8 cs _ _ (fun c hc=>h r (by simp) c hc) fun l hl=>AW rs l fun s hs c hc=>h s (by simp[hs]) c (hl c hc)
theorem ex_map(r:Rw)(u:Nat→Nat):∀(cs:List Nat)(f g:List Nat→Int),(∀l,f (l.map u)=g l)→ex f r (cs.map u)= ex g (fun c=>r (u c)) cs
 |[],f,g,_=>rfl
 |c::cs,f,g,h=>by simp only[a9,ex];rw[h cs,ex_map r u cs (fun l=>f (u c::l)) (fun l=>g (c::l)) (fun l=>h (c::l))]
theorem IV(u:Nat→Nat):∀(rs:List Rw)(cs:List Nat),det rs (cs.map u)=det (rs.map fun r c=>r (u c)) cs
 |[],cs=>rfl
 |r::rs,cs=>by exact ex_map r u cs (det rs) _ fun l=>IV u rs l
def ji(a:Rw)(c0:Nat)(r:Rw):Rw:=fun c=>a c0*r c+(-r c0)*a c
theorem Hl(a:Rw)(c0:Nat)(cs:List Nat):∀(rs pre:List Rw),det (a::(pre++rs.map (ji a c0))) cs=a c0^rs.length*det (a::(pre++rs)) cs
 |[],pre=>by simp
 |r::rs,pre=>by have h:=CF (a c0) (-r c0) r a (rs.map (ji a c0)) (a::pre) cs;rw[oB,oB,oB,HS]at h;rw[a9];have e:ji a c0 r=fun c=>a c0*r c+-r c0*a c:=rfl;rw[e,h];have ih:=Hl a c0 cs rs (pre++[r]);grind
theorem Mr(a:Rw)(c0:Nat)(rs:List Rw)(cs:List Nat)(hl:rs.length=cs.length):a c0*det (rs.map (ji a c0)) cs=a c0^rs.length*det (a::rs) (c0::cs):=by
 have h:=Hl a c0 (c0::cs) rs [];simp at h;rw[←h];have e:det (a::rs.map (ji a c0)) (c0::cs)=a c0*det (rs.map (ji a c0)) cs-ex (fun l=>det (rs.map (ji a c0)) (c0::l)) a cs:=rfl;rw[e];have z:∀(ds:List Nat)(g:List Nat→Int),(∀l,l.length+1=ds.length→g l=0)→ex g a ds=0:=by
  intro ds;induction ds with
  |nil=>intro g _;rfl
  |cons d ds ih=>intro g hg;simp only[ex];grind
 rw[z cs _ fun l nZ=>yr c0 _ _ (by simp;simp_all) (by simp) fun r hr=>?_]
 ·simp
 ·obtain⟨s,_,rfl⟩:=aH.mp hr;simp only[ji];grind
def jH(p:Int)(m:List Rw)(cols:List Nat):Prop:=∀(k:Nat)(rs:List Rw)(cs:List Nat),(∀r∈rs,r∈m)→(∀c∈cs,c∈cols)→rs.length=k+1→cs.length=k+1→p^k∣det rs cs
theorem jH.one(m:List Rw)(cols:List Nat):jH 1 m cols:=fun k rs cs _ _ _ _=>by
 lia
def eT(p:Int)(a:Rw)(c0:Nat)(r:Rw):Rw:=fun c=>(a c0*r c-r c0*a c)/p
theorem TZ(a r:Rw)(c d:Nat):det [a,r] [c,d]=a c*r d-r c*a d:=by simp only[det,ex];grind
theorem FP(B:jH p m cols)(ha:a∈m)(hr:r∈m)(h0:c0∈cols)(hc:c∈cols):ji a c0 r c=p*eT p a c0 r c:=by have h:=B 1 [a,r] [c0,c] (by intro x hx;simp at hx;rcases hx with rfl|rfl<;>assumption) (by intro x hx;simp at hx;rcases hx with rfl|rfl<;>assumption) rfl rfl;rw[TZ,Ko,Int.pow_zero,uR]at h;simp only[ji,eT];rw[Int.mul_ediv_cancel' h];grind
theorem ER(p:Int)(φ ψ:Rw→Rw):∀(rs:List Rw)(cs:List Nat),(∀r∈rs,∀c∈cs,φ r c=p*ψ r c)→det (rs.map φ) cs=p^rs.length*det (rs.map ψ) cs
 |[],cs,_=>by simp
 |r::rs,cs,h=>by
  simp only[a9,det,bZ];have e:ex (det (rs.map φ)) (φ r) cs= ex (fun l=>p^rs.length*det (rs.map ψ) l+0*det (rs.map ψ) l) (fun c=>p*ψ r c+0*ψ r c) cs:=
   z8 cs _ _ (fun c hc=>by rw[h r (by simp) c hc];simp) fun l hl=>by rw[ER p φ ψ rs l fun s hs c hc=>h s (by simp[hs]) c (hl c hc)];simp
  rw[e,nQ,oX,Ko];grind
theorem yV(B:jH p m cols)(ha:a∈m)(h0:c0∈cols)(hz:a c0≠0)(hr:∀r∈rs,r∈m)(hc:∀c∈cs,c∈cols)(hl:rs.length=k+1)(iP:cs.length=k+1):
  p^(k+1)*det (rs.map (eT p a c0)) cs=a c0^k*det (a::rs) (c0::cs):=by
 have h1:=ER p (ji a c0) (eT p a c0) rs cs fun r d8 c dP=>FP B ha (hr r d8) h0 (hc c dP);have h2:=Mr a c0 rs cs (by simp_all);rw[h1,hl,Ko (a c0)]at h2;have h3:a c0*(p^(k+1)*det (rs.map (eT p a c0)) cs)=a c0*(a c0^k*det (a::rs) (c0::cs)):=by rw[h2];grind
 exact BM hz h3
theorem qr(φ:α→β):∀(l:List β)(m:List α),(∀x∈l,x∈m.map φ)→∃l':List α,(∀x∈l',x∈m)∧l=l'.map φ
 |[],m,_=>⟨[],by simp,rfl⟩
 |x::l,m,h=>by obtain⟨y,hy,rfl⟩:=aH.mp (h x (by simp));obtain⟨l',h1,h2⟩:=qr φ l m fun z hz=>h z (by simp[hz]);refine⟨y::l',?_,by simp[h2]⟩;simp_all
theorem jH.step{m rest:List Rw}(B:jH p m (c0::cols))(hp:p≠0)(ha:a∈m)(hr:∀r∈rest,r∈m)(hz:a c0≠0):jH (a c0) (rest.map (eT p a c0)) cols:=by intro k rs cs h1 h2 h3 h4;obtain⟨gA,g1,rfl⟩:=qr _ rs rest h1;rw[bj]at h3;have e:=yV B ha (by simp) hz (fun r q=>hr r (g1 r q)) (fun c q=>by simp[h2 c q]) h3 h4;obtain⟨q,hq⟩:=B (k+1) (a::gA) (c0::cs) (by intro x hx;rcases a_.mp hx with rfl|z;exact ha;exact hr x (g1 x z)) (by intro x hx;rcases a_.mp hx with rfl|z;simp;simp[h2 x z]) (by simp[h3]) (by simp[h4]);refine⟨q,?_⟩;rw[hq]at e;have hpk:p^(k+1)≠0:=Kp hp;refine BM hpk ?_;grind
def fn(l:List Int):Rw:=fun c=>l.getD c 0
def iB(p:Int)(a r:List Int):List Int:=((a.drop 1).zip (r.drop 1)).map fun(x:Int×Int)=>(a.headD 0*x.2-r.headD 0*x.1)/p
theorem qK(l:List Int):l.headD 0=fn l 0:=by cases l<;>rfl
theorem Gm(p:Int)(ha:a.length=n+1)(hr:r.length=n+1)(hc:c<n):fn (iB p a r) c= eT p (fn a) 0 (fn r) (c+1):=by
 unfold iB eT;rw[qK,qK];generalize fn a 0=u;generalize fn r 0=v;unfold fn;have h1:c+1<a.length:=by simp_all
 have h2:c+1<r.length:=by simp_all
 simp[bC,cz,J_,h1,h2];rw[List.zip,List.getElem?_zipWith];simp[List.getElem?_drop,Nat.add_comm 1 c,h1,h2]
theorem Hs(p:Int)(ha:a.length=n+1)(hr:r.length=n+1):(iB p a r).length=n:=by unfold iB;simp[ha,hr]
theorem vE(f:Nat)(p:Int)(m:List (List Int))(hm:m≠[]):detBy (f+1) p m=match m.findIdx? fun(r:List Int)=>r.headD 0 !=0 with
   |none=>0
   |some i=>(if i%2=0 then 1 else-1)*detBy f ((m.getD i []).headD 0) ((m.take i++m.drop (i+1)).map (iB p (m.getD i []))):=by
 cases m with
 |nil=>exact absurd rfl hm
 |cons x m=>
  simp only[detBy];split
  ·rename_i h;rw[h]
  ·rename_i i h;rw[h];simp only[yc];rfl
theorem Cc:∀(n:Nat)(p:Int)(m:List (List Int)),p≠0→m.length=n+1→(∀r∈m,r.length=n+1)→jH p (m.map fn) (range (n+1))→p^n*detBy (n+1) p m=det (m.map fn) (range (n+1))
 |n,p,m,hp,hl,hr,B=>by
  rw[vE n p m (by intro e;rw[e]at hl;cases hl)];have JF:range (n+1)=0::(range n).map (·+1):=by rw[Bt]
  cases hf:m.findIdx? fun(r:List Int)=>r.headD 0 !=0 with
  |none=>simp;symm;refine yr 0 _ _ (by simp[hl]) (by simp) fun r d8=>?_;obtain⟨l,cb,rfl⟩:=aH.mp d8;rw[←qK];simp_all
  |some i=>
   simp only;obtain⟨hi,h1,h2⟩:=rK.mp hf;have ea:m.getD i []=m[i]:=by simp[bC,hi]
   rw[ea];have hz:fn m[i] 0≠0:=by rw[←qK];simp_all
   have Bq:m=m.take i++m[i]::m.drop (i+1):=by rw[←rG hi,rF]
   have hdet:det (m.map fn) (range (n+1))=(if i%2=0 then 1 else-1)*det (fn m[i]::(m.take i++m.drop (i+1)).map fn) (range (n+1)):=by
    conv=>lhs;rw[Bq]
    rw[eJ,a9,IX,eJ,bj,q_,BN (by grind)]
   rw[hdet];have fB:m[i]∈m:=lD hi;have pQ:∀r∈m.take i++m.drop (i+1),r∈m:=by
    intro r h;rcases cE.mp h with h|h
    ·exact lH h
    ·exact mZ h
   have hlen:(m.take i++m.drop (i+1)).length=n:=by simp;grind
   generalize hR:m.take i++m.drop (i+1)=R at*;have B':jH (fn m[i] 0) ((R.map fn).map (eT p (fn m[i]) 0)) ((range n).map (·+1)):=by rw[JF]at B;exact B.step hp (aH.mpr ⟨_,fB,rfl⟩) (fun r h=>by obtain⟨l,h1,rfl⟩:=aH.mp h;exact aH.mpr ⟨l,pQ l h1,rfl⟩) hz
   have key:∀(rs:List (List Int))(cs:List Nat),(∀r∈rs,r∈R)→(∀c∈cs,c<n)→det ((rs.map (iB p m[i])).map fn) cs=det ((rs.map fn).map (eT p (fn m[i]) 0)) (cs.map (·+1)):=by intro rs cs h1 h2;rw[IV,b7,b7,b7];exact AW rs cs fun r d8 c hc=>by show fn (iB p m[i] r) c=_;rw[Gm p (hr _ fB) (hr r (pQ r (h1 r d8))) (h2 c hc)];rfl
   cases n with
   |zero=>have:R=[]:=uL.mp hlen;subst this;simp[detBy,det,ex,jF];rw[←qK];simp
   |succ n=>
    have ih:=Cc n (fn m[i] 0) (R.map (iB p m[i])) hz (by simp[hlen]) (fun r h=>by
     obtain⟨l,h1,rfl⟩:=aH.mp h;exact Hs p (hr _ fB) (hr l (pQ l h1))) (by
     intro k rs cs h1 h2 h3 h4;obtain⟨gA,g1,rfl⟩:=qr _ rs _ h1;obtain⟨rs'',g2,rfl⟩:=qr _ gA _ g1;rw[key rs'' cs g2 (fun c hc=>by simpa using h2 c hc)];exact B' k _ _ (fun r h=>by
      obtain⟨l,h1,rfl⟩:=aH.mp h;obtain⟨l2,h2,rfl⟩:=aH.mp h1;exact aH.mpr ⟨_,aH.mpr ⟨l2,g2 l2 h2,rfl⟩,rfl⟩) (fun c hc=>by
      obtain⟨d,h1,rfl⟩:=aH.mp hc;exact aH.mpr ⟨d,h2 d h1,rfl⟩) (by simpa using h3) (by simpa using h4))
    rw[key R _ (fun r h=>h) (fun c hc=>by simpa using hc)]at ih;rw[qK];have c:=yV (cs:=(range (n+1)).map (·+1)) (k:=n) B (aH.mpr ⟨_,fB,rfl⟩) (by simp) hz (fun r h=>by obtain⟨l,h1,rfl⟩:=aH.mp h;exact aH.mpr ⟨l,pQ l h1,rfl⟩) (fun c hc=>by obtain⟨d,h1,rfl⟩:=aH.mp hc;simp at h1⊢;grind) (by simp[hlen]) (by simp);rw[←ih]at c;rw[JF];have hpn:fn m[i] 0^n≠0:=Kp hz;have c2:p^(n+1)*detBy (n+1) (fn m[i] 0) (R.map (iB p m[i]))=det (fn m[i]::R.map fn) (0::(range (n+1)).map (·+1)):=by refine BM hpn ?_;grind
    grind
def val(t:Int):Nat→(Nat→Int)→Int
 |0,_=>0
 |n+1,g=>g 0+t*val t n (fun k=>g (k+1))
def dg:List (Rw×Rw)→List Nat→Nat→Int
 |[],_,k=>if k=0 then 1 else 0
 |r::rs,cs,0=>ex (fun l=>dg rs l 0) r.1 cs
 |r::rs,cs,k+1=>ex (fun l=>dg rs l (k+1)) r.1 cs+ex (fun l=>dg rs l k) r.2 cs
theorem val_congr(t:Int):∀(n:Nat)(g h:Nat→Int),(∀k,k<n→g k=h k)→val t n g=val t n h
 |0,_,_,_=>rfl
 |n+1,g,h,e=>by simp only[val];rw[e 0 (by simp),val_congr t n (fun k=>g (k+1)) (fun k=>h (k+1)) (fun k hk=>e (k+1) (by simp_all))]
theorem val_add(t:Int):∀(n:Nat)(g h:Nat→Int),val t n (fun k=>g k+h k)=val t n g+val t n h
 |0,_,_=>rfl
 |n+1,g,h=>by simp only[val];rw[val_add t n (fun k=>g (k+1)) (fun k=>h (k+1))];grind
theorem Aj(t:Int)(r:Rw)(cs:List Nat):∀(n:Nat)(f:Nat→List Nat→Int),val t n (fun k=>ex (f k) r cs)= ex (fun l=>val t n (fun k=>f k l)) r cs
 |0,f=>by simp only[val];rw[uk r cs _ (fun _=>rfl)]
 |n+1,f=>by simp only[val];rw[Aj t r cs n (fun k=>f (k+1))];have:=nQ 1 t r cs (f 0) (fun l=>val t n fun k=>f (k+1) l);rw[←uR (ex (f 0) r cs),←this];exact zx r cs fun l=>by simp
theorem val_last(t:Int):∀(n:Nat)(g:Nat→Int),g n=0→val t (n+1) g=val t n g
 |0,g,h=>by simp[val,h]
 |n+1,g,h=>by have:=val_last t n (fun k=>g (k+1)) h;rw[val,this];rfl
theorem yn:∀(rs:List (Rw×Rw))(cs:List Nat)(k:Nat),rs.length<k→dg rs cs k=0
 |[],cs,k,h=>by simp[dg];simp at h;lia
 |r::rs,cs,0,h=>by simp at h
 |r::rs,cs,k+1,h=>by simp only[dg];rw[uk r.1 cs _ (fun l=>yn rs l (k+1) (by simp at h;lia)),uk r.2 cs _ (fun l=>yn rs l k (by simp at h;omega))];rfl
def atT(t:Int)(r:Rw×Rw):Rw:=fun c=>1*r.1 c+t*r.2 c
theorem Fs(t:Int):∀(rs:List (Rw×Rw))(cs:List Nat)(n:Nat),rs.length<n→det (rs.map (atT t)) cs=val t n (dg rs cs)
 |[],cs,0,h=>by simp at h
 |[],cs,n+1,h=>by
  simp only[gQ,det,val,dg];have:val t n (fun k=>if k+1=0 then(1:Int)else 0)=0:=by
   have z:∀n,val t n (fun _=>(0:Int))=0:=by
    intro n;induction n with
    |zero=>rfl
    |succ n ih=>simp[val,ih]
   exact(val_congr t n _ (fun _=>(0:Int)) fun k _=>by simp).trans (z n)
  rw[this];simp
 |r::rs,cs,0,h=>by simp at h
 |r::rs,cs,n+1,h=>by
  have hl:rs.length<n:=by simp at h;lia
  simp only[a9,det];have e:ex (det (rs.map (atT t))) (atT t r) cs= ex (fun l=>val t n (dg rs l)) (fun c=>1*r.1 c+t*r.2 c) cs:=by rw[show det (rs.map (atT t))=fun l=>val t n (dg rs l)from funext fun l=>Fs t rs l n hl];rfl
  rw[e,oX];simp only[val,dg];rw[val_add,Aj,Aj];have e2:ex (fun l=>val t n (dg rs l)) r.1 cs= ex (fun l=>dg rs l 0) r.1 cs+t*ex (fun l=>val t n (fun k=>dg rs l (k+1))) r.1 cs:=by have:=nQ 1 t r.1 cs (fun l=>dg rs l 0) (fun l=>val t n fun k=>dg rs l (k+1));rw[←uR (ex (fun l=>dg rs l 0) r.1 cs),←this];refine zx r.1 cs fun l=>?_;rw[←val_last t n (dg rs l) (yn rs l n hl)];simp only[val];simp
  rw[e2];grind
def wt(r:Rw)(cs:List Nat):Nat:=(cs.map fun c=>(r c).natAbs).sum
theorem vp(h:l.Sublist cs):wt r l≤wt r cs:=by
 unfold wt;induction h with
 |slnil=>simp
 |cons a _ ih=>simp;lia
 |cons_cons a _ ih=>simp;lia
theorem tT(r:Rw)(M:Nat):∀(cs:List Nat)(f:List Nat→Int),(∀l,l.Sublist cs→(f l).natAbs≤M)→(ex f r cs).natAbs≤wt r cs*M
 |[],f,_=>by simp[ex]
 |c::cs,f,h=>by
  have ih:=tT r M cs (fun l=>f (c::l)) fun l hl=>h _ (hl.cons_cons c);have h0:=h cs (List.sublist_cons_self c cs);have hm:(r c*f cs).natAbs≤(r c).natAbs*M:=by rw[Int.natAbs_mul];exact Nat.mul_le_mul_left _ h0
  have e:wt r (c::cs)*M=(r c).natAbs*M+wt r cs*M:=by simp only[wt,a9,lI];grind
  simp only[ex];omega
theorem Gj(W:Nat):∀(rs:List (Rw×Rw))(cs:List Nat)(k:Nat),(∀r∈rs,wt r.1 cs+wt r.2 cs≤W)→(dg rs cs k).natAbs≤W^rs.length
 |[],cs,k,_=>by simp only[dg];split<;>simp
 |r::rs,cs,k,h=>by
  have ih:∀(l:List Nat)(k:Nat),l.Sublist cs→(dg rs l k).natAbs≤W^rs.length:=fun l k hl=>Gj W rs l k fun s hs=>by
   have h1:=h s (by simp[hs]);have h2:=vp (r:=s.1) hl;have h3:=vp (r:=s.2) hl
   lia
  have hw:=h r (by simp);have hle:(wt r.1 cs+wt r.2 cs)*W^rs.length≤W*W^rs.length:=YA _ hw;rw[Nat.add_mul]at hle;rw[bZ,rQ,rA];cases k with
  |zero=>simp only[dg];have:=tT r.1 (W^rs.length) cs (fun l=>dg rs l 0) fun l hl=>ih l 0 hl;grind
  |succ k=>simp only[dg];have h1:=tT r.1 (W^rs.length) cs (fun l=>dg rs l (k+1)) fun l hl=>ih l (k+1) hl;have h2:=tT r.2 (W^rs.length) cs (fun l=>dg rs l k) fun l hl=>ih l k hl;omega
def tr:Nat→(Nat→Int)→List Int
 |0,_=>[]
 |n+1,g=>if tr n (fun k=>g (k+1))=[]∧g 0=0 then []else g 0::tr n (fun k=>g (k+1))
theorem val_zero{M:Nat}(hB:(M:Int)<B):∀(n:Nat)(g:Nat→Int),(∀k,(g k).natAbs≤M)→(val B n g=0↔tr n g=[])
 |0,g,_=>by simp[val,tr]
 |n+1,g,h=>by
  have ih:=val_zero hB n (fun k=>g (k+1)) fun k=>h (k+1);have h0:=h 0;simp only[val,tr];constructor
  ·intro e;have hz:val B n (fun k=>g (k+1))=0:=by
    by_cases q:val B n (fun k=>g (k+1))=0
    ·exact q
    ·exfalso;have:B∣g 0:=⟨-val B n (fun k=>g (k+1)),by grind⟩;have hz:=Int.eq_zero_of_dvd_of_natAbs_lt_natAbs this (by lia);rw[hz]at e;have:B*val B n (fun k=>g (k+1))=0:=by simp_all
     rcases Int.mul_eq_zero.mp this with q1|q1
     ·lia
     ·exact q q1
   rw[hz]at e;rw[ag ⟨ih.mp hz,by simpa using e⟩]
  ·intro e;by_cases c:tr n (fun k=>g (k+1))=[]∧g 0=0
   ·rw[ih.mpr c.1,c.2];simp
   ·rw[af c]at e;cases e
theorem near{M:Nat}(hB:2*(M:Int)<B)(x z:Int)(hx:x.natAbs≤M):(if 2*((x+B*z)%B)<B then(x+B*z)%B else(x+B*z)%B-B)=x∧(if 2*((x+B*z)%B)>B then(x+B*z)%B-B else(x+B*z)%B)=x:=by
 rw[Int.add_mul_emod_self_left];by_cases c:0≤x
 ·rw[BO c (by lia)];constructor
  ·rw[ag (by lia)]
  ·rw[af (by lia)]
 ·have e:x%B=x+B:=by rw[←Int.add_emod_right,BO (by grind) (by grind)]
  rw[e];constructor
  ·rw[af (by grind)];simp
  ·rw[ag (by grind)];simp
theorem Ei{M:Nat}(hB:2*(M:Int)<BASE):∀(n f:Nat)(g:Nat→Int),n≤f→(∀k,(g k).natAbs≤M)→Kb.digits f (val BASE n g)=tr n g
 |0,0,g,_,_=>rfl
 |0,f+1,g,_,_=>by simp[Kb.digits,val,tr]
 |n+1,0,g,h,_=>by lia
 |n+1,f+1,g,h,hg=>by
  have hz:=val_zero (show(M:Int)<BASE by lia) (n+1) g hg;simp only[Kb.digits];by_cases c:val BASE (n+1) g=0
  ·simp_all
  ·rw[af c];have c2:¬tr (n+1) g=[]:=fun q=>c (hz.mpr q);have e:=(near hB (g 0) (val BASE n fun k=>g (k+1)) (hg 0)).1;have e1:val BASE (n+1) g=g 0+BASE*val BASE n fun k=>g (k+1):=rfl;rw[e1,e];have e2:(g 0+BASE*val BASE n (fun k=>g (k+1))-g 0)/BASE=val BASE n fun k=>g (k+1):=by rw[show∀a b:Int,a+b-a=b by intro a b;lia];exact Kq _ (by decide)
   rw[e2,Ei hB n f (fun k=>g (k+1)) (by simp_all) fun k=>hg (k+1)];simp only[tr]at c2⊢
   lia
def dE(B:Int):Nat→Int→List Int
 |0,_=>[]
 |f+1,z=>if z=0 then []else
  let x:=if 2*(z%B)>B then z%B-B else z%B
  x::dE B f ((z-x)/B)
theorem DN{M:Nat}(hB:2*(M:Int)<B):∀(n f:Nat)(g:Nat→Int),n≤f→(∀k,(g k).natAbs≤M)→dE B f (val B n g)=tr n g
 |0,0,g,_,_=>rfl
 |0,f+1,g,_,_=>by simp[dE,val,tr]
 |n+1,0,g,h,_=>by lia
 |n+1,f+1,g,h,hg=>by
  have hz:=val_zero (show(M:Int)<B by lia) (n+1) g hg;simp only[dE];by_cases c:val B (n+1) g=0
  ·simp_all
  ·rw[af c];have c2:¬tr (n+1) g=[]:=fun q=>c (hz.mpr q);have e:=(near hB (g 0) (val B n fun k=>g (k+1)) (hg 0)).2;have e1:val B (n+1) g=g 0+B*val B n fun k=>g (k+1):=rfl;rw[e1,e];have e2:(g 0+B*val B n (fun k=>g (k+1))-g 0)/B=val B n fun k=>g (k+1):=by rw[show∀a b:Int,a+b-a=b by intro a b;lia];exact Kq _ (by lia)
   rw[e2,DN hB n f (fun k=>g (k+1)) (by simp_all) fun k=>hg (k+1)];simp only[tr]at c2⊢
   lia
open Kb
def kh(d:Dia)(r col:Nat):Int:=match d.x[r/2]? with
 |some y=>if r%2=0 then at_ y.oi col-at_ y.oo col else(if y.minus=true then-at_ y.ui col else-at_ y.uo col)+at_ y.oi col
 |none=>0
def kM(d:Dia)(r col:Nat):Int:=match d.x[r/2]? with
 |some y=>if r%2=0 then 0 else(if y.minus=true then at_ y.uo col else at_ y.ui col)-at_ y.oi col
 |none=>0
theorem Rz(d:Dia)(t:Int)(r col:Nat):d.row t r col=1*kh d r col+t*kM d r col:=by
 unfold Dia.row kh kM;cases d.x[r/2]? with
 |none=>simp
 |some y=>
  simp only;by_cases h:r%2=0
  ·simp only[ag h];simp
  ·simp only[af h];by_cases m:y.minus=true
   ·simp only[ag m];grind
   ·simp only[af m];grind
def qv(d:Dia)(m:Nat):List (Rw×Rw):=(range m).map fun r=>(kh d r,kM d r)
def nJ(d:Dia):Nat→Int:=dg (qv d (d.arcs-1)) (range (d.arcs-1))
theorem A2(d:Dia)(t:Int)(h0:0<d.n)(h8:d.n≤8):d.minor t=val t 16 (nJ d):=by
 unfold Dia.minor nJ;obtain⟨n,hn⟩:∃n,d.arcs-1=n+1:=⟨d.arcs-2,by unfold Dia.arcs;unfold Dia.n at h0;lia⟩;have hb:n+1<16:=by unfold Dia.arcs at hn;unfold Dia.n at h8;omega
 rw[hn];have h:=Cc n 1 ((range (n+1)).map fun r=>(range (n+1)).map fun c=>d.row t r c) (by decide) (by simp) (by simp) (jH.one _ _);rw[Int.one_pow,uR]at h;rw[h,b7,←Fs t (qv d (n+1)) (range (n+1)) 16 (by simp[qv];grind)];unfold qv;rw[b7];refine AW _ _ fun r _ c hc=>?_;show fn ((range (n+1)).map fun c=>d.row t r c) c=atT t (kh d r,kM d r) c;have dP:c<n+1:=by simpa using hc
 unfold fn atT;rw[bC,cz,oy dP];exact Rz d t r c
theorem Dm(a:Nat):∀(m:Nat),wt (fun c=>at_ a c) (range m)≤if a<m then 1 else 0
 |0=>by simp[wt]
 |m+1=>by
  have ih:=Dm a m;unfold wt at ih⊢;rw[jF,eJ,Kr];simp;unfold at_ at ih⊢
  lia
theorem wy(r:Rw)(ss:List Rw)(h:∀c,(r c).natAbs≤(ss.map fun s=>(s c).natAbs).sum):∀cs,wt r cs≤(ss.map fun s=>wt s cs).sum
 |[]=>by simp[wt]
 |c::cs=>by
  have ih:=wy r ss h cs;have hc:=h c;have e:(ss.map fun s=>wt s (c::cs)).sum=(ss.map fun s=>(s c).natAbs).sum+(ss.map fun s=>wt s cs).sum:=by
   clear ih hc h;induction ss with
   |nil=>rfl
   |cons s ss ih=>
    simp only[a9,lI,ih];simp only[wt,a9,lI]
    lia
  rw[e];show(r c).natAbs+wt r cs≤_
  lia
theorem C2(d:Dia)(h8:d.n≤8)(k:Nat):(nJ d k).natAbs≤4^15:=by
 have h:=Gj 4 (qv d (d.arcs-1)) (range (d.arcs-1)) k fun r hr=>?_
 ·refine cx h (BQ (by decide) ?_);unfold qv;simp;unfold Dia.arcs;unfold Dia.n at h8;lia
 ·obtain⟨i,_,rfl⟩:=aH.mp hr;have one:∀a,wt (fun c=>at_ a c) (range (d.arcs-1))≤1:=fun a=>by
   have:=Dm a (d.arcs-1)
   lia
  have zero:wt (fun _=>(0:Int)) (range (d.arcs-1))=0:=by
   generalize range (d.arcs-1)=cs;induction cs with
   |nil=>rfl
   |cons c cs ih=>simp only[wt,a9,lI]at ih⊢;rw[ih];rfl
  cases hx:d.x[i/2]? with
  |none=>
   have e1:kh d i=fun _=>0:=by funext c;unfold kh;rw[hx]
   have e2:kM d i=fun _=>0:=by funext c;unfold kM;rw[hx]
   simp[*]
  |some y=>
   by_cases p:i%2=0
   ·have e1:kh d i=fun c=>at_ y.oi c-at_ y.oo c:=by funext c;unfold kh;rw[hx];simp only[ag p]
    have e2:kM d i=fun _=>0:=by funext c;unfold kM;rw[hx];simp only[ag p]
    rw[e1,e2,zero];have:=wy (fun c=>at_ y.oi c-at_ y.oo c) [fun c=>at_ y.oi c,fun c=>at_ y.oo c] (fun c=>by simp;omega) (range (d.arcs-1));grind
   ·have e1:kh d i=fun c=>-at_ (if y.minus=true then y.ui else y.uo) c+at_ y.oi c:=by funext c;unfold kh;rw[hx];simp only[af p];split<;>rfl
    have e2:kM d i=fun c=>at_ (if y.minus=true then y.uo else y.ui) c-at_ y.oi c:=by funext c;unfold kM;rw[hx];simp only[af p];split<;>rfl
    rw[e1,e2];generalize(if y.minus=true then y.ui else y.uo)=a;generalize(if y.minus=true then y.uo else y.ui)=b;have t1:=wy (fun c=>-at_ a c+at_ y.oi c) [fun c=>at_ a c,fun c=>at_ y.oi c] (fun c=>by simp;omega) (range (d.arcs-1));have t2:=wy (fun c=>at_ b c-at_ y.oi c) [fun c=>at_ b c,fun c=>at_ y.oi c] (fun c=>by simp;omega) (range (d.arcs-1));grind
theorem G_:∀(n:Nat)(g:Nat→Int),tr n g=[]∨∃l x,tr n g=l++[x]∧x≠0
 |0,g=> .inl rfl
 |n+1,g=>by
  simp only[tr];split
  ·exact .inl rfl
  ·rename_i h;right;rcases G_ n (fun k=>g (k+1))with q|⟨l,x,q,hx⟩
   ·rw[q];exact⟨[],g 0,rfl,fun z=>h ⟨q,z⟩⟩
   ·rw[q];exact⟨g 0::l,x,rfl,hx⟩
theorem EW:∀(l:List Int)(x:Int),x≠0→∃l',dropZeros (l++[x])=l'++[x]
 |[],x,h=>⟨[],by simp[dropZeros,h]⟩
 |y::l,x,h=>by
  simp only[oB,dropZeros];split
  ·exact EW l x h
  ·exact⟨y::l,rfl⟩
theorem V3(h:l=[]∨∃l' x,l=l'++[x]∧x≠0):(Poly.neat ⟨0,l⟩).l=dropZeros l:=by
 rcases h with rfl|⟨l',x,rfl,hx⟩
 ·rfl
 ·obtain⟨l2,h2⟩:=EW l' x hx;unfold Poly.neat;have e:(dropZeros (l2++[x]).reverse).reverse=l2++[x]:=by rw[Ks];simp only[List.reverse_cons,List.reverse_nil,eI,List.singleton_append];rw[dropZeros,af hx,List.reverse_cons,Kt]
  simp_all
def lowFirst(l:List Int):List Int:=let k:=l.findIdx fun x=>x !=0
 (l.drop k).map fun x=>(if 0<l.getD k 0 then 1 else-1)*x
theorem AF:∀(l:List Int),dropZeros l=l.drop (l.findIdx fun x=>x !=0)
 |[]=>rfl
 |x::l=>by
  rw[dropZeros,List.findIdx_cons];by_cases h:x=0
  ·rw[ag h,AF l];simp[h]
  ·grind
theorem Rv(l:List Int):lowFirst l=if(dropZeros l).headD 0<0 then(dropZeros l).map fun x=>-x else dropZeros l:=by
 unfold lowFirst;simp only;rw[←AF];have hd:l.getD (l.findIdx fun x=>x !=0) 0=(dropZeros l).headD 0:=by rw[AF,bC];simp_all
 rw[hd];have hz:dropZeros l=[]∨(dropZeros l).headD 0≠0:=by
  clear hd;induction l with
  |nil=>exact .inl rfl
  |cons x l ih=>rw[dropZeros];grind
 by_cases c:(dropZeros l).headD 0<0
 ·lia
 ·rw[af c];rcases hz with q|q
  ·simp[*]
  ·rw[ag (by lia)];simp_all
theorem Wy(d:Dia)(h8:d.n≤8)(F:Nat)(hF:16≤F):d.alexander=if d.n=0 then(if d.c=1 then [1]else [])else if 0<d.c then []else
  if d.minor 4294967296≠0 then lowFirst (dE 4294967296 F (d.minor 4294967296))else []:=by
 unfold Dia.alexander;by_cases h0:d.n=0
 ·simp[*]
 ·rw[af h0,af h0];by_cases hc:d.c=0
  ·rw[af (by simp_all),af (show¬0<d.c by simp_all)];have hp:0<d.n:=by lia
   rw[A2 d _ hp h8,A2 d _ hp h8];have hb:=C2 d h8;have e1:=Ei (by decide) 16 (2*MOST+4) (nJ d) (by decide) hb;have e2:=DN (B:=4294967296) (by decide) 16 F (nJ d) hF hb;have e3:=val_zero (B:=4294967296) (by decide) 16 (nJ d) hb;rw[e1,e2,V3 (G_ _ _),Rv];by_cases z:val 4294967296 16 (nJ d)=0
   ·rw[af (show¬val 4294967296 16 (nJ d)≠0 from fun q=>q z),e3.mp z];rfl
   ·simp_all
  ·simp[*]
def Sy(p:Int)(P:List Rw)(C:List Nat)(m:List (Rw×Rw))(cols:List Nat):Prop:=∀(k:Nat)(rs:List (Rw×Rw))(cs:List Nat),(∀r∈rs,r∈m)→(∀c∈cs,c∈cols)→rs.length=k+1→cs.length=k+1→det (rs.map (·.1)) cs=p^k*det (P++rs.map (·.2)) (C++cs)
theorem Sy.bar(S:Sy p P C m cols):jH p (m.map (·.1)) cols:=by intro k rs cs h1 h2 h3 h4;obtain⟨gA,g1,rfl⟩:=qr _ rs m h1;rw[bj]at h3;rw[S k gA cs g1 h2 h3 h4];simp_all
theorem Sy.step{m rest:List (Rw×Rw)}(S:Sy p P C m (c0::cols))(hp:p≠0)(ha:a∈m)(hr:∀r∈rest,r∈m)(hz:a.1 c0≠0):
  Sy (a.1 c0) (P++[a.2]) (C++[c0]) (rest.map fun r=>(eT p a.1 c0 r.1,r.2)) cols:=by
 intro k rs cs h1 h2 h3 h4;obtain⟨gA,g1,rfl⟩:=qr _ rs rest h1;rw[bj]at h3;have B:=S.bar;have e:=yV B (aH.mpr ⟨a,ha,rfl⟩) (by simp) hz (fun r q=>by obtain⟨x,hx,rfl⟩:=aH.mp q;exact aH.mpr ⟨x,hr x (g1 x hx),rfl⟩) (fun c q=>by simp[h2 c q]) (by simp[h3]) h4;have s:=S (k+1) (a::gA) (c0::cs) (by intro x hx;rcases a_.mp hx with rfl|z;exact ha;exact hr x (g1 x z)) (by intro x hx;rcases a_.mp hx with rfl|z;simp;simp[h2 x z]) (by simp[h3]) (by simp[h4]);rw[a9,a9]at s;rw[s]at e;have hpk:p^(k+1)≠0:=Kp hp;have e1:(gA.map fun r=>(eT p a.1 c0 r.1,r.2)).map (·.1)=(gA.map (·.1)).map (eT p a.1 c0):=by simp
 have e2:(gA.map fun r=>(eT p a.1 c0 r.1,r.2)).map (·.2)=gA.map (·.2):=by simp
 rw[e1,e2,oj,oj];refine BM hpk ?_;grind
theorem IP(W:Nat):∀(rs:List Rw)(cs:List Nat),(∀r∈rs,wt r cs≤W)→(det rs cs).natAbs≤W^rs.length
 |[],cs,_=>by simp[det]
 |r::rs,cs,h=>by have ih:∀l,l.Sublist cs→(det rs l).natAbs≤W^rs.length:=fun l hl=>IP W rs l fun s hs=>cx (vp hl) (h s (bW _ hs));have:=tT r (W^rs.length) cs (det rs) ih;have h0:=h r (by simp);show(ex (det rs) r cs).natAbs≤W^(rs.length+1);rw[rQ,rA (W^rs.length)];exact cx this (YA _ h0)
def vN(p:Int)(row top:List Int):List Int:=((row.drop 1).zip (top.drop 1)).map fun(x:Int×Int)=>(x.1*top.headD 0-row.headD 0*x.2).fdiv p
def nH(j N:Nat):List Nat:=(range (N-j)).map fun i=>j+i
theorem Gr(h:j<N):nH j N=j::nH (j+1) N:=by unfold nH;obtain⟨t,ht⟩:∃t,N-j=t+1:=⟨N-j-1,by grind⟩;rw[ht,show N-(j+1)=t by grind,Bt,a9,b7];congr 1;refine ef fun i _=>by simp;lia
theorem Co:c∈nH j N↔j≤c∧c<N:=by
 unfold nH;simp;constructor
 ·lia
 ·intro h;exact⟨c-j,by grind,by simp_all⟩
structure nr(N j:Nat)(l:List Int)(r:Rw×Rw):Prop where
 len:l.length=N-j
 val:∀c,j≤c→c<N→r.1 c=l.getD (c-j) 0
inductive dc(N j:Nat):List (List Int)→List (Rw×Rw)→Prop
 |nil:dc N j [] []
 |cons {l r ls rs}:nr N j l r→dc N j ls rs→dc N j (l::ls) (r::rs)
theorem dc.get:∀{ls:List (List Int)}{rs:List (Rw×Rw)}{i:Nat}{l:List Int},dc N j ls rs→ls[i]?=some l→∃r,rs[i]?=some r∧nr N j l r
 |_,_,i,l, .nil,h=>by simp at h
 |_,_,0,l, .cons a t,h=>by cases eE h;exact⟨_,rfl,a⟩
 |_,_,i+1,l, .cons a t,h=>dc.get (i:=i) t (by simpa using h)
theorem dc.mem(R:dc N j ls rs)(h:l∈ls):∃r∈rs,nr N j l r:=by obtain⟨i,hi,e⟩:=lC.mp h;obtain⟨r,hr,a⟩:=R.get (i:=i) (by rw[bq hi,e]);exact⟨r,fg hr,a⟩
theorem dc.take:∀{ls:List (List Int)}{rs:List (Rw×Rw)}(i:Nat),dc N j ls rs→dc N j (ls.take i) (rs.take i)
 |_,_,0,_=> .nil
 |_,_,_+1, .nil=> .nil
 |_,_,i+1, .cons a t=> .cons a (dc.take i t)
theorem dc.drop:∀{ls:List (List Int)}{rs:List (Rw×Rw)}(i:Nat),dc N j ls rs→dc N j (ls.drop i) (rs.drop i)
 |_,_,0,R=>R
 |_,_,_+1, .nil=> .nil
 |_,_,i+1, .cons a t=>dc.drop i t
theorem dc.append:∀{ls ls':List (List Int)}{rs gA:List (Rw×Rw)},dc N j ls rs→dc N j ls' gA→dc N j (ls++ls') (rs++gA)
 |_,_,_,_, .nil,R=>R
 |_,_,_,_, .cons a t,R=> .cons a (dc.append t R)
theorem dc.map:∀{ls:List (List Int)}{rs:List (Rw×Rw)},dc N j ls rs→(∀l r,l∈ls→r∈rs→nr N j l r→nr N j' (f l) (g r))→dc N j' (ls.map f) (rs.map g)
 |_,_, .nil,_=> .nil
 |_,_, .cons a t,h=> .cons (h _ _ (by simp) (by simp) a) (dc.map t fun l r hl hr=>h l r (bW _ hl) (bW _ hr))
structure lX(N W j:Nat)(p:Int)(m:List (List Int)):Prop where
 ex:∃(P:List Rw)(cur:List (Rw×Rw)),Sy p P (range j) cur (nH j N)∧dc N j m cur∧P.length=j∧(∀r∈P,∀cs:List Nat,cs.Sublist (range N)→wt r cs≤W)∧∀r∈cur,∀cs:List Nat,cs.Sublist (range N)→wt r.2 cs≤W
 pz:p≠0
 pb:p.natAbs≤W^j
 jl:j≤N
 ml:m.length=N-j
theorem Rt(hm:m.length=N)(hr:∀r∈m,r.length=N)(hw:∀r∈m,(r.map Int.natAbs).sum≤W):lX N W 0 1 m:=by
 refine⟨⟨[],m.map fun l=>(fn l,fn l),?_,?_,rfl,by simp,?_⟩,by decide,by simp,eG _,by simpa using hm⟩
 ·intro k rs cs h1 h2 h3 h4;have:rs.map (·.1)=rs.map (·.2):=by refine ef fun r q=>?_;grind
  grind
 ·clear hw;have:∀ls:List (List Int),(∀r∈ls,r.length=N)→dc N 0 ls (ls.map fun l=>(fn l,fn l)):=by
   intro ls;induction ls with
   |nil=>intro _;exact .nil
   |cons l ls ih=>intro h;exact .cons ⟨by simpa using h l (by simp),fun c _ _=>rfl⟩ (ih fun r q=>h r (bW _ q))
  simp_all
 ·intro r d8 cs hcs;obtain⟨l,hl,rfl⟩:=aH.mp d8;refine cx (vp hcs) (cx (xM ?_) (hw l hl));unfold wt fn;rw[←hr l hl];congr 1;apply j8;grind
theorem Ib(h1:j≤c)(h2:c<N):(range j++[c]).Sublist (range N):=by
 have e:range N=range j++nH j N:=by
  apply j8;intro i;unfold nH;by_cases q:i<j
  ·rw[Yi (by simpa using q),oy q,oy (by lia)]
  ·rw[JQ (by simpa using q),gR,cz];by_cases q2:i<N
   ·rw[oy q2,oy (by grind)];show some i=some (j+(i-j));congr 1;simp_all
   ·rw[lB (by simpa using q2),lB (by simp;simp_all)];rfl
 rw[e];exact List.Sublist.append (List.Sublist.refl _) (List.singleton_sublist.mpr (Co.mpr ⟨h1,h2⟩))
theorem lX.bound(L:lX N W j p m)(hl:l∈m):l.length=N-j∧∀x∈l,x.natAbs≤W^(j+1):=by
 obtain⟨P,cur,S,R,hP,w1,w2⟩:=L.ex;obtain⟨r,hr,a⟩:=R.mem hl;refine⟨a.len,fun x hx=>?_⟩;obtain⟨i,hi,e⟩:=lC.mp hx;have dQ:i<N-j:=by rw[←a.len];exact hi
 have v:=a.val (j+i) (by simp) (by omega);rw[show j+i-j=i by simp,bC,bq hi,e]at v;have s:=S 0 [r] [j+i] (by simpa using hr) (by intro c hc;rw[rO]at hc;subst hc;exact Co.mpr ⟨by simp,by lia⟩) rfl rfl;have d1:det [r.1] [j+i]=r.1 (j+i):=by simp[det,aD.ex]
 have v':r.1 (j+i)=x:=v;rw[a9,gQ,a9,gQ,d1,v']at s;rw[s];simp only[Int.pow_zero,uR];have:=IP W (P++[r.2]) (range j++[j+i]) (fun q hq=>by
  rcases cE.mp hq with hq|hq
  ·exact w1 q hq _ (Ib (by simp) (by lia))
  ·rw[rO]at hq;subst hq;exact w2 r hr _ (Ib (by simp) (by lia)))
 rw[cZ,hP]at this;exact this
theorem uW(l:List Int):l.headD 0=l.getD 0 0:=by cases l<;>rfl
theorem lX.step(L:lX N W j p m)(hi:m[i]?=some a)(hz:a.headD 0≠0)(hj:j<N):
  lX N W (j+1) (a.headD 0) ((m.take i++m.drop (i+1)).map (iB p a))∧∀r∈m,vN p r a=iB p a r:=by
 obtain⟨P,cur,S,R,hP,w1,w2⟩:=L.ex;obtain⟨ra,hra,A⟩:=R.get hi;have hram:=fg hra;have hv0:ra.1 j=a.headD 0:=by rw[A.val j (aY _) hj,BR,uW]
 have hb:=(L.bound (fg hi)).2 (a.headD 0) (by
  have:0<a.length:=by rw[A.len];lia
  rw[uW,bC,bq this];exact lD _)
 have bw:i<m.length:=(d_.mp hi).1;have S':=S;rw[Gr hj]at S';have exact_:∀l r,nr N j l r→r∈cur→∀t,t+1<N-j→(a.getD 0 0*l.getD (t+1) 0-l.getD 0 0*a.getD (t+1) 0)=p*eT p ra.1 j r.1 (j+(t+1)):=by
  intro l r B hr t ht;have e:=FP S'.bar (a:=ra.1) (r:=r.1) (c0:=j) (c:=j+(t+1)) (aH.mpr ⟨ra,hram,rfl⟩) (aH.mpr ⟨r,hr,rfl⟩) (by simp) (by rw[←Gr hj];exact Co.mpr ⟨by simp,by grind⟩);unfold ji at e;rw[A.val j (aY _) hj,B.val j (aY _) hj,A.val (j+(t+1)) (by simp) (by grind),B.val (j+(t+1)) (by simp) (by grind),BR,show j+(t+1)-j=t+1 by simp]at e
  lia
 have newrow:∀l r,l∈m→r∈cur→nr N j l r→nr N (j+1) (iB p a l) (eT p ra.1 j r.1,r.2):=by
  intro l r _ hr B;have la:a.length=(N-(j+1))+1:=by rw[A.len];grind
  have ll:l.length=(N-(j+1))+1:=by rw[B.len];grind
  refine⟨Hs p la ll,fun c h1 h2=>?_⟩;show eT p ra.1 j r.1 c=_;have e:=Gm p la ll (c:=c-(j+1)) (by grind);unfold fn at e;rw[e];unfold eT;rw[A.val j (aY _) hj,B.val j (aY _) hj,A.val c (by exact qW ‹_›) h2,B.val c (by exact qW ‹_›) h2,BR,show c-(j+1)+1=c-j by grind]
 refine⟨⟨⟨P++[ra.2],(cur.take i++cur.drop (i+1)).map fun r=>(eT p ra.1 j r.1,r.2),?_,?_,by simp[hP],?_,?_⟩,hz,hb,hj,?_⟩,?_⟩
 ·have:=S'.step L.pz hram (rest:=cur.take i++cur.drop (i+1)) (fun r hr=>by
   rcases cE.mp hr with h|h
   ·exact lH h
   ·exact mZ h) (by rw[hv0];exact hz)
  rw[hv0]at this;rw[jF];omega
 ·refine((R.take i).append (R.drop (i+1))).map fun l r hl hr B=>newrow l r ?_ ?_ B
  ·rcases cE.mp hl with h|h
   ·exact lH h
   ·exact mZ h
  ·rcases cE.mp hr with h|h
   ·exact lH h
   ·exact mZ h
 ·intro r hr cs hcs;rcases cE.mp hr with h|h
  ·exact w1 r h cs hcs
  ·rw[rO]at h;subst h;exact w2 ra hram cs hcs
 ·intro r hr cs hcs;obtain⟨s,hs,rfl⟩:=aH.mp hr;refine w2 s ?_ cs hcs;rcases cE.mp hs with h|h
  ·exact lH h
  ·exact mZ h
 ·rw[bj,cZ,q_,j6,L.ml];rw[L.ml]at bw;grind
 ·intro r hr;obtain⟨rr,hrr,B⟩:=R.mem hr;unfold vN iB;apply j8;intro t;rw[cz,cz];have hlr:(r.drop 1).length=N-(j+1):=by rw[j6,B.len];rfl
  by_cases ht:t<N-(j+1)
  ·have t1:t+1<a.length:=by rw[A.len];grind
   have t2:t+1<r.length:=by rw[B.len];grind
   have e1:((r.drop 1).zip (a.drop 1))[t]?=some (r[t+1],a[t+1]):=by rw[J_];simp
   have e2:((a.drop 1).zip (r.drop 1))[t]?=some (a[t+1],r[t+1]):=by rw[J_];simp
   rw[e1,e2];simp only[yd,pT];have x:=exact_ r rr B hrr t (by grind);rw[←uW,←uW]at x;have g1:r.getD (t+1) 0=r[t+1]:=by rw[bC,bq t2];rfl
   have g2:a.getD (t+1) 0=a[t+1]:=by rw[bC,bq t1];rfl
   rw[g1,g2]at x;rw[Int.mul_comm r[t+1],x,Int.mul_fdiv_cancel_left _ L.pz,Kq _ L.pz]
  ·rw[lB (by rw[rL];grind),lB (by rw[rL];grind)];rfl
def lJ(p:Nat):Nat→List (List Int)
 |0=>[[]]
 |n+1=>(lJ p n).flatMap fun v=>(range p).map fun(x:Nat)=>(x:Int)::v
def dot:List Int→List Int→Int
 |a::r,x::v=>a*x+dot r v
 |_,_=>0
theorem vR(p:Nat):∀(n:Nat)(v:List Int),v∈lJ p n→v.length=n
 |0,v,h=>by simp[lJ]at h;simp[h]
 |n+1,v,h=>by simp only[lJ,bR,aH]at h;obtain⟨u,hu,x,_,rfl⟩:=h;simp[vR p n u hu]
def cnt(p n:Nat)(S:List Int→Bool):Nat:=(lJ p n).countP S
theorem Y1:∀{l:List α},(∀v∈l,S v=T v)→l.countP S=l.countP T
 |[],_=>rfl
 |x::l,h=>by rw[uS,uS,h x (by simp),Y1 fun v hv=>h v (by simp[hv])]
theorem RJ(h:∀v,v.length=n→S v=T v):cnt p n S=cnt p n T:=
 Y1 fun v hv=>h v (vR p n v hv)
theorem Y3(S:β→Bool)(f:α→List β)(k:Nat)(T:α→Bool):∀(l:List α),(∀v∈l,(f v).countP S=if T v=true then k else 0)→(l.flatMap f).countP S=k*l.countP T
 |[],_=>by simp
 |v::l,h=>by
  rw[dY,x9,Y3 S f k T l (fun u hu=>h u (by simp[hu])),h v (by simp),uS,x6]
  lia
theorem Gw(h:∀(x:Int)(v:List Int),v.length=n→S (x::v)=T v):cnt p (n+1) S=p*cnt p n T:=by
 unfold cnt;rw[lJ];refine Y3 S _ p T _ fun v hv=>?_;rw[rN];have:∀l:List Nat,l.countP (S∘fun(x:Nat)=>(x:Int)::v)=if T v=true then l.length else 0:=by
  intro l;induction l with
  |nil=>simp
  |cons x l ih=>rw[uS,ih];have e:(S∘fun(x:Nat)=>(x:Int)::v) x=T v:=h x v (vR p n v hv);simp only[e];split<;>simp
 rw[this];simp
theorem Tv(f:List Int→Nat)(hf:∀v,f v<p)(h:∀(x:Nat)(v:List Int),x<p→v.length=n→S ((x:Int)::v)=(decide (x=f v)&&T v)):cnt p (n+1) S=cnt p n T:=by
 unfold cnt;rw[lJ,Y3 S _ 1 T _ fun v hv=>?_,Nat.one_mul];rw[rN,Y1 (S:=S∘fun(x:Nat)=>(x:Int)::v) fun x hx=>h x v (by simpa using hx) (vR p n v hv)];by_cases t:T v=true
 ·rw[ag t,t];have:∀m,(range m).countP (fun x=>decide (x=f v)&&true)=if f v<m then 1 else 0:=by
   intro m;induction m with
   |zero=>simp
   |succ m ih=>rw[jF,x9,ih];grind
  simp_all
 ·simp[*]
theorem LX:∀p,p<101→isPrime p=true→∀a,a<p→a≠0→∃b,b<p∧(a*b)%p=1:=by
 have h:((range 101).all fun p=>!(isPrime p)||(range p).all fun a=>a==0||(range p).any fun b=>(a*b)%p==1)=true:=by decide+kernel
 intro p hp cD a ha h0;have h1:=oq.mp h p (by simpa using hp);rw[cD]at h1;simp at h1;rcases h1 a ha with q|⟨b,hb,e⟩
 ·exact absurd q h0
 ·exact⟨b,hb,e⟩
theorem Ic(hp:p<101)(cD:isPrime p=true){a:Int}(ha:a%p≠0):∃b:Int,(a*b)%p=1:=by
 have p2:2≤p:=by unfold isPrime at cD;simp at cD;exact cD.1
 obtain⟨b,_,e⟩:=LX p hp cD (a%p).toNat (by have:=ye a (show(0:Int)<p by lia);have:=rR a (by omega);lia) (by have:=rR a (show(p:Int)≠0 by lia);lia);refine⟨b,?_⟩;have h0:((a%p).toNat:Int)=a%p:=Ku (rR a (by lia));have h1:(((a%p).toNat*b:Nat):Int)%p=1:=by
  lia
 rw[BS,h0]at h1;rw[←h1,Int.mul_emod a b,Int.mul_emod (a%p) b,Int.emod_emod_of_dvd a (Int.dvd_refl _)]
theorem IK(z:Int):z%p=0↔(p:Int)∣z:=⟨Int.dvd_of_emod_eq_zero,Int.emod_eq_zero_of_dvd⟩
theorem one_sub{p:Nat}(p2:2≤p){z:Int}(h:z%p=1):(p:Int)∣1-z:=by have e:=Int.mul_ediv_add_emod z p;rw[h]at e;exact⟨-(z/p),by lia⟩
theorem cancel(hp:p<101)(cD:isPrime p=true){a:Int}(ha:a%p≠0)(z:Int):(p:Int)∣a*z↔(p:Int)∣z:=by
 constructor
 ·intro h;obtain⟨b,hb⟩:=Ic hp cD ha;have e:z=b*(a*z)+(1-a*b)*z:=by grind
  have:(p:Int)∣1-a*b:=one_sub (by unfold isPrime at cD;simp at cD;exact cD.1) hb;rw[e];exact uT (nS h) (yf this)
 ·exact fun h=>nS h
theorem C1(hp:p<101)(cD:isPrime p=true){a0:Int}(ha:a0%p≠0)(A:List Int→Int)(h1:∀(x:Int)(v:List Int),v.length=n→S (x::v)=true→(p:Int)∣a0*x+A v)(h2:∀(x:Int)(v:List Int),v.length=n→(p:Int)∣a0*x+A v→S (x::v)=T v):cnt p (n+1) S=cnt p n T:=by
 have p2:2≤p:=by unfold isPrime at cD;simp at cD;exact cD.1
 obtain⟨b,hb⟩:=Ic hp cD ha;have xH:(p:Int)∣1-a0*b:=one_sub p2 hb;refine Tv (fun v=>((-b*A v)%p).toNat) (fun v=>?_) fun x v hx hv=>?_
 ·have:=ye (-b*A v) (show(0:Int)<p by lia)
  lia
 ·have hx0:(0:Int)≤x:=by simp
  have key:(p:Int)∣a0*x+A v↔x=((-b*A v)%p).toNat:=by
   have n0:=rR (-b*A v) (show(p:Int)≠0 by lia);constructor
   ·intro h;have e:x%p=(-b*A v)%p:=by
     apply Int.emod_eq_emod_iff_emod_sub_eq_zero.mpr;rw[IK];have q:x- -b*A v=b*(a0*x+A v)+(1-a0*b)*x:=by grind
     rw[q];exact uT (nS h) (yf xH)
    rw[BO hx0 (by simp_all)]at e
    lia
   ·intro h;have e:x=(-b*A v)%p:=by lia
    have:(p:Int)∣(-b*A v)-x:=by rw[e];exact yg
    have q:a0*x+A v=(1-a0*b)*A v-a0*((-b*A v)-x):=by grind
    rw[q];exact yh (yf xH) (nS this)
  grind
def kc(p:Nat)(rows:List (List Int))(v:List Int):Bool:=rows.all fun r=>decide ((p:Int)∣dot r v)
theorem nG:kc p rows v=true↔∀r∈rows,(p:Int)∣dot r v:=by unfold kc;simp
def eQ(m:List (List Nat)):List (List Int):=m.map fun r=>r.map fun(x:Nat)=>(x:Int)
theorem F9(k l:Int):∀(a r v:List Int)(n:Nat),a.length=n→r.length=n→v.length=n→dot ((a.zip r).map fun(x:Int×Int)=>k*x.2+l*x.1) v=k*dot r v+l*dot a v
 |[],[],[],_,_,_,_=>by simp[dot]
 |a::as,r::rs,v::vs,n+1,h1,h2,h3=>by simp only[List.zip_cons_cons,a9,dot];rw[F9 k l as rs vs n (by simpa using h1) (by simpa using h2) (by simpa using h3)];grind
 |[],[],_::_,n,h1,h2,h3=>by simp at h1 h3;lia
 |[],_::_,_,n,h1,h2,h3=>by simp at h1 h2;lia
 |_::_,[],_,n,h1,h2,h3=>by simp at h1 h2;lia
 |_::_,_::_,[],n,h1,h2,h3=>by simp at h1 h3;lia
theorem sW:∀(a b v:List Int),a.length=b.length→(∀(i:Nat)(x y:Int),a[i]?=some x→b[i]?=some y→(p:Int)∣x-y)→(p:Int)∣dot a v-dot b v
 |[],[],v,_,_=>by simp
 |x::a,y::b,[],_,_=>by simp[dot]
 |x::a,y::b,z::v,hl,h=>by
  simp only[dot];have ih:=sW a b v (by simpa using hl) fun i x y hx hy=>h (i+1) x y (by simpa using hx) (by simpa using hy);have h0:=h 0 x y rfl rfl;have e:x*z+dot a v-(y*z+dot b v)=(x-y)*z+(dot a v-dot b v):=by grind
  rw[e];exact uT (yf h0) ih
theorem pD(h:(p:Int)∣x-y):(p:Int)∣x↔(p:Int)∣y:=by
 constructor
 ·intro q;have:=yh q h;grind
 ·intro q;have:=uT h q;simp_all
theorem Vq(p f:Nat)(m:List (List Nat)):rankBy p (f+1) m=match m.findIdx? fun(r:List Nat)=>r.headD 0 !=0 with
  |none=>rankBy p f (m.map fun(r:List Nat)=>r.drop 1)
  |some i=>1+rankBy p f ((m.take i++m.drop (i+1)).map fun(r:List Nat)=>(((m.getD i []).drop 1).zip (r.drop 1)).map fun(x:Nat×Nat)=>((m.getD i []).headD 0*x.2+(p-r.headD 0)*x.1)%p):=by
 rw[rankBy];rfl
theorem z7(hp:p<101)(cD:isPrime p=true):∀(f:Nat)(m:List (List Nat)),(∀r∈m,r.length=f)→(∀r∈m,∀x∈r,x<p)→cnt p f (kc p (eQ m))*p^rankBy p f m=p^f
 |0,m,hl,_=>by
  have:cnt p 0 (kc p (eQ m))=1:=by unfold cnt;simp only[lJ,uS,List.countP_nil];rw[ag];rw[nG];intro r hr;obtain⟨s,_,rfl⟩:=aH.mp hr;cases s.map fun(x:Nat)=>x<;>simp[dot]
  rw[this];simp[rankBy]
 |f+1,m,hl,hx=>by
  rw[Vq];have shape:∀r∈m,∃(h:Nat)(t:List Nat),r=h::t∧t.length=f:=fun r hr=>by
   have:=hl r hr;cases r with
   |nil=>simp at this
   |cons h t=>exact⟨h,t,rfl,by simpa using this⟩
  cases hf:m.findIdx? fun(r:List Nat)=>r.headD 0 !=0 with
  |none=>
   have hz:∀r∈m,r.headD 0=0:=fun r hr=>by simp_all
   have e:cnt p (f+1) (kc p (eQ m))=p*cnt p f (kc p (eQ (m.map fun r=>r.drop 1))):=by
    refine Gw fun x v hv=>?_;rw[j4,nG,nG];unfold eQ;simp only[aH];constructor
    ·rintro h r ⟨s,⟨t,ht,rfl⟩,rfl⟩;have:=h _ ⟨t,ht,rfl⟩;obtain⟨a,u,rfl,_⟩:=shape t ht;have z:a=0:=hz _ ht;subst z;simpa[dot]using this
    ·rintro h r ⟨t,ht,rfl⟩;have:=h _ ⟨_,⟨t,ht,rfl⟩,rfl⟩;obtain⟨a,u,rfl,_⟩:=shape t ht;have z:a=0:=hz _ ht;subst z;simpa[dot]using this
   rw[e,BU,z7 hp cD f (m.map fun r=>r.drop 1) (fun r hr=>by obtain⟨s,hs,rfl⟩:=aH.mp hr;simp[hl s hs]) (fun r hr x jU=>by obtain⟨s,hs,rfl⟩:=aH.mp hr;exact hx s hs x (mZ jU)),rQ,rA]
  |some i=>
   simp only;obtain⟨hi,h1,h2⟩:=rK.mp hf;have ea:m.getD i []=m[i]:=by simp[bC,hi]
   rw[ea];have fB:m[i]∈m:=lD hi;have Bq:m=m.take i++m[i]::m.drop (i+1):=by rw[←rG hi,rF]
   have cY:∀r,r∈m↔r=m[i]∨r∈m.take i++m.drop (i+1):=fun r=>by
    constructor
    ·intro h;rw[Bq]at h;simp only[cE,a_]at h⊢;rcases h with h|h|h
     ·exact .inr (.inl h)
     ·exact .inl h
     ·exact .inr (.inr h)
    ·rintro(h|h)
     ·rw[h];exact fB
     ·rcases cE.mp h with h|h
      ·exact lH h
      ·exact mZ h
   obtain⟨a0,at',ha,hat⟩:=shape m[i] fB;have ha0:a0≠0:=by rw[ha]at h1;simpa using h1
   have hap:a0<p:=hx m[i] fB a0 (by rw[ha];simp);generalize m.take i++m.drop (i+1)=R at*;rw[ha]at cY⊢;simp only[Kv,Kw,BV];have am:(a0:Int)%p≠0:=by rw[BO (by simp) (by lia)];simp[*]
   have worth:∀(h:Nat)(t:List Nat)(v:List Int),t.length=f→h≤p→v.length=f→(p:Int)∣dot ((((at'.zip t).map fun(x:Nat×Nat)=>(a0*x.2+(p-h)*x.1)%p)).map fun(x:Nat)=>x) v-(a0*dot (t.map fun(x:Nat)=>x) v+(-h)*dot (at'.map fun(x:Nat)=>x) v):=by
    intro h t v ht hh hv;rw[←F9 a0 (-h) _ _ v f (by simp[hat]) (by simp[ht]) hv];refine sW _ _ v (by simp) fun j x y hxj hyj=>?_;rw[List.zip_map,b7]at hyj;rw[b7]at hxj;rw[cz]at hxj hyj;cases hz:(at'.zip t)[j]? with
    |none=>rw[hz]at hxj;simp at hxj
    |some q=>
     rw[hz]at hxj hyj;simp only[yd,pT,Function.comp,Prod.map]at hxj hyj;rw[←hxj,←hyj,Int.natCast_emod,lG,BS,BS,Int.natCast_sub hh];have e1:(a0*(q.2:Int)+(p-h)*(q.1:Int))%p-(a0*(q.2:Int)+-h*(q.1:Int))=p*(q.1:Int)-((a0*(q.2:Int)+(p-h)*(q.1:Int))-(a0*(q.2:Int)+(p-h)*(q.1:Int))%p):=by grind
     rw[e1];exact yh (Int.dvd_mul_right _ _) yg
   have e:cnt p (f+1) (kc p (eQ m))=cnt p f (kc p (eQ (R.map fun(r:List Nat)=>(at'.zip (r.drop 1)).map fun(x:Nat×Nat)=>(a0*x.2+(p-r.headD 0)*x.1)%p))):=by
    refine C1 hp cD am (fun v=>dot (at'.map fun(x:Nat)=>x) v) (fun x v hv hs=>?_) fun x v hv hd=>?_
    ·rw[nG]at hs;have:=hs _ (aH.mpr ⟨m[i],fB,rfl⟩);rwa[ha]at this
    ·rw[j4,nG,nG];unfold eQ;simp only[aH];constructor
     ·rintro h r ⟨s,⟨t,ht,rfl⟩,rfl⟩;have htm:=(cY t).mpr (.inr ht);have h3:=h _ ⟨t,htm,rfl⟩;obtain⟨b,u,rfl,hu⟩:=shape t htm;have hb:b<p:=hx _ htm b (by simp);have w:=worth b u v hu (by exact qW ‹_›) hv;simp only[Kv,Kw,BV];rw[pD w];have q:a0*dot (u.map fun(x:Nat)=>x) v+-b*dot (at'.map fun(x:Nat)=>x) v=a0*(b*x+dot (u.map fun(x:Nat)=>x) v)-b*(a0*x+dot (at'.map fun(x:Nat)=>x) v):=by grind
      rw[q];exact yh (nS h3) (nS hd)
     ·rintro h r ⟨t,ht,rfl⟩;rcases(cY t).mp ht with rfl|htR
      ·exact hd
      ·have h3:=h _ ⟨_,⟨t,htR,rfl⟩,rfl⟩;obtain⟨b,u,rfl,hu⟩:=shape t ht;have hb:b<p:=hx _ ht b (by simp);have w:=worth b u v hu (by lia) hv;simp only[Kv,Kw,BV]at h3;rw[pD w]at h3;simp only[a9,dot];rw[←cancel hp cD am];have q:a0*(b*x+dot (u.map fun(x:Nat)=>x) v)=a0*dot (u.map fun(x:Nat)=>x) v+-b*dot (at'.map fun(x:Nat)=>x) v+b*(a0*x+dot (at'.map fun(x:Nat)=>(x:Int)) v):=by grind
       rw[q];exact uT h3 (nS hd)
   have ih:=z7 hp cD f (R.map fun(r:List Nat)=>(at'.zip (r.drop 1)).map fun(x:Nat×Nat)=>(a0*x.2+(p-r.headD 0)*x.1)%p) (fun r hr=>by
    obtain⟨s,hs,rfl⟩:=aH.mp hr;simp[hat,hl s ((cY s).mpr (.inr hs))]) (fun r hr x jU=>by
    obtain⟨s,hs,rfl⟩:=aH.mp hr;obtain⟨q,_,rfl⟩:=aH.mp jU;exact Nat.mod_lt _ (by lia))
   rw[e,Nat.pow_add,Nat.pow_one,rA p,←BU,ih,rQ]
def iw(p:Nat)(a:List Int)(col:Nat)(r:List Int):List Int:=(r.zip a).map fun(x:Int×Int)=>(x.1*a.getD col 0-r.getD col 0*x.2)%(p:Int)
def gu(p:Nat):Nat→Nat→List (List Int)→Nat
 |0,_,_=>0
 |n+1,col,left=>match left.filter fun r=>decide (r.getD col 0%(p:Int)≠0)with
  |[]=>gu p n (col+1) (left.filter fun r=>decide (r.getD col 0%(p:Int)=0))
  |a::ls=>1+gu p n (col+1) (left.filter (fun r=>decide (r.getD col 0%(p:Int)=0))++ls.map (iw p a col))
theorem GQ(k l:Int):∀(a r v:List Int)(n:Nat),a.length=n→r.length=n→v.length=n→dot ((r.zip a).map fun(x:Int×Int)=>k*x.1+l*x.2) v=k*dot r v+l*dot a v
 |[],[],[],_,_,_,_=>by simp[dot]
 |a::as,r::rs,v::vs,n+1,h1,h2,h3=>by simp only[List.zip_cons_cons,a9,dot];rw[GQ k l as rs vs n (by simpa using h1) (by simpa using h2) (by simpa using h3)];grind
 |[],[],_::_,n,h1,h2,h3=>by simp at h1 h3;lia
 |[],_::_,_,n,h1,h2,h3=>by simp at h1 h2;lia
 |_::_,[],_,n,h1,h2,h3=>by simp at h1 h2;lia
 |_::_,_::_,[],n,h1,h2,h3=>by simp at h1 h3;lia
theorem drop_cons{r:List Int}(h:r.length=col+(n+1)):r.drop col=r.getD col 0::r.drop (col+1):=by simp_all
def below(p col:Nat)(rows:List (List Int))(v:List Int):Bool:=kc p (rows.map fun r=>r.drop col) v
theorem pf:below p col rows v=true↔∀r∈rows,(p:Int)∣dot (r.drop col) v:=by unfold below;rw[nG];simp
theorem A8(hp:p<101)(cD:isPrime p=true):∀(n col:Nat)(rows:List (List Int)),(∀r∈rows,r.length=col+n)→cnt p n (below p col rows)*p^gu p n col rows=p^n
 |0,col,rows,hl=>by
  have:cnt p 0 (below p col rows)=1:=by unfold cnt;simp only[lJ,uS,List.countP_nil];rw[ag];rw[pf];intro r hr;rw[List.drop_eq_nil_of_le (by have:=hl r hr;simp[*])];simp[dot]
  rw[this];simp[gu]
 |n+1,col,rows,hl=>by
  simp only[gu];have zero:∀r∈rows,r.getD col 0%p=0→∀x(v:List Int),(p:Int)∣dot (r.drop col) (x::v)↔(p:Int)∣dot (r.drop (col+1)) v:=by intro r hr h0 x v;rw[drop_cons (hl r hr),dot];refine pD ?_;rw[show r.getD col 0*x+dot (r.drop (col+1)) v-dot (r.drop (col+1)) v=r.getD col 0*x by lia];exact yf ((IK _).mp h0)
  cases hf:rows.filter fun r=>decide (r.getD col 0%(p:Int)≠0)with
  |nil=>
   have hz:∀r∈rows,r.getD col 0%(p:Int)=0:=fun r hr=>by simp_all
   have eC:rows.filter (fun r=>decide (r.getD col 0%(p:Int)=0))=rows:=BH.mpr fun r hr=>by simpa using hz r hr
   rw[eC];have e:cnt p (n+1) (below p col rows)=p*cnt p n (below p (col+1) rows):=by refine Gw fun x v hv=>?_;rw[j4,pf,pf];simp_all
   rw[e,BU,A8 hp cD n (col+1) rows (fun r hr=>by have:=hl r hr;lia),rQ,rA]
  |cons a ls=>
   have xI:∀r,r∈a::ls↔r∈rows∧r.getD col 0%(p:Int)≠0:=fun r=>by grind
   have ha:=(xI a).mp (by simp);have worth:∀(r:List Int)(v:List Int),r.length=col+(n+1)→v.length=n→(p:Int)∣dot ((iw p a col r).drop (col+1)) v-(a.getD col 0*dot (r.drop (col+1)) v+(-r.getD col 0)*dot (a.drop (col+1)) v):=by
    intro r v hr hv;rw[←GQ (a.getD col 0) (-r.getD col 0) _ _ v n (by have:=hl a ha.1;simp;lia) (by simp;omega) hv];have hal:=hl a ha.1;refine sW _ _ v (by simp[iw,hal,hr]) fun j x y hx hy=>?_;unfold iw at hx;rw[←List.map_drop,List.zip,List.drop_zipWith,cz]at hx;rw[cz,List.zip]at hy;cases hz:(List.zipWith Prod.mk (r.drop (col+1)) (a.drop (col+1)))[j]? with
    |none=>rw[hz]at hx;simp at hx
    |some q=>
     rw[hz]at hx hy;simp only[yd,pT]at hx hy;rw[←hx,←hy];have e1:(q.1*a.getD col 0-r.getD col 0*q.2)%(p:Int)-(a.getD col 0*q.1+-r.getD col 0*q.2)=-((q.1*a.getD col 0-r.getD col 0*q.2)-(q.1*a.getD col 0-r.getD col 0*q.2)%(p:Int)):=by grind
     rw[e1];exact Kx.mpr yg
   have e:cnt p (n+1) (below p col rows)=cnt p n (below p (col+1) (rows.filter (fun r=>decide (r.getD col 0%(p:Int)=0))++ls.map (iw p a col))):=by
    refine C1 hp cD ha.2 (fun v=>dot (a.drop (col+1)) v) (fun x v hv hs=>?_) fun x v hv hd=>?_
    ·have:=(pf.mp hs) a ha.1;rwa[drop_cons (hl a ha.1)]at this
    ·rw[j4,pf,pf];constructor
     ·intro h r hr;rcases cE.mp hr with hr|hr
      ·rw[dz]at hr;grind
      ·obtain⟨s,hs,rfl⟩:=aH.mp hr;have bL:=(xI s).mp (by simp[hs]);have h3:=h s bL.1;rw[drop_cons (hl s bL.1),dot]at h3;rw[pD (worth s v (hl s bL.1) hv)];have q:a.getD col 0*dot (s.drop (col+1)) v+-s.getD col 0*dot (a.drop (col+1)) v=a.getD col 0*(s.getD col 0*x+dot (s.drop (col+1)) v)-s.getD col 0*(a.getD col 0*x+dot (a.drop (col+1)) v):=by grind
       rw[q];exact yh (nS h3) (nS hd)
     ·intro h r hr;by_cases c:r.getD col 0%(p:Int)=0
      ·exact(zero r hr c x v).mpr (h r (cE.mpr (.inl (dz.mpr ⟨hr,by simpa using c⟩))))
      ·rcases a_.mp ((xI r).mpr ⟨hr,c⟩)with rfl|hs
       ·rwa[drop_cons (hl r hr)]
       ·have h3:=h _ (cE.mpr (.inr (aH.mpr ⟨r,hs,rfl⟩)));rw[pD (worth r v (hl r hr) hv)]at h3;rw[drop_cons (hl r hr),dot,←cancel hp cD ha.2];have q:a.getD col 0*(r.getD col 0*x+dot (r.drop (col+1)) v)=a.getD col 0*dot (r.drop (col+1)) v+-r.getD col 0*dot (a.drop (col+1)) v+r.getD col 0*(a.getD col 0*x+dot (a.drop (col+1)) v):=by grind
        rw[q];exact uT h3 (nS hd)
   have ih:=A8 hp cD n (col+1) (rows.filter (fun r=>decide (r.getD col 0%(p:Int)=0))++ls.map (iw p a col)) (fun r hr=>by
    rcases cE.mp hr with hr|hr
    ·have:=hl r (dz.mp hr).1;lia
    ·obtain⟨s,hs,rfl⟩:=aH.mp hr;have h1:=hl s ((xI s).mp (by simp[hs])).1;have h2:=hl a ha.1;simp[iw,h1,h2];lia)
   rw[e,Nat.pow_add,Nat.pow_one,rA p,←BU,ih,rQ]
theorem PR{p a b n:Nat}(p2:2≤p)(h:a*p^b=p^n){c:Nat}(h':a*p^c=p^n):b=c:=by
 have ha:0<a:=by grind
 have:p^b=p^c:=Nat.eq_of_mul_eq_mul_left ha (h.trans h'.symm);exact(Nat.pow_right_inj (show 1<p by assumption)).mp this
def dy(d:Dia)(y:Cross):List Int:=(range d.arcs).map fun c=>at_ y.oi c-at_ y.oo c
def dC(d:Dia)(t:Int)(y:Cross):List Int:=(range d.arcs).map fun c=>(if y.minus=true then t*at_ y.uo c-at_ y.ui c else t*at_ y.ui c-at_ y.uo c)+(1-t)*at_ y.oi c
def fM(d:Dia)(t:Int):List (List Int):=d.x.flatMap fun y=>[dy d y,dC d t y]
theorem Ml{p:Nat}(a b v:List Int)(hl:a.length=b.length)(h:∀(i:Nat)(x y:Int),a[i]?=some x→b[i]?=some y→(p:Int)∣x+y):(p:Int)∣dot a v↔(p:Int)∣dot b v:=by
 have e:∀(b v:List Int),dot (b.map fun x=>-x) v=-dot b v:=by
  intro b;induction b with
  |nil=>intro v;simp[dot]
  |cons x b ih=>
   intro v;cases v with
   |nil=>simp[dot]
   |cons z v=>simp only[a9,dot,ih];grind
 have:=sW (p:=p) a (b.map fun x=>-x) v (by simp[hl]) fun i x y hx hy=>by
  rw[cz]at hy;cases q:b[i]? with
  |none=>rw[q]at hy;simp at hy
  |some z=>rw[q]at hy;simp at hy;have:=h i x z hx q;rw[←hy];rwa[show x- -z=x+z by simp]
 rw[e]at this;rw[pD this];exact Kx
theorem Ug(d:Dia){p:Nat}(hp:p<101)(cD:isPrime p=true):rankBy p d.arcs (d.colourRows p)=gu p d.arcs 0 (fM d (-1)):=by
 have p2:2≤p:=by unfold isPrime at cD;simp at cD;exact cD.1
 have hmod:∀z:Int,((z%(p:Int)).toNat:Int)=z%p:=fun z=>Ku (rR z (by lia));have h1:=z7 hp cD d.arcs (d.colourRows p) (fun r hr=>by
  obtain⟨y,_,h⟩:=bR.mp hr;simp at h;rcases h with rfl|rfl<;>simp) (fun r hr x hx=>by
  obtain⟨y,_,h⟩:=bR.mp hr;simp at h;have hb:∀z:Int,(z%(p:Int)).toNat<p:=fun z=>by have:=ye z (show(0:Int)<p by lia);grind
  rcases h with rfl|rfl
  ·grind
  ·obtain⟨c,_,rfl⟩:=aH.mp hx;exact hb _)
 have h2:=A8 hp cD d.arcs 0 (fM d (-1)) (fun r hr=>by obtain⟨y,_,h⟩:=bR.mp hr;simp at h;rcases h with rfl|rfl<;>simp[dy,dC]);refine PR p2 h1 ?_;have e:cnt p d.arcs (kc p (eQ (d.colourRows p)))=cnt p d.arcs (below p 0 (fM d (-1))):=by
  refine RJ fun v hv=>?_;rw[j4,nG,pf];have over:∀y:Cross,(p:Int)∣dot (((range d.arcs).map fun(c:Nat)=>((at_ y.oi c-at_ y.oo c)%(p:Int)).toNat).map fun(x:Nat)=>(x:Int)) v↔(p:Int)∣dot (dy d y) v:=fun y=>by
   refine pD (sW _ _ v (by simp[dy]) fun i x z hx hz=>?_);unfold dy at hz;rw[b7,cz]at hx;rw[cz]at hz;cases q:(range d.arcs)[i]? with
   |none=>rw[q]at hx;simp at hx
   |some c=>rw[q]at hx hz;simp only[yd,pT,Function.comp]at hx hz;rw[←hx,←hz,hmod,show∀a b:Int,a-b=-(b-a) by intro a b;lia];exact Kx.mpr yg
  have under:∀y:Cross,(p:Int)∣dot (((range d.arcs).map fun(c:Nat)=>((at_ y.ui c+at_ y.uo c-2*at_ y.oi c)%(p:Int)).toNat).map fun(x:Nat)=>(x:Int)) v↔(p:Int)∣dot (dC d (-1) y) v:=fun y=>by
   refine Ml _ _ v (by simp[dC]) fun i x z hx hz=>?_;unfold dC at hz;rw[b7,cz]at hx;rw[cz]at hz;cases q:(range d.arcs)[i]? with
   |none=>rw[q]at hx;simp at hx
   |some c=>
    rw[q]at hx hz;simp only[yd,pT,Function.comp]at hx hz;rw[←hx,←hz,hmod];have e1:(if y.minus=true then-1*at_ y.uo c-at_ y.ui c else-1*at_ y.ui c-at_ y.uo c)+(1- -1)*at_ y.oi c=-(at_ y.ui c+at_ y.uo c-2*at_ y.oi c):=by
     lia
    rw[e1,show∀a b:Int,a+-b=-(b-a) by intro a b;lia];exact Kx.mpr yg
  unfold eQ Dia.colourRows fM;constructor
  ·grind
  ·intro h r hr;obtain⟨s,hs,rfl⟩:=aH.mp hr;obtain⟨y,hy,hm⟩:=bR.mp hs;simp only[a_,cA,cV]at hm;rcases hm with rfl|rfl
   ·exact(over y).mpr (h _ (bR.mpr ⟨y,hy,gN⟩))
   ·exact(under y).mpr (h _ (bR.mpr ⟨y,hy,bW _ (rO.mpr rfl)⟩))
 simp[*]
end aD
namespace Kn
open PySem PySem.Spec PyProof.Rows L2
open Kb (Cross Dia)
theorem qg{xs:List α}(h:i≤xs.length):gT xs (some (i:Int)) none=xs.drop i:=by unfold gT;rw[HT.U8,HT.DE,BN h];exact uD (by rw[j6];exact aY _)
theorem Hh(xs:List α):gT xs none (some (-1))=xs.dropLast:=by
 unfold gT;rw[HT.DE];have e:HT.dU xs.length xs.length (some (-1))=xs.length-1:=by
  unfold HT.dU
  lia
 rw[e,BV,Nat.sub_zero,YB]
section
variable{α β γ δ:Type}{X:Cx}{σ σ0:aS}{H H1 H2 G:Hp}{e ie a b:Expr}{R:Rp α}{S:Rp β}{r:α}{pos p:Pos}{D:Ends}{rest:List Stmt}{x:Str}{i:Nat}{CC CD:Addr}
def Jg(K:Fg):V→V→Hp→VK→Prop:=fun x y H Q=>∃(p:Addr)(xs:List V)(j:Nat)(v:V),x= .ref p∧y= .int (j:Int)∧aU K H p xs∧xs[j]?=some v∧Q v H
theorem Ni:IM X (Jg X.K):=by intro pins s σ H o i ov iv Q I r1 r2 h;obtain⟨p,xs,j,v,rfl,rfl,hq,hv,q⟩:=h;cases r1;obtain⟨t,rfl⟩:=r2;obtain⟨ao,r,pl,hz⟩:=I.list hq;obtain⟨w,ew,bA⟩:=r.get hv;have hn:=tV;have hj:j<xs.length:=(d_.mp hv).1;exact getItem_listL pl.isList (by simp) (by lia) (by rw[cF];exact ew) ⟨v,H,I,bA,q⟩
theorem sS{ns:List Int}(ho:qE X op (u6 f))(hs:σ[i]?=some (some (.ref l)))(hl:H1 l=some (.lst (ns.map V.int)))(hi:XE X σ H ie aa j)(hz:ns[j]?=some z)(he:XE X σ H e aq y)(s:aj H H1)(k:∀G H2,au H H1 G H2→WB X rest D σ (upd H2 l (.lst ((ns.set j (f z y)).map V.int))))(hN:X.N[i]?=some x:=by rfl)(hv:dJ X.env.scope x:=by first|exact Or.inl rfl|exact Or.inr (Or.inl rfl)|exact Or.inr (Or.inr rfl))(hd:(x==("__debug__":Str))=false:=by decide)(bH:(x==("__classdict__":Str))=false:=by decide)(ha:∀ov iv new,augStore ie ov iv new=(do holding [new,ov,iv] (setItem ov iv new);release [new,ov,iv] [];pure .next):=by intros;rfl):
  WB X (.AugAssign (.Subscript (.Name x p) ie tp) op e pos::rest) D σ H1:=
 cW (PS.ws (ND (iF hN hv hd bH) aJ (tget:=Jg X.K) Ni aJ ho set_list ha) ⟨.ref l,hs,hi H1 s _ fun w G H2 f1 bA=>by
  cases bA;have hj:j<ns.length:=(d_.mp hz).1;refine⟨l,_,j, .int z,rfl,rfl,aU.of (f1.h2 _ _ hl),(by rw[cz,hz];rfl),(he.mono f1.hg) H2 f1.g2 _ fun u G' H3 f2 ru=>?_⟩;cases ru;refine⟨z,y,rfl,rfl,l,_,(j:Int),j,rfl,rfl,f2.h2 _ _ (f1.h2 _ _ hl),?_,?_⟩
  ·unfold jm;rw[ag (by simp),ag (by rw[bj];simp[*])];simp
  ·have e1:((ns.map V.int).set j (V.int (f z y)))=(ns.set j (f z y)).map V.int:=by rw[List.map_set]
   rw[e1];exact k G' H3 (f1.trans f2)⟩)
theorem EK(ha:XN X σ H a aq [z])(hb:XE X σ H b aa n)(hn:n≤1000):XN X σ H (.BinOp a .Mult b pos) aq (replicate n z):=fun H1 s Q q=>
 PE.we (tj CK aJ aJ) (x2 ha.xe hb s fun v w G H2 f hh e2=>by
  obtain⟨l,us,e1,h1,p1⟩:=hh;cases e2;cases p1 with
  |cons h t=>
   cases t;cases h;have e3:(replicate ((n:Int).toNat) [V.int z]).flatten=replicate n (V.int z):=by simp_all
   refine⟨l,n,_,e1,rfl,f.g2 _ _ h1,by simp,by lia,by rw[cF];simp;exact cx hn (by decide),fun p hp=>?_⟩;rw[e3];refine q p _ G _ (f.new hp _) (f.bX hp) (f.fI hp) aE ?_;clear e3 hn hb q;induction n with
   |zero=>exact .nil
   |succ n ih=>exact .cons rfl ih)
end
section
variable{K:Fg}(T:Txt K mg CC CD)
def tL(l:List Int):Prop:=∀x∈l,KS.hZ x
abbrev ay:Rp (List Int):=ah aq
def mz(l:List Int):Prop:=∀x∈l,-1000≤x∧x≤1000
def Lj(row top:List Int)(col:Nat)(p:Int):List Int:=(row.zip top).map fun x=>(x.1*top.getD col 0-row.getD col 0*x.2)%p
include T
theorem MU:Def P w K mg base 1 "reduced" ["row","top","before"] (Fn (aO ay (aO ay (aO aq bu))) ay (fun c=>tL c.1∧tL c.2.1∧c.2.2.1≠0∧KS.hZ c.2.2.1∧0<c.1.length∧0<c.2.1.length∧c.1.length≤100) fun c=>aD.vN c.2.2.1 c.1 c.2.1):=by
 refine T.hs.reduced.mk Eh (fun nd H1 vs Q E hr h=>?_);refine KH h fun H row top b v0 v1 v2 s1 h0 h1 h2 hh k=>?_;obtain⟨b0,b1,bz,bb,l0,l1,l2⟩:=hh;have l0:0<row.length:=l0;have l1:0<top.length:=l1;have l2:row.length≤100:=l2;have b0:tL row:=b0;have b1:tL top:=b1;have h0:ay.rel H v0 row:=h0;have h1:ay.rel H v1 top:=h1;have h2:aq.rel H v2 b:=h2;have e0:∀xs:List Int,0<xs.length→gT xs (some 1) none=xs.drop 1:=fun xs hx=>qg hx;have hd:∀xs:List Int,0<xs.length→cJ xs 0=some (xs.headD 0):=fun xs hx=>by
  match xs,hx with
  |a::r,_=>exact bt rfl
 have hm:∀xs:List Int,0<xs.length→xs.headD 0∈xs:=fun xs hx=>by
  match xs,hx with
  |a::r,_=>simp
 refine a7 (XN.xe (gh (own:=[("number",3),("above",4)]) (fun x:Int×Int=>(x.1*top.headD 0-row.headD 0*x.2).fdiv b) rfl nd (HE (j:=3) (k:=4) T.zip (XE.cast (XN.xe (kl (xv 0 h0) (iL ax) lQ)) (e0 row l0)) (XE.cast (XN.xe (kl (xv 1 h1) (iL ax) lQ)) (e0 top l1))) (cK (by show cu Eh (bE GU) _ _=true;decide+kernel)) (fun _ _ _ _ _=>gF (j:=3) rfl nd) (yU (by decide) (by decide)) (by rw[rL,j6];grind) ?_)) s1 k;rintro⟨x,y⟩ G _ hxy sg ⟨vx,vy,rx,ry,rfl⟩ s0 H0 C cl fp;have hx:x∈row:=mZ (lA hxy).1;have hy:y∈top:=mZ (lA hxy).2;exact EF bz bb (jP (D4 (b0 x hx) (b1 _ (hm top l1)) (xv 3 rx) (aW (xv 1 (ay.mono sg h1)) ax (hd top l1))) (D4 (b0 _ (hm row l0)) (b1 y hy) (aW (xv 0 (ay.mono sg h0)) ax (hd row l0)) (xv 4 ry))) (xv 2 h2)
theorem Pn:Def P w K mg base 1 "cleared" ["row","top","column","prime"] (Fn (aO ay (aO ay (aO aa (aO aq bu)))) ay (fun c=>mz c.1∧mz c.2.1∧c.2.2.1<c.1.length∧c.2.2.1<c.2.1.length∧0<c.2.2.2.1∧c.1.length≤100) fun c=>Lj c.1 c.2.1 c.2.2.1 c.2.2.2.1):=by
 refine T.hs.cleared.mk DG (fun nd H1 vs Q E hr h=>?_);refine KQ h fun H row top c q v0 v1 v2 v3 s1 h0 h1 h2 h3 hh k=>?_;obtain⟨b0,b1,l0,l1,hq,l2⟩:=hh;have l0:c<row.length:=l0;have l1:c<top.length:=l1;have l2:row.length≤100:=l2;have b0:mz row:=b0;have b1:mz top:=b1;have h0:ay.rel H v0 row:=h0;have h1:ay.rel H v1 top:=h1;have h2:aa.rel H v2 c:=h2;have h3:aq.rel H v3 q:=h3;have g:∀xs:List Int,c<xs.length→xs[c]?=some (xs.getD c 0):=fun xs hx=>by rw[bC,bq hx];rfl
 refine a7 (XN.xe (gh (own:=[("number",4),("above",5)]) (fun x:Int×Int=>(x.1*top.getD c 0-row.getD c 0*x.2)%q) rfl nd (HE T.zip (xv 0 h0) (xv 1 h1)) (cK (by show cu DG (bE FQ) _ _=true;decide)) (fun _ _ _ _ _=>gF (j:=4) (k:=5) rfl nd) (yU (by decide) (by decide)) (by rw[rL];lia) ?_)) s1 k;rintro⟨x,y⟩ G _ hxy sg ⟨vx,vy,rx,ry,rfl⟩ s0 H0 C cl fp;have hx:=b0 x (lA hxy).1;have hr:=b0 (row.getD c 0) (fg (g row l0));exact kI hq (jP (jJ (.inl ⟨by lia,by lia⟩) (xv 4 rx) (aW (xv 1 (ay.mono sg h1)) (XE.int (xv 2 (aa.mono sg h2))) (bt (g top l1)))) (jJ (.inl ⟨by lia,by lia⟩) (aW (xv 0 (ay.mono sg h0)) (XE.int (xv 2 (aa.mono sg h2))) (bt (g row l0))) (xv 5 ry))) (xv 3 (aq.mono sg h3))
end
section
variable{α β γ δ:Type}{X:Cx}{σ σ0:aS}{H H1 H2 G:Hp}{e ie a b:Expr}{R:Rp α}{S:Rp β}{r:α}{pos p:Pos}{D:Ends}{rest:List Stmt}{x x':Str}{i i':Nat}{CC CD:Addr}
theorem cM.other(o:cM H1 G H2 l R acc)(h:l≠la):cM H1 G (upd H2 la ob) l R acc:=by obtain⟨us,hu,pr⟩:=o.ex;exact⟨o.n1,o.ng,us,by rw[aB h];exact hu,pr⟩
theorem QL(hNd:X.N.Nodup)(hs:σ[i']?=some (some (.ref l)))(hl:H1 l=some (.lst us))(h:XE X σ H e aa j)(hj:us[j]?=some v)(hz:us.length≤1000)(s:aj H H1)(k:∀G H2,au H H1 G H2→WB X rest D (σ.set i (some v)) (upd H2 l (.lst (us.eraseIdx j))))(hi:X.N[i]?=some x:=by rfl)(hx:Loc X.env.scope x:=by first|exact Or.inl rfl|exact Or.inr rfl)(hN:X.N[i']?=some x':=by rfl)(hv:dJ X.env.scope x':=by first|exact Or.inl rfl|exact Or.inr (Or.inl rfl)|exact Or.inr (Or.inr rfl))(hd:(x'==("__debug__":Str))=false:=by decide)(bH:(x'==("__classdict__":Str))=false:=by decide)(dW:AB X (.Name x' p) "pop":=by rfl)(gK:((backTo cp (starEach [e] X.env)).all (fun x=>!x.1)&&(backToKw cp (keywordEach [] X.env)).all (fun x=>x.1.isSome)
   &&decide (([e]:List Expr).length+([]:List Keyword).length+(if([]:List Keyword).isEmpty then 0 else 1)<30))=true:=by rfl)(dX:(ap.endLine==cp.line)=true:=by rfl)(dj:SE X e []:=by rfl)(dk:swapsWith (.Call (.Attribute (.Name x' p) "pop" ap) [e] [] cp) (some (.Name x p2)) pos.line X.env=pure false:=by rfl)(hf:X.fn x=true∨X.env.scope.names.lookup x=some .local:=by first|exact .inl rfl|exact .inr rfl|assumption):
  WB X (.Assign [.Name x p2] (.Call (.Attribute (.Name x' p) "pop" ap) [e] [] cp) pos::rest) D σ H1:=
 cW (PS.ws (pq (i:=i) hNd hi hx (sf xZ PySem.F.slot_list_pop PySem.F.type_list_pop Ry (iF hN hv hd bH) (fm aJ fG dj) dW gK dX dj rfl) dk hf)
  ⟨.ref l,hs, .inl ⟨rfl,_,aU.of hl⟩,h H1 s _ fun w G H2 f bA=>by cases bA;have hjl:j<us.length:=(d_.mp hj).1;refine⟨l,us,j,j,v,rfl,rfl,f.h2 _ _ hl,by simp,by lia,?_,hj,k G H2 f⟩;unfold seqIndex?;rw[af (show¬(j:Int)<0 by simp)];simp[hjl]⟩)
end
def cv(l:List Int)(j:Nat)(v:Int):List Int:=l.set j (l.getD j 0+v)
theorem sj(l:List Int)(j:Nat)(v:Int):(cv l j v).length=l.length:=by simp[cv]
theorem sY(l:List Int)(j:Nat)(v:Int)(c:Nat)(hc:c<l.length):(cv l j v).getD c 0=l.getD c 0+v*at_ j c:=by
 unfold cv at_;rw[bC,JK];by_cases q:j=c
 ·subst q;rw[ag rfl,ag hc,ag rfl];simp
 ·rw[af q,af q,←bC];simp
theorem zj{l:List Int}(hl:l.length=n)(h:∀c,c<n→l.getD c 0=f c):l=(range n).map f:=by apply j8;grind
theorem B6(n:Nat)(c:Nat):(replicate n (0:Int)).getD c 0=0:=by rw[bC,Y_];split<;>rfl
theorem nL{l:List Int}(h:j<l.length):l[j]?=some (l.getD j 0):=by simp[*]
theorem xA(ns:List Int):Paired (aq.rel H) (ns.map V.int) ns:=Paired.of_map
theorem qd(p:Paired (aq.rel H) vs ns):vs=ns.map V.int:=Paired.tE p
section
variable{K:Fg}(T:Txt K mg CC CD)
include T
theorem D9:Def P w K mg base 2 "crossing_rows" ["drawing","t"] (Fn (aO (aA CC CD) (aO aq bu)) (ah ay) (fun c=>ek c.1∧cH c.1) fun c=>aD.fM c.1 c.2.1):=by
 refine T.hs.S9.mk AR (fun nd H1 vs Q E hr h=>?_);refine JS h fun H d t v0 v1 s1 h0 h1 hh k=>?_;obtain⟨hs,hA⟩:=hh;have hs:d.x.length≤8:=hs;have hA:cH d:=hA;have h0:(aA CC CD).rel H v0 d:=h0;have h1:∀G,aq.rel G v1 t:=fun _=>h1;have hn:d.arcs≤16:=by unfold Dia.arcs;lia
 refine iN (i:=2) (R:=ay) nd (a5 aZ) (au.cf s1) fun l G H2 sg f2 o2=>?_;have h0:=(aA CC CD).mono sg h0;have eC:(d.x.flatMap fun y:Cross=>[aD.dy d y,aD.dC d t y]).length=2*d.x.length:=jK (f:=fun y:Cross=>[aD.dy d y,aD.dC d t y]) (n:=2) (fun _=>rfl) d.x;refine xi (R:=ay) (ks:=[3,4,5]) (fun y:Cross=>[aD.dy d y,aD.dC d t y]) rfl (bT (k:=3) nd) (du (bK T (xv 0 h0))) kq (by decide) f2 o2 ?_ ?_
 ·rintro y G3 H3 σ0 σ' bU hy sG f3 o3 hσ hσl ⟨v,rv,rfl⟩ hl D' kk;have hτl:(σ0.set 3 (some v)).length=6:=by rw[gO,hσl];rfl
  have q3:=zf (v:=v) (k:=3) hσl (by show 3<6;decide);have qj:=fun j(hj:j∉[3,4,5])=>Cq (v:=v) (k:=3) hσ (by decide) hj;generalize σ0.set 3 (some v)=τ at hτl q3 qj;obtain⟨a1,a2,a3,a4⟩:=hA y hy;have h0:=(aA CC CD).mono sG h0;refine i4 (i:=4) (R:=aq) (H:=G3) nd (EK (a5 (aV ax aZ)) (XE.cast (r':=d.arcs) (aK (gi T) hr (c:=(d,())) trivial (az (bx (i:=0) (qj 0 (by decide)) h0))) rfl) (by lia)) f3.g2 fun la ua G4 H4 f4 na nga ha pa=>?_;have ea:=qd pa;subst ea;have o4:=o3.fwd f4;obtain⟨us,hu,_⟩:=o3.ex;have nla:l≠la:=bB hu na;have f34:=f3.trans f4;have n1a:=f3.bX na;have rv:=(a6 CC).mono f4.hg rv;have h0:=(aA CC CD).mono f4.hg h0;have t4l:(τ.set 4 (some (.ref la))).length=6:=by rw[gO];exact hτl
  have p4:(τ.set 4 (some (.ref la)))[4]?=some (some (.ref la)):=jC (by rw[hτl];decide);have pj:∀j,j≠4→(τ.set 4 (some (.ref la)))[j]?=τ[j]?:=fun j hj=>ip (fun z=>hj z.symm);have p3:(τ.set 4 (some (.ref la)))[3]?=some (some v):=(pj 3 (by decide)).trans q3;have p0:(τ.set 4 (some (.ref la)))[0]?=some (some v0):=(pj 0 (by decide)).trans (qj 0 (by decide));have p1:(τ.set 4 (some (.ref la)))[1]?=some (some v1):=(pj 1 (by decide)).trans (qj 1 (by decide));have p2:(τ.set 4 (some (.ref la)))[2]?=some (some (.ref l)):=(pj 2 (by decide)).trans (qj 2 (by decide));have pB:lV [3,4,5] (List.set (L2.start AR [v0,v1]) 2 (some (.ref l))) (τ.set 4 (some (.ref la))):=fun j hj=>by rw[pj j (by intro z;subst z;exact hj (by decide))];exact qj j hj
  generalize τ.set 4 (some (.ref la))=τ4 at t4l p4 p3 p0 p1 p2 pB;have L0:(replicate d.arcs (0:Int)).length=d.arcs:=by simp
  refine sS (i:=4) (H:=G4) oS p4 ha (eh T (bx (i:=3) p3 rv)) (nL (by rw[L0];exact a3)) ax f34.g2 fun G5 H5 f5=>?_;have n_:=f5.sep _ _ nga ha;have o5:=(o4.fwd f5).other (ob:= .lst ((cv (replicate d.arcs 0) y.oi 1).map V.int)) nla;have f35:=((f34.trans f5).put n1a n_ (.lst ((cv (replicate d.arcs 0) y.oi 1).map V.int)));have rv:=(a6 CC).mono f5.hg rv;have L1:(cv (replicate d.arcs 0) y.oi 1).length=d.arcs:=by rw[sj,L0]
  refine sS (i:=4) (H:=G5) (ns:=cv (replicate d.arcs 0) y.oi 1) Fb p4 aE (fJ T (bx (i:=3) p3 rv)) (nL (by rw[L1];exact a4)) ax f35.g2 fun G6 H6 f6=>?_;have jY:=f6.sep _ _ n_ aE;have eab:(cv (replicate d.arcs 0) y.oi 1).set y.oo ((cv (replicate d.arcs 0) y.oi 1).getD y.oo 0-1)=aD.dy d y:=by
   have:(cv (replicate d.arcs 0) y.oi 1).set y.oo ((cv (replicate d.arcs 0) y.oi 1).getD y.oo 0-1)=cv (cv (replicate d.arcs 0) y.oi 1) y.oo (-1):=rfl;rw[this];refine zj (by rw[sj,L1]) fun c hc=>?_;rw[sY _ _ _ _ (by rw[L1];exact hc),sY _ _ _ _ (by rw[L0];exact hc),B6]
   lia
  rw[eab];have o6:=(o5.fwd f6).other (ob:= .lst ((aD.dy d y).map V.int)) nla;have f36:=((f35.trans f6).put n1a jY (.lst ((aD.dy d y).map V.int)));have ha6:upd H6 la (.lst ((aD.dy d y).map V.int)) la=some (.lst ((aD.dy d y).map V.int)):=aE;have f37:=f36.aX n1a jY ha6;have s7:aj G6 (upd G6 la (.lst ((aD.dy d y).map V.int))):=aj.df jY;have ra:ay.rel (upd G6 la (.lst ((aD.dy d y).map V.int))) (.ref la) (aD.dy d y):=⟨la,_,rfl,aE,xA _⟩;have o7:cM H1 (upd G6 la (.lst ((aD.dy d y).map V.int))) (upd H6 la (.lst ((aD.dy d y).map V.int))) l ay bU:=by obtain⟨aN,lg,jx⟩:=o6.ex;exact⟨o6.n1,by rw[aB nla];exact o6.ng,aN,lg,jx.imp fun _ _=>ay.mono s7⟩
  generalize upd G6 la (.lst ((aD.dy d y).map V.int))=G7 at f37 s7 ra o7;generalize upd H6 la (.lst ((aD.dy d y).map V.int))=H7 at f37 o7;have s47:aj G4 G7:=f5.hg.trans (f6.hg.trans s7);have rv:=(a6 CC).mono (f6.hg.trans s7) rv;have h0:=(aA CC CD).mono s47 h0;refine i4 (i:=5) (R:=aq) (H:=G7) nd (EK (a5 (aV ax aZ)) (XE.cast (r':=d.arcs) (aK (gi T) hr (c:=(d,())) trivial (az (bx (i:=0) p0 h0))) rfl) (by lia)) f37.g2 fun lb ub G8 H8 f8 nb ngb hb pb=>?_;have eb:=qd pb;subst eb;obtain⟨us7,hu7,_⟩:=o7.ex;have nlb:l≠lb:=bB hu7 nb;have o8:=o7.fwd f8;have f38:=f37.trans f8;have n1b:=f37.bX nb;have rv:=(a6 CC).mono f8.hg rv;have ra:=ay.mono f8.hg ra;have t5l:(τ4.set 5 (some (.ref lb))).length=6:=by rw[gO];exact t4l
  have r5:(τ4.set 5 (some (.ref lb)))[5]?=some (some (.ref lb)):=jC (by rw[t4l];decide);have rj:∀j,j≠5→(τ4.set 5 (some (.ref lb)))[j]?=τ4[j]?:=fun j hj=>ip (fun z=>hj z.symm);have r3:(τ4.set 5 (some (.ref lb)))[3]?=some (some v):=(rj 3 (by decide)).trans p3;have r1:(τ4.set 5 (some (.ref lb)))[1]?=some (some v1):=(rj 1 (by decide)).trans p1;have r2:(τ4.set 5 (some (.ref lb)))[2]?=some (some (.ref l)):=(rj 2 (by decide)).trans p2;have r4:(τ4.set 5 (some (.ref lb)))[4]?=some (some (.ref la)):=(rj 4 (by decide)).trans p4;have rB:lV [3,4,5] (List.set (L2.start AR [v0,v1]) 2 (some (.ref l))) (τ4.set 5 (some (.ref lb))):=fun j hj=>by rw[rj j (by intro z;subst z;exact hj (by decide))];exact pB j hj
  generalize τ4.set 5 (some (.ref lb))=τ5 at t5l r5 r3 r1 r2 r4 rB;refine sS (i:=5) (H:=G8) (y:=if y.minus=true then-1 else t) oS r5 hb (eN T (bx (i:=3) r3 rv)) (nL (by rw[L0];exact a1)) (jh (dB (g7 T (bx (i:=3) r3 rv)) ax) (fun q=>by rw[ag (A3 T rfl q)];exact fF ax) fun q=>by rw[af (by rw[yY T rfl q];simp)];exact bx (i:=1) r1 (h1 _)) f38.g2 fun G9 H9 f9=>?_;have ng9:=f9.sep _ _ ngb hb;have o9:=(o8.fwd f9).other (ob:= .lst ((cv (replicate d.arcs 0) y.ui (if y.minus=true then-1 else t)).map V.int)) nlb;have f39:=((f38.trans f9).put n1b ng9 (.lst ((cv (replicate d.arcs 0) y.ui (if y.minus=true then-1 else t)).map V.int)));have rv:=(a6 CC).mono f9.hg rv;have ra:=ay.mono f9.hg ra;have M1:(cv (replicate d.arcs 0) y.ui (if y.minus=true then-1 else t)).length=d.arcs:=by rw[sj,L0]
  refine sS (i:=5) (H:=G9) (ns:=cv (replicate d.arcs 0) y.ui (if y.minus=true then-1 else t)) (y:=if y.minus=true then t else-1) oS r5 aE (fP T (bx (i:=3) r3 rv)) (nL (by rw[M1];exact a2)) (jh (dB (g7 T (bx (i:=3) r3 rv)) ax) (fun q=>by rw[ag (A3 T rfl q)];exact bx (i:=1) r1 (h1 _)) fun q=>by rw[af (by rw[yY T rfl q];simp)];exact fF ax) f39.g2 fun e_ iQ bP=>?_;have ng10:=bP.sep _ _ ng9 aE;have o10:=(o9.fwd bP).other (ob:= .lst ((cv (cv (replicate d.arcs 0) y.ui (if y.minus=true then-1 else t)) y.uo (if y.minus=true then t else-1)).map V.int)) nlb;have f310:=((f39.trans bP).put n1b ng10 (.lst ((cv (cv (replicate d.arcs 0) y.ui (if y.minus=true then-1 else t)) y.uo (if y.minus=true then t else-1)).map V.int)));have rv:=(a6 CC).mono bP.hg rv;have ra:=ay.mono bP.hg ra;have M2:(cv (cv (replicate d.arcs 0) y.ui (if y.minus=true then-1 else t)) y.uo (if y.minus=true then t else-1)).length=d.arcs:=by rw[sj,M1]
  refine sS (i:=5) (H:=e_) (ns:=cv (cv (replicate d.arcs 0) y.ui (if y.minus=true then-1 else t)) y.uo (if y.minus=true then t else-1)) (y:=1-t) oS r5 aE (eh T (bx (i:=3) r3 rv)) (nL (by rw[M2];exact a3)) (jP ax (bx (i:=1) r1 (h1 _))) f310.g2 fun fX oa eD=>?_;have ur:=eD.sep _ _ ng10 aE;have ebl:(cv (cv (replicate d.arcs 0) y.ui (if y.minus=true then-1 else t)) y.uo (if y.minus=true then t else-1)).set y.oi ((cv (cv (replicate d.arcs 0) y.ui (if y.minus=true then-1 else t)) y.uo (if y.minus=true then t else-1)).getD y.oi 0+(1-t))=aD.dC d t y:=by refine zj (l:=cv (cv (cv (replicate d.arcs 0) y.ui (if y.minus=true then-1 else t)) y.uo (if y.minus=true then t else-1)) y.oi (1-t)) (by rw[sj,M2]) fun c hc=>?_;rw[sY _ _ _ _ (by rw[M2];exact hc),sY _ _ _ _ (by rw[M1];exact hc),sY _ _ _ _ (by rw[L0];exact hc),B6];cases y.minus<;>simp<;>lia
  rw[ebl];have o11:=(o10.fwd eD).other (ob:= .lst ((aD.dC d t y).map V.int)) nlb;have f311:=((f310.trans eD).put n1b ur (.lst ((aD.dC d t y).map V.int)));have hb11:upd oa lb (.lst ((aD.dC d t y).map V.int)) lb=some (.lst ((aD.dC d t y).map V.int)):=aE;have f312:=f311.aX n1b ur hb11;have s12:aj fX (upd fX lb (.lst ((aD.dC d t y).map V.int))):=aj.df ur;have rb:ay.rel (upd fX lb (.lst ((aD.dC d t y).map V.int))) (.ref lb) (aD.dC d t y):=⟨lb,_,rfl,aE,xA _⟩;have ra:=ay.mono (eD.hg.trans s12) ra;have o12:cM H1 (upd fX lb (.lst ((aD.dC d t y).map V.int))) (upd oa lb (.lst ((aD.dC d t y).map V.int))) l ay bU:=by obtain⟨aN,lg,jx⟩:=o11.ex;exact⟨o11.n1,by rw[aB nlb];exact o11.ng,aN,lg,jx.imp fun _ _=>ay.mono s12⟩
  have xJ:aj G3 (upd fX lb (.lst ((aD.dC d t y).map V.int))):=f4.hg.trans (s47.trans (f8.hg.trans (f9.hg.trans (bP.hg.trans (eD.hg.trans s12)))));refine nD (i:=2) r2 f312 o12 (XN.xe (a5 (aV (bx (i:=4) r4 ra) (aV (bx (i:=5) r5 rb) aZ)))) ?_ fun G13 H13 s13 f13 o13=>bp (kk τ5 G13 H13 rB (by rw[t5l];rfl) (xJ.trans s13) f13 o13);rw[eI,eC]at hl;simp only[bZ,iW]at hl⊢
  lia
 ·intro σ' G' H3 sG f3 o3 hσ hσl;obtain⟨G4,s4,f4,r4⟩:=o3.known f3;rw[eI]at r4;exact gD (i:=2) (hσ 2 (by decide)) (k _ G4 H3 f4 r4)
end
theorem Ig(hj:j≤16)(h:x.natAbs≤(2^40)^j):KS.hZ x:=by refine uE h ?_;rw[←Nat.pow_mul];exact Nat.pow_lt_pow_right (by decide) (by lia)
theorem UP(p:Int)(r:List Int):detBy 1 p [r]=r.headD 0:=by
 rw[aD.vE 0 p [r] (by simp)];by_cases q:r.headD 0=0
 ·simp_all
 ·have:[r].findIdx? (fun(r:List Int)=>r.headD 0 !=0)=some 0:=by rw[List.findIdx?_cons,show(r.headD 0 !=0)=true from uP.mpr q];rfl
  rw[this];simp[detBy]
def nF(m:List (List Int)):List Nat:=(m.zipIdx.filter fun c=>!decide (c.1.headD 0=0)).map (·.2)
theorem Uk(m:List (List Int)):(nF m).head?=m.findIdx? fun(r:List Int)=>r.headD 0 !=0:=by
 unfold nF;rw[List.head?_map,List.head?_filter];have:∀(l:List (List Int))(k:Nat),((l.zipIdx k).find? fun c=>!decide (c.1.headD 0=0)).map (·.2)=(l.findIdx? fun(r:List Int)=>r.headD 0 !=0).map (·+k):=by
  intro l;induction l with
  |nil=>intro k;rfl
  |cons a l ih=>
   intro k;rw[List.zipIdx_cons,jD,List.findIdx?_cons];by_cases q:a.headD 0=0
   ·have e1:(!decide ((a,k).1.headD 0=0))=false:=by rw[fZ q];rfl
    have e2:(a.headD 0 !=0)=false:=by rw[q];rfl
    simp only[e1,e2];rw[ih (k+1)];cases l.findIdx? fun(r:List Int)=>r.headD 0 !=0 with
    |none=>rfl
    |some j=>simp;lia
   ·simp_all
 simp_all
section
variable{K:Fg}(T:Txt K mg CC CD)
def Sq(m:List (List Int)):Prop:=0<m.length∧m.length≤15∧(∀r∈m,r.length=m.length)∧∀r∈m,(r.map Int.natAbs).sum≤2^40
include T
theorem QO:Def P w K mg base 2 "determinant" ["rows"] (Fn (aO (ah ay) bu) aq (fun c=>Sq c.1) fun c=>detBy c.1.length 1 c.1):=by
 refine T.hs.WD.mk tM (@fun f bI A outer s nd H1 vs Q E hr h=>?_);refine DX h fun H rows v0 s1 h0 hh k=>?_;obtain⟨z0,z1,z2,z3⟩:=hh;have h0:(ah ay).rel H v0 rows:=h0;have z0:0<rows.length:=z0;have z1:rows.length≤15:=z1;generalize hN:rows.length=N at z0 z1;have z2:∀r∈rows,r.length=N:=by rw[←hN];exact z2
 have L0:=aD.Rt (W:=2^40) hN z2 z3;refine i4 (i:=1) (R:=ay) nd (Hi T.list (xv 0 h0)) s1 fun l us G2 H2 f2 n1 ng h2 pr=>?_;refine br (i:=2) (H:=G2) nd ax f2.g2 fun v2 G3 H3 f3 r3=>?_;refine br (i:=3) (H:=G3) nd ax (f2.trans f3).g2 fun v3 G4 H4 f4 r4=>?_;have f24:=(f2.trans f3).trans f4;cases r3;cases r4;refine tI (fun t σ' H'=>∃(G':Hp)(l:Addr)(us:List V)(m:List (List Int))(sg bf:Int)(o4 o5:Option V)(j:Nat),au H H1 G' H'∧H1 l=Option.none∧G' l=Option.none∧H' l=some (.lst us)∧Paired (ay.rel G') us m∧σ'=[some v0,some (.ref l),some (.int sg),some (.int bf),o4,o5,none,none]∧aD.lX N (2^40) j bf m∧j<N∧(sg=1∨sg=-1)∧detBy N 1 rows=sg*detBy (N-j) bf m∧t=N-j) ⟨N,G4,l,us,rows,1,1,none,none,0,f24,n1,f4.sep _ _ (f3.sep _ _ ng h2) (f3.h2 _ _ h2),f4.h2 _ _ (f3.h2 _ _ h2),pr.imp fun _ _=>ay.mono (f3.hg.trans f4.hg),rfl,L0,z0, .inl rfl,by rw[uR,Nat.sub_zero],by simp⟩ ?_;rintro t σ' H' ⟨G',l,us,m,sg,bf,o4,o5,j,fw,n1,ng,hl,pr,rfl,L,hj,hsg,hval,rfl⟩;have hml:=L.ml;have kn:=fw.aX n1 ng hl;have rm:(ah ay).rel (upd G' l (.lst us)) (.ref l) m:=⟨l,us,rfl,aE,pr.imp fun _ _=>ay.mono (aj.df ng)⟩;refine je (cN T.len (xv 1 rm)) ax H' kn.g2 _ fun G5 H5 f5=>?_;by_cases hgt:1<m.length
 ·rw[ag (by simp;lia)];have rm5:=(ah ay).mono f5.hg rm;have heads:∀r∈m,0<r.length:=fun r hr=>by rw[(L.bound hr).1];lia
  have hd:∀xs:List Int,0<xs.length→cJ xs 0=some (xs.headD 0):=fun xs hx=>by
   match xs,hx with
   |a::r,_=>exact bt (j:=0) rfl
  refine vU (i:=4) (own:=[("number",6),("row",7)]) (S:=aa) (fun c:List Int×Nat=>c.2) (fun c=>!decide (c.1.headD 0=0)) rfl nd (nB (j:=6) (k:=7) T.enumerate (xv 1 rm5)) (kn.trans f5).g2 (cK (by show cu tM (bE oM) _ _=true;decide+kernel)) (fun _ _ _ _ _=>gF (j:=6) (k:=7) rfl nd) (sR (by decide) (by decide)) (by rw[mV];grind) ?_ ?_ ?_
  ·rintro⟨r,i⟩ G6 _ hm sg6 ⟨vi,vr,ri,rr,rfl⟩;have hr:r∈m:=Kf hm;exact l9 fun s0 H0 C cl fp=>kR (aW (xv 7 rr) ax (hd r (heads r hr))) ax
  ·rintro⟨r,i⟩ G6 _ hm hc sg6 ⟨vi,vr,ri,rr,rfl⟩ s0 H0 C cl fp;exact xv 6 ri
  intro l6 us6 G6 H6 f6 n6 jY h6 pr6;have f56:=f5.trans f6;have ne6:l6≠l:=by intro z;subst z;rw[f5.h2 _ _ hl]at n6;cases n6
  obtain⟨fb,sb,nb,hb,gb⟩:=au.back fw n1 ng hl f56;have nk:del G6 l l6=Option.none:=by rw[iM ne6];exact jY
  have fk:=fb.aX (fw.bX (f5.bX n6)) nk h6;have hGl:upd (del G6 l) l6 (.lst us6) l=Option.none:=by rw[aB (fun z=>ne6 z.symm)];exact nb
  have jZ:(ah aa).rel (upd (del G6 l) l6 (.lst us6)) (.ref l6) (nF m):=⟨l6,us6,rfl,aE,by have e:=Ab pr6;rw[e];exact yx _⟩;have sk:aj G' (upd (del G6 l) l6 (.lst us6)):=sb.trans (aj.df nk);generalize upd (del G6 l) l6 (.lst us6)=Gk at fk hGl jZ sk;have prk:=pr.imp fun _ _ h=>ay.mono sk h;have uu:=Uk m;refine eV (dB (cN T.len (xv 4 jZ)) ax) fk.g2 (fun q G7 H7 f7=>?_) fun q G7 H7 f7=>?_
  ·
   have he:nF m=[]:=by
    have:(nF m).length=0:=by simp at q;simpa using q
    exact uL.mp this
   rw[he]at uu;refine a7 (XE.cast ax ?_) (fk.trans f7).g2 fun y G8 H8 f8 r8=>k y G8 H8 ((fk.trans f7).trans f8) r8;show(0:Int)=detBy rows.length 1 rows;rw[hN,hval];obtain⟨t,ht⟩:∃t,N-j=t+1:=⟨N-j-1,by grind⟩;rw[ht,aD.vE t bf m (by intro z;rw[z]at hgt;simp at hgt),←uu];simp
  ·refine bp ?_;obtain⟨i,hi⟩:∃i,(nF m).head?=some i:=by
    cases hq:nF m with
    |nil=>rw[hq]at q;simp at q
    |cons a r=>exact⟨a,rfl⟩
   rw[hi]at uu;obtain⟨hil,hi1,_⟩:=rK.mp uu.symm;have hz:(m[i]).headD 0≠0:=by simpa using hi1
   have hai:m[i]?=some m[i]:=bq hil;obtain⟨Lnew,hred⟩:=L.step hai hz hj;have hl0:(nF m)[0]?=some i:=by rw[←hi,List.head?_eq_getElem?]
   have hb7:=f7.h2 _ _ hb;have ng7:=f7.sep _ _ hGl hb;have jZ:=(ah aa).mono f7.hg jZ;have jW:=prk.imp fun _ _ h=>ay.mono f7.hg h;obtain⟨vt,hvt,rvt⟩:=jW.at hai;refine QL (i:=5) (i':=1) (H:=G7) nd rfl hb7 (aW (xv 4 jZ) ax (bt hl0)) hvt (by rw[jW.len];grind) (fk.trans f7).g2 fun G8 H8 f8=>?_;have mN:=f8.sep _ _ ng7 hb7;have jy:=((fk.trans f7).trans f8).put n1 mN (.lst (us.eraseIdx i));have hl8:upd H8 l (.lst (us.eraseIdx i)) l=some (.lst (us.eraseIdx i)):=aE;have er:∀{α:Type}(x:List α),x.eraseIdx i=x.take i++x.drop (i+1):=fun x=>List.eraseIdx_eq_take_drop_succ x i;have pr8:Paired (ay.rel G8) (us.eraseIdx i) (m.take i++m.drop (i+1)):=by rw[er us];exact((jW.imp fun _ _=>ay.mono f8.hg).take i).append ((jW.imp fun _ _=>ay.mono f8.hg).drop (i+1))
   have rvt:=ay.mono f8.hg rvt;have jZ:=(ah aa).mono f8.hg jZ;have k8:=jy.aX n1 mN hl8;have s8:aj G8 (upd G8 l (.lst (us.eraseIdx i))):=aj.df mN;have rm8:(ah ay).rel (upd G8 l (.lst (us.eraseIdx i))) (.ref l) (m.take i++m.drop (i+1)):=⟨l,_,rfl,aE,pr8.imp fun _ _=>ay.mono s8⟩;have rvt:=ay.mono s8 rvt;have jZ:=(ah aa).mono s8 jZ;generalize upd G8 l (.lst (us.eraseIdx i))=G9 at k8 rm8 rvt jZ;generalize upd H8 l (.lst (us.eraseIdx i))=H9 at k8;have fB:∀r∈m.take i++m.drop (i+1),r∈m:=fun r h=>by
    rcases cE.mp h with h|h
    ·exact lH h
    ·exact mZ h
   have pQ:∀(jz:Int)(e_ iQ:Hp),au G9 H9 e_ iQ→(jz=1∨jz=-1)→jz=sg*(if i%2=0 then 1 else-1)→WB (ju g_ P w K mg base tM "determinant" (bE oM) f bI A outer s H1 E).kP
     (match(iH oM).getD 3 (.Pass ⟨0,0,0,0⟩)with| .While _ b _ _=>b.drop 4|_=>[])
     {nx:=fun σ'' bV=>∃m',m'<N-j∧∃(G':Hp)(l:Addr)(us:List V)(m:List (List Int))(sg bf:Int)(o4 o5:Option V)(j:Nat),au H H1 G' bV∧H1 l=Option.none∧G' l=Option.none∧bV l=some (.lst us)∧Paired (ay.rel G') us m∧σ''=[some v0,some (.ref l),some (.int sg),some (.int bf),o4,o5,none,none]∧aD.lX N (2^40) j bf m∧j<N∧(sg=1∨sg=-1)∧detBy N 1 rows=sg*detBy (N-j) bf m∧m'=N-j,rt:=Q,ct:=fun σ'' bV=>∃m',m'<N-j∧∃(G':Hp)(l:Addr)(us:List V)(m:List (List Int))(sg bf:Int)(o4 o5:Option V)(j:Nat),au H H1 G' bV∧H1 l=Option.none∧G' l=Option.none∧bV l=some (.lst us)∧Paired (ay.rel G') us m∧σ''=[some v0,some (.ref l),some (.int sg),some (.int bf),o4,o5,none,none]∧aD.lX N (2^40) j bf m∧j<N∧(sg=1∨sg=-1)∧detBy N 1 rows=sg*detBy (N-j) bf m∧m'=N-j,bk:=WB (ju g_ P w K mg base tM "determinant" (bE oM) f bI A outer s H1 E).kP ((iH oM).drop 4) {nx:=fun _ H'=>Q .a8 H',rt:=Q}}
     [some v0,some (.ref l),some (.int jz),some (.int bf),some (.ref l6),some vt,none,none] iQ:=by
    intro jz e_ iQ bP hs1 hs2;have rm10:=(ah ay).mono bP.hg rm8;have JG:=ay.mono bP.hg rvt;have fN:=k8.trans bP;have hbig:∀r∈m,tL r:=fun r hr x hx=>Ig (j:=j+1) (by lia) ((L.bound hr).2 x hx);have hbb:KS.hZ bf:=Ig (j:=j) (by lia) L.pb;have hml':(m.take i++m.drop (i+1)).length=N-(j+1):=by rw[←Lnew.ml,bj]
    refine vU (i:=1) (own:=[("row",7)]) (S:=ay) (fun r=>aD.vN bf r m[i]) (fun _=>true) rfl nd (du (k:=7) (xv 1 rm10)) fN.g2 (cK (by show cu tM (bE oM) _ _=true;decide+kernel)) (fun _ _ _ _ _=>bT (k:=7) nd) (dS (by decide)) (by grind) (fun _ _ _ _ _ _=>yT) ?_ ?_
    ·rintro r fX _ hm hc sg11 ⟨vr,rr,rfl⟩ s0 H0 C cl fp;have d8:=fB r hm;exact XE.cast (aK (MU T) hr (c:=(r,m[i],bf,())) ⟨hbig r d8,hbig _ (lD hil),L.pz,hbb,heads r d8,heads _ (lD hil),by show r.length≤100;rw[(L.bound d8).1];grind⟩ (aF (xv 7 rr) (aF (xv 5 (ay.mono sg11 JG)) (az (xv 3 (show aq.rel fX (.int bf) bf from rfl)))))) rfl
    ·intro l11 us11 fX oa eD n11 ur h11 pr11;rw[BH.mpr (fun _ _=>rfl),ef (fun r d8=>hred r (fB r d8))]at pr11;refine br (i:=3) (H:=fX) nd (aW (xv 5 (ay.mono eD.hg JG)) ax (hd _ (heads _ (lD hil)))) (fN.trans eD).g2 fun v12 G12 H12 lx r12=>?_;cases r12;refine bp ⟨N-(j+1),by grind,G12,l11,us11,_,jz,m[i].headD 0,_,_,j+1,(fN.trans eD).trans lx,fN.bX n11,lx.sep _ _ ur h11,lx.h2 _ _ h11,pr11.imp fun _ _=>ay.mono lx.hg,rfl,Lnew,by grind,hs1,?_,rfl⟩;rw[hval];obtain⟨t,ht⟩:∃t,N-j=t+1:=⟨N-j-1,by grind⟩;rw[ht,aD.vE t bf m (by intro z;rw[z]at hgt;simp at hgt),←uu];simp only[];have ea:m.getD i []=m[i]:=by simp[bC,hil]
     rw[ea,show N-(j+1)=t by grind,hs2,Int.mul_assoc]
   refine eV (dB (kI (by decide) (XE.int (aW (xv 4 jZ) ax (bt hl0))) ax) ax) k8.g2 (fun q e_ iQ bP=>?_) fun q e_ iQ bP=>?_
   ·have fE:¬i%2=0:=by simp at q;lia
    refine br (i:=2) (H:=e_) nd (fF (xv 2 (show aq.rel e_ (.int sg) sg from rfl))) (k8.trans bP).g2 fun v11 fX oa eD r11=>?_;cases r11;exact bp (pQ (-sg) fX oa (bP.trans eD) (by lia) (by rw[af fE];simp))
   ·have fE:i%2=0:=by simp at q;grind
    exact bp (pQ sg e_ iQ bP hsg (by rw[ag fE];simp))
 ·rw[af (by simp;lia)];have xH:m.length=1:=by grind
  obtain⟨r,hr⟩:∃r,m=[r]:=by
   match m,xH with
   |[r],_=>exact⟨r,rfl⟩
  subst hr;have hrl:=(L.bound (l:=r) (by simp)).1;have hd:cJ r 0=some (r.headD 0):=by
   match r,hrl with
   |a::r',_=>exact bt (j:=0) rfl
   |[],hl=>simp at hl;lia
  have rm5:=(ah ay).mono f5.hg rm;refine a7 (XE.cast (jJ (.inl (by lia)) (xv 2 (show aq.rel G5 (.int sg) sg from rfl)) (aW (aW (xv 1 rm5) ax (bt (j:=0) rfl)) ax hd)) ?_) (kn.trans f5).g2 fun y G6 H6 f6 r6=>k y G6 H6 ((kn.trans f5).trans f6) r6;show sg*r.headD 0=detBy rows.length 1 rows;rw[hN,hval];have:N-j=1:=by rw[←hml];rfl
  rw[this,UP]
end
abbrev BB:Int:=4294967296
def eK(z:Int):Int:=if 2*(z%BB)>BB then z%BB-BB else z%BB
def kj:Nat→Int→Prop
 |0,z=>z=0
 |f+1,z=>z=0∨kj f ((z-eK z)/BB)
theorem CH{M:Nat}(hB:2*(M:Int)<BB):∀(n:Nat)(g:Nat→Int),(∀k,(g k).natAbs≤M)→kj n (aD.val BB n g)
 |0,g,_=>rfl
 |n+1,g,h=>by
  refine .inr ?_;have e:=(aD.near hB (g 0) (aD.val BB n fun k=>g (k+1)) (h 0)).2;have ev:aD.val BB (n+1) g=g 0+BB*aD.val BB n (fun k=>g (k+1)):=rfl;have ex:eK (aD.val BB (n+1) g)=g 0:=by rw[ev];exact e
  rw[ex,ev];have:(g 0+BB*aD.val BB n (fun k=>g (k+1))-g 0)/BB=aD.val BB n (fun k=>g (k+1)):=by
   lia
  rw[this];exact CH hB n _ fun k=>h (k+1)
theorem Qb(f:Nat):aD.dE BB f 0=[]:=by cases f<;>simp[aD.dE]
section
variable{K:Fg}(T:Txt K mg CC CD)
include T
theorem NW:Def P w K mg base 1 "digits_apart" ["value"] (Fn (aO aq bu) ay (fun c=>kj 16 c.1) fun c=>aD.dE BB 16 c.1):=by
 refine T.hs.Ls.mk zi (@fun f bI A outer s nd H1 vs Q E hr h=>?_);refine DX h fun H z v0 s1 h0 hp k=>?_;have hp:kj 16 z:=hp;cases h0;obtain⟨tA,mA⟩:=T.Cm;refine iN (i:=1) (R:=aq) nd (a5 aZ) (au.cf s1) fun l G H2 sg f2 o2=>?_;refine br (i:=2) nd (xv 0 (show aq.rel G (.int z) z from rfl)) f2.g2 fun v2 G3 H3 f3 r3=>?_;cases r3;refine tI (fun m σ' H'=>∃(G':Hp)(acc:List Int)(y:Int)(o3:Option V),au H H1 G' H'∧cM H1 G' H' l aq acc∧σ'=[some (.int z),some (.ref l),some (.int y),o3]∧kj m y∧aD.dE BB 16 z=acc++aD.dE BB m y∧acc.length+m≤16) ⟨16,G3,[],z,none,f2.trans f3,o2.fwd f3,rfl,hp,rfl,by simp⟩ ?_;rintro m σ' H' ⟨G',acc,y,o3,fw,ow,rfl,hd,hv,hl⟩;refine kR (xv 2 (rfl)) ax H' fw.g2 _ fun G4 H4 f4=>?_;have ow:=ow.fwd f4;have fw:=fw.trans f4;by_cases hy:y=0
 ·rw[af (by simp[hy])];obtain⟨G5,s5,f5,r5⟩:=ow.known fw;refine gD (i:=1) rfl (k _ G5 H4 f5 ?_);show ay.rel G5 (.ref l) (aD.dE BB 16 z);rw[hv,hy,Qb,pS];exact r5
 ·rw[ag (by simp[hy])];obtain⟨t,ht⟩:∃t,m=t+1:=by
   cases m with
   |zero=>exact absurd hd hy
   |succ t=>exact⟨t,rfl⟩
  subst ht;have hd':kj t ((y-eK y)/BB):=hd.resolve_left hy;have fV:aD.dE BB (t+1) y= eK y::aD.dE BB t ((y-eK y)/BB):=by show(if y=0 then []else _)=_;rw[af hy];rfl
  have fin:∀(G5 H5:Hp),au G4 H4 G5 H5→WB (ju g_ P w K mg base zi "digits_apart" (bE sQ) f bI A outer s H1 E).kP
    (match(iH sQ).getD 2 (.Pass ⟨0,0,0,0⟩)with| .While _ b _ _=>b.drop 2|_=>[])
    {nx:=fun σ'' bV=>∃m',m'<t+1∧∃(G':Hp)(acc:List Int)(y:Int)(o3:Option V),au H H1 G' bV∧cM H1 G' bV l aq acc∧σ''=[some (.int z),some (.ref l),some (.int y),o3]∧kj m' y∧aD.dE BB 16 z=acc++aD.dE BB m' y∧acc.length+m'≤16,rt:=Q,ct:=fun σ'' bV=>∃m',m'<t+1∧∃(G':Hp)(acc:List Int)(y:Int)(o3:Option V),au H H1 G' bV∧cM H1 G' bV l aq acc∧σ''=[some (.int z),some (.ref l),some (.int y),o3]∧kj m' y∧aD.dE BB 16 z=acc++aD.dE BB m' y∧acc.length+m'≤16,bk:=WB (ju g_ P w K mg base zi "digits_apart" (bE sQ) f bI A outer s H1 E).kP ((iH sQ).drop 3) {nx:=fun _ H'=>Q .a8 H',rt:=Q}}
    [some (.int z),some (.ref l),some (.int y),some (.int (eK y))] H5:=by
   intro G5 H5 f5;refine si (i:=1) rfl (fw.trans f5) (ow.fwd f5) (xv 3 (rfl)) (by lia) fun G6 H6 s6 f6 o6=>?_;refine br (i:=2) nd (XE.cast (EF (by decide) (by exact fc (show BB.natAbs<2^40 by decide) (BQ (by decide) (by decide))) (jP (xv 2 (rfl)) (xv 3 (rfl))) (bN mA)) (JN _ (by decide))) f6.g2 fun v7 G7 H7 f7 r7=>?_;cases r7;refine bp ⟨t,by simp,G7,acc++[eK y],_,_,f6.trans f7,o6.fwd f7,rfl,hd',?_,by simp;lia⟩;rw[hv,fV,oj];rfl
  refine br (i:=3) nd (kI (by decide) (xv 2 (rfl)) (bN mA)) fw.g2 fun v5 G5 H5 f5 r5=>?_;cases r5;refine eV (je (jJ (.inl ⟨by decide,by decide⟩) ax (xv 3 (rfl))) (bN mA)) (fw.trans f5).g2 (fun q G6 H6 f6=>?_) fun q G6 H6 f6=>?_
  ·refine xt (i:=3) Fb nd rfl (bN mA) ((fw.trans f5).trans f6).g2 fun G7 H7 f7=>bp ?_;have e:y%BB-4294967296= eK y:=by unfold eK;rw[ag (gB q)]
   rw[e];exact fin G7 H7 ((f5.trans f6).trans f7)
  ·have e:y%BB= eK y:=by unfold eK;rw[af (dH q)]
   refine bp ?_;have:=fin G6 H6 (f5.trans f6);rw[←e]at this;exact this
theorem N3:Def P w K mg base 1 "lowest_first" ["numbers"] (Fn (aO ay bu) ay (fun c=>c.1.length≤100∧∃x∈c.1,x≠0) fun c=>aD.lowFirst c.1):=by
 refine T.hs.Xk.mk AK (fun nd H1 vs Q E hr h=>?_);refine DX h fun H ns v0 s1 h0 hh k=>?_;obtain⟨hl,x,hx,hxz⟩:=hh;have h0:ay.rel H v0 ns:=h0;have hl:ns.length≤100:=hl;have hx:x∈ns:=hx;generalize mK:(ns.findIdx fun x=>x !=0)=lo;have bw:lo<ns.length:=by rw[←mK];exact List.findIdx_lt_length_of_exists ⟨x,hx,uP.mpr hxz⟩
 have hat:ns.getD lo 0≠0:=by have:=List.findIdx_getElem (w:=by rw[mK];exact bw);simp only[mK,uP]at this;rw[bC,bq bw];exact this
 have hbe:∀j,j<lo→ns.getD j 0=0:=fun j hj=>by have:=List.not_of_lt_findIdx (by rw[mK];exact hj);rw[bC,bq (by lia)];simpa using this
 have hmin:(lo:Int)∈(((ns.zipIdx.filter fun c=>!decide (c.1=0)).map fun c=>c.2).map Int.ofNat)∧∀y∈(((ns.zipIdx.filter fun c=>!decide (c.1=0)).map fun c=>c.2).map Int.ofNat),lo≤y:=by
  constructor
  ·refine aH.mpr ⟨lo,aH.mpr ⟨(ns.getD lo 0,lo),dz.mpr ⟨?_,by simp only[cU hat];rfl⟩,rfl⟩,rfl⟩;rw[lF];exact nL bw
  ·intro y hy;obtain⟨i,hi,rfl⟩:=aH.mp hy;obtain⟨c,hc,rfl⟩:=aH.mp hi;obtain⟨c1,c2⟩:=dz.mp hc;rw[lF]at c1;have c2:c.1≠0:=by simpa using c2
   by_cases q:c.2<lo
   ·have:=hbe c.2 q;rw[bC,c1]at this;exact absurd this c2
   ·show lo≤(c.2:Int)
    lia
 refine br (i:=1) nd (XE.nat (A_ T rfl (XE.mq (XN.xe (sV (own:=[("power",3),("number",4)]) (fun c:Int×Nat=>c.2) (fun c=>!decide (c.1=0)) rfl nd (nB T.enumerate (xv 0 h0)) (cK (by show cu AK (bE zJ) _ _=true;decide)) (fun _ _ _ _ _=>gF (j:=3) (k:=4) rfl nd) (sR (by decide) (by decide)) (by rw[mV];lia) ?_ ?_))) hmin.1 hmin.2) rfl) s1 fun v1 G2 H2 f2 r2=>?_
 ·rintro⟨y,i⟩ G6 _ hm sg6 ⟨vi,vr,ri,rr,rfl⟩;exact l9 fun s0 H0 C cl fp=>kR (xv 4 rr) ax
 ·rintro⟨y,i⟩ G6 _ hm hc sg6 ⟨vi,vr,ri,rr,rfl⟩ s0 H0 C cl fp;exact xv 3 ri
 have h0:=ay.mono f2.hg h0;refine br (i:=2) nd (jh (r:=if 0<ns.getD lo 0 then 1 else-1) (je (aW (xv 0 h0) (XE.int (xv 1 r2)) (bt (nL bw))) ax) (fun q=>by rw[ag (gB q)];exact ax) fun q=>by rw[af (dH q)];exact fF ax) f2.g2 fun v3 G3 H3 f3 r3=>?_;have h0:=ay.mono f3.hg h0;have d9:=f2.trans f3;refine a7 (XE.cast (XN.xe (gh (own:=[("number",4)]) (fun y:Int=>(if 0<ns.getD lo 0 then 1 else-1)*y) rfl nd (du (XE.cast (XN.xe (kl (xv 0 h0) (iL (XE.int (xv 1 (aa.mono f3.hg r2)))) lQ)) (qg (by exact qW ‹_›)))) (cK (by show cu AK (bE zJ) _ _=true;decide)) (fun _ _ _ _ _=>bT (k:=4) nd) (dS (by decide)) (by rw[j6];grind) ?_)) ?_) d9.g2 fun y G4 H4 f4 r4=>k y G4 H4 (d9.trans f4) r4
 ·rintro y G4 _ hy sg ⟨vy,ry,rfl⟩ s0 H0 C cl fp;exact jJ (.inl (by split<;>decide)) (xv 2 (aq.mono sg r3)) (xv 4 ry)
 ·show _=aD.lowFirst ns;unfold aD.lowFirst;rw[mK]
end
theorem Ah(p:Nat):∀(n col:Nat)(m:List (List Int)),aD.gu p n col m≤n
 |0,_,_=>aY _
 |n+1,col,m=>by
  unfold aD.gu;split
  ·exact Kz (Ah p n _ _)
  ·have:=Ah p n (col+1) ((m.filter fun r=>decide (r.getD col 0%(p:Int)=0))++(List.map (aD.iw p ‹_› col) ‹_›))
   lia
theorem OX(d:Dia)(t:Int)(r:Nat)(hr:r<2*d.x.length):(aD.fM d t)[r]?=some ((range d.arcs).map fun c=>d.row t r c):=by
 have gen:∀(xs:List Cross)(r:Nat),r<2*xs.length→(xs.flatMap fun y=>[aD.dy d y,aD.dC d t y])[r]?=(xs[r/2]?).map fun y=>if r%2=0 then aD.dy d y else aD.dC d t y:=by
  intro xs;induction xs with
  |nil=>intro r hr;simp at hr
  |cons y xs ih=>
   intro r hr
   match r with
   |0=>rfl
   |1=>rfl
   |r+2=>
    have e1:(r+2)/2=r/2+1:=by simp
    have e2:(r+2)%2=r%2:=by simp
    rw[dY,e1,e2];show(xs.flatMap fun y=>[aD.dy d y,aD.dC d t y])[r]?=_;rw[ih r (by simp at hr;lia)];rfl
 unfold aD.fM;rw[gen d.x r hr];have hx:r/2<d.x.length:=by lia
 rw[bq hx];show some (if r%2=0 then aD.dy d d.x[r/2]else aD.dC d t d.x[r/2])=some _;congr 1;by_cases q:r%2=0
 ·rw[ag q];unfold aD.dy Dia.row;refine ef fun c _=>?_;rw[bq hx];simp only[ag q]
 ·rw[af q];unfold aD.dC Dia.row;refine ef fun c _=>?_;rw[bq hx];simp only[af q]
theorem zA(d:Dia)(t:Int):(aD.fM d t).length=d.arcs:=jK (n:=2) (fun _=>rfl) d.x
def kU(d:Dia)(t:Int):List (List Int):=(range (d.arcs-1)).map fun(r:Nat)=>(range (d.arcs-1)).map fun(c:Nat)=>d.row t r c
theorem NT(d:Dia)(t:Int):((aD.fM d t).dropLast.map List.dropLast)=kU d t:=by
 unfold kU;apply j8;intro r;rw[cz,cz,List.getElem?_dropLast,zA];by_cases h:r<d.arcs-1
 ·rw[ag h,oy h,OX d t r (by unfold Dia.arcs at h;omega)];show some (List.dropLast _)=some _;congr 1;rw[←List.map_dropLast];congr 1;rw[YB,gR,List.take_range,BN (by simp)]
 ·rw[af h,lB (by simpa using h)];rfl
theorem l_(a c:Nat):at_ a c=0∨at_ a c=1:=by unfold at_;split<;>simp
theorem QN(d:Dia)(r c:Nat):(d.row 4294967296 r c).natAbs≤2^33:=by
 unfold Dia.row;split
 ·rename_i y _;have h1:=l_ y.oi c;have h2:=l_ y.oo c;have h3:=l_ y.ui c;have h4:=l_ y.uo c;split
  ·omega
  ·split<;>rcases h1 with h1|h1<;>rcases h3 with h3|h3<;>rcases h4 with h4|h4<;>rw[h1,h3,h4]<;>decide
 ·decide
theorem GW(h:∀i,f i≤b):∀n:Nat,((range n).map f).sum≤n*b
 |0=>by simp
 |n+1=>by rw[jF,eJ,Kr,Nat.succ_mul];have:=GW h n;grind
theorem TM(h0:0<d.x.length)(h8:d.x.length≤8):Sq (kU d 4294967296):=by
 have hl:(kU d 4294967296).length=d.arcs-1:=by simp[kU]
 have ha:d.arcs=2*d.x.length:=rfl;refine⟨by lia,by lia,fun r hr=>?_,fun r hr=>?_⟩
 ·obtain⟨i,_,rfl⟩:=aH.mp hr;simp[*]
 ·obtain⟨i,_,rfl⟩:=aH.mp hr;rw[b7];refine cx (GW (fun c=>QN d i c) (d.arcs-1)) ?_
  lia
theorem La(d:Dia):∀r∈aD.fM d (-1),r.length=d.arcs∧mz r:=by
 intro r hr;obtain⟨y,_,hr⟩:=bR.mp hr;simp only[a_,cA,cV]at hr;rcases hr with rfl|rfl
 ·refine⟨by simp[aD.dy],fun x hx=>?_⟩;obtain⟨c,_,rfl⟩:=aH.mp hx;have h1:=l_ y.oi c;have h2:=l_ y.oo c
  lia
 ·refine⟨by simp[aD.dC],fun x hx=>?_⟩;obtain⟨c,_,rfl⟩:=aH.mp hx;have h1:=l_ y.oi c;have h3:=l_ y.ui c;have h4:=l_ y.uo c;split<;>rcases h1 with h1|h1<;>rcases h3 with h3|h3<;>rcases h4 with h4|h4<;>rw[h1,h3,h4]<;>decide
theorem Ii(i q:Nat):∀m:List (List Int),(m.filter fun r=>decide (r.getD i 0%(q:Int)=0)).length+(m.filter fun r=>decide (r.getD i 0%(q:Int)≠0)).length=m.length
 |[]=>rfl
 |r::m=>by have ih:=Ii i q m;grind
section
variable{K:Fg}(T:Txt K mg CC CD)
include T
theorem R_:Def P w K mg base 2 "rank_by" ["rows","width","prime"] (Fn (aO (ah ay) (aO aa (aO aa bu))) aa (fun c=>c.1.length≤16∧c.2.1≤16∧2≤c.2.2.1∧c.2.2.1≤100∧(∀r∈c.1,r.length=c.2.1)∧∀r∈c.1,mz r) fun c=>aD.gu c.2.2.1 c.2.1 0 c.1):=by
 refine T.hs.Ue.mk wX (fun nd H1 vs Q E hr h=>?_);refine KH h fun H rows n q v0 v1 v2 s1 h0 h1 h2 hh k=>?_;obtain⟨z0,z1,z2,z3,z4,z5⟩:=hh;have h0:(ah ay).rel H v0 rows:=h0;have h1:aa.rel H v1 n:=h1;have h2:∀G,aa.rel G v2 q:=fun _=>h2;have z0:rows.length≤16:=z0;have z1:n≤16:=z1;have z2:2≤q:=z2;have z3:q≤100:=z3;have z4:∀r∈rows,r.length=n:=z4;have z5:∀r∈rows,mz r:=z5;refine br (i:=3) nd ax s1 fun v3 G3 H3 f3 r3=>?_;cases r3;have h0:=(ah ay).mono f3.hg h0;refine br (i:=4) (H:=G3) nd (xv 0 h0) f3.g2 fun v4 G4 H4 f4 r4=>?_;have f34:=f3.trans f4;refine kL (H:=G4) jE rfl (bT (k:=5) nd) (oF (k:=5) T.range (XE.int (xv 1 (show aa.rel G4 v1 n from h1))) (by simp) (by lia)) f34.g2
  (fun Gx i σ' H'=>∃G' vl m rk o5 o6,aj Gx G'∧au H H1 G' H'∧(ah ay).rel G' vl m∧m.length≤16∧(∀r∈m,r.length=n)∧(∀r∈m,mz r)∧aD.gu q n 0 rows=rk+aD.gu q (n-i) i m∧σ'=[some v0,some v1,some v2,some (.int ((rk:Nat):Int)),some vl,o5,o6,none]) ?_ ?_ ?_ ?_
 ·intro Gx H5 f5;exact⟨Gx,v4,rows,0,none,none,aj.refl _,f34.trans f5,(ah ay).mono f5.hg r4,z0,z4,z5,by simp,rfl⟩
 ·rintro Gx i σ' H' ⟨G',vl,m,rk,o5,o6,sx,fx,_⟩;exact sx.trans fx.g2
 ·rintro Gx i c σ' H' hc ⟨G',vl,m,rk,o5,o6,sx,fx,rl,m1,m2,m3,hrk,rfl⟩ σ'' G5 H5 f5 ⟨vc,rc,rfl⟩;obtain⟨hi,rfl⟩:=xB hc;rw[cF]at hi;obtain⟨G6,s6,f6⟩:=au.wide sx fx.g2 f5;have rc:∀G,aa.rel G vc i:=fun _=>by show vc=V.int (i:Int);rw[show vc=V.int ((0:Int)+(i:Nat))from rc,mW]
  have rl:=(ah ay).mono f6.hg rl;have fx6:=fx.trans f6;have g:∀r∈m,r[i]?=some (r.getD i 0):=fun r hr=>nL (by rw[m2 r hr];exact hi);have qp:(0:Int)<(q:Int):=by lia
  refine br (i:=6) nd (XN.xe (sV (own:=[("row",7)]) (S:=ay) (fun r:List Int=>r) (fun r=>!decide (r.getD i 0%(q:Int)=0)) rfl nd (du (k:=7) (xv 4 rl)) (cK (by show cu wX (bE wY) _ _=true;decide+kernel)) (fun _ _ _ _ _=>bT (k:=7) nd) (dS (by decide)) (by lia) ?_ ?_)) fx6.g2 ?_
  ·rintro r G7 _ hm sg ⟨vr,rr,rfl⟩;exact l9 fun s0 H0 C cl' fp=>kR (kI qp (aW (xv 7 rr) (XE.int (xv 5 (rc G7))) (bt (g r hm))) (XE.int (xv 2 (h2 G7)))) ax
  ·rintro r G7 _ hm hcc sg ⟨vr,rr,rfl⟩ s0 H0 C cl' fp;exact xv 7 rr
  intro v7 G7 H7 f7 r7;rw[yc]at r7;have rl:=(ah ay).mono f7.hg rl;have f67:=fx6.trans f7;refine vU (i:=4) (own:=[("row",7)]) (S:=ay) (fun r:List Int=>r) (fun r=>decide (r.getD i 0%(q:Int)=0)) rfl nd (du (k:=7) (xv 4 rl)) f67.g2 (cK (by show cu wX (bE wY) _ _=true;decide+kernel)) (fun _ _ _ _ _=>bT (k:=7) nd) (dS (by decide)) (by lia) ?_ ?_ ?_
  ·rintro r G8 _ hm sg ⟨vr,rr,rfl⟩;exact l9 fun s0 H0 C cl' fp=>dB (kI qp (aW (xv 7 rr) (XE.int (xv 5 (rc G8))) (bt (g r hm))) (XE.int (xv 2 (h2 G8)))) ax
  ·rintro r G8 _ hm hcc sg ⟨vr,rr,rfl⟩ s0 H0 C cl' fp;exact xv 7 rr
  intro l8 us8 G8 H8 f8 n8 mN h8 pr8;rw[yc]at pr8;have r7:=(ah ay).mono f8.hg r7;have f68:=f67.trans f8;have o8:cM H1 G8 H8 l8 ay (m.filter fun r=>decide (r.getD i 0%(q:Int)=0)):=⟨f67.bX n8,mN,us8,h8,pr8⟩;have xJ:aj Gx G8:=sx.trans (f6.hg.trans (f7.hg.trans f8.hg));have elead:(m.filter fun r=>!decide (r.getD i 0%(q:Int)=0))=m.filter fun r=>decide (r.getD i 0%(q:Int)≠0):=by refine List.filter_congr fun r _=>by simp
  rw[elead]at r7;have hsub:∀p:List Int→Bool,(m.filter p).length≤m.length:=fun p=>rM _ _;have mJ:aD.gu q (n-i) i m=match m.filter fun r=>decide (r.getD i 0%(q:Int)≠0)with
    |[]=>aD.gu q (n-(i+1)) (i+1) (m.filter fun r=>decide (r.getD i 0%(q:Int)=0))
    |a::ls=>1+aD.gu q (n-(i+1)) (i+1) (m.filter (fun r=>decide (r.getD i 0%(q:Int)=0))++ls.map (aD.iw q a i)):=by
   obtain⟨t,ht⟩:∃t,n-i=t+1:=⟨n-i-1,by grind⟩;rw[ht,show n-(i+1)=t by grind];rfl
  refine eV (je (cN T.len (xv 6 r7)) ax) f68.g2 (fun hq G9 H9 f9=>?_) fun hq G9 H9 f9=>?_
  ·cases hL:m.filter fun r=>decide (r.getD i 0%(q:Int)≠0)with
   |nil=>rw[hL]at hq;simp at hq
   |cons a ls=>
    rw[hL]at mJ r7;have o9:=o8.fwd f9;have r7:=(ah ay).mono f9.hg r7;refine xt (i:=3) (H:=G9) oS nd rfl ax (f68.trans f9).g2 fun e_ iQ bP=>?_;have o10:=o9.fwd bP;have r7:=(ah ay).mono bP.hg r7;have f610:=(f68.trans f9).trans bP;have ham:∀r∈a::ls,r∈m:=fun r hr=>by rw[←hL]at hr;exact(dz.mp hr).1
    have nZ:(a::ls).length≤16:=by rw[←hL];exact cx (hsub _) m1
    have hla:(m.filter fun r=>decide (r.getD i 0%(q:Int)=0)).length+ls.length≤16:=by
     have e1:(m.filter fun r=>decide (r.getD i 0%(q:Int)=0)).length+(a::ls).length=m.length:=by rw[←hL];exact Ii i q m
     simp only[bZ]at e1
     lia
    have qS:∀r∈(m.filter fun r=>decide (r.getD i 0%(q:Int)=0))++ls.map (aD.iw q a i),r.length=n∧mz r:=by
     intro r hr;rcases cE.mp hr with h|h
     ·have:=(dz.mp h).1;exact⟨m2 r this,m3 r this⟩
     ·obtain⟨r',d8,rfl⟩:=aH.mp h;have e1:=m2 r' (ham r' (by simp[d8]));have e2:=m2 a (ham a (by simp));refine⟨by unfold aD.iw;rw[bj,rL];grind,fun x hx=>?_⟩;obtain⟨c,_,rfl⟩:=aH.mp hx;have:=rR (c.1*a.getD i 0-r'.getD i 0*c.2) (show(q:Int)≠0 by lia);have:=ye (c.1*a.getD i 0-r'.getD i 0*c.2) qp
      lia
    refine nD (i:=4) (R:=ay) (xs:=ls.map (aD.iw q a i)) rfl f610 o10 (XN.xe (gh (own:=[("row",7)]) (S:=ay) (aD.iw q a i) rfl nd (du (k:=7) (XE.cast (r':=ls) (XN.xe (kl (xv 6 r7) (iL ax) lQ)) (qg (xs:=a::ls) (i:=1) (by simp)))) (cK (by show cu wX (bE wY) _ _=true;decide+kernel)) (fun _ _ _ _ _=>bT (k:=7) nd) (dS (by decide)) (by simp at nZ;lia) ?_)) (by rw[bj];lia) fun fX oa s11 eD o11=>?_
    ·rintro r fX _ hm sg ⟨vr,rr,rfl⟩ s0 H0 C cl' fp;have hrm':=ham r (by simp[hm]);have ham':=ham a (by simp);exact XE.cast (aK (Pn T) hr (c:=(r,a,i,(q:Int),())) ⟨m3 r hrm',m3 a ham',by show i<r.length;rw[m2 r hrm'];exact hi,by show i<a.length;rw[m2 a ham'];exact hi,qp,by show r.length≤100;rw[m2 r hrm'];lia⟩ (aF (xv 7 rr) (aF (aW (xv 6 ((ah ay).mono sg r7)) ax (bt (j:=0) rfl)) (aF (xv 5 (rc fX)) (az (XE.int (xv 2 (h2 fX)))))))) rfl
    ·obtain⟨G12,s12,lx,r12⟩:=o11.known eD;refine bp (bp ⟨G12, .ref l8,_,rk+1,_,_,xJ.trans (f9.hg.trans (bP.hg.trans (s11.trans s12))),lx,r12,?_,fun r hr=>(qS r hr).1,fun r hr=>(qS r hr).2,?_,rfl⟩)
     ·rw[cZ,bj];exact hla
     ·rw[hrk,mJ];simp only[]
      lia
  ·have hnil:(m.filter fun r=>decide (r.getD i 0%(q:Int)≠0))=[]:=by
    have:=dH hq;apply uL.mp
    lia
   rw[hnil]at mJ;obtain⟨e_,s10,bP,mH⟩:=(o8.fwd f9).known (f68.trans f9);refine bp (bp ⟨e_, .ref l8,_,rk,_,_,xJ.trans (f9.hg.trans s10),bP,mH,cx (hsub _) m1,fun r hr=>m2 r (dz.mp hr).1,fun r hr=>m3 r (dz.mp hr).1,?_,rfl⟩);rw[hrk,mJ]
 ·rintro Gx σ' H' ⟨G',vl,m,rk,o5,o6,sx,fx,rl,m1,m2,m3,hrk,rfl⟩;rw[kz,cF,BR]at hrk;refine a7 (xv 3 (show aa.rel G' (.int ((rk:Nat):Int)) rk from rfl)) fx.g2 fun y G5 H5 f5 r5=>k y G5 H5 (fx.trans f5) ?_;show aa.rel G5 y (aD.gu q n 0 rows);rw[hrk];exact r5
theorem X2:Def P w K mg base 3 "alexander" ["drawing"] (Fn (fu CC CD) ay (fun c=>ek c.1∧cH c.1) fun c=>c.1.alexander):=by
 refine T.hs.alexander.mk DA (fun nd H1 vs Q E hr h=>?_);refine DX h fun H d v0 s1 h0 hh k=>?_;obtain⟨hs,hA⟩:=hh;have hs:d.x.length≤8:=hs;have hA:cH d:=hA;have h0:(aA CC CD).rel H v0 d:=h0;obtain⟨tA,mA⟩:=T.Cm;have ae:=aD.Wy d hs 16 (aY _);refine eV (dB (cN T.len (bK T (xv 0 h0))) ax) s1 (fun q G2 H2 f2=>?_) fun q G2 H2 f2=>?_
 ·have hn:d.n=0:=by have:=gB q;show d.x.length=0;lia
  have h0:=(aA CC CD).mono f2.hg h0;rw[ag hn]at ae;refine a7 (jh (dB (XE.int (eY T (xv 0 h0))) ax) (fun q=>?_) fun q=>?_) f2.g2 fun y G3 H3 f3 r3=>k y G3 H3 (f2.trans f3) r3
  ·have:d.c=1:=by have:=gB q;lia
   show XE _ _ _ _ _ d.alexander;rw[ae,ag this];exact XN.xe (a5 (aV ax aZ))
  ·have:¬d.c=1:=by have:=dH q;lia
   show XE _ _ _ _ _ d.alexander;rw[ae,af this];exact XN.xe (a5 aZ)
 ·have hn:¬d.n=0:=by have:=dH q;show¬d.x.length=0;lia
  refine bp ?_;have h0:=(aA CC CD).mono f2.hg h0;rw[af hn]at ae;have hn0:0<d.x.length:=by have:¬d.x.length=0:=hn;lia
  refine eV (je (XE.int (eY T (xv 0 h0))) ax) f2.g2 (fun q G3 H3 f3=>?_) fun q G3 H3 f3=>?_
  ·have hc:0<d.c:=by have:=gB q;omega
   rw[ag hc]at ae;refine a7 (XE.cast (XN.xe (a5 aZ)) ae.symm) (f2.trans f3).g2 fun y G4 H4 f4 r4=>k y G4 H4 ((f2.trans f3).trans f4) r4
  ·have hc:¬0<d.c:=by have:=dH q;lia
   rw[af hc]at ae;refine bp ?_;have h0:=(aA CC CD).mono f3.hg h0;have d9:=f2.trans f3;refine br (i:=1) (H:=G3) nd (aK (D9 T) hr (c:=(d,4294967296,())) ⟨hs,hA⟩ (aF (xv 0 h0) (az (bN mA)))) d9.g2 fun v1 G4 H4 f4 r4=>?_;have r4:(ah ay).rel G4 v1 (aD.fM d 4294967296):=r4;have f24:=d9.trans f4;have hsq:=TM hn0 hs;have hml:(kU d 4294967296).length=d.arcs-1:=by simp[kU]
   have hra:(aD.fM d 4294967296).length≤16:=by rw[zA];unfold Dia.arcs;lia
   refine br (i:=2) (H:=G4) nd (XE.cast (r':=d.minor 4294967296) (aK (QO T) hr (c:=(kU d 4294967296,())) hsq (az (XE.cast (XN.xe (gh (own:=[("row",3)]) (S:=ay) List.dropLast rfl nd (du (k:=3) (XE.cast (XN.xe (kl (xv 1 r4) lQ (iL (fF ax)))) (Hh _))) (cK (by show cu DA (bE Gp) _ _=true;decide+kernel)) (fun _ _ _ _ _=>bT (k:=3) nd) (dS (by decide)) (by rw[List.length_dropLast];omega) ?_)) (NT d _)))) ?_) f24.g2 fun v2 G5 H5 f5 r5=>?_
   ·rintro r G5 _ hm sg ⟨vr,rr,rfl⟩ s0 H0 C cl fp;exact XE.cast (XN.xe (kl (xv 3 rr) lQ (iL (fF ax)))) (Hh _)
   ·show detBy (kU d 4294967296).length 1 (kU d 4294967296)=d.minor 4294967296;rw[hml];rfl
   cases r5;have f25:=f24.trans f5;have rz:aq.rel G5 (.int (d.minor 4294967296)) (d.minor 4294967296):=rfl;refine a7 (jh (kR (xv 2 rz) ax) (fun q=>?_) fun q=>?_) f25.g2 fun y G6 H6 f6 r6=>k y G6 H6 (f25.trans f6) r6
   ·have hz:d.minor 4294967296≠0:=by simpa using q
    rw[ag hz]at ae;have hd:kj 16 (d.minor 4294967296):=by rw[aD.A2 d _ hn0 hs];exact CH (M:=4^15) (by decide) 16 _ (aD.C2 d hs)
    have hdl:∀(f:Nat)(z:Int),(aD.dE BB f z).length≤f:=by
     intro f;induction f with
     |zero=>intro z;simp[aD.dE]
     |succ f ih=>
      intro z;unfold aD.dE;split
      ·simp
      ·simp only[bZ];exact Nat.succ_le_succ (ih _)
    have hex:∃x∈aD.dE BB 16 (d.minor 4294967296),x≠0:=by
     have cY:∀(f:Nat)(z:Int),kj f z→(∀x∈aD.dE BB f z,x=0)→z=0:=by
      intro f;induction f with
      |zero=>intro z h _;exact h
      |succ f ih=>
       intro z h hx;rcases h with h|h
       ·exact h
       ·apply pY;intro hz;have e:aD.dE BB (f+1) z= eK z::aD.dE BB f ((z-eK z)/BB):=by show(if z=0 then []else _)=_;rw[af hz];rfl
        rw[e]at hx;have h1:=hx (eK z) (by simp);have h2:=ih _ h fun x jU=>hx x (bW _ jU);rw[h1,Int.sub_zero]at h2;unfold eK at h1;have:z%BB=0:=by have:=rR z (show BB≠0 by decide);have:=ye z (show 0<BB by decide);have hB:BB=4294967296:=rfl;split at h1<;>lia
        have e1:z%4294967296=0:=this;have e2:z/4294967296=0:=h2
        lia
     apply pY;intro da;exact hz (cY 16 _ hd fun x hx=>pY fun hx0=>da ⟨x,hx,hx0⟩)
    refine XE.cast (aK (N3 T) hr (c:=(aD.dE BB 16 (d.minor 4294967296),())) ⟨cx (hdl 16 _) (by decide),hex⟩ (az (XE.cast (aK (NW T) hr (c:=(d.minor 4294967296,())) hd (az (xv 2 rz))) rfl))) ?_;exact ae.symm
   ·have hz:¬d.minor 4294967296≠0:=by simpa using q
    rw[af hz]at ae;exact XE.cast (XN.xe (a5 aZ)) ae.symm
theorem Uo:Def P w K mg base 3 "count_free_colours" ["drawing","prime"] (Fn (aO (aA CC CD) (aO aa bu)) aa (fun c=>ek c.1∧cH c.1∧c.2.1<101∧Kb.isPrime c.2.1=true) fun c=>c.1.colours c.2.1):=by
 refine T.hs.VN.mk ["drawing","prime","rows"] (fun nd H1 vs Q E hr h=>?_);refine JS h fun H d q v0 v1 s1 h0 h1 hh k=>?_;obtain⟨hs,hA,hq,hqp⟩:=hh;have hs:d.x.length≤8:=hs;have hA:cH d:=hA;have hq:q<101:=hq;have hqp:Kb.isPrime q=true:=hqp;have h0:(aA CC CD).rel H v0 d:=h0;have h1:∀G,aa.rel G v1 q:=fun _=>h1;refine br (i:=2) nd (aK (D9 T) hr (c:=(d,-1,())) ⟨hs,hA⟩ (aF (xv 0 h0) (az (fF ax)))) s1 fun v2 G2 H2 f2 r2=>?_;have r2:(ah ay).rel G2 v2 (aD.fM d (-1)):=r2;have h0:=(aA CC CD).mono f2.hg h0;have hq2:2≤q:=by unfold Kb.isPrime at hqp;simp at hqp;exact hqp.1
 have ha:d.arcs≤16:=by unfold Dia.arcs;lia
 have hsm:=La d;refine a7 (XE.nat (n:=d.colours q) (cj (jP (XE.int (XE.cast (r':=d.arcs) (aK (gi T) hr (c:=(d,())) trivial (az (xv 0 h0))) rfl)) (XE.int (aK (R_ T) hr (c:=(aD.fM d (-1),d.arcs,q,())) ⟨by show(aD.fM d (-1)).length≤16;rw[zA];exact ha,ha,hq2,by show q≤100;lia,fun r hr=>(hsm r hr).1,fun r hr=>(hsm r hr).2⟩ (aF (xv 2 r2) (aF (XE.cast (aK (gi T) hr (c:=(d,())) trivial (az (xv 0 h0))) rfl) (az (xv 1 (h1 G2)))))))) (XE.int (eY T (xv 0 h0)))) ?_) f2.g2 fun y G3 H3 f3 r3=>k y G3 H3 (f2.trans f3) r3;show(d.arcs:Int)-(aD.gu q d.arcs 0 (aD.fM d (-1)):Nat)+(d.c:Nat)=(d.colours q:Nat);unfold Dia.colours;rw[aD.Ug d hq hqp];have:=Ah q d.arcs 0 (aD.fM d (-1));grind
end
section
variable{prog:Program}{w:World}{A:Around}{E:YY}{s:Shared}
theorem NM(d:Addr)(nd:(d==sysModules)=false):MeetsIn prog w (Builtin.«dict.items» ⟨[.ref d],[]⟩) (fun _ R s=>s.TypeIs (.ref d) "dict"∧R (.ok (.ret (.ref s.heap.objs.size))) {s with heap:=s.heap.push {cls:= .type "dict_items",data:= .fields #[.ref d]}}):=
 .of_wp fun A R s⟨ty,fin⟩=>by refine ak (ak (wpAny_notOrdered_dict ty ?_));refine aI ?_;unfold Builtin.Dict.showsAll;rw[af (by simp[nd])];exact ak (aI (ak (j7 (aI ⟨_,rfl,fin⟩))))
theorem Xv(hv:s.heap.IsItemsView v d)(ho:s.heap.get? d=some o)(hd:o.data= .dict es ep)(fin:Q (.ref s.heap.objs.size) {s with heap:=s.heap.push {cls:= .type "dict_itemiterator",data:= .fields #[.none, .bool false, .ref d, .int 0 0, .int es.size 0, .int ep 0, .none, .none]}}):wpAny (model prog w) A (pyIter (.ref v)) Q E s:=by
 have tv:=hv.typeIs;obtain⟨vo,g1,g2,g3⟩:=hv;refine J4 tv F.slot_dict_items_iter (lE F.slot_dict_items_iter tv F.entry_dict_items_iter ?_ (F.args_dict_items_iter_1 _));refine ak (aI (ak (ak (BW g1 g3 rfl (aI ?_)))));refine ak (ak (KA ho hd (ak (KC ho hd ?_))));have q:Builtin.Dict_items.ownsTuple "dict_itemiterator"=true:=by decide
 simp only[q,dR];refine j7 (aI ⟨_,rfl,"dict_itemiterator",_,⟨_,cy _ rfl,rfl⟩,yi.lookup,?_⟩)
  (by simp only[sizeOk,Builtin.Dict_items.ownedTupleFields,c7,cZ,bZ,iW,qZ];lia)
 simpa[rawInt,Builtin.Dict_items.ownedTupleFields]using fin
theorem X8(hit:IsItemIter s.heap it d i n ep ok ov)(jS:s.heap.get? d=some od)(jA:od.data= .dict es ep)(hsz:es.size=n)(hx:es[i]?=some en)(fin:∀h',IsItemIterOut h' it d (i+1) n ep en.key en.val s.heap.objs.size→h'.get? s.heap.objs.size=some {cls:= .type "tuple",data:= .seq #[en.key,en.val]}→(∀b o,b≠it→s.heap.get? b=some o→h'.get? b=some o)→Q (some (.ref s.heap.objs.size)) {s with heap:=h'}):
  wpAny (model prog w) A (pyNext (.ref it)) Q E s:=by
 obtain⟨hp,g,dr,tk,os⟩:=s;obtain⟨hi,ei⟩:=Yw.mp hx;have ty:Shared.TypeIs ⟨hp,g,dr,tk,os⟩ (.ref it) "dict_itemiterator":=⟨_,hit,rfl⟩;have own:Builtin.Dict_items.ownsTuple "dict_itemiterator"=true:=by decide
 unfold pyNext;refine ak (uI (uJ ty yi (lE yi ty YC ?_ (YD _))));refine ak (aI (ak (ak ?_)))
 first|refine ak (BX ty (aI ?_))|refine ak (BY ty (aI ?_))
 refine ak (uK hit rfl ?_);simp only[own,dR];show wpAny _ _ (if(Value.ref d==Value.none)=true then _ else _) _ _ _;rw[af (show¬((Value.ref d==Value.none)=true)from dG)];refine ak (aI (ak (KA jS jA ?_)));rw[af (by simp[hsz])];refine ak (aI (ak (KC jS jA ?_)));rw[af (by simp)];refine aI ?_;simp only[show¬((i:Int)<0)from by simp,c8,cF,BD hi];refine ak ?_
 first|refine ak (BX ty (aI ?_))|refine ak (BY ty (aI ?_))
 refine ak (KD ty ?_);show wpAny _ _ (setField (.ref it) 3 (rawInt (i+1))>>=_) _ _ ⟨hp,g,dr,tk,os⟩;refine ak (wpAny_setField_rec hit (by simp) fun k1 e1 b1=>?_);replace b1:Heap.SameBut it hp k1:=b1;replace e1:IsItemIter k1 it d (i+1) n ep ok ov:=by unfold IsItemIter;rw[show((i+1:Nat):Int)=(i:Int)+1 by rfl];simpa[rawInt]using e1
 have ty1:Shared.TypeIs ⟨k1,g,dr,tk,os⟩ (.ref it) "dict_itemiterator":=⟨_,e1,rfl⟩;refine ak (lz (ak (KD ty1 (ak (KD ty1 ?_)))));show wpAny _ _ (Builtin.Dict_items.pairFromOwner (.ref it) 6 es[i].key es[i].val) _ _ ⟨k1,g,dr,tk,os⟩;rw[ei];unfold Builtin.Dict_items.pairFromOwner;refine ak (J7 ?_);have z1:k1.objs.size=hp.objs.size:=b1.1;have lt:it<hp.objs.size:=bF hit;obtain⟨k2,ek2⟩:∃k2,k2=k1.push {cls:= .type "tuple",data:= .seq #[en.key,en.val]}:=⟨_,rfl⟩;have e2:IsItemIter k2 it d (i+1) n ep ok ov:=by rw[ek2];exact bJ _ e1
 have t2:k2.get? hp.objs.size=some {cls:= .type "tuple",data:= .seq #[en.key,en.val]}:=by rw[ek2,←z1];exact cy _ rfl
 have p2:∀b o,b≠it→hp.get? b=some o→k2.get? b=some o:=fun b o hb e=>by rw[ek2];exact bJ _ (b1.extBut b o hb e)
 show wpAny _ _ (Builtin.Dict_items.ownedTupleIsFree (.ref it)>>=_) _ _ ⟨k1.push {cls:= .type "tuple",data:= .seq #[en.key,en.val]},g,dr,tk,os⟩;rw[z1,←ek2];unfold Builtin.Dict_items.ownedTupleIsFree;refine ak (ak (BW e2 rfl rfl (aI ?_)));simp;refine ak (BW e2 rfl rfl (ak (BW e2 rfl rfl ?_)));refine ak (wpAny_setField_rec e2 (by simp) fun k3 e3 b3=>?_);replace b3:Heap.SameBut it k2 k3:=b3;replace e3:IsItemIter k3 it d (i+1) n ep en.key ov:=e3;refine ak (wpAny_setField_rec e3 (by simp) fun k4 e4 b4=>?_);replace b4:Heap.SameBut it k3 k4:=b4;replace e4:IsItemIter k4 it d (i+1) n ep en.key en.val:=e4;refine ak (wpAny_setField_rec e4 (by simp) fun k5 e5 b5=>?_);replace b5:Heap.SameBut it k4 k5:=b5;replace e5:IsItemIterOut k5 it d (i+1) n ep en.key en.val hp.objs.size:=e5;refine ak (wpAny_setField_rec e5 (by simp) fun k6 e6 b6=>?_);replace b6:Heap.SameBut it k5 k6:=b6;replace e6:IsItemIterOut k6 it d (i+1) n ep en.key en.val hp.objs.size:=e6;have up:∀b o,b≠it→k2.get? b=some o→k6.get? b=some o:=fun b o hb e=>b6.extBut b o hb (b5.extBut b o hb (b4.extBut b o hb (b3.extBut b o hb e)));exact ak (wpAny_letGo (aI (aI ⟨_,rfl,aI (fin k6 e6 (up _ _ (og lt) t2) fun b o hb e=>up b o hb (p2 b o hb e))⟩)))
theorem Xw(hh:A.handled=none)(hit:IsItemIter s.heap it d i n ep ok ov)(jS:s.heap.get? d=some od)(jA:od.data= .dict es ep)(hsz:es.size=n)(hge:n≤i)(fin:∀h',Heap.ExtBut it s.heap h'→Q none {s with heap:=h'}):wpAny (model prog w) A (pyNext (.ref it)) Q E s:=by
 have ty:s.TypeIs (.ref it) "dict_itemiterator":=⟨_,hit,rfl⟩;have own:Builtin.Dict_items.ownsTuple "dict_itemiterator"=true:=by decide
 unfold pyNext;refine ak (uI (uJ ty yi (lE yi ty YC ?_ (YD _))));refine ak (aI (ak (ak ?_)))
 first|refine ak (BX ty (aI ?_))|refine ak (BY ty (aI ?_))
 refine ak (uK hit rfl ?_);simp only[own,dR];show wpAny _ _ (if(Value.ref d==Value.none)=true then _ else _) _ _ s;rw[af (show¬((Value.ref d==Value.none)=true)from dG)];refine ak (aI (ak (KA jS jA ?_)));rw[af (by simp[hsz])];refine ak (aI (ak (KC jS jA ?_)));rw[af (by simp)];refine aI ?_;have ge:es.size≤i:=by simp[*]
 simp only[show¬((i:Int)<0)from by omega,c8,cF,Array.getElem?_eq_none ge];refine ak ?_
 first|refine ak (BX ty (aI ?_))|refine ak (BY ty (aI ?_))
 show wpAny _ _ (setField (.ref it) 2 .none>>=_) _ _ s;refine ak (wpAny_setField hit rfl (by simp) ?_);show wpAny _ _ (newExc (.type "StopIteration") []>>=_) _ _ _;refine ak ?_;simp only[newExc,newTuple];refine ak (j7 ?_ (by size_fits));refine ak (m:=firstArgMember _ _) (BA (by first|rfl|(simp only[firstArgMember];rfl)) ?_);refine j7 ?_ (by size_fits);simp only[raiseNew];refine ak (wpAny_handled ?_);rw[show A.in1.handled=none from hh];refine ak (aI (wpAny_throw ?_));refine ak (BC (b:=true) ⟨_,cy _ rfl,rfl⟩ J3 ?_);exact aI (fin _ (((By ..).extBut.push _).push _))
end
theorem zP(I:Inv X pins σ H s)(h:H d=some (.aX o (.dT ab))):
  (d==sysModules)=false∧s.heap.get? d=some o∧o.ExactDict∧∃(es:Array DictEntry)(ep:Nat),o.data= .dict es ep∧es.size=ab.length∧
   ∀(i:Nat)(k:List Key)(v:V),ab[i]?=some (k,v)→∃(en:DictEntry)(q:Addr),es[i]?=some en∧en.key= .ref q∧H q=some (.tup (k.map kV))∧RelV v en.val:=by
 obtain⟨hd,z,hs,xs,pr,o',es,ep,ho,hx,d7,he,_⟩:=I.aG d _ h;rw[hd]at ho;cases ho;have l1:es.size=xs.length:=size_of_entries he;have l2:ab.length=xs.length:=qV pr;refine⟨hs,hd,hx,es,ep,d7,by simp[*],fun i k v e=>?_⟩;obtain⟨b,hb,c1,c2,c3⟩:=Nl pr e;have q:=entry_at he i;rw[hb]at q;exact⟨_,b.2.1,q,rfl,c2,c3⟩
def zr(d:Addr)(o:Obj)(ab:List (List Key×V)):It:=
 ⟨fun i H=>H d=some (.aX o (.dT ab))∧i<ab.length,fun i H x H'=>∃T k v q,ab[i]?=some (k,v)∧x= .ref T∧H T=none∧H q=some (.tup (k.map kV))∧H'=upd H T (.tup [.ref q,v]),fun i H=>H d=some (.aX o (.dT ab))∧ab.length≤i⟩
theorem Vh{P:Program}{w:World}{K:YX}{d:Addr}{o:Obj}{es:Array DictEntry}{ep:Nat}{ab:List (List Key×V)}{elts:List Expr}{kk:Nat}{cg:Pos}(it:Addr)(jS:o.data= .dict es ep):
  Turn P w K (.Tuple elts kk cg) (zr d o ab) [it] it (fun i h=>∃ok ov,IsItemIter h it d i ab.length ep ok ov)where
 mem:=by simp
 obj:=fun i h st b hb=>by grind
 keep:=fun i h h' st k=>let⟨ok,ov,e⟩:=st;⟨ok,ov,k it (by simp) _ e⟩
 item:=by
  intro X hP hw hK hc i pins s σ H E I hf st hg;obtain⟨hd,hi⟩:=hg;obtain⟨hs,iR,hx,di,d6,d7,hsz,ent⟩:=zP I hd;obtain⟨rfl,rfl⟩:=vw jS d7;obtain⟨⟨k,v⟩,fW⟩:∃p,ab[i]?=some p:=⟨ab[i],bq hi⟩;obtain⟨en,q,hen,nT,hq,rv⟩:=ent i k v fW;obtain⟨ok,ov,he⟩:=st;have bw:it<s.heap.objs.size:=bF he;refine X8 he iR d7 hsz hen fun h' ho hT hk=>?_;refine⟨_,rfl,Yr ho fun gz mG sb=>?_⟩;have ik:gz.get? s.heap.objs.size=some {cls:= .type "tuple",data:= .seq #[en.key,en.val]}:=(sb.2 _ (og bw)).trans hT;have new:cw X.prog X.w (upd H s.heap.objs.size (.tup [.ref q,v])) gz s.heap.objs.size (.tup [.ref q,v]):=
   ⟨by show 2≤sizeLine;decide,[en.key,en.val], .cons nT (.cons rv .nil),⟨_,ik,rfl,_,rfl⟩⟩
  have I1:Inv X pins σ (upd H s.heap.objs.size (.tup [.ref q,v])) {s with heap:=gz}:=
   I.wo (fun b ob hb e=>(sb.2 b (by simpa using hb)).trans (hk b ob (by simpa using hb) e)) hf (aY _) new
  refine⟨.ref s.heap.objs.size,_,I1,rfl,⟨_,k,v,q,fW,rfl,I.aG.fresh (aY _),hq,rfl⟩,⟨en.key,en.val,mG⟩,fun b hb=>?_⟩;have e:b=it:=by simpa using hb
  rw[e,aB (bY bw)];exact(hf it (by simp)).1
 done:=by intro X hP hw hK hc i pins s σ H E I hf st hg;obtain⟨hd,hi⟩:=hg;obtain⟨f0,f1,f2,f3,f4,f5⟩:=hf it (by simp);obtain⟨hs,iR,hx,di,d6,d7,hsz,ent⟩:=zP I hd;obtain⟨rfl,rfl⟩:=vw jS d7;obtain⟨ok,ov,he⟩:=st;exact Xw (I.ok.hd hc) he iR d7 hsz hi fun h' eb=>⟨rfl,I.turned (fun b ob hb e=>eb b ob hb e) f0 f1 f3 f4 f5⟩
 self:=fun A i s Q E st h=>let⟨_,_,e⟩:=st;W.kcp_self e h
def Ow(td:TE):TI:=fun σ H R=>td σ H fun x H1=>∃d,x= .ref d∧((∃ab,H1 d=some (.dK ab)∧∀o,R (vO d o ab) (upd H1 d (.aX o (.dK ab))))∨∃ab,H1 d=some (.dT ab)∧∀o,R (zr d o ab) (upd H1 d (.aX o (.dT ab))))
theorem AN(he:PE X e td)(dW:attributeBase e "items" X.env (eval e X.env)= eval e X.env:=by rfl)(dX:(apos.endLine==eZ.line)=true:=by rfl):
  PI X (.Tuple elts kk cg) (.Call (.Attribute e "items" apos) [] [] eZ) (Ow td):=by
 intro pins s σ H R I h;refine wpAny_Call_method dW rfl dX F.plainAttrs_dict F.slot_dict_items F.type_dict_items (aP (he pins s σ H _ I h) fun u s1 hh=>?_);obtain⟨x,H1,I1,rx,d,ex,q⟩:=hh;subst ex;obtain rfl:u=Value.ref d:=rx;have fin:∀(J:It)(H2:Hp)(o:Obj)(es:Array DictEntry)(ep:Nat)(tn:∀it,Turn X.prog X.w X.K (.Tuple elts kk cg) J [it] it (fun i h=>∃ok ov,IsItemIter h it d i es.size ep ok ov)),Inv X pins σ H2 s1→(d==sysModules)=false→s1.heap.get? d=some o→o.ExactDict→o.data= .dict es ep→R J H2→
   s1.TypeIs (.ref d) "dict"∧(∀b,Value.ref d= .ref b→∃ob,s1.heap.get? b=some ob∧ob.dict=none)∧wpAny (model X.prog X.w) X.A (callWith eZ (.builtin "dict.items") [.ref d] [] []) (fun v s1=>wpAny (model X.prog X.w) X.A (pyIter v) (uf X pins σ (.Tuple elts kk cg) R) X.xe s1) X.xe s1:=by
  intro J H2 o es ep tn I2 hs iR hx d7 q;have ty:s1.TypeIs (.ref d) "dict":=⟨o,iR,hx.1⟩;refine⟨ty,fun b e=>?_,?_⟩
  ·cases e;exact⟨o,iR,hx.2.1⟩
  ·have I3:Inv X pins σ H2 {s1 with heap:=s1.heap.push {cls:= .type "dict_items",data:= .fields #[.ref d]}}:=I2.kept fun b ob q=>bJ _ q;have lastS:wpAny (model X.prog X.w) X.A (pyIter (.ref s1.heap.objs.size)) (uf X pins σ (.Tuple elts kk cg) R) X.xe {s1 with heap:=s1.heap.push {cls:= .type "dict_items",data:= .fields #[.ref d]}}:=by refine Xv ⟨_,cy _ rfl,rfl,rfl⟩ (bJ _ iR) d7 (H_ I3 _ (tn _) ⟨.none, .none,?_⟩ q);exact cy _ rfl
   exact method_meetsIn F.slot_dict_items F.entry_dict_items rfl (PySem.evalArgs_none ⟨rfl,ty,F.args_dict_items_1 _,_,NM d hs,ty,lastS⟩)
 rcases q with⟨ab,hd,q⟩|⟨ab,hd,q⟩
 ·obtain⟨od,I2⟩:=I1.lock hd trivial;obtain⟨hs,iR,hx,es,ep,vs,d7,hsz,kv,hm⟩:=I2.AA aE;exact fin (vO d od ab) _ od es ep (fun it=>hsz▸WG it d7) I2 hs iR hx d7 (q od)
 ·obtain⟨od,I2⟩:=I1.lock hd trivial;obtain⟨hs,iR,hx,es,ep,d7,hsz,ent⟩:=zP I2 aE;exact fin (zr d od ab) _ od es ep (fun it=>hsz▸Vh it d7) I2 hs iR hx d7 (q od)
end Kn
namespace Km
open Kb Kn
def rs(a:Int)(n:Nat)(g:Int→Int):Int:=((range n).map fun i=>g (a+(i:Nat))).sum
theorem wW(l m:List Int):(l++m).sum=l.sum+m.sum:=Kr
theorem oH(a:Int)(n:Nat)(g:Int→Int):rs a (n+1) g=rs a n g+g (a+(n:Nat)):=by unfold rs;rw[jF,eJ,wW];simp
theorem wF{a:Int}{n:Nat}(e:∀x,a≤x→x<a+n→g x=h x):rs a n g=rs a n h:=by
 induction n with
 |zero=>rfl
 |succ n ih=>rw[oH,oH,ih fun x h1 h2=>e x h1 (by lia),e _ (by lia) (by lia)]
theorem E9(a:Int)(n:Nat)(g h:Int→Int):rs a n (fun x=>g x+h x)=rs a n g+rs a n h:=by
 induction n with
 |zero=>rfl
 |succ n ih=>rw[oH,oH,oH,ih];lia
theorem Y6{a:Int}{n:Nat}(e:∀x,a≤x→x<a+n→g x=0):rs a n g=0:=by
 induction n with
 |zero=>rfl
 |succ n ih=>rw[oH,ih fun x h1 h2=>e x h1 (by lia),e _ (by omega) (by lia)];rfl
theorem Dk{a:Int}{n:Nat}(h1:a≤k)(h2:k<a+n):rs a n (fun x=>if x=k then v else 0)=v:=by
 induction n with
 |zero=>lia
 |succ n ih=>
  rw[oH];by_cases q:k=a+(n:Nat)
  ·rw[ag q.symm,Y6 fun x g1 g2=>af (by lia)];simp
  ·rw[af (fun z=>q z.symm),ih (by lia)];simp
abbrev Pl:=List (Int×Int)
def co(xs:Pl)(k:Int):Int:=(fU xs k).getD 0
def Nk(xs:Pl):Prop:=(xs.map (·.1)).Nodup
theorem mr(k:Int):co [] k=0:=rfl
theorem gY(x:Int×Int)(xs:Pl)(k:Int):co (x::xs) k=if x.1=k then x.2 else co xs k:=by unfold co fU;grind
theorem yI(h:k∉xs.map (·.1)):co xs k=0:=by
 induction xs with
 |nil=>rfl
 |cons x xs ih=>rw[a9,a_]at h;rw[gY,af (fun e=>h (.inl e.symm)),ih fun m=>h (.inr m)]
theorem xh(xs:Pl)(k:Int):(xs.any fun x=>decide (x.1=k))=true↔k∈xs.map (·.1):=by simp
theorem map_put(xs:Pl)(k v:Int):(xs.map fun x=>if x.1=k then(k,v)else x).map (·.1)=xs.map (·.1):=by
 rw[b7];refine ef fun x _=>?_
 lia
theorem IU(xs:Pl)(k v:Int):(dv xs k v).map (·.1)=if k∈xs.map (·.1)then xs.map (·.1)else xs.map (·.1)++[k]:=by
 unfold dv;by_cases h:k∈xs.map (·.1)
 ·rw[ag h,ag ((xh xs k).mpr h),map_put]
 ·simp_all
theorem Ve(h:Nk xs)(k v:Int):Nk (dv xs k v):=by
 unfold Nk;rw[IU];split
 ·exact h
 ·rename_i q;rw[mY];refine⟨h,by simp,fun a ha b hb=>?_⟩;grind
theorem Dh(k v:Int):∀(xs:Pl)(j:Int),co (xs.map fun x=>if x.1=k then(k,v)else x) j=if j=k∧k∈xs.map (·.1)then v else co xs j
 |[],j=>by simp
 |x::xs,j=>by rw[a9,gY,gY,Dh k v xs j];grind
theorem Vc(xs:Pl)(k v j:Int):co (dv xs k v) j=if j=k then v else co xs j:=by
 unfold dv;by_cases h:k∈xs.map (·.1)
 ·rw[ag ((xh xs k).mpr h),Dh];by_cases z:j=k<;>simp[z,h]
 ·rw[af (fun z=>h ((xh xs k).mp z))];have:∀ys:Pl,k∉ys.map (·.1)→co (ys++[(k,v)]) j=if j=k then v else co ys j:=by
   intro ys;induction ys with
   |nil=>
    intro _;show co [(k,v)] j=_;rw[gY,mr];by_cases z:j=k
    ·rw[ag z,ag z.symm]
    ·rw[af z,af (fun e=>z e.symm)]
   |cons y ys ih=>
    intro hm;rw[a9,a_]at hm;show co (y::(ys++[(k,v)])) j=_;rw[gY,gY,ih fun m=>hm (.inr m)];by_cases z:y.1=j
    ·have:¬j=k:=fun e=>hm (.inl (e.symm.trans z.symm));rw[ag z,ag z,af this]
    ·rw[af z,af z]
  exact this xs h
def gk(xs:Pl)(k v:Int):Pl:=dv xs k (co xs k+v)
theorem CQ(xs:Pl)(k v j:Int):co (gk xs k v) j=co xs j+if j=k then v else 0:=by
 unfold gk;rw[Vc];split
 ·rename_i h;rw[h]
 ·simp
def gr(xs ys:Pl):Pl:=ys.foldl (fun acc y=>gk acc y.1 y.2) xs
def sm(xs:Pl)(f:Int→Int):Int:=(xs.map fun x=>x.2*f x.1).sum
theorem fR(x:Int×Int)(xs:Pl)(f:Int→Int):sm (x::xs) f=x.2*f x.1+sm xs f:=by simp[sm]
theorem Fd(h:Nk xs)(k:Int):sm xs (fun e=>if e=k then 1 else 0)=co xs k:=by
 induction xs with
 |nil=>rfl
 |cons x xs ih=>
  unfold Nk at h;rw[a9,fY]at h;rw[fR,gY,ih h.2];by_cases q:x.1=k
  ·rw[ag q,ag q,yI (by rw[←q];exact h.1)];simp
  ·simp[*]
theorem NV(h:Nk xs){n:Nat}(hk:∀x∈xs,a≤x.1∧x.1<a+n)(f:Int→Int):sm xs f=rs a n fun e=>co xs e*f e:=by
 induction xs with
 |nil=>rw[Y6 fun x _ _=>by rw[mr];exact KG _];rfl
 |cons x xs ih=>
  unfold Nk at h;rw[a9,fY]at h;rw[fR,ih h.2 fun y hy=>hk y (bW _ hy)];have hx:=hk x (by simp);have e:rs a n (fun e=>co (x::xs) e*f e)=rs a n (fun e=>(if e=x.1 then x.2*f x.1 else 0)+co xs e*f e):=wF fun e _ _=>by
   rw[gY];by_cases q:x.1= e
   ·rw[ag q,ag q.symm,yI (by rw[←q];exact h.1),q];simp
   ·rw[af q,af (fun z=>q z.symm)];simp
  rw[e,E9,Dk hx.1 hx.2]
def eB(acc:Pl)(x:Int×Int)(ys:Pl):Pl:=ys.foldl (fun acc y=>gk acc (x.1+y.1) (x.2*y.2)) acc
def gH(xs ys:Pl):Pl:=xs.foldl (fun acc x=>eB acc x ys) []
theorem wN(h:Nk xs)(k v:Int):Nk (gk xs k v):=Ve h _ _
theorem uc(x:Int×Int):∀(ys:Pl){acc:Pl},Nk acc→Nk (eB acc x ys)
 |[],_,h=>h
 |y::ys,_,h=>uc x ys (wN h _ _)
theorem IH(xs ys:Pl):Nk (gH xs ys):=by
 have:∀(xs:Pl)(acc:Pl),Nk acc→Nk (xs.foldl (fun acc x=>eB acc x ys) acc):=by
  intro xs;induction xs with
  |nil=>intro acc h;exact h
  |cons x xs ih=>intro acc h;exact ih _ (uc x ys h)
 exact this xs [] ou
theorem FG(x:Int×Int)(j:Int):∀(ys:Pl)(acc:Pl),co (eB acc x ys) j=co acc j+x.2*sm ys (fun e=>if e=j-x.1 then 1 else 0)
 |[],acc=>by simp[eB,sm]
 |y::ys,acc=>by show co (eB (gk acc (x.1+y.1) (x.2*y.2)) x ys) j=_;rw[FG x j ys,CQ,fR,Int.mul_add];grind
theorem yQ(hy:Nk ys)(xs:Pl)(j:Int):co (gH xs ys) j=sm xs fun e=>co ys (j-e):=by
 have:∀(xs:Pl)(acc:Pl),co (xs.foldl (fun acc x=>eB acc x ys) acc) j=co acc j+sm xs fun e=>co ys (j-e):=by
  intro xs;induction xs with
  |nil=>intro acc;simp[sm]
  |cons x xs ih=>
   intro acc;rw[gP,ih,FG,Fd hy,fR]
   lia
 have q:=this xs [];rwa[mr,mW]at q
theorem Wv(hy:Nk ys)(xs:Pl)(j:Int):co (gr xs ys) j=co xs j+co ys j:=by
 have:∀(ys:Pl)(acc:Pl),co (gr acc ys) j=co acc j+sm ys (fun e=>if e=j then 1 else 0):=by
  intro ys;induction ys with
  |nil=>intro acc;simp[gr,sm]
  |cons y ys ih=>
   intro acc;show co (gr (gk acc y.1 y.2) ys) j=_;rw[ih,CQ,fR]
   lia
 rw[this,Fd hy]
theorem wM:∀(ys:Pl){xs:Pl},Nk xs→Nk (gr xs ys)
 |[],_,h=>h
 |y::ys,_,h=>wM ys (wN h _ _)
theorem lR{p:Poly}(h:e<p.low∨p.low+p.l.length≤e):p.at_ e=0:=by unfold Poly.at_;grind
theorem vY{p:Poly}(h:i<p.l.length):p.at_ (p.low+(i:Nat))=p.l.getD i 0:=by unfold Poly.at_;grind
theorem DD(lo:Int)(n:Nat)(f:Int→Int)(e:Int):(tabled lo n f).at_ e=if lo≤e∧e<lo+n then f e else 0:=by unfold tabled Poly.at_;grind
theorem wL:∀l:List Int,∃k,l=replicate k 0++dropZeros l∧(dropZeros l).length+k=l.length
 |[]=>⟨0,rfl,rfl⟩
 |x::r=>by
  unfold dropZeros;by_cases h:x=0
  ·rw[ag h];obtain⟨k,e1,e2⟩:=wL r;refine⟨k+1,?_,by simp;lia⟩;grind
  ·simp_all
theorem IL(h:dropZeros l=x::r):x≠0:=by
 induction l with
 |nil=>cases h
 |cons y l ih=>
  unfold dropZeros at h
  lia
theorem GS(l m:List Int)(i:Nat):(l++m).getD i 0=if i<l.length then l.getD i 0 else m.getD (i-l.length) 0:=by grind
theorem Ih(k i:Nat):(replicate k (0:Int)).getD i 0=0:=by rw[bC,Y_];split<;>rfl
theorem Eu(p:Poly)(e:Int):p.neat.at_ e=p.at_ e:=by
 unfold Poly.neat;obtain⟨k,e1,e2⟩:=wL p.l;obtain⟨m,e3,e4⟩:=wL (dropZeros p.l).reverse;have e5:dropZeros p.l=(dropZeros (dropZeros p.l).reverse).reverse++replicate m 0:=by have:=congrArg List.reverse e3;rw[Kt,Ks,List.reverse_replicate]at this;grind
 simp only;generalize hb:(dropZeros (dropZeros p.l).reverse).reverse=b at*;generalize ha:dropZeros p.l=a at*;have val:∀i,p.l.getD i 0=if i<k then 0 else if i-k<b.length then b.getD (i-k) 0 else 0:=by intro i;rw[e1,GS,List.length_replicate,Ih,e5,GS,Ih]
 by_cases hz:b.isEmpty=true
 ·rw[ag hz];have hb0:b=[]:=List.isEmpty_iff.mp hz;rw[lR (by simp;lia)];unfold Poly.at_;split
  ·rfl
  ·rw[val,hb0];simp
 ·rw[af hz];have hk:p.l.length-a.length=k:=by simp[*]
  rw[hk];unfold Poly.at_;simp only;by_cases h1:e<p.low
  ·rw[ag (by lia),ag h1]
  ·rw[af h1,val];by_cases h2:e<p.low+(k:Nat)
   ·rw[ag h2,ag (by lia)]
   ·rw[af h2,af (by lia),show(e-(p.low+(k:Nat))).toNat=(e-p.low).toNat-k by lia];by_cases h3:(e-p.low).toNat-k<b.length
    ·rw[ag h3]
    ·rw[af h3,bC,lB (by lia)];rfl
theorem Xx(p q:Poly)(e:Int):(p.plus q).at_ e=p.at_ e+q.at_ e:=by
 unfold Poly.plus;rw[Eu,DD];split
 ·rfl
 ·rename_i h;rw[lR (by omega),lR (by omega)];rfl
theorem AS(l:List Int):Kb.sum l=l.sum:=by
 unfold Kb.sum;have:∀(l:List Int)(a:Int),l.foldl (fun a b=>a+b) a=a+l.sum:=by
  intro l;induction l with
  |nil=>intro a;simp
  |cons x l ih=>intro a;rw[gP,ih,lI];lia
 rw[this,mW]
theorem SV(p q:Poly)(e:Int):(p.times q).at_ e=((range p.l.length).map fun i=>p.l.getD i 0*q.at_ (e-p.low-(i:Nat))).sum:=by
 unfold Poly.times;rw[Eu,DD];split
 ·rw[AS]
 ·rename_i h;symm;have:∀i∈range p.l.length,p.l.getD i 0*q.at_ (e-p.low-(i:Nat))=0:=by intro i hi;rw[bQ]at hi;rw[lR (by lia),Int.mul_zero]
  rw[ef this];generalize range p.l.length=L;induction L with
  |nil=>rfl
  |cons a L ih=>rw[a9,lI,ih];rfl
theorem X5(p:Poly){n:Nat}(h1:a≤p.low)(h2:p.low+p.l.length≤a+n)(f:Int→Int):((range p.l.length).map fun i=>p.l.getD i 0*f (p.low+(i:Nat))).sum=rs a n fun e=>p.at_ e*f e:=by
 have key:∀m,m≤p.l.length→((range m).map fun i=>p.l.getD i 0*f (p.low+(i:Nat))).sum=rs a n fun e=>if e<p.low+(m:Nat)then p.at_ e*f e else 0:=by
  intro m;induction m with
  |zero=>
   intro _;symm;refine Y6 fun x g1 g2=>?_;split
   ·rw[lR (by simp_all),KG]
   ·rfl
  |succ m ih=>
   intro hm;rw[jF,eJ,wW,ih (by exact qW ‹_›)];have:rs a n (fun e=>if e<p.low+((m+1:Nat):Nat)then p.at_ e*f e else 0)=rs a n (fun e=>(if e<p.low+(m:Nat)then p.at_ e*f e else 0)+if e=p.low+(m:Nat)then p.l.getD m 0*f (p.low+(m:Nat))else 0):=wF fun e _ _=>by
    by_cases q1:e<p.low+(m:Nat)
    ·rw[ag q1,ag (by lia),af (by lia),Yq]
    ·by_cases q2:e=p.low+(m:Nat)
     ·rw[af q1,ag q2,ag (by lia),q2,vY ‹_›,mW]
     ·rw[af q1,af q2,af (by lia)];rfl
   rw[this,E9,Dk (by lia) (by lia)];simp
 rw[key _ (aY _)];refine wF fun x _ _=>?_;split
 ·rfl
 ·rw[lR (by simp_all),KG]
def Eqv(xs:Pl)(p:Poly):Prop:=Nk xs∧∀e,co xs e=p.at_ e
theorem QV(xs:Pl):∃M:Nat,∀x∈xs,-(M:Int)≤x.1∧x.1≤M:=by
 induction xs with
 |nil=>exact⟨0,by simp⟩
 |cons x xs ih=>obtain⟨M,h⟩:=ih;refine⟨M+x.1.natAbs,fun y hy=>?_⟩;grind
theorem We(h:Eqv xs p)(f:Int→Int):sm xs f=((range p.l.length).map fun i=>p.l.getD i 0*f (p.low+(i:Nat))).sum:=by obtain⟨M,hM⟩:=QV xs;have e1:=NV h.1 (a:=-((M:Int)+p.low.natAbs)) (n:=2*(M+p.low.natAbs)+p.l.length+2) (fun x hx=>by have:=hM x hx;lia) f;have e2:=X5 p (a:=-((M:Int)+p.low.natAbs)) (n:=2*(M+p.low.natAbs)+p.l.length+2) (by lia) (by lia) f;rw[e1,e2];exact wF fun e _ _=>by rw[h.2]
theorem zc(h:Eqv xs p)(g:Eqv ys q):Eqv (gH xs ys) (p.times q):=by refine⟨IH _ _,fun e=>?_⟩;rw[yQ g.1,We h,SV];congr 1;refine ef fun i _=>?_;rw[g.2,show e-(p.low+(i:Nat))= e-p.low-(i:Nat) by lia]
theorem Ad(z e:Int):Eqv [(e,z)] (term z e):=by
 refine⟨by simp[Nk],fun k=>?_⟩;rw[gY,mr];unfold term;by_cases h:z=0
 ·rw[ag h,lR (by simp;lia),h];simp
 ·rw[af h];unfold Poly.at_;grind
theorem Nv:Eqv [(2,-1),(-2,-1)] Kb.loop:=by
 refine⟨by simp[Nk],fun k=>?_⟩;rw[gY,gY,mr];unfold Kb.loop Poly.at_;simp only;by_cases h1:k< -2
 ·rw[ag h1,af (by lia),af (by lia)]
 ·rw[af h1];by_cases h2:k<3
  ·have:k=-2∨k=-1∨k=0∨k=1∨k=2:=by lia
   rcases this with rfl|rfl|rfl|rfl|rfl<;>rfl
  ·rw[af (by lia),af (by omega),bC,lB (by simp;grind)];rfl
def dN:Nat→Pl
 |0=>[(0,1)]
 |n+1=>gH (dN n) [(2,-1),(-2,-1)]
theorem xp:∀n,Eqv (dN n) (power Kb.loop n)
 |0=>Ad 1 0
 |n+1=>zc (xp n) Nv
end Km
namespace Kn
open PySem PySem.Spec PyProof.Rows L2
open Kb (Cross Dia)
section
variable{α β γ δ:Type}{X:Cx}{σ σ0:aS}{H H1 H2 G:Hp}{e ie a b:Expr}{es:List Expr}{R:Rp α}{S:Rp β}{r:α}{pos p:Pos}{D:Ends}{rest:List Stmt}{x x':Str}{i i':Nat}{CC CD:Addr}{A:ck γ}{c:γ}
def lN(A:ck γ)(P:γ→Prop)(f:γ→List (Int×Int)):Sp:=fun vs H1 Q _=>∃H c,aj H H1∧A.rel H vs c∧P c∧∀d G H2,au H H1 G H2→H1 d=Option.none→G d=Option.none→H2 d=some (.dK (bc (f c)))→Q (.ref d) H2
theorem lN.len(h:A.Len n):∀vs H Q E,lN A P f vs H Q E→vs.length=n:=fun _ _ _ _⟨_,_,_,a,_⟩=>h _ _ _ a
theorem pO(Df:Cx.Def X k x ps (lN A P f))(hr:bM m X.A)(hp:P c)(ha:XA X σ H (e::es) A c)(hk:k≤m:=by decide)(hg:Gl X x:=by rfl)(bG:(x==("__debug__":Str))=false:=by decide)(he:SE X e es:=by rfl)(bo:NS X pos es:=by rfl):XD X σ H (.Call (.Name x p) (e::es) [] pos) (f c):=fun H1 s Q q=>
 pk Df hr ha s (fun vs G H2 fw rv=>⟨G,c,fw.g2,rv,hp,fun d G' H3 cP h1 jw h3=>q d G' H3 (fw.trans cP) (fw.bX h1) jw h3⟩) hk hg bG he bo
theorem XD.cast(h:XD X σ H e xs)(q:xs=ys):XD X σ H e ys:=q▸h
def AQ:ck (List (Int×Int)×List (Int×Int)):=⟨fun H vs c=>∃a b,vs=[.ref a, .ref b]∧a≠b∧H a=some (.dK (bc c.1))∧H b=some (.dK (bc c.2)),fun s⟨a,b,e,n,h1,h2⟩=>⟨a,b,e,n,s _ _ h1,s _ _ h2⟩⟩
theorem Of:AQ.Len 2:=fun _ _ _⟨_,_,e,_⟩=>by rw[e];rfl
theorem au.SX(s:aj H H')(s1:aj H' H1)(a:au H H1 G H2):∃G',aj G G'∧au H' H1 G' H2∧∀b,H' b=Option.none→G' b=G b:=by
 refine⟨fun b=>match H' b with|some o=>some o|none=>G b,fun b o e=>?_,⟨fun b o e=>?_,fun b o e=>?_,a.h2,fun b o e1 e2=>?_⟩,fun b e=>?_⟩
 ·cases q:H' b with
  |none=>simp only[q];exact e
  |some o'=>have e1:=a.h2 b o' (s1 b o' q);have e2:=a.g2 b o e;rw[e1]at e2;simp only[q];exact e2
 ·simp only[e]
 ·cases q:H' b with
  |none=>simp only[q]at e;exact a.g2 b o e
  |some o'=>simp only[q]at e;rw[←e];exact a.h2 b o' (s1 b o' q)
 ·simp only[e1];exact a.sep b o (s.free e1) e2
 ·simp only[e]
theorem XD.mono(h:XD X σ H e xs)(s:aj H H'):XD X σ H' e xs:=fun H1 s1 Q k=>
 h H1 (s.trans s1) Q fun d G H2 f h1 hg h2=>by obtain⟨G',sg,f',e⟩:=au.SX s s1 f;exact k d G' H2 f' h1 (by rw[e d (s1.free h1)];exact hg) h2
theorem zH(ha:XE X σ H a ic xs)(hb:XD X σ H b ys)(hs:SE X a [b]:=by rfl)(bL:SE X b []:=by rfl):XA X σ H [a,b] AQ (xs,ys):=fun H1 s Q k=>
 PA.wa (fm aJ (fm aJ fG bL) hs) (ha H1 s _ fun v G H2 f⟨d1,e1,g1⟩=>by subst e1;refine(hb.mono f.hg) H2 f.g2 _ fun d2 G' H3 f' n2 jX h2=>?_;have ne:d1≠d2:=bB (f.g2 _ _ g1) n2;refine k _ (upd G' d2 (.dK (bc ys))) H3 ((f.trans f').aX (f.bX n2) jX h2) ⟨d1,d2,rfl,ne,?_,aE⟩;rw[aB ne];exact f'.hg _ _ g1)
theorem qO(hN:X.N.Nodup)(h:XD X σ H e xs)(s:aj H H1)(k:∀d G H2,au H H1 G H2→H1 d=Option.none→G d=Option.none→H2 d=some (.dK (bc xs))→WB X rest D (σ.set i (some (.ref d))) H2)(hi:X.N[i]?=some x:=by rfl)(hx:Loc X.env.scope x:=by first|exact Or.inl rfl|exact Or.inr rfl)(hs:swapsWith e (some (.Name x p)) pos.line X.env=pure false:=by rfl)(hf:X.fn x=true∨X.env.scope.names.lookup x=some .local:=by first|exact .inl rfl|exact .inr rfl|assumption):WB X (.Assign [.Name x p] e pos::rest) D σ H1:=
 cW (PS.ws (pq hN hi hx aJ hs hf) (h H1 s _ fun d G H2 f a b c=>k d G H2 f a b c))
theorem zO:XD X σ H (.Dict [] [] pos) []:=fun H1 s Q k=>PE.we VU fun d hd=>k d H _ ((au.cf s).new hd _) hd (s.free hd) aE
theorem Fl(hu:X.A.units+1<cLine)(hs:σ[i]?=some (some (.ref d)))(hd:H1 d=some (.dK (bc xs)))(he:XE X σ H e aq z)(hk:XE X σ H ke aq k)(hl:xs.length<1000)(s:aj H H1)(kk:∀G H2,au H H1 G H2→WB X rest D σ (upd H2 d (.dK (bc (dv xs k z)))))(hN:X.N[i]?=some x:=by rfl)(hv:dJ X.env.scope x:=by first|exact Or.inl rfl|exact Or.inr (Or.inl rfl)|exact Or.inr (Or.inr rfl))(bG:(x==("__debug__":Str))=false:=by decide)(bH:(x==("__classdict__":Str))=false:=by decide)(dk:swapsWith e (some (.Subscript (.Name x p) ke tp)) pos.line X.env=pure false:=by rfl):WB X (.Assign [.Subscript (.Name x p) ke tp] e pos::rest) D σ H1:=
 cW (PS.ws (Av hu (iF hN hv bG bH) aJ aJ dk) (he H1 s _ fun v G H2 f rv=>⟨.ref d,hs,(hk.mono f.hg) H2 f.g2 _ fun w G' H3 f' bA=>by cases rv;cases bA;refine⟨d,_,rfl,lT.k (k:=Sum.inl k) (f'.h2 _ _ (f.h2 _ _ hd)) (by unfold bc;rw[bj];exact rE hl (by decide)),?_⟩;rw[Dg];exact kk G' H3 (f.trans f')⟩))
theorem AE(h:H1 d=some (.aX od u))(hn:∀o' u',X.kb d≠some (.aX o' u'))(q:WB X rest D σ (upd H1 d u)):WB X rest D σ H1:=fun pins s I=>q pins s (I.unlock h hn)
theorem AH(hc:X.calm=true)(hg:PG X (.Tuple elts kk cg) (g2 X.K j k))(he:WE X e σ H1 fun x H2=>∃d xs,x= .ref d∧H2 d=some (.dK (bc xs))∧(∀o' u',X.kb d≠some (.aX o' u'))∧∃Pv:Obj→Nat→aS→Hp→Prop,∀o,
   Pv o 0 σ (upd H2 d (.aX o (.dK (bc xs))))∧(∀i σ' H',Pv o i σ' H'→H' d=some (.aX o (.dK (bc xs))))∧
   (∀i y σ' H' T,xs[i]?=some y→Pv o i σ' H'→H' T=Option.none→WB X body {nx:=Pv o (i+1),rt:=D.rt,ct:=Pv o (i+1),bk:=fun _ _=>False} ((σ'.set j (some (.int y.1))).set k (some (.int y.2))) (upd H' T (.tup [.int y.1, .int y.2])))∧
   (∀σ' H',Pv o xs.length σ' H'→WB X rest D σ' (upd H' d (.dK (bc xs)))))(dW:AB X e "items":=by rfl)(dX:(ap.endLine==cp.line)=true:=by rfl)(hs:∀x,foldedSetIterable (.Call (.Attribute e "items" ap) [] [] cp) X.env x=pure x:=by intro _;rfl)(hp:PassesOwn (model X.prog X.w) X.A X.env X.xe:=by exact jE):
  WB X (.For (.Tuple elts kk cg) (.Call (.Attribute e "items" ap) [] [] cp) body [] pos::rest) D σ H1:=by
 refine cW (PS.ws (Ae hp hc (AN aJ dW dX) hg lP hs) (WE.mono he fun x H2⟨d,xs,ex,hd,hn,Pv,h⟩=>⟨d,ex, .inl ⟨bc xs,hd,fun o=>?_⟩⟩));obtain⟨h0,hk,ht,hf⟩:=h o;refine⟨fun i m σ' H'=>m=xs.length-i∧i≤xs.length∧Pv o i σ' H',⟨xs.length,by simp,eG _,h0⟩,?_⟩;rintro i m σ' H' ⟨rfl,hi,p⟩;have hlen:(bc xs).length=xs.length:=by simp[bc]
 by_cases bw:i<xs.length
 ·refine .inr ⟨⟨hk i σ' H' p,by rw[hlen];exact bw⟩,Pv o (i+1),fun σ2 H3 p'=>⟨xs.length-(i+1),by grind,rfl,bw,p'⟩,fun x bV y=>?_⟩;obtain⟨T,kx,v,fW,rfl,hT,rfl⟩:=y;have hx:xs[i]?=some xs[i]:=bq bw;unfold bc at fW;rw[cz,hx]at fW;cases fW;refine qD aE ?_;have w:=ht i xs[i] σ' H' T hx p hT;exact fun pins s I=>aP (w pins s I) fun f s1 q=>by
   cases f with
   |next=>exact q
   |ret v=>exact q
   |brk=>obtain⟨_,_,_,z⟩:=q;exact z.elim
   |cont=>exact q
 ·have e:i=xs.length:=by lia
  subst e;exact .inl ⟨⟨hk _ σ' H' p,by rw[hlen];exact aY _⟩,AE (hk _ σ' H' p) hn (hf σ' H' p)⟩
end
open Km (Pl Nk co gk eB gH dN)
def cq(M:Nat)(xs:Pl):Prop:=∀x∈xs,-(M:Int)≤x.1∧x.1≤M
theorem qQ:∀(n:Nat)(a:Int)(l:List Int),l.Nodup→(∀x∈l,a≤x∧x<a+n)→l.length≤n
 |0,a,l,_,h=>by
  cases l with
  |nil=>simp
  |cons x l=>have:=h x (by simp);lia
 |n+1,a,l,hn,h=>by
  have h1:(l.filter fun x=>decide (x<a+n)).length≤n:=qQ n a _ (ya BL hn) fun x hx=>by simp_all
  have h2:(l.filter fun x=>!decide (x<a+n)).length≤1:=by
   have hnd:(l.filter fun x=>!decide (x<a+n)).Nodup:=ya BL hn;have cY:∀x∈l.filter fun x=>!decide (x<a+n),x=a+n:=fun x hx=>by grind
   match hL:l.filter fun x=>!decide (x<a+n),hnd,cY with
   |[],_,_=>simp
   |[_],_,_=>simp
   |x::y::r,hnd,cY=>have e1:=cY x (by simp);have e2:=cY y (by simp);grind
  have h3:=(Km.vq (fun x=>decide (x<a+n)) l).length_eq;grind
theorem zy(hn:Nk xs)(h:cq M xs):xs.length≤2*M+1:=by
 have:=qQ (2*M+1) (-(M:Int)) (xs.map fun x:Int×Int=>x.1) hn fun k hk=>by
  obtain⟨x,hx,rfl⟩:=aH.mp hk;have:=h x hx
  lia
 rw[bj]at this;exact this
theorem F0(h:cq M xs)(hk:-(M:Int)≤k∧k≤M)(v:Int):cq M (dv xs k v):=by
 intro x hx;have:x.1∈(dv xs k v).map (·.1):=aH.mpr ⟨x,hx,rfl⟩;rw[Km.IU]at this;split at this
 ·obtain⟨y,hy,e⟩:=aH.mp this;rw[←e];exact h y hy
 ·rcases cE.mp this with q|q
  ·obtain⟨y,hy,e⟩:=aH.mp q;rw[←e];exact h y hy
  ·rw[rO]at q;rw[q];exact hk
theorem u_{M N:Nat}{x:Int×Int}(hx:-(M:Int)≤x.1∧x.1≤M):∀{ys:Pl}{acc:Pl},cq N ys→cq (M+N) acc→cq (M+N) (eB acc x ys)
 |[],_,_,h=>h
 |y::ys,acc,hy,h=>u_ (ys:=ys) hx (fun z hz=>hy z (bW _ hz)) (F0 h (by have:=hy y (by simp);lia) _)
theorem yF(hx:cq M xs)(hy:cq N ys):cq (M+N) (gH xs ys):=by
 have:∀(xs acc:Pl),cq M xs→cq (M+N) acc→cq (M+N) (xs.foldl (fun acc x=>eB acc x ys) acc):=by
  intro xs;induction xs with
  |nil=>intro acc _ h;exact h
  |cons x xs ih=>intro acc h1 h2;exact ih _ (fun z hz=>h1 z (bW _ hz)) (u_ (h1 x (by simp)) hy h2)
 exact this xs [] hx (by intro x hx;cases hx)
def DJ(xs:Pl):Prop:=∀x∈xs,-(2^64)<x.2∧x.2<2^64
theorem vk{α β:Type}{f:β→α→β}{b:β}{l:List α}{x:α}(h:l[i]?=some x):(l.take (i+1)).foldl f b=f ((l.take i).foldl f b) x:=Eo h
section
variable{K:Fg}(T:Txt K mg CC CD)
include T
theorem Am:Def P w K mg base 1 "multiplied" ["one","other"] (lN AQ (fun c=>cq 100 c.1∧cq 100 c.2∧(DJ c.1∨DJ c.2)) fun c=>gH c.1 c.2):=by
 refine T.hs.S0.mk ["one","other","product","power","number","more","factor"] (fun nd H1 vs Q E hr h=>?_) (len:=(lN.len Of));obtain⟨H,⟨xs,ys⟩,s1,⟨d1,d2,rfl,ne,g1,g2'⟩,⟨k1,k2,hsm⟩,k⟩:=h;have k1:cq 100 xs:=k1;have k2:cq 100 ys:=k2;have g1:H d1=some (.dK (bc xs)):=g1;have g2':H d2=some (.dK (bc ys)):=g2';have e1:=s1 _ _ g1;have e2:=s1 _ _ g2';refine qO (i:=2) nd zO s1 fun dp G2 H2 f2 n2 jX h2=>?_;have a1:=f2.h2 _ _ e1;have a2:=f2.h2 _ _ e2;have np1:dp≠d1:=by intro z;subst z;rw[e1]at n2;cases n2
 have np2:dp≠d2:=by intro z;subst z;rw[e2]at n2;cases n2
 have nf:∀{d:Addr}{zs:Pl},H1 d=some (.dK (bc zs))→∀(o':Obj)(u':HO),H1 d≠some (.aX o' u'):=fun h o' u' z=>by rw[h]at z;cases z
 have lenP:∀zs:Pl,Nk zs→cq 200 zs→zs.length<1000:=fun zs a b=>by have:=zy a b;lia
 refine AH rfl (gF (j:=3) (k:=4) rfl nd) (PE.we (pv 0) ⟨.ref d1,rfl,d1,xs,rfl,a1,nf e1,fun o i σ' H'=>∃(o3 o4 o5 o6:Option V)(acc:Pl),σ'=[some (.ref d1),some (.ref d2),some (.ref dp),o3,o4,o5,o6]∧H' d1=some (.aX o (.dK (bc xs)))∧H' d2=some (.dK (bc ys))∧H' dp=some (.dK (bc acc))∧acc=(xs.take i).foldl (fun acc x=>eB acc x ys) []∧∀b ob,H1 b=some ob→b≠d1→H' b=some ob,fun o=>⟨?_,?_,?_,?_⟩⟩)
 ·refine⟨none,none,none,none,[],rfl,aE,?_,?_,rfl,fun b ob hb hn=>?_⟩
  ·rw[aB (fun z=>ne z.symm)];exact a2
  ·rw[aB np1];exact h2
  ·rw[aB hn];exact f2.h2 _ _ hb
 ·rintro i σ' H' ⟨o3,o4,o5,o6,acc,rfl,q1,_⟩;exact q1
 ·rintro i x σ' H' T' hx ⟨o3,o4,o5,o6,acc,rfl,q1,q2,q3,il,q4⟩ hT;have hxm:x∈xs:=fg hx;have hkx:=k1 x hxm;have JH:cq 200 acc∧Nk acc:=by
   rw[il];have:∀(zs acc:Pl),(∀z∈zs,z∈xs)→cq 200 acc→Nk acc→cq 200 (zs.foldl (fun acc x=>eB acc x ys) acc)∧Nk (zs.foldl (fun acc x=>eB acc x ys) acc):=by
    intro zs;induction zs with
    |nil=>intro acc _ h1 h2;exact⟨h1,h2⟩
    |cons z zs ih=>intro acc h0 h1 h2;exact ih _ (fun y hy=>h0 y (bW _ hy)) (u_ (k1 z (h0 z (by simp))) k2 h1) (Km.uc z ys h2)
   exact this _ [] (fun z hz=>lH hz) (by intro x hx;cases hx) ou
  have t1:upd H' T' (.tup [.int x.1, .int x.2]) d1=some (.aX o (.dK (bc xs))):=by rw[aB (bB q1 hT)];exact q1
  have t2:upd H' T' (.tup [.int x.1, .int x.2]) d2=some (.dK (bc ys)):=by rw[aB (bB q2 hT)];exact q2
  have t3:upd H' T' (.tup [.int x.1, .int x.2]) dp=some (.dK (bc acc)):=by rw[aB (bB q3 hT)];exact q3
  have t4:∀b ob,H1 b=some ob→b≠d1→upd H' T' (.tup [.int x.1, .int x.2]) b=some ob:=fun b ob hb hn=>by rw[aB (bB (q4 b ob hb hn) hT)];exact q4 b ob hb hn
  generalize upd H' T' (.tup [.int x.1, .int x.2])=H3 at t1 t2 t3 t4;refine AH rfl (gF (j:=5) (k:=6) rfl nd) (PE.we (pv 1) ⟨.ref d2,rfl,d2,ys,rfl,t2,nf e2,fun o' i' σ' H'=>∃(o5 o6:Option V)(bU:Pl),σ'=[some (.ref d1),some (.ref d2),some (.ref dp),some (.int x.1),some (.int x.2),o5,o6]∧H' d1=some (.aX o (.dK (bc xs)))∧H' d2=some (.aX o' (.dK (bc ys)))∧H' dp=some (.dK (bc bU))∧bU= eB acc x (ys.take i')∧∀b ob,H1 b=some ob→b≠d1→b≠d2→H' b=some ob,fun o'=>⟨?_,?_,?_,?_⟩⟩)
  ·refine⟨o5,o6,acc,rfl,?_,aE,?_,rfl,fun b ob hb hn mE=>?_⟩
   ·rw[aB ne];exact t1
   ·rw[aB np2];exact t3
   ·rw[aB mE];exact t4 b ob hb hn
  ·rintro i' σ' H' ⟨o5,o6,bU,rfl,r1,r2,_⟩;exact r2
  ·rintro i' y σ' H' T2 hy ⟨o5,o6,bU,rfl,r1,r2,r3,uv,r4⟩ ik;have hym:y∈ys:=fg hy;have hky:=k2 y hym;have hk':cq 200 bU∧Nk bU:=by rw[uv];exact⟨u_ hkx (fun z hz=>k2 z (lH hz)) JH.1,Km.uc x _ JH.2⟩
   have u1:upd H' T2 (.tup [.int y.1, .int y.2]) d1=some (.aX o (.dK (bc xs))):=by rw[aB (bB r1 ik)];exact r1
   have u2:upd H' T2 (.tup [.int y.1, .int y.2]) d2=some (.aX o' (.dK (bc ys))):=by rw[aB (bB r2 ik)];exact r2
   have u3:upd H' T2 (.tup [.int y.1, .int y.2]) dp=some (.dK (bc bU)):=by rw[aB (bB r3 ik)];exact r3
   have u4:∀b ob,H1 b=some ob→b≠d1→b≠d2→upd H' T2 (.tup [.int y.1, .int y.2]) b=some ob:=fun b ob hb hn mE=>by rw[aB (bB (r4 b ob hb hn mE) ik)];exact r4 b ob hb hn mE
   generalize upd H' T2 (.tup [.int y.1, .int y.2])=H4 at u1 u2 u3 u4;have rp:ic.rel H4 (.ref dp) bU:=⟨dp,rfl,u3⟩;have hmul:tw x.2 y.2:=by
    rcases hsm with h|h
    ·exact .inl (h x hxm)
    ·exact .inr (h y hym)
   refine Fl (i:=2) (iE hr) rfl u3 (cj (rZ (iE hr) (xv 2 rp) (cj (xv 3 (rfl)) (xv 5 (rfl))) ax ⟨rfl,rfl,rfl,rfl⟩) (jJ hmul (xv 4 (rfl)) (xv 6 (rfl)))) (cj (xv 3 (rfl)) (xv 5 (rfl))) (lenP bU hk'.2 hk'.1) (aj.refl _) fun G5 H5 f5=>bp ?_;refine⟨_,_,_,rfl,?_,?_,aE,?_,fun b ob hb hn mE=>?_⟩
   ·rw[aB (fun z=>np1 z.symm)];exact f5.h2 _ _ u1
   ·rw[aB (fun z=>np2 z.symm)];exact f5.h2 _ _ u2
   ·rw[uv];unfold eB;rw[vk hy];rfl
   ·have da:b≠dp:=bB hb n2;rw[aB da];exact f5.h2 _ _ (u4 b ob hb hn mE)
  ·rintro σ' H' ⟨o5,o6,bU,rfl,r1,r2,r3,uv,r4⟩;refine bp ⟨_,_,_,_,bU,rfl,?_,aE,?_,?_,fun b ob hb hn=>?_⟩
   ·rw[aB ne];exact r1
   ·rw[aB np2];exact r3
   ·rw[iX]at uv;rw[uv,vk hx,←il]
   ·by_cases z:b=d2
    ·subst z;rw[aE];rw[e2]at hb;exact hb
    ·rw[aB z];exact r4 b ob hb hn z
 ·rintro σ' H' ⟨o3,o4,o5,o6,acc,rfl,q1,q2,q3,il,q4⟩;rw[iX]at il;have hS:aj H1 (upd H' d1 (.dK (bc xs))):=fun b ob hb=>by
   by_cases z:b=d1
   ·subst z;rw[aE];rw[e1]at hb;exact hb
   ·rw[aB z];exact q4 b ob hb z
  refine gD (i:=2) rfl (k dp H _ ⟨aj.refl _,s1.trans hS,hS,fun _ _ h _=>h⟩ n2 (s1.free n2) ?_);rw[aB np1,q3,il];rfl
end
open Km (Pl Nk co gk gr eB gH dN)
theorem qm(h:M≤N)(k:cq M xs):cq N xs:=fun x hx=>by have:=k x hx;lia
theorem wQ:∀n,cq (2*n) (dN n)
 |0=>by intro x hx;simp[dN]at hx;subst hx;decide
 |n+1=>by have:=yF (wQ n) (N:=2) (ys:=[(2,-1),(-2,-1)]) (by intro x hx;simp at hx;rcases hx with rfl|rfl<;>decide);rw[show 2*(n+1)=2*n+2 by rfl];exact this
abbrev Tl:=List ((Int×Int)×Int)
def c9(xs:Tl):List (List Key×V):=xs.map fun x=>([Sum.inl x.1.1,Sum.inl x.1.2],V.int x.2)
def gq(xs:Tl)(k:Int×Int):Option Int:=(xs.find? fun x=>decide (x.1=k)).map (·.2)
def fh(xs:Tl)(k:Int×Int)(v:Int):Tl:=if(xs.any fun x=>decide (x.1=k))=true then xs.map fun x=>if x.1=k then(k,v)else x else xs++[(k,v)]
theorem tW(a b:Int×Int):(([Sum.inl a.1,Sum.inl a.2]:List Key)=[Sum.inl b.1,Sum.inl b.2])↔a=b:=by
 constructor
 ·intro h;simp at h;exact Prod.ext h.1 h.2
 ·intro h;rw[h]
theorem D0(k:Int×Int):∀xs:Tl,bD (c9 xs) [Sum.inl k.1,Sum.inl k.2]=(gq xs k).map V.int
 |[]=>rfl
 |x::xs=>by
  have ih:=D0 k xs;unfold bD c9 gq at*;rw[a9,jD,jD];by_cases q:x.1=k
  ·have:decide (([Sum.inl x.1.1,Sum.inl x.1.2]:List Key)=[Sum.inl k.1,Sum.inl k.2])=true:=fZ ((tW _ _).mpr q);simp only[this,fZ q];rfl
  ·have:decide (([Sum.inl x.1.1,Sum.inl x.1.2]:List Key)=[Sum.inl k.1,Sum.inl k.2])=false:=cU (fun z=>q ((tW _ _).mp z));simp only[this,cU q];exact ih
theorem M0(xs:Tl)(k:Int×Int)(v:Int):putK (c9 xs) [Sum.inl k.1,Sum.inl k.2] (V.int v)=c9 (fh xs k v):=by
 unfold putK fh;have e:((c9 xs).any fun kv=>decide (kv.1=([Sum.inl k.1,Sum.inl k.2]:List Key)))=(xs.any fun x=>decide (x.1=k)):=by unfold c9;rw[List.any_map];congr 1;funext x;exact Kk.mpr (tW x.1 k)
 rw[e];by_cases q:(xs.any fun x=>decide (x.1=k))=true
 ·rw[ag q,ag q];unfold c9;rw[b7,b7];refine ef fun x _=>?_;simp only[Function.comp];by_cases z:x.1=k
  ·rw[ag ((tW _ _).mpr z),ag z,z]
  ·rw[af (fun h=>z ((tW _ _).mp h)),af z]
 ·rw[af q,af q];unfold c9;rw[eJ];rfl
theorem Tu(xs:Tl)(k:Int×Int)(v:Int):(fh xs k v).length≤xs.length+1:=by unfold fh;split<;>simp
section
variable{α β γ δ:Type}{X:Cx}{σ σ0:aS}{H H1 H2 G:Hp}{e ie a b o:Expr}{es:List Expr}{R:Rp α}{S:Rp β}{r:α}{pos p:Pos}{D:Ends}{rest:List Stmt}{x x':Str}{i i':Nat}{CC CD:Addr}{A:ck γ}{c:γ}
def wU(A:ck γ)(P:γ→Prop)(f:γ→Tl):Sp:=fun vs H1 Q _=>∃H c,aj H H1∧A.rel H vs c∧P c∧∀d G H2,au H H1 G H2→H1 d=Option.none→H2 d=some (.dT (c9 (f c)))→Q (.ref d) H2
theorem wU.len(h:A.Len n):∀vs H Q E,wU A P f vs H Q E→vs.length=n:=fun _ _ _ _⟨_,_,_,a,_⟩=>h _ _ _ a
def Jm:Rp Tl:=⟨fun H v xs=>∃a,v= .ref a∧H a=some (.dT (c9 xs)),fun s⟨a,e,h⟩=>⟨a,e,s _ _ h⟩⟩
theorem Wl(hu:X.A.units+1<cLine)(ho:XE X σ H o Jm xs)(he:XE X σ H e (dF aq aq) k)(hf:XE X σ H f aq z)(m:M2 X o "get" ap e f cp):XE X σ H (.Call (.Attribute o "get" ap) [e,f] [] cp) aq ((gq xs k).getD z):=fun H1 s Q q=>
 PE.we (FX hu aJ aJ aJ m) (ho H1 s _ fun v G H2 fw⟨d,ev,hd⟩=>by subst ev;refine⟨d,rfl, .inr ⟨_, .inl (fw.g2 _ _ hd)⟩,(he.mono fw.hg) H2 fw.g2 _ fun w G' H3 cP⟨b,v1,v2,ew,hb,r1,r2⟩=>(hf.mono (fw.hg.trans cP.hg)) H3 cP.g2 _ fun u jV H4 qT ru=>?_⟩;subst ew;cases r1;cases r2;cases ru;refine⟨_,i5.t (k:=[Sum.inl k.1,Sum.inl k.2]) (qT.h2 _ _ (cP.h2 _ _ (fw.g2 _ _ hd))) (qT.h2 _ _ (cP.g2 _ _ hb)),q _ jV H4 ((fw.trans cP).trans qT) ?_⟩;rw[D0];cases gq xs k<;>rfl)
theorem P_(hu:X.A.units+1<cLine)(hs:σ[i]?=some (some (.ref d)))(hd:H1 d=some (.dT (c9 xs)))(he:XE X σ H e aq z)(hk:XE X σ H ke (dF aq aq) k)(hl:xs.length<1000)(s:aj H H1)(kk:∀G H2,au H H1 G H2→WB X rest D σ (upd H2 d (.dT (c9 (fh xs k z)))))(hN:X.N[i]?=some x:=by rfl)(hv:dJ X.env.scope x:=by first|exact Or.inl rfl|exact Or.inr (Or.inl rfl)|exact Or.inr (Or.inr rfl))(bG:(x==("__debug__":Str))=false:=by decide)(bH:(x==("__classdict__":Str))=false:=by decide)(dk:swapsWith e (some (.Subscript (.Name x p) ke tp)) pos.line X.env=pure false:=by rfl):WB X (.Assign [.Subscript (.Name x p) ke tp] e pos::rest) D σ H1:=
 cW (PS.ws (Av hu (iF hN hv bG bH) aJ aJ dk) (he H1 s _ fun v G H2 f rv=>⟨.ref d,hs,(hk.mono f.hg) H2 f.g2 _ fun w G' H3 f'⟨b,v1,v2,ew,hb,r1,r2⟩=>by cases rv;subst ew;cases r1;cases r2;refine⟨d,_,rfl,lT.t (k:=[Sum.inl k.1,Sum.inl k.2]) (f'.h2 _ _ (f.h2 _ _ hd)) (f'.g2 _ _ hb) (by unfold c9;rw[bj];exact rE hl (by decide)),?_⟩;rw[M0];exact kk G' H3 (f.trans f')⟩))
theorem VA(hc:X.calm=true)(hg:PG X (.Tuple elts kk cg) (g2 X.K j k))(he:WE X e σ H1 fun x H2=>∃d xs,x= .ref d∧H2 d=some (.dT (c9 xs))∧(∀o' u',X.kb d≠some (.aX o' u'))∧∃Pv:Obj→Nat→aS→Hp→Prop,∀o,
   Pv o 0 σ (upd H2 d (.aX o (.dT (c9 xs))))∧(∀i σ' H',Pv o i σ' H'→H' d=some (.aX o (.dT (c9 xs))))∧
   (∀i y σ' H' T q,xs[i]?=some y→Pv o i σ' H'→H' T=Option.none→H' q=some (.tup [.int y.1.1, .int y.1.2])→WB X body {nx:=Pv o (i+1),rt:=D.rt,ct:=Pv o (i+1),bk:=fun _ _=>False} ((σ'.set j (some (.ref q))).set k (some (.int y.2))) (upd H' T (.tup [.ref q, .int y.2])))∧
   (∀σ' H',Pv o xs.length σ' H'→WB X rest D σ' (upd H' d (.dT (c9 xs)))))(dW:AB X e "items":=by rfl)(dX:(ap.endLine==cp.line)=true:=by rfl)(hs:∀x,foldedSetIterable (.Call (.Attribute e "items" ap) [] [] cp) X.env x=pure x:=by intro _;rfl)(hp:PassesOwn (model X.prog X.w) X.A X.env X.xe:=by exact jE):
  WB X (.For (.Tuple elts kk cg) (.Call (.Attribute e "items" ap) [] [] cp) body [] pos::rest) D σ H1:=by
 refine cW (PS.ws (Ae hp hc (AN aJ dW dX) hg lP hs) (WE.mono he fun x H2⟨d,xs,ex,hd,hn,Pv,h⟩=>⟨d,ex, .inr ⟨c9 xs,hd,fun o=>?_⟩⟩));obtain⟨h0,hk,ht,hf⟩:=h o;refine⟨fun i m σ' H'=>m=xs.length-i∧i≤xs.length∧Pv o i σ' H',⟨xs.length,by simp,eG _,h0⟩,?_⟩;rintro i m σ' H' ⟨rfl,hi,p⟩;have hlen:(c9 xs).length=xs.length:=by simp[c9]
 by_cases bw:i<xs.length
 ·refine .inr ⟨⟨hk i σ' H' p,by rw[hlen];exact bw⟩,Pv o (i+1),fun σ2 H3 p'=>⟨xs.length-(i+1),by grind,rfl,bw,p'⟩,fun x bV y=>?_⟩;obtain⟨T,kx,v,q,fW,rfl,hT,hq,rfl⟩:=y;have hx:xs[i]?=some xs[i]:=bq bw;unfold c9 at fW;rw[cz,hx]at fW;cases fW;refine qD aE ?_;have w:=ht i xs[i] σ' H' T q hx p hT hq;exact fun pins s I=>aP (w pins s I) fun f s1 q=>by
   cases f with
   |next=>exact q
   |ret v=>exact q
   |brk=>obtain⟨_,_,_,z⟩:=q;exact z.elim
   |cont=>exact q
 ·have e:i=xs.length:=by lia
  subst e;exact .inl ⟨⟨hk _ σ' H' p,by rw[hlen];exact aY _⟩,AE (hk _ σ' H' p) hn (hf σ' H' p)⟩
end
theorem Sh:([(0,1)]:Pl).foldl (fun acc x=>dv acc x.1 x.2) []=dN 0:=by decide
theorem XJ:([(2,-1),(-2,-1)]:Pl).foldl (fun acc x=>dv acc x.1 x.2) []=[(2,-1),(-2,-1)]:=by decide
theorem CU(st:Nat):∀n:Nat,((range n).map ((fun z:Int=>sgn (st.testBit z.toNat))∘fun i:Nat=>(0:Int)+(i:Nat))).sum=(((range n).filter fun i=>st.testBit i).length:Nat)
 |0=>rfl
 |n+1=>by rw[jF,eJ,Km.wW,BG,cZ,CU st n];simp only[a9,gQ,lI,BP,Function.comp,rJ,List.filter_nil];rw[show((0:Int)+(n:Nat)).toNat=n by simp];cases st.testBit n<;>simp[sgn]
def gS(d:Dia)(xs:Tl)(s:Nat):Tl:=fh xs ((d.n:Int)-2*(bitsOf d.n s:Int),(d.circles s:Int)) ((gq xs ((d.n:Int)-2*(bitsOf d.n s:Int),(d.circles s:Int))).getD 0+1)
def eO(d:Dia):Tl:=(range (2^d.n)).foldl (gS d) []
section
variable{K:Fg}(T:Txt K mg CC CD)
include T
theorem LS:Def P w K mg base 2 "circle_value" ["circles"] (lN (aO aq bu) (fun c=>c.1≤40∧-1000≤c.1) fun c=>dN (c.1-1).toNat):=by
 refine T.hs.Mq.mk ["circles","value","step"] (fun nd H1 vs Q E hr h=>?_);refine DX h fun H c v0 s1 h0 hh k=>?_;obtain⟨hc,dP⟩:=hh;have hc:c≤40:=hc;have dP:-1000≤c:=dP;cases h0;refine qO (i:=1) nd (XD.cast (tN (xs:=[(0,1)]) (oK ax ax uh) (by simp)) Sh) s1 fun d G2 H2 f2 n2 jX h2=>?_;refine kL (H:=G2) jE rfl (bT (k:=2) nd) (oF (k:=2) T.range (jP (xv 0 (show aq.rel G2 (.int c) c from rfl)) ax) (by lia) (by lia)) f2.g2
  (fun Gx i σ' H'=>∃G' d o2,aj Gx G'∧au H H1 G' H'∧H1 d=Option.none∧G' d=Option.none∧H' d=some (.dK (bc (dN i)))∧i≤(c-1).toNat∧σ'=[some (.int c),some (.ref d),o2]) ?_ ?_ ?_ ?_
 ·intro Gx H3 f3;exact⟨Gx,d,none,aj.refl _,f2.trans f3,n2,f3.sep _ _ jX h2,f3.h2 _ _ h2,eG _,rfl⟩
 ·rintro Gx i σ' H' ⟨G',d,o2,sx,fx,_⟩;exact sx.trans fx.g2
 ·rintro Gx i z σ' H' hz ⟨G',d,o2,sx,fx,n1,ng,hd,hi,rfl⟩ σ'' G3 H3 f3 ⟨vz,rz,rfl⟩;obtain⟨fE,_⟩:=xB hz;obtain⟨G4,s4,f4⟩:=au.wide sx fx.g2 f3;have ng4:=f4.sep _ _ ng hd;have mO:=f4.h2 _ _ hd;have kn:=(fx.trans f4).aX n1 ng4 mO;have rv:ic.rel (upd G4 d (.dK (bc (dN i)))) (.ref d) (dN i):=⟨d,rfl,aE⟩;refine qO (i:=1) (H:=upd G4 d (.dK (bc (dN i)))) nd (pO (Am T) hr (c:=(dN i,[(2,-1),(-2,-1)])) ⟨qm (by lia) (wQ i),by intro x hx;simp at hx;rcases hx with rfl|rfl<;>decide, .inr (by intro x hx;simp at hx;rcases hx with rfl|rfl<;>decide)⟩ (zH (xv 1 rv) (XD.cast (tN (xs:=[(2,-1),(-2,-1)]) (oK ax (fF ax) (oK (fF ax) (fF ax) uh)) (by simp)) XJ))) kn.g2 fun d5 G5 H5 f5 n5 n_ h5=>bp ?_;exact⟨G5,d5,_,sx.trans (f4.hg.trans ((aj.df ng4).trans f5.hg)),kn.trans f5,kn.bX n5,n_,h5,by assumption,rfl⟩
 ·rintro Gx σ' H' ⟨G',d,o2,sx,fx,n1,ng,hd,hi,rfl⟩;rw[kz]at hd;exact gD (i:=1) rfl (k d G' H' fx n1 ng hd)
theorem Qh:Def P w K mg base 1 "count_ones" ["state","bits"] (Fn (aO aa (aO aa bu)) aa (fun c=>c.2.1≤100) fun c=>bitsOf c.2.1 c.1):=by
 refine T.hs.Xu.mk CP (fun nd H1 vs Q E hr h=>?_);refine JS h fun H st n v0 v1 s1 h0 h1 hn k=>?_;have hn:n≤100:=hn;have h0:∀G,aa.rel G v0 st:=fun _=>h0;have h1:aa.rel H v1 n:=h1;refine a7 (XE.nat (EX T rfl (XN.xe (gh (own:=[("bit",2)]) (fun z:Int=>sgn (st.testBit z.toNat)) rfl nd (oF T.range (XE.int (xv 1 h1)) (by simp) (by lia)) (cK (by show cu CP (bE CT) _ _=true;decide)) (fun _ _ _ _ _=>bT (k:=2) nd) (dS (by decide)) (by rw[kz];lia) ?_))) ?_) s1 k
 ·rintro z G _ hz sg ⟨vz,rz,rfl⟩ s0 H0 C cl fp;obtain⟨zl,zh⟩:=oZ hz;obtain⟨j,rfl⟩:∃j:Nat,z=j:=⟨z.toNat,by lia⟩;exact XE.cast (Di (DF (by omega) (XE.int (xv 0 (h0 G))) (xv 2 rz)) ax) (by rw[D8 T st j,cF])
 ·show((ups 0 (n:Int).toNat).map fun z:Int=>sgn (st.testBit z.toNat)).sum=(bitsOf n st:Nat);unfold ups bitsOf;rw[cF,b7];exact CU st n
theorem E2:Def P w K mg base 2 "writhe" ["drawing"] (Fn (fu CC CD) aq (fun c=>ek c.1) fun c=>c.1.writhe):=by
 refine T.hs.writhe.mk D6 (fun nd H1 vs Q E hr h=>?_);refine DX h fun H d v0 s1 h0 hs k=>?_;have hs:d.x.length≤8:=hs;refine a7 (XE.cast (EX T rfl (XN.xe (gh (own:=[("crossing",1)]) Cross.sign rfl nd (du (bK T (xv 0 h0))) (cK (by show cu D6 (bE FI) _ _=true;decide)) (fun _ _ _ _ _=>bT (k:=1) nd) (dS (by decide)) (by show d.x.length≤30000;lia) ?_))) ?_) s1 k
 ·rintro y G _ hy sg ⟨vy,ry,rfl⟩ s0 H0 C cl fp;exact XE.cast (aK (Dj T) hr trivial (az (xv 1 ry))) rfl
 ·show(d.x.map Cross.sign).sum=d.writhe;unfold Dia.writhe;rw[Km.AS]
theorem TK:Def P w K mg base 4 "count_ways" ["drawing"] (wU (fu CC CD) (fun c=>ek c.1∧cH c.1) fun c=>eO c.1):=by
 refine T.hs.P0.mk ["drawing","size","ways","state","power","circles"] (fun nd H1 vs Q E hr h=>?_);refine DX h fun H d v0 s1 h0 hh k=>?_;obtain⟨hs,hA⟩:=hh;have hs:d.x.length≤8:=hs;have hA:cH d:=hA;have h0:(aA CC CD).rel H v0 d:=h0;refine br (i:=1) nd (XE.nat (cN T.len (bK T (xv 0 h0))) rfl) s1 fun v1 G2 H2 f2 r2=>?_;cases r2;have h0:=(aA CC CD).mono f2.hg h0;have hn8:d.n≤8:=hs;have hp8:2^d.n≤256:=BQ (by decide) hn8;refine cW (PS.ws (pq (i:=2) nd rfl (Or.inl rfl) OK) fun dd jA=>?_);have f3:=f2.new jA (.dT []);have rn:∀G,aa.rel G (.int ((d.n:Nat):Int)) d.n:=fun _=>rfl;refine kL jE rfl (bT nd) (oF (k:=3) T.range (XE.cast (Tz ⟨by simp,by lia,by decide⟩ ax (XE.int (xv 1 (rn G2)))) (by rw[cF,uR,Int.natCast_pow];rfl)) (Int.le_trans (by decide) (Int.natCast_nonneg _)) (Int.lt_of_le_of_lt (iZ.mpr hp8) (by decide))) f3.g2
  (fun Gx i σ' H'=>∃G' o3 o4 o5,aj Gx G'∧au H H1 G' H'∧G' dd= .none∧H' dd=some (.dT (c9 ((range i).foldl (gS d) [])))∧i≤2^d.n∧aj G2 Gx∧σ'=[some v0,some (.int ((d.n:Nat):Int)),some (.ref dd),o3,o4,o5]) ?_ ?_ ?_ ?_
 ·intro Gx H4 f4;exact⟨Gx,none,none,none,aj.refl _,f3.trans f4,f4.sep _ _ (f2.fI jA) aE,f4.h2 _ _ aE,eG _,f4.hg,rfl⟩
 ·rintro Gx i σ' H' ⟨G',o3,o4,o5,sx,fx,_⟩;exact sx.trans fx.g2
 ·rintro Gx i z σ' H' hz ⟨G',o3,o4,o5,sx,fx,ng,hd,hi,sG,rfl⟩ σ'' G3 H3 dm ⟨vz,rz,rfl⟩;obtain⟨fE,rfl⟩:=xB hz;rw[cF]at fE;obtain⟨G4,s4,f4⟩:=au.wide sx fx.g2 dm;have rz:∀G,aa.rel G vz i:=fun _=>by show vz=V.int (i:Int);rw[show vz=V.int (0+(i:Nat))from rz,mW]
  have h0:=(aA CC CD).mono (sG.trans (sx.trans f4.hg)) h0;have fx4:=fx.trans f4;have hS:Sm d:=by show d.x.length≤16;lia
  refine br (i:=4) nd (jP (XE.int (xv 1 (rn G4))) (jJ (.inl ⟨by decide,by decide⟩) ax (XE.int (aK (Qh T) hr (by show d.n≤100;lia) (aF (xv 3 (rz G4)) (az (xv 1 (rn G4)))))))) fx4.g2 fun v5 G5 H5 f5 r5=>?_;have h0:=(aA CC CD).mono f5.hg h0;refine br (i:=5) nd (aK (Iu T) hr ⟨hS,hA⟩ (aF (xv 0 h0) (az (xv 3 (rz G5))))) (fx4.trans f5).g2 fun v6 G6 H6 f6 r6=>?_;have f46:=f5.trans f6;have mO:=f4.h2 _ _ hd;have ng4:=f4.sep _ _ ng hd;have hd6:=f46.h2 _ _ mO;have jY:=f46.sep _ _ ng4 mO;cases r5;cases r6;generalize hxs:(range i).foldl (gS d) []=xs at hd mO hd6;have hlen:xs.length<1000:=by
   have:∀(l:List Nat)(acc:Tl),(l.foldl (gS d) acc).length≤acc.length+l.length:=by
    intro l;induction l with
    |nil=>intro acc;simp
    |cons a l ih=>
     intro acc;rw[gP];have:=ih (gS d acc a);have h2:(gS d acc a).length≤acc.length+1:=Tu _ _ _;rw[bZ]
     lia
   have:=this (range i) [];rw[hxs,gR]at this;simp at this
   lia
  have hR:=(fx4.trans f46);have kn:=hR.aX (f2.bX jA) jY hd6;have bA:Jm.rel (upd G6 dd (.dT (c9 xs))) (.ref dd) xs:=⟨dd,rfl,aE⟩;have rp:∀{G:Hp},aq.rel G (.int ((d.n:Int)-2*(bitsOf d.n i:Int))) ((d.n:Int)-2*(bitsOf d.n i:Int)):=rfl;have rc:∀{G:Hp},aq.rel G (.int ((d.circles i:Nat):Int)) (d.circles i:Int):=rfl;refine P_ (i:=2) (iE hr) rfl hd6 (cj (Wl (iE hr) (xv 2 bA) (jd (xv 4 rp) (xv 5 rc)) ax ⟨rfl,rfl,rfl,rfl⟩) ax) (jd (xv 4 rp) (xv 5 rc)) hlen kn.g2 fun G7 H7 f7=>bp ?_;obtain⟨f8,s8,n8,h8,g8⟩:=au.back hR (f2.bX jA) jY hd6 f7;refine⟨del G7 dd,_,_,_,sx.trans (f4.hg.trans (f46.hg.trans s8)),f8.put (f2.bX jA) n8 _,n8,?_,by assumption,sG,rfl⟩;rw[aE,jF,Bz,hxs];rfl
 ·rintro Gx σ' H' ⟨G',o3,o4,o5,sx,fx,ng,hd,hi,sG,rfl⟩;rw[kz,cF]at hd;exact gD (i:=2) rfl (k dd G' H' fx (f2.bX jA) hd)
end
end Kn
namespace Km
open Kb Kn
theorem Ir(f:Int→Int)(k v:Int):∀{xs:Pl},Nk xs→sm (dv xs k v) f=sm xs f-co xs k*f k+v*f k
 |[],_=>by simp[dv,sm,mr]
 |x::xs,h=>by
  have h':=h;unfold Nk at h';rw[a9,fY]at h';by_cases q:x.1=k
  ·have e:dv (x::xs) k v=(k,v)::xs:=by unfold dv;rw[ag ((xh _ _).mpr (by simp[q])),a9,ag q];congr 1;have:∀y∈xs,(if y.1=k then(k,v)else y)=y:=fun y hy=>af fun z=>h'.1 (aH.mpr ⟨y,hy,z.trans q.symm⟩);rw[ef this,yc]
   rw[e,fR,fR,gY,ag q,←q]
   lia
  ·have ih:=Ir f k v h'.2;have e:dv (x::xs) k v=x::dv xs k v:=by unfold dv;grind
   rw[e,fR,fR,ih,gY,af q]
   lia
theorem EG(h:Nk xs)(f:Int→Int)(k v:Int):sm (gk xs k v) f=sm xs f+v*f k:=by
 unfold gk;rw[Ir f k _ h,Int.add_mul]
 lia
def ev(xs:Pl):Int:=sm xs fun _=>1
theorem GJ(x:Int×Int):∀(ys:Pl){acc:Pl},Nk acc→ev (eB acc x ys)= ev acc+x.2*ev ys
 |[],acc,_=>by simp[eB,ev,sm]
 |y::ys,acc,h=>by
  show ev (eB (gk acc (x.1+y.1) (x.2*y.2)) x ys)=_;rw[GJ x ys (wN h _ _)];unfold ev;rw[EG h,fR,Int.mul_add]
  lia
theorem zp(xs ys:Pl):ev (gH xs ys)= ev xs*ev ys:=by
 have:∀(xs acc:Pl),Nk acc→ev (xs.foldl (fun acc x=>eB acc x ys) acc)= ev acc+ev xs*ev ys:=by
  intro xs;induction xs with
  |nil=>intro acc _;simp[ev,sm]
  |cons x xs ih=>
   intro acc h;rw[gP,ih _ (uc x ys h),GJ x ys h];have:ev (x::xs)=x.2+ev xs:=by unfold ev;rw[fR];simp
   grind
 have q:=this xs [] ou;rwa[show ev []=0 from rfl,mW]at q
theorem Ej:∀(ys:Pl){xs:Pl},Nk xs→ev (gr xs ys)= ev xs+ev ys
 |[],xs,_=>by simp[gr,ev,sm]
 |y::ys,xs,h=>by
  show ev (gr (gk xs y.1 y.2) ys)=_;rw[Ej ys (wN h _ _)];unfold ev;rw[EG h,fR]
  lia
theorem C5:∀n,(ev (dN n))%3=1
 |0=>rfl
 |n+1=>by
  show(ev (gH (dN n) [(2,-1),(-2,-1)]))%3=1;rw[zp,show ev [(2,-1),(-2,-1)]=-2 from rfl];have:=C5 n
  lia
def oU(xs:Tl):Prop:=(xs.map (·.1)).Nodup
def eU(xs:Tl)(F:Int×Int→Int):Int:=(xs.map fun x=>x.2*F x.1).sum
theorem pE(x:(Int×Int)×Int)(xs:Tl)(F:Int×Int→Int):eU (x::xs) F=x.2*F x.1+eU xs F:=by simp[eU]
theorem EY(xs:Tl)(k:Int×Int):(xs.any fun x=>decide (x.1=k))=true↔k∈xs.map (·.1):=by simp
theorem II(xs:Tl)(k:Int×Int)(v:Int):(fh xs k v).map (·.1)=if k∈xs.map (·.1)then xs.map (·.1)else xs.map (·.1)++[k]:=by
 unfold fh;by_cases h:k∈xs.map (·.1)
 ·rw[ag h,ag ((EY xs k).mpr h),b7];refine ef fun x _=>?_
  lia
 ·simp_all
theorem Q4(h:oU xs)(k:Int×Int)(v:Int):oU (fh xs k v):=by
 unfold oU;rw[II];split
 ·exact h
 ·rename_i q;rw[mY];refine⟨h,by simp,fun a ha b hb=>?_⟩;grind
theorem Dd(F:Int×Int→Int)(k:Int×Int)(v:Int):∀{xs:Tl},oU xs→eU (fh xs k v) F= eU xs F-(gq xs k).getD 0*F k+v*F k
 |[],_=>by simp[fh,eU,gq]
 |x::xs,h=>by
  have h':=h;unfold oU at h';rw[a9,fY]at h';by_cases q:x.1=k
  ·have e:fh (x::xs) k v=(k,v)::xs:=by unfold fh;rw[ag ((EY _ _).mpr (by simp[q])),a9,ag q];congr 1;have:∀y∈xs,(if y.1=k then(k,v)else y)=y:=fun y hy=>af fun z=>h'.1 (aH.mpr ⟨y,hy,z.trans q.symm⟩);rw[ef this,yc]
   have g:(gq (x::xs) k).getD 0=x.2:=by unfold gq;rw[jD,fZ q];rfl
   rw[e,pE,pE,g,←q]
   lia
  ·have ih:=Dd F k v h'.2;have e:fh (x::xs) k v=x::fh xs k v:=by unfold fh;grind
   have g:gq (x::xs) k=gq xs k:=by unfold gq;rw[jD,cU q]
   rw[e,pE,pE,ih,g]
   lia
def stK(d:Dia)(s:Nat):Int×Int:=((d.n:Int)-2*(bitsOf d.n s:Int),(d.circles s:Int))
theorem FW(d:Dia)(F:Int×Int→Int):∀(l:List Nat)(acc:Tl),oU acc→oU (l.foldl (gS d) acc)∧eU (l.foldl (gS d) acc) F= eU acc F+(l.map fun s=>F (stK d s)).sum
 |[],acc,h=>⟨h,by simp⟩
 |s::l,acc,h=>by
  obtain⟨h1,h2⟩:=FW d F l (gS d acc s) (Q4 h _ _);refine⟨h1,?_⟩;rw[gP,h2];have:eU (gS d acc s) F= eU acc F+F (stK d s):=by
   unfold gS;rw[Dd F _ _ h,Int.add_mul];show eU acc F-_+(_+1*F (stK d s))=_;unfold stK
   lia
  rw[this,a9,lI]
  lia
theorem Af(d:Dia)(F:Int×Int→Int):eU (eO d) F=((range (2^d.n)).map fun s=>F (stK d s)).sum:=by have:=(FW d F (range (2^d.n)) [] ou).2;rwa[show eU [] F=0 from rfl,mW]at this
theorem Vd(d:Dia):∀x∈eO d,1≤x.2∧x.2≤(2^d.n:Nat):=by
 have key:∀(l:List Nat)(acc:Tl),(∀x∈acc,1≤x.2)→∀x∈l.foldl (gS d) acc,1≤x.2:=by
  intro l;induction l with
  |nil=>intro acc h;exact h
  |cons s l ih=>
   intro acc h;refine ih _ fun x hx=>?_;unfold gS at hx;have hv:1≤(gq acc ((d.n:Int)-2*(bitsOf d.n s:Int),(d.circles s:Int))).getD 0+1:=by
    cases q:gq acc ((d.n:Int)-2*(bitsOf d.n s:Int),(d.circles s:Int))with
    |none=>decide
    |some v=>
     unfold gq at q;cases q2:acc.find? fun x=>decide (x.1=((d.n:Int)-2*(bitsOf d.n s:Int),(d.circles s:Int)))with
     |none=>rw[q2]at q;cases q
     |some y=>grind
   unfold fh at hx;grind
 have h1:=key (range (2^d.n)) [] (by simp);have hs:=Af d fun _=>1;have:((range (2^d.n)).map fun s=>(fun _:Int×Int=>1) (stK d s)).sum=((2^d.n:Nat):Int):=by
  generalize 2^d.n=N;induction N with
  |zero=>rfl
  |succ N ih=>rw[jF,eJ,wW,ih];simp
 rw[this]at hs;have le:∀(xs:Tl),(∀x∈xs,1≤x.2)→∀x∈xs,x.2≤eU xs fun _=>1:=by
  intro xs;induction xs with
  |nil=>intro _ x hx;cases hx
  |cons y xs ih=>
   intro h x hx;rw[pE];have nn:0≤eU xs fun _=>1:=by
    cases xs with
    |nil=>exact Int.le_refl _
    |cons z zs=>have:=ih (fun x hx=>h x (bW _ hx)) z (by simp);have:=h z (by simp);lia
   grind
 intro x hx;exact⟨h1 x hx,by rw[←hs];exact le _ h1 x hx⟩
def gC(total:Pl)(x:(Int×Int)×Int):Pl:=gr total (gH [(x.1.1,x.2)] (dN (x.1.2-1).toNat))
def brk(d:Dia):Pl:=(eO d).foldl gC []
theorem wj(e:Int):∀(l:Tl)(acc:Pl),Nk acc→Nk (l.foldl gC acc)∧co (l.foldl gC acc) e=co acc e+eU l (fun k=>co (dN (k.2-1).toNat) (e-k.1))∧ev (l.foldl gC acc)= ev acc+eU l (fun k=>ev (dN (k.2-1).toNat))
 |[],acc,h=>⟨h,by simp[eU],by simp[eU]⟩
 |x::l,acc,h=>by
  obtain⟨h1,h2,h3⟩:=wj e l (gC acc x) (wM _ h);refine⟨h1,?_,?_⟩
  ·rw[gP,h2];unfold gC;rw[Wv (IH _ _),yQ (xp _).1,fR,pE];simp only[sm,gQ,BP]
   lia
  ·rw[gP,h3];unfold gC;rw[Ej _ h,zp,pE];have:ev [(x.1.1,x.2)]=x.2:=by unfold ev;rw[fR];simp[sm]
   lia
theorem HG(f:Nat→Poly)(e:Int):∀(l:List Nat)(p:Poly),(l.foldl (fun p s=>p.plus (f s)) p).at_ e=p.at_ e+(l.map fun s=>(f s).at_ e).sum
 |[],p=>by simp
 |s::l,p=>by rw[gP,HG f e l,Xx,a9,lI];lia
theorem y9(d:Dia):Eqv (brk d) d.bracket:=by refine⟨(wj 0 (eO d) [] ou).1,fun e=>?_⟩;unfold brk;rw[(wj e (eO d) [] ou).2.1,mr,mW,Af];unfold Dia.bracket;rw[HG (fun s=>(term 1 ((d.n:Int)-2*(bitsOf d.n s:Int))).times (power loop (d.circles s-1))),lR (by simp;lia),mW];congr 1;refine ef fun s _=>?_;have h:=(zc (Ad 1 ((d.n:Int)-2*(bitsOf d.n s:Int))) (xp (d.circles s-1))).2 e;rw[yQ (xp _).1,fR]at h;simp only[sm,gQ,BP,Yq,uR]at h;rw[←h];unfold stK;simp only[];rw[show((d.circles s:Int)-1).toNat=d.circles s-1 by simp]
theorem B8(d:Dia):ev (brk d)%3≠0:=by
 unfold brk;rw[(wj 0 (eO d) [] ou).2.2,show ev []=0 from rfl,mW,Af];have:∀l:List Nat,((l.map fun s=>ev (dN ((stK d s).2-1).toNat)).sum-(l.length:Int))%3=0:=by
  intro l;induction l with
  |nil=>rfl
  |cons s l ih=>rw[a9,lI,bZ];have:=C5 ((stK d s).2-1).toNat;omega
 have q:=this (range (2^d.n));rw[gR]at q;have p3:∀n:Nat,(((2^n:Nat):Int))%3=1∨(((2^n:Nat):Int))%3=2:=by
  intro n;induction n with
  |zero=>exact .inl rfl
  |succ n ih=>rw[rQ,BS];lia
 have:=p3 d.n;omega
structure Nt(p:Poly):Prop where
 hd:∀x r,p.l=x::r→x≠0
 la:∀x r,p.l=r++[x]→x≠0
theorem IG(p:Poly):Nt p.neat:=by
 unfold Poly.neat;simp only;split
 ·exact⟨(fun x r h=>by cases h),(fun x r h=>by cases r<;>cases h)⟩
 ·constructor
  ·intro x r h;simp only at h;obtain⟨m,e3,e4⟩:=wL (dropZeros p.l).reverse;have e5:dropZeros p.l=(dropZeros (dropZeros p.l).reverse).reverse++replicate m 0:=by have:=congrArg List.reverse e3;grind
   rw[h]at e5;exact IL e5
  ·intro x r h;have:=congrArg List.reverse h;rw[Kt,Ks]at this;exact IL this
theorem Yd(d:Dia):Nt d.bracket:=by unfold Dia.bracket;obtain⟨N,hN⟩:∃N,2^d.n=N+1:=⟨2^d.n-1,by have:=Nat.two_pow_pos d.n;lia⟩;rw[hN,jF,Bz,gP,List.foldl_nil];unfold Poly.plus;exact IG _
theorem K8(d:Dia):Nt d.jones:=IG _
def oJ(d:Dia):Pl:=gH (brk d) [(-3*d.writhe,if d.writhe%2=0 then 1 else-1)]
theorem Iy(d:Dia):Eqv (oJ d) d.jones:=zc (y9 d) (Ad _ _)
theorem Me(d:Dia):ev (oJ d)%3≠0:=by
 unfold oJ;rw[zp];have h:=B8 d;have:ev [(-3*d.writhe,if d.writhe%2=0 then 1 else-1)]=if d.writhe%2=0 then 1 else-1:=by unfold ev;rw[fR];simp[sm]
 lia
theorem nonzero(h:Nk xs)(he:ev xs%3≠0):∃x∈xs,x.2≠0:=by
 apply pY;intro hn;apply he;have:∀ys:Pl,(∀x∈ys,x.2=0)→ev ys=0:=by
  intro ys;induction ys with
  |nil=>intro _;rfl
  |cons y ys ih=>intro hy;unfold ev;rw[fR,hy y (by simp)];have:=ih fun x hx=>hy x (bW _ hx);unfold ev at this;rw[this];rfl
 rw[this xs fun x hx=>pY fun h0=>hn ⟨x,hx,h0⟩];rfl
def l7(xs:Pl):List Int:=(xs.filter fun x=>!decide (x.2=0)).map (·.1)
theorem s_(h:Nk xs)(k:Int):k∈l7 xs↔co xs k≠0:=by
 unfold l7;induction xs with
 |nil=>simp[mr]
 |cons x xs ih=>
  unfold Nk at h;rw[a9,fY]at h;rw[gY,rJ];by_cases q:x.2=0
  ·rw[fZ q];simp only[uH,ed,c8];rw[ih h.2];by_cases z:x.1=k
   ·rw[ag z,q,yI (by rw[←z];exact h.1)]
   ·rw[af z]
  ·rw[cU q];simp only[Bool.not_false,dR,a9,a_];rw[ih h.2];by_cases z:x.1=k
   ·rw[ag z];exact⟨fun _=>q,fun _=> .inl z.symm⟩
   ·rw[af z];exact⟨fun hh=>hh.resolve_left fun e=>z e.symm, .inr⟩
theorem ends(E:Eqv xs p)(N:Nt p)(hz:∃x∈xs,x.2≠0):0<p.l.length∧p.low∈l7 xs∧(∀k∈l7 xs,p.low≤k)∧p.low+p.l.length-1∈l7 xs∧∀k∈l7 xs,k≤p.low+p.l.length-1:=by
 have hin:∀k,co xs k≠0→p.low≤k∧k<p.low+p.l.length:=fun k hk=>by rw[E.2]at hk;apply pY;intro hn;exact hk (lR (by omega))
 obtain⟨x,hx,hx0⟩:=hz;have hxk:x.1∈l7 xs:=aH.mpr ⟨x,dz.mpr ⟨hx,by simp[hx0]⟩,rfl⟩;have qU:0<p.l.length:=by have:=hin _ ((s_ E.1 _).mp hxk);lia
 refine⟨qU,?_,fun k hk=>(hin k ((s_ E.1 k).mp hk)).1,?_,fun k hk=>by have:=hin k ((s_ E.1 k).mp hk);lia⟩
 ·rw[s_ E.1,E.2];have:=vY (p:=p) (i:=0) qU;rw[show p.low+((0:Nat):Int)=p.low by simp]at this;rw[this];cases hl:p.l with
  |nil=>rw[hl]at qU;simp at qU
  |cons y r=>exact N.hd y r hl
 ·rw[s_ E.1,E.2];have:=vY (p:=p) (i:=p.l.length-1) (by omega);rw[show p.low+((p.l.length-1:Nat):Int)=p.low+p.l.length-1 by grind]at this;rw[this];have da:p.l≠[]:=fun z=>by rw[z]at qU;simp at qU
  have e:=List.dropLast_concat_getLast da;have:=N.la _ _ e.symm;rw[bC,←Za,List.getLast?_eq_getLast da];exact this
end Km
namespace Kn
open PySem PySem.Spec PyProof.Rows L2
open Kb (Cross Dia)
open Km (Pl Nk co gk gr eB gH dN brk gC oJ l7 Eqv)
theorem RX{rest:List Stmt}(h:XD X σ H e xs)(s:aj H H1)(k:∀d G H2,au H H1 G H2→H1 d=Option.none→G d=Option.none→H2 d=some (.dK (bc xs))→D.rt (.ref d) H2):WB X (.Return (some e) pos::rest) D σ H1:=
 cW (PS.ws (pG aJ) (h H1 s _ fun d G H2 f a b c=>k d G H2 f a b c))
theorem yR:∀{ys xs:Pl},cq M ys→cq M xs→cq M (gr xs ys)
 |[],_,_,h=>h
 |y::ys,xs,hy,h=>yR (ys:=ys) (fun z hz=>hy z (bW _ hz)) (F0 h (hy y (by simp)) _)
def Ay(x:(Int×Int)×Int):Prop:=-8≤x.1.1∧x.1.1≤8∧0≤x.1.2∧x.1.2≤21∧1≤x.2∧x.2≤256
theorem W0(js:List (Nat×Nat))(m:Nat):Kb.classes js m≤m:=by unfold Kb.classes leasts;exact cx (rM _ _) (by rw[gR];exact aY _)
theorem GI(h8:d.x.length≤8)(hc:d.c≤5):∀x∈eO d,Ay x:=by
 have key:∀(l:List Nat)(acc:Tl),(∀x∈acc,-8≤x.1.1∧x.1.1≤8∧0≤x.1.2∧x.1.2≤21)→∀x∈l.foldl (gS d) acc,-8≤x.1.1∧x.1.1≤8∧0≤x.1.2∧x.1.2≤21:=by
  intro l;induction l with
  |nil=>intro acc h;exact h
  |cons s l ih=>
   intro acc h;refine ih _ fun x hx=>?_;have hk:x.1∈(fh acc ((d.n:Int)-2*(bitsOf d.n s:Int),(d.circles s:Int)) ((gq acc ((d.n:Int)-2*(bitsOf d.n s:Int),(d.circles s:Int))).getD 0+1)).map (·.1):=aH.mpr ⟨x,hx,rfl⟩;rw[Km.II]at hk;have qS:x.1=((d.n:Int)-2*(bitsOf d.n s:Int),(d.circles s:Int))∨x.1∈acc.map (·.1):=by
    split at hk
    ·exact .inr hk
    ·rcases cE.mp hk with q|q
     ·exact .inr q
     ·exact .inl (rO.mp q)
   rcases qS with e|q
   ·rw[e];have b1:bitsOf d.n s≤d.n:=by unfold bitsOf;exact cx (rM _ _) (by rw[gR];exact aY _)
    have b2:d.circles s≤d.arcs+d.c:=by have:∀js:List (Nat×Nat),Kb.classes js d.arcs+d.c≤d.arcs+d.c:=fun js=>Nat.add_le_add_right (W0 js d.arcs) _;exact this _
    have b3:d.n≤8:=h8;have b4:d.arcs≤16:=by unfold Dia.arcs;lia
    simp
    lia
   ·obtain⟨y,hy,e⟩:=aH.mp q;rw[←e];exact h y hy
 intro x hx;have h1:=key (range (2^d.n)) [] (by simp) x hx;have h2:=Km.Vd d x hx;have:((2^d.n:Nat):Int)≤((256:Nat):Int):=iZ.mpr (BQ (by decide) h8:2^d.n≤2^8);exact⟨h1.1,h1.2.1,h1.2.2.1,h1.2.2.2,h2.1,Int.le_trans h2.2 this⟩
theorem El(h:Ay x):cq 50 (gH [(x.1.1,x.2)] (dN (x.1.2-1).toNat)):=by obtain⟨h1,h2,h3,h4,h5,h6⟩:=h;have:=yF (M:=8) (N:=2*(x.1.2-1).toNat) (xs:=[(x.1.1,x.2)]) (by intro y hy;simp at hy;subst hy;simp;simp[*]) (wQ _);exact qm (by omega) this
theorem vG(h8:d.x.length≤8)(hc:d.c≤5)(i:Nat):cq 50 (((eO d).take i).foldl gC [])∧Nk (((eO d).take i).foldl gC []):=by
 have:∀(l:Tl)(acc:Pl),(∀x∈l,Ay x)→cq 50 acc→Nk acc→cq 50 (l.foldl gC acc)∧Nk (l.foldl gC acc):=by
  intro l;induction l with
  |nil=>intro acc _ h1 h2;exact⟨h1,h2⟩
  |cons x l ih=>intro acc h0 h1 h2;exact ih _ (fun y hy=>h0 y (bW _ hy)) (yR (El (h0 x (by simp))) h1) (Km.wM _ h2)
 exact this _ [] (fun x hx=>GI h8 hc x (lH hx)) (by intro x hx;cases hx) ou
theorem Jn{H:Hp}(h:H d=Option.none)(o':Obj)(u':HO):H d≠some (.aX o' u'):=fun z=>by rw[h]at z;cases z
section
variable{K:Fg}(T:Txt K mg CC CD)
include T
theorem Eb:Def P w K mg base 5 "bracket" ["drawing"] (lN (fu CC CD) (fun c=>ek c.1∧cH c.1∧c.1.c≤5) fun c=>brk c.1):=by
 refine T.hs.bracket.mk Bj (@fun f bI A outer s nd H1 vs Q E hr h=>?_);refine DX h fun H d v0 s1 h0 hh k=>?_;obtain⟨hs,hA,hc⟩:=hh;have hs:d.x.length≤8:=hs;have hA:cH d:=hA;have hc:d.c≤5:=hc;have h0:(aA CC CD).rel H v0 d:=h0;refine qO (i:=1) nd zO s1 fun dt G2 H2 f2 n2 jX h2=>?_;have lu:=(aA CC CD).mono f2.hg h0;have wc:WE (ju g_ P w K mg base Bj "bracket" (bE Bb) f bI A outer s H1 E).kP (match(iH Bb).getD 1 (.Pass ⟨0,0,0,0⟩)with| .For _ (.Call (.Attribute e _ _) _ _ _) _ _ _=>e|_=> .Constant .none 0 ⟨0,0,0,0⟩) (List.set (L2.start Bj [v0]) 1 (some (.ref dt))) H2 (fun x H3=>∃dd,x= .ref dd∧H2 dd=Option.none∧H3 dd=some (.dT (c9 (eO d)))∧aj H2 H3):=
  pk (TK T) hr (az (xv 0 lu)) f2.g2 fun vs G H3 fw rv=>⟨G,(d,()),fw.g2,rv,⟨hs,hA⟩,fun dd G' H4 cP n4 h4=>⟨dd,rfl,fw.bX n4,h4,fw.h2.trans cP.h2⟩⟩
 refine VA (j:=2) (k:=3) rfl (gF (j:=2) (k:=3) rfl nd) (WE.mono wc fun x H3⟨dd,ex,n3,h3,s3⟩=>?_);have ntd:dt≠dd:=bB h2 n3;have n1dd:H1 dd=Option.none:=f2.bX n3;refine⟨dd,eO d,ex,h3,Jn n1dd,fun o i σ' H'=>∃(o2 o3 o4 o5 o6:Option V),σ'=[some v0,some (.ref dt),o2,o3,o4,o5,o6]∧H' dd=some (.aX o (.dT (c9 (eO d))))∧H' dt=some (.dK (bc (((eO d).take i).foldl gC [])))∧aj H1 H',fun o=>⟨?_,?_,?_,?_⟩⟩
 ·refine⟨none,none,none,none,none,rfl,aE,?_,?_⟩
  ·rw[aB ntd];exact s3 _ _ h2
  ·intro b ob hb;rw[aB (bB hb n1dd)];exact s3 _ _ (f2.h2 _ _ hb)
 ·rintro i σ' H' ⟨o2,o3,o4,o5,o6,rfl,q1,_⟩;exact q1
 ·rintro i y σ' H' T' q hy ⟨o2,o3,o4,o5,o6,rfl,q1,q2,q3⟩ hT hq;have hw:=GI hs hc y (fg hy);obtain⟨w1,w2,w3,w4,w5,w6⟩:=id hw;have hb:=vG hs hc i;generalize il:((eO d).take i).foldl gC []=acc at q2 hb;have sT:aj H' (upd H' T' (.tup [.ref q, .int y.2])):=aj.df hT;have t1:=sT _ _ q1;have t2:=sT _ _ q2;have t3:=q3.trans sT;have tq:=sT _ _ hq;generalize upd H' T' (.tup [.ref q, .int y.2])=H4 at t1 t2 t3 tq;have rq:(dF aq aq).rel H4 (.ref q) y.1:=⟨q,_,_,rfl,tq,rfl,rfl⟩;have Bo:([(y.1.1,y.2)]:Pl).foldl (fun acc x=>dv acc x.1 x.2) []=[(y.1.1,y.2)]:=rfl;refine qO (i:=4) (H:=H4) nd (pO (Am T) hr (c:=([(y.1.1,y.2)],dN (y.1.2-1).toNat)) ⟨by intro z hz;simp at hz;subst hz;simp only[];omega,qm (by omega) (wQ _), .inl (by intro z hz;simp at hz;subst hz;simp only[];omega)⟩ (zH (XD.xe (XD.cast (tN (xs:=[(y.1.1,y.2)]) (oK (u7 (xv 2 rq) ax) (xv 3 (show aq.rel H4 (.int y.2) y.2 from rfl)) uh) (by simp)) Bo)) (XD.cast (pO (LS T) hr (c:=(y.1.2,())) ⟨by show y.1.2≤40;omega,by show-1000≤y.1.2;omega⟩ (az (Em (xv 2 rq) ax))) rfl))) (aj.refl _) fun dp G5 H5 f5 n5 n_ h5=>?_;generalize JI:gH [(y.1.1,y.2)] (dN (y.1.2-1).toNat)=part at h5;have hpk:cq 50 part:=by rw[←JI];exact El hw
  have u1:=f5.h2 _ _ t1;have u2:=f5.h2 _ _ t2;have u3:=t3.trans f5.h2;have npd:dp≠dd:=fun z=>by rw[z,t1]at n5;cases n5
  have npt:dp≠dt:=fun z=>by rw[z,t2]at n5;cases n5
  have n1p:H1 dp=Option.none:=t3.free n5;refine AH (j:=5) (k:=6) rfl (gF (j:=5) (k:=6) rfl nd) (PE.we (pv 4) ⟨.ref dp,rfl,dp,part,rfl,h5,Jn n1p,fun o' i' σ' H'=>∃(o5 o6:Option V),σ'=[some v0,some (.ref dt),some (.ref q),some (.int y.2),some (.ref dp),o5,o6]∧H' dp=some (.aX o' (.dK (bc part)))∧H' dd=some (.aX o (.dT (c9 (eO d))))∧H' dt=some (.dK (bc (gr acc (part.take i'))))∧aj H1 H',fun o'=>⟨?_,?_,?_,?_⟩⟩)
  ·refine⟨_,_,rfl,aE,?_,?_,fun b ob fC=>?_⟩
   ·rw[aB (fun z=>npd z.symm)];exact u1
   ·rw[aB (fun z=>npt z.symm)];exact u2
   ·rw[aB (bB fC n1p)];exact u3 _ _ fC
  ·rintro i' σ' H' ⟨o5,o6,rfl,r1,_⟩;exact r1
  ·rintro i' x σ' H' T2 hx ⟨o5,o6,rfl,r1,r2,r3,r4⟩ ik;have sT2:aj H' (upd H' T2 (.tup [.int x.1, .int x.2])):=aj.df ik;have y1:=sT2 _ _ r1;have y2:=sT2 _ _ r2;have y3:=sT2 _ _ r3;have y4:=r4.trans sT2;generalize upd H' T2 (.tup [.int x.1, .int x.2])=H6 at y1 y2 y3 y4;have rt:ic.rel H6 (.ref dt) (gr acc (part.take i')):=⟨dt,rfl,y3⟩;have rx:aq.rel H6 (.int x.1) x.1:=rfl;have hl:(gr acc (part.take i')).length<1000:=by have:=zy (Km.wM (part.take i') hb.2) (yR (fun z hz=>hpk z (lH hz)) hb.1);omega
   refine Fl (i:=1) (H:=H6) (iE hr) rfl y3 (cj (rZ (iE hr) (xv 1 rt) (xv 5 rx) ax ⟨rfl,rfl,rfl,rfl⟩) (xv 6 (show aq.rel H6 (.int x.2) x.2 from rfl))) (xv 5 rx) hl (aj.refl _) fun G7 H7 f7=>bp ⟨_,_,rfl,?_,?_,?_,fun b ob fC=>?_⟩
   ·rw[aB npt];exact f7.h2 _ _ y1
   ·rw[aB (fun z=>ntd z.symm)];exact f7.h2 _ _ y2
   ·rw[aE];unfold gr;rw[vk hx];rfl
   ·rw[aB (bB fC n2)];exact f7.h2 _ _ (y4 _ _ fC)
  ·rintro σ' H' ⟨o5,o6,rfl,r1,r2,r3,r4⟩;rw[iX]at r3;refine bp ⟨_,_,_,_,_,rfl,?_,?_,fun b ob fC=>?_⟩
   ·rw[aB (fun z=>npd z.symm)];exact r2
   ·rw[aB (fun z=>npt z.symm),r3,vk hy,il];unfold gC;rw[JI]
   ·rw[aB (bB fC n1p)];exact r4 _ _ fC
 ·rintro σ' H' ⟨o2,o3,o4,o5,o6,rfl,q1,q2,q3⟩;rw[iX]at q2;have hS:aj H1 (upd H' dd (.dT (c9 (eO d)))):=fun b ob hb=>by rw[aB (bB hb n1dd)];exact q3 _ _ hb
  refine gD (i:=1) rfl (k dt H _ ⟨aj.refl _,s1.trans hS,hS,fun _ _ h _=>h⟩ n2 (s1.free n2) ?_);rw[aB ntd,q2];rfl
theorem Oz:Def P w K mg base 6 "jones" ["drawing"] (lN (fu CC CD) (fun c=>ek c.1∧cH c.1∧c.1.c≤5) fun c=>oJ c.1):=by
 refine T.hs.jones.mk ["drawing","total"] (fun nd H1 vs Q E hr h=>?_);refine DX h fun H d v0 s1 h0 hh k=>?_;obtain⟨hs,hA,hc⟩:=hh;have hs:d.x.length≤8:=hs;have h0:(aA CC CD).rel H v0 d:=h0;refine br (i:=1) nd (aK (E2 T) hr (c:=(d,())) hs (az (xv 0 h0))) s1 fun v1 G2 H2 f2 r2=>?_;cases r2;have h0:=(aA CC CD).mono f2.hg h0;have bA:aq.rel G2 (.int d.writhe) d.writhe:=rfl;have hw:-8≤d.writhe∧d.writhe≤8:=by
  unfold Dia.writhe;rw[Km.AS];have:∀l:List Cross,-(l.length:Int)≤(l.map Cross.sign).sum∧(l.map Cross.sign).sum≤l.length:=by
   intro l;induction l with
   |nil=>simp
   |cons y l ih=>
    rw[a9,lI,bZ];have:y.sign=-1∨y.sign=1:=by unfold Cross.sign;split<;>simp
    lia
  have:=this d.x
  lia
 have hbk:=vG hs hc (eO d).length;rw[iX]at hbk;refine RX (pO (Am T) hr (c:=(brk d,[(-3*d.writhe,if d.writhe%2=0 then 1 else-1)])) ⟨qm (by decide) hbk.1,by intro z hz;simp at hz;subst hz;simp only[];lia, .inr (by intro z hz;simp at hz;subst hz;simp only[];split<;>decide)⟩ (zH (XD.xe (XD.cast (pO (Eb T) hr (c:=(d,())) ⟨hs,hA,hc⟩ (az (xv 0 h0))) rfl)) (XD.cast (tN (xs:=[(-3*d.writhe,if d.writhe%2=0 then 1 else-1)]) (oK (jJ (.inl ⟨by decide,by decide⟩) (fF ax) (xv 1 bA)) (jh (dB (kI (by decide) (xv 1 bA) ax) ax) (fun q=>by rw[ag (gB q)];exact ax) fun q=>by rw[af (dH q)];exact fF ax) uh) (by simp)) rfl))) f2.g2 fun dd G3 H3 f3 n3 ng3 h3=>k dd G3 H3 (f2.trans f3) (f2.bX n3) ng3 h3
end
open Km (Pl Nk co l7 Eqv Nt)
theorem au.S7(f:au (upd H d a) (upd H1 d a) G H2)(h:H d=some u)(h1:H1 d=some u):au H H1 (upd G d u) (upd H2 d u):=by
 have up:∀{A B:Hp},A d=some u→aj (upd A d a) B→aj A (upd B d u):=fun{A B} hA s b o e=>by
  by_cases z:b=d
  ·subst z;rw[aE,←hA];exact e
  ·rw[aB z];exact s b o (by rw[aB z];exact e)
 refine⟨up h f.hg,fun b o e=>?_,up h1 f.h2,fun b o e1 e2=>?_⟩
 ·by_cases z:b=d
  ·subst z;rw[aE]at e⊢;exact e
  ·rw[aB z]at e⊢;exact f.g2 b o e
 ·have z:b≠d:=fun z=>by rw[z,h]at e1;cases e1
  rw[aB z];exact f.sep b o (by rw[aB z];exact e1) (by rw[aB z];exact e2)
theorem KU{K:Fg}(h:G d=some (.aX o (.dK (bc xs)))):xx (vO d o (bc xs)) (g2 K j k) G xs (B2 j k aq aq):=fun i H' sg=>by
 have hd:=sg _ _ h;have hlen:(bc xs).length=xs.length:=by simp[bc]
 refine⟨fun hi=>⟨hd,by rw[hlen];exact hi⟩,fun c hc=>⟨⟨hd,by rw[hlen];exact(d_.mp hc).1⟩,fun x bV⟨T,kx,v,fW,ex,hT,eH⟩=>?_⟩⟩;unfold bc at fW;rw[cz,hc]at fW;cases fW;subst ex eH;exact⟨G,(au.cf sg).new hT _,fun σ Q q=>qD aE (q _ ⟨_,_,rfl,rfl,rfl⟩)⟩
theorem Lk{rest:List Stmt}(f:Int×Int→Int)(c:Int×Int→Bool)(hc:X.calm=true)(hN:X.N.Nodup)(h:XE X σ H e ic xs)(s:aj H H1)(ok:jO X.N X.env.scope scope own)(hg:∀s H C cl fp,PG (hX X scope s H C cl fp) (.Tuple elts kk cg) (g2 X.K j k))(hO:Own (B2 j k aq aq) (own.map (·.2)))(hl:xs.length≤30000)(hn:∀d o' u',H1 d=some (.dK (bc xs))∨H1 d=Option.none→X.kb d≠some (.aX o' u'))(ht:∀x G σ',x∈xs→B2 j k aq aq x G (wipe σ (own.map (·.2))) σ'→pN X scope σ' G ifs (c x))(he:∀x G σ',x∈xs→c x=true→B2 j k aq aq x G (wipe σ (own.map (·.2))) σ'→XB X scope σ' G elt aq (f x))(kx:∀v G H2,au H H1 G H2→ay.rel G v ((xs.filter c).map f)→WB X rest D (σ.set i (some v)) H2)(dQ:X.N[i]?=some x:=by rfl)(lh:X.env.scope.names.lookup x=some .local:=by rfl)(dk:swapsWith (.ListComp elt [⟨.Tuple elts kk cg, .Call (.Attribute e "items" ap) [] [] cp,ifs,0⟩] scope p') (some (.Name x p)) pos.line X.env=pure true:=by exact vX rfl rfl rfl rfl)(dW:AB X e "items":=by rfl)(dX:(ap.endLine==cp.line)=true:=by rfl)(hs:∀x,foldedSetIterable (.Call (.Attribute e "items" ap) [] [] cp) X.env x=pure x:=by intro _;rfl):WB X (.Assign [.Name x p] (.ListComp elt [⟨.Tuple elts kk cg, .Call (.Attribute e "items" ap) [] [] cp,ifs,0⟩] scope p') pos::rest) D σ H1:=by
 refine cW (PS.ws (Ez (te:=BE X scope elt) (tt:=tR X scope ifs) hc hN dQ lh dk (AN aJ dW dX) ok hg (fun s0 H0 C cl fp pins s' σ' H' Q' I q=>q s0 H0 C cl fp pins s' I) (fun s0 H0 C cl fp pins s' σ' H' Q' I q=>q s0 H0 C cl fp pins s' I) hs) (h H1 s _ fun v G H2 fw rv=>?_));obtain⟨d,rfl,hd⟩:=rv;have hd2:=fw.g2 _ _ hd;refine⟨d,rfl, .inl ⟨bc xs,hd2,fun o=>?_⟩⟩;have sl:aj (upd G d (.aX o (.dK (bc xs)))) (upd H2 d (.aX o (.dK (bc xs)))):=fun b ob e=>by
  by_cases z:b=d
  ·subst z;rw[aE]at e⊢;exact e
  ·rw[aB z]at e⊢;exact fw.g2 b ob e
 refine yH (Q:=fun v H3=>WB X rest D (σ.set i (some v)) H3) hO sl (KU aE) hl (fun x G' σ' m sG b=>ht x G' σ' m b) (fun x G' σ' m hx sG b=>he x G' σ' m hx b) ?_;intro l us G3 H3 f3 n3 ng3 h3 pr3;have e:=qd pr3;have nld:l≠d:=fun z=>by rw[z,aE]at n3;cases n3
 refine AE (f3.h2 _ _ aE) (fun o' u' z=>?_) ?_
 ·refine hn d o' u' ?_ z;cases q:H1 d with
  |none=>exact .inr rfl
  |some ob=>
   have:=fw.h2 _ _ q
   lia
 have f4:=au.S7 f3 hd hd2;have n1l:H2 l= .none:=by rw[aB nld]at n3;exact n3
 have f5:=f4.aX n1l (by rw[aB nld];exact ng3) (by rw[aB nld];exact h3);exact kx _ _ _ (fw.trans f5) ⟨l,us,rfl,aE,by rw[e];exact xA _⟩
structure qf(xs:Pl)(p:Kb.Poly):Prop where
 eqv:Eqv xs p
 nt:Nt p
 nz:∃x∈xs,x.2≠0
 iO:cq 100 xs
def QZ:Rp (Kb.Poly):=⟨fun H v p=>∃xs,qf xs p∧ic.rel H v xs,fun s⟨xs,t,h⟩=>⟨xs,t,ic.mono s h⟩⟩
def kT(p:Kb.Poly):List Int:=(p.l.length:Int)::p.low::p.l
theorem V2(t:qf xs p):(ups p.low (p.low+p.l.length-1+1-p.low).toNat).map (fun k=>co xs k)=p.l:=by unfold ups;rw[b7,show(p.low+(p.l.length:Int)-1+1-p.low).toNat=p.l.length by lia];symm;refine zj rfl fun i hi=>?_;simp only[Function.comp];rw[t.eqv.2,Km.vY hi]
section
variable{K:Fg}(T:Txt K mg CC CD)
include T
theorem Il:Def P w K mg base 1 "numbers_told" ["polynomial"] (Fn (aO QZ bu) ay (fun _=>True) fun c=>kT c.1):=by
 refine T.hs.LR.mk zk (fun nd H1 vs Q E hr h=>?_);obtain⟨H,⟨p,_⟩,s1,⟨v0,_,rfl,⟨xs,t,d,rfl,hd⟩,rfl⟩,_,k⟩:=h;have t:qf xs p:=t;obtain⟨e0,e1,e2,e3,e4⟩:=Km.ends t.eqv t.nt t.nz;have hd1:=s1 _ _ hd;have hkl:=zy t.eqv.1 t.iO;have mK:-100≤p.low∧p.low≤100:=by
  obtain⟨x,hx,e⟩:=aH.mp e1;have:=t.iO x (dz.mp hx).1
  lia
 have hhi:-100≤p.low+(p.l.length:Int)-1∧p.low+(p.l.length:Int)-1≤100:=by obtain⟨x,hx,e⟩:=aH.mp e3;have:=t.iO x (dz.mp hx).1;omega
 refine Lk (i:=1) (own:=[("power",3),("number",4)]) (j:=3) (k:=4) (fun c=>c.1) (fun c=>!decide (c.2=0)) rfl nd (xv 0 ⟨d,rfl,hd⟩) s1 (cK (by show cu zk (bE yS) _ _=true;decide)) (fun _ _ _ _ _=>gF (j:=3) (k:=4) rfl nd) (yU (j:=3) (k:=4) (by decide) (by decide)) (by lia) (fun d' o' u' z z'=>?_) ?_ ?_ ?_
 ·have z':H1 d'=some (.aX o' u'):=z';rw[z']at z;rcases z with z|z<;>cases z
 ·rintro⟨a,b⟩ G _ hm ⟨va,vb,ra,rb,rfl⟩;exact l9 fun s0 H0 C cl fp=>kR (xv 4 rb) ax
 ·rintro⟨a,b⟩ G _ hm hc ⟨va,vb,ra,rb,rfl⟩ s0 H0 C cl fp;exact xv 3 ra
 intro v5 G5 H5 f5 rp;have rd:ic.rel G5 (.ref d) xs:=⟨d,rfl,f5.hg _ _ hd⟩;refine sI (i:=2) (own:=[("power",3)]) (S:=aq) (fun k:Int=>co xs k) rfl nd (zR T.range (A_ T rfl (xv 1 rp) e1 e2) (cj (wI T rfl (xv 1 rp) e3 e4) ax) (by grind)) f5.g2 (cK (by show cu zk (bE yS) _ _=true;decide)) (fun _ _ _ _ _=>bT (k:=3) nd) (dS (by decide)) (by rw[kz];lia) ?_ ?_
 ·rintro z G6 _ hz sg ⟨vz,rz,rfl⟩ s0 H0 C cl fp;exact rZ (iE hr) (xv 0 (ic.mono sg rd)) (xv 3 rz) ax ⟨rfl,rfl,rfl,rfl⟩
 ·intro v2 G6 H6 f6 r6;rw[V2 t]at r6;have rp:=ay.mono f6.hg rp;exact a7 (XE.cast (XN.xe (qG (XN.xe (a5 (aV (cN T.len (xv 2 r6)) (aV (A_ T rfl (xv 1 rp) e1 e2) aZ)))) (xv 2 r6) (by simp;lia))) rfl) (f5.trans f6).g2 fun y G7 H7 f7 r7=>k y G7 H7 ((f5.trans f6).trans f7) r7
end
end Kn
namespace Km
open PySem PySem.W PyProof.Rows
section
variable{O:KeyOrd}{key:Nat→O.α}{N:Nat}{s:Shared}{p:Array Nat}
def pc(O:KeyOrd)(key:Nat→O.α)(N:Nat)(i j:Nat)(C:Bool→Shared→Prop)(s:Shared):Prop:=i<N∧j<N∧C (O.blt (key i) (key j)) s
def Ky(key:Nat→O.α)(p:Array Nat)(i:Nat):O.α:=key (p.getD i 0)
def dO(N:Nat)(p:Array Nat):Prop:=p.toList.Perm (range N)
theorem dO.size(h:dO N p):p.size=N:=by rw[←iq,h.length_eq,gR]
theorem dO.lt(h:dO N p)(hi:i<N):p.getD i 0<N:=by
 have hs:=h.size;have:p.getD i 0∈p.toList:=by simp_all
 exact bQ.mp (h.mem_iff.mp this)
theorem sD(h:p[i]?=q[j]?):Ky key p i=Ky key q j:=by unfold Ky;simp_all
theorem tJ(hb:b≤p.size)(k:Nat):Ky key (kas_rev p a b) k=if a≤k∧k<b then Ky key p (a+b-1-k)else Ky key p k:=by
 have e:=getElem?_mirror_all (i:=a) hb k;by_cases c:a≤k∧k<b
 ·rw[ag c]at e⊢;exact sD e
 ·rw[af c]at e⊢;exact sD e
theorem dO.rev(h:dO N p)(a b:Nat):dO N (kas_rev p a b):=(mirror_perm p a b _).toList.trans h
theorem dO.PK(h:dO N p)(a b:Nat):dO N (bubble p a b):=(bubble_perm p a b).toList.trans h
def Up(key:Nat→O.α)(p:Array Nat)(a m:Nat):Prop:=∀k,a≤k→k<m→O.kle (Ky key p (k-1)) (Ky key p k)
def qN(key:Nat→O.α)(p:Array Nat)(m:Nat):Prop:=∀i j,i≤j→j<m→O.kle (Ky key p i) (Ky key p j)
theorem Up.rW(h:Up (O:=O) key p 1 m):qN (O:=O) key p m:=by
 intro i j iS;induction iS with
 |refl=>intro _;exact yj _
 | @step j iS ih=>intro hj;have:=h (j+1) (by simp) hj;exact yk (ih (by exact qW ‹_›)) this
theorem y8(hp:dO N p):∀(f n:Nat),1≤n→n+f≤N→(∀m,n≤m→m≤n+f→Up (O:=O) key p n m→(m<n+f→O.klt (Ky key p m) (Ky key p (m-1)))→Q m s)→(kas_asc p f n).kasWp (pc O key N) Q s
 |0,n,h1,hn,k=>k n (aY _) (aY _) (fun k a b=>by lia) (fun h=>by simp_all)
 |f+1,n,h1,hn,k=>by
  refine⟨hp.lt (by lia),hp.lt (by lia),?_⟩;show(if O.blt (Ky key p n) (Ky key p (n-1))=true then KasT.ret n else kas_asc p f (n+1)).kasWp (pc O key N) Q s;by_cases c:O.blt (Ky key p n) (Ky key p (n-1))=true
  ·rw[ag c];exact k n (aY _) (by simp) (fun k a b=>by lia) (fun _=>c)
  ·rw[af c];refine y8 hp f (n+1) (by simp) (by lia) fun m a b u w=>k m (by exact qW ‹_›) (by lia) (fun k' a' b'=>?_) (fun z=>w (by lia));by_cases z:k'=n
   ·subst z;exact KI c
   ·exact u k' (by lia) b'
structure Dn(key:Nat→O.α)(N:Nat)(p:Array Nat)(n q:Nat):Prop where
 pm:dO N p
 dn:∀k,1≤k→k<n→O.kle (Ky key p k) (Ky key p (k-1))
 hq:q+1≤n
 eq:∀k,n-q≤k→k<n→Ky key p k=Ky key p (k-1)
theorem Dn.same(h:Dn (O:=O) key N p n q)(hn:n≤N)(k:Nat):Ky key (kas_rev p (n-(q+1)) n) k=Ky key p k:=by
 have hs:=h.pm.size;have al:∀d,d≤q→Ky key p (n-1-d)=Ky key p (n-1):=by
  intro d;induction d with
  |zero=>intro _;rfl
  |succ d ih=>
   intro hd;have e:=h.eq (n-1-d) (by omega) (by have:=h.hq;omega)
   lia
 rw[tJ (by simp[*])];by_cases c:n-(q+1)≤k∧k<n
 ·rw[ag c];have e1:=al (n-1-k) (by omega);have e2:=al (n-1-(n-(q+1)+n-1-k)) (by omega);grind
 ·grind
theorem Dn.rev(h:Dn (O:=O) key N p n q)(hn:n≤N):Dn (O:=O) key N (kas_rev p (n-(q+1)) n) n 0:=
 ⟨h.pm.rev _ _,fun k a b=>by rw[h.same hn,h.same hn];exact h.dn k a b,by have:=h.hq;lia,fun k a b=>by lia⟩
theorem vM:∀(f:Nat)(p:Array Nat)(n q:Nat),Dn (O:=O) key N p n q→n+f≤N→(∀p' n' q',n'≤n+f→Dn (O:=O) key N p' n' q'→Q (p',n',q') s)→(kas_desc f p n q).kasWp (pc O key N) Q s
 |0,p,n,q,h,hn,k=>k p n q (aY _) h
 |f+1,p,n,q,h,hn,k=>by
  have hq:=h.hq;refine⟨h.pm.lt (by lia),h.pm.lt (by lia),?_⟩;show(if O.blt (Ky key p n) (Ky key p (n-1))=true then(if q>0 then kas_desc f (kas_rev p (n-(q+1)) n) (n+1) 0 else kas_desc f p (n+1) 0)
   else KasT.ask (p.getD (n-1) 0) (p.getD n 0) fun d=>if d=true then .ret (p,n,q)else kas_desc f p (n+1) (q+1)).kasWp (pc O key N) Q s
  by_cases c:O.blt (Ky key p n) (Ky key p (n-1))=true
  ·rw[ag c];have le:O.kle (Ky key p n) (Ky key p (n-1)):=KJ c;by_cases c2:q>0
   ·rw[ag c2];have h':=h.rev (by lia);refine vM f _ (n+1) 0 ⟨h'.pm,fun k a b=>?_,by simp,fun k a b=>by lia⟩ (by lia) fun p' n' q' a b=>k p' n' q' (by lia) b;by_cases z:k=n
    ·subst z;rw[h.same (by lia),h.same (by lia)];exact le
    ·exact h'.dn k a (by lia)
   ·rw[af c2];refine vM f _ (n+1) 0 ⟨h.pm,fun k a b=>?_,by omega,fun k a b=>by lia⟩ (by lia) fun p' n' q' a b=>k p' n' q' (by lia) b;by_cases z:k=n
    ·subst z;exact le
    ·exact h.dn k a (by lia)
  ·rw[af c];refine⟨h.pm.lt (by lia),h.pm.lt (by lia),?_⟩;show(if O.blt (Ky key p (n-1)) (Ky key p n)=true then .ret (p,n,q)else kas_desc f p (n+1) (q+1)).kasWp (pc O key N) Q s;by_cases c2:O.blt (Ky key p (n-1)) (Ky key p n)=true
   ·rw[ag c2];exact k p n q (by simp) h
   ·rw[af c2];have e:Ky key p n=Ky key p (n-1):=O.total _ _ (by simpa using c) (by simpa using c2);refine vM f p (n+1) (q+1) ⟨h.pm,fun k a b=>?_,by simp[*],fun k a b=>?_⟩ (by lia) fun p' n' q' a b=>k p' n' q' (by lia) b
    ·by_cases z:k=n
     ·subst z;rw[e];exact yj _
     ·exact h.dn k a (by lia)
    ·by_cases z:k=n
     ·subst z;exact e
     ·exact h.eq k (by simp_all) (by lia)
theorem FA(h:Dn (O:=O) key N p n 0)(hn:n≤N)(k:∀m p',m≤N→1≤m→dO N p'→Up (O:=O) key p' 1 m→Q (m,p') s):(kas_tail3 n N p).kasWp (pc O key N) Q s:=by
 unfold kas_tail3;rw[KasT.kasWp_bind];have hs:=h.pm.size;have hq:=h.hq;refine y8 (h.pm.rev 0 n) (N-n) n (by omega) (by simp[*]) fun m a b u w=>?_;refine k m _ (by simp_all) (by lia) (h.pm.rev 0 n) fun i i1 i2=>?_;by_cases c:i<n
 ·rw[tJ (by simp[*]),tJ (by simp[*]),ag ⟨by simp,by lia⟩,ag ⟨by simp,c⟩];have:=h.dn (n-i) (by lia) (by grind);grind
 ·exact u i (by simp_all) i2
theorem Ck(hp:dO N p)(h1:1≤n)(hn:n+1≤N)(he:∀k,1≤k→k<n→Ky key p k=Ky key p (k-1))(hl:O.klt (Ky key p n) (Ky key p (n-1)))(k:∀m p',m≤N→1≤m→dO N p'→Up (O:=O) key p' 1 m→Q (m,p') s):(kas_descPart n N p).kasWp (pc O key N) Q s:=by
 unfold kas_descPart;rw[KasT.kasWp_bind];refine vM (N-(n+1)) p (n+1) 0 ⟨hp,fun i a b=>?_,by simp,fun i a b=>by lia⟩ (by simp[*]) fun p' n' q' a b=>?_
 ·by_cases z:i=n
  ·subst z;exact KJ hl
  ·rw[he i a (by lia)];exact yj _
 ·show(if q'>0 then kas_tail3 n' N (kas_rev p' (n'-(q'+1)) n')else kas_tail3 n' N p').kasWp (pc O key N) Q s;by_cases c:q'>0
  ·rw[ag c];exact FA (b.rev (by simp_all)) (by simp_all) k
  ·rw[af c];have:q'=0:=by simp_all
   subst this;exact FA b (by simp_all) k
theorem NX(hp:dO N p)(h1:1≤N)(k:∀m p',m≤N→1≤m→dO N p'→Up (O:=O) key p' 1 m→Q (m,p') s):(kas_count N p).kasWp (pc O key N) Q s:=by
 unfold kas_count;rw[KasT.kasWp_bind];have hs:=hp.size;refine y8 hp (N-1) 1 (aY _) (by simp[*]) fun m a b u w=>?_;by_cases c:(m==N)=true
 ·rw[ag c];exact k m p (by simp_all) a hp u
 ·rw[af c];have hm:m<N:=by
   lia
  have hl:=w (by simp[*]);by_cases c2:m>1
  ·rw[ag c2];refine⟨hp.lt ‹_›,hp.lt (by lia),?_⟩;show(if O.blt (Ky key p 0) (Ky key p (m-1))=true then .ret (m,p)else kas_descPart m N (kas_rev p 0 m)).kasWp (pc O key N) Q s;by_cases c3:O.blt (Ky key p 0) (Ky key p (m-1))=true
   ·rw[ag c3];exact k m p (by simp_all) a hp u
   ·rw[af c3];have sr:=u.rW;have al:∀i,i<m→Ky key p i=Ky key p 0:=fun i hi=>by have e1:=sr 0 i (eG _) hi;have e2:=sr i (m-1) (by lia) (by lia);have e3:O.kle (Ky key p (m-1)) (Ky key p 0):=KI c3;exact KeyOrd.kle_antisymm (yk e2 e3) e1
    have rv:∀i,i<m→Ky key (kas_rev p 0 m) i=Ky key p 0:=fun i hi=>by rw[tJ (by simp_all),ag ⟨by simp,hi⟩];grind
    refine Ck (hp.rev 0 m) (by omega) hm (fun i i1 i2=>by rw[rv i i2,rv (i-1) (by omega)]) ?_ k;rwa[rv (m-1) (by lia),tJ (by simp_all),af (by simp),←al (m-1) (by lia)]
  ·rw[af c2];exact Ck hp a hm (fun i i1 i2=>by lia) hl k
theorem Be(hp:dO N p)(hk:k<N)(hs:qN (O:=O) key p k)(kk:∀l,l≤k→(∀i,i<l→O.kle (Ky key p i) (Ky key p k))→(∀i,l≤i→i<k→O.kle (Ky key p k) (Ky key p i))→Q l s):
  ∀(f l r:Nat),l≤r→r≤k→r-l≤f→(∀i,i<l→O.kle (Ky key p i) (Ky key p k))→(∀i,r≤i→i<k→O.kle (Ky key p k) (Ky key p i))→(kas_place p k f l r).kasWp (pc O key N) Q s
 |0,l,r,h1,h2,h3,a,b=>kk l (by lia) a fun i i1 i2=>b i (by lia) i2
 |f+1,l,r,h1,h2,h3,a,b=>by
  unfold kas_place;by_cases c:l≥r
  ·rw[ag c];exact kk l (by lia) a fun i i1 i2=>b i (by lia) i2
  ·rw[af c];refine⟨hp.lt hk,hp.lt (by lia),?_⟩;show(if O.blt (Ky key p k) (Ky key p ((l+r)/2))=true then kas_place p k f l ((l+r)/2)else kas_place p k f ((l+r)/2+1) r).kasWp (pc O key N) Q s;by_cases c2:O.blt (Ky key p k) (Ky key p ((l+r)/2))=true
   ·rw[ag c2];refine Be hp hk hs kk f l _ (by lia) (by lia) (by grind) a fun i i1 i2=>?_;exact yk (KJ c2) (hs _ _ i1 i2)
   ·rw[af c2];refine Be hp hk hs kk f _ r (by lia) h2 (by grind) (fun i i1=>?_) b;exact yk (hs i ((l+r)/2) (by lia) (by lia)) (KI c2)
theorem Cy(kk:∀p',dO N p'→qN (O:=O) key p' N→Q p' s):∀(f:Nat)(p:Array Nat)(k:Nat),dO N p→k+f=N→qN (O:=O) key p k→(kas_bin f p k).kasWp (pc O key N) Q s
 |0,p,k,hp,e,hs=>kk p hp (by rw[←e];exact hs)
 |f+1,p,k,hp,e,hs=>by
  unfold kas_bin;rw[KasT.kasWp_bind];have hz:=hp.size;refine Be hp (by lia) hs (fun l hl a b=>?_) k 0 k (eG _) (aY _) (by simp) (fun i hi=>by simp_all) (fun i i1 i2=>by lia);refine Cy kk f _ (k+1) (hp.PK _ _) (by lia) fun i j iS hj=>?_;have ky:∀i,Ky key (bubble p k (k-l)) i=if i=l then Ky key p k else if l<i∧i≤k then Ky key p (i-1)else Ky key p i:=fun i=>by
   have e:=getElem?_bubble (xs:=p) (src:=k) (by lia) (k-l) (by simp) i;rw[show k-(k-l)=l by lia]at e;by_cases c1:i=l
   ·rw[ag c1]at e⊢;exact sD e
   ·rw[af c1]at e⊢;by_cases c2:l<i∧i≤k
    ·rw[ag c2]at e⊢;exact sD e
    ·rw[af c2]at e⊢;exact sD e
  rw[ky i,ky j];by_cases i1:i=l
  ·rw[ag i1];by_cases j1:j=l
   ·rw[ag j1];exact yj _
   ·grind
  ·rw[af i1];by_cases i2:l<i∧i≤k
   ·rw[ag i2,af (by lia),ag ⟨by lia,by lia⟩];exact hs _ _ (by lia) (by lia)
   ·rw[af i2];by_cases j1:j=l
    ·grind
    ·rw[af j1];by_cases j2:l<j∧j≤k
     ·rw[ag j2];exact hs _ _ (by grind) (by grind)
     ·rw[af j2];exact hs _ _ iS (by lia)
theorem NB(h1:1≤N)(kk:∀p',dO N p'→qN (O:=O) key p' N→Q p' s):(kas_sort N).kasWp (pc O key N) Q s:=by
 unfold kas_sort;rw[KasT.kasWp_bind];refine NX (by unfold dO;exact uM _) h1 fun m p' a b c u=>?_;by_cases z:m<N
 ·rw[ag z,show max m 1=m by simp[*]];exact Cy kk _ _ _ c (by simp[*]) u.rW
 ·rw[af z];have:m=N:=by lia
  subst this;exact kk p' c u.rW
theorem E6(h:∀i j C,i<N→j<N→C (O.blt (key i) (key j)) s→cmp i j C s):∀(t:KasT α),t.kasWp (pc O key N) Q s→t.kasWp cmp Q s
 | .ret _,q=>q
 | .ask i j k,⟨h1,h2,q⟩=>h i j _ h1 h2 (E6 h (k _) q)
end
end Km
namespace PySem.SeqAt
open AutoSeq1 (wpAny_loadPart')
open MeetsSeq MeetsSeq2 MeetsSeq3 SeqRoads2 PyProof.Rows
@[reducible] def lL:KeyOrd where
 α:=Int
 blt a b:=decide (a<b)
 irrefl a:=by simp
 trans a b c h1 h2:=by simp only[dA]at*;lia
 negTrans a b c h:=by
  simp only[dA]at*
  lia
 total a b h1 h2:=by simp only[oA]at*;lia
@[reducible] def p5:KeyOrd:=listOrd lL
theorem ints_get(h:IntsAre vs as):∀(i:Nat)(hi:i<vs.length)(dQ:i<as.length),∃t,vs[i]= .int as[i] t:=by
 induction h with
 |nil=>intro i hi;cases hi
 |cons a t r ih=>
  intro i hi dQ;cases i with
  |zero=>exact⟨t,rfl⟩
  |succ i=>exact ih i (by simpa using hi) (by simpa using dQ)
theorem PV(l b:Addr)(items gM:Array Value)(n n2:Nat)(as bs:List Int)(ha:IntsAre items.toList as)(fC:IntsAre gM.toList bs)(k:Nat):
  ∀i:Nat,items.size-i=k→i≤items.size→i≤gM.size→Meets (Builtin.«list.__eq__.loop» ⟨[.ref l, .ref b,rawInt i,rawInt 0],[]⟩)
   (fun A R s=>s.heap.get? l=some (seqObj "list" items n)∧s.heap.get? b=some (seqObj "list" gM n2)∧
    R (.ok (.ret (.bool (PyProof.Rows.lexLt lL (as.drop i) (bs.drop i))))) s):=by
 have la:as.length=items.size:=by rw[←ha.length,iq]
 have lb:bs.length=gM.size:=by rw[←fC.length,iq]
 induction k with
 |zero=>
  intro i hk h1 h2 prog w A R s h;obtain⟨hp,g,d,tk,os⟩:=s;obtain⟨hl,hb,h⟩:=h
  wp_walk using j_ hl,j_ hb;have hi1:items[((i:Nat):Int).toNat]?=none:=by simp;lia
  have hd:as.drop i=[]:=by rw[KL];lia
  rw[hd]at h;rw[hi1]
  wp_walk using j_ hl,j_ hb;show R (.ok (.ret (.bool (decide (items.size<gM.size))))) _;by_cases c:i<gM.size
  ·have hd2:bs.drop i=bs[i]'(by simp[*])::bs.drop (i+1):=rG (by simp[*]);rw[hd2]at h;rw[fZ (by lia)];exact h
  ·have hd2:bs.drop i=[]:=by rw[KL];lia
   rw[hd2]at h;rw[cU (by lia)];exact h
 |succ k ih=>
  intro i hk h1 h2 prog w A R s h;obtain⟨hp,g,d,tk,os⟩:=s;obtain⟨hl,hb,h⟩:=h
  wp_walk using j_ hl,j_ hb;have bw:i<items.size:=by lia
  have hi1:items[((i:Nat):Int).toNat]?=some items[i]:=by simp[bw]
  have hd:as.drop i=as[i]'(by simp[*])::as.drop (i+1):=rG (by simp[*]);have hc:((i:Int)+1)=((i+1:Nat):Int):=by push_cast;rfl
  by_cases c:i<gM.size
  ·have fE:gM[((i:Nat):Int).toNat]?=some gM[i]:=by simp[c]
   have hd2:bs.drop i=bs[i]'(by simp[*])::bs.drop (i+1):=rG (by simp[*]);obtain⟨t1,e1⟩:=ints_get ha i (by simpa using bw) (by simp[*]);obtain⟨t2,e2⟩:=ints_get fC i (by simpa using c) (by simp[*]);rw[KN]at e1 e2;rw[hi1,fE,e1,e2];rw[hd,hd2]at h;refine ak (wpAny_eqBool_int ?_);by_cases c3:as[i]'(by simp[*])=bs[i]'(by simp[*])
   ·rw[c3,lex_self]at h;rw[c3,show((bs[i]'(by simp[*]))==(bs[i]'(by simp[*])))=true by simp]
    wp_walk;rw[hc];exact⟨xW plain_eq_loop _,pU entry_eq_loop (by rw[xV plain_eq_loop _];exact ih (i+1) (by grind) ‹_› ‹_› prog w A R _ ⟨hl,hb,h⟩)⟩
   ·rw[lex_diff (O:=lL) c3]at h;rw[show((as[i]'(by simp[*]))==(bs[i]'(by simp[*])))=false by simpa using c3]
    wp_walk using j_ hl,j_ hb;rw[hi1,fE,e1,e2];refine ak (show wpAny (model prog w) _ (richCompare .Lt (.int _ t1) (.int _ t2)) _ _ _ from P.lt_int ?_)
    wp_walk;exact h
  ·have fE:gM[((i:Nat):Int).toNat]?=none:=by simp;lia
   have hd2:bs.drop i=[]:=by rw[KL];lia
   rw[hd,hd2]at h;rw[hi1,fE]
   wp_walk using j_ hl,j_ hb;show R (.ok (.ret (.bool (decide (items.size<gM.size))))) _;rw[cU (by lia)];exact h
theorem OG(l b:Addr)(items gM:Array Value)(n n2:Nat)(as bs:List Int)(ha:IntsAre items.toList as)(fC:IntsAre gM.toList bs):
  Meets (Builtin.«list.__lt__» ⟨[.ref l, .ref b],[]⟩)
   (fun A R s=>s.heap.get? l=some (seqObj "list" items n)∧s.heap.get? b=some (seqObj "list" gM n2)∧
    R (.ok (.ret (.bool (PyProof.Rows.lexLt lL as bs)))) s):=by
 intro prog w A R s h;obtain⟨hp,g,d,tk,os⟩:=s;obtain⟨hl,hb,h⟩:=h;have f3:=AutoSeq1.sub_list_list
 wp_walk using j_ hl,j_ hb;exact⟨xW plain_eq_loop _,pU entry_eq_loop (by rw[xV plain_eq_loop _];exact PV l b items gM n n2 as bs ha fC _ 0 rfl (eG _) (eG _) prog w A R _ ⟨hl,hb,by simpa using h⟩)⟩
end PySem.SeqAt
namespace KS
open PySem PySem.W PySem.Spec PyProof.Rows L2 PySem.SeqAt
section
variable{prog:Program}{w:World}{A:Around}{E:YY}{s:Shared}
def uV(h:Heap)(v:Value)(as:List Int):Prop:=∃(a:Addr)(items:Array Value)(n:Nat),v= .ref a∧h.get? a=some (seqObj "list" items n)∧IntsAre items.toList as
theorem WX(hx:uV s.heap x as)(hy:uV s.heap y bs)(hu:A.units<cLine)(h:Q (lexLt lL as bs) s):wpAny (model prog w) A (keyLt' oneType' x y) Q E s:=by obtain⟨a,i1,n1,rfl,h1,I1⟩:=hx;obtain⟨b,i2,n2,rfl,h2,I2⟩:=hy;rw[keyLt'_oneType,oneLt'_eq];refine ak (wpAny_cRoomFor hu ?_);have hT:s.TypeIs (.ref a) "list":=⟨_,h1,rfl⟩;refine ak (wpAny_callSpecialIfBound?_slot hT F.slot_list_lt (rh F.slot_list_lt hT F.entry_list_lt (F.args_list_lt_2 _ _) (OG a b i1 i2 n1 n2 as bs I1 I2) ⟨h1,h2,?_⟩));exact qX h
theorem RO(ho:h.get? a=some (seqObj "list" items n)):Looks M h (typeOf (.ref a)) (.type "list"):=fun A Q E s' k q=>wpAny_typeOf ⟨_,k _ _ ho,rfl⟩ q
structure qx(ks:List (List Int))(p:Array Nat):Prop where
 pm:Km.dO ks.length p
 rW:Km.qN (O:=p5) (fun i=>ks.getD i []) p ks.length
def mm(vs:List Value)(p:Array Nat):Array Value:=(p.toList.map fun i=>vs.getD i .none).toArray
theorem Og(ho:s.heap.get? a=some (seqObj "list" vs.toArray n))(hk:vs.length=ks.length)(hn:vs.length<64)(hv:∀i,i<vs.length→∀h':Heap,(∀b o,b≠a→s.heap.get? b=some o→h'.get? b=some o)→uV h' (vs.getD i .none) (ks.getD i []))(hu:A.units<cLine)(h:∀p,qx ks p→P (.done (.ret .none)) {s with heap:=sortedHeap s.heap a vs (mm vs p)}):wpAny (model prog w) A (Builtin.«list.sort» ⟨[.ref a],[]⟩) P E s:=by
 have hz:∀m,m<64→m≤sizeLine:=fun m hm=>by rw[qZ];lia
 have ha:a<s.heap.objs.size:=bF ho;rw[list_sort_plain];refine ak (listItems_at ho rfl ?_);refine ak (listUpdate_at ho rfl ?_);obtain⟨e1,ho1⟩:∃e1,(s.heap.update a (Obj.mapSeq fun _=>#[])).get? a=some (seqObj "list" #[] e1):=⟨_,get?_update_seq ho (fun _=>#[])⟩;refine ak (seqEpoch_at ho1 rfl ?_);refine ak (J7 ?_);refine ak (BF ?_);refine lz ?_;let h6:Heap:=((s.heap.update a (Obj.mapSeq fun _=>#[])).push (seqObj "tuple" vs.toArray 0)).push (seqObj "list" #[] 0);have kp:∀b o,b≠a→s.heap.get? b=some o→h6.get? b=some o:=fun b o nb e=>by have hb:=bF e;show(((s.heap.update a (Obj.mapSeq fun _=>#[])).push (seqObj "tuple" vs.toArray 0)).push (seqObj "list" #[] 0)).get? b=_;rw[uU _ _ _ (by rw[size_push',yl];exact bY (ot hb)),uU _ _ _ (by rw[yl];exact bY hb),Heap.get?_update_ne _ _ _ _ nb];exact e
 have ho6:h6.get? a=some (seqObj "list" #[] e1):=by show(((s.heap.update a (Obj.mapSeq fun _=>#[])).push (seqObj "tuple" vs.toArray 0)).push (seqObj "list" #[] 0)).get? a=_;rw[uU _ _ _ (by rw[size_push',yl];exact bY (ot ha)),uU _ _ _ (by rw[yl];exact bY ha)];exact ho1
 show wpAny (model prog w) A _ P E {s with heap:=h6};dsimp only;have hsz:vs.toArray.size=vs.length:=by simp
 have out:∀p:Array Nat,(p.map (kas_item (pairsOf vs))).map (·.2)=mm vs p:=fun p=>by apply Array.toList_inj.mp;rw[Array.map_map,Array.toList_map];exact ef fun i _=>by show(kas_item (pairsOf vs) i).2=_;rw[kas_item_eq]
 have oz:∀p,qx ks p→(mm vs p).size≤sizeLine:=fun p io=>by unfold mm;rw[c7,bj,iq,io.pm.size];exact hz _ (by lia)
 have kN:(List.toArray (range vs.length)).map (kas_item (pairsOf vs))=pairsOf vs:=by have e:=kas_range (pairsOf vs);rw[pairsOf_size]at e;exact e
 by_cases h2:vs.toArray.size<2
 ·rw[ag h2,ag h2];have io:qx ks (List.toArray (range vs.length)):=⟨by unfold Km.dO;rw[hk],fun i j iS hj=>by
   have:i=j:=by lia
   subst this;exact yj _⟩
  have ob:=out (List.toArray (range vs.length));rw[kN]at ob;refine ak (aI ?_);rw[StateT.run_pure];refine ak (aI ?_);dsimp only;refine ak (seqEpoch_at ho6 rfl ?_);rw[show((vs.toArray.zip vs.toArray).map (·.2))=mm vs (List.toArray (range vs.length))from ob];refine ak (listUpdate_at ho6 rfl ?_ (hsz2:=Kz (oz _ io)));simp only[mR,ed,c8];exact aI (h _ io)
 ·rw[af h2,af h2];have nW:2≤vs.length:=by lia
  refine ak (kas_kind (T:= .type "list") nW (fun v fV=>?_) rfl rfl ?_)
  ·obtain⟨i,hi,e⟩:=lC.mp fV;obtain⟨b,it,m,e',hb,_⟩:=hv i hi h6 kp;rw[bC,bq hi,e]at e';have e':v= .ref b:=e';rw[e'];exact RO hb
  have run:=kas_runs (prog:=prog) (w:=w) (E:=E) (Q:=fun _ fA s'=>s'={s with heap:=h6}∧∃p:Array Nat,qx ks p∧arrOf fA=p.map (kas_item (pairsOf vs))∧failedOf fA=none) (G:=fun p s'=>s'={s with heap:=h6}∧qx ks p)
   nW hn (fun p' fA s' a1 a2 a3 a4=>⟨a4.1,p',a4.2,a2,a3⟩) (Km.E6 (O:=p5) (fun i j C hi hj hC=>by unfold kas_cmp;rw[kas_item_eq,kas_item_eq];exact WX (hv i hi h6 kp) (hv j hj h6 kp) hu hC) _ (Km.NB (by exact qW ‹_›) fun p' c d=>⟨rfl,by rw[hk]at c;exact c,by rw[hk]at d;exact d⟩))
  rw[show kas_st oneType' (pairsOf vs) (List.toArray (range vs.length))=SortSt.mk' oneType' (vs.toArray.zip vs.toArray) #[] 7 none from congrArg (fun z=>SortSt.mk' oneType' z #[] 7 none) kN]at run;refine ak (iV run ?_ fun _ _ e=>e);rintro⟨⟨⟩,fA⟩ s' ⟨rfl,p,io,har,hf⟩;dsimp only at har hf⊢;refine ak (seqEpoch_at ho6 rfl ?_);rw[har,out p];refine ak (listUpdate_at ho6 rfl ?_ (hsz2:=Kz (oz _ io)));rw[hf];simp;exact aI (h p io)
theorem Sr(hl:s.heap.IsList l vs.toArray)(hk:vs.length=ks.length)(hn:vs.length<64)(hv:∀i,i<vs.length→uV s.heap (vs.getD i .none) (ks.getD i []))(hu:A.units+2<cLine)(h:∀p,qx ks p→Q (.ref (s.heap.objs.size+1)) {s with heap:=sortedAll s.heap vs (mm vs p)}):wpAny (model prog w) A (call (.builtin "sorted") [.ref l]) Q E s:=by
 refine Yv kind_sorted plain_sorted entry_sorted (args_sorted1 _) ?_;refine ak (aI ?_);refine ak (collect_list hl ?_);refine ak (BF ?_);have hsz:((s.heap.push (seqObj "list" #[] 0)).update s.heap.objs.size (Obj.mapSeq (·++vs.toArray))).objs.size=s.heap.objs.size+1:=by rw[yl,size_push']
 have hL:(((s.heap.push (seqObj "list" #[] 0)).update s.heap.objs.size (Obj.mapSeq (·++vs.toArray))).push (seqObj "list" vs.toArray 0)).get? (s.heap.objs.size+1)=some (seqObj "list" vs.toArray 0):=by rw[←hsz];exact cy _ rfl
 have kp:∀b o,s.heap.get? b=some o→b≠s.heap.objs.size+1∧(((s.heap.push (seqObj "list" #[] 0)).update s.heap.objs.size (Obj.mapSeq (·++vs.toArray))).push (seqObj "list" vs.toArray 0)).get? b=some o:=fun b o e=>by
  have hb:=bF e;rw[uU _ _ _ (by rw[hsz];exact bY (ot hb)),Heap.get?_update_ne _ _ _ _ (bY hb),uU _ _ _ (bY hb)]
  lia
 rw[hsz];refine ak (lz (lE slot_list_sort ⟨_,hL,rfl⟩ entry_list_sort (Og hL hk hn (fun i hi h' k'=>?_) ?_ fun p io=>⟨_,rfl,?_⟩) (args_list_sort _)))
 ·obtain⟨b,it,m,e,hb,I⟩:=hv i hi;obtain⟨n1,g1⟩:=kp b _ hb;exact⟨b,it,m,e,k' b _ n1 g1,I⟩
 ·omega
 ·exact aI ⟨_,rfl,h p io⟩
end
end KS
namespace Kn
open PySem PySem.Spec PyProof.Rows L2
open PySem.SeqAt (lL p5)
open Kb (Cross Dia)
def gE(a b:List Int):Bool:=!lexLt lL b a
theorem qI:gE a b=true↔KeyOrd.kle (O:=p5) a b:=by unfold gE KeyOrd.kle;simp
theorem Oj(a b c:List Int)(h1:gE a b=true)(h2:gE b c=true):gE a c=true:=by exact qI.mpr (yk (qI.mp h1) (qI.mp h2))
theorem XG(a b:List Int):(gE a b||gE b a)=true:=by
 unfold gE;cases h:lexLt lL b a with
 |false=>rfl
 |true=>have q:(lexLt lL a b)=false:=KeyOrd.klt_asymm (O:=p5) h;simp[q]
theorem Oa(h1:gE a b=true)(h2:gE b a=true):a=b:=KeyOrd.kle_antisymm (qI.mp h1) (qI.mp h2)
def gX(ks:List (List Int)):List (List Int):=ks.mergeSort gE
theorem rX(ks:List (List Int)):(gX ks).Perm ks:=List.mergeSort_perm ks gE
theorem yG(ks:List (List Int)):(gX ks).Pairwise fun a b=>gE a b=true:=List.pairwise_mergeSort Oj XG ks
theorem A6:∀{a b:List (List Int)},a.Perm b→(a.Pairwise fun a b=>gE a b=true)→(b.Pairwise fun a b=>gE a b=true)→a=b
 |[],_,p,_,_=>p.nil_eq
 |x::r,b,p,ha,hb=>by
  cases b with
  |nil=>exact absurd p.length_eq (by simp)
  |cons y t=>
   have hx:x∈y::t:=p.mem_iff.mp (.head _);have hy:y∈x::r:=p.mem_iff.mpr (.head _);have e:x=y:=by
    rcases a_.mp hx with h|h
    ·omega
    ·rcases a_.mp hy with h'|h'
     ·simp[*]
     ·exact Oa ((rH.mp ha).1 y h') ((rH.mp hb).1 x h)
   subst e;rw[A6 (p.cons_inv) (rH.mp ha).2 (rH.mp hb).2]
theorem Sz(a b:List (List Int)):gX a=gX b↔a.Perm b:=
 ⟨fun h=>((rX a).symm.trans (h▸uM _)).trans (rX b),fun h=>A6 ((rX a).trans (h.trans (rX b).symm)) (yG a) (yG b)⟩
section
variable{α β γ δ:Type}{X:Cx}{σ σ0:aS}{H H1 H2 G:Hp}{e ie a b:Expr}{es:List Expr}{R:Rp α}{S:Rp β}{r:α}{pos p:Pos}{D:Ends}{rest:List Stmt}{x x':Str}{i i':Nat}{CC CD:Addr}{A:ck γ}{c:γ}
def Qx(K:Fg):List V→Hp→VK→Prop:=fun vs H Q=>∃(a:Addr)(us:List V)(ks:List (List Int)),vs=[V.ref a]∧aU K H a us∧Paired (ay.rel H) us ks∧us.length<64∧
 ∀(is:List Nat)(p:Addr),(∀i∈is,i<us.length)→is.map (fun i=>ks.getD i [])=gX ks→H p=none→Q (.ref p) (upd H p (.lst (is.map fun i=>us.getD i .a8)))
theorem F4(r:Vals us ao):∀(is:List Nat),(∀i∈is,i<us.length)→Vals (is.map fun i=>us.getD i .a8) (is.map fun i=>ao.getD i .none)
 |[],_=> .nil
 |i::is,h=>by have hi:=h i (.head _);obtain⟨u,e,q⟩:=r.get (bq hi);refine .cons ?_ (F4 r is fun j hj=>h j (.tail _ hj));simp_all
theorem tG{R:α→β→Prop}{xs:List α}{ys:List β}(h:Paired R xs ys):∀(i:Nat)(hi:i<xs.length)(hj:i<ys.length),R xs[i] ys[i]:=by
 induction h with
 |nil=>intro i hi;cases hi
 |cons q _ ih=>
  intro i hi hj;cases i with
  |zero=>exact q
  |succ i=>exact ih i (by simpa using hi) (by simpa using hj)
theorem Lz(hu:X.A.units+2<cLine):eX X (.builtin "sorted") (Qx X.K):=by
 intro pins s σ H vs aN Q I r h;obtain⟨a,us,ks,rfl,hs,pr,h64,q⟩:=h;obtain⟨ao,rv,hl,_⟩:=I.list hs;rw[Vals.kK r];have hlen:=rv.length;have hlk:=pr.length;refine KS.Sr (ks:=ks) hl.isList (by simp_all) (by simp_all) (fun i hi=>?_) hu fun pp io=>?_
 ·have dQ:i<us.length:=by simp[*]
  obtain⟨l,ws,e,cb,pi⟩:=tG pr i dQ (by simp_all);have ew:=qd pi;obtain⟨u,eu,ru⟩:=rv.get (bq dQ);rw[e]at ru;cases ru;obtain⟨hz,itl,n,rl,hob⟩:=I.aG l _ cb;rw[ew]at rl;refine⟨l,_,n,by rw[bC,eu];rfl,hob,?_⟩;rw[bC,bq (by lia)];simpa using rl.eQ
 ·obtain⟨ep,mG⟩:=Yj s.heap ao (KS.mm ao pp);have hm:∀i∈pp.toList,i<us.length:=fun i hi=>by have:=bQ.mp (io.pm.mem_iff.mp hi);simp_all
  have hsz:=io.pm.size;have hv:=F4 rv pp.toList hm;refine⟨.ref _,upd H (s.heap.objs.size+1) (.lst (pp.toList.map fun i=>us.getD i .a8)),I.laid (fun _ _=>Yk) (j5 _) ⟨?_,(KS.mm ao pp).toList,ep,?_,mG⟩,rfl,q pp.toList _ hm ?_ (I.aG.fresh (j5 _))⟩
  ·simp_all
  ·unfold KS.mm;exact hv
  ·refine A6 ((io.pm.map fun i=>ks.getD i []).trans ?_) ?_ (yG ks)
   ·refine yb ?_ (rX ks).symm;refine List.Perm.of_eq (Kg (by simp) fun i h1 h2=>?_);simp[*]
   ·rw[xU];intro i j hi hj iS;rw[bj,iq]at hi hj;have:=io.rW i j (qW iS) (by simp_all);unfold Km.Ky at this;rw[YE,YE,BD hi,BD hj]at this;rw[KO,KO,KN,KN];exact qI.mpr this
end
section
variable{α β γ δ:Type}{X:Cx}{σ σ0:aS}{H H1 H2 G:Hp}{e ie a b o:Expr}{es:List Expr}{R:Rp α}{S:Rp β}{r:α}{pos p:Pos}{D:Ends}{rest:List Stmt}{x x':Str}{i i':Nat}{CC CD:Addr}{A:ck γ}{c:γ}
theorem RA(T:Txt X.K X.mg CC CD)(hu:X.A.units+2<cLine)(h:XE X σ H e (ah ay) ks)(hm:ks.length<64)(hg:Gl X "sorted":=by rfl)(hs:SE X e []:=by rfl)(hv:bootBuiltins "sorted"=some (.builtin "sorted"):=by decide+kernel):XE X σ H (.Call (.Name "sorted" p) [e] [] pos) (ah ay) (gX ks):=fun H1 s Q k=>
 PE.we (tS (Lz hu) hg T.sorted hv (fm aJ fG hs) (by decide) (by decide) hs rfl) (h H1 s _ fun v G H2 fw rv=>by
  obtain⟨a,us,rfl,ha,pr⟩:=rv;have hl:=pr.length;refine⟨a,us,ks,rfl,aU.of (fw.g2 _ _ ha),pr.imp fun _ _ q=>ay.mono fw.g2 q,by simp[*],fun is p hi hsort hp=>?_⟩;refine k _ _ _ (fw.tU hp _) ⟨p,_,rfl,aE,?_⟩;rw[←hsort];have sm:aj G (upd G p (.lst (is.map fun i=>us.getD i .a8))):=aj.df (fw.fI hp);induction is with
  |nil=>exact .nil
  |cons j is ih=>
   refine .cons ?_ ?_
   ·have hj:=hi j (.head _);show ay.rel _ (us.getD j .a8) (ks.getD j []);rw[bC,bq hj,bC,bq (by lia)];exact ay.mono sm (tG pr j hj (by lia))
   ·have q:∀(l:List Nat),(∀i∈l,i<us.length)→Paired (ay.rel (upd G p (.lst (List.map (fun i=>us.getD i .a8) (j::is))))) (l.map fun i=>us.getD i .a8) (l.map fun i=>ks.getD i []):=by
     intro l;induction l with
     |nil=>intro _;exact .nil
     |cons m l ih2=>intro jR;have hj:=jR m (.head _);refine .cons ?_ (ih2 fun i q=>jR i (.tail _ q));show ay.rel _ (us.getD m .a8) (ks.getD m []);rw[bC,bq hj,bC,bq (by lia)];exact ay.mono sm (tG pr m hj (by lia))
    exact q is fun i q=>hi i (.tail _ q))
def hW(xs:List Int):PyData:= .list (xs.map PyData.int)
def wZ(ks:List (List Int)):PyData:= .list (ks.map hW)
theorem EL{K:Fg}:∀{vs:List V}{xs:List Int},Paired (aq.rel H) vs xs→m_ K H vs (xs.map PyData.int)
 |_,_, .nil=> .nil
 |_,_, .cons q r=>by cases q;exact .cons (.int _) (EL r)
theorem z_{K:Fg}(h:ay.rel H v xs):Dp K H v (hW xs):=by obtain⟨a,vs,rfl,ha,pr⟩:=h;exact .lst (aU.of ha) (EL pr)
theorem ET{K:Fg}:∀{vs:List V}{ks:List (List Int)},Paired (ay.rel H) vs ks→m_ K H vs (ks.map hW)
 |_,_, .nil=> .nil
 |_,_, .cons q r=> .cons (z_ q) (ET r)
theorem Hf{K:Fg}(h:(ah ay).rel H v ks):Dp K H v (wZ ks):=by obtain⟨a,vs,rfl,ha,pr⟩:=h;exact .lst (aU.of ha) (ET pr)
def Hd(H:Hp)(ab:List (Key×V))(xs:List (Nat×(Nat×Nat))):Prop:=Paired (fun kv x=>kv.1=Sum.inl ((x.1:Nat):Int)∧(dF aa aa).rel H kv.2 x.2) ab xs
theorem Hd.mono(s:aj H H')(h:Hd H ab xs):Hd H' ab xs:=Paired.imp (fun _ _ q=>⟨q.1,(dF aa aa).mono s q.2⟩) h
def sM:Rp (List (Nat×(Nat×Nat))):=⟨fun H v xs=>∃d ab,v= .ref d∧H d=some (.dK ab)∧Hd H ab xs,fun s⟨d,ab,e,h,q⟩=>⟨d,ab,e,s _ _ h,q.mono s⟩⟩
theorem NU(h:Hd H ab xs){k:Nat}(hk:k∉xs.map (·.1))(v:V):putK ab (Sum.inl (k:Int)) v=ab++[(Sum.inl (k:Int),v)]:=by
 unfold putK;rw[af];intro z;obtain⟨kv,hm,e⟩:=KP.mp z;induction h with
 |nil=>cases hm
 |cons q r ih=>grind
theorem Ww(h:Hd H ab xs)(hk:(xs.find? fun x=>decide (x.1=k)).map (·.2)=some z):∃v,bD ab (Sum.inl (k:Int))=some v∧(dF aa aa).rel H v z:=by
 unfold bD;induction h with
 |nil=>cases hk
 | @cons kv x ab xs q r ih=>grind
theorem Cj(hu:X.A.units+1<cLine)(hs:σ[i]?=some (some (.ref d)))(hd:H1 d=some (.dK ab))(hh:Hd H ab xs)(hkn:k∉xs.map (·.1))(he:XE X σ H e (dF aa aa) z)(hk:XE X σ H ke aa k)(hl:ab.length<1000)(s:aj H H1)(kk:∀kvs' G H2,au H H1 G H2→kvs'.length=ab.length+1→Hd G kvs' (xs++[(k,z)])→WB X rest D σ (upd H2 d (.dK kvs')))(hN:X.N[i]?=some x:=by rfl)(hv:dJ X.env.scope x:=by first|exact Or.inl rfl|exact Or.inr (Or.inl rfl)|exact Or.inr (Or.inr rfl))(bG:(x==("__debug__":Str))=false:=by decide)(bH:(x==("__classdict__":Str))=false:=by decide)(dk:swapsWith e (some (.Subscript (.Name x p) ke tp)) pos.line X.env=pure false:=by rfl):WB X (.Assign [.Subscript (.Name x p) ke tp] e pos::rest) D σ H1:=
 cW (PS.ws (Av hu (iF hN hv bG bH) aJ aJ dk) (he H1 s _ fun v G H2 f rv=>⟨.ref d,hs,(hk.mono f.hg) H2 f.g2 _ fun w G' H3 f' bA=>by cases bA;refine⟨d,_,rfl,lT.k (k:=Sum.inl (k:Int)) (f'.h2 _ _ (f.h2 _ _ hd)) (rE hl (by decide)),?_⟩;rw[NU hh hkn];exact kk _ G' H3 (f.trans f') (by simp) (Paired.append (hh.mono (f.hg.trans f'.hg)) (.cons ⟨rfl,(dF aa aa).mono f'.hg rv⟩ .nil))⟩))
theorem WL(hu:X.A.units+1<cLine)(ho:XE X σ H o sM xs)(he:XE X σ H e aa k)(hk:(xs.find? fun x=>decide (x.1=k)).map (·.2)=some z)(hs:sv e:=by trivial):XE X σ H (.Subscript o e pos) (dF aa aa) z:=fun H1 s Q q=>
 PE.we (OZ hu aJ aJ hs) (ho H1 s _ fun v G H2 fw hh=>by obtain⟨d,ab,ev,hd,hh⟩:=hh;subst ev;refine(he.mono fw.hg) H2 fw.g2 _ fun w G' H3 cP bA=>?_;cases bA;obtain⟨u,hv,ru⟩:=Ww (hh.mono cP.hg) hk;exact⟨d,u,rfl,hv▸i5.k (k:=Sum.inl (k:Int)) (cP.h2 _ _ (fw.g2 _ _ hd)),q u G' H3 (fw.trans cP) ru⟩)
end
theorem An:∀xs:List Int,PyData.canLayAll0 (xs.map PyData.int)=true
 |[]=>by simp[PyData.canLayAll0]
 |x::xs=>by rw[a9,PyData.canLayAll0,An xs];simp[PyData.canLay0]
theorem GR:∀ks:List (List Int),PyData.canLayAll0 (ks.map hW)=true
 |[]=>by simp[PyData.canLayAll0]
 |k::ks=>by rw[a9,PyData.canLayAll0,GR ks];unfold hW;rw[PyData.canLay0,An];rfl
theorem Y2:∀xs:List Int,PyData.depthAll (xs.map PyData.int)≤1
 |[]=>by simp[PyData.depthAll]
 |x::xs=>by rw[a9,PyData.depthAll,PyData.depth];have:=Y2 xs;assumption
theorem F2:∀ks:List (List Int),PyData.depthAll (ks.map hW)≤2
 |[]=>by simp[PyData.depthAll]
 |k::ks=>by
  rw[a9,PyData.depthAll];unfold hW;rw[PyData.depth];have:=Y2 k;have:=F2 ks;unfold hW at this
  lia
theorem CV(ks:List (List Int)):SeqAt.shaped (wZ ks)=true:=by
 unfold SeqAt.shaped wZ;rw[PyData.canLay0,GR,PyData.depth];have:=F2 ks
 lia
theorem y_:∀xs ys:List Int,PyData.eqvAll (xs.map PyData.int) (ys.map PyData.int)=decide (xs=ys)
 |[],[]=>by simp[PyData.eqvAll]
 |x::xs,y::ys=>by rw[a9,a9,PyData.eqvAll,PyData.eqv,y_ xs ys];by_cases c:x=y<;>simp[c]
 |[],y::ys=>by simp[PyData.eqvAll]
 |x::xs,[]=>by simp[PyData.eqvAll]
theorem EC:∀ks ls:List (List Int),PyData.eqvAll (ks.map hW) (ls.map hW)=decide (ks=ls)
 |[],[]=>by simp[PyData.eqvAll]
 |x::xs,y::ys=>by rw[a9,a9,PyData.eqvAll,EC xs ys];unfold hW;rw[PyData.eqv,y_];by_cases c:x=y<;>simp[c]
 |[],y::ys=>by simp[PyData.eqvAll]
 |x::xs,[]=>by simp[PyData.eqvAll]
theorem WI(hu:X.A.units+64<cLine)(ha:XE X σ H a (ah ay) ks)(hb:XE X σ H b (ah ay) ls)(hm:behindInMarks .Eq b=false:=by rfl):XE X σ H (.Compare a [.Eq] [b] pos) cG (decide (ks=ls)):=fun H1 s Q k=>
 PE.we (vI (Cg hu) aJ aJ hm) (x2 ha hb s fun v w G H2 f rv bA=>by refine⟨_,_,Hf ((ah ay).mono f.g2 rv),Hf ((ah ay).mono f.g2 bA),CV _,CV _,k _ G H2 f ?_⟩;unfold wZ;rw[PyData.eqv,EC];rfl)
def gV(c:Cross×Nat):List (Nat×(Nat×Nat)):=[(c.1.ui,(c.2,0)),(c.1.oi,(c.2,1))]
def jg(d:Dia):List (Nat×(Nat×Nat)):=d.x.zipIdx.flatMap gV
theorem D7(l:List (Cross×Nat)):(l.flatMap gV).map (·.1)=(l.map (·.1)).flatMap fun y=>[y.ui,y.oi]:=by
 induction l with
 |nil=>rfl
 |cons a l ih=>rw[dY,eJ,ih];rfl
section
variable{K:Fg}(T:Txt K mg CC CD)
include T
theorem VR:Def P w K mg base 1 "heads_by_arc" ["drawing"] (Fn (aO (aA CC CD) bu) sM (fun c=>c.1.ins.Nodup∧c.1.x.length≤100) fun c=>jg c.1):=by
 refine T.hs.Wu.mk ["drawing","heads","number","crossing"] (fun nd H1 vs Q E hr h=>?_);refine DX h fun H d v0 s1 h0 hh k=>?_;obtain⟨hN,hL⟩:=hh;have hN:d.ins.Nodup:=hN;have hL:d.x.length≤100:=hL;have h0:(aA CC CD).rel H v0 d:=h0;refine qO (i:=1) nd zO s1 fun dd G2 H2 f2 n1 jX h2=>?_;have h0:=(aA CC CD).mono f2.hg h0;refine kL jE rfl (gF rfl nd) (nB (j:=2) (k:=3) T.enumerate (bK T (xv 0 h0))) f2.g2
  (fun Gx i σ' H'=>∃G' o2 o3 ab,aj Gx G'∧au H H1 G' H'∧G' dd= .none∧H' dd=some (.dK ab)∧ab.length=2*i∧i≤d.x.length∧Hd G' ab ((d.x.zipIdx.take i).flatMap gV)∧σ'=[some v0,some (.ref dd),o2,o3]) ?_ ?_ ?_ ?_
 ·intro Gx H4 f4;exact⟨Gx,none,none,[],aj.refl _,f2.trans f4,f4.sep _ _ jX h2,f4.h2 _ _ h2,rfl,eG _, .nil,rfl⟩
 ·rintro Gx i σ' H' ⟨G',o2,o3,ab,sx,fx,_⟩;exact sx.trans fx.g2
 ·rintro Gx i z σ' H' hz ⟨G',o2,o3,ab,sx,fx,ng,hd,hkl,hi,hh,rfl⟩ σ'' G3 H3 f3 ⟨va,vb,ra,rb,rfl⟩;obtain⟨G4,s4,f4⟩:=au.wide sx fx.g2 f3;have ra:=aa.mono s4 ra;have rb:=(a6 CC).mono s4 rb;have fE:i<d.x.zipIdx.length:=(d_.mp hz).1;rw[mV]at fE;have fx4:=fx.trans f4;have mO:=f4.h2 _ _ hd;have ng4:=f4.sep _ _ ng hd;have key:((d.x.zipIdx.take i).flatMap gV++gV z).map (·.1)=(d.x.take (i+1)).flatMap fun y=>[y.ui,y.oi]:=by
   have e:(d.x.zipIdx.take i).flatMap gV++gV z=(d.x.zipIdx.take (i+1)).flatMap gV:=by rw[BZ,hz,mX];simp
   rw[e,D7,List.map_take];congr 2;exact YF 0 d.x
  have nk:(((d.x.zipIdx.take i).flatMap gV++gV z).map (·.1)).Nodup:=by
   rw[key];have:(d.x.take (i+1)).flatMap (fun y=>[y.ui,y.oi])<+:d.ins:=by
    unfold Dia.ins
    conv=>rhs;rw[←rF (i+1) d.x]
    rw[mX];exact List.prefix_append _ _
   exact ya this.sublist hN
  rw[eJ]at nk;have k1:z.1.ui∉((d.x.zipIdx.take i).flatMap gV).map (·.1):=fun q=>(mY.mp nk).2.2 _ q _ (.head _) rfl;have k2:z.1.oi∉((d.x.zipIdx.take i).flatMap gV++[(z.1.ui,(z.2,0))]).map (fun q:Nat×(Nat×Nat)=>q.1):=fun q=>by
   rw[eJ,cE]at q;rcases q with q|q
   ·exact(mY.mp nk).2.2 _ q _ (.tail _ (.head _)) rfl
   ·have e:z.1.oi=z.1.ui:=by simpa using q
    have:=(mY.mp nk).2.1;unfold gV at this;simp[e]at this
  refine Cj (i:=1) (iE hr) rfl mO (hh.mono f4.hg) k1 (jd (xv 2 ra) (XE.nat ax rfl)) (eN T (xv 3 rb)) (by lia) fx4.g2 fun kv5 G5 H5 f5 l5 hh5=>?_;have hd5:=f5.h2 _ _ mO;have n_:=f5.sep _ _ ng4 mO;have f5':au H H1 G5 (upd H5 dd (.dK kv5)):=(fx4.trans f5).put n1 n_ _;refine Cj (i:=1) (iE hr) rfl aE hh5 k2 (jd (xv 2 (aa.mono f5.hg ra)) (XE.nat ax rfl)) (eh T (xv 3 ((a6 CC).mono f5.hg rb))) (by lia) f5'.g2 fun kv6 G6 H6 f6 l6 hh6=>bp ?_;have jY:=f6.sep _ _ n_ aE;refine⟨G6,_,_,kv6,sx.trans (f4.hg.trans (f5.hg.trans f6.hg)),(f5'.trans f6).put n1 jY _,jY,aE,by lia,by assumption,?_,rfl⟩;rw[BZ,hz,mX];rw[oj]at hh6;exact hh6
 ·rintro Gx σ' H' ⟨G',o2,o3,ab,sx,fx,ng,hd,hkl,hi,hh,rfl⟩;rw[iX]at hh;exact gD (i:=1) rfl (k (.ref dd) (upd G' dd (.dK ab)) H' (fx.aX n1 ng hd) ⟨dd,ab,rfl,aE,hh.mono (aj.df ng)⟩)
end
end Kn
namespace Km
open Kb Kn
def cB(d:Dia)(a:Nat):Nat×Nat:=(((jg d).find? fun x=>decide (x.1=a)).map (·.2)).getD (0,0)
def bO(d:Dia)(st:List Nat×List Int)(a:Nat):List Nat×List Int:=
 let R:=if(cB d a).1∈st.1 then st.1 else st.1++[(cB d a).1]
 (R,st.2++[(R.idxOf (cB d a).1:Int),((cB d a).2:Int)])
def ba(d:Dia)(i:Nat):Cross:=d.x.getD i ⟨0,0,0,0,false⟩
def jb(d:Dia)(st:List Nat×List Int)(k:Nat):List Nat×List Int:=
 bO d (bO d (st.1,st.2++[sgn (ba d (st.1.getD k 0)).minus]) (ba d (st.1.getD k 0)).uo) (ba d (st.1.getD k 0)).oo
def wk(d:Dia)(s:Nat):Nat→List Nat×List Int
 |0=>([s],[])
 |k+1=>if k<(wk d s k).1.length then jb d (wk d s k) k else wk d s k
def told(d:Dia)(s:Nat):List Int:=(wk d s d.n).2
def dw(d:Dia)(i b:Nat):Nat:=if b=0 then(ba d i).ui else(ba d i).oi
def out(d:Dia)(i b:Nat):Nat:=if b=0 then(ba d i).uo else(ba d i).oo
theorem TV:x∈jg d↔x.2.1<d.n∧x.2.2<2∧x.1=dw d x.2.1 x.2.2:=by
 unfold jg gV;rw[bR];constructor
 ·rintro⟨⟨y,i⟩,h,m⟩;have h:=lF.mp h;have hi:i<d.x.length:=(d_.mp h).1;have e:ba d i=y:=by unfold ba;rw[bC,h];rfl
  simp at m;rcases m with rfl|rfl
  ·exact⟨hi,by simp,by simp[dw,e]⟩
  ·exact⟨hi,by simp,by simp[dw,e]⟩
 ·rintro⟨h1,h2,h3⟩;refine⟨(d.x[x.2.1],x.2.1),lF.mpr (bq h1),?_⟩;have e:ba d x.2.1=d.x[x.2.1]:=by unfold ba;rw[bC,bq h1];rfl
  obtain⟨a,i,b⟩:=x;simp only[a_,cA,cV];simp only at h2 h3 e;rcases Bv b 1 with c|c
  ·have:b=0:=by simp_all
   subst this;left;rw[h3,←e];rfl
  ·have:b=1:=by lia
   subst this;right;rw[h3,←e];rfl
theorem U4(g:Good d):((jg d).map (·.1)).Nodup:=by
 have e:(jg d).map (·.1)=d.ins:=by unfold jg;rw[D7,show(d.x.zipIdx.map (·.1))=d.x from YF 0 d.x];rfl
 rw[e];exact Az g
theorem R5{xs:List (Nat×(Nat×Nat))}(h:(xs.map (·.1)).Nodup)(hm:x∈xs):xs.find? (fun y=>decide (y.1=x.1))=some x:=by
 induction xs with
 |nil=>cases hm
 |cons y ys ih=>grind
theorem sE(g:Good d)(hi:i<d.n)(hb:b<2):(jg d).find? (fun y=>decide (y.1=dw d i b))=some (dw d i b,(i,b))∧cB d (dw d i b)=(i,b):=by have m:(dw d i b,(i,b))∈jg d:=TV.mpr ⟨hi,hb,rfl⟩;have f:=R5 (U4 g) m;exact⟨f,by unfold cB;rw[f];rfl⟩
theorem Qk(h:a∈d.ins):∃i b,i<d.n∧b<2∧a=dw d i b:=by
 obtain⟨y,hy,m⟩:=bR.mp h;obtain⟨i,hi,e⟩:=lC.mp hy;have e':ba d i=y:=by unfold ba;rw[bC,bq hi,e];rfl
 simp at m;rcases m with m|m
 ·exact⟨i,0,hi,by simp,by simp[dw,e',m]⟩
 ·exact⟨i,1,hi,by simp,by simp[dw,e',m]⟩
theorem R4(h:a∈d.outs):∃i b,i<d.n∧b<2∧a=out d i b:=by
 obtain⟨y,hy,m⟩:=bR.mp h;obtain⟨i,hi,e⟩:=lC.mp hy;have e':ba d i=y:=by unfold ba;rw[bC,bq hi,e];rfl
 simp at m;rcases m with m|m
 ·exact⟨i,0,hi,by simp,by simp[out,e',m]⟩
 ·exact⟨i,1,hi,by simp,by simp[out,e',m]⟩
theorem C9(hi:i<d.n):ba d i∈d.x:=by unfold ba;have hi:i<d.x.length:=hi;simp[*]
theorem Rm(hi:i<d.n):out d i b∈d.outs:=by refine bR.mpr ⟨_,C9 hi,?_⟩;unfold out;grind
theorem Se(hi:i<d.n):dw d i b∈d.ins:=by refine bR.mpr ⟨_,C9 hi,?_⟩;unfold dw;grind
theorem Jf(g:Good d)(a:Nat):a∈d.ins↔a∈d.outs:=by rw[(fS.mp g).1.mem_iff,(fS.mp g).2.mem_iff]
theorem tF(g:Good d)(hi:i<d.n):∃j c,j<d.n∧c<2∧out d i b=dw d j c∧cB d (out d i b)=(j,c):=by obtain⟨j,c,hj,hc,e⟩:=Qk ((Jf g _).mpr (Rm hi));exact⟨j,c,hj,hc,e,by rw[e];exact(sE g hj hc).2⟩
theorem zo(g:Good d)(hi:i<d.n)(hj:j<d.n)(hb:b<2)(hc:c<2)(e:dw d i b=dw d j c):i=j∧b=c:=by have h1:=(sE g hi hb).2;have h2:=(sE g hj hc).2;simp_all
structure oG(d:Dia)(k:Nat)(st:List Nat×List Int):Prop where
 nd:st.1.Nodup
 lt:∀r∈st.1,r<d.n
 ne:0<st.1.length
theorem sL(h:oG d k st)(ha:(cB d a).1<d.n):oG d k (bO d st a):=by
 unfold bO;by_cases c:(cB d a).1∈st.1
 ·simp only[c,dR];exact⟨h.nd,h.lt,h.ne⟩
 ·simp only[c,c8];refine⟨?_,fun r hr=>?_,by simp⟩
  ·show(st.1++[(cB d a).1]).Nodup;rw[mY];exact⟨h.nd,by simp,fun x hx y hy=>by simp at hy;subst hy;exact fun e=>c (e▸hx)⟩
  ·rcases cE.mp hr with m|m
   ·exact h.lt r m
   ·simp at m;subst m;exact ha
theorem getD_mem{l:List Nat}(h:k<l.length):l.getD k 0∈l:=by simp[*]
theorem pM(g:Good d)(hs:s<d.n):∀k,oG d k (wk d s k)
 |0=>⟨by simp[wk],fun r hr=>by simp[wk]at hr;simp[*],by simp[wk]⟩
 |k+1=>by
  have ih:=pM g hs k;unfold wk;by_cases c:k<(wk d s k).1.length
  ·rw[ag c];have hr:=ih.lt _ (getD_mem c);obtain⟨j1,c1,hj1,_,_,e1⟩:=tF g (b:=0) hr;obtain⟨j2,c2,hj2,_,_,e2⟩:=tF g (b:=1) hr;have e1:cB d (ba d ((wk d s k).1.getD k 0)).uo=(j1,c1):=e1;have e2:cB d (ba d ((wk d s k).1.getD k 0)).oo=(j2,c2):=e2;exact sL (sL ⟨ih.nd,ih.lt,ih.ne⟩ (by rw[e1];exact hj1)) (by rw[e2];exact hj2)
  ·rw[af c];exact⟨ih.nd,ih.lt,ih.ne⟩
theorem qB [DecidableEq α]:∀{l m:List α},l.Nodup→(∀x∈l,x∈m)→m.length≤l.length→l.Perm m
 |[],m,_,_,h=>by have:m=[]:=List.eq_nil_of_length_eq_zero (by simpa using h);rw[this]
 |x::l,m,hn,hs,h=>by obtain⟨h1,h2⟩:=fY.mp hn;have hx:=hs x (.head _);have p:=List.perm_cons_erase hx;have:=qB h2 (fun y hy=>(YG (fun e:y=x=>h1 (e▸hy))).mpr (hs y (.tail _ hy))) (by rw[List.length_erase_of_mem hx];simp at h;simp[*]);exact(this.cons x).trans p.symm
theorem sub_len [DecidableEq α]:∀{l m:List α},l.Nodup→(∀x∈l,x∈m)→l.length≤m.length
 |[],_,_,_=>eG _
 |x::l,m,hn,hs=>by obtain⟨h1,h2⟩:=fY.mp hn;have:=sub_len h2 (fun y hy=>(YG (fun e:y=x=>h1 (e▸hy))).mpr (hs y (.tail _ hy)));grind
theorem qQ{l:List Nat}(h:l.Nodup)(hl:∀r∈l,r<n):l.length≤n:=by have:=sub_len h (fun r hr=>bQ.mpr (hl r hr));simpa using this
theorem tK(d:Dia)(st:List Nat×List Int)(a:Nat):(bO d st a).2.length=st.2.length+2:=by unfold bO;simp
theorem Mh(d:Dia)(st:List Nat×List Int)(k:Nat):(jb d st k).2.length=st.2.length+5:=by unfold jb;rw[tK,tK];simp
theorem Cw(d:Dia)(s:Nat):∀k,(wk d s k).2.length≤5*k
 |0=>by simp[wk]
 |k+1=>by
  have:=Cw d s k;unfold wk;by_cases c:k<(wk d s k).1.length
  ·rw[ag c,Mh];lia
  ·rw[af c];lia
theorem C3(h:(wk d s k).1.length≤k):∀j,wk d s (k+j)=wk d s k
 |0=>rfl
 |j+1=>by
  have ih:=C3 h j;show(if k+j<(wk d s (k+j)).1.length then jb d (wk d s (k+j)) (k+j)else wk d s (k+j))=_
  lia
theorem zG(g:Good d)(hs:s<d.n)(k:Nat):(wk d s k).1.length≤d.n:=qQ (pM g hs k).nd (pM g hs k).lt
end Km
namespace Kn
open PySem PySem.Spec PyProof.Rows L2
open Kb (Cross Dia)
open Km (cB bO jb wk ba oG)
section
variable{α β γ δ:Type}{X:Cx}{σ σ0:aS}{H H1 H2 G:Hp}{e ie a b o:Expr}{es:List Expr}{R:Rp α}{S:Rp β}{r:α}{pos p:Pos}{D:Ends}{rest:List Stmt}{x x':Str}{i i':Nat}{CC CD:Addr}{A:ck γ}{c:γ}
theorem Nu{x y:α}(ha:XE X σ H a R x)(hb:XE X σ H b R y)(hs:SE X a [b]:=by rfl)(bL:SE X b []:=by rfl):
  XI X σ H tg (.Tuple [a,b] kk pos) (iA k) [x,y] (B1 k R):=by
 refine⟨_,Xj (Jo fH),fun H1 s Q q=>(aF ha (az hb bL) hs) H1 s _ fun vs G H2 f hh=>?_⟩;obtain⟨v,r,e1,r1,w,r',e2,r2,e3⟩:=hh;cases e3;subst e2;subst e1;refine⟨by show 2≤sizeLine;decide,fun p hp=>⟨p,rfl,⟨_,dD.of aE⟩,q _ (upd G p (.tup [v,w])) _ (f.tU hp _) fun i H' sg=>⟨fun hi=>⟨[v,w],dD.of (sg _ _ aE),hi⟩,fun c hc=>?_⟩⟩⟩;have sm:aj G (upd G p (.tup [v,w])):=aj.df (f.fI hp);have hu:∃u,[v,w][i]?=some u∧R.rel (upd G p (.tup [v,w])) u c:=by
  rcases i with _|_|i
  ·cases hc;exact⟨v,rfl,R.mono sm r1⟩
  ·cases hc;exact⟨w,rfl,R.mono sm r2⟩
  ·simp at hc
 obtain⟨u,hu,ru⟩:=hu;refine⟨⟨[v,w],u,dD.of (sg _ _ aE),hu⟩,fun x bV hh=>?_⟩;obtain⟨e1,y⟩:=hh;subst e1;have e2:=y [v,w] (dD.of (sg _ _ aE));rw[hu]at e2;cases e2;exact⟨_,au.cf sg,fun σ Q q=>q _ ⟨u,ru,rfl⟩⟩
end
theorem Xz{a rest:List Stmt}(h:XT X σ H c q)(s:aj H H1)(M:Hp→Prop)(k:∀H2,M H2→WB X rest D σ H2)(ha:q=true→∀G H2,au H H1 G H2→∀D':Ends,(∀H3,M H3→D'.nx σ H3)→WB X a D' σ H2)(hb:q=false→∀G H2,au H H1 G H2→M H2):WB X (.If c a [] pos::rest) D σ H1:=
 eV h s (fun e G H2 f=>ha e G H2 f _ (fun H3 m=>k H3 m)) (fun e G H2 f=>bp (k H2 (hb e G H2 f)))
abbrev LI(ns:List Int):HO:= .lst (ns.map V.int)
abbrev LN(ns:List Nat):HO:= .lst (ns.map fun n:Nat=>V.int (n:Int))
theorem P2(h:H l=some (LI ns)):ay.rel H (.ref l) ns:=⟨l,_,rfl,h,xA _⟩
theorem vC(h:H l=some (LN ns)):(ah aa).rel H (.ref l) ns:=by
 refine⟨l,_,rfl,h,?_⟩;induction ns with
 |nil=>exact .nil
 |cons n ns ih=>exact .cons rfl (by
   clear h ih;induction ns with
   |nil=>exact .nil
   |cons m ns ih=>exact .cons rfl ih)
structure Tf(H1 G2:Hp)(l3 l4:Addr)(R:List Nat)(Tl:List Int)(H':Hp):Prop where
 s1:aj H1 H'
 s2:aj G2 H'
 r:H' l3=some (LN R)
 t:H' l4=some (LI Tl)
 n3:H1 l3=Option.none
 n4:H1 l4=Option.none
 g3:G2 l3=Option.none
 g4:G2 l4=Option.none
section
variable{H1 G2:Hp}{l3 l4:Addr}{R:List Nat}{Tl:List Int}{Ha Hb:Hp}
theorem Tf.up(t:Tf H1 G2 l3 l4 R Tl Ha)(s:aj Ha Hb):Tf H1 G2 l3 l4 R Tl Hb:=⟨t.s1.trans s,t.s2.trans s,s _ _ t.r,s _ _ t.t,t.n3,t.n4,t.g3,t.g4⟩
theorem Tf.Js(t:Tf H1 G2 l3 l4 R Tl Ha)(n:l3≠l4)(e:o=LI Tn):Tf H1 G2 l3 l4 R Tn (upd Ha l4 o):=
 ⟨fun b o e=>by rw[aB (bB e t.n4)];exact t.s1 b o e,fun b o e=>by rw[aB (bB e t.g4)];exact t.s2 b o e,by rw[aB n];exact t.r,by rw[aE,e],t.n3,t.n4,t.g3,t.g4⟩
theorem Tf.put3(t:Tf H1 G2 l3 l4 R Tl Ha)(n:l3≠l4)(e:o=LN Rn):Tf H1 G2 l3 l4 Rn Tl (upd Ha l3 o):=
 ⟨fun b o e=>by rw[aB (bB e t.n3)];exact t.s1 b o e,fun b o e=>by rw[aB (bB e t.g3)];exact t.s2 b o e,by rw[aE,e],by rw[aB (fun z=>n z.symm)];exact t.t,t.n3,t.n4,t.g3,t.g4⟩
theorem Tf.kn(t:Tf H1 G2 l3 l4 R Tl Ha)(s:aj G Ha)(g3:G l3=Option.none)(g4:G l4=Option.none):Tf H1 G l3 l4 R Tl Ha:=⟨t.s1,s,t.r,t.t,t.n3,t.n4,g3,g4⟩
end
theorem Hu(d:Dia)(st:List Nat×List Int)(a:Nat):st.1.length≤(bO d st a).1.length:=by unfold bO;simp only;split<;>simp
theorem Rk(d:Dia)(st:List Nat×List Int)(k:Nat):st.1.length≤(jb d st k).1.length:=by exact cx (Hu d (st.1,st.2++[sgn (ba d (st.1.getD k 0)).minus]) _) (Hu d _ _)
theorem SI{R:List Nat}(h:y∈R):R.findIdx? (fun z=>z==y)=some (R.idxOf y):=by have bw:R.idxOf y<R.length:=B0 h;rw[List.findIdx?_eq_some_iff_findIdx_eq];exact⟨bw,rfl⟩
section
variable{K:Fg}(T:Txt K mg CC CD)
include T
theorem LY:Def P w K mg base 2 "told_from" ["drawing","start"] (Fn (aO (aA CC CD) (aO aa bu)) ay (fun c=>Km.Good c.1∧c.1.x.length≤8∧c.2.1<c.1.n) fun c=>Km.told c.1 c.2.1):=by
 refine T.hs.Ll.mk ["drawing","start","heads","reached","told","at","crossing","arc","head"] (fun nd H1 vs Q E hr h=>?_);refine JS h fun H d st v0 v1 s1 h0 h1 hh k=>?_;obtain⟨hG,hL,hS⟩:=hh;have hG:Km.Good d:=hG;have hL:d.x.length≤8:=hL;have hn8:d.n≤8:=hL;have hS:st<d.n:=hS;have h0:(aA CC CD).rel H v0 d:=h0;have h1:aa.rel H v1 st:=h1;refine br (i:=2) nd (aK (VR T) hr ⟨Km.Az hG,by show d.x.length≤100;lia⟩ (az (xv 0 h0))) s1 fun v2 G2 H2 f2 r2=>?_;have r2:sM.rel G2 v2 (jg d):=r2;have h0:=(aA CC CD).mono f2.hg h0;have h1:=aa.mono f2.hg h1;refine i4 (i:=3) nd (a5 (aV (xv 1 h1) aZ)) f2.g2 fun l3 vs3 G3 H3 f3 n3 ng3 h3 p3=>?_;have e3:vs3=[st].map fun n:Nat=>V.int (n:Int):=by cases p3 with|cons q r=>cases r;cases q;rfl
 subst e3;refine i4 (i:=4) (R:=aq) nd (a5 aZ) (f3.h2.trans (aj.refl _):aj H2 H3) fun l4 vs4 G4 H4 f4 n4 ng4 h4 p4=>?_;have e4:vs4=([]:List Int).map V.int:=by cases p4;rfl
 subst e4;have n34:l3≠l4:=bB h3 n4;have n13:H1 l3=Option.none:=f2.bX n3;have n14:H1 l4=Option.none:=f2.bX (f3.h2.free n4);refine br (i:=5) nd ax (aj.refl H4) fun v5 G5 H5 f5 r5=>?_;cases r5;have tf0:Tf H1 G2 l3 l4 [st] [] H5:=⟨f2.h2.trans (f3.h2.trans (f4.h2.trans f5.h2)),f2.g2.trans (f3.h2.trans (f4.h2.trans f5.h2)),f5.h2 _ _ (f4.h2 _ _ h3),f5.h2 _ _ h4,n13,n14,f2.g2.free n3,f2.g2.free (f3.h2.free n4)⟩;refine tI (fun m σ' H'=>∃(j:Nat)(o6 o7 o8:Option V),σ'=[some v0,some v1,some v2,some (.ref l3),some (.ref l4),some (.int (j:Int)),o6,o7,o8]∧Tf H1 G2 l3 l4 (wk d st j).1 (wk d st j).2 H'∧j≤(wk d st j).1.length∧m=d.n-j) ⟨_,0,none,none,none,rfl,tf0,eG _,rfl⟩ ?_;rintro m _ H' ⟨j,o6,o7,o8,rfl,tf,hj,rfl⟩;have hi:=Km.pM hG hS j;have hlen:=Km.zG hG hS j;have rn:aa.rel H' (.int ((j:Nat):Int)) j:=rfl;refine(xC (XE.int (xv 5 rn)) (XE.int (XE.nat (cN T.len (xv 3 (vC tf.r))) rfl))) H' (aj.refl _) _ fun G6 H6 f6=>?_;have tf:=tf.up f6.h2;clear f6 rn;by_cases hc:(j:Int)<((wk d st j).1.length:Int)
 ·rw[ag (by simpa using hc)];have dP:j<(wk d st j).1.length:=by lia
  have hwk:wk d st (j+1)=jb d (wk d st j) j:=by show(if j<(wk d st j).1.length then jb d (wk d st j) j else wk d st j)=_;rw[ag dP]
  generalize hR:wk d st j=w at*;have hrr:w.1.getD j 0<d.n:=hi.lt _ (Km.getD_mem dP);have d8:w.1.getD j 0<d.x.length:=hrr;have at1:w.1[j]?=some (w.1.getD j 0):=by rw[bC,bq dP];rfl
  have at2:d.x[w.1.getD j 0]?=some (ba d (w.1.getD j 0)):=by unfold ba;rw[bC (l:=d.x),bq d8];rfl
  have tl5:w.2.length≤40:=by have:=Km.Cw d st j;rw[hR]at this;lia
  generalize hcr:ba d (w.1.getD j 0)=y at at2;have ho0:=Km.tF hG (b:=0) hrr;have ho1:=Km.tF hG (b:=1) hrr;have eo0:Km.out d (w.1.getD j 0) 0=y.uo:=by unfold Km.out;rw[hcr];rfl
  have eo1:Km.out d (w.1.getD j 0) 1=y.oo:=by unfold Km.out;rw[hcr];rfl
  rw[eo0]at ho0;rw[eo1]at ho1;have heads:∀a,a=y.uo∨a=y.oo→((jg d).find? fun x=>decide (x.1=a)).map (·.2)=some (cB d a)∧(cB d a).1<d.n:=by
   have go:∀a,(∃j c,j<d.n∧c<2∧a=Km.dw d j c∧cB d a=(j,c))→((jg d).find? fun x=>decide (x.1=a)).map (·.2)=some (cB d a)∧(cB d a).1<d.n:=by rintro a ⟨j',c',lq,dP,e,e'⟩;rw[e',e,(Km.sE hG lq dP).1];exact⟨rfl,lq⟩
   rintro a (rfl|rfl)
   ·exact go _ ho0
   ·exact go _ ho1
  have kn3:au H H1 (upd H l3 (LN w.1)) H6:=au.aX ⟨aj.refl _,s1.trans tf.s1,tf.s1,fun _ _ h _=>h⟩ tf.n3 (s1.free tf.n3) tf.r;have sk:aj (upd G2 l3 (LN w.1)) H6:=fun b o e=>by
   by_cases z:b=l3
   ·subst z;rw[aE]at e;rw[←e];exact tf.r
   ·rw[aB z]at e;exact tf.s2 b o e
  have rn:aa.rel (upd G2 l3 (LN w.1)) (.int ((j:Nat):Int)) j:=rfl;refine br (i:=6) nd (aW (bK T (xv 0 ((aA CC CD).mono (aj.df tf.g3) h0))) (XE.int (aW (xv 3 (vC aE)) (XE.int (xv 5 rn)) (bt at1))) (bt at2)) sk fun v6 G7 H7 f7 r6=>?_;have g74:G7 l4=Option.none:=f7.sep _ _ (by rw[aB (fun z=>n34 z.symm)];exact tf.g4) tf.t;have g73:G7 l3=some (LN w.1):=f7.hg _ _ aE;obtain⟨p6,dx6,e6,hp6⟩:=r6;have np6:p6≠l3:=fun z=>by rw[z,g73]at hp6;cases hp6
  have r6:(a6 CC).rel (del G7 l3) v6 y:=⟨p6,dx6,e6,by unfold del;rw[af np6];exact hp6⟩;have k3:del G7 l3 l3=Option.none:=by unfold del;rw[ag rfl]
  have k4:del G7 l3 l4=Option.none:=by unfold del;rw[af (fun z=>n34 z.symm)];exact g74
  have kS:aj (del G7 l3) H7:=fun b o e=>by
   unfold del at e;by_cases z:b=l3
   ·rw[ag z]at e;cases e
   ·rw[af z]at e;exact f7.g2 b o e
  have kG:aj G2 (del G7 l3):=fun b o e=>by
   have z:b≠l3:=fun z=>by rw[z,tf.g3]at e;cases e
   unfold del;rw[af z];exact f7.hg b o (by rw[aB z];exact e)
  have tf:=(tf.up f7.h2).kn kS k3 k4;have h0:=(aA CC CD).mono kG h0;have r2:=sM.mono kG r2;generalize del G7 l3=K6 at*;refine tY (i:=4) (H:=K6) rfl tf.t (by rw[bj];lia) (g7 T (xv 6 r6)) kS fun v8 G8 H8 f8 r8=>?_;cases r8;have oe:=(tf.up f8.h2).Js n34 (o:= .lst (w.2.map V.int++[V.int (sgn y.minus)])) (Tn:=w.2++[sgn y.minus]) (by simp[LI]);have oe:=oe.kn oe.s2 k3 k4;generalize upd H8 l4 (.lst (w.2.map V.int++[V.int (sgn y.minus)]))=H9 at oe;let gL:Nat→List Nat×List Int:=fun i=>if i=0 then(w.1,w.2++[sgn y.minus])else if i=1 then bO d (w.1,w.2++[sgn y.minus]) y.uo else bO d (bO d (w.1,w.2++[sgn y.minus]) y.uo) y.oo
  have hsts:∀i a,[y.uo,y.oo][i]?=some a→gL (i+1)=bO d (gL i) a:=fun i a h=>by
   rcases i with _|_|i
   ·cases h;rfl
   ·cases h;rfl
   ·simp at h
  have hstl:∀i,(gL i).2.length≤45:=fun i=>by
   show(if i=0 then(w.1,w.2++[sgn y.minus])else if i=1 then bO d (w.1,w.2++[sgn y.minus]) y.uo else bO d (bO d (w.1,w.2++[sgn y.minus]) y.uo) y.oo).2.length≤45;split
   ·simp;lia
   ·split
    ·rw[Km.tK];simp;lia
    ·rw[Km.tK,Km.tK];simp;lia
  have hstr:∀i,(gL i).1.length≤d.n:=fun i=>by
   have w0:oG d j (w.1,w.2++[sgn y.minus]):=⟨hi.nd,hi.lt,hi.ne⟩;have q:oG d j (gL i):=by
    show oG d j (if i=0 then(w.1,w.2++[sgn y.minus])else if i=1 then bO d (w.1,w.2++[sgn y.minus]) y.uo else bO d (bO d (w.1,w.2++[sgn y.minus]) y.uo) y.oo);split
    ·exact w0
    ·split
     ·exact Km.sL w0 (heads _ (.inl rfl)).2
     ·exact Km.sL (Km.sL w0 (heads _ (.inl rfl)).2) (heads _ (.inr rfl)).2
   exact Km.qQ q.nd q.lt
  refine kL (H:=K6) jE rfl (bT nd) (Nu (k:=7) (fP T (xv 6 r6)) (fJ T (xv 6 r6))) oe.s2
   (fun Gx i σ' H'=>∃o7 o8,σ'=[some v0,some v1,some v2,some (.ref l3),some (.ref l4),some (.int (j:Int)),some v6,o7,o8]∧Tf H1 Gx l3 l4 (gL i).1 (gL i).2 H'∧aj K6 Gx) ?_ ?_ ?_ ?_
  ·intro Gx Hx fx;exact⟨_,_,rfl,(oe.up fx.h2).kn fx.g2 (fx.sep _ _ k3 oe.r) (fx.sep _ _ k4 oe.t),fx.hg⟩
  ·rintro Gx i σ' Hx ⟨o7,o8,_,t,_⟩;exact t.s2
  ·rintro Gx i a σ' Hx ha ⟨o7,o8,rfl,t,sK⟩ σ'' Gy Hy fy ⟨va,ra,rfl⟩;cases ra;have t:=t.up fy.h2;have ham:a=y.uo∨a=y.oo:=by
    rcases i with _|_|i
    ·cases ha;exact .inl rfl
    ·cases ha;exact .inr rfl
    ·simp at ha
   obtain⟨hf,bw⟩:=heads a ham;rw[hsts i a ha];have hl1:=hstl i;have jR:=hstr i;generalize gL i=w2 at*;refine br (i:=8) nd (WL (iE hr) (xv 2 (sM.mono (sK.trans t.s2) r2)) (xv 7 (rfl)) hf (fun _ _=>rfl)) (aj.refl _) fun v9 Gz Hz fz r9=>?_;have t:=t.up fz.h2;obtain⟨q9,w9,w9',e9,hq9,rw9,rw9'⟩:=r9;cases rw9;cases rw9';subst e9;have hq9:=fz.g2 _ _ hq9;generalize hdef:cB d a=hh at*;have rp:∀{Hn:Hp},Hn q9=some (.tup [.int (hh.1:Int), .int (hh.2:Int)])→(dF aa aa).rel Hn (.ref q9) hh:=fun h=>⟨q9,_,_,rfl,h,rfl,rfl⟩;refine Xz (DC (u7 (xv 8 (rp hq9)) ax) (xv 3 (vC t.r))) (aj.refl _) (fun Hn=>∃Rn,Tf H1 Gx l3 l4 Rn w2.2 Hn∧hh.1∈Rn∧Rn.length≤9∧Hn q9=some (.tup [.int (hh.1:Int), .int (hh.2:Int)])∧bO d w2 a=(Rn,w2.2++[(Rn.idxOf hh.1:Int),(hh.2:Int)])) ?_ ?_ ?_
   ·rintro Hn ⟨Rn,t,hm,hl9,hq,ev⟩;refine rT (R:=aq) (i:=4) rfl t.t (XN.xe (a5 (aV (XE.int (AL (xv 3 (vC t.r)) (u7 (xv 8 (rp hq)) ax) (SI hm))) (aV (XE.int (Em (xv 8 (rp hq)) ax)) aZ)))) (aj.refl _) (by rw[bj];simp;lia) fun vs G H2 jB pr=>bp ?_;have e:=qd pr;subst e;rw[ev];exact⟨_,_,rfl,(t.up jB.h2).Js n34 (by simp[LI]),sK⟩
   ·intro hq G H2 jB D' kD;have hq:hh.1∉w2.1:=by simpa using hq
    have t:=t.up jB.h2;refine tY (i:=3) rfl t.r (by rw[bj];lia) (u7 (xv 8 (rp (jB.h2 _ _ hq9))) ax) (aj.refl _) fun v G' H3 dm r3=>bp (kD _ ⟨w2.1++[hh.1],(t.up dm.h2).put3 n34 ?_,by simp,by simp;lia,?_,?_⟩)
    ·cases r3;simp[LN]
    ·have nq:q9≠l3:=fun z=>by have:=jB.h2 _ _ hq9;rw[z,t.r]at this;cases this
     rw[aB nq];exact dm.h2 _ _ (jB.h2 _ _ hq9)
    ·unfold bO;rw[hdef,af hq]
   ·intro hq G H2 jB;have hq:hh.1∈w2.1:=by simpa using hq
    refine⟨w2.1,t.up jB.h2,hq,by lia,jB.h2 _ _ hq9,?_⟩;unfold bO;rw[hdef,ag hq]
  ·rintro Gx σ' Hx ⟨o7,o8,rfl,t,sK⟩;refine xt (i:=5) (f:=fun a b=>a+b) oS nd rfl (ax) (aj.refl _) fun G H2 jB=>bp ?_;refine⟨d.n-(j+1),by grind,j+1,some v6,o7,o8,by simp,?_,?_,rfl⟩
   ·have t:=(t.up jB.h2).kn (kG.trans (sK.trans (t.s2.trans jB.h2))) (kG.trans sK|>.free t.g3) (kG.trans sK|>.free t.g4);rw[hwk];unfold jb;rw[hcr];exact t
   ·rw[hwk];have:=Rk d w j
    lia
 ·rw[af (by simpa using hc)];have e:(wk d st j).1.length=j:=by lia
  have ew:(Km.told d st)=(wk d st j).2:=by unfold Km.told;have:=Km.C3 (d:=d) (s:=st) (k:=j) (by simp[*]) (d.n-j);rw[show j+(d.n-j)=d.n by grind]at this;rw[this]
  refine gD (i:=4) rfl (k (.ref l4) (upd H l4 (LI (wk d st j).2)) H6 ?_ ?_)
  ·exact au.aX ⟨aj.refl _,s1.trans tf.s1,tf.s1,fun _ _ h _=>h⟩ n14 (s1.free n14) tf.t
  ·show ay.rel _ (.ref l4) (Km.told d st);rw[ew];exact P2 aE
end
def codes(d:Dia):List (List Int):=(range d.n).map (Km.told d)
section
variable{K:Fg}(T:Txt K mg CC CD)
include T
theorem Dl:Def P w K mg base 3 "told_from_each" ["drawing"] (Fn (aO (aA CC CD) bu) (ah ay) (fun c=>Km.Good c.1∧c.1.x.length≤8) fun c=>gX (codes c.1)):=by
 refine T.hs.WU.mk Fj (@fun f bI A outer s nd H1 vs Q E hr h=>?_);refine DX h fun H d v0 s1 h0 hh k=>?_;obtain⟨hG,hL⟩:=hh;have hG:Km.Good d:=hG;have hL:d.x.length≤8:=hL;have hn8:d.n≤8:=hL;have h0:(aA CC CD).rel H v0 d:=h0;have hc:(ups 0 ((d.n:Int)-0).toNat).map (fun z=>Km.told d z.toNat)=codes d:=by unfold codes ups;rw[b7,show((d.n:Int)-0).toNat=d.n by rfl];refine ef fun i hi=>?_;simp
 refine a7 (XE.cast (RA T (by have:=hr.units;show(A.deeper _).units+2<cLine;lia) (XN.xe (gh (own:=[("start",1)]) (fun z:Int=>Km.told d z.toNat) rfl nd (oF T.range (cN T.len (bK T (xv 0 h0))) (by simp) (by lia)) (cK (by show cu Fj (bE Gf) _ _=true;decide)) (fun _ _ _ _ _=>bT (k:=1) nd) (dS (by decide)) (by rw[kz];lia) ?_)) (by rw[bj,kz];lia)) rfl) s1 fun y G H2 f2 r2=>k y G H2 f2 ?_
 ·rintro z G _ hz sg ⟨vz,rz,rfl⟩ s0 H0 C cl fp;have hz:=oZ hz;have rz:aa.rel G vz z.toNat:=by show vz=V.int _;rw[show vz=V.int z from rz,Ku (by simp[*])]
  have bw:z.toNat<d.n:=by
   have:z<0+((((d.x.length:Nat):Int)-0).toNat:Nat):=hz.2;show z.toNat<d.x.length
   lia
  exact XE.cast (aK (LY T) hr ⟨hG,hL,bw⟩ (aF (xv 0 ((aA CC CD).mono sg h0)) (az (xv 1 rz)))) rfl
 ·have e:ups 0 (((d.x.length:Nat):Int)-0).toNat=ups 0 ((d.n:Int)-0).toNat:=rfl;show(ah ay).rel G y (gX (codes d));rw[←hc];exact r2
theorem Wa:Def P w K mg base 4 "are_same" ["one","other"] (Fn (aO (aA CC CD) (aO (aA CC CD) bu)) cG (fun c=>(Km.Good c.1∧c.1.x.length≤8)∧Km.Good c.2.1∧c.2.1.x.length≤8) fun c=>decide ((c.1.c:Int)=(c.2.1.c:Int))&&decide (gX (codes c.1)=gX (codes c.2.1))):=by refine T.hs.Vo.mk ["one","other"] (fun nd H1 vs Q E hr h=>?_);refine JS h fun H d e v0 v1 s1 h0 h1 hh k=>?_;obtain⟨hp,hq⟩:=hh;have h0:(aA CC CD).rel H v0 d:=h0;have h1:(aA CC CD).rel H v1 e:=h1;exact a7 (XE.cast (yu (nc (XE.int (eY T (xv 0 h0))) (XE.int (eY T (xv 1 h1)))) (fun _=>WI (by have:=hr.units;exact this) (aK (Dl T) hr hp (az (xv 0 h0))) (aK (Dl T) hr hq (az (xv 1 h1))))) rfl) s1 fun y G H2 f2 r2=>k y G H2 f2 r2
end
end Kn
namespace Km
open Kb Kn
open PySem (Paired)
theorem YT{R S:List Nat}(h:x∈R):(R++S).idxOf x=R.idxOf x:=by grind
abbrev nx(d:Dia)(i b:Nat):Nat×Nat:=cB d (out d i b)
theorem qk(g:Good d)(hi:i<d.n):(nx d i b).1<d.n∧(nx d i b).2<2∧out d i b=dw d (nx d i b).1 (nx d i b).2:=by obtain⟨j,c,hj,hc,e,e'⟩:=tF g hi;unfold nx;rw[e'];exact⟨hj,hc,e⟩
theorem HR(g:Good d)(hj:j<d.n)(hc:c<2)(e:out d i b=dw d j c):nx d i b=(j,c):=by unfold nx;rw[e];exact(sE g hj hc).2
theorem Nc(d:Dia)(hi:i<d.n):ba d.turn i=(ba d i).back:=by unfold ba Dia.turn;have hi:i<d.x.length:=hi;simp[*]
theorem Hr(d:Dia):d.turn.n=d.n:=by simp[Dia.turn,Dia.n]
theorem zu(g:Good d)(hi:i<d.n)(hj:j<d.n)(hb:b<2)(hc:c<2)(e:out d i b=out d j c):i=j∧b=c:=by
 have h:∀{i b},i<d.n→dw d.turn i b=out d i b:=fun{i b} hi=>by unfold dw out;rw[Nc d hi];rfl
 refine zo (EI g) (by rw[Hr];exact hi) (by rw[Hr];exact hj) hb hc ?_;rw[h hi,h hj,e]
theorem CS(g:Good d)(hi:i<d.n)(hj:j<d.n)(hb:b<2)(hc:c<2)(e:nx d i b=nx d j c):i=j∧b=c:=by refine zu g hi hj hb hc ?_;rw[(qk g hi).2.2,(qk g hj).2.2,e]
structure PI(d e:Dia)(M:List (Nat×Nat)):Prop where
 lt:∀p∈M,p.1<d.n∧p.2<e.n
 n1:(M.map (·.1)).Nodup
 n2:(M.map (·.2)).Nodup
 sg:∀p∈M,(ba d p.1).minus=(ba e p.2).minus
 nx:∀p∈M,∀b,b<2→((nx d p.1 b).1,(nx e p.2 b).1)∈M∧(nx d p.1 b).2=(nx e p.2 b).2
theorem map_inj:∀{M:List α},(M.map f).Nodup→∀p∈M,∀q∈M,f p=f q→p=q
 |[],_,p,hp,_,_,_=>by cases hp
 |a::M,h,p,hp,q,hq,e=>by
  rw[a9,fY]at h;rcases a_.mp hp with rfl|nY
  ·grind
  ·rcases a_.mp hq with rfl|hq
   ·simp_all
   ·exact map_inj h.2 p nY q hq e
theorem PI.bi(h:PI d e M)(h1:(a,b)∈M)(h2:(x,y)∈M):a=x↔b=y:=
 ⟨fun z=>by cases z;exact congrArg Prod.snd (map_inj h.n1 _ h1 _ h2 rfl),fun z=>by cases z;exact congrArg Prod.fst (map_inj h.n2 _ h1 _ h2 rfl)⟩
theorem Er{M:List (Nat×Nat)}(bi:∀{a b x y:Nat},(a,b)∈M→(x,y)∈M→(a=x↔b=y))(hx:(x,y)∈M)(h:Paired (fun a b=>(a,b)∈M) R R'):R.idxOf x=R'.idxOf y∧(x∈R↔y∈R'):=by
 induction h with
 |nil=>exact⟨rfl,by simp⟩
 | @cons a b R R' q r ih=>grind
structure zD(M:List (Nat×Nat))(a b:List Nat×List Int):Prop where
 r:Paired (fun a b=>(a,b)∈M) a.1 b.1
 t:a.2=b.2
theorem D3(h:PI d e M)(q:zD M u v)(hm:((cB d a).1,(cB e b).1)∈M)(hb:(cB d a).2=(cB e b).2):zD M (bO d u a) (bO e v b):=by
 have i1:=Er h.bi hm q.r;have e:Paired (fun a b=>(a,b)∈M) (if(cB d a).1∈u.1 then u.1 else u.1++[(cB d a).1]) (if(cB e b).1∈v.1 then v.1 else v.1++[(cB e b).1]):=by
  by_cases c:(cB d a).1∈u.1
  ·rw[ag c,ag (i1.2.mp c)];exact q.r
  ·rw[af c,af (fun z=>c (i1.2.mpr z))];exact Paired.append q.r (.cons hm .nil)
 refine⟨e,?_⟩;unfold bO;simp only;rw[q.t,(Er h.bi hm e).1,hb]
theorem S_{M:List (Nat×Nat)}(h:Paired (fun a b=>(a,b)∈M) R R'):∀{k:Nat},k<R.length→(R.getD k 0,R'.getD k 0)∈M:=by
 induction h with
 |nil=>intro k hk;cases hk
 |cons q r ih=>
  intro k hk;cases k with
  |zero=>exact q
  |succ k=>exact ih (by simpa using hk)
theorem EM(h:PI d e M)(hm:(s,t)∈M):∀k,zD M (wk d s k) (wk e t k)
 |0=>⟨.cons hm .nil,rfl⟩
 |k+1=>by
  have ih:=EM h hm k;have hl:=ih.r.length;unfold wk;by_cases c:k<(wk d s k).1.length
  ·rw[ag c,ag (by simp_all)];have m:=S_ ih.r c;have s':=h.sg _ m;have n0:=h.nx _ m 0 (by simp);have n1:=h.nx _ m 1 (by simp);unfold jb;rw[s'];exact D3 h (D3 h ⟨ih.r,congrArg (·++[sgn (ba e ((wk e t k).1.getD k 0)).minus]) ih.t⟩ n0.1 n0.2) n1.1 n1.2
  ·lia
theorem Cs(h:PI d e M)(hn:d.n= e.n)(hm:(s,t)∈M):told d s=told e t:=by unfold told;rw[hn];exact(EM h hm e.n).t
def chunk(d:Dia)(R:List Nat)(c:Nat):List Int:=[sgn (ba d c).minus,(R.idxOf (nx d c 0).1:Int),((nx d c 0).2:Int),(R.idxOf (nx d c 1).1:Int),((nx d c 1).2:Int)]
theorem Vw(h0:(nx d c 0).1∈R)(h1:(nx d c 1).1∈R):chunk d (R++S) c=chunk d R c:=by unfold chunk;rw[YT h0,YT h1]
structure Sv(d:Dia)(k:Nat)(st:List Nat×List Int):Prop where
 cl:∀c∈st.1.take k,(nx d c 0).1∈st.1∧(nx d c 1).1∈st.1
 t:st.2=(st.1.take k).flatMap (chunk d st.1)
theorem wR(d:Dia)(st:List Nat×List Int)(a:Nat):∃S,(bO d st a).1=st.1++S:=by
 unfold bO;by_cases c:(cB d a).1∈st.1
 ·simp_all
 ·simp_all
theorem GA(d:Dia)(st:List Nat×List Int)(a:Nat):(cB d a).1∈(bO d st a).1:=by unfold bO;grind
theorem C8:∀{l:List α},(∀a∈l,f a=g a)→l.flatMap f=l.flatMap g
 |[],_=>rfl
 |a::l,h=>by rw[dY,dY,h a (.head _),C8 fun b hb=>h b (.tail _ hb)]
theorem zU:∀k,Sv d k (wk d s k)
 |0=>⟨by simp,by simp[wk]⟩
 |k+1=>by
  have ih:=zU (d:=d) (s:=s) k;unfold wk;by_cases c:k<(wk d s k).1.length
  ·rw[ag c];generalize wk d s k=w at*;unfold jb;generalize hc:w.1.getD k 0=c0;generalize hu:bO d (w.1,w.2++[sgn (ba d c0).minus]) (ba d c0).uo=u;obtain⟨S1,e1⟩:=wR d (w.1,w.2++[sgn (ba d c0).minus]) (ba d c0).uo;obtain⟨S2,e2⟩:=wR d u (ba d c0).oo;have m1:=GA d (w.1,w.2++[sgn (ba d c0).minus]) (ba d c0).uo;have m2:=GA d u (ba d c0).oo;rw[hu]at e1 m1;have hck:w.1.take (k+1)=w.1.take k++[c0]:=by rw[BZ,bq c];simp_all
   have htk:(bO d u (ba d c0).oo).1.take (k+1)=w.1.take k++[c0]:=by grind
   have n0:(nx d c0 0).1∈u.1:=m1;have n1:(nx d c0 1).1∈(bO d u (ba d c0).oo).1:=m2;have tu:u.2=w.2++[sgn (ba d c0).minus]++[(u.1.idxOf (nx d c0 0).1:Int),((nx d c0 0).2:Int)]:=by rw[←hu];rfl
   have tv:(bO d u (ba d c0).oo).2=u.2++[((bO d u (ba d c0).oo).1.idxOf (nx d c0 1).1:Int),((nx d c0 1).2:Int)]:=rfl;refine⟨fun b hb=>?_,?_⟩
   ·rw[htk]at hb;rcases cE.mp hb with hb|hb
    ·obtain⟨x1,x2⟩:=ih.cl b hb;simp[*]
    ·grind
   ·rw[htk,mX,tv,tu,ih.t];have ec:(w.1.take k).flatMap (chunk d (bO d u (ba d c0).oo).1)=(w.1.take k).flatMap (chunk d w.1):=C8 fun b hb=>by obtain⟨x1,x2⟩:=ih.cl b hb;rw[e2,e1,oj,Vw x1 x2]
    rw[ec];simp only[dY,List.flatMap_nil,pS,chunk];grind
  ·rw[af c];have e:(wk d s k).1.take (k+1)=(wk d s k).1.take k:=by rw[uD (by lia),uD (by simp_all)]
   exact⟨by rw[e];exact ih.cl,by rw[e];exact ih.t⟩
theorem Fh{f:α→List γ}{g:β→List γ}(hf:∀a,(f a).length=5)(hg:∀a,(g a).length=5):∀{l:List α}{m:List β},l.flatMap f=m.flatMap g→Paired (fun a b=>f a=g b) l m
 |[],[],_=> .nil
 |[],b::m,h=>by have:=congrArg List.length h;grind
 |a::l,[],h=>by have:=congrArg List.length h;grind
 |a::l,b::m,h=>by rw[dY,dY]at h;obtain⟨h1,h2⟩:=List.append_inj h (by rw[hf,hg]);exact .cons h1 (Fh hf hg h2)
theorem Wg{xs ys:List Nat}(h:Paired R xs ys):(∀p∈xs.zip ys,R p.1 p.2)∧(xs.zip ys).map (·.1)=xs∧(xs.zip ys).map (·.2)=ys:=by
 induction h with
 |nil=>simp
 |cons q r ih=>simp_all
theorem Gb{xs ys:List Nat}(hl:xs.length=ys.length)(hx:x∈xs)(hy:y∈ys)(e:xs.idxOf x=ys.idxOf y):(x,y)∈xs.zip ys:=by
 have h1:=B0 hx;have h2:=B0 hy;have hz:xs.idxOf x<(xs.zip ys).length:=by rw[rL];simp[*]
 have:(xs.zip ys)[xs.idxOf x]=(x,y):=by grind-ring-lia-linarith-order
 grind
theorem XH(gd:Good d)(ge:Good e)(hn:d.n= e.n)(hs:s<d.n)(ht:t<e.n)(h:told d s=told e t):PI d e ((wk d s d.n).1.zip (wk e t e.n).1):=by
 have W1:=pM gd hs d.n;have W2:=pM ge ht e.n;have l1:=zG gd hs d.n;have l2:=zG ge ht e.n;have T1:=zU (d:=d) (s:=s) d.n;have T2:=zU (d:=e) (s:=t) e.n;unfold told at h;generalize wk d s d.n=u at*;generalize wk e t e.n=v at*;have T1t:=T1.t;have T2t:=T2.t;have c1:=T1.cl;have c2:=T2.cl;rw[uD l1]at T1t c1;rw[uD l2]at T2t c2;rw[T1t,T2t]at h;have pr:=Fh (fun a=>rfl) (fun a=>rfl) h;have hl:=pr.length;obtain⟨z1,z2,z3⟩:=Wg pr;refine⟨fun p hp=>⟨W1.lt _ (lA hp).1,W2.lt _ (lA hp).2⟩,by rw[z2];exact W1.nd,by rw[z3];exact W2.nd,fun p hp=>?_,fun p hp b hb=>?_⟩
 ·have:=z1 p hp;unfold chunk at this;simp at this;unfold sgn at this;cases h1:(ba d p.1).minus<;>cases h2:(ba e p.2).minus<;>simp[h1,h2]at this<;>rfl
 ·have:=z1 p hp;unfold chunk at this;simp only[List.cons.injEq]at this;obtain⟨_,q1,q2,q3,q4,_⟩:=this;obtain⟨m1,m2⟩:=lA hp;obtain⟨x1,x2⟩:=c1 _ m1;obtain⟨y1,y2⟩:=c2 _ m2;rcases Bv b 1 with c|c
  ·have:b=0:=by simp_all
   subst this;exact⟨Gb hl x1 y1 (by lia),by lia⟩
  ·have:b=1:=by lia
   subst this;exact⟨Gb hl x2 y2 (by lia),by lia⟩
theorem PI.app{d e:Dia}{M N:List (Nat×Nat)}(h:PI d e M)(k:PI d e N)(d1:∀p∈N,p.1∉M.map (·.1))(d2:∀p∈N,p.2∉M.map (·.2)):PI d e (M++N):=by
 refine⟨fun p hp=>?_,?_,?_,fun p hp=>?_,fun p hp b hb=>?_⟩
 ·rcases cE.mp hp with q|q
  ·exact h.lt p q
  ·exact k.lt p q
 ·rw[eJ,mY];refine⟨h.n1,k.n1,fun a ha b hb e=>?_⟩;grind
 ·rw[eJ,mY];refine⟨h.n2,k.n2,fun a ha b hb e=>?_⟩;grind
 ·rcases cE.mp hp with q|q
  ·exact h.sg p q
  ·exact k.sg p q
 ·rcases cE.mp hp with q|q
  ·exact⟨ux _ (h.nx p q b hb).1,(h.nx p q b hb).2⟩
  ·exact⟨mQ _ (k.nx p q b hb).1,(k.nx p q b hb).2⟩
def bits(S:List Nat):List (Nat×Nat):=S.flatMap fun j=>[(j,0),(j,1)]
theorem pH{S:List Nat}{p:Nat×Nat}:p∈bits S↔p.1∈S∧p.2<2:=by unfold bits;grind
theorem Ji:∀{S:List Nat},S.Nodup→(bits S).Nodup
 |[],_=>by simp[bits]
 |j::S,h=>by obtain⟨h1,h2⟩:=fY.mp h;show([(j,0),(j,1)]++bits S).Nodup;rw[mY];refine⟨by simp,Ji h2,fun a ha b hb e=>?_⟩;have:=(pH.mp hb).1;grind
theorem nodup_map_on{α β:Type}{f:α→β}:∀{l:List α},l.Nodup→(∀a∈l,∀b∈l,f a=f b→a=b)→(l.map f).Nodup
 |[],_,_=>by simp
 |a::l,h,hi=>by obtain⟨h1,h2⟩:=fY.mp h;rw[a9,fY];refine⟨fun m=>?_,nodup_map_on h2 fun x hx y hy=>hi x (.tail _ hx) y (.tail _ hy)⟩;grind
theorem Ec{d:Dia}(g:Good d){S:List Nat}(hn:S.Nodup)(hl:∀j∈S,j<d.n)(hc:∀j∈S,∀b,b<2→(nx d j b).1∈S){i b:Nat}(hi:i<d.n)(hb:b<2)(h:(nx d i b).1∈S):i∈S:=by
 have nl:((bits S).map fun p=>nx d p.1 p.2).Nodup:=nodup_map_on (Ji hn) fun p hp q hq e=>by obtain⟨p1,p2⟩:=pH.mp hp;obtain⟨q1,q2⟩:=pH.mp hq;obtain⟨e1,e2⟩:=CS g (hl _ p1) (hl _ q1) p2 q2 e;grind
 have pm:=qB nl (fun x hx=>by obtain⟨p,hp,rfl⟩:=aH.mp hx;obtain⟨p1,p2⟩:=pH.mp hp;exact pH.mpr ⟨hc _ p1 _ p2,(qk g (hl _ p1)).2.1⟩) (by simp);have m:nx d i b∈bits S:=pH.mpr ⟨h,(qk g hi).2.1⟩;obtain⟨p,hp,e⟩:=aH.mp (pm.mem_iff.mpr m);obtain⟨p1,p2⟩:=pH.mp hp;obtain⟨e1,_⟩:=CS g (hl _ p1) hi p2 hb e;simp_all
theorem reach{d:Dia}(g:Good d){s:Nat}(hs:s<d.n){P:Nat→Prop}(h0:P s)(hP:∀i b,i<d.n→b<2→P i→P (nx d i b).1):∀k,∀r∈(wk d s k).1,P r
 |0,r,hr=>by simp[wk]at hr;subst hr;exact h0
 |k+1,r,hr=>by
  have ih:=reach g hs h0 hP k;unfold wk at hr;by_cases c:k<(wk d s k).1.length
  ·rw[ag c]at hr;have hm:=getD_mem c;have bw:=(pM g hs k).lt _ hm;have one:∀{st:List Nat×List Int}{a:Nat},(∀r∈st.1,P r)→P (cB d a).1→∀r∈(bO d st a).1,P r:=fun{st a} h1 h2 r hr=>by unfold bO at hr;grind
   exact one (one ih (hP _ 0 bw (by simp) (ih _ hm))) (hP _ 1 bw (by simp) (ih _ hm)) r hr
  ·simp_all
theorem Oc{d e:Dia}(gd:Good d)(ge:Good e){s t:Nat}(hs:s<d.n)(ht:t<e.n):(s,t)∈(wk d s d.n).1.zip (wk e t e.n).1:=by
 have pre:∀(d:Dia)(s k:Nat),∃S,(wk d s k).1=s::S:=by
  intro d s k;induction k with
  |zero=>exact⟨[],rfl⟩
  |succ k ih=>
   obtain⟨S,e⟩:=ih;unfold wk;by_cases c:k<(wk d s k).1.length
   ·rw[ag c];unfold jb;obtain⟨S1,e1⟩:=wR d ((wk d s k).1,(wk d s k).2++[sgn (ba d ((wk d s k).1.getD k 0)).minus]) (ba d ((wk d s k).1.getD k 0)).uo;obtain⟨S2,e2⟩:=wR d (bO d ((wk d s k).1,(wk d s k).2++[sgn (ba d ((wk d s k).1.getD k 0)).minus]) (ba d ((wk d s k).1.getD k 0)).uo) (ba d ((wk d s k).1.getD k 0)).oo;rw[e2,e1];simp only;rw[e];exact⟨_,rfl⟩
   ·rw[af c];exact⟨S,e⟩
 obtain⟨S,e1⟩:=pre d s d.n;obtain⟨S',e2⟩:=pre e t e.n;rw[e1,e2];simp
theorem grow{d e:Dia}(gd:Good d)(ge:Good e)(hn:d.n= e.n)(hc:(codes d).Perm (codes e)):∀(m:Nat)(M:List (Nat×Nat)),PI d e M→d.n≤M.length+m→∃M',PI d e M'∧M'.length=d.n
 |m,M,h,hm=>by
  have hle:M.length≤d.n:=by have:=qQ h.n1 (n:=d.n) (fun r hr=>by obtain⟨p,hp,rfl⟩:=aH.mp hr;exact(h.lt p hp).1);simp_all
  by_cases z:M.length=d.n
  ·grind
  match m,hm with
  |0,hm=>lia
  |m+1,hm=>
   have ex:∃s,s<d.n∧s∉M.map (·.1):=pY fun no=>by have:(range d.n).length≤(M.map (·.1)).length:=sub_len j9 fun x hx=>pY fun q=>no ⟨x,bQ.mp hx,q⟩;grind
   obtain⟨s,hs,hsM⟩:=ex;have ex2:∃t,t<e.n∧told e t=told d s∧t∉M.map (·.2):=pY fun no=>by
    have c1:((range d.n).filter fun i=>decide (told d i=told d s)).length=((range e.n).filter fun i=>decide (told e i=told d s)).length:=by have:=hc.countP_eq (fun x=>decide (x=told d s));unfold codes at this;rwa[rN,rN,B3,B3]at this
    have c2:((M.map (·.1)).filter fun i=>decide (told d i=told d s)).length=((M.map (·.2)).filter fun i=>decide (told e i=told d s)).length:=by rw[←B3,←B3,rN,rN];refine x_ fun p hp=>?_;simp;rw[Cs h hn hp]
    have c3:((range e.n).filter fun i=>decide (told e i=told d s)).length≤((M.map (·.2)).filter fun i=>decide (told e i=told d s)).length:=by refine sub_len (j9.filter _) fun x hx=>?_;simp_all
    have c4:(s::(M.map (·.1)).filter fun i=>decide (told d i=told d s)).length≤((range d.n).filter fun i=>decide (told d i=told d s)).length:=by
     refine sub_len (fY.mpr ⟨fun q=>hsM (dz.mp q).1,h.n1.filter _⟩) fun x hx=>?_;rcases a_.mp hx with rfl|hx
     ·simp_all
     ·obtain⟨h1,h2⟩:=dz.mp hx;obtain⟨p,hp,rfl⟩:=aH.mp h1;exact dz.mpr ⟨bQ.mpr (h.lt p hp).1,h2⟩
    grind
   obtain⟨t,ht,ett,htM⟩:=ex2;have N:=XH gd ge hn hs ht ett.symm;have st:=Oc gd ge hs ht;have r1:=reach gd hs (P:=fun i=>i∉M.map (·.1)) hsM (fun i b hi hb ni q=>ni (Ec gd h.n1 (fun j hj=>by obtain⟨p,hp,rfl⟩:=aH.mp hj;exact(h.lt p hp).1) (fun j hj b hb=>by obtain⟨p,hp,rfl⟩:=aH.mp hj;exact aH.mpr ⟨_,(h.nx p hp b hb).1,rfl⟩) hi hb q)) d.n;have r2:=reach ge ht (P:=fun i=>i∉M.map (·.2)) htM (fun i b hi hb ni q=>ni (Ec ge h.n2 (fun j hj=>by obtain⟨p,hp,rfl⟩:=aH.mp hj;exact(h.lt p hp).2) (fun j hj b hb=>by obtain⟨p,hp,rfl⟩:=aH.mp hj;exact aH.mpr ⟨_,(h.nx p hp b hb).1,rfl⟩) hi hb q)) e.n;have pos:=Ke st;exact grow gd ge hn hc m _ (h.app N (fun p hp=>r1 _ (lA hp).1) (fun p hp=>r2 _ (lA hp).2)) (by rw[cZ];lia)
theorem qA{α:Type}:∀{l:List α}{i:Nat}(h:i<l.length),(l[i]::l.eraseIdx i).Perm l
 |a::l,0,h=>uM _
 |a::l,i+1,h=>by
  have hi:i<l.length:=by simpa using h
  have:=qA hi;exact(pW a _ _).trans (this.cons a)
def Bi(f:List (Nat×Nat)):Prop:=∀p∈f,∀q∈f,p.1=q.1↔p.2=q.2
def Mt(g:Nat→Nat→Prop)(y z:Cross):Prop:=y.minus=z.minus∧g y.ui z.ui∧g y.uo z.uo∧g y.oi z.oi∧g y.oo z.oo
def md(x:Option (List (Nat×Nat)))(p:Nat×Nat):Option (List (Nat×Nat)):=match x with
 |none=>none
 |some g=>if fits g p.1 p.2=true then some (if g.contains p=true then g else p::g)else none
theorem Dv{g:List (Nat×Nat)}{a b:Nat}:fits g a b=true↔∀p∈g,p.1=a↔p.2=b:=by unfold fits;grind
theorem xD{g g':List (Nat×Nat)}{p:Nat×Nat}(h:md (some g) p=some g')(b:Bi g):Bi g'∧(∀q∈g,q∈g')∧p∈g':=by
 unfold md at h;simp only at h;by_cases c:fits g p.1 p.2=true
 ·rw[ag c]at h;have c:=Dv.mp c;have h:=eE h;by_cases c2:g.contains p=true
  ·simp_all
  ·rw[af c2]at h;subst h;refine⟨fun x hx y hy=>?_,fun q h=> .tail _ h, .head _⟩;rcases a_.mp hx with rfl|jU
   ·grind
   ·rcases a_.mp hy with rfl|hy
    ·simp[*]
    ·exact b x jU y hy
 ·simp_all
theorem Jh(f:List (Nat×Nat))(y z:Cross):matched f y z=if y.minus !=z.minus then none else md (md (md (md (some f) (y.ui,z.ui)) (y.uo,z.uo)) (y.oi,z.oi)) (y.oo,z.oo):=rfl
theorem Bd{x:Option (List (Nat×Nat))}{p:Nat×Nat}{g:List (Nat×Nat)}(h:md x p=some g):∃f,x=some f:=by
 cases x with
 |none=>cases h
 |some f=>exact⟨f,rfl⟩
theorem Sd{f g:List (Nat×Nat)}{y z:Cross}(h:matched f y z=some g)(b:Bi f):Bi g∧(∀q∈f,q∈g)∧Mt (fun a b=>(a,b)∈g) y z:=by
 rw[Jh]at h;by_cases c:(y.minus !=z.minus)=true
 ·rw[ag c]at h;cases h
 rw[af c]at h;obtain⟨f3,e3⟩:=Bd h;rw[e3]at h;obtain⟨f2,e2⟩:=Bd e3;rw[e2]at e3;obtain⟨f1,e1⟩:=Bd e2;rw[e1]at e2;obtain⟨b1,s1,m1⟩:=xD e1 b;obtain⟨b2,s2,m2⟩:=xD e2 b1;obtain⟨b3,s3,m3⟩:=xD e3 b2;obtain⟨b4,s4,m4⟩:=xD h b3;exact⟨b4,fun q hq=>s4 q (s3 q (s2 q (s1 q hq))),by simpa using c,s4 _ (s3 _ (s2 _ m1)),s4 _ (s3 _ m2),s4 _ m3,m4⟩
theorem Jv:∀(ys:List Cross)(l:List Cross)(f:List (Nat×Nat))(k:Nat),sameFrom ys l f k=true→Bi f→∃g zs,Bi g∧(∀q∈f,q∈g)∧zs.Perm l∧Paired (Mt fun a b=>(a,b)∈g) ys zs
 |[],l,f,k,h,b=>by
  have:l=[]:=by cases k<;>simpa[sameFrom]using h
  subst this;exact⟨f,[],b,fun q h=>h,uM _, .nil⟩
 |y::r,l,f,0,h,b=>by simp[sameFrom]at h
 |y::r,l,f,k+1,h,b=>by
  obtain⟨⟨z,i⟩,hz,q⟩:=KP.mp h;have hz:=lF.mp hz;simp only at q hz;cases hm:matched f y z with
  |none=>rw[hm]at q;cases q
  |some g=>rw[hm]at q;obtain⟨bg,sg,mg⟩:=Sd hm b;obtain⟨g',zs,bg',jz,pm,pr⟩:=Jv r _ g k q bg;obtain⟨hi,e⟩:=d_.mp hz;refine⟨g',z::zs,bg',fun q hq=>jz q (sg q hq),?_, .cons ⟨mg.1,jz _ mg.2.1,jz _ mg.2.2.1,jz _ mg.2.2.2.1,jz _ mg.2.2.2.2⟩ pr⟩;exact(pm.cons z).trans (e▸qA hi)
theorem uZ{R:Nat→Nat→Prop}(bi:∀a b x y,R a b→R x y→(a=x↔b=y)){f:List (Nat×Nat)}(hf:∀p∈f,R p.1 p.2){p:Nat×Nat}(hp:R p.1 p.2):∃g,md (some f) p=some g∧∀q∈g,R q.1 q.2:=by unfold md;simp only;rw[ag (Dv.mpr fun q hq=>bi _ _ _ _ (hf q hq) hp)];grind
theorem Ju{R:Nat→Nat→Prop}(bi:∀a b x y,R a b→R x y→(a=x↔b=y)):∀(ys zs l:List Cross)(f:List (Nat×Nat))(k:Nat),(∀p∈f,R p.1 p.2)→zs.Perm l→Paired (Mt R) ys zs→ys.length≤k→sameFrom ys l f k=true
 |_,_,l,f,k,hf,pm, .nil,hk=>by have:l=[]:=pm.nil_eq.symm;subst this;cases k<;>simp[sameFrom]
 |y::r,z::zs,l,f,0,hf,pm, .cons m pr,hk=>by simp at hk
 |y::r,z::zs,l,f,k+1,hf,pm, .cons m pr,hk=>by
  unfold sameFrom;rw[KP];obtain⟨i,hi,e⟩:=lC.mp (pm.mem_iff.mp (.head zs));refine⟨(z,i),lF.mpr (by rw[bq hi,e]),?_⟩;obtain⟨m0,m1,m2,m3,m4⟩:=m;obtain⟨g1,e1,h1⟩:=uZ bi hf (p:=(y.ui,z.ui)) m1;obtain⟨g2,e2,h2⟩:=uZ bi h1 (p:=(y.uo,z.uo)) m2;obtain⟨g3,e3,h3⟩:=uZ bi h2 (p:=(y.oi,z.oi)) m3;obtain⟨g4,e4,h4⟩:=uZ bi h3 (p:=(y.oo,z.oo)) m4;have em:matched f y z=some g4:=by rw[Jh,af (by simp[m0]),e1,e2,e3,e4]
  simp only[em];refine Ju bi r zs _ g4 k h4 ?_ pr (by simpa using hk);have:(z::l.eraseIdx i).Perm l:=e▸qA hi;exact(pm.trans this.symm).cons_inv
theorem Ak(d:Dia):d.x=(range d.n).map (ba d):=by refine Kg (by simp[Dia.n]) fun i h1 h2=>?_;rw[KO,List.getElem_range];unfold ba;simp[*]
theorem OQ{α β:Type}{R:α→β→Prop}{xs:List α}{ys:List β}(h:Paired R xs ys)(i:Nat)(h1:i<xs.length)(h2:i<ys.length):R xs[i] ys[i]:=tG h i h1 h2
theorem UL{d e:Dia}(gd:Good d)(ge:Good e){k:Nat}(h:sameFrom d.x e.x [] k=true):∃M,PI d e M∧M.length=d.n:=by
 obtain⟨g,zs,bi,_,pm,pr⟩:=Jv _ _ _ _ h (fun p hp=>by cases hp);have hl:=pr.length;have hm:∀i(hi:i<zs.length),e.x.idxOf zs[i]<e.n∧ba e (e.x.idxOf zs[i])=zs[i]:=fun i hi=>by have m:zs[i]∈e.x:=pm.mem_iff.mp (lD hi);have bw:=B0 m;refine⟨bw,?_⟩;unfold ba;simp[*]
 let pi:Nat→Nat:=fun i=>e.x.idxOf (zs.getD i ⟨0,0,0,0,false⟩);have zg:∀i(hi:i<zs.length),zs.getD i ⟨0,0,0,0,false⟩=zs[i]:=fun i hi=>by rw[bC,bq hi];rfl
 have hp:∀i,i<d.n→pi i<e.n∧Mt (fun a b=>(a,b)∈g) (ba d i) (ba e (pi i)):=fun i hi=>by
  have dQ:i<d.x.length:=hi;have fE:i<zs.length:=by simp_all
  show e.x.idxOf (zs.getD i ⟨0,0,0,0,false⟩)<e.n∧Mt _ _ (ba e (e.x.idxOf (zs.getD i ⟨0,0,0,0,false⟩)));rw[zg i fE,(hm i fE).2];refine⟨(hm i fE).1,?_⟩;have:=OQ pr i dQ fE;have e':ba d i=d.x[i]:=by unfold ba;rw[bC,bq dQ];rfl
  simp[*]
 have io:∀i,i<d.n→∀b,b<2→(dw d i b,dw e (pi i) b)∈g∧(out d i b,out e (pi i) b)∈g:=fun i hi b hb=>by
  obtain⟨_,a1,a2,a3,a4⟩:=(hp i hi).2;unfold dw out
  lia
 refine⟨(range d.n).map fun i=>(i,pi i),⟨fun p nY=>?_,?_,?_,fun p nY=>?_,fun p nY b hb=>?_⟩,by simp⟩
 ·grind
 ·rw[b7];exact nodup_map_on j9 fun i hi j hj e=>e
 ·rw[b7];refine nodup_map_on j9 fun i hi j hj e'=>?_;have hi:=bQ.mp hi;have hj:=bQ.mp hj;have e':pi i=pi j:=e';have h1:=(io i hi 0 (by simp)).1;have h2:=(io j hj 0 (by simp)).1;rw[e']at h1;have:=(bi _ h1 _ h2).mpr rfl;exact(zo gd (b:=0) (c:=0) hi hj (by simp) (by simp) this).1
 ·obtain⟨i,hi,rfl⟩:=aH.mp nY;exact(hp i (bQ.mp hi)).2.1
 ·obtain⟨i,hi,rfl⟩:=aH.mp nY;have hi:=bQ.mp hi;obtain⟨l1,l2,l3⟩:=qk gd hi;have o1:=(io i hi b hb).2;have o2:=(io _ l1 _ l2).1;rw[←l3]at o2;have eq:=(bi _ o1 _ o2).mp rfl;have:=HR ge (hp _ l1).1 l2 (show out e (pi i) b=_ from eq);rw[this];exact⟨aH.mpr ⟨_,bQ.mpr l1,rfl⟩,rfl⟩
theorem OB{d e:Dia}(gd:Good d)(ge:Good e)(hn:d.n= e.n){M:List (Nat×Nat)}(h:PI d e M)(hM:M.length=d.n){k:Nat}(hk:d.n≤k):sameFrom d.x e.x [] k=true:=by
 have p1:(M.map (·.1)).Perm (range d.n):=qB h.n1 (fun x hx=>by obtain⟨p,hp,rfl⟩:=aH.mp hx;exact bQ.mpr (h.lt p hp).1) (by simp[hM]);have ex:∀i,i<d.n→∃j,(i,j)∈M:=fun i hi=>by obtain⟨p,hp,e⟩:=aH.mp (p1.mem_iff.mpr (bQ.mpr hi));grind
 let pi:Nat→Nat:=fun i=>if hi:i<d.n then Classical.choose (ex i hi)else 0
 have j0:∀i,i<d.n→(i,pi i)∈M:=fun i hi=>by grind
 let R:Nat→Nat→Prop:=fun a a'=>∃i b,i<d.n∧b<2∧a=out d i b∧a'=out e (pi i) b;have bi:∀a b x y,R a b→R x y→(a=x↔b=y):=by
  rintro a b x y ⟨i,c,hi,hc,rfl,rfl⟩ ⟨j,c',hj,dP,rfl,rfl⟩;constructor
  ·intro q;obtain⟨rfl,rfl⟩:=zu gd hi hj hc dP q;rfl
  ·intro q;obtain⟨e1,rfl⟩:=zu ge (h.lt _ (j0 i hi)).2 (h.lt _ (j0 j hj)).2 hc dP q;have:=(h.bi (j0 i hi) (j0 j hj)).mpr e1;simp[*]
 have oo:∀i,i<d.n→∀b,b<2→R (out d i b) (out e (pi i) b):=fun i hi b hb=>⟨i,b,hi,hb,rfl,rfl⟩;have ii:∀i,i<d.n→∀c,c<2→R (dw d i c) (dw e (pi i) c):=fun i hi c hc=>by obtain⟨j,b,hj,hb,eq⟩:=R4 ((Jf gd _).mp (Se hi));have nj:=HR gd hi hc eq.symm;obtain⟨m1,m2⟩:=h.nx _ (j0 j hj) b hb;rw[nj]at m1 m2;have e1:=(h.bi m1 (j0 i hi)).mp rfl;have l:=(qk ge (b:=b) (h.lt _ (j0 j hj)).2).2.2;grind
 have hz:(((range d.n).map pi).map (ba e)).Perm e.x:=by
  rw[Ak e];refine List.Perm.map _ (qB (nodup_map_on j9 fun i hi j hj q=>?_) (fun x hx=>?_) (by simp[hn]))
  ·exact(h.bi (j0 i (bQ.mp hi)) (j0 j (bQ.mp hj))).mpr q
  ·obtain⟨i,hi,rfl⟩:=aH.mp hx;exact bQ.mpr (h.lt _ (j0 i (bQ.mp hi))).2
 have pr:Paired (Mt R) d.x (((range d.n).map pi).map (ba e)):=by
  rw[Ak d];have:∀l:List Nat,(∀i∈l,i<d.n)→Paired (Mt R) (l.map (ba d)) ((l.map pi).map (ba e)):=by
   intro l;induction l with
   |nil=>intro _;exact .nil
   |cons i l ih=>intro hl;have hi:=hl i (.head _);exact .cons ⟨h.sg _ (j0 i hi),ii i hi 0 (by simp),oo i hi 0 (by simp),ii i hi 1 (by simp),oo i hi 1 (by simp)⟩ (ih fun j hj=>hl j (.tail _ hj))
  simp_all
 exact Ju bi d.x _ e.x [] k (fun p hp=>by cases hp) hz pr hk
theorem TJ{d e:Dia}(gd:Good d)(ge:Good e):(decide ((d.c:Int)=(e.c:Int))&&decide (gX (codes d)=gX (codes e)))=same d e:=by
 have key:gX (codes d)=gX (codes e)↔(d.n==e.n&&sameFrom d.x e.x [] (d.n+1))=true:=by
  rw[Sz];constructor
  ·intro pm;have hn:d.n= e.n:=by have:=pm.length_eq;simpa[codes]using this
   obtain⟨M,h,hM⟩:=grow gd ge hn pm d.n [] ⟨by simp,by simp,by simp,by simp,by simp⟩ (by simp);rw[OB gd ge hn h hM (j5 _)];simp[*]
  ·intro q;rw[dq]at q;have hn:d.n= e.n:=by simpa using q.1
   obtain⟨M,h,hM⟩:=UL gd ge q.2;have p1:(M.map (·.1)).Perm (range d.n):=qB h.n1 (fun x hx=>by obtain⟨p,hp,rfl⟩:=aH.mp hx;exact bQ.mpr (h.lt p hp).1) (by simp[hM]);have p2:(M.map (·.2)).Perm (range e.n):=qB h.n2 (fun x hx=>by obtain⟨p,hp,rfl⟩:=aH.mp hx;exact bQ.mpr (h.lt p hp).2) (by simp[hM,hn]);have c1:(codes d).Perm ((M.map (·.1)).map (told d)):=(p1.map _).symm;have c2:(codes e).Perm ((M.map (·.2)).map (told e)):=(p2.map _).symm;have eq:(M.map (·.1)).map (told d)=(M.map (·.2)).map (told e):=by rw[b7,b7];exact ef fun p hp=>Cs h hn hp
   grind
 unfold same
 lia
end Km
namespace Kn
open PySem PySem.Spec PyProof.Rows L2
open Kb (Cross Dia)
open KnotBook (numsOf Dia.told)
structure bS(d:Dia):Prop where
 g:Km.Good d
 n:d.x.length≤8
 c:d.c≤4
theorem bS.sm(h:bS d):Sm d:=cx h.n (by decide)
theorem bS.s8(h:bS d):ek d:=h.n
theorem bS.ai(h:bS d):cH d:=h.g.1
theorem bS.fi(h:bS d):Km.tD d:=h.g.2
abbrev aT(CC CD:Addr):ck (Dia×List Nat×Unit):=aO (aA CC CD) (aO (ah aa) bu)
abbrev jM(P:Program)(w:World)(K:Fg)(mg:Mg)(base:Heap)(CC CD:Addr)(x:Str)(n:Nat)(F:Dia→List Nat→List Int):Prop:=Def P w K mg base 8 x ["drawing","numbers"] (Fn (aT CC CD) ay (fun c=>bS c.1∧c.2.1.length=n) fun c=>F c.1 c.2.1)
def nO(d:Dia)(_:List Nat):List Int:=(d.n:Int)::(d.c:Int)::(numsOf d).map fun n:Nat=>(n:Int)
def i8(d:Dia)(l:List Nat):List Int:=match(Dia.told d)[l.getD 0 0]? with
 |some n=>[(n:Int)]
 |none=>[-1]
def kQ(d:Dia)(l:List Nat):List Int:=if d.arcs≤l.getD 0 0 then [-1]else [(d.strandOf (l.getD 0 0):Int)]
def xw(d:Dia)(_:List Nat):List Int:=[0,d.writhe]
def ve(d:Dia)(l:List Nat):List Int:=[(d.circles (l.getD 0 0):Int)]
def vm(f:Dia→Kb.Poly)(d:Dia)(_:List Nat):List Int:=kT (f d)
def qu(d:Dia)(_:List Nat):List Int:=(d.alexander.length:Int)::d.alexander
def g6(p:Nat):Bool:=decide (p≤100)&&Kb.isPrime p
def me(d:Dia)(l:List Nat):List Int:=if g6 (l.getD 0 0)=true then [(d.colours (l.getD 0 0):Int)]else [-1]
theorem QS(xs:List Cross):(xs.flatMap fun y=>[(y.ui:Int),y.uo,y.oi,y.oo,sgn y.minus])=(numsOf ⟨xs,0⟩).map fun n:Nat=>(n:Int):=by
 unfold KnotBook.numsOf;induction xs with
 |nil=>rfl
 |cons y xs ih=>simp only at ih⊢;rw[dY,dY,eJ,ih];congr 1;unfold sgn KnotBook.one;cases y.minus<;>rfl
theorem zN:∀l:List Int,(Kb.dropZeros l).length≤l.length
 |[]=>aY _
 |x::l=>by
  unfold Kb.dropZeros;by_cases c:x=0
  ·rw[ag c];have:=zN l;simp;lia
  ·rw[af c];exact aY _
theorem F_:∀(f:Nat)(z:Int),(Kb.digits f z).length≤f
 |0,_=>aY _
 |f+1,z=>by
  unfold Kb.digits;by_cases c:z=0
  ·rw[ag c];exact eG _
  ·rw[af c];simp only[bZ];exact Nat.succ_le_succ (F_ f _)
theorem CZ(d:Dia):d.alexander.length≤30:=by
 unfold Kb.Dia.alexander;split
 ·grind
 ·split
  ·simp
  ·have h:(Kb.Poly.neat ⟨0,Kb.digits (2*Kb.MOST+4) (d.minor BASE)⟩).l.length≤20:=by unfold Kb.Poly.neat;have h1:=F_ (2*Kb.MOST+4) (d.minor BASE);generalize Kb.digits (2*Kb.MOST+4) (d.minor BASE)=l at h1;have h1:l.length≤20:=h1;have h2:=zN l;have h3:=zN (Kb.dropZeros l).reverse;grind
   grind
theorem ny(h:l.length=1):∃a,l=[a]:=by
 match l,h with
 |[a],_=>exact⟨a,rfl⟩
section
variable{K:Fg}(T:Txt K mg CC CD)
include T
theorem K0:jM P w K mg base CC CD "tell_drawing" 0 nO:=by
 refine T.hs.Q_.mk ["drawing","numbers"] (fun nd H1 vs Q E hr h=>?_);refine JS h fun H d l v0 v1 s1 h0 h1 hh k=>?_;obtain⟨ok,hl⟩:=hh;have h0:(aA CC CD).rel H v0 d:=h0;have ok:bS d:=ok;have hn:=ok.n;refine a7 (XE.cast (XN.xe (qG (XN.xe (a5 (aV (cN T.len (bK T (xv 0 h0))) (aV (XE.int (eY T (xv 0 h0))) aZ)))) (aK (Lw T) hr (by show d.x.length≤16;lia) (az (bK T (xv 0 h0)))) ?_)) rfl) s1 fun y G H2 f2 r2=>k y G H2 f2 ?_
 ·show 2+(d.x.flatMap fun y=>[(y.ui:Int),y.uo,y.oi,y.oo,sgn y.minus]).length≤1000;have:(d.x.flatMap fun y=>[(y.ui:Int),y.uo,y.oi,y.oo,sgn y.minus]).length=5*d.x.length:=by
   induction d.x with
   |nil=>rfl
   |cons a l ih=>rw[dY,cZ,ih];simp;lia
  lia
 ·show ay.rel G y (nO d l);unfold nO;rw[show numsOf d=numsOf ⟨d.x,0⟩from rfl,←QS];exact r2
theorem LP:jM P w K mg base CC CD "tell_writhe" 0 xw:=by refine T.hs.Mj.mk ["drawing","numbers"] (fun nd H1 vs Q E hr h=>?_);refine JS h fun H d l v0 v1 s1 h0 h1 hh k=>?_;obtain⟨ok,hl⟩:=hh;exact a7 (XN.xe (a5 (aV ax (aV (aK (E2 T) hr (bS.s8 ok) (az (xv 0 h0))) aZ)))) s1 fun y G H2 f2 r2=>k y G H2 f2 r2
theorem NJ:jM P w K mg base CC CD "tell_circles" 1 ve:=by refine T.hs.W7.mk ["drawing","numbers"] (fun nd H1 vs Q E hr h=>?_);refine JS h fun H d l v0 v1 s1 h0 h1 hh k=>?_;obtain⟨ok,hl⟩:=hh;obtain⟨a,rfl⟩:=ny (hl);have h1:(ah aa).rel H v1 [a]:=h1;exact a7 (XN.xe (a5 (aV (XE.int (aK (Iu T) hr ⟨bS.sm ok,bS.ai ok⟩ (aF (xv 0 h0) (az (aW (xv 1 h1) ax rfl))))) aZ))) s1 fun y G H2 f2 r2=>k y G H2 f2 r2
theorem Vt:jM P w K mg base CC CD "tell_strand" 1 kQ:=by
 refine T.hs.TB.mk ["drawing","numbers"] (fun nd H1 vs Q E hr h=>?_);refine JS h fun H d l v0 v1 s1 h0 h1 hh k=>?_;obtain⟨ok,hl⟩:=hh;obtain⟨a,rfl⟩:=ny (hl);have h1:(ah aa).rel H v1 [a]:=h1;have h0:(aA CC CD).rel H v0 d:=h0;obtain⟨tm,mA⟩:=T.ib;refine eV (ki (XE.int (aW (xv 1 h1) ax rfl)) (XE.int (aK (gi T) hr trivial (az (xv 0 h0))))) s1 (fun hq G2 H2 f2=>?_) (fun hq G2 H2 f2=>bp ?_)
 ·have hq:d.arcs≤a:=by have:=gB hq;exact iZ.mp this
  refine a7 (XN.xe (a5 (aV (bN mA) aZ))) f2.g2 fun y G H3 f3 r3=>k y G H3 (f2.trans f3) ?_;show ay.rel G y (kQ d [a]);unfold kQ;rw[ag (by exact hq)];exact r3
 ·have hq:a<d.arcs:=by have:=dH hq;exact B4 fun z=>this (iZ.mpr z)
  refine a7 (XN.xe (a5 (aV (XE.int (aW (aK (FH T) hr ⟨bS.sm ok,bS.ai ok⟩ (az (xv 0 ((aA CC CD).mono f2.hg h0)))) (XE.int (aW (xv 1 ((ah aa).mono f2.hg h1)) ax rfl)) (bt (x:=d.strandOf a) ?_))) aZ))) f2.g2 fun y G H3 f3 r3=>k y G H3 (f2.trans f3) ?_
  ·show((range d.arcs).map d.strandOf)[a]?=_;rw[cz,oy hq];rfl
  ·show ay.rel G y (kQ d [a]);unfold kQ;rw[af (by show¬d.arcs≤a;simp[*])];exact r3
theorem Q9:jM P w K mg base CC CD "tell_alexander" 0 qu:=by refine T.hs.QA.mk ["drawing","numbers","told"] (fun nd H1 vs Q E hr h=>?_);refine JS h fun H d l v0 v1 s1 h0 h1 hh k=>?_;obtain⟨ok,hl⟩:=hh;have h0:(aA CC CD).rel H v0 d:=h0;refine br (i:=2) nd (aK (X2 T) hr (c:=(d,())) ⟨bS.s8 ok,bS.ai ok⟩ (az (xv 0 h0))) s1 fun v2 G2 H2 f2 r2=>?_;have r2:ay.rel G2 v2 d.alexander:=r2;exact a7 (XN.xe (qG (XN.xe (a5 (aV (cN T.len (xv 2 r2)) aZ))) (xv 2 r2) (by have:=CZ d;simp;lia))) f2.g2 fun y G H3 f3 r3=>k y G H3 (f2.trans f3) r3
end
theorem au.re(f:au H H1 G H2)(g:au H H2 G' H3):au H H1 G' H3:=⟨g.hg,g.g2,f.h2.trans g.h2,fun b o e1 e2=>g.sep b o e1 (f.h2 b o e2)⟩
theorem au.s2(f:au H H1 G H2):aj H H2:=f.hg.trans f.g2
theorem dI{rest:List Stmt}(h:XT X σ H c q)(s:aj H H1)(ha:q=true→XE X σ H e R r)(ka:q=true→∀v G H2,au H H1 G H2→R.rel G v r→D.rt v H2)(hb:q=false→∀G H2,au H H1 G H2→WB X rest D σ H2):WB X (.If c [.Return (some e) p'] [] pos::rest) D σ H1:=
 eV h s (fun z G H2 f=>a7 (ha z) f.s2 fun v G' H3 f' rv=>ka z v G' H3 (f.re f') rv) (fun z G H2 f=>bp (hb z G H2 f))
theorem ph{a b:Nat}:decide ((a:Int)=(b:Int))=true↔a=b:=by rw[ym];lia
section
variable{K:Fg}(T:Txt K mg CC CD)
include T
theorem Q2:jM P w K mg base CC CD "tell_count" 1 i8:=by
 refine T.hs.W9.mk ["drawing","numbers","what"] (fun nd H1 vs Q E hr h=>?_);refine JS h fun H d l v0 v1 s1 h0 h1 hh k=>?_;obtain⟨ok,hl⟩:=hh;obtain⟨a,rfl⟩:=ny (show l.length=1 from hl);have h1:(ah aa).rel H v1 [a]:=h1;have h0:(aA CC CD).rel H v0 d:=h0;have ok:bS d:=ok;obtain⟨tm,mA⟩:=T.ib;have k:∀y G H2,au H H1 G H2→ay.rel G y (i8 d [a])→Q y H2:=k;refine br (i:=2) nd (aW (xv 1 h1) ax rfl) s1 fun v2 G2 H2 f2 r2=>?_;have k:∀y G H3,au G2 H2 G H3→ay.rel G y (i8 d [a])→Q y H3:=fun y G H3 f r=>k y G H3 (f2.trans f) r;have h0:=(aA CC CD).mono f2.hg h0;have s2:=f2.g2;clear f2 s1;have val:∀(n:Nat)(m:Nat),a=n→(KnotBook.Dia.told d)[n]?=some m→i8 d [a]=[(m:Int)]:=fun n m e h=>by unfold i8;rw[e];show(match(KnotBook.Dia.told d)[n]? with|some n=>[(n:Int)]|none=>[-1])=_;rw[h]
 cases r2;have ra:∀{G:Hp},aa.rel G (.int ((a:Nat):Int)) a:=rfl;refine dI (H:=G2) (R:=ay) (dB (XE.int (xv 2 ra)) ax) s2 (fun _=>XN.xe (a5 (aV (cN T.len (bK T (xv 0 h0))) aZ))) (fun q v G H3 f r=>k v G H3 f (by rw[val 0 d.n (ph (b:=0)|>.mp q) rfl];exact r)) fun q0 G3 H3 f3=>?_;refine dI (H:=G2) (R:=ay) (dB (XE.int (xv 2 ra)) ax) f3.s2 (fun _=>XN.xe (a5 (aV (XE.int (eY T (xv 0 h0))) aZ))) (fun q v G H3 f r=>k v G H3 (f3.re f) (by rw[val 1 d.c (ph (b:=1)|>.mp q) rfl];exact r)) fun q1 G4 H4 f4=>?_;have f4:=f3.re f4;refine dI (H:=G2) (R:=ay) (dB (XE.int (xv 2 ra)) ax) f4.s2 (fun _=>XN.xe (a5 (aV (XE.int (aK (Ca T) hr (c:=(d,())) ⟨ok.sm,ok.ai⟩ (az (xv 0 h0)))) aZ))) (fun q v G H3 f r=>k v G H3 (f4.re f) (by rw[val 2 d.strands (ph (b:=2)|>.mp q) rfl];exact r)) fun q2 G5 H5 f5=>?_;have f5:=f4.re f5;refine dI (H:=G2) (R:=ay) (dB (XE.int (xv 2 ra)) ax) f5.s2 (fun _=>XN.xe (a5 (aV (cj (XE.int (aK (CM T) hr (c:=(d,())) ⟨ok.sm,ok.ai⟩ (az (xv 0 h0)))) (XE.int (eY T (xv 0 h0)))) aZ))) (fun q v G H3 f r=>k v G H3 (f5.re f) (by rw[val 3 (d.pieces+d.c) (ph (b:=3)|>.mp q) rfl];exact r)) fun q3 G6 H6 f6=>?_;have f6:=f5.re f6;refine dI (H:=G2) (R:=ay) (dB (XE.int (xv 2 ra)) ax) f6.s2 (fun _=>XN.xe (a5 (aV (XE.int (aK (IC T) hr (c:=(d,())) ⟨ok.sm,ok.ai,ok.fi⟩ (az (xv 0 h0)))) aZ))) (fun q v G H3 f r=>k v G H3 (f6.re f) (by rw[val 4 d.faces (ph (b:=4)|>.mp q) rfl];exact r)) fun q4 G7 H7 f7=>?_;have f7:=f6.re f7;refine dI (H:=G2) (R:=ay) (dB (XE.int (xv 2 ra)) ax) f7.s2 (fun _=>XN.xe (a5 (aV (XE.int (aK (PD T) hr (c:=(d,())) ⟨ok.sm,ok.ai⟩ (az (xv 0 h0)))) aZ))) (fun q v G H3 f r=>k v G H3 (f7.re f) (by rw[val 5 d.seifert (ph (b:=5)|>.mp q) rfl];exact r)) fun q5 G8 H8 f8=>?_;have f8:=f7.re f8;refine a7 (R:=ay) (XN.xe (a5 (aV (bN mA) aZ))) f8.s2 fun v G H9 f r=>k v G H9 (f8.re f) ?_;have e:i8 d [a]=[-1]:=by
  unfold i8;have:(KnotBook.Dia.told d)[a]?=none:=by
   rw[List.getElem?_eq_none_iff];have:=dH q0;have:=dH q1;have:=dH q2;have:=dH q3;have:=dH q4;have:=dH q5;show 6≤a
   lia
  show(match(KnotBook.Dia.told d)[a]? with|some n=>[(n:Int)]|none=>[-1])=_;rw[this]
 rw[e];exact r
omit T in
theorem HK(ok:bS d):qf (Km.brk d) d.bracket:=by have hc:=ok.c;have h:=vG ok.n (by lia) (eO d).length;rw[iX]at h;exact⟨Km.y9 d,Km.Yd d,Km.nonzero (Km.y9 d).1 (Km.B8 d),qm (by decide) h.1⟩
omit T in
theorem Wn(d:Dia)(h8:d.x.length≤8):-8≤d.writhe∧d.writhe≤8:=by
 unfold Dia.writhe;have:∀(l:List Cross) a,-(l.length:Int)+a≤(l.map Cross.sign).foldl (fun a b=>a+b) a∧(l.map Cross.sign).foldl (fun a b=>a+b) a≤l.length+a:=by
  intro l;induction l with
  |nil=>intro a;simp
  |cons y l ih=>
   intro a;rw[a9,gP,bZ];have:=ih (a+y.sign);have:y.sign=-1∨y.sign=1:=by unfold Cross.sign;split<;>simp
   lia
 have:=this d.x 0;unfold Kb.sum
 lia
omit T in
theorem Gn(ok:bS d):qf (Km.oJ d) d.jones:=by have hc:=ok.c;have h:=vG ok.n (by lia) (eO d).length;rw[iX]at h;have hw:=Wn d ok.n;refine⟨Km.Iy d,Km.K8 d,Km.nonzero (Km.Iy d).1 (Km.Me d),?_⟩;exact qm (by decide) (yF (N:=24) h.1 (by intro z hz;simp at hz;subst hz;simp;lia))
theorem Wb:jM P w K mg base CC CD "tell_bracket" 0 (vm Dia.bracket):=by refine T.hs.Nr.mk ["drawing","numbers"] (fun nd H1 vs Q E hr h=>?_);refine JS h fun H d l v0 v1 s1 h0 h1 hh k=>?_;obtain⟨ok,hl⟩:=hh;have ok:bS d:=ok;have hc:=ok.c;refine a7 (XE.cast (aK (Il T) hr trivial (az ?_)) rfl) s1 fun y G H2 f2 r2=>k y G H2 f2 r2;intro H1' s1' Q' q';exact(XD.xe (XD.cast (pO (Eb T) hr (c:=(d,())) ⟨ok.s8,ok.ai,by show d.c≤5;lia⟩ (az (xv 0 h0))) rfl)) H1' s1' _ fun y G H2 f2 r2=>q' y G H2 f2 ⟨Km.brk d,HK ok,r2⟩
theorem O4:jM P w K mg base CC CD "tell_jones" 0 (vm Dia.jones):=by refine T.hs.NN.mk ["drawing","numbers"] (fun nd H1 vs Q E hr h=>?_);refine JS h fun H d l v0 v1 s1 h0 h1 hh k=>?_;obtain⟨ok,hl⟩:=hh;have ok:bS d:=ok;have hc:=ok.c;refine a7 (XE.cast (aK (Il T) hr (c:=(d.jones,())) trivial (az ?_)) rfl) s1 fun y G H2 f2 r2=>k y G H2 f2 r2;intro H1' s1' Q' q';exact(XD.xe (XD.cast (pO (Oz T) hr (c:=(d,())) ⟨ok.s8,ok.ai,by show d.c≤5;lia⟩ (az (xv 0 h0))) rfl)) H1' s1' _ fun y G H2 f2 r2=>q' y G H2 f2 ⟨Km.oJ d,Gn ok,r2⟩
omit T in
theorem N2{p:Nat}(h2:2≤p):((ups 2 ((p:Int)-2).toNat).map fun z:Int=>!decide ((p:Int)%z=0)).all id=Kb.isPrime p:=by
 unfold Kb.isPrime;rw[fZ h2,Kh,j4,oq,oq];constructor
 ·intro h a ha;have ha:=bQ.mp ha;by_cases c:a<2
  ·simp[*]
  ·have:=h (!decide ((p:Int)%(a:Int)=0)) (aH.mpr ⟨(a:Int),by refine aH.mpr ⟨a-2,bQ.mpr (by omega),?_⟩;omega,rfl⟩);grind
 ·intro h b hb;obtain⟨z,hz,rfl⟩:=aH.mp hb;have hz:=oZ hz;have:=h z.toNat (bQ.mpr (by omega));grind
theorem Ro:Def P w K mg base 1 "is_small_prime" ["number"] (Fn (aO aa bu) cG (fun _=>True) fun c=>g6 c.1):=by
 refine T.hs.Q7.mk FR (fun nd H1 vs Q E hr h=>?_);refine DX h fun H p v0 s1 h0 _ k=>?_;have h0:aa.rel H v0 p:=h0;obtain⟨tm,mP⟩:=T.Pj;have k:∀y G H2,au H H1 G H2→cG.rel G y (g6 p)→Q y H2:=k;refine dI (H:=H) (R:=cG) (r:=false) (pZ (xC (XE.int (xv 0 h0)) ax) fun _=>je (XE.int (xv 0 h0)) (bN mP)) s1 (fun _=>vL) (fun q v G H3 f r=>k v G H3 f ?_) fun q G2 H2 f2=>?_
 ·have:g6 p=false:=by
   rw[rD,dA,dA]at q;unfold g6 Kb.isPrime;rcases q with q|q
   ·rw[cU (p:=2≤p) (by lia)];simp
   ·rw[cU (p:=p≤100) (by lia)];simp
  rw[this];exact r
 ·rw[uQ,oA,oA]at q;have e:g6 p=((ups 2 ((p:Int)-2).toNat).map fun z:Int=>!decide ((p:Int)%z=0)).all id:=by rw[N2 (by omega)];unfold g6;rw[fZ (by omega)];rfl
  have h0:=aa.mono f2.hg h0;refine a7 (R:=cG) (C6 T rfl (XN.xe (gh (own:=[("part",1)]) (S:=cG) (fun z:Int=>!decide ((p:Int)%z=0)) rfl nd (zR (k:=1) T.range ax (XE.int (xv 0 h0)) (by omega)) (cK (by show cu FR (bE Iq) _ _=true;decide+kernel)) (fun _ _ _ _ _=>bT (k:=1) nd) (dS (by decide)) (by rw[kz];omega) ?_))) f2.g2 fun y G H3 f3 r3=>k y G H3 (f2.trans f3) ?_
  ·rintro z G _ hz sg ⟨vz,rz,rfl⟩ s0 H0 C cl fp;have hz:=oZ hz;exact XE.cast (Q8 (kI (by omega) (XE.int (xv 0 (aa.mono sg h0))) (xv 1 rz)) ax) rfl
  ·rw[e];exact r3
theorem Rj:jM P w K mg base CC CD "tell_colours" 1 me:=by
 refine T.hs.NH.mk ["drawing","numbers"] (fun nd H1 vs Q E hr h=>?_);refine JS h fun H d l v0 v1 s1 h0 h1 hh k=>?_;obtain⟨ok,hl⟩:=hh;obtain⟨a,rfl⟩:=ny (show l.length=1 from hl);have h1:(ah aa).rel H v1 [a]:=h1;have h0:(aA CC CD).rel H v0 d:=h0;have ok:bS d:=ok;obtain⟨tm,mA⟩:=T.ib;have k:∀y G H2,au H H1 G H2→ay.rel G y (me d [a])→Q y H2:=k;refine dI (H:=H) (R:=ay) (r_ (nh (aK (Ro T) hr (c:=(a,())) trivial (az (aW (xv 1 h1) ax rfl))))) s1 (fun _=>XN.xe (a5 (aV (bN mA) aZ))) (fun q v G H3 f r=>k v G H3 f ?_) fun q G2 H2 f2=>?_
 ·have q:g6 a=false:=by simpa using q
  unfold me;rw[af (by show¬g6 a=true;rw[q];decide)];exact r
 ·have q:g6 a=true:=by simpa using q
  have q2:=q;unfold g6 at q2;rw[dq,dA]at q2;refine a7 (R:=ay) (XN.xe (a5 (aV (XE.int (aK (Uo T) hr (c:=(d,a,())) ⟨ok.s8,ok.ai,by show a<101;lia,q2.2⟩ (aF (xv 0 ((aA CC CD).mono f2.hg h0)) (az (aW (xv 1 ((ah aa).mono f2.hg h1)) ax rfl))))) aZ))) f2.g2 fun y G H3 f3 r3=>k y G H3 (f2.trans f3) ?_;unfold me;rw[ag (by exact q)];exact r3
end
section
variable{α β γ δ:Type}{X:Cx}{σ σ0:aS}{H H1 H2 G:Hp}{e ie a b o:Expr}{es:List Expr}{R:Rp α}{S:Rp β}{r:α}{pos p:Pos}{D:Ends}{rest:List Stmt}{x x':Str}{i i':Nat}{CC CD:Addr}{A:ck γ}{c:γ}
theorem EE(T:Txt X.K X.mg CC CD)(h:XE X σ H e ay ns)(hm:ns.length<64)(ho:∀m:List Int,m.Perm ns→m.Pairwise (·≤·)→m=out)(hg:Gl X "sorted":=by rfl)(hs:SE X e []:=by rfl)(hv:bootBuiltins "sorted"=some (.builtin "sorted"):=by decide+kernel):XN X σ H (.Call (.Name "sorted" p) [e] [] pos) aq out:=fun H1 s Q k=>
 PE.we (tS ON hg T.sorted hv (fm aJ fG hs) (by decide) (by decide) hs rfl) (h H1 s _ fun v G H2 fw rv=>by obtain⟨a,rfl,ha⟩:=ma rv;refine⟨a,ns,rfl,aU.of (fw.g2 _ _ ha),hm,fun m l h1 h2 cb=>?_⟩;refine k l _ G _ (fw.new cb _) (fw.bX cb) (fw.fI cb) aE ?_;rw[←ho m h1 h2];exact Paired.of_map)
theorem IB(xs:List Int):SeqAt.shaped (hW xs)=true:=by
 unfold SeqAt.shaped hW;rw[PyData.canLay0,An,PyData.depth];have:=Y2 xs
 lia
theorem UE(hu:X.A.units+64<cLine)(ha:XE X σ H a ay xs)(hb:XE X σ H b ay ys)(hm:behindInMarks .Eq b=false:=by rfl):XT X σ H (.Compare a [.Eq] [b] pos) (decide (xs=ys)):=fun H1 s Q k=>
 PT.wt (sN (Cg hu) aJ aJ hm) (x2 ha hb s fun v w G H2 f rv bA=>by refine⟨_,_,z_ (ay.mono f.g2 rv),z_ (ay.mono f.g2 bA),IB _,IB _,_,rfl,?_⟩;unfold hW;rw[PyData.eqv,y_];exact k G H2 f)
end
def oC(a b:Int):List Int:=[min a b,max a b]
theorem Gs(hp:m.Perm [a,b])(hs:m.Pairwise (·≤·)):m=oC a b:=by
 have hl:=hp.length_eq
 match m,hl with
 |[x,y],_=>
  have hx:x=a∨x=b:=by have:=hp.mem_iff.mp (gN);simpa using this
  have one:∀{u v:Int},[u].Perm [v]→u=v:=fun{u v} q=>by have:=q.mem_iff.mp (show u∈[u] by simp);simpa using this
  have hsum:x+y=a+b:=by
   rcases hx with rfl|rfl
   ·simp_all
   ·rw[one (hp.trans (pW x a [])).cons_inv]
    lia
  unfold oC;grind
def ue(d:Dia)(i j:Nat)(y:Cross):Bool:=(d.strandOf y.ui==i&&d.strandOf y.oi==j)||(d.strandOf y.ui==j&&d.strandOf y.oi==i)
theorem D_{a b i j:Nat}:decide (oC (a:Int) (b:Int)=oC (i:Int) (j:Int))=((a==i&&b==j)||(a==j&&b==i)):=by rw[j4,ym];unfold oC;grind
def lZ(d:Dia)(l:List Nat):List Int:=if d.strands≤l.getD 0 0∨d.strands≤l.getD 1 0 then [-1]else [0,if l.getD 0 0=l.getD 1 0 then d.between (l.getD 0 0) (l.getD 0 0)else d.between (l.getD 0 0) (l.getD 1 0)/2]
theorem Fw(h:l.length=2):∃a b,l=[a,b]:=by
 match l,h with
 |[a,b],_=>exact⟨a,b,rfl⟩
def part(d:Dia)(i j n:Nat):Int:=Kb.sum (((d.x.take n).filter (ue d i j)).map Cross.sign)
theorem E7(h:d.x[n]?=some y):part d i j (n+1)=part d i j n+if ue d i j y=true then y.sign else 0:=by unfold part;rw[BZ,h,BG,eJ];unfold Kb.sum;rw[Bz];cases c:ue d i j y<;>simp[c]
section
variable{K:Fg}(T:Txt K mg CC CD)
include T
theorem VL:jM P w K mg base CC CD "tell_sum" 2 lZ:=by
 refine T.hs.U3.mk ["drawing","numbers","strands","total","crossing"] (fun nd H1 vs Q E hr h=>?_);refine JS h fun H d l v0 v1 s1 h0 h1 hh k=>?_;obtain⟨ok,hl⟩:=hh;obtain⟨a,b,rfl⟩:=Fw (show l.length=2 from hl);have h1:(ah aa).rel H v1 [a,b]:=h1;have h0:(aA CC CD).rel H v0 d:=h0;have ok:bS d:=ok;obtain⟨tm,mA⟩:=T.ib;have k:∀y G H2,au H H1 G H2→ay.rel G y (lZ d [a,b])→Q y H2:=k;refine dI (H:=H) (R:=ay) (ki (wI T (m:=max (a:Int) (b:Int)) rfl (XE.mq (xv 1 h1)) ?_ ?_) (XE.int (aK (Ca T) hr (c:=(d,())) ⟨ok.sm,ok.ai⟩ (az (xv 0 h0))))) s1 (fun _=>XN.xe (a5 (aV (bN mA) aZ))) (fun q v G H3 f r=>k v G H3 f ?_) fun q G2 H2 f2=>?_
 ·show max (a:Int) (b:Int)∈[(a:Int),(b:Int)];simp only[a_,cA,cV]
  lia
 ·intro y hy;have hy:y∈[(a:Int),(b:Int)]:=hy;simp only[a_,cA,cV]at hy
  lia
 ·have q:=gB q;have q:(d.strands:Int)≤max (a:Int) (b:Int):=q;unfold lZ;rw[ag (by show d.strands≤a∨d.strands≤b;lia)];exact r
 ·have q:=dH q;have q:¬(d.strands:Int)≤max (a:Int) (b:Int):=q;have h0:=(aA CC CD).mono f2.hg h0;have h1:=(ah aa).mono f2.hg h1;refine br (i:=2) nd (aK (FH T) hr (c:=(d,())) ⟨ok.sm,ok.ai⟩ (az (xv 0 h0))) f2.g2 fun v2 G3 H3 f3 r2=>?_;have r2:(ah aa).rel G3 v2 ((range d.arcs).map d.strandOf):=r2;have f3:=f2.trans f3;have h0:=(aA CC CD).mono (aj.refl _) h0;refine br (i:=3) (R:=aq) (H:=G3) nd ax f3.g2 fun v3 G4 H4 f4 r3=>?_;cases r3;have cC:=f3.trans f4;have h04:=(aA CC CD).mono (f3.hg.trans f4.hg) (show(aA CC CD).rel H v0 d from‹_›);have h14:=(ah aa).mono (f3.hg.trans f4.hg) (show(ah aa).rel H v1 [a,b]from‹_›);have r24:=(ah aa).mono f4.hg r2;have p0:part d a b 0=0:=rfl;refine kL (H:=G4) jE rfl (bT (k:=4) nd) (du (k:=4) (bK T (xv 0 h04))) cC.g2
   (fun Gx i σ' H'=>∃o4,σ'=[some v0,some v1,some v2,some (.int (part d a b i)),o4]∧au H H1 Gx H'∧aj G4 Gx) ?_ ?_ ?_ ?_
  ·intro Gx Hx fx;exact⟨_,rfl,cC.trans fx,fx.hg⟩
  ·rintro Gx i σ' Hx ⟨o4,_,fx,_⟩;exact fx.g2
  ·rintro Gx i y σ' Hx hy ⟨o4,rfl,fx,sG⟩ σ'' Gy Hy fy ⟨vy,ry,rfl⟩;have hm:y∈d.x:=fg hy;have ai:=ok.ai y hm;have r2y:=(ah aa).mono (sG.trans fy.hg) r24;have h1y:=(ah aa).mono (sG.trans fy.hg) h14;have at_:∀a,a<d.arcs→((range d.arcs).map d.strandOf)[a]?=some (d.strandOf a):=fun a ha=>by rw[cz,oy ha];rfl
   have fin:∀(c:Bool)(Hn:Hp),c=ue d a b y→aj Hy Hn→au H H1 Gx Hn:=fun c Hn _ sn=>⟨fx.hg,fx.g2.trans (fy.h2.trans sn),fx.h2.trans (fy.h2.trans sn),fx.sep⟩;refine eV (H:=Gy) (UE (by have:=hr.units;exact this) (XN.xe (EE T (out:=oC (d.strandOf y.ui:Int) (d.strandOf y.oi:Int)) (XN.xe (a5 (aV (XE.int (aW (xv 2 r2y) (XE.int (eN T (xv 4 ry))) (bt (at_ _ ai.1)))) (aV (XE.int (aW (xv 2 r2y) (XE.int (eh T (xv 4 ry))) (bt (at_ _ ai.2.2.1)))) aZ)))) (by simp) (fun m h1 h2=>Gs h1 h2))) (XN.xe (EE T (out:=oC (a:Int) (b:Int)) (XE.mq (xv 1 h1y)) (by simp) (fun m h1 h2=>Gs h1 h2)))) fy.g2 (fun hq G5 H5 f5=>?_) (fun hq G5 H5 f5=>bp (bp ?_))
   ·rw[D_]at hq;have hq:ue d a b y=true:=hq;refine xt (i:=3) (f:=fun a b=>a+b) (H:=G5) oS nd rfl (aK (Dj T) hr (c:=(y,())) trivial (az (xv 4 ((a6 CC).mono f5.hg ry)))) f5.g2 fun G6 H6 f6=>bp (bp ⟨some vy,?_,fin _ _ rfl (f5.h2.trans f6.h2),sG⟩);rw[E7 hy,ag hq];rfl
   ·rw[D_]at hq;have hq:ue d a b y=false:=hq;refine⟨some vy,?_,fin _ _ rfl f5.h2,sG⟩;rw[E7 hy,af (by rw[hq];decide),Yq];rfl
  ·rintro Gx σ' Hx ⟨o4,rfl,fx,sG⟩;have h1x:=(ah aa).mono sG h14;have eb:part d a b d.x.length=d.between a b:=by unfold part;rw[iX];rfl
   rw[eb];refine a7 (R:=ay) (XN.xe (a5 (aV ax (aV (jh (R:=aq) (r:=if a=b then d.between a a else d.between a b/2) (dB (XE.int (aW (xv 1 h1x) ax rfl)) (XE.int (aW (xv 1 h1x) ax rfl))) (fun z=>?_) (fun z=>?_)) aZ)))) fx.g2 fun y G H3 f3 r3=>k y G H3 (fx.trans f3) ?_
   ·have z:=ph.mp z;subst z;rw[ag rfl];exact xv 3 (show aq.rel Gx (.int (d.between a a)) _ from rfl)
   ·have z:¬a=b:=fun e=>by have:=dH z;lia
    rw[af z];exact IQ ⟨by decide,by decide⟩ (xv 3 (show aq.rel Gx (.int (d.between a b)) _ from rfl)) ax
   ·unfold lZ;rw[af (by show¬(d.strands≤a∨d.strands≤b);grind)];exact r3
end
structure cX(a:Addr)(H H1 G H2:Hp):Prop where
 hg:aj H G
 g2:aj G H2
 h2:∀b o,b≠a→H1 b=some o→H2 b=some o
 sep:∀b o,b≠a→H b=Option.none→H1 b=some o→G b=Option.none
 na:G a=Option.none
section
variable{a:Addr}{H H1 G H2 G' H3:Hp}{o:HO}
theorem au.p(f:au H H1 G H2)(na:H a=Option.none)(h1:H1 a=some o):cX a H H1 G H2:=⟨f.hg,f.g2,fun b o _ e=>f.h2 b o e,fun b o _ e1 e2=>f.sep b o e1 e2,f.sep _ _ na h1⟩
theorem cX.trans(f:cX a H H1 G H2)(g:cX a G H2 G' H3):cX a H H1 G' H3:=
 ⟨f.hg.trans g.hg,g.g2,fun b o n e=>g.h2 b o n (f.h2 b o n e),fun b o n e1 e2=>g.sep b o n (f.sep b o n e1 e2) (f.h2 b o n e2),g.na⟩
theorem au.xa(f:au H H1 G H2)(na:H a=Option.none)(h1:H1 a=some o)(o':HO):cX a H H1 G (upd H2 a o'):=by have n:=f.sep _ _ na h1;exact⟨f.hg,fun b q e=>by rw[aB (bB e n)];exact f.g2 b q e,fun b q nb e=>by rw[aB nb];exact f.h2 b q e,fun b o _ e1 e2=>f.sep b o e1 e2,n⟩
theorem cX.fwd(g:cX a H H1 G H2)(f:au G H2 G' H3)(h:H2 a=some o):cX a H H1 G' H3:=g.trans (f.p g.na h)
end
abbrev aR:=List (Option Dia)
abbrev rP(CC CD:Addr)(G:Hp)(us:List V)(w:aR):Prop:=Paired ((lK (aA CC CD)).rel G) us w
def eA(v:V):Rp Unit:=⟨fun _ x _=>x=v,fun _ h=>h⟩
section
variable{α β γ δ:Type}{X:Cx}{σ σ0:aS}{H H1 H2 G:Hp}{e ie b o:Expr}{es:List Expr}{R:Rp α}{S:Rp β}{r:α}{pos p:Pos}{D:Ends}{rest:List Stmt}{x x':Str}{i i':Nat}{CC CD a:Addr}{A:ck γ}{c:γ}{us:List V}{wt:aR}{k m:Nat}{ps:List Str}
theorem rP.mono(s:aj G G')(h:rP CC CD G us wt):rP CC CD G' us wt:=Paired.imp (fun _ _ q=>(lK (aA CC CD)).mono s q) h
def gI(CC CD:Addr)(A:ck γ)(P:γ→aR→Prop)(f:γ→aR→aR×List Int):Sp:=fun vs H1 Q _=>∃H a us wt rs c,vs= .ref a::rs∧aj H H1∧H a=Option.none∧H1 a=some (.lst us)∧rP CC CD H us wt∧A.rel H rs c∧P c wt∧
 ∀y G H2 aN,cX a H H1 G H2→H2 a=some (.lst aN)→rP CC CD G aN (f c wt).1→ay.rel G y (f c wt).2→Q y H2
theorem up1{P:_→aR→Prop}{J:Hp→Addr→List V→aR→_→Prop}(h:∃H a us wt rs c,vs= .ref a::rs∧aj H H1∧H a=Option.none∧H1 a=some (.lst us)∧rP CC CD H us wt∧(aO t0 bu).rel H rs c∧P c wt∧J H a us wt c)(m:∀H a us wt x v1,aj H H1→H a=Option.none→H1 a=some (.lst us)→rP CC CD H us wt→t0.rel H v1 x→P (x,()) wt→J H a us wt (x,())→WB X gL D (L2.start N [.ref a,v1]) H1):WB X gL D (L2.start N vs) H1:=by obtain⟨H,a,us,wt,rs,⟨x,_⟩,rfl,s1,na,h1,pr,⟨_,_,rfl,q1,rfl⟩,hp,k⟩:=h;exact m H a us wt _ _ s1 na h1 pr q1 hp k
theorem Kl{P:_→aR→Prop}{J:Hp→Addr→List V→aR→_→Prop}(h:∃H a us wt rs c,vs= .ref a::rs∧aj H H1∧H a=Option.none∧H1 a=some (.lst us)∧rP CC CD H us wt∧(aO t0 (aO t1 (aO t2 bu))).rel H rs c∧P c wt∧J H a us wt c)(m:∀H a us wt x y z v1 v2 v3,aj H H1→H a=Option.none→H1 a=some (.lst us)→rP CC CD H us wt→t0.rel H v1 x→t1.rel H v2 y→t2.rel H v3 z→P (x,y,z,()) wt→J H a us wt (x,y,z,())→WB X gL D (L2.start N [.ref a,v1,v2,v3]) H1):WB X gL D (L2.start N vs) H1:=by obtain⟨H,a,us,wt,rs,⟨x,y,z,_⟩,rfl,s1,na,h1,pr,⟨_,_,rfl,q1,_,_,rfl,q2,_,_,rfl,q3,rfl⟩,hp,k⟩:=h;exact m H a us wt _ _ _ _ _ _ s1 na h1 pr q1 q2 q3 hp k
theorem gI.len(h:A.Len n):∀vs H Q E,gI CC CD A P f vs H Q E→vs.length=n+1:=fun _ _ _ _ hh=>by obtain⟨_,_,_,_,_,_,e,_,_,_,_,ar,_⟩:=hh;rw[e,bZ,h _ _ _ ar]
section
variable{P:γ→aR→Prop}{f:γ→aR→aR×List Int}
theorem CO(Df:Cx.Def X k x ps (gI CC CD A P f))(hr:bM m X.A)(s:aj H H1)(na:H a=Option.none)(h1:H1 a=some (.lst us))(pr:rP CC CD H us wt)(hp:P c wt)(ha:XA X σ H (e::es) (aO (eA (.ref a)) A) ((),c))(q:∀y G H2 aN,cX a H H1 G H2→H2 a=some (.lst aN)→rP CC CD G aN (f c wt).1→ay.rel G y (f c wt).2→Q y H2)(hk:k≤m:=by decide)(hg:Gl X x:=by rfl)(bG:(x==("__debug__":Str))=false:=by decide)(he:SE X e es:=by rfl)(bo:NS X pos es:=by rfl):WE X (.Call (.Name x p) (e::es) [] pos) σ H1 Q:=
 pk Df hr ha s (fun vs G H2 fw hh=>by obtain⟨v,rs,ev,rv,rr⟩:=hh;cases rv;exact⟨G,a,us,wt,rs,c,ev,fw.g2,fw.sep _ _ na h1,fw.h2 _ _ h1,pr.mono fw.hg,rr,hp,fun y G' H3 aN fp h3 jx ry=>q y G' H3 aN ((fw.p na h1).trans fp) h3 jx ry⟩) hk hg bG he bo
theorem iJ(Df:Cx.Def X k x ps (gI CC CD A P f))(hr:bM m X.A)(s:aj H H1)(na:H a=Option.none)(h1:H1 a=some (.lst us))(pr:rP CC CD H us wt)(hp:P c wt)(ha:XA X σ H (e::es) (aO (eA (.ref a)) A) ((),c))(q:∀y G H2 aN,cX a H H1 G H2→H2 a=some (.lst aN)→rP CC CD G aN (f c wt).1→ay.rel G y (f c wt).2→D.rt y H2)(hk:k≤m:=by decide)(hg:Gl X x:=by rfl)(bG:(x==("__debug__":Str))=false:=by decide)(he:SE X e es:=by rfl)(bo:NS X pos es:=by rfl):WB X (.Return (some (.Call (.Name x p) (e::es) [] pos)) p2::rest) D σ H1:=
 cW (PS.ws (pG aJ) (CO Df hr s na h1 pr hp ha q hk hg bG he bo))
end
def Ft(CC CD:Addr):Sp:=fun vs H1 Q _=>∃H a us wt n,vs=[.ref a, .int ((n:Nat):Int)]∧aj H H1∧H a=Option.none∧H1 a=some (.lst us)∧rP CC CD H us wt∧wt.length=6∧∀y G H2,au H H1 G H2→(lK (aA CC CD)).rel G y (KnotBook.at_ wt n)→Q y H2
theorem qo(Df:Cx.Def X k x ps (Ft CC CD))(hr:bM m X.A)(hNd:X.N.Nodup)(s:aj H H1)(na:H a=Option.none)(h1:H1 a=some (.lst us))(pr:rP CC CD H us wt)(h6:wt.length=6)(ha:XA X σ H [e,ie] (aO (eA (.ref a)) (aO aa bu)) ((),n,()))(q:∀y G H2,au H H1 G H2→(lK (aA CC CD)).rel G y (KnotBook.at_ wt n)→WB X rest D (σ.set j (some y)) H2)(hi:X.N[j]?=some x':=by rfl)(hx:Loc X.env.scope x':=by first|exact Or.inl rfl|exact Or.inr rfl)(hs:swapsWith (.Call (.Name x p) [e,ie] [] pc) (some (.Name x' px)) pos.line X.env=pure false:=by rfl)(hf:X.fn x'=true∨X.env.scope.names.lookup x'=some .local:=by first|exact .inl rfl|exact .inr rfl|assumption)(hk:k≤m:=by decide)(hg:Gl X x:=by rfl)(bG:(x==("__debug__":Str))=false:=by decide)(he:SE X e [ie]:=by rfl)(bo:NS X pc [ie]:=by rfl):WB X (.Assign [.Name x' px] (.Call (.Name x p) [e,ie] [] pc) pos::rest) D σ H1:=
 cW (PS.ws (pq hNd hi hx aJ hs hf) (pk Df hr ha s (fun vs G H2 fw hh=>by obtain⟨v,rs,ev,rv,v2,rs2,ev2,rv2,e3⟩:=hh;cases rv;cases rv2;cases e3;subst ev2;exact⟨G,a,us,wt,n,ev,fw.g2,fw.sep _ _ na h1,fw.h2 _ _ h1,pr.mono fw.hg,h6,fun y G' H3 fp ry=>q y G' H3 (fw.trans fp) ry⟩) hk hg bG he bo))
end
theorem Jy{R:α→β→Prop}{xs:List α}{ys:List β}(h:Paired R xs ys):∀(n:Nat){x:α}{y:β},R x y→Paired R (xs.set n x) (ys.set n y):=by
 induction h with
 |nil=>intro n x y _;exact .nil
 |cons q r ih=>
  intro n x y h;cases n with
  |zero=>exact .cons h r
  |succ n=>exact .cons q (ih n h)
def b9(w:aR)(k:Nat)(e:Dia)(n:Int):aR×List Int:=if e.small=true then(w.set k (some e),[n])else(w,[-2])
section
variable{K:Fg}(T:Txt K mg CC CD)
include T
theorem qC:Def P w K mg base 1 "drawing_at" ["places","place"] (Ft CC CD):=by
 refine T.hs.OU.mk ["places","place"] (fun nd H1 vs Q E hr h=>?_) (len:=(fun vs H Q E hh=>by obtain⟨_,_,_,_,_,e,_⟩:=hh;rw[e];rfl));obtain⟨H,a,us,wt,n,rfl,s1,na,h1,pr,h6,k⟩:=h;obtain⟨tm,mP⟩:=T.vd;have rn:∀{G:Hp},aa.rel G (.int ((n:Nat):Int)) n:=rfl;have hl:=pr.length;refine cW (PS.ws (pG (GD iK (sP zX (pv 0) (pv 1) (fun _ _=>rfl)) HW)) ?_);refine(xC (XE.int (xv 1 (rn))) (bN mP)) H1 s1 _ fun G2 H2 f2=>?_;by_cases c:n<6
 ·rw[ag (fZ (by lia))];have hu:n<us.length:=by simp[*]
  refine⟨.ref a,rfl, .int ((n:Nat):Int),rfl,a,us,n,us[n],rfl,rfl,aU.of (f2.h2 _ _ h1),bt (bq hu),k _ G2 H2 f2 ?_⟩;have e:KnotBook.at_ wt n=wt[n]:=by unfold KnotBook.at_;rw[bq (by omega)]
  rw[e];exact(lK (aA CC CD)).mono f2.hg (tG pr n hu (by omega))
 ·rw[af (by rw[ym];lia)];refine k _ G2 H2 f2 ?_;have e:KnotBook.at_ wt n=none:=by unfold KnotBook.at_;rw[lB (by lia)]
  rw[e];rfl
theorem mj:Def P w K mg base 1 "keep_made" ["places","place","drawing","answer"] (gI CC CD (aO aa (aO (aA CC CD) (aO aq bu))) (fun c wt=>c.1<6∧wt.length=6) fun c wt=>b9 wt c.1 c.2.1 c.2.2.1):=by
 refine T.hs.Pw.mk ["places","place","drawing","answer"] (fun nd H1 vs Q E hr h=>?_);obtain⟨H,a,us,wt,rs,⟨n,d,z,_⟩,rfl,s1,na,h1,pr,⟨v1,_,rfl,q1,v2,_,rfl,q2,v3,_,rfl,q3,rfl⟩,⟨hn,h6⟩,k⟩:=h;obtain⟨t1,m1⟩:=T.Jl;obtain⟨t2,m2⟩:=T.GZ;obtain⟨t3,m3⟩:=T.N0;have q2:(aA CC CD).rel H v2 d:=q2;have q1:aa.rel H v1 n:=q1;have q3:aq.rel H v3 z:=q3;have hn:n<6:=hn;have k:∀y G H2 aN,cX a H H1 G H2→H2 a=some (.lst aN)→rP CC CD G aN (b9 wt n d z).1→ay.rel G y (b9 wt n d z).2→Q y H2:=k;have hl:=pr.length;have sm:d.small=!(decide ((8:Int)<(d.x.length:Int))||decide ((4:Int)<(d.c:Int))):=by unfold Dia.small Dia.n Kb.MOST Kb.CIRCLES;rw[j4];simp;omega
 refine dI (H:=H) (R:=ay) (pZ (je (cN T.len (bK T (xv 2 q2))) (bN m1)) fun _=>je (XE.int (eY T (xv 2 q2))) (bN m2)) s1 (fun _=>XN.xe (a5 (aV (bN m3) aZ))) (fun q v G H3 f r=>?_) fun q G2 H2 f2=>?_
 ·have e:b9 wt n d z=(wt,[-2]):=by unfold b9;rw[sm,q];rfl
  rw[e]at k;exact k v G H3 us (f.p na h1) (f.h2 _ _ h1) (pr.mono f.hg) r
 ·have e:b9 wt n d z=(wt.set n (some d),[z]):=by unfold b9;rw[sm,q];rfl
  rw[e]at k;refine Bc (i:=0) rfl (f2.h2 _ _ h1) (xv 2 ((aA CC CD).mono f2.hg q2)) (xv 1 (aa.mono f2.hg q1)) (by simp[*]) f2.g2 fun v G3 H3 f3 r3=>?_;have d9:=f2.trans f3;refine a7 (R:=ay) (XN.xe (a5 (aV (xv 3 (aq.mono d9.hg q3)) aZ))) (d9.xa na h1 _).g2 fun y G4 H4 f4 r4=>?_;refine k y G4 H4 _ ((d9.xa na h1 _).fwd f4 aE) (f4.h2 _ _ aE) ?_ r4;refine rP.mono f4.hg (Jy (pr.mono d9.hg) n ?_);obtain⟨p,dx,l,vs,ev,mM⟩:=r3;exact⟨by rw[ev];simp,p,dx,l,vs,ev,mM⟩
end
def dM(w:aR):Prop:=∀d,some d∈w→bS d
abbrev aM(CC CD:Addr):ck (Nat×Dia×List Nat×Unit):=aO aa (aO (aA CC CD) (aO (ah aa) bu))
abbrev kX(P:Program)(w:World)(K:Fg)(mg:Mg)(base:Heap)(CC CD:Addr)(x:Str)(n:Nat)(F:aR→Nat→Dia→List Nat→aR×List Int):Prop:=Def P w K mg base 8 x ["places","place","drawing","numbers"] (gI CC CD (aM CC CD) (fun c wt=>(c.1<6∧wt.length=6∧dM wt)∧bS c.2.1∧c.2.2.1.length=n) fun c wt=>F wt c.1 c.2.1 c.2.2.1)
def z0:Cross:=⟨0,0,0,0,false⟩
def u0(w:aR)(k:Nat)(d:Dia)(_:List Nat):aR×List Int:=b9 w k d.mirror 0
def xc(w:aR)(k:Nat)(d:Dia)(_:List Nat):aR×List Int:=b9 w k d.turn 0
def i7(w:aR)(k:Nat)(d:Dia)(l:List Nat):aR×List Int:=if d.n≤l.getD 0 0 then(w,[-1])else b9 w k (d.flip (l.getD 0 0)) 0
def jr(w:aR)(k:Nat)(d:Dia)(l:List Nat):aR×List Int:=if d.n≤l.getD 0 0 then(w,[-1])else b9 w k (d.open_ (l.getD 0 0) (d.x.getD (l.getD 0 0) z0)) 0
def ia(w:aR)(k:Nat)(d:Dia)(l:List Nat):aR×List Int:=if d.n≤l.getD 0 0 then(w,[-1])else if(d.x.getD (l.getD 0 0) z0).kink=true then b9 w k (d.unkink (l.getD 0 0) (d.x.getD (l.getD 0 0) z0)) 0 else(w,[-3])
def h_(w:aR)(k:Nat)(d:Dia)(l:List Nat):aR×List Int:=if d.n≤l.getD 0 0∨d.n≤l.getD 1 0 then(w,[-1])else if poke (d.x.getD (l.getD 0 0) z0) (d.x.getD (l.getD 1 0) z0)=true then b9 w k (d.unpoke (l.getD 0 0) (l.getD 1 0) (d.x.getD (l.getD 0 0) z0) (d.x.getD (l.getD 1 0) z0)) 0 else(w,[-3])
def vv(w:aR)(k:Nat)(d:Dia)(_:List Nat):aR×List Int:=b9 w k (Dia.plain 9 d).1 ((Dia.plain 9 d).2:Int)
def jI(w:aR)(k:Nat)(d:Dia)(l:List Nat):aR×List Int:=match KnotBook.at_ w (l.getD 0 0)with
 |some e=>b9 w k (d.beside e) 0
 |none=>(w,[-1])
def jq(w:aR)(k:Nat)(d:Dia)(l:List Nat):aR×List Int:=match KnotBook.at_ w (l.getD 1 0)with
 |some e=>if d.arcs≤l.getD 0 0∨e.arcs≤l.getD 2 0 then(w,[-1])else b9 w k (d.join e (l.getD 0 0) (l.getD 2 0)) 0
 |none=>(w,[-1])
theorem OE(h:l.length=3):∃a b c,l=[a,b,c]:=by
 match l,h with
 |[a,b,c],_=>exact⟨a,b,c,rfl⟩
theorem qb{d:Dia}(h:i<d.n):d.x[i]?=some (d.x.getD i z0):=by have h:i<d.x.length:=h;simp[*]
theorem ko(h:dM wt)(q:KnotBook.at_ wt n=some e):bS e:=by
 unfold KnotBook.at_ at q;cases c:wt[n]? with
 |none=>rw[c]at q;cases q
 |some x=>rw[c]at q;subst q;exact h e (fg c)
section
variable{K:Fg}(T:Txt K mg CC CD)
include T
theorem XM:kX P w K mg base CC CD "make_mirrored" 0 u0:=by refine T.hs.PB.mk ["places","place","drawing","numbers"] (fun nd H1 vs Q E hr h=>?_);refine Kl h fun H a us wt n d l v1 v2 v3 s1 na h1 pr q1 q2 q3 hh k=>?_;obtain⟨⟨hn,h6,hS⟩,ok,hl⟩:=hh;have q1:aa.rel H v1 n:=q1;have q2:(aA CC CD).rel H v2 d:=q2;have q3:(ah aa).rel H v3 l:=q3;have ok:bS d:=ok;have hn:n<6:=hn;have rv:∀{G:Hp},(eA (.ref a)).rel G (.ref a) ():=rfl;have k:∀y G H2 aN,cX a H H1 G H2→H2 a=some (.lst aN)→rP CC CD G aN (u0 wt n d l).1→ay.rel G y (u0 wt n d l).2→Q y H2:=k;exact iJ (mj (w:=w) T) hr s1 na h1 pr ⟨hn,h6⟩ (aF (xv 0 rv) (aF (xv 1 q1) (aF (XE.cast (aK (Q0 T) hr ok.sm (az (xv 2 q2))) rfl) (az ax)))) k
theorem L8:kX P w K mg base CC CD "make_turned" 0 xc:=by refine T.hs.Ru.mk ["places","place","drawing","numbers"] (fun nd H1 vs Q E hr h=>?_);refine Kl h fun H a us wt n d l v1 v2 v3 s1 na h1 pr q1 q2 q3 hh k=>?_;obtain⟨⟨hn,h6,hS⟩,ok,hl⟩:=hh;have q1:aa.rel H v1 n:=q1;have q2:(aA CC CD).rel H v2 d:=q2;have q3:(ah aa).rel H v3 l:=q3;have ok:bS d:=ok;have hn:n<6:=hn;have rv:∀{G:Hp},(eA (.ref a)).rel G (.ref a) ():=rfl;have k:∀y G H2 aN,cX a H H1 G H2→H2 a=some (.lst aN)→rP CC CD G aN (xc wt n d l).1→ay.rel G y (xc wt n d l).2→Q y H2:=k;exact iJ (mj (w:=w) T) hr s1 na h1 pr ⟨hn,h6⟩ (aF (xv 0 rv) (aF (xv 1 q1) (aF (XE.cast (aK (Tc T) hr ok.sm (az (xv 2 q2))) rfl) (az ax)))) k
theorem Pc:kX P w K mg base CC CD "make_flipped" 1 i7:=by
 refine T.hs.To.mk ["places","place","drawing","numbers"] (fun nd H1 vs Q E hr h=>?_);refine Kl h fun H a us wt n d l v1 v2 v3 s1 na h1 pr q1 q2 q3 hh k=>?_;obtain⟨⟨hn,h6,hS⟩,ok,hl⟩:=hh;obtain⟨i0,rfl⟩:=ny (hl);have q1:aa.rel H v1 n:=q1;have q2:(aA CC CD).rel H v2 d:=q2;have q3:(ah aa).rel H v3 [i0]:=q3;have ok:bS d:=ok;have hn:n<6:=hn;have rv:∀{G:Hp},(eA (.ref a)).rel G (.ref a) ():=rfl;have k:∀y G H2 aN,cX a H H1 G H2→H2 a=some (.lst aN)→rP CC CD G aN (i7 wt n d [i0]).1→ay.rel G y (i7 wt n d [i0]).2→Q y H2:=k;obtain⟨tm,mA⟩:=T.ib;refine dI (ki (XE.int (aW (xv 3 q3) ax rfl)) (cN T.len (bK T (xv 2 q2)))) s1 (fun _=>XN.xe (a5 (aV (bN mA) aZ))) (fun q v G H3 f r=>?_) fun q G2 H2 f2=>?_
 ·have q:d.n≤i0:=iZ.mp (gB q);have e:i7 wt n d [i0]=(wt,[-1]):=by unfold i7;rw[ag (by exact q)]
  rw[e]at k;exact k v G H3 us (f.p na h1) (f.h2 _ _ h1) (pr.mono f.hg) r
 have q:i0<d.n:=B4 fun z=>dH q (iZ.mpr z);have nq:¬d.n≤i0:=by simp[*]
 have q1:=aa.mono f2.hg q1;have q2:=(aA CC CD).mono f2.hg q2;have q3:=(ah aa).mono f2.hg q3;have j3:=f2.sep _ _ na h1;have eP:=f2.h2 _ _ h1;have fD:=pr.mono f2.hg;have e:i7 wt n d [i0]=b9 wt n (d.flip i0) 0:=by unfold i7;rw[af (by exact nq)];rfl
 rw[e]at k;exact iJ (mj T) hr f2.g2 j3 eP fD ⟨hn,h6⟩ (aF (xv 0 rv) (aF (xv 1 q1) (aF (XE.cast (aK (MO T) hr ⟨ok.sm,q⟩ (aF (xv 2 q2) (az (aW (xv 3 q3) ax rfl)))) rfl) (az ax)))) fun y G H3 aN fp=>k y G H3 aN ((f2.p na h1).trans fp)
theorem NR:kX P w K mg base CC CD "make_opened" 1 jr:=by
 refine T.hs.X4.mk ["places","place","drawing","numbers"] (fun nd H1 vs Q E hr h=>?_);refine Kl h fun H a us wt n d l v1 v2 v3 s1 na h1 pr q1 q2 q3 hh k=>?_;obtain⟨⟨hn,h6,hS⟩,ok,hl⟩:=hh;obtain⟨i0,rfl⟩:=ny (hl);have q1:aa.rel H v1 n:=q1;have q2:(aA CC CD).rel H v2 d:=q2;have q3:(ah aa).rel H v3 [i0]:=q3;have ok:bS d:=ok;have hn:n<6:=hn;have rv:∀{G:Hp},(eA (.ref a)).rel G (.ref a) ():=rfl;have k:∀y G H2 aN,cX a H H1 G H2→H2 a=some (.lst aN)→rP CC CD G aN (jr wt n d [i0]).1→ay.rel G y (jr wt n d [i0]).2→Q y H2:=k;obtain⟨tm,mA⟩:=T.ib;refine dI (ki (XE.int (aW (xv 3 q3) ax rfl)) (cN T.len (bK T (xv 2 q2)))) s1 (fun _=>XN.xe (a5 (aV (bN mA) aZ))) (fun q v G H3 f r=>?_) fun q G2 H2 f2=>?_
 ·have q:d.n≤i0:=iZ.mp (gB q);have e:jr wt n d [i0]=(wt,[-1]):=by unfold jr;rw[ag (by exact q)]
  rw[e]at k;exact k v G H3 us (f.p na h1) (f.h2 _ _ h1) (pr.mono f.hg) r
 have q:i0<d.n:=B4 fun z=>dH q (iZ.mpr z);have nq:¬d.n≤i0:=by simp[*]
 have q1:=aa.mono f2.hg q1;have q2:=(aA CC CD).mono f2.hg q2;have q3:=(ah aa).mono f2.hg q3;have j3:=f2.sep _ _ na h1;have eP:=f2.h2 _ _ h1;have fD:=pr.mono f2.hg;have e:jr wt n d [i0]=b9 wt n (d.open_ i0 (d.x.getD i0 z0)) 0:=by unfold jr;rw[af (by exact nq)];rfl
 rw[e]at k;exact iJ (mj T) hr f2.g2 j3 eP fD ⟨hn,h6⟩ (aF (xv 0 rv) (aF (xv 1 q1) (aF (XE.cast (aK (O7 T) hr ⟨ok.s8,ok.ai,_,qb q⟩ (aF (xv 2 q2) (az (aW (xv 3 q3) ax rfl)))) rfl) (az ax)))) fun y G H3 aN fp=>k y G H3 aN ((f2.p na h1).trans fp)
theorem Rf:kX P w K mg base CC CD "make_unkinked" 1 ia:=by
 refine T.hs.Lb.mk ["places","place","drawing","numbers"] (fun nd H1 vs Q E hr h=>?_);refine Kl h fun H a us wt n d l v1 v2 v3 s1 na h1 pr q1 q2 q3 hh k=>?_;obtain⟨⟨hn,h6,hS⟩,ok,hl⟩:=hh;obtain⟨i0,rfl⟩:=ny (hl);have q1:aa.rel H v1 n:=q1;have q2:(aA CC CD).rel H v2 d:=q2;have q3:(ah aa).rel H v3 [i0]:=q3;have ok:bS d:=ok;have hn:n<6:=hn;have rv:∀{G:Hp},(eA (.ref a)).rel G (.ref a) ():=rfl;have k:∀y G H2 aN,cX a H H1 G H2→H2 a=some (.lst aN)→rP CC CD G aN (ia wt n d [i0]).1→ay.rel G y (ia wt n d [i0]).2→Q y H2:=k;obtain⟨tm,mA⟩:=T.ib;refine dI (ki (XE.int (aW (xv 3 q3) ax rfl)) (cN T.len (bK T (xv 2 q2)))) s1 (fun _=>XN.xe (a5 (aV (bN mA) aZ))) (fun q v G H3 f r=>?_) fun q G2 H2 f2=>?_
 ·have q:d.n≤i0:=iZ.mp (gB q);have e:ia wt n d [i0]=(wt,[-1]):=by unfold ia;rw[ag (by exact q)]
  rw[e]at k;exact k v G H3 us (f.p na h1) (f.h2 _ _ h1) (pr.mono f.hg) r
 have q:i0<d.n:=B4 fun z=>dH q (iZ.mpr z);have nq:¬d.n≤i0:=by simp[*]
 have q1:=aa.mono f2.hg q1;have q2:=(aA CC CD).mono f2.hg q2;have q3:=(ah aa).mono f2.hg q3;have j3:=f2.sep _ _ na h1;have eP:=f2.h2 _ _ h1;have fD:=pr.mono f2.hg;obtain⟨tm3,m3⟩:=T.C7;refine dI (r_ (nh (aK (HN T) hr trivial (az (aW (bK T (xv 2 q2)) (XE.int (aW (xv 3 q3) ax rfl)) (bt (qb q))))))) f2.g2 (fun _=>XN.xe (a5 (aV (bN m3) aZ))) (fun z v G H3 f r=>?_) fun z G3 H3 f3=>?_
 ·have z:(d.x.getD i0 z0).kink=false:=by simpa using z
  have e:ia wt n d [i0]=(wt,[-3]):=by unfold ia;rw[af (by exact nq),af (by show¬(d.x.getD i0 z0).kink=true;rw[z];decide)]
  rw[e]at k;exact k v G H3 us ((f2.trans f).p na h1) (f.h2 _ _ eP) (fD.mono f.hg) r
 have z:(d.x.getD i0 z0).kink=true:=by simpa using z
 have e:ia wt n d [i0]=b9 wt n (d.without [i0] ((jn d [i0]).flatMap Cross.straight)) 0:=by unfold ia;rw[af (by exact nq),ag (by exact z)];simp[jn,z0,Dia.unkink]
 rw[e]at k;exact iJ (mj T) hr f3.g2 (f3.sep _ _ j3 eP) (f3.h2 _ _ eP) (fD.mono f3.hg) ⟨hn,h6⟩ (aF (xv 0 rv) (aF (xv 1 (aa.mono f3.hg q1)) (aF (XE.cast (aK (AI T) hr ⟨ok.s8,ok.ai,by show 1≤16;decide,fun i hi=>by simp at hi;subst hi;exact q⟩ (aF (xv 2 ((aA CC CD).mono f3.hg q2)) (az (xv 3 ((ah aa).mono f3.hg q3))))) rfl) (az ax)))) fun y G H4 aN fp=>k y G H4 aN (((f2.trans f3).p na h1).trans fp)
theorem Vz:kX P w K mg base CC CD "make_unpoked" 2 h_:=by
 refine T.hs.Pp.mk ["places","place","drawing","numbers"] (fun nd H1 vs Q E hr h=>?_);refine Kl h fun H a us wt n d l v1 v2 v3 s1 na h1 pr q1 q2 q3 hh k=>?_;obtain⟨⟨hn,h6,hS⟩,ok,hl⟩:=hh;obtain⟨i0,i1,rfl⟩:=Fw (hl);have q1:aa.rel H v1 n:=q1;have q2:(aA CC CD).rel H v2 d:=q2;have q3:(ah aa).rel H v3 [i0,i1]:=q3;have ok:bS d:=ok;have hn:n<6:=hn;have rv:∀{G:Hp},(eA (.ref a)).rel G (.ref a) ():=rfl;have k:∀y G H2 aN,cX a H H1 G H2→H2 a=some (.lst aN)→rP CC CD G aN (h_ wt n d [i0,i1]).1→ay.rel G y (h_ wt n d [i0,i1]).2→Q y H2:=k;obtain⟨tm,mA⟩:=T.ib;refine dI (ki (wI T rfl (XE.mq (xv 3 q3)) (by show max (i0:Int) (i1:Int)∈[(i0:Int),(i1:Int)];simp;lia) (fun y hy=>by
  have hy:y∈[(i0:Int),i1]:=hy;simp at hy
  lia)) (cN T.len (bK T (xv 2 q2)))) s1 (fun _=>XN.xe (a5 (aV (bN mA) aZ))) (fun q v G H3 f r=>?_) fun q G2 H2 f2=>?_
 ·have q:((d.n:Nat):Int)≤max (i0:Int) i1:=gB q;have e:h_ wt n d [i0,i1]=(wt,[-1]):=by unfold h_;rw[ag (by show d.n≤i0∨d.n≤i1;lia)]
  rw[e]at k;exact k v G H3 us (f.p na h1) (f.h2 _ _ h1) (pr.mono f.hg) r
 have q:¬((d.n:Nat):Int)≤max (i0:Int) i1:=dH q;have nq:¬(d.n≤i0∨d.n≤i1):=by grind
 have l0:i0<d.n:=by lia
 have l1:i1<d.n:=by lia
 have q1:=aa.mono f2.hg q1;have q2:=(aA CC CD).mono f2.hg q2;have q3:=(ah aa).mono f2.hg q3;have j3:=f2.sep _ _ na h1;have eP:=f2.h2 _ _ h1;have fD:=pr.mono f2.hg;obtain⟨tm3,m3⟩:=T.C7;refine dI (r_ (nh (aK (FV T) hr trivial (aF (aW (bK T (xv 2 q2)) (XE.int (aW (xv 3 q3) ax rfl)) (bt (qb l0))) (az (aW (bK T (xv 2 q2)) (XE.int (aW (xv 3 q3) ax rfl)) (bt (qb l1)))))))) f2.g2 (fun _=>XN.xe (a5 (aV (bN m3) aZ))) (fun z v G H3 f r=>?_) fun z G3 H3 f3=>?_
 ·have z:poke (d.x.getD i0 z0) (d.x.getD i1 z0)=false:=by simpa using z
  have e:h_ wt n d [i0,i1]=(wt,[-3]):=by unfold h_;rw[af (by exact nq),af (by show¬poke (d.x.getD i0 z0) (d.x.getD i1 z0)=true;rw[z];decide)]
  rw[e]at k;exact k v G H3 us ((f2.trans f).p na h1) (f.h2 _ _ eP) (fD.mono f.hg) r
 have z:poke (d.x.getD i0 z0) (d.x.getD i1 z0)=true:=by simpa using z
 have e:h_ wt n d [i0,i1]=b9 wt n (d.without [i0,i1] ((jn d [i0,i1]).flatMap Cross.straight)) 0:=by unfold h_;rw[af (by exact nq),ag (by exact z)];simp[jn,z0,Dia.unpoke]
 rw[e]at k;exact iJ (mj T) hr f3.g2 (f3.sep _ _ j3 eP) (f3.h2 _ _ eP) (fD.mono f3.hg) ⟨hn,h6⟩ (aF (xv 0 rv) (aF (xv 1 (aa.mono f3.hg q1)) (aF (XE.cast (aK (AI T) hr ⟨ok.s8,ok.ai,by show 2≤16;decide,fun i hi=>by simp at hi;rcases hi with rfl|rfl<;>assumption⟩ (aF (xv 2 ((aA CC CD).mono f3.hg q2)) (az (xv 3 ((ah aa).mono f3.hg q3))))) rfl) (az ax)))) fun y G H4 aN fp=>k y G H4 aN (((f2.trans f3).p na h1).trans fp)
theorem SY:kX P w K mg base CC CD "make_plain" 0 vv:=by
 refine T.hs.KY.mk ["places","place","drawing","numbers","steps"] (fun nd H1 vs Q E hr h=>?_);refine Kl h fun H a us wt n d l v1 v2 v3 s1 na h1 pr q1 q2 q3 hh k=>?_;obtain⟨⟨hn,h6,hS⟩,ok,hl⟩:=hh;have q1:aa.rel H v1 n:=q1;have q2:(aA CC CD).rel H v2 d:=q2;have q3:(ah aa).rel H v3 l:=q3;have ok:bS d:=ok;have hn:n<6:=hn;have rv:∀{G:Hp},(eA (.ref a)).rel G (.ref a) ():=rfl;have k:∀y G H2 aN,cX a H H1 G H2→H2 a=some (.lst aN)→rP CC CD G aN (vv wt n d l).1→ay.rel G y (vv wt n d l).2→Q y H2:=k;obtain⟨sp1,sp2⟩:=Km.E1 9 d;refine br (i:=4) nd (aK (Nd T) hr ⟨ok.s8,ok.g⟩ (az (xv 2 q2))) s1 fun v4 G2 H2 f2 r4=>?_;have r4:(ah (aA CC CD)).rel G2 v4 (Km.eW 9 d):=r4;have Bp:cJ (Km.eW 9 d) (-1)=some (Dia.plain 9 d).1:=by unfold cJ jm;rw[Za]at sp2;rw[af (by lia),ag (by lia)];show(Km.eW 9 d)[((-1:Int)+((Km.eW 9 d).length:Int)).toNat]?=_;rw[show((-1:Int)+((Km.eW 9 d).length:Int)).toNat=(Km.eW 9 d).length-1 by lia];exact sp2
 exact iJ (mj (P:=P) (w:=w) T) hr f2.g2 (f2.sep _ _ na h1) (f2.h2 _ _ h1) (pr.mono f2.hg) (c:=(n,(Dia.plain 9 d).1,((Dia.plain 9 d).2:Int),())) ⟨hn,h6⟩ (aF (xv 0 rv) (aF (xv 1 (aa.mono f2.hg q1)) (aF (aW (xv 4 r4) (fF ax) Bp) (az (XE.cast (jP (cN T.len (xv 4 r4)) ax) (by rw[sp1];simp)))))) fun y G H3 aN fp=>k y G H3 aN ((f2.p na h1).trans fp)
theorem WK:kX P w K mg base CC CD "make_beside" 1 jI:=by
 refine T.hs.Qa.mk ["places","place","drawing","numbers","other"] (fun nd H1 vs Q E hr h=>?_);refine Kl h fun H a us wt n d l v1 v2 v3 s1 na h1 pr q1 q2 q3 hh k=>?_;obtain⟨⟨hn,h6,hS⟩,ok,hl⟩:=hh;obtain⟨i0,rfl⟩:=ny (hl);have q1:aa.rel H v1 n:=q1;have q2:(aA CC CD).rel H v2 d:=q2;have q3:(ah aa).rel H v3 [i0]:=q3;have ok:bS d:=ok;have hn:n<6:=hn;have rv:∀{G:Hp},(eA (.ref a)).rel G (.ref a) ():=rfl;have k:∀y G H2 aN,cX a H H1 G H2→H2 a=some (.lst aN)→rP CC CD G aN (jI wt n d [i0]).1→ay.rel G y (jI wt n d [i0]).2→Q y H2:=k;obtain⟨tm,mA⟩:=T.ib;refine qo (j:=4) (qC T) hr nd s1 na h1 pr h6 (aF (xv 0 rv) (az (aW (xv 3 q3) ax rfl))) fun v4 G2 H2 f2 r4=>?_;have q1:=aa.mono f2.hg q1;have q2:=(aA CC CD).mono f2.hg q2;have j3:=f2.sep _ _ na h1;have eP:=f2.h2 _ _ h1;have fD:=pr.mono f2.hg;have e0:jI wt n d [i0]=match KnotBook.at_ wt i0 with|some e=>b9 wt n (d.beside e) 0|none=>(wt,[-1]):=rfl
 generalize hx:KnotBook.at_ wt i0=x at r4 e0;refine dI (pC (xv 4 r4)) f2.g2 (fun _=>XN.xe (a5 (aV (bN mA) aZ))) (fun q v G H3 f r=>?_) fun q G3 H3 f3=>?_
 ·cases x with
  |some e=>cases q
  |none=>rw[e0]at k;exact k v G H3 us ((f2.trans f).p na h1) (f.h2 _ _ eP) (fD.mono f.hg) r
 ·cases x with
  |none=>cases q
  |some e=>have oke:=ko hS hx;rw[e0]at k;exact iJ (mj T) hr f3.g2 (f3.sep _ _ j3 eP) (f3.h2 _ _ eP) (fD.mono f3.hg) ⟨hn,h6⟩ (aF (xv 0 rv) (aF (xv 1 (aa.mono f3.hg q1)) (aF (XE.cast (aK (CG T) hr ⟨ok.s8,oke.s8⟩ (aF (xv 2 ((aA CC CD).mono f3.hg q2)) (az (xv 4 ((aA CC CD).mono f3.hg r4.2))))) rfl) (az ax)))) fun y G H4 aN fp=>k y G H4 aN (((f2.trans f3).p na h1).trans fp)
theorem Mm:kX P w K mg base CC CD "make_joined" 3 jq:=by
 refine T.hs.T9.mk ["places","place","drawing","numbers","other"] (fun nd H1 vs Q E hr h=>?_);refine Kl h fun H a us wt n d l v1 v2 v3 s1 na h1 pr q1 q2 q3 hh k=>?_;obtain⟨⟨hn,h6,hS⟩,ok,hl⟩:=hh;obtain⟨i0,i1,i2,rfl⟩:=OE (hl);have q1:aa.rel H v1 n:=q1;have q2:(aA CC CD).rel H v2 d:=q2;have q3:(ah aa).rel H v3 [i0,i1,i2]:=q3;have ok:bS d:=ok;have hn:n<6:=hn;have rv:∀{G:Hp},(eA (.ref a)).rel G (.ref a) ():=rfl;have k:∀y G H2 aN,cX a H H1 G H2→H2 a=some (.lst aN)→rP CC CD G aN (jq wt n d [i0,i1,i2]).1→ay.rel G y (jq wt n d [i0,i1,i2]).2→Q y H2:=k;obtain⟨tm,mA⟩:=T.ib;refine qo (j:=4) (qC T) hr nd s1 na h1 pr h6 (aF (xv 0 rv) (az (aW (xv 3 q3) ax rfl))) fun v4 G2 H2 f2 r4=>?_;have q1:=aa.mono f2.hg q1;have q2:=(aA CC CD).mono f2.hg q2;have q3:=(ah aa).mono f2.hg q3;have j3:=f2.sep _ _ na h1;have eP:=f2.h2 _ _ h1;have fD:=pr.mono f2.hg;have e0:jq wt n d [i0,i1,i2]=match KnotBook.at_ wt i1 with|some e=>if d.arcs≤i0∨e.arcs≤i2 then(wt,[-1])else b9 wt n (d.join e i0 i2) 0|none=>(wt,[-1]):=rfl
 generalize hx:KnotBook.at_ wt i1=x at r4 e0;cases x with
 |none=>rw[e0]at k;refine dI (H:=G2) (R:=ay) (q:=true) (yo (q:=false) (r:=false) (pC (xv 4 r4)) (fun z=>by cases z) (fun z=>by cases z)) f2.g2 (fun _=>XN.xe (a5 (aV (bN mA) aZ))) (fun q v G H3 f r=>k v G H3 us ((f2.trans f).p na h1) (f.h2 _ _ eP) (fD.mono f.hg) r) fun q=>by cases q
 |some e=>
  have oke:=ko hS hx;have e0:jq wt n d [i0,i1,i2]=if d.arcs≤i0∨e.arcs≤i2 then(wt,[-1])else b9 wt n (d.join e i0 i2) 0:=e0
  refine dI (H:=G2) (R:=ay) (yo (pC (xv 4 r4)) (fun _=>ki (XE.int (aW (xv 3 q3) ax rfl)) (XE.int (aK (gi T) hr (c:=(d,())) trivial (az (xv 2 q2))))) (fun _ _=>ki (XE.int (aW (xv 3 q3) ax rfl)) (XE.int (aK (gi T) hr (c:=(e,())) trivial (az (xv 4 r4.2)))))) f2.g2 (fun _=>XN.xe (a5 (aV (bN mA) aZ))) (fun q v G H3 f r=>?_) fun q G3 H3 f3=>?_
  ·rw[rD,rD,dA,dA]at q;have q:d.arcs≤i0∨e.arcs≤i2:=by
    rcases q with(q|q)|q
    ·cases q
    ·exact .inl (iZ.mp q)
    ·exact .inr (iZ.mp q)
   rw[e0,ag q]at k;exact k v G H3 us ((f2.trans f).p na h1) (f.h2 _ _ eP) (fD.mono f.hg) r
  ·rw[uQ,uQ,oA,oA]at q;have n0:¬d.arcs≤i0:=fun z=>q.1.2 (iZ.mpr z);have n2:¬e.arcs≤i2:=fun z=>q.2 (iZ.mpr z);rw[e0,af (by simp[*])]at k;exact iJ (mj T) hr f3.g2 (f3.sep _ _ j3 eP) (f3.h2 _ _ eP) (fD.mono f3.hg) ⟨hn,h6⟩ (aF (xv 0 rv) (aF (xv 1 (aa.mono f3.hg q1)) (aF (XE.cast (aK (W_ T) hr ⟨ok.s8,oke.s8,by show i0<d.arcs;lia⟩ (aF (xv 2 ((aA CC CD).mono f3.hg q2)) (aF (aW (xv 3 ((ah aa).mono f3.hg q3)) ax rfl) (aF (xv 4 ((aA CC CD).mono f3.hg r4.2)) (az (aW (xv 3 ((ah aa).mono f3.hg q3)) ax rfl)))))) rfl) (az ax)))) fun y G H4 aN fp=>k y G H4 aN (((f2.trans f3).p na h1).trans fp)
end
end Kn
namespace Km
open Kb Kn KnotBook
theorem QE(a b c e m:Nat)(r:List Nat):cO (a::b::c::e::m::r)=⟨a,b,c,e,m==1⟩::cO r:=by
 unfold cO;have hl:(a::b::c::e::m::r).length/5=r.length/5+1:=by simp;lia
 rw[hl,Bt,a9,b7];congr 1
theorem zC:∀row:List Nat,crossesOf row=if row.length%5=0∧∀j,j<row.length/5→row.getD (5*j+4) 0≤1 then some (cO row)else none
 |[]=>by rw[ag ⟨rfl,fun j hj=>by simp at hj⟩];rfl
 |[_]=>by rw[af (fun z=>by simp at z)];rfl
 |[_,_]=>by rw[af (fun z=>by simp at z)];rfl
 |[_,_,_]=>by rw[af (fun z=>by simp at z)];rfl
 |[_,_,_,_]=>by rw[af (fun z=>by simp at z)];rfl
 |a::b::c::e::m::r=>by
  have ih:=zC r;unfold crossesOf;have hl:(a::b::c::e::m::r).length/5=r.length/5+1:=by simp;lia
  have hm:(a::b::c::e::m::r).length%5=r.length%5:=by simp;lia
  have g:∀j,(a::b::c::e::m::r).getD (5*(j+1)+4) 0=r.getD (5*j+4) 0:=fun j=>by rfl
  by_cases c1:1<m
  ·rw[ag c1,af];rintro⟨_,h⟩;have:=h 0 (by rw[hl];simp);have:m≤1:=this
   lia
  ·rw[af c1,ih];by_cases c2:r.length%5=0∧∀j,j<r.length/5→r.getD (5*j+4) 0≤1
   ·rw[ag c2,ag,QE]
    ·rfl
    ·rw[hm,hl];refine⟨c2.1,fun j hj=>?_⟩;cases j with
     |zero=>show m≤1;simp_all
     |succ j=>rw[g j];exact c2.2 j (by simp_all)
   ·rw[af c2,af]
    ·rfl
    ·rw[hm,hl];grind
theorem wg(row:List Nat):(cO row).length=row.length/5:=by simp[cO]
theorem AX:nv row i n=true↔(row.getD i 0<n∧row.getD (i+1) 0<n∧row.getD (i+2) 0<n∧row.getD (i+3) 0<n)∧row.getD (i+4) 0≤1:=by unfold nv;grind
theorem FE:Dia.sized ⟨cO row,c⟩=true↔row.length/5≤8∧c≤4∧0<row.length/5+c∧∀j,j<row.length/5→row.getD (5*j) 0<2*(row.length/5)∧row.getD (5*j+1) 0<2*(row.length/5)∧row.getD (5*j+2) 0<2*(row.length/5)∧row.getD (5*j+3) 0<2*(row.length/5):=by
 unfold Dia.sized Dia.n Dia.arcs MOST CIRCLES;simp only[wg,dq,dA,oq];constructor
 ·rintro⟨h1,h2,h3,h4⟩;refine⟨h1,h2,h3,fun j hj=>?_⟩;have:=h4 _ (aH.mpr ⟨j,bQ.mpr hj,rfl⟩);unfold Cross.all at this;simp only[a_,cA,cV]at this;exact⟨this _ (.inl rfl),this _ (.inr (.inl rfl)),this _ (.inr (.inr (.inl rfl))),this _ (.inr (.inr (.inr rfl)))⟩
 ·rintro⟨h1,h2,h3,h4⟩;refine⟨h1,h2,h3,fun y hy a ha=>?_⟩;unfold cO at hy;obtain⟨j,hj,rfl⟩:=aH.mp hy;obtain⟨x1,x2,x3,x4⟩:=h4 j (bQ.mp hj);unfold Cross.all at ha;simp only[a_,cA,cV]at ha;rcases ha with rfl|rfl|rfl|rfl<;>assumption
theorem uY:fj c row=true↔(row.length%5=0∧∀j,j<row.length/5→row.getD (5*j+4) 0≤1)∧Dia.sized ⟨cO row,c⟩=true:=by
 rw[FE];unfold fj;simp;constructor
 ·rintro⟨h1,h2,h3,h4,h5⟩;exact⟨⟨h1,fun j hj=>(AX.mp (h5 j hj)).2⟩,h2,h3,h4,fun j hj=>(AX.mp (h5 j hj)).1⟩
 ·rintro⟨⟨h1,h6⟩,h2,h3,h4,h5⟩;exact⟨h1,h2,h3,h4,fun j hj=>AX.mpr ⟨h5 j hj,h6 j hj⟩⟩
def gj(w:aR)(k c:Nat)(row:List Nat):aR×List Int:=if 6≤k then(w,[-1])else(match crossesOf row with
 |none=>(w,[-1])
 |some x=>if Dia.sized ⟨x,c⟩=false then(w,[-1])else match Dia.faulty ⟨x,c⟩with
  |some a=>(w,[-6,(a:Int)])
  |none=>if Dia.drawn ⟨x,c⟩=false then(w,[-8])else(w.set k (some ⟨x,c⟩),[0]))
theorem CA(h:6≤k∨fj c row=false):gj w k c row=(w,[-1]):=by
 unfold gj;by_cases h6:6≤k
 ·rw[ag h6]
 rw[af h6];have h:=h.resolve_left h6;rw[zC];by_cases c1:row.length%5=0∧∀j,j<row.length/5→row.getD (5*j+4) 0≤1
 ·rw[ag c1];have:Dia.sized ⟨cO row,c⟩=false:=by
   cases q:Dia.sized ⟨cO row,c⟩with
   |false=>rfl
   |true=>rw[uY.mpr ⟨c1,q⟩]at h;cases h
  simp only[this,dR]
 ·rw[af c1]
theorem Dt(h6:k<6)(h:fj c row=true):gj w k c row=match Dia.faulty ⟨cO row,c⟩with
  |some a=>(w,[-6,(a:Int)])
  |none=>if Dia.drawn ⟨cO row,c⟩=false then(w,[-8])else(w.set k (some ⟨cO row,c⟩),[0]):=by
 unfold gj;obtain⟨h1,h2⟩:=uY.mp h;rw[af (by simp[*]),zC,ag h1];simp only[h2];rfl
theorem UX(d:Dia):d.faulty=((range d.arcs).filter fun a=>!(d.fine a)).head?:=by unfold Dia.faulty;simp
theorem Jw(h:fj c row=true):(cO row).length≤8∧c≤4∧∀(_:Dia.faulty ⟨cO row,c⟩=none),Good ⟨cO row,c⟩:=by
 obtain⟨h1,h2⟩:=uY.mp h;obtain⟨a1,a2,a3,a4⟩:=FE.mp h2;refine⟨by rw[wg];exact a1,a2,fun q=>⟨fun y hy=>?_,Mn q⟩⟩;have e:Dia.arcs ⟨cO row,c⟩=2*(row.length/5):=by unfold Dia.arcs;simp only[wg]
 rw[e];have hy:y∈cO row:=hy;unfold cO at hy;obtain⟨j,hj,rfl⟩:=aH.mp hy;exact a4 j (bQ.mp hj)
end Km
namespace Kn
open PySem PySem.Spec PyProof.Rows L2
open Kb (Cross Dia)
open Km (gj)
section
variable{K:Fg}(T:Txt K mg CC CD)
abbrev aL:ck (List Nat×Unit):=aO (ah aa) bu
include T
theorem VM:Def P w K mg base 9 "put_drawing" ["places","call"] (gI CC CD aL (fun c wt=>wt.length=6∧4≤c.1.length∧c.1.length≤68) fun c wt=>gj wt (c.1.getD 1 0) (c.1.getD 2 0) (c.1.drop 4)):=by
 refine T.hs.SS.mk ["places","call","place","circles","row","drawing","loose"] (fun nd H1 vs Q E hr h=>?_);refine up1 h fun H a us wt l v1 s1 nA h1 pr q1 hh k=>?_;obtain⟨h6,hl4,hl68⟩:=hh;have q1:(ah aa).rel H v1 l:=q1;have hl4:4≤l.length:=hl4;have hl68:l.length≤68:=hl68;have hlu:=pr.length;have g:∀j,j<l.length→l[j]?=some (l.getD j 0):=fun j hj=>getD_at hj;obtain⟨t1,mA⟩:=T.ib;obtain⟨t2,m6⟩:=T.K4;obtain⟨t3,m8⟩:=T.Sj;obtain⟨t4,mP⟩:=T.vd;have k:∀y G H2 aN,cX a H H1 G H2→H2 a=some (.lst aN)→rP CC CD G aN (gj wt (l.getD 1 0) (l.getD 2 0) (l.drop 4)).1→ay.rel G y (gj wt (l.getD 1 0) (l.getD 2 0) (l.drop 4)).2→Q y H2:=k;have a1:cJ l (1:Int)=some (l.getD 1 0):=bt (j:=1) (g 1 (by lia));have a2:cJ l (2:Int)=some (l.getD 2 0):=bt (j:=2) (g 2 (by exact qW ‹_›));refine br (i:=2) nd (aW (xv 1 q1) ax a1) s1 fun v2 G2 H2 f2 r2=>?_;refine br (i:=3) nd (aW (xv 1 ((ah aa).mono f2.hg q1)) ax a2) f2.g2 fun v3 G3 H3 f3 r3=>?_;have f3:=f2.trans f3;have uw:gT l (some (4:Int)) none=l.drop 4:=qg (i:=4) (by omega);refine br (i:=4) nd (XE.cast (XN.xe (kl (xv 1 ((ah aa).mono f3.hg q1)) (iL ax) lQ)) uw) f3.g2 fun v4 G4 H4 f4 r4=>?_;have f4:=f3.trans f4;generalize hrow:l.drop 4=row at*;have hrl:row.length≤64:=by rw[←hrow,j6];simp[*]
 generalize l.getD 1 0=pl at*;generalize l.getD 2 0=ci at*;cases r2;cases r3;have rp:∀{G:Hp},aa.rel G (.int ((pl:Nat):Int)) pl:=rfl;have rc:∀{G:Hp},aa.rel G (.int ((ci:Nat):Int)) ci:=rfl;refine dI (H:=G4) (R:=ay) (pZ (ki (XE.int (xv 2 rp)) (bN mP)) fun _=>r_ (nh (aK (RT T) hr (c:=(ci,row,())) hrl (aF (xv 3 rc) (az (xv 4 r4)))))) f4.g2 (fun _=>XN.xe (a5 (aV (bN mA) aZ))) (fun q v G H3 f r=>?_) fun q G5 H5 f5=>?_
 ·rw[rD,dA]at q;have e:=Km.CA (w:=wt) (k:=pl) (c:=ci) (row:=row) (q.imp (fun z=>by lia) fun z=>by have z:(!fj ci row)=true:=z;simpa using z);rw[e]at k;exact k v G H3 us ((f4.trans f).p nA h1) ((f4.trans f).h2 _ _ h1) (pr.mono (f4.trans f).hg) r
 rw[uQ,oA]at q;have q1':pl<6:=by have:=q.1;lia
 have n9:fj ci row=true:=by have z:(!fj ci row)=false:=q.2;simpa using z
 obtain⟨o1,o2,o3⟩:=Km.Jw n9;have n1:=(Km.uY.mp n9).1;have ep:=Km.Dt (w:=wt) (k:=pl) (c:=ci) (row:=row) q1' n9;rw[ep]at k;have f5':=f4.trans f5;have lenr:row.length≤60:=by
  have:(cO row).length=row.length/5:=Km.wg row
  lia
 refine br (i:=5) (R:=aA CC CD) (r:=⟨cO row,ci⟩) nd (oW (pL T) T hr (XE.cast (aK (WJ T) hr (c:=(row,())) ⟨lenr,n1⟩ (az (xv 4 ((ah aa).mono f5.hg r4)))) rfl) (xv 3 rc)) f5'.g2 fun v5 G6 H6 f6 r5=>?_;have f6':=f5'.trans f6;have s8:ek ⟨cO row,ci⟩:=o1;refine br (i:=6) nd (aK (K3 T) hr (c:=((⟨cO row,ci⟩:Dia),())) s8 (az (xv 5 r5))) f6'.g2 fun v6 G7 H7 f7 r6'=>?_;have f7':=f6'.trans f7;have r6:(ah aa).rel G7 v6 ((range (Dia.arcs ⟨cO row,ci⟩)).filter fun a=>!(Dia.fine ⟨cO row,ci⟩ a)):=r6';clear r6';have fe:=Km.UX ⟨cO row,ci⟩;obtain⟨ll,nZ⟩:∃ll,ll=((range (Dia.arcs ⟨cO row,ci⟩)).filter fun a=>!(Dia.fine ⟨cO row,ci⟩ a)):=⟨_,rfl⟩;rw[←nZ]at r6 fe;clear nZ;have r5:=(aA CC CD).mono f7.hg r5;generalize(⟨cO row,ci⟩:Dia)=d at*;refine eV (H:=G7) (q:=decide ((0:Int)<(ll.length:Int))) (je (cN T.len (xv 6 r6)) ax) f7'.g2 (fun q G8 H8 f8=>?_) (fun q G8 H8 f8=>bp ?_)
 ·cases ll with
  |nil=>simp at q
  |cons b bs=>have fe:d.faulty=some b:=fe;rw[fe]at k;have jy:=f7'.trans f8;exact a7 (R:=ay) (H:=G8) (XN.xe (a5 (aV (bN m6) (aV (XE.int (aW (xv 6 ((ah aa).mono f8.hg r6)) ax (bt (j:=0) rfl))) aZ)))) jy.g2 fun y G H9 f9 r9=>k y G H9 us ((jy.trans f9).p nA h1) ((jy.trans f9).h2 _ _ h1) (pr.mono (jy.trans f9).hg) r9
 ·have:ll=[]:=by
   cases ll with
   |nil=>rfl
   |cons b bs=>have:=dH q;simp at this
  subst this;have fe:d.faulty=none:=fe;rw[fe]at k;have gd:=o3 fe;have jy:=f7'.trans f8;have r5:=(aA CC CD).mono f8.hg r5;refine dI (H:=G8) (R:=ay) (r_ (nh (aK (Xc T) hr (c:=(d,())) ⟨s8,gd⟩ (az (xv 5 r5))))) jy.g2 (fun _=>XN.xe (a5 (aV (bN m8) aZ))) (fun z v G H3 f r=>?_) fun z G9 H9 f9=>?_
  ·have z:d.drawn=false:=by have z:(!d.drawn)=true:=z;simpa using z
   simp only[z,dR]at k;exact k v G H3 us ((jy.trans f).p nA h1) ((jy.trans f).h2 _ _ h1) (pr.mono (jy.trans f).hg) r
  ·have z:d.drawn=true:=by have z:(!d.drawn)=false:=z;simpa using z
   simp only[z]at k;have f9':=jy.trans f9;refine Bc (i:=0) (H:=G9) rfl (f9'.h2 _ _ h1) (xv 5 ((aA CC CD).mono f9.hg r5)) (xv 2 rp) (by simp[*]) f9'.g2 fun v e_ iQ bP mH=>?_;have f10':=f9'.trans bP;refine a7 (R:=ay) (H:=e_) (XN.xe (a5 (aV ax aZ))) (f10'.xa nA h1 _).g2 fun y fX oa eD r11=>?_;refine k y fX oa _ ((f10'.xa nA h1 _).fwd eD aE) (eD.h2 _ _ aE) ?_ r11;refine rP.mono eD.hg (Jy (pr.mono f10'.hg) pl ?_);obtain⟨p,dx,l,vs,ev,mM⟩:=mH;exact⟨by rw[ev];simp,p,dx,l,vs,ev,mM⟩
end
def yp(w:World)(e:DictEntry)(kv:Key×V):Prop:=kH kv.1 e.key=true∧e.hash=Im w kv.1∧RelV kv.2 e.val
structure jk(w:World)(K:Fg)(a:Addr)(ab:List (Key×V)):Prop where
 ex:∃o es ep,K.lookup a=some o∧o.cls= .type "dict"∧o.dict=none∧o.slots=#[]∧o.data= .dict es ep∧Paired (yp w) es.toList ab
 nd:(ab.map (·.1)).Nodup
 ns:(a==sysModules)=false
theorem Jj:∀{es:List DictEntry}{ab:List (Key×V)},Paired (yp w) es ab→∃vs:List (Key×Value),KV ab vs∧Pairs (dZ P w) es vs∧vs.map (·.1)=ab.map (·.1)∧∀e∈es,∃k,(dZ P w).is k e.key=true∧e.hash=(dZ P w).hash k
 |_,_, .nil=>⟨[], .nil, .nil,rfl,fun e h=>by cases h⟩
 |_,_, .cons (a:=e) (b:=kv) h r=>by
  obtain⟨vs,h1,h2,h3,h4⟩:=Jj (P:=P) r;refine⟨(kv.1,e.val)::vs, .cons ⟨rfl,h.2.2⟩ h1, .cons h.1 rfl h2,by rw[a9,a9,h3],fun x hx=>?_⟩;rcases a_.mp hx with rfl|hx
  ·exact⟨kv.1,h.1,h.2.1⟩
  ·exact h4 x hx
section
variable{X:Cx}{pins:YW}{σ:aS}{H:Hp}{s:Shared}{a:Addr}
theorem jk.at(d:jk X.w X.K a ab)(I:Inv X pins σ H s):∃vs,KV ab vs∧s.heap.DictOf (dZ X.prog X.w) a vs:=by obtain⟨o,es,ep,h1,h2,h3,h4,h5,h6⟩:=d.ex;obtain⟨vs,v1,v2,v3,v4⟩:=Jj h6;exact⟨vs,v1,o,es,ep,I.iy a o h1,⟨h2,h3,h4⟩,h5,fun e he=>v4 e (by simpa using he),v2,by rw[v3];exact d.nd⟩
end
section
variable{X:Cx}{o i e value:Expr}{pos pos':Pos}{td ty tv:TE}
theorem PU(ho:PE X o td)(hi:PE X i ty)(hs:sv i):PE X (.Subscript o i pos) (fun σ H Q=>td σ H fun x H1=>ty σ H1 fun y H2=>∃a ab k v,x= .ref a∧jk X.w X.K a ab∧y=kV k∧bD ab k=some v∧Q v H2):=by intro pins s σ H Q I h;refine D5 Yn.lookup hs (aP (ho pins s σ H _ I h) fun u s1⟨x,H1,I1,rx,q1⟩=>aP (hi pins s1 σ H1 _ I1 q1) fun iv s2 hh=>?_);obtain⟨y,H2,I2,ry,a,ab,k,v,ex,d,ey,l,q2⟩:=hh;subst ex ey;obtain rfl:u=Value.ref a:=rx;obtain⟨vs,rel,dd⟩:=d.at I2;obtain⟨w',hw,bA⟩:=gf.some_of (by rw[←l];exact KV.val rel k);exact⟨dd.typeIs,wpAny_getItem_of (oP ry) dd.mapOf hw ⟨v,H2,I2.tok _,bA,q2⟩⟩
theorem Mp(hi:PE X i ty)(ho:PE X o td):PC X .In i o (fun σ H Q=>ty σ H fun y H1=>td σ H1 fun x H2=>∃a ab k,x= .ref a∧jk X.w X.K a ab∧y=kV k∧Q (.bl (bD ab k).isSome) H2):=by intro pins s σ H Q I h;refine aP (hi pins s σ H _ I h) fun iv s1⟨y,H1,I1,ry,q1⟩=>aP (ho pins s1 σ H1 _ I1 q1) fun u s2 hh=>?_;obtain⟨x,H2,I2,rx,a,ab,k,ex,d,ey,q2⟩:=hh;subst ex ey;obtain rfl:u=Value.ref a:=rx;obtain⟨vs,rel,dd⟩:=d.at I2;refine wpAny_in_of (oP ry) d.ns dd.mapOf ?_;rw[←(KV.val rel k).Je];exact⟨.bl (bD ab k).isSome,H2,I2.tok _,rfl,q2⟩
theorem Vy{k i:Nat}(F:gU X.prog X.w X.K X.mg X.base g_ k f fd ps sp)(hr:bM k X.A)(hk:W.keepIn X.K (.ref f)=true)(hb:Binds X.K fd ps [])(ha:PA X (e::es) t)(hN:X.N[i]?=some x)(hv:dJ X.env.scope x)(bG:(x==("__debug__":Str))=false:=by decide)(bH:(x==("__classdict__":Str))=false:=by decide)(he:SE X e es:=by rfl)(bo:NS X pos es:=by rfl):
  PE X (.Call (.Name x p) (e::es) [] pos) (fun σ H Q=>σ[i]?=some (some (.ref f))∧t σ H fun vs H1=>sp vs H1 Q E0):=by
 intro pins s σ H Q I ⟨hs,h⟩;refine xO (aP (iF hN hv bG bH pins s σ H (fun v H'=>v= .ref f∧H'=H) I ⟨.ref f,hs,rfl,rfl⟩) fun u s1 hh=>?_);obtain⟨v,H',I',r,ev,eH⟩:=hh;subst ev eH;obtain rfl:u=Value.ref f:=r;refine JP I'.ok.mod.iO hk (aP (ha pos pins s1 σ H' _ I' h) fun us s2⟨vs,H1,I1,r,q⟩=>⟨I1.iy,?_⟩) he bo;exact IF F hr hb .nil xn I1 r (by rw[pS];exact q)
end
section
variable{α β γ δ:Type}{X:Cx}{σ σ0:aS}{H H1 H2 G:Hp}{e ie b o:Expr}{es:List Expr}{R:Rp α}{S:Rp β}{r:α}{pos p:Pos}{D:Ends}{rest:List Stmt}{x x':Str}{i i':Nat}{CC CD a:Addr}{A:ck γ}{c:γ}{us:List V}{wt:aR}{k m:Nat}{ps:List Str}
theorem Ao(hm:X.mg x=some (.ref a))(d:jk X.w X.K a ab)(he:XE X σ H e aa z)(hv:bD ab (Sum.inl (z:Int))=some v)(hr:∀G,R.rel G v r)(hg:Gl X x:=by rfl)(bG:(x==("__debug__":Str))=false:=by decide)(hs:sv e:=by exact(fun _ _=>rfl)):XE X σ H (.Subscript (.Name x p) e pos) R r:=fun H1 s Q q=>
 PE.we (PU (Al (v:= .ref a) hg hm rfl bG) aJ hs) (he H1 s _ fun w G H2 fw bA=>by cases bA;exact⟨a,ab,Sum.inl z,v,rfl,d,rfl,hv,q v G H2 fw (hr G)⟩)
theorem QR(hm:X.mg x=some (.ref a))(d:jk X.w X.K a ab)(he:XE X σ H e aa z)(hg:Gl X x:=by rfl)(bG:(x==("__debug__":Str))=false:=by decide):XT X σ H (.Compare e [.In] [.Name x p] pos) (bD ab (Sum.inl (z:Int))).isSome:=fun H1 s Q q=>
 PT.wt (DZ (Mp aJ (Al (v:= .ref a) hg hm rfl bG)) rfl) (he H1 s _ fun w G H2 fw bA=>by cases bA;exact⟨a,ab,Sum.inl z,rfl,d,rfl,_,rfl,q G H2 fw⟩)
theorem Ja(D:Cx.Def X k x' ps sp)(hm:X.mg x'=some (.ref f))(hs:σ[i]?=some (some (.ref f)))(hr:bM m X.A)(ha:XA X σ H (e::es) A c)(s:aj H H1)(q:∀vs G H2,au H H1 G H2→A.rel G vs c→sp vs H2 Q E0)(hk:k≤m:=by decide)(hN:X.N[i]?=some x:=by rfl)(hv:dJ X.env.scope x:=by first|exact Or.inl rfl|exact Or.inr (Or.inl rfl)|exact Or.inr (Or.inr rfl))(bG:(x==("__debug__":Str))=false:=by decide)(bH:(x==("__classdict__":Str))=false:=by decide)(he:SE X e es:=by rfl)(bo:NS X pos es:=by rfl):WE X (.Call (.Name x p) (e::es) [] pos) σ H1 Q:=by obtain⟨fa,fd,F,hm',kp,hb⟩:=D;rw[hm]at hm';cases hm';exact PE.we (Vy F (hr.mono hk) kp hb fH hN hv bG bH he bo) ⟨hs,ha H1 s _ fun vs G H2 fw rv=>q vs G H2 fw rv⟩
theorem Nz(D':Cx.Def X k x' ps (Fn A ay P g))(hm:X.mg x'=some (.ref f))(hs:σ[i]?=some (some (.ref f)))(hr:bM m X.A)(hp:P c)(ha:XA X σ H (e::es) A c)(s:aj H H1)(q:∀y G H2,au H H1 G H2→ay.rel G y (g c)→D.rt y H2)(hk:k≤m:=by decide)(hN:X.N[i]?=some x:=by rfl)(hv:dJ X.env.scope x:=by first|exact Or.inl rfl|exact Or.inr (Or.inl rfl)|exact Or.inr (Or.inr rfl))(bG:(x==("__debug__":Str))=false:=by decide)(bH:(x==("__classdict__":Str))=false:=by decide)(he:SE X e es:=by rfl)(bo:NS X pos es:=by rfl):WB X (.Return (some (.Call (.Name x p) (e::es) [] pos)) p2::rest) D σ H1:=
 cW (PS.ws (pG aJ) (Ja D' hm hs hr ha s (fun vs G H2 fw rv=>⟨G,c,fw.g2,rv,hp,fun y G' H3 cP ry=>q y G' H3 (fw.trans cP) ry⟩) hk hN hv bG bH he bo))
theorem Lo(D':Cx.Def X k x' ps (gI CC CD A P g))(hm:X.mg x'=some (.ref f))(hs:σ[i]?=some (some (.ref f)))(hr:bM m X.A)(s:aj H H1)(na:H a=Option.none)(h1:H1 a=some (.lst us))(pr:rP CC CD H us wt)(hp:P c wt)(ha:XA X σ H (e::es) (aO (eA (.ref a)) A) ((),c))(q:∀y G H2 aN,cX a H H1 G H2→H2 a=some (.lst aN)→rP CC CD G aN (g c wt).1→ay.rel G y (g c wt).2→D.rt y H2)(hk:k≤m:=by decide)(hN:X.N[i]?=some x:=by rfl)(hv:dJ X.env.scope x:=by first|exact Or.inl rfl|exact Or.inr (Or.inl rfl)|exact Or.inr (Or.inr rfl))(bG:(x==("__debug__":Str))=false:=by decide)(bH:(x==("__classdict__":Str))=false:=by decide)(he:SE X e es:=by rfl)(bo:NS X pos es:=by rfl):WB X (.Return (some (.Call (.Name x p) (e::es) [] pos)) p2::rest) D σ H1:=
 cW (PS.ws (pG aJ) (Ja D' hm hs hr ha s (fun vs G H2 fw hh=>by obtain⟨v,rs,ev,rv,rr⟩:=hh;cases rv;exact⟨G,a,us,wt,rs,c,ev,fw.g2,fw.sep _ _ na h1,fw.h2 _ _ h1,pr.mono fw.hg,rr,hp,fun y G' H3 aN fp h3 jx ry=>q y G' H3 aN ((fw.p na h1).trans fp) h3 jx ry⟩) hk hN hv bG bH he bo))
end
def kC(q:Nat):Nat×(Dia→List Nat→List Int):=
 if q=2 then(0,nO)else if q=3 then(1,i8)else if q=4 then(1,kQ)else if q=5 then(2,lZ)else if q=6 then(0,xw)else if q=7 then(1,ve)else if q=8 then(0,vm Dia.bracket)else if q=9 then(0,vm Dia.jones)else if q=10 then(0,qu)else(1,me)
def iI(q:Nat):Nat×(aR→Nat→Dia→List Nat→aR×List Int):=
 if q=12 then(0,u0)else if q=13 then(0,xc)else if q=14 then(1,i7)else if q=15 then(1,jr)else if q=16 then(1,ia)else if q=17 then(2,h_)else if q=18 then(0,vv)else if q=19 then(1,jI)else(3,jq)
def oh(w:aR)(l:List Nat):aR×List Int:=match KnotBook.at_ w (l.getD 1 0)with
 |none=>(w,[-1])
 |some d=>(w,(kC (l.getD 0 0)).2 d (l.drop 2))
def km(w:aR)(l:List Nat):aR×List Int:=match KnotBook.at_ w (l.getD 2 0)with
 |none=>(w,[-1])
 |some d=>if 6≤l.getD 1 0 then(w,[-1])else(iI (l.getD 0 0)).2 w (l.getD 1 0) d (l.drop 3)
def kr(w:aR)(l:List Nat):aR×List Int:=match KnotBook.at_ w (l.getD 1 0),KnotBook.at_ w (l.getD 2 0)with
 |some d,some e=>(w,[if Kb.same d e=true then 1 else 0])
 |_,_=>(w,[-1])
def aCall(w:aR)(l:List Nat):aR×List Int:=if l.getD 0 0=1 then gj w (l.getD 1 0) (l.getD 2 0) (l.drop 4)else if l.getD 0 0=21 then kr w l else if 12≤l.getD 0 0∧l.getD 0 0≤20 then km w l else oh w l
def wC(P:Program)(w:World)(K:Fg)(mg:Mg)(base:Heap)(CC CD:Addr):Prop:=∃a ab,mg "TELLERS"=some (.ref a)∧jk w K a ab∧∀q:Nat,2≤q→q≤11→∃x f,mg x=some (.ref f)∧bD ab (Sum.inl (q:Int))=some (.ref f)∧jM P w K mg base CC CD x (kC q).1 (kC q).2
def vD(P:Program)(w:World)(K:Fg)(mg:Mg)(base:Heap)(CC CD:Addr):Prop:=∃a ab,mg "MAKERS"=some (.ref a)∧jk w K a ab∧(∀q:Nat,(bD ab (Sum.inl (q:Int))).isSome=decide (12≤q∧q≤20))∧∀q:Nat,12≤q→q≤20→∃x f,mg x=some (.ref f)∧bD ab (Sum.inl (q:Int))=some (.ref f)∧kX P w K mg base CC CD x (iI q).1 (iI q).2
def D1(l:List Nat)(w:aR):Prop:=w.length=6∧dM w∧2≤l.getD 0 0∧l.getD 0 0≤11∧l.length=2+(kC (l.getD 0 0)).1
def EN(l:List Nat)(w:aR):Prop:=w.length=6∧dM w∧12≤l.getD 0 0∧l.getD 0 0≤20∧l.length=3+(iI (l.getD 0 0)).1
def Cd(l:List Nat)(w:aR):Prop:=w.length=6∧dM w∧l.length=3
def wm(l:List Nat)(w:aR):Prop:=w.length=6∧dM w∧((l.getD 0 0=1∧4≤l.length∧l.length≤68)∨(l.getD 0 0=21∧l.length=3)∨(12≤l.getD 0 0∧l.getD 0 0≤20∧l.length=3+(iI (l.getD 0 0)).1)∨(2≤l.getD 0 0∧l.getD 0 0≤11∧l.length=2+(kC (l.getD 0 0)).1))
section
variable{K:Fg}(T:Txt K mg CC CD)
include T
theorem QU(tl:wC P w K mg base CC CD):Def P w K mg base 9 "answer_teller" ["places","call"] (gI CC CD aL (fun c wt=>D1 c.1 wt) fun c wt=>oh wt c.1):=by
 refine T.hs.LC.mk ["places","call","drawing","teller"] (@fun f bI A outer s nd H1 vs Q E hr h=>?_);refine up1 h fun H a us wt l v1 s1 nA h1 pr q1 hp k=>?_;obtain⟨h6,hS,ha,hb,hl⟩:=(show D1 l wt from hp);have q1:(ah aa).rel H v1 l:=q1;have g:∀j,j<l.length→l[j]?=some (l.getD j 0):=fun j hj=>getD_at hj;obtain⟨t1,mA⟩:=T.ib;obtain⟨ta,ab,mT,kd,tel⟩:=tl;have k:∀y G H2 aN,cX a H H1 G H2→H2 a=some (.lst aN)→rP CC CD G aN (oh wt l).1→ay.rel G y (oh wt l).2→Q y H2:=k;have rv:∀{G:Hp},(eA (.ref a)).rel G (.ref a) ():=rfl;have a0:cJ l 0=some (l.getD 0 0):=bt (g 0 (by lia));have a1:cJ l 1=some (l.getD 1 0):=bt (g 1 (by lia));refine qo (j:=2) (qC T) hr nd s1 nA h1 pr h6 (aF (xv 0 rv) (az (aW (xv 1 q1) ax a1))) fun v2 G2 H2 f2 r2=>?_;have e0:oh wt l=match KnotBook.at_ wt (l.getD 1 0)with|none=>(wt,[-1])|some d=>(wt,(kC (l.getD 0 0)).2 d (l.drop 2)):=rfl
 generalize hx:KnotBook.at_ wt (l.getD 1 0)=x at r2 e0;refine dI (pC (xv 2 r2)) f2.g2 (fun _=>XN.xe (a5 (aV (bN mA) aZ))) (fun q v G H3 f r=>?_) fun q G3 H3 f3=>?_
 ·cases x with
  |some e=>cases q
  |none=>rw[e0]at k;exact k v G H3 us ((f2.trans f).p nA h1) ((f2.trans f).h2 _ _ h1) (pr.mono (f2.trans f).hg) r
 cases x with
 |none=>cases q
 |some d=>have okd:=ko hS hx;rw[e0]at k;have dm:=f2.trans f3;have q1:=(ah aa).mono dm.hg q1;have r2:=(aA CC CD).mono f3.hg r2.2;obtain⟨x',fa,mx,vx,Df⟩:=tel (l.getD 0 0) ha hb;refine br (i:=3) (R:=eA (.ref fa)) (r:=()) nd (Ao mT kd (aW (xv 1 q1) ax a0) vx (fun _=>rfl)) dm.g2 fun v3 G4 H4 f4 r3=>?_;cases r3;have cC:=dm.trans f4;have uw:gT l (some 2) none=l.drop 2:=qg (i:=2) (by simp[*]);refine Nz (i:=3) Df mx rfl hr ⟨okd,by rw[j6];simp[*]⟩ (aF (xv 2 ((aA CC CD).mono f4.hg r2)) (az (XE.cast (XN.xe (kl (xv 1 ((ah aa).mono f4.hg q1)) (iL ax) lQ)) uw))) cC.g2 fun y G H5 f5 r5=>k y G H5 us ((cC.trans f5).p nA h1) ((cC.trans f5).h2 _ _ h1) (pr.mono (cC.trans f5).hg) r5
theorem XQ(tl:vD P w K mg base CC CD):Def P w K mg base 9 "answer_maker" ["places","call"] (gI CC CD aL (fun c wt=>EN c.1 wt) fun c wt=>km wt c.1):=by
 refine T.hs.X_.mk ["places","call","drawing","maker"] (@fun f bI A outer s nd H1 vs Q E hr h=>?_);refine up1 h fun H a us wt l v1 s1 nA h1 pr q1 hp k=>?_;obtain⟨h6,hS,ha,hb,hl⟩:=(show EN l wt from hp);have q1:(ah aa).rel H v1 l:=q1;have g:∀j,j<l.length→l[j]?=some (l.getD j 0):=fun j hj=>getD_at hj;obtain⟨t1,mA⟩:=T.ib;obtain⟨t4,mP⟩:=T.vd;obtain⟨ta,ab,mT,kd,_,tel⟩:=tl;have k:∀y G H2 aN,cX a H H1 G H2→H2 a=some (.lst aN)→rP CC CD G aN (km wt l).1→ay.rel G y (km wt l).2→Q y H2:=k;have rv:∀{G:Hp},(eA (.ref a)).rel G (.ref a) ():=rfl;have a0:cJ l 0=some (l.getD 0 0):=bt (g 0 (by lia));have a1:cJ l 1=some (l.getD 1 0):=bt (g 1 (by lia));have a2:cJ l 2=some (l.getD 2 0):=bt (g 2 (by lia));refine qo (j:=2) (qC T) hr nd s1 nA h1 pr h6 (aF (xv 0 rv) (az (aW (xv 1 q1) ax a2))) fun v2 G2 H2 f2 r2=>?_;have e0:km wt l=match KnotBook.at_ wt (l.getD 2 0)with|none=>(wt,[-1])|some d=>if 6≤l.getD 1 0 then(wt,[-1])else(iI (l.getD 0 0)).2 wt (l.getD 1 0) d (l.drop 3):=rfl
 generalize hx:KnotBook.at_ wt (l.getD 2 0)=x at r2 e0;have q1:=(ah aa).mono f2.hg q1;refine dI (H:=G2) (pZ (ki (XE.int (aW (xv 1 q1) ax a1)) (bN mP)) fun _=>pC (xv 2 r2)) f2.g2 (fun _=>XN.xe (a5 (aV (bN mA) aZ))) (fun q v G H3 f r=>?_) fun q G3 H3 f3=>?_
 ·rw[rD,dA]at q;have e1:km wt l=(wt,[-1]):=by
   rw[e0];cases x with
   |none=>rfl
   |some d=>
    rcases q with q|q
    ·simp only;rw[ag (by lia)]
    ·cases q
  rw[e1]at k;exact k v G H3 us ((f2.trans f).p nA h1) ((f2.trans f).h2 _ _ h1) (pr.mono (f2.trans f).hg) r
 rw[uQ,oA]at q;cases x with
 |none=>cases q.2
 |some d=>
  have okd:=ko hS hx;have hn6:¬6≤l.getD 1 0:=by have:=q.1;lia
  have e0:km wt l=(iI (l.getD 0 0)).2 wt (l.getD 1 0) d (l.drop 3):=by rw[e0];simp only;rw[af hn6]
  rw[e0]at k;have dm:=f2.trans f3;have q1:=(ah aa).mono f3.hg q1;have r2:=(aA CC CD).mono f3.hg r2.2;obtain⟨x',fa,mx,vx,Df⟩:=tel (l.getD 0 0) ha hb;refine br (i:=3) (R:=eA (.ref fa)) (r:=()) nd (Ao mT kd (aW (xv 1 q1) ax a0) vx (fun _=>rfl)) dm.g2 fun v3 G4 H4 f4 r3=>?_;cases r3;have cC:=dm.trans f4;have q1:=(ah aa).mono f4.hg q1;have uw:gT l (some 3) none=l.drop 3:=qg (i:=3) (by simp[*]);refine Lo (i:=3) Df mx rfl hr cC.g2 (cC.sep _ _ nA h1) (cC.h2 _ _ h1) (pr.mono cC.hg) ⟨⟨by lia,h6,hS⟩,okd,by rw[j6];simp[*]⟩ (aF (xv 0 rv) (aF (aW (xv 1 q1) ax a1) (aF (xv 2 ((aA CC CD).mono f4.hg r2)) (az (XE.cast (XN.xe (kl (xv 1 q1) (iL ax) lQ)) uw))))) fun y G H5 aN fp=>k y G H5 aN ((cC.p nA h1).trans fp)
theorem Nq:Def P w K mg base 9 "answer_same" ["places","call"] (gI CC CD aL (fun c wt=>Cd c.1 wt) fun c wt=>kr wt c.1):=by
 refine T.hs.OM.mk ["places","call","one","other"] (fun nd H1 vs Q E hr h=>?_);refine up1 h fun H a us wt l v1 s1 nA h1 pr q1 hp k=>?_;obtain⟨h6,hS,hl⟩:=(show Cd l wt from hp);have q1:(ah aa).rel H v1 l:=q1;have g:∀j,j<l.length→l[j]?=some (l.getD j 0):=fun j hj=>getD_at hj;obtain⟨t1,mA⟩:=T.ib;have k:∀y G H2 aN,cX a H H1 G H2→H2 a=some (.lst aN)→rP CC CD G aN (kr wt l).1→ay.rel G y (kr wt l).2→Q y H2:=k;have rv:∀{G:Hp},(eA (.ref a)).rel G (.ref a) ():=rfl;have a1:cJ l 1=some (l.getD 1 0):=bt (g 1 (by simp[*]));have a2:cJ l 2=some (l.getD 2 0):=bt (g 2 (by simp[*]));refine qo (j:=2) (qC T) hr nd s1 nA h1 pr h6 (aF (xv 0 rv) (az (aW (xv 1 q1) ax a1))) fun v2 G2 H2 f2 r2=>?_;refine qo (j:=3) (qC T) hr nd f2.g2 (f2.sep _ _ nA h1) (f2.h2 _ _ h1) (pr.mono f2.hg) h6 (aF (xv 0 rv) (az (aW (xv 1 ((ah aa).mono f2.hg q1)) ax a2))) fun v3 G3 H3 f3 r3=>?_;have dm:=f2.trans f3;have r2:=(lK (aA CC CD)).mono f3.hg r2;have e0:kr wt l=match KnotBook.at_ wt (l.getD 1 0),KnotBook.at_ wt (l.getD 2 0)with|some d,some e=>(wt,[if Kb.same d e=true then 1 else 0])|_,_=>(wt,[-1]):=rfl
 generalize hx:KnotBook.at_ wt (l.getD 1 0)=x at r2 e0;generalize hy:KnotBook.at_ wt (l.getD 2 0)=y at r3 e0;refine dI (pZ (pC (xv 2 r2)) fun _=>pC (xv 3 r3)) dm.g2 (fun _=>XN.xe (a5 (aV (bN mA) aZ))) (fun q v G H4 f r=>?_) fun q G4 H4 f4=>?_
 ·have e1:kr wt l=(wt,[-1]):=by
   rw[e0];cases x with
   |none=>rfl
   |some d=>
    cases y with
    |none=>rfl
    |some e=>cases q
  rw[e1]at k;exact k v G H4 us ((dm.trans f).p nA h1) ((dm.trans f).h2 _ _ h1) (pr.mono (dm.trans f).hg) r
 cases x with
 |none=>cases q
 |some d=>
  cases y with
  |none=>cases q
  |some e=>have o1:=ko hS hx;have o2:=ko hS hy;rw[e0]at k;have cC:=dm.trans f4;refine a7 (XN.xe (a5 (aV (jh (nh (XE.cast (aK (Wa T) hr (c:=(d,e,())) ⟨⟨o1.g,o1.n⟩,o2.g,o2.n⟩ (aF (xv 2 ((aA CC CD).mono f4.hg r2.2)) (az (xv 3 ((aA CC CD).mono f4.hg r3.2))))) (Km.TJ o1.g o2.g))) (fun z=>by rw[ag z];exact ax) (fun z=>by rw[af (by rw[z];decide)];exact ax)) aZ))) cC.g2 fun y G H5 f5 r5=>k y G H5 us ((cC.trans f5).p nA h1) ((cC.trans f5).h2 _ _ h1) (pr.mono (cC.trans f5).hg) r5
theorem VW(tl:wC P w K mg base CC CD)(ml:vD P w K mg base CC CD):Def P w K mg base 10 "answer_call" ["places","call"] (gI CC CD aL (fun c wt=>wm c.1 wt) fun c wt=>aCall wt c.1):=by
 have mk:=ml;refine T.hs.M4.mk ["places","call"] (fun nd H1 vs Q E hr h=>?_);refine up1 h fun H a us wt l v1 s1 nA h1 pr q1 hp k=>?_;obtain⟨h6,hS,hc⟩:=(show wm l wt from hp);have q1:(ah aa).rel H v1 l:=q1;have g:∀j,j<l.length→l[j]?=some (l.getD j 0):=fun j hj=>getD_at hj;obtain⟨t1,mU⟩:=T.Ds;obtain⟨t2,mS⟩:=T.Qu;obtain⟨ta,ab,mT,kd,ks,_⟩:=mk;have k:∀y G H2 aN,cX a H H1 G H2→H2 a=some (.lst aN)→rP CC CD G aN (aCall wt l).1→ay.rel G y (aCall wt l).2→Q y H2:=k;have rv:∀{G:Hp},(eA (.ref a)).rel G (.ref a) ():=rfl;have l0:0<l.length:=by lia
 have a0:cJ l 0=some (l.getD 0 0):=bt (g 0 l0);refine eV (dB (XE.int (aW (xv 1 q1) ax a0)) (bN mU)) s1 (fun q G2 H2 f2=>?_) (fun q G2 H2 f2=>bp ?_)
 ·have q:l.getD 0 0=1:=by have:=gB q;lia
  have e:aCall wt l=gj wt (l.getD 1 0) (l.getD 2 0) (l.drop 4):=by unfold aCall;rw[ag q]
  rw[e]at k;exact iJ (VM T) hr f2.g2 (f2.sep _ _ nA h1) (f2.h2 _ _ h1) (pr.mono f2.hg) ⟨h6,by show 4≤l.length;grind,by show l.length≤68;grind⟩ (aF (xv 0 rv) (az (xv 1 ((ah aa).mono f2.hg q1)))) fun y G H3 aN fp=>k y G H3 aN ((f2.p nA h1).trans fp)
 have n1:¬l.getD 0 0=1:=by have:=dH q;lia
 have q1:=(ah aa).mono f2.hg q1;refine eV (dB (XE.int (aW (xv 1 q1) ax a0)) (bN mS)) f2.g2 (fun q G3 H3 f3=>?_) (fun q G3 H3 f3=>bp ?_)
 ·have q:l.getD 0 0=21:=by have:=gB q;lia
  have e:aCall wt l=kr wt l:=by unfold aCall;rw[af n1,ag q]
  rw[e]at k;have dm:=f2.trans f3;exact iJ (Nq T) hr dm.g2 (dm.sep _ _ nA h1) (dm.h2 _ _ h1) (pr.mono dm.hg) ⟨h6,hS,by show l.length=3;lia⟩ (aF (xv 0 rv) (az (xv 1 ((ah aa).mono f3.hg q1)))) fun y G H4 aN fp=>k y G H4 aN ((dm.p nA h1).trans fp)
 have n21:¬l.getD 0 0=21:=by have:=dH q;lia
 have dm:=f2.trans f3;have q1:=(ah aa).mono f3.hg q1;refine eV (QR mT kd (aW (xv 1 q1) ax a0)) dm.g2 (fun q G4 H4 f4=>?_) (fun q G4 H4 f4=>bp ?_)
 ·rw[ks,dA]at q;have e:aCall wt l=km wt l:=by unfold aCall;rw[af n1,af n21,ag q]
  rw[e]at k;have cC:=dm.trans f4;exact iJ (XQ T ml) hr cC.g2 (cC.sep _ _ nA h1) (cC.h2 _ _ h1) (pr.mono cC.hg) ⟨h6,hS,q.1,q.2,by show l.length=3+(iI (l.getD 0 0)).1;lia⟩ (aF (xv 0 rv) (az (xv 1 ((ah aa).mono f4.hg q1)))) fun y G H5 aN fp=>k y G H5 aN ((cC.p nA h1).trans fp)
 ·rw[ks,oA]at q;have e:aCall wt l=oh wt l:=by unfold aCall;rw[af n1,af n21,af q]
  rw[e]at k;have cC:=dm.trans f4;exact iJ (QU T tl) hr cC.g2 (cC.sep _ _ nA h1) (cC.h2 _ _ h1) (pr.mono cC.hg) ⟨h6,hS,by show 2≤l.getD 0 0;grind,by show l.getD 0 0≤11;grind,by show l.length=2+(kC (l.getD 0 0)).1;grind⟩ (aF (xv 0 rv) (az (xv 1 ((ah aa).mono f4.hg q1)))) fun y G H5 aN fp=>k y G H5 aN ((cC.p nA h1).trans fp)
end
def rS(K:Fg):Rp (List Nat):=⟨fun H v xs=>∃a,v= .ref a∧aU K H a (xs.map fun n:Nat=>V.int (n:Int)),fun{H H' v xs} s⟨a,e,h⟩=>⟨a,e,by
 rcases h with(h|⟨o,h⟩)|h
 ·exact .inl (.inl (s _ _ h))
 ·exact .inl (.inr ⟨o,s _ _ h⟩)
 ·exact .inr h⟩⟩
section
variable{α β γ δ:Type}{X:Cx}{σ σ0:aS}{H H1 H2 G:Hp}{e ie a b o:Expr}{es:List Expr}{R:Rp α}{S:Rp β}{r:α}{pos p:Pos}{D:Ends}{rest:List Stmt}{x x':Str}{i i':Nat}{CC CD:Addr}{A:ck γ}{c:γ}
theorem yO{K:Fg}(s:aj H H1)(h:aU K H l xs):aU K H1 l xs:=by
 rcases h with(h|⟨o,h⟩)|h
 ·exact .inl (.inl (s _ _ h))
 ·exact .inl (.inr ⟨o,s _ _ h⟩)
 ·exact .inr h
theorem Mx(hm:X.mg "len"=none)(h:XE X σ H e (rS X.K) xs)(hg:Gl X "len":=by rfl)(hs:SE X e []:=by rfl):XE X σ H (.Call (.Name "len" p) [e] [] pos) aq (xs.length:Int):=
 nN Eg hm J9 (az h hs) (fun vs G H2 Q hh s k=>by obtain⟨v,r,e1,h1,h2⟩:=hh;obtain⟨a,rfl,ha⟩:=h1;cases h2;subst e1;exact⟨a,_,rfl, .inl (yO s ha),k _ (by rw[bj];rfl)⟩) hg (by decide) (by decide) hs rfl
theorem zK{o i:Expr}(ho:XE X σ H o (rS X.K) xs)(hi:XE X σ H i aa j)(hx:xs[j]?=some n)(hp:tO i:=by exact(fun _ _=>rfl)):XE X σ H (.Subscript o i pos) aa n:=fun H1 s Q k=>
 PE.we (sP zX aJ aJ hp) (x2 ho hi s fun v w G H2 f⟨a,ev,ha⟩ rz=>by subst ev;cases rz;exact⟨a,_,j, .int n,rfl,rfl,yO f.g2 ha,bt (by rw[cz,hx];rfl),k _ G H2 f rfl⟩)
theorem Q5{lo hi:Option Expr}{i j:Nat}(h:XE X σ H e (rS X.K) xs)(hl:XO X σ H lo (some (i:Int)))(hh:XO X σ H hi (some (j:Int)))(iS:i≤j)(hj:j≤xs.length):XN X σ H (.Subscript e (.Slice lo hi none p2) pos) aa ((xs.drop i).take (j-i)):=fun H1 s Q k=>
 PE.we (Gd FC aJ xE xE) (h H1 s _ fun v G H2 f⟨a,ev,ha⟩=>(hl.mono f.hg) H2 f.g2 _ fun G' H3 f'=>(hh.mono (f.hg.trans f'.hg)) H3 f'.g2 _ fun jV H4 lr=>by
  subst ev;have ff:=(f.trans f').trans lr;refine⟨a,_,rfl,yO (f.g2.trans (f'.h2.trans lr.h2)) ha,fun l cb=>k l _ jV _ (ff.new cb _) (ff.bX cb) (ff.fI cb) aE ?_⟩;have e:oO (xs.map fun n:Nat=>V.int n) (some i) (some j)=((xs.drop i).take (j-i)).map fun n:Nat=>V.int n:=by have:=F3 (xs:=xs.map fun n:Nat=>V.int (n:Int)) iS (by rw[bj];exact hj);unfold gT at this;unfold oO;simp_all
  rw[e];generalize(xs.drop i).take (j-i)=ys;induction ys with
  |nil=>exact .nil
  |cons y ys ih=>exact .cons rfl ih)
theorem Ql:XE X σ H (.Constant .none j pos) (lK R) none:=XE.of HW fun H1 s Q k=>k _ H H1 (au.cf s) rfl
theorem RR(ha:XN X σ H a R [z])(hb:XE X σ H b aa n)(hn:n≤1000):XN X σ H (.BinOp a .Mult b pos) R (replicate n z):=fun H1 s Q q=>
 PE.we (tj CK aJ aJ) (x2 ha.xe hb s fun v w G H2 f hh e2=>by
  obtain⟨l,us,e1,h1,p1⟩:=hh;cases e2;cases p1 with
  | @cons u _ _ _ h t=>
   cases t;have e3:(replicate ((n:Int).toNat) [u]).flatten=replicate n u:=by simp_all
   refine⟨l,n,_,e1,rfl,f.g2 _ _ h1,by simp,by lia,by rw[cF];simp;exact cx hn (by decide),fun p hp=>?_⟩;rw[e3];refine q p _ G _ (f.new hp _) (f.bX hp) (f.fI hp) aE ?_;clear e3 hn hb q;induction n with
   |zero=>exact .nil
   |succ n ih=>exact .cons h ih)
end
def kY(q:Nat):Nat:=if q=1 then 2 else if q=2∨q=6∨q=8∨q=9∨q=10 then 1 else if q=5∨q=14∨q=15∨q=16∨q=19 then 3 else if q=17 then 4 else if q=20 then 5 else 2
def Behind(w:World)(K:Fg)(mg:Mg):Prop:=∃a ab,mg "NUMBERS_BEHIND"=some (.ref a)∧jk w K a ab∧∀q:Nat,1≤q→q≤21→bD ab (Sum.inl (q:Int))=some (.int ((kY q:Nat):Int))
def endAt(ns:List Nat)(i:Nat):Nat:=let e:=i+1+kY (ns.getD i 0)
 if ns.getD i 0=1 then e+1+ns.getD e 0 else e
section
variable{K:Fg}(T:Txt K mg CC CD)
include T
theorem Rx(bh:Behind w K mg):Def P w K mg base 1 "call_end" ["calls","at"] (Fn (aO (rS K) (aO aa bu)) aa (fun c=>c.2.1<c.1.length∧1≤c.1.getD c.2.1 0∧c.1.getD c.2.1 0≤21∧(c.1.getD c.2.1 0=1→c.2.1+3<c.1.length)) fun c=>endAt c.1 c.2.1):=by
 refine T.hs.Tt.mk ["calls","at","end"] (fun nd H1 vs Q E hr h=>?_);refine JS h fun H ns i v0 v1 s1 h0 h1 hh k=>?_;obtain⟨hi,hq1,hq2,h3⟩:=hh;have h0:(rS K).rel H v0 ns:=h0;have h1:aa.rel H v1 i:=h1;have hi:i<ns.length:=hi;have hq1:1≤ns.getD i 0:=hq1;have hq2:ns.getD i 0≤21:=hq2;have h3:ns.getD i 0=1→i+3<ns.length:=h3;obtain⟨ta,ab,mT,kd,vals⟩:=bh;obtain⟨tp,mP⟩:=T.Ds;have k:∀y G H2,au H H1 G H2→aa.rel G y (endAt ns i)→Q y H2:=k;have a0:ns[i]?=some (ns.getD i 0):=getD_at hi;refine br (i:=2) (r:=i+1+kY (ns.getD i 0)) nd (XE.nat (cj (cj (XE.int (xv 1 h1)) ax) (XE.int (Ao mT kd (zK (xv 0 h0) (xv 1 h1) a0) (vals _ hq1 hq2) (fun _=>rfl)))) (by rfl)) s1 fun v2 G2 H2 f2 r2=>?_;have h0:=(rS K).mono f2.hg h0;have h1:=aa.mono f2.hg h1;refine a7 (jh (dB (XE.int (zK (xv 0 h0) (xv 1 h1) a0)) (bN mP)) (fun q=>?_) (fun q=>?_)) f2.g2 fun y G H3 f3 r3=>k y G H3 (f2.trans f3) r3
 ·have q:ns.getD i 0=1:=by have:=gB q;lia
  have hb:i+1+kY (ns.getD i 0)=i+3:=by rw[q];rfl
  have e:endAt ns i=i+1+kY (ns.getD i 0)+1+ns.getD (i+1+kY (ns.getD i 0)) 0:=by unfold endAt;simp only;rw[ag q]
  rw[e];exact XE.nat (cj (cj (XE.int (xv 2 r2)) ax) (XE.int (zK (xv 0 h0) (xv 2 r2) (getD_at (by rw[hb];exact h3 q))))) (by rfl)
 ·have q:¬ns.getD i 0=1:=by have:=dH q;lia
  have e:endAt ns i=i+1+kY (ns.getD i 0):=by unfold endAt;simp only;rw[af q]
  rw[e];exact xv 2 r2
end
structure sJ(l:List Nat):Prop where
 q1:1≤l.getD 0 0
 q2:l.getD 0 0≤21
 put:l.getD 0 0=1→4≤l.length∧l.length=4+l.getD 3 0
 EB:l.getD 0 0≠1→l.length=1+kY (l.getD 0 0)
inductive Runs:Nat→aR→List Nat→List Int→Prop
 |nil (w:aR):Runs 0 w [] []
 |cons {n:Nat} {w:aR} {seg rest:List Nat} {out:List Int}:sJ seg→wm seg w→(aCall w seg).2.length≤250→Runs n (aCall w seg).1 rest out→Runs (n+1) w (seg++rest) (((aCall w seg).2.length:Int)::((aCall w seg).2++out))
theorem zd{ns seg rest:List Nat}(h:ns.drop j=seg++rest)(hi:i<seg.length):ns.getD (j+i) 0=seg.getD i 0∧j+i<ns.length:=by
 have hl:(ns.drop j).length=seg.length+rest.length:=by rw[h,cZ]
 rw[j6]at hl;have e:(ns.drop j)[i]?=seg[i]?:=by rw[h,Yi hi]
 grind-ring-lia-linarith-order
theorem sJ.pos(h:sJ l):0<l.length:=by
 by_cases c:l.getD 0 0=1
 ·grind
 ·have:=h.EB c;lia
theorem L5{ns seg rest:List Nat}(h:ns.drop j=seg++rest)(o:sJ seg):endAt ns j=j+seg.length:=by
 have p:=o.pos;have e0:=(zd h p).1;simp only[BK]at e0;unfold endAt;rw[e0];by_cases c:seg.getD 0 0=1
 ·obtain⟨l4,l5⟩:=o.put c;have e3:=(zd h (i:=3) ‹_›).1;rw[ag c,c,show j+1+kY 1=j+3 from rfl,e3]
  lia
 ·rw[af c];have:=o.EB c
  lia
section
variable{α β γ δ:Type}{X:Cx}{σ σ0:aS}{H H1 H2 G:Hp}{e ie b o:Expr}{es:List Expr}{R:Rp α}{S:Rp β}{r:α}{pos p:Pos}{D:Ends}{rest:List Stmt}{x x':Str}{i i':Nat}{CC CD a:Addr}{A:ck γ}{c:γ}{us:List V}{wt:aR}{k m:Nat}{ps:List Str}{P:γ→aR→Prop}{f:γ→aR→aR×List Int}
theorem Ld(Df:Cx.Def X k x ps (gI CC CD A P f))(hr:bM m X.A)(hNd:X.N.Nodup)(s:aj H H1)(na:H a=Option.none)(h1:H1 a=some (.lst us))(pr:rP CC CD H us wt)(hp:P c wt)(ha:XA X σ H (e::es) (aO (eA (.ref a)) A) ((),c))(q:∀y G H2 aN,cX a H H1 G H2→H2 a=some (.lst aN)→rP CC CD G aN (f c wt).1→ay.rel G y (f c wt).2→WB X rest D (σ.set j (some y)) H2)(hi:X.N[j]?=some x':=by rfl)(hx:Loc X.env.scope x':=by first|exact Or.inl rfl|exact Or.inr rfl)(hs:swapsWith (.Call (.Name x p) (e::es) [] p2) (some (.Name x' px)) pos.line X.env=pure false:=by rfl)(hf:X.fn x'=true∨X.env.scope.names.lookup x'=some .local:=by first|exact .inl rfl|exact .inr rfl|assumption)(hk:k≤m:=by decide)(hg:Gl X x:=by rfl)(bG:(x==("__debug__":Str))=false:=by decide)(he:SE X e es:=by rfl)(bo:NS X p2 es:=by rfl):WB X (.Assign [.Name x' px] (.Call (.Name x p) (e::es) [] p2) pos::rest) D σ H1:=
 cW (PS.ws (pq hNd hi hx aJ hs hf) (CO Df hr s na h1 pr hp ha q hk hg bG he bo))
end
def Ia(K:Fg):Sp:=fun vs H1 Q _=>∃a ns out n,vs=[.ref a]∧aU K H1 a (ns.map fun n:Nat=>V.int (n:Int))∧Runs n (replicate 6 none) ns out∧n≤60∧∀H' p,H' p=some (.lst (out.map V.int))→Q (.ref p) H'
section
variable{K:Fg}(T:Txt K mg CC CD)
include T
theorem QF(F:lW K "answers" "answers" JC f fd)(bh:Behind w K mg)(tq:wC P w K mg base CC CD)(ml:vD P w K mg base CC CD):gU P w K mg base g_ 11 f fd ["calls"] (Ia K):=by
 have nd:Ip.Nodup:=by decide+kernel
 refine F.ok (xo (N:=Ip)) (fun vs H Q E hh=>by obtain⟨_,_,_,_,e,_⟩:=hh;rw[e];rfl) fun bI A outer s H1 vs Q E hr h=>⟨_,lP,?_⟩;obtain⟨a,ns,out,n,rfl,hsq,runs,hn60,k⟩:=h;obtain⟨tp,mP⟩:=T.vd;have h0:(rS K).rel H1 (.ref a) ns:=⟨a,rfl,hsq⟩;refine i4 (i:=1) (R:=lK (aA CC CD)) nd (RR (n:=6) (a5 (aV Ql aZ)) (XE.nat (bN mP) rfl) (by decide)) (aj.refl _) fun lp us G2 H2 f2 n2 jX h2 p2=>?_;refine i4 (i:=2) (R:=aq) nd (a5 aZ) f2.g2 fun lt vs4 G3 H3 f3 n3 ng3 h3 p3=>?_;have e4:vs4=([]:List Int).map V.int:=by cases p3;rfl
 subst e4;have nlp:lp≠lt:=bB h2 n3;refine br (i:=3) nd ax f3.g2 fun v3 G4 H4 f4 r4=>?_;cases r4;have g4p:G4 lp= .none:=f4.sep _ _ (f3.sep _ _ jX h2) (f3.h2 _ _ h2);have g4t:G4 lt= .none:=f4.sep _ _ ng3 h3;refine tI (fun m σ' H'=>∃(G:Hp)(wt:aR)(rest:List Nat)(out' tl:List Int)(us:List V)(j:Nat)(o4 o5:Option V),σ'=[some (.ref a),some (.ref lp),some (.ref lt),some (.int (j:Int)),o4,o5]∧aj H1 G∧aj G H'∧G lp= .none∧G lt= .none∧H' lp=some (.lst us)∧rP CC CD G us wt∧H' lt=some (LI tl)∧ns.drop j=rest∧j≤ns.length∧Runs m wt rest out'∧out=tl++out'∧tl.length+251*m≤15060)
  ⟨n,G4,replicate 6 none,ns,out,[],us,0,none,none,rfl,f2.hg.trans (f3.hg.trans f4.hg),f4.g2,g4p,g4t,f4.h2 _ _ (f3.h2 _ _ h2),rP.mono (f3.hg.trans f4.hg) p2,f4.h2 _ _ h3,rfl,eG _,runs,rfl,by simp;lia⟩ ?_
 rintro m _ H' ⟨G,wt,rest,out',tl,us,j,o4,o5,rfl,s1,sG,gp,gt,hp,pr,ht,hdr,hj,runs,ho,hb⟩;have rj:∀{G:Hp},aa.rel G (.int ((j:Nat):Int)) j:=rfl;have h0:=(rS K).mono s1 h0;refine(xC (XE.int (xv 3 rj)) (Mx T.len (xv 0 h0))) H' sG _ fun G5 H5 f5=>?_;have h0:=(rS K).mono f5.hg h0;have s1:=s1.trans f5.hg;have gp5:=f5.sep _ _ gp hp;have gt5:=f5.sep _ _ gt ht;have hp5:=f5.h2 _ _ hp;have ht5:=f5.h2 _ _ ht;have pr5:=pr.mono f5.hg;have sG5:=f5.g2;have hlen:(ns.drop j).length=rest.length:=by rw[hdr]
 rw[j6]at hlen;cases runs with
 |nil w0=>
  have e:ns.length=j:=by simp at hlen;grind
  rw[af (by rw[ym];simp[*])];refine gD (i:=2) rfl (k H5 lt ?_);rw[ht5,ho,pS]
 | @cons n' _ seg rest' out2 so pc le ru=>
  have sp:=so.pos;rw[cZ]at hlen;rw[ag (by rw[ym];lia)];have ee:=L5 hdr so;have e0:=(zd hdr sp).1;simp only[BK]at e0;refine br (i:=4) nd (aK (Rx T bh) hr ⟨by show j<ns.length;lia,by rw[e0];exact so.q1,by rw[e0];exact so.q2,fun z=>by have z:ns.getD j 0=1:=z;rw[e0]at z;have:=(so.put z).1;show j+3<ns.length;grind⟩ (aF (xv 0 h0) (az (xv 3 rj)))) sG5 fun v4 G6 H6 f6 r4=>?_;have r4:aa.rel G6 v4 (endAt ns j):=r4;rw[ee]at r4;cases r4;have re:∀{G:Hp},aa.rel G (.int ((j+seg.length:Nat):Int)) (j+seg.length):=rfl;have h06:=(rS K).mono f6.hg h0;have ecut:(ns.drop j).take (j+seg.length-j)=seg:=by rw[hdr,show j+seg.length-j=seg.length by simp,List.take_left]
  have gp6:=f6.sep _ _ gp5 hp5;have gt6:=f6.sep _ _ gt5 ht5;have hp6:=f6.h2 _ _ hp5;have ht6:=f6.h2 _ _ ht5;have rv:∀{G:Hp},(eA (.ref lp)).rel G (.ref lp) ():=rfl;refine Ld (j:=5) (VW T tq ml) hr nd f6.g2 gp6 hp6 (pr5.mono f6.hg) pc (aF (xv 1 rv) (az (XE.cast (XN.xe (Q5 (xv 0 h06) (iL (XE.int (xv 3 rj))) (iL (XE.int (xv 4 re))) (by simp) (by grind))) ecut))) fun v5 G7 H7 us7 f7 hp7 jW r5=>?_;have jW:rP CC CD G7 us7 (aCall wt seg).1:=jW;have r5:ay.rel G7 v5 (aCall wt seg).2:=r5;have ht7:=f7.h2 _ _ (fun z=>nlp z.symm) ht6;have gt7:=f7.sep _ _ (fun z=>nlp z.symm) gt6 ht6;have gp7:=f7.na;generalize haw:aCall wt seg=aw at*;refine tY (i:=2) rfl ht7 (by rw[bj];lia) (cN T.len (xv 5 r5)) f7.g2 fun v8 G8 H8 f8 r8=>?_;cases r8;have gp8:=f8.sep _ _ gp7 hp7;have gt8:=f8.sep _ _ gt7 ht7;have s8:aj G8 (upd H8 lt (.lst (tl.map V.int++[V.int (aw.2.length:Int)]))):=fun b o e=>by rw[aB (bB e gt8)];exact f8.g2 b o e
  refine rT (i:=2) rfl aE (xv 5 (ay.mono f8.hg r5)) s8 (by simp;lia) fun vs9 G9 H9 f9 p9=>?_;have e9:=qd p9;subst e9;have hp8:upd H8 lt (.lst (tl.map V.int++[V.int (aw.2.length:Int)])) lp=some (.lst us7):=by rw[aB nlp];exact f8.h2 _ _ hp7
  have gp9:=f9.sep _ _ gp8 hp8;have gt9:=f9.sep _ _ gt8 aE;have s9:aj G9 (upd H9 lt (.lst (tl.map V.int++[V.int (aw.2.length:Int)]++aw.2.map V.int))):=fun b o e=>by rw[aB (bB e gt9)];exact f9.g2 b o e
  refine br (i:=3) nd (xv 4 re) s9 fun v10 e_ iQ bP mH=>bp ?_;cases mH;have hp9:upd H9 lt (.lst (tl.map V.int++[V.int (aw.2.length:Int)]++aw.2.map V.int)) lp=some (.lst us7):=by rw[aB nlp];exact f9.h2 _ _ hp8
  have s110:aj H1 e_:=s1.trans (f6.hg.trans (f7.hg.trans (f8.hg.trans (f9.hg.trans bP.hg))));refine⟨n',by simp,e_,aw.1,rest',out2,tl++((aw.2.length:Int)::aw.2),us7,j+seg.length,_,_,rfl,s110,bP.g2,bP.sep _ _ gp9 hp9,bP.sep _ _ gt9 aE,bP.h2 _ _ hp9,jW.mono (f8.hg.trans (f9.hg.trans bP.hg)),?_,?_,by grind,ru,?_,?_⟩
  ·rw[bP.h2 _ _ aE];simp
  ·rw[←List.drop_drop,hdr,List.drop_left]
  ·rw[ho];simp
  ·rw[cZ,bZ];lia
end
end Kn
namespace Km
open Kb Kn KnotBook
def enc:KnotBook.Call→List Nat
 | .put k c l=>1::k::c::l.length::l
 | .get k=>[2,k]
 | .count k i=>[3,k,i]
 | .strand k a=>[4,k,a]
 | .sum k i j=>[5,k,i,j]
 | .writhe k=>[6,k]
 | .circles k s=>[7,k,s]
 | .bracket k=>[8,k]
 | .jones k=>[9,k]
 | .alexander k=>[10,k]
 | .colours k p=>[11,k,p]
 | .mirror d k=>[12,d,k]
 | .turn d k=>[13,d,k]
 | .flip d k i=>[14,d,k,i]
 | .open_ d k i=>[15,d,k,i]
 | .unkink d k i=>[16,d,k,i]
 | .unpoke d k i j=>[17,d,k,i,j]
 | .plain d k=>[18,d,k]
 | .beside d k l=>[19,d,k,l]
 | .join d k i l j=>[20,d,k,i,l,j]
 | .same k l=>[21,k,l]
def Ij(w:aR)(x:KnotBook.Call):aR×List Int:=((KnotBook.step w x).1,rowOf (KnotBook.step w x).2)
def fL(y:aR×Answer):aR×List Int:=(y.1,rowOf y.2)
theorem XC(w:aR)(x:KnotBook.Call):Ij w x=fL (KnotBook.step w x):=rfl
theorem of_none{w:aR}(h:at_ w k=none):fL (ofPlace w k f)=(w,[-1]):=by unfold ofPlace;rw[h];rfl
theorem qJ{w:aR}(h:at_ w k=some d):fL (ofPlace w k f)=fL (f d):=by unfold ofPlace;rw[h]
theorem lS:fL (made w k e n)=if 6≤k then(w,[-1])else b9 w k e n:=by
 unfold made b9 SLOTS;by_cases c:6≤k
 ·rw[ag c,ag c];rfl
 ·rw[af c,af c];cases h:e.small<;>rfl
theorem kf{w:aR}(hq:2≤l.getD 0 0∧l.getD 0 0≤11)(h:∀d,at_ w (l.getD 1 0)=some d→fL (f d)=(w,(kC (l.getD 0 0)).2 d (l.drop 2))):fL (ofPlace w (l.getD 1 0) f)=aCall w l:=by
 unfold aCall;rw[af (by lia),af (by lia),af (by lia)];unfold oh;cases c:at_ w (l.getD 1 0)with
 |none=>rw[of_none c]
 |some d=>rw[qJ c,h d c]
theorem lY{w:aR}(hq:12≤l.getD 0 0∧l.getD 0 0≤20)(h:∀d,at_ w (l.getD 2 0)=some d→fL (f d)=if 6≤l.getD 1 0 then(w,[-1])else(iI (l.getD 0 0)).2 w (l.getD 1 0) d (l.drop 3)):fL (ofPlace w (l.getD 2 0) f)=aCall w l:=by
 unfold aCall;rw[af (by lia),af (by lia),ag hq];unfold km;cases c:at_ w (l.getD 2 0)with
 |none=>rw[of_none c]
 |some d=>rw[qJ c,h d c]
theorem xg{d:Dia}:d.x[i]?=if d.n≤i then none else some (d.x.getD i Kn.z0):=by
 by_cases c:d.n≤i
 ·rw[ag c,lB c]
 ·rw[af c,qb (by lia)]
theorem step_eq(w:aR)(x:KnotBook.Call):Ij w x=aCall w (enc x):=by
 rw[XC];cases x with
 |put k c l=>
  show fL (KnotBook.step w (.put k c l))=gj w k c l;unfold KnotBook.step gj;simp only;by_cases c6:SLOTS≤k
  ·rw[ag c6,ag (by exact c6)];rfl
  ·rw[af c6,af (by exact c6)];cases h:crossesOf l with
   |none=>rfl
   |some x=>
    simp only;cases h2:Dia.sized ⟨x,c⟩with
    |false=>rfl
    |true=>
     simp;cases h3:Dia.faulty ⟨x,c⟩with
     |some a=>rfl
     |none=>simp only;cases h4:Dia.drawn ⟨x,c⟩<;>rfl
 |get k=>refine kf (l:=[2,k]) (by simp) fun d _=>?_;show(w,rowOf (tells d.n ((d.c:Int)::KnotBook.nat (numsOf d))))=(w,nO d []);unfold rowOf tells nO;simp[KnotBook.nat]
 |count k i=>refine kf (l:=[3,k,i]) (by simp) fun d _=>?_;show(w,rowOf (match(Dia.told d)[i]? with|some n=>says n|none=>no 1))=(w,i8 d [i]);unfold i8;show _=(w,match(Dia.told d)[i]? with|some n=>[(n:Int)]|none=>[-1]);cases (Dia.told d)[i]?<;>rfl
 |strand k a=>
   refine kf (l:=[4,k,a]) (by simp) fun d _=>?_;show(w,rowOf (if d.arcs≤a then no 1 else says (d.strandOf a)))=(w,kQ d [a]);unfold kQ;show _=(w,if d.arcs≤a then [-1]else [(d.strandOf a:Int)]);by_cases c:d.arcs≤a
   ·rw[ag c,ag c];rfl
   ·rw[af c,af c];rfl
 |sum k i j=>
   refine kf (l:=[5,k,i,j]) (by simp) fun d _=>?_;show(w,rowOf (if d.strands≤i∨d.strands≤j then no 1 else tells 0 [if i=j then d.between i i else d.between i j/2]))=(w,lZ d [i,j]);unfold lZ;show _=(w,if d.strands≤i∨d.strands≤j then [-1]else [0,if i=j then d.between i i else d.between i j/2]);by_cases c:d.strands≤i∨d.strands≤j
   ·rw[ag c,ag c];rfl
   ·rw[af c,af c];rfl
 |writhe k=>exact kf (l:=[6,k]) (by simp) fun d _=>rfl
 |circles k s=>exact kf (l:=[7,k,s]) (by simp) fun d _=>rfl
 |bracket k=>refine kf (l:=[8,k]) (by simp) fun d _=>?_;show(w,rowOf (polyTold d.bracket))=(w,kT d.bracket);unfold rowOf polyTold kT;simp
 |jones k=>refine kf (l:=[9,k]) (by simp) fun d _=>?_;show(w,rowOf (polyTold d.jones))=(w,kT d.jones);unfold rowOf polyTold kT;simp
 |alexander k=>refine kf (l:=[10,k]) (by simp) fun d _=>?_;show(w,rowOf (tells d.alexander.length d.alexander))=(w,qu d []);unfold rowOf tells qu;simp
 |colours k p=>
   refine kf (l:=[11,k,p]) (by simp) fun d _=>?_;show(w,rowOf (if 100<p∨isPrime p=false then no 1 else says (d.colours p)))=(w,me d [p]);unfold me;show _=(w,if g6 p=true then [(d.colours p:Int)]else [-1]);by_cases c:100<p∨isPrime p=false
   ·rw[ag c,af]
    ·rfl
    ·unfold g6;rw[dq,dA];rintro⟨h1,h2⟩;rcases c with c|c
     ·lia
     ·rw[h2]at c;cases c
   ·rw[af c,ag]
    ·rfl
    ·unfold g6;rw[dq,dA];refine⟨Nat.le_of_not_lt fun z=>c (.inl z),?_⟩;cases h:isPrime p with
     |true=>rfl
     |false=>exact absurd (.inr h) c
 |mirror d k=>exact lY (l:=[12,d,k]) (by simp) fun e _=>lS
 |turn d k=>exact lY (l:=[13,d,k]) (by simp) fun e _=>lS
 |flip d k i=>
   refine lY (l:=[14,d,k,i]) (by simp) fun e _=>?_;show fL (if e.n≤i then(w,no 1)else made w d (e.flip i) 0)=if 6≤d then(w,[-1])else(if e.n≤i then(w,[-1])else b9 w d (e.flip i) 0)
   by_cases c:e.n≤i
   ·rw[ag c,ag c];by_cases c6:6≤d<;>simp<;>rfl
   ·rw[af c,af c,lS];rfl
 |open_ d k i=>
   refine lY (l:=[15,d,k,i]) (by simp) fun e _=>?_;show fL (match e.x[i]? with|none=>(w,no 1)|some y=>made w d (e.open_ i y) 0)=if 6≤d then(w,[-1])else(if e.n≤i then(w,[-1])else b9 w d (e.open_ i (e.x.getD i Kn.z0)) 0)
   rw[xg];by_cases c:e.n≤i
   ·rw[ag c,ag c];by_cases c6:6≤d<;>simp<;>rfl
   ·rw[af c,af c];simp only;rw[lS];rfl
 |unkink d k i=>
   refine lY (l:=[16,d,k,i]) (by simp) fun e _=>?_;show fL (match e.x[i]? with|none=>(w,no 1)|some y=>if SLOTS≤d then(w,no 1)else if y.kink=false then(w,no 3)else made w d (e.unkink i y) 0)=if 6≤d then(w,[-1])else(if e.n≤i then(w,[-1])else if(e.x.getD i Kn.z0).kink=true then b9 w d (e.unkink i (e.x.getD i Kn.z0)) 0 else(w,[-3]))
   rw[xg];by_cases c:e.n≤i
   ·rw[ag c,ag c];by_cases c6:6≤d<;>simp<;>rfl
   ·rw[af c,af c];simp only;by_cases c6:6≤d
    ·rw[ag c6,ag (by exact c6)];rfl
    ·rw[af c6,af (by exact c6)];cases h:(e.x.getD i Kn.z0).kink with
     |false=>rfl
     |true=>simp;rw[lS,af c6];rfl
 |unpoke d k i j=>
   refine lY (l:=[17,d,k,i,j]) (by simp) fun e _=>?_;show fL (match e.x[i]?,e.x[j]? with|some y,some z=>if SLOTS≤d then(w,no 1)else if i=j∨poke y z=false then(w,no 3)else made w d (e.unpoke i j y z) 0|_,_=>(w,no 1))=if 6≤d then(w,[-1])else(if e.n≤i∨e.n≤j then(w,[-1])else if poke (e.x.getD i Kn.z0) (e.x.getD j Kn.z0)=true then b9 w d (e.unpoke i j (e.x.getD i Kn.z0) (e.x.getD j Kn.z0)) 0 else(w,[-3]))
   rw[xg,xg];by_cases c:e.n≤i
   ·rw[ag c];have cc:e.n≤i∨e.n≤j:= .inl c;by_cases c6:6≤d
    ·rw[ag c6];rfl
    ·rw[af c6,ag cc];rfl
   ·by_cases c':e.n≤j
    ·rw[af c,ag c'];have cc:e.n≤i∨e.n≤j:= .inr c';by_cases c6:6≤d
     ·rw[ag c6];rfl
     ·rw[af c6,ag cc];rfl
    ·have cc:¬(e.n≤i∨e.n≤j):=by simp[*]
     rw[af c,af c'];simp only;by_cases c6:6≤d
     ·rw[ag c6,ag (show SLOTS≤d from c6)];rfl
     ·rw[af c6,af (show¬SLOTS≤d from c6),af cc];cases h:poke (e.x.getD i Kn.z0) (e.x.getD j Kn.z0)with
      |false=>simp;rfl
      |true=>
       have ne:i≠j:=fun z=>by subst z;unfold poke at h;simp at h
       simp only[ne,Bool.true_eq_false,or_self,c8,dR];rw[lS,af c6];rfl
 |plain d k=>exact lY (l:=[18,d,k]) (by simp) fun e _=>lS
 |beside d k l=>
   refine lY (l:=[19,d,k,l]) (by simp) fun e _=>?_;show fL (ofPlace w l fun f=>made w d (e.beside f) 0)=if 6≤d then(w,[-1])else jI w d e [l]
   unfold jI;show _=if 6≤d then(w,[-1])else(match at_ w l with|some f=>b9 w d (e.beside f) 0|none=>(w,[-1]))
   cases c:at_ w l with
   |none=>rw[of_none c];by_cases c6:6≤d<;>simp
   |some f=>rw[qJ c,lS];rfl
 |join d k i l j=>
   refine lY (l:=[20,d,k,i,l,j]) (by simp) fun e _=>?_;show fL (ofPlace w l fun f=>if e.arcs≤i∨f.arcs≤j then(w,no 1)else made w d (e.join f i j) 0)=if 6≤d then(w,[-1])else jq w d e [i,l,j]
   unfold jq;show _=if 6≤d then(w,[-1])else(match at_ w l with|some f=>if e.arcs≤i∨f.arcs≤j then(w,[-1])else b9 w d (e.join f i j) 0|none=>(w,[-1]))
   cases c:at_ w l with
   |none=>rw[of_none c];by_cases c6:6≤d<;>simp
   |some f=>
    rw[qJ c];by_cases c2:e.arcs≤i∨f.arcs≤j
    ·simp only;rw[ag c2,ag c2];by_cases c6:6≤d<;>simp<;>rfl
    ·simp only;rw[af c2,af c2,lS];rfl
 |same k l=>
  show fL (ofPlace w k fun e=>ofPlace w l fun f=>(w,says (one (Kb.same e f))))=kr w [21,k,l];unfold kr;show _=match at_ w k,at_ w l with|some d,some e=>(w,[if Kb.same d e=true then 1 else 0])|_,_=>(w,[-1])
  cases c:at_ w k with
  |none=>rw[of_none c]
  |some e=>
   rw[qJ c];cases c2:at_ w l with
   |none=>rw[of_none c2]
   |some f=>rw[qJ c2];unfold one;simp only;cases Kb.same e f<;>rfl
theorem lU{w:aR}{k:Nat}{e:Dia}{n:Int}(h6:w.length=6)(hS:dM w)(g:Good e):(b9 w k e n).1.length=6∧dM (b9 w k e n).1∧(b9 w k e n).2.length≤250:=by
 unfold b9;cases c:e.small with
 |false=>exact⟨h6,hS,by simp⟩
 |true=>
  simp only[dR];refine⟨by rw[gO];exact h6,fun d hd=>?_,by simp⟩;rcases YH hd with q|q
  ·exact hS d q
  ·cases q;unfold Dia.small Dia.n MOST CIRCLES at c;rw[dq,dA,dA]at c;exact⟨g,c.1,c.2⟩
theorem wu{d:Dia}(g:Good d){y:Cross}(hy:y∈d.x):∀p∈y.straight++y.along,p.1<d.arcs∧p.2<d.arcs:=by obtain⟨h1,h2,h3,h4⟩:=g.1 y hy;unfold Cross.straight Cross.along;intro p hp;simp only[cE,a_,cA,cV]at hp;rcases hp with(rfl|rfl)|(rfl|rfl)<;>exact⟨by assumption,by assumption⟩
theorem getD_mem'{d:Dia}{i:Nat}(h:i<d.n):d.x.getD i Kn.z0∈d.x:=fg (qb h)
theorem VS{d:Dia}(g:Good d){i:Nat}(h:i<d.n):Good (d.open_ i (d.x.getD i Kn.z0)):=by unfold Dia.open_;refine u9 g (fun p hp=>wu g (getD_mem' h) p (mQ _ hp)) ?_;have:=UA g (l:=[i]) (by simp) (fun j hj=>by simp at hj;subst hj;exact h) Kn.z0;simpa using this
theorem OW{d:Dia}(g:Good d){i:Nat}(h:i<d.n):Good (d.unkink i (d.x.getD i Kn.z0)):=by unfold Dia.unkink;refine u9 g (fun p hp=>wu g (getD_mem' h) p (ux _ hp)) ?_;have:=yL g (l:=[i]) (by simp) (fun j hj=>by simp at hj;subst hj;exact h) Kn.z0;simpa using this
theorem VP{d:Dia}(g:Good d){i j:Nat}(hi:i<d.n)(hj:j<d.n)(ne:i≠j):Good (d.unpoke i j (d.x.getD i Kn.z0) (d.x.getD j Kn.z0)):=by
 unfold Dia.unpoke;refine u9 g (fun p hp=>?_) ?_
 ·rcases cE.mp hp with q|q
  ·exact wu g (getD_mem' hi) p (ux _ q)
  ·exact wu g (getD_mem' hj) p (ux _ q)
 ·have:=yL g (l:=[i,j]) (by simp[ne]) (fun k hk=>by simp at hk;rcases hk with rfl|rfl<;>assumption) Kn.z0;simpa using this
theorem HP{xs:Pl}{p:Poly}(t:qf xs p):p.l.length≤201:=by
 obtain⟨e0,e1,e2,e3,e4⟩:=ends t.eqv t.nt t.nz;obtain⟨x,hx,ex⟩:=aH.mp e1;have h1:=t.iO x (dz.mp hx).1;obtain⟨y,hy,ey⟩:=aH.mp e3;have h2:=t.iO y (dz.mp hy).1
 lia
theorem RW{d:Dia}(ok:bS d)(q:Nat)(l:List Nat):((kC q).2 d l).length≤250:=by
 have hn:d.x.length≤8:=ok.n;unfold kC
 repeat' split
 ·show(nO d l).length≤250;unfold nO numsOf;have:(d.x.flatMap fun(y:Cross)=>[y.ui,y.uo,y.oi,y.oo,one y.minus]).length=5*d.x.length:=by
   induction d.x with
   |nil=>rfl
   |cons a l ih=>rw[dY,cZ,ih];simp;lia
  simp only[bZ,bj,this]
  lia
 ·show(i8 d l).length≤250;unfold i8;split<;>simp
 ·show(kQ d l).length≤250;unfold kQ;split<;>simp
 ·show(lZ d l).length≤250;unfold lZ;split<;>simp
 ·show(xw d l).length≤250;simp[xw]
 ·show(ve d l).length≤250;simp[ve]
 ·show(kT d.bracket).length≤250;have:=HP (HK ok);simp[kT]
  lia
 ·show(kT d.jones).length≤250;have:=HP (Gn ok);simp[kT]
  lia
 ·show(qu d l).length≤250;have:=CZ d;simp[qu]
  lia
 ·show(me d l).length≤250;unfold me;split<;>simp
theorem O2{w:aR}(h6:w.length=6)(hS:dM w){d:Dia}(ok:bS d)(q k:Nat)(l:List Nat):((iI q).2 w k d l).1.length=6∧dM ((iI q).2 w k d l).1∧((iI q).2 w k d l).2.length≤250:=by
 have g:=ok.g;have no:∀z:Int,((w,[z]):aR×List Int).1.length=6∧dM ((w,[z]):aR×List Int).1∧((w,[z]):aR×List Int).2.length≤250:=fun z=>⟨h6,hS,by simp⟩;unfold iI
 repeat' split
 ·exact lU h6 hS (Xb g)
 ·exact lU h6 hS (EI g)
 ·show(i7 w k d l).1.length=6∧dM (i7 w k d l).1∧(i7 w k d l).2.length≤250;unfold i7;split
  ·exact no _
  ·exact lU h6 hS (PY g _)
 ·show(jr w k d l).1.length=6∧dM (jr w k d l).1∧(jr w k d l).2.length≤250;unfold jr;split
  ·exact no _
  ·next c=>exact lU h6 hS (VS g (by lia))
 ·show(ia w k d l).1.length=6∧dM (ia w k d l).1∧(ia w k d l).2.length≤250;unfold ia;split
  ·exact no _
  ·next c=>
   split
   ·exact lU h6 hS (OW g (by lia))
   ·exact no _
 ·show(h_ w k d l).1.length=6∧dM (h_ w k d l).1∧(h_ w k d l).2.length≤250;unfold h_;split
  ·exact no _
  ·next c=>
   split
   ·next c2=>
    refine lU h6 hS (VP g (by lia) (by lia) fun z=>?_);rw[z]at c2;unfold poke at c2;simp at c2
   ·exact no _
 ·exact lU h6 hS (B9 9 d g).1
 ·show(jI w k d l).1.length=6∧dM (jI w k d l).1∧(jI w k d l).2.length≤250;unfold jI;split
  ·next e he=>exact lU h6 hS (Jz g (ko hS he).g)
  ·exact no _
 ·show(jq w k d l).1.length=6∧dM (jq w k d l).1∧(jq w k d l).2.length≤250;unfold jq;split
  ·next e he=>
   split
   ·exact no _
   ·next c=>exact lU h6 hS (Ot g (ko hS he).g (by lia) (by lia))
  ·exact no _
theorem R0{w:aR}(h6:w.length=6)(hS:dM w)(k c:Nat)(row:List Nat):(gj w k c row).1.length=6∧dM (gj w k c row).1∧(gj w k c row).2.length≤250:=by
 by_cases h:6≤k∨fj c row=false
 ·rw[CA h];exact⟨h6,hS,by simp⟩
 ·have h2:fj c row=true:=by
   cases q:fj c row with
   |true=>rfl
   |false=>exact absurd (.inr q) h
  rw[Dt (by lia) h2];obtain⟨o1,o2,o3⟩:=Jw h2;cases f:Dia.faulty ⟨cO row,c⟩with
  |some a=>exact⟨h6,hS,by simp⟩
  |none=>
   simp only;split
   ·exact⟨h6,hS,by simp⟩
   ·refine⟨by rw[gO];exact h6,fun d hd=>?_,by simp⟩;rcases YH hd with q|q
    ·exact hS d q
    ·cases q;exact⟨o3 f,o1,o2⟩
theorem VC{w:aR}(h6:w.length=6)(hS:dM w)(l:List Nat):(aCall w l).1.length=6∧dM (aCall w l).1∧(aCall w l).2.length≤250:=by
 have no:∀z:Int,((w,[z]):aR×List Int).1.length=6∧dM ((w,[z]):aR×List Int).1∧((w,[z]):aR×List Int).2.length≤250:=fun z=>⟨h6,hS,by simp⟩;unfold aCall;split
 ·exact R0 h6 hS _ _ _
 ·split
  ·unfold kr;split
   ·exact no _
   ·exact no _
  ·split
   ·unfold km;split
    ·exact no _
    ·next d hd=>
     split
     ·exact no _
     ·exact O2 h6 hS (ko hS hd) _ _ _
   ·unfold oh;split
    ·exact no _
    ·next d hd=>exact⟨h6,hS,RW (ko hS hd) _ _⟩
def HC:KnotBook.Call→Prop
 | .put _ _ l=>l.length≤64
 |_=>True
theorem K_(x:KnotBook.Call):sJ (enc x):=by cases x<;>refine⟨by simp[enc],by simp[enc],fun h=>?_,fun h=>?_⟩<;>first|(simp[enc]at h;done)|rfl|(simp[enc]at h⊢;done)|(simp[enc]at h⊢;lia)
theorem UI{w:aR}(h6:w.length=6)(hS:dM w){x:KnotBook.Call}(hr:HC x):wm (enc x) w:=by
 refine⟨h6,hS,?_⟩;cases x with
 |put k c l=>have hr:l.length≤64:=hr;exact .inl ⟨rfl,by simp[enc],by simp[enc];lia⟩
 |same k l=>exact .inr (.inl ⟨rfl,rfl⟩)
 |mirror d k=>exact .inr (.inr (.inl ⟨by simp[enc],by simp[enc],rfl⟩))
 |turn d k=>exact .inr (.inr (.inl ⟨by simp[enc],by simp[enc],rfl⟩))
 |flip d k i=>exact .inr (.inr (.inl ⟨by simp[enc],by simp[enc],rfl⟩))
 |open_ d k i=>exact .inr (.inr (.inl ⟨by simp[enc],by simp[enc],rfl⟩))
 |unkink d k i=>exact .inr (.inr (.inl ⟨by simp[enc],by simp[enc],rfl⟩))
 |unpoke d k i j=>exact .inr (.inr (.inl ⟨by simp[enc],by simp[enc],rfl⟩))
 |plain d k=>exact .inr (.inr (.inl ⟨by simp[enc],by simp[enc],rfl⟩))
 |beside d k l=>exact .inr (.inr (.inl ⟨by simp[enc],by simp[enc],rfl⟩))
 |join d k i l j=>exact .inr (.inr (.inl ⟨by simp[enc],by simp[enc],rfl⟩))
 |get k=>exact .inr (.inr (.inr ⟨by simp[enc],by simp[enc],rfl⟩))
 |count k i=>exact .inr (.inr (.inr ⟨by simp[enc],by simp[enc],rfl⟩))
 |strand k a=>exact .inr (.inr (.inr ⟨by simp[enc],by simp[enc],rfl⟩))
 |sum k i j=>exact .inr (.inr (.inr ⟨by simp[enc],by simp[enc],rfl⟩))
 |writhe k=>exact .inr (.inr (.inr ⟨by simp[enc],by simp[enc],rfl⟩))
 |circles k s=>exact .inr (.inr (.inr ⟨by simp[enc],by simp[enc],rfl⟩))
 |bracket k=>exact .inr (.inr (.inr ⟨by simp[enc],by simp[enc],rfl⟩))
 |jones k=>exact .inr (.inr (.inr ⟨by simp[enc],by simp[enc],rfl⟩))
 |alexander k=>exact .inr (.inr (.inr ⟨by simp[enc],by simp[enc],rfl⟩))
 |colours k p=>exact .inr (.inr (.inr ⟨by simp[enc],by simp[enc],rfl⟩))
theorem QH{r x s:List Int}(h:PyFlat.row r=some (x,s)):r=(x.length:Int)::(x++s):=by
 cases r with
 |nil=>cases h
 |cons n r'=>
  unfold PyFlat.row at h;simp only at h;by_cases c:0≤n∧n.toNat≤r'.length
  ·rw[ag c]at h;cases h;rw[rF,q_,BN c.2];congr 1
   lia
  ·rw[af c]at h;cases h
theorem Ep:∀(k:Nat){r t:List Int}{xs:List (List Int)},PyFlat.rows k r=some (xs,t)→r=xs.flatMap (fun x=>(x.length:Int)::x)++t
 |0,r,t,xs,h=>by unfold PyFlat.rows at h;cases h;rfl
 |k+1,r,t,xs,h=>by
  unfold PyFlat.rows at h;cases c:PyFlat.row r with
  |none=>rw[c]at h;cases h
  |some q=>
   obtain⟨x,s⟩:=q;rw[c]at h;simp only at h;cases c2:PyFlat.rows k s with
   |none=>rw[c2]at h;cases h
   |some q2=>obtain⟨ys,t2⟩:=q2;rw[c2]at h;cases h;rw[QH c,Ep k c2,dY];simp
theorem Fo{sh:Int→Option (Nat×Nat)}{l t:List Int}{s:List Int}{xs:List (List Int)}(h:PyFlat.call sh l=some (s::xs,t)):l=s++(xs.flatMap (fun x=>(x.length:Int)::x)++t):=by
 cases l with
 |nil=>cases h
 |cons p r=>
  unfold PyFlat.call at h;simp only at h;cases c:sh p with
  |none=>rw[c]at h;cases h
  |some q=>
   obtain⟨n,k⟩:=q;rw[c]at h;simp only at h;by_cases c1:r.length<n
   ·rw[ag c1]at h;cases h
   ·rw[af c1]at h;cases c2:PyFlat.rows k (r.drop n)with
    |none=>rw[c2]at h;cases h
    |some q2=>obtain⟨ys,t2⟩:=q2;rw[c2]at h;cases h;rw[←Ep k c2,oB,rF]
theorem fK{a:Int}{b:Nat}(h:natural a b=true):((a.toNat:Nat):Int)=a:=by
 unfold natural at h;rw[dq,dA]at h
 lia
theorem TR{c:List Int}{n:Nat}{hi:Int}(h:long c n 0 hi=true):((nats c).map fun n:Nat=>(n:Int))=c∧c.length≤n∧(nats c).length=c.length:=by
 unfold long at h;rw[dq,dA,oq]at h;refine⟨?_,h.1,by simp[nats]⟩;unfold nats;rw[b7]
 conv=>rhs;rw[←List.map_id c]
 refine ef fun z hz=>?_;have:=h.2 z hz;rw[dq,dA]at this;simp only[Function.comp,id]
 lia
theorem JY:∀(k:Nat){r t:List Int}{xs:List (List Int)},PyFlat.rows k r=some (xs,t)→xs.length=k
 |0,r,t,xs,h=>by unfold PyFlat.rows at h;cases h;rfl
 |k+1,r,t,xs,h=>by
  unfold PyFlat.rows at h;cases c:PyFlat.row r with
  |none=>rw[c]at h;cases h
  |some q=>
   rw[c]at h;simp only at h;cases c2:PyFlat.rows k q.2 with
   |none=>rw[c2]at h;cases h
   |some q2=>rw[c2]at h;cases h;rw[bZ,JY k c2]
theorem Y8{l t:List Int}{c:List (List Int)}(h:PyFlat.call PyWqawaw.shape l=some (c,t)):∃p s xs,c=(p::s)::xs∧PyWqawaw.shape p=some (s.length,xs.length):=by
 cases l with
 |nil=>cases h
 |cons p r=>
  unfold PyFlat.call at h;simp only at h;cases c:PyWqawaw.shape p with
  |none=>rw[c]at h;cases h
  |some q=>
   obtain⟨n,k⟩:=q;rw[c]at h;simp only at h;by_cases c1:r.length<n
   ·rw[ag c1]at h;cases h
   ·rw[af c1]at h;cases c2:PyFlat.rows k (r.drop n)with
    |none=>rw[c2]at h;cases h
    |some q2=>rw[c2]at h;cases h;refine⟨p,_,_,rfl,?_⟩;rw[c,JY k c2,q_,BN (Nat.le_of_not_lt c1)]
abbrev mL(M:List (List Int)→Bool→Prop) c:=M c (KnotNeutral.asked1 c)
theorem xT{n:Nat}{p:Int}{s:List Int}{xs:List (List Int)}{M:List (List Int)→Bool→Prop}(m:∀s,s.length=n→mL M [p::s])(e:some (n,0)=some (s.length,xs.length)):mL M ((p::s)::xs):=by injection e with e;injection e with e1 e2;rw[uL.1 e2.symm];exact m s e1.symm
theorem JD{p:Int}{s:List Int}{xs:List (List Int)}{M:List (List Int)→Bool→Prop}(m:∀a,mL M [[p,a]]):some (1,0)=some (s.length,xs.length)→mL M ((p::s)::xs):=xT fun|[a],_=>m a
theorem rC{p:Int}{s:List Int}{xs:List (List Int)}{M:List (List Int)→Bool→Prop}(m:∀a b,mL M [[p,a,b]]):some (2,0)=some (s.length,xs.length)→mL M ((p::s)::xs):=xT fun|[a,b],_=>m a b
theorem xR{p:Int}{s:List Int}{xs:List (List Int)}{M:List (List Int)→Bool→Prop}(m:∀a b c,mL M [[p,a,b,c]]):some (3,0)=some (s.length,xs.length)→mL M ((p::s)::xs):=xT fun|[a,b,c],_=>m a b c
theorem mF{p k:Int}{s:List Int}{xs:List (List Int)}{M:List (List Int)→Bool→Prop}{A B C:Option (Nat×Nat)}(f:A=C→mL M ((k::s)::xs))(g:B=C→mL M ((p::s)::xs))(e:(if p=k then A else B)=C):mL M ((p::s)::xs):=by
 by_cases h:p=k
 ·subst h;exact f (by rwa[ag rfl]at e)
 ·exact g (by rwa[af h]at e)
theorem JR{M:List (List Int)→Bool→Prop}{l t:List Int}{c:List (List Int)}(h:PyFlat.call PyWqawaw.shape l=some (c,t))(m1:∀a b x,M [[1,a,b],x] (natural a 32&&natural b 32&&long x 64 0 4294967295))(m2:∀a,M [[2,a]] (natural a 32))(m3:∀a b,M [[3,a,b]] (natural a 32&&natural b 32))(m4:∀a b,M [[4,a,b]] (natural a 32&&natural b 32))(m5:∀a b c,M [[5,a,b,c]] (natural a 32&&natural b 32&&natural c 32))(m6:∀a,M [[6,a]] (natural a 32))(m7:∀a b,M [[7,a,b]] (natural a 32&&natural b 32))(m8:∀a,M [[8,a]] (natural a 32))(m9:∀a,M [[9,a]] (natural a 32))(m10:∀a,M [[10,a]] (natural a 32))(m11:∀a b,M [[11,a,b]] (natural a 32&&natural b 32))(m12:∀a b,M [[12,a,b]] (natural a 32&&natural b 32))(m13:∀a b,M [[13,a,b]] (natural a 32&&natural b 32))(m14:∀a b c,M [[14,a,b,c]] (natural a 32&&natural b 32&&natural c 32))(m15:∀a b c,M [[15,a,b,c]] (natural a 32&&natural b 32&&natural c 32))(m16:∀a b c,M [[16,a,b,c]] (natural a 32&&natural b 32&&natural c 32))(m17:∀a b c d,M [[17,a,b,c,d]] (natural a 32&&natural b 32&&natural c 32&&natural d 32))(m18:∀a b,M [[18,a,b]] (natural a 32&&natural b 32))(m19:∀a b c,M [[19,a,b,c]] (natural a 32&&natural b 32&&natural c 32))(m20:∀a b c d e,M [[20,a,b,c,d,e]] (natural a 32&&natural b 32&&natural c 32&&natural d 32&&natural e 32))(m21:∀a b,M [[21,a,b]] (natural a 32&&natural b 32)):M c (KnotNeutral.asked1 c):=by
 obtain⟨p,s,xs,rfl,e⟩:=Y8 h;unfold PyWqawaw.shape at e;revert e;refine mF (fun e=>?_) ?_
 ·injection e with e;injection e with e1 e2;exact match s,xs,e1.symm,e2.symm with|[a,b],[x],_,_=>m1 a b x
 refine mF (JD m2) ?_;refine mF (rC m3) ?_;refine mF (rC m4) ?_;refine mF (xR m5) ?_;refine mF (JD m6) ?_;refine mF (rC m7) ?_;refine mF (JD m8) ?_;refine mF (JD m9) ?_;refine mF (JD m10) ?_;refine mF (rC m11) ?_;refine mF (rC m12) ?_;refine mF (rC m13) ?_;refine mF (xR m14) ?_;refine mF (xR m15) ?_;refine mF (xR m16) ?_;refine mF (xT fun|[a,b,c,d],_=>m17 a b c d) ?_;refine mF (rC m18) ?_;refine mF (xR m19) ?_;refine mF (xT fun|[a,b,c,d,e],_=>m20 a b c d e) ?_;refine mF (rC m21) ?_;nofun
theorem Tw{l t:List Int}{c:List (List Int)}(h:PyFlat.call PyWqawaw.shape l=some (c,t))(ha:KnotNeutral.asked1 c=true):∃x,KnotNeutral.callOf c=some x∧l=(enc x).map (fun n:Nat=>(n:Int))++t∧HC x:=by
 refine JR (M:=fun c b=>b=true→PyFlat.call PyWqawaw.shape l=some (c,t)→∃x,KnotNeutral.callOf c=some x∧l=(enc x).map (fun n:Nat=>(n:Int))++t∧HC x) h ?_ ?_ ?_ ?_ ?_ ?_ ?_ ?_ ?_ ?_ ?_ ?_ ?_ ?_ ?_ ?_ ?_ ?_ ?_ ?_ ?_ ha h
 ·intro a b c ha h;rw[dq,dq]at ha;obtain⟨n1,n2,n3⟩:=TR ha.2;refine⟨_,rfl,?_,by show(nats c).length≤64;simp[*]⟩;rw[Fo h];simp only[enc,a9,fK ha.1.1,fK ha.1.2,n1,n3];simp
 all_goals
  intros;rename_i ha h
  try simp only[dq]at ha
  refine⟨_,rfl,?_,trivial⟩;rw[Fo h];simp only[enc,a9,gQ]
  first
   |(obtain⟨⟨⟨⟨h1,h2⟩,h3⟩,h4⟩,h5⟩:=ha;rw[fK h1,fK h2,fK h3,fK h4,fK h5];simp;done)
   |(obtain⟨⟨⟨h1,h2⟩,h3⟩,h4⟩:=ha;rw[fK h1,fK h2,fK h3,fK h4];simp;done)
   |(obtain⟨⟨h1,h2⟩,h3⟩:=ha;rw[fK h1,fK h2,fK h3];simp;done)
   |(obtain⟨h1,h2⟩:=ha;rw[fK h1,fK h2];simp;done)
   |(rw[fK ha];simp;done)
theorem MQ{l t:List Int}{c:List (List Int)}(h:PyFlat.call PyWqawaw.shape l=some (c,t)):PyWqawaw.whole c=c:=
 JR (M:=fun c _=>PyWqawaw.whole c=c) h (fun _ _ _=>rfl) (fun _=>rfl) (fun _ _=>rfl) (fun _ _=>rfl) (fun _ _ _=>rfl) (fun _=>rfl) (fun _ _=>rfl) (fun _=>rfl) (fun _=>rfl) (fun _=>rfl) (fun _ _=>rfl) (fun _ _=>rfl) (fun _ _=>rfl) (fun _ _ _=>rfl) (fun _ _ _=>rfl) (fun _ _ _=>rfl) (fun _ _ _ _=>rfl) (fun _ _=>rfl) (fun _ _ _=>rfl) (fun _ _ _ _ _=>rfl) (fun _ _=>rfl)
theorem Ew:∀(f:Nat)(l:List Int)(cs:List (List (List Int)))(w:aR),PyFlat.calls PyWqawaw.shape f l=some cs→cs.all KnotNeutral.asked1=true→w.length=6→dM w→∃ns:List Nat,l=ns.map (fun n:Nat=>(n:Int))∧Runs cs.length w ns (PyFlat.told (PyFlat.played KnotNeutral.step w cs))
 |f,[],cs,w,h,_,_,_=>by
  have:cs=[]:=by cases f<;>(unfold PyFlat.calls at h;cases h;rfl)
  subst this;exact⟨[],rfl, .nil w⟩
 |0,_::_,cs,w,h,_,_,_=>by cases h
 |f+1,p::r,cs,w,h,ha,h6,hS=>by
  unfold PyFlat.calls at h;cases c:PyFlat.call PyWqawaw.shape (p::r)with
  |none=>rw[c]at h;cases h
  |some q=>
   obtain⟨cc,t⟩:=q;rw[c]at h;simp only at h;cases c2:PyFlat.calls PyWqawaw.shape f t with
   |none=>rw[c2]at h;cases h
   |some cs2=>
    rw[c2]at h;cases h;rw[xQ,dq]at ha;obtain⟨x,hx,hl,hr⟩:=Tw c ha.1;have ok:=VC h6 hS (enc x);obtain⟨ns,hns,ru⟩:=Ew f t cs2 (aCall w (enc x)).1 c2 ha.2 ok.1 ok.2.1;refine⟨enc x++ns,by rw[hl,hns,eJ],?_⟩;have e:KnotNeutral.step w cc=aCall w (enc x):=by rw[←step_eq w x];unfold KnotNeutral.step;rw[hx];rfl
    have e2:PyFlat.told (PyFlat.played KnotNeutral.step w (cc::cs2))=((aCall w (enc x)).2.length:Int)::((aCall w (enc x)).2++PyFlat.told (PyFlat.played KnotNeutral.step (aCall w (enc x)).1 cs2)):=by show PyFlat.told ((KnotNeutral.step w cc).2::PyFlat.played KnotNeutral.step (KnotNeutral.step w cc).1 cs2)=_;rw[e];unfold PyFlat.told;rw[dY];rfl
    rw[e2];exact Runs.cons (K_ x) (UI h6 hS hr) ok.2.2 ru
theorem JU:∀(f:Nat){l:List Int}{cs:List (List (List Int))},PyFlat.calls PyWqawaw.shape f l=some cs→cs.map PyWqawaw.whole=cs
 |f,[],cs,h=>by
  have:cs=[]:=by cases f<;>(unfold PyFlat.calls at h;cases h;rfl)
  subst this;rfl
 |0,_::_,cs,h=>by cases h
 |f+1,p::r,cs,h=>by
  unfold PyFlat.calls at h;cases c:PyFlat.call PyWqawaw.shape (p::r)with
  |none=>rw[c]at h;cases h
  |some q=>
   rw[c]at h;simp only at h;cases c2:PyFlat.calls PyWqawaw.shape f q.2 with
   |none=>rw[c2]at h;cases h
   |some cs2=>rw[c2]at h;cases h;rw[a9,MQ c,JU f c2]
theorem YO{l:List Int}(h:PyWqawaw.answers_asked l=true):∃(ns:List Nat)(n:Nat),l=ns.map (fun n:Nat=>(n:Int))∧n≤60∧Runs n (replicate 6 none) ns (PyWqawaw.answers l):=by
 unfold PyWqawaw.answers_asked PyWqawaw.calls at h;cases c:PyFlat.calls PyWqawaw.shape l.length l with
 |none=>rw[c]at h;cases h
 |some cs=>
  rw[c]at h;have em:cs.map PyWqawaw.whole=cs:=JU _ c;simp only[em]at h;rw[dq]at h;have h2:=h.2;unfold KnotNeutral.asked at h2;rw[dq,dq,dA,dA]at h2;obtain⟨ns,e,ru⟩:=Ew l.length l cs (replicate 6 none) c h2.1.1 rfl (fun d hd=>by have:=List.eq_of_mem_replicate hd;cases this);refine⟨ns,cs.length,e,h2.2,?_⟩;have ea:PyWqawaw.answers l=PyFlat.told (PyFlat.played KnotNeutral.step KnotNeutral.start cs):=by unfold PyWqawaw.answers PyWqawaw.calls;rw[c];simp only[em]
  rw[ea];exact ru
end Km
section
namespace L2
open PySem PySem.Spec PyProof.Rows
open PySem.W (WData Codec OpenSpec Well WellAll ReadsW ReadsAllW)
mutual
inductive Dw(K:YX)(H:Hp):V→WData→Prop
 |a8:Dw K H .a8 .none
 |bl (b:Bool):Dw K H (.bl b) (.bool b)
 |int (i:Int):Dw K H (.int i) (.int i)
 |str (x:Str):Dw K H (.str x) (.str x)
 |fT (b:Array UInt8):Dw K H (.fT b) (.bytes b.toList)
 |lst {a:Addr} {xs:List V} {ds:List WData}:aU K H a xs→jj K H xs ds→Dw K H (.ref a) (.list ds)
 |tup {a:Addr} {xs:List V} {ds:List WData}:dD K H a xs→jj K H xs ds→Dw K H (.ref a) (.tuple ds)
inductive jj(K:YX)(H:Hp):List V→List WData→Prop
 |nil:jj K H [] []
 |cons {v:V} {vs:List V} {d:WData} {ds:List WData}:Dw K H v d→jj K H vs ds→jj K H (v::vs) (d::ds)
end
theorem Xs{K:YX}{H:Hp}:∀ns:List Int,jj K H (ns.map V.int) (ns.map WData.int)
 |[]=> .nil
 |n::r=> .cons (.int n) (Xs r)
theorem MK{K:YX}{H:Hp}:∀(ns:List Int)(xs:List V),jj K H xs (ns.map WData.int)→xs=ns.map V.int
 |[],xs,h=>by cases h;rfl
 |n::r,xs,h=>by
  cases h with
  |cons h1 h2=>cases h1;rw[MK r _ h2]<;>rfl
section
variable{P:Program}{w:World}{K:YX}{H:Hp}{h:Heap}{R:W.WRecords}{cl:Str→Option Addr}
theorem Lp{a:Addr}{xs:List V}(aG:b_ P w H h)(KX:K.In h)(q:aU K H a xs):∃(ao:List Value)(o:Obj)(n:Nat),Vals xs ao∧h.get? a=some o∧o.cls= .type "list"∧o.data= .seq ao.toArray n:=by
 rcases q with q|⟨o,ao,n,e,hc,_,hd,_,hv⟩
 ·obtain⟨_,ao,n,hv,e⟩:=(show cw P w H h a (.lst xs)from q.ok aG);exact⟨ao,_,n,hv,e,rfl,rfl⟩
 ·exact⟨ao.toList,o,n,hv,KX _ _ e,hc,by simp[hd]⟩
theorem OT{a:Addr}{xs:List V}(aG:b_ P w H h)(KX:K.In h)(q:dD K H a xs):∃(ao:List Value)(o:Obj)(n:Nat),Vals xs ao∧h.get? a=some o∧o.cls= .type "tuple"∧o.data= .seq ao.toArray n:=by
 rcases q with q|⟨o,ao,n,e,hc,hd,_,hv⟩
 ·obtain⟨_,ao,hv,o,e,hc,n,hd⟩:=(show cw P w H h a (.tup xs)from q.ok aG);exact⟨ao,o,n,hv,e,hc,hd⟩
 ·exact⟨ao.toList,o,n,hv,KX _ _ e,hc,by simp[hd]⟩
mutual
theorem Dw.reads(aG:b_ P w H h)(KX:K.In h):∀(d:WData)(v:V)(u:Value),Dw K H v d→RelV v u→∃as,ReadsW R cl h u d as
 | .none,_,_,x,r=>by cases x;cases r;exact⟨_,ReadsW.none⟩
 | .bool b,_,_,x,r=>by cases x;cases r;exact⟨_,ReadsW.bool b⟩
 | .int i,_,_,x,r=>by cases x;obtain⟨t,rfl⟩:=r;exact⟨_,ReadsW.int i t⟩
 | .str s,_,_,x,r=>by cases x;obtain⟨t,rfl⟩:=r;exact⟨_,ReadsW.str s t⟩
 | .bytes b,_,_,x,r=>by cases x;obtain⟨t,rfl⟩:=r;exact⟨_,ReadsW.bytes _ t⟩
 | .list ds,_,_,x,r=>by
  cases x with
  |lst hs ha=>cases r;obtain⟨ao,o,n,rv,ho,hc,hd⟩:=Lp aG KX hs;obtain⟨as,hr⟩:=Dw.readsAll aG KX ds _ ao ha rv;exact⟨_,ReadsW.list ho hc hd hr⟩
 | .tuple ds,_,_,x,r=>by
  cases x with
  |tup hs ha=>cases r;obtain⟨ao,o,n,rv,ho,hc,hd⟩:=OT aG KX hs;obtain⟨as,hr⟩:=Dw.readsAll aG KX ds _ ao ha rv;exact⟨_,ReadsW.tuple ho hc hd hr⟩
 | .float _,_,_,x,_=>by cases x
 | .dict _,_,_,x,_=>by cases x
 | .bytearray _,_,_,x,_=>by cases x
 | .set _,_,_,x,_=>by cases x
 | .frozenset _,_,_,x,_=>by cases x
 | .obj _ _,_,_,x,_=>by cases x
theorem Dw.readsAll(aG:b_ P w H h)(KX:K.In h):∀(ds:List WData)(vs:List V)(us:List Value),jj K H vs ds→Vals vs us→∃as,ReadsAllW R cl h us ds as
 |[],_,_,x,r=>by cases x;cases r;exact⟨_,ReadsAllW.nil⟩
 |d::ds,_,_,x,r=>by
  cases x with
  |cons h1 h2=>
   cases r with
   |cons r1 r2=>obtain⟨as,q1⟩:=Dw.reads aG KX d _ _ h1 r1;obtain⟨bs,q2⟩:=Dw.readsAll aG KX ds _ _ h2 r2;exact⟨_,ReadsAllW.cons q1 q2⟩
end
end
mutual
def gW:WData→Bool
 | .none=>true
 | .bool _=>true
 | .int _=>true
 | .str _=>true
 | .bytes _=>true
 | .list xs=>i6 xs
 | .tuple xs=>i6 xs
 |_=>false
def i6:List WData→Bool
 |[]=>true
 |x::r=>gW x&&i6 r
end
theorem Gv{α:Type}{f:α→WData}(h:∀a,gW (f a)=true):∀l:List α,i6 (l.map f)=true
 |[]=>rfl
 |x::r=>by show(gW (f x)&&i6 (r.map f))=true;rw[h x,Gv h r]<;>rfl
theorem nP:∀(c:Codec)(a:c.denote),gW (c.enc a)=true
 | .unit,_=>rfl
 | .bool,_=>rfl
 | .int _ _,_=>rfl
 | .nat _ _,_=>rfl
 | .u8,_=>rfl
 | .bytes _ _,_=>rfl
 | .text _ _ _ _,_=>rfl
 | .list _ _ c,a=>Gv (fun x=>nP c x) a
 | .pair c d,a=>by show(gW (c.enc a.1)&&(gW (d.enc a.2)&&true))=true;rw[nP c a.1,nP d a.2]<;>rfl
 | .triple c d e,a=>by show(gW (c.enc a.1)&&(gW (d.enc a.2.1)&&(gW (e.enc a.2.2)&&true)))=true;rw[nP c a.1,nP d a.2.1,nP e a.2.2]<;>rfl
 | .option c,none=>rfl
 | .option c,some x=>nP c x
theorem Et:∀(cs:List Codec)(a:Codec.denoteAll cs),i6 (Codec.encAll cs a)=true
 |[],_=>rfl
 |c::cs,a=>by show(gW (c.enc a.1)&&i6 (Codec.encAll cs a.2))=true;rw[nP c a.1,Et cs a.2]<;>rfl
theorem Y5:∀{xs:List WData}{d:WData},d∈xs→d.weight≤WData.weightAll xs
 |[],d,h=>absurd h (by simp)
 |x::r,d,h=>by
  show d.weight≤x.weight+1+WData.weightAll r;rcases a_.mp h with e|m
  ·rw[e];omega
  ·have z:=Y5 m;omega
def toV:Value→V
 | .none=> .a8
 | .bool b=> .bl b
 | .int i _=> .int i
 | .str x _=> .str x
 | .bytes b _=> .fT b
 | .ref a=> .ref a
 |_=> .a8
def iG(A:List Addr):Value→Prop
 | .none=>True
 | .bool _=>True
 | .int _ _=>True
 | .str _ _=>True
 | .bytes _ _=>True
 | .ref a=>a∈A
 |_=>False
theorem iG.mono{A B:List Addr}(h:∀a∈A,a∈B):∀{u:Value},iG A u→iG B u:=fun{u} x=>by
 cases u with
 |ref a=>exact h a x
 |none=>trivial
 |bool b=>trivial
 |int i t=>trivial
 |str s t=>trivial
 |bytes b t=>trivial
 |_=>exact False.elim x
theorem Rr{A:List Addr}{u:Value}(x:iG A u):RelV (toV u) u:=by
 cases u with
 |ref a=>rfl
 |none=>rfl
 |bool b=>rfl
 |int i t=>exact⟨t,rfl⟩
 |str s t=>exact⟨t,rfl⟩
 |bytes b t=>exact⟨t,rfl⟩
 |_=>exact False.elim x
theorem qF{A:List Addr}:∀{vs:List Value},(∀u∈vs,iG A u)→Vals (vs.map toV) vs
 |[],_=> .nil
 |u::r,h=> .cons (Rr (h u (gN ..))) (qF fun x hx=>h x (bW _ hx))
def i3(h:Heap)(A:List Addr)(a:Addr):Prop:=∃vs:List Value,vs.length≤sizeLine∧(∀u∈vs,iG A u)∧
 (h.get? a=some {cls:= .type "list",data:= .seq vs.toArray}∨h.get? a=some {cls:= .type "tuple",data:= .seq vs.toArray})
theorem i3.mono{h:Heap}{A B:List Addr}{a:Addr}(k:∀a∈A,a∈B)(x:i3 h A a):i3 h B a:=by obtain⟨vs,h1,h2,h3⟩:=x;exact⟨vs,h1,fun u hu=>(h2 u hu).mono k,h3⟩
theorem wG{P:Params}{h:Heap}:∀{vs:List Value}{ds:List WData},WellAll P h vs ds→vs.length=ds.length
 |_,_, .nil=>rfl
 |_,_, .cons _ b=>by show _+1=_+1;rw[wG b]
theorem Ge{P:Params}{h:Heap}{v:Value}{ds:List WData}(x:Well P h v (.list ds)):∃(a:Addr)(vs:List Value),v= .ref a∧h.get? a=some {cls:= .type "list",data:= .seq vs.toArray}∧WellAll P h vs ds:=by
 cases x with
 |list ho cY=>exact⟨_,_,rfl,ho,cY⟩
theorem B_{P:Params}{h:Heap}{v:Value}{ds:List WData}(x:Well P h v (.tuple ds)):∃(a:Addr)(vs:List Value),v= .ref a∧h.get? a=some {cls:= .type "tuple",data:= .seq vs.toArray}∧WellAll P h vs ds:=by
 cases x with
 |tuple ho cY=>exact⟨_,_,rfl,ho,cY⟩
theorem HM{P:Params}{h:Heap}{us:List Value}{d:WData}{ds:List WData}(x:WellAll P h us (d::ds)):∃(v:Value)(vs:List Value),us=v::vs∧Well P h v d∧WellAll P h vs ds:=by
 cases x with
 |cons a b=>exact⟨_,_,rfl,a,b⟩
theorem C4{n:Nat}(h:n≤1048576):n≤sizeLine:=cx h (by decide)
section
variable{P:Params}{h:Heap}
mutual
theorem N5:∀(d:WData)(v:Value),Well P h v d→gW d=true→d.weight≤1048576→∃A:List Addr,iG A v∧∀a∈A,i3 h A a
 | .none,_,x,_,_=>by cases x;exact⟨[],trivial,fun a m=>absurd m (by simp)⟩
 | .bool b,_,x,_,_=>by cases x;exact⟨[],trivial,fun a m=>absurd m (by simp)⟩
 | .int i,_,x,_,_=>by cases x;exact⟨[],trivial,fun a m=>absurd m (by simp)⟩
 | .str s,_,x,_,_=>by cases x;exact⟨[],trivial,fun a m=>absurd m (by simp)⟩
 | .bytes b,_,x,_,_=>by cases x;exact⟨[],trivial,fun a m=>absurd m (by simp)⟩
 | .list ds,_,x,p,z=>by
  obtain⟨a,vs,rfl,ho,cY⟩:=Ge x;have z2:WData.weightAll ds≤1048576:=z;obtain⟨A,h1,h2⟩:=xr ds _ cY p fun d hd=>cx (Y5 hd) z2;have k:∀b∈A,b∈a::A:=fun b hb=>bW _ hb;refine⟨a::A,gN ..,fun b hb=>?_⟩;rcases a_.mp hb with e|m
  ·rw[e];exact⟨vs,C4 (by rw[wG cY];exact cx (YI ds) z2),fun u hu=>(h1 u hu).mono k, .inl ho⟩
  ·exact(h2 b m).mono k
 | .tuple ds,_,x,p,z=>by
  obtain⟨a,vs,rfl,ho,cY⟩:=B_ x;have z2:WData.weightAll ds≤1048576:=z;obtain⟨A,h1,h2⟩:=xr ds _ cY p fun d hd=>cx (Y5 hd) z2;have k:∀b∈A,b∈a::A:=fun b hb=>bW _ hb;refine⟨a::A,gN ..,fun b hb=>?_⟩;rcases a_.mp hb with e|m
  ·rw[e];exact⟨vs,C4 (by rw[wG cY];exact cx (YI ds) z2),fun u hu=>(h1 u hu).mono k, .inr ho⟩
  ·exact(h2 b m).mono k
 | .float _,_,_,p,_=>Bool.noConfusion (show false=true from p)
 | .dict _,_,_,p,_=>Bool.noConfusion (show false=true from p)
 | .bytearray _,_,_,p,_=>Bool.noConfusion (show false=true from p)
 | .set _,_,_,p,_=>Bool.noConfusion (show false=true from p)
 | .frozenset _,_,_,p,_=>Bool.noConfusion (show false=true from p)
 | .obj _ _,_,_,p,_=>Bool.noConfusion (show false=true from p)
theorem xr:∀(ds:List WData)(vs:List Value),WellAll P h vs ds→i6 ds=true→(∀d∈ds,d.weight≤1048576)→∃A:List Addr,(∀u∈vs,iG A u)∧∀a∈A,i3 h A a
 |[],_,x,_,_=>by cases x;exact⟨[],fun u m=>absurd m (by simp),fun a m=>absurd m (by simp)⟩
 |d::ds,_,x,p,z=>by
  obtain⟨v,vs,rfl,x1,x2⟩:=HM x;have q:gW d=true∧i6 ds=true:=YJ.mp p;obtain⟨A,a1,a2⟩:=N5 d v x1 q.1 (z d (gN ..));obtain⟨B,b1,b2⟩:=xr ds vs x2 q.2 fun e he=>z e (bW _ he);have kA:∀b∈A,b∈A++B:=fun b hb=>cE.mpr (.inl hb);have kB:∀b∈B,b∈A++B:=fun b hb=>cE.mpr (.inr hb);refine⟨A++B,fun u hu=>?_,fun b hb=>?_⟩
  ·rcases a_.mp hu with e|m
   ·rw[e];exact a1.mono kA
   ·exact(b1 u m).mono kB
  ·rcases cE.mp hb with m|m
   ·exact(a2 b m).mono kA
   ·exact(b2 b m).mono kB
end
end
def xj(o:Obj):Option HO:=match o.data with
 | .seq vs _=>if(o.cls==Value.type "list")=true then some (.aX o (.lst (vs.toList.map toV)))else some (.aX o (.tup (vs.toList.map toV)))
 |_=>none
def eR(K:YX)(h:Heap)(A:List Addr):Hp:=fun b=>if b∈A then(if(K.lookup b).isNone=true then(h.get? b).bind xj else none)else none
def sA(H:Hp):Prop:=∀b,H b=none∨∃o u,H b=some (.aX o u)
theorem Io(vs:List Value):xj {cls:= .type "list",data:= .seq vs.toArray}=some (.aX {cls:= .type "list",data:= .seq vs.toArray} (.lst (vs.map toV))):=by show(if(Value.type "list"==Value.type "list")=true then some (HO.aX {cls:= .type "list",data:= .seq vs.toArray} (.lst (vs.toArray.toList.map toV)))else some (HO.aX {cls:= .type "list",data:= .seq vs.toArray} (.tup (vs.toArray.toList.map toV))))=_;rw[ag (beq_self_eq_true _)]
theorem Cf(vs:List Value):xj {cls:= .type "tuple",data:= .seq vs.toArray}=some (.aX {cls:= .type "tuple",data:= .seq vs.toArray} (.tup (vs.map toV))):=by show(if(Value.type "tuple"==Value.type "list")=true then some (HO.aX {cls:= .type "tuple",data:= .seq vs.toArray} (.lst (vs.toArray.toList.map toV)))else some (HO.aX {cls:= .type "tuple",data:= .seq vs.toArray} (.tup (vs.toArray.toList.map toV))))=_;rw[af (by decide)]
section
variable{P:Program}{w:World}{K:YX}{h:Heap}{A:List Addr}
theorem wx{b:Addr}{o:Obj}(hb:b∈A)(hk:K.lookup b=none)(e:h.get? b=some o):eR K h A b=xj o:=by unfold eR;rw[ag hb,hk,ag (show(none:Option Obj).isNone=true from rfl),e]<;>rfl
theorem Vj{b:Addr}{u:HO}(q:eR K h A b=some u):b∈A∧K.lookup b=none:=by
 unfold eR at q;by_cases hb:b∈A
 ·rw[ag hb]at q;cases hk:K.lookup b with
  |none=>exact⟨hb,rfl⟩
  |some o=>rw[hk,af (by simp)]at q;cases q
 ·rw[af hb]at q;cases q
theorem xm(ar:∀a∈A,i3 h A a){b:Addr}{u:HO}(q:eR K h A b=some u):K.lookup b=none∧∃vs:List Value,vs.length≤sizeLine∧(∀u∈vs,iG A u)∧
  ((h.get? b=some {cls:= .type "list",data:= .seq vs.toArray}∧u= .aX {cls:= .type "list",data:= .seq vs.toArray} (.lst (vs.map toV)))∨
   (h.get? b=some {cls:= .type "tuple",data:= .seq vs.toArray}∧u= .aX {cls:= .type "tuple",data:= .seq vs.toArray} (.tup (vs.map toV)))):=by
 obtain⟨hb,hk⟩:=Vj q;obtain⟨vs,h1,h2,h3⟩:=ar b hb;refine⟨hk,vs,h1,h2,?_⟩;rcases h3 with e|e
 ·rw[wx hb hk e,Io]at q;exact .inl ⟨e,(eE q).symm⟩
 ·rw[wx hb hk e,Cf]at q;exact .inr ⟨e,(eE q).symm⟩
theorem VF(ar:∀a∈A,i3 h A a):sA (eR K h A):=fun b=>by
 cases q:eR K h A b with
 |none=>exact .inl rfl
 |some u=>
  obtain⟨_,vs,_,_,⟨_,e⟩|⟨_,e⟩⟩:=xm ar q
  ·exact .inr ⟨_,_,by rw[e]⟩
  ·exact .inr ⟨_,_,by rw[e]⟩
theorem VH(ar:∀a∈A,i3 h A a):b_ P w (eR K h A) h:=fun b u q=>by
 obtain⟨_,vs,h1,h2,⟨e,rfl⟩|⟨e,rfl⟩⟩:=xm ar q
 ·exact⟨e,by rw[bj];exact h1,vs,_,qF h2,e⟩
 ·exact⟨e,by rw[bj];exact h1,vs,qF h2,_,e,rfl,_,rfl⟩
theorem wO{c c':Value}{vs us:List Value}(e:(some {cls:=c,data:= .seq vs.toArray}:Option Obj)=some {cls:=c',data:= .seq us.toArray}):c=c'∧vs=us:=by have e1:=eE e;have e2:c=c':=congrArg Obj.cls e1;have e3:Data.seq vs.toArray=Data.seq us.toArray:=congrArg Obj.data e1;injection e3 with e4;refine⟨e2,?_⟩;have e5:=congrArg Array.toList e4;simpa using e5
theorem Uv(KX:K.In h)(ar:∀a∈A,i3 h A a){a:Addr}{vs:List Value}(ha:a∈A)(e:h.get? a=some {cls:= .type "list",data:= .seq vs.toArray}):(∀u∈vs,iG A u)∧aU K (eR K h A) a (vs.map toV):=by
 obtain⟨us,h1,h2,h3⟩:=ar a ha;have hu:us=vs:=by
  rcases h3 with q|q
  ·rw[e]at q;exact(wO q).2.symm
  ·rw[e]at q;exact absurd (Value.type.inj (wO q).1) (by decide)
 subst hu;refine⟨h2,?_⟩;cases hk:K.lookup a with
 |none=>exact .inl (.inr ⟨_,by rw[wx ha hk e,Io]⟩)
 |some o=>have e2:=KX a o hk;rw[e]at e2;obtain rfl:=eE e2;exact .inr ⟨_,us.toArray,_,hk,rfl,rfl,rfl,by rw[c7];exact h1,by simpa using qF h2⟩
theorem U_(KX:K.In h)(ar:∀a∈A,i3 h A a){a:Addr}{vs:List Value}(ha:a∈A)(e:h.get? a=some {cls:= .type "tuple",data:= .seq vs.toArray}):(∀u∈vs,iG A u)∧dD K (eR K h A) a (vs.map toV):=by
 obtain⟨us,h1,h2,h3⟩:=ar a ha;have hu:us=vs:=by
  rcases h3 with q|q
  ·rw[e]at q;exact absurd (Value.type.inj (wO q).1) (by decide)
  ·rw[e]at q;exact(wO q).2.symm
 subst hu;refine⟨h2,?_⟩;cases hk:K.lookup a with
 |none=>exact .inl (.inr ⟨_,by rw[wx ha hk e,Cf]⟩)
 |some o=>have e2:=KX a o hk;rw[e]at e2;obtain rfl:=eE e2;exact .inr ⟨_,us.toArray,_,hk,rfl,rfl,by rw[c7];exact h1,by simpa using qF h2⟩
mutual
theorem Ny{Pm:Params}(KX:K.In h)(ar:∀a∈A,i3 h A a):∀(d:WData)(v:Value),Well Pm h v d→gW d=true→iG A v→Dw K (eR K h A) (toV v) d
 | .none,_,x,_,_=>by cases x;exact .a8
 | .bool b,_,x,_,_=>by cases x;exact .bl b
 | .int i,_,x,_,_=>by cases x;exact .int i
 | .str s,_,x,_,_=>by cases x;exact .str s
 | .bytes b,_,x,_,_=>by cases x;have z:=Dw.fT (K:=K) (H:=eR K h A) b.toArray;exact z
 | .list ds,_,x,p,hu=>by obtain⟨a,vs,rfl,ho,cY⟩:=Ge x;obtain⟨h2,hs⟩:=Uv KX ar hu ho;exact .lst hs (vH KX ar ds _ cY p h2)
 | .tuple ds,_,x,p,hu=>by obtain⟨a,vs,rfl,ho,cY⟩:=B_ x;obtain⟨h2,hs⟩:=U_ KX ar hu ho;exact .tup hs (vH KX ar ds _ cY p h2)
 | .float _,_,_,p,_=>Bool.noConfusion (show false=true from p)
 | .dict _,_,_,p,_=>Bool.noConfusion (show false=true from p)
 | .bytearray _,_,_,p,_=>Bool.noConfusion (show false=true from p)
 | .set _,_,_,p,_=>Bool.noConfusion (show false=true from p)
 | .frozenset _,_,_,p,_=>Bool.noConfusion (show false=true from p)
 | .obj _ _,_,_,p,_=>Bool.noConfusion (show false=true from p)
theorem vH{Pm:Params}(KX:K.In h)(ar:∀a∈A,i3 h A a):∀(ds:List WData)(vs:List Value),WellAll Pm h vs ds→i6 ds=true→(∀u∈vs,iG A u)→jj K (eR K h A) (vs.map toV) ds
 |[],_,x,_,_=>by cases x;exact .nil
 |d::ds,_,x,p,hu=>by obtain⟨v,vs,rfl,x1,x2⟩:=HM x;have q:gW d=true∧i6 ds=true:=YJ.mp p;exact .cons (Ny KX ar d v x1 q.1 (hu _ (gN ..))) (vH KX ar ds vs x2 q.2 fun u m=>hu u (bW _ m))
end
end
theorem R7{P:Program}{w:World}{K:YX}{mg mb:YZ}{CX:jN}{k:Nat}{fa:Addr}{fd:FuncData}{ps:List Str}{sp:Sp}{s₁:Shared}{vals:List Value}{ds:List WData}{R:W.WRecords}{cl:Str→Option Addr}{d0:WData}
  (KX:K.In s₁.heap)(hns:s₁.heap.Ns mainGlobals mg)(hb:s₁.heap.Ns builtinsNs mb)(hbb:∀x:Str,x≠"__name__"→mb x=bootBuiltins x)(hlim:s₁.heap.NoLimit)(hg:s₁.gens=#[])
  (hwl:WellAll w.params s₁.heap vals ds)(bo:i6 ds=true)(hwt:∀d∈ds,d.weight≤1048576)(hr:bM k callerA)
  (F:∀base:Heap,K.In base→base.Ns mainGlobals mg→gU P w K mg base CX k fa fd ps sp)(hbind:∀(s:Shared)(us:List Value),us.length=ps.length→BindsTo s fd ⟨us,[]⟩ (ps.zip us))(hlen:ds.length=ps.length)
  (k_:∀(H:Hp)(xs:List V),sA H→jj K H xs ds→sp xs H (fun v H'=>Dw K H' v d0) fun _ _ _=>False)
  (hCX:∀H e s',CX [] H s₁ (fun _ _ _=>False) e s'→False):
  codeAny (model P w) callerA (.call (.ref fa) ⟨vals,[]⟩) (fun r s'=>∃u as,r= .ok (.ret u)∧ReadsW R cl s'.heap u d0 as∧OldK s₁.heap s'.heap∧s'.os=s₁.os∧AllBare s'.gens) s₁:=by
 obtain⟨A,ho,ar⟩:=xr ds vals hwl bo hwt;have hO:sA (eR K s₁.heap A):=VF ar;have aG:b_ P w (eR K s₁.heap A) s₁.heap:=VH ar;have hS:=vH KX ar ds vals hwl bo ho;have hV:=qF ho;have hK:∀b u,eR K s₁.heap A b=some u→K.lookup b=none:=fun b u q=>(xm ar q).1;have noA:∀{b:Addr}{o:Obj}{es:Array DictEntry}{ep:Nat},s₁.heap.get? b=some o→o.data= .dict es ep→eR K s₁.heap A b=none:=fun{b o es ep} e d=>by
  cases q:eR K s₁.heap A b with
  |none=>rfl
  |some u=>
   obtain⟨_,vs,_,_,⟨e2,_⟩|⟨e2,_⟩⟩:=xm ar q
   ·rw[e2]at e;cases e;have d':Data.seq vs.toArray _=Data.dict es ep:=d;cases d'
   ·rw[e2]at e;cases e;have d':Data.seq vs.toArray _=Data.dict es ep:=d;cases d'
 generalize eR K s₁.heap A=H at hO aG hS hK noA;have base_of:∀{b:Addr}{o:Obj},s₁.heap.get? b=some o→H b=none→(mn s₁.heap H).get? b=some o:=fun e n=>SK e n;have nsK:∀{b:Addr}{m:YZ},s₁.heap.Ns b m→(mn s₁.heap H).Ns b m:=fun{b m}⟨o,es,ep,e,d,r⟩=>⟨o,es,ep,base_of e (noA e d),d,r⟩;have nK:∀b o,K.lookup b=some o→H b=none:=fun b o e=>by
  cases q:H b with
  |none=>rfl
  |some u=>rw[hK b u q]at e;cases e
 have hKb:K.In (mn s₁.heap H):=fun b o e=>base_of (KX b o e) (nK b o e);have hM:Mod K mg (mn s₁.heap H):=⟨hKb,nsK hns,⟨mb,nsK hb,hbb⟩,let⟨mc,h1,h2⟩:=hlim;⟨mc,nsK h1,h2⟩⟩;have e0:pd P w K mg (mn s₁.heap H) callerA [] s₁ H:=⟨rfl,hM,fun b o e=>Wh e,xM (SQ _ _),trivial,fun b hb=>absurd (show b∈([]:List Addr)from hb) (by simp),aG, .of_eq hg⟩;have hl:vals.length=ps.length:=by rw[wG hwl];exact hlen
 refine uA ((F _ hKb (nsK hns)).run callerA [] s₁ H ⟨vals,[]⟩ vals (vals.map toV) _ _ hr e0 (hbind s₁ vals hl) hV (k_ H _ hO hS)) fun r s' x=>?_;cases r with
 |error e=>exact(hCX H e s' x).elim
 |ok fl=>
  cases fl with
  |next=>exact False.elim x
  |brk=>exact False.elim x
  |cont=>exact False.elim x
  |ret u=>
   obtain⟨v,H',os,bare,un,hok',r',q⟩:=x;have kept:∀b o,s₁.heap.get? b=some o→s'.heap.get? b=some o:=fun b o e=>by
    cases q2:H b with
    |none=>exact un.keep b o e q2 (by intro z;exact absurd (show b∈([]:List Addr)from z) (by simp)) (by simp)
    |some u2=>
     rcases hO b with z|⟨ob,u3,z⟩
     ·rw[q2]at z;cases z
     ·have z2:=un.kZ b ob _ z;obtain⟨e1,_⟩:=aG b _ z;obtain⟨e2,_⟩:=hok' b _ z2;rw[e]at e1;cases e1;exact e2
   have KX':K.In s'.heap:=fun b o e=>kept b o (KX b o e);obtain⟨as,hrd⟩:=Dw.reads (R:=R) (cl:=cl) hok' KX' d0 v u q r';exact⟨u,as,rfl,hrd,OldK.of_keep kept,os,bare⟩
theorem Uw{ds:List WData}(h:WData.layableAll ds=true):∀d∈ds,d.weight≤1048576:=fun d hd=>
 (W.layableW_iff.mp (oq.mp h d hd)).2.2
theorem Ex:∀(cs:List Codec)(a:Codec.denoteAll cs),(Codec.encAll cs a).length=cs.length
 |[],_=>rfl
 |c::cs,a=>by show(Codec.encAll cs a.2).length+1=cs.length+1;rw[Ex cs a.2]
theorem P8{r:OpenSpec}{k:Nat}{q:Program}{loose:List Str}{XP:(YZ)→Heap→Prop}{YP:World→Heap→Prop}{d:DefRec}{K:Params→YX}{CX:World→jN}{ps:List Str}{sp:World→Sp}
  (Br:r.wellSaid=true)(hdf:d.params.defaults=[])(hlen:r.args.length=ps.length)(hr:bM k callerA)
  (hY:∀(w:World)(h:Heap),YP w h→(K w.params).In h)
  (F:∀(w:World)(mg:YZ)(fa:Addr)(h:Heap),YP w h→(K w.params).In h→h.Ns mainGlobals mg→mg d.name=some (.ref fa)→
   ∃fd:FuncData,(∀(s:Shared)(us:List Value),us.length=ps.length→BindsTo s fd ⟨us,[]⟩ (ps.zip us))∧
    ∀base:Heap,(K w.params).In base→base.Ns mainGlobals mg→gU r.prog w (K w.params) mg base (CX w) k fa fd ps (sp w))
  (k_:∀(w:World)(H:Hp)(xs:List V)(a:Codec.denoteAll r.args),sA H→Codec.withinAll r.args a=true→Codec.app r.args r.asked a=true→jj (K w.params) H xs (Codec.encAll r.args a)→
   sp w xs H (fun v H'=>Dw (K w.params) H' v (r.ret.enc (Codec.app r.args r.f a))) fun _ _ _=>False)
  (hCX:∀(w:World)(H:Hp)(s:Shared)(e:Value)(s':Shared),CX w [] H s (fun _ _ _=>False) e s'→False):
  W.WalkOS q loose XP YP r d [] (fun f vs=>PySem.call f vs):=by
 intro w eM s₁ mg mb G Y fa o pm cd doc dV kV ho hd bH hD hmg hg args vals as hpre hlay hrd hwl mK;obtain⟨a,e1,e2⟩:=W.os_pre_some hpre;obtain⟨e3,hwi⟩:=Codec.encAll_of_decAll r.args args a e1;subst e3;have KX:=hY w _ Y;obtain⟨fd,hb,hF⟩:=F w mg fa _ Y KX G.T.g hmg;refine W.enter_call (uA (R7 (R:=[]) (cl:=classAt eM.heap) (d0:=r.ret.enc (Codec.app r.args r.f a)) KX G.T.g G.T.b G.T.builtins G.T.nolimit hg hwl (Et _ _) (Uw hlay) hr hF hb (by rw[Ex];exact hlen)
  (fun H xs hO hS=>k_ w H xs a hO hwi e2 hS) fun H e s'=>hCX w H s₁ e s') fun r' s' hq=>?_)
 obtain⟨u,as',rfl,h1,h2,h3,h4⟩:=hq;exact⟨.inl ⟨u,_,as',rfl,fun _=>rfl,h1,(OpenSpec.post_iff Br hwi _ _).mpr rfl,fun z=>Bool.noConfusion (show false=true from z)⟩,h2,h3,h4⟩
theorem YQ{r:OpenSpec}{k:Nat}{q:Program}{loose:List Str}{XP:(YZ)→Heap→Prop}{YP:World→Heap→Prop}{d:DefRec}{K:Params→YX}{CX:jN}{ps:List Str}{sp:YX→Sp}
  (Br:r.wellSaid=true)(hdf:d.params.defaults=[])(hlen:r.args.length=ps.length)(hr:bM k callerA)
  (hY:∀(w:World)(h:Heap),YP w h→(K w.params).In h)
  (F:∀(w:World)(mg:YZ)(fa:Addr)(h:Heap),YP w h→(K w.params).In h→h.Ns mainGlobals mg→mg d.name=some (.ref fa)→
   ∃fd:FuncData,(∀(s:Shared)(us:List Value),us.length=ps.length→BindsTo s fd ⟨us,[]⟩ (ps.zip us))∧
    ∀base:Heap,(K w.params).In base→base.Ns mainGlobals mg→gU r.prog w (K w.params) mg base CX k fa fd ps (sp (K w.params)))
  (k_:∀(K:YX)(H:Hp)(xs:List V)(a:Codec.denoteAll r.args),sA H→Codec.withinAll r.args a=true→Codec.app r.args r.asked a=true→jj K H xs (Codec.encAll r.args a)→
   sp K xs H (fun v H'=>Dw K H' v (r.ret.enc (Codec.app r.args r.f a))) fun _ _ _=>False)
  (hCX:∀(H:Hp)(s:Shared)(e:Value)(s':Shared),CX [] H s (fun _ _ _=>False) e s'→False):
  W.WalkOS q loose XP YP r d [] (fun f vs=>PySem.call f vs):=
 P8 (K:=K) (CX:=fun _=>CX) (sp:=fun w=>sp (K w.params)) Br hdf hlen hr hY F (fun w H xs a h1 h2 h3 h4=>k_ (K w.params) H xs a h1 h2 h3 h4) fun _ H s e s'=>hCX H s e s'
end L2
end
namespace Kn
open PySem PySem.Spec PyProof.Rows L2
open Kb (Cross Dia)
def yE(v:V)(u:Value):Bool:=match v,u with
 | .int n, .int m _=>n==m
 | .ref a, .ref b=>a==b
 |_,_=>false
def Fu(e:DictEntry)(k:Int)(v:V):Bool:=match e.key with
 | .int i _=>i==k&&(e.hash==hashInt k&&yE v e.val)
 |_=>false
def wD:List DictEntry→List (Int×V)→Bool
 |[],[]=>true
 |e::es,kv::ab=>Fu e kv.1 kv.2&&wD es ab
 |_,_=>false
def HV(v:Value):Bool:=match v with
 | .type n=>n=="dict"
 |_=>false
def tZ(o:Obj)(ab:List (Int×V)):Bool:=HV o.cls&&(o.dict.isNone&&(decide (o.slots.size=0)&&match o.data with
 | .dict es _=>wD es.toList ab
 |_=>false))
theorem V9(h:yE v u=true):RelV v u:=by
 unfold yE at h;split at h
 ·exact⟨_,by rw[eq_of_beq h]⟩
 ·show _=_;rw[eq_of_beq h]
 ·cases h
theorem HY:∀{es:List DictEntry}{ab:List (Int×V)},wD es ab=true→Paired (yp w) es (ab.map fun p=>((Sum.inl p.1:Key),p.2))
 |[],[],_=> .nil
 |[],_::_,h=>by cases h
 |_::_,[],h=>by cases h
 |e::es,kv::ab,h=>by
  unfold wD at h;rw[dq]at h;refine .cons ?_ (HY h.2);have h1:=h.1;unfold Fu at h1;split at h1
  ·next i t hk=>
   rw[dq,dq]at h1;refine⟨?_,eq_of_beq h1.2.1,V9 h1.2.2⟩;rw[hk,eq_of_beq h1.1];show Value.isInt kv.1 (.int kv.1 t)=true;simp[Value.isInt]
  ·cases h1
theorem y6{K:Fg}(l:K.lookup a=some o)(c:tZ o ab=true)(n:(ab.map (·.1)).Nodup)(ns:(a==sysModules)=false):jk w K a (ab.map fun p=>((Sum.inl p.1:Key),p.2)):=by
 unfold tZ at c;rw[dq,dq,dq,dA]at c;obtain⟨c1,c2,c3,c4⟩:=c;cases hd:o.data with
 |dict es ep=>
  rw[hd]at c4;refine⟨⟨o,es,ep,l,?_,YK.mp c2,Array.eq_empty_of_size_eq_zero c3,hd,HY c4⟩,?_,ns⟩
  ·unfold HV at c1;split at c1
   ·next n hc=>rw[hc,eq_of_beq c1]
   ·cases c1
  ·rw[b7];have:∀{l:List (Int×V)},(l.map (·.1)).Nodup→(l.map ((fun q:Key×V=>q.1)∘fun p=>((Sum.inl p.1:Key),p.2))).Nodup:=by
    intro l;induction l with
    |nil=>intro _;simp
    |cons x l ih=>intro h;rw[a9,fY]at h⊢;refine⟨fun m=>h.1 ?_,ih h.2⟩;obtain⟨y,hy,e⟩:=aH.mp m;have e:y.1=x.1:=Sum.inl.inj e;exact e▸List.mem_map_of_mem hy
   exact this n
 |_=>rw[hd]at c4;cases c4
section
variable{P:Program}{w:World}{K:Fg}{mg:Mg}{base:Heap}{CC CD:Addr}
theorem YL{st:Stmt}{kV doc pm cd ct:Value}(X:K.In h)(G:h.Ns mainGlobals mg)(a:W.nsIn K mainGlobals x=some (some (.ref f)))(l:K.lookup f=some ⟨oc,od, .func (W.fnOf x x (qi st) (iH st) (bE st) .none kV doc pm an cd ct),sl⟩)(c:W.codeIn K cd x=true)(k:W.keepIn K (.ref f)=true)(b:∀(kV doc pm:Value)(an:Option Addr)(bI ct:Value)(us:List Value),us.length=ps.length→bindArgs (W.fnOf x x (qi st) (iH st) (bE st) .none kV doc pm an bI ct) ⟨us,[]⟩=pure (ps.zip us)):aQ K mg x st ps:=
 ⟨f,_,DO l c k,eg X G a,(DO l c k).binds b⟩
def Jp(w:World)(K:Fg)(mg:Mg):Prop:=∃a ab,mg "TELLERS"=some (.ref a)∧jk w K a ab∧(∃f,mg "tell_drawing"=some (.ref f)∧bD ab (Sum.inl 2)=some (.ref f))∧(∃f,mg "tell_count"=some (.ref f)∧bD ab (Sum.inl 3)=some (.ref f))∧(∃f,mg "tell_strand"=some (.ref f)∧bD ab (Sum.inl 4)=some (.ref f))∧(∃f,mg "tell_sum"=some (.ref f)∧bD ab (Sum.inl 5)=some (.ref f))∧(∃f,mg "tell_writhe"=some (.ref f)∧bD ab (Sum.inl 6)=some (.ref f))∧(∃f,mg "tell_circles"=some (.ref f)∧bD ab (Sum.inl 7)=some (.ref f))∧(∃f,mg "tell_bracket"=some (.ref f)∧bD ab (Sum.inl 8)=some (.ref f))∧(∃f,mg "tell_jones"=some (.ref f)∧bD ab (Sum.inl 9)=some (.ref f))∧(∃f,mg "tell_alexander"=some (.ref f)∧bD ab (Sum.inl 10)=some (.ref f))∧(∃f,mg "tell_colours"=some (.ref f)∧bD ab (Sum.inl 11)=some (.ref f))
def E8(w:World)(K:Fg)(mg:Mg):Prop:=∃a ab,mg "MAKERS"=some (.ref a)∧jk w K a ab∧(∀q:Nat,(bD ab (Sum.inl (q:Int))).isSome=decide (12≤q∧q≤20))∧(∃f,mg "make_mirrored"=some (.ref f)∧bD ab (Sum.inl 12)=some (.ref f))∧(∃f,mg "make_turned"=some (.ref f)∧bD ab (Sum.inl 13)=some (.ref f))∧(∃f,mg "make_flipped"=some (.ref f)∧bD ab (Sum.inl 14)=some (.ref f))∧(∃f,mg "make_opened"=some (.ref f)∧bD ab (Sum.inl 15)=some (.ref f))∧(∃f,mg "make_unkinked"=some (.ref f)∧bD ab (Sum.inl 16)=some (.ref f))∧(∃f,mg "make_unpoked"=some (.ref f)∧bD ab (Sum.inl 17)=some (.ref f))∧(∃f,mg "make_plain"=some (.ref f)∧bD ab (Sum.inl 18)=some (.ref f))∧(∃f,mg "make_beside"=some (.ref f)∧bD ab (Sum.inl 19)=some (.ref f))∧(∃f,mg "make_joined"=some (.ref f)∧bD ab (Sum.inl 20)=some (.ref f))
theorem YN(X:K.In h)(G:h.Ns mainGlobals mg)(e:W.nsIn K mainGlobals "TELLERS"=some (some (.ref a)))(l:K.lookup a=some o)(e2:W.nsIn K mainGlobals "tell_drawing"=some (some (.ref f2)))(e3:W.nsIn K mainGlobals "tell_count"=some (some (.ref f3)))(e4:W.nsIn K mainGlobals "tell_strand"=some (some (.ref f4)))(e5:W.nsIn K mainGlobals "tell_sum"=some (some (.ref f5)))(e6:W.nsIn K mainGlobals "tell_writhe"=some (some (.ref f6)))(e7:W.nsIn K mainGlobals "tell_circles"=some (some (.ref f7)))(e8:W.nsIn K mainGlobals "tell_bracket"=some (some (.ref f8)))(e9:W.nsIn K mainGlobals "tell_jones"=some (some (.ref f9)))(e10:W.nsIn K mainGlobals "tell_alexander"=some (some (.ref bP)))(e11:W.nsIn K mainGlobals "tell_colours"=some (some (.ref eD)))(c:tZ o [(2, .ref f2),(3, .ref f3),(4, .ref f4),(5, .ref f5),(6, .ref f6),(7, .ref f7),(8, .ref f8),(9, .ref f9),(10, .ref bP),(11, .ref eD)]=true)(ns:(a==sysModules)=false):Jp w K mg:=by exact⟨a,_,eg X G e,y6 l c (show([2,3,4,5,6,7,8,9,10,11]:List Int).Nodup by decide) ns,⟨f2,eg X G e2,rfl⟩,⟨f3,eg X G e3,rfl⟩,⟨f4,eg X G e4,rfl⟩,⟨f5,eg X G e5,rfl⟩,⟨f6,eg X G e6,rfl⟩,⟨f7,eg X G e7,rfl⟩,⟨f8,eg X G e8,rfl⟩,⟨f9,eg X G e9,rfl⟩,⟨bP,eg X G e10,rfl⟩,⟨eD,eg X G e11,rfl⟩⟩
theorem YU(X:K.In h)(G:h.Ns mainGlobals mg)(e:W.nsIn K mainGlobals "MAKERS"=some (some (.ref a)))(l:K.lookup a=some o)(e12:W.nsIn K mainGlobals "make_mirrored"=some (some (.ref lx)))(e13:W.nsIn K mainGlobals "make_turned"=some (some (.ref f13)))(e14:W.nsIn K mainGlobals "make_flipped"=some (some (.ref f14)))(e15:W.nsIn K mainGlobals "make_opened"=some (some (.ref f15)))(e16:W.nsIn K mainGlobals "make_unkinked"=some (some (.ref f16)))(e17:W.nsIn K mainGlobals "make_unpoked"=some (some (.ref f17)))(e18:W.nsIn K mainGlobals "make_plain"=some (some (.ref f18)))(e19:W.nsIn K mainGlobals "make_beside"=some (some (.ref f19)))(e20:W.nsIn K mainGlobals "make_joined"=some (some (.ref f20)))(c:tZ o [(12, .ref lx),(13, .ref f13),(14, .ref f14),(15, .ref f15),(16, .ref f16),(17, .ref f17),(18, .ref f18),(19, .ref f19),(20, .ref f20)]=true)(ns:(a==sysModules)=false):E8 w K mg:=by
 refine⟨a,_,eg X G e,y6 l c (show([12,13,14,15,16,17,18,19,20]:List Int).Nodup by decide) ns,fun q=>?_,⟨lx,eg X G e12,rfl⟩,⟨f13,eg X G e13,rfl⟩,⟨f14,eg X G e14,rfl⟩,⟨f15,eg X G e15,rfl⟩,⟨f16,eg X G e16,rfl⟩,⟨f17,eg X G e17,rfl⟩,⟨f18,eg X G e18,rfl⟩,⟨f19,eg X G e19,rfl⟩,⟨f20,eg X G e20,rfl⟩⟩;by_cases h:12≤q∧q≤20
 ·have:q=12∨q=13∨q=14∨q=15∨q=16∨q=17∨q=18∨q=19∨q=20:=by lia
  rcases this with rfl|rfl|rfl|rfl|rfl|rfl|rfl|rfl|rfl<;>rfl
 ·rw[cU h];unfold bD;rw[Option.isSome_map,Option.isSome_eq_false_iff,YK,List.find?_eq_none];intro kv hm;simp at hm;simp;intro z;rcases hm with rfl|rfl|rfl|rfl|rfl|rfl|rfl|rfl|rfl<;>(have:=Sum.inl.inj z;lia)
theorem YM(X:K.In h)(G:h.Ns mainGlobals mg)(e:W.nsIn K mainGlobals "NUMBERS_BEHIND"=some (some (.ref a)))(l:K.lookup a=some o)(c:tZ o [(1, .int 2),(2, .int 1),(3, .int 2),(4, .int 2),(5, .int 3),(6, .int 1),(7, .int 2),(8, .int 1),(9, .int 1),(10, .int 1),(11, .int 2),(12, .int 2),(13, .int 2),(14, .int 3),(15, .int 3),(16, .int 3),(17, .int 4),(18, .int 2),(19, .int 3),(20, .int 5),(21, .int 2)]=true)(ns:(a==sysModules)=false):Behind w K mg:=by
 refine⟨a,_,eg X G e,y6 l c (by decide) ns,fun q h1 h2=>?_⟩;have:q=1∨q=2∨q=3∨q=4∨q=5∨q=6∨q=7∨q=8∨q=9∨q=10∨q=11∨q=12∨q=13∨q=14∨q=15∨q=16∨q=17∨q=18∨q=19∨q=20∨q=21:=by lia
 rcases this with rfl|rfl|rfl|rfl|rfl|rfl|rfl|rfl|rfl|rfl|rfl|rfl|rfl|rfl|rfl|rfl|rfl|rfl|rfl|rfl|rfl<;>rfl
theorem YV(T:Txt K mg CC CD)(bh:Behind w K mg)(tt:Jp w K mg)(mt:E8 w K mg)(hmg:mg "answers"=some (.ref fa)):
  ∃fd:FuncData,(∀(s:Shared)(us:List Value),us.length=(["calls"]:List Str).length→BindsTo s fd ⟨us,[]⟩ ((["calls"]:List Str).zip us))∧∀base:Heap,K.In base→base.Ns mainGlobals mg→gU P w K mg base g_ 11 fa fd ["calls"] (Ia K):=by
 obtain⟨f,fd,F,hm,b⟩:=T.hs.answers;have e:=hmg.symm.trans hm;cases e;refine⟨fd,fun s us hu=>?_,fun base _ _=>?_⟩
 ·obtain⟨oc,od,kV,doc,pm,an,bI,ct,osl,rfl,lk,bH⟩:=F.ex;exact match us,hu with|[_],_=> .of_eq rfl
 ·have tl:wC P w K mg base CC CD:=by
   obtain⟨a,ab,m,d,t2,t3,t4,t5,t6,t7,t8,t9,t10,t11⟩:=tt;refine⟨a,ab,m,d,fun q h1 h2=>?_⟩;have:q=2∨q=3∨q=4∨q=5∨q=6∨q=7∨q=8∨q=9∨q=10∨q=11:=by lia
   rcases this with rfl|rfl|rfl|rfl|rfl|rfl|rfl|rfl|rfl|rfl
   ·obtain⟨f,m1,m2⟩:=t2;exact⟨"tell_drawing",f,m1,m2,K0 T⟩
   ·obtain⟨f,m1,m2⟩:=t3;exact⟨"tell_count",f,m1,m2,Q2 T⟩
   ·obtain⟨f,m1,m2⟩:=t4;exact⟨"tell_strand",f,m1,m2,Vt T⟩
   ·obtain⟨f,m1,m2⟩:=t5;exact⟨"tell_sum",f,m1,m2,VL T⟩
   ·obtain⟨f,m1,m2⟩:=t6;exact⟨"tell_writhe",f,m1,m2,LP T⟩
   ·obtain⟨f,m1,m2⟩:=t7;exact⟨"tell_circles",f,m1,m2,NJ T⟩
   ·obtain⟨f,m1,m2⟩:=t8;exact⟨"tell_bracket",f,m1,m2,Wb T⟩
   ·obtain⟨f,m1,m2⟩:=t9;exact⟨"tell_jones",f,m1,m2,O4 T⟩
   ·obtain⟨f,m1,m2⟩:=t10;exact⟨"tell_alexander",f,m1,m2,Q9 T⟩
   ·obtain⟨f,m1,m2⟩:=t11;exact⟨"tell_colours",f,m1,m2,Rj T⟩
  have ml:vD P w K mg base CC CD:=by
   obtain⟨a,ab,m,d,s,t12,t13,t14,t15,t16,t17,t18,t19,t20⟩:=mt;refine⟨a,ab,m,d,s,fun q h1 h2=>?_⟩;have:q=12∨q=13∨q=14∨q=15∨q=16∨q=17∨q=18∨q=19∨q=20:=by lia
   rcases this with rfl|rfl|rfl|rfl|rfl|rfl|rfl|rfl|rfl
   ·obtain⟨f,m1,m2⟩:=t12;exact⟨"make_mirrored",f,m1,m2,XM T⟩
   ·obtain⟨f,m1,m2⟩:=t13;exact⟨"make_turned",f,m1,m2,L8 T⟩
   ·obtain⟨f,m1,m2⟩:=t14;exact⟨"make_flipped",f,m1,m2,Pc T⟩
   ·obtain⟨f,m1,m2⟩:=t15;exact⟨"make_opened",f,m1,m2,NR T⟩
   ·obtain⟨f,m1,m2⟩:=t16;exact⟨"make_unkinked",f,m1,m2,Rf T⟩
   ·obtain⟨f,m1,m2⟩:=t17;exact⟨"make_unpoked",f,m1,m2,Vz T⟩
   ·obtain⟨f,m1,m2⟩:=t18;exact⟨"make_plain",f,m1,m2,SY T⟩
   ·obtain⟨f,m1,m2⟩:=t19;exact⟨"make_beside",f,m1,m2,WK T⟩
   ·obtain⟨f,m1,m2⟩:=t20;exact⟨"make_joined",f,m1,m2,Mm T⟩
  exact QF T F bh tl ml
end
theorem b1{γ:List PySem.Value→Prop}(h:∀a,γ [a]):∀us,us.length=1→γ us|[a],_=>h a
theorem b2{γ:List PySem.Value→Prop}(h:∀a b,γ [a,b]):∀us,us.length=2→γ us|[a,b],_=>h a b
theorem b3{γ:List PySem.Value→Prop}(h:∀a b c,γ [a,b,c]):∀us,us.length=3→γ us|[a,b,c],_=>h a b c
theorem b4{γ:List PySem.Value→Prop}(h:∀a b c d,γ [a,b,c,d]):∀us,us.length=4→γ us|[a,b,c,d],_=>h a b c d
theorem Y0{mg:Mg}{x:PySem.Str}{n:Int}{t:PySem.Tok}(h:mg x=some (.int n t)):∃t,mg x=some (.int n t):=⟨t,h⟩
theorem Y7{K:Fg}{C f:PySem.Addr}{fd:PySem.FuncData}{q:PySem.Str}{s:PySem.Stmt}(a:L2.lW K "__init__" q s f fd)(b:L2.Mk K C f):∃f fd,L2.lW K "__init__" q s f fd∧L2.Mk K C f:=⟨f,fd,a,b⟩
end Kn
open PySem PySem.W PyProof.Rows
structure PySem.W.Fast:Prop where(tw320430744742138100 tw13337269362804621796 tw4351447882609702095 tw90619428926194487 tw11506705732459185425 tw15556002952792200682 tw6922985950196334317 tw11033616232577591069 tw3071897527355856510 tw17065195089323555768 tw1170788851575327539 tw3850749456518046693 tw10282101732744511928 tw12840909062705324234 tw13676912314885239102 tw18413995031093107836 tw430145856763489181 tw12231228078132267838 tw11010350091782603179 tw14625774641949671717 tw13994094167539647973 tw6125395141734031493 tw2803613314672391998 tw12926543834433884755 tw8935845436656914684 tw5982888319516467998 tw17036668597858067460 tw8645053656711972263 tw6427830520239859370 tw18442305993892868621 tw7444550560468693733 tw7479005048212451214 tw8683153610635515394 tw14543655188463708505 tw4529795362488590724 tw9982196178703809385 tw15520950141300174781 tw17937957491269655538 tw10131584262510556956 tw13731619095263482512 tw17838125601309187285 tw13965831153732947045 tw12192827631482932460 tw13055760239907251130 tw6492642585403166687 tw17891990261059058972 tw7581576258589072869 tw12538779322852366096 tw5423063188031998852 tw9740469934755038493 tw12440777071057654734 tw16031408804940741532 tw3197856915222417688 tw7017676218551664178 tw15135044935333530491 tw1029183960129388468 tw18408821014432191952 tw2208755364317703009 tw1340588001027736410 tw18302977808731475672 tw13664611719197491475 tw15928428941687865311 tw1959614469845990898 tw2432657660517349949 tw14180407984576553193 tw3951880518566924550 tw16479513918946044877 tw10955775854837415 tw18360580021451859006 tw17323677603848122837 tw14488183299379129973 tw10706479304308145989 tw13623154219999554939 tw1329234678976560130 tw11068908305399678746 tw12757204309104471836 tw10476157593388672626 tw13481890660913221740 tw9194362456829781856 tw11738818370903604076 tw6595256273918805922 tw3588228186914180239 tw9089615779209233198 tw9017140546815244202 tw10974227075340559792 tw1975220028490367713 tw7312569490484572319 tw9060798276906641566 tw7254275077832000526 tw646784937044740182 tw10086315935757708409 tw12502946641178279355 tw15957758950651848675 tw6856199140102906233 tw11533437991247152144 tw8228876223495656856 tw18094671086095191896 tw9656136129421032614 tw2929711556364522144 tw5876219397074832197 tw2479529894940108642 tw14244464740490966985 tw7172722594676490276 tw18345287164573286153 tw14254535596311253040 tw3777299546802515991 tw2804037262963192494 tw15365044371011593640 tw4731663959942664343 tw10161351348339680574 tw8225128335042529702 tw6738012626465802049 tw11099914091098215318 tw9412666711350729238 tw1597683864471535933 tw8693531974344013365 tw16100630501314016298 tw3450380898268482028 tw5003031993647909195 tw10125009746427552899 tw8769469269348530131 tw7987674753456190395 tw7711147811264664164 tw13405471482572846858 tw524394015987699968 tw15338728019557599344 tw17188060066023757970 tw6346540916567332564 tw18076277609571202636 tw14098288747078417632 tw3934469315354139106 tw17772150106694616204 tw12573181174263957563 tw11641007057735823414 tw16910970893713787824 tw8214764689145525122 tw16590802188173676227 tw11911201874574415423 tw17233914927990505528 tw11217038391965689760 tw11651059257411918054 tw9854834851793125993 tw2495184693854276123 tw507428751776288675 tw1797048902849911177 tw17480311134456531922 tw9461951725250721886 tw9624371664085428394 tw15798698695016275254 tw1963894257450057866 tw645092759744369084 tw13820828364908195629 tw8986220736659019396 tw18423079948023005268 tw17524991375604767011 tw1491724551086181196 tw14109423269513047503 tw8815533706031439520 tw9071296662535340399 tw6674983009292478064 tw16140882321083104226 tw71976076898680178 tw487292286312436595 tw6106226196665909717 tw16093641162007589972 tw2084983016606621750 tw9556584799361839902 tw1671480787468189479 tw3411711393068394489 tw11512048012949139603 tw10386888591357106487 tw6298433205919985733 tw9070980261381149139 tw13331764096364288044 tw8720307492956572619 tw13386565667471304688 tw4546528397539437746 tw6296953781754945557 tw9371414322985736745 tw8323780209211246947 tw11724688451818601388 tw13698487047189855783 tw1094716683549078291 tw13567120278907349283 tw17956501164886330602 tw12755770949145763161 tw6953779041587926992 tw15978103245837609898 tw13811088325198786016 tw8039542355493385972 tw6366962898878981008 tw11876367138708251574 tw3780526164059822761 tw7726876960155410175 tw5733656020619724703 tw14624877718238573673 tw4399324152898507623 tw17305180810415248154 tw11562632164880199588 tw3823298431678062723:True)
set_option maxRecDepth 100000 in
set_option maxHeartbeats 0 in
theorem PySem.Challenge.cw_knotbookdesk_s01_answers_holds : PySem.Challenge.rw_knotbookdesk_s01_answers.Holds := by
  w_on; k_headS; (case hw => exact ⟨[.list [.int 6, .int 0]], by decide +kernel, by decide +kernel⟩)
  k_fillS
  refine L2.YQ (r := PySem.Challenge.rw_knotbookdesk_s01_answers) (k := 11) (CX := L2.g_) (ps := ["calls"]) (sp := Kn.Ia) (by decide +kernel) rfl rfl ⟨rfl, by decide, by decide⟩ (fun w h Y => PySem.W.kIn_of Y) ?zF ?zS (fun _ _ _ _ z => z)
  case zF =>
    intro w mg fa h Y KX G hmg
    refine' Kn.YV ?zT ?zb ?zt ?zm hmg
    case zT =>
      refine' ⟨⟨?_, ?_, ?_, ?_⟩, ?zs, Kn.Y7 (L2.DO ?zlC ?zcC ?zkC) ⟨?zmC, ?znC, ?ziC, ?zjC⟩, Kn.Y7 (L2.DO ?zlD ?zcD ?zkD) ⟨?zmD, ?znD, ?ziD, ?zjD⟩, ⟨?_, ?_, ?_, ?_⟩, ?_, ?_, ?_, ?_, ?_, ?_, ?_, mg_of KX G ?zeC, mg_of KX G ?zeD, mg_none_of KX G ?_, mg_none_of KX G ?_, mg_none_of KX G ?_, mg_none_of KX G ?_, mg_none_of KX G ?_, mg_none_of KX G ?_, mg_none_of KX G ?_, mg_none_of KX G ?_, mg_none_of KX G ?_, mg_none_of KX G ?_, mg_none_of KX G ?_, Kn.Y0 (mg_of KX G ?_), Kn.Y0 (mg_of KX G ?_), Kn.Y0 (mg_of KX G ?_), Kn.Y0 (mg_of KX G ?_), Kn.Y0 (mg_of KX G ?_), Kn.Y0 (mg_of KX G ?_), Kn.Y0 (mg_of KX G ?_), Kn.Y0 (mg_of KX G ?_), Kn.Y0 (mg_of KX G ?_), Kn.Y0 (mg_of KX G ?_), Kn.Y0 (mg_of KX G ?_), Kn.Y0 (mg_of KX G ?_), Kn.Y0 (mg_of KX G ?_)⟩
      (case zeC => k_is); (case zeD => k_is); (case znC => k_is); (case znD => k_is); (case zlC => k_is); (case zlD => k_is)
      case zs =>
        constructor
        all_goals
          apply Kn.YL KX G
          (case a => k_is); (case l => k_is); (case c => k_is); (case k => k_is)
          case b => first | exact fun _ _ _ _ _ _ => Kn.b1 fun _ => rfl | exact fun _ _ _ _ _ _ => Kn.b2 fun _ _ => rfl | exact fun _ _ _ _ _ _ => Kn.b3 fun _ _ _ => rfl | exact fun _ _ _ _ _ _ => Kn.b4 fun _ _ _ _ => rfl
      all_goals try first | k_is | (unfold L2.ig; k_is)
    case zb =>
      apply Kn.YM KX G
      all_goals try first | k_is | rfl
    case zt =>
      apply Kn.YN KX G
      all_goals try first | k_is | rfl
    case zm =>
      apply Kn.YU KX G
      all_goals try first | k_is | rfl
  case zS =>
    intro K H xs a hO hwi hask hx
    cases hx with
    | cons h1 h2 =>
      cases h2
      cases h1 with
      | lst hs ha =>
        have e := L2.MK a.1 _ ha
        subst e
        obtain ⟨ns, n, e, hn, ru⟩ := Km.YO (l := a.1) hask
        refine ⟨_, ns, _, n, rfl, ?_, ru, hn, fun H' p hp => .lst (L2.aU.of hp) (L2.Xs _)⟩
        rw [e, b7] at hs
        exact hs
