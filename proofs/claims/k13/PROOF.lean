import PyProof.Rows.All
import Wide.All
import OpenK.AllK
import Wide.FinOn
import Lean
import PyProof.EqAt
import PyProof.EqKinds
import PyProof.TupleCall
import PyProof.ExcBaseAll.ValueError
import PyProof.InstNe
import PySem.Challenge.RW_rowtrim_k13_clubs_by_turns
import PyProof.ExcInit
import PyProof.InstStoreFacts
import PyProof.FString5
import PyProof.ListMulRoad
set_option Elab.async false
set_option linter.all false
set_option compiler.extract_closed false
set_option maxRecDepth 100000
set_option maxHeartbeats 4000000
local macro_rules
  | `(tactic| omega) => `(tactic| first | with_reducible assumption | lia | omega (config := {}))
abbrev Φ:=PySem.W.Frag
abbrev Ψ:=@PyProof.Rows.envOfC
theorem ω{p:Prop}(h:p:=by omega):p:=h
theorem δ{p:Prop}(h:p:=by decide):p:=h
theorem ς{p:Prop}(h:p:=by simp):p:=h
def aa:=@PySem.wpAny_bind
def af:=@PySem.Heap.get?_push_of_some
abbrev ag:=PySem.Value
abbrev ai:=PySem.Addr
def aj:=@PySem.wpAny_pure
abbrev ak:=PySem.Shared
def aq:=@List.length_map
def au:=@PySem.Paired.mono
def av:=@Nat.le_refl
def az:=@PySem.Heap.get?_push_size
def aA:=@Nat.le_trans
def aC:=@PySem.Heap.lt_size
def aD:=@List.mem_cons
def aE:=@PyProof.Rows.boot_isinstance
def aG:=@List.not_mem_nil
def aH:=@List.getElem?_eq_getElem
def aI:=@decide_eq_true
abbrev aJ:=PySem.Program
def aK:=@List.size_toArray
def aM:=@List.mem_append_right
def aN:=@List.length_singleton
def aP:=@if_neg
def aQ:=@List.length_append
def aT:=@if_pos
def aX:=@of_decide_eq_true
def aY:=@Nat.lt_of_lt_of_le
def ba:=@PySem.Heap.get?_update_other
def bf:=@Nat.lt_of_le_of_lt
def bj:=@Nat.ne_of_lt
def bw:=@List.getD_eq_getElem?_getD
def bz:=@Bool.false_and
def bA:=@List.mem_singleton
abbrev bB:=PySem.World
def bC:=@PySem.boot_len
def bD:=@List.getElem?_eq_some_iff
def bE:=@decide_eq_false
def bF:=@PySem.wpAny_mono
abbrev bH:=PySem.Around
def bJ:=@PySem.wpAny_newObj_type
def bK:=@List.mem_append
def bL:=@List.map_append
def bM:=@Bool.false_ne_true
def bQ:=@List.map_cons
def bR:=@PySem.wpAny_field
def cf:=@List.mem_append_left
def cg:=@List.getElem?_map
def cm:=@PySem.wpAny_holding
def cu:=@PySem.Heap.size_push
def cw:=@PySem.wpAny_seqItems
def cx:=@or_false
def cy:=@List.mem_cons_self
def cA:=@Bool.true_and
def cB:=@List.mem_cons_of_mem
def cC:=@PyProof.Rows.boot_tuple
def cF:=@List.getElem_mem
def cG:=@Ne.symm
def cI:=@PyProof.Rows.slot_tuple_getitem
def cJ:=@PySem.F.plainAttrs_list
def cM:=@PySem.wpAny_callSpecial?_slot
def cN:=@Bool.and_eq_true
def cR:=@Option.some.inj
def cT:=@List.mem_map
def cU:=@List.append_nil
def cX:=@List.mem_map_of_mem
def cY:=@PySem.Heap.get?_update_self
def cZ:=@List.take_of_length_le
def dz:=@Nat.zero_le
def dB:=@List.take_length
def dD:=@Bool.false_eq_true
def dE:=@Nat.le_of_lt
def dF:=@Int.le_trans
def dI:=@PySem.wpAny_truthy_bool
def dM:=@Nat.le_succ
def dN:=@List.mem_filter
def dO:=@List.length_cons
def dP:=@List.length_drop
def dQ:=@Nat.le_add_right
def dX:=@PySem.wpAny_call_entry
def dY:=@Nat.lt_of_le_of_ne
def d_:=@PySem.Paired.snoc
def ef:=@PySem.wpAny_setField_rec
def eK:=@Nat.add_le_add_left
def eM:=@List.length_filter_le
def eO:=@Nat.le_of_lt_succ
def fg:=@PySem.PassesOwn.never
def fj:=@Bool.and_false
def fk:=@PySem.F.slot_list_append
def fm:=@PySem.F.type_list_append
def fw:=@Nat.le_of_eq
def fz:=@PySem.W.kia_one
def fA:=@Nat.lt_trans
def fF:=@List.length_take
def fP:=@PySem.wpAny_letGo
def fQ:=@PySem.F.excAttr_ValueError
def fX:=@Nat.lt_succ_self
def f_:=@Nat.lt_irrefl
def gq:=@PySem.wpAny_Call_Name_kw
def gw:=@Nat.min_eq_left
def gE:=@Array.length_toList
def gF:=@PySem.mem_of_lookup
def gG:=@PySem.wpAny_tryCatch
def gJ:=@PyProof.Rows.callWith_type1
def gL:=@List.lookup_cons
def gM:=@PySem.codeAny_builtin
def gQ:=@beq_iff_eq
def gR:=@PySem.F.excBase_ValueError
def gS:=@PySem.W.methodCall_KW
def gT:=@PyProof.Rows.boot_str
def hW:=@PySem.sizeLine_eq
def ie:=@Nat.ne_of_gt
def ig:=@Nat.lt_succ_of_lt
def ij:=@PySem.Obj.data_mapFields
def ik:=@Bool.eq_false_iff
def ip:=@List.mem_of_mem_take
def iu:=@PySem.Obj.isFreed_of_fields
def iy:=@Option.isSome_iff_exists
def iM:=@List.filterMap_cons
def iN:=@PySem.F.slot_zip_next
def iP:=@PySem.wpAny_pyIter_list
def iQ:=@PySem.wpAny_updateSeq_pair
def iR:=@PySem.Around.under_plainId
def iS:=@PySem.codeAny_call_builtin
def iT:=@List.length_eq_zero_iff
def iZ:=@PySem.wpAny_onRaise
def i9:=@PySem.W.looks_findIn
def jc:=@PySem.W.callWith_K
def jd:=@of_decide_eq_false
def ji:=@List.nodup_cons
def jj:=@if_false
def jm:=@PySem.wpAny_setField
def jn:=@List.length_nil
def jq:=@PySem.F.plain_min_loop
def jr:=@PySem.F.plain_max_loop
def js:=@Nat.le_add_left
def jB:=@List.getElem?_eq_none
def jC:=@Int.toNat_natCast
def jD:=@Array.getD_eq_getD_getElem?
def jE:=@PySem.F.typeOf_object_class
def jS:=@congrArg
def jT:=@PySem.wpAny_passesOwn
def jU:=@Nat.le_sub_one_of_lt
def jV:=@Array.getElem?_eq_some_iff
def jX:=@PySem.wpAny_standAt
def jY:=@PySem.plainId_quiet
def j_:=@Nat.succ_le_succ
def ke:=@List.getElem_map
def kx:=@Classical.byContradiction
def ky:=@List.drop_eq_getElem_cons
def kE:=@Nat.add_sub_cancel'
def kF:=@List.map_congr_left
def kQ:=@PyProof.Rows.assignInOrder_cons
def kS:=@PySem.wpAny_rule
def kT:=@List.any_cons
def kU:=@PySem.F.slot_tuple_iterator_next
def lg:=@Nat.min_le_left
def lh:=@List.find?_cons
def lE:=@PySem.codeAny_mono
def lF:=@Nat.not_lt
def lH:=@PySem.Heap.size_update
def lI:=@List.filter_append
def lJ:=@Int.emod_lt_of_pos
def lS:=@PySem.Heap.get?_update_ne
def me:=@List.getElem?_set_self
def mf:=@Bool.not_eq_true'
def mh:=@Nat.le_of_succ_le
def mi:=@List.pairwise_map
def mv:=@PySem.wpAny_updateSeq
def mG:=@PySem.wpAny_pyIter_tuple
def mH:=@PySem.wpAny_call
def mJ:=@PySem.W.Looks.ld
def nv:=@PyProof.Rows.boot_int
def nA:=@Nat.min_le_right
def nB:=@List.all_eq_true
def nR:=@if_true
def nW:=@List.getElem?_set_ne
def nX:=@PySem.wpAny_bindName
def nY:=@PySem.wpAny_loadPart_at
def oU:=@List.forIn_cons
def oV:=@Int.emod_nonneg
def oZ:=@beq_eq_false_iff_ne
def o6:=@PySem.W.callWith_K0
def pd:=@List.map_nil
def pf:=@List.map_map
def ph:=@PySem.wpAny_typeOf_ref
def qg:=@PySem.Paired.length
def qw:=@List.mem_range
def qx:=@Nat.sub_le
def rl:=@List.take_sublist
def rm:=@decide_eq_true_eq
def rn:=@List.take_add_one
def rq:=@List.nodup_append
def rz:=@Int.mul_pos
def rA:=@List.append_assoc
def rE:=@PySem.F.args_tuple_add_2
def rF:=@PySem.wpAny_typeOf
def rG:=@PySem.W.KasT.kasWp_bind
def rH:=@Int.mul_ediv_cancel_left
def rJ:=@not_or
def tH:=@PySem.F.entry_tuple_add
def tK:=@List.zipIdx_cons
def tL:=@PySem.slot_listiter_next
def tM:=@List.filter_cons_of_pos
def tN:=@List.filter_cons_of_neg
def uJ:=@PySem.W.cellsFrom_some
def uK:=@PySem.F.slot_tuple_add
def uL:=@PySem.Calls.call_function_entry
def uM:=@PyProof.Rows.boot_bool
def uN:=@PyProof.Rows.boot_list
def u_:=@Bool.eq_iff_iff
def va:=@List.of_mem_zip
def vc:=@PySem.Obj.cls_mapFields
def vd:=@List.zipIdx_nil
def vf:=@PySem.F.args_zip_next_1
def vg:=@Nat.le_antisymm
def vB:=@PySem.wpAny_comprehension_free
def vC:=@PySem.wpAny_attempt
def vD:=@PySem.AutoSeq1.wpAny_loadPart'
def vE:=@PySem.F.entry_bexc_ga
def vF:=@PyProof.Rows.boot_all
def vG:=@PySem.F.slot_list_pop
def vH:=@PySem.F.type_list_pop
def xK:=@List.mem_of_getElem?
def xM:=@List.forIn_nil
def xN:=@PySem.F.entry_zip_next
def xO:=@PySem.wpAny_pyIter_zip
def xP:=@Nat.le_sub_of_add_le
def xQ:=@List.mem_of_mem_drop
def xR:=@List.drop_drop
def zh:=@PySem.W.plainGet_of
def zi:=@PySem.Calls.callWith_builtin
def zj:=@PySem.codeAny_compStart_list
def zk:=@Nat.sub_le_sub_left
def zm:=@Int.add_le_add_left
def zo:=@List.filter_sublist
def Ar:=@PySem.wpAny_execs_nil
def As:=@List.set_comm
def Au:=@List.all_cons
def Av:=@Bool.and_true
def AA:=@List.mem_filterMap
def AB:=@PyProof.Rows.vals1
def AD:=@Nat.sub_lt
def AE:=@Int.natAbs_natCast
def AF:=@List.pairwise_cons
def B7:=@PySem.Heap.get?_none_of_le
def B8:=@List.any_eq_false
def B9:=@PySem.wpAny_loadPart
def B_:=@PySem.Calls.evalArgs_plain
def Ca:=@PySem.wpAny_newFunctionEnv
def Cb:=@Int.toNat_le
def Cc:=@PySem.wpAny_of_eq
def Cd:=@List.length_range
def Ce:=@Nat.succ_add
def Cf:=@Int.natAbs_sub_le
def Cg:=@List.filter_congr
def Ci:=@List.length_filter_eq_length_iff
def F2:=@Nat.le_of_not_lt
def F3:=@beq_self_eq_true
def F5:=@List.ext_getElem
def F6:=@PySem.Heap.SameBut.update
def F7:=@List.filter_cons
def F8:=@PySem.W.set_dict
def F9:=@List.cons_append
def HL:=@PySem.wpAny_newList
def HM:=@Int.neg_mul
def HZ:=@PySem.Calls.spliced_cons
def H_:=@PySem.SeqAt.EqAt.str_str
def Ia:=@PySem.call_meets
def Ib:=@PySem.Code.quiet_builtin
def Ic:=@List.cons.injEq
def K_:=@And.imp
def Lu:=@Int.fdiv_eq_ediv_of_nonneg
def Lv:=@PySem.wpAny_sequenceKey
def Lw:=@Array.perm_iff_toList_perm
def Lx:=@Int.le_add_of_nonneg_right
def Ly:=@Int.natAbs_mul
def Lz:=@Int.natAbs_neg
def LA:=@List.perm_append_singleton
def LB:=@Nat.add_lt_add
def NQ:=@PySem.plainObj_wpAny_Assign_Attribute
def NR:=@PyProof.Rows.slicePart_none
def NS:=@PyProof.Rows.take_succ_getD
def NT:=@Int.natAbs_ediv_le_natAbs
def O8:=@PySem.noFill_tuple_add
def O9:=@PySem.wpAny_isInstance
def O_:=@PySem.F.entry_min_loop
def Pa:=@PySem.F.entry_max_loop
def Pb:=@List.map_take
def Pc:=@List.map_drop
def Pd:=@List.Perm.eq_of_pairwise
def So:=@Int.eq_ofNat_of_zero_le
def Sq:=@Int.mul_ediv_mul_of_pos
def Sr:=@decide_eq_false_iff_not
def S7:=@PySem.wpAny_loadPart'
def S8:=@Int.le_of_lt
def S9:=@PySem.F.args_tuple_iterator_next_1
def S_:=@List.any_map
def Ta:=@PyProof.Rows.listUpdate_at
def Tc:=@Option.map_eq_some_iff
def Td:=@Nat.gcd_comm
def Te:=@Int.mul_comm
def Tf:=@List.drop_of_length_le
def Tg:=@List.length_eq_one_iff
def dZ {n:Nat}(h:Nat.ble n 99=true:=by exact rfl):n<=PySem.sizeLine:=aA (Nat.le_of_ble_eq_true h) δ
namespace L2
open PySem PySem.Spec PyProof.Rows
abbrev Key:=Sum Bool Str
def isBoolOf (b:Bool):ag->Bool
 | .bool c=>b==c
 |_=>false
def vI (h:isBoolOf b v=true):v=.bool b:=by
 cases v<;>simp[isBoolOf] at h
 rw[h]
def Ie (b:Bool):Int:=if b then 1 else 0
def rK (h:Q (Ie b) {s with toks:=s.toks+1}):
  wpAny (model prog w) A (pyHash (.bool b)) Q E s:=by
 refine PySem.W.pyHash_slot (T:="bool") rfl F.slot_bool_hash entry_int_hash (args_int_hash _) (beq_builtin_none _) (.inl rfl) ?_
 have go:∀i:Int,reduceHash i=Ie b->wpAny (model prog w) A.in1 (do ret (<-mkInt i)) (λfin s'=>∃n t,fin=.done (.ret (.int n t))/\Q (reduceHash n) s') E s:=λi e=>aa (wpAny_mkInt (aj ⟨_,_,rfl,by rw[e];exact h⟩))
 cases b
 .exact go 0 rfl
 .exact go 1 rfl
def yj:Key->ag->Bool
 | .inl k,v=>isBoolOf k v
 | .inr x,v=>Value.isStrOf x v
def XN (w:bB):Key->Int
 | .inl k=>Ie k
 | .inr x=>hashStr w x
def gx:∀{k:Key}{v:ag},yj k v=true->(∃b,k=Sum.inl b/\v=Value.bool b)\/(∃x t,k=Sum.inr x/\v=Value.str x t)
 | .inl i,v,h=>.inl ⟨i,rfl,vI h⟩
 | .inr x,v,h=>by
  obtain⟨t,e⟩:=Value.isStrOf_shape (x:=x) (v:=v) h
  exact .inr ⟨x,t,rfl,e⟩
def Cj (b:Bool):yj (.inl b) (.bool b)=true:=by simp[yj,isBoolOf]
def F_ (x:Str) (t:Tok):yj (.inr x) (.str x t)=true:=by simp[yj,Value.isStrOf]
def Pe (a b:Bool):decide ((Sum.inl a:Key)=Sum.inl b)=(a==b):=by cases a<;>cases b<;>decide
def Pf (a b:Str):decide ((Sum.inr a:Key)=Sum.inr b)=decide (a=b):=by
 by_cases e:a=b
 .subst e;simp
 .have h:¬(Sum.inr a:Key)=Sum.inr b:=λq=>e (Sum.inr.inj q)
  rw[bE h,bE e]
def Pg (a:Bool) (b:Str):decide ((Sum.inl a:Key)=Sum.inr b)=false:=bE (λq=>nomatch q)
def Ph (a:Str) (b:Bool):decide ((Sum.inr a:Key)=Sum.inl b)=false:=bE (λq=>nomatch q)
def gK (prog:aJ) (w:bB):PySem.KeyKind prog w Key where
 is:=yj
 hash:=XN w
 inj:=λv a b ha hb=>by
  rcases gx ha with⟨i,rfl,rfl⟩|⟨x,t,rfl,rfl⟩
  .rcases gx hb with⟨j,rfl,e⟩|⟨y,u,rfl,e⟩
   .injection e with e1;rw[e1]
   .exact nomatch e
  .rcases gx hb with⟨j,rfl,e⟩|⟨y,u,rfl,e⟩
   .exact nomatch e
   .injection e with e1 _;rw[e1]
 byValue:=λk v h=>by
  rcases gx h with⟨i,rfl,rfl⟩|⟨x,t,rfl,rfl⟩<;>rfl
 pyHash:=λhv h=>by
  rcases gx hv with⟨i,rfl,rfl⟩|⟨x,t,rfl,rfl⟩
  .exact rK h
  .exact wpAny_pyHash_str h
 eqBool:=λhu hv h=>by
  rcases gx hu with⟨i,rfl,rfl⟩|⟨x,t,rfl,rfl⟩
  .rcases gx hv with⟨j,rfl,rfl⟩|⟨y,u,rfl,rfl⟩
   .rw[Pe] at h;exact SeqAt.EqAt.bool_bool i j _ _ _ _ h
   .rw[Pg] at h;exact SeqAt.EqAt.bool_str i y u _ _ _ _ h
  .rcases gx hv with⟨j,rfl,rfl⟩|⟨y,u,rfl,rfl⟩
   .rw[Ph] at h;exact SeqAt.EqAt.str_bool x t j _ _ _ _ h
   .rw[Pf] at h;exact wpAny_eqBool_str h
 «strs»:=λk x t v h=>by
  rcases gx h with⟨i,rfl,e⟩|⟨y,u,rfl,e⟩
  .exact nomatch e
  .injection e with e1 _
   subst e1
   cases v<;>rfl
def zp (prog:aJ) (w:bB) (b:Bool):(gK prog w).is (.inl b) (.bool b)=true:=Cj b
def AG (prog:aJ) (w:bB) (x:Str) (t:Tok):(gK prog w).is (.inr x) (.str x t)=true:=F_ x t
inductive V where
 |eU|bl (b:Bool)|int (i:Int)|str (x:Str)|EG (b:Array UInt8)|Pj (b:UInt64)|ref (a:ai)|ty (n:String)
 deriving DecidableEq
def RelV:V->ag->Prop
 | .eU,u=>u=Value.none
 | .bl b,u=>u=Value.bool b
 | .int i,u=>∃t,u=Value.int i t
 | .str x,u=>∃t,u=Value.str x t
 | .EG b,u=>∃t,u=Value.bytes b t
 | .Pj b,u=>∃t,u=Value.float b t
 | .ref a,u=>u=Value.ref a
 | .ty n,u=>u=Value.type n
abbrev cK:List V->List ag->Prop:=Paired RelV
def cK.length (r:cK xs us):xs.length=us.length:=qg r
def cK.get:∀{xs:List V}{us:List ag}{i:Nat}{x:V},cK xs us->xs[i]?=some x->∃u,us[i]?=some u/\RelV x u
 |_,_,_,_,.nil,e=>by simp at e
 |_,_,0,_,.cons r _,e=>by simp at e;subst e;exact⟨_,rfl,r⟩
 |_,_,i+1,x,.cons _ t,e=>by
  obtain⟨u,h1,h2⟩:=cK.get (i:=i) (x:=x) t (by simpa using e)
  exact⟨u,by simpa using h1,h2⟩
def cK.set (r:RelV x u):∀{xs:List V}{us:List ag}(i:Nat),cK xs us->cK (xs.set i x) (us.set i u)
 |_,_,_,.nil=>.nil
 |_,_,0,.cons _ t=>.cons r t
 |_,_,i+1,.cons q t=>.cons q (cK.set r i t)
def cK.append:∀{xs ys:List V}{us ws:List ag},cK xs us->cK ys ws->cK (xs++ys) (us++ws)
 |_,_,_,_,.nil,s=>s
 |_,_,_,_,.cons r t,s=>.cons r (cK.append t s)
def cK.take:∀{xs:List V}{us:List ag}(n:Nat),cK xs us->cK (xs.take n) (us.take n)
 |_,_,0,_=>.nil
 |_,_,_+1,.nil=>.nil
 |_,_,n+1,.cons r t=>.cons r (cK.take n t)
def cK.drop:∀{xs:List V}{us:List ag}(n:Nat),cK xs us->cK (xs.drop n) (us.drop n)
 |_,_,0,r=>r
 |_,_,_+1,.nil=>.nil
 |_,_,n+1,.cons _ t=>cK.drop n t
def oW:Option V->Option ag->Prop
 |some v,some u=>RelV v u
 |none,none=>True
 |_,_=>False
def KV {κ:Type}:List (κ×V)->List (κ×ag)->Prop:=Paired λ(p:κ×V) (q:κ×ag)=>p.1=q.1/\RelV p.2 q.2
def kV:Key->V
 | .inl b=>.bl b
 | .inr x=>.str x
inductive HO where
 |lst (xs:List V)
 |tup (xs:List V)
 |dK (dW:List (Key×V))|dT (dW:List (List Key×V))
 |set (S:Int->Bool) (n:Nat)
 |ins (C dx:ai) (fs:List (Str×V))
 |own (x:ai)
 |xd (fs:List (Str×V))
 |met (f x:ai)
 |WW (lo hi:Int)
 |Ck (o:Obj) (u:HO)
 |NU (ps:Array ag)
 |ext (φ:Heap->Prop)
abbrev Hp:=ai->Option HO
def upd (H:Hp) (a:ai) (o:HO):Hp:=λb=>if b=a then some o else H b
def aB:upd H a o a=some o:=by unfold upd;rw[aT rfl]
def bb (h:b≠a):upd H a o b=H b:=by unfold upd;rw[aP h]
def rL:upd (upd H a o) a u=upd H a u:=by
 funext b;unfold upd;split<;>rfl
def vJ (h:Heap) (a:ai) (items:Array ag):Prop:=∃o,h.get? a=some o/\o.cls=.type "tuple"/\o.dict=none/\∃n,o.data=.seq items n
def vJ.isTup (x:vJ h a items):IsTup h a items:=let⟨o,e,c,_,n,d⟩:=x;⟨o,e,c,n,d⟩
def vJ.lt (x:vJ h a items):a<h.objs.size:=let⟨o,e,_⟩:=x;aC e
def vJ.new (h:Heap) (items:Array ag):vJ (h.push {cls:=.type "tuple",data:=.seq items}) h.objs.size items:=⟨_,az _ rfl,rfl,rfl,_,rfl⟩
def yk {H:Hp}{a b:ai}{o u:HO}(h:H a=some o) (h':H b=some u) (d:o≠u):a≠b:=by
 intro e;subst e;rw[h] at h';exact d (cR h')
def dH {H:Hp} (h:H a=some o) (h':H b=none):a≠b:=by
 intro e;subst e;rw[h] at h';cases h'
section
variable (P:aJ) (w:bB)
def gf (H:Hp) (h:Heap) (a:ai):HO->Prop
 | .lst xs=>xs.length<=sizeLine/\∃(cV:List ag) (n:Nat),cK xs cV/\h.get? a=some {cls:=.type "list",data:=.seq cV.toArray n}
 | .tup xs=>xs.length<=sizeLine/\∃cV:List ag,cK xs cV/\vJ h a cV.toArray
 | .dK dW=>dW.length<=sizeLine/\(a==sysModules)=false/\∃vs,KV dW vs/\h.DictOf (gK P w) a vs
 | .dT dW=>dW.length<=sizeLine/\(a==sysModules)=false/\∃xs:List (List Key×ai×ag),
   Paired (λ(p:List Key×V) (q:List Key×ai×ag)=>p.1=q.1/\H q.2.1=some (.tup (p.1.map kV))/\RelV p.2 q.2.2) dW xs/\
   ∃o es ep,h.get? a=some o/\o.ExactDict/\o.data=.dict es ep/\es.toList=xs.map (entryOfKey (tupleKind (gK P w)))/\(xs.map (·.1)).Nodup
 | .set S n=>h.SetOf (intKind P w) a S n
 | .ins C dx fs=>H dx=some (.own a)/\fs.length<=1000/\dx≠a/\h.get? a=some (PySem.W.instObj C dx)/\
   ∃mA,h.Ns1 dx mA/\(∀f,oW (fs.lookup f) (mA f))/\PySem.Within mA (fs.map (·.1))
 | .own _=>∃o,h.get? a=some o
 | .xd fs=>∃mA,h.Ns1 a mA/\∀f,oW (fs.lookup f) (mA f)
 | .WW lo hi=>∃t u v,h.get? a=some {cls:=.type "range",data:=.fields #[.int lo t,.int hi u,.int 1 v]}
 | .Ck o u=>h.get? a=some o/\gf H h a u
 | .NU ps=>h.get? a=some {cls:=.none,data:=.fields ps}
 | .met f x=>h.get? a=some (PySem.W.methodObj (.ref f) (.ref x))
 | .ext φ=>φ h/\(∃o,h.get? a=some o)/\∀h1 h2:Heap,φ h1->(∀o,h1.get? a=some o->h2.get? a=some o)->φ h2
def qB (H:Hp) (h:Heap):Prop:=∀a o,H a=some o->gf P w H h a o
end
section
variable {P:aJ}{w:bB}{H H':Hp}{h h':Heap}{a:ai}{o:HO}
def gf.lt (x:gf P w H h a o):a<h.objs.size:=by
 cases o with
 |lst xs=>obtain⟨_,_,_,_,e⟩:=x;exact aC e
 |tup xs=>obtain⟨_,_,_,p⟩:=x;exact p.lt
 |dK dW=>obtain⟨_,_,_,_,o,_,_,e,_⟩:=x;exact aC e
 |dT dW=>obtain⟨_,_,_,_,o,_,_,e,_⟩:=x;exact aC e
 |set S n=>obtain⟨o,_,_,_,e,_⟩:=x;exact aC e
 |ins C dx fs=>obtain⟨_,_,_,e,_⟩:=x;exact aC e
 |own y=>obtain⟨_,e⟩:=x;exact aC e
 |xd fs=>obtain⟨_,⟨_,_,_,e,_⟩,_⟩:=x;exact aC e
 |WW lo hi=>obtain⟨_,_,_,e⟩:=x;exact aC e
 |Ck ob u=>obtain⟨e,_⟩:=x;exact aC e
 |NU ps=>exact aC (show h.get? a=some _ from x)
 |met f y=>exact aC (show h.get? a=some _ from x)
 |ext φ=>obtain⟨_,⟨_,e⟩,_⟩:=x;exact aC e
def Paired.Th {α β:Type}{F G:α->β->Prop}{l₁:List α}{l₂:List β}(h:Paired F l₁ l₂) (f:∀a b,F a b->G a b):Paired G l₁ l₂:=by
 induction h with
 |nil=>exact .nil
 |cons r _ ih=>exact .cons (f _ _ r) ih
def gf.qy (x:gf P w H h a o) (k:∀b u,(b=a\/H b=some (.own a))->h.get? b=some u->h'.get? b=some u)
  (ho:∀b,H b=some (.own a)->H' b=some (.own a)) (ht:∀b xs,H b=some (.tup xs)->H' b=some (.tup xs)):gf P w H' h' a o:=by
 induction o with
 |lst xs=>obtain⟨z,cV,n,r,e⟩:=x;exact⟨z,cV,n,r,k _ _ (.inl rfl) e⟩
 |tup xs=>obtain⟨z,cV,r,ob,e,c⟩:=x;exact⟨z,cV,r,ob,k _ _ (.inl rfl) e,c⟩
 |dK dW=>obtain⟨z,y,vs,r,ob,es,ep,e,c⟩:=x;exact⟨z,y,vs,r,ob,es,ep,k _ _ (.inl rfl) e,c⟩
 |dT dW=>
  obtain⟨z,y,xs,r,ob,es,ep,e,c⟩:=x
  exact⟨z,y,xs,Paired.Th r λp q z=>⟨z.1,ht _ _ z.2.1,z.2.2⟩,ob,es,ep,k _ _ (.inl rfl) e,c⟩
 |set S n=>obtain⟨ob,es,ep,t,e,c⟩:=x;exact⟨ob,es,ep,t,k _ _ (.inl rfl) e,c⟩
 |ins C dx fs=>
  obtain⟨d,z,ne,e,mA,⟨od,es,ep,e2,c⟩,r⟩:=x
  exact⟨ho _ d,z,ne,k _ _ (.inl rfl) e,mA,⟨od,es,ep,k _ _ (.inr d) e2,c⟩,r⟩
 |own y=>obtain⟨ob,e⟩:=x;exact⟨ob,k _ _ (.inl rfl) e⟩
 |xd fs=>obtain⟨mA,⟨od,es,ep,e,c⟩,r⟩:=x;exact⟨mA,⟨od,es,ep,k _ _ (.inl rfl) e,c⟩,r⟩
 |WW lo hi=>obtain⟨t,u,v,e⟩:=x;exact⟨t,u,v,k _ _ (.inl rfl) e⟩
 |Ck ob u ih=>obtain⟨e,q⟩:=x;exact⟨k _ _ (.inl rfl) e,ih q⟩
 |NU ps=>
  have e:h.get? a=some {cls:=.none,data:=.fields ps}:=x
  show h'.get? a=some {cls:=.none,data:=.fields ps}
  exact k a _ (.inl rfl) e
 |met f y=>
  have e:h.get? a=some (PySem.W.methodObj (.ref f) (.ref y)):=x
  show h'.get? a=some (PySem.W.methodObj (.ref f) (.ref y))
  exact k a _ (.inl rfl) e
 |ext φ=>obtain⟨p,⟨o,e⟩,st⟩:=x;exact⟨st _ _ p λo q=>k _ _ (.inl rfl) q,⟨o,k _ _ (.inl rfl) e⟩,st⟩
def qB.lt (x:qB P w H h) (e:H a=some o):a<h.objs.size:=(x a o e).lt
def qB.fresh (x:qB P w H h) (e:h.objs.size<=a):H a=none:=by
 cases q:H a with
 |none=>rfl
 |some u=>exact absurd (aY (x.lt q) e) (f_ _)
def qB.kept (x:qB P w H h) (k:∀b u,h.get? b=some u->h'.get? b=some u):qB P w H h':=λa o e=>
 (x a o e).qy (λb u _ q=>k b u q) (λ_ q=>q) λ_ _ q=>q
def qB.laid (x:qB P w H h) (k:∀b u,h.get? b=some u->h'.get? b=some u) (hp:h.objs.size<=a) (new:gf P w (upd H a o) h' a o):qB P w (upd H a o) h':=λb u e=>by
 have hn:=x.fresh hp
 by_cases hb:b=a
 .subst hb;rw[aB] at e;cases e;exact new
 .rw[bb hb] at e
  exact(x b u e).qy (λc v _ q=>k c v q) (λc q=>by rw[bb (dH q hn)];exact q) λc xs q=>by rw[bb (dH q hn)];exact q
end
def Rd (H:Hp) (a:ai) (u:HO):Prop:=H a=some u\/∃o,H a=some (.Ck o u)
def Rd.ok (r:Rd H a u) (x:qB P w H h):gf P w H h a u:=by
 rcases r with r|⟨o,r⟩
 .exact x a u r
 .obtain⟨_,q⟩:=x a _ r
  exact q
def Ti:Option HO->Prop
 |some (.lst _)=>True
 |some (.dK _)=>True
 |some (.dT _)=>True
 |some (.set _ _)=>True
 |some (.ins _ _ _)=>True
 |some (.ext _)=>True
 |_=>False
section
variable {P:aJ}{w:bB}{H:Hp}{h h':Heap}{x e:ai}{o':HO}
def qB.write (ok:qB P w H h) (mu:Ti (H x)) (he:e=x\/H e=some (.own x)) (k:∀b u,b≠e->h.get? b=some u->h'.get? b=some u) (Ss:∃u,h'.get? e=some u)
  (new:gf P w (upd H x o') h' x o'):qB P w (upd H x o') h':=λb u q=>by
 have Tj:∀c y,H c=some (.own y)->c≠x:=λc y r z=>by subst z;rw[r] at mu;exact mu
 have XO:∀c xs,H c=some (.tup xs)->c≠x:=λc xs r z=>by subst z;rw[r] at mu;exact mu
 by_cases hb:b=x
 .subst hb;rw[aB] at q;cases q;exact new
 .rw[bb hb] at q
  by_cases Pk:b=e
  .have q':H b=some (.own x):=by
    rcases he with z|z
    .exact absurd (Pk.trans z) hb
    .rw[Pk];exact z
   rw[q] at q';cases q'
   obtain⟨v,hv⟩:=Ss
   exact⟨v,by rw[Pk];exact hv⟩
  .refine(ok b u q).qy (λc v hc r=>k c v ?_ r) (λc r=>by rw[bb (Tj c b r)];exact r) λc xs r=>by rw[bb (XO c xs r)];exact r
   rcases hc with rfl|hc
   .exact Pk
   .rintro rfl
    rcases he with z|z
    .exact Tj c b hc z
    .rw[hc] at z;cases z;exact hb rfl
end
structure Un (fs ex:List ai) (H H':Hp) (h h':Heap):Prop where
 keep:∀b o,h.get? b=some o->H b=none->b∉fs->b∉ex->h'.get? b=some o
 slot:∀b o,h.get? b=some o->H b=none->b∈fs->b∉ex->∃sl,h'.get? b=some {o with slots:=sl}
 free:∀b o,h.get? b=some o->H b=none->b∉ex->H' b=none
 there:∀b o,h.get? b=some o->b∉ex->∃o',h'.get? b=some o'
 nZ:∀b xs,H b=some (.tup xs)->H' b=some (.tup xs)
 pq:∀b o u,H b=some (.Ck o u)->H' b=some (.Ck o u)
 qz:∀b ps,H b=some (.NU ps)->∃more,H' b=some (.NU (ps++more))
section
variable {fs Tn ex ex':List ai}{H H1 H2:Hp}{h h1 h2 h':Heap}{a x e:ai}{o:HO}
def Un.any (u:Un fs ex H H1 h h1) (q:h.get? b=some ob) (n:H b=none) (hx:b∉ex):∃sl,h1.get? b=some {ob with slots:=sl}:=by
 by_cases hb:b∈fs
 .exact u.slot b ob q n hb hx
 .exact⟨ob.slots,u.keep b ob q n hb hx⟩
def Un.trans (a:Un fs ex H H1 h h1) (b:Un fs ex H1 H2 h1 h2):Un fs ex H H2 h h2 where
 keep:=λc ob q n hc hx=>b.keep c ob (a.keep c ob q n hc hx) (a.free c ob q n hx) hc hx
 slot:=λc ob q n hc hx=>by
  obtain⟨sl,e1⟩:=a.slot c ob q n hc hx
  obtain⟨Ga,e2⟩:=b.slot c _ e1 (a.free c ob q n hx) hc hx
  exact⟨Ga,e2⟩
 free:=λc ob q n hx=>by
  obtain⟨o',e1⟩:=a.there c ob q hx
  exact b.free c o' e1 (a.free c ob q n hx) hx
 there:=λc ob q hx=>by
  obtain⟨o',e1⟩:=a.there c ob q hx
  exact b.there c o' e1 hx
 nZ:=λc xs q=>b.nZ c xs (a.nZ c xs q)
 pq:=λc ob xs q=>b.pq c ob xs (a.pq c ob xs q)
 qz:=λc ps q=>by
  obtain⟨m1,e1⟩:=a.qz c ps q
  obtain⟨m2,e2⟩:=b.qz c _ e1
  exact⟨m1++m2,by rw[e2,Array.append_assoc]⟩
def Un.kept (k:∀b u,h.get? b=some u->h'.get? b=some u):Un fs ex H H h h':=
 ⟨λb ob q _ _ _=>k b ob q,λb ob q _ _ _=>⟨ob.slots,k b ob q⟩,λ_ _ _ n _=>n,λb ob q _=>⟨ob,k b ob q⟩,λ_ _ q=>q,λ_ _ _ q=>q,λ_ ps q=>⟨#[],by rw[q];simp⟩⟩
def Un.refl:Un fs ex H H h h:=Un.kept λ_ _ q=>q
def Un.laid (k:∀b u,h.get? b=some u->h'.get? b=some u) (hp:h.objs.size<=a) (hn:H a=none):Un fs ex H (upd H a o) h h' where
 keep:=λb u q _ _ _=>k b u q
 slot:=λb u q _ _ _=>⟨u.slots,k b u q⟩
 free:=λb u q n _=>by rw[bb (bj (aY (aC q) hp))];exact n
 there:=λb u q _=>⟨u,k b u q⟩
 nZ:=λb xs q=>by rw[bb (dH q hn)];exact q
 pq:=λb u xs q=>by rw[bb (dH q hn)];exact q
 qz:=λb ps q=>⟨#[],by rw[bb (dH q hn),q];simp⟩
def Un.write (mu:Ti (H x)) (he:e=x\/H e=some (.own x)) (k:∀b u,b≠e->h.get? b=some u->h'.get? b=some u) (Ss:∃u,h'.get? e=some u):Un fs ex H (upd H x o) h h':=by
 have hx:∀b,H b=none->b≠x:=λb n z=>by subst z;rw[n] at mu;exact mu
 have hb:∀b,H b=none->b≠e:=λb n z=>by
  subst z
  rcases he with r|r
  .exact hx b n r
  .rw[n] at r;cases r
 have hm:∀b u,H b=some u->¬Ti (some u)->b≠x:=λb u q nm z=>by subst z;rw[q] at mu;exact nm mu
 refine⟨λb u q n _ _=>k b u (hb b n) q,λb u q n _ _=>⟨u.slots,k b u (hb b n) q⟩,λb u q n _=>by rw[bb (hx b n)];exact n,λb u q _=>?_,
  λb xs q=>by rw[bb (hm b _ q λz=>z)];exact q,λb u xs q=>by rw[bb (hm b _ q λz=>z)];exact q,λb ps q=>⟨#[],by rw[bb (hm b _ q λz=>z),q];simp⟩⟩
 by_cases Pk:b=e
 .subst Pk;exact Ss
 .exact⟨u,k b u Pk q⟩
end
def uO (h:Heap) (H:Hp):List ai:=(List.range h.objs.size).filter λa=>(H a).isSome
def zq (h:Heap) (H:Hp):Heap:=PySem.W.hideAll h (uO h H)
def Gb (h:Heap) (H:Hp):(zq h H).objs.size=h.objs.size:=PySem.W.hideAll_size _ _
def Ig (e:h.get? b=some o) (n:H b=none):(zq h H).get? b=some o:=
 PySem.W.hideAll_get _ e λhm=>by
  have q:(H b).isSome=true:=(dN.mp hm).2
  rw[n] at q;simp at q
def LC (e:(zq h H).get? b=some o):h.get? b=some o/\H b=none:=by
 have e':h.get? b=some o:=PySem.W.of_hideAll (uO h H) e
 refine⟨e',?_⟩
 cases q:H b with
 |none=>rfl
 |some x=>
  have hm:b∈uO h H:=dN.mpr ⟨qw.mpr (aC e'),by simp[q]⟩
  have z:(zq h H).get? b=none:=PySem.W.hideAll_none (uO h H) hm
  rw[z] at e;cases e
def LD (g h:Heap) (L:ai):List (ai×Obj):=(List.range h.objs.size).filterMap λa=>if a=L\/(g.get? a).isSome=true then none else(h.get? a).map λo=>(a,o)
def rest (g h:Heap) (L d:ai):List (ai×Obj):=(LD g h L).filter λp=>decide (p.1≠d)
structure Mod (K:Φ) (mg:Str->Option ag) (base:Heap):Prop where
 lT:K.In base
 glob:base.Ns mainGlobals mg
 blt:∃mb,base.Ns builtinsNs mb/\∀x:Str,x≠"__name__"->mb x=bootBuiltins x
 nolimit:base.NoLimit
structure Cx where
 prog:aJ
 w:bB
 K:Φ
 mg:Str->Option ag
 base:Heap
 A:bH
 N:List Str
 gW:ak
 Cm:Hp
 env:Env
 outer:List Env
 stack:List Env
 ex:List ai
 fn:Str->Bool
 calm:Bool
 pn:List (ai×Obj)
 xe:ag->ak->Prop
def oX (l:List Env):List ai:=l.filterMap (·.frame)
abbrev Cx.fs (X:Cx):List ai:=oX X.outer
def WX (sc:Scope) (x:Str):Prop:=sc.names.lookup x=some .local\/sc.names.lookup x=some .cell\/sc.names.lookup x=some .free
def Loc (sc:Scope) (x:Str):Prop:=sc.names.lookup x=some .local\/sc.names.lookup x=some .cell
def Look (env:Env) (h:Heap) (m:Str->Option ag) (x:Str) (u:ag):Prop:=
 (env.kindOf x=some .local/\m x=some u)\/((env.kindOf x=some .cell\/env.kindOf x=some .free)/\∃c,env.cells.lookup x=some c/\h.IsCell c (some u))
structure Cx.Ok (X:Cx):Prop where
 mod:Mod X.K X.mg X.base
 kind:X.env.scope.kind=.function
 glob:X.env.globals=mainGlobals
 blt:X.env.builtins=builtinsNs
 above:X.gW.heap.objs.size<=X.env.locals
 inj:∀x y c,X.env.cells.lookup x=some c->X.env.cells.lookup y=some c->x=y
 has:∀x,(X.env.kindOf x=some .cell\/X.env.kindOf x=some .free)->∃c,X.env.cells.lookup x=some c
 La:∀x c,X.fn x=true->X.env.cells.lookup x=some c->X.gW.heap.objs.size<=c
 hd:X.calm=true->X.A.handled=none
 frames:X.A.frames=some X.stack
 LF:X.stack=X.outer\/(X.stack=X.env::X.outer/\X.env.frame=some X.env.locals)
 Gc:∀b∈X.ex,b≠X.env.locals/\∀x c,X.env.cells.lookup x=some c->c≠b
 bs:∀b o,X.base.get? b=some o->X.gW.heap.get? b=some o/\X.Cm b=none
 Cn:X.base.objs.size<=X.gW.heap.objs.size
 xS:∀b o,X.base.get? b=some o->b∉X.ex
 uP:∀b∈X.ex,b∉X.fs
 nF:X.gW.heap.FunFrames X.base X.outer
 EH:∀b∈X.fs,X.Cm b=none
structure Inv (X:Cx) (ac:List (ai×Obj)) (Z:List (Option V)) (H:Hp) (s:ak):Prop where
 ok:X.Ok
 os:s.os=X.gW.os
 bare:AllBare s.gens
 base:Un X.fs X.ex X.Cm H X.gW.heap s.heap
 loc:∃m,s.heap.Ns X.env.locals m/\∀(i:Nat) (x:Str) (v:V),X.N[i]?=some x->Z[i]?=some (some v)->WX X.env.scope x->∃u,RelV v u/\Look X.env s.heap m x u
 cell:∀x c,X.env.cells.lookup x=some c->∃v,s.heap.IsCell c v
 free:H X.env.locals=none
 jv:∀x c,X.env.cells.lookup x=some c->H c=none
 pin:∀p∈X.pn++ac,s.heap.get? p.1=some p.2/\H p.1=none/\p.1≠X.env.locals/\p.1∉X.fs/\∀v,p.2.data≠.cell v
 eN:qB X.prog X.w H s.heap
 len:Z.length=X.N.length
section
variable {X:Cx}{ac:List (ai×Obj)}{Z:List (Option V)}{H H':Hp}{s:ak}{h':Heap}
def Cx.Ok.XQ (ok:X.Ok) (e:X.base.get? b=some o):b∉X.fs:=λhb=>by
 have:=(ok.nF.mem hb).1
 rw[e] at this;cases this
def Inv.bs (I:Inv X ac Z H s):∀b o,X.base.get? b=some o->s.heap.get? b=some o/\H b=none:=λb o e=>
 ⟨I.base.keep b o (I.ok.bs b o e).1 (I.ok.bs b o e).2 (I.ok.XQ e) (I.ok.xS b o e),I.base.free b o (I.ok.bs b o e).1 (I.ok.bs b o e).2 (I.ok.xS b o e)⟩
def Inv.bk (I:Inv X ac Z H s):∀b o,X.base.get? b=some o->s.heap.get? b=some o:=λb o e=>(I.bs b o e).1
def Inv.mod (I:Inv X ac Z H s):Mod X.K X.mg X.base:=I.ok.mod
def Inv.lK (I:Inv X ac Z H s):X.K.In s.heap:=I.ok.mod.lT.keeps I.bk
def Inv.lt (I:Inv X ac Z H s):X.env.locals<s.heap.objs.size:=let⟨_,hn,_⟩:=I.loc;hn.lt
def Inv.sz (I:Inv X ac Z H s):X.gW.heap.objs.size<=s.heap.objs.size:=aA I.ok.above (dE I.lt)
def Inv.XR (I:Inv X ac Z H s) (h:s.heap.objs.size<=a):a∉X.fs:=λhb=>by
 obtain⟨_,o,ho,_⟩:=I.ok.nF.mem hb
 exact absurd (aY (aC ho) (aA I.sz h)) (f_ _)
def Inv.Ih (I:Inv X ac Z H s):∀x c,X.env.cells.lookup x=some c->c≠X.env.locals:=λx c e z=>by
 obtain⟨v,o,ho,hd⟩:=I.cell x c e
 obtain⟨m,⟨o',es,ep,xT,XS,_⟩,_⟩:=I.loc
 rw[z,xT] at ho;cases ho;rw[XS] at hd;cases hd
def Inv.nF (I:Inv X ac Z H s):s.heap.FunFrames X.base X.outer:=by
 have all:∀(l:List Env),(∀b∈oX l,b∈X.fs)->X.gW.heap.FunFrames X.base l->s.heap.FunFrames X.base l:=by
  intro l
  induction l with
  |nil=>intro _ _;trivial
  |cons env r ih=>
   intro hs hl
   obtain⟨hk,⟨L,o,hf,hn,ho,hd⟩,hr⟩:=hl
   have hL:L∈X.fs:=hs L (by unfold oX;rw[iM,hf];exact cy)
   obtain⟨sl,e⟩:=I.base.slot L o ho (I.ok.EH L hL) hL λz=>I.ok.uP L z hL
   exact⟨hk,⟨L,_,hf,hn,e,hd⟩,ih (λb hb=>hs b (by unfold oX;rw[iM,hf];exact cB _ hb)) hr⟩
 exact all X.outer (λ_ hb=>hb) I.ok.nF
def Inv.stack (I:Inv X ac Z H s):s.heap.FunFrames X.base X.stack:=by
 rcases I.ok.LF with e|⟨e,hf⟩
 .rw[e];exact I.nF
 .rw[e]
  obtain⟨m,hn,_⟩:=I.loc
  refine .cons (by rw[I.ok.kind];decide) hf hn ?_ I.nF
  exact B7 (aA I.ok.Cn I.ok.above)
def Inv.tO (I:Inv X ac Z H s):∀b∈oX X.stack,b∈X.env.locals::X.fs:=λb hb=>by
 rcases I.ok.LF with e|⟨e,hf⟩
 .rw[e] at hb;exact cB _ hb
 .rw[e] at hb
  unfold oX at hb
  rw[iM,hf] at hb
  exact hb
def Inv.zr (I:Inv X ac Z H s):∀b∈oX X.stack,H b=none:=λb hb=>by
 rcases aD.mp (I.tO b hb) with e|hb
 .rw[e];exact I.free
 .obtain⟨_,o,ho,_⟩:=I.ok.nF.mem hb
  exact I.base.free b o ho (I.ok.EH b hb) λz=>I.ok.uP b z hb
def Inv.step {g':Array GenState}{t':Nat}{d':Drawn}{ch:List ai}(I:Inv X ac Z H s)
  (Lb:∀b∈ch,(b∈X.ex\/X.gW.heap.objs.size<=b)/\b≠X.env.locals/\(∀x c,X.env.cells.lookup x=some c->c≠b)/\∀p∈X.pn++ac,p.1≠b)
  (keep:∀b o,b≠X.env.locals->b∉X.fs->b∉ch->s.heap.get? b=some o->H b=none->h'.get? b=some o)
  (slot:∀b o,b≠X.env.locals->b∈X.fs->b∉ch->s.heap.get? b=some o->H b=none->∃sl,h'.get? b=some {o with slots:=sl}) (free:∀b o,b∉ch->s.heap.get? b=some o->H b=none->H' b=none)
  (there:∀b o,b∉ch->s.heap.get? b=some o->∃o',h'.get? b=some o')
  (nZ:∀b xs,H b=some (.tup xs)->H' b=some (.tup xs)) (pq:∀b o u,H b=some (.Ck o u)->H' b=some (.Ck o u)) (qz:∀b ps,H b=some (.NU ps)->∃more,H' b=some (.NU (ps++more)))
  (ns:∀m,s.heap.Ns X.env.locals m->h'.Ns X.env.locals m) (eN:qB X.prog X.w H' h') (hg:AllBare g'):
  Inv X ac Z H' {s with heap:=h',gens:=g',drawn:=d',toks:=t'}:=by
 have neL:∀b o,X.gW.heap.get? b=some o->b≠X.env.locals:=λb o e=>bj (aY (aC e) I.ok.above)
 have WY:∀b o,X.gW.heap.get? b=some o->b∉X.ex->b∉ch:=λb o e hx hb=>by
  rcases(Lb b hb).1 with z|z
  .exact hx z
  .exact absurd (aY (aC e) z) (f_ _)
 have cellK:∀x c,X.env.cells.lookup x=some c->∀v,s.heap.IsCell c v->h'.IsCell c v:=λx c e v ⟨o,ho,hd⟩=>by
  have To:c∉ch:=λz=>(Lb c z).2.2.1 x c e rfl
  by_cases hc:c∈X.fs
  .obtain⟨sl,q⟩:=slot c o (I.Ih x c e) hc To ho (I.jv x c e)
   exact⟨_,q,hd⟩
  .exact⟨o,keep c o (I.Ih x c e) hc To ho (I.jv x c e),hd⟩
 refine⟨I.ok,I.os,hg,⟨λb o e n hb hx=>?_,λb o e n hb hx=>?_,λb o e n hx=>?_,λb o e hx=>?_,λb xs e=>nZ b xs (I.base.nZ b xs e),λb o xs e=>pq b o xs (I.base.pq b o xs e),λb ps e=>?_⟩,?_,λx c e=>?_,?_,λx c e=>?_,λp hp=>?_,eN,I.len⟩
 .exact keep b o (neL b o e) hb (WY b o e hx) (I.base.keep b o e n hb hx) (I.base.free b o e n hx)
 .obtain⟨sl,e1⟩:=I.base.slot b o e n hb hx
  obtain⟨Ga,e2⟩:=slot b _ (neL b o e) hb (WY b o e hx) e1 (I.base.free b o e n hx)
  exact⟨Ga,e2⟩
 .obtain⟨o',e1⟩:=I.base.there b o e hx
  exact free b o' (WY b o e hx) e1 (I.base.free b o e n hx)
 .obtain⟨o',e1⟩:=I.base.there b o e hx
  exact there b o' (WY b o e hx) e1
 .obtain⟨m1,e1⟩:=I.base.qz b ps e
  obtain⟨m2,e2⟩:=qz b _ e1
  exact⟨m1++m2,by rw[e2,Array.append_assoc]⟩
 .obtain⟨m,hn,hl⟩:=I.loc
  refine⟨m,ns m hn,λi x v e1 e2 e3=>?_⟩
  obtain⟨u,r,l⟩:=hl i x v e1 e2 e3
  refine⟨u,r,?_⟩
  rcases l with l|⟨k,c,e,z⟩
  .exact .inl l
  .exact .inr ⟨k,c,e,cellK x c e _ z⟩
 .obtain⟨v,z⟩:=I.cell x c e
  exact⟨v,cellK x c e v z⟩
 .obtain⟨m,⟨o,_,_,ho,_⟩,_⟩:=I.loc
  exact free _ o (λz=>(Lb _ z).2.1 rfl) ho I.free
 .obtain⟨v,o,ho,hd⟩:=I.cell x c e
  exact free c o (λz=>(Lb c z).2.2.1 x c e rfl) ho (I.jv x c e)
 .obtain⟨e,n,ne,nf,d⟩:=I.pin p hp
  have To:p.1∉ch:=λz=>(Lb p.1 z).2.2.2 p hp rfl
  exact⟨keep p.1 p.2 ne nf To e n,free p.1 p.2 To e n,ne,nf,d⟩
def Inv.un {t':Nat}(I:Inv X ac Z H s) (u:Un X.fs [] H H' s.heap h') (eN:qB X.prog X.w H' h'):Inv X ac Z H' {s with heap:=h',toks:=t'}:=by
 obtain⟨m,⟨o,es,ep,ho,r⟩,_⟩:=id I.loc
 obtain⟨sl,hL⟩:=u.any ho I.free ς
 exact I.step (g':=s.gens) (d':=s.drawn) (ch:=[]) (λ_ z=>nomatch z) (λb o _ hb _ e n=>u.keep b o e n hb ς) (λb o _ hb _ e n=>u.slot b o e n hb ς) (λb o _ e n=>u.free b o e n ς) (λb o _ e=>u.there b o e ς) u.nZ u.pq u.qz (λm' hm=>by
  obtain⟨o',WZ,XT,xT,r'⟩:=hm
  rw[ho] at xT;cases xT
  exact⟨_,WZ,XT,hL,r'⟩) eN I.bare
def Inv.call {g':Array GenState}{t':Nat}{d':Drawn}{ch:List ai}(I:Inv X ac Z H s) (u:Un (oX X.stack) ch H H' s.heap h') (eN:qB X.prog X.w H' h') (hg:AllBare g')
  (Lb:∀b∈ch,(b∈X.ex\/X.gW.heap.objs.size<=b)/\b≠X.env.locals/\(∀x c,X.env.cells.lookup x=some c->c≠b)/\∀p∈X.pn++ac,p.1≠b):
  Inv X ac Z H' {s with heap:=h',gens:=g',drawn:=d',toks:=t'}:=by
 obtain⟨m,⟨o,es,ep,ho,r⟩,_⟩:=id I.loc
 obtain⟨sl,hL⟩:=u.any ho I.free λz=>(Lb _ z).2.1 rfl
 exact I.step (ch:=ch) Lb (λb o hL hb hc e n=>u.keep b o e n (λz=>(aD.mp (I.tO b z)).elim hL hb) hc) (λb o _ _ hc e n=>u.any e n hc) (λb o hc e n=>u.free b o e n hc) (λb o hc e=>u.there b o e hc) u.nZ u.pq u.qz (λm' hm=>by
  obtain⟨o',WZ,XT,xT,r'⟩:=hm
  rw[ho] at xT;cases xT
  exact⟨_,WZ,XT,hL,r'⟩) eN hg
def Inv.turned {t':Nat}{it:ai}(I:Inv X ac Z H s) (k:∀b o,b≠it->s.heap.get? b=some o->h'.get? b=some o) (hn:H it=none) (hL:it≠X.env.locals)
  (h1:it∈X.ex\/X.gW.heap.objs.size<=it) (h2:∀x c,X.env.cells.lookup x=some c->c≠it) (h3:∀p∈X.pn++ac,p.1≠it):Inv X ac Z H {s with heap:=h',toks:=t'}:=by
 have Su:∀b u,H b=some u->b≠it:=λb u e z=>by rw[z,hn] at e;cases e
 refine I.step (g':=s.gens) (d':=s.drawn) (ch:=[it]) (λb hb=>?_) (λb o _ _ hc e _=>k b o (λz=>hc (by simp[z])) e) (λb o _ _ hc e _=>⟨o.slots,k b o (λz=>hc (by simp[z])) e⟩) (λ_ _ _ _ n=>n)
  (λb o hc e=>⟨o,k b o (λz=>hc (by simp[z])) e⟩) (λ_ _ e=>e) (λ_ _ _ e=>e) (λb ps e=>⟨#[],by rw[e];simp⟩) (λm hm=>?_) (λb u e=>?_) I.bare
 .have e:b=it:=by simpa using hb
  subst e
  exact⟨h1,hL,h2,h3⟩
 .obtain⟨o,es,ep,ho,r⟩:=hm
  exact⟨o,es,ep,k _ o (cG hL) ho,r⟩
 .refine(I.eN b u e).qy (λc v hc q=>k c v ?_ q) (λ_ q=>q) λ_ _ q=>q
  rcases hc with z|z
  .rw[z];exact Su b u e
  .exact Su c _ z
def Inv.tok (I:Inv X ac Z H s) (t:Nat):Inv X ac Z H {s with toks:=t}:=I.un (h':=s.heap) (t':=t) Un.refl I.eN
def Inv.kept {t':Nat}(I:Inv X ac Z H s) (k:∀b u,s.heap.get? b=some u->h'.get? b=some u):Inv X ac Z H {s with heap:=h',toks:=t'}:=I.un (Un.kept k) (I.eN.kept k)
def Inv.laid {a:ai}{o:HO}{t':Nat}(I:Inv X ac Z H s) (k:∀b u,s.heap.get? b=some u->h'.get? b=some u) (hp:s.heap.objs.size<=a) (new:gf X.prog X.w (upd H a o) h' a o):
  Inv X ac Z (upd H a o) {s with heap:=h',toks:=t'}:=I.un (Un.laid k hp (I.eN.fresh hp)) (I.eN.laid k hp new)
def Inv.write {x e:ai}{o:HO}{t':Nat}(I:Inv X ac Z H s) (mu:Ti (H x)) (he:e=x\/H e=some (.own x)) (k:∀b u,b≠e->s.heap.get? b=some u->h'.get? b=some u) (Ss:∃u,h'.get? e=some u)
  (new:gf X.prog X.w (upd H x o) h' x o):Inv X ac Z (upd H x o) {s with heap:=h',toks:=t'}:=I.un (Un.write mu he k Ss) (I.eN.write mu he k Ss new)
def Inv.EI (I:Inv X ac Z H s) (h:∀p∈EJ,s.heap.get? p.1=some p.2/\H p.1=none/\p.1≠X.env.locals/\p.1∉X.fs/\∀v,p.2.data≠.cell v):Inv X EJ Z H s:=
 ⟨I.ok,I.os,I.bare,I.base,I.loc,I.cell,I.free,I.jv,λp hp=>(bK.mp hp).elim (λz=>I.pin p (cf _ z)) (h p),I.eN,I.len⟩
def vK {N:List Str}(hN:N.Nodup) {i j:Nat}(a:N[i]?=some x) (b:N[j]?=some x):i=j:=by
 obtain⟨h1,e1⟩:=bD.mp a
 obtain⟨h2,e2⟩:=bD.mp b
 exact(List.getElem_inj hN).mp (e1.trans e2.symm)
def qi {M:Model}{A:bH}{E:ag->ak->Prop}{i:Nat}{x:Str}{v:V}{u:ag}{Q:Unit->ak->Prop}(I:Inv X ac Z H s) (hN:X.N.Nodup) (hi:X.N[i]?=some x) (hx:Loc X.env.scope x) (r:RelV v u)
  (h:∀s',Inv X ac (Z.set i (some v)) H s'->(∃a,Heap.SameBut a s.heap s'.heap/\(a=X.env.locals\/X.env.cells.lookup x=some a))->Q () s') (hf:X.fn x=true\/X.env.scope.names.lookup x=some .local:=by first|exact .inl rfl|exact .inr rfl|assumption):wpAny M A (storeName X.env x u) Q E s:=by
 obtain⟨m,hn,hl⟩:=id I.loc
 have Pl:(X.env.scope.kind== .class||(X.env.scope.kind== .module&&X.env.locals !=X.env.globals))=false:=by rw[I.ok.kind];rfl
 have Gd:i<Z.length:=by rw[I.len];exact(bD.mp hi).1
 have Ih:=I.Ih
 have tracked:∀{a:ai} {h':Heap},(∃o,s.heap.get? a=some o/\H a=none)->Heap.SameBut a s.heap h'->qB X.prog X.w H h':=λ{a h'} ha hs b ob e=>by
  obtain⟨_,_,EK⟩:=ha
  refine(I.eN b ob e).qy (λc w' hc q=>(hs.2 c ?_).trans q) (λ_ q=>q) λ_ _ q=>q
  rintro rfl
  rcases hc with rfl|hc
  .rw[EK] at e;cases e
  .rw[EK] at hc;cases hc
 rcases hx with hk|hk
 .refine wpAny_storeName_local hk hn (λh' W0 hs=>?_) Pl
  obtain⟨oL,_,_,hoL,_⟩:=id hn
  refine h _ ⟨I.ok,I.os,I.bare,⟨λb o e n hb hx=>?_,λb o e n hb hx=>?_,I.base.free,λb o e hx=>?_,I.base.nZ,I.base.pq,I.base.qz⟩,⟨_,W0,λj y v' e1 e2 e3=>?_⟩,λy c e=>?_,I.free,I.jv,λp hp=>?_,tracked ⟨oL,hoL,I.free⟩ hs,by simpa using I.len⟩ ⟨_,hs,.inl rfl⟩
  .exact(hs.2 b (bj (aY (aC e) I.ok.above))).trans (I.base.keep b o e n hb hx)
  .obtain⟨sl,e1⟩:=I.base.slot b o e n hb hx
   exact⟨sl,(hs.2 b (bj (aY (aC e) I.ok.above))).trans e1⟩
  .obtain⟨o',e1⟩:=I.base.there b o e hx
   exact⟨o',(hs.2 b (bj (aY (aC e) I.ok.above))).trans e1⟩
  .by_cases hj:j=i
   .subst hj
    rw[hi] at e1;cases e1
    rw[me Gd] at e2
    cases e2
    exact⟨u,r,.inl ⟨hk,ς⟩⟩
   .rw[nW (cG hj)] at e2
    obtain⟨u',r',q⟩:=hl j y v' e1 e2 e3
    refine⟨u',r',?_⟩
    rcases q with⟨k,e⟩|⟨k,c,e,z⟩
    .refine .inl ⟨k,?_⟩
     have:y≠x:=λe=>hj (vK hN e1 (e▸hi))
     simp[this,e]
    .exact .inr ⟨k,c,e,z.sameBut hs (Ih y c e)⟩
  .obtain⟨w',z⟩:=I.cell y c e
   exact⟨w',z.sameBut hs (Ih y c e)⟩
  .obtain⟨e,n,ne,nf,d⟩:=I.pin p hp
   exact⟨(hs.2 p.1 ne).trans e,n,ne,nf,d⟩
 .have BR:X.fn x=true:=by
   rcases hf with z|z
   .exact z
   .rw[z] at hk;cases hk
  obtain⟨c,hc⟩:=I.ok.has x (.inl hk)
  obtain⟨w',z⟩:=I.cell x c hc
  refine wpAny_storeName_cell I.ok.kind hk hc z (λh' xF hs=>?_)
  obtain⟨oc,Tr,XU⟩:=id z
  refine h {s with heap:=h'} ⟨I.ok,I.os,I.bare,⟨λb o e n hb hx=>?_,λb o e n hb hx=>?_,I.base.free,λb o e hx=>?_,I.base.nZ,I.base.pq,I.base.qz⟩,⟨m,hn.sameBut hs (cG (Ih x c hc)),λj y v' e1 e2 e3=>?_⟩,λy c' e=>?_,I.free,I.jv,λp hp=>?_,tracked ⟨oc,Tr,I.jv x c hc⟩ hs,by simpa using I.len⟩ ⟨c,hs,.inr hc⟩
  .exact(hs.2 b (bj (aY (aC e) (I.ok.La x c BR hc)))).trans (I.base.keep b o e n hb hx)
  .obtain⟨sl,e1⟩:=I.base.slot b o e n hb hx
   exact⟨sl,(hs.2 b (bj (aY (aC e) (I.ok.La x c BR hc)))).trans e1⟩
  .obtain⟨o',e1⟩:=I.base.there b o e hx
   exact⟨o',(hs.2 b (bj (aY (aC e) (I.ok.La x c BR hc)))).trans e1⟩
  .by_cases hj:j=i
   .subst hj
    rw[hi] at e1;cases e1
    rw[me Gd] at e2
    cases e2
    exact⟨u,r,.inr ⟨.inl hk,c,hc,xF⟩⟩
   .rw[nW (cG hj)] at e2
    obtain⟨u',r',q⟩:=hl j y v' e1 e2 e3
    refine⟨u',r',?_⟩
    rcases q with q|⟨k,c',e,z'⟩
    .exact .inl q
    .refine .inr ⟨k,c',e,z'.sameBut hs ?_⟩
     rintro rfl
     exact hj (vK hN e1 (I.ok.inj _ _ _ e hc▸hi))
  .by_cases Ts:c'=c
   .subst Ts;exact⟨_,xF⟩
   .obtain⟨w2,z2⟩:=I.cell y c' e
    exact⟨w2,z2.sameBut hs Ts⟩
  .obtain⟨e,n,ne,nf,d⟩:=I.pin p hp
   refine⟨(hs.2 p.1 ?_).trans e,n,ne,nf,d⟩
   intro q
   rw[q,Tr] at e
   have q':oc=p.2:=cR e
   exact d w' (by rw[<-q'];exact XU)
def lU (I:Inv X ac Z H s) (hN:X.N.Nodup) (hi:X.N[i]?=some x) (hx:Loc X.env.scope x) (r:RelV v u)
  (h:∀s',Inv X ac (Z.set i (some v)) H s'->Q () s') (hf:X.fn x=true\/X.env.scope.names.lookup x=some .local:=by first|exact .inl rfl|exact .inr rfl|assumption):wpAny M A (storeName X.env x u) Q E s:=
 qi I hN hi hx r (λs' I' _=>h s' I') hf
def Inv.Ii {s':ak}{ch:List ai}(I:Inv X ac Z H s) (ho:s'.os=s.os) (u:Un (oX X.stack) ch H H' s.heap s'.heap) (eN:qB X.prog X.w H' s'.heap) (hg:AllBare s'.gens)
  (Lb:∀b∈ch,(b∈X.ex\/X.gW.heap.objs.size<=b)/\b≠X.env.locals/\(∀x c,X.env.cells.lookup x=some c->c≠b)/\∀p∈X.pn++ac,p.1≠b):Inv X ac Z H' s':=by
 obtain⟨h',g',d',t',o'⟩:=s'
 have e:o'=s.os:=ho
 subst e
 exact I.call (g':=g') (t':=t') (d':=d') u eN hg Lb
end
abbrev XK:=ag->Option ai->Hp->Prop
abbrev St:=List (Option V)
abbrev VK:=V->Hp->Prop
abbrev TE:=St->Hp->VK->Prop
abbrev TT:=St->Hp->(Bool->Hp->Prop)->Prop
abbrev TA:=St->Hp->(List V->Hp->Prop)->Prop
structure Ends where
 nx:St->Hp->Prop
 rt:VK
 bk:St->Hp->Prop:=λ_ _=>False
 ct:St->Hp->Prop:=λ_ _=>False
abbrev TS:=Ends->St->Hp->Prop
def EP (X:Cx) (ac:List (ai×Obj)) (Z:St) (Q:VK) (u:ag) (s':ak):Prop:=∃v H',Inv X ac Z H' s'/\RelV v u/\Q v H'
def TP (X:Cx) (ac:List (ai×Obj)) (Z:St) (Q:Bool->Hp->Prop) (b:Bool) (s':ak):Prop:=∃H',Inv X ac Z H' s'/\Q b H'
def AP (X:Cx) (ac:List (ai×Obj)) (Z:St) (Q:List V->Hp->Prop) (us:List ag) (s':ak):Prop:=∃vs H',Inv X ac Z H' s'/\cK vs us/\Q vs H'
def SP (X:Cx) (ac:List (ai×Obj)) (D:Ends) (f:Flow) (s':ak):Prop:=
 match f with
 | .next=>∃bX H',Inv X ac bX H' s'/\D.nx bX H'
 | .brk=>∃bX H',Inv X ac bX H' s'/\D.bk bX H'
 | .cont=>∃bX H',Inv X ac bX H' s'/\D.ct bX H'
 | .ret u=>∃v bX H',Inv X ac bX H' s'/\RelV v u/\D.rt v H'
def PE (X:Cx) (e:Expr) (t:TE):Prop:=
 ∀(ac:List (ai×Obj)) (s:ak) (Z:St) (H:Hp) (Q:VK),Inv X ac Z H s->t Z H Q->wpAny (model X.prog X.w) X.A (eval e X.env) (EP X ac Z Q) X.xe s
def PT (X:Cx) (e:Expr) (t:TT):Prop:=
 ∀(ac:List (ai×Obj)) (s:ak) (Z:St) (H:Hp) (Q:Bool->Hp->Prop),Inv X ac Z H s->t Z H Q->wpAny (model X.prog X.w) X.A (isTrue e X.env (eval e X.env)) (TP X ac Z Q) X.xe s
def PW (X:Cx) (e:Expr) (t:TT):Prop:=
 ∀(whole:Sem ag) (ac:List (ai×Obj)) (s:ak) (Z:St) (H:Hp) (Q:Bool->Hp->Prop),Inv X ac Z H s->t Z H Q->wpAny (model X.prog X.w) X.A (isTrue e X.env whole) (TP X ac Z Q) X.xe s
def PW.pt (h:PW X e t):PT X e t:=h _
def PA (X:Cx) (es:List Expr) (t:TA):Prop:=
 ∀(pos:Pos) (ac:List (ai×Obj)) (s:ak) (Z:St) (H:Hp) (Q:List V->Hp->Prop),Inv X ac Z H s->t Z H Q->wpAny (model X.prog X.w) X.A (spliced (backTo pos (starEach es X.env))) (AP X ac Z Q) X.xe s
def PS (X:Cx) (st:Stmt) (t:TS):Prop:=
 ∀(ac:List (ai×Obj)) (s:ak) (Z:St) (H:Hp) (D:Ends),Inv X ac Z H s->t D Z H->wpAny (model X.prog X.w) X.A (exec st X.env) (SP X ac D) X.xe s
def xU (X:Cx) (st:List Stmt) (t:TS):Prop:=
 ∀(ac:List (ai×Obj)) (s:ak) (Z:St) (H:Hp) (D:Ends),Inv X ac Z H s->t D Z H->wpAny (model X.prog X.w) X.A (execs st X.env) (SP X ac D) X.xe s
def fE {α:Type}{t:Sem α}{Q Q':α->ak->Prop}{M:Model}{A:bH}{E:ag->ak->Prop}{s:ak}(h:wpAny M A t Q E s) (hQ:∀a s,Q a s->Q' a s):wpAny M A t Q' E s:=bF h hQ λ_ _ x=>x
section
variable {X:Cx}
def cj (i:Nat):TE:=λZ H Q=>∃v,Z[i]?=some (some v)/\Q v H
def tC (v:V):TE:=λ_ H Q=>Q v H
def Pm (hN:X.N[i]?=some x) (hv:WX X.env.scope x) (hd:(x==("__debug__":Str))=false:=by decide) (Co:(x==("__classdict__":Str))=false:=by decide):PE X (.Name x pos) (cj i):=by
 intro ac s Z H Q I h
 obtain⟨v,e,h⟩:=h
 obtain⟨m,hn,hl⟩:=I.loc
 obtain⟨u,r,l⟩:=hl i x v hN e hv
 have fin:EP X ac Z Q u s:=⟨v,H,I,r,h⟩
 rcases l with⟨hk,hm⟩|⟨hk,c,hc,NV⟩
 .exact wpAny_Name (wpAny_loadName_local I.ok.kind hk hn hm fin) hd
 .rcases hk with hk|hk
  .exact wpAny_Name (wpAny_loadName_cell I.ok.kind hk hc NV fin) hd
  .exact wpAny_Name (wpAny_loadName_free I.ok.kind hk hc NV fin Co) hd
def ao {i j pos}:PE X (.Constant (.int i) j pos) (tC (.int i)):=λ_ _ _ H _ I h=>wpAny_Constant_int ⟨.int i,H,I.tok _,⟨_,rfl⟩,h⟩
def mw {b j pos}:PE X (.Constant (.bool b) j pos) (tC (.bl b)):=λ_ _ _ H _ I h=>Constant_bool ⟨.bl b,H,I,rfl,h⟩
def jF {j pos}:PE X (.Constant .none j pos) (tC .eU):=λ_ _ _ H _ I h=>Constant_none ⟨.eU,H,I,rfl,h⟩
def bh {x j pos}:PE X (.Constant (.str x) j pos) (tC (.str x)):=λ_ _ _ H _ I h=>Calls.Constant_str ⟨.str x,H,I.tok _,⟨_,rfl⟩,h⟩
def Gl (X:Cx) (x:Str):Prop:=X.env.kindOf x=some .globalImplicit
def jG (I:Inv X ac Z H s) (hg:Gl X x) (hm:X.mg x=some u) (h:Q u s)
  (hd:(x==("__debug__":Str))=false:=by decide):wpAny (model X.prog X.w) X.A (eval (.Name x pos) X.env) Q E s:=
 Calls.Name_function_global I.ok.kind hg (Calls.loadGlobal_global (by rw[I.ok.glob];exact I.mod.glob.keeps I.bk) hm h) hd
def qJ (I:Inv X ac Z H s) (hg:Gl X x) (hm:X.mg x=none) (hv:bootBuiltins x=some u) (h:Q u s)
  (hn:x≠"__name__":=by decide) (hd:(x==("__debug__":Str))=false:=by decide):wpAny (model X.prog X.w) X.A (eval (.Name x pos) X.env) Q E s:=by
 obtain⟨mb,h1,h2⟩:=I.mod.blt
 exact Calls.Name_function_global I.ok.kind hg (Calls.loadGlobal_builtin (by rw[I.ok.glob];exact I.mod.glob.keeps I.bk) hm (by rw[I.ok.blt];exact h1.keeps I.bk) ((h2 x hn).trans hv) h) hd
def fT {x:Str}{v:V}{u:ag}{pos:Pos}(hg:Gl X x) (hm:X.mg x=some u) (r:RelV v u) (hd:(x==("__debug__":Str))=false:=by decide):PE X (.Name x pos) (tC v):=
 λ_ _ _ H _ I h=>jG I hg hm ⟨v,H,I,r,h⟩ hd
def gX (hg:Gl X x) (hm:X.mg x=none) (hv:bootBuiltins x=some u) (r:RelV v u) (hn:x≠"__name__":=by decide) (hd:(x==("__debug__":Str))=false:=by decide):PE X (.Name x pos) (tC v):=
 λ_ _ _ H _ I h=>qJ I hg hm hv ⟨v,H,I,r,h⟩ hn hd
def t2I (ta tb:TE) (k:Int->Int->Hp->Prop):St->Hp->Prop:=λZ H=>ta Z H λx H1=>tb Z H1 λy H2=>∃i j,x=.int i/\y=.int j/\k i j H2
def LH (ta tb:TE):TE:=λZ H Q=>t2I ta tb (λi j H2=>Q (.int (i-j)) H2) Z H
variable {a b:Expr}{ta tb:TE}{pos:Pos}
def tB (t:TE):TT:=λZ H Q=>t Z H λx H1=>∃c,x=.bl c/\Q c H1
def fM {e:Expr}{t:TE}(h:PE X e t) (he:∀whole,isTrue e X.env whole=(do let v<-whole;standAt e.pos;holding [v] (truthy v)):=by intro _;rfl):PT X e (tB t):=by
 intro ac s Z H Q I hw
 refine isTrue_plain (fE (h ac s Z H _ I hw) λv s1 c_=>?_) (he _)
 obtain⟨x,H1,I1,r1,q1⟩:=c_
 obtain⟨d,rfl,q⟩:=q1
 cases r1
 exact dI ⟨H1,I1,q⟩
variable {tA W4:TT}{rest:List Expr}
def XW (t u:TT):TT:=λZ H Q=>t Z H λc H1=>if c=true then u Z H1 Q else Q false H1
def tOr (t u:TT):TT:=λZ H Q=>t Z H λc H1=>if c=true then Q true H1 else u Z H1 Q
def XX (t:TT):TT:=λZ H Q=>t Z H λc H1=>Q (!c) H1
def EL (ha:PT X a tA):PW X (.BoolOp .And [a] pos) tA:=by
 intro wh ac s Z H Q I h
 refine isTrue_and (fE (ha ac s Z H Q I h) λc s1 e=>?_)
 cases c with
 |true=>exact isTrue_and_nil e
 |false=>exact e
def kf (ha:PT X a tA):PW X (.BoolOp .Or [a] pos) tA:=by
 intro wh ac s Z H Q I h
 refine isTrue_or (fE (ha ac s Z H Q I h) λc s1 e=>?_)
 cases c with
 |false=>exact isTrue_or_nil e
 |true=>exact e
def Ij (ha:PT X a tA) (hb:PW X (.BoolOp .And (b::rest) pos) W4):PW X (.BoolOp .And (a::b::rest) pos) (XW tA W4):=by
 intro wh ac s Z H Q I h
 refine isTrue_and (fE (ha ac s Z H _ I h) λc s1 c_=>?_)
 obtain⟨H1,I1,q1⟩:=c_
 cases c with
 |true=>exact hb wh ac s1 Z H1 Q I1 q1
 |false=>exact⟨H1,I1,q1⟩
def jw (ha:PT X a tA) (hb:PW X (.BoolOp .Or (b::rest) pos) W4):PW X (.BoolOp .Or (a::b::rest) pos) (tOr tA W4):=by
 intro wh ac s Z H Q I h
 refine isTrue_or (fE (ha ac s Z H _ I h) λc s1 c_=>?_)
 obtain⟨H1,I1,q1⟩:=c_
 cases c with
 |true=>exact⟨H1,I1,q1⟩
 |false=>exact hb wh ac s1 Z H1 Q I1 q1
def fS (ha:PT X a tA):PT X (.UnaryOp .Not a pos) (XX tA):=by
 intro ac s Z H Q I h
 exact isTrue_not (ha ac s Z H (λc H1=>Q (!c) H1) I h)
def Tt (ta tb:TE):TE:=λZ H Q=>ta Z H λx H1=>∃c,x=.bl c/\if c=true then tb Z H1 Q else Q (.bl false) H1
def Tu (ta:TE):TE:=λZ H Q=>ta Z H λx H1=>∃c,x=.bl c/\Q (.bl (!c)) H1
def mK {op}(h:PE X a t):PE X (.BoolOp op [a] pos) t:=λac s Z H Q I hw=>BoolOp_one (h ac s Z H Q I hw)
def jH (ha:PE X a ta) (hb:PE X (.BoolOp .And (b::rest) pos) tb):PE X (.BoolOp .And (a::b::rest) pos) (Tt ta tb):=by
 intro ac s Z H Q I h
 refine BoolOp_and (fE (ha ac s Z H _ I h) λv s1 c_=>?_)
 obtain⟨x,H1,I1,r1,q1⟩:=c_
 obtain⟨c,rfl,q1⟩:=q1
 cases r1
 refine dI ?_
 cases c with
 |true=>exact hb ac s1 Z H1 Q I1 q1
 |false=>exact⟨.bl false,H1,I1,rfl,q1⟩
def Cp (ha:PE X a ta):PE X (.UnaryOp .Not a pos) (Tu ta):=by
 intro ac s Z H Q I h
 refine UnaryOp_ (fE (ha ac s Z H _ I h) λv s1 c_=>?_)
 obtain⟨x,H1,I1,r1,q1⟩:=c_
 obtain⟨c,rfl,q1⟩:=q1
 cases r1
 exact not_of (dI ⟨.bl (!c),H1,I1,rfl,q1⟩)
def XY (t:TT) (ta tb:TE):TE:=λZ H Q=>t Z H λc H1=>if c=true then ta Z H1 Q else tb Z H1 Q
def pC (hc:PT X c tA) (ha:PE X a ta) (hb:PE X b tb):PE X (.IfExp c a b pos) (XY tA ta tb):=by
 intro ac s Z H Q I h
 refine wpAny_IfExp (fE (hc ac s Z H _ I h) λd s1 c_=>?_)
 obtain⟨H1,I1,q1⟩:=c_
 cases d with
 |true=>exact ha ac s1 Z H1 Q I1 q1
 |false=>exact hb ac s1 Z H1 Q I1 q1
end
def cQ (K:Φ) (H:Hp) (a:ai) (xs:List V):Prop:=
 Rd H a (.lst xs)\/
  ∃(o:Obj) (cV:Array ag) (n:Nat),K.lookup a=some o/\o.cls=.type "list"/\o.dict=none/\o.data=.seq cV n/\cV.size<=sizeLine/\cK xs cV.toList
def bZ (K:Φ) (H:Hp) (a:ai) (xs:List V):Prop:=
 Rd H a (.tup xs)\/
  ∃(o:Obj) (cV:Array ag) (n:Nat),K.lookup a=some o/\o.cls=.type "tuple"/\o.data=.seq cV n/\cV.size<=sizeLine/\cK xs cV.toList
def XZ:ag->Option V
 | .none=>some .eU
 | .bool b=>some (.bl b)
 | .int i _=>some (.int i)
 | .str x _=>some (.str x)
 | .bytes b _=>some (.EG b)
 | .float b _=>some (.Pj b)
 | .ref a=>some (.ref a)
 | .type n=>some (.ty n)
 |_=>none
def RelV.abs (r:RelV x u):XZ u=some x:=by
 cases x with
 |eU=>cases r;rfl
 |bl _=>cases r;rfl
 |int _=>obtain⟨t,rfl⟩:=r;rfl
 |str _=>obtain⟨t,rfl⟩:=r;rfl
 |EG _=>obtain⟨t,rfl⟩:=r;rfl
 |Pj _=>obtain⟨t,rfl⟩:=r;rfl
 |ref _=>cases r;rfl
 |ty _=>cases r;rfl
def RelV.inj (r:RelV x u) (q:RelV y u):x=y:=cR (r.abs.symm.trans q.abs)
def cK.inj (h:cK xs us) (h':cK ys us):xs=ys:=by
 induction h generalizing ys with
 |nil=>cases h';rfl
 |cons r _ ih=>cases h' with
  |cons r' t'=>rw[r.inj r',ih t']
section
variable {X:Cx}{ac:List (ai×Obj)}{Z:St}{H:Hp}{s:ak}{a:ai}{xs ys:List V}
def cQ.of {K:Φ}(h:H a=some (.lst xs)):cQ K H a xs:=.inl (.inl h)
def bZ.of {K:Φ}(h:H a=some (.tup xs)):bZ K H a xs:=.inl (.inl h)
def Inv.list (I:Inv X ac Z H s) (h:cQ X.K H a xs):∃cV:List ag,cK xs cV/\PlainL s.heap a cV.toArray/\xs.length<=sizeLine:=by
 rcases h with h|⟨o,cV,n,hk,hc,hd,hs,hz,r⟩
 .obtain⟨z,cV,n,r,e⟩:=h.ok I.eN
  exact⟨cV,r,⟨_,n,e,rfl,rfl,rfl⟩,z⟩
 .refine⟨cV.toList,r,⟨o,n,I.lK a o hk,hc,hd,by simpa using hs⟩,?_⟩
  have e:=r.length
  simp only[gE] at e
  omega
def Inv.tuple (I:Inv X ac Z H s) (h:bZ X.K H a xs):∃cV:List ag,cK xs cV/\IsTup s.heap a cV.toArray/\xs.length<=sizeLine:=by
 rcases h with h|⟨o,cV,n,hk,hc,hs,hz,r⟩
 .obtain⟨z,cV,r,p⟩:=h.ok I.eN
  exact⟨cV,r,p.isTup,z⟩
 .refine⟨cV.toList,r,⟨o,I.lK a o hk,hc,n,by simpa using hs⟩,?_⟩
  have e:=r.length
  simp only[gE] at e
  omega
def Inv.rM (I:Inv X ac Z H s) (h:cQ X.K H a xs) (h':cQ X.K H a ys):xs=ys:=by
 obtain⟨cV,r,⟨o,n,e,_,_,d⟩,_⟩:=I.list h
 obtain⟨its',r',⟨o',n',e',_,_,d'⟩,_⟩:=I.list h'
 rw[e] at e';cases e'
 rw[d] at d'
 injection d' with d1 _
 have:cV=its':=by simpa using jS Array.toList d1
 subst this
 exact r.inj r'
def Inv.tP (I:Inv X ac Z H s) (h:bZ X.K H a xs) (h':bZ X.K H a ys):xs=ys:=by
 obtain⟨cV,r,⟨o,e,_,n,d⟩,_⟩:=I.tuple h
 obtain⟨its',r',⟨o',e',_,n',d'⟩,_⟩:=I.tuple h'
 rw[e] at e';cases e'
 rw[d] at d'
 injection d' with d1 _
 have:cV=its':=by simpa using jS Array.toList d1
 subst this
 exact r.inj r'
end
abbrev Cx.vL (X:Cx) (E:ag->ak->Prop):Cx:={X with xe:=E}
abbrev Cx.kz (X:Cx):Cx:=X.vL λ_ _=>False
def Cx.Ok.vL {X:Cx}(ok:X.Ok) (E:ag->ak->Prop):(X.vL E).Ok:=
 ⟨ok.mod,ok.kind,ok.glob,ok.blt,ok.above,ok.inj,ok.has,ok.La,ok.hd,ok.frames,ok.LF,ok.Gc,ok.bs,ok.Cn,ok.xS,ok.uP,ok.nF,ok.EH⟩
def Cx.Ok.n_ {X:Cx}(ok:(X.vL E).Ok):X.Ok:=
 ⟨ok.mod,ok.kind,ok.glob,ok.blt,ok.above,ok.inj,ok.has,ok.La,ok.hd,ok.frames,ok.LF,ok.Gc,ok.bs,ok.Cn,ok.xS,ok.uP,ok.nF,ok.EH⟩
section
variable {X:Cx}{ac:List (ai×Obj)}{Z:St}{H:Hp}{s:ak}{E:ag->ak->Prop}
def Inv.vL (I:Inv X ac Z H s) (E:ag->ak->Prop):Inv (X.vL E) ac Z H s:=⟨I.ok.vL E,I.os,I.bare,I.base,I.loc,I.cell,I.free,I.jv,I.pin,I.eN,I.len⟩
def Inv.n_ (I:Inv (X.vL E) ac Z H s):Inv X ac Z H s:=⟨I.ok.n_,I.os,I.bare,I.base,I.loc,I.cell,I.free,I.jv,I.pin,I.eN,I.len⟩
def SP.n_ (h:SP (X.vL E) ac D f s'):SP X ac D f s':=by
 cases f with
 |next=>obtain⟨bX,H',I,q⟩:=h;exact⟨bX,H',I.n_,q⟩
 |brk=>obtain⟨bX,H',I,q⟩:=h;exact⟨bX,H',I.n_,q⟩
 |cont=>obtain⟨bX,H',I,q⟩:=h;exact⟨bX,H',I.n_,q⟩
 |ret u=>obtain⟨v,bX,H',I,r,q⟩:=h;exact⟨v,bX,H',I.n_,r,q⟩
def xU.kz {st:List Stmt}(h:xU X.kz st t):xU X st t:=λac s Z H D I hw=>
 bF (h ac s Z H D (I.vL _) hw) (λ_ _ q=>q.n_) λ_ _ z=>False.elim z
end
section
variable {X:Cx}{st:Stmt}{rest:List Stmt}{t u:TS}{e:Expr}{te:TE}{pos:Pos}
def NW:TS:=λD Z H=>D.nx Z H
def vM (t u:TS):TS:=λD Z H=>t {D with nx:=u D} Z H
def bO:xU X [] NW:=λ_ _ Z H _ I h=>Ar ⟨Z,H,I,h⟩
def aw (h1:PS X st t) (h2:xU X rest u):xU X (st::rest) (vM t u):=by
 intro ac s Z H D I h
 refine wpAny_execs_cons (fE (h1 ac s Z H {D with nx:=u D} I h) λf s1 q=>?_)
 cases f with
 |next=>
  obtain⟨bX,H',I',q⟩:=q
  exact h2 ac s1 bX H' D I' q
 |ret v=>exact q
 |brk=>exact q
 |cont=>exact q
def aF (h1:PS X st t):xU X [st] t:=by
 intro ac s Z H D I h
 refine wpAny_execs_cons (fE (h1 ac s Z H D I h) λf s1 q=>?_)
 cases f with
 |next=>exact Ar q
 |ret v=>exact q
 |brk=>exact q
 |cont=>exact q
def Inv.quiet {ac:List (ai×Obj)}{Z:St}{H:Hp}{s:ak}(I:Inv X ac Z H s):interactive X.env=false:=by simp[interactive,I.ok.kind]
def Tv (te:TE):TS:=λD Z H=>te Z H λ_ H1=>D.nx Z H1
def gY (he:PE X e te) (hs:swapsWith e none pos.line X.env=pure false:=by rfl):PS X (.Expr e pos) (Tv te):=by
 intro ac s Z H D I h
 refine wpAny_Expr_any (fE (he ac s Z H _ I h) λv s1 c_=>?_) I.quiet hs
 obtain⟨x,H1,I1,r1,q1⟩:=c_
 exact⟨Z,H1,I1,q1⟩
def LI (te:TE):TS:=λD Z H=>te Z H D.rt
def bN (he:PE X e te):PS X (.Return (some e) pos) (LI te):=by
 intro ac s Z H D I h
 refine wpAny_Return_some (fE (he ac s Z H _ I h) λv s1 c_=>?_)
 obtain⟨x,H1,I1,r1,q1⟩:=c_
 exact⟨x,Z,H1,I1,r1,q1⟩
def xV (c:TT) (t u:TS):TS:=λD Z H=>c Z H λb H1=>if b=true then t D Z H1 else u D Z H1
def cS (hc:PT X c tc) (ha:xU X a t) (hb:xU X b u):PS X (.If c a b pos) (xV tc t u):=by
 intro ac s Z H D I h
 refine wpAny_If (fE (hc ac s Z H _ I h) λd s1 c_=>?_)
 obtain⟨H1,I1,q1⟩:=c_
 cases d with
 |true=>exact ha ac s1 Z H1 D I1 q1
 |false=>exact hb ac s1 Z H1 D I1 q1
def Pn:TS:=λ_ _ _=>False
def kg:xU X sts Pn:=λ_ _ _ _ _ _ h=>h.elim
end
abbrev TG:=V->St->Hp->(St->Hp->Prop)->Prop
abbrev Sv:=List V->St->Hp->(St->Hp->Prop)->Prop
def PG (X:Cx) (target:Expr) (t:TG):Prop:=
 ∀(ac:List (ai×Obj)) (s:ak) (Z:St) (H:Hp) (v:V) (u:ag) (Q:St->Hp->Prop),Inv X ac Z H s->RelV v u->t v Z H Q->
  wpAny (model X.prog X.w) X.A (assign target X.env u) (λ_ s'=>∃bX H',Inv X ac bX H' s'/\Q bX H') X.xe s
def Tw (X:Cx) (ts:List Expr) (t:Sv):Prop:=
 ∀(ac:List (ai×Obj)) (s:ak) (Z:St) (H:Hp) (vs:List V) (us:List ag) (Q:St->Hp->Prop),Inv X ac Z H s->cK vs us->t vs Z H Q->
  wpAny (model X.prog X.w) X.A (assignInOrder ((assignEach ts X.env).map (·.2)) us) (λ_ s'=>∃bX H',Inv X ac bX H' s'/\Q bX H') X.xe s
abbrev LJ:=V->V->V->Hp->(Hp->Prop)->Prop
def Po (X:Cx) (t:LJ):Prop:=
 ∀(ac:List (ai×Obj)) (s:ak) (Z:St) (H:Hp) (o i v:V) (ov iv u:ag) (Q:Hp->Prop),Inv X ac Z H s->RelV o ov->RelV i iv->RelV v u->t o i v H Q->
  wpAny (model X.prog X.w) X.A (setItem ov iv u) (λ_ s'=>∃H',Inv X ac Z H' s'/\Q H') X.xe s
section
variable {X:Cx}{pos:Pos}
def de (i:Nat):TG:=λv Z H Q=>Q (Z.set i (some v)) H
def a_ (hN:X.N.Nodup) (hi:X.N[i]?=some x:=by rfl) (hx:Loc X.env.scope x:=by exact Or.inl rfl) (hf:X.fn x=true\/X.env.scope.names.lookup x=some .local:=by first|exact .inl rfl|exact .inr rfl|assumption):PG X (.Name x pos) (de i):=by
 intro ac s Z H v u Q I r h
 exact wpAny_assign_Name (lU I hN hi hx r (λs' I'=>⟨_,H,I',h⟩) hf)
def zt:Sv:=λvs Z H Q=>vs=[]/\Q Z H
def jZ (t:TG) (u:Sv):Sv:=λvs Z H Q=>∃v r,vs=v::r/\t v Z H λbX H'=>u r bX H' Q
def eX:Tw X [] zt:=by
 intro ac s Z H vs us Q I r h
 obtain⟨e,h⟩:=h
 subst e
 cases r
 exact assignInOrder_nil ⟨Z,H,I,h⟩
def bx (h1:PG X e t) (h2:Tw X es u)
  (hs:(assignEach (e::es) X.env).map (·.2)=assign e X.env::(assignEach es X.env).map (·.2):=by rfl):Tw X (e::es) (jZ t u):=by
 intro ac s Z H vs us Q I r h
 obtain⟨v,vr,e1,h⟩:=h
 subst e1
 cases r with
 |cons r rr=>
  rw[hs]
  refine kQ (fE (h1 ac s Z H _ _ _ I r h) λ_ s1 c_=>?_)
  obtain⟨Sw,H1,I1,q1⟩:=c_
  exact h2 ac s1 Sw H1 _ _ Q I1 rr q1
def Cq (K:Φ) (n:Nat) (t:Sv):TG:=λv Z H Q=>∃a xs,v=.ref a/\bZ K H a xs/\xs.length=n/\t xs Z H Q
def fU (hc:X.calm=true) (h:Tw X es t)
  (hn:(assignEach es X.env).length=n:=by rfl) (Ge:(assignEach es X.env).findIdx? (·.1)=none:=by rfl):PG X (.Tuple es k pos) (Cq X.K n t):=by
 intro ac s Z H v u Q I r hw
 obtain⟨a,xs,e1,hq,hl,hw⟩:=hw
 subst e1
 cases r
 obtain⟨cV,rv,ht,hz⟩:=I.tuple hq
 refine assign_Tuple_tuple (I.ok.hd hc) ht (by simp[hn,<-hl,rv.length]) Ge λh' hx=>?_
 have I1:Inv X ac Z H {s with heap:=h'}:=I.kept (t':=s.toks) λb o e=>hx b o (bj (aC e)) e
 exact h ac _ Z H xs _ Q I1 (by simpa using rv) hw
def LK (to ti:TE) (t:LJ):TG:=λv Z H Q=>to Z H λo H1=>ti Z H1 λi H2=>t o i v H2 λH3=>Q Z H3
def pD {o i:Expr}{to ti:TE}{t:LJ}(ho:PE X o to) (hi:PE X i ti) (hs:Po X t)
  (ha:∀v,assign (.Subscript o i pos) X.env v=(do
   let ov<-holding [v] (eval o X.env)
   let iv<-holding [v,ov] (eval i X.env)
   standAt pos
   holding [v,ov,iv] (setItem ov iv v)
   release [v,ov,iv] []):=by intro _;rfl):PG X (.Subscript o i pos) (LK to ti t):=by
 intro ac s Z H v u Q I r h
 rw[ha]
 refine aa (cm (fE (ho ac s Z H _ I h) λov s1 c_=>?_))
 obtain⟨x,H1,I1,r1,q1⟩:=c_
 refine aa (cm (fE (hi ac s1 Z H1 _ I1 q1) λiv s2 c_=>?_))
 obtain⟨y,H2,I2,r2,q2⟩:=c_
 refine aa (jX (aa (cm (fE (hs ac s2 Z H2 x y v ov iv u _ I2 r1 r2 r q2) λ_ s3 c_=>?_))))
 obtain⟨H3,I3,q3⟩:=c_
 exact wpAny_release ⟨Z,H3,I3,q3⟩
def tQ (te:TE) (g:TG):TS:=λD Z H=>te Z H λx H1=>g x Z H1 D.nx
def iE (he:PE X e te) (hg:PG X tg g) (hs:swapsWithSole [tg] e pos.line X.env=pure false:=by rfl) (hw:swappedStores [tg] e X.env=pure none:=by rfl)
  (h1:(assignEach [tg] X.env).map (·.2)=[assign tg X.env]:=by rfl):PS X (.Assign [tg] e pos) (tQ te g):=by
 intro ac s Z H D I h
 refine wpAny_Assign_stores (fE (he ac s Z H _ I h) λv s1 c_=>?_) hs hw
 obtain⟨x,H1,I1,r1,q1⟩:=c_
 rw[h1]
 exact fE (hg ac s1 Z H1 x v _ I1 r1 q1) λ_ s2 q=>q
def vN {i:Nat}{x:Str}{e:Expr}{te:TE}{pos':Pos}(hN:X.N.Nodup) (hi:X.N[i]?=some x) (hx:Loc X.env.scope x) (he:PE X e te) (hs:swapsWith e (some (.Name x pos')) pos.line X.env=pure false:=by rfl) (hf:X.fn x=true\/X.env.scope.names.lookup x=some .local:=by first|exact .inl rfl|exact .inr rfl|assumption):
  PS X (.Assign [.Name x pos'] e pos) (tQ te (de i)):=by
 intro ac s Z H D I h
 refine wpAny_Assign_Name (fE (he ac s Z H _ I h) λv s1 c_=>?_) hs
 obtain⟨y,H1,I1,r1,q1⟩:=c_
 exact lU I1 hN hi hx r1 (λs2 I2=>⟨_,H1,I2,q1⟩) hf
def X0 (i j:Nat) (ta:TA):TS:=λD Z H=>ta Z H λvs H1=>∃v w,vs=[v,w]/\D.nx ((Z.set i (some v)).set j (some w)) H1
def lj {i:Nat}{x:Str}{e:Expr}{te:TE}{pos':Pos}(hN:X.N.Nodup) (he:PE X e te) (hi:X.N[i]?=some x:=by rfl) (hx:Loc X.env.scope x:=by exact Or.inl rfl) (hs:swapsWith e (some (.Name x pos')) pos.line X.env=pure false:=by rfl) (hf:X.fn x=true\/X.env.scope.names.lookup x=some .local:=by first|exact .inl rfl|exact .inr rfl|assumption):PS X (.Assign [.Name x pos'] e pos) (tQ te (de i)):=vN hN hi hx he hs hf
def zu {kt k2 Pp}(hc:X.calm=true) (hN:X.N.Nodup) (hi:X.N[i]?=some x) (hj:X.N[j]?=some y) (pE:i≠j)
  (hx:X.env.scope.names.lookup x=some .local) (hy:X.env.scope.names.lookup y=some .local) (ha:PA X [a,b] ta)
  (hw:swappedStores [.Tuple [.Name x px,.Name y py] kt pt] (.Tuple [a,b] k2 Pp) X.env=pure (some [x,y]))
  (hs:swapsWithSole [.Tuple [.Name x px,.Name y py] kt pt] (.Tuple [a,b] k2 Pp) pos.line X.env=pure false:=by rfl):
  PS X (.Assign [.Tuple [.Name x px,.Name y py] kt pt] (.Tuple [a,b] k2 Pp) pos) (X0 i j ta):=by
 intro ac s Z H D I h
 rw[exec_Assign_arm]
 refine aa (jX ?_)
 rw[hs]
 refine aa (aj ?_)
 rw[aP δ]
 refine aa (Tuple_ (fE (ha _ ac s Z H _ I h) λus s1 c_=>?_))
 obtain⟨vs,H1,I1,r1,q1⟩:=c_
 obtain⟨v,w,e1,q1⟩:=q1
 subst e1
 obtain⟨u1,u2,rfl,rv,Gf⟩:∃u1 u2,us=[u1,u2]/\RelV v u1/\RelV w u2:=by
  cases r1 with
  |cons p q=>
   cases q with
   |cons p' q'=>
    cases q'
    exact⟨_,_,rfl,p,p'⟩
 refine bJ ?_ (dZ)
 have I2:Inv X ac Z H1 {s1 with heap:=s1.heap.push {cls:=.type "tuple",data:=.seq [u1,u2].toArray}}:=I1.kept (t':=s1.toks) λb o e=>af _ e
 rw[hw]
 refine aa (aj ?_)
 show wpAny (model X.prog X.w) X.A (do rule "assign.swapped-stores";let items<-unpackItems (.ref s1.heap.objs.size) 2 none;assignInOrder [λv=>bindName X.env y v,λv=>bindName X.env x v] items.reverse;pure Flow.next) _ _ _
 refine aa (kS (aa (unpackItems_tuple (items:=#[u1,u2]) (I.ok.hd hc) (IsTup.new s1.heap _) λh' Tz=>?_)))
 have I3:=I2.kept (h':=h') (t':=s1.toks) λb o e=>Tz b o (bj (aC e)) e
 show wpAny _ _ (assignInOrder [λv=>bindName X.env y v,λv=>bindName X.env x v] [u2,u1]>>=λ_=>pure Flow.next) _ _ _
 refine aa (kQ (nX (lU I3 hN hj (.inl hy) Gf (λs2 I4=>?_) (.inr hy))))
 refine kQ (nX (lU I4 hN hi (.inl hx) rv (λs3 I5=>assignInOrder_nil (aj ?_)) (.inr hx)))
 rw[As _ _ (cG pE)] at I5
 exact⟨_,H1,I5,q1⟩
end
section
variable {X:Cx}{pos:Pos}
def Ik (c:TT) (tb:TS):TS:=λD Z H=>∃W:Nat->St->Hp->Prop,(∃m,W m Z H)/\∀m Z H,W m Z H->
 c Z H λb H1=>if b=true then∃N:St->Hp->Prop,(∀bX H',N bX H'->∃m',m'<m/\W m' bX H')/\tb {D with nx:=N,ct:=N,bk:=D.nx} Z H1 else D.nx Z H1
def AH (hp:PassesOwn (model X.prog X.w) X.A X.env X.xe) (hc:PT X c tc) (hb:xU X body tb):PS X (.While c body [] pos) (Ik tc tb):=by
 intro ac s Z H D I h
 obtain⟨W,⟨m0,w0⟩,turn⟩:=h
 refine wpAny_While (codeAny_whileLoop (λn s'=>∃bX H',Inv X ac bX H' s'/\W n bX H') ?_ m0 ⟨Z,H,I,w0⟩)
 rintro n s1 ⟨Sw,H1,I1,w1⟩
 refine jT hp (fE (hc ac s1 Sw H1 _ I1 (turn n Sw H1 w1)) λb s2 c_=>?_)
 obtain⟨H2,I2,q2⟩:=c_
 cases b with
 |true=>
  obtain⟨N,hN,q2⟩:=q2
  rw[aT rfl]
  refine jT hp (fE (hb ac s2 Sw H2 _ I2 q2) λf s3 q3=>?_)
  cases f with
  |next=>
   obtain⟨Il,H3,I3,n3⟩:=q3
   obtain⟨m',hm,w3⟩:=hN Il H3 n3
   exact⟨m',hm,Il,H3,I3,w3⟩
  |cont=>
   obtain⟨Il,H3,I3,n3⟩:=q3
   obtain⟨m',hm,w3⟩:=hN Il H3 n3
   exact⟨m',hm,Il,H3,I3,w3⟩
  |brk=>exact q3
  |ret v=>exact q3
 |false=>
  rw[aP bM]
  exact Ar ⟨Sw,H2,I2,q2⟩
end
structure It where
 go:Nat->Hp->Prop
 BS:Nat->Hp->V->Hp->Prop
 stop:Nat->Hp->Prop
def nG (X:Cx) (ac:List (ai×Obj)) (H:Hp) (b:ai):Prop:=
 H b=none/\b≠X.env.locals/\b∉X.fs/\(b∈X.ex\/X.gW.heap.objs.size<=b)/\(∀x c,X.env.cells.lookup x=some c->c≠b)/\∀p∈X.pn++ac,p.1≠b
def Inv.zv (I:Inv X ac Z H s) (hb:s.heap.objs.size<=b) (hn:H' b=none):nG X ac H' b:=by
 refine⟨hn,ie (aY I.lt hb),I.XR hb,.inr (aA I.sz hb),λx c e z=>?_,λp hp z=>?_⟩
 .obtain⟨v,q⟩:=I.cell x c e
  exact absurd (aY q.lt (by rw[z];exact hb)) (f_ _)
 .exact absurd (aY (aC (I.pin p hp).1) (by rw[z];exact hb)) (f_ _)
structure Turn (P:aJ) (w:bB) (K:Φ) (tg:Expr) (J:It) (fp:List ai) (it:ai) (tn:Nat->Heap->Prop):Prop where
 mem:it∈fp
 obj:∀i h,tn i h->∀b∈fp,∃o,h.get? b=some o/\∀v,o.data≠.cell v
 keep:∀i h h',tn i h->(∀b∈fp,∀o,h.get? b=some o->h'.get? b=some o)->tn i h'
 item:∀(X:Cx),X.prog=P->X.w=w->X.K=K->X.calm=true->∀(i:Nat) (ac:List (ai×Obj)) (s:ak) (Z:St) (H:Hp) (E:ag->ak->Prop),Inv X ac Z H s->(∀b∈fp,nG X ac H b)->tn i s.heap->J.go i H->
  wpAny (model P w) X.A (pyNext (.ref it)) (λr s1=>∃u,r=some u/\
   wpAny (model P w) X.A (letOwnedTupleGo tg (.ref it) u) (λ_ s2=>∃x H',Inv X ac Z H' s2/\RelV x u/\J.BS i H x H'/\tn (i+1) s2.heap/\∀b∈fp,H' b=none) E s1) E s
 done:∀(X:Cx),X.prog=P->X.w=w->X.K=K->X.calm=true->∀(i:Nat) (ac:List (ai×Obj)) (s:ak) (Z:St) (H:Hp) (E:ag->ak->Prop),Inv X ac Z H s->(∀b∈fp,nG X ac H b)->tn i s.heap->J.stop i H->
  wpAny (model P w) X.A (pyNext (.ref it)) (λr s1=>r=none/\Inv X ac Z H s1) E s
 self:∀(A:bH) (i:Nat) (s:ak) (Q:ag->ak->Prop) (E:ag->ak->Prop),tn i s.heap->Q (.ref it) s->wpAny (model P w) A (pyIter (.ref it)) Q E s
abbrev TI:=St->Hp->(It->Hp->Prop)->Prop
def X4 (X:Cx) (ac:List (ai×Obj)) (Z:St) (tg:Expr) (R:It->Hp->Prop) (Pq:ag) (s2:ak):Prop:=
 ∃(it:ai) (fp:List ai) (tn:Nat->Heap->Prop) (J:It) (H':Hp),Pq=.ref it/\Inv X ac Z H' s2/\Turn X.prog X.w X.K tg J fp it tn/\tn 0 s2.heap/\(∀b∈fp,nG X ac H' b)/\R J H'
def PI (X:Cx) (tg iter:Expr) (wi:TI):Prop:=
 ∀(ac:List (ai×Obj)) (s:ak) (Z:St) (H:Hp) (R:It->Hp->Prop),Inv X ac Z H s->wi Z H R->
  wpAny (model X.prog X.w) X.A (eval iter X.env) (λv s1=>wpAny (model X.prog X.w) X.A (pyIter v) (X4 X ac Z tg R) X.xe s1) X.xe s
def EM {M:Model}{A:bH}{E:ag->ak->Prop}{s:ak}{tg:Expr}{it:ai}{u:ag}{o:Obj}{n:String}{vs:Array ag}{Q:Unit->ak->Prop}(ho:s.heap.get? it=some o) (hc:o.cls=.type n) (hd:o.data=.fields vs)
  (hn:["enumerate","zip","dict_itemiterator","dict_reverseitemiterator","odict_iterator","itertools.zip_longest","itertools.pairwise"].contains n=false) (hQ:Q () s):wpAny M A (letOwnedTupleGo tg (.ref it) u) Q E s:=by
 unfold letOwnedTupleGo
 cases tg<;>first
  |exact aj hQ
  |(cases u<;>first
   |exact aj hQ
   |(refine aa (wpAny_load ho ?_)
     rw[hc,hd]
     show wpAny M A (if(["enumerate","zip","dict_itemiterator","dict_reverseitemiterator","odict_iterator","itertools.zip_longest","itertools.pairwise"].contains n&&vs[0]?==some (rawInt _))=true then _ else _) Q E s
     rw[aP (by intro h;rw[hn,bz] at h;cases h)]
     exact aj hQ))
def EN (K:Φ) (a:ai):It:=
 ⟨λi H=>∃xs x,cQ K H a xs/\xs[i]?=some x,λi H x H'=>H'=H/\∀xs,cQ K H a xs->xs[i]?=some x,λi H=>∃xs,cQ K H a xs/\xs.length<=i⟩
def Cr (K:Φ) (a:ai):It:=
 ⟨λi H=>∃xs x,bZ K H a xs/\xs[i]?=some x,λi H x H'=>H'=H/\∀xs,bZ K H a xs->xs[i]?=some x,λi H=>∃xs,bZ K H a xs/\xs.length<=i⟩
def Im (lo:Int) (n:Nat):It:=⟨λi _=>i<n,λi H x H'=>H'=H/\x=.int (lo+i),λi _=>n<=i⟩
def Gg {P:aJ}{w:bB}{K:Φ}{tg:Expr}(a it:ai):Turn P w K tg (EN K a) [it] it (λi h=>h.IsListIter it a i) where
 mem:=ς
 obj:=λi h st b hb=>by
  have e:b=it:=by simpa using hb
  subst e
  obtain⟨o,e,c,d⟩:=st
  exact⟨o,e,λv z=>by rw[d] at z;cases z⟩
 keep:=λi h h' st k=>st.at λo e=>k it ς o e
 item:=by
  intro X hP hw hK hc i ac s Z H E I hf st hg
  subst hP hw hK
  obtain⟨xs,x,hq,hx⟩:=hg
  obtain⟨cV,rv,p,hz⟩:=I.list hq
  obtain⟨u,hu,ru⟩:=rv.get hx
  obtain⟨f0,f1,f2,f3,f4,f5⟩:=hf it ς
  refine wpAny_pyNext_list_item st p.isList (x:=u) (by simpa using hu) λh' um sb=>?_
  have I1:Inv X ac Z H {s with heap:=h'}:=I.turned (t':=s.toks) (λb o hb e=>(sb.2 b hb).trans e) f0 f1 f3 f4 f5
  obtain⟨o,e,c,d⟩:=id um
  exact⟨u,rfl,EM (s:={s with heap:=h'}) e c d δ ⟨x,H,I1,ru,⟨rfl,λys hy=>by rw[I.rM hy hq];exact hx⟩,um,λb hb=>(hf b hb).1⟩⟩
 done:=by
  intro X hP hw hK hc i ac s Z H E I hf st hg
  subst hP hw hK
  obtain⟨xs,hq,hx⟩:=hg
  obtain⟨cV,rv,p,hz⟩:=I.list hq
  obtain⟨f0,f1,f2,f3,f4,f5⟩:=hf it ς
  have hl:=rv.length
  exact wpAny_pyNext_list_end (I.ok.hd hc) st p.isList (by simp;omega) λh' eb=>⟨rfl,I.turned (t':=s.toks) (λb o hb e=>eb b o hb e) f0 f1 f3 f4 f5⟩
 self:=λ_ _ _ _ _ st h=>wpAny_pyIter_listiter st h
def Ct {P:aJ}{w:bB}{K:Φ}{tg:Expr}(a it:ai):Turn P w K tg (Cr K a) [it] it (λi h=>h.IsTupleIter it a i) where
 mem:=ς
 obj:=λi h st b hb=>by
  have e:b=it:=by simpa using hb
  subst e
  obtain⟨o,e,c,d⟩:=st
  exact⟨o,e,λv z=>by rw[d] at z;cases z⟩
 keep:=λi h h' st k=>st.at λo e=>k it ς o e
 item:=by
  intro X hP hw hK hc i ac s Z H E I hf st hg
  subst hP hw hK
  obtain⟨xs,x,hq,hx⟩:=hg
  obtain⟨cV,rv,p,hz⟩:=I.tuple hq
  obtain⟨u,hu,ru⟩:=rv.get hx
  obtain⟨f0,f1,f2,f3,f4,f5⟩:=hf it ς
  refine wpAny_pyNext_tuple_item st (show s.heap.IsTuple a cV.toArray from p) (x:=u) (by simpa using hu) λh' um sb=>?_
  have I1:Inv X ac Z H {s with heap:=h'}:=I.turned (t':=s.toks) (λb o hb e=>(sb.2 b hb).trans e) f0 f1 f3 f4 f5
  obtain⟨o,e,c,d⟩:=id um
  exact⟨u,rfl,EM (s:={s with heap:=h'}) e c d δ ⟨x,H,I1,ru,⟨rfl,λys hy=>by rw[I.tP hy hq];exact hx⟩,um,λb hb=>(hf b hb).1⟩⟩
 done:=by
  intro X hP hw hK hc i ac s Z H E I hf st hg
  subst hP hw hK
  obtain⟨xs,hq,hx⟩:=hg
  obtain⟨cV,rv,p,hz⟩:=I.tuple hq
  obtain⟨f0,f1,f2,f3,f4,f5⟩:=hf it ς
  have hl:=rv.length
  exact wpAny_pyNext_tuple_end (I.ok.hd hc) st (show s.heap.IsTuple a cV.toArray from p) (by simp;omega) λh' eb=>⟨rfl,I.turned (t':=s.toks) (λb o hb e=>eb b o hb e) f0 f1 f3 f4 f5⟩
 self:=λ_ _ _ _ _ st h=>wpAny_pyIter_tupleiter st h
def Cu {P:aJ}{w:bB}{K:Φ}{tg:Expr}(it:ai) (lo:Int) (n:Nat):Turn P w K tg (Im lo n) [it] it (λi h=>IsRangeIter h it (lo+(i:Nat)*1) ((n:Int)-(i:Nat)) 1) where
 mem:=ς
 obj:=λi h st b hb=>by
  have e:b=it:=by simpa using hb
  subst e
  exact⟨_,st,λv z=>by
   have z':Data.fields _=Data.cell v:=z
   cases z'⟩
 keep:=λi h h' st k=>k it ς _ st
 item:=by
  intro X hP hw hK hc i ac s Z H E I hf st hg
  subst hP hw hK
  obtain⟨f0,f1,f2,f3,f4,f5⟩:=hf it ς
  have W:=Walks.range (prog:=X.prog) (w:=X.w) (I.ok.hd hc) it lo 1 n
  refine W.item i s _ _ hg st λv h' tk hv um kk=>?_
  obtain⟨t,rfl⟩:=hv
  have I1:Inv X ac Z H {s with heap:=h',toks:=tk}:=I.turned (λb o hb e=>kk b o (by simpa using hb) e) f0 f1 f3 f4 f5
  refine⟨_,rfl,EM (s:={s with heap:=h',toks:=tk}) (n:="range_iterator") um rfl rfl δ ⟨.int (lo+i),H,I1,⟨t,?_⟩,⟨rfl,rfl⟩,um,λb hb=>(hf b hb).1⟩⟩
  rw[Int.mul_one]
 done:=by
  intro X hP hw hK hc i ac s Z H E I hf st hg
  subst hP hw hK
  obtain⟨f0,f1,f2,f3,f4,f5⟩:=hf it ς
  exact wpAny_pyNext_range_end (I.ok.hd hc) st (by have:n<=i:=hg;omega) λh' eb=>⟨rfl,I.turned (t':=s.toks) (λb o hb e=>eb b o hb e) f0 f1 f3 f4 f5⟩
 self:=λ_ _ _ _ _ st h=>wpAny_pyIter_rangeiter st h
section
variable {X:Cx}{tg:Expr}
def EO (K:Φ) (tl:TE):TI:=λZ H R=>tl Z H λx H1=>∃a,x=.ref a/\(∃xs,cQ K H1 a xs)/\R (EN K a) H1
def X6 (K:Φ) (tl:TE):TI:=λZ H R=>tl Z H λx H1=>∃a,x=.ref a/\(∃xs,bZ K H1 a xs)/\R (Cr K a) H1
def jI (hl:PE X l tl):PI X tg l (EO X.K tl):=by
 intro ac s Z H R I h
 refine fE (hl ac s Z H _ I h) λv s1 c_=>?_
 obtain⟨x,H1,I1,r1,q1⟩:=c_
 obtain⟨a,e,⟨xs,hq⟩,q⟩:=q1
 subst e
 cases r1
 obtain⟨cV,rv,p,hz⟩:=I1.list hq
 refine iP p.isList ?_
 refine⟨s1.heap.objs.size,[s1.heap.objs.size],_,_,H1,rfl,I1.kept (t':=s1.toks) λb o e=>af _ e,Gg a _,⟨_,az _ rfl,rfl,rfl⟩,λb hb=>?_,q⟩
 have e:b=s1.heap.objs.size:=by simpa using hb
 subst e
 exact I1.zv (av _) (I1.eN.fresh (av _))
def iF (hl:PE X l tl):PI X tg l (X6 X.K tl):=by
 intro ac s Z H R I h
 refine fE (hl ac s Z H _ I h) λv s1 c_=>?_
 obtain⟨x,H1,I1,r1,q1⟩:=c_
 obtain⟨a,e,⟨xs,hq⟩,q⟩:=q1
 subst e
 cases r1
 obtain⟨cV,rv,p,hz⟩:=I1.tuple hq
 refine mG (show s1.heap.IsTuple a cV.toArray from p) ?_
 refine⟨s1.heap.objs.size,[s1.heap.objs.size],_,_,H1,rfl,I1.kept (t':=s1.toks) λb o e=>af _ e,Ct a _,⟨_,az _ rfl,rfl,rfl⟩,λb hb=>?_,q⟩
 have e:b=s1.heap.objs.size:=by simpa using hb
 subst e
 exact I1.zv (av _) (I1.eN.fresh (av _))
def Io {ac:List (ai×Obj)}{Z:St}{H:Hp}{s:ak}{R:It->Hp->Prop}{E:ag->ak->Prop}{lo hi:Int}{t u v:Tok}{tk:Nat}(I:Inv X ac Z H s) (h1:-(2^62)<=lo) (h2:lo<2^62) (h3:-(2^62)<=hi) (h4:hi<2^62)
  (q:R (Im lo (hi-lo).toNat) H):wpAny (model X.prog X.w) X.A (pyIter (.ref s.heap.objs.size)) (X4 X ac Z tg R) E {s with heap:=s.heap.push {cls:=.type "range",data:=.fields #[.int lo t,.int hi u,.int 1 v]},toks:=tk}:=by
 refine wpAny_pyIter_range (IsRange.new ..) (small_one h1 h2 h3 h4) ?_
 have I1:Inv X ac Z H {s with heap:=s.heap.push {cls:=.type "range",data:=.fields #[.int lo t,.int hi u,.int 1 v]},toks:=tk}:=I.kept λb o e=>af _ e
 refine⟨(s.heap.push {cls:=.type "range",data:=.fields #[.int lo t,.int hi u,.int 1 v]}).objs.size,[(s.heap.push {cls:=.type "range",data:=.fields #[.int lo t,.int hi u,.int 1 v]}).objs.size],_,_,H,rfl,
  I1.kept (t':=tk) λb o e=>af _ e,Cu _ lo (hi-lo).toNat,?_,λb hb=>?_,q⟩
 .have e1:lo+((0:Nat):Int)*1=lo:=ς
  have e2:(((hi-lo).toNat:Nat):Int)-((0:Nat):Int)=Builtin.Range.rangeSize lo hi 1:=by rw[rangeSize_one];split<;>omega
  show IsRangeIter _ _ (lo+((0:Nat):Int)*1) ((((hi-lo).toNat:Nat):Int)-((0:Nat):Int)) 1
  rw[e1,e2]
  exact az _ rfl
 .have e:b=(s.heap.push {cls:=.type "range",data:=.fields #[.int lo t,.int hi u,.int 1 v]}).objs.size:=by simpa using hb
  subst e
  exact I1.zv (av _) (I1.eN.fresh (av _))
def TB (ta:TA):TI:=λZ H R=>ta Z H λvs H1=>∃j:Int,vs=[.int j]/\-(2^62)<=j/\j<2^62/\R (Im 0 j.toNat) H1
def tR (hg:Gl X "range") (hm:X.mg "range"=none) (ha:PA X [a] ta) (hs:starEach [a] X.env=[(false,eval a X.env)]:=by rfl):PI X tg (.Call (.Name "range" p) [a] [] pos) (TB ta):=by
 intro ac s Z H R I h
 refine Call_ (qJ I hg hm boot_range (gJ (fE (ha pos ac s Z H _ I h) λus s1 c_=>?_) hs rfl))
 obtain⟨vs,H1,I1,r1,q1⟩:=c_
 obtain⟨j,e,q1,q2,q⟩:=q1
 subst e
 cases r1 with
 |cons r rr=>
  cases rr
  obtain⟨t,rfl⟩:=r
  exact call_range_1 (Io I1 ω ω q1 q2 (by simpa using q))
def TC (wi:TI) (g:TG) (tb:TS):TS:=λD Z H=>wi Z H λJ H1=>∃W:Nat->Nat->St->Hp->Prop,(∃m,W 0 m Z H1)/\∀i m Z H,W i m Z H->
 (J.stop i H/\D.nx Z H)\/(J.go i H/\∃N:St->Hp->Prop,(∀bX H',N bX H'->∃m',m'<m/\W (i+1) m' bX H')/\∀x H',J.BS i H x H'->g x Z H' λiI H2=>tb {D with nx:=N,ct:=N,bk:=D.nx} iI H2)
def qK (fp:List ai) (h:Heap):List (ai×Obj):=fp.filterMap λb=>(h.get? b).map λo=>(b,o)
def iJ (hb:b∈fp) (e:h.get? b=some o):(b,o)∈qK fp h:=AA.mpr ⟨b,hb,by rw[e];rfl⟩
def Gh (hp:p∈qK fp h):p.1∈fp/\h.get? p.1=some p.2:=by
 obtain⟨b,hb,e⟩:=AA.mp hp
 cases q:h.get? b with
 |none=>rw[q] at e;cases e
 |some o=>
  rw[q] at e
  have e':(b,o)=p:=cR e
  subst e'
  exact⟨hb,q⟩
def Inv.pinned (I:Inv X ac Z H s) (hf:∀b∈fp,nG X ac H b) (ho:∀b∈fp,∃o,s.heap.get? b=some o/\∀v,o.data≠.cell v):Inv X (ac++qK fp s.heap) Z H s:=
 I.EI λp hp=>(bK.mp hp).elim (λz=>I.pin p (aM _ z)) λz=>by
  obtain⟨hb,e⟩:=Gh z
  obtain⟨f0,f1,f2,_⟩:=hf p.1 hb
  obtain⟨o,e',d⟩:=ho p.1 hb
  rw[e] at e';cases e'
  exact⟨e,f0,f1,f2,d⟩
def Inv.nI (I:Inv X (ac++pl) Z H s):Inv X ac Z H s:=I.EI λp hp=>I.pin p (aM _ (cf _ hp))
def mL (hp:PassesOwn (model X.prog X.w) X.A X.env X.xe) (hc:X.calm=true) (hi:PI X tg iter wi) (hg:PG X tg g) (hb:xU X body tb)
  (hs:∀x,foldedSetIterable iter X.env x=pure x:=by intro _;rfl):PS X (.For tg iter body [] pos) (TC wi g tb):=by
 intro ac s Z H D I h
 refine wpAny_For (fE (hi ac s Z H _ I h) λv s1 h1=>fE h1 λPq s2 h2=>?_) hs
 obtain⟨it,fp,tn,J,H2,e,I2,T,BU,f2,W,⟨m0,w0⟩,turn⟩:=h2
 subst e
 --aaL stays true of W5 Pt objects through W5 loop
 have qL:∀{H':Hp},(∀b∈fp,H' b=none)->∀b∈fp,nG X ac H' b:=λhn b hb=>⟨hn b hb,(f2 b hb).2⟩
 refine codeAny_forLoop_any (λn s'=>∃i bX H',Inv X ac bX H' s'/\tn i s'.heap/\(∀b∈fp,H' b=none)/\W i n bX H') ?_ m0 ⟨0,Z,H2,I2,BU,λb hb=>(f2 b hb).1,w0⟩
 rintro n s3 ⟨i,Il,H3,I3,st3,fr3,w3⟩
 rcases turn i n Il H3 w3 with⟨stop,qn⟩|⟨go,N,hN,step⟩
 .refine jT hp (fE (T.done X rfl rfl rfl hc i ac s3 Il H3 X.xe I3 (qL fr3) st3 stop) λr s4 c_=>?_)
  obtain⟨hr,I4⟩:=c_
  subst hr
  exact Ar ⟨Il,H3,I4,qn⟩
 .refine jT hp (fE (T.item X rfl rfl rfl hc i ac s3 Il H3 X.xe I3 (qL fr3) st3 go) λr s4 c_=>?_)
  obtain⟨u,hr,h4⟩:=c_
  subst hr
  refine jT hp (fE h4 λ_ s5 c_=>?_)
  obtain⟨x,H5,I5,r5,y5,HN,Lc⟩:=c_
  have I5':=I5.pinned (qL Lc) (T.obj _ _ HN)
  refine jT hp (fE (hg _ s5 Il H5 x u _ I5' r5 (step x H5 y5)) λ_ s6 c_=>?_)
  obtain⟨σ6,H6,I6,q6⟩:=c_
  refine jT hp (fE (hb _ s6 σ6 H6 _ I6 q6) λf s7 q7=>?_)
  have again:∀{uQ:St} {H7:Hp},Inv X (ac++qK fp s5.heap) uQ H7 s7->N uQ H7->∃m,m<n/\∃i bX H',Inv X ac bX H' s7/\tn i s7.heap/\(∀b∈fp,H' b=none)/\W i m bX H':=λ{uQ H7} I7 n7=>by
   obtain⟨m',hm,w7⟩:=hN uQ H7 n7
   refine⟨m',hm,i+1,uQ,H7,I7.nI,T.keep _ _ _ HN λb hb o e=>(I7.pin (b,o) (aM _ (aM _ (iJ hb e)))).1,λb hb=>?_,w7⟩
   obtain⟨o,e,d⟩:=T.obj _ _ HN b hb
   exact(I7.pin (b,o) (aM _ (aM _ (iJ hb e)))).2.1
  cases f with
  |next=>obtain⟨uQ,H7,I7,n7⟩:=q7;exact again I7 n7
  |cont=>obtain⟨uQ,H7,I7,n7⟩:=q7;exact again I7 n7
  |brk=>obtain⟨uQ,H7,I7,q7⟩:=q7;exact⟨uQ,H7,I7.nI,q7⟩
  |ret v=>obtain⟨x7,uQ,H7,I7,r7,q7⟩:=q7;exact⟨x7,uQ,H7,I7.nI,r7,q7⟩
end
def pF {K:Φ}{a:ai}{xs:List V}{g:TG}{tb:TS}{D:Ends}{Z:St}{H:Hp}(Pv:Nat->St->Hp->Prop) (h0:Pv 0 Z H) (hl:∀i Z H,i<=xs.length->Pv i Z H->cQ K H a xs)
  (hs:∀i x Z H,xs[i]?=some x->Pv i Z H->g x Z H λiI H2=>tb {D with nx:=Pv (i+1),ct:=Pv (i+1),bk:=D.nx} iI H2) (hd:∀Z H,Pv xs.length Z H->D.nx Z H):
  ∃W:Nat->Nat->St->Hp->Prop,(∃m,W 0 m Z H)/\∀i m Z H,W i m Z H->
   ((EN K a).stop i H/\D.nx Z H)\/((EN K a).go i H/\∃N:St->Hp->Prop,(∀bX H',N bX H'->∃m',m'<m/\W (i+1) m' bX H')/\∀x H',(EN K a).BS i H x H'->g x Z H' λiI H2=>tb {D with nx:=N,ct:=N,bk:=D.nx} iI H2):=by
 refine⟨λi m Z H=>m=xs.length-i/\i<=xs.length/\Pv i Z H,⟨xs.length,ς,dz _,h0⟩,?_⟩
 rintro i m Z H ⟨rfl,hi,p⟩
 have q:=hl i Z H hi p
 by_cases o7:i<xs.length
 .refine .inr ⟨⟨xs,xs[i],q,by simp[o7]⟩,Pv (i+1),λbX H' p'=>⟨xs.length-(i+1),ω,rfl,o7,p'⟩,λx H' y=>?_⟩
  obtain⟨e,y⟩:=y
  subst e
  exact hs i x Z _ (y xs q) p
 .have e:i=xs.length:=ω
  subst e
  exact .inl ⟨⟨xs,q,av _⟩,hd Z H p⟩
def ER {K:Φ} {g:TG}{tb:TS}{D:Ends} (Pv:Nat->St->Hp->Prop) (h0:Pv 0 Z H) (hl:∀i Z H,i<=xs.length->Pv i Z H->bZ K H a xs)
  (hs:∀i x Z H,xs[i]?=some x->Pv i Z H->g x Z H λiI H2=>tb {D with nx:=Pv (i+1),ct:=Pv (i+1),bk:=D.nx} iI H2) (hd:∀Z H,Pv xs.length Z H->D.nx Z H):
  ∃W:Nat->Nat->St->Hp->Prop,(∃m,W 0 m Z H)/\∀i m Z H,W i m Z H->
   ((Cr K a).stop i H/\D.nx Z H)\/((Cr K a).go i H/\∃N:St->Hp->Prop,(∀bX H',N bX H'->∃m',m'<m/\W (i+1) m' bX H')/\∀x H',(Cr K a).BS i H x H'->g x Z H' λiI H2=>tb {D with nx:=N,ct:=N,bk:=D.nx} iI H2):=by
 refine⟨λi m Z H=>m=xs.length-i/\i<=xs.length/\Pv i Z H,⟨xs.length,ς,dz _,h0⟩,?_⟩
 rintro i m Z H ⟨rfl,hi,p⟩
 have q:=hl i Z H hi p
 by_cases o7:i<xs.length
 .refine .inr ⟨⟨xs,xs[i],q,by simp[o7]⟩,Pv (i+1),λbX H' p'=>⟨xs.length-(i+1),ω,rfl,o7,p'⟩,λx H' y=>?_⟩
  obtain⟨e,y⟩:=y
  subst e
  exact hs i x Z _ (y xs q) p
 .have e:i=xs.length:=ω
  subst e
  exact .inl ⟨⟨xs,q,av _⟩,hd Z H p⟩
def Gi {lo:Int}{g:TG}{tb:TS}{D:Ends} (Pv:Nat->St->Hp->Prop) (h0:Pv 0 Z H)
  (hs:∀i Z H,i<n->Pv i Z H->g (.int (lo+i)) Z H λiI H2=>tb {D with nx:=Pv (i+1),ct:=Pv (i+1),bk:=D.nx} iI H2) (hd:∀Z H,Pv n Z H->D.nx Z H):
  ∃W:Nat->Nat->St->Hp->Prop,(∃m,W 0 m Z H)/\∀i m Z H,W i m Z H->
   ((Im lo n).stop i H/\D.nx Z H)\/((Im lo n).go i H/\∃N:St->Hp->Prop,(∀bX H',N bX H'->∃m',m'<m/\W (i+1) m' bX H')/\∀x H',(Im lo n).BS i H x H'->g x Z H' λiI H2=>tb {D with nx:=N,ct:=N,bk:=D.nx} iI H2):=by
 refine⟨λi m Z H=>m=n-i/\i<=n/\Pv i Z H,⟨n,ς,dz _,h0⟩,?_⟩
 rintro i m Z H ⟨rfl,hi,p⟩
 by_cases o7:i<n
 .refine .inr ⟨o7,Pv (i+1),λbX H' p'=>⟨n-(i+1),ω,rfl,o7,p'⟩,λx H' y=>?_⟩
  obtain⟨e,y⟩:=y
  subst e y
  exact hs i Z _ o7 p
 .have e:i=n:=ω
  subst e
  exact .inl ⟨av _,hd Z H p⟩
def AI {c:TT}{tb:TS}{D:Ends}{Z:St}{H:Hp}(Pv:St->Hp->Prop) (μ:St->Hp->Nat) (h0:Pv Z H)
  (hs:∀Z H,Pv Z H->c Z H λb H1=>if b=true then tb {D with nx:=λbX H'=>Pv bX H'/\μ bX H'<μ Z H,ct:=λbX H'=>Pv bX H'/\μ bX H'<μ Z H,bk:=D.nx} Z H1 else D.nx Z H1)
  (mono:∀Z H Q Q',(∀b H1,Q b H1->Q' b H1)->c Z H Q->c Z H Q'):Ik c tb D Z H:=by
 refine⟨λm Z H=>m=μ Z H/\Pv Z H,⟨_,rfl,h0⟩,?_⟩
 rintro m Z H ⟨rfl,p⟩
 refine mono Z H _ _ (λb H1 q=>?_) (hs Z H p)
 cases b with
 |true=>exact⟨_,λbX H' ⟨p',l⟩=>⟨_,l,rfl,p'⟩,q⟩
 |false=>exact q
abbrev R2:=V->V->Hp->VK->Prop
def lP (X:Cx) (f:ag->ag->Sem ag) (r:R2):Prop:=
 ∀(ac:List (ai×Obj)) (s:ak) (Z:St) (H:Hp) (x y:V) (v u:ag) (Q:VK),Inv X ac Z H s->RelV x v->RelV y u->r x y H Q->
  wpAny (model X.prog X.w) X.A (f v u) (EP X ac Z Q) X.xe s
def X8 (X:Cx) (f:ag->Sem ag) (r:V->Hp->VK->Prop):Prop:=
 ∀(ac:List (ai×Obj)) (s:ak) (Z:St) (H:Hp) (x:V) (v:ag) (Q:VK),Inv X ac Z H s->RelV x v->r x H Q->
  wpAny (model X.prog X.w) X.A (f v) (EP X ac Z Q) X.xe s
def gN (X:Cx) (f:ag) (r:List V->Hp->VK->Prop):Prop:=
 ∀(ac:List (ai×Obj)) (s:ak) (Z:St) (H:Hp) (xs:List V) (us:List ag) (Q:VK),Inv X ac Z H s->cK xs us->r xs H Q->
  wpAny (model X.prog X.w) X.A (call f us) (EP X ac Z Q) X.xe s
def X_ (X:Cx) (r:V->Hp->(Bool->Hp->Prop)->Prop):Prop:=
 ∀(ac:List (ai×Obj)) (s:ak) (Z:St) (H:Hp) (x:V) (v:ag) (Q:Bool->Hp->Prop),Inv X ac Z H s->RelV x v->r x H Q->
  wpAny (model X.prog X.w) X.A (truthy v) (TP X ac Z Q) X.xe s
def gH (r:R2) (ta tb:TE):TE:=λZ H Q=>ta Z H λx H1=>tb Z H1 λy H2=>r x y H2 Q
def tUn (r:V->Hp->VK->Prop) (ta:TE):TE:=λZ H Q=>ta Z H λx H1=>r x H1 Q
def rI (C:Int->Int->Prop) (g:Int->Int->V):R2:=λx y H Q=>∃i j,x=.int i/\y=.int j/\C i j/\Q (g i j) H
def HP (g:Int->Int->V):R2:=λx y H Q=>∃i j,x=.int i/\y=.int j/\Q (g i j) H
def rU (g:Int->V):V->Hp->VK->Prop:=λx H Q=>∃i,x=.int i/\Q (g i) H
section
variable {X:Cx}{a b c:Expr}{ta tb tc:TE}{pos:Pos}
def Pu (ha:PE X a ta) (hb:PE X b tb) {R:V->V->Hp->Prop}(I:Inv X ac Z H s)
  (h:ta Z H λx H1=>tb Z H1 λy H2=>R x y H2) {f:ag->ag->Sem ag}
  (hf:∀v u s2 x y H2,Inv X ac Z H2 s2->RelV x v->RelV y u->R x y H2->wpAny (model X.prog X.w) X.A (f v u) Q X.xe s2):
  wpAny (model X.prog X.w) X.A (eval a X.env) (λv fq=>wpAny (model X.prog X.w) X.A (eval b X.env) (λu tS=>wpAny (model X.prog X.w) X.A (f v u) Q X.xe tS) X.xe fq) X.xe s:=by
 refine fE (ha ac s Z H _ I h) λv s1 c_=>?_
 obtain⟨x,H1,I1,r1,q1⟩:=c_
 refine fE (hb ac s1 Z H1 _ I1 q1) λu s2 c_=>?_
 obtain⟨y,H2,I2,r2,q2⟩:=c_
 exact hf v u s2 x y H2 I2 r1 r2 q2
def bW (ho:lP X (binaryOp op) r) (ha:PE X a ta) (hb:PE X b tb):PE X (.BinOp a op b pos) (gH r ta tb):=by
 intro ac s Z H Q I h
 exact wpAny_BinOp (Pu ha hb I h λv u s2 x y H2 I2 rx ry q=>ho ac s2 Z H2 x y v u Q I2 rx ry q)
def qC (ho:X8 X (unaryOp op) r) (ha:PE X a ta):PE X (.UnaryOp op a pos) (tUn r ta):=by
 intro ac s Z H Q I h
 refine UnaryOp_ (fE (ha ac s Z H _ I h) λv s1 c_=>?_)
 obtain⟨x,H1,I1,r1,q1⟩:=c_
 exact ho ac s1 Z H1 x v Q I1 r1 q1
def TF {g:Int->Int->Int}
  (rule:∀(i j:Int) (t u:Tok) (s:ak) (Q:ag->ak->Prop) (E:ag->ak->Prop),C i j->Q (.int (g i j) s.toks) {s with toks:=s.toks+1}->wpAny (model X.prog X.w) X.A (f (.int i t) (.int j u)) Q E s):
  lP X f (rI C λi j=>.int (g i j)):=by
 intro ac s Z H x y v u Q I rx ry h
 obtain⟨i,j,rfl,rfl,hc,q⟩:=h
 obtain⟨t,rfl⟩:=rx
 obtain⟨t',rfl⟩:=ry
 exact rule i j t t' s _ _ hc ⟨.int (g i j),H,I.tok _,⟨_,rfl⟩,q⟩
def TH {g:Int->Int->Int}
  (rule:∀(i j:Int) (t u:Tok) (s:ak) (Q:ag->ak->Prop) (E:ag->ak->Prop),Q (.int (g i j) s.toks) {s with toks:=s.toks+1}->wpAny (model X.prog X.w) X.A (f (.int i t) (.int j u)) Q E s):
  lP X f (HP λi j=>.int (g i j)):=by
 intro ac s Z H x y v u Q I rx ry h
 obtain⟨i,j,rfl,rfl,q⟩:=h
 obtain⟨t,rfl⟩:=rx
 obtain⟨t',rfl⟩:=ry
 exact rule i j t t' s _ _ ⟨.int (g i j),H,I.tok _,⟨_,rfl⟩,q⟩
def LL {g:Int->Int->Bool}
  (rule:∀(i j:Int) (t u:Tok) (s:ak) (Q:ag->ak->Prop) (E:ag->ak->Prop),Q (.bool (g i j)) s->wpAny (model X.prog X.w) X.A (f (.int i t) (.int j u)) Q E s):
  lP X f (HP λi j=>.bl (g i j)):=by
 intro ac s Z H x y v u Q I rx ry h
 obtain⟨i,j,rfl,rfl,q⟩:=h
 obtain⟨t,rfl⟩:=rx
 obtain⟨t',rfl⟩:=ry
 exact rule i j t t' s _ _ ⟨.bl (g i j),H,I,rfl,q⟩
def Ya (i j:Int):Prop:=0<j/\j<1073741824
def TJ (i j:Int):Prop:=0<=j/\j<=1000000/\i.natAbs<2^64
def Gj (i j:Int):Prop:=(-(2^64)<i/\i<2^64)\/(-(2^64)<j/\j<2^64)
def Gj.ok (h:Gj i j):IntMulOk i j:=by
 rcases h with⟨h1,h2⟩|⟨h1,h2⟩
 .exact .of_left (intBits_le_64 h1 h2)
 .exact .of_right (intBits_le_64 h1 h2)
def gs:lP X (binaryOp .Add) (HP λi j=>.int (i+j)):=TH λ_ _ _ _ _ _ _ q=>add_int q
def kW:lP X (binaryOp .Sub) (HP λi j=>.int (i-j)):=TH λ_ _ _ _ _ _ _ q=>sub_int q
def mM:lP X (binaryOp .Mult) (rI Gj λi j=>.int (i*j)):=TF λ_ _ _ _ _ _ _ hc q=>mul_int q hc.ok
def ES:lP X (binaryOp .FloorDiv) (rI Ya λi j=>.int (i/j)):=TF λi j _ _ _ _ _ hc q=>by
 have h1:(0:Int)<j:=hc.1
 have h2:j<1073741824:=hc.2
 exact floordiv_int ω (by rw[Lu i ω];exact q) (.inl (PyProof.noPylong_small ω))
def oh:lP X (binaryOp .Mod) (rI (λ_ j=>0<j) λi j=>.int (i %j)):=TF λi j _ _ _ _ _ hc q=>by
 have h1:(0:Int)<j:=hc
 exact mod_int' ω (by rw[Int.fmod_eq_emod_of_nonneg i ω];exact q)
def mO:lP X (binaryOp .Pow) (rI TJ λi j=>.int (i^j.toNat)):=TF λ_ _ _ _ _ _ _ hc q=>pow_int_small hc.1 hc.2.1 hc.2.2 q
def unI {g:Int->Int}
  (rule:∀(i:Int) (t:Tok) (s:ak) (Q:ag->ak->Prop) (E:ag->ak->Prop),Q (.int (g i) s.toks) {s with toks:=s.toks+1}->wpAny (model X.prog X.w) X.A (f (.int i t)) Q E s):
  X8 X f (rU λi=>.int (g i)):=by
 intro ac s Z H x v Q I rx h
 obtain⟨i,rfl,q⟩:=h
 obtain⟨t,rfl⟩:=rx
 exact rule i t s _ _ ⟨.int (g i),H,I.tok _,⟨_,rfl⟩,q⟩
def mP:X8 X (unaryOp .USub) (rU λi=>.int (-i)):=unI λ_ _ _ _ _ q=>neg_int q
end
def TK:V->V->Bool
 | .eU,.eU=>true| .eU,.int _=>true| .int _,.eU=>true| .eU,.bl _=>true| .bl _,.eU=>true| .eU,.str _=>true| .str _,.eU=>true
 | .int _,.int _=>true| .bl _,.bl _=>true| .str _,.str _=>true| .EG _,.EG _=>true
 | .int _,.str _=>true| .str _,.int _=>true| .bl _,.str _=>true| .str _,.bl _=>true
 |_,_=>false
def HQ:R2:=λx y H Q=>TK x y=true/\Q (.bl (decide (x=y))) H
def LM:R2:=λx y H Q=>TK x y=true/\Q (.bl (!decide (x=y))) H
def ET:decide (V.int i=V.int j)=(i==j):=by
 rw[u_]
 simp
def Ip:decide (V.bl i=V.bl j)=(i==j):=by
 rw[u_]
 simp
def EU:decide (V.str i=V.str j)=(i==j):=by
 rw[u_]
 simp
def EV:decide (V.EG i=V.EG j)=(i.toList==j.toList):=by
 rw[u_]
 cases i
 cases j
 simp
section
variable {X:Cx}{a b c:Expr}{ta tb tc:TE}{pos:Pos}
def eP (I:Inv X ac Z H s) (q:Q (.bl k) H) (e:k=k'):EP X ac Z Q (.bool k') s:=by
 subst e
 exact⟨.bl k,H,I,rfl,q⟩
def gO:lP X (compareOp .Eq) HQ:=by
 intro ac s Z H x y v u Q I rx ry h
 obtain⟨hs,q⟩:=h
 cases x with
 |eU=>
  cases rx
  cases y with
  |eU=>cases ry;exact PySem.EqNone.eq_none_none (eP I q ς)
  |bl j=>cases ry;exact PySem.EqNone.eq_none_bool (eP I q ς)
  |int j=>obtain⟨t',rfl⟩:=ry;exact PySem.EqNone.eq_none_int (eP I q ς)
  |str j=>obtain⟨t',rfl⟩:=ry;exact PySem.EqNone.eq_none_str (eP I q ς)
  |_=>exact absurd (show false=true from hs) bM
 |bl i=>
  cases rx
  cases y with
  |eU=>cases ry;exact PySem.EqNone.eq_bool_none (eP I q ς)
  |bl j=>cases ry;exact eq_bool (eP I q Ip)
  |str j=>obtain⟨t',rfl⟩:=ry;exact PySem.EqMixed.eq_bool_str (eP I q ς)
  |_=>exact absurd (show false=true from hs) bM
 |int i=>
  obtain⟨t,rfl⟩:=rx
  cases y with
  |eU=>cases ry;exact PySem.EqNone.eq_int_none (eP I q ς)
  |int j=>obtain⟨t',rfl⟩:=ry;exact eq_int (eP I q ET)
  |str j=>obtain⟨t',rfl⟩:=ry;exact PySem.EqMixed.eq_int_str (eP I q ς)
  |_=>exact absurd (show false=true from hs) bM
 |str i=>
  obtain⟨t,rfl⟩:=rx
  cases y with
  |eU=>cases ry;exact PySem.EqNone.eq_str_none (eP I q ς)
  |bl j=>cases ry;exact PySem.EqMixed.eq_str_bool (eP I q ς)
  |int j=>obtain⟨t',rfl⟩:=ry;exact PySem.EqMixed.eq_str_int (eP I q ς)
  |str j=>obtain⟨t',rfl⟩:=ry;exact eq_str (eP I q EU)
  |_=>exact absurd (show false=true from hs) bM
 |EG i=>
  obtain⟨t,rfl⟩:=rx
  cases y with
  |EG j=>obtain⟨t',rfl⟩:=ry;exact PySem.W.eq_bytes (eP I q EV)
  |_=>exact absurd (show false=true from hs) bM
 |_=>cases y<;>exact absurd (show false=true from hs) bM
def lV:lP X (compareOp .NotEq) LM:=by
 intro ac s Z H x y v u Q I rx ry h
 obtain⟨hs,q⟩:=h
 cases x with
 |eU=>
  cases rx
  cases y with
  |eU=>cases ry;exact PySem.EqNone.ne_none_none (eP I q ς)
  |bl j=>cases ry;exact PySem.EqNone.ne_none_bool (eP I q ς)
  |int j=>obtain⟨t',rfl⟩:=ry;exact PySem.EqNone.ne_none_int (eP I q ς)
  |str j=>obtain⟨t',rfl⟩:=ry;exact PySem.EqNone.ne_none_str (eP I q ς)
  |_=>exact absurd (show false=true from hs) bM
 |bl i=>
  cases rx
  cases y with
  |eU=>cases ry;exact PySem.EqNone.ne_bool_none (eP I q ς)
  |bl j=>cases ry;exact ne_bool (eP I q (jS not Ip))
  |str j=>obtain⟨t',rfl⟩:=ry;exact PySem.EqMixed.ne_bool_str (eP I q ς)
  |_=>exact absurd (show false=true from hs) bM
 |int i=>
  obtain⟨t,rfl⟩:=rx
  cases y with
  |eU=>cases ry;exact PySem.EqNone.ne_int_none (eP I q ς)
  |int j=>obtain⟨t',rfl⟩:=ry;exact ne_int (eP I q (jS not ET))
  |str j=>obtain⟨t',rfl⟩:=ry;exact PySem.EqMixed.ne_int_str (eP I q ς)
  |_=>exact absurd (show false=true from hs) bM
 |str i=>
  obtain⟨t,rfl⟩:=rx
  cases y with
  |eU=>cases ry;exact PySem.EqNone.ne_str_none (eP I q ς)
  |bl j=>cases ry;exact PySem.EqMixed.ne_str_bool (eP I q ς)
  |int j=>obtain⟨t',rfl⟩:=ry;exact PySem.EqMixed.ne_str_int (eP I q ς)
  |str j=>obtain⟨t',rfl⟩:=ry;exact ne_str (eP I q (jS not EU))
  |_=>exact absurd (show false=true from hs) bM
 |EG i=>
  obtain⟨t,rfl⟩:=rx
  cases y with
  |EG j=>obtain⟨t',rfl⟩:=ry;exact PySem.W.ne_bytes (eP I q (jS not EV))
  |_=>exact absurd (show false=true from hs) bM
 |_=>cases y<;>exact absurd (show false=true from hs) bM
def rN:lP X (compareOp .Lt) (HP λi j=>.bl (decide (i<j))):=LL λ_ _ _ _ _ _ _ q=>lt_int q
def rO:lP X (compareOp .LtE) (HP λi j=>.bl (decide (i<=j))):=LL λ_ _ _ _ _ _ _ q=>le_int q
def ym:lP X (compareOp .Gt) (HP λi j=>.bl (decide (j<i))):=LL λ_ _ _ _ _ _ _ q=>gt_int q
def Iq:lP X (compareOp .GtE) (HP λi j=>.bl (decide (j<=i))):=LL λ_ _ _ _ _ _ _ q=>ge_int q
def Gk:lP X (compareOp .Lt) (λx y H Q=>∃i j,x=.str i/\y=.str j/\Q (.bl (decide (i.cps.toList<j.cps.toList))) H):=by
 intro ac s Z H x y v u Q I rx ry h
 obtain⟨i,j,rfl,rfl,q⟩:=h
 obtain⟨t,rfl⟩:=rx
 obtain⟨t',rfl⟩:=ry
 exact lt_str (eP I q rfl)
def Pw:lP X (compareOp .Is) (λx y H Q=>y=.eU/\Q (.bl (decide (x=.eU))) H):=by
 intro ac s Z H x y v u Q I rx ry h
 obtain⟨rfl,q⟩:=h
 cases ry
 refine is_none_gen (eP I q ?_)
 cases x<;>first
  |(cases rx;rfl)
  |(obtain⟨t,rfl⟩:=rx;rfl)
def EW:lP X (compareOp .IsNot) (λx y H Q=>y=.eU/\Q (.bl (!decide (x=.eU))) H):=by
 intro ac s Z H x y v u Q I rx ry h
 obtain⟨rfl,q⟩:=h
 cases ry
 refine isnot_none_gen (eP I q ?_)
 cases x<;>first
  |(cases rx;rfl)
  |(obtain⟨t,rfl⟩:=rx;rfl)
def bG (b:Expr) (h:op≠.In:=by decide) (h2:op≠.NotIn:=by decide):behindInMarks op b=false:=by
 have e1:(op==CmpOp.In)=false:=by cases op<;>first|rfl|exact absurd rfl h
 have e2:(op==CmpOp.NotIn)=false:=by cases op<;>first|rfl|exact absurd rfl h2
 cases b<;>simp[behindInMarks,e1,e2]
def gy {op:CmpOp}{r:R2}(ho:lP X (compareOp op) r) (ha:PE X a ta) (hb:PE X b tb) (hm:behindInMarks op b=false):PE X (.Compare a [op] [b] pos) (gH r ta tb):=by
 intro ac s Z H Q I h
 exact wpAny_Compare1 (Pu ha hb I h λv u s2 x y H2 I2 rx ry q=>ho ac s2 Z H2 x y v u Q I2 rx ry q) hm
def gI (t:TE):TT:=λZ H Q=>t Z H λx H'=>∃k,x=.bl k/\Q k H'
def bo (ho:lP X (compareOp op) r) (ha:PE X a ta) (hb:PE X b tb) (hm:behindInMarks op b=false):PT X (.Compare a [op] [b] pos) (gI (gH r ta tb)):=by
 intro ac s Z H Q I h
 refine wpAny_isTrue_Compare1 (fE (ha ac s Z H _ I h) λv s1 c_=>?_) hm
 obtain⟨x,H1,I1,r1,q1⟩:=c_
 refine fE (hb ac s1 Z H1 _ I1 q1) λu s2 AJ=>?_
 obtain⟨y,H2,I2,r2,q2⟩:=AJ
 refine fE (ho ac s2 Z H2 x y v u _ I2 r1 r2 q2) λc s3 TL=>?_
 obtain⟨z,H3,I3,r3,k,e,q3⟩:=TL
 subst e
 cases r3
 exact dI ⟨H3,I3,q3⟩
def Ir (r r':R2) (ta tb tc:TE):TE:=λZ H Q=>ta Z H λx H1=>tb Z H1 λy H2=>r x y H2 λz H3=>∃k,z=.bl k/\
 (if k=true then tc Z H3 λw' H4=>r' y w' H4 Q else Q (.bl false) H3)
def rP (ho:lP X (compareOp op) r) (xT:lP X (compareOp TM) r') (ha:PE X a ta) (hb:PE X b tb) (hc:PE X c tc)
  (hm:lastMarks [op,TM] [b,c]=false:=by with_unfolding_all rfl):PE X (.Compare a [op,TM] [b,c] pos) (Ir r r' ta tb tc):=by
 intro ac s Z H Q I h
 refine Compare_chain (fE (ha ac s Z H _ I h) λv s1 c_=>?_) hm
 obtain⟨x,H1,I1,r1,q1⟩:=c_
 refine chain_link (fE (hb ac s1 Z H1 _ I1 q1) λu s2 AJ=>?_)
 obtain⟨y,H2,I2,r2,q2⟩:=AJ
 refine fE (ho ac s2 Z H2 x y v u _ I2 r1 r2 q2) λd s3 TL=>?_
 obtain⟨z,H3,I3,r3,k,e,q3⟩:=TL
 subst e
 cases r3
 refine dI ?_
 cases k with
 |false=>exact ite_ff ⟨.bl false,H3,I3,rfl,q3⟩
 |true=>
  refine ite_tt (chain_last (fE (hc ac s3 Z H3 _ I3 q3) λw' s4 c_=>?_))
  obtain⟨z',H4,I4,r4,q4⟩:=c_
  exact xT ac s4 Z H4 y z' u w' Q I4 r2 r4 q4
def rQ (ho:lP X (compareOp op) r) (xT:lP X (compareOp TM) r') (ha:PE X a ta) (hb:PE X b tb) (hc:PE X c tc)
  (hm:lastMarks [op,TM] [b,c]=false:=by with_unfolding_all rfl):PT X (.Compare a [op,TM] [b,c] pos) (gI (Ir r r' ta tb tc)):=by
 intro ac s Z H Q I h
 refine isTrue_chain (fE (ha ac s Z H _ I h) λv s1 c_=>?_) hm
 obtain⟨x,H1,I1,r1,q1⟩:=c_
 refine test_link (fE (hb ac s1 Z H1 _ I1 q1) λu s2 AJ=>?_)
 obtain⟨y,H2,I2,r2,q2⟩:=AJ
 refine fE (ho ac s2 Z H2 x y v u _ I2 r1 r2 q2) λd s3 TL=>?_
 obtain⟨z,H3,I3,r3,k,e,q3⟩:=TL
 subst e
 cases r3
 refine dI ?_
 cases k with
 |false=>
  obtain⟨k',e',q'⟩:=q3
  cases e'
  exact ite_ff ⟨H3,I3,q'⟩
 |true=>
  refine ite_tt (test_last (fE (hc ac s3 Z H3 _ I3 q3) λw' s4 c_=>?_))
  obtain⟨z',H4,I4,r4,q4⟩:=c_
  refine fE (xT ac s4 Z H4 y z' u w' _ I4 r2 r4 q4) λd' s5 AJ=>?_
  obtain⟨z2,H5,I5,r5,k2,e2,q5⟩:=AJ
  subst e2
  cases r5
  exact dI ⟨H5,I5,q5⟩
def TN (K:Φ) (x:V) (H:Hp) (k:Bool):Prop:=
 match x with
 | .eU=>k=false
 | .bl b=>k=b
 | .int i=>k=(i !=0)
 | .str y=>y.length<=sizeLine/\k=((y.length:Int) !=0)
 | .EG y=>y.size<=sizeLine/\k=((y.size:Int) !=0)
 | .ref p=>(∃xs,cQ K H p xs/\k= !xs.isEmpty)\/(∃xs,bZ K H p xs/\k= !xs.isEmpty)\/∃dW,H p=some (.dK dW)/\k= !dW.isEmpty
 |_=>False
def Cv {κ:Type}{dW:List (κ×V)}{vs:List (κ×ag)}(r:KV dW vs):(!vs.isEmpty)= !dW.isEmpty:=by
 cases r<;>rfl
def vO (r:cK xs cV):(!cV.toArray.isEmpty)= !xs.isEmpty:=by
 cases r<;>simp
def tT:(sizeLine:Nat)<2^63:=by rw[hW];decide
def Px:X_ X (λx H Q=>∃k,TN X.K x H k/\Q k H):=by
 intro ac s Z H x v Q I rx h
 obtain⟨k,e,q⟩:=h
 have hl:=tT
 have hs:sizeLine=16777216:=hW
 cases x with
 |eU=>
  cases rx
  have e':k=false:=e
  subst e'
  exact truthy_none ⟨H,I,q⟩
 |bl b=>
  cases rx
  have e':k=b:=e
  subst e'
  exact dI ⟨H,I,q⟩
 |int i=>
  obtain⟨t,rfl⟩:=rx
  have e':k=(i !=0):=e
  subst e'
  exact PySem.P.truthy_int ⟨H,I,q⟩
 |str y=>
  obtain⟨t,rfl⟩:=rx
  obtain⟨hy,e'⟩:y.length<=sizeLine/\k=((y.length:Int) !=0):=e
  subst e'
  exact PySem.P.truthy_str ω ⟨H,I.tok _,q⟩
 |EG y=>
  obtain⟨t,rfl⟩:=rx
  obtain⟨hy,e'⟩:y.size<=sizeLine/\k=((y.size:Int) !=0):=e
  subst e'
  exact PySem.W.truthy_bytes ω ⟨H,I.tok _,q⟩
 |ref p=>
  cases rx
  have e':(∃xs,cQ X.K H p xs/\k= !xs.isEmpty)\/(∃xs,bZ X.K H p xs/\k= !xs.isEmpty)\/∃dW,H p=some (.dK dW)/\k= !dW.isEmpty:=e
  rcases e' with⟨xs,hx,e'⟩|⟨xs,hx,e'⟩|⟨dW,hx,e'⟩
  .subst e'
   obtain⟨cV,r,pl,hz⟩:=I.list hx
   have hlen:=r.length
   exact wpAny_truthy_list pl.isList (by simp only[aK];omega) ⟨H,I.tok _,by rw[vO r];exact q⟩
  .subst e'
   obtain⟨cV,r,pl,hz⟩:=I.tuple hx
   have hlen:=r.length
   exact truthy_tuple pl (by simp only[aK];omega) ⟨H,I.tok _,by rw[vO r];exact q⟩
  .subst e'
   obtain⟨hz,hS,vs,r,m⟩:dW.length<=sizeLine/\(p==sysModules)=false/\∃vs,KV dW vs/\s.heap.DictOf (gK X.prog X.w) p vs:=I.eN p _ hx
   have hlen:dW.length=vs.length:=qg r
   exact wpAny_truthy_dict hS m ω ⟨H,I.tok _,by rw[Cv r];exact q⟩
 |_=>exact(show False from e).elim
def Cy:lP X (binaryOp .Add) (λx y H Q=>∃i j,x=.str i/\y=.str j/\i.length+j.length<=sizeLine/\Q (.str (i++j)) H):=by
 intro ac s Z H x y v u Q I rx ry h
 obtain⟨i,j,rfl,rfl,hz,q⟩:=h
 obtain⟨t,rfl⟩:=rx
 obtain⟨t',rfl⟩:=ry
 exact add_str (λt' tk=>⟨.str (i++j),H,I.tok _,⟨_,rfl⟩,q⟩) hz
def AB (r:cK [x] us):∃u,us=[u]/\RelV x u:=by
 cases r with
 |cons r1 r2=>cases r2;exact⟨_,rfl,r1⟩
def vals2 (r:cK [x,y] us):∃u w',us=[u,w']/\RelV x u/\RelV y w':=by
 cases r with
 |cons r1 r2=>
  cases r2 with
  |cons r3 r4=>cases r4;exact⟨_,_,rfl,r1,r3⟩
def vP:gN X (.builtin "abs") (λxs H Q=>∃i,xs=[.int i]/\Q (.int (if i<0 then-i else i)) H):=by
 intro ac s Z H xs us Q I r h
 obtain⟨i,rfl,q⟩:=h
 obtain⟨u,rfl,t,rfl⟩:=AB r
 exact call_abs_int λu tk=>⟨.int (if i<0 then-i else i),H,I.tok _,⟨_,rfl⟩,q⟩
def yn (hc:X.calm=true):gN X (.builtin "max") (λxs H Q=>∃i j,xs=[.int i,.int j]/\Q (.int (if j>i then j else i)) H):=by
 intro ac s Z H xs us Q I r h
 obtain⟨i,j,rfl,q⟩:=h
 obtain⟨u,w',rfl,⟨t,rfl⟩,⟨t',rfl⟩⟩:=vals2 r
 refine max_two_ints (I.ok.hd hc) λh' tk k=>⟨_,H,I.kept k,?_,q⟩
 by_cases hj:j>i
 .rw[aT hj,aT hj];exact⟨_,rfl⟩
 .rw[aP hj,aP hj];exact⟨_,rfl⟩
def Gm (hc:X.calm=true):gN X (.builtin "min") (λxs H Q=>∃i j,xs=[.int i,.int j]/\Q (.int (if j<i then j else i)) H):=by
 intro ac s Z H xs us Q I r h
 obtain⟨i,j,rfl,q⟩:=h
 obtain⟨u,w',rfl,⟨t,rfl⟩,⟨t',rfl⟩⟩:=vals2 r
 refine min_two_ints (I.ok.hd hc) λh' tk k=>⟨_,H,I.kept k,?_,q⟩
 by_cases hj:j<i
 .rw[aT hj,aT hj];exact⟨_,rfl⟩
 .rw[aP hj,aP hj];exact⟨_,rfl⟩
def yo:gN X (.type "int") (λxs H Q=>(∃i,xs=[.int i]/\Q (.int i) H)\/∃k,xs=[.bl k]/\Q (.int (if k then 1 else 0)) H):=by
 intro ac s Z H xs us Q I r h
 rcases h with⟨i,rfl,q⟩|⟨k,rfl,q⟩
 .obtain⟨u,rfl,t,rfl⟩:=AB r
  exact call_int_int ⟨.int i,H,I,⟨_,rfl⟩,q⟩
 .obtain⟨u,rfl,r1⟩:=AB r
  cases r1
  exact call_int_bool ⟨.int (if k then 1 else 0),H,I.tok _,⟨_,rfl⟩,q⟩
def zw:gN X (.type "str") (λxs H Q=>∃i,xs=[.int i]/\i.natAbs.log2<1920/\Q (.str (toString i)) H):=by
 intro ac s Z H xs us Q I r h
 obtain⟨i,rfl,hz,q⟩:=h
 obtain⟨u,rfl,t,rfl⟩:=AB r
 exact PySem.P.str_of_int hz ⟨.str _,H,I.tok _,⟨_,rfl⟩,q⟩
end
structure Cz (h:Heap) (x dx C:ai) (mA:Str->Option ag):Prop where
 obj:h.get? x=some (PySem.W.instObj C dx)
 ns:h.Ns1 dx mA
 ne:dx≠x
def yq {h:Heap} (n:h.Ns1 dx mA):∃od,h.get? dx=some od/\∀name,PySem.W.lookIn name od=some (mA name):=by
 obtain⟨o,es,ep,ho,hd,hk,_,hm⟩:=n
 refine⟨o,ho,λname=>?_⟩
 have e:=hm name
 unfold nsFind findBy at e
 rw[<-Array.find?_toList] at e
 unfold PySem.W.lookIn
 rw[hd]
 dsimp only
 split
 .rename_i y q
  rw[q] at e
  exact jS some e
 .rename_i q
  rw[q] at e
  have a:es.toList.any (·.refKey)=false:=by
   rw[B8]
   intro y hy
   obtain⟨z,t,Yb⟩:=hk y (Array.mem_toList_iff.mp hy)
   simp[DictEntry.refKey,Yb]
  have a':¬es.toList.any (·.refKey)=true:=by rw[a];exact bM
  rw[aP a']
  exact jS some e
def Cz.look (I:Cz h x dx C mA):∃od,PySem.W.InstAt h x (PySem.W.instObj C dx) C (some od)/\∀name,PySem.W.lookIn name od=some (mA name):=
 let⟨od,ho,hl⟩:=yq I.ns
 ⟨od,⟨I.obj,rfl,rfl,ho⟩,hl⟩
section
variable {prog:aJ}{w:bB}{A:bH}{E:ag->ak->Prop}{s:ak}{K:Φ}{x dx C f:ai}{mA:Str->Option ag}{name:Str}{v:ag}
def get_map (X:K.In s.heap) (I:Cz s.heap x dx C mA) (hg:PySem.W.plainGet K C name=true) (hh:PySem.W.hasDictIn K C=true)
  (ha:PySem.W.findIn K (.ref C) name=some none) (hv:mA name=some v) (hv':PySem.W.handedIn v=true) (h:Q v {s with toks:=s.toks+1}):
  wpAny (model prog w) A (getAttr (.ref x) name expr) Q E s:=by
 obtain⟨od,J,hl⟩:=I.look
 exact PySem.W.get_value X J (zh hg).1 (PySem.W.findObj_own hh ha rfl (by rw[hl,hv])) hv' h
def Iu (X:K.In s.heap) (I:Cz s.heap x dx C mA) (hg:PySem.W.plainGet K C name=true)
  (hf:PySem.W.findIn K (.ref C) name=some (some (.ref f))) (ht:PySem.W.isFn K (.ref f)=true) (hv:mA name=none) (h:Q (.ref f,[.ref x]) s):
  wpAny (model prog w) A (getMethod (.ref x) name pl) Q E s:=by
 obtain⟨od,J,hl⟩:=I.look
 exact PySem.W.method_fn X J (zh hg).1 (zh hg).2 hf (gQ.mp ht) (by show(PySem.W.lookIn name od).map (·.isSome)=some false;rw[hl,hv];rfl) h
def LO (X:K.In s.heap) (I:Cz s.heap x dx C mA)
  (hs:PySem.W.findIn K (.ref C) "__setattr__"=some (some (.builtin "object.__setattr__"))) (hp:PySem.W.plainOver K C=true) (ht:PySem.W.takerIn K C name=some none) (hh:PySem.W.hasDictIn K C=true)
  (hw:PySem.Within mA ns) (hsz:ns.length<=sizeLine)
  (h:∀h',Cz h' x dx C (λy=>if y=name then some v else mA y)->Heap.SameBut dx s.heap h'->Q () {s with heap:=h',toks:=s.toks+2}):
  wpAny (model prog w) A (setAttr (.ref x) name v) Q E s:=by
 obtain⟨od,J,hl⟩:=I.look
 refine PySem.W.set_plain X J hs (PySem.W.osa_open (s:={s with toks:=s.toks+1}) (r:=none) X J hp ht λb=>?_)
 obtain⟨cd,hc,XS⟩:=PySem.W.any_some hh
 have hx:s.heap.get? x=some ⟨.ref C,some dx,.plain,#[]⟩:=I.obj
 refine aa (aj (aa (aa (B9 hx (aa (PySem.W.Looks.here (s:={s with toks:=s.toks+1}) (PySem.W.looks_clsIn X hc) ?_))))))
 rw[XS]
 refine aj (a:=some dx) (aa (aj (aa ?_)))
 refine wpAny_nsSet1 (s:={s with toks:=s.toks+1}) I.ns λh' Ld HR=>?_
 obtain⟨oD,esD,epD,Yc,Yd,Ye⟩:=Ld.count (PySem.Within.cons name v hw)
 refine aa (wpAny_lookBehind Yc (by rw[Yd];exact pastItsLine_dict (aA Ye (by rw[dO];omega))) ?_)
 exact aj (h _ ⟨(HR.2 _ (cG I.ne)).trans I.obj,Ld,I.ne⟩ HR)
def Iw {R:Result->ak->Prop}{vs:List ag}{kw:List (Str×ag)}(X:K.In s.heap) (hm:PySem.W.makesIn K C=true)
  (hi:PySem.W.findIn K (.ref C) "__init__"=some (some (.ref f))) (hf:PySem.W.typeIn K (.ref f)=some (.type "function"))
  (h:codeAny (model prog w) (A.under (.builtin "type.__call__" ⟨.ref C::vs,kw⟩)) (.call (.ref f) ⟨.ref (s.heap.objs.size+1)::vs,kw⟩) (PySem.W.InitBack (s.heap.objs.size+1) R)
   {s with heap:=(s.heap.push PySem.W.emptyDict).push (PySem.W.instObj C s.heap.objs.size)}):
  codeAny (model prog w) A (.call (.ref C) ⟨vs,kw⟩) R s:=by
 obtain⟨hh,g,d,t,os⟩:=s
 exact PySem.W.make_core (PySem.W.makes_of X hm) (PySem.W.looks_findIn X hi) (λself=>PySem.W.bind_fn X self hf) (.inl rfl) h
end
def kX (f:Str) (v:V):List (Str×V)->List (Str×V)
 | []=>[(f,v)]
 |(g,x)::r=>if g=f then(g,v)::r else(g,x)::kX f v r
def uo (f g:Str) (v:V):∀fs:List (Str×V),(kX f v fs).lookup g=if g=f then some v else fs.lookup g
 | []=>by
  show List.lookup g [(f,v)]=_
  by_cases h:g=f
  .have hb:(g==f)=true:=gQ.mpr h
   simp only[List.lookup,hb,aT h]
  .have hb:(g==f)=false:=oZ.mpr h
   simp only[List.lookup,hb,aP h]
 |(k,x)::r=>by
  have ih:=uo f g v r
  rw[show kX f v ((k,x)::r)=(if k=f then(k,v)::r else(k,x)::kX f v r) from rfl]
  by_cases hk:k=f
  .rw[aT hk]
   by_cases h:g=k
   .have hb:(g==k)=true:=gQ.mpr h
    simp only[List.lookup,hb,aT (h.trans hk)]
   .have hb:(g==k)=false:=oZ.mpr h
    simp only[List.lookup,hb,aP (λe:g=f=>h (e.trans hk.symm))]
  .rw[aP hk]
   by_cases h:g=k
   .have hb:(g==k)=true:=gQ.mpr h
    simp only[List.lookup,hb,aP (λe:g=f=>hk (h.symm.trans e))]
   .have hb:(g==k)=false:=oZ.mpr h
    simp only[List.lookup,hb]
    exact ih
def tU (f:Str) (v:V):∀fs:List (Str×V),f∈(kX f v fs).map (·.1)/\∀g,g∈fs.map (·.1)->g∈(kX f v fs).map (·.1)
 | []=>⟨by simp[kX],λg h=>by simp at h⟩
 |(k,x)::r=>by
  obtain⟨i1,i2⟩:=tU f v r
  rw[show kX f v ((k,x)::r)=(if k=f then(k,v)::r else(k,x)::kX f v r) from rfl]
  by_cases hk:k=f
  .rw[aT hk]
   subst hk
   exact⟨ς,λg h=>by simpa using h⟩
  .rw[aP hk]
   refine⟨?_,λg h=>?_⟩
   .rw[bQ]
    exact cB _ i1
   .rw[bQ] at h⊢
    rcases aD.mp h with e|e
    .exact aD.mpr (.inl e)
    .exact cB _ (i2 g e)
def uq (f:Str) (v:V):∀fs:List (Str×V),(kX f v fs).length<=fs.length+1
 | []=>by simp[kX]
 |(k,x)::r=>by
  have ih:=uq f v r
  rw[show kX f v ((k,x)::r)=(if k=f then(k,v)::r else(k,x)::kX f v r) from rfl]
  by_cases hk:k=f
  .rw[aT hk,dO,dO];omega
  .rw[aP hk,dO,dO];omega
def oW.some_of (r:oW (some v) o):∃u,o=some u/\RelV v u:=by
 cases o with
 |none=>exact(show False from r).elim
 |some u=>exact⟨u,rfl,r⟩
def oW.none_of (r:oW none o):o=none:=by
 cases o with
 |none=>rfl
 |some u=>exact(show False from r).elim
def yr (r:RelV v u):PySem.W.handedIn u=true:=by
 cases v with
 |eU=>cases(show u=Value.none from r);rfl
 |bl b=>cases(show u=Value.bool b from r);rfl
 |int i=>obtain⟨t,e⟩:=(show∃t,u=Value.int i t from r);cases e;rfl
 |str x=>obtain⟨t,e⟩:=(show∃t,u=Value.str x t from r);cases e;rfl
 |EG b=>obtain⟨t,e⟩:=(show∃t,u=Value.bytes b t from r);cases e;rfl
 |Pj b=>obtain⟨t,e⟩:=(show∃t,u=Value.float b t from r);cases e;rfl
 |ref a=>cases(show u=Value.ref a from r);rfl
 |ty n=>cases(show u=Value.type n from r);rfl
section
variable {P:aJ}{w:bB}{H H':Hp}{h h':Heap}{a C dx:ai}{fs Tn:List (Str×V)}
def vh (eN:qB P w H h) (e:H a=some (.ins C dx fs)):∃mA,Cz h a dx C mA/\(∀f,oW (fs.lookup f) (mA f))/\PySem.Within mA (fs.map (·.1))/\fs.length<=1000/\H dx=some (.own a):=by
 obtain⟨d,z,ne,ob,mA,n,r,q⟩:=(show gf P w H h a (.ins C dx fs) from eN a _ e)
 exact⟨mA,⟨ob,n,ne⟩,r,q,z,d⟩
end
structure AK (K:Φ) (C:ai):Prop where
 pg:PySem.W.plainGet K C Str.empty=true
 hd:PySem.W.hasDictIn K C=true
 po:PySem.W.plainOver K C=true
 sa:PySem.W.findIn K (.ref C) "__setattr__"=some (some (.builtin "object.__setattr__"))
def AK.get {K:Φ}(c:AK K C) (f:Str):PySem.W.plainGet K C f=true:=c.pg
def jJ (K:Φ) (C:ai) (f:Str):Prop:=PySem.W.findIn K (.ref C) f=some none
def jJ.TR {K:Φ} (n:jJ K C f):PySem.W.takerIn K C f=some none:=by
 unfold PySem.W.takerIn
 rw[show PySem.W.findIn K (.ref C) f=some none from n]
 rfl
structure uR (K:Φ) (C:ai) (m:Str) (f:ai):Prop where
 at_:PySem.W.findIn K (.ref C) m=some (some (.ref f))
 fn:PySem.W.isFn K (.ref f)=true
 kp:PySem.W.keepIn K (.ref f)=true
section
variable {X:Cx}{ac:List (ai×Obj)}{Z:St}{H:Hp}{s:ak}{a C dx:ai}{fs:List (Str×V)}{f:Str}{v:V}{A:bH}{E:ag->ak->Prop}
def CB (I:Inv X ac Z H s) (e:H a=some (.ins C dx fs)) (c:AK X.K C) (n:jJ X.K C f) (l:fs.lookup f=some v)
  (h:∀u s',Inv X ac Z H s'->RelV v u->Q u s'):wpAny (model X.prog X.w) A (getAttr (.ref a) f b) Q E s:=by
 obtain⟨mA,O,r,_,_,_⟩:=vh I.eN e
 obtain⟨u,hu,ru⟩:=oW.some_of (v:=v) (o:=mA f) (by rw[<-l];exact r f)
 exact get_map I.lK O (c.get f) c.hd n hu (yr ru) (h u _ (I.tok _) ru)
def lW (I:Inv X ac Z H s) (e:H a=some (.ins C dx fs)) (c:AK X.K C) (k:uR X.K C m g) (l:fs.lookup m=none)
  (h:Q (.ref g,[.ref a]) s):wpAny (model X.prog X.w) A (getMethod (.ref a) m pl) Q E s:=by
 obtain⟨mA,O,r,_,_,_⟩:=vh I.eN e
 have hn:mA m=none:=oW.none_of (by rw[<-l];exact r m)
 exact Iu I.lK O (c.get m) k.at_ k.fn hn h
def CD (I:Inv X ac Z H s) (e:H a=some (.ins C dx fs)) (c:AK X.K C) (n:jJ X.K C f) (hl:fs.length<1000) (ry:RelV y u)
  (h:∀s',Inv X ac Z (upd H a (.ins C dx (kX f y fs))) s'->Q () s'):wpAny (model X.prog X.w) A (setAttr (.ref a) f u) Q E s:=by
 obtain⟨mA,O,r,wi,_,ho⟩:=vh I.eN e
 have hz:(fs.map (·.1)).length<=sizeLine:=by rw[aq,hW];omega
 refine LO I.lK O c.sa c.po n.TR c.hd wi hz λh' O' sb=>h _ ?_
 have hd:∃o,h'.get? dx=some o:=let⟨o,_,_,e',_⟩:=O'.ns;⟨o,e'⟩
 refine I.write (x:=a) (e:=dx) (by rw[e];exact True.intro) (.inr ho) (λb q hb z=>(sb.2 b hb).trans z) hd ?_
 refine⟨by rw[bb O.ne];exact ho,?_,O.ne,O'.obj,_,O'.ns,λg=>?_,λg hg=>?_⟩
 .have:=uq f y fs;omega
 .show oW ((kX f y fs).lookup g) (if g=f then some u else mA g)
  rw[uo]
  by_cases q:g=f
  .rw[aT q,aT q];exact ry
  .rw[aP q,aP q];exact r g
 .by_cases q:g=f
  .rw[q];exact(tU f y fs).1
  .refine(tU f y fs).2 g (wi g λz=>hg ?_)
   show(if g=f then some u else mA g)=none
   rw[aP q];exact z
def Inv.made (I:Inv X ac Z H s):Inv X ac Z (upd (upd H s.heap.objs.size (.own (s.heap.objs.size+1))) (s.heap.objs.size+1) (.ins C s.heap.objs.size []))
  {s with heap:=(s.heap.push PySem.W.emptyDict).push (PySem.W.instObj C s.heap.objs.size)}:=by
 have e1:(s.heap.push PySem.W.emptyDict).get? s.heap.objs.size=some PySem.W.emptyDict:=az s.heap rfl
 have e2:((s.heap.push PySem.W.emptyDict).push (PySem.W.instObj C s.heap.objs.size)).get? (s.heap.objs.size+1)=some (PySem.W.instObj C s.heap.objs.size):=by
  have:=az (s.heap.push PySem.W.emptyDict) (o:=PySem.W.instObj C s.heap.objs.size) rfl
  rwa[cu] at this
 have e3:(s.heap.push PySem.W.emptyDict).Ns s.heap.objs.size (λ_=>none):=⟨PySem.W.emptyDict,#[],_,e1,rfl,(λe he=>absurd he ς),λ_=>rfl⟩
 have I1:=I.laid (a:=s.heap.objs.size) (o:=.own (s.heap.objs.size+1)) (h':=s.heap.push PySem.W.emptyDict) (t':=s.toks) (λb u q=>af _ q) (av _) ⟨_,e1⟩
 refine I1.laid (a:=s.heap.objs.size+1) (o:=.ins C s.heap.objs.size []) (t':=s.toks) (λb u q=>af _ q) (fw (cu _ _)) ?_
 have ne:s.heap.objs.size≠s.heap.objs.size+1:=bj (fX _)
 refine⟨by rw[bb ne,aB],dz _,ne,e2,λ_=>none,(Heap.Ns1.of_empty e3).at λo q=>af _ q,λ_=>True.intro,λy hy=>absurd rfl hy⟩
def EX {prog:aJ}{w:bB}{env:Env}{e:Expr}{f:Str}{pos:Pos}{s:ak}{Q:ag->ak->Prop}(hb:attributeBase e f env (eval e env)=eval e env)
  (h:wpAny (model prog w) A (eval e env) (λo fq=>wpAny (model prog w) A (getAttr o f true) Q E fq) E s):wpAny (model prog w) A (eval (.Attribute e f pos) env) Q E s:=
 Attribute_any_ h (by rw[arm_eval_Attribute,hb])
end
def Yf (K:Φ) (ta:TE) (f:Str):TE:=λZ H Q=>ta Z H λx H1=>∃a C dx fs v,x=.ref a/\H1 a=some (.ins C dx fs)/\AK K C/\jJ K C f/\fs.lookup f=some v/\Q v H1
def Yg (K:Φ) (ta tv:TE) (f:Str):TS:=λD Z H=>tv Z H λy H1=>ta Z H1 λx H2=>∃a C dx fs,x=.ref a/\H2 a=some (.ins C dx fs)/\AK K C/\jJ K C f/\fs.length<1000/\
 D.nx Z (upd H2 a (.ins C dx (kX f y fs)))
section
variable {X:Cx}{o e value:Expr}{f:Str}{pos pos' Yh:Pos}{ta tv:TE}
def jK (he:PE X e ta) (hb:attributeBase e f X.env (eval e X.env)=eval e X.env):PE X (.Attribute e f pos) (Yf X.K ta f):=by
 intro ac s Z H Q I h
 refine EX hb (fE (he ac s Z H _ I h) λu s1 c_=>?_)
 obtain⟨x,H1,I1,rx,a,C,dx,fs,v,ex,ea,c,n,l,q⟩:=c_
 subst ex
 obtain rfl:u=Value.ref a:=rx
 exact CB I1 ea c n l λu' s2 I2 ru=>⟨v,H1,I2,ru,q⟩
def CF (ha:PE X o ta) (hv:PE X value tv) (hs:swapsWith value (some (.Attribute o f pos')) pos.line X.env=pure false):PS X (.Assign [.Attribute o f pos'] value pos) (Yg X.K ta tv f):=by
 intro ac s Z H D I h
 refine NQ (fE (hv ac s Z H _ I h) λu s1 c_=>?_) hs
 obtain⟨y,H1,I1,ry,q⟩:=c_
 refine fE (ha ac s1 Z H1 _ I1 q) λov s2 AJ=>?_
 obtain⟨x,H2,I2,rx,a,C,dx,fs,ex,ea,c,n,l,q2⟩:=AJ
 subst ex
 obtain rfl:ov=Value.ref a:=rx
 exact CD I2 ea c n l ry λs3 I3=>⟨Z,_,I3,q2⟩
def NX {pl:Sem Bool}{m:Str}{apos:Pos}{args:List Expr}{ac:List (ai×Obj)}{s:ak}{Z:St}{H:Hp}{Q:ag->ak->Prop}{te:TE}(he:PE X e te) (I:Inv X ac Z H s)
  (h:te Z H λx H1=>∃a C dx fs g,x=.ref a/\H1 a=some (.ins C dx fs)/\AK X.K C/\uR X.K C m g/\fs.lookup m=none/\
   ∀s1,Inv X ac Z H1 s1->wpAny (model X.prog X.w) X.A (callWith pos (.ref g) [.ref a] (backTo pos (starEach args X.env)) (backToKw pos (keywordEach [] X.env))) Q X.xe s1)
  (ht:eval (.Call (.Attribute e m apos) args [] pos) X.env=(do
   let ov<-eval e X.env
   standAt apos.atName
   let(f,first)<-holding [ov] (getMethod ov m pl)
   callWith pos f first (backTo pos (starEach args X.env)) (backToKw pos (keywordEach [] X.env)))):
  wpAny (model X.prog X.w) X.A (eval (.Call (.Attribute e m apos) args [] pos) X.env) Q X.xe s:=by
 refine gS (pl:=pl) (fE (he ac s Z H _ I h) λu s1 c_=>?_) ht
 obtain⟨x,H1,I1,rx,a,C,dx,fs,g,ex,ea,c,k,l,q⟩:=c_
 subst ex
 obtain rfl:u=Value.ref a:=rx
 exact lW I1 ea c k l (q s1 I1)
end
section
variable {X:Cx}{ac:List (ai×Obj)}{Z:St}{H:Hp}{s:ak}{A:bH}{E:ag->ak->Prop}{Q:ag->ak->Prop}{c:ag}{b:Bool}
inductive tV (K:Φ) (H:Hp):V->ag->Prop where
 |eU:tV K H .eU (.type "NoneType")
 |bl (x:Bool):tV K H (.bl x) (.type "bool")
 |int (i:Int):tV K H (.int i) (.type "int")
 |str (x:Str):tV K H (.str x) (.type "str")
 |Pj (x:UInt64):tV K H (.Pj x) (.type "float")
 |lst {a:ai} {xs:List V} (e:H a=some (.lst xs)):tV K H (.ref a) (.type "list")
 |Ck {a:ai} {o:Obj} {xs:List V} (e:H a=some (.Ck o (.lst xs))):tV K H (.ref a) (.type "list")
 |tup {a:ai} {xs:List V} (e:H a=some (.tup xs)):tV K H (.ref a) (.type "tuple")
 |dK {a:ai} {dW:List (Key×V)} (e:H a=some (.dK dW)):tV K H (.ref a) (.type "dict")
 |dT {a:ai} {dW:List (List Key×V)} (e:H a=some (.dT dW)):tV K H (.ref a) (.type "dict")
 |ins {a C dx:ai} {fs:List (Str×V)} (e:H a=some (.ins C dx fs)) (cl:AK K C) (ha:PySem.W.findIn K (.ref C) "__class__"=some (some (.builtin "object.__class__")))
  (hn:PySem.W.specialIn K (.builtin "object.__class__") "__get__"=some (some (.builtin "getset_descriptor.__get__"))) (W7:PySem.W.takesIn K (.builtin "object.__class__")=some true)
  (hm:PySem.W.mroIn K C (.type "object")=some true):tV K H (.ref a) (.ref C)
def yu {x:V}{u t:ag}(I:Inv X ac Z H s) (rx:RelV x u) (ty:tV X.K H x t) (e:PySem.W.kitOne X.K t c=some b) (h:∀tk,Q (.bool b) {s with toks:=tk}):
  wpAny (model X.prog X.w) A (call (.builtin "isinstance") [u,c]) Q E s:=by
 cases ty with
 |eU=>cases(show u=Value.none from rx);exact fz PySem.W.kitx_none I.lK True.intro e (λz=>nomatch z) h
 |bl y=>cases(show u=Value.bool y from rx);exact fz PySem.W.kitx_bool I.lK True.intro e (λz=>nomatch z) h
 |int i=>obtain⟨t,q⟩:=(show∃t,u=Value.int i t from rx);cases q;exact fz PySem.W.kitx_int I.lK True.intro e (λz=>nomatch z) h
 |str y=>obtain⟨t,q⟩:=(show∃t,u=Value.str y t from rx);cases q;exact fz PySem.W.kitx_str I.lK True.intro e (λz=>nomatch z) h
 |Pj y=>obtain⟨t,q⟩:=(show∃t,u=Value.float y t from rx);cases q;exact fz PySem.W.kitx_float I.lK True.intro e (λz=>nomatch z) h
 | @lst a xs ea=>
  cases(show u=Value.ref a from rx)
  obtain⟨_,_,n,_,h1⟩:=(show gf X.prog X.w H s.heap a (.lst xs) from I.eN a _ ea)
  exact fz PySem.W.kitx_list I.lK ⟨_,h1,rfl⟩ e (λz=>nomatch z) h
 | @Ck a ob xs ea=>
  cases(show u=Value.ref a from rx)
  obtain⟨_,_,_,n,_,h1⟩:=(show gf X.prog X.w H s.heap a (.Ck ob (.lst xs)) from I.eN a _ ea)
  exact fz PySem.W.kitx_list I.lK ⟨_,h1,rfl⟩ e (λz=>nomatch z) h
 | @tup a xs ea=>
  cases(show u=Value.ref a from rx)
  obtain⟨_,_,_,p⟩:=(show gf X.prog X.w H s.heap a (.tup xs) from I.eN a _ ea)
  obtain⟨o,h1,h2,_⟩:=p
  exact fz PySem.W.kitx_tuple I.lK ⟨o,h1,h2⟩ e (λz=>nomatch z) h
 | @dK a dW ea=>
  cases(show u=Value.ref a from rx)
  obtain⟨_,_,vs,_,p⟩:=(show gf X.prog X.w H s.heap a (.dK dW) from I.eN a _ ea)
  obtain⟨o,es,ep,h1,h2,_⟩:=p
  exact fz PySem.W.kitx_dict I.lK ⟨o,h1,h2.1⟩ e (λz=>nomatch z) h
 | @dT a dW ea=>
  cases(show u=Value.ref a from rx)
  obtain⟨_,_,xs,_,o,es,ep,h1,h2,_⟩:=(show gf X.prog X.w H s.heap a (.dT dW) from I.eN a _ ea)
  exact fz PySem.W.kitx_dict I.lK ⟨o,h1,h2.1⟩ e (λz=>nomatch z) h
 | @ins a C dx fs ea cl ha hn W7 hm=>
  cases(show u=Value.ref a from rx)
  obtain⟨mA,O,_⟩:=vh I.eN ea
  obtain⟨od,J,_⟩:=O.look
  exact fz (PySem.W.kitx_own (cl.get _) cl.hd ha hn W7 hm) I.lK J e (λz=>nomatch z) h
end
structure eB (k:Nat) (A:bH):Prop where
 hd:A.handled=none
 dp:A.depth+3*k+5<recursionLimit
 un:A.units+16*k+200<cLine
 gd:A.guards=some []
def eB.mono (r:eB k A) (h:j<=k):eB j A:=⟨r.hd,by have:=r.dp;omega,by have:=r.un;omega,r.gd⟩
def eB.deeper (r:eB (k+1) A) (env:Env):eB k (A.deeper env):=
 ⟨r.hd,by have:=r.dp;show A.depth+1+3*k+5<_;omega,by have:=r.un;show A.units+3+16*k+200<_;omega,r.gd⟩
def eB.in1 (r:eB (k+1) A):eB k A.in1:=
 ⟨r.hd,by have:=r.dp;show A.depth+3*k+5<_;omega,by have:=r.un;show A.units+1+16*k+200<_;omega,r.gd⟩
def CG {A:bH}:(A.under (.builtin "type.__call__" ⟨.ref C::us,kw⟩)).depth=A.depth+1:=by
 first|rfl|simp[Around.under,Code.weight,Code.isCreation,Code.isGuard,Code.isCaller,Code.frames,Code.isFrame,guardIds]
def CH {A:bH}:(A.under (.builtin "type.__call__" ⟨.ref C::us,kw⟩)).units=A.units+1:=by
 first|rfl|simp[Around.under,Code.cUnits,Code.frames,Code.isFrame]
def AL {A:bH} (h:A.guards=some []):(A.under (.builtin "type.__call__" ⟨.ref C::us,kw⟩)).guards=some []:=by
 first|exact h|simp[Around.under,Code.guards,Code.isGuard,guardIds,pushGuards,h]
def eB.make (r:eB (k+1) A) (C:ai) (us:List ag) (kw:List (Str×ag)):eB k (A.under (.builtin "type.__call__" ⟨.ref C::us,kw⟩)):=
 ⟨r.hd,by have:=r.dp;rw[CG];omega,by have:=r.un;rw[CH];omega,AL r.gd⟩
def eB.depth (r:eB k A):A.depth<recursionLimit:=by have:=r.dp;omega
def eB.units (r:eB k A):A.units+64<cLine:=by have:=r.un;omega
def eB.Py (r:eB k A):A.units<cLine:=by have:=r.un;omega
def eW:TA:=λ_ H Q=>Q [] H
def ck (ta:TE) (tr:TA):TA:=λZ H Q=>ta Z H λx H1=>tr Z H1 λxs H2=>Q (x::xs) H2
section
variable {X:Cx}{e:Expr}{es:List Expr}{te:TE}{t:TA}{pos:Pos}
def ah:PA X [] eW:=λ_ _ _ _ H Q I h=>Calls.spliced_nil ⟨[],H,I,.nil,h⟩
def ae (ha:PE X e te) (hr:PA X es t) (hs:starEach (e::es) X.env=(false,eval e X.env)::starEach es X.env:=by rfl):PA X (e::es) (ck te t):=by
 intro pos ac s Z H Q I h
 rw[hs]
 show wpAny _ _ (spliced ((false,eval e X.env)::backTo pos (starEach es X.env))) _ _ s
 refine HZ (fE (ha ac s Z H _ I h) λu s1 c_=>?_)
 obtain⟨x,H1,I1,r1,q1⟩:=c_
 refine fE (hr pos ac s1 Z H1 _ I1 q1) λus s2 c_=>?_
 obtain⟨xs,H2,I2,r2,q2⟩:=c_
 exact⟨x::xs,H2,I2,.cons r1 r2,q2⟩
def mQ (t:TA):TE:=λZ H Q=>t Z H λxs H1=>xs.length<=sizeLine/\∀p,H1 p=none->Q (.ref p) (upd H1 p (.tup xs))
def xW (t:TA):TE:=λZ H Q=>t Z H λxs H1=>xs.length<=sizeLine/\∀p,H1 p=none->Q (.ref p) (upd H1 p (.lst xs))
def bU {x1}(h:PA X es t):PE X (.Tuple es x1 pos) (mQ t):=by
 intro ac s Z H Q I hq
 refine wpAny_Tuple_spliced (fE (h pos ac s Z H _ I hq) λus s1 ⟨xs,H1,I1,r,z,q⟩=>⟨by rw[<-r.length];exact z,?_⟩)
 have hf:H1 s1.heap.objs.size=none:=I1.eN.fresh (av _)
 refine⟨.ref s1.heap.objs.size,upd H1 s1.heap.objs.size (.tup xs),I1.laid (t':=s1.toks) (λb u e=>af _ e) (av _) ?_,rfl,q _ hf⟩
 exact⟨z,us,r,⟨_,az _ rfl,rfl,rfl,_,rfl⟩⟩
def cW (h:PA X es t):PE X (.List es pos) (xW t):=by
 intro ac s Z H Q I hq
 refine wpAny_List_spliced (fE (h pos ac s Z H _ I hq) λus s1 ⟨xs,H1,I1,r,z,q⟩=>⟨by rw[<-r.length];exact z,?_⟩)
 have hf:H1 s1.heap.objs.size=none:=I1.eN.fresh (av _)
 refine⟨.ref s1.heap.objs.size,upd H1 s1.heap.objs.size (.lst xs),I1.laid (t':=s1.toks) (λb u e=>af _ e) (av _) ?_,rfl,q _ hf⟩
 exact⟨z,us,0,r,az _ rfl⟩
end
abbrev Sp:=List V->Hp->VK->XK->Prop
abbrev HS:=List Env->Hp->ak->XK->ag->ak->Prop
structure uS (P:aJ) (w:bB) (K:Φ) (mg:Str->Option ag) (base:Heap) (A:bH) (outer:List Env) (s:ak) (H:Hp):Prop where
 frames:A.frames=some outer
 mod:Mod K mg base
 bs:∀b o,base.get? b=some o->s.heap.get? b=some o/\H b=none
 Cn:base.objs.size<=s.heap.objs.size
 nF:s.heap.FunFrames base outer
 EH:∀b∈oX outer,H b=none
 eN:qB P w H s.heap
 bare:AllBare s.gens
def CE (outer:List Env) (P:aJ) (w:bB) (H:Hp) (s:ak) (Q:VK) (u:ag) (s':ak):Prop:=
 ∃v H',s'.os=s.os/\AllBare s'.gens/\Un (oX outer) [] H H' s.heap s'.heap/\qB P w H' s'.heap/\RelV v u/\Q v H'
def CR (CX:HS) (outer:List Env) (P:aJ) (w:bB) (H:Hp) (s:ak) (Q:VK) (E:XK) (r:Result) (s':ak):Prop:=
 match r with
 | .ok (.ret u)=>CE outer P w H s Q u s'
 | .ok _=>False
 | .error e=>CX outer H s E e s'
structure dR (P:aJ) (w:bB) (K:Φ) (mg:Str->Option ag) (base:Heap) (CX:HS) (k:Nat) (f:ai) (fd:FuncData) (ps:List Str) (sp:Sp):Prop where
 len:∀vs H Q E,sp vs H Q E->vs.length=ps.length
 run:∀(A:bH) (outer:List Env) (s:ak) (H:Hp) (args:Args) (us:List ag) (vs:List V) (Q:VK) (E:XK),eB k A->uS P w K mg base A outer s H->BindsTo s fd args (ps.zip us)->cK vs us->sp vs H Q E->
  codeAny (model P w) A (.call (.ref f) args) (CR CX outer P w H s Q E) s
def uS.make {K:Φ} (e:uS P w K mg base A outer s H) (C:ai) (us:List ag) (kw:List (Str×ag)):
  uS P w K mg base (A.under (.builtin "type.__call__" ⟨.ref C::us,kw⟩)) outer s H:=⟨by first|exact e.frames|(simpa[Around.under,Code.envs,Code.isFrame,pushEnvs] using e.frames),e.mod,e.bs,e.Cn,e.nF,e.EH,e.eN,e.bare⟩
def uS.in1 {K:Φ} (e:uS P w K mg base A outer s H):
  uS P w K mg base A.in1 outer s H:=⟨e.frames,e.mod,e.bs,e.Cn,e.nF,e.EH,e.eN,e.bare⟩
section
variable {X:Cx}{ac:List (ai×Obj)}{Z:St}{H:Hp}{s s':ak}
def Inv.Gn (I:Inv X ac Z H s):uS X.prog X.w X.K X.mg X.base X.A X.stack s H:=
 ⟨I.ok.frames,I.ok.mod,I.bs,aA I.ok.Cn I.sz,I.stack,I.zr,I.eN,I.bare⟩
def Inv.after {Q:VK}{u:ag}(I:Inv X ac Z H s) (h:CE X.stack X.prog X.w H s Q u s'):EP X ac Z Q u s':=by
 obtain⟨v,H',os,bare,un,eN,r,q⟩:=h
 obtain⟨hh,g,d,t,os'⟩:=s'
 obtain rfl:os'=s.os:=os
 exact⟨v,H',I.call (h':=hh) (g':=g) (d':=d) (t':=t) (ch:=[]) un eN bare (λb z=>absurd z ς),r,q⟩
end
def j0 (sp:Sp) (mR:List V) (E:XK) (t:TA):TE:=λZ H Q=>t Z H λvs H1=>sp (vs++mR) H1 Q E
def EY (C:ai) (m:Str) (sp:Sp) (mR:List V) (E:XK) (ta:TE) (t:TA):TE:=λZ H Q=>ta Z H λx H1=>∃a dx fs,x=.ref a/\H1 a=some (.ins C dx fs)/\fs.lookup m=none/\
 t Z H1 λvs H2=>sp (x::(vs++mR)) H2 Q E
def yv (C:ai) (sp:Sp) (mR:List V) (E:XK) (t:TA):TE:=λZ H Q=>t Z H λvs H1=>∀x dx,H1 x=none->H1 dx=none->dx≠x->
 sp (.ref x::(vs++mR)) (upd (upd H1 dx (.own x)) x (.ins C dx [])) (λv H2=>v=.eU/\Q (.ref x) H2) E
def Binds (K:Φ) (fd:FuncData) (ps:List Str) (ds:List ag):Prop:=
 ∀(s:ak) (us:List ag),K.In s.heap->(us++ds).length=ps.length->BindsTo s fd ⟨us,[]⟩ (ps.zip (us++ds))
def Binds.all {K:Φ}{fd:FuncData}{ps:List Str}(h:∀us:List ag,us.length=ps.length->bindArgs fd ⟨us,[]⟩=pure (ps.zip us)):Binds K fd ps []:=λs us _ hl=>by
 rw[cU] at hl⊢
 exact .of_eq (h us hl)
def mS (CX:HS) (X:Cx) (E:XK):Prop:=∀(ac:List (ai×Obj)) (Z:St) (H:Hp) (s:ak) (e:ag) (s':ak),Inv X ac Z H s->CX X.stack H s E e s'->X.xe e s'
section
variable {X:Cx}{CX:HS}{k:Nat}{f C:ai}{fd:FuncData}{ps:List Str}{sp:Sp}{mR:List V}{ds:List ag}{E:XK}{x m:Str}{p pos apos:Pos}{e o:Expr}{es:List Expr}{ta:TE}{t:TA}
def vQ {ac:List (ai×Obj)}{Z:St}{H:Hp}{s:ak}{Q:VK}{us:List ag}{vs:List V}(F:dR X.prog X.w X.K X.mg X.base CX k f fd ps sp) (hr:eB k X.A) (hb:Binds X.K fd ps ds) (hd:cK mR ds) (hx:mS CX X E)
  (I:Inv X ac Z H s) (r:cK vs us) (h:sp (vs++mR) H Q E):wpAny (model X.prog X.w) X.A (call (.ref f) us) (EP X ac Z Q) X.xe s:=by
 have r2:cK (vs++mR) (us++ds):=r.append hd
 have hl:(us++ds).length=ps.length:=by rw[<-r2.length];exact F.len _ _ _ _ h
 refine mH (lE (F.run X.A X.stack s H ⟨us,[]⟩ (us++ds) (vs++mR) Q E hr I.Gn (hb s us I.lK hl) r2 h) λr s' hq=>?_)
 cases r with
 |error e=>exact hx ac Z H s e s' I hq
 |ok fl=>
  cases fl with
  |ret u=>exact I.after hq
  |next=>exact False.elim hq
  |brk=>exact False.elim hq
  |cont=>exact False.elim hq
def LP (F:dR X.prog X.w X.K X.mg X.base CX k f fd ps sp) (hr:eB k X.A) (hg:Gl X x) (hm:X.mg x=some (.ref f)) (hk:PySem.W.keepIn X.K (.ref f)=true) (hb:Binds X.K fd ps ds) (hd:cK mR ds) (hx:mS CX X E)
  (ha:PA X (e::es) t) (qM:(x==("__debug__":Str))=false:=by decide) (he:starEach (e::es) X.env=(false,eval e X.env)::starEach es X.env:=by rfl) (j4:(backTo pos (starEach es X.env)).any (·.1)=false:=by rfl):
  PE X (.Call (.Name x p) (e::es) [] pos) (j0 sp mR E t):=by
 intro ac s Z H Q I h
 refine gq (jG I hg hm ?_ qM)
 refine jc (h₀:=X.base) I.ok.mod.lT hk (fE (ha pos ac s Z H _ I h) λus s1 c_=>?_) he j4
 obtain⟨vs,H1,I1,r,q⟩:=c_
 refine⟨I1.lK,?_⟩
 exact vQ F hr hb hd hx I1 r q
def Iy (F:dR X.prog X.w X.K X.mg X.base CX k f fd ps sp) (hr:eB k X.A) (hg:Gl X x) (hm:X.mg x=some (.ref f)) (hk:PySem.W.keepIn X.K (.ref f)=true) (hb:Binds X.K fd ps ds) (hd:cK mR ds) (hx:mS CX X E)
  (qM:(x==("__debug__":Str))=false:=by decide):PE X (.Call (.Name x p) [] [] pos) (j0 sp mR E eW):=by
 intro ac s Z H Q I h
 refine gq (jG I hg hm ?_ qM)
 exact o6 I.lK hk (vQ (us:=[]) F hr hb hd hx I .nil h)
def LQ {pl:Sem Bool}(he:PE X o ta) (c:AK X.K C) (hm:uR X.K C m f) (F:dR X.prog X.w X.K X.mg X.base CX k f fd ps sp) (hr:eB k X.A) (hb:Binds X.K fd ps ds) (hd:cK mR ds) (hx:mS CX X E) (ha:PA X (e::es) t)
  (Ge:starEach (e::es) X.env=(false,eval e X.env)::starEach es X.env:=by rfl) (j4:(backTo pos (starEach es X.env)).any (·.1)=false:=by rfl)
  (ht:eval (.Call (.Attribute o m apos) (e::es) [] pos) X.env=(do
   let ov<-eval o X.env
   standAt apos.atName
   let(f,first)<-holding [ov] (getMethod ov m pl)
   callWith pos f first (backTo pos (starEach (e::es) X.env)) (backToKw pos (keywordEach [] X.env))):=by rfl):
  PE X (.Call (.Attribute o m apos) (e::es) [] pos) (EY C m sp mR E ta t):=by
 intro ac s Z H Q I h
 refine gS (pl:=pl) (fE (he ac s Z H _ I h) λu s1 c_=>?_) ht
 obtain⟨x,H1,I1,rx,a,dx,fs,ex,ea,l,q⟩:=c_
 subst ex
 obtain rfl:u=Value.ref a:=rx
 refine lW I1 ea c hm l ?_
 refine jc (first:=[.ref a]) (h₀:=X.base) I.ok.mod.lT hm.kp (fE (ha pos ac s1 Z H1 _ I1 q) λus s2 c_=>?_) Ge j4
 obtain⟨vs,H2,I2,r,q2⟩:=c_
 refine⟨I2.lK,?_⟩
 exact vQ (us:=.ref a::us) (vs:=.ref a::vs) F hr hb hd hx I2 (.cons rfl r) q2
def Iz {pl:Sem Bool}(he:PE X o ta) (c:AK X.K C) (hm:uR X.K C m f) (F:dR X.prog X.w X.K X.mg X.base CX k f fd ps sp) (hr:eB k X.A) (hb:Binds X.K fd ps ds) (hd:cK mR ds) (hx:mS CX X E)
  (ht:eval (.Call (.Attribute o m apos) [] [] pos) X.env=(do
   let ov<-eval o X.env
   standAt apos.atName
   let(f,first)<-holding [ov] (getMethod ov m pl)
   callWith pos f first (backTo pos (starEach [] X.env)) (backToKw pos (keywordEach [] X.env))):=by rfl):
  PE X (.Call (.Attribute o m apos) [] [] pos) (EY C m sp mR E ta eW):=by
 intro ac s Z H Q I h
 refine gS (pl:=pl) (fE (he ac s Z H _ I h) λu s1 c_=>?_) ht
 obtain⟨x,H1,I1,rx,a,dx,fs,ex,ea,l,q⟩:=c_
 subst ex
 obtain rfl:u=Value.ref a:=rx
 refine lW I1 ea c hm l ?_
 exact o6 (first:=[.ref a]) I1.lK hm.kp (vQ (us:=[.ref a]) (vs:=[.ref a]) F hr hb hd hx I1 (.cons rfl .nil) q)
structure Mk (K:Φ) (C f:ai):Prop where
 makes:PySem.W.makesIn K C=true
 init:PySem.W.findIn K (.ref C) "__init__"=some (some (.ref f))
 fn:PySem.W.isFn K (.ref f)=true
 kp:PySem.W.keepIn K (.ref C)=true
def IA (M:Mk X.K C f) (F:dR X.prog X.w X.K X.mg X.base CX k f fd ps sp) (hr:eB (k+1) X.A) (hb:Binds X.K fd ps ds) (hd:cK mR ds)
  (hx:mS CX X E) (I:Inv X ac Z H s) (r:cK vs us)
  (h:∀x dx,H x=none->H dx=none->dx≠x->sp (.ref x::(vs++mR)) (upd (upd H dx (.own x)) x (.ins C dx [])) (λv H2=>v=.eU/\Q (.ref x) H2) E):
  wpAny (model X.prog X.w) X.A (call (.ref C) us) (EP X ac Z Q) X.xe s:=by
 have hq:=h (s.heap.objs.size+1) s.heap.objs.size (I.eN.fresh (dM _)) (I.eN.fresh (av _)) (bj (fX _))
 have I2:=Inv.made (C:=C) I
 have r2:cK (V.ref (s.heap.objs.size+1)::(vs++mR)) (Value.ref (s.heap.objs.size+1)::(us++ds)):=.cons rfl (r.append hd)
 have hl:(Value.ref (s.heap.objs.size+1)::us++ds).length=ps.length:=by
  have e:=r2.length
  rw[F.len _ _ _ _ hq] at e
  exact e.symm
 refine mH (Iw (f:=f) I.lK M.makes M.init (gQ.mp M.fn) (lE (F.run _ X.stack _ _ ⟨Value.ref (s.heap.objs.size+1)::us,[]⟩ (Value.ref (s.heap.objs.size+1)::(us++ds)) _ _ E (hr.make C us [])
  (I2.Gn.make C us []) (hb _ (Value.ref (s.heap.objs.size+1)::us) I2.lK hl) r2 hq) λr s' IB=>?_))
 cases r with
 |error e=>exact hx ac Z _ _ e s' I2 IB
 |ok fl=>
  cases fl with
  |ret u=>
   obtain⟨v,H',I3,rv,ev,q3⟩:=I2.after IB
   subst ev
   exact⟨rv,⟨V.ref (s.heap.objs.size+1),H',I3,rfl,q3⟩⟩
  |next=>exact False.elim IB
  |brk=>exact False.elim IB
  |cont=>exact False.elim IB
def IC (M:Mk X.K C f) (F:dR X.prog X.w X.K X.mg X.base CX k f fd ps sp) (hr:eB (k+1) X.A) (hg:Gl X x) (hm:X.mg x=some (.ref C)) (hb:Binds X.K fd ps ds) (hd:cK mR ds) (hx:mS CX X E)
  (qM:(x==("__debug__":Str))=false:=by decide):PE X (.Call (.Name x p) [] [] pos) (yv C sp mR E eW):=by
 intro ac s Z H Q I h
 refine gq (jG I hg hm ?_ qM)
 exact o6 I.lK M.kp (IA (us:=[]) M F hr hb hd hx I .nil h)
end
section
variable {X:Cx}{CX:HS}{k:Nat}{f C:ai}{fd:FuncData}{ps ks:List Str}{sp:Sp}{E:XK}{x m:Str}{p pos apos aaM:Pos}{e o:Expr}{es:List Expr}{kws:List Keyword}{te ta:TE}{t tk:TA}{nm:Option Str}
variable {g:List ag->List ag->List ag}{gV:List V->List V->List V}
end
structure bY (N P:List Str) (sc:Scope):Prop where
 kind:sc.kind=.function:=by rfl
 co:sc.isCoroutine=false:=by rfl
 gen:sc.isGenerator=false:=by rfl
 nd:N.Nodup:=by decide+kernel
 pre:N.take P.length=P:=by rfl
 par:∀x∈P,sc.names.lookup x=some .local\/sc.names.lookup x=some .cell:=by decide+kernel
 Pz:∀y∈sc.names,y.2≠.free:=by decide+kernel
def yy {kindOf:Str->Option NameKind}:∀{binds:List (Str×ag)}{m:Str->Option ag},(∀v,(x,v)∉binds)->bindL kindOf binds m x=m x
 | [],_,_=>rfl
 |(n,v)::r,m,h=>by
  unfold bindL
  rw[yy λw hw=>h w (cB _ hw)]
  split
  .have:x≠n:=by rintro rfl;exact h v cy
   simp[this]
  .rfl
def yz {kindOf:Str->Option NameKind}:∀{binds:List (Str×ag)}{m:Str->Option ag},(∀v,(x,v)∉binds)->bindC kindOf binds m x=m x
 | [],_,_=>rfl
 |(n,v)::r,m,h=>by
  unfold bindC
  rw[yz λw hw=>h w (cB _ hw)]
  split
  .rfl
  .have:x≠n:=by rintro rfl;exact h v cy
   simp[this]
def yB {kindOf:Str->Option NameKind}:∀{P:List Str}{vs:List ag}{i:Nat}{m:Str->Option ag},P.Nodup->P[i]?=some x->vs[i]?=some v->kindOf x=some .local->
  bindL kindOf (P.zip vs) m x=some v
 | [],_,_,_,_,h,_,_=>by simp at h
 |_::_,[],_,_,_,_,h,_=>by simp at h
 |p::P,w::vs,0,m,nd,h1,h2,hk=>by
  simp at h1 h2;subst h1;subst h2
  show bindL kindOf ((p,w)::P.zip vs) m p=_
  unfold bindL
  rw[yy λv hv=>(ji.mp nd).1 (va hv).1,aT hk]
  simp
 |p::P,w::vs,i+1,m,nd,h1,h2,hk=>by
  show bindL kindOf ((p,w)::P.zip vs) m x=_
  unfold bindL
  exact yB (i:=i) (ji.mp nd).2 (by simpa using h1) (by simpa using h2) hk
def yC {kindOf:Str->Option NameKind}:∀{P:List Str}{vs:List ag}{i:Nat}{m:Str->Option ag},P.Nodup->P[i]?=some x->vs[i]?=some v->kindOf x≠some .local->
  bindC kindOf (P.zip vs) m x=some v
 | [],_,_,_,_,h,_,_=>by simp at h
 |_::_,[],_,_,_,_,h,_=>by simp at h
 |p::P,w::vs,0,m,nd,h1,h2,hk=>by
  simp at h1 h2;subst h1;subst h2
  show bindC kindOf ((p,w)::P.zip vs) m p=_
  unfold bindC
  rw[yz λv hv=>(ji.mp nd).1 (va hv).1,aP hk]
  simp
 |p::P,w::vs,i+1,m,nd,h1,h2,hk=>by
  show bindC kindOf ((p,w)::P.zip vs) m x=_
  unfold bindC
  exact yC (i:=i) (ji.mp nd).2 (by simpa using h1) (by simpa using h2) hk
def start (N:List Str) (vs:List V):St:=vs.map some++List.replicate (N.length-vs.length) none
def eQ (CX:HS) (P:aJ) (w:bB) (K:Φ) (mg:Str->Option ag) (base:Heap) (N:List Str) (qual:Str) (scope:Scope) (f:ai) (cd:ag) (A:bH) (outer:List Env) (s:ak) (H:Hp) (E:XK):Cx where
 prog:=P
 w:=w
 K:=K
 mg:=mg
 base:=base
 A:=A.deeper (envOfC qual scope s.heap.objs.size f cd)
 N:=N
 gW:=s
 Cm:=H
 env:=envOfC qual scope s.heap.objs.size f cd
 outer:=outer
 stack:=envOfC qual scope s.heap.objs.size f cd::outer
 ex:=[]
 calm:=true
 fn:=λ_=>true
 pn:=[]
 xe:=λe s'=>wpAny (model P w) (A.deeper (envOfC qual scope s.heap.objs.size f cd)) (leaving (envOfC qual scope s.heap.objs.size f cd) e) (λ_ Yi=>CX outer H s E e Yi) (λe' Yi=>CX outer H s E e' Yi) s'
def AM {sc:Scope} (h:sc.names.lookup x=some .cell):∃c,(cellsFrom n sc.names []).lookup x=some c:=by
 have q:=uJ sc.names n [] (.inl h)
 exact iy.mp q
def yD {K:Φ}
  (S:bY N ps scope) (hd:A.handled=none) (e0:uS P w K mg base A outer s H) (hl:vs.length=ps.length) (r:cK vs us)
  (x:InCallC s s.heap.objs.size (bindL (envOfC qual scope s.heap.objs.size f cd).kindOf (ps.zip us) λ_=>none) (cellsFrom (s.heap.objs.size+1) scope.names []) (bindC (envOfC qual scope s.heap.objs.size f cd).kindOf (ps.zip us) λ_=>none) s1):
  Inv (eQ CX P w K mg base N qual scope f cd A outer s H E) [] (start N vs) H s1:=by
 have j4:ps.length<=N.length:=by have:=jS List.length S.pre;rw[fF] at this;omega
 obtain⟨h1,tk,rfl,hk⟩:=x.done
 have TU:∀b:ai,b∉(eQ CX P w K mg base N qual scope f cd A outer s H E).ex:=λb z=>absurd (show b∈([]:List ai) from z) ς
 refine⟨⟨e0.mod,S.kind,rfl,rfl,av _,λy z c h1 h2=>?_,λy hy=>?_,λy c _ h=>?_,λ_=>hd,Around.frames_deeper e0.frames,.inr ⟨rfl,rfl⟩,λb z=>absurd z (TU b),e0.bs,e0.Cn,λb _ _=>TU b,λb z=>absurd z (TU b),e0.nF,e0.EH⟩,
  rfl,e0.bare,Un.kept hk,⟨_,x.toInCall.ns,λi y v h1 h2 h3=>?_⟩,λy c h=>⟨_,x.cell y c h⟩,e0.eN.fresh (av _),λy c h=>?_,λp hp=>absurd (show p∈([]:List (ai×Obj)) from hp) ς,e0.eN.kept hk,?_⟩
 .exact name_of_addr x.apart (gF h1) (gF h2)
 .have hy:scope.names.lookup y=some .cell\/scope.names.lookup y=some .free:=hy
  rcases hy with hy|hy
  .exact AM hy
  .exact absurd rfl (S.Pz _ (gF hy))
 .exact dE (x.above y c (gF h))
 .have hi:i<vs.length:=by
   unfold start at h2
   by_cases hi:i<vs.length
   .exact hi
   .rw[List.getElem?_append_right (by simpa using hi)] at h2
    rw[List.getElem?_replicate] at h2
    split at h2<;>cases h2
  have ha:vs[i]?=some v:=by
   unfold start at h2
   rw[List.getElem?_append_left (by simpa using hi),cg] at h2
   cases e:vs[i]? with
   |none=>rw[e] at h2;cases h2
   |some a=>rw[e] at h2;cases h2;rfl
  obtain⟨u,hu,rv⟩:=r.get ha
  have hp:ps[i]?=some y:=by
   rw[<-S.pre,List.getElem?_take_of_lt ω];exact h1
  have ndP:ps.Nodup:=by rw[<-S.pre];exact S.nd.sublist (rl _ _)
  refine⟨u,rv,?_⟩
  rcases S.par y (xK hp) with k|k
  .exact .inl ⟨k,yB ndP hp hu k⟩
  .obtain⟨c,e⟩:=AM (n:=s.heap.objs.size+1) k
   refine .inr ⟨.inl k,c,e,?_⟩
   have q:=x.cell y c e
   rw[yC ndP hp hu (by show scope.names.lookup y≠_;rw[k];decide)] at q
   exact q
 .exact e0.eN.fresh (dE (x.above y c (gF h)))
 .unfold start
  show _=N.length
  rw[aQ,aq,List.length_replicate]
  omega
def NY {CX:HS}{P:aJ}{w:bB}{K:Φ}{mg:Str->Option ag}{base:Heap}{k:Nat}{f:ai}{name qual:Str}{params:Arguments}{body:List Stmt}{scope:Scope}{dV kV doc pm cdv ct oc:ag}{an od:Option ai}
  {vR:Array (Option ag)} {N ps:List Str} {sp:Sp} (lk:K.lookup f=some ⟨oc,od,.func (PySem.W.fnOf name qual params body scope dV kV doc pm an cdv ct),vR⟩) (Co:PySem.W.codeIn K cdv qual=true) (S:bY N ps scope)
  (len:∀vs H Q E,sp vs H Q E->vs.length=ps.length)
  (vS:∀(A:bH) (outer:List Env) (s:ak) (H:Hp) (vs:List V) (Q:VK) (E:XK),eB k (A.deeper (envOfC qual scope s.heap.objs.size f cdv))->sp vs H Q E->
   ∃t,xU (eQ CX P w K mg base N qual scope f cdv A outer s H E) body t/\t {nx:=λ_ H'=>Q .eU H',rt:=Q} (start N vs) H):
  dR P w K mg base CX (k+1) f (PySem.W.fnOf name qual params body scope dV kV doc pm an cdv ct) ps sp:=by
 refine⟨len,λA outer s H args us vs Q E hr e0 hb r Gp=>?_⟩
 have hl:=len _ _ _ _ Gp
 have KX:K.In s.heap:=e0.mod.lT.keeps λb o e=>(e0.bs b o e).1
 have lim:s.heap.NoLimit:=e0.mod.nolimit.keeps λb o e=>(e0.bs b o e).1
 have TV:∀y∈ps.zip us,scope.names.lookup y.1=some .local\/(scope.names.lookup y.1=some .cell/\((cellsFrom (s.heap.objs.size+1) scope.names []).lookup y.1).isSome=true):=λ⟨n,v⟩ hy=>by
  rcases S.par n (va hy).1 with q|q
  .exact .inl q
  .exact .inr ⟨q,uJ _ _ _ (.inl q)⟩
 refine codeAny_call_function hr.depth (KX _ _ lk) rfl S.co S.gen rfl (PySem.W.codeRec_of KX Co) (hb _ _ _ _ ?_)
 refine wpAny_newFunctionEnv_cells S.kind TV λenv he s1 x=>?_
 subst he
 refine⟨lim.keeps x.toInCall.keep,codeAny_func ?_⟩
 obtain⟨t,ht,hq⟩:=vS A outer s H vs Q E (hr.deeper _) Gp
 have I:Inv (eQ CX P w K mg base N qual scope f cdv A outer s H E) [] (start N vs) H s1:=yD S hr.hd e0 hl r x
 refine bF (ht [] s1 (start N vs) H _ I hq) (λfl s' hs=>?_) λe s' hs=>hs
 have fin:∀{bX:St} {H':Hp} {v:V} {u:ag},Inv (eQ CX P w K mg base N qual scope f cdv A outer s H E) [] bX H' s'->RelV v u->Q v H'->CE outer P w H s Q u s':=
  λ{bX H' v u} J rv q=>⟨v,H',J.os,J.bare,J.base,J.eN,rv,q⟩
 cases fl with
 |ret u=>
  obtain⟨v,bX,H',J,rv,q⟩:=hs
  exact fin J rv q
 |next=>
  obtain⟨bX,H',J,q⟩:=hs
  exact fin (v:=V.eU) (u:=Value.none) J rfl q
 |brk=>
  obtain⟨_,_,_,q⟩:=hs
  exact False.elim q
 |cont=>
  obtain⟨_,_,_,q⟩:=hs
  exact False.elim q
section
variable {X:Cx}{x:Str}{p pos:Pos}{e:Expr}{es:List Expr}{t:TA}{id T:String}{r:List V->Hp->VK->Prop}
def Sx (r:List V->Hp->VK->Prop) (t:TA):TE:=λZ H Q=>t Z H λvs H1=>r vs H1 Q
def aR (hc:gN X (.builtin id) r) (hg:Gl X x) (hm:X.mg x=none) (hv:bootBuiltins x=some (.builtin id)) (ha:PA X (e::es) t) (hn:x≠"__name__":=by decide) (qM:(x==("__debug__":Str))=false:=by decide)
  (he:starEach (e::es) X.env=(false,eval e X.env)::starEach es X.env:=by rfl) (j4:(backTo pos (starEach es X.env)).any (·.1)=false:=by rfl):PE X (.Call (.Name x p) (e::es) [] pos) (Sx r t):=by
 intro ac s Z H Q I h
 refine gq (qJ I hg hm hv ?_ hn qM)
 refine PyProof.Rows.callWith_builtin1 (fE (ha pos ac s Z H _ I h) λus s1 c_=>?_) he j4
 obtain⟨vs,H1,I1,r1,q1⟩:=c_
 exact hc ac s1 Z H1 vs us Q I1 r1 q1
def fG (hc:gN X (.type T) r) (hg:Gl X x) (hm:X.mg x=none) (hv:bootBuiltins x=some (.type T)) (ha:PA X (e::es) t) (hn:x≠"__name__":=by decide) (qM:(x==("__debug__":Str))=false:=by decide)
  (he:starEach (e::es) X.env=(false,eval e X.env)::starEach es X.env:=by rfl) (j4:(backTo pos (starEach es X.env)).any (·.1)=false:=by rfl):PE X (.Call (.Name x p) (e::es) [] pos) (Sx r t):=by
 intro ac s Z H Q I h
 refine gq (qJ I hg hm hv ?_ hn qM)
 refine gJ (fE (ha pos ac s Z H _ I h) λus s1 c_=>?_) he j4
 obtain⟨vs,H1,I1,r1,q1⟩:=c_
 exact hc ac s1 Z H1 vs us Q I1 r1 q1
end
end L2
namespace HT
open PySem PyProof.Rows
section
open PySem.SeqAt
open PySem.AutoSeq1 (wpAny_loadPart')
open PySem.MeetsSeq PySem.MeetsSeq2 PySem.MeetsSeq3
end
section
variable {prog:aJ}{w:bB}{A:bH}{E:ag->ak->Prop}{s:ak}
def LR {t b:ai}{vs ws:List ag}{Q:ag->ak->Prop}(ht:IsTup s.heap t vs.toArray) (hb:IsTup s.heap b ws.toArray) (hv:vs≠[])
  (h1:ws=[]->Q (.ref t) s) (h2:ws≠[]->Q (.ref s.heap.objs.size) {s with heap:=s.heap.push {cls:=.type "tuple",data:=.seq (vs++ws).toArray}})
  (hsz:vs.length+ws.length<=sizeLine):wpAny (model prog w) A (binaryOp .Add (.ref t) (.ref b)) Q E s:=by
 obtain⟨⟨cls,dd,data,sl⟩,ho,hc,n,hd⟩:=id ht
 obtain⟨⟨Yj,W8,data2,Sy⟩,LS,Gq,n2,hd2⟩:=id hb
 simp only at hc hd Gq hd2
 subst hc hd Gq hd2
 have e:vs.toArray++ws.toArray=(vs++ws).toArray:=ς
 by_cases hw:ws=[]
 .exact concat_meets ⟨_,ho,rfl⟩ ⟨_,LS,rfl⟩ O8 seq_tuple_add uK tH (rE _ _)
   (tuple_addW1 t b vs.toArray ws.toArray n n2 dd W8 sl Sy (by simpa using hv) (by simp[hw])) ⟨ho,LS,h1 hw⟩
 .refine concat_meets ⟨_,ho,rfl⟩ ⟨_,LS,rfl⟩ O8 seq_tuple_add uK tH (rE _ _)
   (tuple_addW2 t b vs.toArray ws.toArray n n2 dd W8 sl Sy (by simpa using hv) (by simpa using hw) (by rw[aK,aK];exact hsz)) ⟨ho,LS,?_⟩
  rw[e]
  exact h2 hw
def iA (n d:Nat):Option Int->Nat
 |none=>d
 |some v=>if v<0 then(v+(n:Int)).toNat else min v.toNat n
def rR (n d:Nat):iA n d none=d:=rfl
def mx (n d k:Nat):iA n d (some (k:Int))=min k n:=by
 show(if(k:Int)<0 then((k:Int)+(n:Int)).toNat else min (k:Int).toNat n)=min k n
 rw[aP ω,jC]
def PB (n d:Nat) (hd:d<=n) (o:Option Int):iA n d o<=n:=by
 cases o with
 |none=>exact hd
 |some v=>
  show(if v<0 then(v+(n:Int)).toNat else min v.toNat n)<=n
  by_cases hv:v<0
  .rw[aT hv];omega
  .rw[aP hv];exact nA _ _
def TX (m n:Nat):min (m:Int) (n:Int)=((min m n:Nat):Int):=by
 rw[Int.min_def,Nat.min_def]
 split<;>rename_i h
 .rw[aT (Int.ofNat_le.mp h)]
 .rw[aP (λz=>h (Int.ofNat_le.mpr z))]
def EZ (v:Int) (n d:Nat):(if v<0 then max (v+(n:Int)) 0 else min v (n:Int))=((iA n d (some v):Nat):Int):=by
 show(if v<0 then max (v+(n:Int)) 0 else min v (n:Int))=(((if v<0 then(v+(n:Int)).toNat else min v.toNat n):Nat):Int)
 by_cases hv:v<0
 .rw[aT hv,aT hv];exact(Int.ofNat_toNat _).symm
 .rw[aP hv,aP hv];obtain⟨k,rfl⟩:=So (Int.not_lt.mp hv);exact TX k n
def NZ (i:Int) (n:Nat):max 0 (min (if i<0 then i+ ↑n else i) ↑n)=(((if i<0 then(i+ ↑n).toNat else min i.toNat n):Nat):Int):=by
 by_cases h:i<0
 .rw[aT h,aT h,Int.min_eq_left (Int.add_le_of_le_sub_right (by rw[Int.sub_self];exact S8 h)),Int.max_comm];exact(Int.ofNat_toNat _).symm
 .rw[aP h,aP h];obtain⟨k,rfl⟩:=So (Int.not_lt.mp h);rw[TX,Int.max_eq_right (Int.natCast_nonneg _)];rfl
def CI (lo hi:Option Int) (n:Nat):Builtin.Slice.sliceAdjust lo hi 1 (n:Int)=(((iA n 0 lo:Nat):Int),((iA n n hi:Nat):Int)):=by
 have h1:¬((1:Int)<0):=ω
 unfold Builtin.Slice.sliceAdjust
 simp only[h1,jj]
 refine Prod.ext ?_ ?_
 .cases lo with
  |none=>rfl
  |some v=>exact EZ v n 0
 .cases hi with
  |none=>rfl
  |some v=>exact EZ v n n
def CJ (i j:Nat):Builtin.Slice.slicePlaces (i:Int) (j:Int) 1=j-i:=by
 unfold Builtin.Slice.slicePlaces
 have h1:(1:Int)>0:=ω
 simp only[h1,nR,Int.ediv_one]
 split<;>omega
def qN (p:IsPart v o) (h:Q o s):wpAny (model prog w) A (Builtin.Slice.slicePartIndex v) Q E s:=by
 cases p with
 |none=>exact NR h
 |int i t=>exact slicePart_int h
def nK {lo hi:Option Int}{n:Nat}(hs:s.heap.IsSliceOf sl vl vu .none) (pl:IsPart vl lo) (pu:IsPart vu hi)
  (h:Q (((iA n 0 lo:Nat):Int),1,iA n n hi-iA n 0 lo) s):wpAny (model prog w) A (Builtin.Slice.sliceApplied (.ref sl) (pure (n:Int))) Q E s:=by
 obtain⟨os,PC,W9,TY⟩:=id hs
 unfold Builtin.Slice.sliceApplied Builtin.Slice.sliceFields
 refine aa (aa (bR PC TY (x:=vl) rfl (aa (bR PC TY (x:=vu) rfl (aa (bR PC TY (x:=.none) rfl (aj ?_)))))))
 refine aa (NR ?_)
 show wpAny _ _ (if((1:Int)==0)=true then _ else _) _ _ s
 rw[aP δ]
 refine aa (qN pl (aa (qN pu (aa (aj ?_)))))
 show wpAny _ _ (match Builtin.Slice.sliceAdjust lo hi 1 (n:Int) with|(lo,hi)=>pure (lo,(1:Int),Builtin.Slice.slicePlaces lo hi 1)) _ _ s
 rw[CI lo hi n]
 show wpAny _ _ (pure (((iA n 0 lo:Nat):Int),(1:Int),Builtin.Slice.slicePlaces ((iA n 0 lo:Nat):Int) ((iA n n hi:Nat):Int) 1)) _ _ s
 rw[CJ]
 exact aj h
def ID (xs:Array ag) (i k:Nat):((List.range k).filterMap λ(m:Nat)=>xs[((i:Int)+(m:Int)*1).toNat]?).toArray=((xs.toList.drop i).take k).toArray:=by
 have e:(λ(m:Nat)=>xs[((i:Int)+(m:Int)*1).toNat]?)=λm=>xs[i+m]?:=by
  funext m
  rw[Int.mul_one,show((i:Int)+(m:Int)).toNat=i+m from rfl]
 rw[e]
 have:=pick_run xs i k
 rw[List.filterMap_map] at this
 have e2:((λx=>xs[x]?)∘λx=>i+x)=λm=>xs[i+m]?:=rfl
 rw[e2] at this
 rw[this]
def rS {lo hi:Option Int}(ht:IsTup s.heap t items) (hs:s.heap.IsSliceOf sl vl vu .none) (pl:IsPart vl lo) (pu:IsPart vu hi)
  (hw:¬(iA items.size 0 lo=0/\iA items.size items.size hi=items.size))
  (h:Q (.ref s.heap.objs.size) {s with heap:=s.heap.push {cls:=.type "tuple",data:=.seq ((items.toList.drop (iA items.size 0 lo)).take (iA items.size items.size hi-iA items.size 0 lo)).toArray}})
  (hsz:items.size<=sizeLine):wpAny (model prog w) A (getItem (.ref t) (.ref sl)) Q E s:=by
 have E4:sizeOk (.seq ((items.toList.drop (iA items.size 0 lo)).take (iA items.size items.size hi-iA items.size 0 lo)).toArray):=by
  show((items.toList.drop (iA items.size 0 lo)).take (iA items.size items.size hi-iA items.size 0 lo)).toArray.size<=sizeLine
  rw[aK,fF,dP,gE]
  exact aA (nA _ _) (aA (qx _ _) hsz)
 have hj:iA items.size items.size hi<=items.size:=PB _ _ (av _) hi
 obtain⟨os,PC,W9,TY⟩:=id hs
 have Yk:s.TypeIs (.ref sl) "slice":=⟨os,PC,W9⟩
 unfold getItem
 try with_reducible refine cm ?_
 first|refine aa (aj ?_)|skip
 refine aa (Lv ht.typeIs δ ?_)
 refine aa (cM (name:=Str.ofString "__getitem__") ht.typeIs cI
  (dX cI ht.typeIs entry_tuple_getitem ?_ (args_tuple_getitem _ _)))
 show wpAny _ _ (Builtin.Tuple.tupleItemsOf (.ref t)>>=_) _ _ s
 refine aa (tupleItemsOf_ ht ?_)
 refine aa (rF Yk ?_)
 rw[aT δ]
 refine aa (nK hs pl pu ?_)
 have PD:¬((((iA items.size 0 lo:Nat):Int)==0&&(1:Int)==1&&(iA items.size items.size hi-iA items.size 0 lo)==items.size)=true):=by
  intro q
  rw[cN,cN] at q
  have q1:((iA items.size 0 lo:Nat):Int)=0:=eq_of_beq q.1.1
  have q2:iA items.size items.size hi-iA items.size 0 lo=items.size:=eq_of_beq q.2
  have q0:=Int.ofNat.inj q1
  exact hw ⟨q0,by rw[q0] at q2;exact q2⟩
 show wpAny _ _ (if(((iA items.size 0 lo:Nat):Int)==0&&(1:Int)==1&&(iA items.size items.size hi-iA items.size 0 lo)==items.size)=true then _ else _) _ _ s
 rw[aP PD,ID]
 first
  |exact aa (m:=Builtin.Tuple.tupleExact _) (bJ (aj ⟨_,rfl,aj h⟩) E4)
  |exact aa (m:=Builtin.Tuple.tupleExact _) (bJ (aa (aj (aj ⟨_,rfl,aj h⟩))) E4)
  |exact aa (aa (m:=Builtin.Tuple.tupleExact _) (bJ (aj (aj ⟨_,rfl,aj h⟩)) E4))
  |exact aa (aa (m:=Builtin.Tuple.tupleExact _) (bJ (aj ⟨_,rfl,aj h⟩) E4))
end
end HT
namespace L2
open PySem PySem.Spec PyProof.Rows
abbrev TO:=St->Hp->(Option Int->Hp->Prop)->Prop
def PO (X:Cx) (e:Option Expr) (t:TO):Prop:=
 ∀(ac:List (ai×Obj)) (s:ak) (Z:St) (H:Hp) (Q:Option Int->Hp->Prop),Inv X ac Z H s->t Z H Q->
  wpAny (model X.prog X.w) X.A (evalPart e X.env) (λu s'=>∃o H',Inv X ac Z H' s'/\IsPart u o/\Q o H') X.xe s
def rT:TO:=λ_ H Q=>Q none H
def AN (t:TE):TO:=λZ H Q=>t Z H λx H1=>∃i,x=.int i/\Q (some i) H1
section
variable {X:Cx}{e:Expr}{te:TE}{lo hi:Option Expr}{tl th:TO}{pos p2:Pos}
def jL:PO X none rT:=by
 intro ac s Z H Q I h
 rw[evalPart_none]
 exact aj ⟨none,H,I,.none,h⟩
def iU (h:PE X e te):PO X (some e) (AN te):=by
 intro ac s Z H Q I hw
 rw[evalPart_some]
 refine fE (h ac s Z H _ I hw) λu s1 c_=>?_
 obtain⟨x,H1,I1,r1,q1⟩:=c_
 obtain⟨i,rfl,q⟩:=q1
 obtain⟨t,rfl⟩:=r1
 exact⟨some i,H1,I1,.int i t,q⟩
def W_ (X:Cx) (r:V->Option Int->Option Int->Hp->VK->Prop):Prop:=
 ∀(ac:List (ai×Obj)) (s:ak) (Z:St) (H:Hp) (x:V) (v vl vu:ag) (lo hi:Option Int) (sl:ai) (Q:VK),Inv X ac Z H s->RelV x v->s.heap.IsSliceOf sl vl vu .none->IsPart vl lo->IsPart vu hi->r x lo hi H Q->
  ∃T id,typeLookup (.type T) "__getitem__"=pure (some (.builtin id))/\s.TypeIs v T/\wpAny (model X.prog X.w) X.A (getItem v (.ref sl)) (EP X ac Z Q) X.xe s
def TZ (r:V->Option Int->Option Int->Hp->VK->Prop) (te:TE) (tl th:TO):TE:=λZ H Q=>te Z H λx H1=>tl Z H1 λl H2=>th Z H2 λu H3=>r x l u H3 Q
def hX {r:V->Option Int->Option Int->Hp->VK->Prop}(hr:W_ X r) (he:PE X e te) (hl:PO X lo tl) (hu:PO X hi th):PE X (.Subscript e (.Slice lo hi none p2) pos) (TZ r te tl th):=by
 intro ac s Z H Q I h
 refine Subscript_ (fE (he ac s Z H _ I h) λv s1 c_=>?_)
 obtain⟨x,H1,I1,r1,q1⟩:=c_
 refine wpAny_Slice (fE (hl ac s1 Z H1 _ I1 q1) λvl s2 c_=>?_)
 obtain⟨l,H2,I2,pl,q2⟩:=c_
 refine fE (hu ac s2 Z H2 _ I2 q2) λvu s3 AJ=>?_
 obtain⟨u,H3,I3,pu,q3⟩:=AJ
 rw[evalPart_none]
 refine aj ?_
 have I4:Inv X ac Z H3 {s3 with heap:=s3.heap.push {cls:=.type "slice",data:=.fields #[vl,vu,.none]}}:=I3.kept (t':=s3.toks) λb ob q=>af _ q
 obtain⟨T,id,hT,ht,hg⟩:=hr ac {s3 with heap:=s3.heap.push {cls:=.type "slice",data:=.fields #[vl,vu,.none]}} Z H3 x v vl vu l u s3.heap.objs.size Q I4 r1 (Heap.IsSliceOf.new ..) pl pu q3
 show wpAny (model X.prog X.w) X.A (subscriptTail e (.Slice lo hi none p2) v (.ref s3.heap.objs.size)) (EP X ac Z Q) X.xe {s3 with heap:=s3.heap.push {cls:=.type "slice",data:=.fields #[vl,vu,.none]}}
 exact tail_any (ops:=[.ref s3.heap.objs.size,v]) ht hT hg (by with_unfolding_all rfl)
def jt (xs:List V) (lo hi:Option Int):List V:=(xs.drop (HT.iA xs.length 0 lo)).take (HT.iA xs.length xs.length hi-HT.iA xs.length 0 lo)
def ur (xs:List V) (lo hi:Option Int):(jt xs lo hi).length<=xs.length:=by
 unfold jt
 rw[fF,dP]
 exact aA (nA _ _) (qx _ _)
def Yl (K:Φ):V->Option Int->Option Int->Hp->VK->Prop:=λx lo hi H Q=>∃a xs,x=.ref a/\bZ K H a xs/\
 ¬(HT.iA xs.length 0 lo=0/\HT.iA xs.length xs.length hi=xs.length)/\∀p,H p=none->Q (.ref p) (upd H p (.tup (jt xs lo hi)))
def zx:W_ X (Yl X.K):=by
 intro ac s Z H x v vl vu lo hi sl Q I rx hs pl pu h
 obtain⟨a,xs,rfl,hx,hw,q⟩:=h
 cases rx
 obtain⟨cV,r,ht,hz⟩:=I.tuple hx
 have hlen:cV.toArray.size=xs.length:=by rw[aK];exact r.length.symm
 refine⟨"tuple",_,cI.lookup,ht.typeIs,?_⟩
 refine HT.rS ht hs pl pu (by rw[hlen];exact hw) ?_ (by rw[hlen];exact hz)
 rw[hlen]
 refine⟨.ref s.heap.objs.size,_,I.laid (t':=s.toks) (o:=.tup (jt xs lo hi)) (λb ob q=>af _ q) (av _) ?_,rfl,q _ (I.eN.fresh (av _))⟩
 exact⟨aA (ur xs lo hi) hz,_,(r.drop (HT.iA xs.length 0 lo)).take (HT.iA xs.length xs.length hi-HT.iA xs.length 0 lo),vJ.new _ _⟩
def IE (K:Φ):R2:=λx y H Q=>∃a b xs ys,x=.ref a/\y=.ref b/\bZ K H a xs/\bZ K H b ys/\xs≠[]/\xs.length+ys.length<=sizeLine/\
 (ys=[]->Q (.ref a) H)/\(ys≠[]->∀p,H p=none->Q (.ref p) (upd H p (.tup (xs++ys))))
def cK.zy (r:cK xs us):us=[]↔xs=[]:=by
 cases r with
 |nil=>simp
 |cons _ _=>simp
def mz:lP X (binaryOp .Add) (IE X.K):=by
 intro ac s Z H x y v u Q I rx ry h
 obtain⟨a,b,xs,ys,rfl,rfl,ha,hb,hx,hz,q1,q2⟩:=h
 cases rx
 cases ry
 obtain⟨cV,r1,p1,_⟩:=I.tuple ha
 obtain⟨mj,r2,p2,_⟩:=I.tuple hb
 refine HT.LR p1 p2 (λz=>hx (r1.zy.mp z)) (λz=>⟨.ref a,H,I,rfl,q1 (r2.zy.mp z)⟩) (λz=>?_) (by rw[<-r1.length,<-r2.length];exact hz)
 refine⟨.ref s.heap.objs.size,_,I.laid (t':=s.toks) (o:=.tup (xs++ys)) (λb ob q=>af _ q) (av _) ?_,rfl,q2 (λw=>z (r2.zy.mpr w)) _ (I.eN.fresh (av _))⟩
 exact⟨by rw[aQ];exact hz,_,r1.append r2,vJ.new _ _⟩
end
def Le (n:Nat) (i:Int):Option Nat:=if 0<=i then(if i<n then some i.toNat else none) else if-(n:Int)<=i then some (i+n).toNat else none
def qA {α:Type}(xs:List α) (i:Int):Option α:=(Le xs.length i).bind λj=>xs[j]?
def E5 (h:Le n i=some j):seqIndex? i n=some j/\j<n/\-(n:Int)<=i/\i<n:=by
 unfold Le at h
 by_cases h0:0<=i
 .rw[aT h0] at h
  by_cases h1:i<n
  .rw[aT h1] at h
   have e:i.toNat=j:=cR h
   exact⟨by rw[seqIndex_of h0 h1,e],ω,ω,h1⟩
  .rw[aP h1] at h;cases h
 .rw[aP h0] at h
  by_cases h1:-(n:Int)<=i
  .rw[aT h1] at h
   have e:(i+n).toNat=j:=cR h
   exact⟨by rw[seqIndex_neg ω h1,e],ω,h1,ω⟩
  .rw[aP h1] at h;cases h
def E6 {α:Type}{xs:List α}{i:Int}{v:α}(h:qA xs i=some v):∃j,seqIndex? i xs.length=some j/\xs[j]?=some v/\j<xs.length/\-(xs.length:Int)<=i/\i<xs.length:=by
 unfold qA at h
 cases e:Le xs.length i with
 |none=>rw[e] at h;cases h
 |some j=>
  rw[e] at h
  obtain⟨h1,h2,h3,h4⟩:=E5 e
  exact⟨j,h1,h,h2,h3,h4⟩
def aV {α:Type}{xs:List α}{j:Nat}{v:α}(h:xs[j]?=some v):qA xs (j:Int)=some v:=by
 have hj:j<xs.length:=(bD.mp h).1
 have e:Le xs.length (j:Int)=some j:=by
  unfold Le
  rw[aT ω,aT ω];simp
 unfold qA;rw[e];exact h
def lX {α:Type}(xs:List α) (v:α):qA (xs++ [v]) (-1)=some v:=by
 have hl:(xs++ [v]).length=xs.length+1:=ς
 have e:Le (xs++ [v]).length (-1)=some xs.length:=by
  unfold Le
  rw[hl,aP δ,aT ω]
  congr 1
  omega
 unfold qA
 rw[e]
 show(xs++ [v])[xs.length]?=some v
 simp
def LU (b:Expr):Prop:=∀o i,subscripted b false o i=operate [o,i] (getItem o i)
def Ym (X:Cx) (r:R2):Prop:=
 ∀(value slice:Expr) (ac:List (ai×Obj)) (s:ak) (Z:St) (H:Hp) (x y:V) (v u:ag) (Q:VK),Inv X ac Z H s->RelV x v->RelV y u->r x y H Q->
  subscripted slice false v u=operate [v,u] (getItem v u)->wpAny (model X.prog X.w) X.A (subscriptTail value slice v u) (EP X ac Z Q) X.xe s
def Yn (X:Cx) (id:String) (r:V->List V->Hp->VK->Prop):Prop:=
 ∀(ac:List (ai×Obj)) (s:ak) (Z:St) (H:Hp) (x:V) (xs:List V) (v:ag) (us:List ag) (Q:VK),Inv X ac Z H s->RelV x v->cK xs us->r x xs H Q->
  wpAny (model X.prog X.w) X.A (call (.builtin id) (v::us)) (EP X ac Z Q) X.xe s
section
variable {X:Cx}{a b:Expr}{ta tb:TE}{pos:Pos}
def aU {r:R2}(hr:Ym X r) (ha:PE X a ta) (hb:PE X b tb) (hs:LU b:=by intro _ _;rfl):PE X (.Subscript a b pos) (gH r ta tb):=by
 intro ac s Z H Q I h
 exact Subscript_ (Pu ha hb I h λv u s2 x y H2 I2 rx ry q=>hr a b ac s2 Z H2 x y v u Q I2 rx ry q (hs _ _))
def Gr (K:Φ):R2:=λx y H Q=>∃p xs i v,x=.ref p/\y=.int i/\cQ K H p xs/\qA xs i=some v/\Q v H
def gg (K:Φ):R2:=λx y H Q=>∃p xs i v,x=.ref p/\y=.int i/\bZ K H p xs/\qA xs i=some v/\Q v H
def b_:Ym X (Gr X.K):=by
 intro value slice ac s Z H x y v u Q I rx ry h hs
 obtain⟨p,xs,i,z,rfl,rfl,hq,he,q⟩:=h
 cases rx
 obtain⟨t,rfl⟩:=ry
 obtain⟨cV,r,pl,hz⟩:=I.list hq
 obtain⟨j,h1,h2,h3,h4,h5⟩:=E6 he
 obtain⟨w,ew,Gf⟩:=r.get h2
 have hl:=r.length
 have hn:=tT
 have fin:EP X ac Z Q w s:=⟨z,H,I,Gf,q⟩
 by_cases h0:0<=i
 .have hj:i.toNat=j:=by
   rw[seqIndex_of h0 h5] at h1
   exact cR h1
  exact item_listR pl.isList h0 ω (by rw[hj];simpa using ew) fin hs
 .have hj:(i+(cV.toArray.size:Int)).toNat=j:=by
   rw[seqIndex_neg ω h4] at h1
   rw[aK,<-hl]
   exact cR h1
  exact subscriptTail_builtinR (x:=w) pl.isList.typeIs slot_list_getitem.lookup
   (wpAny_getItem_list_neg (Q:=λr s'=>r=w/\EP X ac Z Q r s') pl.isList ω (by rw[aK]<;>omega) ω (by rw[hj];simpa using ew) ⟨rfl,fin⟩) hs
def aZ:Ym X (gg X.K):=by
 intro value slice ac s Z H x y v u Q I rx ry h hs
 obtain⟨p,xs,i,z,rfl,rfl,hq,he,q⟩:=h
 cases rx
 obtain⟨t,rfl⟩:=ry
 obtain⟨cV,r,pl,hz⟩:=I.tuple hq
 obtain⟨j,h1,h2,h3,h4,h5⟩:=E6 he
 obtain⟨w,ew,Gf⟩:=r.get h2
 have hl:=r.length
 have hn:=tT
 have fin:EP X ac Z Q w s:=⟨z,H,I,Gf,q⟩
 exact subscriptTail_builtinR (x:=w) pl.typeIs slot_tuple_getitem.lookup
  (getItem_tuple (j:=j) (Q:=λr s'=>r=w/\EP X ac Z Q r s') pl ω ω (by rw[aK,<-hl];exact h1) (by simpa using ew) ⟨rfl,fin⟩) hs
def CK (cV:List ag) (n j:Nat) (u:ag):Obj.mapSeq (·.setIfInBounds j u) {cls:=.type "list",data:=.seq cV.toArray n}={cls:=.type "list",data:=.seq (cV.set j u).toArray n}:=by
 simp[Obj.mapSeq]
def Inv.lst (I:Inv X ac Z H s) (h:H p=some (.lst xs)):
  ∃(cV:List ag) (n:Nat),cK xs cV/\s.heap.get? p=some {cls:=.type "list",data:=.seq cV.toArray n}/\xs.length<=sizeLine:=by
 obtain⟨z,cV,n,r,e⟩:=I.eN p _ h
 exact⟨cV,n,r,e,z⟩
def Inv.PF {ac:List (ai×Obj)}{Z:St}{H:Hp}{s:ak}{p:ai}{xs ys:List V}{cV its':List ag}{n n':Nat}{f:Obj->Obj}(I:Inv X ac Z H s) (h:H p=some (.lst xs))
  (ho:s.heap.get? p=some {cls:=.type "list",data:=.seq cV.toArray n}) (hf:f {cls:=.type "list",data:=.seq cV.toArray n}={cls:=.type "list",data:=.seq its'.toArray n'}) (r:cK ys its') (hz:ys.length<=sizeLine) (t:Nat):
  Inv X ac Z (upd H p (.lst ys)) {s with heap:=s.heap.update p f,toks:=t}:=by
 have e:(s.heap.update p f).get? p=some {cls:=.type "list",data:=.seq its'.toArray n'}:=by
  rw[cY f ho (by rw[hf]<;>rfl),hf]
 refine I.write (x:=p) (e:=p) (by rw[h];trivial) (.inl rfl) (λb u hb q=>(ba _ _ (cG hb)).trans q) ⟨_,e⟩ ?_
 exact⟨hz,its',n',r,e⟩
def T4:V->V->V->Hp->(Hp->Prop)->Prop:=λo i v H Q=>∃p xs k j,o=.ref p/\i=.int k/\H p=some (.lst xs)/\Le xs.length k=some j/\Q (upd H p (.lst (xs.set j v)))
def set_list:Po X T4:=by
 intro ac s Z H o i v ov iv u Q I ro ri rv h
 obtain⟨p,xs,k,j,rfl,rfl,hp,hj,q⟩:=h
 cases ro
 obtain⟨t,rfl⟩:=ri
 obtain⟨cV,n,r,ho,hz⟩:=I.lst hp
 obtain⟨h1,h2,h3,h4⟩:=E5 hj
 have hl:=r.length
 have hn:=tT
 have I':Inv X ac Z (upd H p (.lst (xs.set j v))) {s with heap:=s.heap.update p (Obj.mapSeq (·.setIfInBounds j u))}:=
  I.PF hp ho (CK cV n j u) (r.set rv j) (by rw[List.length_set];exact hz) s.toks
 by_cases h0:0<=k
 .have hk:k.toNat=j:=by
   rw[seqIndex_of h0 h4] at h1
   exact cR h1
  exact PySem.W.ki_setAt ho h0 ω (by rw[aK,<-hl];exact h4) (by rw[hk];exact⟨_,I',q⟩)
 .have hk:(k+(cV.toArray.size:Int)).toNat=j:=by
   rw[seqIndex_neg ω h3] at h1
   rw[aK,<-hl]
   exact cR h1
  exact PySem.W.ki_setBack ho ω (by rw[aK,<-hl];exact h3) ω (by rw[hk];exact⟨_,I',q⟩)
def zA (lo hi:Option Int) (n:Nat):(sliceBounds lo hi none n).1=((HT.iA n 0 lo:Nat):Int)/\(sliceBounds lo hi none n).2.1=((HT.iA n n hi:Nat):Int)/\(sliceBounds lo hi none n).2.2=1:=by
 refine⟨?_,?_,rfl⟩
 .cases lo with
  |none=>simp[sliceBounds,HT.iA]
  |some i=>
   simp only[sliceBounds,HT.iA,Option.getD_none,show(1:Int)>0 by decide,nR]
   exact HT.NZ i n
 .cases hi with
  |none=>simp[sliceBounds,HT.iA]
  |some i=>
   simp only[sliceBounds,HT.iA,Option.getD_none,show(1:Int)>0 by decide,nR]
   exact HT.NZ i n
def xX (cV:List ag) (lo hi:Option Int):slicePick cV.toArray lo hi none=((cV.drop (HT.iA cV.length 0 lo)).take (HT.iA cV.length cV.length hi-HT.iA cV.length 0 lo)).toArray:=by
 obtain⟨h1,h2,h3⟩:=zA lo hi cV.toArray.size
 unfold slicePick
 rw[h1,h2,h3]
 simp only[sliceRange_one,pick_run,aK]<;>rfl
def PH (K:Φ):V->Option Int->Option Int->Hp->VK->Prop:=λx lo hi H Q=>∃a xs,x=.ref a/\cQ K H a xs/\∀p,H p=none->Q (.ref p) (upd H p (.lst (jt xs lo hi)))
def qj:W_ X (PH X.K):=by
 intro ac s Z H x v vl vu lo hi sl Q I rx hs pl pu h
 obtain⟨a,xs,rfl,hx,q⟩:=h
 cases rx
 obtain⟨cV,r,ht,hz⟩:=I.list hx
 have hlen:=r.length
 refine⟨"list",_,slot_list_getitem.lookup,ht.isList.typeIs,?_⟩
 refine wpAny_getItem_list_slice ht.isList hs pl pu .none ς ?_ (by rw[aK]<;>omega)
 rw[xX,<-hlen]
 refine⟨.ref s.heap.objs.size,_,I.laid (t':=s.toks) (o:=.lst (jt xs lo hi)) (λb ob q=>af _ q) (av _) ?_,rfl,q _ (I.eN.fresh (av _))⟩
 exact⟨aA (ur xs lo hi) hz,_,0,(r.drop (HT.iA xs.length 0 lo)).take (HT.iA xs.length xs.length hi-HT.iA xs.length 0 lo),az _ rfl⟩
def qD:V->Bool
 | .eU=>true
 | .bl _=>true
 | .int _=>true
 | .str _=>true
 |_=>false
def Lf:V->V->Bool
 | .eU,.eU=>true
 | .bl a,.bl b=>a==b
 | .bl a,.int b=>(if a then 1 else 0)==b
 | .int a,.bl b=>a==(if b then 1 else 0)
 | .int a,.int b=>a==b
 | .str a,.str b=>a==b
 |_,_=>false
def PJ (ry:RelV y u) (rx:RelV x v) (fy:qD y=true) (fx:qD x=true):SeqAt.EqAt A s u v (Lf y x):=by
 cases y with
 |eU=>
  cases ry
  cases x with
  |eU=>cases rx;exact SeqAt.EqAt.same _
  |bl b=>cases rx;exact SeqAt.EqAt.none_bool b
  |int b=>obtain⟨t,rfl⟩:=rx;exact SeqAt.EqAt.none_int b t
  |str b=>obtain⟨t,rfl⟩:=rx;exact SeqAt.EqAt.none_str b t
  |_=>exact absurd (show false=true from fx) bM
 |bl a=>
  cases ry
  cases x with
  |eU=>cases rx;exact SeqAt.EqAt.bool_none a
  |bl b=>cases rx;exact SeqAt.EqAt.bool_bool a b
  |int b=>obtain⟨t,rfl⟩:=rx;exact SeqAt.EqAt.bool_int a b t
  |str b=>obtain⟨t,rfl⟩:=rx;exact SeqAt.EqAt.bool_str a b t
  |_=>exact absurd (show false=true from fx) bM
 |int a=>
  obtain⟨t',rfl⟩:=ry
  cases x with
  |eU=>cases rx;exact SeqAt.EqAt.int_none a t'
  |bl b=>cases rx;exact SeqAt.EqAt.int_bool a t' b
  |int b=>obtain⟨t,rfl⟩:=rx;exact SeqAt.EqAt.int_int a t' b t
  |str b=>obtain⟨t,rfl⟩:=rx;exact SeqAt.EqAt.int_str a t' b t
  |_=>exact absurd (show false=true from fx) bM
 |str a=>
  obtain⟨t',rfl⟩:=ry
  cases x with
  |eU=>cases rx;exact SeqAt.EqAt.str_none a t'
  |bl b=>cases rx;exact SeqAt.EqAt.str_bool a t' b
  |int b=>obtain⟨t,rfl⟩:=rx;exact SeqAt.EqAt.str_int a t' b t
  |str b=>obtain⟨t,rfl⟩:=rx;exact H_ a t' b t
  |_=>exact absurd (show false=true from fx) bM
 |_=>exact absurd (show false=true from fy) bM
def CO (x:V) (u:ag):Bool:=match u with
 | .none=>Lf .eU x
 | .bool b=>Lf (.bl b) x
 | .int i _=>Lf (.int i) x
 | .str z _=>Lf (.str z) x
 |_=>false
def IF (r:RelV y u) (f:qD y=true):CO x u=Lf y x:=by
 cases y with
 |eU=>cases r;rfl
 |bl b=>cases r;rfl
 |int i=>obtain⟨t,rfl⟩:=r;rfl
 |str z=>obtain⟨t,rfl⟩:=r;rfl
 |_=>exact absurd (show false=true from f) bM
def rV:∀{xs:List V}{us:List ag},cK xs us->xs.all qD=true->us.any (CO x)=xs.any λy=>Lf y x
 |_,_,.nil,_=>rfl
 |y::xs,u::us,.cons r t,f=>by
  rw[Au,cN] at f
  rw[kT,kT,IF r f.1,rV t f.2]
def pG (rx:RelV x v) (fx:qD x=true):∀{xs:List V}{us:List ag},cK xs us->xs.all qD=true->∀u∈us,SeqAt.EqAt A s u v (CO x u)
 |_,_,.nil,_=>λu hu=>by cases hu
 |y::xs,u::us,.cons r t,f=>λu' hu=>by
  rw[Au,cN] at f
  rcases aD.mp hu with rfl|hu
  .rw[IF r f.1];exact PJ r rx f.1 fx
  .exact pG rx fx t f.2 u' hu
def IG (x:V) (xs:List V):Bool:=xs.any λy=>Lf y x
def PK (K:Φ) (neg:Bool):R2:=λx y H Q=>∃p xs,y=.ref p/\(cQ K H p xs\/bZ K H p xs)/\qD x=true/\xs.all qD=true/\Q (.bl (if neg then !IG x xs else IG x xs)) H
def qk:lP X (compareOp .In) (PK X.K false):=by
 intro ac s Z H x y v u Q I rx ry h
 obtain⟨p,xs,rfl,hq,fx,fs,q⟩:=h
 cases ry
 rcases hq with hq|hq
 .obtain⟨cV,r,pl,hz⟩:=I.list hq
  refine SeqAt.in_listAt (CO x) pl.isList (λw hw=>pG rx fx r fs w (by simpa using hw)) ⟨.bl _,H,I,rfl,?_⟩
  rw[show cV.toArray.any (CO x)=cV.any (CO x) by simp,rV r fs]
  exact q
 .obtain⟨cV,r,pl,hz⟩:=I.tuple hq
  refine SeqAt.in_tupleAt (CO x) pl (λw hw=>pG rx fx r fs w (by simpa using hw)) ⟨.bl _,H,I,rfl,?_⟩
  rw[show cV.toArray.any (CO x)=cV.any (CO x) by simp,rV r fs]
  exact q
def gZ:lP X (compareOp .NotIn) (PK X.K true):=by
 intro ac s Z H x y v u Q I rx ry h
 obtain⟨p,xs,rfl,hq,fx,fs,q⟩:=h
 cases ry
 rcases hq with hq|hq
 .obtain⟨cV,r,pl,hz⟩:=I.list hq
  refine SeqAt.notIn_listAt (CO x) pl.isList (λw hw=>pG rx fx r fs w (by simpa using hw)) ⟨.bl _,H,I,rfl,?_⟩
  rw[show cV.toArray.any (CO x)=cV.any (CO x) by simp,rV r fs]
  exact q
 .obtain⟨cV,r,pl,hz⟩:=I.tuple hq
  refine SeqAt.notIn_tupleAt (CO x) pl (λw hw=>pG rx fx r fs w (by simpa using hw)) ⟨.bl _,H,I,rfl,?_⟩
  rw[show cV.toArray.any (CO x)=cV.any (CO x) by simp,rV r fs]
  exact q
def bS:gN X (.builtin "len") (λxs H Q=>∃p ys,xs=[.ref p]/\(cQ X.K H p ys\/bZ X.K H p ys)/\Q (.int ys.length) H):=by
 intro ac s Z H xs us Q I r h
 obtain⟨p,ys,rfl,hq,q⟩:=h
 obtain⟨u,rfl,rx⟩:=AB r
 cases rx
 have hn:=tT
 rcases hq with hq|hq
 .obtain⟨cV,r',pl,hz⟩:=I.list hq
  have hlen:=r'.length
  exact Calls.call_len_list pl.isList (by simp only[aK]<;>omega) ⟨.int ys.length,H,I.tok _,⟨s.toks+1,by rw[aK,hlen]⟩,q⟩
 .obtain⟨cV,r',pl,hz⟩:=I.tuple hq
  have hlen:=r'.length
  exact len_tuple pl (by simp only[aK]<;>omega) ⟨.int ys.length,H,I.tok _,⟨s.toks+1,by rw[aK,hlen]⟩,q⟩
def rW:gN X (.builtin "len") (λxs H Q=>∃z,xs=[.str z]/\z.length<=sizeLine/\Q (.int z.length) H):=by
 intro ac s Z H xs us Q I r h
 obtain⟨z,rfl,hz,q⟩:=h
 obtain⟨u,rfl,t,rfl⟩:=AB r
 have hn:=tT
 exact len_str ω ⟨.int z.length,H,I.tok _,⟨_,rfl⟩,q⟩
def oi:gN X (.type "list") (λxs H Q=>∃p ys,xs=[.ref p]/\(cQ X.K H p ys\/bZ X.K H p ys)/\∀l,H l=none->Q (.ref l) (upd H l (.lst ys))):=by
 intro ac s Z H xs us Q I r h
 obtain⟨p,ys,rfl,hq,q⟩:=h
 obtain⟨u,rfl,rx⟩:=AB r
 cases rx
 have fin:∀(cV:List ag),cK ys cV->ys.length<=sizeLine->∀(h':Heap) (c':Nat),(∀b o',s.heap.get? b=some o'->h'.get? b=some o')->
   h'.get? s.heap.objs.size=some {cls:=.type "list",dict:=none,data:=.seq cV.toArray c',slots:=#[]}->EP X ac Z Q (.ref s.heap.objs.size) {s with heap:=h'}:=λcV r' hz h' c' kp e=>
  ⟨.ref s.heap.objs.size,_,I.laid (t':=s.toks) kp (av _) (show gf X.prog X.w _ h' _ (.lst ys) from⟨hz,cV,c',r',e⟩),rfl,q _ (I.eN.fresh (av _))⟩
 rcases hq with hq|hq
 .obtain⟨cV,r',pl,hz⟩:=I.list hq
  have hlen:=r'.length
  obtain⟨o,ho,hc,n,hd⟩:=pl.isList
  exact call_list_seq p (.inl rfl) ho hc hd (λh' c' kp e=>fin cV r' hz h' c' kp e) (by simp only[aK]<;>omega)
 .obtain⟨cV,r',pl,hz⟩:=I.tuple hq
  have hlen:=r'.length
  obtain⟨o,ho,hc,n,hd⟩:=pl
  exact call_list_seq p (.inr rfl) ho hc hd (λh' c' kp e=>fin cV r' hz h' c' kp e) (by simp only[aK]<;>omega)
def fK:gN X (.type "tuple") (λxs H Q=>∃p ys,xs=[.ref p]/\((cQ X.K H p ys/\∀l,H l=none->Q (.ref l) (upd H l (.tup ys)))\/(bZ X.K H p ys/\Q (.ref p) H))):=by
 intro ac s Z H xs us Q I r h
 obtain⟨p,ys,rfl,h⟩:=h
 obtain⟨u,rfl,rx⟩:=AB r
 cases rx
 rcases h with⟨hq,q⟩|⟨hq,q⟩
 .obtain⟨cV,r',pl,hz⟩:=I.list hq
  have hlen:=r'.length
  refine call_tuple_list pl.isList (λh' kp=>?_) (by simp only[aK]<;>omega)
  have I1:Inv X ac Z H {s with heap:=h'}:=I.kept (t':=s.toks) kp
  have I2:Inv X ac Z (upd H h'.objs.size (.tup ys)) {s with heap:=h'.push {cls:=.type "tuple",data:=.seq cV.toArray}}:=
   I1.laid (t':=s.toks) (λb o e=>af _ e) (av _) (show gf X.prog X.w _ _ _ (.tup ys) from⟨hz,cV,r',vJ.new _ _⟩)
  exact⟨.ref h'.objs.size,_,I2,rfl,q _ (I1.eN.fresh (av _))⟩
 .obtain⟨cV,r',pl,hz⟩:=I.tuple hq
  exact call_tuple_same pl ⟨.ref p,H,I,rfl,q⟩
def Yo (K:Φ) (T:String) (x:V) (H:Hp):Prop:=match x with
 | .str _=>T="str"
 | .int _=>T="int"
 | .ref p=>(T="list"/\∃xs,cQ K H p xs)\/(T="tuple"/\∃o,K.lookup p=some o/\o.cls=.type "tuple"/\o.dict=none)\/
   (T="dict"/\((∃dW,H p=some (.dK dW))\/∃dW,H p=some (.dT dW)))\/(T="set"/\∃S n,H p=some (.set S n))
 |_=>False
def IH (I:Inv X ac Z H s) (r:RelV x v) (ty:Yo X.K T x H):
  s.TypeIs v T/\∀a,v=.ref a->∃ob,s.heap.get? a=some ob/\ob.dict=none:=by
 cases x with
 |str z=>
  obtain⟨t,rfl⟩:=r
  cases(show T="str" from ty)
  exact⟨typeIs_str s z t,λ_ e=>nomatch e⟩
 |int i=>
  obtain⟨t,rfl⟩:=r
  cases(show T="int" from ty)
  exact⟨typeIs_int s i t,λ_ e=>nomatch e⟩
 |ref p=>
  cases r
  rcases ty with⟨rfl,xs,hq⟩|⟨rfl,o,hk,hc,hd⟩|⟨rfl,hk⟩|⟨rfl,S,n,hk⟩
  .obtain⟨cV,_,pl,_⟩:=I.list hq
   refine⟨pl.isList.typeIs,λa e=>?_⟩
   cases e
   obtain⟨o,n,e,c,hd,_⟩:=pl
   exact⟨o,e,hd⟩
  .refine⟨⟨o,I.lK p o hk,hc⟩,λa e=>?_⟩
   cases e
   exact⟨o,I.lK _ o hk,hd⟩
  .have z:∃o,s.heap.get? p=some o/\o.ExactDict:=by
    rcases hk with⟨dW,hk⟩|⟨dW,hk⟩
    .obtain⟨_,_,_,_,o,_,_,e,ex,_⟩:=I.eN p _ hk
     exact⟨o,e,ex⟩
    .obtain⟨_,_,_,_,o,_,_,e,ex,_⟩:=I.eN p _ hk
     exact⟨o,e,ex⟩
   obtain⟨o,e,ex⟩:=z
   refine⟨⟨o,e,ex.1⟩,λa e2=>?_⟩
   cases e2
   exact⟨o,e,ex.2.1⟩
  .obtain⟨o,_,_,_,e,ex,_⟩:=I.eN p _ hk
   refine⟨⟨o,e,ex.1⟩,λa e2=>?_⟩
   cases e2
   exact⟨o,e,ex.2.1⟩
 |_=>exact False.elim ty
def Yp (K:Φ) (T:String) (r:V->List V->Hp->VK->Prop) (to:TE):TE:=λZ H Q=>to Z H λx H1=>Yo K T x H1/\r x [] H1 Q
def tBM (K:Φ) (T:String) (r:V->List V->Hp->VK->Prop) (to:TE) (t:TA):TE:=λZ H Q=>to Z H λx H1=>Yo K T x H1/\t Z H1 λxs H2=>r x xs H2 Q
variable {o e:Expr}{es:List Expr}{to:TE}{t:TA}{name:Str}{apos kh:Pos}{T id:String}{r:V->List V->Hp->VK->Prop}
def zB (pa:PlainAttrs T) (slot:Slot T name id) (Yq:typeOf (.builtin id)=pure (.type "method_descriptor")) (hm:Yn X id r) (ho:PE X o to)
  (AO:attributeBase o name X.env (eval o X.env)=eval o X.env:=by rfl) (II:(apos.endLine==kh.line)=true:=by rfl):PE X (.Call (.Attribute o name apos) [] [] kh) (Yp X.K T r to):=by
 intro ac s Z H Q I h
 refine wpAny_Call_method0_late AO II (fE (ho ac s Z H _ I h) λv s1 c_=>?_)
 obtain⟨x,H1,I1,r1,ty,q1⟩:=c_
 obtain⟨h1,h2⟩:=IH I1 r1 ty
 exact⟨T,id,pa,slot,Yq,h1,h2,zi rfl (PySem.evalArgs_none (hm ac s1 Z H1 x [] v [] Q I1 r1 .nil q1))⟩
def rX (pa:PlainAttrs T) (slot:Slot T name id) (Yq:typeOf (.builtin id)=pure (.type "method_descriptor")) (hm:Yn X id r) (ho:PE X o to) (ha:PA X (e::es) t)
  (AO:attributeBase o name X.env (eval o X.env)=eval o X.env:=by rfl)
  (Yr:((backTo kh (starEach (e::es) X.env)).all (λx=>!x.1)&&(backToKw kh (keywordEach [] X.env)).all (λx=>x.1.isSome)
   &&decide ((e::es).length+([]:List Keyword).length+(if([]:List Keyword).isEmpty then 0 else 1)<30))=true:=by rfl)
  (II:(apos.endLine==kh.line)=true:=by rfl) (hs:starEach (e::es) X.env=(false,eval e X.env)::starEach es X.env:=by rfl) (PL:(backTo kh (starEach es X.env)).any (·.1)=false:=by rfl):
  PE X (.Call (.Attribute o name apos) (e::es) [] kh) (tBM X.K T r to t):=by
 intro ac s Z H Q I h
 refine wpAny_Call_method_late AO Yr II rfl (fE (ho ac s Z H _ I h) λv s1 c_=>?_)
 obtain⟨x,H1,I1,r1,ty,q1⟩:=c_
 obtain⟨h1,h2⟩:=IH I1 r1 ty
 refine⟨T,id,pa,slot,Yq,h1,h2,?_⟩
 have hA:=ha kh ac s1 Z H1 _ I1 q1
 rw[hs] at hA⊢
 refine zi (by show(false||(backTo kh (starEach es X.env)).any (·.1))=false;rw[PL]<;>rfl) (B_ ?_)
 refine fE hA λus s2 c_=>?_
 obtain⟨vs,H2,I2,r2,q2⟩:=c_
 exact hm ac s2 Z H2 x vs v us Q I2 r1 r2 q2
end
def T6 (X:Cx) (id:String) (r:V->List V->Hp->VK->Prop):Prop:=
 ∀(ac:List (ai×Obj)) (s:ak) (Z:St) (H:Hp) (x:V) (xs:List V) (v:ag) (us:List ag) (Q:VK),Inv X ac Z H s->RelV x v->cK xs us->r x xs H Q->
  wpAny (model X.prog X.w) X.A (call (.builtin id) (v::us)) (EP X ac Z Q) X.xe s
def cK.one (h:cK [x] us):∃u,us=[u]/\RelV x u:=by
 cases h with
 |cons r t=>cases t;exact⟨_,rfl,r⟩
def cK.two (h:cK [x,y] us):∃u v,us=[u,v]/\RelV x u/\RelV y v:=by
 cases h with
 |cons r t=>cases t with
  |cons q t=>cases t;exact⟨_,_,rfl,r,q⟩
def cK.zero:∀{us:List ag},cK [] us->us=[]
 |_,.nil=>rfl
def cK.dropLast (h:cK xs us):cK xs.dropLast us.dropLast:=by
 induction h with
 |nil=>exact .nil
 |cons r t ih=>
  cases t with
  |nil=>exact .nil
  |cons q t'=>exact .cons r ih
def CQ {α:Type}(l:List α):l.eraseIdx (l.length-1)=l.dropLast:=by
 induction l with
 |nil=>rfl
 |cons a r ih=>
  cases r with
  |nil=>rfl
  |cons b r=>
   have e:(a::b::r).length-1=((b::r).length-1)+1:=rfl
   rw[e,List.eraseIdx_cons_succ,ih]
   all_goals rfl
section
variable {X:Cx}{ac:List (ai×Obj)}{Z:St}{H:Hp}{s:ak}{l b:ai}{xs ys zs:List V}
def Inv.IJ {cV its':List ag} (I:Inv X ac Z H s) (hH:H l=some (.lst xs))
  (e:s.heap.get? l=some {cls:=.type "list",data:=.seq cV.toArray n}) (hf:f cV.toArray=its'.toArray) (hv:cK ys its') (hz:ys.length<=sizeLine):
  Inv X ac Z (upd H l (.lst ys)) {s with heap:=s.heap.update l (Obj.mapSeq f),toks:=t'}:=by
 have q:=PySem.IsL.update e f
 rw[hf] at q
 refine I.write (x:=l) (e:=l) (by rw[hH];exact trivial) (.inl rfl) (λb' u hb hu=>(ba s.heap (Obj.mapSeq f) (cG hb)).trans hu) ⟨_,q⟩ ?_
 exact⟨hz,its',_,hv,q⟩
def Inv.Ys (I:Inv X ac Z H s) (hv:cK ys cV) (hz:ys.length<=sizeLine):
  Inv X ac Z (upd H s.heap.objs.size (.lst ys)) {s with heap:=s.heap.push {cls:=.type "list",data:=.seq cV.toArray},toks:=t'}:=
 I.laid (λ_ _ q=>af _ q) (av _) ⟨hz,cV,0,hv,az _ rfl⟩
def Inv.fresh (I:Inv X ac Z H s):H s.heap.objs.size=none:=I.eN.fresh (av _)
def Inv.AQ (I:Inv X ac Z H s) (hH:H l=some (.lst xs)):xs.length<=sizeLine/\∃(cV:List ag) (n:Nat),cK xs cV/\xs.length=cV.length/\s.heap.get? l=some {cls:=.type "list",data:=.seq cV.toArray n}:=by
 obtain⟨z,cV,n,r,e⟩:=I.eN l _ hH
 exact⟨z,cV,n,r,r.length,e⟩
def IL (h:n<=sizeLine):Builtin.List.listTooLong n=false:=by
 unfold Builtin.List.listTooLong
 exact bE ω
end
section
variable {X:Cx}
def LV:V->List V->Hp->VK->Prop:=λx vs H Q=>∃l xs y,x=.ref l/\vs=[y]/\H l=some (.lst xs)/\xs.length<sizeLine/\Q .eU (upd H l (.lst (xs++ [y])))
def hZ:T6 X "list.append" LV:=by
 intro ac s Z H x vs v us Q I rx rv h
 obtain⟨l,xs,y,rfl,rfl,hH,hz,q⟩:=h
 cases rx
 obtain⟨u,rfl,ru⟩:=rv.one
 obtain⟨z,cV,n,r,hl,e⟩:=I.AQ hH
 refine Ia F.slot_list_append ⟨_,e,rfl⟩ F.entry_list_append (F.args_list_append_2 _ _) (PySem.list_append l cV.toArray n u (by rw[aK];omega)) ⟨e,?_⟩
 refine⟨.eU,_,I.IJ (its':=cV++ [u]) hH e ς (r.append (.cons ru .nil)) ?_,rfl,q⟩
 rw[aQ,aN]
 omega
def LW:V->List V->Hp->VK->Prop:=λx vs H Q=>∃l b xs zs,x=.ref l/\vs=[.ref b]/\H l=some (.lst xs)/\H b=some (.lst zs)/\xs.length+zs.length<=sizeLine/\Q .eU (upd H l (.lst (xs++zs)))
def Sz:T6 X "list.extend" LW:=by
 intro ac s Z H x vs v us Q I rx rv h
 obtain⟨l,b,xs,zs,rfl,rfl,hH,hB,hz,q⟩:=h
 cases rx
 obtain⟨u,rfl,ru⟩:=rv.one
 cases ru
 obtain⟨z,cV,n,r,hl,e⟩:=I.AQ hH
 obtain⟨z2,mj,n2,r2,nS,e2⟩:=I.AQ hB
 have hsz:cV.toArray.size+mj.toArray.size<=sizeLine:=by rw[aK,aK];omega
 have T_:¬(!cV.toArray.isEmpty&&Builtin.List.listTooLong (cV.toArray.size+mj.toArray.size))=true:=by
  rw[IL hsz,fj]
  exact bM
 refine Ia F.slot_list_extend ⟨_,e,rfl⟩ F.entry_list_extend (F.args_list_extend_2 _ _)
  (AutoSeq1.list_extend_list_list_0 l cV.toArray n b mj.toArray n2 T_ (by rw[aK];omega) ω) ⟨e,e2,?_⟩
 refine⟨.eU,_,I.IJ (its':=cV++mj) hH e ς (r.append r2) ?_,rfl,q⟩
 rw[aQ]
 omega
def Yt:V->List V->Hp->VK->Prop:=λx vs H Q=>∃l xs y,x=.ref l/\vs=[]/\H l=some (.lst xs)/\xs[xs.length-1]?=some y/\Q y (upd H l (.lst xs.dropLast))
def CS:T6 X "list.pop" Yt:=by
 intro ac s Z H x vs v us Q I rx rv h
 obtain⟨l,xs,y,rfl,rfl,hH,hy,q⟩:=h
 cases rx
 have Yu:=rv.zero
 subst Yu
 obtain⟨z,cV,n,r,hl,e⟩:=I.AQ hH
 obtain⟨u,hu,ru⟩:=r.get hy
 have Yv:cV.toArray[cV.toArray.size-1]?=some u:=by
  show cV.toArray[cV.length-1]?=some u
  rw[<-Array.getElem?_toList,<-hl]
  exact hu
 refine Ia F.slot_list_pop ⟨_,e,rfl⟩ F.entry_list_pop (F.args_list_pop_1 _) (MeetsSeq.list_pop_last l cV.toArray n u Yv (by rw[aK];omega)) ⟨e,?_⟩
 refine⟨y,_,I.IJ (its':=cV.dropLast) hH e ?_ r.dropLast ?_,ru,q⟩
 .show cV.toArray.eraseIdxIfInBounds (cV.toArray.size-1)=cV.dropLast.toArray
  rw[aK,List.eraseIdxIfInBounds_toArray,CQ]
 .rw[List.length_dropLast]
  omega
def PM:V->List V->Hp->VK->Prop:=λx vs H Q=>∃l xs,x=.ref l/\vs=[]/\H l=some (.lst xs)/\Q .eU (upd H l (.lst []))
def IM:T6 X "list.clear" PM:=by
 intro ac s Z H x vs v us Q I rx rv h
 obtain⟨l,xs,rfl,rfl,hH,q⟩:=h
 cases rx
 have Yu:=rv.zero
 subst Yu
 obtain⟨z,cV,n,r,hl,e⟩:=I.AQ hH
 refine Ia F.slot_list_clear ⟨_,e,rfl⟩ F.entry_list_clear (F.args_list_clear_1 _) (AutoSeq1.list_clear_list_0 l cV.toArray n (by rw[aK];omega)) ⟨e,?_⟩
 exact⟨.eU,_,I.IJ (its':=[]) (ys:=[]) hH e rfl .nil (dz _),rfl,q⟩
def Yw:R2:=λx y H Q=>∃l b xs zs,x=.ref l/\y=.ref b/\H l=some (.lst xs)/\H b=some (.lst zs)/\xs.length+zs.length<=sizeLine/\∀p,H p=none->Q (.ref p) (upd H p (.lst (xs++zs)))
def mT:lP X (binaryOp .Add) Yw:=by
 intro ac s Z H x y v u Q I rx ry h
 obtain⟨l,b,xs,zs,rfl,rfl,hH,hB,hz,q⟩:=h
 cases rx
 cases ry
 obtain⟨z,cV,n,r,hl,e⟩:=I.AQ hH
 obtain⟨z2,mj,n2,r2,nS,e2⟩:=I.AQ hB
 refine PySem.P.add_list e e2 ?_ (by rw[aK,aK];omega)
 have ea:cV.toArray++mj.toArray=(cV++mj).toArray:=ς
 rw[ea]
 exact⟨.ref _,_,I.Ys (t':=s.toks) (r.append r2) (by rw[aQ];omega),rfl,q _ I.fresh⟩
end
section
variable {prog:aJ}{w:bB}{A:bH}{E:ag->ak->Prop}{s:ak}
end
section
variable {X:Cx}
end
end L2
namespace Att
open PySem PySem.W PySem.Calls PyProof.Rows
def uT:∀(ns:List Int) (vs:List ag),WellAll P h vs (ns.map WData.int)->IntsAre vs ns:=by
 intro ns
 induction ns with
 |nil=>
  intro vs w
  rw[pd] at w
  cases w
  exact .nil
 |cons n ns ih=>
  intro vs w
  rw[bQ] at w
  cases w with
  |cons a b=>
   cases a
   exact .cons _ _ (ih _ b)
def Gs {l:OpenLaw}(hn:l.most=some n)
  (LX:l.row.toRowW.claim.pre args=true) (Yx:WellAll P h vals args):
  ∃a vs ns,vals=[Value.ref a]/\args=[WData.list (ns.map WData.int)]/\h.get? a=some {cls:=.type "list",data:=.seq vs.toArray}/\IntsAre vs ns/\ns.length<=n:=by
 have hsh:WShape.hasAll [] args [.list .int]=true:=(pre_splitW LX).1
 have hc:l.pre.holds [] {args:=args}=true:=(pre_splitW LX).2
 obtain⟨d,r,rfl,h1,h2⟩:=hasAllW_cons hsh
 obtain rfl:=hasAllW_nil h2
 obtain⟨xs,rfl,h3⟩:=hasW_list h1
 obtain⟨ns,rfl⟩:=items_int h3
 have hlen:ns.length<=n:=by
  unfold OpenLaw.pre at hc
  have h4:(WTm.not (.lt (.lit (.int (n:Int))) (.len (.arg 0)))).holds [] {args:=[.list (ns.map .int)]}=true:=by
   have h4:=(holds_andW hc).1
   rw[hn] at h4
   exact h4
  have h5:=condW_of h4 (w_not (w_lt w_lit (w_len_list (w_arg rfl))))
  rw[aq] at h5
  refine F2 λq=>?_
  have q':(n:Int)<((ns.length:Nat):Int):=ω
  first
   |(rw[aI q'] at h5;exact absurd h5 δ)
   |(simp at h5;omega)
 cases Yx with
 |cons w1 w2=>
  cases w2
  cases w1 with
  |list ho PN=>exact⟨_,_,ns,rfl,rfl,ho,uT ns _ PN,hlen⟩
def Gu (l:OpenLaw) (args:List WData):l.row.toRowW.claim.post args (.bool true) args=true:=
 postW_of (r:=l.row.toRowW) (X:=(true==true))
  (show WShape.has [] (.bool true) .bool=true by first|rfl|decide|simp[WShape.has,WShape.arms,WShape.armsAll])
  (show(WTm.eq .res (.lit (.bool true))).value [] {args:=args,res:=some (.bool true),after:=args}=some (.bool (true==true)) from w_eq_bool (w_res rfl) w_lit) rfl
def AR {l:OpenLaw}{n:Nat}{q:aJ}{loose:List Str}{XP:(Str->Option ag)->Heap->Prop}{YP:bB->Heap->Prop}{d:DefRec}
  (hn:l.most=some n) (Ua:d.params.defaults=[])
  (call:∀(w:bB) (gW fq:ak) (mg mb:Str->Option ag) (fa:ai) (o:Obj) (pm cd doc:ag) (a:ai) (vs:List ag) (ns:List Int),
   Ground q loose [] XP w gW mg mb fq.heap->YP w fq.heap->
   fq.heap.get? fa=some o->o.data=.func (docDef d.name d.params d.body d.scope pm cd doc)->fq.heap.CodeRec cd d.name->mg d.name=some (.ref fa)->
   fq.heap.get? a=some {cls:=.type "list",data:=.seq vs.toArray}->IntsAre vs ns->ns.length<=n->fq.gens=#[]->
   codeAny (model l.prog w) callerA (.call (.ref fa) ⟨[.ref a],[]⟩) (λr s'=>r=.ok (.ret (.bool true))/\OldK fq.heap s'.heap/\s'.os=fq.os/\AllBare s'.gens) fq):
  WalkO q loose XP YP l.row.toRowW d [] (λf vs=>PySem.call f vs):=by
 intro w gW fq mg mb G Y fa o pm cd doc dV kV ho hd Co hD hmg hg args vals as LX aaN hrd Yx hlo
 obtain rfl:dV=.none:=Dflts.none hD Ua
 obtain rfl:kV=.none:=Dflts.noKw hD
 obtain⟨a,vs,ns,rfl,rfl,PQ,hints,hlen⟩:=Gs hn LX Yx
 refine enter_call (lE (call w gW fq mg mb fa o pm cd doc a vs ns G Y ho (fd_plain hd) Co hmg PQ hints hlen hg) λr s' hq=>?_)
 obtain⟨rfl,h2,h3,h4⟩:=hq
 exact⟨.inl ⟨.bool true,.bool true,[],rfl,λ_=>rfl,.bool true,Gu l _,λ_=>⟨List.Pairwise.nil,λ_ hm=>(nomatch hm)⟩⟩,h2,h3,h4⟩
section
variable {prog:aJ}{w:bB}{A:bH}{E:ag->ak->Prop}{s:ak}{K:Φ}
def ledger (h:Heap) (L d:ai):List (ai×Obj):=(List.range h.objs.size).filterMap λa=>if a=L\/a=d then none else(h.get? a).map λo=>(a,o)
end
end Att
namespace L2
open PySem PySem.Spec PyProof.Rows
def yE:∀{vs:List ag}{ns:List Int},IntsAre vs ns->cK (ns.map V.int) vs
 |_,_,.nil=>.nil
 |_,_,.cons n t h=>.cons ⟨t,rfl⟩ (yE h)
def PU (H:Hp):Prop:=∀b,H b=none\/∃o xs,H b=some (.Ck o (.lst xs))
def IP {P:aJ}{w:bB}{K:Φ}{mg mb:Str->Option ag}{CX:HS}{k:Nat}{fa a:ai}{fd:FuncData}{x:Str}{sp:Sp}{fq:ak}{vs:List ag}{ns:List Int}
  (KX:K.In fq.heap) (SA:fq.heap.Ns mainGlobals mg) (hb:fq.heap.Ns builtinsNs mb) (hbb:∀x:Str,x≠"__name__"->mb x=bootBuiltins x) (Yy:fq.heap.NoLimit) (hg:fq.gens=#[])
  (ha:fq.heap.get? a=some {cls:=.type "list",data:=.seq vs.toArray}) (hi:IntsAre vs ns) (hl:ns.length<=sizeLine) (hr:eB k callerA)
  (F:∀base:Heap,K.In base->base.Ns mainGlobals mg->dR P w K mg base CX k fa fd [x] sp) (hbind:∀(s:ak) (u:ag),BindsTo s fd ⟨[u],[]⟩ [(x,u)])
  (Gp:∀H:Hp,PU H->cQ K H a (ns.map V.int)->sp [.ref a] H (λv _=>v=.bl true) λ_ _ _=>False)
  (hCX:∀H e s',CX [] H fq (λ_ _ _=>False) e s'->False):
  codeAny (model P w) callerA (.call (.ref fa) ⟨[.ref a],[]⟩) (λr s'=>r=.ok (.ret (.bool true))/\OldK fq.heap s'.heap/\s'.os=fq.os/\AllBare s'.gens) fq:=by
 have rv:=yE hi
 have Yz:=hi.length
 --from an abstract heap in aaJ nothing but W5 PV may be tracked
 have core:∀H:Hp,PU H->cQ K H a (ns.map V.int)->qB P w H fq.heap->(∀b,H b≠none->b=a)->(H a≠none->K.lookup a=none)->
   codeAny (model P w) callerA (.call (.ref fa) ⟨[.ref a],[]⟩) (λr s'=>r=.ok (.ret (.bool true))/\OldK fq.heap s'.heap/\s'.os=fq.os/\AllBare s'.gens) fq:=by
  intro H hO hS eN hA hK
  have E7:∀{b:ai} {o:Obj},fq.heap.get? b=some o->H b=none->(zq fq.heap H).get? b=some o:=λe n=>Ig e n
  have TU:∀{b:ai} {o:Obj} {es:Array DictEntry} {ep:Nat},fq.heap.get? b=some o->o.data=.dict es ep->H b=none:=λ{b o es ep} e d=>by
   cases q:H b with
   |none=>rfl
   |some u=>
    have e':b=a:=hA b (by rw[q];simp)
    subst e'
    rw[ha] at e;cases e
    have d':Data.seq vs.toArray _=Data.dict es ep:=d
    cases d'
  have Xa:∀{b:ai} {m:Str->Option ag},fq.heap.Ns b m->(zq fq.heap H).Ns b m:=λ{b m} ⟨o,es,ep,e,d,r⟩=>⟨o,es,ep,E7 e (TU e d),d,r⟩
  have hKb:K.In (zq fq.heap H):=λb o e=>E7 (KX b o e) (by
   cases q:H b with
   |none=>rfl
   |some u=>
    have e':b=a:=hA b (by rw[q];simp)
    subst e'
    rw[hK (by rw[q];simp)] at e;cases e)
  have hM:Mod K mg (zq fq.heap H):=⟨hKb,Xa SA,⟨mb,Xa hb,hbb⟩,let⟨mc,h1,h2⟩:=Yy;⟨mc,Xa h1,h2⟩⟩
  have e0:uS P w K mg (zq fq.heap H) callerA [] fq H:=⟨rfl,hM,λb o e=>LC e,fw (Gb _ _),trivial,λb hb=>absurd (show b∈([]:List ai) from hb) ς,eN,.of_eq hg⟩
  refine lE ((F _ hKb (Xa SA)).run callerA [] fq H ⟨[.ref a],[]⟩ [.ref a] [.ref a] _ _ hr e0 (hbind fq (.ref a)) (.cons rfl .nil) (Gp H hO hS)) λr s' h=>?_
  cases r with
  |error e=>exact(hCX H e s' h).elim
  |ok fl=>
   cases fl with
   |next=>exact False.elim h
   |brk=>exact False.elim h
   |cont=>exact False.elim h
   |ret u=>
    obtain⟨v,H',os,bare,un,YA,r',q⟩:=h
    have q':v=.bl true:=q
    subst q'
    obtain rfl:u=Value.bool true:=r'
    refine⟨rfl,OldK.of_keep λb o e=>?_,os,bare⟩
    cases q:H b with
    |none=>exact un.keep b o e q (by intro z;exact absurd (show b∈([]:List ai) from z) ς) ς
    |some u=>
     rcases hO b with z|⟨ob,xs,z⟩
     .rw[q] at z;cases z
     .have z2:=un.pq b ob _ z
      obtain⟨e1,_⟩:=eN b _ z
      obtain⟨e2,_⟩:=YA b _ z2
      rw[e] at e1;cases e1
      exact e2
 cases hk:K.lookup a with
 |some o=>
  --W5 PV is one of W5 Ub own objects
  have e:=KX a o hk
  rw[ha] at e
  cases e
  refine core (λ_=>none) (λ_=>.inl rfl) (.inr ⟨_,vs.toArray,_,hk,rfl,rfl,rfl,by rw[aK,Yz];exact hl,by simpa using rv⟩) (λb u z=>by have z':(none:Option HO)=some u:=z;cases z') (λb z=>absurd rfl z) λz=>absurd rfl z
 |none=>
  refine core (λb=>if b=a then some (.Ck {cls:=.type "list",data:=.seq vs.toArray} (.lst (ns.map V.int))) else none) (λb=>?_) (.inl (.inr ⟨{cls:=.type "list",data:=.seq vs.toArray},aT rfl⟩)) (λb u z=>?_) (λb z=>?_) λ_=>hk
  .by_cases hb:b=a
   .exact .inr ⟨_,_,aT hb⟩
   .exact .inl (aP hb)
  .by_cases hb:b=a
   .have z':=(aT hb).symm.trans z
    cases z'
    subst hb
    exact⟨ha,by rw[aq];exact hl,vs,_,rv,ha⟩
   .have z':=(aP hb).symm.trans z
    cases z'
  .by_cases hb:b=a
   .exact hb
   .exact absurd (aP hb) z
def LY {l:PySem.W.OpenLaw}{n k:Nat}{q:aJ}{loose:List Str}{XP:(Str->Option ag)->Heap->Prop}{YP:bB->Heap->Prop}{d:DefRec}{K:Params->Φ}{CX:bB->HS}{sp:bB->Sp}{x:Str}
  (hn:l.most=some n) (Ld:n<=sizeLine) (Ua:d.params.defaults=[]) (hr:eB k callerA)
  (hY:∀(w:bB) (h:Heap),YP w h->(K w.params).In h)
  (F:∀(w:bB) (mg:Str->Option ag) (fa:ai) (h:Heap),(K w.params).In h->h.Ns mainGlobals mg->mg d.name=some (.ref fa)->
   ∃fd:FuncData,(∀(s:ak) (u:ag),BindsTo s fd ⟨[u],[]⟩ [(x,u)])/\
    ∀base:Heap,(K w.params).In base->base.Ns mainGlobals mg->dR l.prog w (K w.params) mg base (CX w) k fa fd [x] (sp w))
  (Gp:∀(w:bB) (H:Hp) (a:ai) (ns:List Int),ns.length<=n->PU H->cQ (K w.params) H a (ns.map V.int)->sp w [.ref a] H (λv _=>v=.bl true) λ_ _ _=>False)
  (hCX:∀(w:bB) (H:Hp) (s:ak) (e:ag) (s':ak),CX w [] H s (λ_ _ _=>False) e s'->False):
  PySem.W.WalkO q loose XP YP l.row.toRowW d [] (λf vs=>PySem.call f vs):=by
 refine Att.AR hn Ua λw gW fq mg mb fa o pm cd doc a vs ns G Y ho hd Co hmg PQ hints hlen hg=>?_
 have KX:=hY w _ Y
 obtain⟨fd,hb,hF⟩:=F w mg fa _ KX G.T.g hmg
 exact IP KX G.T.g G.T.b G.T.builtins G.T.nolimit hg PQ hints (aA hlen Ld) hr hF hb (λH hO hS=>Gp w H a ns hlen hO hS) λH e s'=>hCX w H fq e s'
end L2
namespace L2
open PySem PySem.Spec PyProof.Rows
def jM (s:Stmt):Arguments:=match s with
 | .FunctionDef _ a _ _ _ _ _ _ _ _=>a
 |_=>{posonlyargs:=[],args:=[],vararg:=none,kwonlyargs:=[],kw_defaults:=[],kwarg:=none,defaults:=[]}
def fL (s:Stmt):List Stmt:=match s with
 | .FunctionDef _ _ b _ _ _ _ _ _ _=>b
 |_=>[]
def ar (s:Stmt):Scope:=match s with
 | .FunctionDef _ _ _ _ _ _ sc _ _ _=>sc
 |_=>{kind:=.function,names:=[],isGenerator:=false,isCoroutine:=false}
abbrev fN:HS:=λ_ _ _ _ _ _=>False
abbrev E0:XK:=λ_ _ _=>False
def AS:mS fN X E0:=λ_ _ _ _ _ _ _ h=>h.elim
structure jg (K:Φ) (x qual:Str) (st:Stmt) (f:ai) (fd:FuncData):Prop where
 ex:∃(oc:ag) (od:Option ai) (kV doc pm:ag) (an:Option ai) (cdv ct:ag) (vR:Array (Option ag)),
  fd=PySem.W.fnOf x qual (jM st) (fL st) (ar st) .none kV doc pm an cdv ct/\K.lookup f=some ⟨oc,od,.func fd,vR⟩/\PySem.W.codeIn K cdv qual=true
 kp:PySem.W.keepIn K (.ref f)=true
section
variable {P:aJ}{w:bB}{K:Φ}{mg:Str->Option ag}{base:Heap}
def jg.ok {x qual:Str}{st:Stmt}{f:ai}{fd:FuncData}{N ps:List Str}{k:Nat}{sp:Sp}(F:jg K x qual st f fd) (S:bY N ps (ar st)) (len:∀vs H Q E,sp vs H Q E->vs.length=ps.length)
  (vS:∀(cdv:ag) (A:bH) (outer:List Env) (s:ak) (H:Hp) (vs:List V) (Q:VK) (E:XK),eB k (A.deeper (envOfC qual (ar st) s.heap.objs.size f cdv))->sp vs H Q E->
   ∃t,xU (eQ fN P w K mg base N qual (ar st) f cdv A outer s H E).kz (fL st) t/\t {nx:=λ_ H'=>Q .eU H',rt:=Q} (start N vs) H):dR P w K mg base fN (k+1) f fd ps sp:=by
 obtain⟨oc,od,kV,doc,pm,an,cdv,ct,vR,rfl,lk,Co⟩:=F.ex
 refine NY lk Co S len λA outer s H vs Q E hr Gp=>?_
 obtain⟨t,h,q⟩:=vS cdv A outer s H vs Q E hr Gp
 exact⟨t,h.kz,q⟩
def jg.binds {x qual:Str}{st:Stmt}{f:ai}{fd:FuncData}{ps:List Str}(F:jg K x qual st f fd)
  (h:∀(kV doc pm:ag) (an:Option ai) (cdv ct:ag) (us:List ag),us.length=ps.length->bindArgs (PySem.W.fnOf x qual (jM st) (fL st) (ar st) .none kV doc pm an cdv ct) ⟨us,[]⟩=pure (ps.zip us)):Binds K fd ps []:=by
 obtain⟨oc,od,kV,doc,pm,an,cdv,ct,vR,rfl,lk,Co⟩:=F.ex
 exact .all (h kV doc pm an cdv ct)
def CV {st:Stmt} {kV doc pm cdv ct:ag}(l:K.lookup f=some ⟨oc,od,.func (PySem.W.fnOf x qual (jM st) (fL st) (ar st) .none kV doc pm an cdv ct),vR⟩)
  (c:PySem.W.codeIn K cdv qual=true) (k:PySem.W.keepIn K (.ref f)=true):jg K x qual st f (PySem.W.fnOf x qual (jM st) (fL st) (ar st) .none kV doc pm an cdv ct):=⟨⟨oc,od,kV,doc,pm,an,cdv,ct,vR,rfl,l,c⟩,k⟩
end
def eF (h:n<=1000):n<sizeLine:=bf h δ
section
variable {X:Cx}
def pv (i:Nat) (hN:X.N[i]?=some x:=by rfl) (hv:WX X.env.scope x:=by first|exact Or.inl rfl|exact Or.inr (Or.inl rfl)|exact Or.inr (Or.inr rfl)) (hd:(x==("__debug__":Str))=false:=by decide)
  (Co:(x==("__classdict__":Str))=false:=by decide):PE X (.Name x pos) (cj i):=Pm hN hv hd Co
end
def qO {A B:Prop}(h:A):if true=true then A else B:=by
 rw[aT rfl]
 exact h
def eY {c A B:Prop} [Decidable c] (h1:c->A) (h2:¬c->B):if c then A else B:=by
 by_cases h:c
 .rw[aT h]
  exact h1 h
 .rw[aP h]
  exact h2 h
def bg (H H':Hp):Prop:=∀b o,H b=some o->H' b=some o
def bg.refl (H:Hp):bg H H:=λ_ _ h=>h
def bg.trans (a:bg H H1) (b:bg H1 H2):bg H H2:=λc o h=>b c o (a c o h)
def bg.seq {K:Φ} (e:bg H H') (h:cQ K H a xs):cQ K H' a xs:=by
 rcases h with(h|⟨o,h⟩)|h
 .exact .inl (.inl (e _ _ h))
 .exact .inl (.inr ⟨o,e _ _ h⟩)
 .exact .inr h
def kA (env:Env):List (Str×NameKind)->List (Str×ai)->List (Str×ai)
 | [],acc=>acc
 |(n,k)::r,acc=>kA env r (if k== .free then(match env.cells.lookup n with|some c=>(n,c)::acc|none=>acc) else acc)
abbrev om (scope:Scope) (env:Env):List (Str×ai):=kA env scope.names []
def qP
  (hg:∀n k cs,g (n,k) cs=if(k==NameKind.free)=true then(cellOf env n>>=λc=>pure (ForInStep.yield ((n,c)::cs))) else pure (ForInStep.yield cs)):
  ∀(names:List (Str×NameKind)) (acc:List (Str×ai)),(∀y∈names,y.2=.free->∃c,env.cells.lookup y.1=some c)->forIn names acc g=pure (kA env names acc)
 | [],acc,_=>rfl
 |(n,k)::r,acc,h=>by
  rw[oU,hg]
  have hr:∀y∈r,y.2=.free->∃c,env.cells.lookup y.1=some c:=λy hy=>h y (cB _ hy)
  unfold kA
  by_cases hk:(k==NameKind.free)=true
  .rw[aT hk,aT hk]
   obtain⟨c,hc⟩:=h (n,k) cy (by simpa using hk)
   have xF:env.cells.lookup n=some c:=hc
   have e:cellOf env n=pure c:=by unfold cellOf;rw[xF]
   rw[e,pure_bind,pure_bind,xF]
   exact qP hg r _ hr
  .rw[aP hk,aP hk,pure_bind]
   exact qP hg r _ hr
def mU (h:∀y∈scope.names,y.2=.free->∃c,env.cells.lookup y.1=some c):closureFor scope env=pure (om scope env):=by
 unfold closureFor
 dsimp only
 rw[qP (env:=env) (λn k cs=>by
  show(if(k==NameKind.free)=true then _ else _)=_
  split
  .rfl
  .rfl) scope.names [] h]
 rfl
def AU:∀(names:List (Str×NameKind)) (acc:List (Str×ai)),(∀y c,acc.lookup y=some c->env.cells.lookup y=some c)->(kA env names acc).lookup x=some c->env.cells.lookup x=some c
 | [],acc,h,e=>h _ _ e
 |(n,k)::r,acc,h,e=>by
  unfold kA at e
  refine AU r _ ?_ e
  intro y d z
  split at z
  .split at z
   .rename_i c' xF
    rw[gL] at z
    cases hy:y==n with
    |true=>
     rw[hy] at z
     have z':c'=d:=cR z
     subst z'
     have:y=n:=by simpa using hy
     rw[this];exact xF
    |false=>rw[hy] at z;exact h _ _ z
   .exact h _ _ z
  .exact h _ _ z
def yF:∀(names:List (Str×NameKind)) (acc:List (Str×ai)),(∃c,acc.lookup x=some c)->∃c,(kA env names acc).lookup x=some c
 | [],acc,h=>h
 |(n,k)::r,acc,h=>by
  unfold kA
  refine yF r _ ?_
  split
  .split
   .rw[gL]
    cases x==n with
    |true=>exact⟨_,rfl⟩
    |false=>exact h
   .exact h
  .exact h
def vT:∀(names:List (Str×NameKind)) (acc:List (Str×ai)),(x,NameKind.free)∈names->(∃c,env.cells.lookup x=some c)->∃c,(kA env names acc).lookup x=some c
 | [],acc,h,_=>nomatch h
 |(n,k)::r,acc,h,hx=>by
  unfold kA
  rcases aD.mp h with e|e
  .cases e
   refine yF r _ ?_
   obtain⟨c,hc⟩:=hx
   rw[aT δ,hc]
   exact⟨c,by rw[gL,F3]⟩
  .exact vT r _ e hx
@[reducible] def Cx.yG (X:Cx) (N:List Str) (scope:Scope) (s:ak) (H:Hp) (fp:List ai):Cx:=
 {X with N:=N,gW:=s,Cm:=H,env:=compEnvC scope (om scope X.env) s.heap.objs.size X.env,outer:=X.stack,stack:=X.stack,ex:=fp,fn:=λ_=>false,pn:=[],xe:=λ_ _=>False}
def pick (Z:St):Option Nat->Option V
 |none=>none
 |some j=>(Z[j]?).join
structure fD (X:Cx) (scope:Scope) (N:List Str) (r:List (Option Nat)):Prop where
 kind:scope.kind=.function
 qQ:∀y∈scope.names,y.2≠.cell
 own:∀y∈scope.names,y.2=.local->scope.names.lookup y.1=some .local
 out:∀y∈scope.names,y.2=.free->X.env.scope.names.lookup y.1=some .cell\/X.env.scope.names.lookup y.1=some .free
 len:r.length=N.length
 free:∀(i j:Nat) (x:Str),r[i]?=some (some j)->N[i]?=some x->X.N[j]?=some x/\(x,NameKind.free)∈scope.names/\scope.names.lookup x=some .free
def oM (hf:∀y,(f y).1=y.1):∀{names:List (Str×NameKind)}{x:Str}{k:NameKind},(names.map f).lookup x=some k->∃k',names.lookup x=some k'/\(f (x,k')).2=k
 | [],_,_,h=>by simp at h
 |(n,k0)::r,x,k,h=>by
  rw[bQ] at h
  have e1:(f (n,k0)).1=n:=hf _
  have e2:f (n,k0)=(n,(f (n,k0)).2):=Prod.ext e1 rfl
  rw[e2,gL] at h
  cases hx:x==n with
  |true=>
   rw[hx] at h
   have YB:x=n:=by simpa using hx
   subst YB
   exact⟨k0,by rw[gL,F3],cR h⟩
  |false=>
   rw[hx] at h
   obtain⟨k',h1,h2⟩:=oM hf h
   exact⟨k',by rw[gL,hx];exact h1,h2⟩
def oN {f:Str×NameKind->Str×NameKind}(hf:∀y,(f y).1=y.1):∀{names:List (Str×NameKind)}{x:Str}{k:NameKind},names.lookup x=some k->(names.map f).lookup x=some (f (x,k)).2
 | [],_,_,h=>by simp at h
 |(n,k0)::r,x,k,h=>by
  rw[bQ]
  have e1:(f (n,k0)).1=n:=hf _
  have e2:f (n,k0)=(n,(f (n,k0)).2):=Prod.ext e1 rfl
  rw[e2,gL]
  rw[gL] at h
  cases hx:x==n with
  |true=>
   rw[hx] at h
   have YB:x=n:=by simpa using hx
   subst YB
   have:k0=k:=cR h
   subst this
   rfl
  |false=>
   rw[hx] at h
   exact oN hf h
def rY {scope:Scope}{env:Env}{x:Str}{k:NameKind}(hc:∀y∈scope.names,y.2≠.cell) (h:(relabel scope env).names.lookup x=some k) (hk:k=.cell\/k=.free):scope.names.lookup x=some .free:=by
 have h':(scope.names.map λ(y:Str×NameKind)=>if(y.2==NameKind.free&&env.scope.kind== .function&&env.kindOf y.1==some .cell)=true then(y.1,NameKind.cell) else y).lookup x=some k:=h
 obtain⟨k',h1,h2⟩:=oM (f:=λy=>if(y.2==NameKind.free&&env.scope.kind== .function&&env.kindOf y.1==some .cell)=true then(y.1,NameKind.cell) else y) (λy=>by split<;>rfl) h'
 dsimp only at h2
 split at h2
 .rename_i z
  have z1:(k'==NameKind.free)=true:=by
   simp only[cN] at z
   exact z.1.1
  have:k'=.free:=by simpa using z1
  rw[this] at h1;exact h1
 .have PY:k'=k:=h2
  subst PY
  rcases hk with rfl|rfl
  .exact absurd rfl (hc _ (gF h1))
  .exact h1
def zC (h:scope.names.lookup x=some .free):(relabel scope env).names.lookup x=some .cell\/(relabel scope env).names.lookup x=some .free:=by
 have q:=oN (f:=λ(y:Str×NameKind)=>if(y.2==NameKind.free&&env.scope.kind== .function&&env.kindOf y.1==some .cell)=true then(y.1,NameKind.cell) else y) (λy=>by split<;>rfl) h
 have q':(relabel scope env).names.lookup x=_:=q
 rw[q']
 dsimp only
 split
 .exact .inl rfl
 .exact .inr rfl
section
variable {X:Cx}
def N0 (X:Cx) (ifs:List Expr) (t:TT):Prop:=
 ∀(ac:List (ai×Obj)) (s:ak) (Z:St) (H:Hp) (Q:Bool->Hp->Prop),Inv X ac Z H s->t Z H Q->
  wpAny (model X.prog X.w) X.A (forIn ifs true λc r=>if r=true then do let ok<-isTrue c X.env (eval c X.env);pure (ForInStep.yield ok) else pure (ForInStep.yield r)) (TP X ac Z Q) X.xe s
def pH:TT:=λ_ H Q=>Q true H
def iV:N0 X [] pH:=λac s Z H Q I h=>wpAny_tests_nil ⟨H,I,h⟩
def iw (hc:PT X c t):N0 X [c] t:=λac s Z H Q I h=>wpAny_tests_one (hc ac s Z H Q I h)
def pI (I:Nat->ak->Prop)
  (turn:∀n s,I n s->wpAny (model prog w) A (pyNext it) (λr fq=>match r with
   |none=>R (.ok .next) fq
   |some v=>wpAny (model prog w) A (letOwnedTupleGo target it v) (λ_ fq=>wpAny (model prog w) A (assign target env v) (λ_ tS=>
    wpAny (model prog w) A (forIn ifs true λc r=>if r=true then do let ok<-isTrue c env (eval c env);pure (ForInStep.yield ok) else pure (ForInStep.yield r)) (λok Gv=>
     if ok=true then wpAny (model prog w) A (eval elt env) (λx Uc=>
      wpAny (model prog w) A (call (.builtin "list.append") [acc,x]) (λ_ Ud=>∃m,m<n/\I m Ud) (notedBy (model prog w) A env λe s'=>R (.error e) s') Uc) (notedBy (model prog w) A env λe s'=>R (.error e) s') Gv
     else∃m,m<n/\I m Gv) (notedBy (model prog w) A env λe s'=>R (.error e) s') tS) (notedBy (model prog w) A env λe s'=>R (.error e) s') fq)
    (notedBy (model prog w) A env λe s'=>R (.error e) s') fq) (notedBy (model prog w) A env λe s'=>R (.error e) s') s)
  (n:Nat) (h:I n s):
  codeAny (model prog w) A (.compLoop (.ListComp elt [⟨target,iter,ifs,0⟩] scope pos) 0 it acc env) R s:=by
 refine codeAny_loop rfl I (λn s hI=>?_) n h
 show wpAny _ A ((compTurn (.ListComp elt [⟨target,iter,ifs,0⟩] scope pos) 0 it acc env).onRaise (λx=>do noteFrame x env;theTreesLotGoes x)) _ _ s
 refine wpAny_noted ?_
 rw[compTurn_list]
 refine aa (jX (aa (bF (turn n s hI) (λr fq Gw=>?_) λ_ _ h'=>h')))
 cases r with
 |none=>exact aj Gw
 |some v=>
  refine aa (bF Gw (λ_ aaK Ue=>?_) λ_ _ h'=>h')
  refine aa (bF Ue (λ_ tS IQ=>aa (bF IQ (λok Gv LZ=>?_) λ_ _ h'=>h')) λ_ _ h'=>h')
  cases ok with
  |false=>exact aj ⟨rfl,LZ⟩
  |true=>
   exact aa (aa (bF LZ (λx Uc YC=>aa (bF YC (λ_ Ud YD=>aj (aj ⟨rfl,YD⟩)) λ_ _ h'=>h')) λ_ _ h'=>h'))
def tW {N:List Str}{scope:Scope}{r:List (Option Nat)}{ac:List (ai×Obj)}{Z:St}{H:Hp}{s:ak}{h4:Heap}{tk:Nat}{fp:List ai}(S:fD X scope N r) (I:Inv X ac Z H s) (hf:∀b∈fp,nG X ac H b) (o7:∀b∈fp,b<s.heap.objs.size)
  (SA:h4.Ns s.heap.objs.size (λx=>([]:List (Str×ag)).reverse.lookup x)) (hk:∀b o,s.heap.get? b=some o->h4.get? b=some o):
  Inv (X.yG N scope s H fp) [] (r.map (pick Z)) H {s with heap:=h4,toks:=tk}:=by
 have Gx:∀x c,(om scope X.env).lookup x=some c->X.env.cells.lookup x=some c:=λx c e=>AU scope.names [] (λ_ _ z=>by simp at z) e
 have yH:∀b∈fp,b∉oX X.stack:=λb hb z=>by
  obtain⟨_,f1,f2,_⟩:=hf b hb
  rcases aD.mp (I.tO b z) with e|e
  .exact f1 e
  .exact f2 e
 refine⟨⟨I.ok.mod,S.kind,I.ok.glob,I.ok.blt,av _,λx y c h1 h2=>I.ok.inj x y c (Gx x c h1) (Gx y c h2),λx hx=>?_,λx c z=>absurd z ς,I.ok.hd,I.ok.frames,.inl rfl,
   λb hb=>⟨bj (o7 b hb),λx c e=>(hf b hb).2.2.2.2.1 x c (Gx x c e)⟩,I.bs,aA I.ok.Cn I.sz,λb o e hb=>?_,yH,I.stack,I.zr⟩,
  rfl,I.bare,Un.kept hk,⟨_,SA,λi x v e1 e2 e3=>?_⟩,λx c e=>?_,I.eN.fresh (av _),λx c e=>I.jv x c (Gx x c e),λp hp=>absurd (show p∈([]:List (ai×Obj)) from hp) ς,I.eN.kept hk,?_⟩
 .have Tz:(relabel scope X.env).names.lookup x=some .cell\/(relabel scope X.env).names.lookup x=some .free:=hx
  have EK:scope.names.lookup x=some .free:=by
   rcases Tz with z|z
   .exact rY S.qQ z (.inl rfl)
   .exact rY S.qQ z (.inr rfl)
  have hm:=gF EK
  exact vT scope.names [] hm (I.ok.has x (S.out _ hm rfl))
 .obtain⟨_,_,_,f3,_⟩:=hf b hb
  rcases f3 with z|z
  .exact I.ok.xS b o e z
  .exact absurd (aY (aC (I.ok.bs b o e).1) z) (f_ _)
 .rw[cg] at e2
  cases hr:r[i]? with
  |none=>rw[hr] at e2;cases e2
  |some oj=>
   rw[hr] at e2
   cases oj with
   |none=>cases e2
   |some j=>
    have vU:pick Z (some j)=some v:=cR e2
    obtain⟨k1,k2,k3⟩:=S.free i j x hr e1
    have e4:Z[j]?=some (some v):=by
     have vU:(Z[j]?).join=some v:=vU
     cases hj:Z[j]? with
     |none=>rw[hj] at vU;cases vU
     |some o=>rw[hj] at vU;rw[show o=some v from vU]
    obtain⟨m,hn,hl⟩:=I.loc
    have vis:WX X.env.scope x:=by
     rcases S.out _ k2 rfl with z|z
     .exact .inr (.inl z)
     .exact .inr (.inr z)
    obtain⟨u,ru,lk⟩:=hl j x v k1 e4 vis
    refine⟨u,ru,.inr ⟨zC k3,?_⟩⟩
    rcases lk with⟨z,_⟩|⟨_,c,ec,ic⟩
    .have z':X.env.scope.names.lookup x=some .local:=z
     rcases S.out _ k2 rfl with y|y
     .rw[y] at z';cases z'
     .rw[y] at z';cases z'
    .obtain⟨c',ec'⟩:=vT scope.names [] k2 ⟨c,ec⟩
     have:c'=c:=cR ((Gx x c' ec').symm.trans ec)
     subst this
     exact⟨c',ec',ic.keeps hk⟩
 .obtain⟨v,z⟩:=I.cell x c (Gx x c e)
  exact⟨v,z.keeps hk⟩
 .rw[aq];exact S.len
def zD {N:List Str}{scope:Scope}{ac:List (ai×Obj)}{Z bX:St}{H H0 H':Hp}{s s0 s':ak}{h':Heap}{fp:List ai}(I:Inv X ac Z H s) (hf:∀b∈fp,nG X ac H b)
  (u0:Un (oX X.stack) fp H H0 s.heap s0.heap) (hsz:s.heap.objs.size<=s0.heap.objs.size) (ho:s0.os=s.os) (J:Inv (X.yG N scope s0 H0 fp) [] bX H' s') (hs:Heap.SameBut s0.heap.objs.size s'.heap h'):Inv X ac Z H' {s' with heap:=h'}:=by
 have u:Un (oX X.stack) fp H H' s.heap s'.heap:=u0.trans J.base
 have ne:∀b o,s.heap.get? b=some o->b≠s0.heap.objs.size:=λb o e=>bj (aY (aC e) hsz)
 have hC:H' s0.heap.objs.size=none:=J.free
 refine I.Ii (s':={s' with heap:=h'}) (ch:=fp) (J.os.trans ho) ⟨λb o e n hb hx=>(hs.2 b (ne b o e)).trans (u.keep b o e n hb hx),λb o e n hb hx=>?_,u.free,λb o e hx=>?_,u.nZ,u.pq,u.qz⟩ (λb ob e=>?_) J.bare λb hb=>⟨(hf b hb).2.2.2.1,(hf b hb).2.1,(hf b hb).2.2.2.2.1,(hf b hb).2.2.2.2.2⟩
 .obtain⟨sl,e1⟩:=u.slot b o e n hb hx
  exact⟨sl,(hs.2 b (ne b o e)).trans e1⟩
 .obtain⟨o',e1⟩:=u.there b o e hx
  exact⟨o',(hs.2 b (ne b o e)).trans e1⟩
 .refine(J.eN b ob e).qy (λc w' hc q=>(hs.2 c ?_).trans q) (λ_ q=>q) λ_ _ q=>q
  rintro rfl
  rcases hc with rfl|hc
  .rw[hC] at e;cases e
  .rw[hC] at hc;cases hc
def pK (J:It) (g:TG) (tc:TT) (te:TE) (Gy:St) (H1:Hp) (Q:VK) (D:ai):Prop:=
 ∃W:Nat->Nat->St->Hp->Prop,(∃m,W 0 m Gy (upd H1 D (.lst [])))/\∀i m bX H',W i m bX H'->
  (J.stop i H'/\Q (.ref D) H')\/(J.go i H'/\∃(N:St->Hp->Prop) (M:V->St->Hp->Prop),(∀iI H4,N iI H4->∃m',m'<m/\W (i+1) m' iI H4)/\
   (∀y iI H5,M y iI H5->∃xs m',H5 D=some (.lst xs)/\xs.length<sizeLine/\m'<m/\W (i+1) m' iI (upd H5 D (.lst (xs++ [y]))))/\
   ∀x H2,J.BS i H' x H2->g x bX H2 λiI H3=>tc iI H3 λb H4=>if b=true then te iI H4 λy H5=>M y iI H5 else N iI H4)
def YE (wi:TI) (r:List (Option Nat)) (g:TG) (tc:TT) (te:TE):TE:=λZ H Q=>wi Z H λJ H1=>∀D,H1 D=none->pK J g tc te (r.map (pick Z)) H1 Q D
def kI (hc:X.calm=true) (hi:PI X tg iter wi) (S:fD X scope N r)
  (hg:∀s H fp,PG (X.yG N scope s H fp) tg g) (ht:∀s H fp,N0 (X.yG N scope s H fp) ifs tc) (he:∀s H fp,PE (X.yG N scope s H fp) elt te)
  (hs:∀x,foldedSetIterable iter X.env x=pure x:=by intro _;rfl):PE X (.ListComp elt [⟨tg,iter,ifs,0⟩] scope pos) (YE wi r g tc te):=by
 intro ac s Z H Q I h
 rw[eval_ListComp]
 have IS:closureFor scope X.env=pure (om scope X.env):=mU λy hy hk=>I.ok.has y.1 (S.out y hy hk)
 refine vB (use:=none) rfl hs IS S.kind S.own ?_
 show wpAny _ _ (eval iter X.env) _ _ s
 refine fE (hi ac s Z H _ I h) λv s1 h1=>fE h1 λPq s2 h2=>?_
 obtain⟨it,fp,tn,J,H2,e,I2,T,BU,f2,q2⟩:=h2
 subst e
 have hD:H2 s2.heap.objs.size=none:=I2.eN.fresh (av _)
 obtain⟨W,⟨m0,w0⟩,turn⟩:=q2 _ hD
 have AV:∀b∈fp,b<s2.heap.objs.size:=λb hb=>by
  obtain⟨o,e,_⟩:=T.obj _ _ BU b hb
  exact aC e
 refine bJ ?_
 generalize BV:({s2 with heap:=s2.heap.push {cls:=.type "list",dict:=none,data:=.seq ([]:List ag).toArray}}:ak)=s3
 have k3:∀b o,s2.heap.get? b=some o->s3.heap.get? b=some o:=λb o e=>by rw[<-BV];exact af _ e
 have z3:s3.heap.objs.size=s2.heap.objs.size+1:=by rw[<-BV];exact cu ..
 have u3:Un (oX X.stack) fp H2 (upd H2 s2.heap.objs.size (.lst [])) s2.heap s3.heap:=Un.laid k3 (av _) hD
 have o3:s3.os=s2.os:=by rw[<-BV]
 have I3:Inv X ac Z (upd H2 s2.heap.objs.size (.lst [])) s3:=by
  rw[<-BV]
  exact I2.laid (t':=s2.toks) (λb u e=>af _ e) (av _) ⟨dz _,[],0,.nil,az _ rfl⟩
 have f3:∀b∈fp,nG X ac (upd H2 s2.heap.objs.size (.lst [])) b:=λb hb=>⟨by rw[bb (bj (AV b hb))];exact(f2 b hb).1,(f2 b hb).2⟩
 refine Ca S.qQ (by intro y hy;simp at hy) (λh4 IT IU=>?_) S.kind
 have k4:∀b o,s3.heap.get? b=some o->h4.get? b=some o:=λb o e=>IU.extBut b o (bj (aC e)) (af _ e)
 have J4:Inv (X.yG N scope s3 (upd H2 s2.heap.objs.size (.lst [])) fp) [] (r.map (pick Z)) (upd H2 s2.heap.objs.size (.lst [])) {s3 with heap:=h4,toks:=s3.toks+([]:List (Str×ag)).length}:=
  tW S I3 f3 (λb hb=>by rw[z3];exact ig (AV b hb)) IT k4
 have IV:tn 0 h4:=T.keep _ _ _ BU λb _ o e=>k4 b o (k3 b o e)
 have qL:∀{H':Hp},(∀b∈fp,H' b=none)->∀b∈fp,nG (X.yG N scope s3 (upd H2 s2.heap.objs.size (.lst [])) fp) [] H' b:=λhn b hb=>
  ⟨hn b hb,(J4.ok.Gc b hb).1,J4.ok.uP b hb,.inl hb,(J4.ok.Gc b hb).2,λp hp=>absurd (show p∈([]:List (ai×Obj)) from hp) ς⟩
 generalize hY:X.yG N scope s3 (upd H2 s2.heap.objs.size (.lst [])) fp=Y at*
 have loop:∀s4:ak,s4={s3 with heap:=h4,toks:=s3.toks+([]:List (Str×ag)).length}->
   codeAny (model X.prog X.w) X.A (.compLoop (.ListComp elt [⟨tg,iter,ifs,0⟩] scope pos) 0 (.ref it) (.ref s2.heap.objs.size) Y.env) (compPost (model X.prog X.w) X.A X.xe none (EP X ac Z Q) (.ref s2.heap.objs.size) s3.heap.objs.size) s4:=by
  rintro s4 rfl
  have yp:Y.prog=X.prog:=by rw[<-hY]
  have yw:Y.w=X.w:=by rw[<-hY]
  have yK:Y.K=X.K:=by rw[<-hY]
  have yA:Y.A=X.A:=by rw[<-hY]
  have yc:Y.calm=true:=by rw[<-hY];exact hc
  have Ug:PG Y tg g:=by rw[<-hY];exact hg _ _ _
  have Uh:N0 Y ifs tc:=by rw[<-hY];exact ht _ _ _
  have Ui:PE Y elt te:=by rw[<-hY];exact he _ _ _
  have yx:∀e s',¬Y.xe e s':=λe s' z=>by rw[<-hY] at z;exact z
  refine pI (λn s'=>∃i bX H',Inv Y [] bX H' s'/\tn i s'.heap/\(∀b∈fp,H' b=none)/\W i n bX H') ?_ m0 ⟨0,_,_,J4,IV,λb hb=>(f3 b hb).1,w0⟩
  rintro n s5 ⟨i,E8,H5,I5,HN,Lc,w5⟩
  rcases turn i n E8 H5 w5 with⟨stop,qn⟩|⟨go,Nn,Mm,Uj,Uk,step⟩
  .have d:=T.done Y yp yw yK yc i [] s5 E8 H5 (notedBy (model X.prog X.w) X.A Y.env λe s'=>compPost (model X.prog X.w) X.A X.xe none (EP X ac Z Q) (.ref s2.heap.objs.size) s3.heap.objs.size (.error e) s') I5 (qL Lc) HN stop
   rw[yA] at d
   refine fE d λrr s6 c_=>?_
   obtain⟨hr,I6⟩:=c_
   subst hr
   obtain⟨m,hn,_⟩:=id I6.loc
   refine⟨m,by rw[<-hY] at hn;exact hn,λh' Ul=>⟨.ref s2.heap.objs.size,H5,?_,rfl,qn⟩⟩
   rw[<-hY] at I6
   exact zD I2 f2 u3 (by rw[z3];exact dM _) o3 I6 Ul
  .have d:=T.item Y yp yw yK yc i [] s5 E8 H5 (notedBy (model X.prog X.w) X.A Y.env λe s'=>compPost (model X.prog X.w) X.A X.xe none (EP X ac Z Q) (.ref s2.heap.objs.size) s3.heap.objs.size (.error e) s') I5 (qL Lc) HN go
   rw[yA] at d
   refine fE d λrr s6 c_=>?_
   obtain⟨u,hr,h6⟩:=c_
   subst hr
   refine fE h6 λ_ s7 c_=>?_
   obtain⟨x,H7,I7,r7,y7,IW,Um⟩:=c_
   have Uo:=I7.pinned (qL Um) (T.obj _ _ IW)
   have g7:=Ug _ s7 E8 H7 x u _ Uo r7 (step x H7 y7)
   rw[yp,yw,yA] at g7
   refine bF g7 (λ_ s8 c_=>?_) λe s' z=>(yx e s' z).elim
   obtain⟨yI,H8,I8,q8⟩:=c_
   have t8:=Uh _ s8 yI H8 _ I8 q8
   rw[yp,yw,yA] at t8
   refine bF t8 (λok s9 c_=>?_) λe s' z=>(yx e s' z).elim
   obtain⟨H9,I9,q9⟩:=c_
   have again:∀{s10:ak} {uU:Hp} {m':Nat},Inv Y ([]++qK fp s7.heap) yI uU s10->m'<n->W (i+1) m' yI uU->∃m,m<n/\∃i bX H',Inv Y [] bX H' s10/\tn i s10.heap/\(∀b∈fp,H' b=none)/\W i m bX H':=λ{s10 uU m'} AW hm CW=>by
    refine⟨m',hm,i+1,yI,uU,AW.nI,T.keep _ _ _ IW λb hb o e=>(AW.pin (b,o) (aM _ (aM _ (iJ hb e)))).1,λb hb=>?_,CW⟩
    obtain⟨o,e,d⟩:=T.obj _ _ IW b hb
    exact(AW.pin (b,o) (aM _ (aM _ (iJ hb e)))).2.1
   cases ok with
   |false=>
    rw[aP ς] at q9⊢
    obtain⟨m',hm,w9⟩:=Uj _ _ q9
    exact again I9 hm w9
   |true=>
    rw[aT rfl] at q9⊢
    have e9:=Ui _ s9 yI H9 _ I9 q9
    rw[yp,yw,yA] at e9
    refine bF e9 (λuu s10 c_=>?_) λe s' z=>(yx e s' z).elim
    obtain⟨y,uU,AW,r10,hM⟩:=c_
    obtain⟨xs,m',IY,hz,hm,CW⟩:=Uk _ _ _ hM
    have a10:=hZ _ s10 yI uU (.ref s2.heap.objs.size) [y] (.ref s2.heap.objs.size) [uu] (λv Hq=>v=.eU/\Hq=upd uU s2.heap.objs.size (.lst (xs++ [y]))) AW rfl (.cons r10 .nil) ⟨_,xs,y,rfl,rfl,IY,hz,rfl,rfl⟩
    rw[yp,yw,yA] at a10
    refine bF a10 (λ_ s11 c_=>?_) λe s' z=>(yx e s' z).elim
    obtain⟨_,Xb,Uq,_,_,Ur⟩:=c_
    subst Ur
    exact again Uq hm CW
 have Us:Y.env={scope:=relabel scope X.env,locals:=s3.heap.objs.size,globals:=X.env.globals,cells:=om scope X.env,qual:=X.env.qual,func:=none,code:=X.env.code,frame:=X.env.frame,builtins:=X.env.builtins}:=by rw[<-hY];rfl
 rw[Us] at loop
 exact zj (loop _ rfl) (T.self _ 0 _ _ _ IV (loop _ rfl))
def mB {J:It}{n:Nat}{f:Nat->V}{g:TG}{tc:TT}{te:TE}{Gy:St}{H1:Hp}{Q:VK}{D:ai}(Iv:Nat->List V->St->Hp->Prop) (hD:H1 D=none) (hn:n<=1000)
  (h0:Iv 0 [] Gy (upd H1 D (.lst [])))
  (hj:∀i ys Z H,i<=n->H D=some (.lst ys)->Iv i ys Z H->(i=n->J.stop i H)/\(i<n->J.go i H/\∀x H',J.BS i H x H'->H'=H/\x=f i))
  (hs:∀i ys Z H,i<n->H D=some (.lst ys)->Iv i ys Z H->g (f i) Z H λiI H3=>tc iI H3 λb H4=>
   if b=true then te iI H4 λy H5=>H5 D=some (.lst ys)/\Iv (i+1) (ys++ [y]) iI (upd H5 D (.lst (ys++ [y]))) else H4 D=some (.lst ys)/\Iv (i+1) ys iI H4)
  (hd:∀ys Z H,H D=some (.lst ys)->Iv n ys Z H->Q (.ref D) H):pK J g tc te Gy H1 Q D:=by
 refine⟨λi m Z H=>m=n-i/\i<=n/\∃ys,H D=some (.lst ys)/\ys.length<=i/\Iv i ys Z H,⟨n,rfl,dz _,[],aB,av _,h0⟩,?_⟩
 rintro i m Z H ⟨rfl,hi,ys,hy,hl,iv⟩
 obtain⟨j1,j2⟩:=hj i ys Z H hi hy iv
 by_cases o7:i<n
 .obtain⟨go,yl⟩:=j2 o7
  refine .inr ⟨go,λiI H4=>H4 D=some (.lst ys)/\Iv (i+1) ys iI H4,λy iI H5=>H5 D=some (.lst ys)/\Iv (i+1) (ys++ [y]) iI (upd H5 D (.lst (ys++ [y]))),λiI H4 q=>?_,λy iI H5 q=>?_,λx H2 q=>?_⟩
  .exact⟨n-(i+1),ω,rfl,o7,ys,q.1,ω,q.2⟩
  .exact⟨ys,n-(i+1),q.1,eF ω,ω,rfl,o7,ys++ [y],aB,by rw[aQ,aN];omega,q.2⟩
  .obtain⟨rfl,rfl⟩:=yl x H2 q
   exact hs i ys Z _ o7 hy iv
 .have e:i=n:=ω
  subst e
  exact .inl ⟨j1 rfl,hd ys Z H hy iv⟩
end
mutual
def Tells (H:Hp) (k:ai):PyData->V->Prop
 | .none,v=>v=.eU
 | .bool b,v=>v=.bl b
 | .int i,v=>v=.int i
 | .str x,v=>v=.str x
 | .list ds,v=>∃a vs,v=.ref a/\a≠k/\H a=some (.lst vs)/\dq H k ds vs
 | .tuple ds,v=>∃a vs,v=.ref a/\a≠k/\H a=some (.tup vs)/\dq H k ds vs
 | .dict _,_=>False
def dq (H:Hp) (k:ai):List PyData->List V->Prop
 | [],vs=>vs=[]
 |d::ds,vs=>∃v r,vs=v::r/\Tells H k d v/\dq H k ds r
end
def eE (k:ai) (H H':Hp):Prop:=∀b o,b≠k->H b=some o->H' b=some o
def eE.refl (k:ai) (H:Hp):eE k H H:=λ_ _ _ e=>e
def eE.trans (a:eE k H H1) (b:eE k H1 H2):eE k H H2:=λc o n e=>b c o n (a c o n e)
def bg.keep (a:bg H H'):eE k H H':=λc o _ e=>a c o e
def aO (h:H p=none) (o:HO):bg H (upd H p o):=λb u q=>by rw[bb (dH q h)];exact q
def eE.new (h:H p=none) (o:HO):eE k H (upd H p o):=(aO h o).keep
def eE.at (o:HO):eE k H (upd H k o):=λb u n e=>by rw[bb n];exact e
mutual
def Tells.keep {H H':Hp}{k:ai}(K:eE k H H'):∀{d:PyData}{v:V},Tells H k d v->Tells H' k d v
 | .none,_,h=>by unfold Tells at h⊢;exact h
 | .bool _,_,h=>by unfold Tells at h⊢;exact h
 | .int _,_,h=>by unfold Tells at h⊢;exact h
 | .str _,_,h=>by unfold Tells at h⊢;exact h
 | .list ds,v,h=>by
  unfold Tells at h⊢
  obtain⟨a,vs,e,n,q,r⟩:=h
  exact⟨a,vs,e,n,K a _ n q,dq.keep K r⟩
 | .tuple ds,v,h=>by
  unfold Tells at h⊢
  obtain⟨a,vs,e,n,q,r⟩:=h
  exact⟨a,vs,e,n,K a _ n q,dq.keep K r⟩
 | .dict _,_,h=>by unfold Tells at h;exact h.elim
def dq.keep {H H':Hp}{k:ai}(K:eE k H H'):∀{ds:List PyData}{vs:List V},dq H k ds vs->dq H' k ds vs
 | [],_,h=>by unfold dq at h⊢;exact h
 |d::ds,vs,h=>by
  unfold dq at h⊢
  obtain⟨v,r,e,q,qs⟩:=h
  exact⟨v,r,e,Tells.keep K q,dq.keep K qs⟩
end
def kj:Tells H k (.list ds) v↔∃a vs,v=.ref a/\a≠k/\H a=some (.lst vs)/\dq H k ds vs:=by
 rw[Tells]
def e_:Tells H k (.tuple ds) v↔∃a vs,v=.ref a/\a≠k/\H a=some (.tup vs)/\dq H k ds vs:=by
 rw[Tells]
def fi:Tells H k (.str x) v↔v=.str x:=by rw[Tells]
def jx:Tells H k (.int i) v↔v=.int i:=by rw[Tells]
def oo:Tells H k (.bool b) v↔v=.bl b:=by rw[Tells]
def qR:Tells H k .none v↔v=.eU:=by rw[Tells]
def eI:dq H k [] vs↔vs=[]:=by rw[dq]
def bV:dq H k (d::ds) vs↔∃v r,vs=v::r/\Tells H k d v/\dq H k ds r:=by rw[dq]
def g_:∀{ds:List PyData}{vs:List V},dq H k ds vs->vs.length=ds.length
 | [],_,h=>by rw[eI.mp h];rfl
 |d::ds,_,h=>by
  obtain⟨v,r,rfl,_,q⟩:=bV.mp h
  simp[g_ q]
def oq:∀{ds:List PyData}{vs:List V}{i:Nat}{v:V},dq H k ds vs->vs[i]?=some v->∃d,ds[i]?=some d/\Tells H k d v
 | [],_,i,v,h,e=>by rw[eI.mp h] at e;simp at e
 |d::ds,_,0,v,h,e=>by
  obtain⟨w,r,rfl,q,_⟩:=bV.mp h
  simp at e;subst e
  exact⟨d,rfl,q⟩
 |d::ds,_,i+1,v,h,e=>by
  obtain⟨w,r,rfl,_,q⟩:=bV.mp h
  exact oq (i:=i) q (by simpa using e)
def zE (h:Tells H k d v):dq H k [d] [v]:=bV.mpr ⟨v,[],rfl,h,eI.mpr rfl⟩
section
variable {X:Cx}{ac:List (ai×Obj)}{Z:St}{H:Hp}{s:ak}
mutual
def Tells.reads (I:Inv X ac Z H s) {k:ai}:∀{d:PyData}{v:V}{u:ag},Tells H k d v->RelV v u->∃as,Reads s.heap u d as
 | .none,v,u,h,r=>by
  rw[qR] at h;subst h
  cases(show u=Value.none from r)
  exact⟨_,.none⟩
 | .bool b,v,u,h,r=>by
  rw[oo] at h;subst h
  cases(show u=Value.bool b from r)
  exact⟨_,.bool b⟩
 | .int i,v,u,h,r=>by
  rw[jx] at h;subst h
  obtain⟨t,rfl⟩:=(show∃t,u=Value.int i t from r)
  exact⟨_,.int i t⟩
 | .str x,v,u,h,r=>by
  rw[fi] at h;subst h
  obtain⟨t,rfl⟩:=(show∃t,u=Value.str x t from r)
  exact⟨_,.str x t⟩
 | .list ds,v,u,h,r=>by
  obtain⟨a,vs,rfl,_,e,q⟩:=kj.mp h
  cases(show u=Value.ref a from r)
  obtain⟨_,cV,n,rv,g⟩:=I.eN a _ e
  obtain⟨as,ra⟩:=dq.reads I q rv
  exact⟨_,.list g rfl rfl (by simpa using ra)⟩
 | .tuple ds,v,u,h,r=>by
  obtain⟨a,vs,rfl,_,e,q⟩:=e_.mp h
  cases(show u=Value.ref a from r)
  obtain⟨_,cV,rv,o,g,c,_,n,dt⟩:=I.eN a _ e
  obtain⟨as,ra⟩:=dq.reads I q rv
  exact⟨_,.tuple g c dt (by simpa using ra)⟩
 | .dict _,_,_,h,_=>by unfold Tells at h;exact h.elim
def dq.reads (I:Inv X ac Z H s) {k:ai}:∀{ds:List PyData}{vs:List V}{us:List ag},dq H k ds vs->cK vs us->∃as,ReadsAll s.heap us ds as
 | [],_,us,h,r=>by
  rw[eI] at h;subst h
  cases r
  exact⟨_,.nil⟩
 |d::ds,_,us,h,r=>by
  obtain⟨w,rr,rfl,q1,q2⟩:=bV.mp h
  cases r with
  |cons r1 r2=>
   obtain⟨as,a1⟩:=Tells.reads I q1 r1
   obtain⟨bs,a2⟩:=dq.reads I q2 r2
   exact⟨_,.cons a1 a2⟩
end
end
def tyName:PyData->String
 | .none=>"NoneType"
 | .bool _=>"bool"
 | .int _=>"int"
 | .str _=>"str"
 | .list _=>"list"
 | .tuple _=>"tuple"
 | .dict _=>"dict"
def Tells.ty {K:Φ}:∀{d:PyData}{v:V},Tells H k d v->tV K H v (.type (tyName d))
 | .none,v,h=>by rw[qR] at h;subst h;exact .eU
 | .bool b,v,h=>by rw[oo] at h;subst h;exact .bl b
 | .int i,v,h=>by rw[jx] at h;subst h;exact .int i
 | .str x,v,h=>by rw[fi] at h;subst h;exact .str x
 | .list ds,v,h=>by obtain⟨a,vs,rfl,_,e,q⟩:=kj.mp h;exact .lst e
 | .tuple ds,v,h=>by obtain⟨a,vs,rfl,_,e,q⟩:=e_.mp h;exact .tup e
 | .dict _,_,h=>by unfold Tells at h;exact h.elim
def Aw:PyData->String->Bool
 | .bool _,n=>n=="bool"||n=="int"
 |d,n=>n==tyName d
def L6 (K:Φ) (d:PyData) (n:String) (hd:∀dW,d≠.dict dW) (hn:n="int"\/n="bool"\/n="str"\/n="tuple"\/n="list"):PySem.W.kitOne K (.type (tyName d)) (.type n)=some (Aw d n):=by
 rcases hn with rfl|rfl|rfl|rfl|rfl<;>cases d<;>first|exact absurd rfl (hd _)|rfl|decide+kernel
section
variable {X:Cx}
def Ut:List V->Hp->VK->Prop:=λxs H Q=>∃k x n d,xs=[x,.ty n]/\Tells H k d x/\(n="int"\/n="bool"\/n="str"\/n="tuple"\/n="list")/\Q (.bl (Aw d n)) H
def fR:gN X (.builtin "isinstance") Ut:=by
 intro ac s Z H xs us Q I r h
 obtain⟨k,x,n,d,rfl,t,hn,q⟩:=h
 obtain⟨u,u',rfl,r1,r2⟩:=vals2 r
 cases(show u'=Value.type n from r2)
 refine yu I r1 t.ty (L6 _ d n (λdW e=>?_) hn) λtk=>⟨.bl _,H,I.tok tk,rfl,q⟩
 subst e
 unfold Tells at t
 exact t
def Lay (d:PyData):Prop:=d.canLay0=true/\d.depth<=20
def pL (hu:X.A.units+64<cLine):lP X (compareOp .Eq) (λx y H Q=>∃k k' dx dy,Tells H k dx x/\Tells H k' dy y/\Lay dx/\Lay dy/\Q (.bl (PyData.eqv dx dy)) H):=by
 intro ac s Z H x y v u Q I rx ry h
 obtain⟨k,k',dx,dy,tx,ty,lx,ly,q⟩:=h
 obtain⟨as,ax⟩:=tx.reads I rx
 obtain⟨bs,ay⟩:=ty.reads I ry
 refine SeqAt.compareEq_reads ax ay lx.1 ly.1 ?_ ⟨.bl _,H,I,rfl,q⟩
 have:=lx.2;have:min dx.depth dy.depth<=dx.depth:=lg _ _
 omega
def mV (hu:X.A.units+64<cLine):lP X (compareOp .NotEq) (λx y H Q=>∃k k' dx dy,Tells H k dx x/\Tells H k' dy y/\Lay dx/\Lay dy/\Q (.bl (!PyData.eqv dx dy)) H):=by
 intro ac s Z H x y v u Q I rx ry h
 obtain⟨k,k',dx,dy,tx,ty,lx,ly,q⟩:=h
 obtain⟨as,ax⟩:=tx.reads I rx
 obtain⟨bs,ay⟩:=ty.reads I ry
 refine SeqAt.compareNe_reads ax ay lx.1 ly.1 ?_ ⟨.bl _,H,I,rfl,q⟩
 have:=lx.2;have:min dx.depth dy.depth<=dx.depth:=lg _ _
 omega
def room_in (h:u+64<cLine) (hb:b<=20):u+1+min a b<cLine:=by
 have:min a b<=b:=nA _ _
 omega
def Uu (neg:Bool):R2:=λx y H Q=>∃k k' d ds,Tells H k d x/\(Tells H k' (.tuple ds) y\/Tells H k' (.list ds) y)/\Lay d/\PyData.canLayAll0 ds=true/\Q (.bl (if neg then !(ds.any λz=>PyData.eqv z d) else ds.any λz=>PyData.eqv z d)) H
def IZ (hu:X.A.units+64<cLine):lP X (compareOp .In) (Uu false):=by
 intro ac s Z H x y v u Q I rx ry h
 obtain⟨k,k',d,ds,tx,ty,l,ls,q⟩:=h
 obtain⟨as,ax⟩:=tx.reads I rx
 rcases ty with ty|ty
 .obtain⟨bs,ay⟩:=ty.reads I ry
  exact SeqAt.in_tuple_reads ay ax ls l.1 (room_in hu l.2) ⟨.bl _,H,I,rfl,q⟩
 .obtain⟨bs,ay⟩:=ty.reads I ry
  exact SeqAt.in_list_reads ay ax ls l.1 (room_in hu l.2) ⟨.bl _,H,I,rfl,q⟩
def Gz (hu:X.A.units+64<cLine):lP X (compareOp .NotIn) (Uu true):=by
 intro ac s Z H x y v u Q I rx ry h
 obtain⟨k,k',d,ds,tx,ty,l,ls,q⟩:=h
 obtain⟨as,ax⟩:=tx.reads I rx
 rcases ty with ty|ty
 .obtain⟨bs,ay⟩:=ty.reads I ry
  exact SeqAt.notIn_tuple_reads ay ax ls l.1 (room_in hu l.2) ⟨.bl _,H,I,rfl,q⟩
 .obtain⟨bs,ay⟩:=ty.reads I ry
  exact SeqAt.notIn_list_reads ay ax ls l.1 (room_in hu l.2) ⟨.bl _,H,I,rfl,q⟩
end
section
variable {X:Cx}{tg:Expr}
def N4 (x:Str):It:=⟨λi _=>i<x.cps.size,λi H y H'=>H'=H/\∃c,x.cps[i]?=some c/\y=.str ⟨#[c]⟩,λi _=>i=x.cps.size⟩
def yJ {P:aJ}{w:bB}{K:Φ}{x:Str}{it:ai}{St:Nat->Heap->Prop}{n:String}(hn:["enumerate","zip","dict_itemiterator","dict_reverseitemiterator","odict_iterator","itertools.zip_longest","itertools.pairwise"].contains n=false)
  (hw:∀A':bH,A'.handled=none->Walks P w A' it [it] [it] x.cps.size (SignAt x) St) (hs:∀i h,St i h->∃o vs,h.get? it=some o/\o.cls=.type n/\o.data=.fields vs)
  (Uv:∀(A:bH) (i:Nat) (s:ak) (Q:ag->ak->Prop) (E:ag->ak->Prop),St i s.heap->Q (.ref it) s->wpAny (model P w) A (pyIter (.ref it)) Q E s):Turn P w K tg (N4 x) [it] it St where
 mem:=ς
 obj:=λi h st b hb=>by
  have e:b=it:=by simpa using hb
  subst e
  obtain⟨o,vs,e,c,d⟩:=hs i h st
  exact⟨o,e,λv z=>by rw[d] at z;cases z⟩
 keep:=λi h h' st k=>(hw {} rfl).frame i h h' st k
 item:=by
  intro X hP YF hK hc i ac s Z H E I hf st hg
  subst hP YF hK
  obtain⟨f0,f1,f2,f3,f4,f5⟩:=hf it ς
  refine(hw X.A (I.ok.hd hc)).item i s _ _ hg st λv h' tk hv um kk=>?_
  obtain⟨c,u,xF,rfl⟩:=hv
  have I1:Inv X ac Z H {s with heap:=h',toks:=tk}:=I.turned (λb o hb e=>kk b o (by simpa using hb) e) f0 f1 f3 f4 f5
  obtain⟨o,vs,e,c2,d⟩:=hs _ _ um
  exact⟨_,rfl,EM (s:={s with heap:=h',toks:=tk}) e c2 d hn ⟨.str ⟨#[c]⟩,H,I1,⟨u,rfl⟩,⟨rfl,c,xF,rfl⟩,um,λb hb=>(hf b hb).1⟩⟩
 done:=by
  intro X hP YF hK hc i ac s Z H E I hf st hg
  subst hP YF hK
  obtain⟨f0,f1,f2,f3,f4,f5⟩:=hf it ς
  have hg':i=x.cps.size:=hg
  subst hg'
  exact(hw X.A (I.ok.hd hc)).done s _ _ st λh' tk kk=>⟨rfl,I.turned (λb o hb e=>kk b o (by simpa using hb) e) f0 f1 f3 f4 f5⟩
 self:=Uv
def YG (tl:TE):TI:=λZ H R=>tl Z H λx H1=>∃y,x=.str y/\R (N4 y) H1
def I_ (hl:PE X l tl):PI X tg l (YG tl):=by
 intro ac s Z H R I h
 refine fE (hl ac s Z H _ I h) λv s1 c_=>?_
 obtain⟨x,H1,I1,r1,q1⟩:=c_
 obtain⟨y,e,q⟩:=q1
 subst e
 obtain⟨t,rfl⟩:=r1
 have fin:∀(o:Obj) (St:Nat->Heap->Prop),Turn X.prog X.w X.K tg (N4 y) [s1.heap.objs.size] s1.heap.objs.size St->St 0 (s1.heap.push o)->X4 X ac Z tg R (.ref s1.heap.objs.size) {s1 with heap:=s1.heap.push o}:=λo St T st=>by
  refine⟨s1.heap.objs.size,[s1.heap.objs.size],St,_,H1,rfl,I1.kept (t':=s1.toks) λb o e=>af _ e,T,st,λb hb=>?_,q⟩
  have e:b=s1.heap.objs.size:=by simpa using hb
  subst e
  exact I1.zv (av _) (I1.eN.fresh (av _))
 cases ha:y.cps.all (· <128)
 .refine wpAny_pyIter_wide ha (fin _ _ (yJ (n:="str_iterator") δ (λA' hA=>Walks.strWide hA _ y t) (λi h c_=>?_) λ_ _ _ _ _ st hQ=>wpAny_pyIter_striter_wide st hQ) ⟨_,az _ rfl,rfl,rfl⟩)
  obtain⟨o,e,c,d⟩:=c_
  exact⟨o,_,e,c,d⟩
 .refine wpAny_pyIter_ascii ha (fin _ _ (yJ (n:="str_ascii_iterator") δ (λA' hA=>Walks.strAscii hA _ y t) (λi h c_=>?_) λ_ _ _ _ _ st hQ=>wpAny_pyIter_striter_ascii st hQ) ⟨_,az _ rfl,rfl,rfl⟩)
  obtain⟨o,e,c,d⟩:=c_
  exact⟨o,_,e,c,d⟩
def ql:lP X (compareOp .LtE) (λx y H Q=>∃i j,x=.str i/\y=.str j/\Q (.bl (!decide (j.cps.toList<i.cps.toList))) H):=by
 intro ac s Z H x y v u Q I rx ry h
 obtain⟨i,j,rfl,rfl,q⟩:=h
 obtain⟨t,rfl⟩:=rx
 obtain⟨t',rfl⟩:=ry
 exact PySem.P.le_str ⟨.bl _,H,I,rfl,q⟩
def vV (hc:X.calm=true):gN X (.builtin "all") (λxs H Q=>∃(p:ai) (bs:List Bool),xs=[.ref p]/\cQ X.K H p (bs.map V.bl)/\Q (.bl (bs.all id)) H):=by
 intro ac s Z H xs us Q I r h
 obtain⟨p,bs,rfl,hq,q⟩:=h
 obtain⟨u,rfl,rx⟩:=AB r
 cases(show u=Value.ref p from rx)
 obtain⟨cV,rv,pl,hz⟩:=I.list hq
 have o7:p<s.heap.objs.size:=by obtain⟨o,e,_⟩:=pl.isList;exact aC e
 refine call_all_walk (iP pl.isList ?_)
 refine⟨s.heap.objs.size,_,_,cV.toArray.size,_,_,λi=>bs.getD i false,rfl,Walks.list (prog:=X.prog) (w:=X.w) (A:=X.A.in1) (I.ok.hd hc) s.heap.objs.size p (bj o7) cV.toArray,⟨⟨_,az _ rfl,rfl,rfl⟩,pl.isList.at λo e=>af _ e⟩,?_,λh' tk hk=>?_⟩
 .intro i v s' Q' E' hP hQ
  have tX:cV[i]?=some v:=by simpa using hP
  have hl:=rv.length
  rw[aq] at hl
  have hi:i<cV.length:=(bD.mp tX).1
  obtain⟨u,hu,ru⟩:=rv.get (i:=i) (x:=V.bl (bs.getD i false)) (by rw[cg,aH ω];simp[List.getD,aH (show i<bs.length by omega)])
  rw[tX] at hu;cases hu
  cases(show v=Value.bool _ from ru)
  exact dI hQ
 .refine⟨.bl _,H,I.kept λb o e=>hk b o (by simpa using bj (aC e)) (af _ e),rfl,?_⟩
  have hl:=rv.length
  rw[aq] at hl
  have e:(List.range cV.toArray.size).all (λi=>bs.getD i false)=bs.all id:=by
   rw[aK,<-hl]
   have:(List.range bs.length).map (λi=>bs.getD i false)=bs:=by
    apply F5
    .simp
    .intro i h1 h2;simp[List.getD,aH h2]
   conv=>rhs;rw[<-this]
   rw[List.all_map];rfl
  rw[e];exact q
def cK.insertAt (r:cK xs us) (ry:RelV y u) (k:Nat):cK (xs.take k++y::xs.drop k) (us.take k++u::us.drop k):=(r.take k).append (.cons ry (r.drop k))
def GA:T6 X "list.insert" (λx vs H Q=>∃l xs i y,x=.ref l/\vs=[.int i,y]/\H l=some (.lst xs)/\xs.length<sizeLine/\0<=i/\i<=xs.length/\Q .eU (upd H l (.lst (xs.take i.toNat++y::xs.drop i.toNat)))):=by
 intro ac s Z H x vs v us Q I rx rv h
 obtain⟨l,xs,i,y,rfl,rfl,hH,hz,h0,h1,q⟩:=h
 cases rx
 obtain⟨ui,u,rfl,ri,ru⟩:=rv.two
 obtain⟨t,rfl⟩:=ri
 obtain⟨z,cV,n,r,hl,e⟩:=I.AQ hH
 have hs:sizeLine=16777216:=hW
 have hf:Builtin.List.listFitsIndex i=true:=fitsIndex_both ω ω
 refine Ia F.slot_list_insert ⟨_,e,rfl⟩ F.entry_list_insert (F.args_list_insert_3 _ _ _) (AutoSeq1.list_insert_list_int_val_1 l cV.toArray n i t u (by rw[hf];simp) (by rw[aK];omega)) ⟨e,?_⟩
 have tl:i.toNat<=cV.length:=by rw[<-r.length];exact Cb.mpr h1
 refine⟨.eU,_,I.IJ (its':=cV.take i.toNat++u::cV.drop i.toNat) hH e ?_ (cK.insertAt r ru i.toNat) ?_,rfl,q⟩
 .dsimp only
  rw[aP (Int.not_lt.mpr h0)]
  have e1:min i.toNat cV.toArray.size=i.toNat:=gw tl
  rw[e1]
  apply Array.ext'
  simp
  exact cZ ς
 .rw[aQ,fF,dO,dP,gw (Cb.mpr h1),<-Nat.add_assoc,kE (Cb.mpr h1)]
  exact hz
end
end L2
namespace L2
open PySem
mutual
def E9:PyData->Nat
 | .list ds=>1+mW ds
 | .tuple ds=>1+mW ds
 | .none| .bool _| .int _| .str _| .dict _=>1
def mW:List PyData->Nat
 | []=>0
 |d::ds=>E9 d+mW ds
end
mutual
def iq:PyData->Bool
 | .none| .bool _=>true
 | .int i=>decide (i.natAbs<2^200)
 | .str x=>decide (x.length<=100)&&PyData.strOk x
 | .list ds=>jy ds
 | .tuple ds=>jy ds
 | .dict _=>false
def jy:List PyData->Bool
 | []=>true
 |d::ds=>iq d&&jy ds
end
mutual
def AX:∀d:PyData,iq d=true->d.canLay0=true
 | .none,_=>by simp only[PyData.canLay0]
 | .bool _,_=>by simp only[PyData.canLay0]
 | .int _,_=>by simp only[PyData.canLay0]
 | .str x,h=>by
  rw[iq,cN] at h
  simp only[PyData.canLay0];exact h.2
 | .list ds,h=>by rw[iq] at h;simp only[PyData.canLay0];exact mD ds h
 | .tuple ds,h=>by rw[iq] at h;simp only[PyData.canLay0];exact mD ds h
 | .dict _,h=>by rw[iq] at h;cases h
def mD:∀ds:List PyData,jy ds=true->PyData.canLayAll0 ds=true
 | [],_=>by simp only[PyData.canLayAll0]
 |d::ds,h=>by
  rw[jy,cN] at h
  rw[PyData.canLayAll0,cN]
  exact⟨AX d h.1,mD ds h.2⟩
end
def L7 {i:Int}(h:i.natAbs<2^200):i.natAbs.log2<200:=by
 by_cases h0:i.natAbs=0
 .rw[h0];decide+kernel
 .exact(Nat.log2_lt h0).mpr h
structure Bd (n p:Nat) (d:PyData):Prop where
 leaf:iq d=true
 w:E9 d<=n
 dp:d.depth<=p
abbrev rZ (d:PyData):Prop:=Bd 1000 15 d
def Bd.mono (h:Bd n p d) (h1:n<=m) (h2:p<=q):Bd m q d:=⟨h.leaf,aA h.w h1,aA h.dp h2⟩
def Bd.lay (h:Bd n p d) (hp:p<=20):Lay d:=⟨AX d h.leaf,aA h.dp hp⟩
def rZ.lay (h:rZ d):Lay d:=Bd.lay h δ
def jz:∀{ds:List PyData},jy ds=true↔∀d∈ds,iq d=true
 | []=>by simp[jy]
 |d::ds=>by rw[jy,cN,jz];simp
def L8 (d:PyData):1<=E9 d:=by cases d<;>simp[E9]
def zF:∀{ds:List PyData}{d:PyData},d∈ds->E9 d<=mW ds
 |e::ds,d,h=>by
  rw[mW]
  rcases aD.mp h with rfl|h
  .omega
  .have:=zF h;omega
def zG:∀ds:List PyData,ds.length<=mW ds
 | []=>dz _
 |d::ds=>by rw[mW,dO];have:=L8 d;have:=zG ds;omega
def tY:∀{ds:List PyData}{d:PyData},d∈ds->d.depth<=PyData.depthAll ds
 |e::ds,d,h=>by
  rw[PyData.depthAll]
  rcases aD.mp h with rfl|h
  .omega
  .have:=tY h;omega
def vW:∀{ds:List PyData},(∀d∈ds,E9 d<=n)->mW ds<=n*ds.length
 | [],_=>by simp[mW]
 |d::ds,h=>by
  rw[mW,dO,Nat.mul_succ]
  have h1:=h d cy
  have h2:=vW λe he=>h e (cB _ he)
  omega
def ot:∀{ds:List PyData},(∀d∈ds,d.depth<=p)->PyData.depthAll ds<=p
 | [],_=>by simp[PyData.depthAll]
 |d::ds,h=>by
  rw[PyData.depthAll]
  have h1:=h d cy
  have h2:=ot λe he=>h e (cB _ he)
  omega
def Bd.list (h:∀d∈ds,Bd n p d) (hl:ds.length<=m):Bd (1+n*m) (p+1) (.list ds):=by
 refine⟨by rw[iq];exact jz.mpr λd hd=>(h d hd).leaf,?_,?_⟩
 .rw[E9]
  have:=vW λd hd=>(h d hd).w
  have:=Nat.mul_le_mul_left n hl
  omega
 .rw[PyData.depth]
  have:=ot λd hd=>(h d hd).dp
  omega
def Bd.tuple (h:∀d∈ds,Bd n p d) (hl:ds.length<=m):Bd (1+n*m) (p+1) (.tuple ds):=by
 refine⟨by rw[iq];exact jz.mpr λd hd=>(h d hd).leaf,?_,?_⟩
 .rw[E9]
  have:=vW λd hd=>(h d hd).w
  have:=Nat.mul_le_mul_left n hl
  omega
 .rw[PyData.depth]
  have:=ot λd hd=>(h d hd).dp
  omega
def Bd.YH (h:Bd n p (.list ds)):(∀d∈ds,Bd n p d)/\ds.length<=n:=by
 have h1:=h.leaf;have h2:=h.w;have h3:=h.dp
 rw[iq] at h1;rw[E9] at h2;rw[PyData.depth] at h3
 refine⟨λd hd=>⟨jz.mp h1 d hd,?_,?_⟩,?_⟩
 .have:=zF hd;omega
 .have:=tY hd;omega
 .have:=zG ds;omega
def Bd.qm (h:Bd n p (.tuple ds)):(∀d∈ds,Bd n p d)/\ds.length<=n:=by
 have h1:=h.leaf;have h2:=h.w;have h3:=h.dp
 rw[iq] at h1;rw[E9] at h2;rw[PyData.depth] at h3
 refine⟨λd hd=>⟨jz.mp h1 d hd,?_,?_⟩,?_⟩
 .have:=zF hd;omega
 .have:=tY hd;omega
 .have:=zG ds;omega
def Bd.Jd (h:Bd n p (.str x)):x.length<=100:=by
 have h1:=h.leaf
 rw[iq,cN,rm] at h1
 exact h1.1
def GB (h:∀d∈ds,Bd n p d):PyData.canLayAll0 ds=true:=mD ds (jz.mpr λd hd=>(h d hd).leaf)
def mX (h1:x.length<=100) (h2:PyData.strOk x=true):Bd 1 0 (.str x):=⟨by rw[iq,h2,aI h1];rfl,by simp[E9],by simp[PyData.depth]⟩
def i_ (h:i.natAbs<2^200):Bd 1 0 (.int i):=⟨by rw[iq];exact aI h,by simp[E9],by simp[PyData.depth]⟩
def E_ (b:Bool):Bd 1 0 (.bool b):=⟨by simp[iq],by simp[E9],by simp[PyData.depth]⟩
def zH:Bd 1 0 .none:=⟨by simp[iq],by simp[E9],by simp[PyData.depth]⟩
def kY {J:It}{n:Nat}{f:Nat->V}{g:TG}{te:TE}{Gy:St}{H1:Hp}{Q:VK}{D:ai}(Iv:Nat->List V->St->Hp->Prop) (hD:H1 D=none) (hn:n<=1000)
  (h0:Iv 0 [] Gy (upd H1 D (.lst [])))
  (hj:∀i ys Z H,i<=n->H D=some (.lst ys)->Iv i ys Z H->(i=n->J.stop i H)/\(i<n->J.go i H/\∀x H',J.BS i H x H'->H'=H/\x=f i))
  (hs:∀i ys Z H,i<n->H D=some (.lst ys)->Iv i ys Z H->g (f i) Z H λiI H3=>te iI H3 λy H5=>H5 D=some (.lst ys)/\Iv (i+1) (ys++ [y]) iI (upd H5 D (.lst (ys++ [y]))))
  (hd:∀ys Z H,H D=some (.lst ys)->Iv n ys Z H->Q (.ref D) H):pK J g pH te Gy H1 Q D:=
 mB Iv hD hn h0 hj (λi ys Z H h1 h2 h3=>hs i ys Z H h1 h2 h3) hd
end L2
namespace L2
open PySem PySem.Spec PyProof.Rows
section
variable {X:Cx}
def jN {i0:Nat}{x0:Str}{pos' Uw:Pos}{elt tg iter:Expr}{ifs:List Expr}{scope:Scope}{pos:Pos}{wi:TI}{N:List Str}{r:List (Option Nat)}{g:TG}{tc:TT}{te:TE}(hN:X.N.Nodup) (hi0:X.N[i0]?=some x0) (hx:Loc X.env.scope x0) (hc:X.calm=true) (hi:PI X tg iter wi) (S:fD X scope N r)
  (hg:∀s H fp,PG (X.yG N scope s H fp) tg g) (ht:∀s H fp,N0 (X.yG N scope s H fp) ifs tc) (he:∀s H fp,PE (X.yG N scope s H fp) elt te)
  (hsw:swapsWith (.ListComp elt [⟨tg,iter,ifs,0⟩] scope pos) (some (.Name x0 pos')) Uw.line X.env=pure true:=by rfl)
  (hs:∀x,foldedSetIterable iter X.env x=pure x:=by intro _;rfl) (hf:X.fn x0=true\/X.env.scope.names.lookup x0=some .local:=by first|exact .inl rfl|exact .inr rfl|assumption):
  PS X (.Assign [.Name x0 pos'] (.ListComp elt [⟨tg,iter,ifs,0⟩] scope pos) Uw) (tQ (YE wi r g tc te) (de i0)):=by
 intro ac s Z H DD I h
 rw[exec_Assign_Name_used _ _ _ _ hsw]
 refine aa (jX (aa ?_))
 show wpAny _ X.A (do let _<-comprehension (.ListComp elt [⟨tg,iter,ifs,0⟩] scope pos) scope X.env _ (newList []) false (eval iter X.env) (some (assign (.Name x0 pos') X.env))) _ _ s
 refine aa (bF (?_:wpAny _ X.A _ (λ_ s'=>SP X ac DD .next s') _ s) (λ_ s' hq=>aj (aj hq)) λ_ _ e=>e)
 have IS:closureFor scope X.env=pure (om scope X.env):=mU λy hy hk=>I.ok.has y.1 (S.out y hy hk)
 refine vB (use:=some (assign (.Name x0 pos') X.env)) rfl hs IS S.kind S.own ?_
 show wpAny _ _ (eval iter X.env) _ _ s
 refine fE (hi ac s Z H _ I h) λv s1 h1=>fE h1 λPq s2 h2=>?_
 obtain⟨it,fp,tn,J,H2,e,I2,T,BU,f2,q2⟩:=h2
 subst e
 have hD:H2 s2.heap.objs.size=none:=I2.eN.fresh (av _)
 obtain⟨W,⟨m0,w0⟩,turn⟩:=q2 _ hD
 have AV:∀b∈fp,b<s2.heap.objs.size:=λb hb=>by
  obtain⟨o,e,_⟩:=T.obj _ _ BU b hb
  exact aC e
 refine bJ ?_
 generalize BV:({s2 with heap:=s2.heap.push {cls:=.type "list",dict:=none,data:=.seq ([]:List ag).toArray}}:ak)=s3
 have k3:∀b o,s2.heap.get? b=some o->s3.heap.get? b=some o:=λb o e=>by rw[<-BV];exact af _ e
 have z3:s3.heap.objs.size=s2.heap.objs.size+1:=by rw[<-BV];exact cu ..
 have u3:Un (oX X.stack) fp H2 (upd H2 s2.heap.objs.size (.lst [])) s2.heap s3.heap:=Un.laid k3 (av _) hD
 have o3:s3.os=s2.os:=by rw[<-BV]
 have I3:Inv X ac Z (upd H2 s2.heap.objs.size (.lst [])) s3:=by
  rw[<-BV]
  exact I2.laid (t':=s2.toks) (λb u e=>af _ e) (av _) ⟨dz _,[],0,.nil,az _ rfl⟩
 have f3:∀b∈fp,nG X ac (upd H2 s2.heap.objs.size (.lst [])) b:=λb hb=>⟨by rw[bb (bj (AV b hb))];exact(f2 b hb).1,(f2 b hb).2⟩
 refine Ca S.qQ (by intro y hy;simp at hy) (λh4 IT IU=>?_) S.kind
 have k4:∀b o,s3.heap.get? b=some o->h4.get? b=some o:=λb o e=>IU.extBut b o (bj (aC e)) (af _ e)
 have J4:Inv (X.yG N scope s3 (upd H2 s2.heap.objs.size (.lst [])) fp) [] (r.map (pick Z)) (upd H2 s2.heap.objs.size (.lst [])) {s3 with heap:=h4,toks:=s3.toks+([]:List (Str×ag)).length}:=
  tW S I3 f3 (λb hb=>by rw[z3];exact ig (AV b hb)) IT k4
 have IV:tn 0 h4:=T.keep _ _ _ BU λb _ o e=>k4 b o (k3 b o e)
 have qL:∀{H':Hp},(∀b∈fp,H' b=none)->∀b∈fp,nG (X.yG N scope s3 (upd H2 s2.heap.objs.size (.lst [])) fp) [] H' b:=λhn b hb=>
  ⟨hn b hb,(J4.ok.Gc b hb).1,J4.ok.uP b hb,.inl hb,(J4.ok.Gc b hb).2,λp hp=>absurd (show p∈([]:List (ai×Obj)) from hp) ς⟩
 generalize hY:X.yG N scope s3 (upd H2 s2.heap.objs.size (.lst [])) fp=Y at*
 have loop:∀s4:ak,s4={s3 with heap:=h4,toks:=s3.toks+([]:List (Str×ag)).length}->
   codeAny (model X.prog X.w) X.A (.compLoop (.ListComp elt [⟨tg,iter,ifs,0⟩] scope pos) 0 (.ref it) (.ref s2.heap.objs.size) Y.env) (compPost (model X.prog X.w) X.A X.xe (some (assign (.Name x0 pos') X.env)) (λ_ s'=>SP X ac DD .next s') (.ref s2.heap.objs.size) s3.heap.objs.size) s4:=by
  rintro s4 rfl
  have yp:Y.prog=X.prog:=by rw[<-hY]
  have yw:Y.w=X.w:=by rw[<-hY]
  have yK:Y.K=X.K:=by rw[<-hY]
  have yA:Y.A=X.A:=by rw[<-hY]
  have yc:Y.calm=true:=by rw[<-hY];exact hc
  have Ug:PG Y tg g:=by rw[<-hY];exact hg _ _ _
  have Uh:N0 Y ifs tc:=by rw[<-hY];exact ht _ _ _
  have Ui:PE Y elt te:=by rw[<-hY];exact he _ _ _
  have yx:∀e s',¬Y.xe e s':=λe s' z=>by rw[<-hY] at z;exact z
  refine pI (λn s'=>∃i bX H',Inv Y [] bX H' s'/\tn i s'.heap/\(∀b∈fp,H' b=none)/\W i n bX H') ?_ m0 ⟨0,_,_,J4,IV,λb hb=>(f3 b hb).1,w0⟩
  rintro n s5 ⟨i,E8,H5,I5,HN,Lc,w5⟩
  rcases turn i n E8 H5 w5 with⟨stop,qn⟩|⟨go,Nn,Mm,Uj,Uk,step⟩
  .have d:=T.done Y yp yw yK yc i [] s5 E8 H5 (notedBy (model X.prog X.w) X.A Y.env λe s'=>compPost (model X.prog X.w) X.A X.xe (some (assign (.Name x0 pos') X.env)) (λ_ s'=>SP X ac DD .next s') (.ref s2.heap.objs.size) s3.heap.objs.size (.error e) s') I5 (qL Lc) HN stop
   rw[yA] at d
   refine fE d λrr s6 c_=>?_
   obtain⟨hr,I6⟩:=c_
   subst hr
   obtain⟨m,hn,_⟩:=id I6.loc
   rw[<-hY] at I6 hn
   have IX:Inv X ac Z H5 s6:=zD I2 f2 u3 (by rw[z3];exact dM _) o3 I6 (Heap.SameBut.refl _ _)
   have hC:H5 s3.heap.objs.size=none:=I6.free
   obtain⟨f0,f1,f2',f3',f4,f5⟩:=I3.zv (av _) hC
   refine wpAny_assign_Name (qi IX hN hi0 hx (show RelV (V.ref s2.heap.objs.size) _ from rfl) (λs7 I7 c_=>?_) hf)
   obtain⟨a,YI,ha⟩:=c_
   have hCa:s3.heap.objs.size≠a:=by
    rcases ha with rfl|ha
    .exact f1
    .exact λz=>f4 _ _ ha z.symm
   refine⟨m,Heap.Ns.sameBut hn YI hCa,λh' Ul=>⟨_,H5,I7.turned (t':=s7.toks) (it:=s3.heap.objs.size) (λb o hb e=>Ul.extBut b o hb e) hC f1 f3' f4 f5,qn⟩⟩
  .have d:=T.item Y yp yw yK yc i [] s5 E8 H5 (notedBy (model X.prog X.w) X.A Y.env λe s'=>compPost (model X.prog X.w) X.A X.xe (some (assign (.Name x0 pos') X.env)) (λ_ s'=>SP X ac DD .next s') (.ref s2.heap.objs.size) s3.heap.objs.size (.error e) s') I5 (qL Lc) HN go
   rw[yA] at d
   refine fE d λrr s6 c_=>?_
   obtain⟨u,hr,h6⟩:=c_
   subst hr
   refine fE h6 λ_ s7 c_=>?_
   obtain⟨x,H7,I7,r7,y7,IW,Um⟩:=c_
   have Uo:=I7.pinned (qL Um) (T.obj _ _ IW)
   have g7:=Ug _ s7 E8 H7 x u _ Uo r7 (step x H7 y7)
   rw[yp,yw,yA] at g7
   refine bF g7 (λ_ s8 c_=>?_) λe s' z=>(yx e s' z).elim
   obtain⟨yI,H8,I8,q8⟩:=c_
   have t8:=Uh _ s8 yI H8 _ I8 q8
   rw[yp,yw,yA] at t8
   refine bF t8 (λok s9 c_=>?_) λe s' z=>(yx e s' z).elim
   obtain⟨H9,I9,q9⟩:=c_
   have again:∀{s10:ak} {uU:Hp} {m':Nat},Inv Y ([]++qK fp s7.heap) yI uU s10->m'<n->W (i+1) m' yI uU->∃m,m<n/\∃i bX H',Inv Y [] bX H' s10/\tn i s10.heap/\(∀b∈fp,H' b=none)/\W i m bX H':=λ{s10 uU m'} AW hm CW=>by
    refine⟨m',hm,i+1,yI,uU,AW.nI,T.keep _ _ _ IW λb hb o e=>(AW.pin (b,o) (aM _ (aM _ (iJ hb e)))).1,λb hb=>?_,CW⟩
    obtain⟨o,e,d⟩:=T.obj _ _ IW b hb
    exact(AW.pin (b,o) (aM _ (aM _ (iJ hb e)))).2.1
   cases ok with
   |false=>
    rw[aP ς] at q9⊢
    obtain⟨m',hm,w9⟩:=Uj _ _ q9
    exact again I9 hm w9
   |true=>
    rw[aT rfl] at q9⊢
    have e9:=Ui _ s9 yI H9 _ I9 q9
    rw[yp,yw,yA] at e9
    refine bF e9 (λuu s10 c_=>?_) λe s' z=>(yx e s' z).elim
    obtain⟨y,uU,AW,r10,hM⟩:=c_
    obtain⟨xs,m',IY,hz,hm,CW⟩:=Uk _ _ _ hM
    have a10:=hZ _ s10 yI uU (.ref s2.heap.objs.size) [y] (.ref s2.heap.objs.size) [uu] (λv Hq=>v=.eU/\Hq=upd uU s2.heap.objs.size (.lst (xs++ [y]))) AW rfl (.cons r10 .nil) ⟨_,xs,y,rfl,rfl,IY,hz,rfl,rfl⟩
    rw[yp,yw,yA] at a10
    refine bF a10 (λ_ s11 c_=>?_) λe s' z=>(yx e s' z).elim
    obtain⟨_,Xb,Uq,_,_,Ur⟩:=c_
    subst Ur
    exact again Uq hm CW
 have Us:Y.env={scope:=relabel scope X.env,locals:=s3.heap.objs.size,globals:=X.env.globals,cells:=om scope X.env,qual:=X.env.qual,func:=none,code:=X.env.code,frame:=X.env.frame,builtins:=X.env.builtins}:=by rw[<-hY];rfl
 rw[Us] at loop
 exact zj (loop _ rfl) (T.self _ 0 _ _ _ IV (loop _ rfl))
end
section
variable {X:Cx}{ac:List (ai×Obj)}{Z:St}{H:Hp}{s:ak}
def Inv.vm {h':Heap}{t':Nat}{fp:List ai}(I:Inv X ac Z H s) (hf:∀b∈fp,nG X ac H b) (k:∀b o,b∉fp->s.heap.get? b=some o->h'.get? b=some o):Inv X ac Z H {s with heap:=h',toks:=t'}:=by
 have away:∀b u,H b=some u->b∉fp:=λb u e z=>by
  rw[(hf b z).1] at e
  cases e
 refine I.step (g':=s.gens) (d':=s.drawn) (ch:=fp) (λb hb=>⟨(hf b hb).2.2.2.1,(hf b hb).2.1,(hf b hb).2.2.2.2.1,(hf b hb).2.2.2.2.2⟩) (λb o _ _ hc e _=>k b o hc e)
  (λb o _ _ hc e _=>⟨o.slots,k b o hc e⟩) (λ_ _ _ _ n=>n) (λb o hc e=>⟨o,k b o hc e⟩) (λ_ _ e=>e) (λ_ _ _ e=>e) (λb ps e=>⟨#[],by rw[e];simp⟩) (λm hm=>?_) (λb u e=>?_) I.bare
 .obtain⟨o,es,ep,qE,rest⟩:=hm
  exact⟨o,es,ep,k _ o (λz=>(hf _ z).2.1 rfl) qE,rest⟩
 .refine(I.eN b u e).qy (λc v hc q=>k c v ?_ q) (λ_ q=>q) λ_ _ q=>q
  rcases hc with z|z
  .rw[z];exact away b u e
  .exact away c _ z
def Inv.out {h':Heap}{t':Nat}{fp:List ai}{xs:List V}{us:List ag}(I:Inv X ac Z H s) (hf:∀b∈fp,nG X ac H b) (lt:∀b∈fp,b<s.heap.objs.size) (r:cK xs us) (hz:xs.length<=sizeLine)
  (k:∀b o,b∉fp->s.heap.get? b=some o->h'.get? b=some o) (hT:h'.get? s.heap.objs.size=some {cls:=.type "tuple",data:=.seq us.toArray}):
  H s.heap.objs.size=none/\Inv X ac Z (upd H s.heap.objs.size (.tup xs)) {s with heap:=h',toks:=t'}/\∀b∈fp,(upd H s.heap.objs.size (.tup xs)) b=none:=by
 have fresh:H s.heap.objs.size=none:=I.eN.fresh (av _)
 have I1:Inv X ac Z (upd H s.heap.objs.size (.tup xs)) {s with heap:=s.heap.push {cls:=.type "tuple",data:=.seq us.toArray},toks:=s.toks}:=
  I.laid (λb u e=>af _ e) (av _) ⟨hz,us,r,⟨_,az _ rfl,rfl,rfl,_,rfl⟩⟩
 have hf1:∀b∈fp,nG X ac (upd H s.heap.objs.size (.tup xs)) b:=λb hb=>⟨by rw[bb (bj (lt b hb))];exact(hf b hb).1,(hf b hb).2⟩
 refine⟨fresh,I1.vm hf1 λb o hb e=>?_,λb hb=>(hf1 b hb).1⟩
 by_cases z:b=s.heap.objs.size
 .subst z
  have e':some ({cls:=.type "tuple",data:=.seq us.toArray}:Obj)=some o:=(az s.heap (o:={cls:=.type "tuple",data:=.seq us.toArray}) rfl).symm.trans e
  rw[hT,e']
 .refine k b o hb ?_
  have lt2:b<(s.heap.push {cls:=.type "tuple",data:=.seq us.toArray}).objs.size:=aC e
  rw[cu] at lt2
  have lt3:b<s.heap.objs.size:=dY (eO lt2) z
  cases q:s.heap.get? b with
  |some o'=>
   have:=af ({cls:=.type "tuple",data:=.seq us.toArray}:Obj) q
   rw[this] at e
   exact e
  |none=>
   exfalso
   have e2:(s.heap.push {cls:=.type "tuple",data:=.seq us.toArray}).get? b=none:=by
    first|exact Heap.Fb _ q lt3|simp[Heap.get?,Heap.push,Array.getElem?_push,bj lt3] at q⊢;exact q
   rw[e2] at e
   cases e
end
section
variable {prog:aJ}{w:bB}{A:bH}{E:ag->ak->Prop}{s:ak}
def qS (a1:s.heap.IsTupleIter J t n) (a2:s.heap.IsTuple t vs) (a3:vs[n]?=some y)
  (q:∀h',h'.IsTupleIter J t (n+1)->Heap.SameBut J s.heap h'->Q y {s with heap:=h'}):wpAny (model prog w) A (Builtin.SmallTypes.nextOf (.ref J)) Q E s:=by
 obtain⟨jo,j1,j2,j3⟩:=id a1
 obtain⟨to,t1,_,tn,t2⟩:=a2
 unfold Builtin.SmallTypes.nextOf
 refine aa (cM (name:=Str.ofString "__next__") a1.typeIs kU (dX kU a1.typeIs F.entry_tuple_iterator_next ?_ (S9 _)))
 refine(aa (bR j1 j3 (x:=.ref t) rfl ?_):wpAny _ _ (field (.ref J) 0>>=_) _ _ s)
 refine(?_:wpAny _ _ (if(Value.ref t==Value.none)=true then _ else _) _ _ s)
 rw[aP ς]
 refine(aa (bR j1 j3 (x:=.int n 0) rfl ?_):wpAny _ _ (field (.ref J) 1>>=_) _ _ s)
 refine(aa (cw t1 t2 ?_):wpAny _ _ (seqItems? (.ref t)>>=_) _ _ s)
 simp only[a3,jC]
 exact aa (jm j1 j3 ς (aj ⟨y,rfl,aj (q _ ⟨_,cY _ j1 (iu (ij j3 _)),(vc ..).trans j2,by rw[ij j3];simp[rawInt]⟩ (F6 ..))⟩))
def yN (free:A.handled=none) (a1:s.heap.IsTupleIter J t n) (a2:s.heap.IsTuple t vs) (a3:vs[n]?=none)
  (q:∀h' x,Heap.ExtBut J s.heap h'->(∃o,h'.get? x=some o/\o.cls=.type "StopIteration")->E (.ref x) {s with heap:=h'}):wpAny (model prog w) A (Builtin.SmallTypes.nextOf (.ref J)) Q E s:=by
 obtain⟨jo,j1,j2,j3⟩:=id a1
 obtain⟨to,t1,_,tn,t2⟩:=a2
 unfold Builtin.SmallTypes.nextOf
 refine aa (cM (name:=Str.ofString "__next__") a1.typeIs kU (dX kU a1.typeIs F.entry_tuple_iterator_next ?_ (S9 _)))
 refine(aa (bR j1 j3 (x:=.ref t) rfl ?_):wpAny _ _ (field (.ref J) 0>>=_) _ _ s)
 refine(?_:wpAny _ _ (if(Value.ref t==Value.none)=true then _ else _) _ _ s)
 rw[aP ς]
 refine(aa (bR j1 j3 (x:=.int n 0) rfl ?_):wpAny _ _ (field (.ref J) 1>>=_) _ _ s)
 refine(aa (cw t1 t2 ?_):wpAny _ _ (seqItems? (.ref t)>>=_) _ _ s)
 simp only[a3,jC]
 refine aa (kS (aa (jm j1 j3 ς ?_)))
 refine(aa ?_:wpAny _ _ (newExc (.type "StopIteration") []>>=_) _ _ _)
 simp only[newTuple,newExc]
 refine aa (bJ (aa (m:=firstArgMember _ _) (Cc (a:=Value.none) (by first|rfl|(simp only[firstArgMember];rfl)) (bJ ?_ (by size_fits)))) (by size_fits))
 simp only[raiseNew]
 refine aa (wpAny_handled ?_)
 first|rw[show A.in1.handled=none from free]|rw[free]
 exact aa (aj (wpAny_throw (q _ _ (((F6 ..).extBut.push _).push _) ⟨_,az _ rfl,rfl⟩)))
end
section
variable {prog:aJ}{w:bB}{A:bH}{E:ag->ak->Prop}{s:ak}
end
def CY:bootBuiltins "enumerate"=some (.type "enumerate"):=by decide+kernel
section
variable {prog:aJ}{w:bB}{A:bH}{E:ag->ak->Prop}{s:ak}
def fY (x:h.IsTupleIter a t i) (sb:Heap.SameBut b h h') (n:a≠b):h'.IsTupleIter a t i:=x.extBut sb.extBut n
def jO (x:h.IsTuple a vs) (sb:Heap.SameBut b h h') (n:a≠b):h'.IsTuple a vs:=x.extBut sb.extBut n
def GC {z TI TO i1 i2 t1 t2:ai}{n1 n2:Nat}{xs ys:Array ag}{x y a b:ag}{Q:ag->ak->Prop}(D:ZipApart z TI TO i1 i2 t1 t2) (c1:IsZip s.heap z TI TO .none) (c2:IsPair s.heap TI (.ref i1) (.ref i2)) (c3:IsPair s.heap TO a b)
  (c4:s.heap.IsTupleIter i1 t1 n1) (c5:s.heap.IsTupleIter i2 t2 n2) (c6:s.heap.IsTuple t1 xs) (c7:s.heap.IsTuple t2 ys) (c8:xs[n1]?=some x) (c9:ys[n2]?=some y)
  (q:∀h',IsZip h' z TI TO (rawInt s.heap.objs.size)->IsPair h' TO x y->h'.IsTupleIter i1 t1 (n1+1)->h'.IsTupleIter i2 t2 (n2+1)->IsPair h' s.heap.objs.size x y->(∀c o,c≠z->c≠TO->c≠i1->c≠i2->s.heap.get? c=some o->h'.get? c=some o)->Q (.ref s.heap.objs.size) {s with heap:=h'}):
  wpAny (model prog w) A (Builtin.«zip.__next__» ⟨[.ref z],[]⟩) (λfin s'=>∃v,fin=.done (.ret v)/\Q v s') E s:=by
 refine(aa (bR c1 rfl (x:=.bool false) rfl ?_):wpAny _ _ (field (.ref z) 2>>=_) _ _ _)
 refine(aa (bR c1 rfl (x:=.ref TI) rfl ?_):wpAny _ _ (field (.ref z) 3>>=_) _ _ _);refine aa (cw c2 rfl ?_)
 refine(aa ?_:wpAny _ _ (Builtin.SmallTypes.ownedTupleIsFree (.ref z)>>=_) _ _ _)
 unfold Builtin.SmallTypes.ownedTupleIsFree
 refine aa (bR c1 rfl (x:=.none) rfl (aj ?_))
 simp only[nR]
 refine aa (kS ?_);refine aa (bR c1 rfl (x:=.ref TO) rfl ?_);refine aa (ef c1 ς λg1 k1 s1=>?_)
 have k1:IsZip g1 z TI TO .ellipsis:=k1
 refine aa ?_
 simp only[oU,xM,tK,vd]
 refine aa (aa (iZ ?_))
 show wpAny _ _ (Builtin.SmallTypes.nextOf (.ref i1)>>=_) _ _ _;refine aa (qS (fY c4 s1 D.i1z) (jO c6 s1 D.l1z) c8 λg2 k2 s2=>aj ?_)
 have o2:IsPair g2 TO a b:=s2.extBut _ _ D.TOi1 (s1.extBut _ _ D.TOz c3)
 refine aa (cw o2 rfl ?_);refine aa (iQ o2 λg3 o3 s3=>?_);refine aa (fP (aj ?_))
 have o3:IsPair g3 TO x b:=o3
 refine aa (aa (iZ ?_))
 show wpAny _ _ (Builtin.SmallTypes.nextOf (.ref i2)>>=_) _ _ _;refine aa (qS (fY (fY (fY c5 s1 D.i2z) s2 D.i12.symm) s3 D.TOi2.symm) (jO (jO (jO c7 s1 D.l2z) s2 D.l2i1) s3 D.l2TO) c9 λg4 k4 s4=>aj ?_)
 have o4:IsPair g4 TO x b:=s4.extBut _ _ D.TOi2 o3
 refine aa (cw o4 rfl ?_);refine aa (iQ o4 λg5 o5 s5=>?_);refine aa (fP (aj (aj ?_)))
 have o5:IsPair g5 TO x y:=o5
 refine aa (cw o5 rfl ?_);refine aa (wpAny_newTuple ?_)
 have sz:g5.objs.size=s.heap.objs.size:=by rw[s5.1,s4.1,s3.1,s2.1,s1.1]
 have z5:IsZip g5 z TI TO .ellipsis:=s5.extBut _ _ D.TOz.symm (s4.extBut _ _ D.i2z.symm (s3.extBut _ _ D.TOz.symm (s2.extBut _ _ D.i1z.symm k1)))
 have j1:g5.IsTupleIter i1 t1 (n1+1):=fY (fY (fY k2 s3 D.TOi1.symm) s4 D.i12) s5 D.TOi1.symm
 have j2:g5.IsTupleIter i2 t2 (n2+1):=fY k4 s5 D.TOi2.symm
 have zl:z<g5.objs.size:=aC z5
 refine(aa ?_:wpAny _ _ (Builtin.SmallTypes.ownedTupleHandOut (.ref z) (.ref g5.objs.size)>>=_) _ _ _)
 unfold Builtin.SmallTypes.ownedTupleHandOut
 refine aa (ef (af _ z5) ς λg7 z7 s7=>?_)
 have z7:IsZip g7 z TI TO (rawInt g5.objs.size):=z7
 refine ef z7 ς λg8 z8 s8=>aj ⟨_,rfl,?_⟩
 have z8:IsZip g8 z TI TO (rawInt g5.objs.size):=z8
 have up:∀c o,c≠z->g5.get? c=some o->g8.get? c=some o:=λc o n e=>s8.extBut _ _ n (s7.extBut _ _ n (af _ e))
 have T8:IsPair g8 g5.objs.size x y:=s8.extBut _ _ (ie zl) (s7.extBut _ _ (ie zl) (az _ rfl))
 rw[sz] at z8 T8
 refine(?_:Q (.ref g5.objs.size) _)
 rw[sz]
 obtain⟨v1,v2,v3⟩:=j1
 obtain⟨w1,w2,w3⟩:=j2
 exact q g8 z8 (up _ _ D.TOz o5) ⟨v1,up _ _ D.i1z v2,v3⟩ ⟨w1,up _ _ D.i2z w2,w3⟩ T8 λc o n1 n2 n3 n4 e=>up c o n1 (s5.extBut _ _ n2 (s4.extBut _ _ n4 (s3.extBut _ _ n2 (s2.extBut _ _ n3 (s1.extBut _ _ n1 e)))))
def Je {z TI TO i1 i2 t1 t2:ai}{n1 n2:Nat}{xs ys:Array ag}{a b:ag}{Q:Fin->ak->Prop}(free:A.handled=none) (D:ZipApart z TI TO i1 i2 t1 t2) (c1:IsZip s.heap z TI TO .none) (c2:IsPair s.heap TI (.ref i1) (.ref i2)) (c3:IsPair s.heap TO a b)
  (c4:s.heap.IsTupleIter i1 t1 n1) (c5:s.heap.IsTupleIter i2 t2 n2) (c6:s.heap.IsTuple t1 xs) (c7:s.heap.IsTuple t2 ys) (c8:xs[n1]?=none\/ys[n2]?=none)
  (q:∀h' x,(∀c o,c≠z->c≠TO->c≠i1->c≠i2->s.heap.get? c=some o->h'.get? c=some o)->(∃o,h'.get? x=some o/\o.cls=.type "StopIteration")->E (.ref x) {s with heap:=h'}):
  wpAny (model prog w) A (Builtin.«zip.__next__» ⟨[.ref z],[]⟩) Q E s:=by
 have vX:∀{g:Heap} {x:ai} {o:Obj},IsZip g z TI TO .ellipsis->g.get? x=some o->o.cls=.type "StopIteration"->x≠z:=λ{g x o} k1 k2 k3 e=>by
  rw[e,k1] at k2
  cases k2
  exact absurd (show Value.type "zip"=Value.type "StopIteration" from k3) δ
 refine(aa (bR c1 rfl (x:=.bool false) rfl ?_):wpAny _ _ (field (.ref z) 2>>=_) _ _ _)
 refine(aa (bR c1 rfl (x:=.ref TI) rfl ?_):wpAny _ _ (field (.ref z) 3>>=_) _ _ _);refine aa (cw c2 rfl ?_)
 refine(aa ?_:wpAny _ _ (Builtin.SmallTypes.ownedTupleIsFree (.ref z)>>=_) _ _ _)
 unfold Builtin.SmallTypes.ownedTupleIsFree
 refine aa (bR c1 rfl (x:=.none) rfl (aj ?_))
 simp only[nR]
 refine aa (kS ?_);refine aa (bR c1 rfl (x:=.ref TO) rfl ?_);refine aa (ef c1 ς λg1 k1 s1=>?_)
 have k1:IsZip g1 z TI TO .ellipsis:=k1
 refine aa ?_
 simp only[oU,xM,tK,vd]
 refine aa (aa (iZ ?_))
 cases hx:xs[n1]? with
 |none=>
  show wpAny _ _ (Builtin.SmallTypes.nextOf (.ref i1)>>=_) _ _ _;refine aa (yN free (fY c4 s1 D.i1z) (jO c6 s1 D.l1z) hx λg2 x s2 ⟨o,o1,o2⟩=>?_)
  have z2:IsZip g2 z TI TO .ellipsis:=s2 _ _ D.i1z.symm k1
  exact ef z2 ς λg3 _ s3=>q g3 x (λc u n1 _ n3 _ e=>s3.extBut _ _ n1 (s2 _ _ n3 (s1.extBut _ _ n1 e))) ⟨o,s3.extBut _ _ (vX z2 o1 o2) o1,o2⟩
 |some x1=>
  have hy:ys[n2]?=none:=by
   rcases c8 with e|e
   .rw[hx] at e;cases e
   .exact e
  show wpAny _ _ (Builtin.SmallTypes.nextOf (.ref i1)>>=_) _ _ _;refine aa (qS (fY c4 s1 D.i1z) (jO c6 s1 D.l1z) hx λg2 k2 s2=>aj ?_)
  have o2:IsPair g2 TO a b:=s2.extBut _ _ D.TOi1 (s1.extBut _ _ D.TOz c3)
  refine aa (cw o2 rfl ?_);refine aa (iQ o2 λg3 o3 s3=>?_);refine aa (fP (aj ?_))
  refine aa (aa (iZ ?_))
  show wpAny _ _ (Builtin.SmallTypes.nextOf (.ref i2)>>=_) _ _ _;refine aa (yN free (fY (fY (fY c5 s1 D.i2z) s2 D.i12.symm) s3 D.TOi2.symm) (jO (jO (jO c7 s1 D.l2z) s2 D.l2i1) s3 D.l2TO) hy λg4 x s4 ⟨o,o1,Ux⟩=>?_)
  have z4:IsZip g4 z TI TO .ellipsis:=s4 _ _ D.i2z.symm (s3.extBut _ _ D.TOz.symm (s2.extBut _ _ D.i1z.symm k1))
  exact ef z4 ς λg5 _ s5=>q g5 x (λc u n1 n2 n3 n4 e=>s5.extBut _ _ n1 (s4 _ _ n4 (s3.extBut _ _ n2 (s2.extBut _ _ n3 (s1.extBut _ _ n1 e))))) ⟨o,s5.extBut _ _ (vX z4 o1 Ux) o1,Ux⟩
def CZ (t1 t2:ai) (xs ys:Array ag):Meets (Builtin.«zip.__new__» ⟨[.type "zip",.ref t1,.ref t2],[]⟩) (λ_ R s=>s.heap.IsTuple t1 xs/\s.heap.IsTuple t2 ys/\∀h1 h2 h3 h4 h5:Heap,
   h1=s.heap.push {cls:=.type "tuple_iterator",data:=.fields #[.ref t1,.int 0 0]}->h2=h1.push {cls:=.type "tuple_iterator",data:=.fields #[.ref t2,.int 0 0]}->h3=h2.push {cls:=.type "tuple",data:=.seq #[.ref s.heap.objs.size,.ref h1.objs.size]}->
   h4=h3.push {cls:=.type "tuple",data:=.seq #[.none,.none]}->h5=h4.push {cls:=.type "zip",data:=.fields #[.none,.bool false,.bool false,.ref h2.objs.size,.ref h3.objs.size]}->R (.ok (.ret (.ref h4.objs.size))) {s with heap:=h5}):=
 .of_wp λprog w A R s h=>by
  obtain⟨hp,g,d,tk,os⟩:=s
  obtain⟨p1,p2,h⟩:=h
  have L9:=sub_zip
  have q1:Heap.IsTuple (Shared.heap ⟨hp,g,d,tk,os⟩) t1 xs:=p1
  have q2:Heap.IsTuple (Shared.heap ⟨hp.push {cls:=.type "tuple_iterator",data:=.fields #[.ref t1,.int 0 0]},g,d,tk,os⟩) t2 ys:=Heap.IsTuple.push p2 _
  wp_walk using mG q1,mG q2
  exact⟨_,rfl,h _ _ _ _ _ rfl rfl rfl rfl rfl⟩
def GD (p1:s.heap.IsTuple t1 xs) (p2:s.heap.IsTuple t2 ys)
  (q:∀h',IsZip h' (s.heap.objs.size+4) (s.heap.objs.size+2) (s.heap.objs.size+3) .none->IsPair h' (s.heap.objs.size+2) (.ref s.heap.objs.size) (.ref (s.heap.objs.size+1))->IsPair h' (s.heap.objs.size+3) .none .none->
   h'.IsTupleIter s.heap.objs.size t1 0->h'.IsTupleIter (s.heap.objs.size+1) t2 0->(∀c o,s.heap.get? c=some o->h'.get? c=some o)->Q (.ref (s.heap.objs.size+4)) {s with heap:=h'}):
  wpAny (model prog w) A (call (.type "zip") [.ref t1,.ref t2]) Q E s:=by
 refine callType_new F.called_zip δ (F.typeCall_zip_2 _ _) (F.newCall_zip_2 _ _) (λobj=>F.args_object_init_3 obj _ _) F.entry_zip_new (CZ t1 t2 xs ys) ⟨p1,p2,λh1 h2 h3 h4 h5 e1 e2 e3 e4 e5=>?_⟩
 have m1:h1.objs.size=s.heap.objs.size+1:=by rw[e1];exact cu ..
 have m2:h2.objs.size=s.heap.objs.size+2:=by rw[e2,cu,m1]
 have m3:h3.objs.size=s.heap.objs.size+3:=by rw[e3,cu,m2]
 have m4:h4.objs.size=s.heap.objs.size+4:=by rw[e4,cu,m3]
 have u5:∀c o,h4.get? c=some o->h5.get? c=some o:=λc o e=>by rw[e5];exact af _ e
 have u4:∀c o,h3.get? c=some o->h4.get? c=some o:=λc o e=>by rw[e4];exact af _ e
 have u3:∀c o,h2.get? c=some o->h3.get? c=some o:=λc o e=>by rw[e3];exact af _ e
 have u2:∀c o,h1.get? c=some o->h2.get? c=some o:=λc o e=>by rw[e2];exact af _ e
 have u1:∀c o,s.heap.get? c=some o->h1.get? c=some o:=λc o e=>by rw[e1];exact af _ e
 have f5:IsZip h5 (s.heap.objs.size+4) (s.heap.objs.size+2) (s.heap.objs.size+3) .none:=by
  rw[<-m4,<-m3,<-m2,e5];exact az _ rfl
 have f4:IsPair h4 (s.heap.objs.size+3) .none .none:=by rw[<-m3,e4];exact az _ rfl
 have f3:IsPair h3 (s.heap.objs.size+2) (.ref s.heap.objs.size) (.ref (s.heap.objs.size+1)):=by rw[<-m2,<-m1,e3];exact az _ rfl
 have f2:h2.IsTupleIter (s.heap.objs.size+1) t2 0:=⟨_,by rw[<-m1,e2];exact az _ rfl,rfl,rfl⟩
 have f1:h1.IsTupleIter s.heap.objs.size t1 0:=⟨_,by rw[e1];exact az _ rfl,rfl,rfl⟩
 rw[m4]
 obtain⟨v1,v2,v3⟩:=f1
 obtain⟨w1,w2,w3⟩:=f2
 exact⟨⟨_,f5,rfl⟩,q h5 f5 (u5 _ _ (u4 _ _ f3)) (u5 _ _ f4) ⟨v1,u5 _ _ (u4 _ _ (u3 _ _ (u2 _ _ v2))),v3⟩ ⟨w1,u5 _ _ (u4 _ _ (u3 _ _ w2)),w3⟩ λc o e=>u5 _ _ (u4 _ _ (u3 _ _ (u2 _ _ (u1 _ _ e))))⟩
end
def Itz (K:Φ) (a b:ai):It:=⟨λi H=>∃xs ys x y,bZ K H a xs/\bZ K H b ys/\xs[i]?=some x/\ys[i]?=some y,
 λi H v H'=>∃T x y,H T=none/\v=.ref T/\H'=upd H T (.tup [x,y])/\(∀xs,bZ K H a xs->xs[i]?=some x)/\∀ys,bZ K H b ys->ys[i]?=some y,λi H=>∃xs ys,bZ K H a xs/\bZ K H b ys/\(xs.length<=i\/ys.length<=i)⟩
def Uy (z TI TO i1 i2 a b:ai) (i:Nat) (h:Heap):Prop:=IsZip h z TI TO .none/\IsPair h TI (.ref i1) (.ref i2)/\(∃x y,IsPair h TO x y)/\h.IsTupleIter i1 a i/\h.IsTupleIter i2 b i
def GF {P:aJ}{w:bB}{K:Φ}{elts:List Expr}{kk:Nat}{tp:Pos}(z TI TO i1 i2 a b:ai) (D:ZipApart z TI TO i1 i2 a b):Turn P w K (.Tuple elts kk tp) (Itz K a b) [z,TI,TO,i1,i2] z (Uy z TI TO i1 i2 a b) where
 mem:=ς
 obj:=λi h st c hc=>by
  obtain⟨z1,z2,⟨x,y,z3⟩,⟨o,o1,o2,o3⟩,⟨u,u1,u2,u3⟩⟩:=st
  simp only[aD,aG,cx] at hc
  rcases hc with rfl|rfl|rfl|rfl|rfl
  .exact⟨_,z1,λv e=>by cases(show Data.fields _=Data.cell v from e)⟩
  .exact⟨_,z2,λv e=>by cases(show Data.seq _ _=Data.cell v from e)⟩
  .exact⟨_,z3,λv e=>by cases(show Data.seq _ _=Data.cell v from e)⟩
  .exact⟨o,o1,λv e=>by rw[o3] at e;cases e⟩
  .exact⟨u,u1,λv e=>by rw[u3] at e;cases e⟩
 keep:=λi h h' st kp=>by
  obtain⟨z1,z2,⟨x,y,z3⟩,⟨o,o1,o2⟩,⟨u,u1,u2⟩⟩:=st
  exact⟨kp z ς _ z1,kp TI ς _ z2,⟨x,y,kp TO ς _ z3⟩,⟨o,kp i1 ς o o1,o2⟩,⟨u,kp i2 ς u u1,u2⟩⟩
 item:=by
  intro X hP hw hK hc i ac s Z H E I hf st hg
  subst hP hw hK
  obtain⟨xs,ys,x,y,C0,BW,hx,hy⟩:=hg
  obtain⟨vY,L_,p1,_⟩:=I.tuple C0
  obtain⟨mj,Ma,p2,_⟩:=I.tuple BW
  obtain⟨u1,YJ,PZ⟩:=L_.get hx
  obtain⟨u2,P0,P1⟩:=Ma.get hy
  obtain⟨z1,z2,⟨oa,ob,z3⟩,j1,j2⟩:=st
  have Jf:s.TypeIs (.ref z) "zip":=⟨_,z1,rfl⟩
  have lt:∀c∈[z,TI,TO,i1,i2],c<s.heap.objs.size:=λc hc=>by
   obtain⟨_,w1,_⟩:=id j1
   obtain⟨_,w2,_⟩:=id j2
   simp only[aD,aG,cx] at hc
   rcases hc with rfl|rfl|rfl|rfl|rfl
   .exact aC z1
   .exact aC z2
   .exact aC z3
   .exact aC w1
   .exact aC w2
  unfold pyNext
  refine aa (vC (cM (name:=Str.ofString "__next__") Jf iN (dX iN Jf xN
   (GC D z1 z2 z3 j1 j2 (show s.heap.IsTuple a vY.toArray from p1) (show s.heap.IsTuple b mj.toArray from p2) (x:=u1) (y:=u2) (by simpa using YJ) (by simpa using P0) λh' a1 a2 a3 a4 a5 a7=>aj ?_) (vf _))))
  refine⟨_,rfl,wpAny_letOwnedTupleGo_zip a1 λh2 b1 Mb=>?_⟩
  have nT:s.heap.objs.size≠z:=ie (lt z ς)
  have C3:∀c o,c≠z->h'.get? c=some o->h2.get? c=some o:=λc o n e=>(Mb.2 c n).trans e
  obtain⟨f1,f2,f3⟩:=I.out (h':=h2) (t':=s.toks) (xs:=[x,y]) (us:=[u1,u2]) hf lt (.cons PZ (.cons P1 .nil)) (dZ)
   (λc o hc q=>C3 c o (λe=>hc (by simp[e])) (a7 c o (λe=>hc (by simp[e])) (λe=>hc (by simp[e])) (λe=>hc (by simp[e])) (λe=>hc (by simp[e])) q)) (C3 _ _ nT a5)
  obtain⟨v1,v2,v3⟩:=a3
  obtain⟨w1,w2,w3⟩:=a4
  exact⟨.ref s.heap.objs.size,_,f2,rfl,⟨_,x,y,f1,rfl,rfl,λzs P2=>by rw[I.tP P2 C0];exact hx,λzs P2=>by rw[I.tP P2 BW];exact hy⟩,
   ⟨b1,C3 _ _ D.TIz (a7 _ _ D.TIz D.TITO D.TIi1 D.TIi2 z2),⟨_,_,C3 _ _ D.TOz a2⟩,⟨v1,C3 _ _ D.i1z v2,v3⟩,⟨w1,C3 _ _ D.i2z w2,w3⟩⟩,f3⟩
 done:=by
  intro X hP hw hK hc i ac s Z H E I hf st hg
  subst hP hw hK
  obtain⟨xs,ys,C0,BW,YK⟩:=hg
  obtain⟨vY,L_,p1,_⟩:=I.tuple C0
  obtain⟨mj,Ma,p2,_⟩:=I.tuple BW
  obtain⟨z1,z2,⟨oa,ob,z3⟩,j1,j2⟩:=st
  have Jf:s.TypeIs (.ref z) "zip":=⟨_,z1,rfl⟩
  have l1:=L_.length
  have l2:=Ma.length
  have ends:vY.toArray[i]?=none\/mj.toArray[i]?=none:=by
   rcases YK with e|e
   .left;simp;omega
   .right;simp;omega
  unfold pyNext
  refine aa (vC (cM (name:=Str.ofString "__next__") Jf iN (dX iN Jf xN
   (Je (I.ok.hd hc) D z1 z2 z3 j1 j2 (show s.heap.IsTuple a vY.toArray from p1) (show s.heap.IsTuple b mj.toArray from p2) ends λh' x kp ⟨o,o1,o2⟩=>?_) (vf _))))
  refine aa (O9 (T:="StopIteration") (b:=true) ⟨o,o1,o2⟩ isSubtype_stop (aj ⟨rfl,?_⟩))
  exact I.vm (t':=s.toks) hf λc o hc q=>kp c o (λe=>hc (by simp[e])) (λe=>hc (by simp[e])) (λe=>hc (by simp[e])) (λe=>hc (by simp[e])) q
 self:=λ_ _ _ _ _ st q=>xO st.1 q
def yO:bootBuiltins "zip"=some (.type "zip"):=by decide+kernel
def Uz (K:Φ) (ta:TA):TI:=λZ H R=>ta Z H λvs H1=>∃a b,vs=[.ref a,.ref b]/\(∃xs,bZ K H1 a xs)/\(∃ys,bZ K H1 b ys)/\R (Itz K a b) H1
def Mc (hg:Gl X "zip") (hm:X.mg "zip"=none) (ha:PA X [e1,e2] ta) (hs:starEach [e1,e2] X.env=[(false,eval e1 X.env),(false,eval e2 X.env)]:=by rfl) (HR:starEach [e2] X.env=[(false,eval e2 X.env)]:=by rfl):
  PI X (.Tuple elts kk tp) (.Call (.Name "zip" p) [e1,e2] [] pos) (Uz X.K ta):=by
 intro ac s Z H R I h
 refine Call_ (qJ I hg hm yO (gJ (fE (ha pos ac s Z H _ I h) λus s1 ⟨vs,H1,I1,r1,q1⟩=>?_) (by rw[hs,HR]) (by rw[HR];rfl)))
 obtain⟨a,b,e,⟨xs,C0⟩,⟨ys,BW⟩,q⟩:=q1
 subst e
 obtain⟨u1,u2,rfl,PZ,P1⟩:=vals2 r1
 cases(show u1=Value.ref a from PZ)
 cases(show u2=Value.ref b from P1)
 obtain⟨vY,L_,p1,_⟩:=I1.tuple C0
 obtain⟨mj,Ma,p2,_⟩:=I1.tuple BW
 have la:a<s1.heap.objs.size:=by obtain⟨o,e,_⟩:=(show s1.heap.IsTuple a vY.toArray from p1);exact aC e
 have lb:b<s1.heap.objs.size:=by obtain⟨o,e,_⟩:=(show s1.heap.IsTuple b mj.toArray from p2);exact aC e
 refine GD (show s1.heap.IsTuple a vY.toArray from p1) (show s1.heap.IsTuple b mj.toArray from p2) λh' a1 a2 a3 a4 a5 kp=>xO a1 ?_
 refine⟨_,[s1.heap.objs.size+4,s1.heap.objs.size+2,s1.heap.objs.size+3,s1.heap.objs.size,s1.heap.objs.size+1],_,_,H1,rfl,I1.kept (t':=s1.toks) kp,GF _ _ _ _ _ a b (zipApart_new la lb),⟨a1,a2,⟨_,_,a3⟩,a4,a5⟩,λc hc=>?_,q⟩
 have ge:s1.heap.objs.size<=c:=by
  simp only[aD,aG,cx] at hc
  rcases hc with rfl|rfl|rfl|rfl|rfl
  .exact dQ _ _
  .exact dQ _ _
  .exact dQ _ _
  .exact av _
  .exact dQ _ _
 exact I1.zv ge (I1.eN.fresh ge)
def AY {J:It}{n:Nat}{u v:Nat->V}{g:TG}{tc:TT}{te:TE}{Gy:St}{H1:Hp}{Q:VK}{D:ai}(Iv:Nat->List V->St->Hp->Prop) (hD:H1 D=none) (hn:n<=1000)
  (h0:Iv 0 [] Gy (upd H1 D (.lst [])))
  (hj:∀i ys Z H,i<=n->H D=some (.lst ys)->Iv i ys Z H->(i=n->J.stop i H)/\(i<n->J.go i H/\∀x H',J.BS i H x H'->∃T,H T=none/\x=.ref T/\H'=upd H T (.tup [u i,v i])))
  (hs:∀i ys Z H T,i<n->H D=some (.lst ys)->Iv i ys Z H->H T=none->g (.ref T) Z (upd H T (.tup [u i,v i])) λiI H3=>tc iI H3 λb H4=>
   if b=true then te iI H4 λy H5=>H5 D=some (.lst ys)/\Iv (i+1) (ys++ [y]) iI (upd H5 D (.lst (ys++ [y]))) else H4 D=some (.lst ys)/\Iv (i+1) ys iI H4)
  (hd:∀ys Z H,H D=some (.lst ys)->Iv n ys Z H->Q (.ref D) H):pK J g tc te Gy H1 Q D:=by
 refine⟨λi m Z H=>m=n-i/\i<=n/\∃ys,H D=some (.lst ys)/\ys.length<=i/\Iv i ys Z H,⟨n,rfl,dz _,[],aB,av _,h0⟩,?_⟩
 rintro i m Z H ⟨rfl,hi,ys,hy,hl,iv⟩
 obtain⟨j1,j2⟩:=hj i ys Z H hi hy iv
 rcases Nat.lt_or_ge i n with lt|ge
 .obtain⟨go,yl⟩:=j2 lt
  refine .inr ⟨go,λiI H4=>H4 D=some (.lst ys)/\Iv (i+1) ys iI H4,λy iI H5=>H5 D=some (.lst ys)/\Iv (i+1) (ys++ [y]) iI (upd H5 D (.lst (ys++ [y]))),λiI H4 q=>?_,λy iI H5 q=>?_,λx H2 q=>?_⟩
  .exact⟨n-(i+1),ω,rfl,lt,ys,q.1,ω,q.2⟩
  .exact⟨ys,n-(i+1),q.1,eF ω,ω,rfl,lt,ys++ [y],aB,by rw[aQ,aN];omega,q.2⟩
  .obtain⟨T,f1,rfl,rfl⟩:=yl x H2 q
   exact hs i ys Z H T lt hy iv f1
 .have e:i=n:=ω
  subst e
  exact .inl ⟨j1 rfl,hd ys Z H hy iv⟩
section
variable {X:Cx}{tg:Expr}
def Jg (hc:X.calm=true):gN X (.builtin "any") (λxs H Q=>∃(p:ai) (bs:List Bool),xs=[.ref p]/\cQ X.K H p (bs.map V.bl)/\Q (.bl (bs.any id)) H):=by
 intro ac s Z H xs us Q I r h
 obtain⟨p,bs,rfl,hq,q⟩:=h
 obtain⟨u,rfl,rx⟩:=AB r
 cases(show u=Value.ref p from rx)
 obtain⟨cV,rv,pl,hz⟩:=I.list hq
 have o7:p<s.heap.objs.size:=by obtain⟨o,e,_⟩:=pl.isList;exact aC e
 refine call_any_walk (iP pl.isList ?_)
 refine⟨s.heap.objs.size,_,_,cV.toArray.size,_,_,λi=>bs.getD i false,rfl,Walks.list (prog:=X.prog) (w:=X.w) (A:=X.A.in1) (I.ok.hd hc) s.heap.objs.size p (bj o7) cV.toArray,⟨⟨_,az _ rfl,rfl,rfl⟩,pl.isList.at λo e=>af _ e⟩,?_,λh' tk hk=>?_⟩
 .intro i v s' Q' E' hP hQ
  have tX:cV[i]?=some v:=by simpa using hP
  have hl:=rv.length
  rw[aq] at hl
  have hi:i<cV.length:=(bD.mp tX).1
  obtain⟨u,hu,ru⟩:=rv.get (i:=i) (x:=V.bl (bs.getD i false)) (by rw[cg,aH ω];simp[List.getD,aH (show i<bs.length by omega)])
  rw[tX] at hu;cases hu
  cases(show v=Value.bool _ from ru)
  exact dI hQ
 .refine⟨.bl _,H,I.kept λb o e=>hk b o (by simpa using bj (aC e)) (af _ e),rfl,?_⟩
  have hl:=rv.length
  rw[aq] at hl
  have e:(List.range cV.toArray.size).any (λi=>bs.getD i false)=bs.any id:=by
   rw[aK,<-hl]
   have:(List.range bs.length).map (λi=>bs.getD i false)=bs:=by
    apply F5
    .simp
    .intro i h1 h2;simp[List.getD,aH h2]
   conv=>rhs;rw[<-this]
   rw[S_];rfl
  rw[e];exact q
end
def Jh (h:1<=xs.length):jt xs (some 1) none=xs.drop 1:=by
 unfold jt
 have e1:HT.iA xs.length 0 (some 1)=1:=by
  have:=HT.mx xs.length 0 1
  rw[show((1:Nat):Int)=1 from rfl] at this
  rw[this];omega
 rw[e1,HT.rR,cZ (by rw[dP];exact av _)]
def GH {J:It}{n:Nat}{u v:Nat->V}{g:TG}{te:TE}{Gy:St}{H1:Hp}{Q:VK}{D:ai}(Iv:Nat->List V->St->Hp->Prop) (hD:H1 D=none) (hn:n<=1000)
  (h0:Iv 0 [] Gy (upd H1 D (.lst [])))
  (hj:∀i ys Z H,i<=n->H D=some (.lst ys)->Iv i ys Z H->(i=n->J.stop i H)/\(i<n->J.go i H/\∀x H',J.BS i H x H'->∃T,H T=none/\x=.ref T/\H'=upd H T (.tup [u i,v i])))
  (hs:∀i ys Z H T,i<n->H D=some (.lst ys)->Iv i ys Z H->H T=none->g (.ref T) Z (upd H T (.tup [u i,v i])) λiI H3=>te iI H3 λy H5=>H5 D=some (.lst ys)/\Iv (i+1) (ys++ [y]) iI (upd H5 D (.lst (ys++ [y]))))
  (hd:∀ys Z H,H D=some (.lst ys)->Iv n ys Z H->Q (.ref D) H):pK J g pH te Gy H1 Q D:=
 AY Iv hD hn h0 hj (λi ys Z H T h1 h2 h3 h4=>hs i ys Z H T h1 h2 h3 h4) hd
def yQ:∀{ss:List Str}{us:List ag},cK (ss.map V.str) us->StrsAre us ss
 | [],_,r=>by cases r;exact .nil
 |x::ss,_,r=>by
  cases r with
  |cons r1 r2=>
   obtain⟨t,rfl⟩:=r1
   exact .cons x t (yQ r2)
def yS:∀{us:List ag}{ss:List Str},StrsAre us ss->cK (ss.map V.str) us
 |_,_,.nil=>.nil
 |_,_,.cons x t h=>.cons ⟨t,rfl⟩ (yS h)
section
variable {X:Cx}
def iW:gN X (.builtin "sorted") (λxs H Q=>∃(p:ai) (ss:List Str),xs=[.ref p]/\cQ X.K H p (ss.map V.str)/\ss.length<64/\∀(l:ai) (SD:List Str),H l=none->SD.Perm ss->sortedS SD=true->Q (.ref l) (upd H l (.lst (SD.map V.str)))):=by
 intro ac s Z H xs us Q I r h
 obtain⟨p,ss,rfl,hq,HU,q⟩:=h
 obtain⟨u,rfl,rx⟩:=AB r
 cases(show u=Value.ref p from rx)
 obtain⟨cV,rv,pl,hz⟩:=I.list hq
 have hl:=rv.length
 rw[aq] at hl
 refine sorted_strs pl.isList (yQ rv) ω λout SD a1 a2 a3=>?_
 obtain⟨e,he⟩:=sortedAll_at s.heap cV out
 have fresh:H (s.heap.objs.size+1)=none:=I.eN.fresh (dM _)
 have nS:=a2.length_eq
 refine⟨.ref (s.heap.objs.size+1),upd H (s.heap.objs.size+1) (.lst (SD.map V.str)),I.laid (t':=s.toks) (λb o eb=>sortedAll_old eb) (dM _) ⟨?_,out.toList,e,yS a1,?_⟩,rfl,q _ SD fresh a2 a3⟩
 .rw[aq];exact dE (eF ω)
 .rw[he]
end
end L2
namespace HT
open PySem PyProof.Rows
section
variable {prog:aJ}{w:bB}{A:bH}{E:ag->ak->Prop}{s:ak}
def r_ {t sl:ai}{items:Array ag}{vl vu:ag}{lo hi:Option Int}{Q:ag->ak->Prop}(ht:IsTup s.heap t items) (hs:s.heap.IsSliceOf sl vl vu .none) (pl:IsPart vl lo) (pu:IsPart vu hi)
  (hw:iA items.size 0 lo=0/\iA items.size items.size hi=items.size) (h:Q (.ref t) s):wpAny (model prog w) A (getItem (.ref t) (.ref sl)) Q E s:=by
 obtain⟨os,PC,W9,TY⟩:=id hs
 have Yk:s.TypeIs (.ref sl) "slice":=⟨os,PC,W9⟩
 unfold getItem
 try with_reducible refine cm ?_
 first|refine aa (aj ?_)|skip
 refine aa (Lv ht.typeIs δ ?_)
 refine aa (cM (name:=Str.ofString "__getitem__") ht.typeIs cI
  (dX cI ht.typeIs entry_tuple_getitem ?_ (args_tuple_getitem _ _)))
 show wpAny _ _ (Builtin.Tuple.tupleItemsOf (.ref t)>>=_) _ _ s
 refine aa (tupleItemsOf_ ht ?_)
 refine aa (rF Yk ?_)
 rw[aT δ]
 refine aa (nK hs pl pu ?_)
 show wpAny _ _ (if(((iA items.size 0 lo:Nat):Int)==0&&(1:Int)==1&&(iA items.size items.size hi-iA items.size 0 lo)==items.size)=true then _ else _) _ _ s
 rw[hw.1,hw.2,aT ς]
 unfold Builtin.Tuple.tupleIsExact
 refine aa (aa (rF ht.typeIs (aj ?_)))
 rw[aT δ]
 refine aa (kS ?_)
 exact aj ⟨_,rfl,aj h⟩
end
end HT
namespace L2
open PySem PySem.Spec PyProof.Rows
section
variable {X:Cx}
def P4 (K:Φ):V->Option Int->Option Int->Hp->VK->Prop:=λx lo hi H Q=>∃a xs,x=.ref a/\bZ K H a xs/\
 ((HT.iA xs.length 0 lo=0/\HT.iA xs.length xs.length hi=xs.length)->Q (.ref a) H)/\(¬(HT.iA xs.length 0 lo=0/\HT.iA xs.length xs.length hi=xs.length)->∀p,H p=none->Q (.ref p) (upd H p (.tup (jt xs lo hi))))
def zI:W_ X (P4 X.K):=by
 intro ac s Z H x v vl vu lo hi sl Q I rx hs pl pu h
 obtain⟨a,xs,e,hx,q1,q2⟩:=h
 by_cases hw:HT.iA xs.length 0 lo=0/\HT.iA xs.length xs.length hi=xs.length
 .subst e
  cases rx
  obtain⟨cV,r,ht,hz⟩:=I.tuple hx
  have hlen:cV.toArray.size=xs.length:=by rw[aK];exact r.length.symm
  refine⟨"tuple",_,cI.lookup,ht.typeIs,?_⟩
  exact HT.r_ ht hs pl pu (by rw[hlen];exact hw) ⟨.ref a,H,I,rfl,q1 hw⟩
 .exact zx ac s Z H x v vl vu lo hi sl Q I rx hs pl pu ⟨a,xs,e,hx,hw,q2 hw⟩
end
end L2
namespace HT
open PySem PyProof.Rows
def C4 (n:Nat):Builtin.Slice.sliceAdjust none none (-1) (n:Int)=((n:Int)-1,-1):=by
 unfold Builtin.Slice.sliceAdjust
 simp
def C5 (n:Nat):Builtin.Slice.slicePlaces ((n:Int)-1) (-1) (-1)=n:=by
 unfold Builtin.Slice.slicePlaces
 simp
 omega
def filterMap_some {α β:Type}{f:α->Option β}{g:α->β}:∀{l:List α},(∀a∈l,f a=some (g a))->l.filterMap f=l.map g
 | [],_=>rfl
 |a::l,h=>by
  rw[iM,h a cy,bQ,filterMap_some λb hb=>h b (cB _ hb)]
def Ji (xs:Array ag):((List.range xs.size).filterMap λ(m:Nat)=>xs[(((xs.size:Nat):Int)-1+(m:Int)*(-1)).toNat]?).toArray=xs.toList.reverse.toArray:=by
 congr 1
 have:∀m∈List.range xs.size,(λ(m:Nat)=>xs[(((xs.size:Nat):Int)-1+(m:Int)*(-1)).toNat]?) m=some (xs.toList.reverse.getD m .none):=λm hm=>by
  have UA:=qw.mp hm
  have e:((((xs.size:Nat):Int)-1+(m:Int)*(-1)).toNat)=xs.size-1-m:=ω
  show xs[(((xs.size:Nat):Int)-1+(m:Int)*(-1)).toNat]?=_
  rw[e,Array.getElem?_eq_getElem ω]
  simp[List.getD,UA]
 rw[filterMap_some (g:=λm=>xs.toList.reverse.getD m .none) this]
 apply F5
 .simp
 .intro i h1 h2
  have PY:i<xs.size:=by simpa using h2
  simp[List.getD,PY]
section
variable {prog:aJ}{w:bB}{A:bH}{E:ag->ak->Prop}{s:ak}
def AZ {n:Nat}(hs:s.heap.IsSliceOf sl .none .none vk) (pk:IsPart vk (some (-1))) (h:Q ((n:Int)-1,-1,n) s):wpAny (model prog w) A (Builtin.Slice.sliceApplied (.ref sl) (pure (n:Int))) Q E s:=by
 obtain⟨os,o1,o2,o3⟩:=id hs
 unfold Builtin.Slice.sliceApplied Builtin.Slice.sliceFields
 refine aa (aa (bR o1 o3 (x:=.none) rfl (aa (bR o1 o3 (x:=.none) rfl (aa (bR o1 o3 (x:=vk) rfl (aj ?_)))))))
 refine aa (qN pk ?_)
 refine(?_:wpAny _ _ (if((-1:Int)==0)=true then _ else _) _ _ s)
 rw[aP δ]
 refine aa (NR (aa (NR (aa (aj ?_)))))
 refine(?_:wpAny _ _ (match Builtin.Slice.sliceAdjust none none (-1) (n:Int) with|(lo,hi)=>pure (lo,(-1:Int),Builtin.Slice.slicePlaces lo hi (-1))) _ _ s)
 rw[C4]
 refine(?_:wpAny _ _ (pure ((n:Int)-1,(-1:Int),Builtin.Slice.slicePlaces ((n:Int)-1) (-1) (-1))) _ _ s)
 rw[C5]
 exact aj h
def se (ht:IsTup s.heap t items) (hs:s.heap.IsSliceOf sl .none .none vk) (pk:IsPart vk (some (-1)))
  (h:Q (.ref s.heap.objs.size) {s with heap:=s.heap.push {cls:=.type "tuple",data:=.seq items.toList.reverse.toArray}}) (hsz:items.size<=sizeLine):wpAny (model prog w) A (getItem (.ref t) (.ref sl)) Q E s:=by
 obtain⟨os,o1,o2,o3⟩:=id hs
 have SE:s.TypeIs (.ref sl) "slice":=⟨os,o1,o2⟩
 have fits:sizeOk (.seq items.toList.reverse.toArray):=by
  show items.toList.reverse.toArray.size<=sizeLine
  simpa using hsz
 unfold getItem
 try with_reducible refine cm ?_
 first|refine aa (aj ?_)|skip
 refine aa (Lv ht.typeIs δ ?_)
 refine aa (cM (name:=Str.ofString "__getitem__") ht.typeIs cI
  (dX cI ht.typeIs entry_tuple_getitem ?_ (args_tuple_getitem _ _)))
 show wpAny _ _ (Builtin.Tuple.tupleItemsOf (.ref t)>>=_) _ _ s
 refine aa (tupleItemsOf_ ht ?_)
 refine aa (rF SE ?_)
 rw[aT δ]
 refine aa (AZ hs pk ?_)
 show wpAny _ _ (if(((items.size:Int)-1)==0&&(-1:Int)==1&&items.size==items.size)=true then _ else _) _ _ s
 rw[aP ς,Ji]
 first
  |exact aa (m:=Builtin.Tuple.tupleExact _) (bJ (aj ⟨_,rfl,aj h⟩) fits)
  |exact aa (m:=Builtin.Tuple.tupleExact _) (bJ (aa (aj (aj ⟨_,rfl,aj h⟩))) fits)
  |exact aa (aa (m:=Builtin.Tuple.tupleExact _) (bJ (aj (aj ⟨_,rfl,aj h⟩)) fits))
  |exact aa (aa (m:=Builtin.Tuple.tupleExact _) (bJ (aj ⟨_,rfl,aj h⟩) fits))
end
end HT
namespace L2
open PySem PySem.Spec PyProof.Rows
section
variable {X:Cx}
def cK.A0:∀{xs:List V}{us:List ag},cK xs us->cK xs.reverse us.reverse
 |_,_,.nil=>.nil
 |_,_,.cons r rs=>by
  rw[List.reverse_cons,List.reverse_cons]
  exact(cK.A0 rs).append (.cons r .nil)
def Md {e st:Expr}{te ts:TE}{p2 pos:Pos}(he:PE X e te) (Ge:PE X st ts) (L9:∀v key:ag,∃ops,subscripted (.Slice none none (some st) p2) false v key=operate ops (getItem v key)):
  PE X (.Subscript e (.Slice none none (some st) p2) pos) (λZ H Q=>te Z H λx H1=>ts Z H1 λy H2=>∃a xs,x=.ref a/\y=.int (-1)/\bZ X.K H2 a xs/\∀p,H2 p=none->Q (.ref p) (upd H2 p (.tup xs.reverse))):=by
 intro ac s Z H Q I h
 refine Subscript_ (fE (he ac s Z H _ I h) λv s1 c_=>?_)
 obtain⟨x,H1,I1,r1,q1⟩:=c_
 refine wpAny_Slice ?_
 rw[evalPart_none,evalPart_some]
 refine aj (aj (fE (Ge ac s1 Z H1 _ I1 q1) λvk s2 c_=>?_))
 obtain⟨y,H2,I2,r2,q2⟩:=c_
 obtain⟨a,xs,rfl,rfl,hx,q⟩:=q2
 obtain⟨tk,rfl⟩:=(show∃t,vk=Value.int (-1) t from r2)
 cases(show v=Value.ref a from r1)
 have I3:Inv X ac Z H2 {s2 with heap:=s2.heap.push {cls:=.type "slice",data:=.fields #[.none,.none,.int (-1) tk]}}:=I2.kept (t':=s2.toks) λb ob q=>af _ q
 obtain⟨cV,r,ht,hz⟩:=I3.tuple hx
 have hlen:=r.length
 show wpAny (model X.prog X.w) X.A (subscriptTail e (.Slice none none (some st) p2) (.ref a) (.ref s2.heap.objs.size)) (EP X ac Z Q) X.xe {s2 with heap:=s2.heap.push {cls:=.type "slice",data:=.fields #[.none,.none,.int (-1) tk]}}
 obtain⟨ops,YL⟩:=L9 (.ref a) (.ref s2.heap.objs.size)
 refine tail_any (ops:=ops) ht.typeIs cI.lookup (HT.se ht (Heap.IsSliceOf.new ..) (.int _ _) ?_ (by rw[aK];omega)) YL
 refine⟨.ref _,_,I3.laid (t':=s2.toks) (o:=.tup xs.reverse) (λb ob q=>af _ q) (av _) ?_,rfl,q _ (I3.eN.fresh (av _))⟩
 exact⟨by rw[List.length_reverse];exact hz,_,cK.A0 r,vJ.new _ _⟩
end
section
variable {prog:aJ}{w:bB}{A:bH}{E:ag->ak->Prop}{s:ak}
def Jj {t:ai}{vs:List ag}{Q:List ag->ak->Prop}(Aw:s.heap.IsTuple t vs.toArray) (q:Q vs {s with heap:=(s.heap.push (seqObj "list" #[] 0)).update s.heap.objs.size (Obj.mapSeq (· ++vs.toArray))}) (A2:vs.length<=sizeLine):
  wpAny (model prog w) A (collect (.ref t)) Q E s:=by
 obtain⟨o,o1,o2,n,o3⟩:=id Aw
 unfold collect
 refine aa (wpAny_runValue (gM entry_proto_collect' ?_));show wpAny _ _ (do again (.builtin "list.__iadd__" ⟨[<-newList [],.ref t],[]⟩)) _ _ s
 refine aa (HL (aj ⟨Ib _ (by decide+kernel),gM entry_list_iadd' ?_⟩));show wpAny _ _ (Builtin.List.listExtendWith (.ref s.heap.objs.size) (.ref t) (.ref s.heap.objs.size)) _ _ {s with heap:=s.heap.push (seqObj "list" #[] 0)}
 unfold Builtin.List.listExtendWith
 have u1:(s.heap.push (seqObj "list" #[] 0)).get? t=some o:=af _ o1
 refine aa (rF (T:="tuple") ⟨o,u1,o2⟩ ?_);rw[aT ς]
 refine aa (listItems_at u1 o3 ?_);refine aa (listItems_at (xs:=#[]) (n:=0) (az _ rfl) rfl ?_)
 rw[aP ς];refine aa (Ta (xs:=#[]) (n:=0) (az _ rfl) rfl (aj ?_) (dz _) (by show(#[]++vs.toArray).size<=sizeLine+1;simp only[Array.size_append,aK,jn];omega))
 refine(?_:wpAny (model prog w) A (load s.heap.objs.size>>=_) Q E {s with heap:=(s.heap.push (seqObj "list" #[] 0)).update s.heap.objs.size (Obj.mapSeq (· ++vs.toArray))});refine aa (wpAny_load (get?_update_seq (az _ rfl) _) ?_)
 refine(?_:wpAny _ _ (pure ((#[]:Array ag)++vs.toArray).toList) Q E _)
 rw[show((#[]:Array ag)++vs.toArray).toList=vs by simp];exact aj q
end
section
variable {X:Cx}
end
section
variable {κ:Type} [DecidableEq κ]
def mY (dW:List (κ×V)) (k:κ):Option V:=(dW.find? λkv=>decide (kv.1=k)).map (·.2)
def putK (dW:List (κ×V)) (k:κ) (v:V):List (κ×V):=
 if(dW.any λkv=>decide (kv.1=k))=true then dW.map (λkv=>if kv.1=k then(kv.1,v) else kv) else dW++ [(k,v)]
def vZ {p:κ×V}{r:List (κ×V)}{k:κ}(e:p.1=k):mY (p::r) k=some p.2:=by simp[mY,lh,e]
def v_ {p:κ×V}{r:List (κ×V)}{k:κ}(e:¬p.1=k):mY (p::r) k=mY r k:=by simp[mY,lh,e]
def A3 (k:κ):∀dW:List (κ×V),(dW.any λkv=>decide (kv.1=k))=(mY dW k).isSome
 | []=>rfl
 |p::r=>by
  rw[kT]
  by_cases e:p.1=k
  .simp only[vZ e,aI e,Bool.true_or,Option.isSome_some]
  .rw[v_ e,bE e,Bool.false_or];exact A3 k r
def pM (dW:List (κ×V)) (k:κ) (v:V):(putK dW k v).length<=dW.length+1:=by
 unfold putK
 split
 .rw[aq];omega
 .rw[aQ,dO,jn];omega
def oW.GJ (r:oW o u):o.isSome=u.isSome:=by
 cases o with
 |none=>cases u with
  |none=>rfl
  |some _=>exact(show False from r).elim
 |some _=>cases u with
  |none=>exact(show False from r).elim
  |some _=>rfl
def KV.val {dW:List (κ×V)}{vs:List (κ×ag)}(r:KV dW vs) (k:κ):oW (mY dW k) (valueAt vs k):=by
 unfold KV at r
 induction r with
 |nil=>exact True.intro
 | @cons p q ps qs h t ih=>
  obtain⟨h1,h2⟩:=h
  by_cases e:p.1=k
  .have e':q.1=k:=h1.symm.trans e
   have b:valueAt (q::qs) k=some q.2:=by simp[valueAt,lh,e']
   rw[vZ e,b];exact h2
  .have e':¬q.1=k:=λz=>e (h1.trans z)
   have b:valueAt (q::qs) k=valueAt qs k:=by simp[valueAt,lh,e']
   rw[v_ e,b];exact ih
def KV.any {dW:List (κ×V)}{vs:List (κ×ag)}(r:KV dW vs) (k:κ):(dW.any λkv=>decide (kv.1=k))=vs.any λkv=>decide (kv.1=k):=by
 unfold KV at r
 induction r with
 |nil=>rfl
 |cons h t ih=>rw[kT,kT,ih,h.1]
def KV.P5 {dW:List (κ×V)}{vs:List (κ×ag)}(r:KV dW vs) (k:κ) {y:V}{u:ag}(ry:RelV y u):
  KV (dW.map λkv=>if kv.1=k then(kv.1,y) else kv) (vs.map λkv=>if kv.1=k then(kv.1,u) else kv):=by
 unfold KV at r⊢
 induction r with
 |nil=>exact .nil
 | @cons p q ps qs h t ih=>
  rw[bQ,bQ]
  refine .cons ?_ ih
  obtain⟨h1,h2⟩:=h
  by_cases e:p.1=k
  .rw[aT e,aT (h1.symm.trans e)];exact⟨h1,ry⟩
  .rw[aP e,aP (λz=>e (h1.trans z))];exact⟨h1,h2⟩
def KV.put {dW:List (κ×V)}{vs:List (κ×ag)}(r:KV dW vs) (k:κ) {y:V}{u:ag}(ry:RelV y u):KV (putK dW k y) (stored vs k u):=by
 unfold putK stored
 rw[r.any k]
 by_cases e:(vs.any λkv=>decide (kv.1=k))=true
 .rw[aT e,aT e];exact r.P5 k ry
 .rw[aP e,aP e];exact d_ r ⟨rfl,ry⟩
def KV.length {dW:List (κ×V)}{vs:List (κ×ag)}(r:KV dW vs):dW.length=vs.length:=qg r
end
def Fc (r:RelV (kV k) u):(gK P w).is k u=true:=by
 cases k with
 |inl i=>obtain rfl:=(show u=Value.bool i from r);exact zp P w i
 |inr x=>obtain⟨t,e⟩:=(show∃t,u=Value.str x t from r);subst e;exact AG P w x t
def yV:∀{ks:List Key}{us:List ag},cK (ks.map kV) us->ItemsAre (gK P w) ks us
 | [],_,r=>by rw[pd] at r;cases r;exact .nil
 |k::ks,_,r=>by
  rw[bQ] at r
  cases r with
  |cons h t=>exact .cons (Fc h) (yV t)
abbrev KT (H:Hp):List (List Key×V)->List (List Key×ai×ag)->Prop:=Paired λp q=>p.1=q.1/\H q.2.1=some (.tup (p.1.map kV))/\RelV p.2 q.2.2
def KT.val (r:KT H dW xs) (k:List Key):oW (mY dW k) ((atKey xs k).map (·.2)):=by
 induction r with
 |nil=>exact True.intro
 | @cons p q ps qs h t ih=>
  obtain⟨h1,_,h2⟩:=h
  by_cases e:p.1=k
  .have e':q.1=k:=h1.symm.trans e
   have b:atKey (q::qs) k=some q.2:=by simp[atKey,lh,e']
   rw[vZ e,b];exact h2
  .have e':¬q.1=k:=λz=>e (h1.trans z)
   have b:atKey (q::qs) k=atKey qs k:=by simp[atKey,lh,e']
   rw[v_ e,b];exact ih
def KT.P5 (r:KT H dW xs) (k:List Key) (ry:RelV y u):
  KT H (dW.map λkv=>if kv.1=k then(kv.1,y) else kv) (xs.map (putAt k u)):=by
 induction r with
 |nil=>exact .nil
 | @cons p q ps qs h t ih=>
  rw[bQ,bQ]
  refine .cons ?_ ih
  obtain⟨h1,h2,h3⟩:=h
  unfold putAt
  by_cases e:p.1=k
  .rw[aT e,aT (h1.symm.trans e)];exact⟨h1,h2,ry⟩
  .rw[aP e,aP (λz=>e (h1.trans z))];exact⟨h1,h2,h3⟩
def KT.put (r:KT H dW xs) (k:List Key) (hb:H b=some (.tup (k.map kV))) (ry:RelV y u):
  KT H (putK dW k y) (storedH xs k b u):=by
 have e:(dW.any λkv=>decide (kv.1=k))=(atKey xs k).isSome:=by
  rw[A3,(r.val k).GJ,Option.isSome_map]
 unfold putK storedH
 rw[e]
 by_cases q:(atKey xs k).isSome=true
 .rw[aT q,aT q];exact r.P5 k ry
 .rw[aP q,aP q];exact d_ r ⟨rfl,hb,ry⟩
def KT.keeps (r:KT H dW xs) (ht:∀b ys,H b=some (.tup ys)->H' b=some (.tup ys)):KT H' dW xs:=
 Paired.Th r λ_ _ z=>⟨z.1,ht _ _ z.2.1,z.2.2⟩
section
variable {P:aJ}{w:bB}{H:Hp}{h:Heap}{a:ai}
def N6 (ok:qB P w H h) (e:Rd H a u):gf P w H h a u:=e.ok ok
def Jk (ok:qB P w H h) (e:Rd H a (.dK dW)):dW.length<=sizeLine/\(a==sysModules)=false/\∃vs,KV dW vs/\h.DictOf (gK P w) a vs:=
 show gf P w H h a (.dK dW) from N6 ok e
def N8 (ok:qB P w H h) (e:H a=some (.dK dW)):dW.length<=sizeLine/\(a==sysModules)=false/\∃vs,KV dW vs/\h.DictOf (gK P w) a vs:=Jk ok (.inl e)
def C6 {ks:List Key}(ok:qB P w H h) (e:H a=some (.tup (ks.map kV))):(tupleKind (gK P w)).is h ks a:=by
 obtain⟨_,cV,r,o,h1,h2,_,n,h3⟩:=(show gf P w H h a (.tup (ks.map kV)) from ok a _ e)
 exact⟨o,cV.toArray,n,h1,h2,h3,by simpa using yV r⟩
def Jl (ok:qB P w H h) (e:Rd H a (.dT dW)):dW.length<=sizeLine/\(a==sysModules)=false/\
  ∃xs,KT H dW xs/\h.DictOfH (tupleKind (gK P w)) a xs:=by
 obtain⟨z,y,xs,r,o,es,ep,h1,h2,h3,h4,h5⟩:=(show gf P w H h a (.dT dW) from N6 ok e)
 refine⟨z,y,xs,r,o,es,ep,h1,h2,h3,h4,λx hx=>?_,h5⟩
 have all:∀{l:List (List Key×V)} {m:List (List Key×ai×ag)},KT H l m->∀x∈m,(tupleKind (gK P w)).is h x.1 x.2.1:=by
  intro l m q
  induction q with
  |nil=>intro x hx;exact nomatch hx
  | @cons p q ps qs hq t ih=>
   intro x hx
   rcases aD.mp hx with e|hx
   .subst e
    exact C6 ok (by rw[<-hq.1];exact hq.2.1)
   .exact ih x hx
 exact all r x hx
def UB (ok:qB P w H h) (e:H a=some (.dT dW)):dW.length<=sizeLine/\(a==sysModules)=false/\
  ∃xs,KT H dW xs/\h.DictOfH (tupleKind (gK P w)) a xs:=Jl ok (.inl e)
end
def iB (H:Hp) (a:ai) (y:V) (r:Option V):Prop:=
 (∃dW k,Rd H a (.dK dW)/\y=kV k/\r=mY dW k)\/∃dW k b,Rd H a (.dT dW)/\y=.ref b/\H b=some (.tup (k.map kV))/\r=mY dW k
def C7 (H:Hp) (a:ai) (y v:V) (H':Hp):Prop:=
 (∃dW k,H a=some (.dK dW)/\y=kV k/\dW.length<sizeLine/\H'=upd H a (.dK (putK dW k v)))\/
 ∃dW k b,H a=some (.dT dW)/\y=.ref b/\H b=some (.tup (k.map kV))/\dW.length<sizeLine/\H'=upd H a (.dT (putK dW k v))
def iB.k {k:Key}(e:H a=some (.dK dW)):iB H a (kV k) (mY dW k):=.inl ⟨dW,k,.inl e,rfl,rfl⟩
def C7.k {k:Key}(e:H a=some (.dK dW)) (hl:dW.length<sizeLine):C7 H a (kV k) v (upd H a (.dK (putK dW k v))):=.inl ⟨dW,k,e,rfl,hl,rfl⟩
section
variable {X:Cx}{ac:List (ai×Obj)}{Z:St}{H:Hp}{s:ak}{a:ai}{y v:V}{u r:ag}{o:Option V}{A:bH}{E:ag->ak->Prop}
def Inv.big (I:Inv X ac Z H s):sysModules<s.heap.objs.size:=by
 have h:mainGlobals<s.heap.objs.size:=(I.mod.glob.keeps I.bk).lt
 exact fA δ h
def GK {Q:ag->ak->Prop}(hu:A.units+1<cLine) (I:Inv X ac Z H s) (g:iB H a y (some v)) (ry:RelV y u) (h:∀w' s',Inv X ac Z H s'->RelV v w'->Q w' s'):
  wpAny (model X.prog X.w) A (getItem (.ref a) u) Q E s:=by
 rcases g with⟨dW,k,e,ey,l⟩|⟨dW,k,b,e,ey,eb,l⟩
 .subst ey
  obtain⟨z,hd,vs,rel,dd⟩:=Jk I.eN e
  obtain⟨w',hw,Gf⟩:=oW.some_of (v:=v) (o:=valueAt vs k) (by rw[l];exact rel.val k)
  exact wpAny_getItem_of (Fc ry) dd.mapOf hw (h w' _ (I.tok _) Gf)
 .subst ey
  cases(show u=Value.ref b from ry)
  obtain⟨z,hd,xs,rel,dd⟩:=Jl I.eN e
  obtain⟨w',hw,Gf⟩:=oW.some_of (v:=v) (o:=(atKey xs k).map (·.2)) (by rw[l];exact rel.val k)
  obtain⟨p,hp,Xc⟩:=Tc.mp hw
  refine wpAny_getItem_heap (tupleKind_room_in1 hu) (C6 I.eN eb) dd hp ?_
  rw[Xc]
  exact h w' _ (I.tok _) Gf
def zJ {h':Heap}{t':Nat}{ob:HO}(I:Inv X ac Z H s) (mu:Ti (H a)) (hs:Heap.SameBut a s.heap h') (he:∃q,h'.get? a=some q) (new:gf X.prog X.w (upd H a ob) h' a ob):
  Inv X ac Z (upd H a ob) {s with heap:=h',toks:=t'}:=
 I.write (x:=a) (e:=a) mu (.inl rfl) (λb q hb z=>(hs.2 b hb).trans z) he new
def Jm (z:dW.length<=sizeLine) (hd:(a==sysModules)=false) (rel:KV dW vs) (dd:h'.DictOf (gK P w) a vs):
  gf P w H' h' a (.dK dW):=⟨z,hd,vs,rel,dd⟩
def GL {H':Hp}{Q:Unit->ak->Prop}(hu:A.units+1<cLine) (I:Inv X ac Z H s) (g:C7 H a y v H') (ry:RelV y u) (rv:RelV v r) (h:∀s',Inv X ac Z H' s'->Q () s'):
  wpAny (model X.prog X.w) A (setItem (.ref a) u r) Q E s:=by
 rcases g with⟨dW,k,e,ey,l,eH⟩|⟨dW,k,b,e,ey,eb,l,eH⟩
 .subst ey eH
  obtain⟨z,hd,vs,rel,dd⟩:=N8 I.eN e
  have hz:vs.length<=sizeLine:=by rw[<-rel.length];exact z
  have hl:(putK dW k v).length<=sizeLine:=by have:=pM dW k v;omega
  refine wpAny_setItem_pairs (hsz:=hz) (Fc ry) dd λh' P6 hs=>h _ ?_
  have he:∃q,h'.get? a=some q:=let⟨q,_,_,hq,_⟩:=P6;⟨q,hq⟩
  exact zJ I (by rw[e];exact True.intro) hs he (Jm hl hd (rel.put k rv) P6)
 .subst ey eH
  cases(show u=Value.ref b from ry)
  obtain⟨z,hd,xs,rel,dd⟩:=UB I.eN e
  have hz:xs.length<=sizeLine:=by rw[<-qg rel];exact z
  have hl:(putK dW k v).length<=sizeLine:=by have:=pM dW k v;omega
  refine wpAny_setItem_heap (hsz:=hz) (tupleKind_room_in1 hu) (C6 I.eN eb) dd λh' P6 hs=>h _ ?_
  obtain⟨q,es,ep,hq,h2,h3,h4,_,h5⟩:=P6
  refine zJ I (by rw[e];exact True.intro) hs ⟨q,hq⟩ ⟨hl,hd,_,(rel.put k eb rv).keeps λc ys ec=>?_,q,es,ep,hq,h2,h3,h4,h5⟩
  rw[bb (yk ec e (λz=>nomatch z))]
  exact ec
end
section
variable {X:Cx}{ac:List (ai×Obj)}{Z:St}{H:Hp}{s:ak}{a:ai}{dW:List (Key×V)}{k:Key}{u:ag}{A:bH}{E:ag->ak->Prop}
end
def UC (i:Expr):Prop:=∀ov iv,subscripted i false ov iv=operate [ov,iv] (getItem ov iv)
def Me {T id:String}
  (hl:typeLookup (.type T) "__getitem__"=pure (some (.builtin id))) (hs:UC slice)
  (h:wpAny (model prog w) A (eval value env) (λo fq=>wpAny (model prog w) A (eval slice env) (λi tS=>tS.TypeIs o T/\wpAny (model prog w) A (getItem o i) Q E tS) E fq) E s):
  wpAny (model prog w) A (eval (.Subscript value slice pos) env) Q E s:=by
 refine Subscript_ (bF h (λo fq Gw=>bF Gw (λi tS IQ=>?_) λ_ _ x=>x) λ_ _ x=>x)
 obtain⟨hT,IQ⟩:=IQ
 unfold subscriptTail
 refine aa ?_
 rw[getitemInPython_of_ne hT.not_modules]
 refine aa (wpAny_specialOf hT hl ?_)
 have fin:wpAny (model prog w) A (subscripted slice false o i) (λr Gv=>wpAny (model prog w) A (letTemporaryGo value o r>>=λ_=>pure r) Q E Gv) E tS:=by
  rw[hs o i]
  exact wpAny_operating (bF IQ (λr Gv LZ=>aa (wpAny_letTemporaryGo (aj LZ))) λ_ _ x=>x)
 first
  |exact aj (aa fin)
  |exact aa (aj (aa fin))
  |exact aa fin
def A5 (I:Inv X ac Z H s) (g:iB H a y o):s.TypeIs (.ref a) "dict":=by
 rcases g with⟨dW,k,e,_,_⟩|⟨dW,k,b,e,_,_,_⟩
 .obtain⟨_,_,vs,_,dd⟩:=Jk I.eN e
  exact dd.typeIs
 .obtain⟨_,_,xs,_,dd⟩:=Jl I.eN e
  exact dd.typeIs
def Jn (td ty:TE):TE:=λZ H Q=>td Z H λx H1=>ty Z H1 λy H2=>∃a v,x=.ref a/\iB H2 a y (some v)/\Q v H2
section
variable {X:Cx}{o i e value:Expr}{pos pos' Yh:Pos}{td ty tv:TE}
def fB (hu:X.A.units+1<cLine) (ho:PE X o td) (hi:PE X i ty) (hs:UC i:=by intro _ _;rfl):PE X (.Subscript o i pos) (Jn td ty):=by
 intro ac s Z H Q I h
 refine Me PySem.F.slot_dict_getitem.lookup hs (fE (ho ac s Z H _ I h) λu s1 c_=>?_)
 obtain⟨x,H1,I1,rx,q1⟩:=c_
 refine fE (hi ac s1 Z H1 _ I1 q1) λiv s2 AJ=>?_
 obtain⟨y,H2,I2,ry,a,v,ex,g,q2⟩:=AJ
 subst ex
 obtain rfl:u=Value.ref a:=rx
 exact⟨A5 I2 g,GK hu I2 g ry λw' s3 I3 Gf=>⟨v,H2,I3,Gf,q2⟩⟩
end
def Jo (h:Heap) (hb:sysModules<h.objs.size):gf P w H (h.push {cls:=.type "dict",data:=.dict #[]}) h.objs.size (.dK []):=
 ⟨dz _,oZ.mpr (cG (bj hb)),[],.nil,Heap.DictOf.new h⟩
section
variable {X:Cx}{pos:Pos}
end
def C8:List (TE×TE)->St->Hp->(List (V×V)->Hp->Prop)->Prop
 | [],_,H,Q=>Q [] H
 |(tk,tv)::r,Z,H,Q=>tk Z H λx H1=>tv Z H1 λy H2=>C8 r Z H2 λps H3=>Q ((x,y)::ps) H3
abbrev VV:List (V×V)->List (ag×ag)->Prop:=Paired λp q=>RelV p.1 q.1/\RelV p.2 q.2
def Xd (X:Cx) (pos:Pos) (keys:List (Option Expr)) (values:List Expr) (P7:List (TE×TE)):Prop:=
 ∀(ac:List (ai×Obj)) (s:ak) (Z:St) (H:Hp) (Q:List (V×V)->Hp->Prop),Inv X ac Z H s->C8 P7 Z H Q->
  wpAny (model X.prog X.w) X.A (evalPairs (pairTrees keys values X.env pos)) (λvs s'=>∃ps H',Inv X ac Z H' s'/\VV ps vs/\Q ps H') X.xe s
def Mf:Xd X pos [] [] []:=λac s Z H Q I h=>pairTrees_nil_walk ⟨[],H,I,.nil,h⟩
def pN (hk:PE X k tk) (hv:PE X v tv) (hr:Xd X pos ks vs P7):
  Xd X pos (some k::ks) (v::vs) ((tk,tv)::P7):=λac s Z H Q I h=>
 pairTrees_cons_walk (fE (hk ac s Z H _ I h) λu s1 ⟨x,H1,I1,rx,q1⟩=>fE (hv ac s1 Z H1 _ I1 q1) λw2 s2 ⟨y,H2,I2,ry,q2⟩=>
  fE (hr ac s2 Z H2 _ I2 q2) λws s3 ⟨ps,H3,I3,rel,q3⟩=>⟨(x,y)::ps,H3,I3,.cons ⟨rx,ry⟩ rel,q3⟩)
def qT (dW more:List (Key×V)):List (Key×V):=more.foldl (λacc kv=>putK acc kv.1 kv.2) dW
def KV.merge:∀{more:List (Key×V)}{rs:List (Key×ag)}{dW:List (Key×V)}{vs:List (Key×ag)},KV more rs->KV dW vs->KV (qT dW more) (merged vs rs):=by
 intro more rs dW vs r
 unfold KV at r
 induction r generalizing dW vs with
 |nil=>intro q;exact q
 | @cons p q ps qs h t ih=>
  intro r0
  have e:KV (putK dW p.1 p.2) (stored vs q.1 q.2):=by
   have:=r0.put p.1 h.2
   rw[<-h.1];exact this
  exact ih e
def qF:∀(more dW:List (Key×V)),(qT dW more).length<=dW.length+more.length
 | [],dW=>by show dW.length<=dW.length+0;omega
 |p::r,dW=>by
  have h1:=qF r (putK dW p.1 p.2)
  have h2:=pM dW p.1 p.2
  show(qT (putK dW p.1 p.2) r).length<=_
  rw[dO];omega
def wc:∀{dW:List (Key×V)}{ws:List (ag×ag)},VV (dW.map λkv=>(kV kv.1,kv.2)) ws->∃rs,Carries (gK P w) ws rs/\KV dW rs
 | [],_,r=>by rw[pd] at r;cases r;exact⟨[],True.intro,.nil⟩
 |p::dW,_,r=>by
  rw[bQ] at r
  cases r with
  | @cons a b as bs h t=>
   obtain⟨rs,c,q⟩:=wc (P:=P) (w:=w) t
   obtain⟨b1,b2⟩:=b
   exact⟨(p.1,b2)::rs,⟨Fc h.1,rfl,c⟩,.cons ⟨rfl,h.2⟩ q⟩
def UD (P7:List (TE×TE)):TE:=λZ H Q=>∀p,H p=none->C8 P7 Z (upd H p (.dK [])) λps H2=>H2 p=some (.dK [])/\∃dW:List (Key×V),ps=dW.map (λkv=>(kV kv.1,kv.2))/\dW.length<=15/\Q (.ref p) (upd H2 p (.dK (qT [] dW)))
def Mg (h:Xd X pos keys values P7) (PN:keys.all (·.isSome)=true) (hl:keys.length=values.length) (h0:keys≠[])
  (h15:keys.length<=15):PE X (.Dict keys values pos) (UD P7):=by
 intro ac s Z H Q I q
 have hn:=I.eN.fresh (av s.heap.objs.size)
 have I1:=I.laid (a:=s.heap.objs.size) (o:=.dK []) (h':=s.heap.push {cls:=.type "dict",data:=.dict #[]}) (t':=s.toks) (λ_ _ q=>af _ q) (av _) (Jo s.heap I.big)
 refine wpAny_Dict_walk (knd:=gK X.prog X.w) PN hl h0 h15 (fE (h ac _ Z _ _ I1 (q _ hn)) λws s2 c_=>?_)
 obtain⟨ps,H2,I2,rel,e,dW,ep,lk,q2⟩:=c_
 subst ep
 obtain⟨rs,c,rk⟩:=wc (P:=X.prog) (w:=X.w) rel
 obtain⟨z,hd,vs0,r0,dd⟩:=N8 I2.eN e
 cases r0
 refine⟨rs,c,dd,λh' P6 hs=>⟨.ref s.heap.objs.size,_,?_,rfl,q2⟩⟩
 have hz:(qT [] dW).length<=sizeLine:=by
  have h1:=qF dW []
  rw[jn] at h1
  rw[hW];omega
 have he:∃q,h'.get? s.heap.objs.size=some q:=let⟨q,_,_,hq,_⟩:=P6;⟨q,hq⟩
 exact zJ I2 (by rw[e];exact True.intro) hs he (Jm hz hd (rk.merge .nil) P6)
structure M1 (X:Cx) (o:Expr) (m:Str) (apos:Pos) (e:Expr) (kh:Pos):Prop where
 base:attributeBase o m X.env (eval o X.env)=eval o X.env
 few:((backTo kh (starEach [e] X.env)).all (λx=>!x.1)&&(backToKw kh (keywordEach [] X.env)).all (λx=>x.1.isSome)
  &&decide (([e]:List Expr).length+([]:List Keyword).length+(if([]:List Keyword).isEmpty then 0 else 1)<30))=true
 line:(apos.endLine==kh.line)=true
 trees:backTo kh (starEach [e] X.env)=[(false,eval e X.env)]
structure M2 (X:Cx) (o:Expr) (m:Str) (apos:Pos) (e f:Expr) (kh:Pos):Prop where
 base:attributeBase o m X.env (eval o X.env)=eval o X.env
 few:((backTo kh (starEach [e,f] X.env)).all (λx=>!x.1)&&(backToKw kh (keywordEach [] X.env)).all (λx=>x.1.isSome)
  &&decide (([e,f]:List Expr).length+([]:List Keyword).length+(if([]:List Keyword).isEmpty then 0 else 1)<30))=true
 line:(apos.endLine==kh.line)=true
 trees:backTo kh (starEach [e,f] X.env)=[(false,eval e X.env),(false,eval f X.env)]
section
variable {X:Cx}{ac:List (ai×Obj)}{Z:St}{H:Hp}{s:ak}{a:ai}{y d:V}{u r:ag}{o:Option V}{A:bH}{E:ag->ak->Prop}
end
section
variable {X:Cx}{o e f:Expr}{apos kh:Pos}{td ty tx:TE}
end
section
variable {X:Cx}{ac:List (ai×Obj)}{Z:St}{H:Hp}{s:ak}{a:ai}{dW:List (Key×V)}{A:bH}{E:ag->ak->Prop}
end
section
variable {X:Cx}{ac:List (ai×Obj)}{Z:St}{H:Hp}{s:ak}{a:ai}{y:V}{u:ag}{A:bH}{E:ag->ak->Prop}
end
end L2
namespace HT
open PySem PySem.Spec PyProof.Rows
section
variable {prog:aJ}{w:bB}{A:bH}{E:ag->ak->Prop}{s:ak}{d c:ai}{es:Array DictEntry}{ep i:Nat}
end
end HT
namespace L2
open PySem PySem.Spec PyProof.Rows
section
variable {X:Cx}{ac:List (ai×Obj)}{Z:St}{H:Hp}{s:ak}
end
section
variable {X:Cx}
end
section
variable {prog:aJ}{w:bB}{A:bH}{E:ag->ak->Prop}{s:ak}
def A6 (t:ai) (o:Obj) (vs:Array ag) (n:Nat) (hc:o.cls=.type "list") (hd:o.data=.seq vs n):
  Meets (Builtin.«enumerate.__new__» ⟨[.type "enumerate",.ref t],[]⟩) (λ_ R s=>s.heap.get? t=some o/\
   R (.ok (.ret (.ref (s.heap.push {cls:=.type "list_iterator",data:=.fields #[.ref t,.int 0 0]}).objs.size)))
    {s with heap:=(s.heap.push {cls:=.type "list_iterator",data:=.fields #[.ref t,.int 0 0]}).push {cls:=.type "enumerate",data:=.fields #[.none,.bool false,.ref s.heap.objs.size,rawInt 0,.none,.none]}}):=
 .of_wp λprog w A R s h=>by
  obtain⟨hp,g,d,tk,os⟩:=s
  obtain⟨qE,h⟩:=h
  have L9:=sub_enumerate
  have Aw:Heap.IsList (Shared.heap ⟨hp,g,d,tk,os⟩) t vs:=⟨_,qE,hc,n,hd⟩
  obtain⟨oc,od,UE,vR⟩:=o
  cases(show oc=Value.type "list" from hc)
  cases(show UE=Data.seq vs n from hd)
  wp_walk using vD qE
  refine wpAny_stack_any λst=>aj ?_
  split
  .rename_i c _ _ _ _ _
   cases(c==Value.type "enumerate")<;>(wp_walk using vD qE,iP Aw;exact⟨_,rfl,h⟩)
  .wp_walk using vD qE,iP Aw
   exact⟨_,rfl,h⟩
def C9 (Aw:s.heap.IsList t vs)
  (q:∀h',IsEnum h' (s.heap.objs.size+1) s.heap.objs.size 0 .none->h'.IsListIter s.heap.objs.size t 0->(∀b o,s.heap.get? b=some o->h'.get? b=some o)->Q (.ref (s.heap.objs.size+1)) {s with heap:=h'}):
  wpAny (model prog w) A (call (.type "enumerate") [.ref t]) Q E s:=by
 obtain⟨o,qE,hc,n,hd⟩:=Aw
 refine callType_new F.called_enumerate δ (F.typeCall_enumerate_1 _) (F.newCall_enumerate_1 _) (λobj=>F.args_object_init_2 obj _) F.entry_enumerate_new (A6 t o vs n hc hd) ⟨qE,?_⟩
 have sz:(s.heap.push {cls:=.type "list_iterator",data:=.fields #[.ref t,.int 0 0]}).objs.size=s.heap.objs.size+1:=cu ..
 refine(?_:_/\_)
 rw[sz]
 have UG:IsEnum ((s.heap.push {cls:=.type "list_iterator",data:=.fields #[.ref t,.int 0 0]}).push {cls:=.type "enumerate",data:=.fields #[.none,.bool false,.ref s.heap.objs.size,rawInt 0,.none,.none]}) (s.heap.objs.size+1) s.heap.objs.size 0 .none:=by
  rw[<-sz]
  exact az _ rfl
 exact⟨⟨_,UG,rfl⟩,q _ UG ⟨_,af _ (az _ rfl),rfl,rfl⟩ λb o e=>af _ (af _ e)⟩
end
def UH (K:Φ) (a:ai):It:=⟨λi H=>∃xs x,cQ K H a xs/\xs[i]?=some x,λi H y H'=>∃T x,H T=none/\y=.ref T/\H'=upd H T (.tup [.int i,x])/\∀xs,cQ K H a xs->xs[i]?=some x,λi H=>∃xs,cQ K H a xs/\i=xs.length⟩
def C_ {P:aJ}{w:bB}{K:Φ}{elts:List Expr}{kk:Nat}{tp:Pos}(a e it:ai) (YM:e≠it):Turn P w K (.Tuple elts kk tp) (UH K a) [e,it] e (λi h=>(∃old,IsEnum h e it i old)/\h.IsListIter it a i) where
 mem:=ς
 obj:=λi h st b hb=>by
  obtain⟨⟨old,e1⟩,⟨o,o1,o2,o3⟩⟩:=st
  simp only[aD,aG,cx] at hb
  rcases hb with rfl|rfl
  .exact⟨_,e1,λv z=>by
    have z':Data.fields _=Data.cell v:=z
    cases z'⟩
  .exact⟨o,o1,λv z=>by rw[o3] at z;cases z⟩
 keep:=λi h h' st kp=>by
  obtain⟨⟨old,e1⟩,⟨o,o1,o2⟩⟩:=st
  exact⟨⟨old,kp e ς _ e1⟩,⟨o,kp it ς o o1,o2⟩⟩
 item:=by
  intro X hP hw hK hc i ac s Z H E I hf st hg
  subst hP hw hK
  obtain⟨xs,x,hq,hx⟩:=hg
  obtain⟨cV,rv,p,hz⟩:=I.list hq
  obtain⟨u,hu,ru⟩:=rv.get hx
  obtain⟨⟨old,e1⟩,BU⟩:=st
  obtain⟨jo,j1,j2,j3⟩:=id BU
  have p':s.heap.IsList a cV.toArray:=p.isList
  obtain⟨to,t1,t2,_⟩:=id p'
  have Su:a≠it:=λz=>by
   rw[z,j1] at t1;cases t1
   rw[j2] at t2
   exact absurd t2 δ
  have nea:e≠a:=λz=>by
   rw[<-z,e1] at t1;cases t1
   exact absurd (show Value.type "enumerate"=Value.type "list" from t2) δ
  have lt:∀b∈[e,it],b<s.heap.objs.size:=λb hb=>by
   simp only[aD,aG,cx] at hb
   rcases hb with rfl|rfl
   .exact aC e1
   .exact aC j1
  have N_:i<cV.length:=(bD.mp hu).1
  refine wpAny_pyNext_enum_itemD (Draws.list (A:=X.A.in1) (I.ok.hd hc) it a Su cV.toArray) e1 ⟨BU,p'⟩ (by simpa using N_) YM (by simp[YM,nea]) λx' h' tk hP ho hs' hT hsz hk=>?_
  have ex:x'=u:=by
   have:cV[i]?=some x':=by simpa using hP
   rw[hu] at this;exact(cR this).symm
  subst ex
  refine⟨_,rfl,wpAny_letOwnedTupleGo_enum ho λh2 YN Mb=>?_⟩
  have nT:s.heap.objs.size≠e:=ie (lt e ς)
  obtain⟨f1,f2,f3⟩:=I.out (h':=h2) (t':=tk+1) (xs:=[.int i,x]) (us:=[.int i tk,x']) hf lt (.cons ⟨tk,rfl⟩ (.cons ru .nil)) (dZ)
   (λb o hb q=>(Mb.2 b (λz=>hb (by simp[z]))).trans (hk b o (λz=>hb (by simp[z])) (λz=>hb (by simp[z])) q)) ((Mb.2 _ nT).trans hT)
  obtain⟨⟨io,i1,i2⟩,_⟩:=hs'
  exact⟨.ref s.heap.objs.size,_,f2,rfl,⟨_,x,f1,rfl,rfl,λys hy=>by rw[I.rM hy hq];exact hx⟩,⟨⟨x',by simpa using YN⟩,⟨io,(Mb.2 it YM.symm).trans i1,i2⟩⟩,f3⟩
 done:=by
  intro X hP hw hK hc i ac s Z H E I hf st hg
  subst hP hw hK
  obtain⟨xs,hq,hx⟩:=hg
  obtain⟨cV,rv,p,hz⟩:=I.list hq
  obtain⟨⟨old,e1⟩,BU⟩:=st
  obtain⟨jo,j1,j2,j3⟩:=id BU
  have p':s.heap.IsList a cV.toArray:=p.isList
  obtain⟨to,t1,t2,_⟩:=id p'
  have Su:a≠it:=λz=>by
   rw[z,j1] at t1;cases t1
   rw[j2] at t2
   exact absurd t2 δ
  have hl:=rv.length
  have ei:i=cV.toArray.size:=by rw[aK];omega
  refine wpAny_pyNext_enum_endD (Draws.list (A:=X.A.in1) (I.ok.hd hc) it a Su cV.toArray) e1 (by rw[<-ei];exact⟨BU,p'⟩) λh' eb=>⟨rfl,I.vm (t':=s.toks) hf λb o hb q=>eb b o (λz=>hb (by simp[z])) q⟩
 self:=λ_ _ _ _ _ st q=>by
  obtain⟨⟨old,e1⟩,_⟩:=st
  exact wpAny_pyIter_enum e1 q
def P8 (K:Φ) (ta:TA):TI:=λZ H R=>ta Z H λvs H1=>∃a,vs=[.ref a]/\(∃xs,cQ K H1 a xs)/\R (UH K a) H1
def A7 (hg:Gl X "enumerate") (hm:X.mg "enumerate"=none) (ha:PA X [a] ta) (hs:starEach [a] X.env=[(false,eval a X.env)]:=by rfl):
  PI X (.Tuple elts kk tp) (.Call (.Name "enumerate" p) [a] [] pos) (P8 X.K ta):=by
 intro ac s Z H R I h
 refine Call_ (qJ I hg hm CY (gJ (fE (ha pos ac s Z H _ I h) λus s1 c_=>?_) hs rfl))
 obtain⟨vs,H1,I1,r1,q1⟩:=c_
 obtain⟨ad,e,⟨xs,hq⟩,q⟩:=q1
 subst e
 obtain⟨u,rfl,ru⟩:=AB r1
 cases(show u=Value.ref ad from ru)
 obtain⟨cV,rv,tp',hz⟩:=I1.list hq
 refine C9 (show s1.heap.IsList ad cV.toArray from tp'.isList) λh' UG isI kp=>wpAny_pyIter_enum UG ?_
 refine⟨_,[s1.heap.objs.size+1,s1.heap.objs.size],_,_,H1,rfl,I1.kept (t':=s1.toks) kp,C_ ad _ _ (Nat.succ_ne_self _),⟨⟨_,UG⟩,isI⟩,λb hb=>?_,q⟩
 simp only[aD,aG,cx] at hb
 rcases hb with rfl|rfl
 .exact I1.zv (dM _) (I1.eN.fresh (dM _))
 .exact I1.zv (av _) (I1.eN.fresh (av _))
def yW {K:Φ}{a:ai}{xs:List V}{g:TG}{tb:TS}{D:Ends}{Z:St}{H:Hp}(Pv:Nat->St->Hp->Prop) (h0:Pv 0 Z H) (hl:∀i Z H,i<=xs.length->Pv i Z H->cQ K H a xs)
  (hs:∀i x Z H T,xs[i]?=some x->Pv i Z H->H T=none->g (.ref T) Z (upd H T (.tup [.int i,x])) λiI H2=>tb {D with nx:=Pv (i+1),ct:=Pv (i+1),bk:=D.nx} iI H2) (hd:∀Z H,Pv xs.length Z H->D.nx Z H):
  ∃W:Nat->Nat->St->Hp->Prop,(∃m,W 0 m Z H)/\∀i m Z H,W i m Z H->
   ((UH K a).stop i H/\D.nx Z H)\/((UH K a).go i H/\∃N:St->Hp->Prop,(∀bX H',N bX H'->∃m',m'<m/\W (i+1) m' bX H')/\∀x H',(UH K a).BS i H x H'->g x Z H' λiI H2=>tb {D with nx:=N,ct:=N,bk:=D.nx} iI H2):=by
 refine⟨λi m Z H=>m=xs.length-i/\i<=xs.length/\Pv i Z H,⟨xs.length,ς,dz _,h0⟩,?_⟩
 rintro i m Z H ⟨rfl,hi,iv⟩
 have sq:=hl i Z H hi iv
 rcases Nat.lt_or_ge i xs.length with lt|ge
 .refine .inr ⟨⟨xs,xs[i],sq,by simp[lt]⟩,Pv (i+1),λbX H' p'=>⟨xs.length-(i+1),ω,rfl,lt,p'⟩,λx H' y=>?_⟩
  obtain⟨T,z,f1,rfl,rfl,f2⟩:=y
  exact hs i z Z H T (f2 xs sq) iv f1
 .have e:i=xs.length:=ω
  subst e
  exact .inl ⟨⟨xs,sq,rfl⟩,hd Z H iv⟩
end L2
namespace HT
open PySem PySem.Spec PyProof.Rows
section
variable {prog:aJ}{w:bB}{A:bH}{E:ag->ak->Prop}{s:ak}
end
section
variable {prog:aJ}{w:bB}{A:bH}{R:Result->ak->Prop}{I:ai}{fp wr:List ai}{n:Nat}{P:Nat->ag->Prop}{St:Nat->Heap->Prop}
end
end HT
namespace L2
open PySem PySem.Spec PyProof.Rows
section
variable {X:Cx}{ac:List (ai×Obj)}{Z:St}{H:Hp}{s:ak}
end
section
variable {X:Cx}
end
end L2
namespace HT
open PySem PySem.Spec PyProof.Rows L2
section
variable {prog:aJ}{w:bB}{A:bH}{R:Result->ak->Prop}{I:ai}{fp wr:List ai}{G:Array GenState->Array GenState->Prop}{n:Nat}{P:Nat->ag->Prop}{St:Nat->ak->Prop}
end
section
variable {prog:aJ}{w:bB}{A:bH}{E:ag->ak->Prop}{s:ak}
end
end HT
namespace L2
open PySem PySem.Spec PyProof.Rows HT
section
variable {X:Cx}
end
end L2
namespace L2
open PySem PySem.Spec PyProof.Rows
section
variable {X:Cx}{ac:List (ai×Obj)}{Z:St}{H:Hp}{s:ak}
end
section
variable {X:Cx}{a b:Expr}{ta tb:TE}{pos:Pos}{rest:List Expr}
def P9 (K:Φ) (ta tb:TE):TE:=λZ H Q=>ta Z H λx H1=>∃k,TN K x H1 k/\if k=true then Q x H1 else tb Z H1 Q
def P_ (ha:PE X a ta) (hb:PE X (.BoolOp .Or (b::rest) pos) tb):PE X (.BoolOp .Or (a::b::rest) pos) (P9 X.K ta tb):=by
 intro ac s Z H Q I h
 refine BoolOp_or (fE (ha ac s Z H _ I h) λv s1 c_=>?_)
 obtain⟨x,H1,I1,r1,k,tr,q1⟩:=c_
 refine fE (Px ac s1 Z H1 x v (λb H'=>b=k/\H'=H1) I1 r1 ⟨k,tr,rfl,rfl⟩) λc s2 c_=>?_
 obtain⟨H2,I2,e1,e2⟩:=c_
 subst e1 e2
 cases c with
 |false=>exact hb ac s2 Z H2 Q I2 q1
 |true=>exact⟨x,H2,I2,r1,q1⟩
end
section
variable {X:Cx}
end
end L2
namespace HT
open PySem PySem.Spec PyProof.Rows L2
def Dc (A:bH) (s:ak) (y x:ag) (b:Bool):Prop:=
 ∀(prog:aJ) (w:bB) (E:ag->ak->Prop) (Q:ag->ak->Prop),Q (.bool b) s->wpAny (model prog w) A (richCompare .Lt y x) Q E s
inductive Lex (A:bH) (s:ak):List ag->List ag->Bool->Prop
 |nn:Lex A s [] [] false
 |nc {y:ag} {ys:List ag}:Lex A s [] (y::ys) true
 |cn {x:ag} {xs:List ag}:Lex A s (x::xs) [] false
 |eq {x y:ag} {xs ys:List ag} {r:Bool}:SeqAt.EqAt A s x y true->Lex A s xs ys r->Lex A s (x::xs) (y::ys) r
 |lt {x y:ag} {xs ys:List ag} {r:Bool}:SeqAt.EqAt A s x y false->Dc A s x y r->Lex A s (x::xs) (y::ys) r
section
open PySem.SeqAt
open PySem.AutoSeq1 (wpAny_loadPart')
open PySem.MeetsSeq PySem.MeetsSeq2 PySem.MeetsSeq3
end
section
variable {A:bH}{s:ak}
def Dc.int (a:Int) (t:Tok) (c:Int) (u:Tok):Dc A s (.int a t) (.int c u) (decide (a<c)):=λprog w E Q h=>(lt_int h:wpAny (model prog w) A (compareOp .Lt (.int a t) (.int c u)) Q E s)
def Dc.str (a:Str) (t:Tok) (c:Str) (u:Tok):Dc A s (.str a t) (.str c u) (decide (a.cps.toList<c.cps.toList)):=λprog w E Q h=>(lt_str h:wpAny (model prog w) A (compareOp .Lt (.str a t) (.str c u)) Q E s)
def eg (a b:Str):Bool:=decide (a.cps.toList<b.cps.toList)
end
def Qa (prog:aJ) (w:bB) (A:bH) (P:Nat->ag->Prop) (St:Nat->Heap->Prop) (bt:Nat->Nat->Bool):Prop:=
 ∀i j vi vj k (s:ak) (Q:ag->ak->Prop) (E:ag->ak->Prop),St k s.heap->P i vi->P j vj->Q (.bool (bt i j)) s->wpAny (model prog w) A (richCompare .Lt vi vj) Q E s
section
variable {prog:aJ}{w:bB}{A:bH}{R:Result->ak->Prop}{I:ai}{fp wr:List ai}{n:Nat}{P:Nat->ag->Prop}{St:Nat->Heap->Prop}
def GN (W:Walks prog w A.in1 I fp wr n P St) (bt:Nat->Nat->Bool) (cmp:Qa prog w A.in1 P St bt) (S:ai) (out:S∉fp) (kw:List (Str×ag)):
  ∀(k j:Nat) (s:ak) (vb:ag) (c:Nat),n-(j+1)=k->j+1<=n->St (j+1) s.heap->P (argBest bt j) vb->s.heap.get? S=some {cls:=.type "list",dict:=none,data:=.seq #[vb,vb] c,slots:=#[]}->
  (∀v h' tk,P (argBest bt (n-1)) v->(∀b o,b∉wr->b≠S->s.heap.get? b=some o->h'.get? b=some o)->R (.ok (.ret v)) {s with heap:=h',toks:=tk})->
  codeAny (model prog w) A (.builtin "min.loop" ⟨[.ref I,.none,.ref S],kw⟩) R s:=by
 have away:S∉wr:=λh=>out (W.sub _ h)
 have nm:(toString "min"++toString ".loop":String)="min.loop":=δ
 intro k
 induction k with
 |zero=>
  intro j s vb c hk hj st hb qE q
  have en:j+1=n:=ω
  refine gM O_ ?_;rw[iR jq _]
  show wpAny _ A.in1 (seqItems? (.ref S)>>=_) _ _ s;refine aa (cw qE rfl ?_);show wpAny _ A.in1 (tryCatch (pyNext (.ref I)) _>>=_) _ _ s;refine aa (gG (W.done s _ _ (en▸st) λh' tk kp=>?_))
  show wpAny _ A.in1 (updateSeq S (λ_=>#[])>>=_) _ _ _;refine aa ?_;refine mv (kp S _ away qE) rfl (aa (fP (aj ?_)))
  exact q vb _ tk (by rw[<-en];exact hb) λb o h1 h2 e=>(ba _ _ (cG h2)).trans (kp b o h1 e)
 |succ k ih=>
  intro j s vb c hk hj st hb qE q
  have lt:j+1<n:=ω
  refine gM O_ ?_;rw[iR jq _]
  show wpAny _ A.in1 (seqItems? (.ref S)>>=_) _ _ s;refine aa (cw qE rfl ?_);show wpAny _ A.in1 (tryCatch (pyNext (.ref I)) _>>=_) _ _ s;refine aa (gG (W.item (j+1) s _ _ lt st λv h' tk hP um kp=>?_))
  have at2:=kp S _ away qE
  show wpAny _ A.in1 (tryCatch (holding [v,v] (richCompare .Lt v vb>>=_)) _>>=_) _ _ _;refine aa (gG (cm (aa (cmp (j+1) (argBest bt j) v vb _ _ _ _ um hP hb ?_))))
  refine aa (cm (dI ?_));refine aa (fP (aj ?_))
  cases better:bt (j+1) (argBest bt j) with
  |true=>
   simp only[nR]
   refine aa ?_;refine mv at2 rfl (aa (fP ?_))
   rw[nm]
   refine aj ⟨jY jq _,ih (j+1) _ v _ ω lt (W.frame _ _ _ um λb hf o e=>(ba _ _ (λh:S=b=>out (by rw[h];exact hf))).trans e) (by simp only[argBest,better,nR];exact hP) (cY _ at2 rfl) λv' Jp we tX Dd=>?_⟩
   exact q v' Jp we tX λb o h1 h2 e=>Dd b o h1 h2 ((ba _ _ (cG h2)).trans (kp b o h1 e))
  |false=>
   simp only[dD,jj]
   refine aa (fP ?_)
   rw[nm]
   refine aj ⟨jY jq _,ih (j+1) _ vb c ω lt um (by simp only[argBest,better,dD,jj];exact hb) at2 λv' Jp we tX Dd=>?_⟩
   exact q v' Jp we tX λb o h1 h2 e=>Dd b o h1 h2 (kp b o h1 e)
def Dg (W:Walks prog w A.in1 I fp wr n P St) (bt:Nat->Nat->Bool) (cmp:Qa prog w A.in1 P St bt) (S:ai) (out:S∉fp) (pos:0<n) (st:St 0 s.heap)
  (qE:s.heap.get? S=some {cls:=.type "list",dict:=none,data:=.seq #[] c,slots:=#[]})
  (q:∀v h' tk,P (argBest bt (n-1)) v->(∀b o,b∉wr->b≠S->s.heap.get? b=some o->h'.get? b=some o)->R (.ok (.ret v)) {s with heap:=h',toks:=tk}):
  codeAny (model prog w) A (.builtin "min.loop" ⟨[.ref I,.none,.ref S],[]⟩) R s:=by
 have away:S∉wr:=λh=>out (W.sub _ h)
 have nm:(toString "min"++toString ".loop":String)="min.loop":=δ
 refine gM O_ ?_;rw[iR jq _]
 show wpAny _ A.in1 (seqItems? (.ref S)>>=_) _ _ s;refine aa (cw qE rfl ?_);show wpAny _ A.in1 (tryCatch (pyNext (.ref I)) _>>=_) _ _ s;refine aa (gG (W.item 0 s _ _ pos st λv h' tk hP um kp=>?_))
 have at2:=kp S _ away qE
 show wpAny _ A.in1 (updateSeq S (λ_=>#[v,v])>>=_) _ _ _;refine aa ?_;refine mv at2 rfl ?_;rw[nm]
 refine aj ⟨jY jq _,GN W bt cmp S out _ _ 0 _ v _ rfl pos (W.frame _ _ _ um λb hf o e=>(ba _ _ (λh:S=b=>out (by rw[h];exact hf))).trans e) hP (cY _ at2 rfl) λv' Jp we tX Dd=>?_⟩
 exact q v' Jp we tX λb o h1 h2 e=>Dd b o h1 h2 ((ba _ _ (cG h2)).trans (kp b o h1 e))
end
section
variable {prog:aJ}{w:bB}{A:bH}{E:ag->ak->Prop}{s:ak}
end
def zK (a:Str):eg a a=false:=bE (List.lt_irrefl _)
def tZ (h1:eg a b=true) (h2:eg b c=true):eg a c=true:=aI (List.lt_trans (aX h1) (aX h2))
def vn (h:a≠b):eg a b=true\/eg b a=true:=by
 by_cases h1:a.cps.toList<b.cps.toList
 .exact .inl (aI h1)
 .by_cases h2:b.cps.toList<a.cps.toList
  .exact .inr (aI h2)
  .exfalso
   apply h
   have e:a.cps.toList=b.cps.toList:=List.le_antisymm (List.not_lt.mp h2) (List.not_lt.mp h1)
   obtain⟨x⟩:=a
   obtain⟨y⟩:=b
   have:x=y:=Array.toList_inj.mp e
   rw[this]
end HT
namespace L2
open PySem PySem.Spec PyProof.Rows HT
section
variable {X:Cx}
end
end L2
namespace L2
open PySem PySem.Spec PyProof.Rows
section
variable {X:Cx}
def UI (K:Φ):R2:=λx y H Q=>∃a b xs ys,x=.ref a/\y=.ref b/\bZ K H a xs/\bZ K H b ys/\ys≠[]/\xs.length+ys.length<=sizeLine/\
 (xs=[]->Q (.ref b) H)/\(xs≠[]->∀p,H p=none->Q (.ref p) (upd H p (.tup (xs++ys))))
def Fd:lP X (binaryOp .Add) (UI X.K):=by
 intro ac s Z H x y v u Q I rx ry h
 obtain⟨a,b,xs,ys,rfl,rfl,ha,hb,hy,hz,q1,q2⟩:=h
 by_cases hx:xs=[]
 .cases rx
  cases ry
  obtain⟨cV,r1,p1,_⟩:=I.tuple ha
  obtain⟨mj,r2,p2,_⟩:=I.tuple hb
  obtain⟨⟨cls,dd,data,sl⟩,ho,hc,n,hd⟩:=id p1
  obtain⟨⟨Yj,W8,data2,Sy⟩,LS,Gq,n2,hd2⟩:=id p2
  simp only at hc hd Gq hd2
  subst hc hd Gq hd2
  have e0:cV=[]:=by rw[hx] at r1;cases r1;rfl
  exact concat_meets ⟨_,ho,rfl⟩ ⟨_,LS,rfl⟩ O8 seq_tuple_add uK tH (rE _ _)
   (tuple_addW0 a b cV.toArray mj.toArray n n2 dd W8 sl Sy (by rw[e0];rfl)) ⟨ho,LS,⟨.ref b,H,I,rfl,q1 hx⟩⟩
 .exact mz ac s Z H (.ref a) (.ref b) v u Q I rx ry ⟨a,b,xs,ys,rfl,rfl,ha,hb,hx,hz,λe=>absurd e hy,λ_=>q2 hx⟩
end
end L2
namespace L2
open PySem PySem.Spec PyProof.Rows HT
section
variable {X:Cx}
end
end L2
namespace L2
open PySem PySem.Spec PyProof.Rows
section
variable {X:Cx}
end
end L2
namespace L2
open PySem PySem.Spec PyProof.Rows HT
section
variable {X:Cx}{tg:Expr}
end
section
variable {prog:aJ}{w:bB}{K:Type} [DecidableEq K] {knd:HeapKind prog w K}{a b:ai}
end
section
variable {X:Cx}
end
end L2
namespace L2
open PySem PySem.Spec PyProof.Rows
section
variable {prog:aJ}{w:bB}{A:bH}{R:Result->ak->Prop}{s:ak}
abbrev two (elt tg iter:Expr) (ifs:List Expr) (tg2 UJ:Expr) (YO:List Expr) (scope:Scope) (pos:Pos):Expr:=.ListComp elt [⟨tg,iter,ifs,0⟩,⟨tg2,UJ,YO,0⟩] scope pos
end
section
variable {X:Cx}
end
end L2
namespace L2
open PySem PySem.Spec PyProof.Rows HT
section
variable {X:Cx}
end
end L2
namespace L2
open PySem PySem.Spec PyProof.Rows
section
variable {X:Cx}
end
section
variable {prog:aJ}{w:bB}{A:bH}{E:ag->ak->Prop}{R:Result->ak->Prop}{s:ak}
end
section
variable {X:Cx}
end
end L2
namespace L2
open PySem PySem.Spec PyProof.Rows HT
section
variable {X:Cx}
end
end L2
namespace L2
open PySem PySem.Spec PyProof.Rows
section
variable {X:Cx}
end
end L2
namespace L2
open PySem PySem.Spec PyProof.Rows HT
section
variable {prog:aJ}{w:bB}{A:bH}{E:ag->ak->Prop}{s:ak}
def Dh
  (h:wpAny (model prog w) A.in1 (pyIter (.ref s.heap.objs.size)) (λit s2=>∃I fp wr n P St bt,it=.ref I/\Walks prog w A.in1 I fp wr n P St/\St 0 s2.heap/\(∀b∈fp,b<s2.heap.objs.size)/\0<n/\Qa prog w A.in1 P St bt/\
   ∀v h' tk,P (argBest bt (n-1)) v->(∀b o,b∉wr->s2.heap.get? b=some o->h'.get? b=some o)->Q v {s2 with heap:=h',toks:=tk}) E {s with heap:=s.heap.push {cls:=.type "tuple",data:=.seq #[a,b]}}):
  wpAny (model prog w) A (call (.builtin "min") [a,b]) Q E s:=by
 have nm:(toString "min"++toString ".loop":String)="min.loop":=δ
 refine call_function_tree F.kind_min F.plain_min F.entry_min (F.args_min2 _ _) ?_;show wpAny _ A.in1 (Builtin.Builtins.bindParams "min" ["key","default"] 0 ⟨[],[]⟩>>=_) _ _ s
 refine aa (Cc (show Builtin.Builtins.bindParams "min" ["key","default"] 0 ⟨[],[]⟩=pure [none,none] from rfl) ?_)
 show wpAny _ A.in1 (newTuple [a,b]>>=_) _ _ s
 refine aa (bJ (aa (bF h (λit s2 h2=>?_) λ_ _ e=>e)))
 obtain⟨I,fp,wr,n,P,St,bt,rfl,W,st,below,pos,cmp,q⟩:=h2
 refine aa (bJ ?_);rw[nm]
 have out:s2.heap.objs.size∉fp:=λhm=>f_ _ (below _ hm)
 refine aj ⟨jY jq _,Dg W bt cmp s2.heap.objs.size out pos (W.frame _ _ _ st λb _ o e=>af _ e) (az _ rfl) λv h' tk hP hk=>?_⟩
 exact q v h' tk hP λb o YQ e=>hk b o YQ (bj (aC e)) (af _ e)
end
section
variable {X:Cx}
def yX:∀{ts:List Str}{us:List ag},cK (ts.map V.str) us->∃l:List (Str×Tok),us=strValues l/\l.map (·.1)=ts
 | [],_,r=>by cases r;exact⟨[],rfl,rfl⟩
 |x::ts,_,r=>by
  cases r with
  |cons r1 r2=>
   obtain⟨t,rfl⟩:=r1
   obtain⟨l,e1,e2⟩:=yX r2
   exact⟨(x,t)::l,by rw[e1];rfl,by rw[bQ,e2]⟩
def Mh:Yn X "str.join" (λx vs H Q=>∃(sep:Str) (p:ai) (ts:List Str),x=.str sep/\vs=[.ref p]/\cQ X.K H p (ts.map V.str)/\JoinOk sep ts=true/\Q (.str (Txt.join sep ts)) H):=by
 intro ac s Z H x vs v us Q I rx rv h
 obtain⟨sep,p,ts,rfl,rfl,hp,ok,q⟩:=h
 obtain⟨t,rfl⟩:=(show∃t,v=Value.str sep t from rx)
 obtain⟨u,rfl,ru⟩:=AB rv
 cases(show u=Value.ref p from ru)
 obtain⟨cV,r1,pl,_⟩:=I.list hp
 obtain⟨l,rfl,el⟩:=yX r1
 exact SC.join pl.isList el ok λt' k=>⟨.str _,H,I.tok k,⟨t',rfl⟩,q⟩
end
end L2
namespace HT
open PySem PySem.Spec PyProof.Rows L2
def Qb (prog:aJ) (w:bB) (A:bH) (P:Nat->ag->Prop) (St:Nat->Heap->Prop) (bt:Nat->Nat->Bool):Prop:=
 ∀i j vi vj k (s:ak) (Q:ag->ak->Prop) (E:ag->ak->Prop),St k s.heap->P i vi->P j vj->Q (.bool (bt i j)) s->wpAny (model prog w) A (richCompare .Gt vi vj) Q E s
section
variable {prog:aJ}{w:bB}{A:bH}{R:Result->ak->Prop}{I:ai}{fp wr:List ai}{n:Nat}{P:Nat->ag->Prop}{St:Nat->Heap->Prop}
def GO (W:Walks prog w A.in1 I fp wr n P St) (bt:Nat->Nat->Bool) (cmp:Qb prog w A.in1 P St bt) (S:ai) (out:S∉fp) (kw:List (Str×ag)):
  ∀(k j:Nat) (s:ak) (vb:ag) (c:Nat),n-(j+1)=k->j+1<=n->St (j+1) s.heap->P (argBest bt j) vb->s.heap.get? S=some {cls:=.type "list",dict:=none,data:=.seq #[vb,vb] c,slots:=#[]}->
  (∀v h' tk,P (argBest bt (n-1)) v->(∀b o,b∉wr->b≠S->s.heap.get? b=some o->h'.get? b=some o)->R (.ok (.ret v)) {s with heap:=h',toks:=tk})->
  codeAny (model prog w) A (.builtin "max.loop" ⟨[.ref I,.none,.ref S],kw⟩) R s:=by
 have away:S∉wr:=λh=>out (W.sub _ h)
 have nm:(toString "max"++toString ".loop":String)="max.loop":=δ
 intro k
 induction k with
 |zero=>
  intro j s vb c hk hj st hb qE q
  have en:j+1=n:=ω
  refine gM Pa ?_;rw[iR jr _]
  show wpAny _ A.in1 (seqItems? (.ref S)>>=_) _ _ s;refine aa (cw qE rfl ?_);show wpAny _ A.in1 (tryCatch (pyNext (.ref I)) _>>=_) _ _ s;refine aa (gG (W.done s _ _ (en▸st) λh' tk kp=>?_))
  show wpAny _ A.in1 (updateSeq S (λ_=>#[])>>=_) _ _ _;refine aa ?_;refine mv (kp S _ away qE) rfl (aa (fP (aj ?_)))
  exact q vb _ tk (by rw[<-en];exact hb) λb o h1 h2 e=>(ba _ _ (cG h2)).trans (kp b o h1 e)
 |succ k ih=>
  intro j s vb c hk hj st hb qE q
  have lt:j+1<n:=ω
  refine gM Pa ?_;rw[iR jr _]
  show wpAny _ A.in1 (seqItems? (.ref S)>>=_) _ _ s;refine aa (cw qE rfl ?_);show wpAny _ A.in1 (tryCatch (pyNext (.ref I)) _>>=_) _ _ s;refine aa (gG (W.item (j+1) s _ _ lt st λv h' tk hP um kp=>?_))
  have at2:=kp S _ away qE
  show wpAny _ A.in1 (tryCatch (holding [v,v] (richCompare .Gt v vb>>=_)) _>>=_) _ _ _;refine aa (gG (cm (aa (cmp (j+1) (argBest bt j) v vb _ _ _ _ um hP hb ?_))))
  refine aa (cm (dI ?_));refine aa (fP (aj ?_))
  cases better:bt (j+1) (argBest bt j) with
  |true=>
   simp only[nR]
   refine aa ?_;refine mv at2 rfl (aa (fP ?_))
   rw[nm]
   refine aj ⟨jY jr _,ih (j+1) _ v _ ω lt (W.frame _ _ _ um λb hf o e=>(ba _ _ (λh:S=b=>out (by rw[h];exact hf))).trans e) (by simp only[argBest,better,nR];exact hP) (cY _ at2 rfl) λv' Jp we tX Dd=>?_⟩
   exact q v' Jp we tX λb o h1 h2 e=>Dd b o h1 h2 ((ba _ _ (cG h2)).trans (kp b o h1 e))
  |false=>
   simp only[dD,jj]
   refine aa (fP ?_)
   rw[nm]
   refine aj ⟨jY jr _,ih (j+1) _ vb c ω lt um (by simp only[argBest,better,dD,jj];exact hb) at2 λv' Jp we tX Dd=>?_⟩
   exact q v' Jp we tX λb o h1 h2 e=>Dd b o h1 h2 (kp b o h1 e)
def Di (W:Walks prog w A.in1 I fp wr n P St) (bt:Nat->Nat->Bool) (cmp:Qb prog w A.in1 P St bt) (S:ai) (out:S∉fp) (pos:0<n) (st:St 0 s.heap)
  (qE:s.heap.get? S=some {cls:=.type "list",dict:=none,data:=.seq #[] c,slots:=#[]})
  (q:∀v h' tk,P (argBest bt (n-1)) v->(∀b o,b∉wr->b≠S->s.heap.get? b=some o->h'.get? b=some o)->R (.ok (.ret v)) {s with heap:=h',toks:=tk}):
  codeAny (model prog w) A (.builtin "max.loop" ⟨[.ref I,.none,.ref S],[]⟩) R s:=by
 have away:S∉wr:=λh=>out (W.sub _ h)
 have nm:(toString "max"++toString ".loop":String)="max.loop":=δ
 refine gM Pa ?_;rw[iR jr _]
 show wpAny _ A.in1 (seqItems? (.ref S)>>=_) _ _ s;refine aa (cw qE rfl ?_);show wpAny _ A.in1 (tryCatch (pyNext (.ref I)) _>>=_) _ _ s;refine aa (gG (W.item 0 s _ _ pos st λv h' tk hP um kp=>?_))
 have at2:=kp S _ away qE
 show wpAny _ A.in1 (updateSeq S (λ_=>#[v,v])>>=_) _ _ _;refine aa ?_;refine mv at2 rfl ?_;rw[nm]
 refine aj ⟨jY jr _,GO W bt cmp S out _ _ 0 _ v _ rfl pos (W.frame _ _ _ um λb hf o e=>(ba _ _ (λh:S=b=>out (by rw[h];exact hf))).trans e) hP (cY _ at2 rfl) λv' Jp we tX Dd=>?_⟩
 exact q v' Jp we tX λb o h1 h2 e=>Dd b o h1 h2 ((ba _ _ (cG h2)).trans (kp b o h1 e))
end
end HT
namespace L2
open PySem PySem.Spec PyProof.Rows HT
section
variable {prog:aJ}{w:bB}{A:bH}{E:ag->ak->Prop}{s:ak}
def Dj
  (h:wpAny (model prog w) A.in1 (pyIter (.ref s.heap.objs.size)) (λit s2=>∃I fp wr n P St bt,it=.ref I/\Walks prog w A.in1 I fp wr n P St/\St 0 s2.heap/\(∀b∈fp,b<s2.heap.objs.size)/\0<n/\Qb prog w A.in1 P St bt/\
   ∀v h' tk,P (argBest bt (n-1)) v->(∀b o,b∉wr->s2.heap.get? b=some o->h'.get? b=some o)->Q v {s2 with heap:=h',toks:=tk}) E {s with heap:=s.heap.push {cls:=.type "tuple",data:=.seq #[a,b]}}):
  wpAny (model prog w) A (call (.builtin "max") [a,b]) Q E s:=by
 have nm:(toString "max"++toString ".loop":String)="max.loop":=δ
 refine call_function_tree F.kind_max F.plain_max F.entry_max (F.args_max2 _ _) ?_;show wpAny _ A.in1 (Builtin.Builtins.bindParams "max" ["key","default"] 0 ⟨[],[]⟩>>=_) _ _ s
 refine aa (Cc (show Builtin.Builtins.bindParams "max" ["key","default"] 0 ⟨[],[]⟩=pure [none,none] from rfl) ?_)
 show wpAny _ A.in1 (newTuple [a,b]>>=_) _ _ s
 refine aa (bJ (aa (bF h (λit s2 h2=>?_) λ_ _ e=>e)))
 obtain⟨I,fp,wr,n,P,St,bt,rfl,W,st,below,pos,cmp,q⟩:=h2
 refine aa (bJ ?_);rw[nm]
 have out:s2.heap.objs.size∉fp:=λhm=>f_ _ (below _ hm)
 refine aj ⟨jY jr _,Di W bt cmp s2.heap.objs.size out pos (W.frame _ _ _ st λb _ o e=>af _ e) (az _ rfl) λv h' tk hP hk=>?_⟩
 exact q v h' tk hP λb o YQ e=>hk b o YQ (bj (aC e)) (af _ e)
end
section
variable {X:Cx}
def Dk (hc:X.calm=true):gN X (.builtin "min") (λxs H Q=>∃x y:Str,xs=[.str x,.str y]/\Q (.str (if eg y x=true then y else x)) H):=by
 intro ac s Z H xs us Q I r h
 obtain⟨x,y,rfl,q⟩:=h
 obtain⟨u,u',rfl,⟨t,rfl⟩,⟨t',rfl⟩⟩:=vals2 r
 have hT:(s.heap.push {cls:=.type "tuple",data:=.seq #[.str x t,.str y t']}).IsTuple s.heap.objs.size #[.str x t,.str y t']:=⟨_,az _ rfl,rfl,0,rfl⟩
 refine Dh (mG hT ?_)
 have z1:(s.heap.push {cls:=.type "tuple",data:=.seq #[.str x t,.str y t']}).objs.size=s.heap.objs.size+1:=cu ..
 have W:=Walks.tuple (prog:=X.prog) (w:=X.w) (A:=X.A.in1) (I.ok.hd hc) (s.heap.objs.size+1) s.heap.objs.size (bj (fX _)) #[.str x t,.str y t']
 rw[z1]
 refine⟨s.heap.objs.size+1,_,_,2,_,_,λi j=>eg ([x,y].getD i x) ([x,y].getD j x),rfl,W,⟨⟨_,by rw[<-z1];exact az _ rfl,rfl,rfl⟩,hT.push _⟩,?_,δ,?_,λv h' tk hP hk=>?_⟩
 .intro b hb
  show b<((s.heap.push _).push _).objs.size
  rw[cu,z1]
  simp only[aD,aG,cx] at hb
  rcases hb with e|e
  .rw[e];exact fX _
  .rw[e];exact ig (fX _)
 .intro i j vi vj k s' Q' E' st hi hj hQ
  have two:∀(i:Nat) (v:ag),(#[Value.str x t,.str y t']:Array ag)[i]?=some v->∃t,v=.str ([x,y].getD i x) t:=λi v e=>by
   match i,e with
   |0,e=>cases e;exact⟨_,rfl⟩
   |1,e=>cases e;exact⟨_,rfl⟩
   |n+2,e=>simp at e
  obtain⟨t1,rfl⟩:=two i vi hi
  obtain⟨t2,rfl⟩:=two j vj hj
  exact(lt_str hQ:wpAny _ _ (compareOp .Lt _ _) _ _ _)
 .have tX:(#[Value.str x t,.str y t']:Array ag)[argBest (λi j=>eg ([x,y].getD i x) ([x,y].getD j x)) 1]?=some v:=hP
  refine⟨.str (if eg y x=true then y else x),H,I.kept (t':=tk) λb o e=>hk b o (λz=>?_) (af _ (af _ e)),?_,q⟩
  .have:=aC e
   rw[bA.mp z] at this
   exact absurd this (lF.mpr (dM _))
  .by_cases hb:eg y x=true
   .have e:argBest (λi j=>eg ([x,y].getD i x) ([x,y].getD j x)) 1=1:=by simp[argBest,hb]
    rw[e] at tX
    rw[aT hb]
    cases tX
    exact⟨_,rfl⟩
   .have e:argBest (λi j=>eg ([x,y].getD i x) ([x,y].getD j x)) 1=0:=by simp[argBest,hb]
    rw[e] at tX
    rw[aP hb]
    cases tX
    exact⟨_,rfl⟩
def Dl (hc:X.calm=true):gN X (.builtin "max") (λxs H Q=>∃x y:Str,xs=[.str x,.str y]/\Q (.str (if eg x y=true then y else x)) H):=by
 intro ac s Z H xs us Q I r h
 obtain⟨x,y,rfl,q⟩:=h
 obtain⟨u,u',rfl,⟨t,rfl⟩,⟨t',rfl⟩⟩:=vals2 r
 have hT:(s.heap.push {cls:=.type "tuple",data:=.seq #[.str x t,.str y t']}).IsTuple s.heap.objs.size #[.str x t,.str y t']:=⟨_,az _ rfl,rfl,0,rfl⟩
 refine Dj (mG hT ?_)
 have z1:(s.heap.push {cls:=.type "tuple",data:=.seq #[.str x t,.str y t']}).objs.size=s.heap.objs.size+1:=cu ..
 have W:=Walks.tuple (prog:=X.prog) (w:=X.w) (A:=X.A.in1) (I.ok.hd hc) (s.heap.objs.size+1) s.heap.objs.size (bj (fX _)) #[.str x t,.str y t']
 rw[z1]
 refine⟨s.heap.objs.size+1,_,_,2,_,_,λi j=>eg ([x,y].getD j x) ([x,y].getD i x),rfl,W,⟨⟨_,by rw[<-z1];exact az _ rfl,rfl,rfl⟩,hT.push _⟩,?_,δ,?_,λv h' tk hP hk=>?_⟩
 .intro b hb
  show b<((s.heap.push _).push _).objs.size
  rw[cu,z1]
  simp only[aD,aG,cx] at hb
  rcases hb with e|e
  .rw[e];exact fX _
  .rw[e];exact ig (fX _)
 .intro i j vi vj k s' Q' E' st hi hj hQ
  have two:∀(i:Nat) (v:ag),(#[Value.str x t,.str y t']:Array ag)[i]?=some v->∃t,v=.str ([x,y].getD i x) t:=λi v e=>by
   match i,e with
   |0,e=>cases e;exact⟨_,rfl⟩
   |1,e=>cases e;exact⟨_,rfl⟩
   |n+2,e=>simp at e
  obtain⟨t1,rfl⟩:=two i vi hi
  obtain⟨t2,rfl⟩:=two j vj hj
  exact(PySem.P.gt_str hQ:wpAny _ _ (compareOp .Gt _ _) _ _ _)
 .have tX:(#[Value.str x t,.str y t']:Array ag)[argBest (λi j=>eg ([x,y].getD j x) ([x,y].getD i x)) 1]?=some v:=hP
  refine⟨.str (if eg x y=true then y else x),H,I.kept (t':=tk) λb o e=>hk b o (λz=>?_) (af _ (af _ e)),?_,q⟩
  .have:=aC e
   rw[bA.mp z] at this
   exact absurd this (lF.mpr (dM _))
  .by_cases hb:eg x y=true
   .have e:argBest (λi j=>eg ([x,y].getD j x) ([x,y].getD i x)) 1=1:=by simp[argBest,hb]
    rw[e] at tX
    rw[aT hb]
    cases tX
    exact⟨_,rfl⟩
   .have e:argBest (λi j=>eg ([x,y].getD j x) ([x,y].getD i x)) 1=0:=by simp[argBest,hb]
    rw[e] at tX
    rw[aP hb]
    cases tX
    exact⟨_,rfl⟩
end
section
variable {X:Cx}{ac:List (ai×Obj)}{Z:St}{H:Hp}{s:ak}
end
end L2
namespace L2
open PySem PySem.Spec PyProof.Rows PySem.W
section
variable {M:Model}{A:bH}{E:ag->ak->Prop}{s:ak}{B:Heap}{env:Env}{outer:List Env}{L e:ai}{cls fl:ag}{Q:Unit->ak->Prop}
end
def mE (x:gf P w H h a o):∃u,h.get? a=some u:=by
 induction o with
 |lst xs=>obtain⟨_,cV,n,_,e⟩:=x;exact⟨_,e⟩
 |tup xs=>obtain⟨_,cV,_,ob,e,_⟩:=x;exact⟨_,e⟩
 |dK dW=>obtain⟨_,_,vs,_,ob,es,ep,e,_⟩:=x;exact⟨_,e⟩
 |dT dW=>obtain⟨_,_,xs,_,ob,es,ep,e,_⟩:=x;exact⟨_,e⟩
 |set S n=>obtain⟨ob,es,ep,t,e,_⟩:=x;exact⟨_,e⟩
 |ins C dx fs=>obtain⟨_,_,_,e,_⟩:=x;exact⟨_,e⟩
 |own y=>exact x
 |xd fs=>obtain⟨mA,⟨od,es,ep,e,_⟩,_⟩:=x;exact⟨_,e⟩
 |WW lo hi=>obtain⟨t,u,v,e⟩:=x;exact⟨_,e⟩
 |Ck ob u ih=>exact⟨_,x.1⟩
 |NU ps=>exact⟨_,(show h.get? a=some _ from x)⟩
 |met f y=>exact⟨_,(show h.get? a=some _ from x)⟩
 |ext φ=>exact x.2.1
section
variable {X:Cx}{ac:List (ai×Obj)}{Z:St}{H:Hp}{s:ak}
def Inv.uv {B h':Heap}(I:Inv X ac Z H s) (kB:B.StaysIn s.heap) (Xe:B.StaysIn h') (ups:s.heap.UpToSlots h') (uO:∀b u,H b=some u->∃o,B.get? b=some o)
  (hp:∀p∈X.pn++ac,B.get? p.1=some p.2) (o1:∀b o,X.gW.heap.get? b=some o->X.Cm b=none->b∉X.fs->b∉X.ex->B.get? b=some o) (o2:∀b o,X.gW.heap.get? b=some o->b∉X.fs->b∉X.ex->∃o',B.get? b=some o'):
  Inv X ac Z H {s with heap:=h'}:=by
 have fr:∀b,b∈X.fs->∃o,s.heap.get? b=some o/\∃sl,h'.get? b=some {o with slots:=sl}:=λb hb=>by
  obtain⟨_,o,ho,hnf⟩:=I.nF.mem hb
  exact⟨o,ho,ups b o ho hnf⟩
 refine⟨I.ok,I.os,I.bare,⟨λb o q n hb hx=>Xe b o (o1 b o q n hb hx),λb o q n hb hx=>?_,I.base.free,λb o q hx=>?_,I.base.nZ,I.base.pq,I.base.qz⟩,?_,λx c e=>?_,I.free,I.jv,λp hq=>?_,λa o e=>?_,I.len⟩
 .obtain⟨sl,e1⟩:=I.base.slot b o q n hb hx
  obtain⟨o',e2,Sy,e3⟩:=fr b hb
  rw[e1] at e2;cases e2
  exact⟨Sy,e3⟩
 .by_cases hb:b∈X.fs
  .obtain⟨o',_,sl,e⟩:=fr b hb
   exact⟨_,e⟩
  .obtain⟨o',e⟩:=o2 b o q hb hx
   exact⟨o',Xe _ _ e⟩
 .obtain⟨m,hn,hl⟩:=I.loc
  refine⟨m,ups.ns hn,λi x v e1 e2 e3=>?_⟩
  obtain⟨u,r,lk⟩:=hl i x v e1 e2 e3
  refine⟨u,r,?_⟩
  rcases lk with lk|⟨lk,c,ec,oc,hc,hd⟩
  .exact .inl lk
  .obtain⟨sl,es⟩:=ups c oc hc λvs z=>by rw[hd] at z;cases z
   exact .inr ⟨lk,c,ec,_,es,hd⟩
 .obtain⟨v,oc,hc,hd⟩:=I.cell x c e
  obtain⟨sl,es⟩:=ups c oc hc λvs z=>by rw[hd] at z;cases z
  exact⟨v,_,es,hd⟩
 .obtain⟨_,p2⟩:=I.pin p hq
  exact⟨Xe _ _ (hp p hq),p2⟩
 .refine(I.eN a o e).qy (λb u hb eu=>?_) (λ_ z=>z) (λ_ _ z=>z)
  have ht:∃u',H b=some u':=by
   rcases hb with rfl|hb
   .exact⟨_,e⟩
   .exact⟨_,hb⟩
  obtain⟨u',ht⟩:=ht
  obtain⟨o',xT⟩:=uO b u' ht
  have:=kB _ _ xT
  rw[eu] at this;cases this
  exact Xe _ _ xT
def Inv.yH (I:Inv X ac Z H s) (q:X.gW.heap.get? b=some o) (hb:b∉X.fs):b∉oX X.stack:=λz=>by
 rcases aD.mp (I.tO b z) with e|e
 .have h1:=aC q
  rw[e] at h1
  exact absurd h1 (lF.mpr I.ok.above)
 .exact hb e
end
section
variable {P:aJ}{w:bB}{K:Φ}{mg:Str->Option ag}{base:Heap}{N:List Str}{qual:Str}{scope:Scope}{f:ai}{cd:ag}{A:bH}{outer:List Env}{s:ak}{H:Hp}{E:XK}
end
abbrev wg:List ag:=[.type "ValueError",.type "Exception",.type "BaseException",.type "object"]
structure t_ (K:Φ) (mg:Str->Option ag) (x:Str) (C:ai):Prop where
 at':mg x=some (.ref C)
 is:excIn K C wg "ValueError.__new__"=true
def t_.own {K:Φ} (O:t_ K mg x C) (lT:K.In h):OwnCls x C wg "ValueError.__new__" mg h:=by
 have q:=O.is
 refine⟨O.at',?_⟩
 unfold excIn at q
 split at q
 case h_2=>exact absurd q δ
 case h_1 d0 c0 s0 look=>
  split at q
  case h_2=>exact absurd q δ
  case h_1 C1 tl a0 a1 a2 a3 nw a5 em es=>
   rcases c0 with⟨c1,c2,c3,c4,c5,c6,c7,c8,c9,c10,c11⟩
   rcases s0 with⟨sl⟩
   simp only[cN,gQ,mf] at q
   obtain⟨⟨⟨⟨⟨g1,g2⟩,g3⟩,g4⟩,g5⟩,g6⟩:=q
   dsimp only at em es g3 g5 g6
   subst g1 g2 g3 em es
   exact⟨tl,c4,c1,c5,c2,c6,c7,c8,c9,c10,d0,a0,a1,a2,a3,a5,h.nsMap c4,lT _ _ look,.of_isNs (isNs_of_in lT g5),nsMap_none_of_in lT g5 g6,tail_of_in lT g4⟩
section
variable {X:Cx}{W:ag->St->Hp->Prop}
def PS.kz {st:Stmt}{t:TS}(h:PS X.kz st t):PS X st t:=λac s Z H D I hw=>
 bF (h ac s Z H D (I.vL _) hw) (λ_ _ q=>q.n_) λ_ _ z=>False.elim z
end
abbrev Cx.Ax (X:Cx) (a:ai):Cx:={X with A:=X.A.mark (some (.ref a)),calm:=false,xe:=λ_ _=>False}
def YR (a:ai) (cls:ag):HO:=.ext λh=>∃oe vs,h.get? a=some oe/\oe.cls=cls/\oe.dict=none/\oe.data=.fields vs/\vs[2]?=some .none
section
variable {X:Cx}{ac:List (ai×Obj)}{Z:St}{H:Hp}{s:ak}{W:ag->St->Hp->Prop}
def Inv.Ax (I:Inv X ac Z H s) (a:ai):Inv (X.Ax a) ac Z H s:=
 ⟨⟨I.ok.mod,I.ok.kind,I.ok.glob,I.ok.blt,I.ok.above,I.ok.inj,I.ok.has,I.ok.La,(λz=>nomatch z),I.ok.frames,I.ok.LF,I.ok.Gc,I.ok.bs,I.ok.Cn,I.ok.xS,I.ok.uP,I.ok.nF,I.ok.EH⟩,I.os,I.bare,I.base,I.loc,I.cell,I.free,I.jv,I.pin,I.eN,I.len⟩
def Inv.Oa (c:X.calm=true->X.A.handled=none) (f:X.A.frames=some X.stack) (I:Inv (X.Ax a) ac Z H s):Inv X ac Z H s:=
 ⟨⟨I.ok.mod,I.ok.kind,I.ok.glob,I.ok.blt,I.ok.above,I.ok.inj,I.ok.has,I.ok.La,c,f,I.ok.LF,I.ok.Gc,I.ok.bs,I.ok.Cn,I.ok.xS,I.ok.uP,I.ok.nF,I.ok.EH⟩,I.os,I.bare,I.base,I.loc,I.cell,I.free,I.jv,I.pin,I.eN,I.len⟩
def Inv.Ob {a:ai}{o:HO}(I:Inv X ac Z H s) (n:H a=none) (n0:X.gW.heap.get? a=none) (nl:a≠X.env.locals) (nc:∀x c,X.env.cells.lookup x=some c->c≠a) (np:∀p∈X.pn++ac,p.1≠a) (ok:gf X.prog X.w (upd H a o) s.heap a o):Inv X ac Z (upd H a o) s:=by
 refine⟨I.ok,I.os,I.bare,⟨I.base.keep,I.base.slot,λb u q m hx=>?_,I.base.there,λb xs e=>?_,λb u v e=>?_,λb ps e=>?_⟩,I.loc,I.cell,?_,λx c e=>?_,λp hp=>?_,λb u e=>?_,I.len⟩
 .rw[bb (λz=>by rw[z,n0] at q;cases q)]
  exact I.base.free b u q m hx
 .have:=I.base.nZ b xs e
  rw[bb (dH this n)];exact this
 .have:=I.base.pq b u v e
  rw[bb (dH this n)];exact this
 .obtain⟨m,this⟩:=I.base.qz b ps e
  exact⟨m,by rw[bb (dH this n)];exact this⟩
 .rw[bb nl.symm];exact I.free
 .rw[bb (nc x c e)];exact I.jv x c e
 .obtain⟨p1,p2,p3⟩:=I.pin p hp
  exact⟨p1,by rw[bb (np p hp)];exact p2,p3⟩
 .by_cases eb:b=a
  .subst eb
   rw[aB] at e
   cases e
   exact ok
  .rw[bb eb] at e
   refine(I.eN b u e).qy (λ_ _ _ z=>z) (λc z=>?_) (λc xs z=>?_)
   .rw[bb (dH z n)];exact z
   .rw[bb (dH z n)];exact z
def vo {M:Model}{A:bH}{E:ag->ak->Prop}{i:Nat}{n:Str}{pos:Pos}{Q:Unit->ak->Prop}(I:Inv X ac Z H s) (hN:X.N.Nodup) (hi:X.N[i]?=some n) (hk:X.env.scope.names.lookup n=some .local)
  (q:∀s',Inv X ac (Z.set i none) H s'->Q () s'):wpAny M A (do bindName X.env n .none;unbindBehindTheSuite X.env n pos) Q E s:=by
 have Pl:(X.env.scope.kind== .class||(X.env.scope.kind== .module&&X.env.locals !=X.env.globals))=false:=by rw[I.ok.kind];rfl
 refine aa (nX (qi I hN hi (.inl hk) (show RelV V.eU Value.none from rfl) (λs1 I1 _=>?_) (.inr hk)))
 obtain⟨m,hn,hl⟩:=id I1.loc
 have kl:X.env.kindOf n=some .local:=hk
 unfold unbindBehindTheSuite
 refine iZ ?_
 unfold unbindName
 refine aa (wpAny_point (aa ?_))
 unfold deleteName
 simp only[kl,Pl]
 rw[aP δ]
 refine aa (wpAny_nsDel_keeps hn λh2 v Ld sb=>?_)
 have hmn:(m n).isSome=true:=by
  have Gd:i<Z.length:=by rw[I.len];exact(bD.mp hi).1
  obtain⟨u,r,lk⟩:=hl i n .eU hi (me Gd) (.inl hk)
  rcases lk with⟨_,e⟩|⟨k,_⟩
  .rw[e];rfl
  .rw[kl] at k;rcases k with k|k<;>cases k
 rw[hmn]
 simp only[Bool.not_true,dD,jj]
 refine aj (wpAny_point (q _ ?_))
 have Ih:=I1.Ih
 obtain⟨oL,_,_,hoL,_⟩:=id hn
 have old:∀{b:ai} {o:Obj},X.gW.heap.get? b=some o->b≠X.env.locals:=λ{b o} e=>bj (aY (aC e) I1.ok.above)
 have Gd:i<Z.length:=by rw[I.len];exact(bD.mp hi).1
 refine⟨I1.ok,I1.os,I1.bare,⟨λb o e n' hb hx=>?_,λb o e n' hb hx=>?_,I1.base.free,λb o e hx=>?_,I1.base.nZ,I1.base.pq,I1.base.qz⟩,⟨_,Ld,λj y v' e1 e2 e3=>?_⟩,λy c e=>?_,I1.free,I1.jv,λp hp=>?_,λb ob e=>?_,by simpa using I.len⟩
 .rw[sb.2 b (old e)];exact I1.base.keep b o e n' hb hx
 .obtain⟨sl,e1⟩:=I1.base.slot b o e n' hb hx
  exact⟨sl,by rw[sb.2 b (old e)];exact e1⟩
 .obtain⟨o',e1⟩:=I1.base.there b o e hx
  exact⟨o',by rw[sb.2 b (old e)];exact e1⟩
 .by_cases hj:j=i
  .subst hj
   rw[me Gd] at e2
   cases e2
  .rw[nW (cG hj)] at e2
   obtain⟨u',r',lk⟩:=hl j y v' e1 (by rw[nW (cG hj)];exact e2) e3
   refine⟨u',r',?_⟩
   have ny:y≠n:=λz=>hj (vK hN e1 (z▸hi))
   rcases lk with⟨k,e⟩|⟨k,c,e,z⟩
   .exact .inl ⟨k,by simp[ny,e]⟩
   .exact .inr ⟨k,c,e,z.sameBut sb (Ih y c e)⟩
 .obtain⟨w',z⟩:=I1.cell y c e
  exact⟨w',z.sameBut sb (Ih y c e)⟩
 .obtain⟨p1,p2,p3,p4⟩:=I1.pin p hp
  exact⟨by rw[sb.2 _ p3];exact p1,p2,p3,p4⟩
 .refine(I1.eN b ob e).qy (λc w' hc z=>?_) (λ_ z=>z) (λ_ _ z=>z)
  rw[sb.2 c ?_]
  .exact z
  .rintro rfl
   have fr:=I1.free
   rcases hc with rfl|hc
   .rw[fr] at e;cases e
   .rw[fr] at hc;cases hc
end
def xY:entryFor table "proto.unchain"=some Builtin.«proto.unchain»:=entryFor_of_tree (by kernel_rfl)
def Jq (A:bH) (h:Heap):Prop:=∃a oa ws,A.handled=some (.ref a)/\h.get? a=some oa/\oa.data=.fields ws/\ws[2]?=some .none
section
variable {prog:aJ}{w:bB}{A:bH}{E:ag->ak->Prop}{s:ak}
def wj {e:ai}{oe:Obj}{vs:Array ag}{α:Type}{Q:α->ak->Prop}(hn:Jq A s.heap) (he:s.heap.get? e=some oe) (hd:oe.data=.fields vs) (h2:2<vs.size) (ne:∀a,A.handled=some (.ref a)->a≠e)
  (q:∀h',(∀b o,b≠e->s.heap.get? b=some o->h'.get? b=some o)->(∃o,h'.get? e=some o/\o.cls=oe.cls)->E (.ref e) {s with heap:=h'}):wpAny (model prog w) A (raiseNew (.ref e):Sem α) Q E s:=by
 obtain⟨a,oa,ws,hh,ha,Xf,w2⟩:=hn
 have nae:=ne a hh
 unfold raiseNew
 refine aa (wpAny_handled ?_)
 rw[hh]
 dsimp only
 rw[aT (by simpa using nae)]
 refine aa (cm (wpAny_runValue (gM xY ?_)))
 refine(aa (bR ha Xf w2 ?_):wpAny _ _ (field (.ref a) 2>>=_) _ _ s)
 rw[aT δ]
 refine aj ?_
 show wpAny _ A (updateField e 2 (.ref a)>>=λ_=>_) _ _ s
 unfold updateField
 refine aa (aa (wpAny_load he ?_))
 rw[hd]
 dsimp only
 rw[aT h2]
 refine wpAny_update he ?_
 have d1:=ij hd (·.setIfInBounds 2 (Value.ref a))
 exact wpAny_throw (q _ (λb o nb hb=>by rw[ba _ _ (cG nb)];exact hb) ⟨_,cY _ he (iu d1),vc _ _⟩)
end
section
variable {prog:aJ}{w:bB}{A:bH}{R:Result->ak->Prop}
end
section
variable {prog:aJ}{w:bB}{A:bH}{s:ak}{R:Result->ak->Prop}
end
section
variable {prog:aJ}{w:bB}{A:bH}{E:ag->ak->Prop}{s:ak}
end
section
variable {X:Cx}{ac:List (ai×Obj)}{Z:St}{H H':Hp}{s:ak}{h':Heap}
end
end L2
namespace L2
open PySem PySem.W PyProof.Rows
structure pO (lt:Nat->Nat->Bool):Prop where
 as:∀a b,lt a b=true->lt b a=false
 tr:∀a b c,lt b a=false->lt c b=false->lt c a=false
def pO.ir (O:pO lt) (a:Nat):lt a a=false:=by
 cases e:lt a a with
 |false=>rfl
 |true=>have:=O.as a a e;rw[e] at this;cases this
def pat (p:Array Nat) (k:Nat):Nat:=p.getD k 0
def sf (h:p[i]?=q[j]?):pat p i=pat q j:=by
 unfold pat
 rw[jD,jD,h]
def ou (hj:j<=p.size) (k:Nat):pat (kas_rev p i j) k=if i<=k/\k<j then pat p (i+j-1-k) else pat p k:=by
 have e:=getElem?_mirror_all (i:=i) hj k
 by_cases h:i<=k/\k<j
 .rw[aT h] at e⊢;exact sf e
 .rw[aP h] at e⊢;exact sf e
def Mi (hs:src<p.size) (hd:d<=src) (k:Nat):pat (bubble p src d) k=if k=src-d then pat p src else if src-d<k/\k<=src then pat p (k-1) else pat p k:=by
 have e:=getElem?_bubble hs d hd k
 by_cases h1:k=src-d
 .rw[aT h1] at e⊢;exact sf e
 .rw[aP h1] at e⊢
  by_cases h2:src-d<k/\k<=src
  .rw[aT h2] at e⊢;exact sf e
  .rw[aP h2] at e⊢;exact sf e
def sZ (n:Nat) (p:Array Nat):Prop:=p.toList.Perm (List.range n)
def sZ.size (h:sZ n p):p.size=n:=by
 have:=h.length_eq
 rwa[Cd,gE] at this
def sZ.lt (h:sZ n p) (hk:k<n):pat p k<n:=by
 have hk':k<p.size:=by rw[h.size];exact hk
 have e:pat p k=p[k]:=by unfold pat;rw[jD,getElem?_pos p k hk'];rfl
 rw[e]
 exact qw.mp (h.mem_iff.mp (Array.mem_toList_iff.mpr (Array.getElem_mem hk')))
def sZ.rev (h:sZ n p) (i j:Nat):sZ n (kas_rev p i j):=(Lw.mp (mirror_perm p i j _)).trans h
def sZ.bub (h:sZ n p) (i d:Nat):sZ n (bubble p i d):=(Lw.mp (bubble_perm p i d)).trans h
section
variable {n:Nat}{lt:Nat->Nat->Bool}{cmp:Nat->Nat->(Bool->ak->Prop)->ak->Prop}{I:ak->Prop}
def BX (lt:Nat->Nat->Bool) (p:Array Nat) (k:Nat):Prop:=∀i j,i<=j->j<k->lt (pat p j) (pat p i)=false
def Lg (lt:Nat->Nat->Bool) (p:Array Nat) (k:Nat):Prop:=∀i j,i<=j->j<k->lt (pat p i) (pat p j)=false
def UK (lt:Nat->Nat->Bool) (p:Array Nat) (a b:Nat):Prop:=∀i j,a<=i->i<b->a<=j->j<b->lt (pat p i) (pat p j)=false
def Mj (n:Nat) (lt:Nat->Nat->Bool) (cmp:Nat->Nat->(Bool->ak->Prop)->ak->Prop) (I:ak->Prop):Prop:=
 ∀i j,i<n->j<n->∀(C:Bool->ak->Prop) s,I s->(∀s',I s'->C (lt i j) s')->cmp i j C s
def q1 (h:a+(f+1)<=n):a<n:=aY (Nat.lt_add_of_pos_right (Nat.succ_pos f)) h
def q2 (h:a+(f+1)<=n):a-1<n:=bf (qx a 1) (q1 h)
def q3 (h:a+(f+1)<=n):a+1+f<=n:=aA (fw (Ce a f)) h
def q0 (h:n<=a+1+f):n<=a+(f+1):=aA h (fw (Ce a f))
def q4 (h:a<=i/\i<b):a<=a+b-1-i:=xP (xP (eK h.2 a))
def q5 (h:a<=i/\i<b):a+b-1-i<b:=ω
def q8 (h1:a<=i) (h2:i<a+1) (h3:a<=j) (h4:j<a+1):i=j:=vg (aA (eO h2) h3) (aA (eO h4) h1)
def q9 (pE:i<=j) (hj:j<1):i=j:=vg pE (aA (eO hj) (dz i))
def q14 (c:m<j/\j<=k):j-1<k:=aY (AD (bf (dz m) c.1) Nat.one_pos) c.2
def qh (h:¬l>=r) (h2:r<=k) (h3:r-l<=f+1):l<=(l+r)/2/\(l+r)/2<r/\(l+r)/2<k/\(l+r)/2-l<=f/\r-((l+r)/2+1)<=f:=by
 have hl:=Nat.lt_of_not_le h
 have g1:l<=(l+r)/2:=(Nat.le_div_iff_mul_le δ).mpr (by rw[Nat.mul_two];exact eK (dE hl) l)
 have g2:(l+r)/2<r:=(Nat.div_lt_iff_lt_mul δ).mpr (by rw[Nat.mul_two];exact Nat.add_lt_add_right hl r)
 exact⟨g1,g2,aY g2 h2,eO (aY (Nat.sub_lt_sub_right g1 g2) h3),aA (zk (j_ g1) r) (by show r-l-1<=f+1-1;exact Nat.sub_le_sub_right h3 1)⟩
def Ml (O:pO lt) (h1:1<=k) (h:BX lt p k) (hk:lt (pat p k) (pat p (k-1))=false):BX lt p (k+1):=by
 intro i j pE hj
 by_cases e:j=k
 .subst e
  by_cases e2:i=j
  .subst e2;exact O.ir _
  .exact O.tr _ (pat p (j-1)) _ (h i (j-1) (jU (dY pE e2)) (AD h1 Nat.one_pos)) hk
 .exact h i j pE (dY (eO hj) e)
def sg (O:pO lt) (h1:1<=k) (h:Lg lt p k) (hk:lt (pat p (k-1)) (pat p k)=false):Lg lt p (k+1):=by
 intro i j pE hj
 by_cases e:j=k
 .subst e
  by_cases e2:i=j
  .subst e2;exact O.ir _
  .exact O.tr _ (pat p (j-1)) _ hk (h i (j-1) (jU (dY pE e2)) (AD h1 Nat.one_pos))
 .exact h i j pE (dY (eO hj) e)
def Dm (O:pO lt) (hc:Mj n lt cmp I) (hp:sZ n p):∀(f a:Nat) {Q:Nat->ak->Prop}{s:ak},1<=a->a+f<=n->BX lt p a->I s->
  (∀m s',I s'->a<=m->m<=a+f->BX lt p m->(m<a+f->lt (pat p m) (pat p (m-1))=true)->Q m s')->(kas_asc p f a).kasWp cmp Q s
 |0,a,Q,s,h1,ha,so,hi,q=>q a s hi (av _) (av _) so (λh=>absurd h (f_ _))
 |f+1,a,Q,s,h1,ha,so,hi,q=>by
  show cmp (pat p a) (pat p (a-1)) _ s
  refine hc _ _ (hp.lt (q1 ha)) (hp.lt (q2 ha)) _ s hi λs' BY=>?_
  cases e:lt (pat p a) (pat p (a-1)) with
  |true=>exact q a s' BY (av _) (dQ _ _) so (λ_=>e)
  |false=>exact Dm O hc hp f (a+1) (js 1 a) (q3 ha) (Ml O h1 so e) BY λm s2 i2 l1 l2 s3 l3=>q m s2 i2 (mh l1) (q0 l2) s3 (λh=>l3 (aY h (fw (Ce a f).symm)))
def Dn (O:pO lt) (k a b:Nat) (hb:b<=p.size) (w:Lg lt p k) (e:UK lt p a b) (hbk:b<=k):Lg lt (kas_rev p a b) k:=by
 intro i j pE hj
 rw[ou hb,ou hb]
 by_cases h1:a<=i/\i<b
 .rw[aT h1]
  by_cases h2:a<=j/\j<b
  .rw[aT h2];exact e _ _ (q4 h1) (q5 h1) (q4 h2) (q5 h2)
  .rw[aP h2];exact w _ _ (aA (dE (q5 h1)) (F2 λz=>h2 ⟨aA h1.1 pE,z⟩)) hj
 .rw[aP h1]
  by_cases h2:a<=j/\j<b
  .rw[aT h2];exact w _ _ (aA (Nat.le_of_not_le λz=>h1 ⟨z,bf pE h2.2⟩) (q4 h2)) (aY (q5 h2) hbk)
  .rw[aP h2];exact w _ _ pE hj
def uw (hb:b<=p.size) (h:b<=k):pat (kas_rev p a b) k=pat p k:=by
 rw[ou hb,aP λz=>Nat.not_lt_of_le h z.2]
def vp (O:pO lt) (hc:Mj n lt cmp I):∀(f:Nat) (p:Array Nat) (a q:Nat) {Q:Array Nat×Nat×Nat->ak->Prop}{s:ak},sZ n p->q+1<=a->a+f<=n->Lg lt p a->UK lt p (a-(q+1)) a->I s->
  (∀p' m q' s',I s'->sZ n p'->a<=m->m<=a+f->q'+1<=m->Lg lt p' m->UK lt p' (m-(q'+1)) m->Q (p',m,q') s')->(kas_desc f p a q).kasWp cmp Q s
 |0,p,a,q,Q,s,hp,h1,ha,wd,eq,hi,k=>k p a q s hi hp (av _) (av _) h1 wd eq
 |f+1,p,a,q,Q,s,hp,h1,ha,wd,eq,hi,k=>by
  have hs:a<=p.size:=by rw[hp.size];exact dE (q1 ha)
  have a1:1<=a:=aA (js 1 q) h1
  have g:a-(q+1)<=a-1/\a-1<a:=⟨zk (js 1 q) a,AD a1 Nat.one_pos⟩
  show cmp (pat p a) (pat p (a-1)) _ s
  refine hc _ _ (hp.lt (q1 ha)) (hp.lt (q2 ha)) _ s hi λs' BY=>?_
  have one:∀p':Array Nat,UK lt p' (a+1-(0+1)) (a+1):=λp' i j h1 h2 h3 h4=>q8 (a:=a) h1 h2 h3 h4▸O.ir _
  cases e:lt (pat p a) (pat p (a-1)) with
  |true=>
   show KasT.kasWp cmp (if q>0 then _ else _) Q s'
   by_cases hq:q>0
   .rw[aT hq]
    have w2:=Dn O a _ a hs wd eq (av _)
    refine vp O hc f _ (a+1) 0 (hp.rev _ _) (js 1 a) (q3 ha) (sg O a1 w2 ?_) (one _) BY λp' m q' s2 i2 p2 l1 l2 l3 w3 e3=>k p' m q' s2 i2 p2 (mh l1) (q0 l2) l3 w3 e3
    rw[uw hs (av _),ou hs,aT g]
    exact O.tr _ (pat p (a-1)) _ (O.as _ _ e) (eq _ _ (q4 g) (q5 g) g.1 g.2)
   .rw[aP hq]
    exact vp O hc f _ (a+1) 0 hp (js 1 a) (q3 ha) (sg O a1 wd (O.as _ _ e)) (one _) BY λp' m q' s2 i2 p2 l1 l2 l3 w3 e3=>k p' m q' s2 i2 p2 (mh l1) (q0 l2) l3 w3 e3
  |false=>
   show cmp (pat p (a-1)) (pat p a) _ s'
   refine hc _ _ (hp.lt (q2 ha)) (hp.lt (q1 ha)) _ s' BY λs2 hi2=>?_
   cases e2:lt (pat p (a-1)) (pat p a) with
   |true=>exact k p a q s2 hi2 hp (av _) (dQ _ _) h1 wd eq
   |false=>
    refine vp O hc f p (a+1) (q+1) hp (j_ h1) (q3 ha) (sg O a1 wd e2) (λi j i1 i2 j1 j2=>?_) hi2 λp' m q' s2 i2 p2 l1 l2 l3 w3 e3=>k p' m q' s2 i2 p2 (mh l1) (q0 l2) l3 w3 e3
    rw[Nat.add_sub_add_right] at i1 j1
    have il:=λz=>dY (eO i2) z
    have jl:=λz=>dY (eO j2) z
    by_cases ia:i=a
    .by_cases ja:j=a
     .rw[ia,ja];exact O.ir _
     .rw[ia];exact O.tr _ (pat p (a-1)) _ (eq _ _ g.1 g.2 j1 (jl ja)) e
    .by_cases ja:j=a
     .rw[ja];exact O.tr _ (pat p (a-1)) _ e2 (eq _ _ i1 (il ia) g.1 g.2)
     .exact eq _ _ i1 (il ia) j1 (jl ja)
def Jr (hk:k<=p.size) (w:Lg lt p k):BX lt (kas_rev p 0 k) k:=by
 intro i j pE hj
 have ci:0<=i/\i<k:=⟨dz _,bf pE hj⟩
 rw[ou hk,ou hk,aT ⟨dz _,hj⟩,aT ci]
 exact w _ _ (zk pE _) (q5 ci)
abbrev Dp (n:Nat) (lt:Nat->Nat->Bool) (I:ak->Prop) (Q:Nat×Array Nat->ak->Prop):Prop:=∀m p' s',I s'->sZ n p'->1<=m->m<=n->BX lt p' m->Q (m,p') s'
def A8 (O:pO lt) (hc:Mj n lt cmp I) (hp:sZ n p) (h1:1<=a) (ha:a<=n) (w:Lg lt p a) (hi:I s) (q:Dp n lt I Q):(kas_tail3 a n p).kasWp cmp Q s:=by
 unfold kas_tail3
 rw[rG]
 have ea:=fw (kE ha)
 exact Dm O hc (hp.rev 0 a) (n-a) a h1 ea (Jr (by rw[hp.size];exact ha) w) hi λm s' i' l1 l2 so _=>q m _ s' i' (hp.rev 0 a) (aA h1 l1) (aA l2 ea) so
def ux (O:pO lt) (hc:Mj n lt cmp I) (hp:sZ n p) (h1:1<=a) (ha:a+1<=n) (w:Lg lt p (a+1)) (hi:I s) (q:Dp n lt I Q):(kas_descPart a n p).kasWp cmp Q s:=by
 unfold kas_descPart
 rw[rG]
 have ea:=fw (kE ha)
 refine vp O hc (n-(a+1)) p (a+1) 0 hp (js 1 a) ea w (λi j i1 i2 j1 j2=>?_) hi λp' m q' s' i' p2 l1 l2 l3 w3 e3=>?_
 .exact q8 (a:=a) i1 i2 j1 j2▸O.ir _
 .have lm:m<=n:=aA l2 ea
  have m1:1<=m:=aA (js 1 a) l1
  dsimp only
  by_cases hq:q'>0
  .rw[aT hq]
   exact A8 O hc (p2.rev _ _) m1 lm (Dn O m _ m (by rw[p2.size];exact lm) w3 e3 (av _)) i' q
  .rw[aP hq]
   exact A8 O hc p2 m1 lm w3 i' q
def Js (O:pO lt) (hc:Mj n lt cmp I) (hp:sZ n p) (hn:2<=n) (hi:I s) (q:Dp n lt I Q):(kas_count n p).kasWp cmp Q s:=by
 unfold kas_count
 rw[rG]
 have n1:1<=n:=mh hn
 have ea:=kE n1
 refine Dm O hc hp (n-1) 1 (av _) (fw ea) (λi j pE hj=>?_) hi λm s' i' l1 l2 so st=>?_
 .exact q9 pE hj▸O.ir _
 .have lm:m<=n:=aA l2 (fw ea)
  have hs:m<=p.size:=by rw[hp.size];exact lm
  by_cases hm:m=n
  .rw[aT (by simp[hm])]
   exact q m p s' i' hp l1 lm so
  .rw[aP (by simp[hm])]
   have ml:m<n:=dY lm hm
   have um:=st (aY ml (fw ea.symm))
   have g:0<=m-1/\m-1<m:=⟨dz _,AD l1 Nat.one_pos⟩
   by_cases h1:m>1
   .rw[aT h1]
    show cmp (pat p 0) (pat p (m-1)) _ s'
    refine hc _ _ (hp.lt n1) (hp.lt (fA g.2 ml)) _ s' i' λs2 i2=>?_
    cases e:lt (pat p 0) (pat p (m-1)) with
    |true=>exact q m p s2 i2 hp l1 lm so
    |false=>
     have eq:UK lt p 0 m:=λi j _ BY _ hj'=>by
      by_cases pE:j<=i
      .exact so j i pE BY
      .exact O.tr _ (pat p (m-1)) _ (so j (m-1) (jU hj') g.2) (O.tr _ (pat p 0) _ e (so 0 i (dz _) BY))
     have wd:Lg lt (kas_rev p 0 m) m:=Dn O m 0 m hs (λi j pE hj=>eq i j (dz _) (bf pE hj) (dz _) hj) eq (av _)
     refine ux O hc (hp.rev 0 m) l1 ml (sg O l1 wd ?_) i2 q
     rw[uw hs (av _),ou hs,aT g]
     exact O.tr _ (pat p (m-1)) _ (O.as _ _ um) (eq _ _ (q4 g) (q5 g) g.1 g.2)
   .rw[aP h1]
    have:m=1:=vg (lF.mp h1) l1
    subst this
    exact ux O hc hp (av _) hn (sg O (av _) (λi j pE hj=>q9 pE hj▸O.ir _) (O.as _ _ um)) i' q
def wk (O:pO lt) (hc:Mj n lt cmp I) (hp:sZ n p) (hk:k<n) (so:BX lt p k):∀(f l r:Nat) {Q:Nat->ak->Prop}{s:ak},l<=r->r<=k->r-l<=f->(∀i,i<l->lt (pat p k) (pat p i)=false)->(∀i,r<=i->i<k->lt (pat p i) (pat p k)=false)->I s->
  (∀m s',I s'->m<=k->(∀i,i<m->lt (pat p k) (pat p i)=false)->(∀i,m<=i->i<k->lt (pat p i) (pat p k)=false)->Q m s')->(kas_place p k f l r).kasWp cmp Q s
 |0,l,r,Q,s,h1,h2,h3,a,b,hi,q=>q l s hi (aA h1 h2) a (λi h4 h5=>b i (aA (Nat.le_of_sub_eq_zero (Nat.eq_zero_of_le_zero h3)) h4) h5)
 |f+1,l,r,Q,s,h1,h2,h3,a,b,hi,q=>by
  unfold kas_place
  by_cases h:l>=r
  .rw[aT h]
   exact q l s hi (aA h1 h2) a (λi h4 h5=>b i (aA h h4) h5)
  .rw[aP h]
   obtain⟨g1,g2,g3,g4,g5⟩:=qh h h2 h3
   show cmp (pat p k) (pat p ((l+r)/2)) _ s
   refine hc _ _ (hp.lt hk) (hp.lt (fA g3 hk)) _ s hi λs' BY=>?_
   cases e:lt (pat p k) (pat p ((l+r)/2)) with
   |true=>
    refine wk O hc hp hk so f l ((l+r)/2) g1 (dE g3) g4 a (λi h4 h5=>?_) BY q
    exact O.tr _ (pat p ((l+r)/2)) _ (O.as _ _ e) (so _ _ h4 h5)
   |false=>
    refine wk O hc hp hk so f ((l+r)/2+1) r g2 h2 g5 (λi h4=>?_) b BY q
    exact O.tr _ (pat p ((l+r)/2)) _ (so _ _ (eO h4) g3) e
def Jt (O:pO lt) (hc:Mj n lt cmp I):∀(f:Nat) (p:Array Nat) (k:Nat) {Q:Array Nat->ak->Prop}{s:ak},sZ n p->k+f=n->BX lt p k->I s->(∀p' s',I s'->sZ n p'->BX lt p' n->Q p' s')->(kas_bin f p k).kasWp cmp Q s
 |0,p,k,Q,s,hp,hk,so,hi,q=>q p s hi hp (by rw[show n=k from hk.symm];exact so)
 |f+1,p,k,Q,s,hp,hk,so,hi,q=>by
  unfold kas_bin
  rw[rG]
  have kn:k<n:=q1 (fw hk)
  refine wk O hc hp kn so k 0 k (dz _) (av _) (av _) (λi h=>absurd h (Nat.not_lt_zero _)) (λi h1 h2=>absurd h2 (Nat.not_lt_of_le h1)) hi λm s' i' l1 a b=>?_
  refine Jt O hc f _ (k+1) (hp.bub _ _) ((Ce k f).trans hk) (λi j pE hj=>?_) i' q
  have bu:=Mi (p:=p) (src:=k) (d:=k-m) (by rw[hp.size];exact kn) (qx _ _)
  rw[bu,bu,Nat.sub_sub_self l1]
  have jk:=eO hj
  by_cases i1:i=m
  .rw[aT i1]
   by_cases j1:j=m
   .rw[aT j1];exact O.ir _
   .have c:m<j/\j<=k:=⟨dY (i1▸pE) (cG j1),jk⟩
    rw[aP j1,aT c];exact b _ (jU c.1) (q14 c)
  .rw[aP i1]
   by_cases i2:m<i/\i<=k
   .have c:m<j/\j<=k:=⟨aY i2.1 pE,jk⟩
    rw[aT i2,aP (ie c.1),aT c];exact so _ _ (Nat.sub_le_sub_right pE 1) (q14 c)
   .rw[aP i2]
    by_cases j1:j=m
    .rw[aT j1];exact a _ (dY (j1▸pE) i1)
    .rw[aP j1]
     by_cases j2:m<j/\j<=k
     .rw[aT j2];exact so _ _ (jU (dY pE λz=>i2 (z▸j2))) (q14 j2)
     .rw[aP j2];exact so _ _ pE (aY (dY (F2 λz=>j2 ⟨z,jk⟩) j1) l1)
def Mn (O:pO lt) (hc:Mj n lt cmp I) (hn:2<=n) (hi:I s) (q:∀p' s',I s'->sZ n p'->BX lt p' n->Q p' s'):(kas_sort n).kasWp cmp Q s:=by
 unfold kas_sort
 rw[rG]
 refine Js O hc (show sZ n (List.toArray (List.range n)) from List.Perm.refl _) hn hi λm p' s' i' p2 l1 l2 so=>?_
 dsimp only
 by_cases h:m<n
 .rw[aT h]
  rw[Nat.max_eq_left l1]
  exact Jt O hc (n-m) p' m p2 (kE l2) so i' q
 .rw[aP h]
  exact q p' s' i' p2 (by rw[vg (lF.mp h) l2];exact so)
end
end L2
namespace HT
open PySem PySem.Spec PySem.W PyProof.Rows L2
section
variable {prog:aJ}{w:bB}{A:bH}{E:ag->ak->Prop}{s:ak}
def Fe (h h':Heap):Prop:=∀b o,h.get? b=some o->h'.get? b=some o
def Mo (prog:aJ) (w:bB) (A:bH) (vs:List ag) (lt:Nat->Nat->Bool) (s:ak):Prop:=
 ∃κ:SortKind,(∀Q:SortKind->ak->Prop,Q κ s->wpAny (model prog w) A (keyKind' vs.toArray) Q (λ_ _=>False) s)/\Mj vs.length lt (kas_ask prog w A κ vs) (λs'=>s'=s)
def inOrder (vs:List ag) (p:Array Nat):Array ag:=(p.toList.map λi=>vs.getD i Value.none).toArray
def xZ (vs:List ag):inOrder vs (List.toArray (List.range vs.length))=vs.toArray:=by
 unfold inOrder
 congr 1
 refine List.ext_getElem? λi=>?_
 rw[cg]
 show Option.map _ (List.range vs.length)[i]?=vs[i]?
 by_cases h:i<vs.length
 .rw[List.getElem?_range h,aH h]
  show some (vs.getD i Value.none)=_
  rw[bw,aH h];rfl
 .rw[jB (by rw[Cd];omega),jB ω];rfl
def qG (here:s.heap.get? a=some (seqObj "list" vs.toArray n)) (O:pO lt) (HU:vs.length<64)
  (ask:2<=vs.length->∀h',(∀b o,b≠a->s.heap.get? b=some o->h'.get? b=some o)->Mo prog w A vs lt {s with heap:=h'})
  (fin:∀p:Array Nat,sZ vs.length p->BX lt p vs.length->P (.done (.ret .none)) {s with heap:=sortedHeap s.heap a vs (inOrder vs p)}):
  wpAny (model prog w) A (Builtin.«list.sort» ⟨[.ref a],[]⟩) P E s:=by
 have low:a<s.heap.objs.size:=aC here
 have len:vs.toArray.size=vs.length:=aK ..
 obtain⟨c,emptied⟩:∃c,(s.heap.update a (Obj.mapSeq λ_=>#[])).get? a=some (seqObj "list" #[] c):=⟨_,get?_update_seq here (λ_=>#[])⟩
 have others:∀b o,b≠a->s.heap.get? b=some o->(((s.heap.update a (Obj.mapSeq λ_=>#[])).push (seqObj "tuple" vs.toArray 0)).push (seqObj "list" #[] 0)).get? b=some o:=λb o ne e=>by
  refine af _ (af _ ?_)
  rw[lS _ _ _ _ ne];exact e
 have Ff:(((s.heap.update a (Obj.mapSeq λ_=>#[])).push (seqObj "tuple" vs.toArray 0)).push (seqObj "list" #[] 0)).get? a=some (seqObj "list" #[] c):=af _ (af _ emptied)
 rw[list_sort_plain]
 refine aa (listItems_at here rfl (aa (Ta here rfl ?_)))
 refine aa (seqEpoch_at emptied rfl (aa (wpAny_newTuple (aa (HL (cm ?_))))))
 show wpAny (model prog w) A _ P E {s with heap:=((s.heap.update a (Obj.mapSeq λ_=>#[])).push (seqObj "tuple" vs.toArray 0)).push (seqObj "list" #[] 0)}
 dsimp only
 by_cases h2:vs.toArray.size<2
 .rw[aT h2,aT h2]
  refine aa (aj ?_)
  rw[StateT.run_pure]
  refine aa (aj ?_)
  dsimp only
  refine aa (seqEpoch_at Ff rfl ?_)
  refine aa (Ta Ff rfl ?_ (hsz2:=by rw[Array.size_map];show(pairsOf vs).size<=_;rw[pairsOf_size,hW];omega))
  simp only[bne_self_eq_false,dD,jj]
  have e:=fin (List.toArray (List.range vs.length)) (List.Perm.refl _) (λi j pE hj=>by
   have:i=j:=ω
   subst this;exact O.ir _)
  rw[xZ] at e
  refine aj ?_
  have e2:Array.map (·.2) (vs.toArray.zip vs.toArray)=vs.toArray:=by
   apply Array.toList_inj.mp
   rw[Array.toList_map,Array.toList_zip]
   exact List.map_snd_zip (av _)
  show P _ {s with heap:=Heap.update _ a (Obj.mapSeq λ_=>Array.map (·.2) (vs.toArray.zip vs.toArray))}
  rw[e2]
  exact e
 .rw[aP h2,aP h2]
  obtain⟨κ,hk,ans⟩:=ask ω _ others
  refine aa (bF (hk (λk s'=>k=κ/\s'=_) ⟨rfl,rfl⟩) ?_ λ_ _ z=>z.elim)
  rintro _ _ ⟨rfl,rfl⟩
  refine aa (bF (kat_run (ks:=vs) (vs:=vs) (G:=λp s'=>s'=_/\sZ vs.length p/\BX lt p vs.length) (Q:=λst s'=>∃p,arrOf st=p.map (kas_item (vs.toArray.zip vs.toArray))/\failedOf st=none/\s'=_/\sZ vs.length p/\BX lt p vs.length) rfl ω HU
   (λp st s' _ e1 e2 g=>⟨p,e1,e2,g⟩) (Mn O ans ω rfl λp s' e1 e2 e3=>⟨e1,e2,e3⟩)) ?_ λ_ _ z=>z)
  rintro⟨⟨⟩,st⟩ s' ⟨p,e1,e2,rfl,pm,so⟩
  have e3:(arrOf st).map (·.2)=inOrder vs p:=kat_snds rfl e1
  have z:(inOrder vs p).size=vs.length:=by
   show((p.toList.map λi=>vs.getD i Value.none).toArray).size=_
   rw[aK,aq,gE,pm.size]
  dsimp only at e2 e3⊢
  refine aa (seqEpoch_at Ff rfl ?_)
  refine aa (Ta Ff rfl ?_ (hsz2:=by rw[e3,z,hW];omega))
  rw[e2,e3]
  simp only[bne_self_eq_false,dD,jj]
  exact aj (fin p pm so)
def Dq (hl:s.heap.IsList l vs.toArray) (O:pO lt) (HU:vs.length<64)
  (ask:2<=vs.length->∀h',Fe s.heap h'->Mo prog w A.in1.in1 vs lt {s with heap:=h'})
  (fin:∀p:Array Nat,sZ vs.length p->BX lt p vs.length->Q (.ref (s.heap.objs.size+1)) {s with heap:=sortedAll s.heap vs (inOrder vs p)}):
  wpAny (model prog w) A (call (.builtin "sorted") [.ref l]) Q E s:=by
 refine uL kind_sorted plain_sorted entry_sorted (args_sorted1 _) ?_
 unfold Builtin.«sorted»
 refine aa (m:=checkCount "sorted" 1 1 _) (aj (aa (collect_list hl (aa (HL ?_)))))
 have z:((s.heap.push (seqObj "list" #[] 0)).update s.heap.objs.size (Obj.mapSeq (· ++vs.toArray))).objs.size=s.heap.objs.size+1:=by rw[lH,size_push']
 have qE:(((s.heap.push (seqObj "list" #[] 0)).update s.heap.objs.size (Obj.mapSeq (· ++vs.toArray))).push (seqObj "list" vs.toArray 0)).get? (s.heap.objs.size+1)=some (seqObj "list" vs.toArray 0):=z▸az _ rfl
 have old:∀b o,s.heap.get? b=some o->b<s.heap.objs.size/\(((s.heap.push (seqObj "list" #[] 0)).update s.heap.objs.size (Obj.mapSeq (· ++vs.toArray))).push (seqObj "list" vs.toArray 0)).get? b=some o:=λb o e=>by
  have lo:b<s.heap.objs.size:=aC e
  refine⟨lo,af _ ?_⟩
  rw[lS _ _ _ _ (bj lo)]
  exact af _ e
 show wpAny _ _ _ _ _ {s with heap:=((s.heap.push (seqObj "list" #[] 0)).update s.heap.objs.size (Obj.mapSeq (· ++vs.toArray))).push (seqObj "list" vs.toArray 0)}
 rw[z]
 refine aa (cm (dX slot_list_sort ⟨_,qE,rfl⟩ entry_list_sort ?_ (args_list_sort _)))
 refine qG qE O HU (λh2 h' k=>?_) λp pm so=>⟨_,rfl,aj ⟨_,rfl,fin p pm so⟩⟩
 exact ask h2 h' λb o e=>k b o (bj (ig (old b o e).1)) (old b o e).2
def uy {b fin:Bool}{Q:Bool->ak->Prop}:∀{vs ws:List ag}{r:Bool}(i:Nat),Lex A s vs ws r->fin=decide (vs.length<ws.length)->Q r s->KatLex prog w A b fin Q (vs.zip ws) (i+1) s
 |_,_,_,i,.nn,e,q=>by rw[e];exact q
 |_,_,_,i,.nc,e,q=>by
  show Q _ _
  rw[e,aI ς];exact q
 |_,_,_,i,.cn,e,q=>by
  show Q _ _
  rw[e,bE ς];exact q
 |_,_,_,i,.eq h1 h2,e,q=>by
  refine kat_cons (h1 _ _ _ _ (kat_yes (uy (i+1) h2 ?_ q)))
  rw[e];simp
 |_,_,_,i,.lt (r:=r) h1 h2,e,q=>by
  refine kat_cons (h1 _ _ _ _ (kat_no ?_))
  rw[show(b&&(i+1==0))=false by simp]
  exact kat_one _ _ (h2 _ _ _ _ q)
def Dr (h:Lex A s vs ws r) (q:Q (if a=c then r else eg a c) s):
  KatLex prog w A true (decide ((Value.str a t::vs).length<(Value.str c u::ws).length)) Q ((Value.str a t::vs).zip (Value.str c u::ws)) 0 s:=by
 have he:=H_ (A:=A) (s:=s) a t c u
 rw[List.zip_cons_cons]
 by_cases e:a=c
 .rw[aT e] at q
  rw[show(a==c)=true by simpa using e] at he
  exact kat_cons (he _ _ _ _ (kat_yes (uy 0 h ς q)))
 .rw[aP e] at q
  rw[show(a==c)=false by simpa using e] at he
  exact kat_cons (he _ _ _ _ (kat_no (oneLt_str q)))
def GP (a:Str) (t:Tok):Looks M h (typeOf (.str a t)) (.type "str"):=Looks.of_pure rfl
def Ju (h:Heap) (vs:List ag) (hd:Nat->Str) (rs:Nat->List ag):Prop:=∀i,i<vs.length->∃(a:ai) (t:Tok),vs[i]?=some (.ref a)/\IsTup h a (Value.str (hd i) t::rs i).toArray
def A9:∀{vs:List ag}{hd:Nat->Str}{rs:Nat->List ag},Ju h vs hd rs->∃fs:List ag,KatTups h vs fs/\fs.length=vs.length/\∀v∈fs,∃a t,v=Value.str a t
 | [],_,_,_=>⟨[],.nil,rfl,λv hv=>by cases hv⟩
 |v::vs,hd,rs,x=>by
  obtain⟨fs,k,l,al⟩:=A9 (vs:=vs) (hd:=λi=>hd (i+1)) (rs:=λi=>rs (i+1)) λi hi=>by
   obtain⟨a,t,e,p⟩:=x (i+1) (by simp;omega)
   exact⟨a,t,by simpa using e,p⟩
  obtain⟨a,t,e,o,ho,hc,n,YS⟩:=x 0 ς
  cases(show v=Value.ref a by simpa using e)
  refine⟨.str (hd 0) t::fs,KatTups.cons ho hc YS ς k,by simp[l],λz hz=>?_⟩
  rcases aD.mp hz with rfl|hz
  .exact⟨_,_,rfl⟩
  .exact al z hz
def yY {lt r:Nat->Nat->Bool}(h2:2<=vs.length) (x:Ju s.heap vs hd rs) (hx:∀i j,i<vs.length->j<vs.length->Lex A s (rs i) (rs j) (r i j))
  (o7:∀i j,i<vs.length->j<vs.length->lt i j=if hd i=hd j then r i j else eg (hd i) (hd j)):Mo prog w A vs lt s:=by
 obtain⟨fs,k,l,al⟩:=A9 x
 refine⟨tuples' true,λQ q=>kat_kind (T:=.type "str") k ω (λv hv=>?_) δ q,λi j hi hj C s' e q=>?_⟩
 .obtain⟨a,t,rfl⟩:=al v hv
  exact GP a t
 .subst e
  have q':=q _ rfl
  rw[o7 i j hi hj] at q'
  obtain⟨a,t,e1,o1,ho1,_,n1,d1⟩:=x i hi
  obtain⟨b,u,e2,o2,LS,_,n2,d2⟩:=x j hj
  show wpAny _ _ (keyLt' _ (vs.getD i Value.none) (vs.getD j Value.none)) C _ _
  rw[bw,bw,e1,e2]
  refine kat_lt ho1 d1 LS d2 ?_
  exact Dr (hx i j hi hj) q'
end
end HT
namespace HT
open PySem PySem.Spec PySem.W PyProof.Rows L2
structure Jv {κ:Type}(lt:κ->κ->Bool):Prop where
 SG:∀a,lt a a=false
 trans:∀a b c,lt a b=true->lt b c=true->lt a c=true
 Qd:∀a b,a≠b->lt a b=true\/lt b a=true
def Jv.ok {κ:Type} [DecidableEq κ] {lt:κ->κ->Bool}(S:Jv lt) (f:Nat->κ):pO λi j=>lt (f i) (f j):=by
 have as:∀a b,lt a b=true->lt b a=false:=λa b h=>by
  cases e:lt b a with
  |false=>rfl
  |true=>have:=S.trans _ _ _ h e;rw[S.SG] at this;cases this
 refine⟨λa b h=>as _ _ h,λa b c h1 h2=>?_⟩
 cases e:lt (f c) (f a) with
 |false=>rfl
 |true=>
  exfalso
  by_cases ab:f a=f b
  .rw[<-ab,e] at h2;cases h2
  .rcases S.Qd _ _ ab with h|h
   .rw[S.trans _ _ _ e h] at h2;cases h2
   .rw[h] at h1;cases h1
def ltI (a b:Int):Bool:=decide (a<b)
def Qe:Jv ltI:=⟨λa=>bE ω,λa b c h1 h2=>aI (by have:=aX h1;have:=aX h2;omega),λa b h=>by
 by_cases e:a<b
 .exact .inl (aI e)
 .exact .inr (aI ω)⟩
def Qf:Jv eg:=⟨zK,λ_ _ _=>tZ,λ_ _=>vn⟩
def x9 {α β:Type} [DecidableEq α] (f:α->α->Bool) (g:β->β->Bool) (x y:α×β):Bool:=if x.1=y.1 then g x.2 y.2 else f x.1 y.1
def Jv.lex {α β:Type} [DecidableEq α] {f:α->α->Bool}{g:β->β->Bool}(F:Jv f) (G:Jv g):Jv (x9 f g):=by
 refine⟨λa=>by unfold x9;rw[aT rfl];exact G.SG _,λa b c h1 h2=>?_,λa b h=>?_⟩
 .unfold x9 at*
  by_cases e1:a.1=b.1
  .rw[aT e1] at h1
   by_cases e2:b.1=c.1
   .rw[aT e2] at h2;rw[aT (e1.trans e2)];exact G.trans _ _ _ h1 h2
   .rw[aP e2] at h2;rw[aP (by rw[e1];exact e2),e1];exact h2
  .rw[aP e1] at h1
   by_cases e2:b.1=c.1
   .rw[aP (by rw[<-e2];exact e1),<-e2];exact h1
   .rw[aP e2] at h2
    have h3:=F.trans _ _ _ h1 h2
    rw[aP (λz=>by rw[z,F.SG] at h3;cases h3)];exact h3
 .unfold x9
  by_cases e:a.1=b.1
  .rw[aT e,aT e.symm]
   exact G.Qd _ _ λz=>h (Prod.ext e z)
  .rw[aP e,aP (λz=>e z.symm)]
   exact F.Qd _ _ e
def oC:Str×Str×Int->Str×Str×Int->Bool:=x9 eg (x9 eg ltI)
def uz:Jv oC:=Qf.lex (Qf.lex Qe)
section
variable {A:bH}{s:ak}
def Fg (a:Int) (t:Tok) (c:Int) (u:Tok) (h:Lex A s vs ws r):Lex A s (.int a t::vs) (.int c u::ws) (if a=c then r else ltI a c):=by
 have he:=SeqAt.EqAt.int_int (A:=A) (s:=s) a t c u
 by_cases e:a=c
 .rw[aT e]
  rw[show(a==c)=true by simpa using e] at he
  exact .eq he h
 .rw[aP e]
  rw[show(a==c)=false by simpa using e] at he
  exact .lt he (Dc.int a t c u)
def Fh (a:Str) (t:Tok) (c:Str) (u:Tok) (h:Lex A s vs ws r):Lex A s (.str a t::vs) (.str c u::ws) (if a=c then r else eg a c):=by
 have he:=H_ (A:=A) (s:=s) a t c u
 by_cases e:a=c
 .rw[aT e]
  rw[show(a==c)=true by simpa using e] at he
  exact .eq he h
 .rw[aP e]
  rw[show(a==c)=false by simpa using e] at he
  exact .lt he (Dc.str a t c u)
end
end HT
namespace L2
open PySem PySem.Spec PySem.W PyProof.Rows HT
def yZ {α:Type}(L:List α) (d:α) {p:List Nat}(h:p.Perm (List.range L.length)):(p.map λi=>L.getD i d).Perm L:=by
 have h1:=h.map λi=>L.getD i d
 have e:(List.range L.length).map (λi=>L.getD i d)=L:=by
  refine List.ext_getElem? λi=>?_
  rw[cg]
  by_cases hi:i<L.length
  .rw[List.getElem?_range hi,aH hi]
   show some (L.getD i d)=_
   rw[bw,aH hi];rfl
  .rw[jB (by rw[Cd];omega),jB ω];rfl
 rwa[e] at h1
def uD {α:Type}{L:List α}{d:α}{lt:α->α->Bool}{p:Array Nat}(pm:sZ L.length p) (so:BX (λi j=>lt (L.getD i d) (L.getD j d)) p L.length):(p.toList.map λi=>L.getD i d).Pairwise λe e'=>lt e' e=false:=by
 rw[List.pairwise_iff_getElem]
 intro i j hi hj pE
 rw[aq,gE] at hi hj
 have hz:=pm.size
 have at_:∀k (hk:k<p.size),pat p k=p.toList[k]'(by rw[gE];exact hk):=λk hk=>by
  unfold pat
  rw[jD,getElem?_pos p k hk,Array.getElem_toList];rfl
 have:=so i j ω ω
 rw[at_ i hi,at_ j hj] at this
 rw[ke,ke]
 exact this
structure mZ (κ:Type) where
 a:ai
 x:Str
 rest:List V
 key:κ
section
variable {X:Cx}{κ:Type}
def ua:∀{L:List (mZ κ)}{us:List ag},cK (L.map λe=>V.ref e.a) us->us=L.map λe=>Value.ref e.a
 | [],_,r=>by cases r;rfl
 |e::L,_,r=>by
  cases r with
  |cons r1 r2=>
   rw[bQ,ua r2,show _=Value.ref e.a from r1]
def ub:∀(L:List (mZ κ)),cK (L.map λe=>V.ref e.a) (L.map λe=>Value.ref e.a)
 | []=>.nil
 |e::L=>.cons rfl (ub L)
def wm [DecidableEq κ] {lt:κ->κ->Bool}(S:Jv lt) (dk:κ):gN X (.builtin "sorted") (λxs H Q=>∃(p:ai) (L:List (mZ κ)) (R:mZ κ->mZ κ->Bool),xs=[.ref p]/\cQ X.K H p (L.map λe=>V.ref e.a)/\L.length<64/\(∀e∈L,bZ X.K H e.a (.str e.x::e.rest))/\
  (∀(ac:List (ai×Obj)) (Z:St) (s:ak),Inv X ac Z H s->∀e∈L,∀e'∈L,∀us o8:List ag,cK e.rest us->cK e'.rest o8->∀h',Fe s.heap h'->Lex X.A.in1.in1 {s with heap:=h'} us o8 (R e e'))/\
  (∀e∈L,∀e'∈L,lt e.key e'.key=if e.x=e'.x then R e e' else eg e.x e'.x)/\
  ∀(l:ai) (L':List (mZ κ)),H l=none->L'.Perm L->(L'.Pairwise λe e'=>lt e'.key e.key=false)->Q (.ref l) (upd H l (.lst (L'.map λe=>V.ref e.a)))):=by
 intro ac s Z H xs us Q I r h
 obtain⟨p,L,R,rfl,hq,HU,hT,hR,hK,q⟩:=h
 obtain⟨u,rfl,rx⟩:=AB r
 cases(show u=Value.ref p from rx)
 obtain⟨cV,rv,pl,hz⟩:=I.list hq
 cases ua rv
 have d:mZ κ:=⟨0,"",[],dk⟩
 have gt:∀i,i<L.length->L.getD i d∈L:=λi hi=>by
  rw[bw,aH hi];exact cF hi
 have lz:(L.map λe=>Value.ref e.a).length=L.length:=aq _
 have ex:∀i,∃us:List ag,i<L.length->∃t,cK (L.getD i d).rest us/\IsTup s.heap (L.getD i d).a (Value.str (L.getD i d).x t::us).toArray:=λi=>by
  by_cases hi:i<L.length
  .obtain⟨cV,r,tp,_⟩:=I.tuple (hT _ (gt i hi))
   cases r with
   |cons r1 r2=>
    obtain⟨t,rfl⟩:=r1
    exact⟨_,λ_=>⟨t,r2,tp⟩⟩
  .exact⟨[],λh=>absurd h hi⟩
 obtain⟨rs,Qg⟩:=Classical.skolem.mp ex
 refine Dq pl.isList (S.ok λi=>(L.getD i d).key) ω (λh2 h' g=>?_) λpp pm so=>?_
 .refine yY (s:={s with heap:=h'}) (hd:=λi=>(L.getD i d).x) (rs:=rs) (r:=λi j=>R (L.getD i d) (L.getD j d)) h2 (λi hi=>?_) (λi j hi hj=>?_) (λi j hi hj=>?_)
  .rw[lz] at hi
   obtain⟨t,_,tp⟩:=Qg i hi
   refine⟨(L.getD i d).a,t,?_,tp.keeps g⟩
   rw[cg,bw,aH hi];rfl
  .rw[lz] at hi hj
   obtain⟨_,v1,_⟩:=Qg i hi
   obtain⟨_,v2,_⟩:=Qg j hj
   exact hR ac Z s I _ (gt i hi) _ (gt j hj) _ _ v1 v2 h' g
  .rw[lz] at hi hj
   exact hK _ (gt i hi) _ (gt j hj)
 .rw[lz] at pm so
  have e1:inOrder (L.map λe=>Value.ref e.a) pp=((pp.toList.map λi=>L.getD i d).map λe=>Value.ref e.a).toArray:=by
   unfold inOrder
   congr 1
   rw[pf]
   refine kF λi hi=>?_
   have BY:i<L.length:=qw.mp (pm.mem_iff.mp hi)
   show(L.map λe=>Value.ref e.a).getD i Value.none=Value.ref (L.getD i d).a
   rw[bw,cg,bw,aH BY];rfl
  rw[e1]
  have p1:=yZ L d pm
  have p2:=uD (lt:=λe e'=>lt e.key e'.key) pm so
  generalize pp.toList.map (λi=>L.getD i d)=L' at p1 p2
  obtain⟨e,he⟩:=sortedAll_at s.heap (L.map λe=>Value.ref e.a) (L'.map λe=>Value.ref e.a).toArray
  have fresh:H (s.heap.objs.size+1)=none:=I.eN.fresh (dM _)
  have nS:=p1.length_eq
  refine⟨.ref (s.heap.objs.size+1),upd H (s.heap.objs.size+1) (.lst (L'.map λe=>V.ref e.a)),I.laid (t':=s.toks) (λb o eb=>sortedAll_old eb) (dM _) ⟨?_,L'.map λe=>Value.ref e.a,e,ub L',?_⟩,rfl,q _ L' fresh p1 p2⟩
  .rw[aq];exact dE (eF ω)
  .rw[he]
end
section
variable {X:Cx}
end
end L2
namespace L2
open PySem PySem.Spec PyProof.Rows PySem.W
def Jq.ext (x:Jq A h) (k:∀a,A.handled=some (.ref a)->∀o,h.get? a=some o->h'.get? a=some o):Jq A h':=by
 obtain⟨a,oa,ws,e,ha,r⟩:=x
 exact⟨a,oa,ws,e,k a e _ ha,r⟩
section
variable {prog:aJ}{w:bB}{A:bH}{E:ag->ak->Prop}{s:ak}
def fZ (x:h.IsListIter a t i) (sb:Heap.SameBut b h h') (n:a≠b):h'.IsListIter a t i:=x.extBut sb.extBut n
def jP (x:h.IsList a vs) (sb:Heap.SameBut b h h') (n:a≠b):h'.IsList a vs:=x.extBut sb.extBut n
def qU (a1:s.heap.IsListIter J t n) (a2:s.heap.IsList t vs) (a3:vs[n]?=some y)
  (q:∀h',h'.IsListIter J t (n+1)->Heap.SameBut J s.heap h'->Q y {s with heap:=h'}):wpAny (model prog w) A (Builtin.SmallTypes.nextOf (.ref J)) Q E s:=by
 obtain⟨jo,j1,j2,j3⟩:=id a1
 obtain⟨to,t1,_,tn,t2⟩:=a2
 unfold Builtin.SmallTypes.nextOf
 refine aa (cM (name:=Str.ofString "__next__") a1.typeIs tL (dX tL a1.typeIs entry_listiter_next ?_ (args_listiter_next _)))
 refine(aa (bR j1 j3 (x:=.ref t) rfl ?_):wpAny _ _ (field (.ref J) 0>>=_) _ _ s)
 refine(?_:wpAny _ _ (if(Value.ref t==Value.none)=true then _ else _) _ _ s)
 rw[aP ς]
 refine(aa (bR j1 j3 (x:=.int n 0) rfl ?_):wpAny _ _ (field (.ref J) 1>>=_) _ _ s)
 refine(aa (cw t1 t2 ?_):wpAny _ _ (seqItems? (.ref t)>>=_) _ _ s)
 simp only[a3,jC]
 exact aa (jm j1 j3 ς (aj ⟨y,rfl,aj (q _ ⟨_,cY _ j1 (iu (ij j3 _)),(vc ..).trans j2,by rw[ij j3];simp[rawInt]⟩ (F6 ..))⟩))
def wo (hn:Jq A s.heap) (na:∀a,A.handled=some (.ref a)->a≠J) (a1:s.heap.IsListIter J t n) (a2:s.heap.IsList t vs) (a3:vs[n]?=none)
  (q:∀h' x,Heap.ExtBut J s.heap h'->(∃o,h'.get? x=some o/\o.cls=.type "StopIteration")->E (.ref x) {s with heap:=h'}):wpAny (model prog w) A (Builtin.SmallTypes.nextOf (.ref J)) Q E s:=by
 obtain⟨jo,j1,j2,j3⟩:=id a1
 obtain⟨to,t1,_,tn,t2⟩:=a2
 unfold Builtin.SmallTypes.nextOf
 refine aa (cM (name:=Str.ofString "__next__") a1.typeIs tL (dX tL a1.typeIs entry_listiter_next ?_ (args_listiter_next _)))
 refine(aa (bR j1 j3 (x:=.ref t) rfl ?_):wpAny _ _ (field (.ref J) 0>>=_) _ _ s)
 refine(?_:wpAny _ _ (if(Value.ref t==Value.none)=true then _ else _) _ _ s)
 rw[aP ς]
 refine(aa (bR j1 j3 (x:=.int n 0) rfl ?_):wpAny _ _ (field (.ref J) 1>>=_) _ _ s)
 refine(aa (cw t1 t2 ?_):wpAny _ _ (seqItems? (.ref t)>>=_) _ _ s)
 simp only[a3,jC]
 refine aa (kS (aa (jm j1 j3 ς ?_)))
 refine(aa ?_:wpAny _ _ (newExc (.type "StopIteration") []>>=_) _ _ _)
 simp only[newTuple,newExc]
 refine aa (bJ (aa (m:=firstArgMember _ _) (Cc (a:=Value.none) (by first|rfl|(simp only[firstArgMember];rfl)) (bJ ?_ (by size_fits)))) (by size_fits))
 have Ld:Jq A.in1 s.heap:=hn
 refine wj (Ld.ext λa ha o ho=>af _ (af _ ((ba _ _ (cG (na a ha))).trans ho))) (az _ rfl) rfl (by simp;omega) (λa ha z=>?_) λh' kp ⟨o,o1,o2⟩=>q _ _ (λb u nb hb=>kp b u (λz=>?_) (af _ (af _ ((ba _ _ (cG nb)).trans hb)))) ⟨o,o1,o2⟩
 .obtain⟨a',oa,ws,e,ho,_⟩:=hn
  have ea:a'=a:=by have:=e.symm.trans ha;injection this with this;injection this
  rw[ea] at ho
  have l1:=aC ho
  rw[z,cu] at l1
  rw[lH] at l1
  exact absurd l1 (lF.mpr (dQ _ _))
 .have l1:=aC hb
  rw[z,cu] at l1
  rw[lH] at l1
  exact absurd l1 (lF.mpr (dQ _ _))
def GQ {z TI TO i1 i2 t1 t2:ai} {Q:ag->ak->Prop}(D:ZipApart z TI TO i1 i2 t1 t2) (c1:IsZip s.heap z TI TO .none) (c2:IsPair s.heap TI (.ref i1) (.ref i2)) (c3:IsPair s.heap TO a b)
  (c4:s.heap.IsListIter i1 t1 n1) (c5:s.heap.IsListIter i2 t2 n2) (c6:s.heap.IsList t1 xs) (c7:s.heap.IsList t2 ys) (c8:xs[n1]?=some x) (c9:ys[n2]?=some y)
  (q:∀h',IsZip h' z TI TO (rawInt s.heap.objs.size)->IsPair h' TO x y->h'.IsListIter i1 t1 (n1+1)->h'.IsListIter i2 t2 (n2+1)->IsPair h' s.heap.objs.size x y->(∀c o,c≠z->c≠TO->c≠i1->c≠i2->s.heap.get? c=some o->h'.get? c=some o)->Q (.ref s.heap.objs.size) {s with heap:=h'}):
  wpAny (model prog w) A (Builtin.«zip.__next__» ⟨[.ref z],[]⟩) (λfin s'=>∃v,fin=.done (.ret v)/\Q v s') E s:=by
 refine(aa (bR c1 rfl (x:=.bool false) rfl ?_):wpAny _ _ (field (.ref z) 2>>=_) _ _ _)
 refine(aa (bR c1 rfl (x:=.ref TI) rfl ?_):wpAny _ _ (field (.ref z) 3>>=_) _ _ _);refine aa (cw c2 rfl ?_)
 refine(aa ?_:wpAny _ _ (Builtin.SmallTypes.ownedTupleIsFree (.ref z)>>=_) _ _ _)
 unfold Builtin.SmallTypes.ownedTupleIsFree
 refine aa (bR c1 rfl (x:=.none) rfl (aj ?_))
 simp only[nR]
 refine aa (kS ?_);refine aa (bR c1 rfl (x:=.ref TO) rfl ?_);refine aa (ef c1 ς λg1 k1 s1=>?_)
 have k1:IsZip g1 z TI TO .ellipsis:=k1
 refine aa ?_
 simp only[oU,xM,tK,vd]
 refine aa (aa (iZ ?_))
 show wpAny _ _ (Builtin.SmallTypes.nextOf (.ref i1)>>=_) _ _ _;refine aa (qU (fZ c4 s1 D.i1z) (jP c6 s1 D.l1z) c8 λg2 k2 s2=>aj ?_)
 have o2:IsPair g2 TO a b:=s2.extBut _ _ D.TOi1 (s1.extBut _ _ D.TOz c3)
 refine aa (cw o2 rfl ?_);refine aa (iQ o2 λg3 o3 s3=>?_);refine aa (fP (aj ?_))
 have o3:IsPair g3 TO x b:=o3
 refine aa (aa (iZ ?_))
 show wpAny _ _ (Builtin.SmallTypes.nextOf (.ref i2)>>=_) _ _ _;refine aa (qU (fZ (fZ (fZ c5 s1 D.i2z) s2 D.i12.symm) s3 D.TOi2.symm) (jP (jP (jP c7 s1 D.l2z) s2 D.l2i1) s3 D.l2TO) c9 λg4 k4 s4=>aj ?_)
 have o4:IsPair g4 TO x b:=s4.extBut _ _ D.TOi2 o3
 refine aa (cw o4 rfl ?_);refine aa (iQ o4 λg5 o5 s5=>?_);refine aa (fP (aj (aj ?_)))
 have o5:IsPair g5 TO x y:=o5
 refine aa (cw o5 rfl ?_);refine aa (wpAny_newTuple ?_)
 have sz:g5.objs.size=s.heap.objs.size:=by rw[s5.1,s4.1,s3.1,s2.1,s1.1]
 have z5:IsZip g5 z TI TO .ellipsis:=s5.extBut _ _ D.TOz.symm (s4.extBut _ _ D.i2z.symm (s3.extBut _ _ D.TOz.symm (s2.extBut _ _ D.i1z.symm k1)))
 have j1:g5.IsListIter i1 t1 (n1+1):=fZ (fZ (fZ k2 s3 D.TOi1.symm) s4 D.i12) s5 D.TOi1.symm
 have j2:g5.IsListIter i2 t2 (n2+1):=fZ k4 s5 D.TOi2.symm
 have zl:z<g5.objs.size:=aC z5
 refine(aa ?_:wpAny _ _ (Builtin.SmallTypes.ownedTupleHandOut (.ref z) (.ref g5.objs.size)>>=_) _ _ _)
 unfold Builtin.SmallTypes.ownedTupleHandOut
 refine aa (ef (af _ z5) ς λg7 z7 s7=>?_)
 have z7:IsZip g7 z TI TO (rawInt g5.objs.size):=z7
 refine ef z7 ς λg8 z8 s8=>aj ⟨_,rfl,?_⟩
 have z8:IsZip g8 z TI TO (rawInt g5.objs.size):=z8
 have up:∀c o,c≠z->g5.get? c=some o->g8.get? c=some o:=λc o n e=>s8.extBut _ _ n (s7.extBut _ _ n (af _ e))
 have T8:IsPair g8 g5.objs.size x y:=s8.extBut _ _ (ie zl) (s7.extBut _ _ (ie zl) (az _ rfl))
 rw[sz] at z8 T8
 refine(?_:Q (.ref g5.objs.size) _)
 rw[sz]
 obtain⟨v1,v2,v3⟩:=j1
 obtain⟨w1,w2,w3⟩:=j2
 exact q g8 z8 (up _ _ D.TOz o5) ⟨v1,up _ _ D.i1z v2,v3⟩ ⟨w1,up _ _ D.i2z w2,w3⟩ T8 λc o n1 n2 n3 n4 e=>up c o n1 (s5.extBut _ _ n2 (s4.extBut _ _ n4 (s3.extBut _ _ n2 (s2.extBut _ _ n3 (s1.extBut _ _ n1 e)))))
def GR {z TI TO i1 i2 t1 t2:ai} (hn:Jq A s.heap) (na:∀a,A.handled=some (.ref a)->a≠z/\a≠TO/\a≠i1/\a≠i2) (D:ZipApart z TI TO i1 i2 t1 t2) (c1:IsZip s.heap z TI TO .none) (c2:IsPair s.heap TI (.ref i1) (.ref i2)) (c3:IsPair s.heap TO a b)
  (c4:s.heap.IsListIter i1 t1 n1) (c5:s.heap.IsListIter i2 t2 n2) (c6:s.heap.IsList t1 xs) (c7:s.heap.IsList t2 ys) (c8:xs[n1]?=none\/ys[n2]?=none)
  (q:∀h' x,(∀c o,c≠z->c≠TO->c≠i1->c≠i2->s.heap.get? c=some o->h'.get? c=some o)->(∃o,h'.get? x=some o/\o.cls=.type "StopIteration")->E (.ref x) {s with heap:=h'}):
  wpAny (model prog w) A (Builtin.«zip.__next__» ⟨[.ref z],[]⟩) Q E s:=by
 have vX:∀{g:Heap} {x:ai} {o:Obj},IsZip g z TI TO .ellipsis->g.get? x=some o->o.cls=.type "StopIteration"->x≠z:=λ{g x o} k1 k2 k3 e=>by
  rw[e,k1] at k2
  cases k2
  exact absurd (show Value.type "zip"=Value.type "StopIteration" from k3) δ
 refine(aa (bR c1 rfl (x:=.bool false) rfl ?_):wpAny _ _ (field (.ref z) 2>>=_) _ _ _)
 refine(aa (bR c1 rfl (x:=.ref TI) rfl ?_):wpAny _ _ (field (.ref z) 3>>=_) _ _ _);refine aa (cw c2 rfl ?_)
 refine(aa ?_:wpAny _ _ (Builtin.SmallTypes.ownedTupleIsFree (.ref z)>>=_) _ _ _)
 unfold Builtin.SmallTypes.ownedTupleIsFree
 refine aa (bR c1 rfl (x:=.none) rfl (aj ?_))
 simp only[nR]
 refine aa (kS ?_);refine aa (bR c1 rfl (x:=.ref TO) rfl ?_);refine aa (ef c1 ς λg1 k1 s1=>?_)
 have k1:IsZip g1 z TI TO .ellipsis:=k1
 refine aa ?_
 simp only[oU,xM,tK,vd]
 refine aa (aa (iZ ?_))
 cases hx:xs[n1]? with
 |none=>
  show wpAny _ _ (Builtin.SmallTypes.nextOf (.ref i1)>>=_) _ _ _;refine aa (wo (hn.ext λa ha o ho=>s1.extBut _ _ (na a ha).1 ho) (λa ha=>(na a ha).2.2.1) (fZ c4 s1 D.i1z) (jP c6 s1 D.l1z) hx λg2 x s2 ⟨o,o1,o2⟩=>?_)
  have z2:IsZip g2 z TI TO .ellipsis:=s2 _ _ D.i1z.symm k1
  exact ef z2 ς λg3 _ s3=>q g3 x (λc u n1 _ n3 _ e=>s3.extBut _ _ n1 (s2 _ _ n3 (s1.extBut _ _ n1 e))) ⟨o,s3.extBut _ _ (vX z2 o1 o2) o1,o2⟩
 |some x1=>
  have hy:ys[n2]?=none:=by
   rcases c8 with e|e
   .rw[hx] at e;cases e
   .exact e
  show wpAny _ _ (Builtin.SmallTypes.nextOf (.ref i1)>>=_) _ _ _;refine aa (qU (fZ c4 s1 D.i1z) (jP c6 s1 D.l1z) hx λg2 k2 s2=>aj ?_)
  have o2:IsPair g2 TO a b:=s2.extBut _ _ D.TOi1 (s1.extBut _ _ D.TOz c3)
  refine aa (cw o2 rfl ?_);refine aa (iQ o2 λg3 o3 s3=>?_);refine aa (fP (aj ?_))
  refine aa (aa (iZ ?_))
  show wpAny _ _ (Builtin.SmallTypes.nextOf (.ref i2)>>=_) _ _ _;refine aa (wo (hn.ext λa ha o ho=>s3.extBut _ _ (na a ha).2.1 (s2.extBut _ _ (na a ha).2.2.1 (s1.extBut _ _ (na a ha).1 ho))) (λa ha=>(na a ha).2.2.2) (fZ (fZ (fZ c5 s1 D.i2z) s2 D.i12.symm) s3 D.TOi2.symm) (jP (jP (jP c7 s1 D.l2z) s2 D.l2i1) s3 D.l2TO) hy λg4 x s4 ⟨o,o1,Ux⟩=>?_)
  have z4:IsZip g4 z TI TO .ellipsis:=s4 _ _ D.i2z.symm (s3.extBut _ _ D.TOz.symm (s2.extBut _ _ D.i1z.symm k1))
  exact ef z4 ς λg5 _ s5=>q g5 x (λc u n1 n2 n3 n4 e=>s5.extBut _ _ n1 (s4 _ _ n4 (s3.extBut _ _ n2 (s2.extBut _ _ n3 (s1.extBut _ _ n1 e))))) ⟨o,s5.extBut _ _ (vX z4 o1 Ux) o1,Ux⟩
def UL {h:Heap} (x:h.IsList a vs) (o:Obj):(h.push o).IsList a vs:=x.at λu e=>af _ e
def Ds (t1 t2:ai) (xs ys:Array ag):Meets (Builtin.«zip.__new__» ⟨[.type "zip",.ref t1,.ref t2],[]⟩) (λ_ R s=>s.heap.IsList t1 xs/\s.heap.IsList t2 ys/\∀h1 h2 h3 h4 h5:Heap,
   h1=s.heap.push {cls:=.type "list_iterator",data:=.fields #[.ref t1,.int 0 0]}->h2=h1.push {cls:=.type "list_iterator",data:=.fields #[.ref t2,.int 0 0]}->h3=h2.push {cls:=.type "tuple",data:=.seq #[.ref s.heap.objs.size,.ref h1.objs.size]}->
   h4=h3.push {cls:=.type "tuple",data:=.seq #[.none,.none]}->h5=h4.push {cls:=.type "zip",data:=.fields #[.none,.bool false,.bool false,.ref h2.objs.size,.ref h3.objs.size]}->R (.ok (.ret (.ref h4.objs.size))) {s with heap:=h5}):=
 .of_wp λprog w A R s h=>by
  obtain⟨hp,g,d,tk,os⟩:=s
  obtain⟨p1,p2,h⟩:=h
  have L9:=sub_zip
  have q1:Heap.IsList (Shared.heap ⟨hp,g,d,tk,os⟩) t1 xs:=p1
  have q2:Heap.IsList (Shared.heap ⟨hp.push {cls:=.type "list_iterator",data:=.fields #[.ref t1,.int 0 0]},g,d,tk,os⟩) t2 ys:=UL p2 _
  wp_walk using iP q1,iP q2
  exact⟨_,rfl,h _ _ _ _ _ rfl rfl rfl rfl rfl⟩
def GS (p1:s.heap.IsList t1 xs) (p2:s.heap.IsList t2 ys)
  (q:∀h',IsZip h' (s.heap.objs.size+4) (s.heap.objs.size+2) (s.heap.objs.size+3) .none->IsPair h' (s.heap.objs.size+2) (.ref s.heap.objs.size) (.ref (s.heap.objs.size+1))->IsPair h' (s.heap.objs.size+3) .none .none->
   h'.IsListIter s.heap.objs.size t1 0->h'.IsListIter (s.heap.objs.size+1) t2 0->(∀c o,s.heap.get? c=some o->h'.get? c=some o)->Q (.ref (s.heap.objs.size+4)) {s with heap:=h'}):
  wpAny (model prog w) A (call (.type "zip") [.ref t1,.ref t2]) Q E s:=by
 refine callType_new F.called_zip δ (F.typeCall_zip_2 _ _) (F.newCall_zip_2 _ _) (λobj=>F.args_object_init_3 obj _ _) F.entry_zip_new (Ds t1 t2 xs ys) ⟨p1,p2,λh1 h2 h3 h4 h5 e1 e2 e3 e4 e5=>?_⟩
 have m1:h1.objs.size=s.heap.objs.size+1:=by rw[e1];exact cu ..
 have m2:h2.objs.size=s.heap.objs.size+2:=by rw[e2,cu,m1]
 have m3:h3.objs.size=s.heap.objs.size+3:=by rw[e3,cu,m2]
 have m4:h4.objs.size=s.heap.objs.size+4:=by rw[e4,cu,m3]
 have u5:∀c o,h4.get? c=some o->h5.get? c=some o:=λc o e=>by rw[e5];exact af _ e
 have u4:∀c o,h3.get? c=some o->h4.get? c=some o:=λc o e=>by rw[e4];exact af _ e
 have u3:∀c o,h2.get? c=some o->h3.get? c=some o:=λc o e=>by rw[e3];exact af _ e
 have u2:∀c o,h1.get? c=some o->h2.get? c=some o:=λc o e=>by rw[e2];exact af _ e
 have u1:∀c o,s.heap.get? c=some o->h1.get? c=some o:=λc o e=>by rw[e1];exact af _ e
 have f5:IsZip h5 (s.heap.objs.size+4) (s.heap.objs.size+2) (s.heap.objs.size+3) .none:=by
  rw[<-m4,<-m3,<-m2,e5];exact az _ rfl
 have f4:IsPair h4 (s.heap.objs.size+3) .none .none:=by rw[<-m3,e4];exact az _ rfl
 have f3:IsPair h3 (s.heap.objs.size+2) (.ref s.heap.objs.size) (.ref (s.heap.objs.size+1)):=by rw[<-m2,<-m1,e3];exact az _ rfl
 have f2:h2.IsListIter (s.heap.objs.size+1) t2 0:=⟨_,by rw[<-m1,e2];exact az _ rfl,rfl,rfl⟩
 have f1:h1.IsListIter s.heap.objs.size t1 0:=⟨_,by rw[e1];exact az _ rfl,rfl,rfl⟩
 rw[m4]
 obtain⟨v1,v2,v3⟩:=f1
 obtain⟨w1,w2,w3⟩:=f2
 exact⟨⟨_,f5,rfl⟩,q h5 f5 (u5 _ _ (u4 _ _ f3)) (u5 _ _ f4) ⟨v1,u5 _ _ (u4 _ _ (u3 _ _ (u2 _ _ v2))),v3⟩ ⟨w1,u5 _ _ (u4 _ _ (u3 _ _ w2)),w3⟩ λc o e=>u5 _ _ (u4 _ _ (u3 _ _ (u2 _ _ (u1 _ _ e))))⟩
end
section
variable {prog:aJ}{w:bB}{A:bH}{E:ag->ak->Prop}{s:ak}
def Jw (hn:Jq A s.heap) (na:∀a,A.handled=some (.ref a)->a≠J) (a1:IsTupIter s.heap J t n) (a2:IsTup s.heap t xs) (a3:xs[n]?=none)
  (q:∀h',Heap.ExtBut J s.heap h'->Q none {s with heap:=h'}):wpAny (model prog w) A (pyNext (.ref J)) Q E s:=by
 obtain⟨jo,j1,j2,j3⟩:=id a1
 obtain⟨to,t1,_,tn,t2⟩:=a2
 unfold pyNext
 refine aa (vC (cM (name:=Str.ofString "__next__") a1.typeIs slot_tupleiter_next (dX slot_tupleiter_next a1.typeIs entry_tupleiter_next ?_ (args_tupleiter_next _))))
 refine(aa (bR j1 j3 (x:=.ref t) rfl ?_):wpAny _ _ (field (.ref J) 0>>=_) _ _ s)
 refine(?_:wpAny _ _ (if(Value.ref t==Value.none)=true then _ else _) _ _ s)
 rw[aP ς]
 refine(aa (bR j1 j3 (x:=.int n 0) rfl ?_):wpAny _ _ (field (.ref J) 1>>=_) _ _ s)
 refine(aa (cw t1 t2 ?_):wpAny _ _ (seqItems? (.ref t)>>=_) _ _ s)
 simp only[a3,jC]
 refine aa (kS (aa (jm j1 j3 ς ?_)))
 refine(aa ?_:wpAny _ _ (newExc (.type "StopIteration") []>>=_) _ _ _)
 simp only[newTuple,newExc]
 refine aa (bJ (aa (m:=firstArgMember _ _) (Cc (a:=Value.none) (by first|rfl|(simp only[firstArgMember];rfl)) (bJ ?_ (by size_fits)))) (by size_fits))
 have Ld:Jq A.in1 s.heap:=hn
 refine wj (Ld.ext λa ha o ho=>af _ (af _ ((ba _ _ (cG (na a ha))).trans ho))) (az _ rfl) rfl (by simp;omega) (λa ha z=>?_) λh' kp ⟨o,o1,o2⟩=>?_
 .obtain⟨a',oa,ws,e,ho,_⟩:=hn
  have ea:a'=a:=by have:=e.symm.trans ha;injection this with this;injection this
  rw[ea] at ho
  have l1:=aC ho
  rw[z,cu] at l1
  rw[lH] at l1
  exact absurd l1 (lF.mpr (dQ _ _))
 .refine aa (O9 (T:="StopIteration") (b:=true) ⟨o,o1,o2⟩ isSubtype_stop (aj (q _ λb u nb hb=>kp b u (λz=>?_) (af _ (af _ ((ba _ _ (cG nb)).trans hb))))))
  have l1:=aC hb
  rw[z,cu] at l1
  rw[lH] at l1
  exact absurd l1 (lF.mpr (dQ _ _))
def A_ {kk} (hn:Jq A s.heap) (a2:IsTup s.heap t xs) (hl:(assignEach elts env).length=xs.size) (Ge:(assignEach elts env).findIdx? (·.1)=none)
  (q:∀h',Heap.ExtBut s.heap.objs.size s.heap h'->wpAny (model prog w) A (assignInOrder ((assignEach elts env).map (·.2)) xs.toList) Q E {s with heap:=h'}):wpAny (model prog w) A (assign (.Tuple elts kk pos) env (.ref t)) Q E s:=by
 have ne:t≠s.heap.objs.size:=by
  obtain⟨o,e,_⟩:=a2
  exact bj (aC e)
 rw[assign_Tuple]
 refine aa (jX ?_)
 unfold unpack
 rw[hl,Ge]
 refine aa (cm ?_)
 unfold unpackItems
 refine aa ?_
 unfold notIterableAtAll
 refine aa (wpAny_specialOf a2.typeIs slot_tuple_iter.lookup (aj ?_))
 simp only[dD,jj]
 refine aa (cm (iter_tuple a2 ?_))
 refine aa (cm (draw_tuple ne xs.size 0 _ _ ⟨_,az _ rfl,rfl,rfl⟩ (a2.push _) ω λg b1 b2=>?_))
 have all:List.take xs.size (List.drop 0 xs.toList)=xs.toList:=cZ (fw ς)
 rw[all,aP ς]
 have old:∀{b:ai} {o:Obj},s.heap.get? b=some o->g.get? b=some o:=λ{b o} e=>b2.extBut b o (bj (aC e)) (af _ e)
 refine aa (cm (Jw (hn.ext λa ha o ho=>old ho) (λa ha z=>?_) b1 ((a2.push _).extBut b2.extBut ne) ς λh2 e2=>?_))
 .obtain⟨a',oa,ws,e,ho,_⟩:=hn
  have ea:a'=a:=by have:=e.symm.trans ha;injection this with this;injection this
  rw[ea,z] at ho
  exact absurd (aC ho) (f_ _)
 .simp only[Option.isSome_none,dD,jj]
  exact aj (q h2 λb o nb e=>e2 b o nb (b2.extBut b o nb (af _ e)))
end
section
variable {X:Cx}
end
structure pP (K:Φ) (C:ai):Prop where
 ga:findIn K (.ref C) "__getattribute__"=some (some (.builtin "BaseException.__getattribute__"))
 no:findIn K (.ref C) "__getattr__"=some none
 cl:findIn K (.ref C) "__class__"=some (some (.builtin "object.__class__"))
 ob:mroIn K C (.type "object")=some true
 be:mroIn K C (.type "BaseException")=some true
 cs:(clsIn K C).isSome=true
def ExcAt (a C:ai) (h:Heap):Prop:=∃oe vs,h.get? a=some oe/\oe.cls=.ref C/\oe.dict=none/\oe.data=.fields vs
section
variable {prog:aJ}{w:bB}{A:bH}{E:ag->ak->Prop}{K:Φ}{h:Heap}{g:Array GenState}{d:Drawn}{t:Nat}{os:OsState}{a C:ai}
def Fi (h1:h.get? a=some oe) (h2:oe.cls=.ref C) (h3:oe.dict=none) (h4:oe.data=.fields vs):InstAt h a oe C none:=by
 refine⟨h1,h2,?_,?_⟩
 .obtain⟨_,_,dt,_⟩:=oe
  have:dt=.fields vs:=h4
  subst this
  rfl
 .rw[h3];trivial
def GU (X:K.In h) (F:pP K C) (p:ExcAt a C h) (q:Q () ⟨h,g,d,t,os⟩):wpAny (model prog w) A (checkBuiltinCall "BaseException.__getattribute__" ⟨[.ref a,Jx],[]⟩) Q E ⟨h,g,d,t,os⟩:=by
 obtain⟨oe,vs,h1,h2,h3,h4⟩:=p
 have L0:Looks (model prog w) h (typeOf (.ref a)) (.ref C):=h2▸(mJ h1).andThen .now
 have L1:=looks_mroIn (M:=model prog w) X F.be
 have hk:builtinKind "BaseException.__getattribute__"=some .slot:=by decide+kernel
 have hs:splitId "BaseException.__getattribute__"=some ("BaseException","__getattribute__"):=by decide+kernel
 have ha:=PySem.F.args_bexc_ga (.ref a) Jx
 simp only[checkBuiltinCall,hk,hs]
 refine aa ?_
 unfold isInstance
 repeat (first|with_reducible refine L0.at ?_|with_reducible refine L1.at ?_|wp_step)
 exact q
def GV (X:K.In h) (F:pP K C) (p:ExcAt a C h) (q:Q (.done (.ret (.ref C))) ⟨h,g,d,t,os⟩):
  wpAny (model prog w) A (Builtin.«object.__getattribute__» ⟨[.ref a,.str "__class__" tk],[]⟩) Q E ⟨h,g,d,t,os⟩:=by
 obtain⟨oe,vs,h1,h2,h3,h4⟩:=p
 have L0:Looks (model prog w) h (typeOf (.ref a)) (.ref C):=h2▸(mJ h1).andThen .now
 have L2:=i9 (M:=model prog w) X F.cl
 have hT5:(⟨h,g,d,t,os⟩:ak).TypeIs (.builtin "object.__class__") "getset_descriptor":=jE
 have f5:=jE
 have f6:=PySem.F.slot_gs_get.lookup
 have f7:=PySem.F.slot_gs_set.lookup
 repeat (any_goals (first|assumption|with_reducible refine L0.at ?_|with_reducible refine L2.at ?_|wp_step))
 refine class_get (s:=⟨h,g,d,t,os⟩) X (Fi h1 h2 h3 h4) F.ob ?_
 repeat (any_goals (first|assumption|wp_step))
def Qh (X:K.In h) (F:pP K C) (p:ExcAt a C h) (q:Q (.ref C) ⟨h,g,d,t,os⟩):
  wpAny (model prog w) A (getAttrBy (.ref a) (.str "__class__" tk) false) Q E ⟨h,g,d,t,os⟩:=by
 have p':=p
 obtain⟨oe,vs,h1,h2,h3,h4⟩:=p
 have L0:Looks (model prog w) h (typeOf (.ref a)) (.ref C):=h2▸(mJ h1).andThen .now
 have L1:=i9 (M:=model prog w) X F.ga
 have L2:=i9 (M:=model prog w) X F.no
 have b0:=fQ.ga.bind (.ref a)
 have n0:(onTheHeap (Value.ref C)&&Value.builtin "BaseException.__getattribute__"==Value.builtin "object.__getattribute__")=false:=by
  have n1:(Value.builtin "BaseException.__getattribute__"==Value.builtin "object.__getattribute__")=false:=by decide+kernel
  rw[n1];rfl
 repeat (any_goals (first|assumption|with_reducible refine L0.at ?_|with_reducible refine L1.at ?_|with_reducible refine L2.at ?_|wp_step))
 refine iS fQ.ga.plain vE (GU X F p' (GV X F p' ?_))
 repeat (any_goals (first|assumption|wp_step))
def Jy (X:K.In h) (F:pP K C) (p:ExcAt a C h) (q:Q (some (.ref C)) ⟨h,g,d,t+1,os⟩):wpAny (model prog w) A (getAttr? (.ref a) "__class__") Q E ⟨h,g,d,t,os⟩:=by
 unfold getAttr? getAttrBy?
 repeat (any_goals (first|assumption|with_reducible apply Qh X F p|wp_step))
end
def Jz {K:Φ}{a C:ai}(F:pP K C):KitX K (.ref a) (.ref C) (ExcAt a C) where
 ty:=λM h _ p=>by
  obtain⟨oe,vs,h1,h2,_⟩:=p
  exact h2▸(mJ h1).andThen .now
 it:=λ_ _ X _=>by
  obtain⟨cd,hc⟩:=iy.mp F.cs
  unfold clsIn at hc
  split at hc
  .rename_i c' d' YT Ga ho
   intro A' Q' E' s' k q
   unfold isType loadHead
   exact aa (B9 (k _ _ (X _ _ ho)) (aj q))
  .cases hc
 ne:=λh tp dd cV n sl X YU=>by
  obtain⟨cd,hc⟩:=iy.mp F.cs
  refine ik.mpr λq=>?_
  have e:C=tp:=Value.ref.inj (gQ.mp q)
  subst e
  unfold clsIn at hc
  split at hc
  .rename_i c' d' YT Ga ho
   have z:=(X _ _ ho).symm.trans YU
   cases z
  .cases hc
 ca:=λ{_ _ _ _ _ s} X p k=>by
  obtain⟨h,g,d,t,os⟩:=s
  exact Jy X F p k
structure qH (k:Nat) (a:ai) (A:bH):Prop where
 hd:A.handled=some (.ref a)
 dp:A.depth+3*k+5<recursionLimit
 un:A.units+16*k+200<cLine
 gd:A.guards=some []
def qH.of (r:eB k A):qH k a (A.mark (some (.ref a))):=⟨rfl,r.dp,r.un,r.gd⟩
def qH.deeper (r:qH (k+1) a A) (env:Env):qH k a (A.deeper env):=
 ⟨r.hd,by have:=r.dp;show A.depth+1+3*k+5<_;omega,by have:=r.un;show A.units+3+16*k+200<_;omega,r.gd⟩
abbrev Cx.Xg (X:Cx) (A:bH):Cx:={X with A:=A,calm:=false,xe:=λ_ _=>False}
def Inv.Xg (I:Inv X ac Z H s) (f:A.frames=some X.stack):Inv (X.Xg A) ac Z H s:=
 ⟨⟨I.ok.mod,I.ok.kind,I.ok.glob,I.ok.blt,I.ok.above,I.ok.inj,I.ok.has,I.ok.La,(λz=>nomatch z),f,I.ok.LF,I.ok.Gc,I.ok.bs,I.ok.Cn,I.ok.xS,I.ok.uP,I.ok.nF,I.ok.EH⟩,I.os,I.bare,I.base,I.loc,I.cell,I.free,I.jv,I.pin,I.eN,I.len⟩
structure Ba (P:aJ) (w:bB) (K:Φ) (mg:Str->Option ag) (base:Heap) (k:Nat) (f:ai) (fd:FuncData) (ps:List Str) (sp:ai->Sp):Prop where
 len:∀a vs H Q E,sp a vs H Q E->vs.length=ps.length
 run:∀(a:ai) (A:bH) (outer:List Env) (s:ak) (H:Hp) (args:Args) (us:List ag) (vs:List V) (Q:VK),qH k a A->uS P w K mg base A outer s H->BindsTo s fd args (ps.zip us)->cK vs us->sp a vs H Q E0->
  codeAny (model P w) A (.call (.ref f) args) (CR fN outer P w H s Q E0) s
abbrev wu (P:aJ) (w:bB) (K:Φ) (mg:Str->Option ag) (base:Heap) (N:List Str) (qual:Str) (scope:Scope) (f:ai) (cd:ag) (A:bH) (outer:List Env) (s:ak) (H:Hp):Cx:=
 (eQ fN P w K mg base N qual scope f cd {A with handled:=none} outer s H E0).Xg (A.deeper (envOfC qual scope s.heap.objs.size f cd))
def jg.okH {K:Φ} {st:Stmt} (F:jg K x qual st f fd) (S:bY N ps (ar st)) (len:∀a vs H Q E,sp a vs H Q E->vs.length=ps.length)
  (vS:∀(a:ai) (cdv:ag) (A:bH) (outer:List Env) (s:ak) (H:Hp) (vs:List V) (Q:VK),qH k a (A.deeper (envOfC qual (ar st) s.heap.objs.size f cdv))->sp a vs H Q E0->
   ∃t,xU (wu P w K mg base N qual (ar st) f cdv A outer s H) (fL st) t/\t {nx:=λ_ H'=>Q .eU H',rt:=Q} (start N vs) H):Ba P w K mg base (k+1) f fd ps sp:=by
 obtain⟨oc,od,kV,doc,pm,an,cdv,ct,vR,rfl,lk,Co⟩:=F.ex
 refine⟨len,λa A outer s H args us vs Q hr e0 hb r Gp=>?_⟩
 have hl:=len _ _ _ _ _ Gp
 have lT:K.In s.heap:=e0.mod.lT.keeps λb o e=>(e0.bs b o e).1
 have lim:s.heap.NoLimit:=e0.mod.nolimit.keeps λb o e=>(e0.bs b o e).1
 have kinds:∀y∈ps.zip us,(ar st).names.lookup y.1=some .local\/((ar st).names.lookup y.1=some .cell/\((cellsFrom (s.heap.objs.size+1) (ar st).names []).lookup y.1).isSome=true):=by
  rintro⟨n,v⟩ hy
  rcases S.par n (va hy).1 with z|z
  .exact .inl z
  .exact .inr ⟨z,uJ _ _ _ (.inl z)⟩
 refine codeAny_call_function (by have:=hr.dp;omega) (lT _ _ lk) rfl S.co S.gen rfl (PySem.W.codeRec_of lT Co) (hb _ _ _ _ ?_)
 refine wpAny_newFunctionEnv_cells S.kind kinds λenv he s1 x=>?_
 subst he
 refine⟨lim.keeps x.toInCall.keep,codeAny_func ?_⟩
 obtain⟨t,ht,hq⟩:=vS a cdv A outer s H vs Q (hr.deeper _) Gp
 have e1:uS P w K mg base {A with handled:=none} outer s H:=⟨e0.frames,e0.mod,e0.bs,e0.Cn,e0.nF,e0.EH,e0.eN,e0.bare⟩
 have I0:Inv (eQ fN P w K mg base N qual (ar st) f cdv {A with handled:=none} outer s H E0) [] (start N vs) H s1:=yD S rfl e1 hl r x
 have I:=I0.Xg (A:=A.deeper (envOfC qual (ar st) s.heap.objs.size f cdv)) (Around.frames_deeper e0.frames)
 refine bF (ht [] s1 (start N vs) H _ I hq) (λfl s' hs=>?_) λe s' hs=>False.elim hs
 cases fl with
 |ret u=>
  obtain⟨v,bX,H',J,rv,q⟩:=hs
  exact⟨v,H',J.os,J.bare,J.base,J.eN,rv,q⟩
 |next=>
  obtain⟨bX,H',J,q⟩:=hs
  exact⟨V.eU,H',J.os,J.bare,J.base,J.eN,rfl,q⟩
 |brk=>
  obtain⟨_,_,_,q⟩:=hs
  exact False.elim q
 |cont=>
  obtain⟨_,_,_,q⟩:=hs
  exact False.elim q
def JA (F:Ba X.prog X.w X.K X.mg X.base k f fd ps sp) (hr:qH k a X.A) (hg:Gl X x) (hm:X.mg x=some (.ref f)) (hk:PySem.W.keepIn X.K (.ref f)=true) (hb:Binds X.K fd ps [])
  (ha:PA X (e::es) t) (qM:(x==("__debug__":Str))=false:=by decide) (he:starEach (e::es) X.env=(false,eval e X.env)::starEach es X.env:=by rfl) (j4:(backTo pos (starEach es X.env)).any (·.1)=false:=by rfl):
  PE X (.Call (.Name x p) (e::es) [] pos) (j0 (sp a) [] E0 t):=by
 intro ac s Z H Q I h
 refine gq (jG I hg hm ?_ qM)
 refine jc (h₀:=X.base) I.ok.mod.lT hk (fE (ha pos ac s Z H _ I h) λus s1 c_=>?_) he j4
 obtain⟨vs,H1,I1,r,q⟩:=c_
 refine⟨I1.lK,?_⟩
 have r2:cK (vs++ []) (us++ []):=r.append .nil
 have hl:(us++ []).length=ps.length:=by rw[<-r2.length];exact F.len _ _ _ _ _ q
 refine mH (lE (F.run a X.A X.stack s1 H1 ⟨us,[]⟩ (us++ []) (vs++ []) Q hr I1.Gn (hb s1 us I1.lK hl) r2 q) λr s' hq=>?_)
 cases r with
 |error e=>exact False.elim hq
 |ok fl=>
  cases fl with
  |ret u=>exact I1.after hq
  |next=>exact False.elim hq
  |brk=>exact False.elim hq
  |cont=>exact False.elim hq
def JB:V->Option ag
 | .ref D=>some (.ref D)
 | .ty n=>some (.type n)
 |_=>none
def Qi (K:Φ):List V->Hp->VK->Prop:=λxs H Q=>∃a C c cv b,xs=[.ref a,c]/\H a=some (YR a (.ref C))/\pP K C/\JB c=some cv/\kitOne K (.ref C) cv=some b/\Q (.bl b) H
def Dt:gN X (.builtin "isinstance") (Qi X.K):=by
 intro ac s Z H xs us Q I r h
 obtain⟨a,C,c,cv,b,rfl,ha,F,hc,e,q⟩:=h
 obtain⟨u,u',rfl,r1,r2⟩:=vals2 r
 cases(show u=Value.ref a from r1)
 have hu:u'=cv:=by
  cases c<;>simp only[JB,Option.some.injEq,reduceCtorEq] at hc
  .subst hc;exact r2
  .subst hc;exact r2
 subst hu
 obtain⟨⟨oe,vs,h1,h2,h3,h4,_⟩,_⟩:=I.eN a _ ha
 exact kia_one (Jz F) I.lK ⟨oe,vs,h1,h2,h3,h4⟩ e (λz=>nomatch z) λtk=>⟨.bl b,H,I.tok tk,rfl,q⟩
section
variable {M:Model}{A:bH}{E:ag->ak->Prop}{s:ak}{K:Φ}{x C f:ai}{o:Obj}{name:Str}
def wK (lT:K.In s.heap) (hx:s.heap.get? x=some o) (hc:o.cls=.ref C) (hf:findIn K (.ref C) name=some r) (q:Q r s):wpAny M A (specialOf (.ref x) name) Q E s:=by
 unfold specialOf
 refine aa (ph hx ?_)
 rw[hc]
 exact(i9 lT hf).here q
def Du (lT:K.In s.heap) (hx:s.heap.get? x=some o) (hc:o.cls=.ref C) (hf:findIn K (.ref C) name=some (some (.ref f))) (BR:isFn K (.ref f)=true)
  (nM:wpAny M A (call (.ref f) (.ref x::args)) (λv=>Q (some v)) E s):wpAny M A (callSpecial? (.ref x) name args) Q E s:=by
 unfold callSpecial?
 refine aa (wK lT hx hc hf ?_)
 refine cm (aa ((bind_fn lT (.ref x) (gQ.mp BR)).here ?_))
 exact aa (bF nM (λv s' h'=>aj h') λ_ _ h'=>h')
def uE (lT:K.In s.heap) (hx:s.heap.get? x=some o) (hc:o.cls=.ref C) (hf:findIn K (.ref C) name=some (some (.ref f))) (BR:isFn K (.ref f)=true)
  (nM:wpAny M A (call (.ref f) (.ref x::args)) (λv=>Q (some v)) E s):wpAny M A (callSpecialIfBound? (.ref x) name args) Q E s:=by
 simp only[callSpecialIfBound?,bindSpecialIfBound?]
 refine cm (aa (aa (wK lT hx hc hf ?_)))
 refine aa (wpAny_askSetting (wpAny_ite ?_))
 have fin:wpAny M A (call (.ref f) ([.ref x]++args)>>=λv=>pure (some v)) Q E s:=aa (bF nM (λv s' h'=>aj h') λ_ _ h'=>h')
 split
 .exact aa ((bind_fn lT (.ref x) (gQ.mp BR)).here (aj (by exact fin)))
 .exact gG (aa ((bind_fn lT (.ref x) (gQ.mp BR)).here (aj (by exact fin))))
def zL {id:String} (lT:K.In s.heap) (hx:s.heap.get? x=some o) (hc:o.cls=.ref C) (hf:findIn K (.ref C) name=some (some (.builtin id))) (S:Slot B name id)
  (nM:wpAny M A (call (.builtin id) (.ref x::args)) (λv=>Q (some v)) E s):wpAny M A (callSpecialIfBound? (.ref x) name args) Q E s:=by
 simp only[callSpecialIfBound?,bindSpecialIfBound?]
 refine cm (aa (aa (wK lT hx hc hf ?_)))
 simp only[S.bind]
 refine aa (wpAny_askSetting (wpAny_ite ?_))
 have fin:wpAny M A (call (.builtin id) ([.ref x]++args)>>=λv=>pure (some v)) Q E s:=aa (bF nM (λv s' h'=>aj h') λ_ _ h'=>h')
 split
 .exact aa (aj (aj fin))
 .exact gG (aa (aj (aj fin)))
end
section
variable {prog:aJ}{w:bB}{A:bH}{E:ag->ak->Prop}{s:ak}{K:Φ}{x y C f:ai}{o oy:Obj}
def Qj (lT:K.In s.heap) (hx:s.heap.get? x=some o) (hc:o.cls=.ref C) (hf:findIn K (.ref C) "__len__"=some (some (.ref f))) (BR:isFn K (.ref f)=true)
  (nM:wpAny (model prog w) A.in1 (call (.ref f) [.ref x]) (λr s'=>∃n u,r=.int n u/\0<=n/\n<2^63/\Q (.int n s'.toks) {s' with toks:=s'.toks+1}) E s):
  wpAny (model prog w) A (call (.builtin "len") [.ref x]) Q E s:=by
 refine uL kind_len plain_len entry_len (args_len1 _) ?_
 unfold Builtin.«len»
 refine aa (m:=oneArg "len" _) (aj ?_)
 refine aa (m:=callSpecial? (.ref x) (Str.ofString "__len__")) (Du lT hx hc hf BR (bF nM (λr s' hr=>?_) λ_ _ y=>y))
 obtain⟨n,u,rfl,h0,h1,hq⟩:=hr
 refine aa (cm (aj ?_))
 refine aa (fP ?_)
 show wpAny _ _ (if n<0 then _ else _) _ _ _
 rw[aP ω]
 show wpAny _ _ (if n>=2^63 then _ else _) _ _ _
 rw[aP ω]
 exact aa (wpAny_mkInt (aj ⟨_,rfl,hq⟩))
def UM (lT:K.In s.heap) (hx:s.heap.get? x=some o) (hc:o.cls=.ref C) (hf:findIn K (.ref C) "__eq__"=some (some (.ref f))) (BR:isFn K (.ref f)=true) (hy:s.heap.get? y=some oy) (YV:oy.cls=.ref C) (hu:A.units<cLine)
  (nM:wpAny (model prog w) A (call (.ref f) [.ref x,.ref y]) (λv s'=>∃b,v=.bool b/\Q (.bool b) s') E s):
  wpAny (model prog w) A (compareOp .Eq (.ref x) (.ref y)) Q E s:=by
 unfold compareOp richCompare
 simp only[oneThing_ref]
 refine cm ?_
 refine aa (wpAny_cRoomFor hu ?_)
 rw[cmpInfo_Eq]
 dsimp only
 refine aa (ph hx ?_)
 rw[hc]
 refine aa (ph hy ?_)
 rw[YV]
 rw[show(Value.ref C !=Value.ref C)=false from by simp]
 simp only[dD,jj]
 refine aa (aj ?_)
 simp only[dD,jj]
 unfold tryCompare
 refine aa (aa (uE lT hx hc hf BR (bF nM (λv s' hv=>?_) λ_ _ e=>e)))
 obtain⟨b,rfl,hq⟩:=hv
 exact aj (aj hq)
def GW (lT:K.In s.heap) (hx:s.heap.get? x=some o) (hc:o.cls=.ref C) (hf:findIn K (.ref C) "__eq__"=some (some (.ref f))) (BR:isFn K (.ref f)=true) (hu:A.units<cLine)
  (nM:wpAny (model prog w) A (call (.ref f) [.ref x,.ref y]) (λv s'=>∃b,v=.bool b/\Q (.done (.ret (.bool (!b)))) s') E s):
  wpAny (model prog w) A (Builtin.«object.__ne__» ⟨[.ref x,.ref y],[]⟩) Q E s:=by
 unfold Builtin.«object.__ne__»
 repeat (first
  |with_reducible refine wpAny_cRoomFor hu ?_
  |(refine aa (m:=callSpecialIfBound? (.ref x) (Str.ofString "__eq__") [.ref y]) (uE lT hx hc hf BR (bF nM (λr s' hr=>by
    obtain⟨b,rfl,hq⟩:=hr
    repeat (first|exact hq|exact aj hq|exact dI hq|(refine aa (m:=truthy (.bool _)) (dI ?_))|wp_step)) λ_ _ e=>e)))
  |wp_step)
def UN (lT:K.In s.heap) (hx:s.heap.get? x=some o) (hc:o.cls=.ref C) (hf:findIn K (.ref C) "__eq__"=some (some (.ref f))) (BR:isFn K (.ref f)=true) (YW:findIn K (.ref C) "__ne__"=some (some (.builtin "object.__ne__"))) (Qk:mroIn K C (.type "object")=some true) (hy:s.heap.get? y=some oy) (YV:oy.cls=.ref C) (hu:A.units+1<cLine)
  (nM:wpAny (model prog w) A.in1 (call (.ref f) [.ref x,.ref y]) (λv s'=>∃b,v=.bool b/\Q (.bool (!b)) s') E s):
  wpAny (model prog w) A (compareOp .NotEq (.ref x) (.ref y)) Q E s:=by
 have L0:Looks (model prog w) s.heap (typeOf (.ref x)) (.ref C):=hc▸(mJ hx).andThen .now
 have L1:Looks (model prog w) s.heap (isInstance (.ref x) (.type "object")) true:=L0.andThen (looks_mroIn lT Qk)
 unfold compareOp richCompare
 simp only[oneThing_ref]
 refine cm ?_
 refine aa (wpAny_cRoomFor (Nat.lt_of_succ_lt hu) ?_)
 rw[cmpInfo_NotEq]
 dsimp only
 refine aa (ph hx ?_)
 rw[hc]
 refine aa (ph hy ?_)
 rw[YV]
 rw[show(Value.ref C !=Value.ref C)=false from by simp]
 simp only[dD,jj]
 refine aa (aj ?_)
 simp only[dD,jj]
 unfold tryCompare
 refine aa (aa (zL lT hx hc YW PySem.F.cmp_object.ne (mH (iS PySem.F.cmp_object.ne.plain F.cmpEntry_ne
  (check_slot F.cmpKind_ne F.cmpSplit_ne L1 (F.cmpArgs_ne _ _)
   (GW (A:=A.in1) lT hx hc hf BR hu (bF nM (λv s' hv=>?_) λ_ _ e=>e)))))))
 obtain⟨b,rfl,hq⟩:=hv
 exact⟨b,rfl,aj (aj hq)⟩
end
section
variable {X:Cx}{k:Nat}{f C:ai}{fd:FuncData}{ps:List Str}{sp:Sp}
def Fj {ac:List (ai×Obj)}{Z:St}{H:Hp}{s:ak}{Q:VK}{R:ag->ak->Prop}{us:List ag}{vs:List V}(F:dR X.prog X.w X.K X.mg X.base fN k f fd ps sp) (hr:eB (k+1) X.A) (hb:Binds X.K fd ps [])
  (I:Inv X ac Z H s) (r:cK vs us) (h:sp vs H Q E0) (hR:∀u s',EP X ac Z Q u s'->R u s'):wpAny (model X.prog X.w) X.A.in1 (call (.ref f) us) R X.xe s:=by
 have hl:(us++ []).length=ps.length:=by rw[cU,<-r.length];exact F.len _ _ _ _ h
 refine mH (lE (F.run X.A.in1 X.stack s H ⟨us,[]⟩ (us++ []) vs Q E0 hr.in1 I.Gn.in1 (hb s us I.lK hl) (by rw[cU];exact r) h) λr s' hq=>?_)
 cases r with
 |error e=>exact False.elim hq
 |ok fl=>
  cases fl with
  |ret u=>exact hR _ _ (I.after hq)
  |next=>exact False.elim hq
  |brk=>exact False.elim hq
  |cont=>exact False.elim hq
def sh (eN:qB P w H h) (e:H a=some (.ins C dx fs)):∃o,h.get? a=some o/\o.cls=.ref C:=by
 obtain⟨d,z,ne,ob,_⟩:=(show gf P w H h a (.ins C dx fs) from eN a _ e)
 exact⟨_,ob,rfl⟩
def Oc (C:ai) (sp:Sp):List V->Hp->VK->Prop:=λxs H Q=>∃a dx fs,xs=[.ref a]/\H a=some (.ins C dx fs)/\sp [.ref a] H (λv H'=>∃n:Nat,v=.int n/\n<2^62/\Q (.int n) H') E0
def GX (F:dR X.prog X.w X.K X.mg X.base fN k f fd ps sp) (hr:eB (k+1) X.A) (hb:Binds X.K fd ps []) (hm:uR X.K C "__len__" f):gN X (.builtin "len") (Oc C sp):=by
 rintro ac s Z H xs us Q I r ⟨a,dx,fs,rfl,ea,h⟩
 obtain⟨u,o8,rfl,ru,rr⟩:∃u o8,us=u::o8/\RelV (.ref a) u/\cK [] o8:=by cases r with|cons q t=>exact⟨_,_,rfl,q,t⟩
 cases rr
 obtain rfl:u=Value.ref a:=ru
 obtain⟨o,ho,hc⟩:=sh I.eN ea
 refine Qj I.lK ho hc hm.at_ hm.fn (Fj (vs:=[.ref a]) F hr hb I (.cons rfl .nil) h ?_)
 rintro u s' ⟨v,H',I',rv,n,rfl,hn,q⟩
 obtain⟨t,rfl⟩:=rv
 exact⟨n,t,rfl,ω,ω,.int n,H',I'.tok _,⟨_,rfl⟩,q⟩
def Mp (C:ai) (sp:Sp) (neg:Bool):R2:=λx y H Q=>∃a b dx fs Ql Tn,x=.ref a/\y=.ref b/\H a=some (.ins C dx fs)/\H b=some (.ins C Ql Tn)/\sp [.ref a,.ref b] H (λv H'=>∃c:Bool,v=.bl c/\Q (.bl (if neg=true then !c else c)) H') E0
def Qm (F:dR X.prog X.w X.K X.mg X.base fN k f fd ps sp) (hr:eB k X.A) (hb:Binds X.K fd ps []) (hm:uR X.K C "__eq__" f):lP X (compareOp .Eq) (Mp C sp false):=by
 rintro ac s Z H x y u v Q I rx ry ⟨a,b,dx,fs,Ql,Tn,rfl,rfl,ea,eb,h⟩
 obtain rfl:u=Value.ref a:=rx
 obtain rfl:v=Value.ref b:=ry
 obtain⟨o,ho,hc⟩:=sh I.eN ea
 obtain⟨o',xT,xF⟩:=sh I.eN eb
 refine UM I.lK ho hc hm.at_ hm.fn xT xF hr.Py ?_
 have:=vQ (X:=X) (E:=E0) (mR:=[]) (ds:=[]) (vs:=[.ref a,.ref b]) (us:=[Value.ref a,Value.ref b]) F hr hb .nil (λ_ _ _ _ _ _ _ z=>z.elim) I (.cons rfl (.cons rfl .nil)) h
 refine bF this (λr s' hr'=>?_) λ_ _ e=>e
 obtain⟨v,H',I',rv,c,rfl,q⟩:=hr'
 obtain rfl:r=Value.bool c:=rv
 exact⟨c,rfl,.bl c,H',I',rfl,q⟩
def Qn (F:dR X.prog X.w X.K X.mg X.base fN k f fd ps sp) (hr:eB (k+1) X.A) (hb:Binds X.K fd ps []) (hm:uR X.K C "__eq__" f) (YW:findIn X.K (.ref C) "__ne__"=some (some (.builtin "object.__ne__"))) (Qk:mroIn X.K C (.type "object")=some true):lP X (compareOp .NotEq) (Mp C sp true):=by
 rintro ac s Z H x y u v Q I rx ry ⟨a,b,dx,fs,Ql,Tn,rfl,rfl,ea,eb,h⟩
 obtain rfl:u=Value.ref a:=rx
 obtain rfl:v=Value.ref b:=ry
 obtain⟨o,ho,hc⟩:=sh I.eN ea
 obtain⟨o',xT,xF⟩:=sh I.eN eb
 refine UN I.lK ho hc hm.at_ hm.fn YW Qk xT xF (by have:=hr.units;omega) (Fj (vs:=[.ref a,.ref b]) F hr hb I (.cons rfl (.cons rfl .nil)) h ?_)
 rintro r s' ⟨v,H',I',rv,c,rfl,q⟩
 obtain rfl:r=Value.bool c:=rv
 exact⟨c,rfl,.bl (!c),H',I',rfl,q⟩
end
end L2
local macro_rules
 | `(tactic| exists $F, $c) => do
  let i (x : Lean.Name) := Lean.mkIdent x
  `(tactic| refine $F $c (fun $(i `vs) $(i `H) $(i `Q) $(i `E) $(i `h) => ?_) (fun $(i `cdv) $(i `A) $(i `outer) $(i `s) $(i `H) $(i `vs) $(i `Q) $(i `E) $(i `hr) $(i `h) => ?_))
namespace K13
open PySem L2
def lY (h:∀D':Ends,(∀bX H',u D bX H'->D'.nx bX H')->t D' Z H):vM t u D Z H:=h {D with nx:=u D} λ_ _ z=>z
def iO (h0:Z[i]?=some (some (.ref t))) (h:bZ K H t xs) (h1:qA xs j=some x) (q:Q x H):gH (gg K) (cj i) (tC (.int j)) Z H Q:=⟨_,h0,t,xs,j,x,rfl,rfl,h,h1,q⟩
def Dv (h0:Z[i]?=some (some (.ref t))) (h:cQ K H t xs) (h1:qA xs j=some x) (q:Q x H):gH (Gr K) (cj i) (tC (.int j)) Z H Q:=⟨_,h0,t,xs,j,x,rfl,rfl,h,h1,q⟩
def GY (h:bZ K H t [x,y]) (q:Q ((Z.set i (some x)).set j (some y)) H):Cq K 2 (jZ (de i) (jZ (de j) zt)) (.ref t) Z H Q:=⟨t,_,rfl,h,rfl,_,_,rfl,_,_,rfl,rfl,q⟩
def UO (h:bZ K H t [x,y,z]) (q:Q (((Z.set i (some x)).set j (some y)).set k (some z)) H):Cq K 3 (jZ (de i) (jZ (de j) (jZ (de k) zt))) (.ref t) Z H Q:=⟨t,_,rfl,h,rfl,_,_,rfl,_,_,rfl,_,_,rfl,rfl,q⟩
section
variable {P:aJ}{w:bB}{K:Φ}{mg:Str->Option ag}{base:Heap}
def top (i:Nat):Stmt:=PySem.Challenge.pw_rowtrim_k13_clubs_by_turns.main.body.getD i (.Pass ⟨0,0,0,0⟩)
abbrev Dw:Stmt:=top 16
abbrev JC:Stmt:=top 17
abbrev zM:Stmt:=top 33
abbrev Dx:Stmt:=top 34
structure Txt (mg:Str->Option ag):Prop where
 ValueError:mg "ValueError"=none
 abs:mg "abs"=none
 all:mg "all"=none
 any:mg "any"=none
 bool:mg "bool"=none
 enum:mg "enumerate"=none
 int:mg "int"=none
 s_:mg "isinstance"=none
 len:mg "len"=none
 list:mg "list"=none
 max:mg "max"=none
 min:mg "min"=none
 range:mg "range"=none
 sorted:mg "sorted"=none
 str:mg "str"=none
 sum:mg "sum"=none
 tuple:mg "tuple"=none
 zip:mg "zip"=none
 LN:∃t,mg "LONGEST_NAME"=some (.int 8 t)
 MC:∃t,mg "MOST_IN_CREW"=some (.int 4 t)
 LG:∃t,mg "LONGEST"=some (.int 1000000000 t)
 HV:∃t,mg "HEAVIEST"=some (.int 1000000 t)
 MR:∃t,mg "MOST_ROWERS"=some (.int 8 t)
def Df (P:aJ) (w:bB) (K:Φ) (mg:Str->Option ag) (base:Heap) (k:Nat) (x:Str) (ps:List Str) (sp:Sp):Prop:=
 ∃f fd,dR P w K mg base fN k f fd ps sp/\Binds K fd ps []/\PySem.W.keepIn K (.ref f)=true/\mg x=some (.ref f)
def cE (D:Df X.prog X.w X.K X.mg X.base k x ps sp) (hr:eB k X.A) (ha:PA X (e::es) t) (hg:Gl X x:=by rfl) (qM:(x==("__debug__":Str))=false:=by decide)
  (he:starEach (e::es) X.env=(false,eval e X.env)::starEach es X.env:=by rfl) (j4:(backTo pos (starEach es X.env)).any (·.1)=false:=by rfl):PE X (.Call (.Name x p) (e::es) [] pos) (j0 sp [] E0 t):=by
 obtain⟨f,fd,F,b,kp,m⟩:=D
 exact LP F hr hg m kp b .nil AS ha qM he j4
def x_ (p:PyData->Bool):Sp:=λvs H Q _=>∃k d v,vs=[v]/\Tells H k d v/\rZ d/\∀H',bg H H'->Q (.bl (p d)) H'
def wL:PyData->Bool
 | .int _=>true
 |_=>false
def y9 (d:PyData):(Aw d "int"&& !Aw d "bool")=wL d:=by cases d<;>rfl
def scW:bY ["thing"] ["thing"] (ar Dw):={}
def JD (F:jg K "is_whole" "is_whole" Dw f fd) (T:Txt mg):dR P w K mg base fN 1 f fd ["thing"] (x_ wL):=by
 exists F.ok,scW
 .obtain⟨k,d,v,rfl,_⟩:=h
  rfl
 .obtain⟨k,d,v,rfl,t,_,q⟩:=h
  refine⟨_,aF (bN (jH (aR fR rfl T.s_ aE (ae (pv 0) (ae (gX (v:=.ty "int") rfl T.int nv rfl) ah)))
   (mK (Cp (aR fR rfl T.s_ aE (ae (pv 0) (ae (gX (v:=.ty "bool") rfl T.bool uM rfl) ah))))))),?_⟩
  refine⟨_,rfl,k,_,_,d,rfl,t,.inl rfl,_,rfl,?_⟩
  have e:=y9 d
  refine eY (λc=>?_) (λc=>?_)
  .refine⟨_,rfl,k,_,_,d,rfl,t,.inr (.inl rfl),_,rfl,?_⟩
   rw[c,cA] at e
   rw[e]
   exact q H (bg.refl _)
  .rw[show Aw d "int"=false by simpa using c,bz] at e
   rw[e]
   exact q H (bg.refl _)
def fD.closed (hk:scope.kind=.function) (h1:∀y∈scope.names,y.2≠.cell:=by decide+kernel) (h2:∀y∈scope.names,y.2=.local->scope.names.lookup y.1=some .local:=by decide+kernel) (h3:∀y∈scope.names,y.2≠.free:=by decide+kernel):fD X scope N (N.map λ_=>none):=
 ⟨hk,h1,h2,λy hy e=>absurd e (h3 y hy),aq _,λi j x e _=>by
  rw[cg] at e
  cases h:N[i]? with
  |none=>rw[h] at e;cases e
  |some z=>rw[h] at e;cases e⟩
def YX (x:Str):([x]:List Str).Nodup:=ς
def sgn (c:Nat):Bool:=(!decide ((⟨#[c]⟩:Str).cps.toList<("a":Str).cps.toList))&&(!decide (("z":Str).cps.toList<(⟨#[c]⟩:Str).cps.toList))
def fJ:PyData->Bool
 | .str x=>(decide (1<=(x.length:Int))&&decide ((x.length:Int)<=8))&&(x.cps.toList.map sgn).all id
 |_=>false
def Fk (h:Aw d "str"=true):∃x,d=.str x:=by
 cases d with
 |str x=>exact⟨x,rfl⟩
 |none=>cases h
 |bool b=>cases h
 |int i=>cases h
 |list ds=>cases h
 |tuple ds=>cases h
 |dict dW=>cases h
def Fl (x:Str) (i:Nat) (H:Hp) (hi:i<=x.cps.size):(i=x.cps.size->(N4 x).stop i H)/\(i<x.cps.size->(N4 x).go i H/\∀y H',(N4 x).BS i H y H'->H'=H/\y=.str ⟨#[x.cps.getD i 0]⟩):=by
 refine⟨λe=>e,λe=>⟨e,λy H' q=>?_⟩⟩
 obtain⟨q1,c,q2,q3⟩:=q
 refine⟨q1,?_⟩
 rw[q3]
 simp[Array.getD,e,(jV.mp q2).2]
def uc {x:Str}(h:i<x.cps.size):x.cps.toList.take (i+1)=x.cps.toList.take i++ [x.cps.getD i 0]:=by
 rw[rn]
 congr 1
 simp[Array.getD,h]
def scN:bY ["thing"] ["thing"] (ar JC):={}
def Fm (F:jg K "is_name" "is_name" JC f fd) (T:Txt mg):dR P w K mg base fN 1 f fd ["thing"] (x_ fJ):=by
 exists F.ok,scN
 .obtain⟨k,d,v,rfl,_⟩:=h
  rfl
 .obtain⟨k,d,v,rfl,t,hf,q⟩:=h
  obtain⟨tl,hLN⟩:=T.LN
  refine⟨_,aw (cS (PW.pt (jw (fS (fM (aR fR rfl T.s_ aE (ae (pv 0) (ae (gX (v:=.ty "str") rfl T.str gT rfl) ah)))))
    (kf (fS (rQ rO rO ao (aR rW rfl T.len bC (ae (pv 0) ah)) (fT (v:=.int 8) rfl hLN ⟨tl,rfl⟩))))))
    (aF (bN mw)) bO)
   (aF (bN (aR (vV rfl) rfl T.all vF (ae (kI (N:=["letter"]) rfl (I_ (pv 0)) (fD.closed rfl)
    (λ_ _ _=>a_ (i:=0) (YX _)) (λ_ _ _=>iV) (λ_ _ _=>rP ql ql bh (pv 0) bh)) ah)))),?_⟩
  refine⟨_,rfl,k,_,_,d,rfl,t,.inr (.inr (.inl rfl)),_,rfl,?_⟩
  refine eY (λc=>?_) (λc=>?_)
  .refine qO ?_
   have e:fJ d=false:=by
    cases d with
    |str x=>cases c
    |_=>rfl
   have:=q H (bg.refl _)
   rw[e] at this
   exact this
  .obtain⟨x,rfl⟩:=Fk (d:=d) (by simpa using c)
   rw[fi] at t
   subst t
   have hl:=Bd.Jd hf
   refine⟨_,rfl,x,rfl,aA hl δ,_,_,rfl,rfl,_,rfl,?_⟩
   show if decide (1<=(x.length:Int))=true then _ else _
   refine eY (λc1=>?_) (λc1=>?_)
   .refine⟨_,_,rfl,rfl,_,rfl,?_⟩
    refine eY (λc2=>?_) (λc2=>?_)
    .have e:fJ (.str x)=false:=by
      have Mq:decide ((x.length:Int)<=8)=false:=by simpa using c2
      show((decide (1<=(x.length:Int))&&decide ((x.length:Int)<=8))&&_)=false
      rw[Mq,fj,bz]
     have:=q H (bg.refl _)
     rw[e] at this
     exact this
    .have Mq:decide ((x.length:Int)<=8)=true:=by simpa using c2
     refine⟨_,rfl,x,rfl,λD hD=>?_⟩
     refine kY (J:=N4 x) (n:=x.cps.size) (f:=λi=>.str ⟨#[x.cps.getD i 0]⟩) (λi ys bX H'=>ys=((x.cps.toList.take i).map sgn).map V.bl/\(∃v,bX=[v])/\H'=upd H D (.lst ys)) hD (by have:x.cps.size=x.length:=rfl;omega)
      ⟨rfl,⟨none,rfl⟩,rfl⟩ (λi ys bX H' hi _ _=>Fl x i H' hi) ?_ ?_
     .rintro i ys bX H' hi hy ⟨e1,⟨v,rfl⟩,rfl⟩
      refine⟨_,rfl,_,_,rfl,rfl,_,rfl,?_⟩
      have step:∀b,sgn (x.cps.getD i 0)=b->(upd H D (.lst ys)) D=some (.lst ys)/\((ys++ [V.bl b])=((x.cps.toList.take (i+1)).map sgn).map V.bl/\(∃v,([some (V.str ⟨#[x.cps.getD i 0]⟩)]:St)=[v])/\upd (upd H D (.lst ys)) D (.lst (ys++ [V.bl b]))=upd H D (.lst (ys++ [V.bl b]))):=λb hb=>by
       refine⟨hy,?_,⟨_,rfl⟩,rL⟩
       rw[uc hi,e1,bL,bL,<-hb]
       rfl
      refine eY (λc3=>?_) (λc3=>?_)
      .refine⟨_,_,rfl,rfl,?_⟩
       refine step _ ?_
       show(_&&_)=_
       rw[c3,cA]
      .refine step false ?_
       show(_&&_)=_
       rw[show(!decide ((⟨#[x.cps.getD i 0]⟩:Str).cps.toList<("a":Str).cps.toList))=false by simpa using c3,bz]
     .rintro ys bX H' hy ⟨e1,⟨v,rfl⟩,rfl⟩
      rw[cZ ς] at e1
      refine⟨D,(x.cps.toList.map sgn),rfl,cQ.of (by rw[hy,e1]),?_⟩
      have:=q (upd H D (.lst ys)) (aO hD _)
      rw[show fJ (.str x)=(x.cps.toList.map sgn).all id by
       show((decide (1<=(x.length:Int))&&decide ((x.length:Int)<=8))&&_)=_
       rw[c1,Mq,cA,cA]] at this
      exact this
   .refine⟨_,rfl,qO ?_⟩
    have e:fJ (.str x)=false:=by
     have UP:decide (1<=(x.length:Int))=false:=by simpa using c1
     show((decide (1<=(x.length:Int))&&decide ((x.length:Int)<=8))&&_)=false
     rw[UP,bz,bz]
    have:=q H (bg.refl _)
    rw[e] at this
    exact this
def JE {x y:V}(h:(!decide (x=y))=true):x≠y:=λe=>by rw[aI e] at h;cases h
def v_eq {x y:V}(h:¬(!decide (x=y))=true):x=y:=by
 by_cases e:x=y
 .exact e
 .exact absurd (by rw[bE e];rfl) h
def eZ:PyData->Bool
 | .int i=>decide (1<=i)&&decide (i<=1000000)
 |_=>false
def YY:bY ["thing"] ["thing"] (ar zM):={}
def GZ (F:jg K "is_weight" "is_weight" zM f fd) (T:Txt mg) (DW:Df P w K mg base 1 "is_whole" ["thing"] (x_ wL)):dR P w K mg base fN 2 f fd ["thing"] (x_ eZ):=by
 exists F.ok,YY
 .obtain⟨k,d,v,rfl,_⟩:=h
  rfl
 .obtain⟨k,d,v,rfl,t,hf,q⟩:=h
  obtain⟨th,YZ⟩:=T.HV
  refine⟨_,aF (bN (jH (cE DW hr (ae (pv 0) ah)) (mK (rP rO rO ao (pv 0) (fT (v:=.int 1000000) rfl YZ ⟨th,rfl⟩))))),?_⟩
  refine⟨_,rfl,k,d,v,rfl,t,hf,λH1 s1=>⟨_,rfl,?_⟩⟩
  refine eY (λc=>?_) (λc=>?_)
  .cases d with
   |int i=>
    rw[jx] at t
    subst t
    refine⟨_,rfl,_,_,rfl,rfl,_,rfl,?_⟩
    have q':=q H1 s1
    refine eY (λc1=>?_) (λc1=>?_)
    .refine⟨_,_,rfl,rfl,?_⟩
     rw[show eZ (.int i)=decide (i<=1000000) by show(_&&_)=_;rw[c1,cA]] at q'
     exact q'
    .rw[show eZ (.int i)=false by show(_&&_)=_;rw[show decide (1<=i)=false by simpa using c1,bz]] at q'
     exact q'
   |_=>cases c
  .have e:eZ d=false:=by
    cases d with
    |int i=>exact absurd rfl c
    |_=>rfl
   have q':=q H1 s1
   rw[e] at q'
   exact q'
def wN:List PyData:=[.str "port",.str "starboard",.str "both"]
def hU (s:PyData):Bool:=wN.any λz=>PyData.eqv z s
def ff:PyData->Bool
 | .tuple [n,s,w]=>fJ n&&(hU s&&eZ w)
 |_=>false
def wO (h:ds.length≠3):ff (.tuple ds)=false:=by
 match ds,h with
 | [],_=>rfl
 | [_],_=>rfl
 | [_,_],_=>rfl
 | [_,_,_],h=>exact absurd rfl h
 |_::_::_::_::_,_=>rfl
def qo (h:Aw d "tuple"=true):∃ds,d=.tuple ds:=by
 cases d with
 |tuple ds=>exact⟨ds,rfl⟩
 |none=>cases h
 |bool b=>cases h
 |int i=>cases h
 |list ds=>cases h
 |str x=>cases h
 |dict dW=>cases h
def wQ:PyData.canLayAll0 wN=true:=by decide+kernel
def uF (hp:p≠k):Tells (upd H p (.tup [.str "port",.str "starboard",.str "both"])) k (.tuple wN) (.ref p):=
 e_.mpr ⟨p,_,rfl,hp,aB,bV.mpr ⟨_,_,rfl,fi.mpr rfl,bV.mpr ⟨_,_,rfl,fi.mpr rfl,zE (fi.mpr rfl)⟩⟩⟩
def UQ {α:Type}{ds:List α}(h:ds.length=3):∃a b c,ds=[a,b,c]:=by
 match ds,h with
 | [a,b,c],_=>exact⟨a,b,c,rfl⟩
def Xh:bY ["thing","name","sides","weight"] ["thing"] (ar Dx):={}
def JF (F:jg K "is_rower" "is_rower" Dx f fd) (T:Txt mg) (DN:Df P w K mg base 2 "is_name" ["thing"] (x_ fJ)) (DW:Df P w K mg base 2 "is_weight" ["thing"] (x_ eZ)):dR P w K mg base fN 3 f fd ["thing"] (x_ ff):=by
 exists F.ok,Xh
 .obtain⟨k,d,v,rfl,_⟩:=h
  rfl
 .obtain⟨k,d,v,rfl,t,hf,q⟩:=h
  refine⟨_,aw (cS (PW.pt (jw (fS (fM (aR fR rfl T.s_ aE (ae (pv 0) (ae (gX (v:=.ty "tuple") rfl T.tuple cC rfl) ah)))))
    (kf (bo lV (aR bS rfl T.len bC (ae (pv 0) ah)) ao (bG _)))))
    (aF (bN mw)) bO)
   (aw (iE (pv 0) (fU rfl (bx (a_ (i:=1) Xh.nd) (bx (a_ (i:=2) Xh.nd) (bx (a_ (i:=3) Xh.nd) eX)))))
   (aF (bN (jH (cE DN hr (ae (pv 1) ah)) (jH (gy (IZ hr.units) (pv 2) (bU (ae bh (ae bh (ae bh ah)))) (by with_unfolding_all rfl))
    (mK (cE DW hr (ae (pv 3) ah)))))))),?_⟩
  refine⟨_,rfl,k,_,_,d,rfl,t,.inr (.inr (.inr (.inl rfl))),_,rfl,?_⟩
  have no:ff d=false->Q (.bl false) H:=λe=>by have:=q H (bg.refl _);rw[e] at this;exact this
  refine eY (λc=>?_) (λc=>?_)
  .refine qO (no ?_)
   cases d with
   |tuple ds=>cases c
   |_=>rfl
  .obtain⟨ds,rfl⟩:=qo (d:=d) (by simpa using c)
   obtain⟨a,xs,rfl,hk,ha,nU⟩:=e_.mp t
   have hl:=g_ nU
   refine⟨_,rfl,a,xs,rfl,.inr (bZ.of ha),rfl,_,rfl,?_⟩
   refine eY (λc1=>?_) (λc1=>?_)
   .refine no ?_
    have:ds.length≠3:=λz=>JE c1 (by rw[hl,z];rfl)
    exact wO this
   .have l3:ds.length=3:=by
     have e3:V.int (xs.length:Int)=V.int 3:=v_eq c1
     injection e3 with e3
     omega
    obtain⟨dn,Dy,dw,rfl⟩:=UQ l3
    obtain⟨x1,r1,rfl,t1,nU⟩:=bV.mp nU
    obtain⟨x2,r2,rfl,t2,nU⟩:=bV.mp nU
    obtain⟨x3,r3,rfl,t3,nU⟩:=bV.mp nU
    rw[eI] at nU
    subst nU
    have Bb:=(Bd.qm hf).1
    refine⟨_,rfl,a,_,rfl,bZ.of ha,rfl,_,_,rfl,_,_,rfl,_,_,rfl,rfl,?_⟩
    refine⟨_,rfl,k,dn,x1,rfl,t1,Bb dn ς,λH1 s1=>⟨_,rfl,?_⟩⟩
    have q':∀H',bg H H'->Q (.bl (fJ dn&&(hU Dy&&eZ dw))) H':=q
    refine eY (λc2=>?_) (λc2=>?_)
    .refine⟨_,rfl,dZ,λp hp=>?_⟩
     have Qo:∀b o,H b=some o->b≠p:=λb o e=>dH (s1 b o e) hp
     have s2:bg H1 (upd H1 p (.tup [.str "port",.str "starboard",.str "both"])):=aO hp _
     refine⟨k,a,Dy,wN,t2.keep (s1.trans s2).keep,.inl (uF (Qo a _ ha).symm),rZ.lay (Bb Dy ς),wQ,⟨_,rfl,?_⟩⟩
     refine eY (λc3=>?_) (λc3=>?_)
     .refine⟨_,rfl,k,dw,x3,rfl,t3.keep (s1.trans s2).keep,Bb dw ς,λH3 s3=>?_⟩
      have:=q' H3 ((s1.trans s2).trans s3)
      rw[c2,show hU Dy=true from c3,cA,cA] at this
      exact this
     .have:=q' _ (s1.trans s2)
      rw[show hU Dy=false by simpa[hU] using c3,bz,fj] at this
      exact this
    .have:=q' H1 s1
     rw[show fJ dn=false by simpa using c2,bz] at this
     exact this
def SE (a:Str):PyData->Bool
 | .str x=>x==a
 |_=>false
def Mr (a:Str) (z:PyData):PyData.eqv z (.str a)=SE a z:=by cases z<;>simp[PyData.eqv,SE]
def iK (i j:Int):decide (V.int i=V.int j)=decide (i=j):=by
 by_cases h:i=j
 .rw[aI h,aI (by rw[h])]
 .rw[bE h,bE (λz=>h (by injection z))]
def G0 (h:Aw z "str"=false):fJ z=false:=by
 cases z with
 |str x=>cases h
 |none=>rfl
 |bool b=>rfl
 |int i=>rfl
 |list ds=>rfl
 |tuple ds=>rfl
 |dict dW=>rfl
def sk (cs:List Nat):List Nat:=cs.filter λc=>!sgn c
def wR (cs:List Nat):List PyData:=cs.map λc=>.str ⟨#[c]⟩
def wU (cs:List Nat):List V:=cs.map λc=>.str ⟨#[c]⟩
def wV:∀cs:List Nat,dq H k (wR cs) (wU cs)
 | []=>eI.mpr rfl
 |c::cs=>bV.mpr ⟨_,_,rfl,fi.mpr rfl,wV cs⟩
def JG (h:∀c∈cs,c<0x110000):Lay (.list (wR cs)):=by
 refine⟨?_,?_⟩
 .rw[PyData.canLay0]
  induction cs with
  |nil=>rw[wR,pd,PyData.canLayAll0]
  |cons c cs ih=>
   rw[wR,bQ,PyData.canLayAll0,cN]
   refine⟨?_,ih λd hd=>h d (cB _ hd)⟩
   rw[PyData.canLay0]
   simp[PyData.strOk,h c cy]
 .rw[PyData.depth]
  have:PyData.depthAll (wR cs)<=0:=ot λd hd=>by
   obtain⟨c,_,rfl⟩:=cT.mp hd
   simp[PyData.depth]
  omega
def Ms (cs:List Nat):PyData.eqv (.list (wR cs)) (.list [])=cs.isEmpty:=by
 cases cs with
 |nil=>rfl
 |cons c cs=>rfl
def JH (cs:List Nat):(sk cs).isEmpty=(cs.map sgn).all id:=by
 induction cs with
 |nil=>rfl
 |cons c cs ih=>
  unfold sk at ih⊢
  rw[F7,bQ,Au]
  cases h:sgn c with
  |true=>simp[ih]
  |false=>simp
def JI (h:sgn c=true):sk (cs++ [c])=sk cs:=by unfold sk;rw[lI];simp[h]
def JJ (h:sgn c=false):sk (cs++ [c])=sk cs++ [c]:=by unfold sk;rw[lI];simp[h]
def kC:Lay (.list []):=⟨by simp[PyData.canLay0,PyData.canLayAll0],by simp[PyData.depth,PyData.depthAll]⟩
def cz (ns:List Str):List PyData:=ns.map .str
def kK:∀ns:List Str,dq H k (cz ns) (ns.map .str)
 | []=>eI.mpr rfl
 |n::ns=>bV.mpr ⟨_,_,rfl,fi.mpr rfl,kK ns⟩
def G8 (ns:List Str) (x:Str):(cz ns).any (λz=>PyData.eqv z (.str x))=decide (x∈ns):=by
 induction ns with
 |nil=>simp[cz]
 |cons n ns ih=>
  unfold cz at ih⊢
  rw[bQ,kT,ih,Mr]
  by_cases h:n=x
  .subst h;simp[SE]
  .have h':¬x=n:=λz=>h z.symm
   have hb:(n==x)=false:=by simpa using h
   simp[SE,hb,h']
abbrev JK:Stmt:=top 41
abbrev JL:Stmt:=top 42
structure cH (H:Hp) (k:ai) (c:Int):Prop where
 ex:∃a b:Int,H k=some (.lst [.int a,.int b,.int c])/\0<=b/\b<2147483648
 c0:0<=c
def pQ:lP X (binaryOp .FloorDiv) (rI (λ_ j=>0<j/\j<2^200) λi j=>.int (i/j)):=TF λi j _ _ _ _ _ hc q=>by
 refine PyProof.Rows.floordiv_int ω ?_ (.inl (PyProof.noPylong_of_log2 ?_))
 .rw[Lu i ω]
  exact q
 .have:j.natAbs.log2<200:=L7 ω
  omega
def Dz:Sp:=λvs H Q _=>∃cell tn:Int,vs=[.int cell,.int tn]/\0<=tn/\∀p H',H p=none->bg H H'->cH H' p tn->Q (.ref p) H'
def scD:bY ["cell","turn"] ["cell","turn"] (ar JK):={}
def Mt (F:jg K "_law_deck" "_law_deck" JK f fd):dR P w K mg base fN 1 f fd ["cell","turn"] Dz:=by
 exists F.ok,scD
 .obtain⟨cell,tn,rfl,_⟩:=h
  rfl
 .obtain⟨cell,tn,rfl,t0,q⟩:=h
  refine⟨_,aw (cS (bo Iq (pv 0) (bW mO ao ao) (bG _))
    (aF (bN (cW (ae (bW kW (pv 0) (bW mO ao ao)) (ae (bW oh (pv 0) ao) (ae (pv 1) ah)))))) bO)
   (aF (bN (cW (ae ao (ae (bW oh (pv 0) ao) (ae (pv 1) ah)))))),?_⟩
  have hb:0<=cell %2147483579/\cell %2147483579<2147483648:=ω
  refine⟨_,rfl,_,_,rfl,rfl,⟨δ,δ,δ⟩,_,_,rfl,rfl,_,rfl,?_⟩
  refine eY (λc=>?_) (λc=>?_)
  .refine⟨_,rfl,_,_,rfl,rfl,⟨δ,δ,δ⟩,_,_,rfl,rfl,_,rfl,_,_,rfl,rfl,by show(0:Int)<2147483579;decide,_,rfl,dZ,λp hp=>?_⟩
   exact q p _ hp (aO hp _) ⟨⟨_,_,aB,hb.1,hb.2⟩,t0⟩
  .refine⟨_,rfl,_,_,rfl,rfl,by show(0:Int)<2147483579;decide,_,rfl,dZ,λp hp=>?_⟩
   exact q p _ hp (aO hp _) ⟨⟨_,_,aB,hb.1,hb.2⟩,t0⟩
def gi:Sp:=λvs H Q _=>∃(k:ai) (c many:Int),vs=[.ref k,.int many]/\cH H k c/\c<=100000/\0<many/\many<=10000000000000/\
 ∀(r c':Int) (H':Hp),eE k H H'->cH H' k c'->c'<=c+1->0<=r->r<many->Q (.int r) H'
def pk (h0:Z[i]?=some (some (.ref k))) (dk:cH H k c) (hc:c<=100000) (h1:0<n) (h2:n<=10000000000000) (q:∀(r c':Int) (H':Hp),eE k H H'->cH H' k c'->c'<=c+1->0<=r->r<n->Q (.int r) H'):j0 gi [] E (ck (cj i) (ck (tC (.int n)) eW)) Z H Q:=⟨_,h0,k,c,n,rfl,dk,hc,h1,h2,q⟩
def Xi:bY ["deck","many","found","number"] ["deck","many"] (ar JL):={}
def pkA {b c:Int}(b0:0<=b) (b1:b<2147483648) (c0:0<=c) (c1:c<=100000):(b+15485867*(c+1)).natAbs<2^64:=ω
def pkB {n c:Int}(b0:0<=n) (b1:n<2147483647) (c0:0<=c) (c1:c<=100000):(n+7919*(c+1)).natAbs<2^64:=ω
def pkC {x:Int}(h0:0<=x) (h1:x<2147483629):0<=x/32/\x/32<2147483629:=ω
def iG {r k a n:Int}(h:r<k) (e:a+k<=n):a+r<=n:=dF (zm (S8 h) a) e
def iH {r a:Int}(h:0<=r) (e:1<=a):1<=a+r:=dF e (Lx h)
def i4 {r:Int}(h:0<=r) (l:r<4):r=0\/r=1\/r=2\/r=3:=ω
def iC {c c1 c2 c3 c4:Int}(a:c1<=c+1) (b:c2<=c1+1) (d:c3<=c2+1) (e:c4<=c3+1):c4<=c+4:=ω
def Mu (F:jg K "_law_pick" "_law_pick" JL f fd):dR P w K mg base fN 1 f fd ["deck","many"] gi:=by
 exists F.ok,Xi
 .obtain⟨k,c,many,rfl,_⟩:=h
  rfl
 .obtain⟨k,c,many,rfl,⟨⟨a,b,hk,b0,b1⟩,c0⟩,c1,m0,m1,q⟩:=h
  refine⟨_,aw (cS (bo ym (aU b_ (pv 0) ao) ao (bG _))
    (aw (lj (i:=2) Xi.nd (bW oh (aU b_ (pv 0) ao) (pv 1)))
    (aw (iE (bW pQ (aU b_ (pv 0) ao) (pv 1)) (pD (pv 0) ao set_list))
    (aF (bN (pv 2))))) bO)
   (aw (iE (bW gs (aU b_ (pv 0) ao) ao) (pD (pv 0) ao set_list))
   (aw (lj (i:=3) Xi.nd (bW oh (bW mO (bW gs (aU b_ (pv 0) ao) (bW mM ao (aU b_ (pv 0) ao))) ao) ao))
   (aw (lj (i:=2) Xi.nd (bW ES (bW oh (bW mO (bW gs (pv 3) (bW mM ao (aU b_ (pv 0) ao))) ao) ao) ao))
   (aw (cS (bo ym (pv 1) ao (bG _)) (aF (bN (bW oh (bW gs (bW mM (pv 2) ao) (pv 3)) (pv 1)))) bO)
   (aF (bN (bW oh (pv 2) (pv 1)))))))),?_⟩
  refine Dv rfl (cQ.of hk) (aV (j:=0) rfl) ⟨_,_,rfl,rfl,_,rfl,?_⟩
  refine eY (λc2=>?_) (λc2=>?_)
  .refine Dv rfl (cQ.of hk) (aV (j:=0) rfl) ⟨_,rfl,_,_,rfl,rfl,m0,?_⟩
   refine Dv rfl (cQ.of hk) (aV (j:=0) rfl) ⟨_,rfl,_,_,rfl,rfl,⟨m0,ω⟩,?_⟩
   refine⟨_,rfl,k,_,0,0,rfl,rfl,hk,rfl,?_⟩
   refine⟨_,rfl,q _ c _ (eE.at _) ⟨⟨_,_,aB,b0,b1⟩,c0⟩ ω (oV _ ω) (lJ _ m0)⟩
  .refine Dv rfl (cQ.of hk) (aV (j:=2) rfl) ⟨_,_,rfl,rfl,?_⟩
   refine⟨_,rfl,k,_,2,2,rfl,rfl,hk,rfl,?_⟩
   have Xj:(upd H k (.lst [.int a,.int b,.int (c+1)])) k=some (.lst [.int a,.int b,.int (c+1)]):=aB
   show vM _ _ _ _ (upd H k (.lst [.int a,.int b,.int (c+1)]))
   have kp:eE k H (upd H k (.lst [.int a,.int b,.int (c+1)])):=eE.at _
   generalize upd H k (.lst [.int a,.int b,.int (c+1)])=H2 at*
   have fin:∀r:Int,0<=r->r<many->Q (.int r) H2:=λr h1 h2=>q r (c+1) H2 kp ⟨⟨_,_,Xj,b0,b1⟩,ω⟩ (Int.le_refl _) h1 h2
   refine Dv rfl (cQ.of Xj) (aV (j:=1) rfl) (Dv rfl (cQ.of Xj) (aV (j:=2) rfl) ⟨_,_,rfl,rfl,.inl ⟨δ,δ⟩,_,_,rfl,rfl,_,_,rfl,rfl,⟨δ,δ,?_⟩,_,_,rfl,rfl,by show(0:Int)<2147483647;decide,?_⟩)
   .exact pkA b0 b1 c0 c1
   .generalize hN:(b+15485867*(c+1))^(5:Int).toNat %2147483647=number
    have n0:0<=number:=by rw[<-hN];exact oV _ δ
    have n1:number<2147483647:=by rw[<-hN];exact lJ _ δ
    refine⟨_,rfl,Dv rfl (cQ.of Xj) (aV (j:=2) rfl) ⟨_,_,rfl,rfl,.inl ⟨δ,δ⟩,_,_,rfl,rfl,_,_,rfl,rfl,⟨δ,δ,?_⟩,_,_,rfl,rfl,by show(0:Int)<2147483629;decide,_,_,rfl,rfl,⟨δ,δ⟩,?_⟩⟩
    .subst hN;exact pkB n0 n1 c0 c1
    .generalize hF:(number+7919*(c+1))^(3:Int).toNat %2147483629/32=found
     have f0:0<=found/\found<2147483629:=by
      have e0:0<=(number+7919*(c+1))^(3:Int).toNat %2147483629:=oV _ δ
      have e1:(number+7919*(c+1))^(3:Int).toNat %2147483629<2147483629:=lJ _ δ
      rw[<-hF]
      exact pkC e0 e1
     refine⟨_,rfl,_,_,rfl,rfl,_,rfl,?_⟩
     refine eY (λc3=>?_) (λc3=>?_)
     .exact⟨_,rfl,_,_,rfl,rfl,.inl (by subst hF hN;exact⟨Int.lt_of_lt_of_le δ f0.1,Int.lt_trans f0.2 δ⟩),_,rfl,_,_,rfl,rfl,_,rfl,_,_,rfl,rfl,m0,fin _ (oV _ ω) (lJ _ m0)⟩
     .exact⟨_,rfl,_,rfl,_,_,rfl,rfl,m0,fin _ (oV _ ω) (lJ _ m0)⟩
abbrev Y0:Stmt:=top 44
def okN (n:Str):Prop:=n.length<=100/\PyData.strOk n=true/\fJ (.str n)=true
def cH.keep {H H':Hp}{k:ai}{c:Int}(h:cH H k c) (e:∀o,H k=some o->H' k=some o):cH H' k c:=by
 obtain⟨⟨a,b,h1,h2⟩,c0⟩:=h
 exact⟨⟨a,b,e _ h1,h2⟩,c0⟩
def cH.some {H:Hp}{k:ai}{c:Int}(h:cH H k c):∃o,H k=some o:=let⟨⟨_,_,h1,_⟩,_⟩:=h;⟨_,h1⟩
def Qp:Sp:=λvs H Q _=>∃(k:ai) (c:Int),vs=[.ref k]/\cH H k c/\c<=50000/\
 ∀(r c':Int) (H':Hp),eE k H H'->cH H' k c'->c'<=c+4->1<=r->r<=1000000->Q (.int r) H'
def Y1:bY ["deck"] ["deck"] (ar Y0):={}
def UR (F:jg K "_law_weight" "_law_weight" Y0 f fd) (DP:Df P w K mg base 1 "_law_pick" ["deck","many"] gi):dR P w K mg base fN 2 f fd ["deck"] Qp:=by
 exists F.ok,Y1
 .obtain⟨k,c,rfl,_⟩:=h
  rfl
 .obtain⟨k,c,rfl,hk,hc,q⟩:=h
  refine⟨_,aF (bN (aU b_ (cW (ae (bW gs ao (cE DP hr (ae (pv 0) (ae ao ah)))) (ae (bW gs ao (cE DP hr (ae (pv 0) (ae ao ah))))
   (ae (bW gs ao (cE DP hr (ae (pv 0) (ae (bW mO ao ao) ah)))) (ae (bW mO ao ao) ah)))))
   (cE DP hr (ae (pv 0) (ae ao ah))) (λ_ _=>rfl))),?_⟩
  refine⟨_,rfl,k,c,5,rfl,hk,ω,δ,δ,λr1 c1 H1 k1 d1 e1 g1 l1=>⟨_,_,rfl,rfl,?_⟩⟩
  refine⟨_,rfl,k,c1,40,rfl,d1,ω,δ,δ,λr2 c2 H2 k2 d2 e2 g2 l2=>⟨_,_,rfl,rfl,?_⟩⟩
  refine⟨_,rfl,_,_,rfl,rfl,⟨δ,δ,δ⟩,k,c2,_,rfl,d2,ω,δ,δ,λr3 c3 H3 k3 d3 e3 g3 l3=>⟨_,_,rfl,rfl,?_⟩⟩
  refine⟨_,_,rfl,rfl,⟨δ,δ,δ⟩,dZ,λp hp=>?_⟩
  have Qo:k≠p:=λz=>by obtain⟨o,ho⟩:=d3.some;rw[z,hp] at ho;cases ho
  refine⟨_,rfl,k,c3,4,rfl,d3.keep (λo e=>by rw[bb Qo];exact e),ω,δ,δ,λr4 c4 H4 k4 d4 e4 g4 l4=>?_⟩
  have l3':r3<1000000:=l3
  have kk:eE k H H4:=((k1.trans k2).trans k3).trans ((eE.new hp _).trans k4)
  have Lh:=k4 p _ Qo.symm aB
  have r4':=i4 g4 l4
  have z4:=iC e1 e2 e3 e4
  rcases r4' with rfl|rfl|rfl|rfl
  .exact⟨p,_,0,_,rfl,rfl,cQ.of Lh,aV (j:=0) rfl,q _ c4 H4 kk d4 z4 (iH g1 δ) (iG l1 δ)⟩
  .exact⟨p,_,1,_,rfl,rfl,cQ.of Lh,aV (j:=1) rfl,q _ c4 H4 kk d4 z4 (iH g2 δ) (iG l2 δ)⟩
  .exact⟨p,_,2,_,rfl,rfl,cQ.of Lh,aV (j:=2) rfl,q _ c4 H4 kk d4 z4 (iH g3 δ) ω⟩
  .exact⟨p,_,3,_,rfl,rfl,cQ.of Lh,aV (j:=3) rfl,q _ c4 H4 kk d4 z4 δ δ⟩
def Bc:∀{es:List Expr}{vs:List V},Paired (λ(e:Expr) (v:V)=>∃x j p,e=.Constant (.str x) j p/\v=.str x) es vs->PA X es (λ_ H Q=>Q vs H)
 |_,_,.nil=>ah
 |_,_,.cons (a:=e) (b:=v) (l₁:=es) (l₂:=vs) ⟨x,j,p,he,hv⟩ r=>by
  subst he hv
  exact λpos ac s Z H Q I h=>ae bh (Bc r) rfl pos ac s Z H Q I h
def cH.ne (h:cH H k c) (hp:H p=none):k≠p:=λz=>by obtain⟨o,ho⟩:=h.some;rw[z,hp] at ho;cases ho
def cH.new (h:cH H k c) (hp:H p=none):cH (upd H p o) k c:=h.keep λu e=>by rw[bb (h.ne hp)];exact e
def oE (kk:eE k H H') (n:p≠k) (h:H' p=none):H p=none:=by
 cases e:H p with
 |none=>rfl
 |some o=>rw[kk p o n e] at h;cases h
def ud {α:Type}{xs:List α}{i:Int}(h0:0<=i) (h1:i<xs.length):∃h:i.toNat<xs.length,qA xs i=some xs[i.toNat]:=by
 have h2:i.toNat<xs.length:=ω
 have e:i=((i.toNat:Nat):Int):=ω
 refine⟨h2,?_⟩
 have:=aV (j:=i.toNat) (aH h2)
 rw[<-e] at this
 exact this
def DA (ss:List Str) (i:Nat) (x:Str):(ss.map V.str).take i++V.str x::(ss.map V.str).drop i=(ss.take i++x::ss.drop i).map V.str:=by
 rw[bL,bQ,Pb,Pc]
def DB (ss:List Str) (x:Str) (h:i<=ss.length):(ss.take i++x::ss.drop i).length=ss.length+1:=by
 simp only[aQ,fF,dO,dP]
 omega
def G9 {ss:List Str}(i:Nat) (h:∀s∈ss,okN s) (hx:okN x):∀s∈ss.take i++x::ss.drop i,okN s:=by
 intro s hs
 rcases bK.mp hs with hs|hs
 .exact h s (ip hs)
 .rcases aD.mp hs with rfl|hs
  .exact hx
  .exact h s (xQ hs)
def wT:Nat->Nat
 |0=>4
 |n+1=>1+wT n*3
def y_ (n:Nat) (i:Nat) (H:Hp) (hi:i<=n):(i=n->(Im 0 n).stop i H)/\(i<n->(Im 0 n).go i H/\∀x H',(Im 0 n).BS i H x H'->H'=H/\x=.int i):=by
 refine⟨λe=>by show n<=i;omega,λe=>⟨e,λx H' y=>?_⟩⟩
 obtain⟨e1,e2⟩:=y
 refine⟨e1,?_⟩
 rw[e2,Int.zero_add]
def Od (x:V):Prop:=∃d:PyData,Bd 1 0 d/\∀(H:Hp) (k:ai),Tells H k d x
def JM:List V->Prop
 | []=>True
 |x::xs=>Od x/\JM xs
def ll (h:Od x) (hs:JM xs):JM (x::xs):=⟨h,hs⟩
def Mv (h:dR P w K mg base fN j f fd ps sp) (le:j<=k):dR P w K mg base fN k f fd ps sp:=
 ⟨h.len,λA outer s H args us vs Q E hr=>h.run A outer s H args us vs Q E (hr.mono le)⟩
structure ej (K:Φ) (x:Str) (st:Stmt) (f:ai):Prop where
 a:PySem.W.nsIn K mainGlobals x=some (some (.ref f))
 ex:∃(oc:ag) (od:Option ai) (kV doc pm:ag) (an:Option ai) (cdv ct:ag) (vR:Array (Option ag)),
  K.lookup f=some ⟨oc,od,.func (PySem.W.fnOf x x (jM st) (fL st) (ar st) .none kV doc pm an cdv ct),vR⟩/\PySem.W.codeIn K cdv x=true
 k:PySem.W.keepIn K (.ref f)=true
def stands {kV doc pm:ag}
  (a:PySem.W.nsIn K mainGlobals x=some (some (.ref f))) (l:K.lookup f=some ⟨oc,od,.func (PySem.W.fnOf x x (jM st) (fL st) (ar st) .none kV doc pm an cdv ct),vR⟩) (c:PySem.W.codeIn K cdv x=true) (k:PySem.W.keepIn K (.ref f)=true):ej K x st f:=
 ⟨a,⟨oc,od,kV,doc,pm,an,cdv,ct,vR,l,c⟩,k⟩
def ej.fn (S:ej K x st f):∃fd,jg K x x st f fd:=by
 obtain⟨oc,od,kV,doc,pm,an,cdv,ct,vR,l,c⟩:=S.ex
 exact⟨_,CV (st:=st) l c S.k⟩
end
abbrev JN:Stmt:=top 23
abbrev JO:Stmt:=top 24
abbrev DG:Stmt:=top 25
def strOf:PyData->Str
 | .str x=>x
 |_=>""
def Y2 (a b:Str):Bool:=decide (a.cps.toList<b.cps.toList)
def oO (ns:List Str):List Bool:=List.zipWith Y2 ns (ns.drop 1)
def kN:PyData->Bool
 | .tuple ds=>(decide (1<=(ds.length:Int))&&decide ((ds.length:Int)<=4))&&((ds.map fJ).all id&&(oO (ds.map strOf)).all id)
 |_=>false
def qV (h:fJ d=true):∃x,d=.str x:=by
 cases d with
 |str x=>exact⟨x,rfl⟩
 |_=>cases h
def Be:∀{ds:List PyData}{xs:List V},dq H k ds xs->(∀d∈ds,fJ d=true)->xs=(ds.map strOf).map V.str
 | [],xs,h,_=>eI.mp h
 |d::ds,xs,h,hp=>by
  obtain⟨v,r,rfl,t1,t2⟩:=bV.mp h
  obtain⟨x,rfl⟩:=qV (hp d cy)
  rw[fi] at t1
  subst t1
  rw[Be t2 λe he=>hp e (cB _ he)]
  rfl
def Qq {ns:List Str}(h:i<ns.length):(ns.map V.str)[i]?=some (.str (ns.getD i "")):=by
 rw[cg,aH h]
 simp[List.getD,h]
def G_ {α β γ:Type}{f:α->β->γ}{as:List α}{bs:List β}{i:Nat}{a:α}{b:β}(c:γ) (h1:i<as.length) (h2:i<bs.length):(List.zipWith f as bs).getD i c=f (as.getD i a) (bs.getD i b):=by
 simp[List.getD,List.getElem?_zipWith,h1,h2]
section
variable {P:aJ}{w:bB}{K:Φ}{mg:Str->Option ag}{base:Heap}
def kD (h:bZ K H a xs) (i:Nat) (hi:i<=xs.length):(i=xs.length->(Cr K a).stop i H)/\(i<xs.length->(Cr K a).go i H/\∀y H',(Cr K a).BS i H y H'->H'=H/\y=xs.getD i .eU):=by
 refine⟨λe=>⟨xs,h,ω⟩,λe=>⟨⟨xs,xs[i],h,by simp[e]⟩,λy H' q=>?_⟩⟩
 obtain⟨q1,q2⟩:=q
 have:=q2 xs h
 exact⟨q1,by simp[List.getD,this]⟩
def NS {α:Type}{xs:List α}{i:Nat}{z:α}(h:i<xs.length):xs.take (i+1)=xs.take i++ [xs.getD i z]:=by
 rw[rn]
 congr 1
 simp[List.getD,h]
def scC:bY ["thing"] ["thing"] (ar JN):={}
def US:(["name","behind"]:List Str).Nodup:=by decide+kernel
def Mw (F:jg K "is_crew" "is_crew" JN f fd) (T:Txt mg) (DN:Df P w K mg base 1 "is_name" ["thing"] (x_ fJ)):dR P w K mg base fN 2 f fd ["thing"] (x_ kN):=by
 exists F.ok,scC
 .obtain⟨k,d,v,rfl,_⟩:=h
  rfl
 .obtain⟨k,d,v,rfl,t,hf,q⟩:=h
  obtain⟨tm,hMC⟩:=T.MC
  refine⟨_,aw (cS (PW.pt (jw (fS (fM (aR fR rfl T.s_ aE (ae (pv 0) (ae (gX (v:=.ty "tuple") rfl T.tuple cC rfl) ah)))))
    (kf (fS (rQ rO rO ao (aR bS rfl T.len bC (ae (pv 0) ah)) (fT (v:=.int 4) rfl hMC ⟨tm,rfl⟩))))))
    (aF (bN mw)) bO)
   (aw (cS (fS (fM (aR (vV rfl) rfl T.all vF (ae (kI (N:=["name"]) rfl (iF (pv 0)) (fD.closed rfl)
     (λ_ _ _=>a_ (i:=0) (YX _)) (λ_ _ _=>iV) (λ_ _ _=>cE DN hr (ae (pv 0) ah))) ah))))
    (aF (bN mw)) bO)
   (aF (bN (aR (vV rfl) rfl T.all vF (ae (kI (N:=["name","behind"]) (g:=Cq K 2 (jZ (de 0) (jZ (de 1) zt))) rfl (Mc rfl T.zip (ae (pv 0) (ae (hX zx (pv 0) (iU ao) jL) ah))) (fD.closed rfl)
     (λ_ _ _=>fU rfl (bx (a_ (i:=0) US) (bx (a_ (i:=1) US) eX))) (λ_ _ _=>iV) (λ_ _ _=>gy Gk (pv 0) (pv 1) (bG _))) ah))))),?_⟩
  refine⟨_,rfl,k,_,_,d,rfl,t,.inr (.inr (.inr (.inl rfl))),_,rfl,?_⟩
  have no:∀H',bg H H'->kN d=false->Q (.bl false) H':=λH' s' e=>by have:=q H' s';rw[e] at this;exact this
  refine eY (λc=>?_) (λc=>?_)
  .refine qO (no H (bg.refl _) ?_)
   cases d with
   |tuple ds=>cases c
   |_=>rfl
  .obtain⟨ds,rfl⟩:=qo (d:=d) (by simpa using c)
   obtain⟨a,xs,rfl,hk,ha,nU⟩:=e_.mp t
   have hl:=g_ nU
   have Bb:=(Bd.qm hf).1
   have tj:kN (.tuple ds)=((decide (1<=(ds.length:Int))&&decide ((ds.length:Int)<=4))&&((ds.map fJ).all id&&(oO (ds.map strOf)).all id)):=rfl
   refine⟨_,rfl,a,xs,rfl,.inr (bZ.of ha),_,_,rfl,rfl,_,rfl,?_⟩
   rw[hl]
   refine eY (λc1=>?_) (λc1=>?_)
   .have c1n:1<=ds.length:=by have:(1:Int)<=(ds.length:Int):=aX c1;omega
    refine⟨_,_,rfl,rfl,_,rfl,?_⟩
    refine eY (λc2=>?_) (λc2=>?_)
    .refine no H (bg.refl _) ?_
     rw[tj,show decide ((ds.length:Int)<=4)=false by simpa using c2,fj,bz]
    .have Mq:decide ((ds.length:Int)<=4)=true:=by simpa using c2
     have c2n:ds.length<=4:=by have:(ds.length:Int)<=4:=aX Mq;omega
     refine⟨_,rfl,a,rfl,⟨xs,bZ.of ha⟩,λD hD=>?_⟩
     refine kY (n:=xs.length) (f:=λi=>xs.getD i .eU) (λi ys bX H'=>ys=((ds.take i).map fJ).map V.bl/\(∃v,bX=[v])/\bg H H') hD ω ⟨rfl,⟨none,rfl⟩,aO hD _⟩
      (λi ys bX H' hi _ iv=>kD (bZ.of (iv.2.2 _ _ ha)) i hi) ?_ ?_
     .rintro i ys bX H' hi hy ⟨e1,⟨v,rfl⟩,s'⟩
      obtain⟨di,SH,ti⟩:=oq nU (show xs[i]?=some (xs.getD i .eU) by simp[List.getD,hi])
      refine⟨_,rfl,k,di,_,rfl,ti.keep s'.keep,Bb di (xK SH),λH5 s5=>⟨s5 _ _ hy,?_,⟨_,rfl⟩,λb o e=>?_⟩⟩
      .rw[NS (z:=PyData.none) ω,bL,bL,e1]
       simp[List.getD,SH]
      .rw[bb (dH e hD)]
       exact s5 b o (s' b o e)
     .rintro ys bX H' hy ⟨e1,⟨v,rfl⟩,s'⟩
      rw[cZ ω] at e1
      refine⟨D,ds.map fJ,rfl,cQ.of (by rw[hy,e1]),_,rfl,?_⟩
      refine eY (λc3=>?_) (λc3=>?_)
      .refine no H' s' ?_
       rw[tj,show(ds.map fJ).all id=false by simpa using c3,bz,fj]
      .have SI:(ds.map fJ).all id=true:=by
        cases hb:(ds.map fJ).all id with
        |true=>rfl
        |false=>rw[hb] at c3;exact absurd rfl c3
       have exs:=Be nU λd hd=>by
        rw[nB] at SI
        exact SI _ (cX hd)
       generalize SA:ds.map strOf=ns at*
       have hnl:ns.length=ds.length:=by rw[<-SA,aq]
       subst exs
       have haH:=s' _ _ ha
       have Y3:jt (ns.map V.str) (some 1) none=(ns.drop 1).map V.str:=by rw[Jh (by rw[aq];omega),Pc]
       have Y4:HT.iA (ns.map V.str).length 0 (some 1)=1:=by
        have:=HT.mx (ns.map V.str).length 0 1
        rw[show((1:Nat):Int)=1 from rfl] at this
        rw[this,aq];omega
       refine⟨_,rfl,_,rfl,_,rfl,a,_,rfl,bZ.of haH,λz=>by rw[Y4] at z;exact absurd z.1 δ,λp hp=>?_⟩
       rw[Y3]
       have Xk:=aO hp (.tup ((ns.drop 1).map V.str)) _ _ haH
       have Xl:(upd H' p (.tup ((ns.drop 1).map V.str))) p=some (.tup ((ns.drop 1).map V.str)):=aB
       have sP:bg H' (upd H' p (.tup ((ns.drop 1).map V.str))):=aO hp _
       generalize upd H' p (.tup ((ns.drop 1).map V.str))=Hp' at*
       have hdl:(ns.drop 1).length=ns.length-1:=dP
       refine⟨a,p,rfl,⟨_,bZ.of Xk⟩,⟨_,bZ.of Xl⟩,λD2 Ha=>?_⟩
       refine GH (n:=ns.length-1) (u:=λi=>.str (ns.getD i "")) (v:=λi=>.str ((ns.drop 1).getD i "")) (λi ys iI J=>ys=((oO ns).take i).map V.bl/\(∃v w,iI=[v,w])/\bg Hp' J) Ha ω ⟨rfl,⟨none,none,rfl⟩,aO Ha _⟩
        (λi ys iI J hi _ iv=>⟨λe=>⟨_,_,bZ.of (iv.2.2 _ _ Xk),bZ.of (iv.2.2 _ _ Xl),.inr (by rw[aq];omega)⟩,λlt=>⟨⟨_,_,.str (ns.getD i ""),.str ((ns.drop 1).getD i ""),bZ.of (iv.2.2 _ _ Xk),bZ.of (iv.2.2 _ _ Xl),Qq ω,Qq ω⟩,λx J' yl=>?_⟩⟩) ?_ ?_
       .obtain⟨TT,x1,y1,f1,f2,f3,f4,f5⟩:=yl
        have g1:=f4 _ (bZ.of (iv.2.2 _ _ Xk))
        have g2:=f5 _ (bZ.of (iv.2.2 _ _ Xl))
        rw[Qq ω] at g1 g2
        cases g1;cases g2
        exact⟨TT,f1,f2,f3⟩
       .rintro i ys iI J TT hi Li ⟨e2,⟨v1,v2,rfl⟩,s2⟩ hTT
        refine GY (bZ.of aB) ?_
        have nD:D2≠TT:=λz=>by rw[z,hTT] at Li;cases Li
        refine⟨_,rfl,_,rfl,_,_,rfl,rfl,by rw[bb nD];exact Li,?_,⟨_,_,rfl⟩,λb o e=>?_⟩
        .rw[NS (z:=false) (by rw[oO,List.length_zipWith,hdl];exact Nat.lt_min.mpr ⟨aY hi (qx _ _),hi⟩),bL,e2]
         congr 1
         show[V.bl (Y2 _ _)]=[V.bl _]
         rw[oO,G_ _ ω ω]
        .have e3:=s2 b o e
         rw[bb (dH e Ha),bb (dH e3 hTT)];exact e3
       .rintro ys iI J Li ⟨e2,⟨v1,v2,rfl⟩,s2⟩
        rw[cZ (by rw[oO,List.length_zipWith,hdl];exact nA _ _)] at e2
        refine⟨D2,oO ns,rfl,cQ.of (by rw[Li,e2]),?_⟩
        have:=q J (s'.trans (sP.trans s2))
        rw[tj,c1,Mq,SI,cA,cA,cA] at this
        exact this
   .refine⟨_,rfl,qO (no H (bg.refl _) ?_)⟩
    rw[tj,show decide (1<=(ds.length:Int))=false by simpa using c1,bz,bz]
end
def fD.one {X:Cx}{scope:Scope}{nm:List (Str×NameKind)}{v fr:Str}{j:Nat}(hN:X.N[j]?=some fr) (hk:scope.kind=.function) (hn:scope.names=nm) (h1:X.env.scope.names.lookup fr=some .cell) (c1:∀y∈nm,y.2≠.cell:=by decide+kernel) (c2:∀y∈nm,y.2=.local->nm.lookup y.1=some .local:=by decide+kernel)
  (c3:∀y∈nm,y.2=.free->y.1=fr:=by decide+kernel) (c4:(fr,NameKind.free)∈nm:=by decide+kernel) (c5:nm.lookup fr=some .free:=by decide+kernel):fD X scope [v,fr] [none,some j] where
 kind:=hk
 qQ:=by rw[hn];exact c1
 own:=by rw[hn];exact c2
 out:=by
  rw[hn]
  intro y hy e
  rw[c3 y hy e]
  exact .inl h1
 len:=rfl
 free:=by
  intro i j' x e1 e2
  rw[hn]
  match i,e1,e2 with
  |1,e1,e2=>cases e1;cases e2;exact⟨hN,c4,c5⟩
  |n+2,e1,e2=>simp at e1
section
variable {P:aJ}{w:bB}{K:Φ}{mg:Str->Option ag}{base:Heap}
def j9:PyData->Bool
 | .int i=>decide (1<=i)&&decide (i<=1000000000)
 |_=>false
def Y5:bY ["thing"] ["thing"] (ar JO):={}
def Mx (F:jg K "is_measure" "is_measure" JO f fd) (T:Txt mg) (DW:Df P w K mg base 1 "is_whole" ["thing"] (x_ wL)):dR P w K mg base fN 2 f fd ["thing"] (x_ j9):=by
 exists F.ok,Y5
 .obtain⟨k,d,v,rfl,_⟩:=h
  rfl
 .obtain⟨k,d,v,rfl,t,hf,q⟩:=h
  obtain⟨th,YZ⟩:=T.LG
  refine⟨_,aF (bN (jH (cE DW hr (ae (pv 0) ah)) (mK (rP rO rO ao (pv 0) (fT (v:=.int 1000000000) rfl YZ ⟨th,rfl⟩))))),?_⟩
  refine⟨_,rfl,k,d,v,rfl,t,hf,λH1 s1=>⟨_,rfl,?_⟩⟩
  refine eY (λc=>?_) (λc=>?_)
  .cases d with
   |int i=>
    rw[jx] at t
    subst t
    refine⟨_,rfl,_,_,rfl,rfl,_,rfl,?_⟩
    have q':=q H1 s1
    refine eY (λc1=>?_) (λc1=>?_)
    .refine⟨_,_,rfl,rfl,?_⟩
     rw[show j9 (.int i)=decide (i<=1000000000) by show(_&&_)=_;rw[c1,cA]] at q'
     exact q'
    .rw[show j9 (.int i)=false by show(_&&_)=_;rw[show decide (1<=i)=false by simpa using c1,bz]] at q'
     exact q'
   |_=>cases c
  .have e:j9 d=false:=by
    cases d with
    |int i=>exact absurd rfl c
    |_=>rfl
   have q':=q H1 s1
   rw[e] at q'
   exact q'
def ju:PyData->List Str
 | .tuple ds=>ds.map strOf
 |_=>[]
def gP:PyData->Bool
 | .tuple [f,s,t,o,c]=>(kN f&&(kN s&&decide ((ju f).length=(ju s).length)))&&(!((ju f).map λn=>decide (n∈ju s)).any id&&(j9 t&&(j9 o&&j9 c)))
 |_=>false
def DH (h:ds.length≠5):gP (.tuple ds)=false:=by
 match ds,h with
 | [],_=>rfl
 | [_],_=>rfl
 | [_,_],_=>rfl
 | [_,_,_],_=>rfl
 | [_,_,_,_],_=>rfl
 | [_,_,_,_,_],h=>exact absurd rfl h
 |_::_::_::_::_::_::_,_=>rfl
def Y6 {ds:List PyData}(h:ds.length=5):∃a b c d e,ds=[a,b,c,d,e]:=by
 match ds,h with
 | [a,b,c,d,e],_=>exact⟨a,b,c,d,e,rfl⟩
def wW (h:kN d=true):∃ns:List Str,d=.tuple (cz ns)/\ju d=ns/\1<=ns.length/\ns.length<=4/\∀n∈ns,fJ (.str n)=true:=by
 cases d with
 |tuple ds=>
  have h':((decide (1<=(ds.length:Int))&&decide ((ds.length:Int)<=4))&&((ds.map fJ).all id&&(oO (ds.map strOf)).all id))=true:=h
  simp only[cN,rm] at h'
  obtain⟨⟨h1,h2⟩,h3,h4⟩:=h'
  have all:∀d∈ds,fJ d=true:=λd hd=>by
   rw[nB] at h3
   exact h3 _ (cX hd)
  refine⟨ds.map strOf,?_,rfl,by rw[aq];omega,by rw[aq];omega,λn hn=>?_⟩
  .congr 1
   unfold cz
   rw[pf]
   have:∀d∈ds,((PyData.str∘strOf) d)=d:=λd hd=>by
    obtain⟨x,rfl⟩:=qV (all d hd)
    rfl
   rw[kF this,List.map_id']
  .obtain⟨d,hd,rfl⟩:=cT.mp hn
   have:=all d hd
   obtain⟨x,rfl⟩:=qV this
   exact this
 |_=>cases h
def Y7:List (Str×NameKind):=[(".0",.local),("name",.local),("second",.free)]
def Y8:(["name","second"]:List Str).Nodup:=by decide+kernel
def Hb:bY ["thing","first","second","time","other","course"] ["thing"] (ar DG):={}
def JP (F:jg K "is_piece" "is_piece" DG f fd) (T:Txt mg) (DC:Df P w K mg base 2 "is_crew" ["thing"] (x_ kN)) (DM:Df P w K mg base 2 "is_measure" ["thing"] (x_ j9)):dR P w K mg base fN 3 f fd ["thing"] (x_ gP):=by
 exists F.ok,Hb
 .obtain⟨k,d,v,rfl,_⟩:=h
  rfl
 .obtain⟨k,d,v,rfl,t,hf,q⟩:=h
  refine⟨_,aw (cS (PW.pt (jw (fS (fM (aR fR rfl T.s_ aE (ae (pv 0) (ae (gX (v:=.ty "tuple") rfl T.tuple cC rfl) ah)))))
    (kf (bo lV (aR bS rfl T.len bC (ae (pv 0) ah)) ao (bG _)))))
    (aF (bN mw)) bO)
   (aw (iE (pv 0) (fU rfl (bx (a_ (i:=1) Hb.nd) (bx (a_ (i:=2) Hb.nd rfl (Or.inr rfl)) (bx (a_ (i:=3) Hb.nd) (bx (a_ (i:=4) Hb.nd) (bx (a_ (i:=5) Hb.nd) eX)))))))
   (aw (cS (PW.pt (jw (fS (fM (cE DC hr (ae (pv 1) ah)))) (jw (fS (fM (cE DC hr (ae (pv 2) ah))))
    (kf (bo lV (aR bS rfl T.len bC (ae (pv 1) ah)) (aR bS rfl T.len bC (ae (pv 2) ah)) (bG _))))))
    (aF (bN mw)) bO)
   (aw (cS (fM (aR (Jg rfl) rfl T.any (by decide+kernel) (ae (kI (N:=["name","second"]) rfl (iF (pv 1)) (fD.one (v:="name") (fr:="second") (j:=2) (nm:=Y7) rfl rfl rfl rfl)
     (λ_ _ _=>a_ (i:=0) Y8) (λ_ _ _=>iV) (λ_ _ _=>gy (IZ hr.units) (pv 0) (pv 1) (by with_unfolding_all rfl))) ah)))
    (aF (bN mw)) bO)
   (aF (bN (jH (cE DM hr (ae (pv 3) ah)) (jH (cE DM hr (ae (pv 4) ah)) (mK (cE DM hr (ae (pv 5) ah)))))))))),?_⟩
  refine⟨_,rfl,k,_,_,d,rfl,t,.inr (.inr (.inr (.inl rfl))),_,rfl,?_⟩
  have no:∀H',bg H H'->gP d=false->Q (.bl false) H':=λH' s' e=>by have:=q H' s';rw[e] at this;exact this
  refine eY (λc=>?_) (λc=>?_)
  .refine qO (no H (bg.refl _) ?_)
   cases d with
   |tuple ds=>cases c
   |_=>rfl
  .obtain⟨ds,rfl⟩:=qo (d:=d) (by simpa using c)
   obtain⟨a,xs,rfl,hk,ha,nU⟩:=e_.mp t
   have hl:=g_ nU
   refine⟨_,rfl,a,xs,rfl,.inr (bZ.of ha),rfl,_,rfl,?_⟩
   refine eY (λc1=>?_) (λc1=>?_)
   .refine no H (bg.refl _) (DH λz=>JE c1 (by rw[hl,z];rfl))
   .have l5:ds.length=5:=by
     have e5:V.int (xs.length:Int)=V.int 5:=v_eq c1
     injection e5 with e5
     omega
    obtain⟨d1,d2,d3,d4,d5,rfl⟩:=Y6 l5
    obtain⟨x1,r1,rfl,t1,nU⟩:=bV.mp nU
    obtain⟨x2,r2,rfl,t2,nU⟩:=bV.mp nU
    obtain⟨x3,r3,rfl,t3,nU⟩:=bV.mp nU
    obtain⟨x4,r4,rfl,t4,nU⟩:=bV.mp nU
    obtain⟨x5,r5,rfl,t5,nU⟩:=bV.mp nU
    rw[eI] at nU
    subst nU
    have Bb:=(Bd.qm hf).1
    have tj:gP (.tuple [d1,d2,d3,d4,d5])=((kN d1&&(kN d2&&decide ((ju d1).length=(ju d2).length)))&&(!((ju d1).map λn=>decide (n∈ju d2)).any id&&(j9 d3&&(j9 d4&&j9 d5)))):=rfl
    refine⟨_,rfl,a,_,rfl,bZ.of ha,rfl,_,_,rfl,_,_,rfl,_,_,rfl,_,_,rfl,_,_,rfl,rfl,?_⟩
    refine⟨_,rfl,k,d1,x1,rfl,t1,Bb d1 ς,λH1 s1=>⟨_,rfl,?_⟩⟩
    refine eY (λc2=>?_) (λc2=>?_)
    .refine qO (no H1 s1 ?_)
     rw[tj,show kN d1=false by simpa using c2,bz,bz]
    have Mq:kN d1=true:=by simpa using c2
    refine⟨_,rfl,k,d2,x2,rfl,t2.keep s1.keep,Bb d2 ς,λH2 s2=>⟨_,rfl,?_⟩⟩
    have s12:=s1.trans s2
    refine eY (λc3=>?_) (λc3=>?_)
    .refine qO (no H2 s12 ?_)
     rw[tj,show kN d2=false by simpa using c3,bz,fj,bz]
    have SI:kN d2=true:=by simpa using c3
    obtain⟨Bf,rfl,e1,l1,m1,nm1⟩:=wW Mq
    obtain⟨HW,rfl,e2,l2,m2,nm2⟩:=wW SI
    obtain⟨a1,y1,rfl,k1,Y9,hy1⟩:=e_.mp t1
    obtain⟨a2,y2,rfl,k2,ha2,Li⟩:=e_.mp t2
    have f1:y1.length=Bf.length:=by rw[g_ hy1,cz,aq]
    have f2:y2.length=HW.length:=by rw[g_ Li,cz,aq]
    rw[e1,e2,Mq,SI,cA,cA] at tj
    refine⟨_,rfl,a1,y1,rfl,.inr (bZ.of (s12 _ _ Y9)),_,rfl,a2,y2,rfl,.inr (bZ.of (s12 _ _ ha2)),rfl,_,rfl,?_⟩
    rw[f1,f2]
    refine eY (λc4=>?_) (λc4=>?_)
    .refine no H2 s12 ?_
     rw[tj,show decide (Bf.length=HW.length)=false from bE λz=>JE c4 (by rw[z]),bz]
    have c4':Bf.length=HW.length:=by
     have e5:V.int (Bf.length:Int)=V.int (HW.length:Int):=v_eq c4
     injection e5 with e5
     omega
    rw[aI c4',cA] at tj
    have Y_:∀{J:Hp},bg H2 J->Tells J k (.tuple (cz HW)) (.ref a2):=λsJ=>t2.keep (s12.trans sJ).keep
    have Za:PyData.canLayAll0 (cz HW)=true:=GB (Bd.qm (Bb _ (by simp:PyData.tuple (cz HW)∈_))).1
    refine⟨_,rfl,a1,rfl,⟨y1,bZ.of (s12 _ _ Y9)⟩,λD hD=>?_⟩
    refine kY (n:=y1.length) (f:=λi=>y1.getD i .eU) (λi ys bX J=>ys=((Bf.take i).map λn=>decide (n∈HW)).map V.bl/\(∃v,bX=[v,some (.ref a2)])/\bg H2 J) hD ω ⟨rfl,⟨none,rfl⟩,aO hD _⟩
     (λi ys bX J hi _ iv=>kD (bZ.of (iv.2.2 _ _ (s12 _ _ Y9))) i hi) ?_ ?_
    .rintro i ys bX J hi hy ⟨q1,⟨v,rfl⟩,sJ⟩
     obtain⟨di,SH,ti⟩:=oq hy1 (show y1[i]?=some (y1.getD i .eU) by simp[List.getD,hi])
     have Qr:i<Bf.length:=ω
     have edi:di=.str (Bf.getD i ""):=by
      unfold cz at SH
      rw[cg,aH Qr] at SH
      have:=(cR SH).symm
      rw[this];simp[List.getD,Qr]
     subst edi
     have tn:=fi.mp ti
     rw[tn]
     have SJ:Bf.getD i ""∈Bf:=by
      rw[show Bf.getD i ""=Bf[i] by simp[List.getD,Qr]]
      exact cF Qr
     have Zb:rZ (.str (Bf.getD i "")):=(Bd.qm (Bb _ (by simp:PyData.tuple (cz Bf)∈_))).1 _ (cX SJ)
     refine⟨_,rfl,_,rfl,k,k,.str (Bf.getD i ""),cz HW,fi.mpr rfl,.inl (Y_ sJ),rZ.lay Zb,Za,?_⟩
     refine⟨hy,?_,⟨_,rfl⟩,λb o e=>?_⟩
     .rw[NS (z:=("":Str)) Qr,bL,bL,q1]
      congr 1
      show[V.bl ((cz HW).any λz=>PyData.eqv z (.str (Bf.getD i "")))]=_
      rw[G8]
      rfl
     .rw[bb (dH e hD)];exact sJ b o e
    .rintro ys bX J hy ⟨q1,⟨v,rfl⟩,sJ⟩
     rw[cZ ω] at q1
     have Qs:=s12.trans sJ
     refine⟨D,Bf.map λn=>decide (n∈HW),rfl,cQ.of (by rw[hy,q1]),_,rfl,?_⟩
     refine eY (λc5=>?_) (λc5=>?_)
     .refine no J Qs ?_
      rw[tj,c5];rfl
     have Zc:(Bf.map λn=>decide (n∈HW)).any id=false:=by simpa using c5
     rw[Zc,Bool.not_false,cA] at tj
     refine⟨_,rfl,k,d3,x3,rfl,t3.keep Qs.keep,Bb d3 ς,λJ1 u1=>⟨_,rfl,?_⟩⟩
     refine eY (λc6=>?_) (λc6=>?_)
     .refine⟨_,rfl,k,d4,x4,rfl,t4.keep (Qs.trans u1).keep,Bb d4 ς,λJ2 u2=>⟨_,rfl,?_⟩⟩
      refine eY (λc7=>?_) (λc7=>?_)
      .refine⟨_,rfl,k,d5,x5,rfl,t5.keep ((Qs.trans u1).trans u2).keep,Bb d5 ς,λJ3 u3=>?_⟩
       have:=q J3 (((Qs.trans u1).trans u2).trans u3)
       rw[tj,c6,c7,cA,cA] at this
       exact this
      .have:=q J2 ((Qs.trans u1).trans u2)
       rw[tj,show j9 d4=false by simpa using c7,bz,fj] at this
       exact this
     .have:=q J1 (Qs.trans u1)
      rw[tj,show j9 d3=false by simpa using c6,bz] at this
      exact this
end
abbrev Zd:Stmt:=top 18
abbrev Ze:Stmt:=top 26
def Bg (m n:Nat):Nat.gcd n (m %n)=Nat.gcd m n:=by
 rw[Td n (m %n),<-Nat.gcd_rec n m,Td]
def vq (m n:Nat):((m:Int) %(n:Int))=((m %n:Nat):Int):=(Int.natCast_emod m n).symm
def Fn (t:Int):(if t<0 then-t else t)=(t.natAbs:Int):=by
 split<;>omega
def ek (t b:Int):Int:=t/(Nat.gcd t.natAbs b.natAbs:Int)
def dS (t b:Int):Int:=b/(Nat.gcd t.natAbs b.natAbs:Int)
def Fo {t b:Int}(h:0<b):0<Nat.gcd t.natAbs b.natAbs:=Nat.gcd_pos_of_pos_right _ ω
def JQ {m:Nat}(h:m<2^150):(m:Int)<2^200:=by
 have:m<2^200:=aY h (Nat.pow_le_pow_right δ δ)
 exact_mod_cast this
section
variable {P:aJ}{w:bB}{K:Φ}{mg:Str->Option ag}{base:Heap}
def JR:Sp:=λvs H Q _=>∃t b:Int,vs=[.int t,.int b]/\0<b/\b.natAbs<2^150/\t.natAbs<2^150/\∀p,H p=none->Q (.ref p) (upd H p (.tup [.int (ek t b),.int (dS t b)]))
def Qt:bY ["top","bottom","divisor","rest"] ["top","bottom"] (ar Zd):={}
def ue:bootBuiltins "abs"=some (.builtin "abs"):=by decide+kernel
def UT (F:jg K "fraction" "fraction" Zd f fd) (T:Txt mg):dR P w K mg base fN 1 f fd ["top","bottom"] JR:=by
 exists F.ok,Qt
 .obtain⟨t,b,rfl,_⟩:=h
  rfl
 .obtain⟨t,b,rfl,b0,b1,t1,q⟩:=h
  refine⟨_,aw (zu (i:=2) (j:=3) rfl Qt.nd rfl rfl δ rfl rfl (ae (pv 1) (ae (aR vP rfl T.abs ue (ae (pv 0) ah)) ah)) rfl)
   (aw (AH fg (bo ym (pv 3) ao (bG _)) (aF (zu (i:=2) (j:=3) rfl Qt.nd rfl rfl δ rfl rfl (ae (pv 3) (ae (bW oh (pv 2) (pv 3)) ah)) rfl)))
   (aF (bN (bU (ae (bW pQ (pv 0) (pv 2)) (ae (bW pQ (pv 1) (pv 2)) ah)))))),?_⟩
  refine⟨_,rfl,_,rfl,_,rfl,_,_,rfl,?_⟩
  refine AI (λbX H'=>H'=H/\∃m n:Nat,bX=[some (.int t),some (.int b),some (.int m),some (.int n)]/\0<m/\Nat.gcd m n=Nat.gcd t.natAbs b.natAbs/\m<2^150/\n<2^150)
   (λbX _=>match bX with| [_,_,_,some (.int n)]=>n.toNat|_=>0) ?_ ?_ ?_
  .refine⟨rfl,b.natAbs,t.natAbs,?_,ω,Td _ _,b1,t1⟩
   show[some (V.int t),some (V.int b),some (V.int b),some (V.int (if t<0 then-t else t))]=_
   rw[Fn,show((b.natAbs:Nat):Int)=b by omega]
  .rintro bX H' ⟨rfl,m,n,rfl,m0,hg,hm,hn⟩
   refine⟨_,rfl,_,_,rfl,rfl,_,rfl,?_⟩
   refine eY (λc=>?_) (λc=>?_)
   .have n0:0<n:=by have:(0:Int)<(n:Int):=aX c;omega
    refine⟨_,rfl,_,rfl,_,rfl,_,_,rfl,rfl,ω,_,_,rfl,⟨rfl,n,m %n,?_,n0,by rw[Bg];exact hg,hn,bf (Nat.mod_le _ _) hm⟩,?_⟩
    .show[some (V.int t),some (V.int b),some (V.int (n:Int)),some (V.int ((m:Int) %(n:Int)))]=_
     rw[vq]
    .show((m:Int) %(n:Int)).toNat<(n:Int).toNat
     rw[vq]
     have:=Nat.mod_lt m n0
     omega
   .have n0:n=0:=by have: ¬(0:Int)<(n:Int):=by simpa using c
                    omega
    subst n0
    rw[Nat.gcd_zero_right] at hg
    have bd:(0:Int)<(m:Int)/\(m:Int)<2^200:=⟨ω,JQ hm⟩
    refine⟨_,rfl,_,rfl,_,_,rfl,rfl,bd,_,rfl,_,rfl,_,_,rfl,rfl,bd,dZ,λp hp=>?_⟩
    have:=q p hp
    unfold ek dS at this
    rw[<-hg] at this
    exact this
  .rintro bX H' Q1 Q2 imp ⟨v,hv,i,j,e1,e2,b',e3,h⟩
   exact⟨v,hv,i,j,e1,e2,b',e3,imp _ _ h⟩
def UU (K:Φ):Sp:=λvs H Q _=>∃(a:ai) (x y:V) (t o c:Int),vs=[.ref a]/\bZ K H a [x,y,.int t,.int o,.int c]/\0<c/\c.natAbs<2^150/\(o-t).natAbs<2^150/\∀p,H p=none->Q (.ref p) (upd H p (.tup [.int (ek (o-t) c),.int (dS (o-t) c)]))
def Hc:bY ["piece","first","second","time","other","course"] ["piece"] (ar Ze):={}
def UW (F:jg K "margin" "margin" Ze f fd) (DF:Df P w K mg base 1 "fraction" ["top","bottom"] JR):dR P w K mg base fN 2 f fd ["piece"] (UU K):=by
 exists F.ok,Hc
 .obtain⟨a,x,y,t,o,c,rfl,_⟩:=h
  rfl
 .obtain⟨a,x,y,t,o,c,rfl,hS,c0,c1,d1,q⟩:=h
  refine⟨_,aw (iE (pv 0) (fU rfl (bx (a_ (i:=1) Hc.nd) (bx (a_ (i:=2) Hc.nd) (bx (a_ (i:=3) Hc.nd) (bx (a_ (i:=4) Hc.nd) (bx (a_ (i:=5) Hc.nd) eX)))))))
   (aF (bN (cE DF hr (ae (bW kW (pv 4) (pv 3)) (ae (pv 5) ah))))),?_⟩
  refine⟨_,rfl,a,_,rfl,hS,rfl,_,_,rfl,_,_,rfl,_,_,rfl,_,_,rfl,_,_,rfl,rfl,?_⟩
  exact⟨_,rfl,_,rfl,_,_,rfl,rfl,_,rfl,o-t,c,rfl,c0,c1,d1,q⟩
end
end K13
namespace K13
open PySem L2 HT
def za (t b:Int):((Nat.gcd t.natAbs b.natAbs:Nat):Int)∣t:=Int.natAbs_dvd_natAbs.mp (by rw[AE];exact Nat.gcd_dvd_left _ _)
def zb (t b:Int):((Nat.gcd t.natAbs b.natAbs:Nat):Int)∣b:=Int.natAbs_dvd_natAbs.mp (by rw[AE];exact Nat.gcd_dvd_right _ _)
def zN (hb:0<b):ek t b*b=t*dS t b:=by
 unfold ek dS
 have g0:(0:Int)<((Nat.gcd t.natAbs b.natAbs:Nat):Int):=by have:=Fo (t:=t) hb;omega
 obtain⟨x,hx⟩:=za t b
 obtain⟨y,hy⟩:=zb t b
 generalize ((Nat.gcd t.natAbs b.natAbs:Nat):Int)=g at*
 subst hx hy
 rw[rH _ ω,rH _ ω]
 grind
def nN (hb:0<b):0<dS t b:=by
 unfold dS
 have g0:(0:Int)<((Nat.gcd t.natAbs b.natAbs:Nat):Int):=by have:=Fo (t:=t) hb;omega
 obtain⟨y,hy⟩:=zb t b
 generalize ((Nat.gcd t.natAbs b.natAbs:Nat):Int)=g at*
 subst hy
 rw[rH _ ω]
 exact Int.pos_of_mul_pos_right hb g0
def Bh (hk:0<k):ek (k*t) (k*b)=ek t b/\dS (k*t) (k*b)=dS t b:=by
 unfold ek dS
 have e:((Nat.gcd (k*t).natAbs (k*b).natAbs:Nat):Int)=k*((Nat.gcd t.natAbs b.natAbs:Nat):Int):=by
  rw[Ly,Ly,Nat.gcd_mul_left,Int.natCast_mul]
  congr 1
  omega
 rw[e,Sq _ _ hk,Sq _ _ hk]
 exact⟨rfl,rfl⟩
def Oe (hb:0<b) (hd:0<d) (e:a*d=c*b):ek a b=ek c d/\dS a b=dS c d:=by
 obtain⟨h1,h2⟩:=Bh (t:=a) (b:=b) hd
 obtain⟨h3,h4⟩:=Bh (t:=c) (b:=d) hb
 have e1:d*a=b*c:=by rw[Te,e,Te]
 have e2:d*b=b*d:=Te _ _
 rw[<-h1,<-h2,e1,e2,h3,h4]
 exact⟨rfl,rfl⟩
def My (hb:0<b):ek 0 b=0/\dS 0 b=1:=by
 obtain⟨h1,h2⟩:=Oe (a:=0) (b:=b) (c:=0) (d:=1) hb δ ω
 exact⟨h1.trans δ,h2.trans δ⟩
def wX:(ek t b).natAbs<=t.natAbs:=NT _ _
def wY:(dS t b).natAbs<=b.natAbs:=NT _ _
abbrev Up (l:List Str):Prop:=l.Pairwise λa b=>eg a b=true
def pR (h:eg a b=true):eg b a=false:=by
 cases e:eg b a with
 |false=>rfl
 |true=>have:=tZ h e;rw[zK] at this;cases this
def JS (h:eg a b=true):a≠b:=λz=>by rw[z,zK] at h;cases h
def pS (ha:Up a) (hb:Up b) (p:a.Perm b):a=b:=
 Pd (λx y _ _ h1 h2=>by rw[pR h1] at h2;cases h2) ha hb p
def Up.nodup (h:Up l):l.Nodup:=h.imp λz=>JS z
def zc:∀{l:List Str}{p:Str},PyProof.Rows.risingS p l=true->(p::l).Nodup->(p::l).Pairwise λa b=>eg a b=true
 | [],p,_,_=>by simp
 |x::l,p,h,nd=>by
  have h':=(cN _ _▸h:_/\_)
  have Xm:=ji.mp nd
  have ih:=zc h'.2 Xm.2
  have px:eg p x=true:=by
   have n:p≠x:=λz=>Xm.1 (z▸cy)
   rcases vn n with z|z
   .exact z
   .have:=h'.1
    rw[PyProof.Rows.ltCps_eq] at this
    unfold eg at z
    rw[z] at this
    cases this
  refine AF.mpr ⟨λy hy=>?_,ih⟩
  rcases aD.mp hy with rfl|hy
  .exact px
  .exact tZ px ((AF.mp ih).1 y hy)
def qp (h:PyProof.Rows.sortedS l=true) (nd:l.Nodup):l.Pairwise λa b=>eg a b=true:=by
 cases l with
 |nil=>exact .nil
 |cons x l=>exact zc h nd
structure qW where
 a:List Str
 b:List Str
 t:Int
 o:Int
 c:Int
def kq (H:Hp) (r:ai) (p:qW):Prop:=∃a b,H r=some (.tup [.ref a,.ref b,.int p.t,.int p.o,.int p.c])/\H a=some (.tup (p.a.map V.str))/\H b=some (.tup (p.b.map V.str))
def kq.up (h:kq H r p) (s:∀b xs,H b=some (.tup xs)->H' b=some (.tup xs)):kq H' r p:=by
 obtain⟨a,b,h1,h2,h3⟩:=h
 exact⟨a,b,s _ _ h1,s _ _ h2,s _ _ h3⟩
def kq.same (h:kq H r p) (s:bg H H'):kq H' r p:=h.up λ_ _ e=>s _ _ e
structure DJ (a:List Str):Prop where
 l1:1<=a.length
 l4:a.length<=4
 ok:∀n∈a,okN n
structure iL (p:qW):Prop where
 a:DJ p.a
 b:DJ p.b
 t1:1<=p.t
 t9:p.t<=1000000000
 o1:1<=p.o
 o9:p.o<=1000000000
 c1:1<=p.c
 c9:p.c<=1000000000
structure gz (p:qW):Prop where
 a:Up p.a
 b:Up p.b
 no:∀n∈p.a,n∉p.b
 le:p.a.length=p.b.length
def exc (a:List Str) (m y:Str):List Str:=a.filter (λn=>!decide (n=m))++ [y]
def ya (a:List Str) (m y:Str) (c:List Str):Prop:=c.Perm (exc a m y)/\Up c
def ya.uniq (h:ya a m y c) (k:ya a m y d):c=d:=pS h.2 k.2 (h.1.trans k.1.symm)
def lM:x∈exc a m y↔(x∈a/\x≠m)\/x=y:=by
 unfold exc
 rw[bK,dN,bA]
 simp
def uf (h:a.Nodup) (hy:y∉a):(exc a m y).Nodup:=by
 unfold exc
 rw[rq]
 refine⟨h.filter _,ς,λx hx z hz=>?_⟩
 rw[bA.mp hz]
 rintro rfl
 exact hy (dN.mp hx).1
def vt (h:a.Nodup) (hy:y∉a) (p:c.Perm (exc a m y)) (s:PyProof.Rows.sortedS c=true):ya a m y c:=⟨p,qp s (p.nodup_iff.mpr (uf h hy))⟩
structure Xp (p q:qW) (m y:Str):Prop where
 hm:m∈p.a
 hy:y∈p.b
 a:ya p.a m y q.a
 b:ya p.b y m q.b
def m_ {a b:List Str}(ha:a.Nodup) (hb:b.Nodup) (h:∀x,x∈a↔x∈b):a.Perm b:=(List.perm_ext_iff_of_nodup ha hb).mpr h
def DU {a:List Str}(h:a.Nodup) (hm:m∈a) (hf:∀x∈a,f x=true↔x=m):a.filter f=[m]:=by
 have hn:(a.filter f).Nodup:=h.filter _
 have hp:(a.filter f).Perm [m]:=m_ hn ς λx=>by
  rw[dN,bA]
  exact⟨λz=>(hf x z.1).mp z.2,λz=>z▸⟨hm,(hf m hm).mpr rfl⟩⟩
 exact List.perm_singleton.mp hp
def gU (a b:List Str):List Str:=a.filter λn=>!decide (n∈b)
def su (h:a.Nodup) (hm:m∈a) (hf:∀x∈a,x∉b↔x=m):gU a b=[m]:=DU h hm λx hx=>by rw[<-hf x hx];simp
def qr (e:gU a b=[m]):m∈a/\m∉b/\∀x∈a,x∉b->x=m:=by
 have hm:m∈gU a b:=by rw[e];simp
 have h:=dN.mp hm
 refine⟨h.1,by simpa using h.2,λx hx hn=>?_⟩
 have:x∈gU a b:=dN.mpr ⟨hx,by simpa using hn⟩
 rw[e] at this
 exact bA.mp this
def Xp.diff {p q:qW}{m y:Str}(P:gz p) (x:Xp p q m y):gU p.a q.a=[m]/\gU q.a p.a=[y]/\gU p.b q.b=[y]/\gU q.b p.b=[m]:=by
 have my:m≠y:=λz=>P.no _ x.hm (z▸x.hy)
 have UX:y∉p.a:=λz=>P.no _ z x.hy
 have UY:m∉p.b:=P.no _ x.hm
 have e1:∀z,z∈q.a↔(z∈p.a/\z≠m)\/z=y:=λz=>by rw[x.a.1.mem_iff,lM]
 have e2:∀z,z∈q.b↔(z∈p.b/\z≠y)\/z=m:=λz=>by rw[x.b.1.mem_iff,lM]
 refine⟨su P.a.nodup x.hm λz hz=>?_,su x.a.2.nodup ((e1 y).mpr (.inr rfl)) λz hz=>?_,su P.b.nodup x.hy λz hz=>?_,su x.b.2.nodup ((e2 m).mpr (.inr rfl)) λz hz=>?_⟩
 .rw[e1]
  refine⟨λh=>kx λw=>h (.inl ⟨hz,w⟩),?_⟩
  rintro rfl (h|h)
  .exact h.2 rfl
  .exact my h
 .refine⟨λh=>?_,λh=>h▸UX⟩
  rcases(e1 z).mp hz with w|w
  .exact absurd w.1 h
  .exact w
 .rw[e2]
  refine⟨λh=>kx λw=>h (.inl ⟨hz,w⟩),?_⟩
  rintro rfl (h|h)
  .exact h.2 rfl
  .exact my h.symm
 .refine⟨λh=>?_,λh=>h▸UY⟩
  rcases(e2 z).mp hz with w|w
  .exact absurd w.1 h
  .exact w
def UZ (P:gz p) (Qc:gz q) (h1:gU p.a q.a=[m]) (h2:gU q.a p.a=[y]) (h3:gU p.b q.b=[y]) (h4:gU q.b p.b=[m]):Xp p q m y:=by
 obtain⟨a1,a2,a3⟩:=qr h1
 obtain⟨b1,b2,b3⟩:=qr h2
 obtain⟨c1,c2,c3⟩:=qr h3
 obtain⟨d1,d2,d3⟩:=qr h4
 refine⟨a1,c1,⟨?_,Qc.a⟩,⟨?_,Qc.b⟩⟩
 .refine m_ Qc.a.nodup (uf P.a.nodup b2) λz=>?_
  rw[lM]
  constructor
  .intro hz
   by_cases hp:z∈p.a
   .exact .inl ⟨hp,λw=>a2 (w▸hz)⟩
   .exact .inr (b3 z hz hp)
  .rintro(⟨h,n⟩|h)
   .exact kx λw=>n (a3 z h w)
   .exact h▸b1
 .refine m_ Qc.b.nodup (uf P.b.nodup d2) λz=>?_
  rw[lM]
  constructor
  .intro hz
   by_cases hp:z∈p.b
   .exact .inl ⟨hp,λw=>c2 (w▸hz)⟩
   .exact .inr (d3 z hz hp)
  .rintro(⟨h,n⟩|h)
   .exact kx λw=>n (c3 z h w)
   .exact h▸d1
def wZ (nd:a.Nodup) (h:m∈a):(exc a m y).length=a.length:=by
 unfold exc
 rw[aQ,aN]
 have e:a.filter (λn=>!decide (n=m))=a.erase m:=by
  rw[nd.erase_eq_filter]
  rfl
 rw[e,List.length_erase_of_mem h]
 have:0<a.length:=List.length_pos_of_mem h
 omega
def Xp.U0 (P:gz p) (x:Xp p q m y):gz q:=by
 have my:m≠y:=λz=>P.no _ x.hm (z▸x.hy)
 refine⟨x.a.2,x.b.2,λn hn hb=>?_,?_⟩
 .rw[x.a.1.mem_iff,lM] at hn
  rw[x.b.1.mem_iff,lM] at hb
  rcases hn with⟨h1,h2⟩|h1<;>rcases hb with⟨h3,h4⟩|h3
  .exact P.no n h1 h3
  .exact h2 h3
  .exact h4 h1
  .exact my (h3.symm.trans h1)
 .rw[x.a.1.length_eq,x.b.1.length_eq,wZ P.a.nodup x.hm,wZ P.b.nodup x.hy];exact P.le
def Xp.uniq (P:gz p) (x:Xp p q m y) (x':Xp p q m' y'):m=m'/\y=y':=by
 have a:=x.diff P
 have b:=x'.diff P
 have h1:=a.1.symm.trans b.1
 have h2:=a.2.1.symm.trans b.2.1
 simp only[Ic,and_true] at h1 h2
 exact⟨h1,h2⟩
def qX (p q:qW):Int:=(p.o-p.t)*q.c-(q.o-q.t)*p.c
def pT (p q:qW) (m y:Str):Str×Str×Int×Int:=
 let d:=qX p q
 let b:=p.c*q.c
 if 0<d then(m,y,ek d b,dS d b) else if d<0 then(y,m,ek (-d) b,dS (-d) b) else(if eg y m=true then y else m,if eg y m=true then m else y,0,1)
def Told (p q:qW) (r:Option (Str×Str×Int×Int)):Prop:=(∃m y,Xp p q m y/\r=some (pT p q m y))\/((∀m y,¬Xp p q m y)/\r=none)
def Told.uniq (P:gz p) (h:Told p q r) (h':Told p q r'):r=r':=by
 rcases h with⟨m,y,x,rfl⟩|⟨n,rfl⟩<;>rcases h' with⟨m',y',x',rfl⟩|⟨n',rfl⟩
 .obtain⟨rfl,rfl⟩:=x.uniq P x';rfl
 .exact absurd x (n' _ _)
 .exact absurd x' (n _ _)
 .rfl
def Qu {p q:qW}(hp:0<p.c) (hq:0<q.c):ek (ek (p.o-p.t) p.c*dS (q.o-q.t) q.c-ek (q.o-q.t) q.c*dS (p.o-p.t) p.c) (dS (p.o-p.t) p.c*dS (q.o-q.t) q.c)=ek (qX p q) (p.c*q.c)/\
  dS (ek (p.o-p.t) p.c*dS (q.o-q.t) q.c-ek (q.o-q.t) q.c*dS (p.o-p.t) p.c) (dS (p.o-p.t) p.c*dS (q.o-q.t) q.c)=dS (qX p q) (p.c*q.c):=by
 have m1:=zN (t:=p.o-p.t) hp
 have m2:=zN (t:=q.o-q.t) hq
 have b1:=nN (t:=p.o-p.t) hp
 have b2:=nN (t:=q.o-q.t) hq
 generalize ek (p.o-p.t) p.c=T1 at*
 generalize dS (p.o-p.t) p.c=B1 at*
 generalize ek (q.o-q.t) q.c=T2 at*
 generalize dS (q.o-q.t) q.c=B2 at*
 refine Oe (rz b1 b2) (rz hp hq) ?_
 unfold qX
 rw[Int.sub_mul,Int.sub_mul]
 have a1:T1*B2*(p.c*q.c)=(p.o-p.t)*q.c*(B1*B2):=by
  calc T1*B2*(p.c*q.c)=(T1*p.c)*(B2*q.c):=by ac_rfl
   _=((p.o-p.t)*B1)*(B2*q.c):=by rw[m1]
   _=_:=by ac_rfl
 have a2:T2*B1*(p.c*q.c)=(q.o-q.t)*p.c*(B1*B2):=by
  calc T2*B1*(p.c*q.c)=(T2*q.c)*(B1*p.c):=by ac_rfl
   _=((q.o-q.t)*B2)*(B1*p.c):=by rw[m2]
   _=_:=by ac_rfl
 rw[a1,a2]
def Qv (hb:0<b):ek (-t) b=-ek t b/\dS (-t) b=dS t b:=by
 have h:=zN (t:=t) hb
 unfold ek dS
 rw[Lz]
 refine⟨?_,rfl⟩
 rw[Int.neg_ediv_of_dvd]
 exact za t b
def Mz (hb:0<b):(0<ek t b↔0<t)/\(ek t b<0↔t<0):=by
 have h:=zN (t:=t) hb
 have hB:=nN (t:=t) hb
 generalize ek t b=T at*
 generalize dS t b=B at*
 have key:∀{x y u v:Int},0<u->0<v->x*u=y*v->0<x->0<y:=λhu hv e hx=>by
  have:=rz hx hu
  rw[e] at this
  exact Int.pos_of_mul_pos_left this hv
 refine⟨⟨key hb hB h,key hB hb h.symm⟩,⟨λz=>?_,λz=>?_⟩⟩
 .have:=key (x:=-T) (y:=-t) hb hB (by rw[HM,HM,h]) ω
  omega
 .have:=key (x:=-t) (y:=-T) hB hb (by rw[HM,HM,h]) ω
  omega
end K13
namespace K13
open PySem L2
abbrev Zf:Stmt:=top 46
def Zg:List (Str×NameKind):=[(".0",.local),("k",.local),("_law_pick",.globalImplicit),("deck",.free)]
def U1:(["k","deck"]:List Str).Nodup:=by decide+kernel
section
variable {P:aJ}{w:bB}{K:Φ}{mg:Str->Option ag}{base:Heap}
def Qw:Sp:=λvs H Q _=>∃(k:ai) (c:Int) (p:ai) (ns:List Str),vs=[.ref k,.ref p]/\cH H k c/\c<=20000/\p≠k/\H p=some (.lst (ns.map V.str))/\2<=ns.length/\ns.length<=12/\(∀n∈ns,okN n)/\ns.Nodup/\
 ∀(r:ai) (pc:qW) (c':Int) (H':Hp),eE k H H'->cH H' k c'->c'<=c+60->kq H' r pc->iL pc->gz pc->Q (.ref r) H'
def JT {ss sA sB:List Str}(nd:ss.Nodup) (pA:sA.Perm (ss.take m)) (pB:sB.Perm ((ss.drop m).take m)) (oA:PyProof.Rows.sortedS sA=true) (oB:PyProof.Rows.sortedS sB=true):Up sA/\Up sB/\∀n∈sA,n∉sB:=by
 have h1:(ss.take m).Nodup:=nd.sublist (rl _ _)
 have h2:((ss.drop m).take m).Nodup:=(nd.sublist (List.drop_sublist _ _)).sublist (rl _ _)
 refine⟨qp oA (pA.nodup_iff.mpr h1),qp oB (pB.nodup_iff.mpr h2),λn hA hB=>?_⟩
 have a:=pA.mem_iff.mp hA
 have b:=ip (pB.mem_iff.mp hB)
 rw[<-List.take_append_drop m ss,rq] at nd
 exact nd.2.2 n a n b rfl
def Bi {ss ns:List Str}(h:ss.Perm (ns.take i)) (hi:i<ns.length):(ss.take r++ns[i]::ss.drop r).Perm (ns.take (i+1)):=by
 rw[rn,aH hi,Option.toList_some]
 refine List.perm_middle.trans ?_
 rw[List.take_append_drop]
 exact(List.Perm.cons _ h).trans (LA _ _).symm
def w_:bY ["deck","names","many","order","name","times","course","crews"] ["deck","names"] (ar Zf):={}
def zd:bootBuiltins "min"=some (.builtin "min"):=by decide+kernel
def fV:bootBuiltins "sorted"=some (.builtin "sorted"):=by decide+kernel
def wA {c c':Int}{i n:Nat}(hc:c<=20000) (h:c'<=c+1+i) (hi:i<=n) (hn:n<=12):c'<=20013:=ω
def wB {i:Nat}(h:c2<=c'+3*(i:Int)) (hc:c'<=20013) (hi:i<=2):c2<=20019:=ω
def wC {a b x:Int}(h:a<=b+1) (hb:b<=x):a<=x+1:=dF h (Int.add_le_add_right hb 1)
def wD {i:Nat}(h:c2<=c'+3*(i:Int)) (ea:ca<=c2+1) (eb:cb<=ca+1) (ec:cc<=cb+1):cc<=c'+3*((i+1:Nat):Int):=ω
def wE {c c' c2:Int}{i:Nat}(h:c'<=c+1+i) (e:c2<=c'+1):c2<=c+1+((i+1:Nat):Int):=ω
def wF {i n:Nat}(h:i<n) (hn:n<=12):(i:Int)+1<=10000000000000:=ω
def wG {r k a n:Int}(h:r<k) (e:a+k<=n):a+r<=n:=dF (zm (S8 h) a) e
def wH {r a:Int}(h:0<=r) (e:1<=a):1<=a+r:=dF e (Lx h)
def wI {n:Nat}(h:c2<=c'+3*((2:Nat):Int)) (ea:ca<=c2+1) (ec:cc<=ca+1) (hc:c'<=c+1+n) (hn:n<=12):cc<=c+60:=ω
def wM {M r:Int}{m n:Nat}(M4:M<=4) (M2:2*M<=n) (g:0<=r) (l:r<M) (em:1+r=m):1<=m/\m<=4/\2*m<=n:=ω
def w3 {r:Int}(h:0<=r) (l:r<3):r=0\/r=1\/r=2:=ω
def w4 {r:Int}(h:0<=r) (l:r<4):r=0\/r=1\/r=2\/r=3:=ω
def wS {n:Nat}(l2:2<=n) (l12:n<=12):∃M:Int,(if(n:Int)/2<4 then(n:Int)/2 else 4)=M/\1<=M/\M<=4/\2*M<=n/\0<M/\M<=10000000000000:=by
 refine⟨_,rfl,?_⟩
 split<;>omega
def U2 (F:jg K "_law_piece" "_law_piece" Zf f fd) (T:Txt mg) (DP:Df P w K mg base 1 "_law_pick" ["deck","many"] gi):dR P w K mg base fN 2 f fd ["deck","names"] Qw:=by
 exists F.ok,w_
 .obtain⟨k,c,p,ns,rfl,_⟩:=h
  rfl
 .obtain⟨k,c,p,ns,rfl,hk,hc,Qo,hp,l2,l12,Zh,ndn,q⟩:=h
  refine⟨_,aw (lj (i:=2) w_.nd (bW gs ao (cE DP hr (ae (pv 0) (ae (aR (Gm rfl) rfl T.min zd (ae ao (ae (bW ES (aR bS rfl T.len bC (ae (pv 1) ah)) ao) ah))) ah)))))
   (aw (lj (i:=3) w_.nd (cW ah))
   (aw (mL fg rfl (jI (pv 1)) (a_ (i:=4) w_.nd)
    (aF (gY (rX cJ PySem.F.slot_list_insert PySem.F.type_list_insert GA (pv 3)
     (ae (cE DP hr (ae (pv 0) (ae (bW gs (aR bS rfl T.len bC (ae (pv 3) ah)) ao) ah))) (ae (pv 4) ah))))))
   (aw (jN (i0:=5) w_.nd rfl (Or.inl rfl) rfl (tR rfl T.range (ae ao ah)) (fD.one (v:="k") (fr:="deck") (j:=0) (nm:=Zg) rfl rfl rfl rfl)
    (λ_ _ _=>a_ (i:=0) U1) (λ_ _ _=>iV)
    (te:=gH (Gr K) (xW (ck (gH (HP λi j=>.int (i+j)) (tC (.int 1)) (j0 gi [] E0 (ck (cj 1) (ck (tC (.int 9)) eW)))) (ck (gH (HP λi j=>.int (i+j)) (tC (.int 300)) (j0 gi [] E0 (ck (cj 1) (ck (tC (.int 60)) eW)))) (ck (gH (rI TJ λi j=>.int (i^j.toNat)) (tC (.int 10)) (tC (.int 9))) eW)))) (j0 gi [] E0 (ck (cj 1) (ck (tC (.int 3)) eW))))
    (λ_ _ _=>aU b_ (cW (ae (bW gs ao (cE DP hr (ae (pv 1) (ae ao ah)))) (ae (bW gs ao (cE DP hr (ae (pv 1) (ae ao ah)))) (ae (bW mO ao ao) ah)))) (cE DP hr (ae (pv 1) (ae ao ah)))))
   (aw (lj (i:=6) w_.nd (aU b_ (cW (ae ao (ae ao (ae (bW gs ao (cE DP hr (ae (pv 0) (ae ao ah)))) (ae (bW mO ao ao) ah))))) (cE DP hr (ae (pv 0) (ae ao ah)))))
   (aw (lj (i:=7) w_.nd (bU (ae (fG fK rfl T.tuple cC (ae (aR iW rfl T.sorted fV (ae (hX qj (pv 3) jL (iU (pv 2))) ah)) ah))
    (ae (fG fK rfl T.tuple cC (ae (aR iW rfl T.sorted fV (ae (hX qj (pv 3) (iU (pv 2)) (iU (bW mM ao (pv 2)))) ah)) ah)) ah))))
   (aF (bN (bW mz (pv 7) (bU (ae (aU b_ (pv 5) ao) (ae (aU b_ (pv 5) ao) (ae (pv 6) ah)))))))))))),?_⟩
  obtain⟨M,hM,M1,M4,M2,M0,M9⟩:=wS l2 l12
  rw[<-aq (f:=V.str)] at hM
  refine lY λD1 zO=>?_
  refine⟨_,rfl,_,rfl,p,_,rfl,.inl (cQ.of hp),_,_,rfl,rfl,⟨δ,δ⟩,_,_,rfl,k,c,_,rfl,hk,dF hc δ,hM▸M0,hM▸M9,λr c1 H1 k1 d1 e1 g1 l1=>⟨_,_,rfl,rfl,?_⟩⟩
  rw[hM] at l1
  obtain⟨m,em⟩:∃m:Nat,1+r=(m:Int):=⟨(1+r).toNat,(Int.toNat_of_nonneg (Int.add_nonneg δ g1)).symm⟩
  obtain⟨m1,m4,m2⟩:=wM M4 M2 g1 l1 em
  refine zO _ _ ?_
  refine lY λD2 Ha=>?_
  refine⟨dZ,λfo Qx=>?_⟩
  have U3:k≠fo:=d1.ne Qx
  have Zi:H fo=none:=oE k1 U3.symm Qx
  have Of:=k1 p _ Qo hp
  have hpf:p≠fo:=λz=>by rw[z,Qx] at Of;cases Of
  refine Ha _ _ ?_
  refine lY λD3 Qy=>?_
  refine⟨_,rfl,p,rfl,⟨_,cQ.of (aO Qx _ _ _ Of)⟩,pF (K:=K) (a:=p) (xs:=ns.map V.str) (λi bX H'=>∃(v:Option V) (c':Int) (ss:List Str),bX=[some (.ref k),some (.ref p),some (.int m),some (.ref fo),v,none,none,none]/\eE k H H'/\H' p=some (.lst (ns.map V.str))/\cH H' k c'/\c'<=c+1+i/\
    H' fo=some (.lst (ss.map V.str))/\ss.length=i/\(∀n∈ss,okN n)/\ss.Perm (ns.take i)) ?_ (λi bX H' _ ⟨_,_,_,_,_,h,_⟩=>cQ.of h) ?_ ?_⟩
  .refine⟨none,c1,[],?_,k1.trans (eE.new Qx _),aO Qx _ _ _ Of,d1.new Qx,dF e1 (Int.le_of_eq (Int.add_zero _).symm),aB,rfl,ς,ς⟩
   rw[<-em]
   rfl
  .rintro i y bX H' hi ⟨v,c',ss,rfl,kH,hP,dk,xF,hF,SK,oF,pm⟩
   have N_:i<ns.length:=by
    have:=(bD.mp hi).1
    simpa using this
   have hy:y=.str ns[i]:=by
    rw[cg,aH N_] at hi
    exact(cR hi).symm
   have U4:okN ns[i]:=Zh _ (cF N_)
   have hpm:=λr=>Bi (r:=r) pm N_
   generalize ns[i]=nm at hy U4 hpm
   subst hy
   have sl:(ss.map V.str).length=i:=by rw[aq];exact SK
   refine⟨_,rfl,.inl ⟨rfl,_,cQ.of hF⟩,?_⟩
   refine⟨_,rfl,_,rfl,fo,_,rfl,.inl (cQ.of hF),_,_,rfl,rfl,k,c',_,rfl,dk,dF (wA hc xF (dE N_) l12) δ,by rw[sl];exact Int.succ_ofNat_pos i,by rw[sl];exact wF N_ l12,λr2 c2 H2 k2 d2 e2 g2 MH=>?_⟩
   rw[sl] at MH
   have hF2:=k2 fo _ U3.symm hF
   refine⟨_,rfl,fo,_,r2,_,rfl,rfl,hF2,eF (aA (fw sl) (aA (dE N_) (aA l12 δ))),g2,by rw[sl];exact Int.le_of_lt_add_one MH,?_⟩
   rw[DA]
   have HR:=DB ss (i:=r2.toNat) nm (by rw[SK];exact Cb.mpr (Int.le_of_lt_add_one MH))
   refine⟨_,c2,_,rfl,λb o n e=>by rw[bb (dH e Zi)];exact k2 b o n (kH b o n e),by rw[bb hpf];exact k2 p _ Qo hP,d2.keep (λo e=>by rw[bb U3];exact e),wE xF e2,aB,HR.trans (jS (· +1) SK),G9 r2.toNat oF U4,hpm _⟩
  .rintro bX H' ⟨v,c',ss,rfl,kH,hP,dk,xF,hF,SK,oF,pm⟩
   rw[aq] at xF SK pm
   rw[dB] at pm
   have Ts:=wA hc xF (av _) l12
   refine Qy _ _ ?_
   refine lY λD4 U5=>?_
   refine⟨_,rfl,δ,δ,λD hD=>?_⟩
   have nD:k≠D:=dk.ne hD
   refine kY (J:=Im 0 2) (n:=2) (f:=λi=>.int i) (λi ys bX J=>∃(ts:List Int) (c2:Int),ys=ts.map V.int/\(∃v,bX=[v,some (.ref k)])/\eE k H' J/\cH J k c2/\c2<=c'+3*i/\ts.length=i/\∀t∈ts,1<=t/\t<=1000000000) hD δ
    ⟨[],c',rfl,⟨none,rfl⟩,eE.new hD _,dk.new hD,ς,rfl,ς⟩ (λi ys bX J hi _ _=>y_ 2 i J hi) ?_ ?_
   .rintro i ys iI J hi hy ⟨ts,c2,rfl,⟨v2,rfl⟩,kJ,dJ,Gq,Qz,MK⟩
    have b2:=wB Gq Ts (dE hi)
    refine pk rfl dJ (dF b2 δ) δ δ λra ca Ja ka da ea ga la=>⟨_,_,rfl,rfl,?_⟩
    refine pk rfl da (dF (wC ea b2) δ) δ δ λrb cb Jb kb db eb gb lb=>⟨_,_,rfl,rfl,?_⟩
    refine⟨_,_,rfl,rfl,⟨δ,δ,δ⟩,dZ,λl hl=>?_⟩
    refine pk rfl (db.new hl) (dF (wC eb (wC ea b2)) δ) δ δ λrc cc Jc kc dc ec gc lc=>?_
    have U6:=kc l _ (db.ne hl).symm aB
    have hv:∃t:Int,qA [V.int (1+ra),V.int (300+rb),V.int ((10:Int)^(9:Int).toNat)] rc=some (.int t)/\1<=t/\t<=1000000000:=by
     rcases w3 gc lc with rfl|rfl|rfl
     .exact⟨_,aV (j:=0) rfl,wH ga δ,wG la δ⟩
     .exact⟨_,aV (j:=1) rfl,wH gb δ,wG lb δ⟩
     .exact⟨_,aV (j:=2) rfl,δ,δ⟩
    obtain⟨t,ht,t1,t2⟩:=hv
    have SM:eE k J Jc:=(ka.trans kb).trans ((eE.new hl _).trans kc)
    refine⟨l,_,rc,_,rfl,rfl,cQ.of U6,ht,SM D _ nD.symm hy,ts++ [t],cc,ς,⟨_,rfl⟩,λb o n e=>?_,dc.keep (λo e=>by rw[bb nD];exact e),wD Gq ea eb ec,by simp[Qz],λx hx=>?_⟩
    .have nb:b≠D:=λz=>by rw[z,hD] at e;cases e
     rw[bb nb]
     exact SM b o n (kJ b o n e)
    .rcases bK.mp hx with hx|hx
     .exact MK x hx
     .rw[bA.mp hx];exact⟨t1,t2⟩
   .rintro ys iI J hy ⟨ts,c2,rfl,⟨v2,rfl⟩,kJ,dJ,Gq,Qz,MK⟩
    have zP:∃ta tb:Int,ts=[ta,tb]:=by
     match ts,Qz with
     | [ta,tb],_=>exact⟨ta,tb,rfl⟩
    obtain⟨ta,tb,rfl⟩:=zP
    have U7:=MK ta ς
    have U8:=MK tb ς
    refine U5 _ _ ?_
    refine lY λD5 hD5=>?_
    have b2:=wB Gq Ts (av 2)
    refine pk rfl dJ (dF b2 δ) δ δ λra ca Ja ka da ea ga la=>⟨_,_,rfl,rfl,?_⟩
    refine⟨_,_,rfl,rfl,⟨δ,δ,δ⟩,dZ,λl hl=>?_⟩
    refine pk rfl (da.new hl) (dF (wC ea b2) δ) δ δ λrc cc Jc kc dc ec gc lc=>?_
    have U6:=kc l _ (da.ne hl).symm aB
    have hv:∃t:Int,qA [V.int 1,V.int 2000,V.int (1+ra),V.int ((10:Int)^(9:Int).toNat)] rc=some (.int t)/\1<=t/\t<=1000000000:=by
     rcases w4 gc lc with rfl|rfl|rfl|rfl
     .exact⟨_,aV (j:=0) rfl,δ,δ⟩
     .exact⟨_,aV (j:=1) rfl,δ,δ⟩
     .exact⟨_,aV (j:=2) rfl,wH ga δ,wG la δ⟩
     .exact⟨_,aV (j:=3) rfl,δ,δ⟩
    obtain⟨co,Zj,Zk,Zl⟩:=hv
    have SM:eE k J Jc:=ka.trans ((eE.new hl _).trans kc)
    refine⟨l,_,rc,_,rfl,rfl,cQ.of U6,Zj,?_⟩
    refine hD5 _ _ ?_
    have hFc:=SM fo _ U3.symm (kJ fo _ U3.symm hF)
    have hDc:=SM D _ nD.symm hy
    have kHc:eE k H Jc:=(kH.trans kJ).trans SM
    have Zm:2*m<=ss.length:=aA m2 (fw SK.symm)
    have ml:m<=ss.length:=aA (Nat.le_mul_of_pos_left m δ) Zm
    have Zn:jt (ss.map V.str) none (some (m:Int))=(ss.take m).map V.str:=by
     unfold jt
     rw[HT.rR,HT.mx,List.drop_zero,aq,Nat.sub_zero,gw ml,Pb]
    have Zo:jt (ss.map V.str) (some (m:Int)) (some (2*(m:Int)))=((ss.drop m).take m).map V.str:=by
     unfold jt
     rw[show(2*(m:Int))=((2*m:Nat):Int) from rfl,HT.mx,HT.mx,aq,gw ml,gw Zm,show 2*m-m=m by rw[Nat.two_mul,Nat.add_sub_cancel],Pb,Pc]
    refine⟨_,rfl,_,rfl,_,rfl,fo,_,rfl,cQ.of hFc,λs1 Y4=>?_⟩
    rw[Zn]
    have u1:bg Jc (upd Jc s1 (.lst ((ss.take m).map V.str))):=aO Y4 _
    have w1:(upd Jc s1 (.lst ((ss.take m).map V.str))) s1=some (.lst ((ss.take m).map V.str)):=aB
    generalize upd Jc s1 (.lst ((ss.take m).map V.str))=G1 at*
    refine⟨s1,ss.take m,rfl,cQ.of w1,by rw[fF];exact bf (aA (lg _ _) m4) δ,λl1 JU DV Zp soA=>?_⟩
    have u2:bg G1 (upd G1 l1 (.lst (JU.map V.str))):=aO DV _
    have w2:(upd G1 l1 (.lst (JU.map V.str))) l1=some (.lst (JU.map V.str)):=aB
    try dsimp only
    generalize upd G1 l1 (.lst (JU.map V.str))=G2 at*
    refine⟨l1,_,rfl,.inl ⟨cQ.of w2,λt1 Fp=>?_⟩⟩
    have u3:bg G2 (upd G2 t1 (.tup (JU.map V.str))):=aO Fp _
    have w3:(upd G2 t1 (.tup (JU.map V.str))) t1=some (.tup (JU.map V.str)):=aB
    try dsimp only
    generalize upd G2 t1 (.tup (JU.map V.str))=G3 at*
    have v3:bg Jc G3:=(u1.trans u2).trans u3
    refine⟨_,rfl,_,rfl,_,rfl,_,rfl,_,_,rfl,rfl,.inl ⟨δ,δ⟩,_,rfl,fo,_,rfl,cQ.of (v3 _ _ hFc),λs2 HR=>?_⟩
    rw[Zo]
    have u4:bg G3 (upd G3 s2 (.lst (((ss.drop m).take m).map V.str))):=aO HR _
    have w4:(upd G3 s2 (.lst (((ss.drop m).take m).map V.str))) s2=some (.lst (((ss.drop m).take m).map V.str)):=aB
    generalize upd G3 s2 (.lst (((ss.drop m).take m).map V.str))=G4 at*
    refine⟨s2,(ss.drop m).take m,rfl,cQ.of w4,by rw[fF];exact bf (aA (lg _ _) m4) δ,λMH JV nS Zq soB=>?_⟩
    have u5:bg G4 (upd G4 MH (.lst (JV.map V.str))):=aO nS _
    have w5:(upd G4 MH (.lst (JV.map V.str))) MH=some (.lst (JV.map V.str)):=aB
    try dsimp only
    generalize upd G4 MH (.lst (JV.map V.str))=G5 at*
    refine⟨MH,_,rfl,.inl ⟨cQ.of w5,λt2 zP=>?_⟩⟩
    have u6:bg G5 (upd G5 t2 (.tup (JV.map V.str))):=aO zP _
    have w6:(upd G5 t2 (.tup (JV.map V.str))) t2=some (.tup (JV.map V.str)):=aB
    try dsimp only
    generalize upd G5 t2 (.tup (JV.map V.str))=G6 at*
    have v6:bg G3 G6:=(u4.trans u5).trans u6
    refine⟨dZ,λcr U9=>?_⟩
    have u7:bg G6 (upd G6 cr (.tup [.ref t1,.ref t2])):=aO U9 _
    have w7:(upd G6 cr (.tup [.ref t1,.ref t2])) cr=some (.tup [.ref t1,.ref t2]):=aB
    try dsimp only
    generalize upd G6 cr (.tup [.ref t1,.ref t2])=G7 at*
    have v7:bg Jc G7:=(v3.trans v6).trans u7
    refine⟨_,rfl,Dv rfl (cQ.of (v7 _ _ hDc)) (aV (j:=0) rfl) (Dv rfl (cQ.of (v7 _ _ hDc)) (aV (j:=1) rfl) ⟨_,rfl,dZ,λtt Zr=>?_⟩)⟩
    have u8:bg G7 (upd G7 tt (.tup [.int ta,.int tb,.int co])):=aO Zr _
    refine⟨cr,tt,_,_,rfl,rfl,bZ.of (u8 _ _ w7),bZ.of aB,ς,by show 2+3<=sizeLine;decide,(λz=>absurd z ς),λ_ rr QA=>?_⟩
    have v9:bg Jc (upd (upd G7 tt (.tup [.int ta,.int tb,.int co])) rr (.tup ([.ref t1,.ref t2]++ [.int ta,.int tb,.int co]))):=(v7.trans u8).trans (aO QA _)
    have v39:=(v6.trans u7).trans (u8.trans (aO QA (.tup ([.ref t1,.ref t2]++ [.int ta,.int tb,.int co]))))
    have v69:=u7.trans (u8.trans (aO QA (.tup ([.ref t1,.ref t2]++ [.int ta,.int tb,.int co]))))
    obtain⟨ko,hko⟩:=dc.some
    have kne:∀{G:Hp} {x:ai},bg Jc G->G x=none->x≠k:=λsG hx z=>by rw[z,sG _ _ hko] at hx;cases hx
    have lA:=Zp.length_eq
    have lB:=Zq.length_eq
    rw[fF] at lA lB
    rw[dP,gw (xP (by rw[<-Nat.two_mul];exact Zm))] at lB
    rw[gw ml] at lA
    obtain⟨uA,uB,no⟩:=JT (pm.nodup_iff.mpr ndn) Zp Zq soA soB
    have A1:1<=JU.length:=by rw[lA];exact m1
    have A4:JU.length<=4:=by rw[lA];exact m4
    have B1:1<=JV.length:=by rw[lB];exact m1
    have B4:JV.length<=4:=by rw[lB];exact m4
    exact q rr ⟨JU,JV,ta,tb,co⟩ cc _ (kHc.trans v9.keep) (dc.keep λo e=>v9 _ _ e) (wI Gq ea ec xF l12) ⟨t1,t2,aB,v39 _ _ w3,v69 _ _ w6⟩
     ⟨⟨A1,A4,λn hn=>oF n (ip (Zp.mem_iff.mp hn))⟩,⟨B1,B4,λn hn=>oF n (xQ (ip (Zq.mem_iff.mp hn)))⟩,U7.1,U7.2,U8.1,U8.2,Zk,Zl⟩ ⟨uA,uB,no,lA.trans lB.symm⟩
end
end K13
namespace L2
open PySem PySem.Spec PyProof.Rows PySem.W
section
variable {prog:aJ}{w:bB}{A:bH}{E:ag->ak->Prop}{h:Heap}{g:Array GenState}{d:Drawn}{t:Nat}{os:OsState}
variable {nm q:Str}{C N:ai}{bs bm QB:List ag}{hdct:Bool}{sn:List Str}{sub:List ag}{ab:Bool}{col:Option Bool}{dd:Option ai}{k0 k1 k2 k3 k5:Option ag}{B newId xa:String}
def uV (F:ExcBaseFacts B newId xa QB) (T:OwnTail h QB bm) {rest:List ag}
  (hC:h.get? C=some (excClassObj nm q C N bs bm hdct sn sub ab col dd k0 k1 k2 k3 k5 newId)) (hn:h.Ns N mN) (hi:mN "__init__"=some (.ref fI))
  (U_:h.get? fI=some oI) (Va:oI.cls=.type "function")
  (hq:∀h' e,Heap.MadeExcOf h h' e (.ref C) rest->
   wpAny (model prog w) A (call (.ref fI) (.ref e::rest)) (λr s'=>r=.none/\Q (.done (.ret (.ref e))) s') E ⟨h',g,d,t,os⟩) (Fq:rest.length<=sizeLine):
  wpAny (model prog w) A (Builtin.«type.__call__» ⟨.ref C::rest,[]⟩) Q E ⟨h,g,d,t,os⟩:=by
 repeat (first|with_reducible refine nY hC ?_|with_reducible refine wpAny_madeBy_exc hC ?_|wp_step)
 refine codeAny_call_builtin_code (Ib _ F.quiet) (wpAny_check_new_subT F T hC ?_)
 refine codeAny_exc_new_subT F T hC ?_ Fq
 show wpAny _ _ _ _ _ _
 have Og:=af {cls:=.ref C,data:=.fields #[.ref h.objs.size,.none,.none,.none,.bool false,.none]}
  (af {cls:=.type "tuple",data:=.seq rest.toArray} hC)
 have QC:=af {cls:=.ref C,data:=.fields #[.ref h.objs.size,.none,.none,.none,.bool false,.none]}
  (af {cls:=.type "tuple",data:=.seq rest.toArray} U_)
 have Vb:((h.push {cls:=.type "tuple",data:=.seq rest.toArray}).push {cls:=.ref C,data:=.fields #[.ref h.objs.size,.none,.none,.none,.bool false,.none]}).Ns N mN:=
  let⟨o,es,ep,e,r⟩:=hn;⟨o,es,ep,af _ (af _ e),r⟩
 have Vc:((h.push {cls:=.type "tuple",data:=.seq rest.toArray}).push
   {cls:=.ref C,data:=.fields #[.ref h.objs.size,.none,.none,.none,.bool false,.none]}).get? (h.objs.size+1)=some
   {cls:=.ref C,data:=.fields #[.ref h.objs.size,.none,.none,.none,.bool false,.none]}:=by heap_get
 have hcC:(Value.ref C::bm).contains (.ref C)=true:=ς
 have Zs:=T.keeps (h':=(h.push {cls:=.type "tuple",data:=.seq rest.toArray}).push {cls:=.ref C,data:=.fields #[.ref h.objs.size,.none,.none,.none,.bool false,.none]})
  λb o e=>af _ (af _ e)
 unfold isInstance
 repeat (first|with_reducible refine nY Vc ?_|(with_reducible refine wpAny_isSubtype_exc Og ?_;rw[hcC])|wp_step)
 show wpAny _ _ (typeLookup (.ref C) _) _ _ _
 refine wpAny_typeLookup_tail Og Vb Zs F.mroIs F.init.lookup ?_
 rw[hi]
 refine cm (aa ?_)
 unfold bindSpecial
 refine aa (rF (T:="function") ⟨_,QC,Va⟩ ?_)
 rw[aT δ]
 refine aj (aa (bF (hq _ (h.objs.size+1) ⟨λb o hb=>af _ (af _ hb),B7 (dM _),h.objs.size,Vc,B7 (av _),?_⟩) (λr s' hr=>?_) λ_ _ x=>x))
 .exact af _ (Heap.get?_push_at rfl rfl)
 .obtain⟨rfl,hQ⟩:=hr
  wp_walk
  exact hQ
def DY (F:ExcBaseFacts B newId xa QB) (T:OwnTail h QB bm) {rest:List ag}
  (hC:h.get? C=some (excClassObj nm q C N bs bm hdct sn sub ab col dd k0 k1 k2 k3 k5 newId)) (hn:h.Ns N mN) (hi:mN "__init__"=some (.ref fI))
  (U_:h.get? fI=some oI) (Va:oI.cls=.type "function")
  (hq:∀h' e,Heap.MadeExcOf h h' e (.ref C) rest->
   wpAny (model prog w) (A.under (.builtin "type.__call__" ⟨.ref C::rest,[]⟩)) (call (.ref fI) (.ref e::rest)) (λr s'=>r=.none/\Q (.ref e) s') E ⟨h',g,d,t,os⟩) (Fq:rest.length<=sizeLine):
  wpAny (model prog w) A (call (.ref C) rest) Q E ⟨h,g,d,t,os⟩:=by
 have f1:=tc_lookup
 have f2:=tc_bind (.ref C)
 have hT:(⟨h,g,d,t,os⟩:ak).TypeIs (.ref C) "type":=⟨_,hC,rfl⟩
 refine mH (codeAny_of_tree ?_)
 show wpAny _ _ (callAny (.ref C) _) _ _ _
 repeat (any_goals (first|assumption|with_reducible refine nY hC ?_|wp_step))
 refine⟨rfl,?_⟩
 refine codeAny_call_builtin_at (Ib _ (by decide+kernel)) entry_typeCall (wpAny_check_type_call_sub hC (uV F T hC hn hi U_ Va (λh' e hm=>?_) Fq))
 exact hq h' e hm
end
section
variable {M:Model}{A:bH}{E:ag->ak->Prop}{env:Env}
variable {nm q:Str}{C N:ai}{bs bm:List ag}{hdct:Bool}{sn:List Str}{sub:List ag}{ab:Bool}{col:Option Bool}{dd:Option ai}{k0 k1 k2 k3 k5:Option ag}{newId:String}
def yb (AO:bm.contains (.type "BaseException")=true) (hh:A.handled=none)
  (h:wpAny M A x (λv fq=>∃e oe vs,v=.ref e/\fq.heap.get? C=some (excClassObj nm q C N bs bm hdct sn sub ab col dd k0 k1 k2 k3 k5 newId)/\
   fq.heap.get? e=some oe/\oe.cls=.ref C/\oe.data=.fields vs/\vs[1]?=some .none/\E (.ref e) fq) E s):
  wpAny M A (raiseStmt env (some x) none) Q E s:=by
 have hcB:(Value.ref C::bm).contains (.type "BaseException")=true:=by rw[List.contains_cons,AO,Bool.or_true]
 unfold raiseStmt
 refine aa (bF h (λv fq Gw=>?_) λ_ _ x=>x)
 obtain⟨e,⟨c0,d0,da0,sl0⟩,vs,rfl,hC,he,IS,Xf,hv1,hE⟩:=Gw
 dsimp only at IS Xf
 subst IS Xf
 obtain⟨hp,g,d,tk,os⟩:=fq
 repeat (first|with_reducible refine nY he ?_|with_reducible refine nY hC ?_|(with_reducible refine wpAny_isSubtype_exc hC ?_;rw[hcB])|wp_step)
 rw[hv1]
 repeat wp_step
 exact wpAny_raiseNew_none hh hE
end
def Zt (h B:Heap) (e:ai) (cls:ag) (eA:Option ai) (fl:ag):Prop:=
 ∃oe vs T oT ts,h.get? e=some oe/\oe.cls=cls/\oe.dict=eA/\oe.data=.fields vs/\vs[1]?=some (.ref T)/\vs[2]?=some .none/\B.get? T=none/\T≠e/\h.get? T=some oT/\oT.data=.fields ts/\ts[3]?=some fl
structure xb (B:Heap) (l:List Env) (e:ai) (cls:ag) (eA:Option ai) (fl:ag) (h:Heap):Prop where
 st:B.StaysIn h
 no:B.get? e=none
 fr:h.FunFrames B l
 tr:Zt h B e cls eA fl
section
variable {M:Model}{A:bH}{E:ag->ak->Prop}{s:ak}{B:Heap}{env:Env}{outer:List Env}{L e:ai}{cls fl:ag}{eA:Option ai}{Q:Unit->ak->Prop}
def Fs (Bj:A.frames=some (env::outer)) (hl:s.heap.FunFrames B (env::outer)) (hf:env.frame=some L) (he:s.heap.get? e=some oe) (Vd:B.StaysIn s.heap) (SN:B.get? e=none) (PD:oe.dict=eA) (hd:oe.data=.fields vs) (h2:vs[2]?=some .none)
  (q:∀h',xb B (env::outer) e oe.cls eA (rawInt L) h'->s.heap.UpToSlots h'->Q () {s with heap:=h'}):
  wpAny M A (do let a<-frameOf env;let pl<-entryPlaceOf L had;let b<-EntryCells.newEntry head a .none (rawInt L) .none pl;setField (.ref e) 1 b) Q E s:=by
 have sz:2<vs.size:=(jV.mp h2).1
 have Ve:e∉(env::outer).filterMap (·.frame):=by
  intro z
  obtain⟨_,u,hu,nf⟩:=hl.mem z
  rw[he] at hu
  cases hu
  exact nf vs hd
 refine aa (wpAny_frameOf_fun Bj hl hf λg so=>aa (wpAny_entryPlaceOf λpl isp=>?_))
 unfold EntryCells.newEntry newFields
 refine aa (bJ ?_ (isp.sizeOk5 _ _ _ _ _))
 generalize hTB:({cls:=.type "traceback",dict:=none,data:=.fields ([head,.ref L,.none,rawInt L,.none]++(if pl.isEmpty then List.replicate 6 Value.none else pl)).toArray}:Obj)=tb
 have dTB:tb.data=.fields ([head,.ref L,.none,rawInt L,.none]++(if pl.isEmpty then List.replicate 6 Value.none else pl)).toArray:=by rw[<-hTB]
 have fTB:tb.isFreed=false:=iu dTB
 have ge:g.get? e=some oe:=by rw[so.2.1 e Ve];exact he
 have pe:(g.push tb).get? e=some oe:=af tb ge
 have QD:g.objs.size≠e:=λz=>by
  have:=aC ge
  rw[<-z] at this
  exact f_ _ this
 refine jm pe hd ω (q _ ?_ ?_)
 .have d1:=ij hd (·.setIfInBounds 1 (Value.ref g.objs.size))
  have gB:B.StaysIn g:=λb o hb=>by
   rw[so.2.1 b λz=>by rw[(hl.mem z).1] at hb;cases hb]
   exact Vd b o hb
  have keep:∀b o,b≠e->g.get? b=some o->((g.push tb).update e (Obj.mapFields (·.setIfInBounds 1 (Value.ref g.objs.size)))).get? b=some o:=λb o ne hb=>by
   rw[ba _ _ (cG ne)]
   exact af tb hb
  refine⟨λb o hb=>keep b o (λz=>by rw[z,SN] at hb;cases hb) (gB b o hb),SN,hl.of_keeps λb o hb nf=>?_,_,_,g.objs.size,tb,_,cY _ pe (iu d1),vc _ _,?_,d1,?_,?_,gB.fresh,QD,?_,dTB,?_⟩
  rotate_left
  .rw[<-PD];obtain⟨_,_,dt,_⟩:=oe;cases dt<;>rfl
  rotate_right
  .obtain⟨sl,hs⟩:=so.2.2 b o hb
   exact⟨_,keep b _ (λz=>by rw[z,he] at hb;cases hb;exact nf vs hd) hs,rfl⟩
  .rw[Array.getElem?_setIfInBounds_self]
   simp only[show 1<vs.size by omega,nR]
  .rw[Array.getElem?_setIfInBounds_ne δ];exact h2
  .rw[ba _ _ (cG QD)];exact az g fTB
  .first|(simp;done)|(rcases isp with rfl|⟨_,_,_,_,_,_,_,rfl⟩<;>simp)
 .intro b o hb nf
  obtain⟨sl,hs⟩:=so.2.2 b o hb
  refine⟨sl,?_⟩
  have ne:b≠e:=λz=>by rw[z,he] at hb;cases hb;exact nf vs hd
  rw[ba _ _ (cG ne)]
  exact af tb hs
def DZ {oe:Obj}{vs:Array ag}(Bj:A.frames=some (env::outer)) (hf:env.frame=some L) (Vd:B.StaysIn s.heap) (hl:s.heap.FunFrames B (env::outer)) (he:s.heap.get? e=some oe) (hc:oe.cls=cls) (Oh:oe.dict=eA) (hd:oe.data=.fields vs) (h1:vs[1]?=some .none) (h2:vs[2]?=some .none) (SN:B.get? e=none)
  (q:∀h',xb B (env::outer) e cls eA (rawInt L) h'->s.heap.UpToSlots h'->Q () {s with heap:=h'}):wpAny M A (noteFrame (.ref e) env) Q E s:=by
 subst hc
 unfold noteFrame
 simp only[hf]
 refine aa (bR (x:=Value.none) he hd h1 ?_)
 rw[aP δ]
 exact Fs Bj hl hf he Vd SN Oh hd h2 q
def xc (Bj:A.frames=some (env::outer)) (hf:env.frame=some L) (F:xb B (env::outer) e cls eA .none s.heap)
  (q:∀h',xb B (env::outer) e cls eA (rawInt L) h'->s.heap.UpToSlots h'->Q () {s with heap:=h'}):wpAny M A (noteFrame (.ref e) env) Q E s:=by
 obtain⟨st,no,fr,oe,vs,T,oT,ts,he,hc,PD,hd,v1,v2,tB,QD,hT,QE,t3⟩:=F
 subst hc
 unfold noteFrame
 simp only[hf]
 refine aa (bR he hd v1 ?_)
 rw[aT ς]
 refine aa (bR hT QE t3 ?_)
 rw[aP (by simp[rawInt])]
 refine aa (jm hT QE (jV.mp t3).1 ?_)
 generalize hg:s.heap.update T (Obj.mapFields (·.setIfInBounds 3 Value.none))=g
 have ML:∀b,b≠T->g.get? b=s.heap.get? b:=λb nb=>by rw[<-hg];exact ba _ _ (cG nb)
 have JW:∀b o,s.heap.get? b=some o->(∀ws,o.data≠.fields ws)->b≠T:=λb o hb nf z=>by
  rw[z,hT] at hb
  cases hb
  exact nf ts QE
 have ups:s.heap.UpToSlots g:=λb o hb nf=>⟨o.slots,by rw[ML b (JW b o hb nf)];exact hb⟩
 refine Fs (s:={s with heap:=g}) Bj (fr.of_keeps λb o hb nf=>⟨o,by rw[ML b (JW b o hb nf)];exact hb,rfl⟩) hf (by rw[ML e QD.symm];exact he) (λb o hb=>?_) no PD hd v2 λh' F' u=>q h' F' (ups.trans u)
 rw[ML b λz=>by rw[z,tB] at hb;cases hb]
 exact st b o hb
def ug {l:List Env}(F:xb B l e cls eA fl s.heap) (q:∀h',xb B l e cls eA .none h'->s.heap.UpToSlots h'->Q () {s with heap:=h'}):wpAny M A (setFlight (.ref e) none) Q E s:=by
 obtain⟨st,no,fr,oe,vs,T,oT,ts,he,hc,PD,hd,v1,v2,tB,QD,hT,QE,t3⟩:=F
 have s3:3<ts.size:=(jV.mp t3).1
 unfold setFlight
 refine aa (bR he hd v1 ?_)
 rw[aT ς]
 refine jm hT QE s3 ?_
 generalize hg:s.heap.update T (Obj.mapFields (·.setIfInBounds 3 ((none:Option ai).elim Value.none λf=>rawInt f)))=g
 have ML:∀b,b≠T->g.get? b=s.heap.get? b:=λb nb=>by rw[<-hg];exact ba _ _ (cG nb)
 have JW:∀b o,s.heap.get? b=some o->(∀ws,o.data≠.fields ws)->b≠T:=λb o hb nf z=>by
  rw[z,hT] at hb
  cases hb
  exact nf ts QE
 have d3:=ij QE (·.setIfInBounds 3 ((none:Option ai).elim Value.none λf=>rawInt f))
 refine q g ⟨λb o hb=>?_,no,fr.of_keeps λb o hb nf=>⟨o,by rw[ML b (JW b o hb nf)];exact hb,rfl⟩,oe,vs,T,_,_,by rw[ML e QD.symm];exact he,hc,PD,hd,v1,v2,tB,QD,by rw[<-hg];exact cY _ hT (iu d3),d3,?_⟩ (λb o hb nf=>⟨o.slots,by rw[ML b (JW b o hb nf)];exact hb⟩)
 .rw[ML b λz=>by rw[z,tB] at hb;cases hb]
  exact st b o hb
 .simp[s3]
def Hd (Bj:A.frames=some (env::outer)) (hf:env.frame=some L) (F:xb B (env::outer) e cls eA .none s.heap)
  (q:∀h',xb B outer e cls eA .none h'->s.heap.UpToSlots h'->Q () {s with heap:=h'}):wpAny M A (leaving env (.ref e)) Q E s:=by
 unfold leaving
 refine aa (xc Bj hf F λg G u=>ug (s:={s with heap:=g}) G λh' G' u'=>q h' ⟨G'.st,G'.no,G'.fr.2.2,G'.tr⟩ (u.trans u'))
def Bk (Bj:A.frames=some (env::outer)) (hf:env.frame=some L) (Vd:B.StaysIn s.heap) (hl:s.heap.FunFrames B (env::outer)) (he:s.heap.get? e=some oe) (hc:oe.cls=cls) (Oh:oe.dict=eA) (hd:oe.data=.fields vs) (h1:vs[1]?=some .none) (h2:vs[2]?=some .none) (SN:B.get? e=none)
  (q:∀h',xb B outer e cls eA .none h'->s.heap.UpToSlots h'->Q () {s with heap:=h'}):wpAny M A (leaving env (.ref e)) Q E s:=by
 unfold leaving
 refine aa (DZ Bj hf Vd hl he hc Oh hd h1 h2 SN λg G u=>ug (s:={s with heap:=g}) G λh' G' u'=>q h' ⟨G'.st,G'.no,G'.fr.2.2,G'.tr⟩ (u.trans u'))
end
def Vf (l:List Env) (H:Hp) (a:ai) (cls:ag) (eA:Option ai) (h hs:Heap) (Hs:Hp):Prop:=
 ∃B:Heap,xb B l a cls eA .none h/\(∀b u,H b=some u->∃o,B.get? b=some o)/\
  (∀b o,hs.get? b=some o->Hs b=none->b∉oX l->B.get? b=some o)/\∀b o,hs.get? b=some o->b∉oX l->∃o',B.get? b=some o'
def rB (P:aJ) (w:bB):HS:=λouter H s E e s'=>∃a cls eA H',e=.ref a/\s'.os=s.os/\AllBare s'.gens/\Un (oX outer) [] H H' s.heap s'.heap/\qB P w H' s'.heap/\E cls eA H'/\Vf outer H' a cls eA s'.heap s.heap H
section
variable {X:Cx}{ac:List (ai×Obj)}{Z:St}{H:Hp}{s:ak}
structure JX (X:Cx) (ac:List (ai×Obj)) (H:Hp) (a:ai) (cls:ag) (eA:Option ai) (h:Heap):Prop where
 ex:∃B:Heap,xb B X.stack a cls eA .none h/\(∀b u,H b=some u->∃o,B.get? b=some o)/\(∀p∈X.pn++ac,B.get? p.1=some p.2)/\
  (∀b o,X.gW.heap.get? b=some o->X.Cm b=none->b∉X.fs->b∉X.ex->B.get? b=some o)/\∀b o,X.gW.heap.get? b=some o->b∉X.fs->b∉X.ex->∃o',B.get? b=some o'
def Inv.JY {H':Hp}{a:ai}{cls:ag}{eA:Option ai}{s':ak}(I:Inv X ac Z H s) (F:Vf X.stack H' a cls eA s'.heap s.heap H):JX X ac H' a cls eA s'.heap:=by
 obtain⟨B,Bl,uO,o1,o2⟩:=F
 refine⟨B,Bl,uO,λp hp=>?_,λb o q n hb hx=>?_,λb o q hb hx=>?_⟩
 .obtain⟨p1,p2,p3,p4,_⟩:=I.pin p hp
  exact o1 _ _ p1 p2 λz=>(aD.mp (I.tO _ z)).elim p3 p4
 .exact o1 b o (I.base.keep b o q n hb hx) (I.base.free b o q n hx) (I.yH q hb)
 .obtain⟨o',e⟩:=I.base.there b o q hx
  exact o2 b o' e (I.yH q hb)
end
def xf (X:Cx) (W:ag->Option ai->St->Hp->Prop):Prop:=
 ∀(ac:List (ai×Obj)) (Z:St) (H:Hp) (s:ak) (e:ag) (s':ak),Inv X ac Z H s->rB X.prog X.w X.stack H s (λcls eA H'=>W cls eA Z H') e s'->X.xe e s'
structure Mad (h:Heap) (e:ai) (cls:ag) (eA:Option ai):Prop where
 ex:∃oe vs,h.get? e=some oe/\oe.cls=cls/\oe.dict=eA/\oe.data=.fields vs/\vs[1]?=some .none/\vs[2]?=some .none
def D_ (X:Cx) (W:ag->Option ai->St->Hp->Prop):Prop:=
 ∀(ac:List (ai×Obj)) (Z:St) (H:Hp) (s:ak) (e:ai) (cls:ag) (eA:Option ai),Inv X ac Z H s->Mad s.heap e cls eA->H e=none->X.gW.heap.get? e=none->e≠X.env.locals->(∀x c,X.env.cells.lookup x=some c->c≠e)->(∀p∈X.pn++ac,p.1≠e)->W cls eA Z H->X.xe (.ref e) s
section
variable {P:aJ}{w:bB}{K:Φ}{mg:Str->Option ag}{base:Heap}{N:List Str}{qual:Str}{scope:Scope}{f:ai}{cd:ag}{A:bH}{outer:List Env}{s:ak}{H:Hp}{E:XK}
def QF:xf (eQ (rB P w) P w K mg base N qual scope f cd A outer s H E) (λcls eA _ H'=>E cls eA H'):=by
 rintro ac Z H1 s1 e s' I ⟨a,cls,eA,H',rfl,os,bare,un,eN,q,F⟩
 have J:=I.Ii os un eN bare (λb z=>absurd z ς)
 obtain⟨B,Bl,uO,hp,o1,o2⟩:=(I.JY F).ex
 show wpAny _ _ (leaving _ (.ref a)) _ _ s'
 refine Hd I.ok.frames rfl Bl λh' x1 x2=>?_
 have J':=J.uv Bl.st x1.st x2 uO hp o1 o2
 exact⟨a,cls,eA,H',rfl,J'.os,J'.bare,J'.base,J'.eN,q,B,x1,uO,λb o q n hb=>o1 b o q n hb (by intro z;cases z),λb o q hb=>o2 b o q hb (by intro z;cases z)⟩
end
section
variable {P:aJ}{w:bB}{K:Φ}{mg:Str->Option ag}{base:Heap}{N:List Str}{qual:Str}{scope:Scope}{f:ai}{cd:ag}{A:bH}{outer:List Env}{s:ak}{H:Hp}{E:XK}
def jQ:D_ (eQ (rB P w) P w K mg base N qual scope f cd A outer s H E) (λcls eA _ H'=>E cls eA H'):=by
 intro ac Z H1 s1 e cls eA I hx n0 ns nl nc np q
 have Y_:∀env∈(eQ (rB P w) P w K mg base N qual scope f cd A outer s H E).stack,∀a,env.frame=some a->a∈e::oX (eQ (rB P w) P w K mg base N qual scope f cd A outer s H E).stack:=λenv he a hf=>cB _ (AA.mpr ⟨env,he,hf⟩)
 obtain⟨oe,vs,he,hc,Oh,hd,v1,v2⟩:=hx.ex
 show wpAny _ _ (leaving _ (.ref e)) _ _ _
 have ns:s.heap.get? e=none:=ns
 refine Bk (B:=hideAll s1.heap (e::oX (eQ (rB P w) P w K mg base N qual scope f cd A outer s H E).stack)) I.ok.frames rfl (λb o q=>of_hideAll _ q) (funFrames_hide I.stack Y_) he hc Oh hd v1 v2 (hideAll_none _ (cy ..)) λh' x1 x4=>?_
 have kB:(hideAll s1.heap (e::oX (eQ (rB P w) P w K mg base N qual scope f cd A outer s H E).stack)).StaysIn s1.heap:=λb o q=>of_hideAll _ q
 have Xn:∀b o,s1.heap.get? b=some o->b≠e->b∉oX (eQ (rB P w) P w K mg base N qual scope f cd A outer s H E).stack->(hideAll s1.heap (e::oX (eQ (rB P w) P w K mg base N qual scope f cd A outer s H E).stack)).get? b=some o:=λb o g n1 n2=>hideAll_get _ g λz=>(aD.mp z).elim n1 n2
 have uO:∀b u,H1 b=some u->∃o,(hideAll s1.heap (e::oX (eQ (rB P w) P w K mg base N qual scope f cd A outer s H E).stack)).get? b=some o:=λb u eb=>by
  obtain⟨o,ho⟩:=mE (I.eN b u eb)
  exact⟨o,Xn b o ho (λz=>by rw[z,n0] at eb;cases eb) λz=>by rw[I.zr b z] at eb;cases eb⟩
 have hp:∀p∈[]++ac,(hideAll s1.heap (e::oX (eQ (rB P w) P w K mg base N qual scope f cd A outer s H E).stack)).get? p.1=some p.2:=λp hq=>by
  obtain⟨p1,p2,p3,p4,_⟩:=I.pin p hq
  exact Xn _ _ p1 (np p hq) λz=>(aD.mp (I.tO _ z)).elim p3 p4
 have o1:∀b o,s.heap.get? b=some o->H b=none->b∉oX outer->b∉([]:List ai)->(hideAll s1.heap (e::oX (eQ (rB P w) P w K mg base N qual scope f cd A outer s H E).stack)).get? b=some o:=λb o q n hb hx=>Xn _ _ (I.base.keep b o q n hb hx) (λz=>by rw[z,ns] at q;cases q) (I.yH q hb)
 have o2:∀b o,s.heap.get? b=some o->b∉oX outer->b∉([]:List ai)->∃o',(hideAll s1.heap (e::oX (eQ (rB P w) P w K mg base N qual scope f cd A outer s H E).stack)).get? b=some o':=λb o q hb hx=>by
  obtain⟨o',eo⟩:=I.base.there b o q hx
  exact⟨o',Xn _ _ eo (λz=>by rw[z,ns] at q;cases q) (I.yH q hb)⟩
 have J':=I.uv kB x1.st x4 uO hp o1 o2
 exact⟨e,cls,eA,H1,rfl,J'.os,J'.bare,J'.base,J'.eN,q,_,x1,uO,λb o q n hb=>o1 b o q n hb (by intro z;cases z),λb o q hb=>o2 b o q hb (by intro z;cases z)⟩
end
section
variable {X:Cx}{W:ag->Option ai->St->Hp->Prop}
def zQ {k:Nat}{f:ai}{fd:FuncData}{ps:List Str}{sp:Sp}{ds:List ag}{mR:List V}{ac:List (ai×Obj)}{Z:St}{H:Hp}{s:ak}{Q:VK}{us:List ag}{vs:List V}(F:dR X.prog X.w X.K X.mg X.base (rB X.prog X.w) k f fd ps sp) (hr:eB k X.A) (hb:Binds X.K fd ps ds) (hd:cK mR ds) (hL:xf X W)
  (I:Inv X ac Z H s) (r:cK vs us) (h:sp (vs++mR) H Q (λcls eA H'=>W cls eA Z H')):wpAny (model X.prog X.w) X.A (call (.ref f) us) (EP X ac Z Q) X.xe s:=by
 have r2:cK (vs++mR) (us++ds):=r.append hd
 have hl:(us++ds).length=ps.length:=by rw[<-r2.length];exact F.len _ _ _ _ h
 refine mH (lE (F.run X.A X.stack s H ⟨us,[]⟩ (us++ds) (vs++mR) Q _ hr I.Gn (hb s us I.lK hl) r2 h) λr s' hq=>?_)
 cases r with
 |error e=>exact hL ac Z H s e s' I hq
 |ok fl=>
  cases fl with
  |ret u=>exact I.after hq
  |next=>exact False.elim hq
  |brk=>exact False.elim hq
  |cont=>exact False.elim hq
def Ea (sp:Sp) (mR:List V) (W:ag->Option ai->St->Hp->Prop) (t:TA):TE:=λZ H Q=>t Z H λvs H1=>sp (vs++mR) H1 Q λcls eA H'=>W cls eA Z H'
def JZ (F:dR X.prog X.w X.K X.mg X.base (rB X.prog X.w) k f fd ps sp) (hr:eB k X.A) (hg:Gl X x) (hm:X.mg x=some (.ref f)) (hk:PySem.W.keepIn X.K (.ref f)=true) (hb:Binds X.K fd ps ds) (hd:cK mR ds) (hL:xf X W)
  (ha:PA X (e::es) t) (qM:(x==("__debug__":Str))=false:=by decide) (he:starEach (e::es) X.env=(false,eval e X.env)::starEach es X.env:=by rfl) (j4:(backTo pos (starEach es X.env)).any (·.1)=false:=by rfl):
  PE X (.Call (.Name x p) (e::es) [] pos) (Ea sp mR W t):=by
 intro ac s Z H Q I h
 refine gq (jG I hg hm ?_ qM)
 refine jc (h₀:=X.base) I.ok.mod.lT hk (fE (ha pos ac s Z H _ I h) λus s1 c_=>?_) he j4
 obtain⟨vs,H1,I1,r,q⟩:=c_
 refine⟨I1.lK,?_⟩
 exact zQ F hr hb hd hL I1 r q
end
def jg.MM {P:aJ}{w:bB}{K:Φ}{mg:Str->Option ag}{base:Heap}{x qual:Str}{st:Stmt}{f:ai}{fd:FuncData}{N ps:List Str}{k:Nat}{sp:Sp}(F:jg K x qual st f fd) (S:bY N ps (ar st)) (len:∀vs H Q E,sp vs H Q E->vs.length=ps.length)
  (vS:∀(cdv:ag) (A:bH) (outer:List Env) (s:ak) (H:Hp) (vs:List V) (Q:VK) (E:XK),eB k (A.deeper (envOfC qual (ar st) s.heap.objs.size f cdv))->sp vs H Q E->
   ∃t,xU (eQ (rB P w) P w K mg base N qual (ar st) f cdv A outer s H E) (fL st) t/\t {nx:=λ_ H'=>Q .eU H',rt:=Q} (start N vs) H):dR P w K mg base (rB P w) (k+1) f fd ps sp:=by
 obtain⟨oc,od,kV,doc,pm,an,cdv,ct,vR,rfl,lk,Co⟩:=F.ex
 exact NY lk Co S len λA outer s H vs Q E hr Gp=>vS cdv A outer s H vs Q E hr Gp
abbrev Cx.zR (X:Cx) (ac:List (ai×Obj)) (W:ag->Option ai->St->Hp->Prop):Cx:=
 {X with pn:=X.pn++ac,xe:=λe s'=>∃a cls eA Z H',e=.ref a/\Inv X ac Z H' s'/\JX X ac H' a cls eA s'.heap/\W cls eA Z H'}
def uh (a:ai) (cls:ag) (eA:Option ai):HO:=.ext λh=>∃oe vs,h.get? a=some oe/\oe.cls=cls/\oe.dict=eA/\oe.data=.fields vs/\vs[2]?=some .none
section
variable {X:Cx}{ac:List (ai×Obj)}{Z:St}{H:Hp}{s:ak}{W:ag->Option ai->St->Hp->Prop}
def Inv.zR (I:Inv X ac Z H s) (W:ag->Option ai->St->Hp->Prop):Inv (X.zR ac W) [] Z H s:=
 ⟨⟨I.ok.mod,I.ok.kind,I.ok.glob,I.ok.blt,I.ok.above,I.ok.inj,I.ok.has,I.ok.La,I.ok.hd,I.ok.frames,I.ok.LF,I.ok.Gc,I.ok.bs,I.ok.Cn,I.ok.xS,I.ok.uP,I.ok.nF,I.ok.EH⟩,I.os,I.bare,I.base,I.loc,I.cell,I.free,I.jv,λp hp=>I.pin p (by simpa using hp),I.eN,I.len⟩
def Inv.pU (I:Inv (X.zR ac W) EJ Z H s):Inv X ac Z H s:=
 ⟨⟨I.ok.mod,I.ok.kind,I.ok.glob,I.ok.blt,I.ok.above,I.ok.inj,I.ok.has,I.ok.La,I.ok.hd,I.ok.frames,I.ok.LF,I.ok.Gc,I.ok.bs,I.ok.Cn,I.ok.xS,I.ok.uP,I.ok.nF,I.ok.EH⟩,I.os,I.bare,I.base,I.loc,I.cell,I.free,I.jv,λp hp=>I.pin p (cf _ hp),I.eN,I.len⟩
def SP.pU (h:SP (X.zR ac W) EJ D f s'):SP X ac D f s':=by
 cases f with
 |next=>obtain⟨bX,H',I,q⟩:=h;exact⟨bX,H',I.pU,q⟩
 |brk=>obtain⟨bX,H',I,q⟩:=h;exact⟨bX,H',I.pU,q⟩
 |cont=>obtain⟨bX,H',I,q⟩:=h;exact⟨bX,H',I.pU,q⟩
 |ret u=>obtain⟨v,bX,H',I,r,q⟩:=h;exact⟨v,bX,H',I.pU,r,q⟩
def pV:xf (X.zR ac W) W:=by
 rintro EJ Z H s e s' I ⟨a,cls,eA,H',rfl,os,bare,un,eN,q,F⟩
 have J:=I.Ii os un eN bare (λb z=>absurd z ς)
 obtain⟨B,Bl,uO,hp,o1,o2⟩:=(I.JY F).ex
 exact⟨a,cls,eA,Z,H',rfl,J.pU,⟨B,Bl,uO,λp h=>hp p (cf _ h),o1,o2⟩,q⟩
end
def MN (K:Φ) (C:ai) (i:Nat) (tb:(ag->Option ai->St->Hp->Prop)->TS) (ts:ai->TS):TS:=λD Z H=>
 tb (λcls eA bX H'=>exmOne K cls (.ref C)=some true/\∀a,H' a=none->ts a {nx:=λiI H2=>D.nx (iI.set i none) H2,rt:=D.rt,bk:=λiI H2=>D.bk (iI.set i none) H2,ct:=λiI H2=>D.ct (iI.set i none) H2} (bX.set i (some (.ref a))) (upd H' a (uh a cls eA))) D Z H
def He (J0:X.stack=X.env::X.outer) (Bj:X.env.frame=some X.env.locals) (hex:X.ex=[]) (hN:X.N.Nodup) (hi:X.N[i]?=some n) (hk:X.env.scope.names.lookup n=some .local)
  (hg:Gl X x) (hm:X.mg x=some (.ref C)) (hb:∀ac W,xU (X.zR ac W) body (tb W)) (hs:∀a,xU (X.Ax a) (b0::J_) (ts a)) (qM:(x==("__debug__":Str))=false:=by decide):
  PS X (.Try body [.ExceptHandler (some (.Name x xp)) (some n) (b0::J_) hp] [] [] pos) (MN X.K C i tb ts):=by
 intro ac s Z H D I h
 refine wpAny_Try_except ?_
 refine bF (hb ac _ [] s Z H D (I.zR _) h) (λf s1 q=>?_) λe s1 q=>?_
 .have q':=q.pU
  cases f with
  |next=>exact aj q'
  |brk=>exact q'
  |cont=>exact q'
  |ret u=>exact q'
 .obtain⟨a,cls,eA,bX,H',rfl,I1,⟨B,Bl,uO,Oi,o1,o2⟩,w1,w2⟩:=q
  have Zu:X.A.frames=some (X.env::X.outer):=by rw[<-J0];exact I.ok.frames
  rw[J0] at Bl
  refine xc Zu Bj Bl λh1 G1 u1=>?_
  have I2:=I1.uv Bl.st G1.st u1 uO Oi o1 o2
  refine ug (s:={s1 with heap:=h1}) G1 λh2 G2 u2=>?_
  have I3:=I2.uv G1.st G2.st u2 uO Oi o1 o2
  refine wpAny_handleBy_cons (codeAny_handlers_test ?_) (λz=>nomatch z)
  refine jG (X:=X.Ax a) (I3.Ax a) hg hm ?_ qM
  obtain⟨oe,vs,T,oT,ts',he,hc,r⟩:=G2.tr
  have lt:Looks (model X.prog X.w) h2 (typeOf (.ref a)) cls:=by
   rw[<-hc]
   exact(mJ he).andThen .now
  refine(exm_one (M:=model X.prog X.w) (K:=X.K) (h:=h2) (I3.lK) lt w1).here ?_
  refine codeAny_handlers_suite_as ?_
  refine ug (s:={s1 with heap:=h2}) G2 λh3 G3 u3=>?_
  have I4:=I3.uv G2.st G3.st u3 uO Oi o1 o2
  have nH:H' a=none:=by
   cases e:H' a with
   |none=>rfl
   |some u=>obtain⟨o,ho⟩:=uO a u e;rw[Bl.no] at ho;cases ho
  obtain⟨oe3,vs3,T3,oT3,ts3,Xo,Zv,Zw,Zx,v31,v32,r3⟩:=G3.tr
  have nfr:a∉oX (X.env::X.outer):=λz=>by
   obtain⟨_,o,ho,nf⟩:=G3.fr.mem z
   rw[Xo] at ho;cases ho
   exact nf _ Zx
  have inl:X.env.locals∈oX (X.env::X.outer):=by rw[oX,iM,Bj];exact cy
  have sub:∀b,b∈X.fs->b∈oX (X.env::X.outer):=λb hb=>by rw[oX,iM,Bj];exact cB _ hb
  have n0:X.gW.heap.get? a=none:=by
   cases e:X.gW.heap.get? a with
   |none=>rfl
   |some o=>
    obtain⟨o',xT⟩:=o2 a o e (λz=>nfr (sub a z)) (by rw[hex];simp)
    rw[Bl.no] at xT;cases xT
  have I5:=I4.Ob (a:=a) (o:=uh a cls eA) nH n0 (λz=>nfr (z▸inl)) (λy c ec z=>by
   obtain⟨v,oc,Tr,Oh⟩:=I4.cell y c ec
   rw[z] at Tr
   have Vg:h3.get? a=some oc:=Tr
   rw[Xo] at Vg;cases Vg
   rw[Zx] at Oh;cases Oh) (λp hp z=>by
   have:=Oi p hp
   rw[z,Bl.no] at this;cases this) ⟨⟨oe3,vs3,Xo,Zv,Zw,Zx,v32⟩,⟨_,Xo⟩,λg1 g2 ⟨oe,vs,e,r⟩ k=>⟨oe,vs,k _ e,r⟩⟩
  refine qi I5 hN hi (.inl hk) (show RelV (V.ref a) (Value.ref a) from rfl) (λs6 I6 _=>?_) (.inr hk)
  refine bF (hs a ac s6 _ _ _ (I6.Ax a) (w2 a nH)) (λf s7 q=>?_) λ_ _ z=>False.elim z
  have un:∀{uQ:St} {H7:Hp},Inv (X.Ax a) ac uQ H7 s7->Inv X ac uQ H7 s7:=λJ=>J.Oa I.ok.hd I.ok.frames
  cases f with
  |next=>
   obtain⟨uQ,H7,J,q⟩:=q
   exact vo (un J) hN hi hk λs' J'=>⟨_,_,J',q⟩
  |brk=>
   obtain⟨uQ,H7,J,q⟩:=q
   exact vo (un J) hN hi hk λs' J'=>⟨_,_,J',q⟩
  |cont=>
   obtain⟨uQ,H7,J,q⟩:=q
   exact vo (un J) hN hi hk λs' J'=>⟨_,_,J',q⟩
  |ret u=>
   obtain⟨v,uQ,H7,J,r,q⟩:=q
   exact vo (un J) hN hi hk λs' J'=>⟨v,_,_,J',r,q⟩
def uj (a C d:ai) (h:Heap):Prop:=∃oe vs od,h.get? a=some oe/\oe.cls=.ref C/\oe.dict=some d/\oe.data=.fields vs/\h.get? d=some od
section
variable {prog:aJ}{w:bB}{A:bH}{E:ag->ak->Prop}{K:Φ}{h:Heap}{g:Array GenState}{d:Drawn}{t:Nat}{os:OsState}{a C dc:ai}
def Bm (h1:h.get? a=some oe) (h2:oe.cls=.ref C) (h3:oe.dict=some dc) (h4:oe.data=.fields vs) (h5:h.get? dc=some od):InstAt h a oe C (some od):=by
 refine⟨h1,h2,?_,?_⟩
 .obtain⟨_,_,dt,_⟩:=oe
  have:dt=.fields vs:=h4
  subst this
  rfl
 .rw[h3];exact h5
def xg (X:K.In h) (F:pP K C) (p:uj a C dc h) (q:Q () ⟨h,g,d,t,os⟩):wpAny (model prog w) A (checkBuiltinCall "BaseException.__getattribute__" ⟨[.ref a,Jx],[]⟩) Q E ⟨h,g,d,t,os⟩:=by
 obtain⟨oe,vs,od,h1,h2,h3,h4,h5⟩:=p
 have L0:Looks (model prog w) h (typeOf (.ref a)) (.ref C):=h2▸(mJ h1).andThen .now
 have L1:=looks_mroIn (M:=model prog w) X F.be
 have hk:builtinKind "BaseException.__getattribute__"=some .slot:=by decide+kernel
 have hs:splitId "BaseException.__getattribute__"=some ("BaseException","__getattribute__"):=by decide+kernel
 have ha:=PySem.F.args_bexc_ga (.ref a) Jx
 simp only[checkBuiltinCall,hk,hs]
 refine aa ?_
 unfold isInstance
 repeat (first|with_reducible refine L0.at ?_|with_reducible refine L1.at ?_|wp_step)
 exact q
def Eb (X:K.In h) (F:pP K C) (p:uj a C dc h) (q:Q (.done (.ret (.ref C))) ⟨h,g,d,t,os⟩):
  wpAny (model prog w) A (Builtin.«object.__getattribute__» ⟨[.ref a,.str "__class__" tk],[]⟩) Q E ⟨h,g,d,t,os⟩:=by
 obtain⟨oe,vs,od,h1,h2,h3,h4,h5⟩:=p
 have L0:Looks (model prog w) h (typeOf (.ref a)) (.ref C):=h2▸(mJ h1).andThen .now
 have L2:=i9 (M:=model prog w) X F.cl
 have hT5:(⟨h,g,d,t,os⟩:ak).TypeIs (.builtin "object.__class__") "getset_descriptor":=jE
 have f5:=jE
 have f6:=PySem.F.slot_gs_get.lookup
 have f7:=PySem.F.slot_gs_set.lookup
 repeat (any_goals (first|assumption|with_reducible refine L0.at ?_|with_reducible refine L2.at ?_|wp_step))
 refine class_get (s:=⟨h,g,d,t,os⟩) X (Bm h1 h2 h3 h4 h5) F.ob ?_
 repeat (any_goals (first|assumption|wp_step))
def MO (X:K.In h) (F:pP K C) (p:uj a C dc h) (q:Q (.ref C) ⟨h,g,d,t,os⟩):
  wpAny (model prog w) A (getAttrBy (.ref a) (.str "__class__" tk) false) Q E ⟨h,g,d,t,os⟩:=by
 have p':=p
 obtain⟨oe,vs,od,h1,h2,h3,h4,h5⟩:=p
 have L0:Looks (model prog w) h (typeOf (.ref a)) (.ref C):=h2▸(mJ h1).andThen .now
 have L1:=i9 (M:=model prog w) X F.ga
 have L2:=i9 (M:=model prog w) X F.no
 have b0:=fQ.ga.bind (.ref a)
 have n0:(onTheHeap (Value.ref C)&&Value.builtin "BaseException.__getattribute__"==Value.builtin "object.__getattribute__")=false:=by
  have n1:(Value.builtin "BaseException.__getattribute__"==Value.builtin "object.__getattribute__")=false:=by decide+kernel
  rw[n1];rfl
 repeat (any_goals (first|assumption|with_reducible refine L0.at ?_|with_reducible refine L1.at ?_|with_reducible refine L2.at ?_|wp_step))
 refine iS fQ.ga.plain vE (xg X F p' (Eb X F p' ?_))
 repeat (any_goals (first|assumption|wp_step))
def Hf (X:K.In h) (F:pP K C) (p:uj a C dc h) (q:Q (some (.ref C)) ⟨h,g,d,t+1,os⟩):wpAny (model prog w) A (getAttr? (.ref a) "__class__") Q E ⟨h,g,d,t,os⟩:=by
 unfold getAttr? getAttrBy?
 repeat (any_goals (first|assumption|with_reducible apply MO X F p|wp_step))
end
def Hg {K:Φ}{a C dc:ai}(F:pP K C):KitX K (.ref a) (.ref C) (uj a C dc) where
 ty:=λM h _ p=>by
  obtain⟨oe,vs,_,h1,h2,_⟩:=p
  exact h2▸(mJ h1).andThen .now
 it:=λ_ _ X _=>by
  obtain⟨cd,hc⟩:=iy.mp F.cs
  unfold clsIn at hc
  split at hc
  .rename_i c' d' YT Ga ho
   intro A' Q' E' s' k q
   unfold isType loadHead
   exact aa (B9 (k _ _ (X _ _ ho)) (aj q))
  .cases hc
 ne:=λh tp dd cV n sl X YU=>by
  obtain⟨cd,hc⟩:=iy.mp F.cs
  refine ik.mpr λq=>?_
  have e:C=tp:=Value.ref.inj (gQ.mp q)
  subst e
  unfold clsIn at hc
  split at hc
  .rename_i c' d' YT Ga ho
   have z:=(X _ _ ho).symm.trans YU
   cases z
  .cases hc
 ca:=λ{_ _ _ _ _ s} X p k=>by
  obtain⟨h,g,d,t,os⟩:=s
  exact Hf X F p k
def QG (K:Φ):List V->Hp->VK->Prop:=λxs H Q=>∃a C d fs c cv b,xs=[.ref a,c]/\H a=some (uh a (.ref C) (some d))/\H d=some (.xd fs)/\pP K C/\JB c=some cv/\kitOne K (.ref C) cv=some b/\Q (.bl b) H
def Ec:gN X (.builtin "isinstance") (QG X.K):=by
 intro ac s Z H xs us Q I r h
 obtain⟨a,C,d,fs,c,cv,b,rfl,ha,hd,F,hc,e,q⟩:=h
 obtain⟨u,u',rfl,r1,r2⟩:=vals2 r
 cases(show u=Value.ref a from r1)
 have hu:u'=cv:=by
  cases c<;>simp only[JB,Option.some.injEq,reduceCtorEq] at hc
  .subst hc;exact r2
  .subst hc;exact r2
 subst hu
 obtain⟨⟨oe,vs,h1,h2,h3,h4,_⟩,_⟩:=I.eN a _ ha
 obtain⟨od,ho⟩:=mE (I.eN d _ hd)
 exact kia_one (Hg (dc:=d) F) I.lK ⟨oe,vs,od,h1,h2,h3,h4,ho⟩ e (λz=>nomatch z) λtk=>⟨.bl b,H,I.tok tk,rfl,q⟩
section
variable {prog:aJ}{w:bB}{A:bH}{E:ag->ak->Prop}{K:Φ}{h:Heap}{g:Array GenState}{d:Drawn}{t:Nat}{os:OsState}{a C dc:ai}{oe od:Obj}{name:Str}{v:ag}
def Ed (X:K.In h) (I:InstAt h a oe C (some od)) (hf:findObj K C (some od) name=some (.value v)) (q:Q (.done (.ret v)) ⟨h,g,d,t,os⟩):
  wpAny (model prog w) A (Builtin.«object.__getattribute__» ⟨[.ref a,.str name tk],[]⟩) Q E ⟨h,g,d,t,os⟩:=by
 have L0:=I.type (M:=model prog w)
 have L1:=looks_find (M:=model prog w) X I hf
 refine aa (aj (aa (aj (aa (L0.at (aa (L1.at ?_)))))))
 exact aj q
def MP (X:K.In h) (F:pP K C) (h1:h.get? a=some oe) (h2:oe.cls=.ref C) (h3:oe.dict=some dc) (h4:oe.data=.fields vs) (h5:h.get? dc=some od)
  (hf:findObj K C (some od) name=some (.value v)) (hv:handedIn v=true) (q:Q v ⟨h,g,d,t,os⟩):
  wpAny (model prog w) A (getAttrBy (.ref a) (.str name tk) b c) Q E ⟨h,g,d,t,os⟩:=by
 have p':uj a C dc h:=⟨oe,vs,od,h1,h2,h3,h4,h5⟩
 have L0:Looks (model prog w) h (typeOf (.ref a)) (.ref C):=h2▸(mJ h1).andThen .now
 have L1:=i9 (M:=model prog w) X F.ga
 have L2:=i9 (M:=model prog w) X F.no
 have b0:=fQ.ga.bind (.ref a)
 have n0:(onTheHeap (Value.ref C)&&Value.builtin "BaseException.__getattribute__"==Value.builtin "object.__getattribute__")=false:=by
  have n1:(Value.builtin "BaseException.__getattribute__"==Value.builtin "object.__getattribute__")=false:=by decide+kernel
  rw[n1];rfl
 cases b<;>cases c
 all_goals repeat (any_goals (first|assumption|with_reducible refine L0.at ?_|with_reducible refine L1.at ?_|with_reducible refine L2.at ?_|wp_step))
 all_goals refine iS fQ.ga.plain vE (xg X F p' (Ed X (Bm h1 h2 h3 h4 h5) hf ?_))
 all_goals show wpAny _ _ (handedOut v) _ _ _
 all_goals rw[handedOut_of hv]
 all_goals exact aj q
end
section
variable {prog:aJ}{w:bB}{A:bH}{E:ag->ak->Prop}{K:Φ}{s:ak}{x C:ai}{ox:Obj}{od:Option Obj}{cd:ClassData}{name:Str}{v:ag}
def MQ (X:K.In s.heap) (I:InstAt s.heap x ox C od) (hc:clsIn K C=some cd) (Qk:mroIn K C (.type "object")=some true) (hr:refuseLoop (.ref x) "__setattr__" cd.mro=pure ()) (ha:findIn K (.ref C) name=some none)
  (h:wpAny (model prog w) A.in1 (Builtin.ObjectAttr.storeInOwnDict (.ref x) (.ref C) (.str name tk) name v false)
   (λfin s'=>match fin with| .done f=>R (.ok f) s'| .again c'=>c'.quiet=true/\codeAny (model prog w) A c' R s') (λe s'=>R (.error e) s') s):
  codeAny (model prog w) A (.call (.builtin "object.__setattr__") ⟨[.ref x,.str name tk,v],[]⟩) R s:=by
 have SF:=PySem.F.store_object
 have sub:Looks (model prog w) s.heap (isInstance (.ref x) (.type "object")) true:=I.type.andThen (looks_mroIn X Qk)
 refine iS SF.slot.plain SF.entry (@check_slot (model prog w) _ _ s "object.__setattr__" "object" "__setattr__" (.ref x) [.str name tk,v] [] _ SF.kind SF.split sub (SF.args (.ref x) (.str name tk) v) ?_)
 have hm:Looks (model prog w) s.heap (mroOf (.ref C)) cd.mro:=(looks_clsIn X hc).andThen .now
 have L3:Looks (model prog w) s.heap (Builtin.ObjectAttr.storeTaker? none) none:=.now
 rw[osa_eq,refuse_eq]
 refine aa (aa (I.type.here (aa (hm.here ?_))))
 rw[hr]
 refine aj (aa (I.type.here (aa ((i9 X ha).here (aa (L3.here ?_))))))
 exact h
def Hh {Q:Unit->ak->Prop}(X:K.In s.heap) (I:InstAt s.heap x ox C none) (hdn:ox.dict=none) (hs:findIn K (.ref C) "__setattr__"=some (some (.builtin "object.__setattr__"))) (hc:clsIn K C=some cd) (hd:cd.hasDict=true) (Qk:mroIn K C (.type "object")=some true) (hr:refuseLoop (.ref x) "__setattr__" cd.mro=pure ()) (ha:findIn K (.ref C) name=some none)
  (h:∀h' t',h'.get? x=some {ox with dict:=some s.heap.objs.size}->h'.Ns1 s.heap.objs.size (λy=>if y=name then some v else none)->(∀b o,b≠x->s.heap.get? b=some o->h'.get? b=some o)->Q () {s with heap:=h',toks:=t'}):
  wpAny (model prog w) A (setAttr (.ref x) name v) Q E s:=by
 refine set_plain X I hs (MQ (s:={s with toks:=s.toks+1}) X I hc Qk hr ha ?_)
 obtain⟨hx,IS,hn,-⟩:=I
 obtain⟨hp,g,d,t,os⟩:=s
 obtain⟨oc,odi,UE,vR⟩:=ox
 dsimp only at IS hdn hx h
 subst IS hdn
 refine aa (aj (aa (aa (B9 hx (aa (PySem.W.Looks.here (s:=⟨hp,g,d,t+1,os⟩) (looks_clsIn X hc) ?_))))))
 rw[hd]
 have nU:x≠hp.objs.size:=bj (aC hx)
 have Oj:(hp.push {cls:=.type "dict",data:=.dict #[]}).get? x=some ⟨.ref C,none,UE,vR⟩:=af _ hx
 have body:wpAny (model prog w) A.in1 (do
   let a<-alloc {cls:=.type "dict",data:=.dict #[]}
   update x λo=>{o with dict:=some a}
   pure (some a)) (λr s'=>wpAny (model prog w) A.in1 (match r with|some d=>Builtin.ObjectAttr.storeInDict d (.str name t) name v|none=>Builtin.ObjectAttr.noDictFor (.ref x) (.ref C) name false) (λfin s'=>match fin with| .done f=>(match (Except.ok f:Result) with| .ok (.ret _)=>Q () s'| .ok _=>False| .error e=>E e s')| .again c'=>c'.quiet=true/\codeAny (model prog w) A c' (λr s'=>match r with| .ok (.ret _)=>Q () s'| .ok _=>False| .error e=>E e s') s') E s') E ⟨hp,g,d,t+1,os⟩:=by
  refine aa (wpAny_alloc' (aa (wpAny_update' Oj (aj ?_))))
  have hgd:((hp.push {cls:=.type "dict",data:=.dict #[]}).update x λo=>{o with dict:=some hp.objs.size}).get? hp.objs.size=some {cls:=.type "dict",data:=.dict #[]}:=
   (lS _ _ _ _ nU.symm).trans (Heap.get?_push_at rfl rfl)
  have Ax:((hp.push {cls:=.type "dict",data:=.dict #[]}).update x λo=>{o with dict:=some hp.objs.size}).Ns hp.objs.size (λ_=>none):=
   ⟨_,#[],_,hgd,rfl,λe he=>absurd he ς,λ_=>rfl⟩
  show wpAny _ _ (Builtin.ObjectAttr.storeInDict hp.objs.size (.str name t) name v) _ _ _
  unfold Builtin.ObjectAttr.storeInDict Builtin.ObjectAttr.newKeyGuard
  refine aa (aj (aa (wpAny_nsSet1 (Heap.Ns1.of_empty Ax) λh' W0 hs=>?_)))
  obtain⟨oD,esD,epD,Yc,Yd,Ye⟩:=W0.count (Within.cons name v Within.nil)
  refine aa (wpAny_lookBehind Yc (by rw[Yd];exact pastItsLine_dict (aA Ye (by rw[dO,jn,hW];omega))) ?_)
  refine aj (h h' _ ?_ W0 λb o hbx hb=>?_)
  .refine(hs.2 x nU).trans (cY _ Oj ?_)
   have Bj:=(Heap.get?_some_iff.mp hx).2
   cases UE<;>first|rfl|exact Bj
  .exact(hs.2 b (bj (aC hb))).trans ((lS _ _ _ _ hbx).trans (af _ hb))
 cases UE with
 |cls c=>cases hn
 |_=>exact body
end
abbrev xh (cls:ag) (eA:Option ai) (t:ai):Obj:={cls:=cls,dict:=eA,data:=.fields #[.ref t,.none,.none,.none,.bool false,.none]}
def qY (a:ai) (cls:ag) (eA:Option ai):HO:=.ext λh=>∃t,h.get? a=some (xh cls eA t)
def zS (h1:h.get? a=some (xh cls eA t)):gf P w H h a (qY a cls eA):=
 ⟨⟨t,h1⟩,⟨_,h1⟩,λg1 g2 ⟨t,e⟩ k=>⟨t,k _ e⟩⟩
structure QH (K:Φ) (C:ai):Prop where
 sa:findIn K (.ref C) "__setattr__"=some (some (.builtin "object.__setattr__"))
 ob:mroIn K C (.type "object")=some true
 cd:∃cd,clsIn K C=some cd/\cd.hasDict=true/\∀self:ag,refuseLoop self "__setattr__" cd.mro=pure ()
section
variable {X:Cx}{ac:List (ai×Obj)}{Z:St}{H:Hp}{s:ak}{a C d:ai}{fs:List (Str×V)}{f:Str}{v:V}{A:bH}{E:ag->ak->Prop}
def Bn (I:Inv X ac Z H s) (e:H a=some (qY a (.ref C) none)) (c:QH X.K C) (n:jJ X.K C f) (ry:RelV y u)
  (h:∀d s',H d=none->d≠a->Inv X ac Z (upd (upd H d (.xd [(f,y)])) a (qY a (.ref C) (some d))) s'->Q () s'):wpAny (model X.prog X.w) A (setAttr (.ref a) f u) Q E s:=by
 obtain⟨⟨t,h1⟩,_⟩:=I.eN a _ e
 obtain⟨cd,hc,hd,hr⟩:=c.cd
 have na:s.heap.objs.size≠a:=ie (aC h1)
 refine Hh I.lK (Fi h1 rfl rfl rfl) rfl c.sa hc hd c.ob (hr _) n λh' t' g1 g2 g3=>?_
 refine h s.heap.objs.size _ (I.eN.fresh (av _)) na ?_
 obtain⟨od,es,ep,ho,r⟩:=g2
 have nf:od.isFreed=false:=(Heap.get?_some_iff.mp ho).2
 have e1:(s.heap.push od).get? s.heap.objs.size=some od:=az _ nf
 have I1:=I.laid (a:=s.heap.objs.size) (o:=.xd [(f,y)]) (h':=s.heap.push od) (t':=t') (λb u q=>af _ q) (av _) ⟨_,⟨od,es,ep,e1,r⟩,λg=>by
  show oW (List.lookup g [(f,y)]) (if g=f then some u else none)
  by_cases q:g=f
  .rw[q,aT rfl];simp only[List.lookup,F3];exact ry
  .rw[aP q];have:(g==f)=false:=by simpa using q
   simp only[List.lookup,this];exact True.intro⟩
 refine I1.write (x:=a) (e:=a) (h':=h') (t':=t') (by rw[bb (cG na),e];exact True.intro) (.inl rfl) (λb u hb q=>?_) ⟨_,g1⟩ (zS (t:=t) g1)
 rcases Heap.get?_push_cases q with⟨rfl,rfl⟩|q'
 .exact ho
 .exact g3 b u hb q'
def Bo (I:Inv X ac Z H s) (e:H a=some (uh a (.ref C) (some d))) (ed:H d=some (.xd fs)) (c:pP X.K C) (hh:hasDictIn X.K C=true) (n:jJ X.K C f) (l:fs.lookup f=some v)
  (h:∀u s',Inv X ac Z H s'->RelV v u->Q u s'):wpAny (model X.prog X.w) A (getAttr (.ref a) f b) Q E s:=by
 obtain⟨⟨oe,vs,h1,h2,h3,h4,_⟩,_⟩:=I.eN a _ e
 obtain⟨mA,hn,r⟩:=I.eN d _ ed
 obtain⟨od,ho,hl⟩:=yq hn
 obtain⟨u,hu,ru⟩:=oW.some_of (v:=v) (o:=mA f) (by rw[<-l];exact r f)
 obtain⟨hp,g,dd,t,os⟩:=s
 unfold getAttr
 refine aa (wpAny_mkText ?_)
 exact MP I.lK c h1 h2 h3 h4 ho (findObj_own hh n rfl (by rw[hl,hu])) (yr ru) (h u _ (I.tok _) ru)
end
def Ol (K:Φ) (ta:TE) (f:Str):TE:=λZ H Q=>ta Z H λx H1=>∃a C d fs v,x=.ref a/\H1 a=some (uh a (.ref C) (some d))/\H1 d=some (.xd fs)/\pP K C/\hasDictIn K C=true/\jJ K C f/\fs.lookup f=some v/\Q v H1
def Vh (K:Φ) (ta tv:TE) (f:Str):TS:=λD Z H=>tv Z H λy H1=>ta Z H1 λx H2=>∃a C,x=.ref a/\H2 a=some (qY a (.ref C) none)/\QH K C/\jJ K C f/\
 ∀d,H2 d=none->d≠a->D.nx Z (upd (upd H2 d (.xd [(f,y)])) a (qY a (.ref C) (some d)))
section
variable {X:Cx}{o e value:Expr}{f:Str}{pos pos':Pos}{ta tv:TE}
def MS (he:PE X e ta) (hb:attributeBase e f X.env (eval e X.env)=eval e X.env):PE X (.Attribute e f pos) (Ol X.K ta f):=by
 intro ac s Z H Q I h
 refine EX hb (fE (he ac s Z H _ I h) λu s1 c_=>?_)
 obtain⟨x,H1,I1,rx,a,C,d,fs,v,ex,ea,ed,c,hh,n,l,q⟩:=c_
 subst ex
 obtain rfl:u=Value.ref a:=rx
 exact Bo I1 ea ed c hh n l λu' s2 I2 ru=>⟨v,H1,I2,ru,q⟩
def MT (ha:PE X o ta) (hv:PE X value tv) (hs:swapsWith value (some (.Attribute o f pos')) pos.line X.env=pure false):PS X (.Assign [.Attribute o f pos'] value pos) (Vh X.K ta tv f):=by
 intro ac s Z H D I h
 refine NQ (fE (hv ac s Z H _ I h) λu s1 c_=>?_) hs
 obtain⟨y,H1,I1,ry,q⟩:=c_
 refine fE (ha ac s1 Z H1 _ I1 q) λov s2 AJ=>?_
 obtain⟨x,H2,I2,rx,a,C,ex,ea,c,n,q2⟩:=AJ
 subst ex
 obtain rfl:ov=Value.ref a:=rx
 exact Bn I2 ea c n ry λd s3 nd na I3=>⟨Z,_,I3,q2 d nd na⟩
end
section
variable {prog:aJ}{w:bB}{A:bH}{E:ag->ak->Prop}{h:Heap}{g:Array GenState}{d:Drawn}{t:Nat}{os:OsState}
variable {nm q:Str}{C N:ai}{bs bm QB:List ag}{hdct:Bool}{sn:List Str}{sub:List ag}{ab:Bool}{col:Option Bool}{dd:Option ai}{k0 k1 k2 k3 k5:Option ag}{B newId xa:String}
def init_exc (F:ExcBaseFacts B newId xa QB) (T:OwnTail h QB bm) {rest:List ag}
  (hC:h.get? C=some (excClassObj nm q C N bs bm hdct sn sub ab col dd k0 k1 k2 k3 k5 newId)) (he:h.get? e=some (xh (.ref C) none t0)) (Fq:rest.length<=sizeLine)
  (hq:∀h' t1,h'.get? e=some (xh (.ref C) none t1)->(∀b o,b≠e->h.get? b=some o->h'.get? b=some o)->Q .none ⟨h',g,d,t,os⟩):
  wpAny (model prog w) A (call (.builtin xa) (.ref e::rest)) Q E ⟨h,g,d,t,os⟩:=by
 refine mH (iS F.init.plain F.initEntry (wpAny_check_init_subT F T hC he rfl ?_))
 have Vi:(h.push {cls:=.type "tuple",data:=.seq rest.toArray}).get? e=some (xh (.ref C) none t0):=af _ he
 wp_walk
 refine hq _ h.objs.size ?_ λb o hb q=>?_
 .rw[cY _ Vi rfl]
  rfl
 .rw[ba _ _ (cG hb)]
  exact af _ q
end
def del (H:Hp) (a:ai):Hp:=λb=>if b=a then none else H b
def Bp:del H a a=none:=by unfold del;rw[aT rfl]
def pW (h:b≠a):del H a b=H b:=by unfold del;rw[aP h]
def sv (h:H b=none):del H a b=none:=by unfold del;split<;>first|rfl|exact h
def QI (h:H a=some o):upd H a o=H:=by
 funext b;unfold upd;split
 .rename_i e;rw[e,h]
 .rfl
section
variable {X:Cx}{ac:List (ai×Obj)}{Z:St}{H:Hp}{s:ak}{a C R fI:ai}{cls:ag}{eA:Option ai}
def Inv.MU (I:Inv X ac Z H s) (e:H a=some (.ext φ)):Inv X ac Z (del H a) s:=by
 refine⟨I.ok,I.os,I.bare,⟨I.base.keep,I.base.slot,λb u q m hx=>sv (I.base.free b u q m hx),I.base.there,λb xs z=>?_,λb u v z=>?_,λb ps z=>?_⟩,I.loc,I.cell,sv I.free,λx c z=>sv (I.jv x c z),λp hp=>?_,λb u z=>?_,I.len⟩
 .have:=I.base.nZ b xs z
  rw[pW (yk this e nofun)];exact this
 .have:=I.base.pq b u v z
  rw[pW (yk this e nofun)];exact this
 .obtain⟨m,this⟩:=I.base.qz b ps z
  exact⟨m,by rw[pW (yk this e nofun)];exact this⟩
 .obtain⟨p1,p2,p3⟩:=I.pin p hp
  exact⟨p1,sv p2,p3⟩
 .by_cases eb:b=a
  .rw[eb,Bp] at z;cases z
  .rw[pW eb] at z
   refine(I.eN b u z).qy (λ_ _ _ y=>y) (λc y=>?_) (λc xs y=>?_)
   .rw[pW (yk y e nofun)];exact y
   .rw[pW (yk y e nofun)];exact y
end
def Ee {K:Φ} (X:K.In h) (G:h.Ns N mg) (e:nsIn K N n=some (some v)):mg n=some v:=by
 obtain⟨o,es,ep,ho,hd,_,hf⟩:=G
 unfold nsIn at e
 split at e
 .rename_i c d WZ n' sl q
  have:=X _ _ q
  rw[ho] at this
  cases this
  cases hd
  split at e
  .rename_i en he
   cases e
   rw[<-hf]
   unfold nsFind findBy
   rw[<-Array.find?_toList,he]
   rfl
  .split at e<;>cases e
 .cases e
noncomputable def Ef (K:Φ) (C fI:ai):Bool:=match K.lookup C with
 |some ⟨.type "type",_,.cls cd,sl⟩=>(match cd.mro,sl.toList with
  | .ref C'::bm,[_,_,_,_,some (.builtin n),_]=>C'==C&&n=="ValueError.__new__"&& !cd.hasDel&&tailIn K wg bm&&nsOkIn K cd.ns&&nsIn K cd.ns "__init__"==some (some (.ref fI))
  |_,_=>false)
 |_=>false
structure Bq (K:Φ) (C fI:ai):Prop where
 is:Ef K C fI=true
 fn:isFn K (.ref fI)=true
 kp:keepIn K (.ref C)=true
def Bq.own {K:Φ} (O:Bq K C fI) (lT:K.In h):∃tl N nm q bs hdct sn sub ab col dd k0 k1 k2 k3 k5 mN,h.get? C=some (excClassObj nm q C N bs tl hdct sn sub ab col dd k0 k1 k2 k3 k5 "ValueError.__new__")/\h.Ns N mN/\mN "__init__"=some (.ref fI)/\OwnTail h wg tl:=by
 have q:=O.is
 unfold Ef at q
 split at q
 case h_2=>cases q
 case h_1 d0 c0 s0 look=>
  split at q
  case h_2=>cases q
  case h_1 C1 tl a0 a1 a2 a3 nw a5 em es=>
   obtain⟨c1,c2,c3,c4,c5,c6,c7,c8,c9,c10,c11⟩:=c0
   obtain⟨sl⟩:=s0
   simp only[cN,gQ,mf] at q
   obtain⟨⟨⟨⟨⟨g1,g2⟩,g3⟩,g4⟩,g5⟩,g6⟩:=q
   dsimp only at em es g3 g5 g6
   subst g1 g2 g3 em es
   have n0:h.Ns c4 (h.nsMap c4):=.of_isNs (isNs_of_in lT g5)
   exact⟨tl,c4,c1,c5,c2,c6,c7,c8,c9,c10,d0,a0,a1,a2,a3,a5,h.nsMap c4,lT _ _ look,n0,Ee lT n0 g6,tail_of_in lT g4⟩
def Vj {K:Φ} (lT:K.In h) (e:isFn K (.ref f)=true):∃o,h.get? f=some o/\o.cls=.type "function":=by
 have e:(K.lookup f).map (·.cls)=some (.type "function"):=gQ.mp e
 obtain⟨o,ho,hc⟩:=Tc.mp e
 exact⟨o,lT _ _ ho,hc⟩
section
variable {X:Cx}{CX:HS}{k:Nat}{C fI:ai}{fd:FuncData}{ps:List Str}{sp:Sp}{mR:List V}{ds:List ag}{E:XK}{ac:List (ai×Obj)}{Z:St}{H:Hp}{s:ak}
def Inv.Vk {h':Heap}{e:ai}{rest:List ag}(I:Inv X ac Z H s) (hex:X.ex=[]) (mk:Heap.MadeExcOf s.heap h' e (.ref C) rest):
  H e=none/\X.gW.heap.get? e=none/\Inv X ac Z (upd H e (qY e (.ref C) none)) {s with heap:=h'}:=by
 have n1:H e=none:=by
  cases q:H e with
  |none=>rfl
  |some u=>obtain⟨o,ho⟩:=mE (I.eN e u q);rw[mk.new] at ho;cases ho
 have n2:X.gW.heap.get? e=none:=by
  cases q:X.gW.heap.get? e with
  |none=>rfl
  |some o=>obtain⟨o',ho⟩:=I.base.there e o q (by rw[hex];simp);rw[mk.new] at ho;cases ho
 obtain⟨t,ht,_,_⟩:=mk.there
 refine⟨n1,n2,Inv.Ob (I.kept (h':=h') (t':=s.toks) mk.keeps) n1 n2 (λz=>?_) (λx c ec z=>?_) (λp hp z=>?_) (zS ht)⟩
 .obtain⟨m,⟨o,es,ep,ho,_⟩,_⟩:=I.loc
  rw[<-z,mk.new] at ho;cases ho
 .obtain⟨v,o,ho,_⟩:=I.cell x c ec
  rw[z,mk.new] at ho;cases ho
 .have:=(I.pin p hp).1
  rw[z,mk.new] at this;cases this
def Hi {Q:ai->Hp->Prop} (O:Bq X.K C fI) (F:dR X.prog X.w X.K X.mg X.base CX k fI fd ps sp) (hr:eB (k+1) X.A) (hb:Binds X.K fd ps ds) (hd:cK mR ds) (hx:mS CX X E) (hex:X.ex=[])
  (I:Inv X ac Z H s) (r:cK vs us) (hz:vs.length<=sizeLine)
  (h:∀a,H a=none->sp (.ref a::(vs++mR)) (upd H a (qY a (.ref C) none)) (λv H2=>v=.eU/\Q a H2) E):
  wpAny (model X.prog X.w) X.A (call (.ref C) us) (λu s'=>∃a H2,u=.ref a/\X.gW.heap.get? a=none/\Inv X ac Z H2 s'/\Q a H2) X.xe s:=by
 obtain⟨tl,N,nm,q,bs,hdct,sn,sub,ab,col,dd,k0,k1,k2,k3,k5,mN,hC,hN,hi,T⟩:=O.own I.lK
 obtain⟨oI,U_,Va⟩:=Vj I.lK O.fn
 obtain⟨hp,g,d,t,os⟩:=s
 refine DY gR T hC hN hi U_ Va (λh' e mk=>?_) (by rw[<-r.length];exact hz)
 obtain⟨n1,n2,I2⟩:=I.Vk hex mk
 have hq:=h e n1
 have r2:cK (V.ref e::(vs++mR)) (Value.ref e::(us++ds)):=.cons rfl (r.append hd)
 have hl:(Value.ref e::us++ds).length=ps.length:=by
  have z:=r2.length
  rw[F.len _ _ _ _ hq] at z
  exact z.symm
 refine mH (lE (F.run _ X.stack _ _ ⟨Value.ref e::us,[]⟩ (Value.ref e::(us++ds)) _ _ E (hr.make C us []) (I2.Gn.make C us []) (hb _ (Value.ref e::us) I2.lK hl) r2 hq) λr s' IB=>?_)
 cases r with
 |error e=>exact hx ac Z _ _ e s' I2 IB
 |ok fl=>
  cases fl with
  |ret u=>
   obtain⟨v,H',I3,rv,ev,q3⟩:=I2.after IB
   subst ev
   exact⟨rv,e,H',rfl,n2,I3,q3⟩
  |next=>exact False.elim IB
  |brk=>exact False.elim IB
  |cont=>exact False.elim IB
def MV (C:ai) (sp:Sp) (mR:List V) (E:XK) (W:ag->Option ai->St->Hp->Prop) (t:TA):TS:=λ_ Z H=>t Z H λvs H1=>vs.length<=sizeLine/\
 ∀a,H1 a=none->sp (.ref a::(vs++mR)) (upd H1 a (qY a (.ref C) none)) (λv H2=>v=.eU/\∃eA,H2 a=some (qY a (.ref C) eA)/\W (.ref C) eA Z (del H2 a)) E
def Hj (hM:D_ X W) (hc:X.calm=true) (O:Bq X.K C fI) (F:dR X.prog X.w X.K X.mg X.base CX k fI fd ps sp) (hr:eB (k+1) X.A) (hb:Binds X.K fd ps ds) (hd:cK mR ds) (hx:mS CX X E) (hex:X.ex=[])
  (hg:Gl X x) (hm:X.mg x=some (.ref C)) (ha:PA X (e::es) t) (qM:(x==("__debug__":Str))=false:=by decide)
  (he:starEach (e::es) X.env=(false,eval e X.env)::starEach es X.env:=by rfl) (j4:(backTo kh (starEach es X.env)).any (·.1)=false:=by rfl):
  PS X (.Raise (some (.Call (.Name x np) (e::es) [] kh)) none pos) (MV C sp mR E W t):=by
 intro ac s Z H D I h
 obtain⟨tl,N,nm,q,bs,hdct,sn,sub,ab,col,dd,k0,k1,k2,k3,k5,mN,hC,hN,hi,T⟩:=O.own I.ok.mod.lT
 rw[arm_exec_Raise]
 refine aa (jX (yb (C:=C) (nm:=nm) (q:=q) (N:=N) (bs:=bs) (bm:=tl) (hdct:=hdct) (sn:=sn) (sub:=sub) (ab:=ab) (col:=col) (dd:=dd) (k0:=k0) (k1:=k1) (k2:=k2) (k3:=k3) (k5:=k5) (newId:="ValueError.__new__")
  (T.hasType gR.hasBase) (I.ok.hd hc) (aa (bF (Q:=λu s'=>∃a H2,u=.ref a/\X.gW.heap.get? a=none/\Inv X ac Z H2 s'/\∃eA,H2 a=some (qY a (.ref C) eA)/\W (.ref C) eA Z (del H2 a)) ?_ (λv s3 h3=>aa (jX (aj ?_))) λ_ _ x=>x))))
 .refine gq (jG I hg hm ?_ qM)
  refine jc (h₀:=X.base) I.ok.mod.lT O.kp (fE (ha kh ac s Z H _ I h) λus s1 c_=>?_) he j4
  obtain⟨vs,H1,I1,r,hz,q1⟩:=c_
  refine⟨I1.lK,?_⟩
  exact Hi O F hr hb hd hx hex I1 r hz q1
 .obtain⟨a,H2,rfl,n0,I2,eA,ea,hw⟩:=h3
  obtain⟨⟨t0,h1⟩,_⟩:=I2.eN a _ ea
  refine⟨a,_,_,rfl,I2.bk _ _ hC,h1,rfl,rfl,rfl,?_⟩
  refine hM ac Z (del H2 a) s3 a (.ref C) eA (I2.MU ea) ⟨⟨_,_,h1,rfl,rfl,rfl,rfl,rfl⟩⟩ Bp n0 (λz=>?_) (λy c ec z=>?_) (λp hp z=>?_) hw
  .have:=I2.free;rw[<-z,ea] at this;cases this
  .have:=I2.jv y c ec;rw[z,ea] at this;cases this
  .have:=(I2.pin p hp).2.1;rw[z,ea] at this;cases this
end
section
variable {X:Cx}{W:ag->Option ai->St->Hp->Prop}
def MW (W:ag->Option ai->St->Hp->Prop) (cls:ag) (t:TA):TS:=λ_ Z H=>t Z H λvs H1=>vs.length<=sizeLine/\W cls none Z H1
def h_ (hM:D_ X W) (hc:X.calm=true) (hex:X.ex=[]) (O:t_ X.K X.mg x C) (hg:Gl X x) (ha:PA X (e::es) t) (qM:(x==("__debug__":Str))=false:=by decide)
  (he:starEach (e::es) X.env=(false,eval e X.env)::starEach es X.env:=by rfl) (j4:(backTo kh (starEach es X.env)).any (·.1)=false:=by rfl):
  PS X (.Raise (some (.Call (.Name x np) (e::es) [] kh)) none pos) (MW W (.ref C) t):=by
 intro ac s Z H D I h
 have OB:=O.own I.ok.mod.lT
 obtain⟨tl,N,nm,q,bs,hdct,sn,sub,ab,col,dd,k0,k1,k2,k3,k5,mN,hC,hN,Qr,T⟩:=OB.obj
 refine wpAny_Raise_call_subT (C:=C) (nm:=nm) (q:=q) (N:=N) (bs:=bs) (bm:=tl) (hdct:=hdct) (sn:=sn) (sub:=sub) (ab:=ab) (col:=col) (dd:=dd) (k0:=k0) (k1:=k1) (k2:=k2) (k3:=k3) (k5:=k5)
  gR (mN:=mN) (T.hasType gR.hasBase) (I.ok.hd hc) (by rw[he];show(false||(backTo kh (starEach es X.env)).any (·.1))=false;rw[j4];rfl) Qr (jG I hg O.at' ⟨rfl,?_⟩ qM)
 have h2:=ha kh ac s Z H _ I h
 rw[he] at h2⊢
 refine B_ (bF h2 (λvs tS ⟨xs,H1,I1,r,z,q⟩=>⟨rfl,by rw[<-r.length];exact z,I1.bk _ _ hC,hN.keeps I1.bk,T.keeps I1.bk,λh' e' mk=>?_⟩) λ_ _ y=>y)
 have J:Inv X ac Z H1 {tS with heap:=h'}:=I1.kept (t':=tS.toks) λb o e=>mk.keeps b o e
 obtain⟨t0,m1,_,_⟩:=mk.there
 refine hM ac Z H1 {tS with heap:=h'} e' (.ref C) none J ⟨⟨_,_,m1,rfl,rfl,rfl,rfl,rfl⟩⟩ ?_ ?_ ?_ ?_ ?_ q
 .cases g:H1 e' with
  |none=>rfl
  |some u=>obtain⟨o,ho⟩:=mE (I1.eN e' u g);rw[mk.new] at ho;cases ho
 .cases g:X.gW.heap.get? e' with
  |none=>rfl
  |some o=>obtain⟨o',ho⟩:=I1.base.there e' o g (by rw[hex];intro z;cases z);rw[mk.new] at ho;cases ho
 .intro z
  obtain⟨m,⟨o,_,_,ho,_⟩,_⟩:=I1.loc
  rw[<-z,mk.new] at ho;cases ho
 .intro y c ec z
  obtain⟨v,o,ho,_⟩:=I1.cell y c ec
  rw[z,mk.new] at ho;cases ho
 .intro p hp z
  have:=(I1.pin p hp).1
  rw[z,mk.new] at this;cases this
def oG (C:ai) (m:Str) (sp:Sp) (W:ag->Option ai->St->Hp->Prop) (ta:TE) (t:TA):TE:=λZ H Q=>ta Z H λx H1=>∃a dx fs,x=.ref a/\H1 a=some (.ins C dx fs)/\fs.lookup m=none/\
 t Z H1 λvs H2=>sp (x::vs) H2 Q λcls eA H'=>W cls eA Z H'
def yd (P:aJ) (w:bB) (K:Φ) (mg:Str->Option ag) (base:Heap) (k:Nat) (C:ai) (m:Str) (ps:List Str) (sp:Sp):Prop:=
 AK K C/\∃f fd,dR P w K mg base (rB P w) k f fd ps sp/\Binds K fd ps []/\uR K C m f
variable {k:Nat}{C:ai}{m:Str}{ps:List Str}{sp:Sp}{o e:Expr}{es:List Expr}{ta:TE}{t:TA}{apos pos:Pos}
def xi {pl:Sem Bool}(D:yd X.prog X.w X.K X.mg X.base k C m ps sp) (hr:eB k X.A) (hL:xf X W) (he:PE X o ta) (ha:PA X (e::es) t)
  (Ge:starEach (e::es) X.env=(false,eval e X.env)::starEach es X.env:=by rfl) (j4:(backTo pos (starEach es X.env)).any (·.1)=false:=by rfl)
  (ht:eval (.Call (.Attribute o m apos) (e::es) [] pos) X.env=(do
   let ov<-eval o X.env
   standAt apos.atName
   let(f,first)<-holding [ov] (getMethod ov m pl)
   callWith pos f first (backTo pos (starEach (e::es) X.env)) (backToKw pos (keywordEach [] X.env))):=by rfl):
  PE X (.Call (.Attribute o m apos) (e::es) [] pos) (oG C m sp W ta t):=by
 intro ac s Z H Q I h
 obtain⟨c,f,fd,F,hb,hm⟩:=D
 refine gS (pl:=pl) (fE (he ac s Z H _ I h) λu s1 c_=>?_) ht
 obtain⟨x,H1,I1,rx,a,dx,fs,ex,ea,l,q⟩:=c_
 subst ex
 obtain rfl:u=Value.ref a:=rx
 refine lW I1 ea c hm l ?_
 refine jc (first:=[.ref a]) (h₀:=X.base) I.ok.mod.lT hm.kp (fE (ha pos ac s1 Z H1 _ I1 q) λus s2 c_=>?_) Ge j4
 obtain⟨vs,H2,I2,r,q2⟩:=c_
 refine⟨I2.lK,?_⟩
 exact zQ (us:=.ref a::us) (vs:=.ref a::vs) (mR:=[]) (ds:=[]) F hr hb .nil hL I2 (.cons rfl r) (by rw[cU];exact q2)
def Ft {pl:Sem Bool}(D:yd X.prog X.w X.K X.mg X.base k C m ps sp) (hr:eB k X.A) (hL:xf X W) (he:PE X o ta)
  (ht:eval (.Call (.Attribute o m apos) [] [] pos) X.env=(do
   let ov<-eval o X.env
   standAt apos.atName
   let(f,first)<-holding [ov] (getMethod ov m pl)
   callWith pos f first (backTo pos (starEach [] X.env)) (backToKw pos (keywordEach [] X.env))):=by rfl):
  PE X (.Call (.Attribute o m apos) [] [] pos) (oG C m sp W ta eW):=by
 intro ac s Z H Q I h
 obtain⟨c,f,fd,F,hb,hm⟩:=D
 refine gS (pl:=pl) (fE (he ac s Z H _ I h) λu s1 c_=>?_) ht
 obtain⟨x,H1,I1,rx,a,dx,fs,ex,ea,l,q⟩:=c_
 subst ex
 obtain rfl:u=Value.ref a:=rx
 refine lW I1 ea c hm l ?_
 exact o6 (first:=[.ref a]) I1.lK hm.kp (zQ (us:=[.ref a]) (vs:=[.ref a]) (mR:=[]) (ds:=[]) F hr hb .nil hL I1 (.cons rfl .nil) q)
end
def Vl (K:Φ) (C:ai) (tb:(ag->Option ai->St->Hp->Prop)->TS) (ts:TS):TS:=λD Z H=>
 tb (λcls eA bX H'=>exmOne K cls (.ref C)=some true/\ts D bX H') D Z H
def MX (J0:X.stack=X.env::X.outer) (Bj:X.env.frame=some X.env.locals)
  (hg:Gl X x) (hm:X.mg x=some (.ref C)) (hb:∀ac W,xU (X.zR ac W) body (tb W)) (hs:∀a,xU (X.Ax a) (b0::J_) ts) (qM:(x==("__debug__":Str))=false:=by decide):
  PS X (.Try body [.ExceptHandler (some (.Name x xp)) none (b0::J_) hp] [] [] pos) (Vl X.K C tb ts):=by
 intro ac s Z H D I h
 refine wpAny_Try_except ?_
 refine bF (hb ac _ [] s Z H D (I.zR _) h) (λf s1 q=>?_) λe s1 q=>?_
 .have q':=q.pU
  cases f with
  |next=>exact aj q'
  |brk=>exact q'
  |cont=>exact q'
  |ret u=>exact q'
 .obtain⟨a,cls,eA,bX,H',rfl,I1,⟨B,Bl,uO,Oi,o1,o2⟩,w1,w2⟩:=q
  have Zu:X.A.frames=some (X.env::X.outer):=by rw[<-J0];exact I.ok.frames
  rw[J0] at Bl
  refine xc Zu Bj Bl λh1 G1 u1=>?_
  have I2:=I1.uv Bl.st G1.st u1 uO Oi o1 o2
  refine ug (s:={s1 with heap:=h1}) G1 λh2 G2 u2=>?_
  have I3:=I2.uv G1.st G2.st u2 uO Oi o1 o2
  refine wpAny_handleBy_cons (codeAny_handlers_test ?_) (λz=>nomatch z)
  refine jG (X:=X.Ax a) (I3.Ax a) hg hm ?_ qM
  obtain⟨oe,vs,T,oT,ts',he,hc,r⟩:=G2.tr
  have lt:Looks (model X.prog X.w) h2 (typeOf (.ref a)) cls:=by
   rw[<-hc]
   exact(mJ he).andThen .now
  refine(exm_one (M:=model X.prog X.w) (K:=X.K) (h:=h2) (I3.lK) lt w1).here ?_
  refine codeAny_handlers_suite ?_
  refine ug (s:={s1 with heap:=h2}) G2 λh3 G3 u3=>?_
  have I4:=I3.uv G2.st G3.st u3 uO Oi o1 o2
  refine bF (hs a ac _ _ _ _ (I4.Ax a) w2) (λf s7 q=>?_) λ_ _ z=>False.elim z
  have un:∀{uQ:St} {H7:Hp},Inv (X.Ax a) ac uQ H7 s7->Inv X ac uQ H7 s7:=λJ=>J.Oa I.ok.hd I.ok.frames
  cases f with
  |next=>obtain⟨uQ,H7,J,q⟩:=q;exact⟨_,_,un J,q⟩
  |brk=>obtain⟨uQ,H7,J,q⟩:=q;exact⟨_,_,un J,q⟩
  |cont=>obtain⟨uQ,H7,J,q⟩:=q;exact⟨_,_,un J,q⟩
  |ret u=>obtain⟨v,uQ,H7,J,r,q⟩:=q;exact⟨v,_,_,un J,r,q⟩
end L2
local macro_rules
 | `(tactic| exists $h, $o, $H, $t, $s, $w, $M) => do
  let f (x : Lean.TSyntax `term) : Lean.TSyntax `ident := ⟨x.raw⟩
  `(tactic| (have $(f s):ident := L2.aO $h $o; have $(f w):ident : L2.upd $H $t $o $t = some $o := L2.aB; (try dsimp only); generalize L2.upd $H $t $o = $(f M):ident at *))
namespace K13
open PySem L2 HT
def lZ (i j:Str):decide (V.str i=V.str j)=decide (i=j):=by
 by_cases e:i=j
 .rw[e];simp
 .rw[bE e,bE (λz=>e (by injection z))]
def Br {ss:List Str}(h:i<ss.length):(ss.map V.str).getD i .eU=.str ss[i]:=by
 rw[bw,cg,aH h];rfl
def gj {α:Type}{l:List α}{i:Nat}(h:i<l.length):l.take (i+1)=l.take i++ [l[i]]:=by
 rw[rn,aH h];rfl
def bP (s:bg H H1) (n:H p=none):bg H (upd H1 p o):=λb u e=>by
 rw[bb (λz=>by rw[z,n] at e;cases e)];exact s _ _ e
def ite_yes {c:Prop} [Decidable c] {A B:Prop}(h:c) (a:A):if c then A else B:=by rw[aT h];exact a
def ite_no {c:Prop} [Decidable c] {A B:Prop}(h:¬c) (a:B):if c then A else B:=by rw[aP h];exact a
def Bs {x:Str}:(l++ [x]).filter f=if f x=true then l.filter f++ [x] else l.filter f:=by
 rw[lI]
 by_cases h:f x=true
 .rw[aT h,tM h];rfl
 .rw[aP h,tN h];simp
section
variable {P:aJ}{w:bB}{K:Φ}{mg:Str->Option ag}{base:Heap}
def zT {H1:Hp}{L a:ai}{A:List Str}{x:Str}{Q:VK}(v:Option V) (hL:H1 L=none) (h:H1 a=some (.tup (A.map V.str))) (hl:A.length<=1000) (q:∀J,bg H1 J->J L=some (.lst ((A.filter λn=>!decide (n=x)).map V.str))->Q (.ref L) J):
  pK (Cr K a) (de 0) (gI (gH LM (cj 0) (cj 1))) (cj 0) [v,some (.str x)] H1 Q L:=by
 refine mB (n:=A.length) (f:=λi=>(A.map V.str).getD i .eU) (λj ys bX J=>(∃v,bX=[v,some (.str x)])/\bg H1 J/\ys=((A.take j).filter λn=>!decide (n=x)).map V.str) hL hl ⟨⟨_,rfl⟩,bP (bg.refl _) hL,rfl⟩ ?_ ?_ ?_
 .rintro j ys bX J hj hy ⟨_,sj,_⟩
  have:=kD (K:=K) (bZ.of (sj _ _ h)) j (by rw[aq];exact hj)
  rw[aq] at this
  exact this
 .rintro j ys bX J hj hy ⟨⟨v,rfl⟩,sj,rfl⟩
  rw[Br hj]
  refine⟨_,rfl,_,rfl,rfl,_,rfl,?_⟩
  rw[lZ,gj hj,Bs]
  by_cases e:A[j]=x
  .refine ite_no (by simp[e]) ?_
   refine⟨hy,⟨_,rfl⟩,sj,?_⟩
   rw[aP (by simp[e])]
  .refine ite_yes (by simp[e]) ?_
   refine⟨_,rfl,hy,⟨_,rfl⟩,bP sj hL,?_⟩
   rw[aT (by simp[e]),bL]
   rfl
 .rintro ys bX J hy ⟨_,sj,rfl⟩
  rw[dB] at hy
  exact q J sj hy
abbrev Zy:Stmt:=top 19
def Vm (K:Φ):Sp:=λvs H Q _=>∃(a b:ai) (t1 b1 t2 b2:Int),vs=[.ref a,.ref b]/\bZ K H a [.int t1,.int b1]/\bZ K H b [.int t2,.int b2]/\0<b1/\0<b2/\b1<2^60/\b2<2^60/\t1.natAbs<2^60/\t2.natAbs<2^60/\
 ∀p,H p=none->Q (.ref p) (upd H p (.tup [.int (ek (t1*b2-t2*b1) (b1*b2)),.int (dS (t1*b2-t2*b1) (b1*b2))]))
def Zz:bY ["one","other"] ["one","other"] (ar Zy):={}
def lN {x y:Int}(hx:x.natAbs<2^a) (hy:y.natAbs<2^b):(x*y).natAbs<2^(a+b):=by
 rw[Ly,Nat.pow_add]
 exact Nat.mul_lt_mul'' hx hy
def bqA (p:0<b) (l:b<2^60):-2^64<b/\b<2^64/\b.natAbs<2^60:=ω
def bqB {a b:Int}(m1:a.natAbs<2^120) (m2:b.natAbs<2^120):(a-b).natAbs<2^150:=bf (Cf a b) (fA (LB m1 m2) δ)
def Vn (F:jg K "fraction_less" "fraction_less" Zy f fd) (DF:Df P w K mg base 1 "fraction" ["top","bottom"] JR):dR P w K mg base fN 2 f fd ["one","other"] (Vm K):=by
 exists F.ok,Zz
 .obtain⟨a,b,t1,b1,t2,b2,rfl,_⟩:=h
  rfl
 .obtain⟨a,b,t1,b1,t2,b2,rfl,h1,h2,p1,p2,l1,l2,m1,m2,q⟩:=h
  refine⟨_,aF (bN (cE DF hr (ae (bW kW (bW mM (aU aZ (pv 0) ao) (aU aZ (pv 1) ao)) (bW mM (aU aZ (pv 1) ao) (aU aZ (pv 0) ao)))
   (ae (bW mM (aU aZ (pv 0) ao) (aU aZ (pv 1) ao)) ah)))),?_⟩
  obtain⟨x1,x2,x3⟩:=bqA p2 l2
  obtain⟨y1,y2,y3⟩:=bqA p1 l1
  have c1:Gj t1 b2:=.inr ⟨x1,x2⟩
  have c2:Gj t2 b1:=.inr ⟨y1,y2⟩
  have c3:Gj b1 b2:=.inr ⟨x1,x2⟩
  have z:(b1*b2).natAbs<2^120:=lN (a:=60) (b:=60) y3 x3
  have z1:(t1*b2).natAbs<2^120:=lN (a:=60) (b:=60) m1 x3
  have z2:(t2*b1).natAbs<2^120:=lN (a:=60) (b:=60) m2 y3
  refine⟨_,rfl,a,_,0,_,rfl,rfl,h1,aV (j:=0) rfl,_,rfl,b,_,1,_,rfl,rfl,h2,aV (j:=1) rfl,_,_,rfl,rfl,c1,_,rfl,b,_,0,_,rfl,rfl,h2,aV (j:=0) rfl,_,rfl,a,_,1,_,rfl,rfl,h1,aV (j:=1) rfl,_,_,rfl,rfl,c2,_,_,rfl,rfl,?_⟩
  refine⟨_,rfl,a,_,1,_,rfl,rfl,h1,aV (j:=1) rfl,_,rfl,b,_,1,_,rfl,rfl,h2,aV (j:=1) rfl,_,_,rfl,rfl,c3,?_⟩
  exact⟨_,_,rfl,rz p1 p2,fA z δ,bqB z1 z2,q⟩
abbrev ZA:Stmt:=top 27
def ZC:List (Str×NameKind):=[(".0",.local),("name",.local),("leaves",.free)]
def ZD:(["name","leaves"]:List Str).Nodup:=by decide+kernel
def Vo:Sp:=λvs H Q _=>∃(a:ai) (A:List Str) (m y:Str),vs=[.ref a,.str m,.str y]/\H a=some (.tup (A.map V.str))/\A.length<=12/\
 ∀(t:ai) (C:List Str) (H':Hp),bg H H'->H' t=some (.tup (C.map V.str))->C.Perm (exc A m y)->PyProof.Rows.sortedS C=true->Q (.ref t) H'
def ZE:bY ["crew","leaves","enters"] ["crew","leaves","enters"] (ar ZA):={}
def Vp (F:jg K "exchanged" "exchanged" ZA f fd) (T:Txt mg):dR P w K mg base fN 1 f fd ["crew","leaves","enters"] Vo:=by
 exists F.ok,ZE
 .obtain⟨a,A,m,y,rfl,_⟩:=h
  rfl
 .obtain⟨a,A,m,y,rfl,h1,l12,q⟩:=h
  refine⟨_,aF (bN (fG fK rfl T.tuple cC (ae (aR iW rfl T.sorted fV (ae (bW mT (kI (N:=["name","leaves"]) (g:=de 0) (tc:=gI (gH LM (cj 0) (cj 1))) (te:=cj 0) rfl (iF (pv 0))
   (fD.one (v:="name") (fr:="leaves") (j:=1) (nm:=ZC) rfl rfl rfl rfl)
   (λ_ _ _=>a_ (i:=0) ZD) (λ_ _ _=>iw (bo lV (pv 0) (pv 1) (bG _))) (λ_ _ _=>pv 0)) (cW (ae (pv 2) ah))) ah)) ah))),?_⟩
  have lf:(A.filter λn=>!decide (n=m)).length<=12:=aA (eM _ _) l12
  refine⟨_,rfl,a,rfl,⟨_,bZ.of h1⟩,λL hL=>?_⟩
  refine zT none hL h1 ω λJ sJ hJ=>?_
  refine⟨_,rfl,dZ,λe he=>?_⟩
  exists he,.lst [.str y],J,e,s2,YN,J2
  refine⟨L,e,_,_,rfl,rfl,s2 _ _ hJ,YN,dE (eF (by rw[aq];simp only[aN];omega)),λc hc=>?_⟩
  have em:(A.filter λn=>!decide (n=m)).map V.str++ [V.str y]=(exc A m y).map V.str:=by unfold exc;rw[bL];rfl
  rw[em]
  exists hc,.lst ((exc A m y).map V.str),J2,c,s3,Zv,J3
  refine⟨c,exc A m y,rfl,cQ.of Zv,by unfold exc;rw[aQ,aN];omega,λl C hl pm so=>?_⟩
  exists hl,.lst (C.map V.str),J3,l,s4,Lh,J4
  refine⟨l,_,rfl,.inl ⟨cQ.of Lh,λt ht=>?_⟩⟩
  exact q t C _ ((((sJ.trans s2).trans s3).trans s4).trans (aO ht _)) aB pm so
def QJ (a b:List Str):PyData:=.tuple [.tuple (cz a),.tuple (cz b)]
def QK (t a b:Nat):t≠t+a+b+1/\a≠t+a+b+1/\b≠t+a+b+1:=ω
def Bt (h1:H t=some (.tup [.ref a,.ref b])) (h2:H a=some (.tup (A.map V.str))) (h3:H b=some (.tup (B.map V.str))):Tells H (t+a+b+1) (QJ A B) (.ref t):=
 e_.mpr ⟨t,_,rfl,(QK t a b).1,h1,bV.mpr ⟨_,_,rfl,e_.mpr ⟨a,_,rfl,(QK t a b).2.1,h2,kK A⟩,bV.mpr ⟨_,_,rfl,e_.mpr ⟨b,_,rfl,(QK t a b).2.2,h3,kK B⟩,eI.mpr rfl⟩⟩⟩
def nO (hc:∀n∈c,okN n) (hl:c.length<=12):Bd 13 1 (.tuple (cz c)):=by
 refine(Bd.tuple (n:=1) (p:=0) (m:=12) (λx hx=>?_) (by unfold cz;rw[aq];exact hl)).mono δ δ
 obtain⟨n,hn,rfl⟩:=cT.mp hx
 exact mX (hc n hn).1 (hc n hn).2.1
def Om (ha:∀n∈a,okN n) (hb:∀n∈b,okN n) (la:a.length<=12) (lb:b.length<=12):Bd 30 2 (QJ a b):=by
 refine(Bd.tuple (n:=13) (p:=1) (m:=2) (ds:=[.tuple (cz a),.tuple (cz b)]) (λx hx=>?_) (av 2)).mono δ δ
 simp only[aD,aG,cx] at hx
 rcases hx with rfl|rfl
 .exact nO ha la
 .exact nO hb lb
def lQ:∀(a b:List Str),PyData.eqv (.tuple (cz a)) (.tuple (cz b))=decide (a=b)
 | [],[]=>by simp[cz,PyData.eqv,PyData.eqvAll]
 | [],_::_=>by simp[cz,PyData.eqv,PyData.eqvAll]
 |_::_,[]=>by simp[cz,PyData.eqv,PyData.eqvAll]
 |x::a,y::b=>by
  have ih:=lQ a b
  simp only[cz,PyData.eqv,PyData.eqvAll,bQ] at ih⊢
  rw[ih]
  by_cases h1:x=y
  .by_cases h2:a=b<;>simp[h1,h2]
  .simp[h1]
def QL:PyData.eqv (QJ a b) (QJ c d)=decide (a=c/\b=d):=by
 have h1:=lQ a c
 have h2:=lQ b d
 simp only[QJ,PyData.eqv,PyData.eqvAll] at h1 h2⊢
 rw[h1,h2]
 by_cases e1:a=c<;>by_cases e2:b=d<;>simp[e1,e2]
abbrev ZF:Stmt:=top 28
def Vq (CN:ai):Sp:=λvs H Q E=>∃(r1 r2:ai) (p q:qW),vs=[.ref r1,.ref r2]/\kq H r1 p/\kq H r2 q/\iL p/\iL q/\gz p/\
 (((∀m y,¬Xp p q m y)/\∀H',bg H H'->E (.ref CN) none H')\/∃m y,Xp p q m y/\∀t H',bg H H'->H' t=some (.tup [.str m,.str y])->Q (.ref t) H')
def QM:bY ["one","other","mine","yours"] ["one","other"] (ar ZF):={}
def Vr (F:jg K "exchanged_pair" "exchanged_pair" ZF f fd) (ON:t_ K mg "NoTrial" CN) (DX:Df P w K mg base 1 "exchanged" ["crew","leaves","enters"] Vo):dR P w K mg base (rB P w) 2 f fd ["one","other"] (Vq CN):=by
 exists F.MM,QM
 .obtain⟨r1,r2,p,q,rfl,_⟩:=h
  rfl
 .obtain⟨r1,r2,p,q,rfl,h1,h2,o1,o2,cp,hq⟩:=h
  refine⟨_,aw (PS.kz (mL fg rfl (iF (aU aZ (pv 0) ao)) (a_ (i:=2) QM.nd)
    (aF (mL fg rfl (iF (aU aZ (pv 0) ao)) (a_ (i:=3) QM.nd)
     (aF (cS (bo (pL hr.units) (hX zx (pv 1) jL (iU ao)) (bU (ae (cE DX hr (ae (aU aZ (pv 0) ao) (ae (pv 2) (ae (pv 3) ah)))) (ae (cE DX hr (ae (aU aZ (pv 0) ao) (ae (pv 3) (ae (pv 2) ah)))) ah))) (bG _))
      (aF (bN (bU (ae (pv 2) (ae (pv 3) ah))))) bO))))))
   (aF (h_ (W:=λcls eA _ H'=>E cls eA H') jQ rfl rfl ON rfl (ae bh ah))),?_⟩
  obtain⟨a,b,e1,e2,e3⟩:=h1
  obtain⟨c,d,g1,g2,g3⟩:=h2
  have la4:=o1.a.l4
  have lb4:=o1.b.l4
  refine iO rfl (bZ.of e1) (aV (j:=0) rfl) ⟨a,rfl,⟨_,bZ.of e2⟩,ER (K:=K) (a:=a) (xs:=p.a.map V.str) (λi bX H'=>∃v2 v3,bX=[some (.ref r1),some (.ref r2),v2,v3]/\bg H H'/\∀m∈p.a.take i,∀y,¬Xp p q m y)
   ⟨none,none,rfl,bg.refl _,ς⟩ (λi bX H' _ ⟨_,_,_,sm,_⟩=>bZ.of (sm _ _ e2)) ?_ ?_⟩
  .rintro i x bX H1 hx ⟨v2,v3,rfl,sm,no⟩
   have hi:i<p.a.length:=by have:=(bD.mp hx).1;rwa[aq] at this
   rw[cg,aH hi] at hx
   cases hx
   have mm:=cF hi
   have tk:=gj hi
   rw[tk]
   generalize p.a[i]=m at*
   refine iO rfl (bZ.of (sm _ _ e1)) (aV (j:=1) rfl) ⟨b,rfl,⟨_,bZ.of (sm _ _ e3)⟩,ER (K:=K) (a:=b) (xs:=p.b.map V.str) (λj bX H'=>∃v3,bX=[some (.ref r1),some (.ref r2),some (.str m),v3]/\bg H H'/\∀y∈p.b.take j,¬Xp p q m y)
    ⟨_,rfl,sm,ς⟩ (λi bX H' _ ⟨_,_,sm,_⟩=>bZ.of (sm _ _ e3)) ?_ ?_⟩
   .rintro j x bX H2 hx ⟨w3,rfl,s2,SO⟩
    have hj:j<p.b.length:=by have:=(bD.mp hx).1;rwa[aq] at this
    rw[cg,aH hj] at hx
    cases hx
    have my:=cF hj
    have tk2:=gj hj
    generalize p.b[j]=y at*
    refine⟨_,rfl,_,rfl,r2,_,rfl,bZ.of (s2 _ _ g1),(show ¬(iA 5 0 none=0/\iA 5 5 (some 2)=5) by decide+kernel),λsl Vs=>?_⟩
    have s3:=bP (o:=.tup [.ref c,.ref d]) (bg.refl H2) Vs
    have BV:upd H2 sl (.tup [.ref c,.ref d]) sl=some (.tup [.ref c,.ref d]):=aB
    show mQ _ _ (upd H2 sl (.tup [.ref c,.ref d])) _
    generalize upd H2 sl (.tup [.ref c,.ref d])=H3 at*
    have lO:=s2.trans s3
    refine iO rfl (bZ.of (lO _ _ e1)) (aV (j:=0) rfl) ⟨_,rfl,_,rfl,a,p.a,m,y,rfl,lO _ _ e2,ω,λt1 C1 H4 s4 Fp SQ QN=>?_⟩
    have Ay:=lO.trans s4
    refine iO rfl (bZ.of (Ay _ _ e1)) (aV (j:=1) rfl) ⟨_,rfl,_,rfl,b,p.b,y,m,rfl,Ay _ _ e3,ω,λt2 C2 H5 s5 zP SR ZG=>?_⟩
    have xG:=Ay.trans s5
    refine⟨dZ,λt ht=>?_⟩
    have s6:=bP (o:=.tup [.ref t1,.ref t2]) (bg.refl H5) ht
    have ht6:upd H5 t (.tup [.ref t1,.ref t2]) t=some (.tup [.ref t1,.ref t2]):=aB
    generalize upd H5 t (.tup [.ref t1,.ref t2])=H6 at*
    have xH:=xG.trans s6
    have UX:y∉p.a:=λz=>cp.no _ z my
    have UY:m∉p.b:=cp.no _ mm
    have x1:ya p.a m y C1:=vt cp.a.nodup UX SQ QN
    have x2:ya p.b y m C2:=vt cp.b.nodup UY SR ZG
    have Fu:∀n∈C1,okN n:=λn hn=>by
     rcases lM.mp (SQ.mem_iff.mp hn) with z|z
     .exact o1.a.ok n z.1
     .rw[z];exact o1.b.ok y my
    have Fv:∀n∈C2,okN n:=λn hn=>by
     rcases lM.mp (SR.mem_iff.mp hn) with z|z
     .exact o1.b.ok n z.1
     .rw[z];exact o1.a.ok m mm
    have l1:C1.length<=12:=by
     rw[SQ.length_eq];unfold exc;rw[aQ,aN]
     have:=eM (λn=>!decide (n=m)) p.a
     omega
    have l2:C2.length<=12:=by
     rw[SR.length_eq];unfold exc;rw[aQ,aN]
     have:=eM (λn=>!decide (n=y)) p.b
     omega
    have bq:=Om o2.a.ok o2.b.ok (aA o2.a.l4 δ) (aA o2.b.l4 δ)
    have bc:=Om Fu Fv l1 l2
    refine⟨_,_,QJ q.a q.b,QJ C1 C2,Bt (((s4.trans s5).trans s6) _ _ BV) (xH _ _ g2) (xH _ _ g3),Bt ht6 ((s5.trans s6) _ _ Fp) (s6 _ _ zP),bq.lay δ,bc.lay δ,_,rfl,?_⟩
    rw[QL]
    refine eY (λz=>?_) (λz=>?_)
    .obtain⟨z1,z2⟩:=aX z
     have xp:Xp p q m y:=⟨mm,my,z1▸x1,z2▸x2⟩
     rcases hq with⟨Vt,_⟩|⟨m',y',x',hQ⟩
     .exact absurd xp (Vt _ _)
     .obtain⟨rfl,rfl⟩:=xp.uniq cp x'
      refine⟨_,rfl,_,rfl,dZ,λu hu=>?_⟩
      exact hQ u _ (xH.trans (bP (bg.refl _) hu)) aB
    .refine⟨_,rfl,xH,?_⟩
     rw[tk2]
     intro y' Yv x'
     rcases bK.mp Yv with h|h
     .exact SO y' h x'
     .rw[bA.mp h] at x'
      exact z (aI ⟨x'.a.uniq x1,x'.b.uniq x2⟩)
   .rintro bX H2 ⟨w3,rfl,s2,SO⟩
    rw[aq,dB] at SO
    refine⟨_,_,rfl,s2,?_⟩
    intro m' UA y' x'
    rcases bK.mp UA with h|h
    .exact no m' h y' x'
    .rw[bA.mp h] at x'
     exact SO y' x'.hy x'
  .rintro bX H1 ⟨v2,v3,rfl,sm,no⟩
   rw[aq,dB] at no
   rcases hq with⟨_,hE⟩|⟨m,y,x,_⟩
   .exact⟨dZ,hE H1 sm⟩
   .exact absurd x (no m x.hm y)
end
end K13
namespace K13
open PySem L2 HT PySem.W
section
variable {P:aJ}{w:bB}{K:Φ}{mg:Str->Option ag}{base:Heap}
def Xq (P:aJ) (w:bB) (K:Φ) (mg:Str->Option ag) (base:Heap) (k:Nat) (x:Str) (ps:List Str) (sp:Sp):Prop:=
 ∃f fd,dR P w K mg base (rB P w) k f fd ps sp/\Binds K fd ps []/\keepIn K (.ref f)=true/\mg x=some (.ref f)
def Ka (D:Xq X.prog X.w X.K X.mg X.base k x ps sp) (hr:eB k X.A) (hL:xf X W) (ha:PA X (e::es) t) (hg:Gl X x:=by rfl) (qM:(x==("__debug__":Str))=false:=by decide)
  (he:starEach (e::es) X.env=(false,eval e X.env)::starEach es X.env:=by rfl) (j4:(backTo pos (starEach es X.env)).any (·.1)=false:=by rfl):PE X (.Call (.Name x p) (e::es) [] pos) (Ea sp [] W t):=by
 obtain⟨f,fd,F,b,kp,m⟩:=D
 exact JZ F hr hg m kp b .nil hL ha qM he j4
def ZH (P:aJ) (w:bB) (K:Φ) (mg:Str->Option ag) (base:Heap) (k:Nat) (x:Str) (ps:List Str) (sp:ai->Sp):Prop:=
 ∃f fd,Ba P w K mg base k f fd ps sp/\Binds K fd ps []/\keepIn K (.ref f)=true/\mg x=some (.ref f)
def QO (D:ZH X.prog X.w X.K X.mg X.base k x ps sp) (hr:qH k a X.A) (ha:PA X (e::es) t) (hg:Gl X x:=by rfl) (qM:(x==("__debug__":Str))=false:=by decide)
  (he:starEach (e::es) X.env=(false,eval e X.env)::starEach es X.env:=by rfl) (j4:(backTo pos (starEach es X.env)).any (·.1)=false:=by rfl):PE X (.Call (.Name x p) (e::es) [] pos) (j0 (sp a) [] E0 t):=by
 obtain⟨f,fd,F,b,kp,m⟩:=D
 exact JA F hr hg m kp b ha qM he j4
abbrev ZI:Stmt:=top 29
abbrev Oo:=Str×Str×Int×Int
def zU (H:Hp) (q:ai) (r:Oo):Prop:=∃l,H q=some (.tup [.str r.1,.str r.2.1,.ref l])/\H l=some (.tup [.int r.2.2.1,.int r.2.2.2])
def zU.same (h:zU H q r) (s:bg H H'):zU H' q r:=by
 obtain⟨l,h1,h2⟩:=h
 exact⟨l,s _ _ h1,s _ _ h2⟩
def QP (CN:ai):Sp:=λvs H Q E=>∃(r1 r2:ai) (p q:qW),vs=[.ref r1,.ref r2]/\kq H r1 p/\kq H r2 q/\iL p/\iL q/\gz p/\
 (((∀m y,¬Xp p q m y)/\∀H',bg H H'->E (.ref CN) none H')\/∃m y,Xp p q m y/\∀t H',bg H H'->zU H' t (pT p q m y)->Q (.ref t) H')
def Kb:bY ["one","other","mine","yours","top","bottom"] ["one","other"] (ar ZI):={}
def uk:bootBuiltins "max"=some (.builtin "max"):=by decide+kernel
def bqC {a b:Int}(a1:1<=a) (a2:a<=1000000000) (b1:1<=b) (b2:b<=1000000000):(a-b).natAbs<2^60:=ω
def bqD {c:Int}(a1:1<=c) (a2:c<=1000000000):c.natAbs<2^150:=ω
def bqE {f c:Int}(l:f.natAbs<=c.natAbs) (a1:1<=c) (a2:c<=1000000000):f<2^60:=ω
def Vu (F:jg K "trial_of" "trial_of" ZI f fd) (T:Txt mg) (DX:Xq P w K mg base 2 "exchanged_pair" ["one","other"] (Vq CN)) (DL:Df P w K mg base 2 "fraction_less" ["one","other"] (Vm K)) (DM:Df P w K mg base 2 "margin" ["piece"] (UU K)):dR P w K mg base (rB P w) 3 f fd ["one","other"] (QP CN):=by
 exists F.MM,Kb
 .obtain⟨r1,r2,p,q,rfl,_⟩:=h
  rfl
 .obtain⟨r1,r2,p,q,rfl,h1,h2,o1,o2,cp,hq⟩:=h
  refine⟨_,aw (iE (Ka DX hr (W:=λcls eA _ H'=>E cls eA H') QF (ae (pv 0) (ae (pv 1) ah))) (fU rfl (bx (a_ (i:=2) Kb.nd) (bx (a_ (i:=3) Kb.nd) eX))))
   (xU.kz (aw (iE (cE DL hr (ae (cE DM hr (ae (pv 0) ah)) (ae (cE DM hr (ae (pv 1) ah)) ah))) (fU rfl (bx (a_ (i:=4) Kb.nd) (bx (a_ (i:=5) Kb.nd) eX))))
   (aw (cS (bo ym (pv 4) ao (bG _)) (aF (bN (bU (ae (pv 2) (ae (pv 3) (ae (bU (ae (pv 4) (ae (pv 5) ah))) ah)))))) bO)
   (aw (cS (bo rN (pv 4) ao (bG _)) (aF (bN (bU (ae (pv 3) (ae (pv 2) (ae (bU (ae (qC mP (pv 4)) (ae (pv 5) ah))) ah)))))) bO)
   (aF (bN (bU (ae (aR (Dk rfl) rfl T.min zd (ae (pv 2) (ae (pv 3) ah))) (ae (aR (Dl rfl) rfl T.max uk (ae (pv 2) (ae (pv 3) ah))) (ae (bU (ae ao (ae ao ah))) ah)))))))))),?_⟩
  refine⟨_,rfl,_,rfl,r1,r2,p,q,rfl,h1,h2,o1,o2,cp,?_⟩
  rcases hq with⟨no,hE⟩|⟨m,y,x,hQ⟩
  .exact .inl ⟨no,hE⟩
  refine .inr ⟨m,y,x,λt H1 s1 ht=>?_⟩
  refine GY (bZ.of ht) ?_
  have h1':=h1
  have PY:=h2
  obtain⟨a,b,e1,_,_⟩:=h1'
  obtain⟨c,d,g1,_,_⟩:=PY
  have SS:=o1.c1
  have pc9:=o1.c9
  have SU:=o2.c1
  have qc9:=o2.c9
  have bdp:(p.o-p.t).natAbs<2^60:=bqC o1.o1 o1.o9 o1.t1 o1.t9
  have bdq:(q.o-q.t).natAbs<2^60:=bqC o2.o1 o2.o9 o2.t1 o2.t9
  refine⟨_,rfl,r1,_,_,_,_,_,rfl,bZ.of (s1 _ _ e1),SS,bqD SS pc9,fA bdp δ,λm1 hm1=>?_⟩
  have s2:=bP (o:=.tup [.int (ek (p.o-p.t) p.c),.int (dS (p.o-p.t) p.c)]) (bg.refl H1) hm1
  have w2:upd H1 m1 (.tup [.int (ek (p.o-p.t) p.c),.int (dS (p.o-p.t) p.c)]) m1=some (.tup [.int (ek (p.o-p.t) p.c),.int (dS (p.o-p.t) p.c)]):=aB
  try dsimp only
  generalize upd H1 m1 (.tup [.int (ek (p.o-p.t) p.c),.int (dS (p.o-p.t) p.c)])=H2 at*
  refine⟨_,rfl,r2,_,_,_,_,_,rfl,bZ.of ((s1.trans s2) _ _ g1),SU,bqD SU qc9,fA bdq δ,λm2 hm2=>?_⟩
  have s3:=bP (o:=.tup [.int (ek (q.o-q.t) q.c),.int (dS (q.o-q.t) q.c)]) (bg.refl H2) hm2
  have w3:upd H2 m2 (.tup [.int (ek (q.o-q.t) q.c),.int (dS (q.o-q.t) q.c)]) m2=some (.tup [.int (ek (q.o-q.t) q.c),.int (dS (q.o-q.t) q.c)]):=aB
  try dsimp only
  generalize upd H2 m2 (.tup [.int (ek (q.o-q.t) q.c),.int (dS (q.o-q.t) q.c)])=H3 at*
  have bp:=nN (t:=p.o-p.t) (b:=p.c) SS
  have bq:=nN (t:=q.o-q.t) (b:=q.c) SU
  have lp:=wY (t:=p.o-p.t) (b:=p.c)
  have lq:=wY (t:=q.o-q.t) (b:=q.c)
  have tp:=wX (t:=p.o-p.t) (b:=p.c)
  have tq:=wX (t:=q.o-q.t) (b:=q.c)
  refine⟨m1,m2,_,_,_,_,rfl,bZ.of (s3 _ _ w2),bZ.of w3,bp,bq,bqE lp SS pc9,bqE lq SU qc9,bf tp bdp,bf tq bdq,λz hz=>?_⟩
  obtain⟨fd1,Vv⟩:=Qu (p:=p) (q:=q) SS SU
  rw[fd1,Vv]
  have cc:0<p.c*q.c:=rz SS SU
  obtain⟨sg1,sg2⟩:=Mz (t:=qX p q) cc
  have s4:=bP (o:=.tup [.int (ek (qX p q) (p.c*q.c)),.int (dS (qX p q) (p.c*q.c))]) (bg.refl H3) hz
  have w4:upd H3 z (.tup [.int (ek (qX p q) (p.c*q.c)),.int (dS (qX p q) (p.c*q.c))]) z=some (.tup [.int (ek (qX p q) (p.c*q.c)),.int (dS (qX p q) (p.c*q.c))]):=aB
  try dsimp only
  generalize upd H3 z (.tup [.int (ek (qX p q) (p.c*q.c)),.int (dS (qX p q) (p.c*q.c))])=H4 at*
  have s14:=((s1.trans s2).trans s3).trans s4
  refine GY (bZ.of w4) ?_
  have my:m≠y:=λz=>cp.no _ x.hm (z▸x.hy)
  refine⟨_,rfl,_,_,rfl,rfl,_,rfl,?_⟩
  refine eY (λu=>?_) (λu=>?_)
  .have dp:=sg1.mp (aX u)
   have et:pT p q m y=(m,y,ek (qX p q) (p.c*q.c),dS (qX p q) (p.c*q.c)):=by unfold pT;simp only[aT dp]
   refine⟨_,rfl,_,rfl,_,rfl,_,rfl,dZ,λl hl=>⟨dZ,λr hr=>?_⟩⟩
   have n:l≠r:=λz=>by rw[<-z,aB] at hr;cases hr
   refine hQ r _ ((s14.trans (bP (bg.refl _) hl)).trans (bP (bg.refl _) hr)) ?_
   rw[et]
   exact⟨l,aB,by rw[bb n];exact aB⟩
  have nd:¬0<qX p q:=λz=>u (aI (sg1.mpr z))
  refine⟨_,rfl,_,_,rfl,rfl,_,rfl,?_⟩
  refine eY (λu2=>?_) (λu2=>?_)
  .have dn:=sg2.mp (aX u2)
   obtain⟨ng1,ng2⟩:=Qv (t:=qX p q) cc
   have et:pT p q m y=(y,m,-ek (qX p q) (p.c*q.c),dS (qX p q) (p.c*q.c)):=by unfold pT;simp only[aP nd,aT dn,ng1,ng2]
   refine⟨_,rfl,_,rfl,_,rfl,_,rfl,_,rfl,dZ,λl hl=>⟨dZ,λr hr=>?_⟩⟩
   have n:l≠r:=λz=>by rw[<-z,aB] at hr;cases hr
   refine hQ r _ ((s14.trans (bP (bg.refl _) hl)).trans (bP (bg.refl _) hr)) ?_
   rw[et]
   exact⟨l,aB,by rw[bb n];exact aB⟩
  .have nn:¬qX p q<0:=λz=>u2 (aI (sg2.mpr z))
   have et:pT p q m y=(if eg y m=true then y else m,if eg m y=true then y else m,0,1):=by
    unfold pT
    simp only[aP nd,aP nn]
    rcases vn my with z|z
    .rw[aP (by rw[pR z];decide),aP (by rw[pR z];decide),aT z]
    .rw[aT z,aT z,aP (by rw[pR z];decide)]
   refine⟨_,rfl,_,rfl,m,y,rfl,_,rfl,_,rfl,m,y,rfl,dZ,λl hl=>⟨dZ,λr hr=>?_⟩⟩
   have n:l≠r:=λz=>by rw[<-z,aB] at hr;cases hr
   refine hQ r _ ((s14.trans (bP (bg.refl _) hl)).trans (bP (bg.refl _) hr)) ?_
   rw[et]
   exact⟨l,aB,by rw[bb n];exact aB⟩
end
def ye (p:qW):PyData:=.tuple [.tuple (cz p.a),.tuple (cz p.b),.int p.t,.int p.o,.int p.c]
def Kc (o:iL p):rZ (ye p):=by
 have i1:=o.t1;have i2:=o.t9;have i3:=o.o1;have i4:=o.o9;have i5:=o.c1;have i6:=o.c9
 refine(Bd.tuple (n:=13) (p:=1) (m:=5) (ds:=[.tuple (cz p.a),.tuple (cz p.b),.int p.t,.int p.o,.int p.c]) (λx hx=>?_) (av 5)).mono δ δ
 simp only[aD,aG,cx] at hx
 rcases hx with rfl|rfl|rfl|rfl|rfl
 .exact nO o.a.ok (aA o.a.l4 δ)
 .exact nO o.b.ok (aA o.b.l4 δ)
 .exact(i_ ω).mono δ δ
 .exact(i_ ω).mono δ δ
 .exact(i_ ω).mono δ δ
def pX (a:List Str):(cz a).map strOf=a:=by
 unfold cz
 rw[pf]
 exact List.map_id' a
def Bu:∀{a:List Str},Up a->(oO a).all id=true
 | [],_=>rfl
 | [x],_=>rfl
 |x::y::l,h=>by
  have e:oO (x::y::l)=Y2 x y::oO (y::l):=rfl
  have h':=AF.mp h
  rw[e,Au,Bu h'.2,Av]
  exact h'.1 y cy
def Fw (o:DJ a) (u:Up a):kN (.tuple (cz a))=true:=by
 show((decide (1<=((cz a).length:Int))&&decide (((cz a).length:Int)<=4))&&(((cz a).map fJ).all id&&(oO ((cz a).map strOf)).all id))=true
 have l:(cz a).length=a.length:=by unfold cz;exact aq _
 have h1:=o.l1
 have h4:=o.l4
 rw[pX,Bu u,l,aI ω,aI ω,Av,cA,Av,nB]
 intro b hb
 obtain⟨d,hd,rfl⟩:=cT.mp hb
 obtain⟨n,hn,rfl⟩:=cT.mp hd
 exact(o.ok n hn).2.2
def xj (op:iL p) (cp:gz p):gP (ye p)=true:=by
 show((kN (.tuple (cz p.a))&&(kN (.tuple (cz p.b))&&decide ((ju (.tuple (cz p.a))).length=(ju (.tuple (cz p.b))).length)))&&(!((ju (.tuple (cz p.a))).map λn=>decide (n∈ju (.tuple (cz p.b)))).any id&&(j9 (.int p.t)&&(j9 (.int p.o)&&j9 (.int p.c)))))=true
 have ea:ju (.tuple (cz p.a))=p.a:=pX p.a
 have eb:ju (.tuple (cz p.b))=p.b:=pX p.b
 have m:∀{i:Int},1<=i->i<=1000000000->j9 (.int i)=true:=λ{i} h1 h2=>by
  show(decide (1<=i)&&decide (i<=1000000000))=true
  rw[aI h1,aI h2];rfl
 have na:(p.a.map λn=>decide (n∈p.b)).any id=false:=by
  rw[B8]
  intro b hb
  obtain⟨n,hn,rfl⟩:=cT.mp hb
  rw[bE (cp.no n hn)]
  decide
 rw[ea,eb,Fw op.a cp.a,Fw op.b cp.b,aI cp.le,na,m op.t1 op.t9,m op.o1 op.o9,m op.c1 op.c9]
 rfl
end K13
namespace L2
open PySem PySem.Spec PyProof.Rows PySem.W
section
variable {X:Cx}{W:ag->St->Hp->Prop}{k:Nat}{C:ai}{m:Str}{ps:List Str}{sp:Sp}{o e:Expr}{es:List Expr}{ta:TE}{t:TA}{apos pos:Pos}
end
end L2
namespace L2
open PySem PySem.Spec PySem.W PyProof.Rows HT
section
variable {prog:aJ}{w:bB}{A:bH}{E:ag->ak->Prop}{s:ak}
def Bv (hl:s.heap.IsTuple l vs.toArray) (O:pO lt) (HU:vs.length<64)
  (ask:2<=vs.length->∀h',Fe s.heap h'->Mo prog w A.in1.in1 vs lt {s with heap:=h'})
  (fin:∀p:Array Nat,sZ vs.length p->BX lt p vs.length->Q (.ref (s.heap.objs.size+1)) {s with heap:=sortedAll s.heap vs (inOrder vs p)}):
  wpAny (model prog w) A (call (.builtin "sorted") [.ref l]) Q E s:=by
 refine uL kind_sorted plain_sorted entry_sorted (args_sorted1 _) ?_
 unfold Builtin.«sorted»
 refine aa (m:=checkCount "sorted" 1 1 _) (aj (aa (Jj hl (aa (HL ?_)) (by rw[hW];omega))))
 have z:((s.heap.push (seqObj "list" #[] 0)).update s.heap.objs.size (Obj.mapSeq (· ++vs.toArray))).objs.size=s.heap.objs.size+1:=by rw[lH,size_push']
 have qE:(((s.heap.push (seqObj "list" #[] 0)).update s.heap.objs.size (Obj.mapSeq (· ++vs.toArray))).push (seqObj "list" vs.toArray 0)).get? (s.heap.objs.size+1)=some (seqObj "list" vs.toArray 0):=z▸az _ rfl
 have old:∀b o,s.heap.get? b=some o->b<s.heap.objs.size/\(((s.heap.push (seqObj "list" #[] 0)).update s.heap.objs.size (Obj.mapSeq (· ++vs.toArray))).push (seqObj "list" vs.toArray 0)).get? b=some o:=λb o e=>by
  have lo:b<s.heap.objs.size:=aC e
  refine⟨lo,af _ ?_⟩
  rw[lS _ _ _ _ (bj lo)]
  exact af _ e
 show wpAny _ _ _ _ _ {s with heap:=((s.heap.push (seqObj "list" #[] 0)).update s.heap.objs.size (Obj.mapSeq (· ++vs.toArray))).push (seqObj "list" vs.toArray 0)}
 rw[z]
 refine aa (cm (dX slot_list_sort ⟨_,qE,rfl⟩ entry_list_sort ?_ (args_list_sort _)))
 refine qG qE O HU (λh2 h' k=>?_) λp pm so=>⟨_,rfl,aj ⟨_,rfl,fin p pm so⟩⟩
 exact ask h2 h' λb o e=>k b o (bj (ig (old b o e).1)) (old b o e).2
end
section
variable {X:Cx}{κ:Type}
def uW [DecidableEq κ] {lt:κ->κ->Bool}(S:Jv lt) (dk:κ):gN X (.builtin "sorted") (λxs H Q=>∃(p:ai) (L:List (mZ κ)) (R:mZ κ->mZ κ->Bool),xs=[.ref p]/\bZ X.K H p (L.map λe=>V.ref e.a)/\L.length<64/\(∀e∈L,bZ X.K H e.a (.str e.x::e.rest))/\
  (∀(ac:List (ai×Obj)) (Z:St) (s:ak),Inv X ac Z H s->∀e∈L,∀e'∈L,∀us o8:List ag,cK e.rest us->cK e'.rest o8->∀h',Fe s.heap h'->Lex X.A.in1.in1 {s with heap:=h'} us o8 (R e e'))/\
  (∀e∈L,∀e'∈L,lt e.key e'.key=if e.x=e'.x then R e e' else eg e.x e'.x)/\
  ∀(l:ai) (L':List (mZ κ)),H l=none->L'.Perm L->(L'.Pairwise λe e'=>lt e'.key e.key=false)->Q (.ref l) (upd H l (.lst (L'.map λe=>V.ref e.a)))):=by
 intro ac s Z H xs us Q I r h
 obtain⟨p,L,R,rfl,hq,HU,hT,hR,hK,q⟩:=h
 obtain⟨u,rfl,rx⟩:=AB r
 cases(show u=Value.ref p from rx)
 obtain⟨cV,rv,pl,hz⟩:=I.tuple hq
 cases ua rv
 have d:mZ κ:=⟨0,"",[],dk⟩
 have gt:∀i,i<L.length->L.getD i d∈L:=λi hi=>by
  rw[bw,aH hi];exact cF hi
 have lz:(L.map λe=>Value.ref e.a).length=L.length:=aq _
 have ex:∀i,∃us:List ag,i<L.length->∃t,cK (L.getD i d).rest us/\IsTup s.heap (L.getD i d).a (Value.str (L.getD i d).x t::us).toArray:=λi=>by
  by_cases hi:i<L.length
  .obtain⟨cV,r,tp,_⟩:=I.tuple (hT _ (gt i hi))
   cases r with
   |cons r1 r2=>
    obtain⟨t,rfl⟩:=r1
    exact⟨_,λ_=>⟨t,r2,tp⟩⟩
  .exact⟨[],λh=>absurd h hi⟩
 obtain⟨rs,Qg⟩:=Classical.skolem.mp ex
 refine Bv (show s.heap.IsTuple p (L.map λe=>Value.ref e.a).toArray from pl) (S.ok λi=>(L.getD i d).key) ω (λh2 h' g=>?_) λpp pm so=>?_
 .refine yY (s:={s with heap:=h'}) (hd:=λi=>(L.getD i d).x) (rs:=rs) (r:=λi j=>R (L.getD i d) (L.getD j d)) h2 (λi hi=>?_) (λi j hi hj=>?_) (λi j hi hj=>?_)
  .rw[lz] at hi
   obtain⟨t,_,tp⟩:=Qg i hi
   refine⟨(L.getD i d).a,t,?_,tp.keeps g⟩
   rw[cg,bw,aH hi];rfl
  .rw[lz] at hi hj
   obtain⟨_,v1,_⟩:=Qg i hi
   obtain⟨_,v2,_⟩:=Qg j hj
   exact hR ac Z s I _ (gt i hi) _ (gt j hj) _ _ v1 v2 h' g
  .rw[lz] at hi hj
   exact hK _ (gt i hi) _ (gt j hj)
 .rw[lz] at pm so
  have e1:inOrder (L.map λe=>Value.ref e.a) pp=((pp.toList.map λi=>L.getD i d).map λe=>Value.ref e.a).toArray:=by
   unfold inOrder
   congr 1
   rw[pf]
   refine kF λi hi=>?_
   have BY:i<L.length:=qw.mp (pm.mem_iff.mp hi)
   show(L.map λe=>Value.ref e.a).getD i Value.none=Value.ref (L.getD i d).a
   rw[bw,cg,bw,aH BY];rfl
  rw[e1]
  have p1:=yZ L d pm
  have p2:=uD (lt:=λe e'=>lt e.key e'.key) pm so
  generalize pp.toList.map (λi=>L.getD i d)=L' at p1 p2
  obtain⟨e,he⟩:=sortedAll_at s.heap (L.map λe=>Value.ref e.a) (L'.map λe=>Value.ref e.a).toArray
  have fresh:H (s.heap.objs.size+1)=none:=I.eN.fresh (dM _)
  have nS:=p1.length_eq
  refine⟨.ref (s.heap.objs.size+1),upd H (s.heap.objs.size+1) (.lst (L'.map λe=>V.ref e.a)),I.laid (t':=s.toks) (λb o eb=>sortedAll_old eb) (dM _) ⟨?_,L'.map λe=>Value.ref e.a,e,ub L',?_⟩,rfl,q _ L' fresh p1 p2⟩
  .rw[aq];exact dE (eF ω)
  .rw[he]
def Vw (H:Hp) (e:mZ (Str×Str×Int)):Prop:=e.x=e.key.1/\e.rest=[.str e.key.2.1,.int e.key.2.2]/\H e.a=some (.tup [.str e.key.1,.str e.key.2.1,.int e.key.2.2])
def xk:gN X (.builtin "sorted") (λxs H Q=>∃(p:ai) (L:List (mZ (Str×Str×Int))),xs=[.ref p]/\bZ X.K H p (L.map λe=>V.ref e.a)/\L.length<64/\(∀e∈L,Vw H e)/\
  ∀(l:ai) (L':List (mZ (Str×Str×Int))),H l=none->L'.Perm L->(L'.Pairwise λe e'=>oC e'.key e.key=false)->Q (.ref l) (upd H l (.lst (L'.map λe=>V.ref e.a)))):=by
 intro ac s Z H xs us Q I r h
 obtain⟨p,L,rfl,hq,HU,hT,q⟩:=h
 refine uW uz ("","",0) ac s Z H [.ref p] us Q I r ⟨p,L,λe e'=>x9 eg ltI e.key.2 e'.key.2,rfl,hq,HU,λe he=>?_,λac Z s I e he e' QQ us o8 r1 r2 h' g=>?_,λe he e' QQ=>?_,q⟩
 .obtain⟨e1,e2,e3⟩:=hT e he
  rw[e1,e2];exact bZ.of e3
 .obtain⟨_,e2,_⟩:=hT e he
  obtain⟨_,g2,_⟩:=hT e' QQ
  rw[e2] at r1
  rw[g2] at r2
  cases r1 with
  |cons a1 a2=>
   cases a2 with
   |cons b1 b2=>
    cases b2
    cases r2 with
    |cons c1 c2=>
     cases c2 with
     |cons d1 d2=>
      cases d2
      obtain⟨t,rfl⟩:=a1
      obtain⟨t',rfl⟩:=c1
      obtain⟨u,rfl⟩:=b1
      obtain⟨u',rfl⟩:=d1
      have:=Fh (A:=X.A.in1.in1) (s:={s with heap:=h'}) e.key.2.1 t e'.key.2.1 t' (Fg e.key.2.2 u e'.key.2.2 u' .nn)
      have e5:(if e.key.2.2=e'.key.2.2 then false else ltI e.key.2.2 e'.key.2.2)=ltI e.key.2.2 e'.key.2.2:=by
       split
       .rename_i z;rw[z,Qe.SG]
       .rfl
      rw[e5] at this
      exact this
 .obtain⟨e1,_⟩:=hT e he
  obtain⟨g1,_⟩:=hT e' QQ
  rw[e1,g1];rfl
def pY:gN X (.builtin "sorted") (λxs H Q=>∃(p:ai) (L:List (mZ (Str×Str×Int))),xs=[.ref p]/\cQ X.K H p (L.map λe=>V.ref e.a)/\L.length<64/\(∀e∈L,Vw H e)/\
  ∀(l:ai) (L':List (mZ (Str×Str×Int))),H l=none->L'.Perm L->(L'.Pairwise λe e'=>oC e'.key e.key=false)->Q (.ref l) (upd H l (.lst (L'.map λe=>V.ref e.a)))):=by
 intro ac s Z H xs us Q I r h
 obtain⟨p,L,rfl,hq,HU,hT,q⟩:=h
 refine wm uz ("","",0) ac s Z H [.ref p] us Q I r ⟨p,L,λe e'=>x9 eg ltI e.key.2 e'.key.2,rfl,hq,HU,λe he=>?_,λac Z s I e he e' QQ us o8 r1 r2 h' g=>?_,λe he e' QQ=>?_,q⟩
 .obtain⟨e1,e2,e3⟩:=hT e he
  rw[e1,e2];exact bZ.of e3
 .obtain⟨_,e2,_⟩:=hT e he
  obtain⟨_,g2,_⟩:=hT e' QQ
  rw[e2] at r1
  rw[g2] at r2
  cases r1 with
  |cons a1 a2=>
   cases a2 with
   |cons b1 b2=>
    cases b2
    cases r2 with
    |cons c1 c2=>
     cases c2 with
     |cons d1 d2=>
      cases d2
      obtain⟨t,rfl⟩:=a1
      obtain⟨t',rfl⟩:=c1
      obtain⟨u,rfl⟩:=b1
      obtain⟨u',rfl⟩:=d1
      have:=Fh (A:=X.A.in1.in1) (s:={s with heap:=h'}) e.key.2.1 t e'.key.2.1 t' (Fg e.key.2.2 u e'.key.2.2 u' .nn)
      have e5:(if e.key.2.2=e'.key.2.2 then false else ltI e.key.2.2 e'.key.2.2)=ltI e.key.2.2 e'.key.2.2:=by
       split
       .rename_i z;rw[z,Qe.SG]
       .rfl
      rw[e5] at this
      exact this
 .obtain⟨e1,_⟩:=hT e he
  obtain⟨g1,_⟩:=hT e' QQ
  rw[e1,g1];rfl
end
end L2
namespace K13
open PySem L2 HT PySem.W
section
variable {P:aJ}{w:bB}{K:Φ}{mg:Str->Option ag}{base:Heap}
abbrev ZJ:Stmt:=top 37
def Vx (H:Hp) (v:V):Option Oo->Prop
 |none=>v=.eU
 |some r=>∃t,v=.ref t/\zU H t r
def Vy:Sp:=λvs H Q _=>∃(r1 r2:ai) (p q:qW),vs=[.ref r1,.ref r2]/\kq H r1 p/\kq H r2 q/\iL p/\iL q/\gz p/\∀v r H',bg H H'->Told p q r->Vx H' v r->Q v H'
def ZK:bY ["one","other"] ["one","other"] (ar ZJ):={}
def Vz (F:jg K "trial_or_none" "trial_or_none" ZJ f fd) (mn:mg "NoTrial"=some (.ref CN)) (xm:exmOne K (.ref CN) (.ref CN)=some true) (DT:Xq P w K mg base 3 "trial_of" ["one","other"] (QP CN)):dR P w K mg base fN 4 f fd ["one","other"] Vy:=by
 exists F.ok,ZK
 .obtain⟨r1,r2,p,q,rfl,_⟩:=h
  rfl
 .obtain⟨r1,r2,p,q,rfl,h1,h2,o1,o2,cp,hq⟩:=h
  refine⟨_,aF (MX (C:=CN) (tb:=λW=>LI (Ea (QP CN) [] W (ck (cj 0) (ck (cj 1) eW)))) (ts:=LI (tC .eU)) rfl rfl rfl mn
    (λac W=>aF (bN (Ka DT hr pV (ae (pv 0) (ae (pv 1) ah)))))
    (λa=>aF (bN jF))),?_⟩
  refine⟨_,rfl,_,rfl,r1,r2,p,q,rfl,h1,h2,o1,o2,cp,?_⟩
  by_cases hx:∃m y,Xp p q m y
  .obtain⟨m,y,x⟩:=hx
   exact .inr ⟨m,y,x,λqq H2 s2 TA=>hq _ (some _) H2 s2 (.inl ⟨m,y,x,rfl⟩) ⟨qq,rfl,TA⟩⟩
  .exact .inl ⟨λm y x=>hx ⟨m,y,x⟩,λH1 s0=>⟨xm,hq .eU none H1 s0 (.inr ⟨λm y x=>hx ⟨m,y,x⟩,rfl⟩) rfl⟩⟩
def gA (i:Nat):Stmt:=match top 39 with
 | .ClassDef _ _ _ b _ _ _ _ _ _ _=>b.getD i (.Pass ⟨0,0,0,0⟩)
 |_=>.Pass ⟨0,0,0,0⟩
def vv (P:aJ) (w:bB) (K:Φ) (mg:Str->Option ag) (base:Heap) (k:Nat) (C:ai) (m:Str) (ps:List Str) (sp:Sp):Prop:=
 AK K C/\∃f fd,dR P w K mg base fN k f fd ps sp/\Binds K fd ps []/\uR K C m f
def Bw {X:Cx}{k:Nat}{C:ai}{m:Str}{ps:List Str}{sp:Sp}{o e:Expr}{es:List Expr}{ta:TE}{t:TA}{apos pos:Pos}{pl:Sem Bool}(D:vv X.prog X.w X.K X.mg X.base k C m ps sp) (hr:eB k X.A) (he:PE X o ta) (ha:PA X (e::es) t)
  (Ge:starEach (e::es) X.env=(false,eval e X.env)::starEach es X.env:=by rfl) (j4:(backTo pos (starEach es X.env)).any (·.1)=false:=by rfl)
  (ht:eval (.Call (.Attribute o m apos) (e::es) [] pos) X.env=(do
   let ov<-eval o X.env
   standAt apos.atName
   let(f,first)<-holding [ov] (getMethod ov m pl)
   callWith pos f first (backTo pos (starEach (e::es) X.env)) (backToKw pos (keywordEach [] X.env))):=by rfl):
  PE X (.Call (.Attribute o m apos) (e::es) [] pos) (EY C m sp [] E0 ta t):=by
 obtain⟨c,f,fd,F,b,hm⟩:=D
 exact LQ (pl:=pl) he c hm F hr b .nil AS ha Ge j4 ht
def kZ {X:Cx}{k:Nat}{C:ai}{m:Str}{ps:List Str}{sp:Sp}{o:Expr}{ta:TE}{apos pos:Pos}{pl:Sem Bool}(D:vv X.prog X.w X.K X.mg X.base k C m ps sp) (hr:eB k X.A) (he:PE X o ta)
  (ht:eval (.Call (.Attribute o m apos) [] [] pos) X.env=(do
   let ov<-eval o X.env
   standAt apos.atName
   let(f,first)<-holding [ov] (getMethod ov m pl)
   callWith pos f first (backTo pos (starEach [] X.env)) (backToKw pos (keywordEach [] X.env))):=by rfl):
  PE X (.Call (.Attribute o m apos) [] [] pos) (EY C m sp [] E0 ta eW):=by
 obtain⟨c,f,fd,F,b,hm⟩:=D
 exact Iz (pl:=pl) he c hm F hr b .nil AS ht
structure HX (K:Φ) (C:ai):Prop where
 c:AK K C
 ns:jJ K C "states"
 nl:jJ K C "left"
abbrev Rows:=List (Nat×qW)
abbrev o_:=Str×Str×Int
def kr (H:Hp) (v:V) (x:Nat×qW):Prop:=∃u r,v=.ref u/\H u=some (.tup [.int x.1,.ref r])/\kq H r x.2
def kr.up (h:kr H v x) (s:∀b xs,H b=some (.tup xs)->H' b=some (.tup xs)):kr H' v x:=by
 obtain⟨u,r,h1,h2,h3⟩:=h
 exact⟨u,r,h1,s _ _ h2,h3.up s⟩
def gm (H:Hp) (v:V) (r:o_):Prop:=∃a,v=.ref a/\H a=some (.tup [.str r.1,.str r.2.1,.int r.2.2])
def gm.up (h:gm H v r) (s:∀b xs,H b=some (.tup xs)->H' b=some (.tup xs)):gm H' v r:=by
 obtain⟨a,h1,h2⟩:=h
 exact⟨a,h1,s _ _ h2⟩
def au {α β:Type}{R S:α->β->Prop}:∀{as:List α}{bs:List β},Paired R as bs->(∀a b,R a b->S a b)->Paired S as bs
 |_,_,.nil,_=>.nil
 |_,_,.cons h t,f=>.cons (f _ _ h) (au t f)
structure Cs where
 br:List o_
 rows:Rows
 n:Nat
def VA (H:Hp) (v:V) (S:Cs):Prop:=∃(st cr sd:ai) (ws us:List V),v=.ref st/\H st=some (.tup [.ref cr,.ref sd,.int S.n])/\H cr=some (.tup ws)/\Paired (gm H) ws S.br/\H sd=some (.tup us)/\Paired (kr H) us S.rows
def VA.up (h:VA H v S) (s:∀b xs,H b=some (.tup xs)->H' b=some (.tup xs)):VA H' v S:=by
 obtain⟨st,cr,sd,ws,us,h1,h2,h3,h4,h5,h6⟩:=h
 exact⟨st,cr,sd,ws,us,h1,s _ _ h2,s _ _ h3,au h4 λ_ _ z=>z.up s,s _ _ h5,au h6 λ_ _ z=>z.up s⟩
def eV (C:ai) (H:Hp) (cb sl ll:ai) (sts cO:List Cs):Prop:=∃(dx:ai) (vs ws:List V),H cb=some (.ins C dx [("states",.ref sl),("left",.ref ll)])/\sl≠cb/\ll≠cb/\ll≠sl/\
 H sl=some (.lst vs)/\H ll=some (.lst ws)/\Paired (VA H) vs sts/\Paired (VA H) ws cO
def eV.same {cb sl ll:ai}(h:eV C H cb sl ll sts cO) (s:bg H H'):eV C H' cb sl ll sts cO:=by
 obtain⟨dx,vs,ws,c1,c2,c3,c4,c5,c6,c7,c8⟩:=h
 exact⟨dx,vs,ws,s _ _ c1,c2,c3,c4,s _ _ c5,s _ _ c6,au c7 λ_ _ z=>z.up λ_ _ e=>s _ _ e,au c8 λ_ _ z=>z.up λ_ _ e=>s _ _ e⟩
def cD (s:bg H H') (h:H' a=none):H a=none:=by
 cases e:H a with
 |none=>rfl
 |some o=>rw[s _ _ e] at h;cases h
abbrev Kd:Stmt:=gA 0
abbrev QR:Stmt:=gA 1
abbrev sEq:Stmt:=gA 2
abbrev Eg:Stmt:=gA 3
abbrev Ke:Stmt:=gA 4
abbrev ZL:Stmt:=gA 5
abbrev Eh:Stmt:=gA 6
abbrev Kf:Stmt:=gA 7
abbrev QS:Stmt:=gA 8
abbrev Kg:Stmt:=gA 9
abbrev Ei:Stmt:=gA 10
abbrev Kh:Stmt:=gA 11
abbrev QT:Stmt:=gA 12
abbrev QU:Stmt:=gA 13
def QV:bY ["self"] ["self"] (ar Kd):={}
def qZ (C:ai):Sp:=λvs H Q _=>∃cb dx,vs=[.ref cb]/\H cb=some (.ins C dx [])/\∀sl ll H',(∀b o,b≠cb->H b=some o->H' b=some o)->H sl=none->H ll=none->eV C H' cb sl ll [⟨[],[],0⟩] []->Q .eU H'
def MY (F:jg K "__init__" "Club.__init__" Kd f fd) (CC:HX K C):dR P w K mg base fN 1 f fd ["self"] (qZ C):=by
 exists F.ok,QV
 .obtain⟨cb,dx,rfl,_⟩:=h
  rfl
 .obtain⟨cb,dx,rfl,hc,hQ⟩:=h
  refine⟨_,aw (CF (pv 0) (cW (ae (bU (ae (bU ah) (ae (bU ah) (ae ao ah)))) ah)) rfl) (aF (CF (pv 0) (cW ah) rfl)),?_⟩
  refine⟨dZ,λt1 h1=>?_⟩
  exists h1,.tup [],H,t1,s1,w1,M1
  refine⟨dZ,λt2 h2=>?_⟩
  exists h2,.tup [],M1,t2,s2,w2,M2
  refine⟨dZ,λt3 h3=>?_⟩
  exists h3,.tup [.ref t1,.ref t2,.int 0],M2,t3,s3,w3,M3
  refine⟨dZ,λsl Vs=>?_⟩
  have s4:=aO Vs (.lst [.ref t3])
  have w4:upd M3 sl (.lst [.ref t3]) sl=some (.lst [.ref t3]):=aB
  have s14:bg H (upd M3 sl (.lst [.ref t3])):=((s1.trans s2).trans s3).trans s4
  have QW:H sl=none:=by
   cases e:H sl with
   |none=>rfl
   |some o=>rw[((s1.trans s2).trans s3) _ _ e] at Vs;cases Vs
  try dsimp only
  generalize upd M3 sl (.lst [.ref t3])=M4 at*
  have MZ:=s14 _ _ hc
  refine⟨_,rfl,cb,C,dx,[],rfl,MZ,CC.c,CC.ns,δ,?_⟩
  have ZM:sl≠cb:=λz=>by rw[z,hc] at QW;cases QW
  have k5:∀b o,b≠cb->M4 b=some o->upd M4 cb (.ins C dx (kX "states" (.ref sl) [])) b=some o:=λb o n e=>by rw[bb n];exact e
  have w5:upd M4 cb (.ins C dx (kX "states" (.ref sl) [])) cb=some (.ins C dx (kX "states" (.ref sl) [])):=aB
  try dsimp only
  generalize upd M4 cb (.ins C dx (kX "states" (.ref sl) []))=M5 at*
  refine⟨dZ,λll ng=>?_⟩
  exists ng,.lst [],M5,ll,s6,w6,M6
  refine⟨_,rfl,cb,C,dx,_,rfl,s6 _ _ w5,CC.c,CC.nl,(show 1<1000 by decide),?_⟩
  have kH:∀b o,b≠cb->H b=some o->upd M6 cb (.ins C dx (kX "left" (.ref ll) (kX "states" (.ref sl) []))) b=some o:=λb o n e=>by rw[bb n];exact s6 _ _ (k5 _ _ n (s14 _ _ e))
  have k4:∀b o,b≠cb->M4 b=some o->upd M6 cb (.ins C dx (kX "left" (.ref ll) (kX "states" (.ref sl) []))) b=some o:=λb o n e=>by rw[bb n];exact s6 _ _ (k5 _ _ n e)
  have nT:∀b xs,M4 b=some (.tup xs)->b≠cb:=λb xs e z=>by rw[z,MZ] at e;cases e
  have v1:=((s2.trans s3).trans s4) _ _ w1
  have v2:=(s3.trans s4) _ _ w2
  have v3:=s4 _ _ w3
  have ZN:H ll=none:=by
   cases e:H ll with
   |none=>rfl
   |some o=>by_cases z:ll=cb
            .rw[z,w5] at ng;cases ng
            .rw[k5 _ _ z (s14 _ _ e)] at ng;cases ng
  have nlc:ll≠cb:=λz=>by rw[z,w5] at ng;cases ng
  have nls:ll≠sl:=λz=>by rw[z,k5 _ _ ZM w4] at ng;cases ng
  exact hQ sl ll _ kH QW ZN ⟨dx,[.ref t3],[],aB,ZM,nlc,nls,k4 _ _ ZM w4,by rw[bb nlc];exact w6,.cons ⟨t3,t1,t2,[],[],rfl,k4 _ _ (nT _ _ v3) v3,k4 _ _ (nT _ _ v1) v1,.nil,k4 _ _ (nT _ _ v2) v2,.nil⟩ .nil,.nil⟩
def PE.weak (h:PE X e t) (k:∀Z H Q,t' Z H Q->t Z H Q):PE X e t':=λac s Z H Q I q=>h ac s Z H Q I (k _ _ _ q)
def VB (i:Nat):TE:=λZ H Q=>∃p us,Z[i]?=some (some (.ref p))/\(H p=some (.tup us)\/H p=some (.lst us))/\∀M0 p',bg H M0->M0 p'=some (.tup us)->Q (.ref p') M0
def VC:∀Z H Q,VB i Z H Q->Sx (λxs H Q=>∃p ys,xs=[.ref p]/\((cQ K H p ys/\∀l,H l=none->Q (.ref l) (upd H l (.tup ys)))\/(bZ K H p ys/\Q (.ref p) H))) (ck (cj i) eW) Z H Q:=by
 rintro Z H Q ⟨p,us,e,h,q⟩
 refine⟨_,e,p,us,rfl,?_⟩
 rcases h with h|h
 .exact .inr ⟨bZ.of h,q H p (λ_ _ e=>e) h⟩
 .exact .inl ⟨cQ.of h,λl hl=>q _ l (aO hl _) aB⟩
def M_:bY ["self","crew","standing","following"] ["self","crew","standing","following"] (ar Eg):={}
def Fx (a b c:ai) (H H':Hp):Prop:=∀x o,x≠a->x≠b->x≠c->H x=some o->H' x=some o
def oH (C:ai):Sp:=λvs H Q _=>∃(cb sl ll cr sd:ai) (ws us:List V) (n:Nat) (br:List o_) (rows:Rows) (sts cO:List Cs),vs=[.ref cb,.ref cr,.ref sd,.int n]/\eV C H cb sl ll sts cO/\sts.length<=900/\(H cr=some (.tup ws)\/H cr=some (.lst ws))/\Paired (gm H) ws br/\(H sd=some (.tup us)\/H sd=some (.lst us))/\Paired (kr H) us rows/\
 ∀nV H',Fx cb sl ll H H'->H nV=none->eV C H' cb sl nV (sts++ [⟨br,rows,n⟩]) []->Q .eU H'
def bT {α β:Type}{R:α->β->Prop}:∀{as:List α}{bs:List β},Paired R as bs->as.length=bs.length
 |_,_,.nil=>rfl
 |_,_,.cons _ t=>by simp[bT t]
def fu {α β:Type}{R:α->β->Prop}:∀{as:List α}{bs:List β}{b:β},Paired R as (bs++ [b])->∃Xr a,as=Xr++ [a]/\Paired R Xr bs/\R a b
 |_,[],_,.cons h .nil=>⟨[],_,rfl,.nil,h⟩
 |_,_::bs,_,.cons h t=>by
  obtain⟨Xr,a,rfl,h1,h2⟩:=fu (bs:=bs) t
  exact⟨_::Xr,a,rfl,.cons h h1,h2⟩
def Ki (F:jg K "enter" "Club.enter" Eg f fd) (T:Txt mg) (CC:HX K C):dR P w K mg base fN 1 f fd ["self","crew","standing","following"] (oH C):=by
 exists F.ok,M_
 .obtain⟨cb,sl,ll,cr,sd,ws,us,n,br,rows,sts,cO,rfl,_⟩:=h
  rfl
 .obtain⟨cb,sl,ll,cr,sd,ws,us,n,br,rows,sts,cO,rfl,hC,u60,U9,pc,VD,pr,hQ⟩:=h
  refine⟨_,aw (gY (rX cJ fk fm hZ (jK (pv 0) rfl) (ae (bU (ae (PE.weak (fG fK rfl T.tuple cC (ae (pv 1) ah)) VC) (ae (PE.weak (fG fK rfl T.tuple cC (ae (pv 2) ah)) VC) (ae (pv 3) ah)))) ah))) (aF (CF (pv 0) (cW ah) rfl)),?_⟩
  obtain⟨dx,vs,xs,c1,c2,c3,c4,c5,c6,c7,c8⟩:=hC
  have lv:=bT c7
  refine⟨_,rfl,cb,C,dx,_,_,rfl,c1,CC.c,CC.ns,rfl,.inl ⟨rfl,_,cQ.of c5⟩,cr,ws,rfl,U9,λM0 VE s0 w0=>⟨sd,us,rfl,?_,λM1 VF s1 w1=>?_⟩⟩
  .rcases VD with VD|VD
   .exact .inl (s0 _ _ VD)
   .exact .inr (s0 _ _ VD)
  have s01:=s0.trans s1
  refine⟨_,rfl,dZ,λt ht=>?_⟩
  have s2:=aO ht (.tup [.ref VE,.ref VF,.int n])
  have iD:=s01.trans s2
  have w2:upd M1 t (.tup [.ref VE,.ref VF,.int n]) t=some (.tup [.ref VE,.ref VF,.int n]):=aB
  have w0':=s2 _ _ (s1 _ _ w0)
  have Na:=s2 _ _ w1
  try dsimp only
  generalize upd M1 t (.tup [.ref VE,.ref VF,.int n])=M2 at*
  have d5:=iD _ _ c5
  have d1:=iD _ _ c1
  refine⟨sl,vs,.ref t,rfl,rfl,d5,eF ω,?_⟩
  have k3:∀b o,b≠sl->M2 b=some o->upd M2 sl (.lst (vs++ [.ref t])) b=some o:=λb o n e=>by rw[bb n];exact e
  have w3:upd M2 sl (.lst (vs++ [.ref t])) sl=some (.lst (vs++ [.ref t])):=aB
  try dsimp only
  generalize upd M2 sl (.lst (vs++ [.ref t]))=M3 at*
  refine⟨dZ,λl2 nS=>?_⟩
  exists nS,.lst [],M3,l2,s4,w4,M4
  refine⟨_,rfl,cb,C,dx,_,rfl,s4 _ _ (k3 _ _ c2.symm d1),CC.c,CC.nl,(show 2<1000 by decide),?_⟩
  have ep:kX "left" (.ref l2) [("states",.ref sl),("left",.ref ll)]=[(("states":Str),V.ref sl),("left",.ref l2)]:=rfl
  rw[ep]
  have kk:Fx cb sl ll H (upd M4 cb (.ins C dx [("states",.ref sl),("left",.ref l2)])):=λb o n1 n2 _ e=>by rw[bb n1];exact s4 _ _ (k3 _ _ n2 (iD _ _ e))
  have kM:∀b xs,M2 b=some (.tup xs)->upd M4 cb (.ins C dx [("states",.ref sl),("left",.ref l2)]) b=some (.tup xs):=λb xs e=>by
   rw[bb (λz=>by rw[z,d1] at e;cases e)]
   exact s4 _ _ (k3 _ _ (λz=>by rw[z,d5] at e;cases e) e)
  have n1:l2≠cb:=λz=>by rw[z,k3 _ _ c2.symm d1] at nS;cases nS
  have n2:l2≠sl:=λz=>by rw[z,w3] at nS;cases nS
  have hl0:H l2=none:=by
   cases e:H l2 with
   |none=>rfl
   |some o=>rw[k3 _ _ n2 (iD _ _ e)] at nS;cases nS
  exact hQ l2 _ kk hl0 ⟨dx,vs++ [.ref t],[],aB,c2,n1,n2,by rw[bb c2];exact s4 _ _ w3,by rw[bb n1];exact w4,
   d_ (au c7 λ_ _ z=>z.up λb xs e=>kM _ _ (iD _ _ e)) ⟨t,VE,VF,ws,us,rfl,kM _ _ w2,kM _ _ w0',au pc λ_ _ z=>z.up λb xs e=>kM _ _ (iD _ _ e),kM _ _ Na,au pr λ_ _ z=>z.up λb xs e=>kM _ _ (iD _ _ e)⟩,.nil⟩
def zV:bY ["self","piece","crew","standing","following"] ["self","piece"] (ar Kf):={}
def Ej (C CP:ai):Sp:=λvs H Q E=>∃(cb sl ll k:ai) (v:V) (d:PyData) (S:Cs) (sts cO:List Cs),vs=[.ref cb,v]/\eV C H cb sl ll (sts++ [S]) cO/\sts.length<=890/\S.rows.length<=39/\Tells H k d v/\rZ d/\
 ((gP d=false/\∀H',bg H H'->E (.ref CP) none H')\/(∃r p,v=.ref r/\d=ye p/\kq H r p/\iL p/\gz p/\
 ∀nV H',Fx cb sl ll H H'->H nV=none->eV C H' cb sl nV (sts++ [S]++ [⟨S.br,S.rows++ [(S.n,p)],S.n+1⟩]) []->Q (.int S.n) H'))
def Nb (F:jg K "tell" "Club.tell" Kf f fd) (T:Txt mg) (hM:∃t,mg "MOST_PIECES"=some (.int 40 t)) (CC:HX K C) (OP:t_ K mg "NoPiece" CP) (DI:Df P w K mg base 3 "is_piece" ["thing"] (x_ gP)) (DE:vv P w K mg base 1 C "enter" ["self","crew","standing","following"] (oH C)):dR P w K mg base (rB P w) 4 f fd ["self","piece"] (Ej C CP):=by
 exists F.MM,zV
 .obtain⟨cb,sl,ll,k,v,d,S,sts,cO,rfl,_⟩:=h
  rfl
 .obtain⟨cb,sl,ll,k,v,d,S,sts,cO,rfl,hC,Xs,l30,tl,fd',hq⟩:=h
  have Bx:=hr.mono (j:=1) δ
  obtain⟨tk,hM⟩:=hM
  refine⟨_,aw (iE (aU b_ (jK (pv 0) rfl) (qC mP ao)) (fU rfl (bx (a_ (i:=2) zV.nd) (bx (a_ (i:=3) zV.nd) (bx (a_ (i:=4) zV.nd) eX)))))
   (aw (cS (fS (fM (cE DI hr (ae (pv 1) ah)))) (aF (h_ (W:=λcls eA _ H'=>E cls eA H') jQ rfl rfl OP rfl (ae bh ah))) bO)
   (aw (cS (bo Iq (aR bS rfl T.len bC (ae (pv 3) ah)) (fT (v:=.int 40) rfl hM ⟨_,rfl⟩) (bG _)) kg bO)
   (aw (gY (Bw DE Bx (pv 0) (ae (pv 2) (ae (bW Fd (pv 3) (bU (ae (bU (ae (pv 4) (ae (pv 1) ah))) ah))) (ae (bW gs (pv 4) ao) ah)))))
   (aF (bN (pv 4)))))),?_⟩
  obtain⟨dx,vs,ws,c1,c2,c3,c4,c5,c6,c7,c8⟩:=id hC
  obtain⟨BZ,_,rfl,Hk,st,cr,sd,q_,us,rfl,e1,e2,vU,e3,e4⟩:=fu c7
  have B0:=bT e4
  refine lY λOq zO=>?_
  refine⟨_,rfl,cb,C,dx,_,_,rfl,c1,CC.c,CC.ns,rfl,1,rfl,sl,_,-1,.ref st,rfl,rfl,cQ.of c5,lX _ _,UO (bZ.of e1) ?_⟩
  refine zO _ _ ?_
  refine⟨_,rfl,k,d,_,rfl,tl,fd',λH1 s1=>⟨_,rfl,?_⟩⟩
  rcases hq with⟨no,hE⟩|⟨r,p,rfl,rfl,hP,op,cp,hQ⟩
  .rw[no]
   exact ite_yes δ ⟨dZ,hE H1 s1⟩
  rw[xj op cp]
  refine ite_no δ ?_
  have hC1:=hC.same s1
  refine⟨_,rfl,sd,us,rfl,.inr (bZ.of (s1 _ _ e3)),_,_,rfl,rfl,_,rfl,?_⟩
  refine ite_no (λz=>?_) ?_
  .have:=aX z
   try dsimp only at B0
   omega
  refine⟨_,rfl,cb,dx,_,rfl,s1 _ _ c1,rfl,_,rfl,_,rfl,_,rfl,_,rfl,dZ,λu hu=>?_⟩
  exists hu,.tup [.int S.n,.ref r],H1,u,z1,y1,M1
  refine⟨dZ,λx1 QX=>?_⟩
  exists QX,.tup [.ref u],M1,x1,z2,y2,M2
  have lw:(S.n:Int)+1=((S.n+1:Nat):Int):=ω
  have fin:∀(M3:Hp) (x:ai),bg M2 M3->M3 x=some (.tup (us++ [.ref u]))->oH C [.ref cb,.ref cr,.ref x,.int ((S.n:Int)+1)] M3 (λ_ H'=>Q (.int S.n) H') (λ_ _ _=>False):=λM3 x z3 y3=>by
   have zz:=s1.trans ((z1.trans z2).trans z3)
   refine⟨cb,sl,ll,cr,x,q_,us++ [.ref u],S.n+1,S.br,S.rows++ [(S.n,p)],sts++ [S],cO,by rw[lw],hC.same zz,by rw[aQ,aN];omega,.inl (zz _ _ e2),au vU λ_ _ q=>q.up λb xs e=>zz _ _ e,.inl y3,d_ (au e4 λ_ _ q=>q.up λb xs e=>zz _ _ e) ⟨u,r,rfl,(z2.trans z3) _ _ y1,hP.up λb xs e=>zz _ _ e⟩,λnV H' k' f' C'=>?_⟩
   exact hQ nV H' (λb o n1 n2 n3 e=>k' _ _ n1 n2 n3 (zz _ _ e)) (cD zz f') C'
  refine⟨sd,x1,us,[.ref u],rfl,rfl,bZ.of ((z1.trans z2) _ _ (s1 _ _ e3)),bZ.of y2,ς,dE (eF (by simp only[aN];omega)),λh0=>?_,λ_ x2 Hl=>?_⟩
  .have y3:M2 x1=some (.tup (us++ [.ref u])):=by rw[h0];exact y2
   obtain⟨b1,b2,b3,b4,b5,b6,b7,b8,b9,b0,d1,d2,d3,d4,d5,d6,d7,d8,d9,d0⟩:=(fin M2 x1 (λ_ _ e=>e) y3)
   exact⟨_,rfl,_,_,rfl,rfl,b1,b2,b3,b4,b5,b6,b7,b8,b9,b0,d1,d2,d3,d4,d5,d6,d7,d8,d9,λnV H' k1 k2 k3=>⟨_,rfl,d0 nV H' k1 k2 k3⟩⟩
  .have z3:=aO Hl (.tup (us++ [.ref u]))
   have y3:upd M2 x2 (.tup (us++ [.ref u])) x2=some (.tup (us++ [.ref u])):=aB
   try dsimp only
   obtain⟨b1,b2,b3,b4,b5,b6,b7,b8,b9,b0,d1,d2,d3,d4,d5,d6,d7,d8,d9,d0⟩:=(fin _ x2 z3 y3)
   exact⟨_,rfl,_,_,rfl,rfl,b1,b2,b3,b4,b5,b6,b7,b8,b9,b0,d1,d2,d3,d4,d5,d6,d7,d8,d9,λnV H' k1 k2 k3=>⟨_,rfl,d0 nV H' k1 k2 k3⟩⟩
def QY:bY ["self"] ["self"] (ar Kg):={}
def Ek (C CL:ai):Sp:=λvs H Q E=>∃(cb sl ll:ai) (S:Cs) (sts cO:List Cs),vs=[.ref cb]/\eV C H cb sl ll (sts++ [S]) cO/\sts.length<=900/\cO.length<=900/\
 ((sts=[]/\E (.ref CL) none H)\/(sts≠[]/\∀H',Fx cb sl ll H H'->eV C H' cb sl ll sts (cO++ [S])->Q .eU H'))
def Nc (F:jg K "back" "Club.back" Kg f fd) (T:Txt mg) (CC:HX K C) (OL:t_ K mg "NothingLeft" CL):dR P w K mg base (rB P w) 1 f fd ["self"] (Ek C CL):=by
 exists F.MM,QY
 .obtain⟨cb,sl,ll,S,sts,cO,rfl,_⟩:=h
  rfl
 .obtain⟨cb,sl,ll,S,sts,cO,rfl,hC,ZO,ZP,hq⟩:=h
  refine⟨_,aw (cS (bo gO (aR bS rfl T.len bC (ae (jK (pv 0) rfl) ah)) ao (bG _)) (aF (h_ (W:=λcls eA _ H'=>E cls eA H') jQ rfl rfl OL rfl (ae bh ah))) bO)
   (aF (gY (rX cJ fk fm hZ (jK (pv 0) rfl) (ae (zB cJ vG vH CS (jK (pv 0) rfl)) ah)))),?_⟩
  obtain⟨dx,vs,ws,c1,c2,c3,c4,c5,c6,c7,c8⟩:=id hC
  obtain⟨BZ,v,rfl,Hk,hv⟩:=fu c7
  have lv:=bT Hk
  have lw:=bT c8
  refine⟨_,rfl,cb,C,dx,_,_,rfl,c1,CC.c,CC.ns,rfl,sl,_,rfl,.inl (cQ.of c5),rfl,_,rfl,?_⟩
  rw[iK,aQ,aN]
  rcases hq with⟨rfl,hE⟩|⟨ne,hQ⟩
  .exact ite_yes (aI (by rw[lv];rfl)) ⟨dZ,hE⟩
  refine ite_no (λz=>?_) ?_
  .have z':=aX z
   have:sts.length=0:=ω
   exact ne (iT.mp this)
  refine⟨_,rfl,cb,C,dx,_,_,rfl,c1,CC.c,CC.nl,rfl,.inl ⟨rfl,_,cQ.of c6⟩,_,rfl,cb,C,dx,_,_,rfl,c1,CC.c,CC.ns,rfl,.inl ⟨rfl,_,cQ.of c5⟩,sl,_,v,rfl,rfl,c5,ς,?_⟩
  rw[show(BZ++ [v]).dropLast=BZ by simp]
  have k1:∀b o,b≠sl->H b=some o->upd H sl (.lst BZ) b=some o:=λb o n e=>by rw[bb n];exact e
  have w1:upd H sl (.lst BZ) sl=some (.lst BZ):=aB
  try dsimp only
  generalize upd H sl (.lst BZ)=M1 at*
  have d6:=k1 _ _ c4 c6
  refine⟨ll,ws,v,rfl,rfl,d6,eF ω,?_⟩
  have tk:∀b xs,H b=some (.tup xs)->upd M1 ll (.lst (ws++ [v])) b=some (.tup xs):=λb xs e=>by
   rw[bb (λz=>by rw[z,c6] at e;cases e)]
   exact k1 _ _ (λz=>by rw[z,c5] at e;cases e) e
  exact hQ _ (λx o n1 n2 n3 e=>by rw[bb n3];exact k1 _ _ n2 e) ⟨dx,BZ,ws++ [v],by rw[bb c3.symm];exact k1 _ _ c2.symm c1,c2,c3,c4,by rw[bb c4.symm];exact w1,aB,au Hk λ_ _ z=>z.up tk,d_ (au c8 λ_ _ z=>z.up tk) (hv.up tk)⟩
def Nd:bY ["self"] ["self"] (ar Ei):={}
def zW (C CL:ai):Sp:=λvs H Q E=>∃(cb sl ll:ai) (sts cO:List Cs),vs=[.ref cb]/\eV C H cb sl ll sts cO/\sts.length<=900/\cO.length<=900/\
 ((cO=[]/\E (.ref CL) none H)\/∃fW S,cO=fW++ [S]/\∀H',Fx cb sl ll H H'->eV C H' cb sl ll (sts++ [S]) fW->Q .eU H')
def Kj (F:jg K "again" "Club.again" Ei f fd) (T:Txt mg) (CC:HX K C) (OL:t_ K mg "NothingLeft" CL):dR P w K mg base (rB P w) 1 f fd ["self"] (zW C CL):=by
 exists F.MM,Nd
 .obtain⟨cb,sl,ll,sts,cO,rfl,_⟩:=h
  rfl
 .obtain⟨cb,sl,ll,sts,cO,rfl,hC,ZO,ZP,hq⟩:=h
  refine⟨_,aw (cS (bo gO (aR bS rfl T.len bC (ae (jK (pv 0) rfl) ah)) ao (bG _)) (aF (h_ (W:=λcls eA _ H'=>E cls eA H') jQ rfl rfl OL rfl (ae bh ah))) bO)
   (aF (gY (rX cJ fk fm hZ (jK (pv 0) rfl) (ae (zB cJ vG vH CS (jK (pv 0) rfl)) ah)))),?_⟩
  obtain⟨dx,vs,ws,c1,c2,c3,c4,c5,c6,c7,c8⟩:=id hC
  have lv:=bT c7
  have lw:=bT c8
  refine⟨_,rfl,cb,C,dx,_,_,rfl,c1,CC.c,CC.nl,rfl,ll,_,rfl,.inl (cQ.of c6),rfl,_,rfl,?_⟩
  rw[iK]
  rcases hq with⟨rfl,hE⟩|⟨fW,S,rfl,hQ⟩
  .exact ite_yes (aI (by rw[lw];rfl)) ⟨dZ,hE⟩
  rw[aQ,aN] at lw
  refine ite_no (λz=>?_) ?_
  .have z':=aX z
   omega
  obtain⟨tu,v,rfl,c8',hv⟩:=fu c8
  refine⟨_,rfl,cb,C,dx,_,_,rfl,c1,CC.c,CC.ns,rfl,.inl ⟨rfl,_,cQ.of c5⟩,_,rfl,cb,C,dx,_,_,rfl,c1,CC.c,CC.nl,rfl,.inl ⟨rfl,_,cQ.of c6⟩,ll,_,v,rfl,rfl,c6,ς,?_⟩
  rw[show(tu++ [v]).dropLast=tu by simp]
  have k1:∀b o,b≠ll->H b=some o->upd H ll (.lst tu) b=some o:=λb o n e=>by rw[bb n];exact e
  have w1:upd H ll (.lst tu) ll=some (.lst tu):=aB
  try dsimp only
  generalize upd H ll (.lst tu)=M1 at*
  have d5:=k1 _ _ c4.symm c5
  refine⟨sl,vs,v,rfl,rfl,d5,eF ω,?_⟩
  have tk:∀b xs,H b=some (.tup xs)->upd M1 sl (.lst (vs++ [v])) b=some (.tup xs):=λb xs e=>by
   rw[bb (λz=>by rw[z,c5] at e;cases e)]
   exact k1 _ _ (λz=>by rw[z,c6] at e;cases e) e
  exact hQ _ (λx o n1 n2 n3 e=>by rw[bb n2];exact k1 _ _ n3 e) ⟨dx,vs++ [v],tu,by rw[bb c2.symm];exact k1 _ _ c3.symm c1,c2,c3,c4,aB,by rw[bb c4];exact w1,d_ (au c7 λ_ _ z=>z.up tk) (hv.up tk),au c8' λ_ _ z=>z.up tk⟩
def Fy:bY ["self","number","crew","standing","following"] ["self","number"] (ar QS):={}
def ZQ:List (Str×NameKind):=[(".0",.local),("told",.local),("number",.free)]
def ZR:(["told","number"]:List Str).Nodup:=by decide+kernel
def VG:(["other","piece"]:List Str).Nodup:=by decide+kernel
def uX (rows:Rows) (k:Int):Rows:=rows.filter λx=>!decide ((x.1:Int)=k)
def zX (rows:Rows) (k:Int):Bool:=rows.any λx=>decide ((x.1:Int)=k)
def Kk (C CU:ai):Sp:=λvs H Q E=>∃(cb sl ll:ai) (k:Int) (S:Cs) (sts cO:List Cs),vs=[.ref cb,.int k]/\eV C H cb sl ll (sts++ [S]) cO/\sts.length<=890/\S.rows.length<=90/\
 ((zX S.rows k=false/\∀H',bg H H'->E (.ref CU) none H')\/(zX S.rows k=true/\
 ∀nV H',Fx cb sl ll H H'->H nV=none->eV C H' cb sl nV (sts++ [S]++ [⟨S.br,uX S.rows k,S.n⟩]) []->Q .eU H'))
def eR {α β:Type}{R:α->β->Prop}:∀{as:List α}{bs:List β},Paired R as bs->∀(i:Nat) (h:i<bs.length),∃a,as[i]?=some a/\R a bs[i]
 |_,_,.nil,i,h=>by cases h
 |_,_,.cons h t,0,_=>⟨_,rfl,h⟩
 |_,_,.cons h t,i+1,hi=>by
  obtain⟨a,e,r⟩:=eR t i (by simpa using hi)
  exact⟨a,by simpa using e,by simpa using r⟩
def getD_some {us:List V} (h:us[i]?=some u):us.getD i .eU=u:=by rw[bw,h];rfl
def Kl {H1:Hp}{L a:ai}{us:List V}{rows:Rows}{Q:VK}(hL:H1 L=none) (h:H1 a=some (.tup us)) (pr:Paired (kr H1) us rows) (hl:rows.length<=1000) (q:∀J,bg H1 J->J L=some (.lst (rows.map λx=>V.int x.1))->Q (.ref L) J):
  pK (Cr K a) (Cq K 2 (jZ (de 0) (jZ (de 1) zt))) pH (cj 0) [none,none] H1 Q L:=by
 have lu:=bT pr
 refine kY (n:=us.length) (f:=λi=>us.getD i .eU) (λj ys bX J=>(∃v v',bX=[v,v'])/\bg H1 J/\ys=(rows.take j).map λx=>V.int x.1) hL ω ⟨⟨_,_,rfl⟩,bP (bg.refl _) hL,rfl⟩ (λj ys bX J hj hy ⟨_,sj,_⟩=>kD (K:=K) (bZ.of (sj _ _ h)) j hj) ?_ ?_
 .rintro j ys bX J hj hy ⟨⟨v,v',rfl⟩,sj,rfl⟩
  have rC:j<rows.length:=ω
  obtain⟨u,eu,b,r,rfl,e1,_⟩:=eR pr j rC
  rw[getD_some eu]
  refine GY (bZ.of (sj _ _ e1)) ⟨_,rfl,hy,⟨_,_,rfl⟩,bP sj hL,?_⟩
  rw[gj rC,bL];rfl
 .rintro ys bX J hy ⟨_,sj,rfl⟩
  rw[lu,dB] at hy
  exact q J sj hy
def vw {α:Type}(f:α->Bool) (l:List α) (x:α):(l++ [x]).filter f=if f x=true then l.filter f++ [x] else l.filter f:=by
 rw[lI]
 by_cases h:f x=true
 .rw[aT h,tM h];rfl
 .rw[aP h,tN h];simp
def Hm {H1:Hp}{L a:ai}{us:List V}{rows:Rows}{k:Int}{Q:VK}(v:Option V) (hL:H1 L=none) (h:H1 a=some (.tup us)) (pr:Paired (kr H1) us rows) (hl:rows.length<=1000)
  (q:∀ys J,bg H1 J->J L=some (.lst ys)->Paired (kr J) ys (uX rows k)->Q (.ref L) J):
  pK (Cr K a) (de 0) (gI (gH LM (gH (gg K) (cj 0) (tC (.int 0))) (cj 1))) (cj 0) [v,some (.int k)] H1 Q L:=by
 have lu:=bT pr
 refine mB (n:=us.length) (f:=λi=>us.getD i .eU) (λj ys bX J=>(∃v,bX=[v,some (.int k)])/\bg H1 J/\Paired (kr J) ys (uX (rows.take j) k)) hL ω ⟨⟨_,rfl⟩,bP (bg.refl _) hL,.nil⟩ (λj ys bX J hj hy ⟨_,sj,_⟩=>kD (K:=K) (bZ.of (sj _ _ h)) j hj) ?_ ?_
 .rintro j ys bX J hj hy ⟨⟨v,rfl⟩,sj,pj⟩
  have rC:j<rows.length:=ω
  obtain⟨u,eu,b,r,rfl,e1,e2⟩:=eR pr j rC
  rw[getD_some eu]
  refine iO rfl (bZ.of (sj _ _ e1)) (aV (j:=0) rfl) ⟨_,rfl,rfl,_,rfl,?_⟩
  unfold uX at*
  rw[iK,gj rC,vw]
  by_cases e:(rows[j].1:Int)=k
  .refine ite_no (by simp[e]) ?_
   refine⟨hy,⟨_,rfl⟩,sj,?_⟩
   rw[aP (by simp[e])]
   exact pj
  .refine ite_yes (by simp[e]) ?_
   have By:∀c xs,J c=some (.tup xs)->upd J L (.lst (ys++ [.ref b])) c=some (.tup xs):=λc xs e=>by rw[bb (λz=>by rw[z,hy] at e;cases e)];exact e
   refine⟨_,rfl,hy,⟨_,rfl⟩,bP sj hL,?_⟩
   rw[aT (by simp[e])]
   exact d_ (au pj λ_ _ z=>z.up By) ⟨b,r,rfl,By _ _ (sj _ _ e1),e2.up λc xs e=>By _ _ (sj _ _ e)⟩
 .rintro ys bX J hy ⟨_,sj,pj⟩
  rw[lu,dB] at pj
  exact q ys J sj hy pj
def Nf (ns:Rows):IG (.int k) (ns.map λx=>V.int x.1)=zX ns k:=by
 unfold IG zX
 rw[S_]
 congr 1
def Hn (ns:Rows):(ns.map λx=>V.int x.1).all qD=true:=by
 rw[nB]
 intro v hv
 obtain⟨x,_,rfl⟩:=cT.mp hv
 rfl
def QZ (F:jg K "strike" "Club.strike" QS f fd) (CC:HX K C) (OU:t_ K mg "NoNumber" CU) (DE:vv P w K mg base 1 C "enter" ["self","crew","standing","following"] (oH C)):dR P w K mg base (rB P w) 2 f fd ["self","number"] (Kk C CU):=by
 exists F.MM,Fy
 .obtain⟨cb,sl,ll,k,S,sts,cO,rfl,_⟩:=h
  rfl
 .obtain⟨cb,sl,ll,k,S,sts,cO,rfl,hC,Xs,ZS,hq⟩:=h
  refine⟨_,aw (iE (aU b_ (jK (pv 0) rfl) (qC mP ao)) (fU rfl (bx (a_ (i:=2) Fy.nd) (bx (a_ (i:=3) Fy.nd) (bx (a_ (i:=4) Fy.nd) eX)))))
   (aw (cS (bo gZ (pv 1) (kI (N:=["other","piece"]) (g:=Cq K 2 (jZ (de 0) (jZ (de 1) zt))) (tc:=pH) (te:=cj 0) rfl (iF (pv 3)) (fD.closed rfl)
    (λ_ _ _=>fU rfl (bx (a_ (i:=0) VG) (bx (a_ (i:=1) VG) eX))) (λ_ _ _=>iV) (λ_ _ _=>pv 0)) rfl) (aF (h_ (W:=λcls eA _ H'=>E cls eA H') jQ rfl rfl OU rfl (ae bh ah))) bO)
   (aF (gY (Bw DE hr (pv 0) (ae (pv 2) (ae (kI (N:=["told","number"]) (g:=de 0) (tc:=gI (gH LM (gH (gg K) (cj 0) (tC (.int 0))) (cj 1))) (te:=cj 0) rfl (iF (pv 3))
    (fD.one (v:="told") (fr:="number") (j:=1) (nm:=ZQ) rfl rfl rfl rfl)
    (λ_ _ _=>a_ (i:=0) ZR) (λ_ _ _=>iw (bo lV (aU aZ (pv 0) ao) (pv 1) (bG _))) (λ_ _ _=>pv 0)) (ae (pv 4) ah))))))),?_⟩
  obtain⟨dx,vs,ws,c1,c2,c3,c4,c5,c6,c7,c8⟩:=id hC
  obtain⟨BZ,_,rfl,Hk,st,cr,sd,q_,us,rfl,e1,e2,vU,e3,e4⟩:=fu c7
  have B0:=bT e4
  refine lY λOq zO=>?_
  refine⟨_,rfl,cb,C,dx,_,_,rfl,c1,CC.c,CC.ns,rfl,1,rfl,sl,_,-1,.ref st,rfl,rfl,cQ.of c5,lX _ _,UO (bZ.of e1) ?_⟩
  refine zO _ _ ?_
  refine⟨_,rfl,_,rfl,sd,rfl,⟨_,bZ.of e3⟩,λL hL=>?_⟩
  refine Kl hL e3 e4 ω λJ sJ hJ=>?_
  refine⟨L,_,rfl,.inl (cQ.of hJ),rfl,Hn S.rows,_,rfl,?_⟩
  rw[Nf]
  rcases hq with⟨no,hE⟩|⟨yes,hQ⟩
  .rw[no]
   exact ite_yes δ ⟨dZ,hE J sJ⟩
  rw[yes]
  refine ite_no δ ?_
  refine⟨_,rfl,cb,dx,_,rfl,sJ _ _ c1,rfl,_,rfl,_,rfl,sd,rfl,⟨_,bZ.of (sJ _ _ e3)⟩,λL2 Az=>?_⟩
  refine Hm none Az (sJ _ _ e3) (au e4 λ_ _ z=>z.up λb xs e=>sJ _ _ e) ω λys J2 s2 Q0 VH=>?_
  have zz:=sJ.trans s2
  refine⟨_,rfl,cb,sl,ll,cr,L2,q_,ys,S.n,S.br,_,sts++ [S],cO,rfl,hC.same zz,by rw[aQ,aN];omega,.inl (zz _ _ e2),au vU λ_ _ q=>q.up λb xs e=>zz _ _ e,.inr Q0,VH,λnV H' k' f' C'=>?_⟩
  exact hQ nV H' (λb o n1 n2 n3 e=>k' _ _ n1 n2 n3 (zz _ _ e)) (cD zz f') C'
def Q3:bY ["self"] ["self"] (ar Kh):={}
def rf (C:ai):Sp:=λvs H Q _=>∃(cb sl ll:ai) (S:Cs) (sts cO:List Cs),vs=[.ref cb]/\eV C H cb sl ll (sts++ [S]) cO/\∀l us,H l=none->Paired (gm H) us S.br->Q (.ref l) (upd H l (.lst us))
def Ng (F:jg K "rowers" "Club.rowers" Kh f fd) (T:Txt mg) (CC:HX K C):dR P w K mg base fN 1 f fd ["self"] (rf C):=by
 exists F.ok,Q3
 .obtain⟨cb,sl,ll,S,sts,cO,rfl,_⟩:=h
  rfl
 .obtain⟨cb,sl,ll,S,sts,cO,rfl,hC,hQ⟩:=h
  refine⟨_,aF (bN (fG oi rfl T.list uN (ae (aU aZ (aU b_ (jK (pv 0) rfl) (qC mP ao)) ao) ah))),?_⟩
  obtain⟨dx,vs,ws,c1,c2,c3,c4,c5,c6,c7,c8⟩:=id hC
  obtain⟨BZ,_,rfl,Hk,st,cr,sd,q_,us,rfl,e1,e2,vU,e3,e4⟩:=fu c7
  exact⟨_,rfl,cb,C,dx,_,_,rfl,c1,CC.c,CC.ns,rfl,1,rfl,sl,_,-1,.ref st,rfl,rfl,cQ.of c5,lX _ _,st,_,0,_,rfl,rfl,bZ.of e1,aV (j:=0) rfl,cr,q_,rfl,.inr (bZ.of e2),λl hl=>hQ l q_ hl vU⟩
def VI:bY ["self"] ["self"] (ar QT):={}
def xl (C:ai):Sp:=λvs H Q _=>∃(cb sl ll:ai) (S:Cs) (sts cO:List Cs),vs=[.ref cb]/\eV C H cb sl ll (sts++ [S]) cO/\∀l us,H l=none->Paired (kr H) us S.rows->Q (.ref l) (upd H l (.lst us))
def Q4 (F:jg K "pieces" "Club.pieces" QT f fd) (T:Txt mg) (CC:HX K C):dR P w K mg base fN 1 f fd ["self"] (xl C):=by
 exists F.ok,VI
 .obtain⟨cb,sl,ll,S,sts,cO,rfl,_⟩:=h
  rfl
 .obtain⟨cb,sl,ll,S,sts,cO,rfl,hC,hQ⟩:=h
  refine⟨_,aF (bN (fG oi rfl T.list uN (ae (aU aZ (aU b_ (jK (pv 0) rfl) (qC mP ao)) ao) ah))),?_⟩
  obtain⟨dx,vs,ws,c1,c2,c3,c4,c5,c6,c7,c8⟩:=id hC
  obtain⟨BZ,_,rfl,Hk,st,cr,sd,q_,us,rfl,e1,e2,vU,e3,e4⟩:=fu c7
  exact⟨_,rfl,cb,C,dx,_,_,rfl,c1,CC.c,CC.ns,rfl,1,rfl,sl,_,-1,.ref st,rfl,rfl,cQ.of c5,lX _ _,st,_,1,_,rfl,rfl,bZ.of e1,aV (j:=1) rfl,sd,us,rfl,.inr (bZ.of e3),λl hl=>hQ l us hl e4⟩
end
open Classical in
noncomputable def Bz (p q:qW):Option Oo:=if h:∃m y,Xp p q m y then some (pT p q h.choose h.choose_spec.choose) else none
def BA (P:gz p) (h:Told p q r):r=Bz p q:=by
 refine h.uniq P ?_
 unfold Bz
 split
 .rename_i h
  exact .inl ⟨_,_,h.choose_spec.choose_spec,rfl⟩
 .rename_i h
  exact .inr ⟨λm y x=>h ⟨m,y,x⟩,rfl⟩
abbrev Row3:=Nat×Nat×Oo
def El (i j:Nat):Option Oo->List Row3
 |none=>[]
 |some t=>[(i,j,t)]
noncomputable def Km (x:Nat×qW):Rows->List Row3
 | []=>[]
 |y::ys=>El x.1 y.1 (Bz x.2 y.2)++Km x ys
noncomputable def yf:Rows->List Row3
 | []=>[]
 |x::xs=>Km x xs++yf xs
def oQ (H:Hp) (v:V) (r:Row3):Prop:=∃a q,v=.ref a/\H a=some (.tup [.int r.1,.int r.2.1,.ref q])/\zU H q r.2.2
def zU.up (h:zU H q r) (s:∀b xs,H b=some (.tup xs)->H' b=some (.tup xs)):zU H' q r:=by
 obtain⟨l,h1,h2⟩:=h
 exact⟨l,s _ _ h1,s _ _ h2⟩
def oQ.up (h:oQ H v r) (s:∀b xs,H b=some (.tup xs)->H' b=some (.tup xs)):oQ H' v r:=by
 obtain⟨a,q,h1,h2,h3⟩:=h
 exact⟨a,q,h1,s _ _ h2,h3.up s⟩
section
variable {P:aJ}{w:bB}{K:Φ}{mg:Str->Option ag}{base:Heap}
def sy:bY ["self","found","standing","at","one","piece","other","later","trial"] ["self"] (ar QU):={}
def BB (C:ai):Sp:=λvs H Q _=>∃(cb sl ll:ai) (rows:Rows) (S:Cs) (sts cO:List Cs),vs=[.ref cb]/\eV C H cb sl ll (sts++ [S]) cO/\S.rows=rows/\(∀x∈rows,iL x.2/\gz x.2)/\rows.length<=31/\
 ∀l ws H',H l=none->bg H H'->H' l=some (.lst ws)->Paired (oQ H') ws (yf rows)->Q (.ref l) H'
def rwA (l5:a<=31*i+m) (e:b=a) (h:i+1+m<n) (hn:n<=31):b<=1000:=ω
def rwB (l5:a<=31*i+(n-(i+1))) (hn:n<=31):a<=31*(i+1):=aA l5 (eK (aA (qx _ _) hn) _)
def Q5 (F:jg K "trials" "Club.trials" QU f fd) (T:Txt mg) (DP:vv P w K mg base 1 C "pieces" ["self"] (xl C)) (DT:Df P w K mg base 4 "trial_or_none" ["one","other"] Vy):dR P w K mg base fN 5 f fd ["self"] (BB C):=by
 exists F.ok,sy
 .obtain⟨cb,sl,ll,rows,S,sts,cO,rfl,_⟩:=h
  rfl
 .obtain⟨cb,sl,ll,_,S,sts,cO,rfl,hC,rfl,eN,l30,hQ⟩:=h
  obtain⟨rows,Ot⟩:∃rows,rows=S.rows:=⟨_,rfl⟩
  rw[<-Ot] at eN l30 hQ
  have Bx:=hr.mono (j:=1) δ
  refine⟨_,aw (lj (i:=1) sy.nd (cW ah))
   (aw (lj (i:=2) sy.nd (kZ DP Bx (pv 0)))
   (aw (mL fg rfl (A7 rfl T.enum (ae (pv 2) ah)) (fU rfl (bx (a_ (i:=3) sy.nd) (bx (fU rfl (bx (a_ (i:=4) sy.nd) (bx (a_ (i:=5) sy.nd) eX))) eX)))
    (aF (mL fg rfl (jI (hX qj (pv 2) (iU (bW gs (pv 3) ao)) jL)) (fU rfl (bx (a_ (i:=6) sy.nd) (bx (a_ (i:=7) sy.nd) eX)))
     (aw (lj (i:=8) sy.nd (cE DT hr (ae (pv 5) (ae (pv 7) ah))))
     (aF (cS (bo EW (pv 8) jF (bG _)) (aF (gY (rX cJ fk fm hZ (pv 1) (ae (bU (ae (pv 4) (ae (pv 6) (ae (pv 8) ah)))) ah)))) bO))))))
   (aF (bN (pv 1))))),?_⟩
  obtain⟨dx,vs0,q_,c1,_⟩:=id hC
  refine lY λOq zO=>?_
  refine⟨dZ,λl hl=>?_⟩
  exists hl,.lst [],H,l,s1,w1,M1
  refine zO _ _ ?_
  refine lY λZT Ha=>?_
  refine⟨_,rfl,cb,dx,_,rfl,s1 _ _ c1,rfl,cb,sl,ll,S,sts,cO,rfl,hC.same s1,λl2 us nS SV=>?_⟩
  rw[<-Ot] at SV
  have s2:=aO nS (.lst us)
  have w2:upd M1 l2 (.lst us) l2=some (.lst us):=aB
  have Na:=s2 _ _ w1
  have Lj:l2≠l:=λz=>by rw[z,w1] at nS;cases nS
  try dsimp only
  generalize upd M1 l2 (.lst us)=M2 at*
  refine Ha _ _ ?_
  have iD:=s1.trans s2
  have Q6:Paired (kr M2) us rows:=au SV λ_ _ z=>z.up λb xs e=>s2 _ _ e
  have B0:=bT SV
  refine lY λDH3 Qy=>?_
  refine⟨_,rfl,l2,rfl,⟨_,cQ.of w2⟩,yW (K:=K) (a:=l2) (xs:=us) (λi bX H'=>∃(v3 v4 v5 v6 v7 v8:Option V) (ws:List V) (L:List Row3),bX=[some (.ref cb),some (.ref l),some (.ref l2),v3,v4,v5,v6,v7,v8]/\eE l M2 H'/\H' l=some (.lst ws)/\Paired (oQ H') ws L/\L++yf (rows.drop i)=yf rows/\L.length<=31*i)
   ⟨_,_,_,_,_,_,[],[],rfl,eE.refl _ _,Na,.nil,rfl,ς⟩ (λi bX H' _ h=>by obtain⟨_,_,_,_,_,_,_,_,_,kp,_⟩:=h;exact cQ.of (kp _ _ Lj w2)) ?_ ?_⟩
  .rintro i x bX H' T hx ⟨v3,v4,v5,v6,v7,v8,ws,L,rfl,kp,hL,pr,eL,lL⟩ hT
   have VJ:i<us.length:=(bD.mp hx).1
   have hi:i<rows.length:=B0▸VJ
   obtain⟨_,hu,u,r,rfl,P0,ZU⟩:=eR Q6 i hi
   rw[hu] at hx
   cases hx
   have tk:∀{b xs},M2 b=some (.tup xs)->H' b=some (.tup xs):=λ{b xs} e=>kp _ _ (λz=>by rw[z,Na] at e;cases e) e
   exists hT,.tup [.int i,.ref u],H',T,sT,wT,M3
   have k3:eE l M2 M3:=kp.trans sT.keep
   have dp:rows.drop i=rows[i]::rows.drop (i+1):=ky hi
   have Q7:=eN rows[i] (cF hi)
   refine⟨T,_,rfl,bZ.of wT,rfl,_,_,rfl,_,_,rfl,GY (bZ.of (sT _ _ (tk P0))) ⟨rfl,?_⟩⟩
   refine⟨_,rfl,_,rfl,_,_,rfl,rfl,_,rfl,l2,us,rfl,cQ.of (k3 _ _ Lj w2),λq hq=>?_⟩
   have Q8:jt us (some ((i:Int)+1)) none=us.drop (i+1):=by
    unfold jt
    rw[show((i:Int)+1)=((i+1:Nat):Int) from rfl,HT.mx,HT.rR,gw VJ,cZ ς]
   rw[Q8]
   have sq:=aO hq (.lst (us.drop (i+1)))
   have wq:upd M3 q (.lst (us.drop (i+1))) q=some (.lst (us.drop (i+1))):=aB
   have nq:q≠l:=λz=>by rw[z,sT _ _ hL] at hq;cases hq
   generalize upd M3 q (.lst (us.drop (i+1)))=M4 at*
   have VL:=sT.trans sq
   refine⟨q,rfl,⟨_,cQ.of wq⟩,pF (K:=K) (a:=q) (xs:=us.drop (i+1)) (λm bX H'=>∃(v6 v7 v8:Option V) (ws:List V) (L:List Row3),bX=[some (.ref cb),some (.ref l),some (.ref l2),some (.int i),some (.int rows[i].1),some (.ref r),v6,v7,v8]/\eE l M4 H'/\H' l=some (.lst ws)/\Paired (oQ H') ws L/\(L++Km rows[i] ((rows.drop (i+1)).drop m))++yf (rows.drop (i+1))=yf rows/\L.length<=31*i+m)
    ⟨_,_,_,ws,L,rfl,eE.refl _ _,VL _ _ hL,au pr λa b h=>h.up λb xs e=>VL _ _ e,by rw[dp] at eL;show(L++Km rows[i] (rows.drop (i+1)))++_=_;rw[rA];exact eL,lL⟩ (λm bX H' _ h=>by obtain⟨_,_,_,_,_,_,Dd,_⟩:=h;exact cQ.of (Dd _ _ nq wq)) ?_ ?_⟩
   .rintro m x bX H5 hx ⟨w6,w7,w8,Em,L5,rfl,k5,Kn,Ko,e5,l5⟩
    rw[List.getElem?_drop] at hx
    have VM:i+1+m<us.length:=(bD.mp hx).1
    have hj:i+1+m<rows.length:=B0▸VM
    obtain⟨_,Q9,u',r',rfl,Q_,Ra⟩:=eR Q6 (i+1+m) hj
    rw[Q9] at hx
    cases hx
    have Lk:∀b xs,M2 b=some (.tup xs)->H5 b=some (.tup xs):=λb xs e=>k5 _ _ (λz=>by rw[z,Na] at e;cases e) (sq _ _ (sT _ _ (tk e)))
    refine GY (bZ.of (Lk _ _ Q_)) ?_
    have Xt:=eN rows[i+1+m] (cF hj)
    refine⟨_,rfl,_,rfl,r,r',rows[i].2,rows[i+1+m].2,rfl,ZU.up Lk,Ra.up Lk,Q7.1,Xt.1,Q7.2,λv rr H6 s6 td dv=>?_⟩
    have er:=BA Q7.2 td
    have dd:(rows.drop (i+1)).drop m=rows[i+1+m]::(rows.drop (i+1)).drop (m+1):=by
     rw[xR,xR,show i+1+(m+1)=(i+1+m)+1 from rfl]
     exact ky hj
    rw[dd] at e5
    have Ll:((L5++El rows[i].1 rows[i+1+m].1 rr)++Km rows[i] ((rows.drop (i+1)).drop (m+1)))++yf (rows.drop (i+1))=yf rows:=by
     rw[<-e5,er,rA L5];rfl
    refine⟨_,rfl,rfl,_,rfl,?_⟩
    have Ou:Paired (oQ H6) Em L5:=au Ko λa b h=>h.up λb xs e=>s6 _ _ e
    have k6:eE l M4 H6:=k5.trans s6.keep
    cases rr with
    |none=>
     have:v=.eU:=dv
     subst this
     refine ite_no δ ?_
     exact⟨_,_,_,Em,L5,rfl,k6,s6 _ _ Kn,Ou,by rw[show El rows[i].1 rows[i+1+m].1 none=[] from rfl,cU] at Ll;exact Ll,Nat.le_succ_of_le l5⟩
    |some t=>
     obtain⟨y,rfl,ty⟩:=dv
     refine ite_yes (by rw[bE ς];rfl) ?_
     refine⟨_,rfl,.inl ⟨rfl,_,cQ.of (s6 _ _ Kn)⟩,_,rfl,_,rfl,_,rfl,dZ,λa ha=>?_⟩
     have sa:=aO ha (.tup [.int rows[i].1,.int rows[i+1+m].1,.ref y])
     have wa:upd H6 a (.tup [.int rows[i].1,.int rows[i+1+m].1,.ref y]) a=some (.tup [.int rows[i].1,.int rows[i+1+m].1,.ref y]):=aB
     have VN:=sa _ _ (s6 _ _ Kn)
     generalize upd H6 a (.tup [.int rows[i].1,.int rows[i+1+m].1,.ref y])=H7 at*
     have ZV:=qg Ko
     refine⟨l,Em,.ref a,rfl,rfl,VN,eF (rwA l5 ZV (B0▸VM) l30),?_⟩
     have kt:∀b xs,H7 b=some (.tup xs)->upd H7 l (.lst (Em++ [.ref a])) b=some (.tup xs):=λb xs e=>by rw[bb (λz=>by rw[z,VN] at e;cases e)];exact e
     refine⟨_,_,_,Em++ [.ref a],L5++ [(rows[i].1,rows[i+1+m].1,t)],rfl,λb o n e=>by rw[bb n];exact sa _ _ (k6 _ _ n e),aB,d_ (au Ou λa b h=>h.up λb xs e=>kt _ _ (sa _ _ e)) ⟨a,y,rfl,kt _ _ wa,(ty.same sa).up kt⟩,Ll,by rw[aQ,aN];exact j_ l5⟩
   .rintro bX H5 ⟨w6,w7,w8,Em,L5,rfl,k5,Kn,Ko,e5,l5⟩
    rw[show(rows.drop (i+1)).drop (us.drop (i+1)).length=[] from Tf (by rw[dP,dP,B0];exact av _)] at e5
    refine⟨_,_,_,_,_,_,Em,L5,rfl,λb o n e=>k5 _ _ n (sq _ _ (k3 _ _ n e)),Kn,Ko,by rw[show Km rows[i] []=[] from rfl,cU] at e5;exact e5,by rw[dP] at l5;exact rwB l5 (by rw[B0];exact l30)⟩
  .rintro bX H' ⟨v3,v4,v5,v6,v7,v8,ws,L,rfl,kp,hL,pr,eL,lL⟩
   refine Qy _ _ ?_
   rw[B0,List.drop_length,show yf []=[] from rfl,cU] at eL
   subst eL
   refine⟨_,rfl,hQ l ws H' hl (λb o e=>kp _ _ (λz=>by rw[z,hl] at e;cases e) (iD _ _ e)) hL pr⟩
end
def fD.two {X:Cx}{scope:Scope}{nm:List (Str×NameKind)}{v fr fs:Str}{j k:Nat}(hN:X.N[j]?=some fr) (hM:X.N[k]?=some fs) (hk:scope.kind=.function) (hn:scope.names=nm) (h1:X.env.scope.names.lookup fr=some .cell) (h2:X.env.scope.names.lookup fs=some .cell) (c1:∀y∈nm,y.2≠.cell:=by decide+kernel)
  (c2:∀y∈nm,y.2=.local->nm.lookup y.1=some .local:=by decide+kernel) (c3:∀y∈nm,y.2=.free->y.1=fr\/y.1=fs:=by decide+kernel) (c4:(fr,NameKind.free)∈nm:=by decide+kernel) (c5:nm.lookup fr=some .free:=by decide+kernel) (c6:(fs,NameKind.free)∈nm:=by decide+kernel) (c7:nm.lookup fs=some .free:=by decide+kernel):fD X scope [v,fr,fs] [none,some j,some k] where
 kind:=hk
 qQ:=by rw[hn];exact c1
 own:=by rw[hn];exact c2
 out:=by
  rw[hn]
  intro y hy e
  rcases c3 y hy e with z|z
  .rw[z];exact .inl h1
  .rw[z];exact .inl h2
 len:=rfl
 free:=by
  intro i j' x e1 e2
  rw[hn]
  match i,e1,e2 with
  |1,e1,e2=>cases e1;cases e2;exact⟨hN,c4,c5⟩
  |2,e1,e2=>cases e1;cases e2;exact⟨hM,c6,c7⟩
  |n+3,e1,e2=>simp at e1
def nP (l:List o_):List o_:=l.mergeSort λa b=>!oC b a
def Kp {a b:List o_}(ha:a.Pairwise λe e'=>oC e' e=false) (hb:b.Pairwise λe e'=>oC e' e=false) (p:a.Perm b):a=b:=
 Pd (λx y _ _ h1 h2=>by
  by_cases e:x=y
  .exact e
  .rcases uz.Qd _ _ e with z|z
   .rw[z] at h2;cases h2
   .rw[z] at h1;cases h1) ha hb p
def Ov (h:oC a b=true):oC b a=false:=by
 cases e:oC b a with
 |false=>rfl
 |true=>have:=uz.trans _ _ _ h e;rw[uz.SG] at this;cases this
def sH (l:List o_):(nP l).Pairwise λe e'=>oC e' e=false:=by
 have:=List.pairwise_mergeSort (le:=λa b:o_=>!oC b a) (λa b c h1 h2=>by
  simp only[mf] at h1 h2⊢
  by_cases e1:a=b
  .rw[e1];exact h2
  by_cases e2:b=c
  .rw[<-e2];exact h1
  have g1:oC a b=true:=by rcases uz.Qd _ _ e1 with z|z;exact z;rw[z] at h1;cases h1
  have g2:oC b c=true:=by rcases uz.Qd _ _ e2 with z|z;exact z;rw[z] at h2;cases h2
  exact Ov (uz.trans _ _ _ g1 g2)) (λa b=>by
  cases e:oC b a with
  |false=>rfl
  |true=>rw[Ov e];rfl) l
 exact this.imp λh=>by simpa using h
def xn (l:List o_):(nP l).Perm l:=List.mergeSort_perm _ _
def xo (p:l'.Perm l) (s:l'.Pairwise λe e'=>oC e' e=false):l'=nP l:=Kp s (sH l) (p.trans (xn l).symm)
def zY:∀{ws:List V}{br:List o_},Paired (gm H) ws br->∃L:List (mZ (Str×Str×Int)),ws=L.map (λe=>V.ref e.a)/\L.map (·.key)=br/\∀e∈L,Vw H e
 |_,_,.nil=>⟨[],rfl,rfl,λ_ h=>nomatch h⟩
 |_,_,.cons (b:=r) ⟨a,e1,e2⟩ t=>by
  obtain⟨L,h1,h2,h3⟩:=zY t
  refine⟨⟨a,r.1,[.str r.2.1,.int r.2.2],r⟩::L,by rw[e1,h1];rfl,by rw[bQ,h2],λe he=>?_⟩
  rcases aD.mp he with rfl|he
  .exact⟨rfl,rfl,e2⟩
  .exact h3 e he
def zZ:∀{L:List (mZ (Str×Str×Int))},(∀e∈L,Vw H e)->Paired (gm H) (L.map λe=>V.ref e.a) (L.map (·.key))
 | [],_=>.nil
 |e::L,h=>.cons ⟨e.a,rfl,(h e (.head _)).2.2⟩ (zZ λx hx=>h x (.tail _ hx))
def lP.weak (h:lP X f r) (k:∀x y H Q,r' x y H Q->r x y H Q):lP X f r':=λac s Z H x y v u Q I rx ry q=>h ac s Z H x y v u Q I rx ry (k _ _ _ _ q)
def VO:R2:=λx y H Q=>∃a b xs ys,x=.ref a/\y=.ref b/\H a=some (.tup xs)/\H b=some (.tup ys)/\ys≠[]/\xs.length+ys.length<=1000/\∀M p,bg H M->M p=some (.tup (xs++ys))->Q (.ref p) M
def Nh:lP X (binaryOp .Add) VO:=lP.weak Fd (by
 rintro x y H Q ⟨a,b,xs,ys,rfl,rfl,h1,h2,h3,h4,q⟩
 exact⟨a,b,xs,ys,rfl,rfl,bZ.of h1,bZ.of h2,h3,dE (eF h4),λe=>q H b (bg.refl _) (by rw[e];exact h2),λ_ p hp=>q _ p (aO hp _) aB⟩)
section
variable {P:aJ}{w:bB}{K:Φ}{mg:Str->Option ag}{base:Heap}
abbrev Rb:Stmt:=top 38
def VP:bY ["crew"] ["crew"] (ar Rb):={}
def ZW:(["rower"]:List Str).Nodup:=by decide+kernel
def fO (br:List o_):List Str:=br.map (·.1)
def Fz:Sp:=λvs H Q _=>∃(cr:ai) (ws:List V) (br:List o_),vs=[.ref cr]/\H cr=some (.tup ws)/\Paired (gm H) ws br/\br.length<=100/\∀L J,bg H J->J L=some (.lst ((fO br).map V.str))->Q (.ref L) J
def Rc (F:jg K "names_of" "names_of" Rb f fd):dR P w K mg base fN 1 f fd ["crew"] Fz:=by
 exists F.ok,VP
 .obtain⟨cr,ws,br,rfl,_⟩:=h
  rfl
 .obtain⟨cr,ws,br,rfl,h1,h2,h3,q⟩:=h
  refine⟨_,aF (bN (kI (N:=["rower"]) (g:=de 0) (tc:=pH) (te:=gH (gg K) (cj 0) (tC (.int 0))) rfl (iF (pv 0)) (fD.closed rfl)
   (λ_ _ _=>a_ (i:=0) ZW) (λ_ _ _=>iV) (λ_ _ _=>aU aZ (pv 0) ao))),?_⟩
  have lu:=bT h2
  refine⟨_,rfl,cr,rfl,⟨_,bZ.of h1⟩,λL hL=>?_⟩
  refine kY (n:=ws.length) (f:=λi=>ws.getD i .eU) (λj ys bX J=>(∃v,bX=[v])/\bg H J/\ys=(fO (br.take j)).map V.str) hL ω ⟨⟨_,rfl⟩,bP (bg.refl _) hL,rfl⟩ (λj ys bX J hj hy ⟨_,sj,_⟩=>kD (K:=K) (bZ.of (sj _ _ h1)) j hj) ?_ ?_
  .rintro j ys bX J hj hy ⟨⟨v,rfl⟩,sj,rfl⟩
   have rC:j<br.length:=ω
   obtain⟨u,eu,a,rfl,e1⟩:=eR h2 j rC
   rw[getD_some eu]
   refine iO rfl (bZ.of (sj _ _ e1)) (aV (j:=0) rfl) ⟨hy,⟨_,rfl⟩,bP sj hL,?_⟩
   unfold fO
   rw[gj rC,bL,bL];rfl
  .rintro ys bX J hy ⟨_,sj,rfl⟩
   rw[lu,dB] at hy
   exact q L J sj hy
def sL (x:Str) (ns:List Str):IG (.str x) (ns.map V.str)=decide (x∈ns):=by
 unfold IG
 rw[S_]
 induction ns with
 |nil=>rfl
 |cons a l ih=>
  rw[kT,ih]
  have:Lf (V.str a) (.str x)=decide (a=x):=rfl
  show(Lf (V.str a) (.str x)||_)=_
  rw[this]
  by_cases e:a=x
  .subst e;simp
  .have e':¬x=a:=λz=>e z.symm
   simp[e,e']
def nQ (ns:List Str):(ns.map V.str).all qD=true:=by
 rw[nB]
 intro v hv
 obtain⟨x,_,rfl⟩:=cT.mp hv
 rfl
def Ni:bY ["self","name","crew","standing","following"] ["self","name"] (ar ZL):={}
def ZX:List (Str×NameKind):=[(".0",.local),("rower",.local),("name",.free)]
def ZY:(["rower","name"]:List Str).Nodup:=by decide+kernel
def oJ (br:List o_) (x:Str):List o_:=br.filter λr=>!decide (r.1=x)
def Nj (v:Option V) (hL:H1 L=none) (h:H1 a=some (.tup us)) (pr:Paired (gm H1) us br) (hl:br.length<=1000)
  (q:∀ys J,bg H1 J->J L=some (.lst ys)->Paired (gm J) ys (oJ br x)->Q (.ref L) J):
  pK (Cr K a) (de 0) (gI (gH LM (gH (gg K) (cj 0) (tC (.int 0))) (cj 1))) (cj 0) [v,some (.str x)] H1 Q L:=by
 have lu:=bT pr
 refine mB (n:=us.length) (f:=λi=>us.getD i .eU) (λj ys bX J=>(∃v,bX=[v,some (.str x)])/\bg H1 J/\Paired (gm J) ys (oJ (br.take j) x)) hL ω ⟨⟨_,rfl⟩,bP (bg.refl _) hL,.nil⟩ (λj ys bX J hj hy ⟨_,sj,_⟩=>kD (K:=K) (bZ.of (sj _ _ h)) j hj) ?_ ?_
 .rintro j ys bX J hj hy ⟨⟨v,rfl⟩,sj,pj⟩
  have rC:j<br.length:=ω
  obtain⟨u,eu,b,rfl,e1⟩:=eR pr j rC
  rw[getD_some eu]
  refine iO rfl (bZ.of (sj _ _ e1)) (aV (j:=0) rfl) ⟨_,rfl,rfl,_,rfl,?_⟩
  unfold oJ at*
  rw[lZ,gj rC,vw]
  by_cases e:br[j].1=x
  .refine ite_no (by simp[e]) ?_
   refine⟨hy,⟨_,rfl⟩,sj,?_⟩
   rw[aP (by simp[e])]
   exact pj
  .refine ite_yes (by simp[e]) ?_
   have By:∀c xs,J c=some (.tup xs)->upd J L (.lst (ys++ [.ref b])) c=some (.tup xs):=λc xs e=>by rw[bb (λz=>by rw[z,hy] at e;cases e)];exact e
   refine⟨_,rfl,hy,⟨_,rfl⟩,bP sj hL,?_⟩
   rw[aT (by simp[e])]
   exact d_ (au pj λ_ _ z=>z.up By) ⟨b,rfl,By _ _ (sj _ _ e1)⟩
 .rintro ys bX J hy ⟨_,sj,pj⟩
  rw[lu,dB] at pj
  exact q ys J sj hy pj
def Rf (C CA:ai):Sp:=λvs H Q E=>∃(cb sl ll:ai) (x:Str) (S:Cs) (sts cO:List Cs),vs=[.ref cb,.str x]/\eV C H cb sl ll (sts++ [S]) cO/\sts.length<=890/\S.br.length<=90/\
 ((x∉fO S.br/\∀H',bg H H'->E (.ref CA) none H')\/(x∈fO S.br/\
 ∀nV H',Fx cb sl ll H H'->H nV=none->eV C H' cb sl nV (sts++ [S]++ [⟨oJ S.br x,S.rows,S.n⟩]) []->Q .eU H'))
def VQ (F:jg K "go" "Club.go" ZL f fd) (CC:HX K C) (OA:t_ K mg "NoName" CA) (DN:Df P w K mg base 1 "names_of" ["crew"] Fz) (DE:vv P w K mg base 1 C "enter" ["self","crew","standing","following"] (oH C)):dR P w K mg base (rB P w) 2 f fd ["self","name"] (Rf C CA):=by
 exists F.MM,Ni
 .obtain⟨cb,sl,ll,x,S,sts,cO,rfl,_⟩:=h
  rfl
 .obtain⟨cb,sl,ll,x,S,sts,cO,rfl,hC,Xs,ZS,hq⟩:=h
  refine⟨_,aw (iE (aU b_ (jK (pv 0) rfl) (qC mP ao)) (fU rfl (bx (a_ (i:=2) Ni.nd) (bx (a_ (i:=3) Ni.nd) (bx (a_ (i:=4) Ni.nd) eX)))))
   (aw (cS (bo gZ (pv 1) (cE DN hr (ae (pv 2) ah)) rfl) (aF (h_ (W:=λcls eA _ H'=>E cls eA H') jQ rfl rfl OA rfl (ae bh ah))) bO)
   (aF (gY (Bw DE hr (pv 0) (ae (kI (N:=["rower","name"]) (g:=de 0) (tc:=gI (gH LM (gH (gg K) (cj 0) (tC (.int 0))) (cj 1))) (te:=cj 0) rfl (iF (pv 2))
    (fD.one (v:="rower") (fr:="name") (j:=1) (nm:=ZX) rfl rfl rfl rfl)
    (λ_ _ _=>a_ (i:=0) ZY) (λ_ _ _=>iw (bo lV (aU aZ (pv 0) ao) (pv 1) (bG _))) (λ_ _ _=>pv 0)) (ae (pv 3) (ae (pv 4) ah))))))),?_⟩
  obtain⟨dx,vs,ws,c1,c2,c3,c4,c5,c6,c7,c8⟩:=id hC
  obtain⟨BZ,_,rfl,Hk,st,cr,sd,q_,us,rfl,e1,e2,vU,e3,e4⟩:=fu c7
  refine lY λOq zO=>?_
  refine⟨_,rfl,cb,C,dx,_,_,rfl,c1,CC.c,CC.ns,rfl,1,rfl,sl,_,-1,.ref st,rfl,rfl,cQ.of c5,lX _ _,UO (bZ.of e1) ?_⟩
  refine zO _ _ ?_
  refine⟨_,rfl,_,rfl,cr,q_,S.br,rfl,e2,vU,ω,λL J sJ hJ=>?_⟩
  refine⟨L,_,rfl,.inl (cQ.of hJ),rfl,nQ _,_,rfl,?_⟩
  rw[sL]
  rcases hq with⟨no,hE⟩|⟨yes,hQ⟩
  .rw[bE no]
   exact ite_yes δ ⟨dZ,hE J sJ⟩
  rw[aI yes]
  refine ite_no δ ?_
  refine⟨_,rfl,cb,dx,_,rfl,sJ _ _ c1,rfl,_,rfl,cr,rfl,⟨_,bZ.of (sJ _ _ e2)⟩,λL2 Az=>?_⟩
  refine Nj none Az (sJ _ _ e2) (au vU λ_ _ z=>z.up λb xs e=>sJ _ _ e) ω λys J2 s2 Q0 VH=>?_
  have zz:=sJ.trans s2
  refine⟨_,rfl,_,rfl,cb,sl,ll,L2,sd,ys,us,S.n,_,S.rows,sts++ [S],cO,rfl,hC.same zz,by rw[aQ,aN];omega,.inr Q0,VH,.inl (zz _ _ e3),au e4 λ_ _ q=>q.up λb xs e=>zz _ _ e,λnV H' k' f' C'=>?_⟩
  exact hQ nV H' (λb o n1 n2 n3 e=>k' _ _ n1 n2 n3 (zz _ _ e)) (cD zz f') C'
end
end K13
namespace L2
open PySem PySem.Spec PyProof.Rows PySem.W
def Kq:List TE->Str->TE
 | [],acc=>λZ H Q=>acc.length<=sizeLine/\Q (.str acc) H
 |t::ts,acc=>λZ H Q=>t Z H λx H1=>∃y,x=.str y/\(acc++y).length<=sizeLine/\Kq ts (acc++y) Z H1 Q
def Ow:V->Option Str
 | .int n=>if n.natAbs.log2<1920 then some (Str.ofString (toString n)) else none
 | .str x=>if x.length<=sizeLine then some x else none
 |_=>none
def ZZ (te:TE):TE:=λZ H Q=>te Z H λx H1=>∃y,Ow x=some y/\Q (.str y) H1
section
variable {X:Cx}
def BC:∀{es:List Expr}{ts:List TE},Paired (PE X) es ts->∀(acc:Str) (H:Hp) (s:ak),Inv X ac Z H s->Kq ts acc Z H Q->
  Joins (model X.prog X.w) X.A X.xe (evalEach es X.env) acc (λout s1=>out.length<=sizeLine/\EP X ac Z Q (.str out s1.toks) {s1 with toks:=s1.toks+1}) s
 |_,_,.nil,acc,H,s,I,h=>⟨h.1,.str acc,H,I.tok _,⟨_,rfl⟩,h.2⟩
 |_,_,.cons p r,acc,H,s,I,h=>by
  refine fE (p ac s Z H _ I h) λu s1 c_=>?_
  obtain⟨x,H1,I1,rx,y,ex,hl,q⟩:=c_
  subst ex
  obtain⟨t,rfl⟩:=rx
  exact⟨y,t,rfl,hl,BC r _ H1 s1 I1 q⟩
def Ho (hp:Paired (PE X) (e1::e2::es) ts):PE X (.JoinedStr (e1::e2::es) pos) (Kq ts Str.empty):=by
 intro ac s Z H Q I h
 exact wpAny_JoinedStr (BC hp _ H s I h)
def Rg (he:PE X e te):PE X (.FormattedValue e (-1) none pos) (ZZ te):=by
 intro ac s Z H Q I h
 refine wpAny_FormattedValue_plain (fE (he ac s Z H _ I h) λu s1 c_=>?_)
 obtain⟨x,H1,I1,rx,y,ey,q⟩:=c_
 cases x with
 |int n=>
  obtain⟨t,rfl⟩:=rx
  replace ey:(if n.natAbs.log2<1920 then some (Str.ofString (toString n)) else none)=some y:=ey
  split at ey
  .rename_i hl
   cases ey
   exact wpAny_formatField_int hl ⟨.str (Str.ofString (toString n)),H1,I1.tok _,⟨_,rfl⟩,q⟩
  .cases ey
 |str z=>
  obtain⟨t,rfl⟩:=rx
  replace ey:(if z.length<=sizeLine then some z else none)=some y:=ey
  split at ey
  .rename_i hl
   cases ey
   exact wpAny_formatField_str ⟨.str y,H1,I1,⟨_,rfl⟩,q⟩ ⟨.str y,H1,I1.tok _,⟨_,rfl⟩,q⟩ hl
  .cases ey
 |_=>cases ey
end
structure Ox (K:Φ) (R:ai):Prop where
 ga:specialIn K (.ref R) "__getattribute__"=some (some (.builtin "type.__getattribute__"))
 rd:readsIn K R (.type "type")=true
 fc:findCls K (.ref R) (.type "type") "__init__"=some (.val (.builtin "ValueError.__init__"))
def Rh (K:Φ) (C fI:ai) (te tf:TE):TE:=λZ H Q=>te Z H λx H1=>tf Z H1 λy H2=>∃a,x=.ref a/\H2 a=some (qY a (.ref C) none)/\Bq K C fI/\Q .eU H2
def Kr {X:Cx}{x:Str}{R C fI:ai}{e f:Expr}{te tf:TE}{np apos pos:Pos}{pl:Sem Bool}(B:Ox X.K R) (hg:Gl X x) (hm:X.mg x=some (.ref R)) (he:PE X e te) (hf:PE X f tf)
  (ht:eval (.Call (.Attribute (.Name x np) "__init__" apos) [e,f] [] pos) X.env=(do
   let ov<-eval (.Name x np) X.env
   standAt apos.atName
   let(f',first)<-holding [ov] (getMethod ov "__init__" pl)
   callWith pos f' first (backTo pos (starEach [e,f] X.env)) (backToKw pos (keywordEach [] X.env))):=by rfl)
  (htr:backTo pos (starEach [e,f] X.env)=[(false,eval e X.env),(false,eval f X.env)]:=by rfl) (qM:(x==("__debug__":Str))=false:=by decide):
  PE X (.Call (.Attribute (.Name x np) "__init__" apos) [e,f] [] pos) (Rh X.K C fI te tf):=by
 intro ac s Z H Q I h
 refine gS (pl:=pl) (jG I hg hm ?_ qM) ht
 refine method_cls I.lK B.ga (cls_value I.lK B.rd B.fc rfl ?_)
 have J:=I.tok (s.toks+1)
 rw[htr]
 refine zi rfl (B_ (HZ (fE (he ac _ Z H _ J h) λu s1 c_=>?_)))
 obtain⟨v,H1,I1,rv,q1⟩:=c_
 refine HZ (fE (hf ac s1 Z H1 _ I1 q1) λu2 s2 AJ=>?_)
 obtain⟨y,H2,I2,ry,a,ev,ea,O,q2⟩:=AJ
 refine Calls.spliced_nil ?_
 subst ev
 obtain rfl:u=Value.ref a:=rv
 obtain⟨tl,N,nm,q,bs,hdct,sn,sub,ab,col,dd,k0,k1,k2,k3,k5,mN,hC,hN,hi,T⟩:=O.own I2.lK
 obtain⟨⟨t0,h1⟩,_⟩:=I2.eN a _ ea
 obtain⟨hp,g,d,t,os⟩:=s2
 refine init_exc gR T hC h1 (by rw[aN,hW];omega) λh' t1 g1 g2=>⟨.eU,H2,?_,rfl,q2⟩
 have:=I2.write (x:=a) (e:=a) (o:=qY a (.ref C) none) (h':=h') (t':=t) (by rw[ea];exact True.intro) (.inl rfl) (λb u hb z=>g2 b u hb z) ⟨_,g1⟩ (zS g1)
 rwa[QI ea] at this
end L2
namespace K13
open PySem L2 HT PySem.W
def Ri:Stmt:=match top 3 with
 | .ClassDef _ _ _ b _ _ _ _ _ _ _=>b.getD 0 (.Pass ⟨0,0,0,0⟩)
 |_=>.Pass ⟨0,0,0,0⟩
abbrev Z0:Stmt:=Ri
def Z1:bY ["self","many"] ["self","many"] (ar Z0):={}
def BD {n:Nat}(h:n<=40320):Ow (.int n)=some (Str.ofString (toString (n:Int)))/\(Str.ofString (toString (n:Int))).length<=10:=by
 have h1:(n:Int).natAbs<10^5:=ω
 have e:=int_text_length_le10 (a:=(n:Int)) (k:=5) δ h1
 refine⟨?_,?_⟩
 .show(if(n:Int).natAbs.log2<1920 then _ else _)=_
  rw[aT]
  have:(n:Int).natAbs=n:=AE n
  rw[this]
  by_cases z:n=0
  .rw[z];decide
  .exact(Nat.log2_lt z).mpr (bf h (aY (by decide:40320<2^16) (Nat.pow_le_pow_right δ δ)))
 .rw[ofString_length];omega
section
variable {P:aJ}{w:bB}{K:Φ}{mg:Str->Option ag}{base:Heap}
def VR (C:ai):Sp:=λvs H Q _=>∃(a:ai) (n:Nat),vs=[.ref a,.int n]/\n<=40320/\H a=some (qY a (.ref C) none)/\∀d,H d=none->d≠a->Q .eU (upd (upd H d (.xd [("many",.int n)])) a (qY a (.ref C) (some d)))
def VS (F:jg K "__init__" "TooMany.__init__" Z0 f fd) (O:Bq K C f) (OW:QH K C) (nm:jJ K C "many") (B:Ox K R) (mr:mg "RowError"=some (.ref R)):dR P w K mg base fN 1 f fd ["self","many"] (VR C):=by
 exists F.ok,Z1
 .obtain⟨a,n,rfl,_⟩:=h
  rfl
 .obtain⟨a,n,rfl,hn,ha,q⟩:=h
  refine⟨_,aw (gY (Kr (C:=C) (fI:=f) B rfl mr (pv 0) (Ho (.cons bh (.cons (Rg (pv 1)) .nil))))) (aF (MT (pv 0) (pv 1) rfl)),?_⟩
  have l2:((Str.empty++"too many: ")++Str.ofString (toString (n:Int))).length<=sizeLine:=by
   have:=(BD hn).2
   rw[strLen_append,hW]
   have e:(Str.empty++("too many: ":Str)).length=10:=by decide+kernel
   omega
  exact⟨_,rfl,_,rfl,by rw[hW];decide+kernel,_,rfl,_,(BD hn).1,_,rfl,l2,l2,a,rfl,ha,O,_,rfl,_,rfl,a,C,rfl,ha,OW,nm,q⟩
end
def Ks (ha:H a=none) (hd:upd H a o1 d=none) (na:d≠a):bg H (del (upd (upd (upd H a o1) d o2) a o3) a)/\H d=none/\del (upd (upd (upd H a o1) d o2) a o3) a d=some o2:=by
 rw[bb na] at hd
 refine⟨λb o e=>?_,hd,?_⟩
 .have n1:b≠a:=dH e ha
  have n2:b≠d:=dH e hd
  rw[pW n1,bb n1,bb n2,bb n1];exact e
 .rw[pW na,bb na,aB]
section
variable {P:aJ}{w:bB}{K:Φ}{mg:Str->Option ag}{base:Heap}
def sN:bY ["self","name","weight","crew","standing","following","weighed"] ["self","name","weight"] (ar Eh):={}
def Z2:List (Str×NameKind):=[(".0",.local),("rower",.local),("name",.free),("weight",.free)]
def Z3:(["rower","name","weight"]:List Str).Nodup:=by decide+kernel
def ze (x:Str) (i:Int) (r:o_):o_:=if r.1=x then(r.1,r.2.1,i) else r
def VT (K:Φ):TE:=XY (gI (gH HQ (gH (gg K) (cj 0) (tC (.int 0))) (cj 1))) (mQ (ck (gH (gg K) (cj 0) (tC (.int 0))) (ck (gH (gg K) (cj 0) (tC (.int 1))) (ck (cj 2) eW)))) (cj 0)
def Nk (v:Option V) (hL:H1 L=none) (h:H1 a=some (.tup us)) (pr:Paired (gm H1) us br) (hl:br.length<=1000)
  (q:∀ys J,bg H1 J->J L=some (.lst ys)->Paired (gm J) ys (br.map (ze x i))->Q (.ref L) J):
  pK (Cr K a) (de 0) pH (VT K) [v,some (.str x),some (.int i)] H1 Q L:=by
 have lu:=bT pr
 refine kY (n:=us.length) (f:=λi=>us.getD i .eU) (λj ys bX J=>(∃v,bX=[v,some (.str x),some (.int i)])/\bg H1 J/\Paired (gm J) ys ((br.take j).map (ze x i))) hL ω ⟨⟨_,rfl⟩,bP (bg.refl _) hL,.nil⟩ (λj ys bX J hj hy ⟨_,sj,_⟩=>kD (K:=K) (bZ.of (sj _ _ h)) j hj) ?_ ?_
 .rintro j ys bX J hj hy ⟨⟨v,rfl⟩,sj,pj⟩
  have rC:j<br.length:=ω
  obtain⟨u,eu,b,rfl,e1⟩:=eR pr j rC
  rw[getD_some eu]
  rw[gj rC,bL]
  refine iO rfl (bZ.of (sj _ _ e1)) (aV (j:=0) rfl) ⟨_,rfl,rfl,_,rfl,?_⟩
  rw[lZ]
  by_cases e:br[j].1=x
  .refine ite_yes (by simp[e]) ?_
   refine iO rfl (bZ.of (sj _ _ e1)) (aV (j:=0) rfl) (iO rfl (bZ.of (sj _ _ e1)) (aV (j:=1) rfl) ⟨_,rfl,dZ,λt ht=>?_⟩)
   have By:∀c xs,J c=some (.tup xs)->upd (upd J t (.tup [.str br[j].1,.str br[j].2.1,.int i])) L (.lst (ys++ [.ref t])) c=some (.tup xs):=λc xs e=>by
    rw[bb (λz=>by rw[z,hy] at e;cases e),bb (λz=>by rw[z,ht] at e;cases e)];exact e
   have ntL:t≠L:=λz=>by rw[z,hy] at ht;cases ht
   refine⟨by rw[bb (cG ntL)];exact hy,⟨_,rfl⟩,bP (bP sj (cD sj ht)) hL,?_⟩
   refine d_ (au pj λ_ _ z=>z.up By) ⟨t,rfl,?_⟩
   rw[bb ntL,aB]
   unfold ze
   rw[aT e]
  .refine ite_no (by simp[e]) ?_
   have By:∀c xs,J c=some (.tup xs)->upd J L (.lst (ys++ [.ref b])) c=some (.tup xs):=λc xs e=>by rw[bb (λz=>by rw[z,hy] at e;cases e)];exact e
   refine⟨_,rfl,hy,⟨_,rfl⟩,bP sj hL,?_⟩
   refine d_ (au pj λ_ _ z=>z.up By) ⟨b,rfl,?_⟩
   unfold ze
   rw[aP e]
   exact By _ _ (sj _ _ e1)
 .rintro ys bX J hy ⟨_,sj,pj⟩
  rw[lu,dB] at pj
  exact q ys J sj hy pj
def z_ (C CA CR:ai):Sp:=λvs H Q E=>∃(cb sl ll k:ai) (x:Str) (v:V) (d:PyData) (S:Cs) (sts cO:List Cs),vs=[.ref cb,.str x,v]/\eV C H cb sl ll (sts++ [S]) cO/\sts.length<=890/\S.br.length<=90/\Tells H k d v/\rZ d/\
 ((x∉fO S.br/\∀H',bg H H'->E (.ref CA) none H')\/(x∈fO S.br/\eZ d=false/\∀H',bg H H'->E (.ref CR) none H')\/(x∈fO S.br/\eZ d=true/\∃i,v=.int i/\
 ∀nV H',Fx cb sl ll H H'->H nV=none->eV C H' cb sl nV (sts++ [S]++ [⟨S.br.map (ze x i),S.rows,S.n⟩]) []->Q .eU H'))
def Kt {C CA CR:ai}(F:jg K "weigh" "Club.weigh" Eh f fd) (CC:HX K C) (OA:t_ K mg "NoName" CA) (OR:t_ K mg "NoRower" CR) (DN:Df P w K mg base 1 "names_of" ["crew"] Fz) (DW:Df P w K mg base 2 "is_weight" ["thing"] (x_ eZ)) (DE:vv P w K mg base 1 C "enter" ["self","crew","standing","following"] (oH C)):dR P w K mg base (rB P w) 3 f fd ["self","name","weight"] (z_ C CA CR):=by
 exists F.MM,sN
 .obtain⟨cb,sl,ll,k,x,v,d,S,sts,cO,rfl,_⟩:=h
  rfl
 .obtain⟨cb,sl,ll,k,x,v,d,S,sts,cO,rfl,hC,Xs,ZS,tl,A2,hq⟩:=h
  have Bx:=hr.mono (j:=1) δ
  refine⟨_,aw (iE (aU b_ (jK (pv 0) rfl) (qC mP ao)) (fU rfl (bx (a_ (i:=3) sN.nd) (bx (a_ (i:=4) sN.nd) (bx (a_ (i:=5) sN.nd) eX)))))
   (aw (cS (bo gZ (pv 1) (cE DN Bx (ae (pv 3) ah)) rfl) (aF (h_ (W:=λcls eA _ H'=>E cls eA H') jQ rfl rfl OA rfl (ae bh ah))) bO)
   (aw (cS (fS (fM (cE DW hr (ae (pv 2) ah)))) (aF (h_ (W:=λcls eA _ H'=>E cls eA H') jQ rfl rfl OR rfl (ae bh ah))) bO)
   (aw (jN (i0:=6) (N:=["rower","name","weight"]) (g:=de 0) (tc:=pH) (te:=VT K) sN.nd rfl (Or.inl rfl) rfl (iF (pv 3))
    (fD.two (v:="rower") (fr:="name") (fs:="weight") (j:=1) (k:=2) (nm:=Z2) rfl rfl rfl rfl rfl rfl)
    (λ_ _ _=>a_ (i:=0) Z3) (λ_ _ _=>iV)
    (λ_ _ _=>pC (bo gO (aU aZ (pv 0) ao) (pv 1) (bG _)) (bU (ae (aU aZ (pv 0) ao) (ae (aU aZ (pv 0) ao) (ae (pv 2) ah)))) (pv 0)))
   (aF (gY (Bw DE Bx (pv 0) (ae (pv 6) (ae (pv 4) (ae (pv 5) ah))))))))),?_⟩
  obtain⟨dx,vs,ws,c1,c2,c3,c4,c5,c6,c7,c8⟩:=id hC
  obtain⟨BZ,_,rfl,Hk,st,cr,sd,q_,us,rfl,e1,e2,vU,e3,e4⟩:=fu c7
  refine lY λOq zO=>?_
  refine⟨_,rfl,cb,C,dx,_,_,rfl,c1,CC.c,CC.ns,rfl,1,rfl,sl,_,-1,.ref st,rfl,rfl,cQ.of c5,lX _ _,UO (bZ.of e1) ?_⟩
  refine zO _ _ ?_
  refine⟨_,rfl,_,rfl,cr,q_,S.br,rfl,e2,vU,ω,λL J sJ hJ=>?_⟩
  refine⟨L,_,rfl,.inl (cQ.of hJ),rfl,nQ _,_,rfl,?_⟩
  rw[sL]
  rcases hq with⟨no,hE⟩|hq
  .rw[bE no]
   exact ite_yes δ ⟨dZ,hE J sJ⟩
  have yes:x∈fO S.br:=by rcases hq with h|h<;>exact h.1
  rw[aI yes]
  refine ite_no δ ?_
  refine⟨_,rfl,k,d,v,rfl,tl.keep sJ.keep,A2,λJ1 s1=>⟨_,rfl,?_⟩⟩
  have Rj:=sJ.trans s1
  rcases hq with⟨_,no,hE⟩|⟨_,ok,i,rfl,hQ⟩
  .rw[no]
   exact ite_yes δ ⟨dZ,hE J1 Rj⟩
  rw[ok]
  refine ite_no δ ?_
  refine⟨_,rfl,cr,rfl,⟨_,bZ.of (Rj _ _ e2)⟩,λL2 Az=>?_⟩
  refine Nk none Az (Rj _ _ e2) (au vU λ_ _ z=>z.up λb xs e=>Rj _ _ e) ω λys J2 s2 Q0 VH=>?_
  have zz:=Rj.trans s2
  refine⟨_,rfl,cb,dx,_,rfl,zz _ _ c1,rfl,_,rfl,_,rfl,_,rfl,cb,sl,ll,L2,sd,ys,us,S.n,_,S.rows,sts++ [S],cO,rfl,hC.same zz,by rw[aQ,aN];omega,.inr Q0,VH,.inl (zz _ _ e3),au e4 λ_ _ q=>q.up λb xs e=>zz _ _ e,λnV H' k' f' C'=>?_⟩
  exact hQ nV H' (λb o n1 n2 n3 e=>k' _ _ n1 n2 n3 (zz _ _ e)) (cD zz f') C'
def Aa:bY ["self","rower","crew","standing","following"] ["self","rower"] (ar Ke):={}
def rD (r:o_):PyData:=.tuple [.str r.1,.str r.2.1,.int r.2.2]
def En (C CR CT CM:ai):Sp:=λvs H Q E=>∃(cb sl ll k:ai) (v:V) (d:PyData) (S:Cs) (sts cO:List Cs),vs=[.ref cb,v]/\eV C H cb sl ll (sts++ [S]) cO/\sts.length<=890/\S.br.length<=8/\Tells H k d v/\rZ d/\
 ((ff d=false/\∀H',bg H H'->E (.ref CR) none H')\/(∃a r,v=.ref a/\d=rD r/\ff d=true/\H a=some (.tup [.str r.1,.str r.2.1,.int r.2.2])/\r.1∈fO S.br/\∀H',bg H H'->E (.ref CT) none H')\/
 (∃a r,v=.ref a/\d=rD r/\ff d=true/\H a=some (.tup [.str r.1,.str r.2.1,.int r.2.2])/\r.1∉fO S.br/\S.br.length=8/\∀dd H',bg H H'->H dd=none->H' dd=some (.xd [("many",.int 9)])->E (.ref CM) (some dd) H')\/
 (∃a r,v=.ref a/\d=rD r/\ff d=true/\H a=some (.tup [.str r.1,.str r.2.1,.int r.2.2])/\r.1∉fO S.br/\S.br.length<=7/\
 ∀nV H',Fx cb sl ll H H'->H nV=none->eV C H' cb sl nV (sts++ [S]++ [⟨nP (S.br++ [r]),S.rows,S.n⟩]) []->Q .eU H'))
def Nl {C CR CT CM:ai}(F:jg K "come" "Club.come" Ke f fd) (T:Txt mg) (CC:HX K C) (OR:t_ K mg "NoRower" CR) (OT:t_ K mg "Twice" CT) (mc:mg "TooMany"=some (.ref CM)) (OM:Bq K CM fI) (FI:dR P w K mg base fN 1 fI fdI ["self","many"] (VR CM)) (bI:Binds K fdI ["self","many"] []) (DR:Df P w K mg base 3 "is_rower" ["thing"] (x_ ff)) (DN:Df P w K mg base 1 "names_of" ["crew"] Fz) (DE:vv P w K mg base 1 C "enter" ["self","crew","standing","following"] (oH C)):dR P w K mg base (rB P w) 4 f fd ["self","rower"] (En C CR CT CM):=by
 exists F.MM,Aa
 .obtain⟨cb,sl,ll,k,v,d,S,sts,cO,rfl,_⟩:=h
  rfl
 .obtain⟨cb,sl,ll,k,v,d,S,sts,cO,rfl,hC,Xs,ZS,tl,A2,hq⟩:=h
  have Bx:=hr.mono (j:=1) δ
  have hr2:=hr.mono (j:=2) δ
  obtain⟨tk,hM⟩:=T.MR
  refine⟨_,aw (iE (aU b_ (jK (pv 0) rfl) (qC mP ao)) (fU rfl (bx (a_ (i:=2) Aa.nd) (bx (a_ (i:=3) Aa.nd) (bx (a_ (i:=4) Aa.nd) eX)))))
   (aw (cS (fS (fM (cE DR hr (ae (pv 1) ah)))) (aF (h_ (W:=λcls eA _ H'=>E cls eA H') jQ rfl rfl OR rfl (ae bh ah))) bO)
   (aw (cS (bo qk (aU aZ (pv 1) ao) (cE DN Bx (ae (pv 2) ah)) rfl) (aF (h_ (W:=λcls eA _ H'=>E cls eA H') jQ rfl rfl OT rfl (ae bh ah))) bO)
   (aw (cS (bo Iq (aR bS rfl T.len bC (ae (pv 2) ah)) (fT (v:=.int 8) rfl hM ⟨_,rfl⟩) (bG _)) (aF (Hj (W:=λcls eA _ H'=>E cls eA H') (E:=E0) jQ rfl OM FI hr2 bI .nil (λ_ _ _ _ _ _ _ z=>z.elim) rfl rfl mc (ae (bW gs (aR bS rfl T.len bC (ae (pv 2) ah)) ao) ah))) bO)
   (aF (gY (Bw DE Bx (pv 0) (ae (aR xk rfl T.sorted fV (ae (bW Nh (pv 2) (bU (ae (pv 1) ah))) ah)) (ae (pv 3) (ae (pv 4) ah))))))))),?_⟩
  obtain⟨dx,vs,ws,c1,c2,c3,c4,c5,c6,c7,c8⟩:=id hC
  obtain⟨BZ,_,rfl,Hk,st,cr,sd,q_,us,rfl,e1,e2,vU,e3,e4⟩:=fu c7
  have lw:=bT vU
  refine lY λOq zO=>?_
  refine⟨_,rfl,cb,C,dx,_,_,rfl,c1,CC.c,CC.ns,rfl,1,rfl,sl,_,-1,.ref st,rfl,rfl,cQ.of c5,lX _ _,UO (bZ.of e1) ?_⟩
  refine zO _ _ ?_
  refine⟨_,rfl,k,d,v,rfl,tl,A2,λJ1 s1=>⟨_,rfl,?_⟩⟩
  rcases hq with⟨no,hE⟩|hq
  .rw[no]
   exact ite_yes δ ⟨dZ,hE J1 s1⟩
  have gd:∃a r,v=.ref a/\ff d=true/\H a=some (.tup [.str r.1,.str r.2.1,.int r.2.2])/\((r.1∈fO S.br/\∀H',bg H H'->E (.ref CT) none H')\/(r.1∉fO S.br/\((S.br.length=8/\∀dd H',bg H H'->H dd=none->H' dd=some (.xd [("many",.int 9)])->E (.ref CM) (some dd) H')\/(S.br.length<=7/\
    ∀nV H',Fx cb sl ll H H'->H nV=none->eV C H' cb sl nV (sts++ [S]++ [⟨nP (S.br++ [r]),S.rows,S.n⟩]) []->Q .eU H')))):=by
   rcases hq with⟨a,r,h1,_,h3,h4,h5⟩|⟨a,r,h1,_,h3,h4,h5,h6⟩|⟨a,r,h1,_,h3,h4,h5,h6⟩
   .exact⟨a,r,h1,h3,h4,.inl h5⟩
   .exact⟨a,r,h1,h3,h4,.inr ⟨h5,.inl h6⟩⟩
   .exact⟨a,r,h1,h3,h4,.inr ⟨h5,.inr h6⟩⟩
  obtain⟨a,r,rfl,ok,ha,hq⟩:=gd
  rw[ok]
  refine ite_no δ ?_
  refine iO rfl (bZ.of (s1 _ _ ha)) (aV (j:=0) rfl) ⟨_,rfl,cr,q_,S.br,rfl,s1 _ _ e2,au vU λ_ _ z=>z.up λb xs e=>s1 _ _ e,ω,λL J sJ' hJ=>?_⟩
  have sJ:=s1.trans sJ'
  refine⟨L,_,rfl,.inl (cQ.of hJ),rfl,nQ _,_,rfl,?_⟩
  rw[sL]
  rcases hq with⟨yes,hE⟩|⟨no,hq⟩
  .rw[aI yes]
   exact ite_yes δ ⟨dZ,hE J sJ⟩
  rw[bE no]
  refine ite_no δ ?_
  refine⟨_,rfl,cr,q_,rfl,.inr (bZ.of (sJ _ _ e2)),_,_,rfl,rfl,_,rfl,?_⟩
  rcases hq with⟨l8,hE⟩|⟨l7,hQ⟩
  .refine ite_yes (aI ω) ?_
   refine⟨_,rfl,cr,q_,rfl,.inr (bZ.of (sJ _ _ e2)),_,_,rfl,rfl,dZ,λx hx=>?_⟩
   refine⟨x,9,by rw[lw,l8];rfl,δ,aB,λdd hd na=>⟨rfl,some dd,aB,?_⟩⟩
   obtain⟨z1,z2,z3⟩:=Ks (o2:=.xd [("many",.int 9)]) (o3:=qY x (.ref CM) (some dd)) hx hd na
   exact hE dd _ (sJ.trans z1) (cD sJ z2) z3
  refine ite_no (λz=>?_) ?_
  .have:=aX z
   omega
  refine⟨_,rfl,cb,dx,_,rfl,sJ _ _ c1,rfl,_,rfl,_,rfl,dZ,λt ht=>?_⟩
  exists ht,.tup [.ref a],J,t,z1,y1,M1
  have s2:=sJ.trans z1
  refine⟨cr,t,q_,[.ref a],rfl,rfl,s2 _ _ e2,y1,ς,by rw[aN];omega,λM2 p z2 y2=>?_⟩
  have s3:=s2.trans z2
  obtain⟨L0,eL,kL,hL⟩:=zY (H:=M2) (d_ (au vU λ_ _ z=>z.up λb xs e=>s3 _ _ e) ⟨a,rfl,s3 _ _ ha⟩:Paired (gm M2) (q_++ [.ref a]) (S.br++ [r]))
  have lL:L0.length=q_.length+1:=by have:=jS List.length eL;simpa using this.symm
  refine⟨p,L0,rfl,bZ.of (by rw[<-eL];exact y2),ω,hL,λl L1 hl p1 QN=>?_⟩
  exists hl,.lst (L1.map λe=>V.ref e.a),M2,l,z3,y3,M3
  have zz:=s3.trans z3
  have U9:L1.map (·.key)=nP (S.br++ [r]):=xo (by rw[<-kL];exact p1.map _) (mi.mpr QN)
  have pc:Paired (gm M3) (L1.map λe=>V.ref e.a) (L1.map (·.key)):=au (zZ λe he=>hL e (p1.mem_iff.mp he)) λ_ _ z=>z.up λb xs e=>z3 _ _ e
  rw[U9] at pc
  refine⟨_,rfl,_,rfl,cb,sl,ll,l,sd,_,us,S.n,_,S.rows,sts++ [S],cO,rfl,hC.same zz,by rw[aQ,aN];omega,.inr y3,pc,.inl (zz _ _ e3),au e4 λ_ _ q=>q.up λb xs e=>zz _ _ e,λnV H' k' f' C'=>?_⟩
  exact hQ nV H' (λb o n1 n2 n3 e=>k' _ _ n1 n2 n3 (zz _ _ e)) (cD zz f') C'
end
def SW (r:Oo):PyData:=.tuple [.str r.1,.str r.2.1,.tuple [.int r.2.2.1,.int r.2.2.2]]
def Ku (r:Oo):Prop:=okN r.1/\okN r.2.1/\r.2.2.1.natAbs<2^200/\r.2.2.2.natAbs<2^200
def VU (h:Ku r):Bd 10 2 (SW r):=by
 obtain⟨h1,h2,h3,h4⟩:=h
 have b1:Bd 3 1 (.tuple [.int r.2.2.1,.int r.2.2.2]):=by
  refine(Bd.tuple (n:=1) (p:=0) (m:=2) (ds:=[.int r.2.2.1,.int r.2.2.2]) (λx hx=>?_) (av 2)).mono δ δ
  simp only[aD,aG,cx] at hx
  rcases hx with rfl|rfl
  .exact i_ h3
  .exact i_ h4
 refine(Bd.tuple (n:=3) (p:=1) (m:=3) (ds:=[.str r.1,.str r.2.1,.tuple [.int r.2.2.1,.int r.2.2.2]]) (λx hx=>?_) (av 3)).mono δ δ
 simp only[aD,aG,cx] at hx
 rcases hx with rfl|rfl|rfl
 .exact(mX h1.1 h1.2.1).mono δ δ
 .exact(mX h2.1 h2.2.1).mono δ δ
 .exact b1
def xI {a b:Int}(a1:1<=a) (a2:a<=1000000000) (b1:1<=b) (b2:b<=1000000000):(a-b).natAbs<2^35:=ω
def Xu {c:Int}(a1:1<=c) (a2:c<=1000000000):c.natAbs<2^35:=ω
def VW (o1:iL p) (o2:iL q) (x:Xp p q m y):Ku (pT p q m y):=by
 have Xv:=o1.a.ok m x.hm
 have Xw:=o1.b.ok y x.hy
 have i1:=o1.c1;have i2:=o1.c9;have i3:=o2.c1;have i4:=o2.c9
 have i5:=o1.t1;have i6:=o1.t9;have i7:=o1.o1;have i8:=o1.o9
 have j5:=o2.t1;have j6:=o2.t9;have j7:=o2.o1;have j8:=o2.o9
 have m1:((p.o-p.t)*q.c).natAbs<2^70:=lN (a:=35) (b:=35) (xI i7 i8 i5 i6) (Xu i3 i4)
 have m2:((q.o-q.t)*p.c).natAbs<2^70:=lN (a:=35) (b:=35) (xI j7 j8 j5 j6) (Xu i1 i2)
 have m3:(p.c*q.c).natAbs<2^70:=lN (a:=35) (b:=35) (Xu i1 i2) (Xu i3 i4)
 have ld:(qX p q).natAbs<2^80:=bf (Cf _ _) (fA (LB m1 m2) δ)
 have ft:∀d:Int,d.natAbs<2^80->(ek d (p.c*q.c)).natAbs<2^200:=λd hd=>bf wX (fA hd δ)
 have fb:∀d:Int,(dS d (p.c*q.c)).natAbs<2^200:=λd=>bf wY (fA m3 δ)
 unfold pT
 dsimp only
 split
 .exact⟨Xv,Xw,ft _ ld,fb _⟩
 .split
  .exact⟨Xw,Xv,ft _ (by rw[Lz];exact ld),fb _⟩
  .refine⟨?_,?_,(show(0:Int).natAbs<2^200 by decide),(show(1:Int).natAbs<2^200 by decide)⟩
   .show okN (if eg y m=true then y else m)
    split
    .exact Xw
    .exact Xv
   .show okN (if eg y m=true then m else y)
    split
    .exact Xv
    .exact Xw
def qI (H:Hp) (d:PyData) (v:V):Prop:=∃k0:Nat,∀k:Nat,k0<=k->Tells H k d v
def yg (H:Hp) (ds:List PyData) (vs:List V):Prop:=∃k0:Nat,∀k:Nat,k0<=k->dq H k ds vs
def Ab (h:Nat.add (Nat.add k0 a) 1<=k):k0<=k/\a≠k:=by
 have h:k0+a+1<=k:=h
 exact⟨ω,ω⟩
def qI.one (h:qI H d v):∃k,Tells H k d v:=let⟨k,t⟩:=h;⟨k,t k (av k)⟩
def ix (x:Str):qI H (.str x) (.str x):=⟨0,λ_ _=>fi.mpr rfl⟩
def ez (i:Int):qI H (.int i) (.int i):=⟨0,λ_ _=>jx.mpr rfl⟩
def sO:qI H .none .eU:=⟨0,λ_ _=>qR.mpr rfl⟩
def dU:yg H [] []:=⟨0,λ_ _=>eI.mpr rfl⟩
def aW (h:qI H d v) (t:yg H ds vs):yg H (d::ds) (v::vs):=by
 obtain⟨k1,t1⟩:=h
 obtain⟨k2,t2⟩:=t
 exact⟨k1+k2,λk hk=>bV.mpr ⟨_,_,rfl,t1 k ω,t2 k ω⟩⟩
def gC (h:H a=some (.tup vs)) (t:yg H ds vs):qI H (.tuple ds) (.ref a):=by
 obtain⟨k0,t⟩:=t
 exact⟨Nat.add (Nat.add k0 a) 1,λk hk=>e_.mpr ⟨a,vs,rfl,(Ab (k0:=k0) hk).2,h,t _ (Ab (k0:=k0) (a:=a) hk).1⟩⟩
def eJ (h:H a=some (.lst vs)) (t:yg H ds vs):qI H (.list ds) (.ref a):=by
 obtain⟨k0,t⟩:=t
 exact⟨Nat.add (Nat.add k0 a) 1,λk hk=>kj.mpr ⟨a,vs,rfl,(Ab (k0:=k0) hk).2,h,t _ (Ab (k0:=k0) (a:=a) hk).1⟩⟩
def eG {α:Type}{H:Hp}{R:V->α->Prop}{f:α->PyData}(g:∀v x,R v x->qI H (f x) v):∀{ws:List V}{L:List α},Paired R ws L->yg H (L.map f) ws
 |_,_,.nil=>dU
 |_,_,.cons h t=>aW (g _ _ h) (eG g t)
def oK (ns:List Str):yg H (cz ns) (ns.map V.str):=⟨0,λ_ _=>kK ns⟩
def Lm (x:Nat×qW):PyData:=.tuple [.int x.1,ye x.2]
def SX (r:Row3):PyData:=.tuple [.int r.1,.int r.2.1,SW r.2.2]
def Ac (h:kq H r p):qI H (ye p) (.ref r):=by
 obtain⟨a,b,h1,h2,h3⟩:=h
 exact gC h1 (aW (gC h2 (oK _)) (aW (gC h3 (oK _)) (aW (ez _) (aW (ez _) (aW (ez _) dU)))))
def pZ (v:V) (r:o_) (h:gm H v r):qI H (rD r) v:=by
 obtain⟨a,rfl,h1⟩:=h
 exact gC h1 (aW (ix _) (aW (ix _) (aW (ez _) dU)))
def rg (v:V) (x:Nat×qW) (h:kr H v x):qI H (Lm x) v:=by
 obtain⟨u,r,rfl,h1,h2⟩:=h
 exact gC h1 (aW (ez _) (aW (Ac h2) dU))
def Kv (v:V) (x:Row3) (h:oQ H v x):qI H (SX x) v:=by
 obtain⟨a,q,rfl,h1,l,h2,h3⟩:=h
 exact gC h1 (aW (ez _) (aW (ez _) (aW (gC h2 (aW (ix _) (aW (ix _) (aW (gC h3 (aW (ez _) (aW (ez _) dU))) dU)))) dU)))
def FA {α:Type} [DecidableEq α] {f:α->PyData}(h:∀a b,PyData.eqv (f a) (f b)=decide (a=b)):∀a b:List α,PyData.eqvAll (a.map f) (b.map f)=decide (a=b)
 | [],[]=>by simp[PyData.eqvAll]
 | [],_::_=>by simp[PyData.eqvAll]
 |_::_,[]=>by simp[PyData.eqvAll]
 |x::a,y::b=>by
  rw[bQ,bQ,PyData.eqvAll,FA h a b,h]
  by_cases e:x=y
  .subst e;simp
  .simp[e]
def l_ {α:Type} [DecidableEq α] {f:α->PyData}(h:∀a b,PyData.eqv (f a) (f b)=decide (a=b)) (a b:List α):PyData.eqv (.list (a.map f)) (.list (b.map f))=decide (a=b):=by rw[<-FA h];rw[PyData.eqv]
def xq (a b:o_):PyData.eqv (rD a) (rD b)=decide (a=b):=by
 obtain⟨a1,a2,a3⟩:=a
 obtain⟨b1,b2,b3⟩:=b
 unfold rD
 by_cases e1:a1=b1<;>by_cases e2:a2=b2<;>by_cases e3:a3=b3<;>simp[PyData.eqv,PyData.eqvAll,e1,e2,e3]
instance:DecidableEq qW:=λp q=>decidable_of_iff (p.a=q.a/\p.b=q.b/\p.t=q.t/\p.o=q.o/\p.c=q.c) (by cases p;cases q;simp)
def Eo (p q:qW):PyData.eqv (ye p) (ye q)=decide (p=q):=by
 obtain⟨a1,a2,a3,a4,a5⟩:=p
 obtain⟨b1,b2,b3,b4,b5⟩:=q
 unfold ye
 have h1:=lQ a1 b1
 have h2:=lQ a2 b2
 by_cases e1:a1=b1<;>by_cases e2:a2=b2<;>by_cases e3:a3=b3<;>by_cases e4:a4=b4<;>by_cases e5:a5=b5<;>simp[PyData.eqv,PyData.eqvAll,h1,h2,e1,e2,e3,e4,e5]<;>simp_all [PyData.eqv]
def Ep (a b:Nat×qW):PyData.eqv (Lm a) (Lm b)=decide (a=b):=by
 obtain⟨a1,a2⟩:=a
 obtain⟨b1,b2⟩:=b
 unfold Lm
 by_cases e1:a1=b1<;>by_cases e2:a2=b2<;>simp[PyData.eqv,PyData.eqvAll,Eo,e1,e2,Int.natCast_inj]
def Rk (a b:Oo):PyData.eqv (SW a) (SW b)=decide (a=b):=by
 obtain⟨a1,a2,a3,a4⟩:=a
 obtain⟨b1,b2,b3,b4⟩:=b
 unfold SW
 by_cases e1:a1=b1<;>by_cases e2:a2=b2<;>by_cases e3:a3=b3<;>by_cases e4:a4=b4<;>simp[PyData.eqv,PyData.eqvAll,e1,e2,e3,e4]
def Rl (a b:Row3):PyData.eqv (SX a) (SX b)=decide (a=b):=by
 obtain⟨a1,a2,a3⟩:=a
 obtain⟨b1,b2,b3⟩:=b
 unfold SX
 by_cases e1:a1=b1<;>by_cases e2:a2=b2<;>by_cases e3:a3=b3<;>simp[PyData.eqv,PyData.eqvAll,Rk,e1,e2,e3,Int.natCast_inj]
def B3 (n:Str):Prop:=n.length<=100/\PyData.strOk n=true
def Rm (r:o_):Prop:=okN r.1/\B3 r.2.1/\r.2.2.natAbs<2^200
structure uY (S:Cs):Prop where
 br:∀r∈S.br,Rm r
 rows:∀x∈S.rows,iL x.2/\gz x.2
 num:∀x∈S.rows,x.1<=100000
 lc:S.br.length<=8
 lr:S.rows.length<=31
def Oy (h:Rm r):Bd 4 1 (rD r):=by
 refine(Bd.tuple (n:=1) (p:=0) (m:=3) (ds:=[.str r.1,.str r.2.1,.int r.2.2]) (λx hx=>?_) (av 3)).mono δ δ
 simp only[aD,aG,cx] at hx
 rcases hx with rfl|rfl|rfl
 .exact mX h.1.1 h.1.2.1
 .exact mX h.2.1.1 h.2.1.2
 .exact i_ h.2.2
def FC {l:List o_}(h:∀r∈l,Rm r) (hl:l.length<=100):Bd 401 2 (.list (l.map rD)):=by
 refine(Bd.list (n:=4) (p:=1) (m:=100) (λx hx=>?_) (by rw[aq];exact hl)).mono δ δ
 obtain⟨r,hr,rfl⟩:=cT.mp hx
 exact Oy (h r hr)
def VX (h:iL x.2) (hn:x.1<=100000):Bd 2001 16 (Lm x):=by
 refine(Bd.tuple (n:=1000) (p:=15) (m:=2) (ds:=[.int x.1,ye x.2]) (λy hy=>?_) (av 2)).mono δ δ
 simp only[aD,aG,cx] at hy
 rcases hy with rfl|rfl
 .exact(i_ ω).mono δ δ
 .exact Kc h
def FD {l:Rows}(h:∀x∈l,iL x.2/\gz x.2) (hn:∀x∈l,x.1<=100000) (hl:l.length<=100):Bd 200101 17 (.list (l.map Lm)):=by
 refine(Bd.list (n:=2001) (p:=16) (m:=100) (λx hx=>?_) (by rw[aq];exact hl)).mono δ δ
 obtain⟨r,hr,rfl⟩:=cT.mp hx
 exact VX (h r hr).1 (hn r hr)
def Kw (h:r∈El i j o):∃t,o=some t/\r=(i,j,t):=by
 cases o with
 |none=>cases h
 |some t=>exact⟨t,rfl,by simpa[El] using h⟩
def Kx (o1:iL p) (o2:iL q) (h:Bz p q=some t):Ku t:=by
 unfold Bz at h
 split at h
 .rename_i x
  cases h
  exact VW o1 o2 x.choose_spec.choose_spec
 .cases h
def Ky (hx:iL x.2) (nx:x.1<=100000):∀{l:Rows},(∀y∈l,iL y.2)->(∀y∈l,y.1<=100000)->r∈Km x l->r.1<=100000/\r.2.1<=100000/\Ku r.2.2
 | [],_,_,h=>by cases h
 |y::l,ho,hn,h=>by
  rcases bK.mp h with h|h
  .obtain⟨t,e,rfl⟩:=Kw h
   exact⟨nx,hn y (.head _),Kx hx (ho y (.head _)) e⟩
  .exact Ky hx nx (λz hz=>ho z (.tail _ hz)) (λz hz=>hn z (.tail _ hz)) h
def Kz:∀{l:Rows},(∀y∈l,iL y.2)->(∀y∈l,y.1<=100000)->r∈yf l->r.1<=100000/\r.2.1<=100000/\Ku r.2.2
 | [],_,_,h=>by cases h
 |y::l,ho,hn,h=>by
  rcases bK.mp h with h|h
  .exact Ky (ho y (.head _)) (hn y (.head _)) (λz hz=>ho z (.tail _ hz)) (λz hz=>hn z (.tail _ hz)) h
  .exact Kz (λz hz=>ho z (.tail _ hz)) (λz hz=>hn z (.tail _ hz)) h
def Rn (ho:∀x∈l,iL x.2/\gz x.2) (hn:∀x∈l,x.1<=100000):Lay (.list ((yf l).map SX)):=by
 refine(Bd.list (n:=31) (p:=3) (m:=(yf l).length) (λx hx=>?_) (by rw[aq];exact av _)).lay δ
 obtain⟨r,hr,rfl⟩:=cT.mp hx
 obtain⟨h1,h2,h3⟩:=Kz (λy hy=>(ho y hy).1) hn hr
 refine(Bd.tuple (n:=10) (p:=2) (m:=3) (ds:=[.int r.1,.int r.2.1,SW r.2.2]) (λx hx=>?_) (av 3)).mono δ δ
 simp only[aD,aG,cx] at hx
 rcases hx with rfl|rfl|rfl
 .exact(i_ ω).mono δ δ
 .exact(i_ ω).mono δ δ
 .exact VU h3
def uY.Hr (h:uY S):Lay (.list (S.br.map rD)):=(FC h.br (aA h.lc δ)).lay δ
def uY.layR (h:uY S):Lay (.list (S.rows.map Lm)):=(FD h.rows h.num (aA h.lr δ)).lay δ
def uY.VY (h:uY S):Lay (.list ((yf S.rows).map SX)):=Rn h.rows h.num
structure Ro (K:Φ) (C:ai):Prop where
 cl:AK K C
 ha:findIn K (.ref C) "__class__"=some (some (.builtin "object.__class__"))
 hn:specialIn K (.builtin "object.__class__") "__get__"=some (some (.builtin "getset_descriptor.__get__"))
 W7:takesIn K (.builtin "object.__class__")=some true
 hm:mroIn K C (.type "object")=some true
def Rp (K:Φ):List V->Hp->VK->Prop:=λxs H Q=>∃a C D dx fs b,xs=[.ref a,.ref D]/\H a=some (.ins C dx fs)/\Ro K C/\kitOne K (.ref C) (.ref D)=some b/\Q (.bl b) H
def Er:gN X (.builtin "isinstance") (Rp X.K):=by
 intro ac s Z H xs us Q I r h
 obtain⟨a,C,D,dx,fs,b,rfl,ha,F,e,q⟩:=h
 obtain⟨u,u',rfl,r1,r2⟩:=vals2 r
 cases(show u=Value.ref a from r1)
 cases(show u'=Value.ref D from r2)
 exact yu I (x:=.ref a) rfl (.ins ha F.cl F.ha F.hn F.W7 F.hm) e λtk=>⟨.bl b,H,I.tok tk,rfl,q⟩
section
variable {P:aJ}{w:bB}{K:Φ}{mg:Str->Option ag}{base:Heap}
def VZ:bY ["self"] ["self"] (ar QR):={}
def KA (C:ai):Sp:=λvs H Q _=>∃(cb sl ll:ai) (S:Cs) (sts cO:List Cs),vs=[.ref cb]/\eV C H cb sl ll (sts++ [S]) cO/\∀H',bg H H'->Q (.int S.br.length) H'
def Rq (F:jg K "__len__" "Club.__len__" QR f fd) (T:Txt mg) (DR:vv P w K mg base 1 C "rowers" ["self"] (rf C)):dR P w K mg base fN 2 f fd ["self"] (KA C):=by
 exists F.ok,VZ
 .obtain⟨cb,sl,ll,S,sts,cO,rfl,_⟩:=h
  rfl
 .obtain⟨cb,sl,ll,S,sts,cO,rfl,hC,hQ⟩:=h
  refine⟨_,aF (bN (aR bS rfl T.len bC (ae (kZ DR hr (pv 0)) ah))),?_⟩
  obtain⟨dx,vs,ws,c1,_⟩:=id hC
  refine⟨_,rfl,cb,dx,_,rfl,c1,rfl,cb,sl,ll,S,sts,cO,rfl,hC,λl us hl pr=>⟨l,us,rfl,.inl (cQ.of aB),?_⟩⟩
  rw[bT pr]
  exact hQ _ (aO hl _)
def Z4:bY ["self","other"] ["self","other"] (ar sEq):={}
def Nm (C:ai):Sp:=λvs H Q _=>∃(cb sl ll Np Ga nV:ai) (S S':Cs) (sts cO gk fW:List Cs),vs=[.ref cb,.ref Np]/\eV C H cb sl ll (sts++ [S]) cO/\eV C H Np Ga nV (gk++ [S']) fW/\uY S/\uY S'/\∀H',bg H H'->Q (.bl (decide (S.br=S'.br/\S.rows=S'.rows))) H'
def V0 (F:jg K "__eq__" "Club.__eq__" sEq f fd) (T:Txt mg) (mC:mg "Club"=some (.ref C)) (IK:Ro K C) (ki:kitOne K (.ref C) (.ref C)=some true) (DR:vv P w K mg base 1 C "rowers" ["self"] (rf C)) (DP:vv P w K mg base 1 C "pieces" ["self"] (xl C)):dR P w K mg base fN 2 f fd ["self","other"] (Nm C):=by
 exists F.ok,Z4
 .obtain⟨cb,sl,ll,Np,Ga,nV,S,S',sts,cO,gk,fW,rfl,_⟩:=h
  rfl
 .obtain⟨cb,sl,ll,Np,Ga,nV,S,S',sts,cO,gk,fW,rfl,hC,Z5,o1,o2,hQ⟩:=h
  refine⟨_,aF (bN (jH (aR Er rfl T.s_ aE (ae (pv 1) (ae (fT (v:=.ref C) rfl mC rfl) ah)))
   (jH (gy (pL hr.units) (kZ DR hr (pv 0)) (kZ DR hr (pv 1)) (bG _)) (mK (gy (pL hr.units) (kZ DP hr (pv 0)) (kZ DP hr (pv 1)) (bG _)))))),?_⟩
  obtain⟨dx,vs,ws,c1,_⟩:=id hC
  obtain⟨Ql,BZ,tu,UP,_⟩:=id Z5
  refine⟨_,rfl,Np,C,C,Ql,_,true,rfl,UP,IK,ki,true,rfl,?_⟩
  refine ite_yes rfl ?_
  refine⟨_,rfl,cb,dx,_,rfl,c1,rfl,cb,sl,ll,S,sts,cO,rfl,hC,λl1 us1 DV Xx=>?_⟩
  exists DV,.lst us1,H,l1,s1,w1,M1
  refine⟨_,rfl,Np,Ql,_,rfl,s1 _ _ UP,rfl,Np,Ga,nV,S',gk,fW,rfl,Z5.same s1,λl2 V3 nS pr2=>?_⟩
  exists nS,.lst V3,M1,l2,s2,w2,M2
  have iD:=s1.trans s2
  obtain⟨k1,t1⟩:=(eJ (s2 _ _ w1) (eG pZ (au Xx λ_ _ z=>z.up λb xs e=>iD _ _ e))).one
  obtain⟨k2,t2⟩:=(eJ w2 (eG pZ (au pr2 λ_ _ z=>z.up λb xs e=>s2 _ _ e))).one
  refine⟨k1,k2,_,_,t1,t2,o1.Hr,o2.Hr,_,rfl,?_⟩
  rw[l_ xq]
  refine eY (λc=>?_) (λc=>?_)
  .have c:=aX c
   refine⟨_,rfl,cb,dx,_,rfl,iD _ _ c1,rfl,cb,sl,ll,S,sts,cO,rfl,hC.same iD,λl3 us3 BE pr3=>?_⟩
   exists BE,.lst us3,M2,l3,s3,w3,M3
   have lO:=iD.trans s3
   refine⟨_,rfl,Np,Ql,_,rfl,lO _ _ UP,rfl,Np,Ga,nV,S',gk,fW,rfl,Z5.same lO,λl4 us4 Lh pr4=>?_⟩
   exists Lh,.lst us4,M3,l4,s4,w4,M4
   have Ay:=lO.trans s4
   obtain⟨k3,t3⟩:=(eJ (s4 _ _ w3) (eG rg (au pr3 λ_ _ z=>z.up λb xs e=>(s3.trans s4) _ _ e))).one
   obtain⟨k4,t4⟩:=(eJ w4 (eG rg (au pr4 λ_ _ z=>z.up λb xs e=>s4 _ _ e))).one
   refine⟨k3,k4,_,_,t3,t4,o1.layR,o2.layR,?_⟩
   rw[l_ Ep]
   have:=hQ M4 Ay
   rw[show decide (S.br=S'.br/\S.rows=S'.rows)=decide (S.rows=S'.rows) by simp[c]] at this
   exact this
  .have:=hQ M2 iD
   rw[show decide (S.br=S'.br/\S.rows=S'.rows)=false by
    rw[bE];intro z;exact c (aI z.1)] at this
   exact this
end
end K13
namespace K13
open PySem L2
abbrev Rr:Stmt:=top 45
section
variable {P:aJ}{w:bB}{K:Φ}{mg:Str->Option ag}{base:Heap}
def Rt:bY ["top","bottom","one","other"] ["top","bottom"] (ar Rr):={}
def Ru (F:jg K "_law_fraction" "_law_fraction" Rr f fd) (T:Txt mg):dR P w K mg base fN 1 f fd ["top","bottom"] JR:=by
 exists F.ok,Rt
 .obtain⟨t,b,rfl,_⟩:=h
  rfl
 .obtain⟨t,b,rfl,b0,b1,t1,q⟩:=h
  refine⟨_,aw (zu (i:=2) (j:=3) rfl Rt.nd rfl rfl δ rfl rfl (ae (aR vP rfl T.abs ue (ae (pv 0) ah)) (ae (pv 1) ah)) rfl)
   (aw (AH fg (bo lV (pv 3) ao (bG _)) (aF (zu (i:=2) (j:=3) rfl Rt.nd rfl rfl δ rfl rfl (ae (pv 3) (ae (bW oh (pv 2) (pv 3)) ah)) rfl)))
   (aF (bN (bU (ae (bW pQ (pv 0) (pv 2)) (ae (bW pQ (pv 1) (pv 2)) ah)))))),?_⟩
  refine⟨_,rfl,_,rfl,_,rfl,_,_,rfl,?_⟩
  refine AI (λbX H'=>H'=H/\∃m n:Nat,bX=[some (.int t),some (.int b),some (.int m),some (.int n)]/\0<m+n/\Nat.gcd m n=Nat.gcd t.natAbs b.natAbs/\m<2^150/\n<2^150)
   (λbX _=>match bX with| [_,_,_,some (.int n)]=>n.toNat|_=>0) ?_ ?_ ?_
  .refine⟨rfl,t.natAbs,b.natAbs,?_,ω,rfl,t1,b1⟩
   show[some (V.int t),some (V.int b),some (V.int (if t<0 then-t else t)),some (V.int b)]=_
   rw[Fn,show((b.natAbs:Nat):Int)=b by omega]
  .rintro bX H' ⟨rfl,m,n,rfl,m0,hg,hm,hn⟩
   refine⟨_,rfl,rfl,_,rfl,?_⟩
   refine eY (λc=>?_) (λc=>?_)
   .have n0:0<n:=by
     have:n≠0:=λz=>JE c (by rw[z];rfl)
     omega
    refine⟨_,rfl,_,rfl,_,rfl,_,_,rfl,rfl,ω,_,_,rfl,⟨rfl,n,m %n,?_,ω,by rw[Bg];exact hg,hn,bf (Nat.mod_le _ _) hm⟩,?_⟩
    .show[some (V.int t),some (V.int b),some (V.int (n:Int)),some (V.int ((m:Int) %(n:Int)))]=_
     rw[vq]
    .show((m:Int) %(n:Int)).toNat<(n:Int).toNat
     rw[vq]
     have:=Nat.mod_lt m n0
     omega
   .have n0:n=0:=by
     have e5:V.int (n:Int)=V.int 0:=v_eq c
     injection e5 with e5
     omega
    subst n0
    rw[Nat.gcd_zero_right] at hg
    have bd:(0:Int)<(m:Int)/\(m:Int)<2^200:=⟨ω,JQ hm⟩
    refine⟨_,rfl,_,rfl,_,_,rfl,rfl,bd,_,rfl,_,rfl,_,_,rfl,rfl,bd,dZ,λp hp=>?_⟩
    have:=q p hp
    unfold ek dS at this
    rw[<-hg] at this
    exact this
  .rintro bX H' Q1 Q2 imp ⟨v,hv,sc,b',e3,h⟩
   exact⟨v,hv,sc,b',e3,imp _ _ h⟩
end
end K13
namespace K13
open PySem L2 HT PySem.W
def xr (a b:List Str):PyData.eqv (.list (cz a)) (.list (cz b))=decide (a=b):=by
 have:=lQ a b
 simp only[PyData.eqv] at this⊢
 exact this
def qt (h:H a=some (.lst (A.map V.str))):Tells H (a+1) (.list (cz A)) (.ref a):=
 kj.mpr ⟨a,_,rfl,(λz=>absurd z (bj (fX a))),h,kK A⟩
def Ht (hc:∀n∈c,okN n) (hl:c.length<=12):Bd 13 1 (.list (cz c)):=by
 refine(Bd.list (n:=1) (p:=0) (m:=12) (λx hx=>?_) (by unfold cz;rw[aq];exact hl)).mono δ δ
 obtain⟨n,hn,rfl⟩:=cT.mp hx
 exact mX (hc n hn).1 (hc n hn).2.1
def KC (h:∀n∈a,okN n):∀n∈gU a b,okN n:=λn hn=>h n (dN.mp hn).1
def Hu:(gU a b).length<=a.length:=eM _ _
section
variable {P:aJ}{w:bB}{K:Φ}{mg:Str->Option ag}{base:Heap}
def sQ {H1:Hp}{L a r b:ai}{A B:List Str}{xs:List V}{k:Int}{Q:VK}(v:Option V) (hL:H1 L=none) (h:H1 a=some (.tup (A.map V.str))) (hr:H1 r=some (.tup xs)) (hx:qA xs k=some (.ref b)) (hb:H1 b=some (.tup (B.map V.str))) (hl:A.length<=1000)
  (q:∀J,bg H1 J->J L=some (.lst ((gU A B).map V.str))->Q (.ref L) J):
  pK (Cr K a) (de 0) (gI (gH (PK K true) (cj 0) (gH (gg K) (cj 1) (tC (.int k))))) (cj 0) [v,some (.ref r)] H1 Q L:=by
 refine mB (n:=A.length) (f:=λi=>(A.map V.str).getD i .eU) (λj ys bX J=>(∃v,bX=[v,some (.ref r)])/\bg H1 J/\ys=(gU (A.take j) B).map V.str) hL hl ⟨⟨_,rfl⟩,bP (bg.refl _) hL,rfl⟩ ?_ ?_ ?_
 .rintro j ys bX J hj hy ⟨_,sj,_⟩
  have:=kD (K:=K) (bZ.of (sj _ _ h)) j (by rw[aq];exact hj)
  rw[aq] at this
  exact this
 .rintro j ys bX J hj hy ⟨⟨v,rfl⟩,sj,rfl⟩
  rw[Br hj]
  refine⟨_,rfl,_,rfl,r,xs,k,_,rfl,rfl,bZ.of (sj _ _ hr),hx,b,_,rfl,.inr (bZ.of (sj _ _ hb)),rfl,nQ B,_,rfl,?_⟩
  rw[show(if true=true then !IG (V.str A[j]) (B.map V.str) else IG (V.str A[j]) (B.map V.str))= !decide (A[j]∈B) from jS (!·) (sL _ _),gj hj]
  unfold gU
  rw[Bs]
  by_cases e:A[j]∈B
  .refine ite_no (by simp[e]) ?_
   refine⟨hy,⟨_,rfl⟩,sj,?_⟩
   rw[aP (by simp[e])]
  .refine ite_yes (by simp[e]) ?_
   refine⟨_,rfl,hy,⟨_,rfl⟩,bP sj hL,?_⟩
   rw[aT (by simp[e]),bL]
   rfl
 .rintro ys bX J hy ⟨_,sj,rfl⟩
  rw[dB] at hy
  exact q J sj hy
abbrev Z6:Stmt:=top 48
def V4:List (Str×NameKind):=[(".0",.local),("name",.local),("other",.free)]
def V5:List (Str×NameKind):=[(".0",.local),("name",.local),("one",.free)]
def V6:(["name","other"]:List Str).Nodup:=by decide+kernel
def V7:(["name","one"]:List Str).Nodup:=by decide+kernel
def V8:Sp:=λvs H Q _=>∃(r1 r2:ai) (p q:qW),vs=[.ref r1,.ref r2]/\kq H r1 p/\kq H r2 q/\iL p/\iL q/\gz p/\gz q/\∀v r H',bg H H'->Told p q r->Vx H' v r->Q v H'
def BF:bY ["one","other","out","came","gone","new","top","by"] ["one","other"] (ar Z6):={}
def wq (h1:1<=c) (h2:c<=1000000000):-2^64<c/\c<2^64/\c.natAbs<2^35:=ω
def wr {a b:Int}(a1:1<=a) (a2:a<=1000000000) (b1:1<=b) (b2:b<=1000000000):(a-b).natAbs<2^35:=ω
def ws {a b:Int}(m1:a.natAbs<2^70) (m2:b.natAbs<2^70):(a-b).natAbs<2^80:=bf (Cf a b) (fA (LB m1 m2) δ)
def wt (h:x.natAbs<2^80):(if x<0 then-x else x).natAbs<2^150:=by
 split
 .rw[Lz];exact fA h δ
 .exact fA h δ
def V9 (F:jg K "_law_trial" "_law_trial" Z6 f fd) (T:Txt mg) (DF:Df P w K mg base 1 "_law_fraction" ["top","bottom"] JR):dR P w K mg base fN 2 f fd ["one","other"] V8:=by
 exists F.ok,BF
 .obtain⟨r1,r2,p,q,rfl,_⟩:=h
  rfl
 .obtain⟨r1,r2,p,q,rfl,h1,h2,o1,o2,cp,cq,hQ⟩:=h
  refine⟨_,aw (jN (i0:=2) (N:=["name","other"]) (g:=de 0) (tc:=gI (gH (PK K true) (cj 0) (gH (gg K) (cj 1) (tC (.int 0))))) (te:=cj 0) BF.nd rfl (Or.inl rfl) rfl (iF (aU aZ (pv 0) ao))
    (fD.one (v:="name") (fr:="other") (j:=1) (nm:=V4) rfl rfl rfl rfl)
    (λ_ _ _=>a_ (i:=0) V6) (λ_ _ _=>iw (bo gZ (pv 0) (aU aZ (pv 1) ao) (by with_unfolding_all rfl))) (λ_ _ _=>pv 0))
   (aw (jN (i0:=3) (N:=["name","one"]) (g:=de 0) (tc:=gI (gH (PK K true) (cj 0) (gH (gg K) (cj 1) (tC (.int 0))))) (te:=cj 0) BF.nd rfl (Or.inl rfl) rfl (iF (aU aZ (pv 1) ao))
    (fD.one (v:="name") (fr:="one") (j:=0) (nm:=V5) rfl rfl rfl rfl)
    (λ_ _ _=>a_ (i:=0) V7) (λ_ _ _=>iw (bo gZ (pv 0) (aU aZ (pv 1) ao) (by with_unfolding_all rfl))) (λ_ _ _=>pv 0))
   (aw (jN (i0:=4) (N:=["name","other"]) (g:=de 0) (tc:=gI (gH (PK K true) (cj 0) (gH (gg K) (cj 1) (tC (.int 1))))) (te:=cj 0) BF.nd rfl (Or.inl rfl) rfl (iF (aU aZ (pv 0) ao))
    (fD.one (v:="name") (fr:="other") (j:=1) (nm:=V4) rfl rfl rfl rfl)
    (λ_ _ _=>a_ (i:=0) V6) (λ_ _ _=>iw (bo gZ (pv 0) (aU aZ (pv 1) ao) (by with_unfolding_all rfl))) (λ_ _ _=>pv 0))
   (aw (jN (i0:=5) (N:=["name","one"]) (g:=de 0) (tc:=gI (gH (PK K true) (cj 0) (gH (gg K) (cj 1) (tC (.int 1))))) (te:=cj 0) BF.nd rfl (Or.inl rfl) rfl (iF (aU aZ (pv 1) ao))
    (fD.one (v:="name") (fr:="one") (j:=0) (nm:=V5) rfl rfl rfl rfl)
    (λ_ _ _=>a_ (i:=0) V7) (λ_ _ _=>iw (bo gZ (pv 0) (aU aZ (pv 1) ao) (by with_unfolding_all rfl))) (λ_ _ _=>pv 0))
   (aw (cS (PW.pt (jw (bo lV (aR bS rfl T.len bC (ae (pv 2) ah)) ao (bG _)) (jw (bo lV (aR bS rfl T.len bC (ae (pv 3) ah)) ao (bG _)) (jw (bo (mV hr.units) (pv 4) (pv 3) (bG _)) (kf (bo (mV hr.units) (pv 5) (pv 2) (bG _))))))) (aF (bN jF)) bO)
   (aw (lj (i:=6) BF.nd (bW mM (bW kW (aU aZ (pv 0) ao) (aU aZ (pv 0) ao)) (aU aZ (pv 1) ao)))
   (aw (lj (i:=6) BF.nd (bW kW (pv 6) (bW mM (bW kW (aU aZ (pv 1) ao) (aU aZ (pv 1) ao)) (aU aZ (pv 0) ao))))
   (aw (lj (i:=7) BF.nd (cE DF hr (ae (aR vP rfl T.abs ue (ae (pv 6) ah)) (ae (bW mM (aU aZ (pv 0) ao) (aU aZ (pv 1) ao)) ah))))
   (aw (cS (bo ym (pv 6) ao (bG _)) (aF (bN (bU (ae (aU b_ (pv 2) ao) (ae (aU b_ (pv 3) ao) (ae (pv 7) ah)))))) bO)
   (aw (cS (bo rN (pv 6) ao (bG _)) (aF (bN (bU (ae (aU b_ (pv 3) ao) (ae (aU b_ (pv 2) ao) (ae (pv 7) ah)))))) bO)
   (aF (bN (bW mz (fG fK rfl T.tuple cC (ae (aR iW rfl T.sorted fV (ae (cW (ae (aU b_ (pv 2) ao) (ae (aU b_ (pv 3) ao) ah))) ah)) ah)) (bU (ae (pv 7) ah)))))))))))))),?_⟩
  obtain⟨a,b,e1,e2,e3⟩:=id h1
  obtain⟨c,d,g1,g2,g3⟩:=id h2
  have a4:=o1.a.l4
  have b4:=o1.b.l4
  have c4:=o2.a.l4
  have d4:=o2.b.l4
  refine lY λOq zO=>?_
  refine iO rfl (bZ.of e1) (aV (j:=0) rfl) ⟨a,rfl,⟨_,bZ.of e2⟩,λL1 Oz=>?_⟩
  refine sQ none Oz e2 g1 (aV (j:=0) rfl) g2 (aA a4 δ) λJ1 s1 w1=>?_
  refine zO _ _ ?_
  refine lY λZT Ha=>?_
  refine iO rfl (bZ.of (s1 _ _ g1)) (aV (j:=0) rfl) ⟨c,rfl,⟨_,bZ.of (s1 _ _ g2)⟩,λL2 Az=>?_⟩
  refine sQ none Az (s1 _ _ g2) (s1 _ _ e1) (aV (j:=0) rfl) (s1 _ _ e2) (aA c4 δ) λJ2 s2 w2=>?_
  refine Ha _ _ ?_
  have iD:=s1.trans s2
  refine lY λDH3 Qy=>?_
  refine iO rfl (bZ.of (iD _ _ e1)) (aV (j:=1) rfl) ⟨b,rfl,⟨_,bZ.of (iD _ _ e3)⟩,λL3 hL3=>?_⟩
  refine sQ none hL3 (iD _ _ e3) (iD _ _ g1) (aV (j:=1) rfl) (iD _ _ g3) (aA b4 δ) λJ3 s3 w3=>?_
  refine Qy _ _ ?_
  have lO:=iD.trans s3
  refine lY λDH4 U5=>?_
  refine iO rfl (bZ.of (lO _ _ g1)) (aV (j:=1) rfl) ⟨d,rfl,⟨_,bZ.of (lO _ _ g3)⟩,λL4 hL4=>?_⟩
  refine sQ none hL4 (lO _ _ g3) (lO _ _ e1) (aV (j:=1) rfl) (lO _ _ e3) (aA d4 δ) λJ s4 w4=>?_
  refine U5 _ _ ?_
  have s0:=lO.trans s4
  have v1:=((s2.trans s3).trans s4) _ _ w1
  have v2:=(s3.trans s4) _ _ w2
  have v3:=s4 _ _ w3
  have Nq:(∀m y,Xp p q m y->False)->Q .eU J:=λh=>hQ .eU none J s0 (.inr ⟨λm y x=>h m y x,rfl⟩) rfl
  have lay:∀{u v:List Str},(∀n∈u,okN n)->u.length<=4->Lay (.list (cz (gU u v))):=λhu hl=>(Ht (KC hu) (aA Hu (aA hl δ))).lay δ
  refine⟨_,rfl,L1,_,rfl,.inl (cQ.of v1),rfl,_,rfl,?_⟩
  rw[iK,aq]
  refine eY (λz=>Nq λm y x=>?_) (λz=>?_)
  .rw[(x.diff cp).1] at z;simp at z
  have z1:(gU p.a q.a).length=1:=by
   by_cases h:(gU p.a q.a).length=1
   .exact h
   .exact absurd (by rw[bE ω];rfl) z
  refine⟨_,rfl,L2,_,rfl,.inl (cQ.of v2),rfl,_,rfl,?_⟩
  rw[iK,aq]
  refine eY (λz=>Nq λm y x=>?_) (λz=>?_)
  .rw[(x.diff cp).2.1] at z;simp at z
  have z2:(gU q.a p.a).length=1:=by
   by_cases h:(gU q.a p.a).length=1
   .exact h
   .exact absurd (by rw[bE ω];rfl) z
  refine⟨_,rfl,_,rfl,_,_,_,_,qt v3,qt v2,lay o1.b.ok b4,lay o2.a.ok c4,_,rfl,?_⟩
  rw[xr]
  refine eY (λz=>Nq λm y x=>?_) (λz=>?_)
  .rw[(x.diff cp).2.1,(x.diff cp).2.2.1] at z;simp at z
  have z3:gU p.b q.b=gU q.a p.a:=by simpa using z
  refine⟨_,rfl,_,rfl,_,_,_,_,qt w4,qt v1,lay o2.b.ok d4,lay o1.a.ok a4,_,rfl,?_⟩
  rw[xr]
  refine eY (λz=>Nq λm y x=>?_) (λz=>?_)
  .rw[(x.diff cp).1,(x.diff cp).2.2.2] at z;simp at z
  have z4:gU q.b p.b=gU p.a q.a:=by simpa using z
  obtain⟨m,em⟩:=Tg.mp z1
  obtain⟨y,ey⟩:=Tg.mp z2
  have x:Xp p q m y:=UZ cp cq em ey (z3.trans ey) (z4.trans em)
  rw[em] at v1
  rw[ey] at v2
  have my:m≠y:=λz=>cp.no _ x.hm (z▸x.hy)
  have i1:=o1.c1
  have i2:=o1.c9
  have i3:=o2.c1
  have i4:=o2.c9
  have i5:=o1.t1
  have i6:=o1.t9
  have i7:=o1.o1
  have i8:=o1.o9
  have j5:=o2.t1
  have j6:=o2.t9
  have j7:=o2.o1
  have j8:=o2.o9
  obtain⟨p1,p2,p3⟩:=wq i1 i2
  obtain⟨r1,r2,r3⟩:=wq i3 i4
  refine iO rfl (bZ.of (s0 _ _ e1)) (aV (j:=3) rfl) (iO rfl (bZ.of (s0 _ _ e1)) (aV (j:=2) rfl) ⟨_,_,rfl,rfl,iO rfl (bZ.of (s0 _ _ g1)) (aV (j:=4) rfl) ⟨_,_,rfl,rfl,.inr ⟨r1,r2⟩,?_⟩⟩)
  refine⟨_,rfl,iO rfl (bZ.of (s0 _ _ g1)) (aV (j:=3) rfl) (iO rfl (bZ.of (s0 _ _ g1)) (aV (j:=2) rfl) ⟨_,_,rfl,rfl,iO rfl (bZ.of (s0 _ _ e1)) (aV (j:=4) rfl) ⟨_,_,rfl,rfl,.inr ⟨p1,p2⟩,_,_,rfl,rfl,?_⟩⟩)⟩
  have m1:((p.o-p.t)*q.c).natAbs<2^70:=lN (a:=35) (b:=35) (wr i7 i8 i5 i6) r3
  have m2:((q.o-q.t)*p.c).natAbs<2^70:=lN (a:=35) (b:=35) (wr j7 j8 j5 j6) p3
  have m3:(p.c*q.c).natAbs<2^70:=lN (a:=35) (b:=35) p3 r3
  have cc:0<p.c*q.c:=rz i1 i3
  have ld:(qX p q).natAbs<2^80:=ws m1 m2
  refine⟨_,rfl,_,rfl,iO rfl (bZ.of (s0 _ _ e1)) (aV (j:=4) rfl) (iO rfl (bZ.of (s0 _ _ g1)) (aV (j:=4) rfl) ⟨_,_,rfl,rfl,.inr ⟨r1,r2⟩,?_⟩)⟩
  refine⟨_,_,rfl,cc,fA m3 δ,wt ld,λu hu=>?_⟩
  try dsimp only
  generalize hD':(if(p.o-p.t)*q.c-(q.o-q.t)*p.c<0 then-((p.o-p.t)*q.c-(q.o-q.t)*p.c) else(p.o-p.t)*q.c-(q.o-q.t)*p.c)=D
  have hD:(if qX p q<0 then-qX p q else qX p q)=D:=hD'
  have s5:=bP (o:=.tup [.int (ek D (p.c*q.c)),.int (dS D (p.c*q.c))]) (bg.refl J) hu
  have w5:upd J u (.tup [.int (ek D (p.c*q.c)),.int (dS D (p.c*q.c))]) u=some (.tup [.int (ek D (p.c*q.c)),.int (dS D (p.c*q.c))]):=aB
  try dsimp only
  generalize upd J u (.tup [.int (ek D (p.c*q.c)),.int (dS D (p.c*q.c))])=J5 at*
  have Z7:=s5 _ _ v1
  have Z8:=s5 _ _ v2
  refine⟨_,rfl,_,_,rfl,rfl,_,rfl,?_⟩
  refine eY (λz=>?_) (λz=>?_)
  .have dp:0<qX p q:=aX z
   have eD:D=qX p q:=by rw[<-hD,aP ω]
   have et:pT p q m y=(m,y,ek D (p.c*q.c),dS D (p.c*q.c)):=by unfold pT;simp only[aT dp,eD]
   refine Dv rfl (cQ.of Z7) (aV (j:=0) rfl) (Dv rfl (cQ.of Z8) (aV (j:=0) rfl) ⟨_,rfl,dZ,λr hr=>?_⟩)
   have s6:=bP (o:=.tup [.str m,.str y,.ref u]) (bg.refl J5) hr
   refine hQ _ (some _) _ ((s0.trans s5).trans s6) (.inl ⟨m,y,x,rfl⟩) ⟨r,rfl,?_⟩
   rw[et]
   exact⟨u,aB,s6 _ _ w5⟩
  have nd:¬0<qX p q:=λh=>z (aI h)
  refine⟨_,rfl,_,_,rfl,rfl,_,rfl,?_⟩
  refine eY (λz=>?_) (λz=>?_)
  .have dn:qX p q<0:=aX z
   have eD:D=-qX p q:=by rw[<-hD,aT dn]
   have et:pT p q m y=(y,m,ek D (p.c*q.c),dS D (p.c*q.c)):=by unfold pT;simp only[aP nd,aT dn,eD]
   refine Dv rfl (cQ.of Z8) (aV (j:=0) rfl) (Dv rfl (cQ.of Z7) (aV (j:=0) rfl) ⟨_,rfl,dZ,λr hr=>?_⟩)
   have s6:=bP (o:=.tup [.str y,.str m,.ref u]) (bg.refl J5) hr
   refine hQ _ (some _) _ ((s0.trans s5).trans s6) (.inl ⟨m,y,x,rfl⟩) ⟨r,rfl,?_⟩
   rw[et]
   exact⟨u,aB,s6 _ _ w5⟩
  .have nn:¬qX p q<0:=λh=>z (aI h)
   have eD:D=0:=by rw[<-hD,aP nn];omega
   obtain⟨f0,f1⟩:=My (b:=p.c*q.c) cc
   rw[eD,f0,f1] at w5
   refine Dv rfl (cQ.of Z7) (aV (j:=0) rfl) (Dv rfl (cQ.of Z8) (aV (j:=0) rfl) ⟨dZ,λl hl=>?_⟩)
   have s6:=bP (o:=.lst [.str m,.str y]) (bg.refl J5) hl
   have w6:upd J5 l (.lst [.str m,.str y]) l=some (.lst (([m,y]:List Str).map V.str)):=aB
   try dsimp only
   generalize upd J5 l (.lst [.str m,.str y])=J6 at*
   refine⟨l,[m,y],rfl,cQ.of w6,(by simp only[dO,jn];decide),λl2 C nS pm so=>?_⟩
   have hC:C=[if eg y m=true then y else m,if eg y m=true then m else y]:=by
    have ndm:([m,y]:List Str).Nodup:=by simp[my]
    have uC:=qp so (pm.nodup_iff.mpr ndm)
    by_cases c:eg y m=true
    .rw[aT c,aT c]
     exact pS uC (by simp[c]) (pm.trans (List.Perm.swap _ _ _))
    .rw[aP c,aP c]
     have c2:eg m y=true:=(vn my).resolve_right c
     exact pS uC (by simp[c2]) pm
   have s7:=bP (o:=.lst (C.map V.str)) (bg.refl J6) nS
   have w7:upd J6 l2 (.lst (C.map V.str)) l2=some (.lst (C.map V.str)):=aB
   try dsimp only
   generalize upd J6 l2 (.lst (C.map V.str))=J7 at*
   refine⟨l2,_,rfl,.inl ⟨cQ.of w7,λt ht=>?_⟩⟩
   have s8:=bP (o:=.tup (C.map V.str)) (bg.refl J7) ht
   have w8:upd J7 t (.tup (C.map V.str)) t=some (.tup (C.map V.str)):=aB
   try dsimp only
   generalize upd J7 t (.tup (C.map V.str))=J8 at*
   refine⟨_,rfl,dZ,λt1 Fp=>?_⟩
   have s9:=bP (o:=.tup [.ref u]) (bg.refl J8) Fp
   have w9:upd J8 t1 (.tup [.ref u]) t1=some (.tup [.ref u]):=aB
   try dsimp only
   generalize upd J8 t1 (.tup [.ref u])=J9 at*
   have lC:C.length=2:=by rw[hC];rfl
   refine⟨t,t1,_,_,rfl,rfl,bZ.of (s9 _ _ w8),bZ.of w9,by rw[hC];simp,by rw[aq,lC];show 2+1<=sizeLine;decide,(λz=>absurd z ς),λ_ r hr=>?_⟩
   have s10:=bP (o:=.tup (C.map V.str++ [.ref u])) (bg.refl J9) hr
   refine hQ _ (some _) _ ((((((s0.trans s5).trans s6).trans s7).trans s8).trans s9).trans s10) (.inl ⟨m,y,x,rfl⟩) ⟨r,rfl,?_⟩
   have et:pT p q m y=(if eg y m=true then y else m,if eg y m=true then m else y,0,1):=by unfold pT;simp only[aP nd,aP nn]
   rw[et]
   refine⟨u,?_,((((s6.trans s7).trans s8).trans s9).trans s10) _ _ w5⟩
   rw[aB,hC]
   rfl
end
def KD (d:cH H k c):∀xs,H k≠some (.tup xs):=λxs z=>by
 obtain⟨⟨_,_,h1,_⟩,_⟩:=d
 rw[h1] at z;cases z
def lR (d:cH H k c) (s:bg H H'):cH H' k c:=d.keep λo e=>s _ _ e
def p_ (d:cH H k c) (s:eE k H H'):∀b xs,H b=some (.tup xs)->H' b=some (.tup xs):=λb xs e=>s _ _ (λz=>KD d xs (z▸e)) e
def Ad (h:m∈a):(exc a m y).length<=a.length:=by
 unfold exc
 rw[aQ,aN]
 have:=List.length_filter_lt_length_iff_exists (p:=λn=>!decide (n=m)) (l:=a)
 have h2:=this.mpr ⟨m,h,ς⟩
 omega
def Rv (h:∀n∈a,okN n) (hy:okN y):∀n∈exc a m y,okN n:=λn hn=>by
 rcases lM.mp hn with z|z
 .exact h n z.1
 .rw[z];exact hy
def BG (o:DJ a) (hm:m∈a) (hy:okN y) (pm:c.Perm (exc a m y)):DJ c:=by
 refine⟨?_,?_,λn hn=>Rv o.ok hy n (pm.mem_iff.mp hn)⟩
 .rw[pm.length_eq];unfold exc;rw[aQ,aN];omega
 .rw[pm.length_eq];exact aA (Ad hm) o.l4
def BH {A:List Str}(h0:0<=i) (h1:i<((A.map V.str).length:Int)):∃m∈A,qA (A.map V.str) i=some (.str m):=by
 obtain⟨h,e⟩:=ud h0 h1
 refine⟨A[i.toNat]'(by rwa[aq] at h),cF _,?_⟩
 rw[e,ke]
section
variable {P:aJ}{w:bB}{K:Φ}{mg:Str->Option ag}{base:Heap}
abbrev Z9:Stmt:=top 47
def Z_:List (Str×NameKind):=[(".0",.local),("name",.local),("one",.free)]
def aaa:List (Str×NameKind):=[(".0",.local),("name",.local),("other",.free)]
def aab:List (Str×NameKind):=[(".0",.local),("k",.local),("_law_pick",.globalImplicit),("deck",.free)]
def aac:(["name","one"]:List Str).Nodup:=by decide+kernel
def aad:(["name","other"]:List Str).Nodup:=by decide+kernel
def Rw:Sp:=λvs H Q _=>∃(k r:ai) (c:Int) (p:qW),vs=[.ref k,.ref r]/\cH H k c/\c<=40000/\kq H r p/\iL p/\gz p/\
 ∀(t:ai) (p':qW) (m y:Str) (c':Int) (H':Hp),eE k H H'->cH H' k c'->c'<=c+10->kq H' t p'->iL p'->Xp p p' m y->Q (.ref t) H'
def Hv:bY ["deck","piece","one","other","first","second","times"] ["deck","piece"] (ar Z9):={}
def wl {n m:Nat}(e:m=n) (h1:1<=n) (h4:n<=4):0<(m:Int)/\(m:Int)<=10000000000000:=ω
def wz {c c1 c2 c3:Int}(hc:c<=40000) (u1:c1<=c+1) (u2:c2<=c1+1) (u3:c3<=c2+1):c1<=40001/\c2<=40002/\c3<=40003/\c3<=c+3:=ω
def wy {i:Nat}(h:a<=b+(i:Int)) (hb:b<=x) (hi:i<=2):a<=x+2:=ω
def wx {i:Nat}(h:a<=b+(i:Int)) (e:c<=a+1):c<=b+((i+1:Nat):Int):=ω
def wv (h:c3<=c+3) (e:c4<=c3+((2:Nat):Int)) (ea:ca<=c4+1) (ec:cc<=ca+1):cc<=c+10:=ω
def w2 {r:Int}(h:0<=r) (l:r<2):r=0\/r=1:=ω
def V_ (F:jg K "_law_exchanged" "_law_exchanged" Z9 f fd) (T:Txt mg) (DP:Df P w K mg base 1 "_law_pick" ["deck","many"] gi):dR P w K mg base fN 2 f fd ["deck","piece"] Rw:=by
 exists F.ok,Hv
 .obtain⟨k,r,c,p,rfl,_⟩:=h
  rfl
 .obtain⟨k,r,c,p,rfl,dk,hc,hp,op,cp,hQ⟩:=h
  refine⟨_,aw (vN (i:=2) Hv.nd rfl (Or.inr rfl) (aU aZ (aU aZ (pv 1) ao) (cE DP hr (ae (pv 0) (ae (aR bS rfl T.len bC (ae (aU aZ (pv 1) ao) ah)) ah)))))
   (aw (vN (i:=3) Hv.nd rfl (Or.inr rfl) (aU aZ (aU aZ (pv 1) ao) (cE DP hr (ae (pv 0) (ae (aR bS rfl T.len bC (ae (aU aZ (pv 1) ao) ah)) ah)))))
   (aw (lj (i:=4) Hv.nd (fG fK rfl T.tuple cC (ae (aR iW rfl T.sorted fV (ae (bW mT (kI (N:=["name","one"]) (g:=de 0) (tc:=gI (gH LM (cj 0) (cj 1))) (te:=cj 0) rfl (iF (aU aZ (pv 1) ao))
    (fD.one (v:="name") (fr:="one") (j:=2) (nm:=Z_) rfl rfl rfl rfl)
    (λ_ _ _=>a_ (i:=0) aac) (λ_ _ _=>iw (bo lV (pv 0) (pv 1) (bG _))) (λ_ _ _=>pv 0)) (cW (ae (pv 3) ah))) ah)) ah)))
   (aw (lj (i:=5) Hv.nd (fG fK rfl T.tuple cC (ae (aR iW rfl T.sorted fV (ae (bW mT (kI (N:=["name","other"]) (g:=de 0) (tc:=gI (gH LM (cj 0) (cj 1))) (te:=cj 0) rfl (iF (aU aZ (pv 1) ao))
    (fD.one (v:="name") (fr:="other") (j:=3) (nm:=aaa) rfl rfl rfl rfl)
    (λ_ _ _=>a_ (i:=0) aad) (λ_ _ _=>iw (bo lV (pv 0) (pv 1) (bG _))) (λ_ _ _=>pv 0)) (cW (ae (pv 2) ah))) ah)) ah)))
   (aw (cS (bo gO (cE DP hr (ae (pv 0) (ae ao ah))) ao (bG _)) (aF (bN (bW mz (bU (ae (pv 4) (ae (pv 5) ah))) (hX zx (pv 1) (iU ao) jL)))) bO)
   (aw (lj (i:=6) Hv.nd (fG fK rfl T.tuple cC (ae (kI (N:=["k","deck"]) (g:=de 0) (tc:=pH) (te:=gH (HP λi j=>.int (i+j)) (tC (.int 1)) (j0 gi [] E0 (ck (cj 1) (ck (tC (.int 400)) eW)))) rfl (tR rfl T.range (ae ao ah))
    (fD.one (v:="k") (fr:="deck") (j:=0) (nm:=aab) rfl rfl rfl rfl)
    (λ_ _ _=>a_ (i:=0) U1) (λ_ _ _=>iV) (λ_ _ _=>bW gs ao (cE DP hr (ae (pv 1) (ae ao ah))))) ah)))
   (aF (bN (bW mz (bW mz (bU (ae (pv 4) (ae (pv 5) ah))) (pv 6)) (bU (ae (aU b_ (cW (ae (aU aZ (pv 1) ao) (ae (bW gs ao (cE DP hr (ae (pv 0) (ae ao ah)))) ah))) (cE DP hr (ae (pv 0) (ae ao ah)))) ah)))))))))),?_⟩
  obtain⟨a,b,e1,e2,e3⟩:=id hp
  have a1:=op.a.l1
  have a4:=op.a.l4
  have b1:=op.b.l1
  have b4:=op.b.l4
  have la:(p.a.map V.str).length=p.a.length:=aq _
  have lb:(p.b.map V.str).length=p.b.length:=aq _
  refine lY λOq zO=>?_
  refine iO rfl (bZ.of e1) (aV (j:=0) rfl) ⟨_,rfl,iO rfl (bZ.of e1) (aV (j:=0) rfl) ⟨a,_,rfl,.inr (bZ.of e2),k,c,_,rfl,dk,dF hc δ,(wl la a1 a4).1,(wl la a1 a4).2,λi1 c1 H1 k1 d1 u1 g1 l1=>?_⟩⟩
  obtain⟨m,hm,am⟩:=BH g1 l1
  have q1:=p_ dk k1
  refine⟨a,_,i1,_,rfl,rfl,bZ.of (q1 _ _ e2),am,?_⟩
  refine zO _ _ ?_
  refine lY λZT Ha=>?_
  refine iO rfl (bZ.of (q1 _ _ e1)) (aV (j:=1) rfl) ⟨_,rfl,iO rfl (bZ.of (q1 _ _ e1)) (aV (j:=1) rfl) ⟨b,_,rfl,.inr (bZ.of (q1 _ _ e3)),k,c1,_,rfl,d1,dF (wC u1 hc) δ,(wl lb b1 b4).1,(wl lb b1 b4).2,λi2 c2 H2 k2 d2 u2 g2 l2=>?_⟩⟩
  obtain⟨y,hy,ay⟩:=BH g2 l2
  have q2:∀b xs,H b=some (.tup xs)->H2 b=some (.tup xs):=λb xs z=>p_ d1 k2 _ _ (q1 _ _ z)
  refine⟨b,_,i2,_,rfl,rfl,bZ.of (q2 _ _ e3),ay,?_⟩
  refine Ha _ _ ?_
  have E1:=q2 _ _ e1
  have E2:=q2 _ _ e2
  have E3:=q2 _ _ e3
  have k02:eE k H H2:=k1.trans k2
  refine lY λDH3 Qy=>?_
  refine iO rfl (bZ.of E1) (aV (j:=0) rfl) ⟨a,rfl,⟨_,bZ.of E2⟩,λL1 Oz=>?_⟩
  refine zT none Oz E2 (aA a4 δ) λJ1 Rj hJ1=>?_
  refine⟨_,rfl,dZ,λx1 QX=>?_⟩
  exists QX,.lst [.str y],J1,x1,sa1,wa1,Ka1
  refine⟨L1,x1,_,_,rfl,rfl,sa1 _ _ hJ1,wa1,dE (eF (by rw[aq];exact aA (j_ (aA (eM _ _) a4)) δ)),λcl1 hc1=>?_⟩
  have em1:(p.a.filter λn=>!decide (n=m)).map V.str++ [V.str y]=(exc p.a m y).map V.str:=by unfold exc;rw[bL];rfl
  rw[em1]
  exists hc1,.lst ((exc p.a m y).map V.str),Ka1,cl1,sb1,wb1,Kb1
  refine⟨cl1,exc p.a m y,rfl,cQ.of wb1,bf (aA (Ad hm) a4) δ,λl1 C1 DV SQ QN=>?_⟩
  exists DV,.lst (C1.map V.str),Kb1,l1,sc1,wc1,Kc1
  refine⟨l1,_,rfl,.inl ⟨cQ.of wc1,λt1 Fp=>?_⟩⟩
  exists Fp,.tup (C1.map V.str),Kc1,t1,sd1,wt1,G1
  refine Qy _ _ ?_
  have s1:bg H2 G1:=(((Rj.trans sa1).trans sb1).trans sc1).trans sd1
  have E1':=s1 _ _ E1
  have E3':=s1 _ _ E3
  refine lY λDH4 U5=>?_
  refine iO rfl (bZ.of E1') (aV (j:=1) rfl) ⟨b,rfl,⟨_,bZ.of E3'⟩,λL2 Az=>?_⟩
  refine zT none Az E3' (aA b4 δ) λJ2 sJ2 Q0=>?_
  refine⟨_,rfl,dZ,λx2 Hl=>?_⟩
  exists Hl,.lst [.str m],J2,x2,sa2,wa2,Ka2
  refine⟨L2,x2,_,_,rfl,rfl,sa2 _ _ Q0,wa2,dE (eF (by rw[aq];exact aA (j_ (aA (eM _ _) b4)) δ)),λcl2 Gq=>?_⟩
  have em2:(p.b.filter λn=>!decide (n=y)).map V.str++ [V.str m]=(exc p.b y m).map V.str:=by unfold exc;rw[bL];rfl
  rw[em2]
  exists Gq,.lst ((exc p.b y m).map V.str),Ka2,cl2,Mb,wb2,Kb2
  refine⟨cl2,exc p.b y m,rfl,cQ.of wb2,bf (aA (Ad hy) b4) δ,λl2 C2 nS SR ZG=>?_⟩
  exists nS,.lst (C2.map V.str),Kb2,l2,sc2,wc2,Kc2
  refine⟨l2,_,rfl,.inl ⟨cQ.of wc2,λt2 zP=>?_⟩⟩
  exists zP,.tup (C2.map V.str),Kc2,t2,sd2,wt2,G2
  refine U5 _ _ ?_
  have s2:bg G1 G2:=(((sJ2.trans sa2).trans Mb).trans sc2).trans sd2
  have s12:=s1.trans s2
  have D2:=lR d2 s12
  have W1:=s2 _ _ wt1
  have aae:=s2 _ _ E1'
  have kG:eE k H G2:=k02.trans s12.keep
  have UX:y∉p.a:=λz=>cp.no _ z hy
  have UY:m∉p.b:=cp.no _ hm
  have x1:ya p.a m y C1:=vt cp.a.nodup UX SQ QN
  have x2:ya p.b y m C2:=vt cp.b.nodup UY SR ZG
  have xpp:∀t o c:Int,Xp p ⟨C1,C2,t,o,c⟩ m y:=λt o c=>⟨hm,hy,x1,x2⟩
  have Fu:DJ C1:=BG op.a hm (op.b.ok y hy) SQ
  have Fv:DJ C2:=BG op.b hy (op.a.ok m hm) SR
  refine pk rfl D2 (dF (wC u2 (wC u1 hc)) δ) δ δ λi3 c3 H3 k3 d3 u3 g3 l3=>⟨rfl,_,rfl,?_⟩
  have q3:=p_ D2 k3
  have V1:=q3 _ _ W1
  have V2:=q3 _ _ wt2
  have F1:=q3 _ _ aae
  have kH3:eE k H H3:=kG.trans k3
  refine eY (λ_=>?_) (λ_=>?_)
  .refine⟨_,rfl,_,rfl,dZ,λx1 QX=>?_⟩
   exists QX,.tup [.ref t1,.ref t2],H3,x1,z1,y1,M1
   refine⟨_,rfl,_,rfl,r,_,rfl,bZ.of (z1 _ _ F1),(show ¬(iA 5 0 (some 2)=0/\iA 5 5 none=5) by decide+kernel),λx2 Hl=>?_⟩
   have z2:=aO Hl (.tup [.int p.t,.int p.o,.int p.c])
   have y2:upd M1 x2 (.tup [.int p.t,.int p.o,.int p.c]) x2=some (.tup [.int p.t,.int p.o,.int p.c]):=aB
   refine⟨x1,x2,_,_,rfl,rfl,bZ.of (z2 _ _ y1),bZ.of y2,ς,by show 2+3<=sizeLine;decide,(λz=>absurd z ς),λ_ rr QA=>?_⟩
   have z3:=(z1.trans z2).trans (aO QA (.tup ([.ref t1,.ref t2]++ [.int p.t,.int p.o,.int p.c])))
   exact hQ rr ⟨C1,C2,p.t,p.o,p.c⟩ m y c3 _ (kH3.trans z3.keep) (lR d3 z3) (dF (wz hc u1 u2 u3).2.2.2 (zm δ c)) ⟨t1,t2,aB,z3 _ _ V1,z3 _ _ V2⟩ ⟨Fu,Fv,op.t1,op.t9,op.o1,op.o9,op.c1,op.c9⟩ (xpp _ _ _)
  refine⟨_,rfl,δ,δ,λD hD=>?_⟩
  have nD:k≠D:=d3.ne hD
  refine kY (J:=Im 0 2) (n:=2) (f:=λi=>.int i) (λi ys bX J=>∃(ts:List Int) (c4:Int),ys=ts.map V.int/\(∃v,bX=[v,some (.ref k)])/\eE k H3 J/\cH J k c4/\c4<=c3+i/\ts.length=i/\∀t∈ts,1<=t/\t<=1000000000) hD δ
    ⟨[],c3,rfl,⟨none,rfl⟩,eE.new hD _,d3.new hD,ς,rfl,ς⟩ (λi ys bX J hi _ _=>y_ 2 i J hi) ?_ ?_
  .rintro i ys iI J hi hy ⟨ts,c4,rfl,⟨v2,rfl⟩,kJ,dJ,MZ,Qz,MK⟩
   refine pk rfl dJ (dF (wy MZ (wz hc u1 u2 u3).2.2.1 (dE hi)) δ) δ δ λra ca Ja ka da ea ga la'=>⟨_,_,rfl,rfl,?_⟩
   refine⟨ka D _ nD.symm hy,ts++ [1+ra],ca,ς,⟨_,rfl⟩,λb o n e=>?_,da.keep (λo e=>by rw[bb nD];exact e),wx MZ ea,by simp[Qz],λx hx=>?_⟩
   .have nb:b≠D:=λz=>by rw[z,hD] at e;cases e
    rw[bb nb]
    exact ka b o n (kJ b o n e)
   .rcases bK.mp hx with hx|hx
    .exact MK x hx
    .rw[bA.mp hx];exact⟨wH ga δ,wG la' δ⟩
  .rintro ys iI J hy ⟨ts,c4,rfl,⟨v2,rfl⟩,kJ,dJ,MZ,Qz,MK⟩
   have zP:∃ta tb:Int,ts=[ta,tb]:=by
    match ts,Qz with
    | [ta,tb],_=>exact⟨ta,tb,rfl⟩
   obtain⟨ta,tb,rfl⟩:=zP
   have U7:=MK ta ς
   have U8:=MK tb ς
   have q4:=p_ d3 kJ
   refine⟨D,_,rfl,.inl ⟨cQ.of hy,λtt Zr=>?_⟩⟩
   have z0:=aO Zr (.tup ([ta,tb].map V.int))
   have y0:upd J tt (.tup ([ta,tb].map V.int)) tt=some (.tup [.int ta,.int tb]):=aB
   try dsimp only
   generalize upd J tt (.tup ([ta,tb].map V.int))=M0 at*
   have dM0:=lR dJ z0
   refine⟨_,rfl,_,rfl,dZ,λx1 QX=>?_⟩
   exists QX,.tup [.ref t1,.ref t2],M0,x1,z1,y1,M1
   refine⟨_,rfl,x1,tt,_,_,rfl,rfl,bZ.of y1,bZ.of (z1 _ _ y0),ς,by show 2+2<=sizeLine;decide,(λz=>absurd z ς),λ_ x2 Hl=>?_⟩
   have z2:=aO Hl (.tup ([.ref t1,.ref t2]++ [.int ta,.int tb]))
   have y2:upd M1 x2 (.tup ([.ref t1,.ref t2]++ [.int ta,.int tb])) x2=some (.tup [.ref t1,.ref t2,.int ta,.int tb]):=aB
   try dsimp only
   generalize upd M1 x2 (.tup ([.ref t1,.ref t2]++ [.int ta,.int tb]))=M2 at*
   have Xy:=(z0.trans z1).trans z2
   have q5:∀b xs,H3 b=some (.tup xs)->M2 b=some (.tup xs):=λb xs z=>Xy _ _ (q4 _ _ z)
   refine iO rfl (bZ.of (q5 _ _ F1)) (aV (j:=4) rfl) (pk rfl (lR dJ Xy) (dF (wy MZ (wz hc u1 u2 u3).2.2.1 (av 2)) δ) δ δ λra ca Ja ka da ea ga la'=>⟨_,_,rfl,rfl,dZ,λl hl=>?_⟩)
   refine pk rfl (da.new hl) (dF (wC ea (wy MZ (wz hc u1 u2 u3).2.2.1 (av 2))) δ) δ δ λrc cc Jc kc dc ec gc lc=>?_
   have U6:=kc l _ (da.ne hl).symm aB
   have hv:∃t:Int,qA [V.int p.c,V.int (1+ra)] rc=some (.int t)/\1<=t/\t<=1000000000:=by
    rcases w2 gc lc with rfl|rfl
    .exact⟨_,aV (j:=0) rfl,op.c1,op.c9⟩
    .exact⟨_,aV (j:=1) rfl,wH ga δ,wG la' δ⟩
   obtain⟨co,Zj,Zk,Zl⟩:=hv
   refine⟨l,_,rc,_,rfl,rfl,cQ.of U6,Zj,dZ,λx3 hx3=>?_⟩
   have kM:eE k M2 Jc:=ka.trans ((eE.new hl _).trans kc)
   have q6:=p_ (lR dJ Xy) kM
   have z3:=aO hx3 (.tup [.int co])
   refine⟨x2,x3,_,_,rfl,rfl,bZ.of (z3 _ _ (q6 _ _ y2)),bZ.of aB,ς,by show 4+1<=sizeLine;decide,(λz=>absurd z ς),λ_ rr QA=>?_⟩
   have z4:=z3.trans (aO QA (.tup ([.ref t1,.ref t2,.int ta,.int tb]++ [.int co])))
   have q7:∀b xs,H3 b=some (.tup xs)->upd (upd Jc x3 (.tup [.int co])) rr (.tup ([.ref t1,.ref t2,.int ta,.int tb]++ [.int co])) b=some (.tup xs):=λb xs z=>z4 _ _ (q6 _ _ (q5 _ _ z))
   exact hQ rr ⟨C1,C2,ta,tb,co⟩ m y cc _ (((kH3.trans kJ).trans Xy.keep).trans (kM.trans z4.keep)) (lR dc z4) (wv (wz hc u1 u2 u3).2.2.2 MZ ea ec) ⟨t1,t2,aB,q7 _ _ V1,q7 _ _ V2⟩ ⟨Fu,Fv,U7.1,U7.2,U8.1,U8.2,Zk,Zl⟩ (xpp _ _ _)
abbrev Rx:Stmt:=top 56
def uG:bY ["pieces","found","k","one","piece","other","later","trial"] ["pieces"] (ar Rx):={}
def OC:Sp:=λvs H Q _=>∃(l2:ai) (us:List V) (rows:Rows),vs=[.ref l2]/\H l2=some (.lst us)/\Paired (kr H) us rows/\(∀x∈rows,iL x.2/\gz x.2)/\rows.length<=31/\
 ∀l ws H',H l=none->bg H H'->H' l=some (.lst ws)->Paired (oQ H') ws (yf rows)->Q (.ref l) H'
def Ry (F:jg K "_law_trials_of" "_law_trials_of" Rx f fd) (T:Txt mg) (DT:Df P w K mg base 2 "_law_trial" ["one","other"] V8):dR P w K mg base fN 3 f fd ["pieces"] OC:=by
 exists F.ok,uG
 .obtain⟨l2,us,rows,rfl,_⟩:=h
  rfl
 .obtain⟨l2,us,rows,rfl,w0,SV,eN,l30,hQ⟩:=h
  refine⟨_,aw (lj (i:=1) uG.nd (cW ah))
   (aw (mL fg rfl (A7 rfl T.enum (ae (pv 0) ah)) (fU rfl (bx (a_ (i:=2) uG.nd) (bx (fU rfl (bx (a_ (i:=3) uG.nd) (bx (a_ (i:=4) uG.nd) eX))) eX)))
    (aF (mL fg rfl (jI (hX qj (pv 0) (iU (bW gs (pv 2) ao)) jL)) (fU rfl (bx (a_ (i:=5) uG.nd) (bx (a_ (i:=6) uG.nd) eX)))
     (aw (lj (i:=7) uG.nd (cE DT hr (ae (pv 4) (ae (pv 6) ah))))
     (aF (cS (bo EW (pv 7) jF (bG _)) (aF (gY (rX cJ fk fm hZ (pv 1) (ae (bU (ae (pv 3) (ae (pv 5) (ae (pv 7) ah)))) ah)))) bO))))))
   (aF (bN (pv 1)))),?_⟩
  refine lY λOq zO=>?_
  refine⟨dZ,λl hl=>?_⟩
  exists hl,.lst [],H,l,s1,w1,M2
  refine zO _ _ ?_
  have w2:=s1 _ _ w0
  have Na:=w1
  have Lj:l2≠l:=λz=>by rw[z,hl] at w0;cases w0
  have iD:=s1
  have Q6:Paired (kr M2) us rows:=au SV λ_ _ z=>z.up λb xs e=>s1 _ _ e
  have B0:=bT SV
  refine lY λZT Ha=>?_
  refine⟨_,rfl,l2,rfl,⟨_,cQ.of w2⟩,yW (K:=K) (a:=l2) (xs:=us) (λi bX H'=>∃(v3 v4 v5 v6 v7 v8:Option V) (ws:List V) (L:List Row3),bX=[some (.ref l2),some (.ref l),v3,v4,v5,v6,v7,v8]/\eE l M2 H'/\H' l=some (.lst ws)/\Paired (oQ H') ws L/\L++yf (rows.drop i)=yf rows/\L.length<=31*i)
   ⟨_,_,_,_,_,_,[],[],rfl,eE.refl _ _,Na,.nil,rfl,ς⟩ (λi bX H' _ h=>by obtain⟨_,_,_,_,_,_,_,_,_,kp,_⟩:=h;exact cQ.of (kp _ _ Lj w2)) ?_ ?_⟩
  .rintro i x bX H' T hx ⟨v3,v4,v5,v6,v7,v8,ws,L,rfl,kp,hL,pr,eL,lL⟩ hT
   have VJ:i<us.length:=(bD.mp hx).1
   have hi:i<rows.length:=B0▸VJ
   obtain⟨_,hu,u,r,rfl,P0,ZU⟩:=eR Q6 i hi
   rw[hu] at hx
   cases hx
   have tk:∀{b xs},M2 b=some (.tup xs)->H' b=some (.tup xs):=λ{b xs} e=>kp _ _ (λz=>by rw[z,Na] at e;cases e) e
   exists hT,.tup [.int i,.ref u],H',T,sT,wT,M3
   have k3:eE l M2 M3:=kp.trans sT.keep
   have dp:rows.drop i=rows[i]::rows.drop (i+1):=ky hi
   have Q7:=eN rows[i] (cF hi)
   refine⟨T,_,rfl,bZ.of wT,rfl,_,_,rfl,_,_,rfl,GY (bZ.of (sT _ _ (tk P0))) ⟨rfl,?_⟩⟩
   refine⟨_,rfl,_,rfl,_,_,rfl,rfl,_,rfl,l2,us,rfl,cQ.of (k3 _ _ Lj w2),λq hq=>?_⟩
   have Q8:jt us (some ((i:Int)+1)) none=us.drop (i+1):=by
    unfold jt
    rw[show((i:Int)+1)=((i+1:Nat):Int) from rfl,HT.mx,HT.rR,gw VJ,cZ ς]
   rw[Q8]
   have sq:=aO hq (.lst (us.drop (i+1)))
   have wq:upd M3 q (.lst (us.drop (i+1))) q=some (.lst (us.drop (i+1))):=aB
   have nq:q≠l:=λz=>by rw[z,sT _ _ hL] at hq;cases hq
   generalize upd M3 q (.lst (us.drop (i+1)))=M4 at*
   have VL:=sT.trans sq
   refine⟨q,rfl,⟨_,cQ.of wq⟩,pF (K:=K) (a:=q) (xs:=us.drop (i+1)) (λm bX H'=>∃(v6 v7 v8:Option V) (ws:List V) (L:List Row3),bX=[some (.ref l2),some (.ref l),some (.int i),some (.int rows[i].1),some (.ref r),v6,v7,v8]/\eE l M4 H'/\H' l=some (.lst ws)/\Paired (oQ H') ws L/\(L++Km rows[i] ((rows.drop (i+1)).drop m))++yf (rows.drop (i+1))=yf rows/\L.length<=31*i+m)
    ⟨_,_,_,ws,L,rfl,eE.refl _ _,VL _ _ hL,au pr λa b h=>h.up λb xs e=>VL _ _ e,by rw[dp] at eL;show(L++Km rows[i] (rows.drop (i+1)))++_=_;rw[rA];exact eL,lL⟩ (λm bX H' _ h=>by obtain⟨_,_,_,_,_,_,Dd,_⟩:=h;exact cQ.of (Dd _ _ nq wq)) ?_ ?_⟩
   .rintro m x bX H5 hx ⟨w6,w7,w8,Em,L5,rfl,k5,Kn,Ko,e5,l5⟩
    rw[List.getElem?_drop] at hx
    have VM:i+1+m<us.length:=(bD.mp hx).1
    have hj:i+1+m<rows.length:=B0▸VM
    obtain⟨_,Q9,u',r',rfl,Q_,Ra⟩:=eR Q6 (i+1+m) hj
    rw[Q9] at hx
    cases hx
    have Lk:∀b xs,M2 b=some (.tup xs)->H5 b=some (.tup xs):=λb xs e=>k5 _ _ (λz=>by rw[z,Na] at e;cases e) (sq _ _ (sT _ _ (tk e)))
    refine GY (bZ.of (Lk _ _ Q_)) ?_
    have Xt:=eN rows[i+1+m] (cF hj)
    refine⟨_,rfl,_,rfl,r,r',rows[i].2,rows[i+1+m].2,rfl,ZU.up Lk,Ra.up Lk,Q7.1,Xt.1,Q7.2,Xt.2,λv rr H6 s6 td dv=>?_⟩
    have er:=BA Q7.2 td
    have dd:(rows.drop (i+1)).drop m=rows[i+1+m]::(rows.drop (i+1)).drop (m+1):=by
     rw[xR,xR,show i+1+(m+1)=(i+1+m)+1 from rfl]
     exact ky hj
    rw[dd] at e5
    have Ll:((L5++El rows[i].1 rows[i+1+m].1 rr)++Km rows[i] ((rows.drop (i+1)).drop (m+1)))++yf (rows.drop (i+1))=yf rows:=by
     rw[<-e5,er,rA L5];rfl
    refine⟨_,rfl,rfl,_,rfl,?_⟩
    have Ou:Paired (oQ H6) Em L5:=au Ko λa b h=>h.up λb xs e=>s6 _ _ e
    have k6:eE l M4 H6:=k5.trans s6.keep
    cases rr with
    |none=>
     have:v=.eU:=dv
     subst this
     refine ite_no δ ?_
     exact⟨_,_,_,Em,L5,rfl,k6,s6 _ _ Kn,Ou,by rw[show El rows[i].1 rows[i+1+m].1 none=[] from rfl,cU] at Ll;exact Ll,Nat.le_succ_of_le l5⟩
    |some t=>
     obtain⟨y,rfl,ty⟩:=dv
     refine ite_yes (by rw[bE ς];rfl) ?_
     refine⟨_,rfl,.inl ⟨rfl,_,cQ.of (s6 _ _ Kn)⟩,_,rfl,_,rfl,_,rfl,dZ,λa ha=>?_⟩
     have sa:=aO ha (.tup [.int rows[i].1,.int rows[i+1+m].1,.ref y])
     have wa:upd H6 a (.tup [.int rows[i].1,.int rows[i+1+m].1,.ref y]) a=some (.tup [.int rows[i].1,.int rows[i+1+m].1,.ref y]):=aB
     have VN:=sa _ _ (s6 _ _ Kn)
     generalize upd H6 a (.tup [.int rows[i].1,.int rows[i+1+m].1,.ref y])=H7 at*
     have ZV:=qg Ko
     refine⟨l,Em,.ref a,rfl,rfl,VN,eF (rwA l5 ZV (B0▸VM) l30),?_⟩
     have kt:∀b xs,H7 b=some (.tup xs)->upd H7 l (.lst (Em++ [.ref a])) b=some (.tup xs):=λb xs e=>by rw[bb (λz=>by rw[z,VN] at e;cases e)];exact e
     refine⟨_,_,_,Em++ [.ref a],L5++ [(rows[i].1,rows[i+1+m].1,t)],rfl,λb o n e=>by rw[bb n];exact sa _ _ (k6 _ _ n e),aB,d_ (au Ou λa b h=>h.up λb xs e=>kt _ _ (sa _ _ e)) ⟨a,y,rfl,kt _ _ wa,(ty.same sa).up kt⟩,Ll,by rw[aQ,aN];exact j_ l5⟩
   .rintro bX H5 ⟨w6,w7,w8,Em,L5,rfl,k5,Kn,Ko,e5,l5⟩
    rw[show(rows.drop (i+1)).drop (us.drop (i+1)).length=[] from Tf (by rw[dP,dP,B0];exact av _)] at e5
    refine⟨_,_,_,_,_,_,Em,L5,rfl,λb o n e=>k5 _ _ n (sq _ _ (k3 _ _ n e)),Kn,Ko,by rw[show Km rows[i] []=[] from rfl,cU] at e5;exact e5,by rw[dP] at l5;exact rwB l5 (by rw[B0];exact l30)⟩
  .rintro bX H' ⟨v3,v4,v5,v6,v7,v8,ws,L,rfl,kp,hL,pr,eL,lL⟩
   refine Ha _ _ ?_
   rw[B0,List.drop_length,show yf []=[] from rfl,cU] at eL
   subst eL
   refine⟨_,rfl,hQ l ws H' hl (λb o e=>kp _ _ (λz=>by rw[z,hl] at e;cases e) (iD _ _ e)) hL pr⟩
end
abbrev Ae:Stmt:=top 50
section
variable {P:aJ}{w:bB}{K:Φ}{mg:Str->Option ag}{base:Heap}
def Es (h:Aw z "str"=false):hU z=false:=by
 cases z with
 |str x=>cases h
 |none=>rfl
 |bool b=>rfl
 |int i=>rfl
 |list ds=>rfl
 |tuple ds=>rfl
 |dict dW=>rfl
def uH (h:wL z=false):eZ z=false:=by
 cases z with
 |int i=>cases h
 |none=>rfl
 |bool b=>rfl
 |str i=>rfl
 |list ds=>rfl
 |tuple ds=>rfl
 |dict dW=>rfl
def aaf:bY ["thing"] ["thing"] (ar Ae):={}
def Hw (F:jg K "_law_is_rower" "_law_is_rower" Ae f fd) (T:Txt mg):dR P w K mg base fN 1 f fd ["thing"] (x_ ff):=by
 exists F.ok,aaf
 .obtain⟨k,d,v,rfl,_⟩:=h
  rfl
 .obtain⟨k,d,v,rfl,t,hf,q⟩:=h
  refine⟨_,aw (cS (PW.pt (jw (fS (fM (aR fR rfl T.s_ aE (ae (pv 0) (ae (gX (v:=.ty "tuple") rfl T.tuple cC rfl) ah)))))
    (jw (bo lV (aR bS rfl T.len bC (ae (pv 0) ah)) ao (bG _))
    (kf (fS (fM (aR fR rfl T.s_ aE (ae (aU aZ (pv 0) ao) (ae (gX (v:=.ty "str") rfl T.str gT rfl) ah)))))))))
    (aF (bN mw)) bO)
   (aw (cS (PW.pt (jw (fS (rQ rN rN ao (aR rW rfl T.len bC (ae (aU aZ (pv 0) ao) ah)) ao))
    (kf (bo (mV hr.units) (kI (N:=["sign"]) rfl (I_ (aU aZ (pv 0) ao)) (fD.closed rfl)
     (λ_ _ _=>a_ (i:=0) (YX _)) (λ_ _ _=>iw (fS (rQ ql ql bh (pv 0) bh))) (λ_ _ _=>pv 0)) (cW ah) (bG _)))))
    (aF (bN mw)) bO)
   (aw (cS (PW.pt (jw (fS (fM (aR fR rfl T.s_ aE (ae (aU aZ (pv 0) ao) (ae (gX (v:=.ty "str") rfl T.str gT rfl) ah)))))
    (kf (bo (Gz hr.units) (aU aZ (pv 0) ao) (bU (ae bh (ae bh (ae bh ah)))) (by with_unfolding_all rfl)))))
    (aF (bN mw)) bO)
   (aF (bN (jH (aR fR rfl T.s_ aE (ae (aU aZ (pv 0) ao) (ae (gX (v:=.ty "int") rfl T.int nv rfl) ah)))
    (jH (Cp (aR fR rfl T.s_ aE (ae (aU aZ (pv 0) ao) (ae (gX (v:=.ty "bool") rfl T.bool uM rfl) ah))))
    (mK (rP rN rO ao (aU aZ (pv 0) ao) (bW mO ao ao))))))))),?_⟩
  refine⟨_,rfl,k,_,_,d,rfl,t,.inr (.inr (.inr (.inl rfl))),_,rfl,?_⟩
  have no:∀H',bg H H'->ff d=false->Q (.bl false) H':=λH' s' e=>by have:=q H' s';rw[e] at this;exact this
  refine eY (λc=>?_) (λc=>?_)
  .refine qO (no H (bg.refl _) ?_)
   cases d with
   |tuple ds=>cases c
   |_=>rfl
  .obtain⟨ds,rfl⟩:=qo (d:=d) (by simpa using c)
   obtain⟨a,xs,rfl,hk,ha,nU⟩:=e_.mp t
   have hl:=g_ nU
   refine⟨_,rfl,a,xs,rfl,.inr (bZ.of ha),rfl,_,rfl,?_⟩
   refine eY (λc1=>?_) (λc1=>?_)
   .refine qO (no H (bg.refl _) ?_)
    have:ds.length≠3:=λz=>JE c1 (by rw[hl,z];rfl)
    exact wO this
   .have l3:ds.length=3:=by
     have e3:V.int (xs.length:Int)=V.int 3:=v_eq c1
     injection e3 with e3
     omega
    obtain⟨dn,Dy,dw,rfl⟩:=UQ l3
    obtain⟨x1,r1,rfl,t1,nU⟩:=bV.mp nU
    obtain⟨x2,r2,rfl,t2,nU⟩:=bV.mp nU
    obtain⟨x3,r3,rfl,t3,nU⟩:=bV.mp nU
    rw[eI] at nU
    subst nU
    have Bb:=(Bd.qm hf).1
    have tj:ff (.tuple [dn,Dy,dw])=(fJ dn&&(hU Dy&&eZ dw)):=rfl
    have i0:∀{H':Hp},bg H H'->∀{R:VK},R x1 H'->gg K (.ref a) (.int 0) H' R:=λs' R h=>⟨a,_,0,x1,rfl,rfl,bZ.of (s' _ _ ha),aV (j:=0) rfl,h⟩
    have i1:∀{H':Hp},bg H H'->∀{R:VK},R x2 H'->gg K (.ref a) (.int 1) H' R:=λs' R h=>⟨a,_,1,x2,rfl,rfl,bZ.of (s' _ _ ha),aV (j:=1) rfl,h⟩
    have i2:∀{H':Hp},bg H H'->∀{R:VK},R x3 H'->gg K (.ref a) (.int 2) H' R:=λs' R h=>⟨a,_,2,x3,rfl,rfl,bZ.of (s' _ _ ha),aV (j:=2) rfl,h⟩
    refine⟨_,rfl,i0 (bg.refl _) ?_⟩
    refine⟨k,_,_,dn,rfl,t1,.inr (.inr (.inl rfl)),_,rfl,?_⟩
    refine eY (λc2=>?_) (λc2=>?_)
    .refine no H (bg.refl _) ?_
     rw[tj,G0 (by simpa using c2),bz]
    .obtain⟨x,rfl⟩:=Fk (d:=dn) (by simpa using c2)
     rw[fi] at t1
     subst t1
     have hxl:=Bd.Jd (Bb (.str x) ς)
     have hxo:PyData.strOk x=true:=by
      have:=(Bb (.str x) ς).leaf
      rw[iq,cN] at this
      exact this.2
     have Xz:fJ (.str x)=((decide (1<=(x.length:Int))&&decide ((x.length:Int)<=8))&&(x.cps.toList.map sgn).all id):=rfl
     refine⟨_,rfl,i0 (bg.refl _) ?_⟩
     refine⟨x,rfl,aA hxl δ,_,_,rfl,rfl,_,rfl,?_⟩
     refine eY (λc3=>?_) (λc3=>?_)
     .refine⟨_,_,rfl,rfl,_,rfl,?_⟩
      refine eY (λc4=>?_) (λc4=>?_)
      .refine qO (no H (bg.refl _) ?_)
       rw[tj,Xz,show decide ((x.length:Int)<=8)=false from bE (by
        have:¬(x.length:Int)<9:=by simpa using c4
        omega),fj,bz,bz]
      .have c4':(x.length:Int)<9:=by simpa using c4
       refine iO rfl (bZ.of ha) (aV (j:=0) rfl) ⟨x,rfl,λD hD=>?_⟩
       refine mB (J:=N4 x) (n:=x.cps.size) (f:=λi=>.str ⟨#[x.cps.getD i 0]⟩) (λi ys bX H'=>ys=wU (sk (x.cps.toList.take i))/\(∃v,bX=[v])/\H'=upd H D (.lst ys)) hD (by have:x.cps.size=x.length:=rfl;omega)
        ⟨rfl,⟨none,rfl⟩,rfl⟩ (λi ys bX H' hi _ _=>Fl x i H' hi) ?_ ?_
       .rintro i ys bX H' hi hy ⟨e1,⟨v,rfl⟩,rfl⟩
        have yes:sgn (x.cps.getD i 0)=true->wU (sk (x.cps.toList.take (i+1)))=ys:=λz=>by
         rw[uc hi,e1,JI z]
        have nay:sgn (x.cps.getD i 0)=false->wU (sk (x.cps.toList.take (i+1)))=ys++ [V.str ⟨#[x.cps.getD i 0]⟩]:=λz=>by
         rw[uc hi,e1,JJ z]
         unfold wU
         rw[bL]
         rfl
        refine⟨_,rfl,_,_,rfl,rfl,_,rfl,?_⟩
        refine eY (λc5=>?_) (λc5=>?_)
        .refine⟨_,_,rfl,rfl,_,rfl,?_⟩
         refine eY (λc6=>?_) (λc6=>?_)
         .refine⟨_,rfl,hy,(nay ?_).symm,⟨_,rfl⟩,rL⟩
          show(_&&_)=false
          rw[c5,cA]
          simpa using c6
         .refine⟨hy,(yes ?_).symm,⟨_,rfl⟩,rfl⟩
          show(_&&_)=true
          rw[c5,cA]
          simpa using c6
        .refine⟨_,rfl,qO ?_⟩
         refine⟨_,rfl,hy,(nay ?_).symm,⟨_,rfl⟩,rL⟩
         show(_&&_)=false
         rw[show(!decide ((⟨#[x.cps.getD i 0]⟩:Str).cps.toList<("a":Str).cps.toList))=false by simpa using c5,bz]
       .rintro ys bX H' hy ⟨e1,⟨v,rfl⟩,rfl⟩
        rw[cZ ς] at e1
        subst e1
        have s1:bg H (upd H D (.lst (wU (sk x.cps.toList)))):=aO hD _
        generalize hH1:upd H D (.lst (wU (sk x.cps.toList)))=H1 at*
        refine⟨dZ,λp hp=>?_⟩
        have hDp:D≠p:=dH hy hp
        have s2:bg H1 (upd H1 p (.lst [])):=aO hp _
        have hDa:D≠a:=λz=>by rw[z,ha] at hD;cases hD
        have xJ:p≠a:=λz=>by have:=s1 _ _ ha;rw[<-z,hp] at this;cases this
        refine⟨a,a,.list (wR (sk x.cps.toList)),.list [],kj.mpr ⟨D,_,rfl,hDa,s2 _ _ hy,wV _⟩,kj.mpr ⟨p,_,rfl,xJ,aB,eI.mpr rfl⟩,
         JG (λc hc=>?_),kC,_,rfl,?_⟩
        .have xF:=(dN.mp hc).1
         unfold PyData.strOk at hxo
         rw[Array.all_eq_true'] at hxo
         exact aX (hxo c (by simpa using xF))
        .rw[Ms,JH]
         have s12:=s1.trans s2
         generalize upd H1 p (.lst [])=H2 at*
         refine eY (λc5=>?_) (λc5=>?_)
         .refine no H2 s12 ?_
          rw[tj,Xz,show(x.cps.toList.map sgn).all id=false by simpa using c5,fj,bz]
         .have Zc:(x.cps.toList.map sgn).all id=true:=by
           cases hb:(x.cps.toList.map sgn).all id with
           |true=>rfl
           |false=>rw[hb] at c5;exact absurd rfl c5
          have nT:fJ (.str x)=true:=by
           rw[Xz,Zc,Av,cN,rm,rm]
           have:0<(x.length:Int):=aX c3
           omega
          rw[nT,cA] at tj
          refine iO rfl (bZ.of (s12 _ _ ha)) (aV (j:=1) rfl) ⟨k,_,_,Dy,rfl,t2.keep s12.keep,.inr (.inr (.inl rfl)),_,rfl,?_⟩
          refine eY (λc6=>?_) (λc6=>?_)
          .refine qO (no H2 s12 ?_)
           rw[tj,Es (by simpa using c6),bz]
          .refine iO rfl (bZ.of (s12 _ _ ha)) (aV (j:=1) rfl) ⟨dZ,λp3 hp3=>?_⟩
           have s3:bg H2 (upd H2 p3 (.tup [.str "port",.str "starboard",.str "both"])):=aO hp3 _
           have s13:=s12.trans s3
           refine⟨k,a,Dy,wN,t2.keep s13.keep,.inl (uF (dH (s12 _ _ ha) hp3).symm),rZ.lay (Bb Dy ς),wQ,_,rfl,?_⟩
           generalize upd H2 p3 (.tup [.str "port",.str "starboard",.str "both"])=H3 at*
           refine eY (λc7=>?_) (λc7=>?_)
           .refine no H3 s13 ?_
            have Hk:(!hU Dy)=true:=c7
            rw[tj,show hU Dy=false by simpa using Hk,bz]
           .have Hk:hU Dy=true:=by
             have:¬(!hU Dy)=true:=c7
             simpa using this
            rw[Hk,cA] at tj
            refine iO rfl (bZ.of (s13 _ _ ha)) (aV (j:=2) rfl) ⟨k,_,_,dw,rfl,t3.keep s13.keep,.inl rfl,_,rfl,?_⟩
            have q4:=q H3 s13
            have e:=y9 dw
            refine eY (λc8=>?_) (λc8=>?_)
            .refine iO rfl (bZ.of (s13 _ _ ha)) (aV (j:=2) rfl) ⟨k,_,_,dw,rfl,t3.keep s13.keep,.inr (.inl rfl),_,rfl,_,rfl,?_⟩
             rw[c8,cA] at e
             refine eY (λcb=>?_) (λcb=>?_)
             .cases dw with
              |int i=>
               rw[jx] at t3
               subst t3
               refine iO rfl (bZ.of (s13 _ _ ha)) (aV (j:=2) rfl) ⟨_,_,rfl,rfl,_,rfl,?_⟩
               have wEq:eZ (.int i)=(decide (1<=i)&&decide (i<=1000000)):=rfl
               refine eY (λc9=>?_) (λc9=>?_)
               .refine⟨_,_,rfl,rfl,⟨δ,δ,δ⟩,_,_,rfl,rfl,?_⟩
                have h9:(0:Int)<i:=aX c9
                rw[tj,wEq,show decide (1<=i)=true from aI ω,cA] at q4
                exact q4
               .have h9:¬(0:Int)<i:=by simpa using c9
                rw[tj,wEq,show decide (1<=i)=false from bE ω,bz] at q4
                exact q4
              |bool b=>cases cb
              |_=>cases c8
             .rw[tj,uH (by rw[<-e];simpa using cb)] at q4
              exact q4
            .rw[tj,uH (by rw[<-e,show Aw dw "int"=false by simpa using c8];rfl)] at q4
             exact q4
     .refine⟨_,rfl,qO (qO (no H (bg.refl _) ?_))⟩
      rw[tj,Xz,show decide (1<=(x.length:Int))=false from bE (by
       have:¬(0:Int)<(x.length:Int):=by simpa using c3
       omega),bz,bz,bz]
end
end K13
namespace L2
open PySem PySem.Spec PyProof.Rows PySem.W
section
variable {X:Cx}
def BI (a:ai) (H:Hp):Prop:=∃cls eA,H a=some (uh a cls eA)
def BI.Ax (h:BI a H) (e:X.A.handled=some (.ref a)) (I:Inv X ac Z H s):Jq X.A s.heap:=by
 obtain⟨cls,eA,ha⟩:=h
 obtain⟨⟨oe,vs,h1,_,_,h3,h4⟩,_⟩:=I.eN a _ ha
 exact⟨a,oe,vs,e,h1,h3,h4⟩
def BI.same (h:BI a H) (s:bg H H'):BI a H':=let⟨c,d,e⟩:=h;⟨c,d,s _ _ e⟩
def OD (K:Φ) (a:ai) (n:Nat) (t:Sv):TG:=λv Z H Q=>BI a H/\∃p xs,v=.ref p/\bZ K H p xs/\xs.length=n/\t xs Z H Q
def Nr (e:X.A.handled=some (.ref a)) (h:Tw X es t)
  (hn:(assignEach es X.env).length=n:=by rfl) (Ge:(assignEach es X.env).findIdx? (·.1)=none:=by rfl):PG X (.Tuple es k pos) (OD X.K a n t):=by
 intro ac s Z H v u Q I r hw
 obtain⟨hh,p,xs,e1,hq,hl,hw⟩:=hw
 subst e1
 cases r
 obtain⟨cV,rv,ht,hz⟩:=I.tuple hq
 refine A_ (hh.Ax e I) ht (by simp[hn,<-hl,rv.length]) Ge λh' hx=>?_
 have I1:Inv X ac Z H {s with heap:=h'}:=I.kept (t':=s.toks) λb o e=>hx b o (bj (aC e)) e
 exact h ac _ Z H xs _ Q I1 (by simpa using rv) hw
end
structure OE (P:aJ) (w:bB) (K:Φ) (a:ai) (tg:Expr) (J:It) (fp:List ai) (it:ai) (tn:Nat->Heap->Prop):Prop where
 mem:it∈fp
 obj:∀i h,tn i h->∀b∈fp,∃o,h.get? b=some o/\∀v,o.data≠.cell v
 keep:∀i h h',tn i h->(∀b∈fp,∀o,h.get? b=some o->h'.get? b=some o)->tn i h'
 item:∀(X:Cx),X.prog=P->X.w=w->X.K=K->X.A.handled=some (.ref a)->∀(i:Nat) (ac:List (ai×Obj)) (s:ak) (Z:St) (H:Hp) (E:ag->ak->Prop),Inv X ac Z H s->(∀b∈fp,nG X ac H b)->tn i s.heap->J.go i H->
  wpAny (model P w) X.A (pyNext (.ref it)) (λr s1=>∃u,r=some u/\
   wpAny (model P w) X.A (letOwnedTupleGo tg (.ref it) u) (λ_ s2=>∃x H',Inv X ac Z H' s2/\RelV x u/\J.BS i H x H'/\tn (i+1) s2.heap/\∀b∈fp,H' b=none) E s1) E s
 done:∀(X:Cx),X.prog=P->X.w=w->X.K=K->X.A.handled=some (.ref a)->∀(i:Nat) (ac:List (ai×Obj)) (s:ak) (Z:St) (H:Hp) (E:ag->ak->Prop),Inv X ac Z H s->(∀b∈fp,nG X ac H b)->tn i s.heap->J.stop i H->
  wpAny (model P w) X.A (pyNext (.ref it)) (λr s1=>r=none/\Inv X ac Z H s1) E s
 self:∀(A:bH) (i:Nat) (s:ak) (Q:ag->ak->Prop) (E:ag->ak->Prop),tn i s.heap->Q (.ref it) s->wpAny (model P w) A (pyIter (.ref it)) Q E s
def aag (a:ai) (X:Cx) (ac:List (ai×Obj)) (Z:St) (tg:Expr) (R:It->Hp->Prop) (Pq:ag) (s2:ak):Prop:=
 ∃(it:ai) (fp:List ai) (tn:Nat->Heap->Prop) (J:It) (H':Hp),Pq=.ref it/\Inv X ac Z H' s2/\OE X.prog X.w X.K a tg J fp it tn/\tn 0 s2.heap/\(∀b∈fp,nG X ac H' b)/\R J H'
def PIG (a:ai) (X:Cx) (tg iter:Expr) (wi:TI):Prop:=
 ∀(ac:List (ai×Obj)) (s:ak) (Z:St) (H:Hp) (R:It->Hp->Prop),Inv X ac Z H s->wi Z H R->
  wpAny (model X.prog X.w) X.A (eval iter X.env) (λv s1=>wpAny (model X.prog X.w) X.A (pyIter v) (aag a X ac Z tg R) X.xe s1) X.xe s
def Rz (K:Φ) (e0 a b:ai):It:=⟨λi H=>∃xs ys x y,cQ K H a xs/\cQ K H b ys/\xs[i]?=some x/\ys[i]?=some y,
 λi H v H'=>∃T x y,H T=none/\v=.ref T/\H'=upd H T (.tup [x,y])/\(∀xs,cQ K H a xs->xs[i]?=some x)/\∀ys,cQ K H b ys->ys[i]?=some y,λi H=>BI e0 H/\∃xs ys,cQ K H a xs/\cQ K H b ys/\(xs.length<=i\/ys.length<=i)⟩
def RA (z TI TO i1 i2 a b:ai) (i:Nat) (h:Heap):Prop:=IsZip h z TI TO .none/\IsPair h TI (.ref i1) (.ref i2)/\(∃x y,IsPair h TO x y)/\h.IsListIter i1 a i/\h.IsListIter i2 b i
def Et {P:aJ}{w:bB}{K:Φ}{e0:ai}{elts:List Expr}{kk:Nat}{tp:Pos}(z TI TO i1 i2 a b:ai) (D:ZipApart z TI TO i1 i2 a b):OE P w K e0 (.Tuple elts kk tp) (Rz K e0 a b) [z,TI,TO,i1,i2] z (RA z TI TO i1 i2 a b) where
 mem:=ς
 obj:=λi h st c hc=>by
  obtain⟨z1,z2,⟨x,y,z3⟩,⟨o,o1,o2,o3⟩,⟨u,u1,u2,u3⟩⟩:=st
  simp only[aD,aG,cx] at hc
  rcases hc with rfl|rfl|rfl|rfl|rfl
  .exact⟨_,z1,λv e=>by cases(show Data.fields _=Data.cell v from e)⟩
  .exact⟨_,z2,λv e=>by cases(show Data.seq _ _=Data.cell v from e)⟩
  .exact⟨_,z3,λv e=>by cases(show Data.seq _ _=Data.cell v from e)⟩
  .exact⟨o,o1,λv e=>by rw[o3] at e;cases e⟩
  .exact⟨u,u1,λv e=>by rw[u3] at e;cases e⟩
 keep:=λi h h' st kp=>by
  obtain⟨z1,z2,⟨x,y,z3⟩,⟨o,o1,o2⟩,⟨u,u1,u2⟩⟩:=st
  exact⟨kp z ς _ z1,kp TI ς _ z2,⟨x,y,kp TO ς _ z3⟩,⟨o,kp i1 ς o o1,o2⟩,⟨u,kp i2 ς u u1,u2⟩⟩
 item:=by
  intro X hP hw hK hc i ac s Z H E I hf st hg
  subst hP hw hK
  obtain⟨xs,ys,x,y,C0,BW,hx,hy⟩:=hg
  obtain⟨vY,L_,p1,_⟩:=I.list C0
  obtain⟨mj,Ma,p2,_⟩:=I.list BW
  obtain⟨u1,YJ,PZ⟩:=L_.get hx
  obtain⟨u2,P0,P1⟩:=Ma.get hy
  obtain⟨z1,z2,⟨oa,ob,z3⟩,j1,j2⟩:=st
  have Jf:s.TypeIs (.ref z) "zip":=⟨_,z1,rfl⟩
  have lt:∀c∈[z,TI,TO,i1,i2],c<s.heap.objs.size:=λc hc=>by
   obtain⟨_,w1,_⟩:=id j1
   obtain⟨_,w2,_⟩:=id j2
   simp only[aD,aG,cx] at hc
   rcases hc with rfl|rfl|rfl|rfl|rfl
   .exact aC z1
   .exact aC z2
   .exact aC z3
   .exact aC w1
   .exact aC w2
  unfold pyNext
  refine aa (vC (cM (name:=Str.ofString "__next__") Jf iN (dX iN Jf xN
   (GQ D z1 z2 z3 j1 j2 p1.isList p2.isList (x:=u1) (y:=u2) (by simpa using YJ) (by simpa using P0) λh' a1 a2 a3 a4 a5 a7=>aj ?_) (vf _))))
  refine⟨_,rfl,wpAny_letOwnedTupleGo_zip a1 λh2 b1 Mb=>?_⟩
  have nT:s.heap.objs.size≠z:=ie (lt z ς)
  have C3:∀c o,c≠z->h'.get? c=some o->h2.get? c=some o:=λc o n e=>(Mb.2 c n).trans e
  obtain⟨f1,f2,f3⟩:=I.out (h':=h2) (t':=s.toks) (xs:=[x,y]) (us:=[u1,u2]) hf lt (.cons PZ (.cons P1 .nil)) (dZ)
   (λc o hc q=>C3 c o (λe=>hc (by simp[e])) (a7 c o (λe=>hc (by simp[e])) (λe=>hc (by simp[e])) (λe=>hc (by simp[e])) (λe=>hc (by simp[e])) q)) (C3 _ _ nT a5)
  obtain⟨v1,v2,v3⟩:=a3
  obtain⟨w1,w2,w3⟩:=a4
  exact⟨.ref s.heap.objs.size,_,f2,rfl,⟨_,x,y,f1,rfl,rfl,λzs P2=>by rw[I.rM P2 C0];exact hx,λzs P2=>by rw[I.rM P2 BW];exact hy⟩,
   ⟨b1,C3 _ _ D.TIz (a7 _ _ D.TIz D.TITO D.TIi1 D.TIi2 z2),⟨_,_,C3 _ _ D.TOz a2⟩,⟨v1,C3 _ _ D.i1z v2,v3⟩,⟨w1,C3 _ _ D.i2z w2,w3⟩⟩,f3⟩
 done:=by
  intro X hP hw hK hc i ac s Z H E I hf st hg
  subst hP hw hK
  obtain⟨hE,xs,ys,C0,BW,YK⟩:=hg
  obtain⟨vY,L_,p1,_⟩:=I.list C0
  obtain⟨mj,Ma,p2,_⟩:=I.list BW
  obtain⟨z1,z2,⟨oa,ob,z3⟩,j1,j2⟩:=st
  have Jf:s.TypeIs (.ref z) "zip":=⟨_,z1,rfl⟩
  have l1:=L_.length
  have l2:=Ma.length
  have ends:vY.toArray[i]?=none\/mj.toArray[i]?=none:=by
   rcases YK with e|e
   .left;simp;omega
   .right;simp;omega
  have na:∀c,X.A.handled=some (.ref c)->c≠z/\c≠TO/\c≠i1/\c≠i2:=λc ec=>by
   have e1:c=e0:=by have:=ec.symm.trans hc;injection this with this;injection this
   subst e1
   obtain⟨cls,eA,hE⟩:=hE
   have no:∀b∈[z,TI,TO,i1,i2],c≠b:=λb hb e=>by rw[e,(hf b hb).1] at hE;cases hE
   exact⟨no z ς,no TO ς,no i1 ς,no i2 ς⟩
  unfold pyNext
  refine aa (vC (cM (name:=Str.ofString "__next__") Jf iN (dX iN Jf xN
   (GR (hE.Ax hc I) na D z1 z2 z3 j1 j2 p1.isList p2.isList ends λh' x kp ⟨o,o1,o2⟩=>?_) (vf _))))
  refine aa (O9 (T:="StopIteration") (b:=true) ⟨o,o1,o2⟩ isSubtype_stop (aj ⟨rfl,?_⟩))
  exact I.vm (t':=s.toks) hf λc o hc q=>kp c o (λe=>hc (by simp[e])) (λe=>hc (by simp[e])) (λe=>hc (by simp[e])) (λe=>hc (by simp[e])) q
 self:=λ_ _ _ _ _ st q=>xO st.1 q
def RB (K:Φ) (e0:ai) (ta:TA):TI:=λZ H R=>ta Z H λvs H1=>∃a b,vs=[.ref a,.ref b]/\(∃xs,cQ K H1 a xs)/\(∃ys,cQ K H1 b ys)/\R (Rz K e0 a b) H1
def KE (hg:Gl X "zip") (hm:X.mg "zip"=none) (ha:PA X [e1,e2] ta) (hs:starEach [e1,e2] X.env=[(false,eval e1 X.env),(false,eval e2 X.env)]:=by rfl) (HR:starEach [e2] X.env=[(false,eval e2 X.env)]:=by rfl):
  PIG e0 X (.Tuple elts kk tp) (.Call (.Name "zip" p) [e1,e2] [] pos) (RB X.K e0 ta):=by
 intro ac s Z H R I h
 refine Call_ (qJ I hg hm yO (gJ (fE (ha pos ac s Z H _ I h) λus s1 ⟨vs,H1,I1,r1,q1⟩=>?_) (by rw[hs,HR]) (by rw[HR];rfl)))
 obtain⟨a,b,e,⟨xs,C0⟩,⟨ys,BW⟩,q⟩:=q1
 subst e
 obtain⟨u1,u2,rfl,PZ,P1⟩:=vals2 r1
 cases(show u1=Value.ref a from PZ)
 cases(show u2=Value.ref b from P1)
 obtain⟨vY,L_,p1,_⟩:=I1.list C0
 obtain⟨mj,Ma,p2,_⟩:=I1.list BW
 have la:a<s1.heap.objs.size:=by obtain⟨o,e,_⟩:=p1.isList;exact aC e
 have lb:b<s1.heap.objs.size:=by obtain⟨o,e,_⟩:=p2.isList;exact aC e
 refine GS p1.isList p2.isList λh' a1 a2 a3 a4 a5 kp=>xO a1 ?_
 refine⟨_,[s1.heap.objs.size+4,s1.heap.objs.size+2,s1.heap.objs.size+3,s1.heap.objs.size,s1.heap.objs.size+1],_,_,H1,rfl,I1.kept (t':=s1.toks) kp,Et _ _ _ _ _ a b (zipApart_new la lb),⟨a1,a2,⟨_,_,a3⟩,a4,a5⟩,λc hc=>?_,q⟩
 have ge:s1.heap.objs.size<=c:=by
  simp only[aD,aG,cx] at hc
  rcases hc with rfl|rfl|rfl|rfl|rfl
  .exact dQ _ _
  .exact dQ _ _
  .exact dQ _ _
  .exact av _
  .exact dQ _ _
 exact I1.zv ge (I1.eN.fresh ge)
section
variable {X:Cx}
def RC (hc:X.A.handled=some (.ref e0)) (hi:PIG e0 X tg iter wi) (S:fD X scope N r)
  (hg:∀s H fp,PG (X.yG N scope s H fp) tg g) (ht:∀s H fp,N0 (X.yG N scope s H fp) ifs tc) (he:∀s H fp,PE (X.yG N scope s H fp) elt te)
  (hs:∀x,foldedSetIterable iter X.env x=pure x:=by intro _;rfl):PE X (.ListComp elt [⟨tg,iter,ifs,0⟩] scope pos) (YE wi r g tc te):=by
 intro ac s Z H Q I h
 rw[eval_ListComp]
 have IS:closureFor scope X.env=pure (om scope X.env):=mU λy hy hk=>I.ok.has y.1 (S.out y hy hk)
 refine vB (use:=none) rfl hs IS S.kind S.own ?_
 show wpAny _ _ (eval iter X.env) _ _ s
 refine fE (hi ac s Z H _ I h) λv s1 h1=>fE h1 λPq s2 h2=>?_
 obtain⟨it,fp,tn,J,H2,e,I2,T,BU,f2,q2⟩:=h2
 subst e
 have hD:H2 s2.heap.objs.size=none:=I2.eN.fresh (av _)
 obtain⟨W,⟨m0,w0⟩,turn⟩:=q2 _ hD
 have AV:∀b∈fp,b<s2.heap.objs.size:=λb hb=>by
  obtain⟨o,e,_⟩:=T.obj _ _ BU b hb
  exact aC e
 refine bJ ?_
 generalize BV:({s2 with heap:=s2.heap.push {cls:=.type "list",dict:=none,data:=.seq ([]:List ag).toArray}}:ak)=s3
 have k3:∀b o,s2.heap.get? b=some o->s3.heap.get? b=some o:=λb o e=>by rw[<-BV];exact af _ e
 have z3:s3.heap.objs.size=s2.heap.objs.size+1:=by rw[<-BV];exact cu ..
 have u3:Un (oX X.stack) fp H2 (upd H2 s2.heap.objs.size (.lst [])) s2.heap s3.heap:=Un.laid k3 (av _) hD
 have o3:s3.os=s2.os:=by rw[<-BV]
 have I3:Inv X ac Z (upd H2 s2.heap.objs.size (.lst [])) s3:=by
  rw[<-BV]
  exact I2.laid (t':=s2.toks) (λb u e=>af _ e) (av _) ⟨dz _,[],0,.nil,az _ rfl⟩
 have f3:∀b∈fp,nG X ac (upd H2 s2.heap.objs.size (.lst [])) b:=λb hb=>⟨by rw[bb (bj (AV b hb))];exact(f2 b hb).1,(f2 b hb).2⟩
 refine Ca S.qQ (by intro y hy;simp at hy) (λh4 IT IU=>?_) S.kind
 have k4:∀b o,s3.heap.get? b=some o->h4.get? b=some o:=λb o e=>IU.extBut b o (bj (aC e)) (af _ e)
 have J4:Inv (X.yG N scope s3 (upd H2 s2.heap.objs.size (.lst [])) fp) [] (r.map (pick Z)) (upd H2 s2.heap.objs.size (.lst [])) {s3 with heap:=h4,toks:=s3.toks+([]:List (Str×ag)).length}:=
  tW S I3 f3 (λb hb=>by rw[z3];exact ig (AV b hb)) IT k4
 have IV:tn 0 h4:=T.keep _ _ _ BU λb _ o e=>k4 b o (k3 b o e)
 have qL:∀{H':Hp},(∀b∈fp,H' b=none)->∀b∈fp,nG (X.yG N scope s3 (upd H2 s2.heap.objs.size (.lst [])) fp) [] H' b:=λhn b hb=>
  ⟨hn b hb,(J4.ok.Gc b hb).1,J4.ok.uP b hb,.inl hb,(J4.ok.Gc b hb).2,λp hp=>absurd (show p∈([]:List (ai×Obj)) from hp) ς⟩
 generalize hY:X.yG N scope s3 (upd H2 s2.heap.objs.size (.lst [])) fp=Y at*
 have loop:∀s4:ak,s4={s3 with heap:=h4,toks:=s3.toks+([]:List (Str×ag)).length}->
   codeAny (model X.prog X.w) X.A (.compLoop (.ListComp elt [⟨tg,iter,ifs,0⟩] scope pos) 0 (.ref it) (.ref s2.heap.objs.size) Y.env) (compPost (model X.prog X.w) X.A X.xe none (EP X ac Z Q) (.ref s2.heap.objs.size) s3.heap.objs.size) s4:=by
  rintro s4 rfl
  have yp:Y.prog=X.prog:=by rw[<-hY]
  have yw:Y.w=X.w:=by rw[<-hY]
  have yK:Y.K=X.K:=by rw[<-hY]
  have yA:Y.A=X.A:=by rw[<-hY]
  have yc:Y.A.handled=some (.ref e0):=by rw[<-hY];exact hc
  have Ug:PG Y tg g:=by rw[<-hY];exact hg _ _ _
  have Uh:N0 Y ifs tc:=by rw[<-hY];exact ht _ _ _
  have Ui:PE Y elt te:=by rw[<-hY];exact he _ _ _
  have yx:∀e s',¬Y.xe e s':=λe s' z=>by rw[<-hY] at z;exact z
  refine pI (λn s'=>∃i bX H',Inv Y [] bX H' s'/\tn i s'.heap/\(∀b∈fp,H' b=none)/\W i n bX H') ?_ m0 ⟨0,_,_,J4,IV,λb hb=>(f3 b hb).1,w0⟩
  rintro n s5 ⟨i,E8,H5,I5,HN,Lc,w5⟩
  rcases turn i n E8 H5 w5 with⟨stop,qn⟩|⟨go,Nn,Mm,Uj,Uk,step⟩
  .have d:=T.done Y yp yw yK yc i [] s5 E8 H5 (notedBy (model X.prog X.w) X.A Y.env λe s'=>compPost (model X.prog X.w) X.A X.xe none (EP X ac Z Q) (.ref s2.heap.objs.size) s3.heap.objs.size (.error e) s') I5 (qL Lc) HN stop
   rw[yA] at d
   refine fE d λrr s6 c_=>?_
   obtain⟨hr,I6⟩:=c_
   subst hr
   obtain⟨m,hn,_⟩:=id I6.loc
   refine⟨m,by rw[<-hY] at hn;exact hn,λh' Ul=>⟨.ref s2.heap.objs.size,H5,?_,rfl,qn⟩⟩
   rw[<-hY] at I6
   exact zD I2 f2 u3 (by rw[z3];exact dM _) o3 I6 Ul
  .have d:=T.item Y yp yw yK yc i [] s5 E8 H5 (notedBy (model X.prog X.w) X.A Y.env λe s'=>compPost (model X.prog X.w) X.A X.xe none (EP X ac Z Q) (.ref s2.heap.objs.size) s3.heap.objs.size (.error e) s') I5 (qL Lc) HN go
   rw[yA] at d
   refine fE d λrr s6 c_=>?_
   obtain⟨u,hr,h6⟩:=c_
   subst hr
   refine fE h6 λ_ s7 c_=>?_
   obtain⟨x,H7,I7,r7,y7,IW,Um⟩:=c_
   have Uo:=I7.pinned (qL Um) (T.obj _ _ IW)
   have g7:=Ug _ s7 E8 H7 x u _ Uo r7 (step x H7 y7)
   rw[yp,yw,yA] at g7
   refine bF g7 (λ_ s8 c_=>?_) λe s' z=>(yx e s' z).elim
   obtain⟨yI,H8,I8,q8⟩:=c_
   have t8:=Uh _ s8 yI H8 _ I8 q8
   rw[yp,yw,yA] at t8
   refine bF t8 (λok s9 c_=>?_) λe s' z=>(yx e s' z).elim
   obtain⟨H9,I9,q9⟩:=c_
   have again:∀{s10:ak} {uU:Hp} {m':Nat},Inv Y ([]++qK fp s7.heap) yI uU s10->m'<n->W (i+1) m' yI uU->∃m,m<n/\∃i bX H',Inv Y [] bX H' s10/\tn i s10.heap/\(∀b∈fp,H' b=none)/\W i m bX H':=λ{s10 uU m'} AW hm CW=>by
    refine⟨m',hm,i+1,yI,uU,AW.nI,T.keep _ _ _ IW λb hb o e=>(AW.pin (b,o) (aM _ (aM _ (iJ hb e)))).1,λb hb=>?_,CW⟩
    obtain⟨o,e,d⟩:=T.obj _ _ IW b hb
    exact(AW.pin (b,o) (aM _ (aM _ (iJ hb e)))).2.1
   cases ok with
   |false=>
    rw[aP ς] at q9⊢
    obtain⟨m',hm,w9⟩:=Uj _ _ q9
    exact again I9 hm w9
   |true=>
    rw[aT rfl] at q9⊢
    have e9:=Ui _ s9 yI H9 _ I9 q9
    rw[yp,yw,yA] at e9
    refine bF e9 (λuu s10 c_=>?_) λe s' z=>(yx e s' z).elim
    obtain⟨y,uU,AW,r10,hM⟩:=c_
    obtain⟨xs,m',IY,hz,hm,CW⟩:=Uk _ _ _ hM
    have a10:=hZ _ s10 yI uU (.ref s2.heap.objs.size) [y] (.ref s2.heap.objs.size) [uu] (λv Hq=>v=.eU/\Hq=upd uU s2.heap.objs.size (.lst (xs++ [y]))) AW rfl (.cons r10 .nil) ⟨_,xs,y,rfl,rfl,IY,hz,rfl,rfl⟩
    rw[yp,yw,yA] at a10
    refine bF a10 (λ_ s11 c_=>?_) λe s' z=>(yx e s' z).elim
    obtain⟨_,Xb,Uq,_,_,Ur⟩:=c_
    subst Ur
    exact again Uq hm CW
 have Us:Y.env={scope:=relabel scope X.env,locals:=s3.heap.objs.size,globals:=X.env.globals,cells:=om scope X.env,qual:=X.env.qual,func:=none,code:=X.env.code,frame:=X.env.frame,builtins:=X.env.builtins}:=by rw[<-hY];rfl
 rw[Us] at loop
 exact zj (loop _ rfl) (T.self _ 0 _ _ _ IV (loop _ rfl))
end
end L2
namespace L2
open PySem HT PySem.W
def uI (H:Hp) (eA:Option ai) (fs:List (Str×V)):Prop:=eA=none\/∃d,eA=some d/\H d=some (.xd fs)
def uI.same (h:uI H eA fs) (s:bg H H'):uI H' eA fs:=h.imp id λ⟨d,e,h⟩=>⟨d,e,s _ _ h⟩
def KG (K:Φ):List V->Hp->VK->Prop:=λxs H Q=>∃a C eA fs c cv b,xs=[.ref a,c]/\H a=some (uh a (.ref C) eA)/\uI H eA fs/\pP K C/\JB c=some cv/\kitOne K (.ref C) cv=some b/\Q (.bl b) H
def fH:gN X (.builtin "isinstance") (KG X.K):=by
 intro ac s Z H xs us Q I r h
 obtain⟨a,C,eA,fs,c,cv,b,e,ha,hd,F,hc,hk,q⟩:=h
 rcases hd with rfl|⟨d,rfl,hd⟩
 .exact Dt ac s Z H xs us Q I r ⟨a,C,c,cv,b,e,ha,F,hc,hk,q⟩
 .exact Ec ac s Z H xs us Q I r ⟨a,C,d,fs,c,cv,b,e,ha,hd,F,hc,hk,q⟩
end L2
namespace K13
open PySem L2 HT PySem.W
def uZ:List Str:=["NoCrew","NoName","NoNumber","NoPiece","NoRow","NoRower","NoText","NothingLeft","NoTrial","TooMany","Twice"]
structure Wc (K:Φ) (mg:Str->Option ag) (C:ai) (nm:Str):Prop where
 ex:pP K C
 all:∀x∈uZ,∃D,mg x=some (.ref D)/\kitOne K (.ref C) (.ref D)=some (decide (x=nm))
 ve:kitOne K (.ref C) (.type "ValueError")=some true
section
variable {P:aJ}{w:bB}{K:Φ}{mg:Str->Option ag}{base:Heap}
abbrev HY:Stmt:=top 43
def oR (i:Nat):Stmt:=(fL HY).getD i (.Pass ⟨0,0,0,0⟩)
def Nt:fL HY=[oR 0,oR 1,oR 2,oR 3,oR 4,oR 5]:=rfl
abbrev RD:List Str:=["e","kinds","names"]
def Hx:bY RD ["e"] (ar HY):={}
def We:(["name","kind"]:List Str).Nodup:=by decide+kernel
def Nu:bootBuiltins "ValueError"=some (.type "ValueError"):=by decide+kernel
def lD:List Str:=uZ++(["+"]:List Str)
def iY (nm:Str):List Bool:=uZ.map (λx=>decide (x=nm))++ [true]
def BJ (nm:Str) (i:Nat):List Str:=(((lD.zip (iY nm)).take i).filter (·.2)).map (·.1)
def Hy (h:nm∈uZ):BJ nm 12=[nm,"+"]:=by
 revert nm
 decide+kernel
def Nv:∀nm∈uZ,JoinOk "" [nm,"+"]=true:=by decide+kernel
def RE (K:Φ) (mg:Str->Option ag):ai->Sp:=λa vs H Q _=>∃(C:ai) (eA:Option ai) (fs:List (Str×V)) (nm:Str),vs=[.ref a]/\H a=some (uh a (.ref C) eA)/\uI H eA fs/\Wc K mg C nm/\nm∈uZ/\∀H',bg H H'->Q (.str (Txt.join "" [nm,"+"])) H'
def no0 (T:Txt mg) (kd:Wc K mg C nm):∃r t,oR 0=r/\PS (wu P w K mg base RD "_law_name_of" (ar HY) f cdv A outer s H) r t/\∀(D:Ends) (H1:Hp) (v1 v2:Option V) (a:ai) (eA:Option ai) (fs:List (Str×V)),H1 a=some (uh a (.ref C) eA)->uI H1 eA fs->(∀l' H2,bg H1 H2->H2 l'=some (.lst (((iY nm).take 4).map V.bl))->D.nx [some (.ref a),some (.ref l'),v2] H2)->t D [some (.ref a),v1,v2] H1:=by
 obtain⟨D0,m0,k0⟩:=kd.all "NoCrew" (by decide+kernel)
 obtain⟨D1,m1,k1⟩:=kd.all "NoName" (by decide+kernel)
 obtain⟨D2,m2,k2⟩:=kd.all "NoNumber" (by decide+kernel)
 obtain⟨D3,m3,k3⟩:=kd.all "NoPiece" (by decide+kernel)
 refine⟨_,_,rfl,lj (i:=1) Hx.nd (cW (ae (aR fH rfl T.s_ aE (ae (pv 0) (ae (fT (v:=.ref D0) rfl m0 rfl) ah))) (ae (aR fH rfl T.s_ aE (ae (pv 0) (ae (fT (v:=.ref D1) rfl m1 rfl) ah))) (ae (aR fH rfl T.s_ aE (ae (pv 0) (ae (fT (v:=.ref D2) rfl m2 rfl) ah))) (ae (aR fH rfl T.s_ aE (ae (pv 0) (ae (fT (v:=.ref D3) rfl m3 rfl) ah))) ah))))),?_⟩
 intro D H1 v1 v2 a eA fs ha hd nx
 refine⟨_,rfl,a,C,eA,fs,_,_,decide (("NoCrew":Str)=nm),rfl,ha,hd,kd.ex,rfl,k0,_,rfl,a,C,eA,fs,_,_,decide (("NoName":Str)=nm),rfl,ha,hd,kd.ex,rfl,k1,_,rfl,a,C,eA,fs,_,_,decide (("NoNumber":Str)=nm),rfl,ha,hd,kd.ex,rfl,k2,_,rfl,a,C,eA,fs,_,_,decide (("NoPiece":Str)=nm),rfl,ha,hd,kd.ex,rfl,k3,dZ,λl hl=>?_⟩
 exact nx l _ (aO hl _) aB
def no1 (T:Txt mg) (kd:Wc K mg C nm):∃r t,oR 1=r/\PS (wu P w K mg base RD "_law_name_of" (ar HY) f cdv A outer s H) r t/\∀(D:Ends) (H1:Hp) (v1 v2:Option V) (a l:ai) (eA:Option ai) (fs:List (Str×V)),H1 a=some (uh a (.ref C) eA)->uI H1 eA fs->H1 l=some (.lst (((iY nm).take 4).map V.bl))->(∀l' H2,bg H1 H2->H2 l'=some (.lst (((iY nm).take 8).map V.bl))->D.nx [some (.ref a),some (.ref l'),v2] H2)->t D [some (.ref a),some (.ref l),v2] H1:=by
 obtain⟨D4,m4,k4⟩:=kd.all "NoRow" (by decide+kernel)
 obtain⟨D5,m5,k5⟩:=kd.all "NoRower" (by decide+kernel)
 obtain⟨D6,m6,k6⟩:=kd.all "NoText" (by decide+kernel)
 obtain⟨D7,m7,k7⟩:=kd.all "NothingLeft" (by decide+kernel)
 refine⟨_,_,rfl,lj (i:=1) Hx.nd (bW mT (pv 1) (cW (ae (aR fH rfl T.s_ aE (ae (pv 0) (ae (fT (v:=.ref D4) rfl m4 rfl) ah))) (ae (aR fH rfl T.s_ aE (ae (pv 0) (ae (fT (v:=.ref D5) rfl m5 rfl) ah))) (ae (aR fH rfl T.s_ aE (ae (pv 0) (ae (fT (v:=.ref D6) rfl m6 rfl) ah))) (ae (aR fH rfl T.s_ aE (ae (pv 0) (ae (fT (v:=.ref D7) rfl m7 rfl) ah))) ah)))))),?_⟩
 intro D H1 v1 v2 a l eA fs ha hd hl nx
 refine⟨_,rfl,_,rfl,a,C,eA,fs,_,_,decide (("NoRow":Str)=nm),rfl,ha,hd,kd.ex,rfl,k4,_,rfl,a,C,eA,fs,_,_,decide (("NoRower":Str)=nm),rfl,ha,hd,kd.ex,rfl,k5,_,rfl,a,C,eA,fs,_,_,decide (("NoText":Str)=nm),rfl,ha,hd,kd.ex,rfl,k6,_,rfl,a,C,eA,fs,_,_,decide (("NothingLeft":Str)=nm),rfl,ha,hd,kd.ex,rfl,k7,dZ,λl2 nS=>?_⟩
 have ng:l≠l2:=λz=>by rw[<-z,hl] at nS;cases nS
 refine⟨l,l2,_,_,rfl,rfl,by rw[bb ng];exact hl,aB,dZ,λl3 BE=>?_⟩
 exact nx l3 _ ((aO nS _).trans (aO BE _)) aB
def SO (T:Txt mg) (kd:Wc K mg C nm):∃r t,oR 2=r/\PS (wu P w K mg base RD "_law_name_of" (ar HY) f cdv A outer s H) r t/\∀(D:Ends) (H1:Hp) (v1 v2:Option V) (a l:ai) (eA:Option ai) (fs:List (Str×V)),H1 a=some (uh a (.ref C) eA)->uI H1 eA fs->H1 l=some (.lst (((iY nm).take 8).map V.bl))->(∀l' H2,bg H1 H2->H2 l'=some (.lst (((iY nm).take 12).map V.bl))->D.nx [some (.ref a),some (.ref l'),v2] H2)->t D [some (.ref a),some (.ref l),v2] H1:=by
 obtain⟨D8,m8,k8⟩:=kd.all "NoTrial" (by decide+kernel)
 obtain⟨D9,m9,k9⟩:=kd.all "TooMany" (by decide+kernel)
 obtain⟨D10,m10,k10⟩:=kd.all "Twice" (by decide+kernel)
 refine⟨_,_,rfl,lj (i:=1) Hx.nd (bW mT (pv 1) (cW (ae (aR fH rfl T.s_ aE (ae (pv 0) (ae (fT (v:=.ref D8) rfl m8 rfl) ah))) (ae (aR fH rfl T.s_ aE (ae (pv 0) (ae (fT (v:=.ref D9) rfl m9 rfl) ah))) (ae (aR fH rfl T.s_ aE (ae (pv 0) (ae (fT (v:=.ref D10) rfl m10 rfl) ah))) (ae (aR fH rfl T.s_ aE (ae (pv 0) (ae (gX (v:=.ty "ValueError") rfl T.ValueError Nu rfl) ah))) ah)))))),?_⟩
 intro D H1 v1 v2 a l eA fs ha hd hl nx
 refine⟨_,rfl,_,rfl,a,C,eA,fs,_,_,decide (("NoTrial":Str)=nm),rfl,ha,hd,kd.ex,rfl,k8,_,rfl,a,C,eA,fs,_,_,decide (("TooMany":Str)=nm),rfl,ha,hd,kd.ex,rfl,k9,_,rfl,a,C,eA,fs,_,_,decide (("Twice":Str)=nm),rfl,ha,hd,kd.ex,rfl,k10,_,rfl,a,C,eA,fs,_,_,true,rfl,ha,hd,kd.ex,rfl,kd.ve,dZ,λl2 nS=>?_⟩
 have ng:l≠l2:=λz=>by rw[<-z,hl] at nS;cases nS
 refine⟨l,l2,_,_,rfl,rfl,by rw[bb ng];exact hl,aB,dZ,λl3 BE=>?_⟩
 exact nx l3 _ ((aO nS _).trans (aO BE _)) aB
def no3:∃r t,oR 3=r/\PS (wu P w K mg base RD "_law_name_of" (ar HY) f cdv A outer s H) r t/\∀(D:Ends) (H1:Hp) (v0 v1 v2:Option V),(∀l H2,bg H1 H2->H2 l=some (.lst ((lD.take 9).map V.str))->D.nx [v0,v1,some (.ref l)] H2)->t D [v0,v1,v2] H1:=by
 refine⟨_,_,rfl,(by
  refine vN (i:=2) (te:=xW (λ_ H Q=>Q ((lD.take 9).map V.str) H)) ?_ ?_ ?_ ?_ ?_ ?_
  .exact Hx.nd
  .rfl
  .exact Or.inl rfl
  .refine cW ?_
   refine Bc ?_
   repeat (first|exact .nil|refine .cons ⟨_,_,_,rfl,rfl⟩ ?_)
  .rfl
  .exact .inl rfl),?_⟩
 intro D H1 v0 v1 v2 nx
 exact⟨dZ,λl hl=>nx l _ (aO hl _) aB⟩
def no4:∃t,PS (wu P w K mg base RD "_law_name_of" (ar HY) f cdv A outer s H) (oR 4) t/\∀(D:Ends) (H1:Hp) (v0 v1:Option V) (l:ai),H1 l=some (.lst ((lD.take 9).map V.str))->(∀l' H2,bg H1 H2->H2 l'=some (.lst (lD.map V.str))->D.nx [v0,v1,some (.ref l')] H2)->t D [v0,v1,some (.ref l)] H1:=by
 refine⟨_,lj (i:=2) Hx.nd (bW mT (pv 2) (cW (ae bh (ae bh (ae bh ah))))),?_⟩
 intro D H1 v0 v1 l hl nx
 refine⟨_,rfl,dZ,λl2 nS=>?_⟩
 have ng:l≠l2:=λz=>by rw[<-z,hl] at nS;cases nS
 refine⟨l,l2,_,_,rfl,rfl,by rw[bb ng];exact hl,aB,dZ,λl3 BE=>?_⟩
 exact nx l3 _ ((aO nS _).trans (aO BE _)) aB
def no5 (hh:(A.deeper (Ψ "_law_name_of" (ar HY) s.heap.objs.size f cdv)).handled=some (.ref a)) (hz:mg "zip"=none):∃t,PS (wu P w K mg base RD "_law_name_of" (ar HY) f cdv A outer s H) (oR 5) t/\∀(D:Ends) (H1:Hp) (v0:Option V) (l m:ai) (nm:Str),BI a H1->H1 l=some (.lst ((iY nm).map V.bl))->H1 m=some (.lst (lD.map V.str))->nm∈uZ->(∀H2,bg H1 H2->D.rt (.str (Txt.join "" [nm,"+"])) H2)->t D [v0,some (.ref l),some (.ref m)] H1:=by
 refine⟨_,bN (rX PySem.F.plainAttrs_str PySem.F.slot_str_join PySem.F.type_str_join Mh bh (ae (RC (e0:=a) (N:=["name","kind"]) (g:=OD K a 2 (jZ (de 0) (jZ (de 1) zt))) (tc:=tB (cj 1)) (te:=cj 0) hh (KE rfl hz (ae (pv 2) (ae (pv 1) ah))) (fD.closed rfl)
   (λ_ _ _=>Nr hh (bx (a_ (i:=0) We) (bx (a_ (i:=1) We) eX))) (λ_ _ _=>iw (fM (pv 1))) (λ_ _ _=>pv 0)) ah)),?_⟩
 intro D H1 v0 l m nm hE hl hm SJ rt
 have lk:((iY nm).map V.bl).length=12:=by rw[aq];unfold iY;rw[aQ,aq];rfl
 have ln:(lD.map V.str).length=12:=by rw[aq];rfl
 refine⟨rfl,_,rfl,_,rfl,m,l,rfl,⟨_,cQ.of hm⟩,⟨_,cQ.of hl⟩,λL hL=>?_⟩
 refine AY (J:=Rz K a m l) (n:=12) (u:=λi=>(lD.map V.str).getD i .eU) (v:=λi=>((iY nm).map V.bl).getD i .eU) (λi ys bX J=>(∃x y,bX=[x,y])/\bg H1 J/\ys=(BJ nm i).map V.str) hL δ ⟨⟨_,_,rfl⟩,aO hL _,rfl⟩ (λi ys Z J hi hy ⟨_,sm,_⟩=>?_) ?_ ?_
 .refine⟨λe=>⟨hE.same sm,_,_,cQ.of (sm _ _ hm),cQ.of (sm _ _ hl),.inl (by rw[ln];omega)⟩,λe=>?_⟩
  have e1:(lD.map V.str)[i]?=some ((lD.map V.str).getD i .eU):=by rw[bw,aH (by rw[ln];exact e)];rfl
  have e2:((iY nm).map V.bl)[i]?=some (((iY nm).map V.bl).getD i .eU):=by rw[bw,aH (by rw[lk];exact e)];rfl
  refine⟨⟨_,_,_,_,cQ.of (sm _ _ hm),cQ.of (sm _ _ hl),e1,e2⟩,?_⟩
  rintro x H' ⟨T,x1,y1,hT,rfl,rfl,f1,f2⟩
  have g1:=(f1 _ (cQ.of (sm _ _ hm))).symm.trans e1
  have g2:=(f2 _ (cQ.of (sm _ _ hl))).symm.trans e2
  cases g1
  cases g2
  exact⟨T,hT,rfl,rfl⟩
 .rintro i ys Z J t hi hy ⟨⟨x,y,rfl⟩,sm,rfl⟩ ht
  have i1:i<lD.length:=by rw[aq] at ln;omega
  have i2:i<(iY nm).length:=by rw[aq] at lk;omega
  have iz:i<(lD.zip (iY nm)).length:=by rw[List.length_zip];omega
  have a1:(lD.map V.str).getD i .eU=.str lD[i]:=by rw[bw,cg,aH i1];rfl
  have a2:((iY nm).map V.bl).getD i .eU=.bl (iY nm)[i]:=by rw[bw,cg,aH i2];rfl
  have e3:BJ nm (i+1)=BJ nm i++(if(iY nm)[i]=true then[lD[i]] else[]):=by
   unfold BJ
   rw[gj iz,List.getElem_zip,lI,bL]
   congr 1
   by_cases c:(iY nm)[i]=true
   .rw[aT c,tM (by exact c)];rfl
   .rw[aP c,tN (by exact c)];rfl
  rw[a1,a2,e3]
  exists ht,.tup [.str lD[i],.bl (iY nm)[i]],J,t,s2,zP,J2
  have Li:=s2 _ _ hy
  refine⟨(hE.same sm).same s2,GY (bZ.of zP) ?_⟩
  refine⟨_,rfl,_,rfl,?_⟩
  dsimp only
  by_cases c:(iY nm)[i]=true
  .rw[aT c,aT c]
   exact⟨_,rfl,Li,⟨_,_,rfl⟩,bP (sm.trans s2) hL,by rw[bL];rfl⟩
  .rw[aP c,aP c]
   exact⟨Li,⟨_,_,rfl⟩,sm.trans s2,by rw[cU]⟩
 .rintro ys Z J hy ⟨_,sm,rfl⟩
  rw[Hy SJ] at hy
  exact⟨"",L,[nm,"+"],rfl,rfl,cQ.of hy,Nv nm SJ,rt J sm⟩
def Wf (F:jg K "_law_name_of" "_law_name_of" HY f fd) (T:Txt mg) (hz:mg "zip"=none):Ba P w K mg base 1 f fd ["e"] (RE K mg):=by
 refine F.okH Hx (λa vs H Q E h=>?_) (λa cdv A outer s H vs Q hr h=>?_)
 .obtain⟨C,eA,fs,nm,rfl,_⟩:=h
  rfl
 .obtain⟨C,eA,fs,nm,rfl,ha,hd,kd,SJ,q⟩:=h
  obtain⟨r0,t0,e0,p0,g0⟩:=no0 (P:=P) (w:=w) (K:=K) (mg:=mg) (base:=base) (f:=f) (cdv:=cdv) (A:=A) (outer:=outer) (s:=s) (H:=H) T kd
  obtain⟨r1,t1,e1,p1,g1⟩:=no1 (P:=P) (w:=w) (K:=K) (mg:=mg) (base:=base) (f:=f) (cdv:=cdv) (A:=A) (outer:=outer) (s:=s) (H:=H) T kd
  obtain⟨r2,t2,e2,p2,g2⟩:=SO (P:=P) (w:=w) (K:=K) (mg:=mg) (base:=base) (f:=f) (cdv:=cdv) (A:=A) (outer:=outer) (s:=s) (H:=H) T kd
  obtain⟨r3,t3,e3,p3,g3⟩:=no3 (P:=P) (w:=w) (K:=K) (mg:=mg) (base:=base) (f:=f) (cdv:=cdv) (A:=A) (outer:=outer) (s:=s) (H:=H)
  obtain⟨t4,p4,g4⟩:=no4 (P:=P) (w:=w) (K:=K) (mg:=mg) (base:=base) (f:=f) (cdv:=cdv) (A:=A) (outer:=outer) (s:=s) (H:=H)
  obtain⟨t5,p5,g5⟩:=no5 (P:=P) (w:=w) (K:=K) (mg:=mg) (base:=base) (f:=f) (cdv:=cdv) (A:=A) (outer:=outer) (s:=s) (H:=H) hr.hd hz
  rw[Nt,e0,e1,e2,e3]
  refine⟨_,aw p0 (aw p1 (aw p2 (aw p3 (aw p4 (aF p5))))),?_⟩
  refine g0 _ H none none a eA fs ha hd λl1 H1 s1 h1=>?_
  refine g1 _ H1 none none a l1 eA fs (s1 _ _ ha) (hd.same s1) h1 λl2 H2 s2 h2=>?_
  refine g2 _ H2 none none a l2 eA fs (s2 _ _ (s1 _ _ ha)) ((hd.same s1).same s2) h2 λl3 H3 s3 h3=>?_
  refine g3 _ H3 _ _ _ λm1 H4 s4 h4=>?_
  refine g4 _ H4 _ _ m1 h4 λm2 H5 s5 h5=>?_
  have ss:=(((s1.trans s2).trans s3).trans s4).trans s5
  have h3':H5 l3=some (.lst ((iY nm).map V.bl)):=by
   have:=(s4.trans s5) _ _ h3
   rw[cZ (by unfold iY;rw[aQ,aq];decide)] at this
   exact this
  exact g5 _ H5 _ l3 m2 nm ⟨_,_,ss _ _ ha⟩ h3' h5 SJ λH6 s6=>q H6 (ss.trans s6)
end
end K13
namespace L2
open PySem PySem.Spec PySem.W PyProof.Rows HT
open AutoSeq1 (wpAny_loadPart')
section
variable {X:Cx}
end
end L2
namespace L2
open PySem HT PySem.W
section
variable {X:Cx}
def FE:LJ:=λo i v H Q=>∃a H',o=.ref a/\C7 H a i v H'/\Q H'
def F8 (hu:X.A.units+1<cLine):Po X FE:=by
 intro ac s Z H o i v ov iv u Q I ro ri rv h
 obtain⟨a,H',rfl,g,q⟩:=h
 obtain rfl:ov=Value.ref a:=ro
 exact GL hu I g ri rv λs' I'=>⟨H',I',q⟩
end
end L2
namespace K13
open PySem L2 HT PySem.W
def jW (mu:List ai) (H H':Hp):Prop:=∀x o,x∉mu->H x=some o->H' x=some o
def jW.refl:jW mu H H:=λ_ _ _ e=>e
def jW.trans (a:jW mu H H1) (b:jW mu H1 H2):jW mu H H2:=λx o n e=>b x o n (a x o n e)
def fh (s:bg H H'):jW mu H H':=λx o _ e=>s x o e
def FF (mu:List ai) (H:Hp) (v:V) (S:Cs):Prop:=∃(t a b:ai) (ws us:List V),v=.ref t/\t∉mu/\a∉mu/\b∉mu/\H t=some (.tup [.ref a,.ref b,.int S.n])/\H a=some (.lst ws)/\Paired (gm H) ws S.br/\H b=some (.lst us)/\Paired (kr H) us S.rows
def Tk (H H':Hp):Prop:=∀b xs,H b=some (.tup xs)->H' b=some (.tup xs)
def Tk.trans (a:Tk H H1) (b:Tk H1 H2):Tk H H2:=λx y e=>b x y (a x y e)
def fe (s:bg H H'):Tk H H':=λb xs e=>s _ _ e
def FF.kp (h:FF mu H v S) (k:jW mu H H') (tk:Tk H H'):FF mu H' v S:=by
 obtain⟨t,a,b,ws,us,h1,m1,m2,m3,h2,h3,h4,h5,h6⟩:=h
 exact⟨t,a,b,ws,us,h1,m1,m2,m3,tk _ _ h2,k _ _ m2 h3,au h4 λ_ _ z=>z.up tk,k _ _ m3 h5,au h6 λ_ _ z=>z.up tk⟩
def FF.sub (h:FF mu H v S) (s:∀x∈Ln,x∈mu):FF Ln H v S:=by
 obtain⟨t,a,b,ws,us,h1,m1,m2,m3,r⟩:=h
 exact⟨t,a,b,ws,us,h1,λz=>m1 (s _ z),λz=>m2 (s _ z),λz=>m3 (s _ z),r⟩
def je (ra pa:ai) (n:Int) (pl ll:ai):List (Key×V):=[(.inr "rowers",.ref ra),(.inr "pieces",.ref pa),(.inr "count",.int n),(.inr "past",.ref pl),(.inr "later",.ref ll)]
def Af (ra pa:ai) (n:Int) (pl ll:ai):mY (je ra pa n pl ll) (.inr "rowers")=some (.ref ra):=by unfold mY je;rfl
def xt (ra pa:ai) (n:Int) (pl ll:ai):mY (je ra pa n pl ll) (.inr "pieces")=some (.ref pa):=by unfold mY je;rfl
def Eu (ra pa:ai) (n:Int) (pl ll:ai):mY (je ra pa n pl ll) (.inr "count")=some (.int n):=by unfold mY je;rfl
def qc (ra pa:ai) (n:Int) (pl ll:ai):mY (je ra pa n pl ll) (.inr "past")=some (.ref pl):=by unfold mY je;rfl
def qu (ra pa:ai) (n:Int) (pl ll:ai):mY (je ra pa n pl ll) (.inr "later")=some (.ref ll):=by unfold mY je;rfl
def RF (ra pa rh:ai) (n:Int) (pl ll:ai):putK (je ra pa n pl ll) (.inr "rowers") (.ref rh)=je rh pa n pl ll:=by unfold putK je;rfl
def RG (ra pa rj:ai) (n:Int) (pl ll:ai):putK (je ra pa n pl ll) (.inr "pieces") (.ref rj)=je ra rj n pl ll:=by unfold putK je;rfl
def RH (ra pa:ai) (n n':Int) (pl ll:ai):putK (je ra pa n pl ll) (.inr "count") (.int n')=je ra pa n' pl ll:=by unfold putK je;rfl
def Nw (mu:List ai) (H:Hp) (ra pa:ai) (S:Cs):Prop:=∃(ws us:List V),ra∉mu/\pa∉mu/\H ra=some (.lst ws)/\Paired (gm H) ws S.br/\H pa=some (.lst us)/\Paired (kr H) us S.rows
def Nw.kp (h:Nw mu H ra pa S) (k:jW mu H H') (tk:Tk H H'):Nw mu H' ra pa S:=by
 obtain⟨ws,us,m2,m3,h3,h4,h5,h6⟩:=h
 exact⟨ws,us,m2,m3,k _ _ m2 h3,au h4 λ_ _ z=>z.up tk,k _ _ m3 h5,au h6 λ_ _ z=>z.up tk⟩
structure jA (mu:List ai) (H:Hp) (ow ra pa pl ll:ai) (vs ws:List V) (sts:List Cs) (S:Cs) (cO:List Cs):Prop where
 d:H ow=some (.dK (je ra pa S.n pl ll))
 now:Nw mu H ra pa S
 j4:H pl=some (.lst vs)
 pp:Paired (FF mu H) vs sts
 ng:H ll=some (.lst ws)
 OF:Paired (FF mu H) ws cO
structure Wd (C:ai) (H:Hp) (cb sl lc ow pl ll:ai) (sts:List Cs) (S:Cs) (cO:List Cs):Prop where
 cl:eV C H cb sl lc (sts++ [S]) cO
 own:∃ra pa vs ws,jA [ow,pl,ll,cb,sl,lc] H ow ra pa pl ll vs ws sts S cO
 RI:pl≠ll
 Lo:pl≠sl
 Lp:pl≠lc
 Lq:ll≠sl
 Lr:ll≠lc
def jA.kp {ow ra pa pl ll:ai}{vs ws:List V} (h:jA mu H ow ra pa pl ll vs ws sts S cO) (k:jW mu H H') (tk:Tk H H') (e1:H' ow=some (.dK (je ra pa S.n pl ll))) (e2:H' pl=some (.lst vs)) (e3:H' ll=some (.lst ws)):jA mu H' ow ra pa pl ll vs ws sts S cO:=
 ⟨e1,h.now.kp k tk,e2,au h.pp λ_ _ z=>z.kp k tk,e3,au h.OF λ_ _ z=>z.kp k tk⟩
def jA.same {ow ra pa pl ll:ai}{vs ws:List V} (h:jA mu H ow ra pa pl ll vs ws sts S cO) (s:bg H H'):jA mu H' ow ra pa pl ll vs ws sts S cO:=
 h.kp (fh s) (fe s) (s _ _ h.d) (s _ _ h.j4) (s _ _ h.ng)
def Wd.same {cb sl lc ow pl ll:ai} (h:Wd C H cb sl lc ow pl ll sts S cO) (s:bg H H'):Wd C H' cb sl lc ow pl ll sts S cO:=by
 obtain⟨ra,pa,vs,ws,o⟩:=h.own
 exact⟨h.cl.same s,⟨ra,pa,vs,ws,o.same s⟩,h.RI,h.Lo,h.Lp,h.Lq,h.Lr⟩
def ma {H:Hp} (h1:H a=some (.dK dW)) (h2:H b=some (.lst vs)):a≠b:=λz=>by rw[z,h2] at h1;cases h1
def vz {H:Hp} (h1:H a=some (.ins C dx fs)) (h2:H b=some (.lst vs)):a≠b:=λz=>by rw[z,h2] at h1;cases h1
def eV.kinds {cb sl ll:ai}(h:eV C H cb sl ll sts cO):(∃dx fs,H cb=some (.ins C dx fs))/\(∃vs,H sl=some (.lst vs))/\∃ws,H ll=some (.lst ws):=by
 obtain⟨dx,vs,ws,c1,c2,c3,c4,c5,c6,_⟩:=h
 exact⟨⟨_,_,c1⟩,⟨_,c5⟩,⟨_,c6⟩⟩
def eV.nZ {cb sl ll:ai}(h:eV C H cb sl ll sts cO) (k:Fx cb sl ll H H'):Tk H H':=λb xs e=>by
 obtain⟨dx,vs,ws,c1,c2,c3,c4,c5,c6,c7,c8⟩:=h
 exact k _ _ (λz=>by rw[z,c1] at e;cases e) (λz=>by rw[z,c5] at e;cases e) (λz=>by rw[z,c6] at e;cases e) e
def jA.aaO {C:ai}{H H':Hp}{cb sl lc kR ow ra pa pl ll:ai}{vs ws:List V}{sts:List Cs}{S:Cs}{cO:List Cs}{XA lf1:List Cs}(h:jA [ow,pl,ll,cb,sl,lc] H ow ra pa pl ll vs ws sts S cO) (cl:eV C H cb sl lc XA lf1) (kp:Fx cb sl lc H H') (f:kR=lc\/H kR=none) (Lo:pl≠sl) (Lp:pl≠lc) (Lq:ll≠sl) (Lr:ll≠lc):jA [ow,pl,ll,cb,sl,kR] H' ow ra pa pl ll vs ws sts S cO:=by
 obtain⟨⟨_,_,a1⟩,⟨_,a2⟩,⟨_,a3⟩⟩:=cl.kinds
 have e1:=kp _ _ (λz=>by rw[<-z,h.d] at a1;cases a1) (ma h.d a2) (ma h.d a3) h.d
 have e2:=kp _ _ (vz a1 h.j4).symm Lo Lp h.j4
 have e3:=kp _ _ (vz a1 h.ng).symm Lq Lr h.ng
 have km:jW [ow,pl,ll,cb,sl,lc] H H':=λx o n e=>kp _ _ (λz=>n (by simp[z])) (λz=>n (by simp[z])) (λz=>n (by simp[z])) e
 have tk:=cl.nZ kp
 have nm:∀{x:ai} {o:HO},H x=some o->x∉ [ow,pl,ll,cb,sl,lc]->x∉ [ow,pl,ll,cb,sl,kR]:=λ{x o} e m=>by
  rcases f with z|z
  .rw[z];exact m
  .have:x≠kR:=λy=>by rw[y,z] at e;cases e
   simp only[aD,aG,cx,rJ] at m⊢
   exact⟨m.1,m.2.1,m.2.2.1,m.2.2.2.1,m.2.2.2.2.1,this⟩
 have up:∀{w:V} {T:Cs},FF [ow,pl,ll,cb,sl,lc] H w T->FF [ow,pl,ll,cb,sl,kR] H' w T:=λ{w T} q=>by
  obtain⟨t,a,b,tu,us,h1,m1,m2,m3,h2,h3,h4,h5,h6⟩:=q
  exact⟨t,a,b,tu,us,h1,nm h2 m1,nm h3 m2,nm h5 m3,tk _ _ h2,km _ _ m2 h3,au h4 λ_ _ z=>z.up tk,km _ _ m3 h5,au h6 λ_ _ z=>z.up tk⟩
 obtain⟨tu,us,m2,m3,h3,h4,h5,h6⟩:=h.now
 exact⟨e1,⟨tu,us,nm h3 m2,nm h5 m3,km _ _ m2 h3,au h4 λ_ _ z=>z.up tk,km _ _ m3 h5,au h6 λ_ _ z=>z.up tk⟩,e2,au h.pp λ_ _ z=>up z,e3,au h.OF λ_ _ z=>up z⟩
def XB (S:Cs):PyData:=.tuple [.list (S.br.map rD),.list (S.rows.map Lm),.int S.n]
def KH (v:V) (S:Cs) (h:FF mu H v S):qI H (XB S) v:=by
 obtain⟨t,a,b,ws,us,rfl,_,_,_,h2,h3,h4,h5,h6⟩:=h
 exact gC h2 (aW (eJ h3 (eG pZ h4)) (aW (eJ h5 (eG rg h6)) (aW (ez _) dU)))
def Wg (h:uY S) (hn:S.n<=100000):Bd 600304 18 (XB S):=by
 refine(Bd.tuple (n:=200101) (p:=17) (m:=3) (ds:=[.list (S.br.map rD),.list (S.rows.map Lm),.int S.n]) (λx hx=>?_) (av 3)).mono δ δ
 simp only[aD,aG,cx] at hx
 rcases hx with rfl|rfl|rfl
 .exact(FC h.br (aA h.lc δ)).mono δ δ
 .exact FD h.rows h.num (aA h.lr δ)
 .exact(i_ ω).mono δ δ
def FG {sts:List Cs}(h:∀S∈sts,uY S/\S.n<=100000):Lay (.list (sts.map XB)):=by
 refine(Bd.list (n:=600304) (p:=18) (m:=sts.length) (λx hx=>?_) (by rw[aq];exact av _)).lay δ
 obtain⟨S,hS,rfl⟩:=cT.mp hx
 exact Wg (h S hS).1 (h S hS).2
def FH (sts:List Cs):PyData.eqv (.list (sts.map XB)) (.list [])=sts.isEmpty:=by
 rw[PyData.eqv]
 cases sts with
 |nil=>rfl
 |cons a l=>rw[bQ,PyData.eqvAll];rfl
def RJ (S:Cs):Prop:=uY S/\S.n<=100000
def nh:List Str:=["ann","bo","cy","di","ed","fay","gus","al","ali"]
def qv:∀x∈nh,okN x:=by unfold okN;decide+kernel
abbrev XC (l:List o_):Prop:=l.Pairwise λe e'=>oC e' e=false
structure St (S:Cs) (m:Nat):Prop where
 nd:(fO S.br).Nodup
 OG:∀x∈fO S.br,x∈nh
 rw:∀r∈S.br,B3 r.2.1/\1<=r.2.2/\r.2.2<=1000000
 Wh:XC S.br
 lc:S.br.length<=8
 rows:∀x∈S.rows,iL x.2/\gz x.2
 num:∀x∈S.rows,x.1<S.n
 SY:(S.rows.map (·.1)).Nodup
 lr:S.rows.length<=m
 n:S.n<=m
def St.ok (h:St S m) (hm:m<=31):uY S:=
 ⟨λr hr=>⟨qv _ (h.OG _ (cX hr)),(h.rw r hr).1,by have:=h.rw r hr;omega⟩,h.rows,λx hx=>by have:=h.num x hx;have:=h.n;omega,h.lc,aA h.lr hm⟩
def St.sok (h:St S m) (hm:m<=31):RJ S:=⟨h.ok hm,by have:=h.n;omega⟩
def St.mono (h:St S m) (hm:m<=m'):St S m':=⟨h.nd,h.OG,h.rw,h.Wh,h.lc,h.rows,h.num,h.SY,aA h.lr hm,aA h.n hm⟩
def St.nil:St ⟨[],[],0⟩ 0:=⟨by simp[fO],by simp[fO],ς,List.Pairwise.nil,ς,ς,ς,ς,ς,av _⟩
def xu {l:List o_}(nd:(fO l).Nodup) {a b:o_}(ha:a∈l) (hb:b∈l) (e:a.1=b.1):a=b:=by
 induction l with
 |nil=>cases ha
 |cons c l ih=>
  rw[show fO (c::l)=c.1::fO l from rfl,ji] at nd
  rcases aD.mp ha with rfl|ha'
  .rcases aD.mp hb with rfl|hb
   .rfl
   .exact absurd (cX (f:=(·.1)) hb) (by rw[<-e];exact nd.1)
  .rcases aD.mp hb with rfl|hb
   .exact absurd (e▸cX (f:=(·.1)) ha') nd.1
   .exact ih nd.2 ha' hb
def mF {α:Type} [DecidableEq α] (l:List α) (x:α):List α:=l.filter λy=>!decide (y=x)
def Hz (nd:(fO l).Nodup) (h:r∈l):mF l r=oJ l r.1:=by
 unfold mF oJ
 refine Cg λy hy=>?_
 congr 1
 exact decide_eq_decide.mpr ⟨λz=>by rw[z],λz=>xu nd hy h z⟩
def St.qd (h:St S m) (h1:r.1∈nh) (h2:r.1∉fO S.br) (h3:B3 r.2.1/\1<=r.2.2/\r.2.2<=1000000) (h4:S.br.length<=7):St ⟨nP (S.br++ [r]),S.rows,S.n⟩ m:=by
 have p:=xn (S.br++ [r])
 have pn:(fO (nP (S.br++ [r]))).Perm (fO S.br++ [r.1]):=by
  have:=p.map (·.1)
  rwa[bL] at this
 have mem:∀q,q∈nP (S.br++ [r])->q∈S.br\/q=r:=λq hq=>by
  rcases bK.mp (p.mem_iff.mp hq) with z|z
  .exact .inl z
  .exact .inr (bA.mp z)
 refine⟨pn.nodup_iff.mpr ?_,λx hx=>?_,λq hq=>?_,sH _,?_,h.rows,h.num,h.SY,h.lr,h.n⟩
 .rw[rq]
  exact⟨h.nd,ς,λa ha b hb=>by rw[bA.mp hb];rintro rfl;exact h2 ha⟩
 .rcases bK.mp (pn.mem_iff.mp hx) with z|z
  .exact h.OG x z
  .rw[bA.mp z];exact h1
 .rcases mem q hq with z|z
  .exact h.rw q z
  .rw[z];exact h3
 .have:=p.length_eq
  rw[aQ,aN] at this
  show(nP (S.br++ [r])).length<=8
  omega
def St.go (h:St S m) (x:Str):St ⟨oJ S.br x,S.rows,S.n⟩ m:=by
 have sub:∀q,q∈oJ S.br x->q∈S.br:=λq hq=>(dN.mp hq).1
 refine⟨?_,λy hy=>?_,λq hq=>h.rw q (sub q hq),h.Wh.sublist zo,aA (eM _ _) h.lc,h.rows,h.num,h.SY,h.lr,h.n⟩
 .exact(List.Sublist.map _ zo).nodup h.nd
 .obtain⟨q,hq,rfl⟩:=cT.mp hy
  exact h.OG _ (cX (sub q hq))
def xv (br:List o_) (x:Str) (i:Int):fO (br.map (ze x i))=fO br:=by
 unfold fO
 rw[pf]
 refine kF λr _=>?_
 show(ze x i r).1=r.1
 unfold ze
 split<;>rfl
def RK {l:List o_}(nd:(fO l).Nodup) (s:XC l):Up (fO l):=by
 unfold fO at*
 rw[Up,mi]
 have Xm:=mi.mp nd
 refine(s.and Xm).imp λ{a b} ⟨h1,h2⟩=>?_
 unfold oC x9 at h1
 rw[aP (λz=>h2 z.symm)] at h1
 rcases Qf.Qd a.1 b.1 h2 with z|z
 .exact z
 .rw[z] at h1;cases h1
def RL (h:Up (fO l)):XC l:=by
 unfold fO at h
 have h':=mi.mp h
 refine h'.imp λ{a b} z=>?_
 unfold oC x9
 rw[aP (λy=>JS z y.symm)]
 exact pR z
def St.Wi (h:St S m) (x:Str) (i:Int):XC (S.br.map (ze x i)):=RL (by rw[xv];exact RK h.nd h.Wh)
def St.weigh (h:St S m) (x:Str) (h1:1<=i) (h2:i<=1000000):St ⟨S.br.map (ze x i),S.rows,S.n⟩ m:=by
 refine⟨by rw[xv];exact h.nd,by rw[xv];exact h.OG,λq hq=>?_,h.Wi x i,by rw[aq];exact h.lc,h.rows,h.num,h.SY,h.lr,h.n⟩
 obtain⟨r,hr,rfl⟩:=cT.mp hq
 have:=h.rw r hr
 unfold ze
 split
 .exact⟨this.1,h1,h2⟩
 .exact this
def FJ:∀{l:List o_}{r:o_}{i:Int},(fO l).Nodup->r∈l->(l.map (ze r.1 i)).Perm (mF l r++ [(r.1,r.2.1,i)])
 |c::l,r,i,nd,h=>by
  rw[show fO (c::l)=c.1::fO l from rfl,ji] at nd
  have qy:r.1∉fO l->l.map (ze r.1 i)=l:=λn=>by
   conv=>rhs;rw[<-List.map_id l]
   refine kF λy hy=>?_
   unfold ze
   rw[aP (λz=>n (by rw[<-z];exact cX (f:=(·.1)) hy))];rfl
  rcases aD.mp h with rfl|hr
  .rw[bQ,qy nd.1]
   have e1:ze r.1 i r=(r.1,r.2.1,i):=by unfold ze;rw[aT rfl]
   have e2:mF (r::l) r=l:=by
    unfold mF
    rw[F7,aP ς]
    exact List.filter_eq_self.mpr λy hy=>by
     simp only[mf,Sr]
     rintro rfl
     exact nd.1 (cX (f:=(·.1)) hy)
   rw[e1,e2]
   exact(LA _ _).symm
  .have ne:c≠r:=λz=>by rw[z] at nd;exact nd.1 (cX (f:=(·.1)) hr)
   have nn:c.1≠r.1:=λz=>nd.1 (by rw[z];exact cX (f:=(·.1)) hr)
   have e1:ze r.1 i c=c:=by unfold ze;rw[aP nn]
   have e2:mF (c::l) r=c::mF l r:=by
    unfold mF
    rw[F7,aT (by simp[ne])]
   rw[bQ,e1,e2,F9]
   exact(FJ nd.2 hr).cons c
def St.Wj (h:St S m) (hr:r∈S.br) (i:Int):nP (oJ S.br r.1++ [(r.1,r.2.1,i)])=S.br.map (ze r.1 i):=by
 rw[<-Hz h.nd hr]
 exact(xo (FJ h.nd hr) (h.Wi r.1 i)).symm
def St.tell (h:St S m) (o:iL p) (c:gz p):St ⟨S.br,S.rows++ [(S.n,p)],S.n+1⟩ (m+1):=by
 have:=h.n
 refine⟨h.nd,h.OG,h.rw,h.Wh,h.lc,λx hx=>?_,λx hx=>?_,?_,by have:=h.lr;rw[aQ,aN];omega,by show S.n+1<=m+1;omega⟩
 .rcases bK.mp hx with z|z
  .exact h.rows x z
  .rw[bA.mp z];exact⟨o,c⟩
 .rcases bK.mp hx with z|z
  .have:=h.num x z;show x.1<S.n+1;omega
  .rw[bA.mp z];show S.n<S.n+1;omega
 .show((S.rows++ [(S.n,p)]).map (·.1)).Nodup
  rw[bL,rq]
  refine⟨h.SY,ς,λa ha b hb=>?_⟩
  obtain⟨x,hx,rfl⟩:=cT.mp ha
  have:=h.num x hx
  simp only[bQ,pd,bA] at hb
  omega
def St.ku (h:St S m) (k:Int):St ⟨S.br,uX S.rows k,S.n⟩ m:=by
 have sub:∀q,q∈uX S.rows k->q∈S.rows:=λq hq=>(dN.mp hq).1
 exact⟨h.nd,h.OG,h.rw,h.Wh,h.lc,λx hx=>h.rows x (sub x hx),λx hx=>h.num x (sub x hx),(List.Sublist.map _ zo).nodup h.SY,aA (eM _ _) h.lr,h.n⟩
def RM (hx:okN x) (hy:B3 y) (hi:i.natAbs<2^200):rZ (rD (x,y,i)):=(Oy (r:=(x,y,i)) ⟨hx,hy,hi⟩).mono δ δ
def Ag (h:i.natAbs<2^200):rZ (.int i):=(i_ h).mono δ δ
def qe:List Str:=["port","starboard","both"]
def xw:∀x∈qe,B3 x/\hU (.str x)=true:=by unfold B3;decide+kernel
def RN (hx:x∈nh) (hy:y∈qe) (h1:1<=i) (h2:i<=1000000):rZ (rD (x,y,i))/\ff (rD (x,y,i))=true:=by
 have ox:=qv x hx
 have oy:=xw y hy
 refine⟨RM ox oy.1 ω,?_⟩
 show(fJ (.str x)&&(hU (.str y)&&eZ (.int i)))=true
 rw[ox.2.2,oy.2,show eZ (.int i)=true by
  show(decide (1<=i)&&decide (i<=1000000))=true
  rw[aI h1,aI h2];rfl];rfl
def OH (h1:1<=i) (h2:i<=1000000):rZ (.int i)/\eZ (.int i)=true:=by
 refine⟨Ag ω,?_⟩
 show(decide (1<=i)&&decide (i<=1000000))=true
 rw[aI h1,aI h2];rfl
end K13
namespace L2
open PySem PySem.Spec PyProof.Rows HT PySem.W
section
variable {X:Cx}{pos:Pos}
def Wk (i j k:Nat) (ta:TA):TS:=λD Z H=>ta Z H λvs H1=>∃v w u,vs=[v,w,u]/\D.nx (((Z.set i (some v)).set j (some w)).set k (some u)) H1
def Ny {kt k2 Pp}(hc:X.calm=true) (hN:X.N.Nodup) (hi:X.N[i]?=some x) (hj:X.N[j]?=some y) (hk:X.N[k]?=some z) (pE:i≠j) (hik:i≠k) (hjk:j≠k)
  (hx:X.env.scope.names.lookup x=some .local) (hy:X.env.scope.names.lookup y=some .local) (hz:X.env.scope.names.lookup z=some .local) (ha:PA X [a,b,c] ta)
  (hw:swappedStores [.Tuple [.Name x px,.Name y py,.Name z pz] kt pt] (.Tuple [a,b,c] k2 Pp) X.env=pure (some [x,y,z]))
  (hs:swapsWithSole [.Tuple [.Name x px,.Name y py,.Name z pz] kt pt] (.Tuple [a,b,c] k2 Pp) pos.line X.env=pure false:=by rfl):
  PS X (.Assign [.Tuple [.Name x px,.Name y py,.Name z pz] kt pt] (.Tuple [a,b,c] k2 Pp) pos) (Wk i j k ta):=by
 intro ac s Z H D I h
 rw[exec_Assign_arm]
 refine aa (jX ?_)
 rw[hs]
 refine aa (aj ?_)
 rw[aP δ]
 refine aa (Tuple_ (fE (ha _ ac s Z H _ I h) λus s1 c_=>?_))
 obtain⟨vs,H1,I1,r1,q1⟩:=c_
 obtain⟨v,w,u,e1,q1⟩:=q1
 subst e1
 obtain⟨u1,u2,u3,rfl,rv,Gf,ru⟩:∃u1 u2 u3,us=[u1,u2,u3]/\RelV v u1/\RelV w u2/\RelV u u3:=by
  cases r1 with
  |cons p q=>
   cases q with
   |cons p' q'=>
    cases q' with
    |cons p'' q''=>
     cases q''
     exact⟨_,_,_,rfl,p,p',p''⟩
 refine bJ ?_ (dZ)
 have I2:Inv X ac Z H1 {s1 with heap:=s1.heap.push {cls:=.type "tuple",data:=.seq [u1,u2,u3].toArray}}:=I1.kept (t':=s1.toks) λb o e=>af _ e
 rw[hw]
 refine aa (aj ?_)
 show wpAny (model X.prog X.w) X.A (do rule "assign.swapped-stores";let items<-unpackItems (.ref s1.heap.objs.size) 3 none;assignInOrder [λv=>bindName X.env z v,λv=>bindName X.env y v,λv=>bindName X.env x v] items.reverse;pure Flow.next) _ _ _
 refine aa (kS (aa (unpackItems_tuple (items:=#[u1,u2,u3]) (I.ok.hd hc) (IsTup.new s1.heap _) λh' Tz=>?_)))
 have I3:=I2.kept (h':=h') (t':=s1.toks) λb o e=>Tz b o (bj (aC e)) e
 show wpAny _ _ (assignInOrder [λv=>bindName X.env z v,λv=>bindName X.env y v,λv=>bindName X.env x v] [u3,u2,u1]>>=λ_=>pure Flow.next) _ _ _
 refine aa (kQ (nX (lU I3 hN hk (.inl hz) ru (λs2 I4=>?_) (.inr hz))))
 refine kQ (nX (lU I4 hN hj (.inl hy) Gf (λs3 I5=>?_) (.inr hy)))
 refine kQ (nX (lU I5 hN hi (.inl hx) rv (λs4 I6=>assignInOrder_nil (aj ?_)) (.inr hx)))
 refine⟨_,H1,?_,q1⟩
 have e:(((Z.set i (some v)).set j (some w)).set k (some u))=(((Z.set k (some u)).set j (some w)).set i (some v)):=by
  rw[As _ _ pE,As _ _ hik,As _ _ hjk]
 rw[e]
 exact I6
end
end L2
namespace K13
open PySem L2 HT PySem.W
inductive sR
 |qd (d:PyData)
 |go (x:Str)
 |weigh (x:Str) (d:PyData)
 |tell (d:PyData)
 |ku (i:Int)
 |back
 |again
def RwG (r:o_):Prop:=r.1∈nh/\r.2.1∈qe/\1<=r.2.2/\r.2.2<=1000000
def Wl (H:Hp) (d:PyData) (v:V):Prop:=ff d=false\/∃a r,v=.ref a/\d=rD r/\ff d=true/\H a=some (.tup [.str r.1,.str r.2.1,.int r.2.2])/\RwG r
def WgV (d:PyData) (v:V):Prop:=eZ d=false\/∃i:Int,d=.int i/\v=.int i/\1<=i/\i<=1000000
def Wm (H:Hp) (d:PyData) (v:V):Prop:=gP d=false\/∃r p,v=.ref r/\d=ye p/\kq H r p/\iL p/\gz p
def k_ (H:Hp) (t:ai):sR->Prop
 | .qd d=>∃v,H t=some (.tup [.str "come",v])/\qI H d v/\rZ d/\Wl H d v
 | .go x=>H t=some (.tup [.str "go",.str x])/\B3 x
 | .weigh x d=>∃v,H t=some (.tup [.str "weigh",.str x,v])/\B3 x/\qI H d v/\Bd 1 0 d/\WgV d v
 | .tell d=>∃v,H t=some (.tup [.str "tell",v])/\qI H d v/\rZ d/\Wm H d v
 | .ku i=>H t=some (.tup [.str "strike",.int i])/\i.natAbs<2^200
 | .back=>H t=some (.tup [.str "back"])
 | .again=>H t=some (.tup [.str "again"])
def qI.same (h:qI H d v) (s:bg H H'):qI H' d v:=by
 obtain⟨k0,f⟩:=h
 exact⟨k0,λk hk=>(f k hk).keep s.keep⟩
def k_.same (h:k_ H t D) (s:bg H H'):k_ H' t D:=by
 cases D with
 |qd d=>
  obtain⟨v,h1,h2,h3,h4⟩:=h
  refine⟨v,s _ _ h1,h2.same s,h3,h4.imp id ?_⟩
  rintro⟨a,r,e1,e2,e3,e4,e5⟩
  exact⟨a,r,e1,e2,e3,s _ _ e4,e5⟩
 |go x=>exact⟨s _ _ h.1,h.2⟩
 |weigh x d=>
  obtain⟨v,h1,h0,h2,h3,h4⟩:=h
  exact⟨v,s _ _ h1,h0,h2.same s,h3,h4⟩
 |tell d=>
  obtain⟨v,h1,h2,h3,h4⟩:=h
  refine⟨v,s _ _ h1,h2.same s,h3,h4.imp id ?_⟩
  rintro⟨a,r,e1,e2,e3,e5⟩
  exact⟨a,r,e1,e2,e3.same s,e5⟩
 |ku i=>exact⟨s _ _ h.1,h.2⟩
 |back=>exact s _ _ h
 |again=>exact s _ _ h
inductive Out
 |no (s:Str)
 |st (S:Cs) (r:Option Nat)
inductive yh (S:Cs):sR->Out->Prop
 |c1 {d:PyData}:ff d=false->yh S (.qd d) (.no "NoRower+")
 |c2 {r:o_}:ff (rD r)=true->r.1∈fO S.br->yh S (.qd (rD r)) (.no "Twice+")
 |c3 {r:o_}:ff (rD r)=true->r.1∉fO S.br->S.br.length=8->yh S (.qd (rD r)) (.no "TooMany+9")
 |c4 {r:o_}:ff (rD r)=true->r.1∉fO S.br->S.br.length<=7->RwG r->yh S (.qd (rD r)) (.st ⟨nP (S.br++ [r]),S.rows,S.n⟩ none)
 |g1 {x:Str}:x∉fO S.br->yh S (.go x) (.no "NoName+")
 |g2 {x:Str}:x∈fO S.br->yh S (.go x) (.st ⟨oJ S.br x,S.rows,S.n⟩ none)
 |w1 {x:Str} {d:PyData}:x∉fO S.br->yh S (.weigh x d) (.no "NoName+")
 |w2 {x:Str} {d:PyData}:x∈fO S.br->eZ d=false->yh S (.weigh x d) (.no "NoRower+")
 |w3 {x:Str} {i:Int}:x∈fO S.br->1<=i->i<=1000000->yh S (.weigh x (.int i)) (.st ⟨S.br.map (ze x i),S.rows,S.n⟩ none)
 |t1 {d:PyData}:gP d=false->yh S (.tell d) (.no "NoPiece+")
 |t2 {p:qW}:iL p->gz p->yh S (.tell (ye p)) (.st ⟨S.br,S.rows++ [(S.n,p)],S.n+1⟩ (some S.n))
 |s1 {i:Int}:zX S.rows i=false->yh S (.ku i) (.no "NoNumber+")
 |s2 {i:Int}:zX S.rows i=true->yh S (.ku i) (.st ⟨S.br,uX S.rows i,S.n⟩ none)
inductive Ew:sR->List Cs->Cs->List Cs->Str⊕Option Nat->List Cs->Cs->List Cs->Prop
 |no {D:sR} {sts:List Cs} {S:Cs} {cO:List Cs} {s:Str}:yh S D (.no s)->Ew D sts S cO (.inl s) sts S cO
 |st {D:sR} {sts:List Cs} {S S':Cs} {cO:List Cs} {r:Option Nat}:yh S D (.st S' r)->Ew D sts S cO (.inr r) (sts++ [S]) S' []
 |b0 {S:Cs} {cO:List Cs}:Ew .back [] S cO (.inl "NothingLeft+") [] S cO
 |b {sts:List Cs} {T S:Cs} {cO:List Cs}:Ew .back (sts++ [T]) S cO (.inr none) sts T (cO++ [S])
 |a0 {sts:List Cs} {S:Cs}:Ew .again sts S [] (.inl "NothingLeft+") sts S []
 |a {sts:List Cs} {S T:Cs} {cO:List Cs}:Ew .again sts S (cO++ [T]) (.inr none) (sts++ [S]) T cO
def Ah {α:Type}(l:List α):l=[]\/∃l' x,l=l'++ [x]:=by
 rcases List.eq_nil_or_concat l with h|⟨l',x,h⟩
 .exact .inl h
 .exact .inr ⟨l',x,by rw[h,List.concat_eq_append]⟩
def FK (h:k_ H t D) (l8:S.br.length<=8):∃o gk S' fW,Ew D sts S cO o gk S' fW:=by
 have of:∀{o},yh S D o->∃o gk S' fW,Ew D sts S cO o gk S' fW:=λ{o} l=>by
  cases o with
  |no s=>exact⟨_,_,_,_,.no l⟩
  |st S' r=>exact⟨_,_,_,_,.st l⟩
 cases D with
 |qd d=>
  obtain⟨v,_,_,_,c|⟨a,r,_,rfl,c,_,g⟩⟩:=h
  .exact of (.c1 c)
  by_cases m:r.1∈fO S.br
  .exact of (.c2 c m)
  by_cases e:S.br.length=8
  .exact of (.c3 c m e)
  .exact of (.c4 c m ω g)
 |go x=>
  by_cases m:x∈fO S.br
  .exact of (.g2 m)
  .exact of (.g1 m)
 |weigh x d=>
  obtain⟨v,_,_,_,_,c⟩:=h
  by_cases m:x∈fO S.br
  .rcases c with c|⟨i,rfl,_,i1,i2⟩
   .exact of (.w2 m c)
   .exact of (.w3 m i1 i2)
  .exact of (.w1 m)
 |tell d=>
  obtain⟨v,_,_,_,c|⟨r,p,_,rfl,_,o,c⟩⟩:=h
  .exact of (.t1 c)
  .exact of (.t2 o c)
 |ku i=>
  cases e:zX S.rows i with
  |false=>exact of (.s1 e)
  |true=>exact of (.s2 e)
 |back=>
  rcases Ah sts with rfl|⟨s',T,rfl⟩
  .exact⟨_,_,_,_,.b0⟩
  .exact⟨_,_,_,_,.b⟩
 |again=>
  rcases Ah cO with rfl|⟨s',T,rfl⟩
  .exact⟨_,_,_,_,.a0⟩
  .exact⟨_,_,_,_,.a⟩
def yh.ok (h:yh S D (.st S' r)) (s:St S m):St S' (m+1):=by
 cases h with
 |c4 c n l g=>exact(s.qd g.1 n ⟨(xw _ g.2.1).1,g.2.2⟩ l).mono ω
 |g2 h=>exact(s.go _).mono ω
 |w3 h h1 h2=>exact(s.weigh _ h1 h2).mono ω
 |t2 o c=>exact s.tell o c
 |s2 h=>exact(s.ku _).mono ω
def qf (h:cQ K H a xs) (i:Nat) (hi:i<=xs.length):(i=xs.length->(EN K a).stop i H)/\(i<xs.length->(EN K a).go i H/\∀y H',(EN K a).BS i H y H'->H'=H/\y=xs.getD i .eU):=by
 refine⟨λe=>⟨xs,h,ω⟩,λe=>⟨⟨xs,xs[i],h,by simp[e]⟩,λy H' q=>?_⟩⟩
 obtain⟨q1,q2⟩:=q
 have:=q2 xs h
 exact⟨q1,by simp[List.getD,this]⟩
def Wn:R2:=λx y H Q=>∃k k' dx dy,Tells H k dx x/\Tells H k' dy y/\Lay dx/\Lay dy/\Q (.bl (!PyData.eqv dx dy)) H
def FN (hu:X.A.units+64<cLine):lP X (compareOp .NotEq) Wn:=mV hu
def tcW (K:Φ):TT:=gI (gH Wn (gH (gg K) (cj 0) (tC (.int 0))) (gH (gg K) (cj 1) (tC (.int 1))))
section
variable {P:aJ}{w:bB}{K:Φ}{mg:Str->Option ag}{base:Heap}
def KI {α:Type}{R:Hp->V->α->Prop}{D0:α->PyData}(up:∀{H H':Hp}{v:V}{x:α},R H v x->Tk H H'->R H' v x) (fst:∀{H:Hp}{v:V}{x:α},R H v x->∃b ys v0,v=.ref b/\H b=some (.tup ys)/\qA ys 0=some v0/\∀H' k,Tells H' k (D0 x) v0)
  {H1:Hp} {L a t:ai} {us ts:List V} {xs:List α} {v1:V} {d:PyData} {Q:VK} (v:Option V) (hL:H1 L=none) (h:H1 a=some (.lst us)) (pr:Paired (R H1) us xs) (ht:H1 t=some (.tup ts)) (h1:qA ts 1=some v1) (fr:qI H1 d v1) (hl:xs.length<=1000) (lay:∀x∈xs,Lay (D0 x)) (lay0:Lay d)
  (q:∀ys J,bg H1 J->J L=some (.lst ys)->Paired (R J) ys (xs.filter λx=>!PyData.eqv (D0 x) d)->Q (.ref L) J):
  pK (EN K a) (de 0) (tcW K) (cj 0) [v,some (.ref t)] H1 Q L:=by
 have lu:=bT pr
 refine mB (n:=us.length) (f:=λi=>us.getD i .eU) (λj ys bX J=>(∃v,bX=[v,some (.ref t)])/\bg H1 J/\Paired (R J) ys ((xs.take j).filter λx=>!PyData.eqv (D0 x) d)) hL ω ⟨⟨_,rfl⟩,bP (bg.refl _) hL,.nil⟩ (λj ys bX J hj hy ⟨_,sj,_⟩=>qf (K:=K) (cQ.of (sj _ _ h)) j hj) ?_ ?_
 .rintro j ys bX J hj hy ⟨⟨v,rfl⟩,sj,pj⟩
  have rC:j<xs.length:=ω
  obtain⟨u,eu,e1⟩:=eR pr j rC
  rw[getD_some eu]
  have e2:=up e1 (fe sj)
  obtain⟨b,zs,v0,rfl,hb,b0,tb⟩:=fst e2
  obtain⟨k2,t2⟩:=(fr.same sj).one
  refine iO rfl (bZ.of hb) b0 (iO rfl (bZ.of (sj _ _ ht)) h1 ⟨0,k2,_,_,tb _ _,t2,lay _ (cF rC),lay0,_,rfl,?_⟩)
  rw[gj rC,vw]
  by_cases e:PyData.eqv (D0 xs[j]) d=true
  .refine ite_no (by simp[e]) ?_
   refine⟨hy,⟨_,rfl⟩,sj,?_⟩
   rw[aP (by simp[e])]
   exact pj
  .refine ite_yes (by simp[e]) ?_
   have By:Tk J (upd J L (.lst (ys++ [.ref b]))):=λc xs e=>by rw[bb (λz=>by rw[z,hy] at e;cases e)];exact e
   refine⟨_,rfl,hy,⟨_,rfl⟩,bP sj hL,?_⟩
   rw[aT (by simp[e])]
   exact d_ (au pj λ_ _ z=>up z By) (up e2 By)
 .rintro ys bX J hy ⟨_,sj,pj⟩
  rw[lu,dB] at pj
  exact q ys J sj hy pj
def KJ {H1:Hp}{L a:ai}{us:List V}{br:List o_}{Q:VK}(v:Option V) (hL:H1 L=none) (h:H1 a=some (.lst us)) (pr:Paired (gm H1) us br) (hl:br.length<=1000) (q:∀J,bg H1 J->J L=some (.lst ((fO br).map V.str))->Q (.ref L) J):
  pK (EN K a) (de 0) pH (gH (gg K) (cj 0) (tC (.int 0))) [v] H1 Q L:=by
 have lu:=bT pr
 refine kY (n:=us.length) (f:=λi=>us.getD i .eU) (λj ys bX J=>(∃v,bX=[v])/\bg H1 J/\ys=(fO (br.take j)).map V.str) hL ω ⟨⟨_,rfl⟩,bP (bg.refl _) hL,rfl⟩ (λj ys bX J hj hy ⟨_,sj,_⟩=>qf (K:=K) (cQ.of (sj _ _ h)) j hj) ?_ ?_
 .rintro j ys bX J hj hy ⟨⟨v,rfl⟩,sj,rfl⟩
  have rC:j<br.length:=ω
  obtain⟨u,eu,b,rfl,e1⟩:=eR pr j rC
  rw[getD_some eu]
  refine iO rfl (bZ.of (sj _ _ e1)) (aV (j:=0) rfl) ⟨hy,⟨_,rfl⟩,bP sj hL,?_⟩
  unfold fO
  rw[gj rC,bL,bL];rfl
 .rintro ys bX J hy ⟨_,sj,rfl⟩
  rw[lu,dB] at hy
  exact q J sj hy
def RO (h:gm H v x):∃b ys v0,v=.ref b/\H b=some (.tup ys)/\qA ys 0=some v0/\∀H' k,Tells H' k (.str x.1) v0:=by
 obtain⟨a,rfl,e⟩:=h
 exact⟨a,_,_,rfl,e,aV (j:=0) rfl,λ_ _=>fi.mpr rfl⟩
def RP (h:kr H v x):∃b ys v0,v=.ref b/\H b=some (.tup ys)/\qA ys 0=some v0/\∀H' k,Tells H' k (.int x.1) v0:=by
 obtain⟨a,r,rfl,e,_⟩:=h
 exact⟨a,_,_,rfl,e,aV (j:=0) rfl,λ_ _=>jx.mpr rfl⟩
def xx (br:List o_) (x:Str):(br.filter λr=>!PyData.eqv (.str r.1) (.str x))=oJ br x:=by
 unfold oJ
 refine Cg λr _=>?_
 rw[PyData.eqv]
 by_cases e:r.1=x
 .simp[e]
 .simp[e]
def KL (rows:Rows) (i:Int):(rows.filter λr=>!PyData.eqv (.int r.1) (.int i))=uX rows i:=by
 unfold uX
 refine Cg λr _=>?_
 rw[PyData.eqv]
 by_cases e:(r.1:Int)=i
 .simp[e]
 .simp[e]
def xy (br:List o_) (x:Str):(oJ br x).length=br.length↔x∉fO br:=by
 unfold oJ fO
 rw[Ci]
 constructor
 .intro h m
  obtain⟨r,hr,rfl⟩:=cT.mp m
  have:=h r hr
  simp at this
 .intro h r hr
  simp only[mf,Sr]
  rintro rfl
  exact h (cX hr)
def KN (rows:Rows) (i:Int):(uX rows i).length=rows.length↔zX rows i=false:=by
 unfold uX zX
 rw[Ci,B8]
 constructor
 .intro h r hr
  have:=h r hr
  simpa using this
 .intro h r hr
  have:=h r hr
  simpa using this
end
end K13
namespace L2
open PySem
section
variable {K:Φ}{i:Nat}{t:ai}{s s':Str}{ts:List V}{A B:TS}{D:Ends}{Z:St}{H:Hp}
def hV (hv:Z[i]?=some (some (.ref t))) (ht:H t=some (.tup ts)) (k:qA ts 0=some (.str s)) (h:A D Z H):xV (gI (gH HQ (gH (gg K) (cj i) (tC (.int 0))) (tC (.str s)))) A B D Z H:=by
 refine⟨_,hv,t,_,0,_,rfl,rfl,bZ.of ht,k,rfl,_,rfl,?_⟩
 show if decide (V.str s=V.str s)=true then A D Z H else B D Z H
 rw[aT (aI rfl)]
 exact h
def jR (hv:Z[i]?=some (some (.ref t))) (ht:H t=some (.tup ts)) (k:qA ts 0=some (.str s')) (n:decide (s'=s)=false) (h:B D Z H):xV (gI (gH HQ (gH (gg K) (cj i) (tC (.int 0))) (tC (.str s)))) A B D Z H:=by
 refine⟨_,hv,t,_,0,_,rfl,rfl,bZ.of ht,k,rfl,_,rfl,?_⟩
 show if decide (V.str s'=V.str s)=true then A D Z H else B D Z H
 rw[aP (λz=>jd n (V.str.inj (aX z)))]
 exact h
end
def Wo {A B:Prop}(a:A) (h:c=true:=by exact rfl):if c=true then A else B:=by rw[h,aT rfl];exact a
def Wp {A B:Prop}(b:B) (h:c=false:=by exact rfl):if c=true then A else B:=by rw[h,aP bM];exact b
end L2
namespace K13
open PySem L2 HT PySem.W
def BK:sR->Str
 | .qd _=>"come"
 | .go _=>"go"
 | .weigh _ _=>"weigh"
 | .tell _=>"tell"
 | .ku _=>"strike"
 | .back=>"back"
 | .again=>"again"
def dat:sR->PyData
 | .qd d=>d
 | .go x=>.str x
 | .weigh x _=>.str x
 | .tell d=>d
 | .ku i=>.int i
 | .back=>.none
 | .again=>.none
def Ai (h:B3 x):rZ (.str x):=(mX h.1 h.2).mono δ δ
def k_.one (h:k_ H t D) (l:yh S D o):∃ts v1,H t=some (.tup ts)/\qA ts 0=some (.str (BK D))/\qA ts 1=some v1/\qI H (dat D) v1/\rZ (dat D):=by
 cases D with
 |qd d=>
  obtain⟨v,h1,h2,h3,_⟩:=h
  exact⟨_,v,h1,rfl,rfl,h2,h3⟩
 |go x=>exact⟨_,_,h.1,rfl,rfl,ix x,Ai h.2⟩
 |weigh x d=>
  obtain⟨v,h1,h0,_⟩:=h
  exact⟨_,_,h1,rfl,rfl,ix x,Ai h0⟩
 |tell d=>
  obtain⟨v,h1,h2,h3,_⟩:=h
  exact⟨_,v,h1,rfl,rfl,h2,h3⟩
 |ku i=>exact⟨_,_,h.1,rfl,rfl,ez i,Ag h.2⟩
 |back=>cases l
 |again=>cases l
def Nz (e:rD r=rD q):r=q:=by
 have h:=xq r q
 rw[e,xq q q,aI rfl] at h
 exact aX h.symm
def NA (e:ye r=ye q):r=q:=by
 have h:=Eo r q
 rw[e,Eo q q,aI rfl] at h
 exact aX h.symm
def Aj (h:k_ H t (.qd (rD r))) (c:ff (rD r)=true):∃a,H t=some (.tup [.str "come",.ref a])/\H a=some (.tup [.str r.1,.str r.2.1,.int r.2.2])/\(∃k,Tells H k (rD r) (.ref a))/\rZ (rD r):=by
 obtain⟨v,h1,h2,h3,h4|⟨a,q,rfl,e,_,h5,_⟩⟩:=h
 .rw[c] at h4;cases h4
 .rw[<-Nz e] at h5
  exact⟨a,h1,h5,h2.one,h3⟩
def FO (h:k_ H t (.tell (ye p))) (o:iL p) (c:gz p):∃r,H t=some (.tup [.str "tell",.ref r])/\kq H r p/\(∃k,Tells H k (ye p) (.ref r))/\rZ (ye p):=by
 obtain⟨v,h1,h2,h3,h4|⟨a,q,rfl,e,h5,_⟩⟩:=h
 .rw[xj o c] at h4;cases h4
 .rw[<-NA e] at h5
  exact⟨a,h1,h5,h2.one,h3⟩
def KO (h:qI H (.int i) v):v=.int i:=by
 obtain⟨k,t⟩:=h.one
 exact jx.mp t
def xA:Option Nat->V
 |none=>.eU
 |some n=>.int n
def aah (H H':Hp) (ra pa:ai) (v:V):Out->Prop
 | .no s=>v=.str s
 | .st S' r=>∃q rh rj ws us,v=.ref q/\H' q=some (.tup [.ref rh,.ref rj,.int S'.n,xA r])/\(rh=ra\/H rh=none)/\(rj=pa\/H rj=none)/\H' rh=some (.lst ws)/\Paired (gm H') ws S'.br/\H' rj=some (.lst us)/\Paired (kr H') us S'.rows
def St.aai (h:St S m):∀r∈S.br,Lay (.str r.1):=λr hr=>by
 have o:=qv _ (h.OG _ (cX hr))
 exact rZ.lay (Ai ⟨o.1,o.2.1⟩)
def BL:ff (.tuple [.str "a",.str "both",d])=eZ d:=by
 show(fJ (.str "a")&&(hU (.str "both")&&eZ d))=eZ d
 rw[show fJ (.str "a")=true by decide+kernel,show hU (.str "both")=true by decide+kernel];rfl
def KP (h:Bd 1 0 d):rZ (.tuple [.str "a",.str "both",d]):=by
 refine(Bd.tuple (n:=1) (p:=0) (m:=3) (ds:=[.str "a",.str "both",d]) (λx hx=>?_) (av 3)).mono δ δ
 simp only[aD,aG,cx] at hx
 rcases hx with rfl|rfl|rfl
 .exact mX (by decide+kernel) (by decide+kernel)
 .exact mX (by decide+kernel) (by decide+kernel)
 .exact h
section
variable {P:aJ}{w:bB}{K:Φ}{mg:Str->Option ag}{base:Heap}
abbrev Ex:Stmt:=top 51
abbrev RQ:List Str:=["own","what","rowers","pieces","count","rest","sides","left"]
def sU:bY RQ ["own","what"] (ar Ex):={}
def OJ:List (Str×NameKind):=[(".0",.local),("one",.local),("what",.free)]
def RR:List (Str×NameKind):=[(".0",.local),("row",.local),("what",.free)]
def OK:(["one","what"]:List Str).Nodup:=by decide+kernel
def RS:(["row","what"]:List Str).Nodup:=by decide+kernel
def aaj:(["one"]:List Str).Nodup:=by decide+kernel
def tcE (K:Φ):TT:=gI (gH HQ (gH (gg K) (cj 0) (tC (.int 0))) (gH (gg K) (cj 1) (tC (.int 1))))
def FP (v:Option V) (hL:H1 L=none) (h:H1 a=some (.lst us)) (pr:Paired (gm H1) us br) (ht:H1 t=some (.tup ts)) (h1:qA ts 1=some (.str x)) (hl:br.length<=1000)
  (q:∀J,bg H1 J->J L=some (.lst ((br.filter λr=>decide (r.1=x)).map λr=>V.str r.2.1))->Q (.ref L) J):
  pK (EN K a) (de 0) (tcE K) (gH (gg K) (cj 0) (tC (.int 1))) [v,some (.ref t)] H1 Q L:=by
 have lu:=bT pr
 refine mB (n:=us.length) (f:=λi=>us.getD i .eU) (λj ys bX J=>(∃v,bX=[v,some (.ref t)])/\bg H1 J/\ys=((br.take j).filter λr=>decide (r.1=x)).map λr=>V.str r.2.1) hL ω ⟨⟨_,rfl⟩,bP (bg.refl _) hL,rfl⟩ (λj ys bX J hj hy ⟨_,sj,_⟩=>qf (K:=K) (cQ.of (sj _ _ h)) j hj) ?_ ?_
 .rintro j ys bX J hj hy ⟨⟨v,rfl⟩,sj,rfl⟩
  have rC:j<br.length:=ω
  obtain⟨u,eu,b,rfl,e1⟩:=eR pr j rC
  rw[getD_some eu]
  refine iO rfl (bZ.of (sj _ _ e1)) (aV (j:=0) rfl) (iO rfl (bZ.of (sj _ _ ht)) h1 ⟨rfl,_,rfl,?_⟩)
  rw[lZ,gj rC,vw]
  by_cases e:br[j].1=x
  .refine ite_yes (by simp[e]) ?_
   refine iO rfl (bZ.of (sj _ _ e1)) (aV (j:=1) rfl) ⟨hy,⟨_,rfl⟩,bP sj hL,?_⟩
   rw[aT (by simp[e]),bL];rfl
  .refine ite_no (by simp[e]) ?_
   refine⟨hy,⟨_,rfl⟩,sj,?_⟩
   rw[aP (by simp[e])]
 .rintro ys bX J hy ⟨_,sj,rfl⟩
  rw[lu,dB] at hy
  exact q J sj hy
def FQ {H:Hp}{p:ai}{vs:List V}{br:List o_}(h:H p=some (.lst vs)) (pr:Paired (gm H) vs br) (l:br.length<=60):
  ∃L:List (mZ (Str×Str×Int)),cQ K H p (L.map λe=>V.ref e.a)/\L.length<64/\(∀e∈L,Vw H e)/\
  ∀(l:ai) (L':List (mZ (Str×Str×Int))),H l=none->L'.Perm L->(L'.Pairwise λe e'=>oC e'.key e.key=false)->bg H (upd H l (.lst (L'.map λe=>V.ref e.a)))/\∃us,upd H l (.lst (L'.map λe=>V.ref e.a)) l=some (.lst us)/\Paired (gm (upd H l (.lst (L'.map λe=>V.ref e.a)))) us (nP br):=by
 obtain⟨L0,eL,kL,hL⟩:=zY pr
 have lL:L0.length=br.length:=by rw[<-kL,aq]
 refine⟨L0,cQ.of (by rw[<-eL];exact h),ω,hL,λl L1 hl p1 QN=>?_⟩
 have z3:=aO hl (.lst (L1.map λe=>V.ref e.a))
 have pc:=au (zZ λe he=>hL e (p1.mem_iff.mp he)) λ_ _ z=>z.up λb xs e=>z3 _ _ e
 rw[xo (l:=br) (by rw[<-kL];exact p1.map _) (mi.mpr QN)] at pc
 exact⟨z3,_,aB,pc⟩
def FR:Sp:=λvs H Q _=>∃(ow t ra pa pl ll:ai) (ws us:List V) (D:sR) (S:Cs) (m:Nat) (o:Out),vs=[.ref ow,.ref t]/\H ow=some (.dK (je ra pa S.n pl ll))/\H ra=some (.lst ws)/\Paired (gm H) ws S.br/\H pa=some (.lst us)/\Paired (kr H) us S.rows/\k_ H t D/\St S m/\m<=31/\yh S D o/\∀v H',bg H H'->aah H H' ra pa v o->Q v H'
def KQ (F:jg K "_law_later" "_law_later" Ex f fd) (T:Txt mg) (DR:Df P w K mg base 1 "_law_is_rower" ["thing"] (x_ ff)) (DI:Df P w K mg base 3 "is_piece" ["thing"] (x_ gP)):dR P w K mg base fN 4 f fd ["own","what"] FR:=by
 exists F.ok,sU
 .obtain⟨ow,t,ra,pa,pl,ll,ws,us,D,S,m,o,rfl,_⟩:=h
  rfl
 .obtain⟨ow,t,ra,pa,pl,ll,ws,us,D,S,m,o,rfl,hd,FT,OO,xJ,RT,dA,sS,tz,lt,hQ⟩:=h
  have hu:=bf (eK (by decide:1<=64) _) hr.units
  have Bx:=hr.mono (j:=1) δ
  refine⟨_,aw (Ny (i:=2) (j:=3) (k:=4) rfl sU.nd rfl rfl rfl δ δ δ rfl rfl rfl (ae (fB hu (pv 0) bh) (ae (fB hu (pv 0) bh) (ae (fB hu (pv 0) bh) ah))) rfl)
   (aw (jN (i0:=5) (N:=["one","what"]) (g:=de 0) (tc:=tcW K) (te:=cj 0) sU.nd rfl (Or.inl rfl) rfl (jI (pv 2)) (fD.one (v:="one") (fr:="what") (j:=1) (nm:=OJ) rfl rfl rfl rfl)
    (λ_ _ _=>a_ (i:=0) OK) (λ_ _ _=>iw (bo (FN hr.units) (aU aZ (pv 0) ao) (aU aZ (pv 1) ao) (bG _))) (λ_ _ _=>pv 0))
   (aw (cS (bo gO (aU aZ (pv 1) ao) bh (bG _))
    (aw (cS (fS (fM (cE DR Bx (ae (aU aZ (pv 1) ao) ah)))) (aF (bN bh)) bO)
    (aw (cS (bo qk (aU aZ (aU aZ (pv 1) ao) ao) (kI (N:=["one"]) (g:=de 0) (tc:=pH) (te:=gH (gg K) (cj 0) (tC (.int 0))) rfl (jI (pv 2)) (fD.closed rfl) (λ_ _ _=>a_ (i:=0) aaj) (λ_ _ _=>iV) (λ_ _ _=>aU aZ (pv 0) ao)) rfl) (aF (bN bh)) bO)
    (aF (bN (pC (bo gO (aR bS rfl T.len bC (ae (pv 2) ah)) ao (bG _)) bh
     (bU (ae (aR pY rfl T.sorted fV (ae (bW mT (pv 2) (cW (ae (aU aZ (pv 1) ao) ah))) ah)) (ae (pv 3) (ae (pv 4) (ae jF ah))))))))))
    bO)
   (aw (cS (bo qk (aU aZ (pv 1) ao) (bU (ae bh (ae bh ah))) (by with_unfolding_all rfl))
    (aw (cS (bo gO (aR bS rfl T.len bC (ae (pv 5) ah)) (aR bS rfl T.len bC (ae (pv 2) ah)) (bG _)) (aF (bN bh)) bO)
    (aw (cS (bo gO (aU aZ (pv 1) ao) bh (bG _)) (aF (bN (bU (ae (pv 5) (ae (pv 3) (ae (pv 4) (ae jF ah))))))) bO)
    (aw (lj (i:=6) sU.nd (aU b_ (kI (N:=["one","what"]) (g:=de 0) (tc:=tcE K) (te:=gH (gg K) (cj 0) (tC (.int 1))) rfl (jI (pv 2)) (fD.one (v:="one") (fr:="what") (j:=1) (nm:=OJ) rfl rfl rfl rfl)
      (λ_ _ _=>a_ (i:=0) OK) (λ_ _ _=>iw (bo gO (aU aZ (pv 0) ao) (aU aZ (pv 1) ao) (bG _))) (λ_ _ _=>aU aZ (pv 0) ao)) ao))
    (aw (cS (fS (fM (cE DR Bx (ae (bU (ae bh (ae bh (ae (aU aZ (pv 1) ao) ah)))) ah)))) (aF (bN bh)) bO)
    (aF (bN (bU (ae (aR pY rfl T.sorted fV (ae (bW mT (pv 5) (cW (ae (bU (ae (aU aZ (pv 1) ao) (ae (pv 6) (ae (aU aZ (pv 1) ao) ah)))) ah))) ah)) (ae (pv 3) (ae (pv 4) (ae jF ah)))))))))))
    bO)
   (aw (cS (bo gO (aU aZ (pv 1) ao) bh (bG _))
    (aw (cS (fS (fM (cE DI hr (ae (aU aZ (pv 1) ao) ah)))) (aF (bN bh)) bO)
    (aw (cS (bo gO (aR bS rfl T.len bC (ae (pv 3) ah)) ao (bG _)) (aF (bN bh)) bO)
    (aF (bN (bU (ae (pv 2) (ae (bW mT (pv 3) (cW (ae (bU (ae (pv 4) (ae (aU aZ (pv 1) ao) ah))) ah))) (ae (bW gs (pv 4) ao) (ae (pv 4) ah)))))))))
    bO)
   (aw (jN (i0:=7) (N:=["row","what"]) (g:=de 0) (tc:=tcW K) (te:=cj 0) sU.nd rfl (Or.inl rfl) rfl (jI (pv 3)) (fD.one (v:="row") (fr:="what") (j:=1) (nm:=RR) rfl rfl rfl rfl)
    (λ_ _ _=>a_ (i:=0) RS) (λ_ _ _=>iw (bo (FN hr.units) (aU aZ (pv 0) ao) (aU aZ (pv 1) ao) (bG _))) (λ_ _ _=>pv 0))
   (aF (bN (pC (bo gO (aR bS rfl T.len bC (ae (pv 7) ah)) (aR bS rfl T.len bC (ae (pv 3) ah)) (bG _)) bh (bU (ae (pv 2) (ae (pv 7) (ae (pv 4) (ae jF ah))))))))))))),?_⟩
  have lw:=bT OO
  have lu:=bT RT
  have l8:=sS.lc
  have lr:=sS.lr
  obtain⟨ts,v1,ht,k0,k1,fr,fd⟩:=dA.one lt
  have g1:=iB.k (k:=.inr "rowers") hd
  have g2:=iB.k (k:=.inr "pieces") hd
  have g3:=iB.k (k:=.inr "count") hd
  rw[Af] at g1
  rw[xt] at g2
  rw[Eu] at g3
  refine⟨_,rfl,ow,.ref ra,rfl,g1,_,rfl,ow,.ref pa,rfl,g2,_,rfl,ow,.int S.n,rfl,g3,_,_,_,rfl,?_⟩
  refine⟨_,rfl,ra,rfl,⟨_,cQ.of FT⟩,λL hL=>?_⟩
  refine KI (R:=gm) (D0:=λr=>.str r.1) (λh k=>h.up k) RO none hL FT OO ht k1 fr ω sS.aai fd.lay λys J sJ hJ pJ=>?_
  have ly:=bT pJ
  have RU:=sJ _ _ FT
  have RV:=sJ _ _ xJ
  have aak:Paired (gm J) ws S.br:=au OO λ_ _ z=>z.up λb xs e=>sJ _ _ e
  have aaP:Paired (kr J) us S.rows:=au RT λ_ _ z=>z.up λb xs e=>sJ _ _ e
  have dJ:=dA.same sJ
  have fin:∀{J2:Hp} {q rh rj:ai} {tu o8:List V} {S':Cs} {r:Option Nat},o=.st S' r->J2 q=none->bg H J2->(rh=ra\/H rh=none)->(rj=pa\/H rj=none)->J2 rh=some (.lst tu)->Paired (gm J2) tu S'.br->J2 rj=some (.lst o8)->Paired (kr J2) o8 S'.rows->Q (.ref q) (upd J2 q (.tup [.ref rh,.ref rj,.int S'.n,xA r])):=λ{J2 q rh rj tu o8 S' r} e hq s2 a1 a2 b1 b2 b3 b4=>by
   subst e
   have sq:=aO hq (.tup [.ref rh,.ref rj,.int S'.n,xA r])
   exact hQ _ _ (s2.trans sq) ⟨q,rh,rj,tu,o8,rfl,aB,a1,a2,sq _ _ b1,au b2 λ_ _ z=>z.up λb xs e=>sq _ _ e,sq _ _ b3,au b4 λ_ _ z=>z.up λb xs e=>sq _ _ e⟩
  cases lt
  case' c1 c|c2 c n|c3 c n e8|c4 c n e7 g=>
   refine hV rfl (sJ _ _ ht) k0 ?_
  case c1=>
   obtain⟨kk,tl⟩:=(fr.same sJ).one
   refine⟨_,rfl,t,ts,1,_,rfl,rfl,bZ.of (sJ _ _ ht),k1,kk,_,_,rfl,tl,fd,λJ2 s2=>⟨_,rfl,?_⟩⟩
   rw[show ff (dat (.qd _))=false from c]
   exact ite_yes δ (hQ _ _ (sJ.trans s2) rfl)
  case' c2|c3|c4=>
   obtain⟨a,Fp,ha,⟨kk,tl⟩,_⟩:=Aj dJ c
   refine iO rfl (bZ.of Fp) rfl ⟨kk,_,_,rfl,tl,fd,λJ2 s2=>⟨_,rfl,?_⟩⟩
   rw[c]
   refine ite_no δ ?_
   refine iO rfl (bZ.of (s2 _ _ Fp)) rfl ⟨a,_,0,_,rfl,rfl,bZ.of (s2 _ _ ha),rfl,_,rfl,ra,rfl,⟨_,cQ.of (s2 _ _ RU)⟩,λL2 Az=>?_⟩
   refine KJ none Az (s2 _ _ RU) (au aak λ_ _ z=>z.up λb xs e=>s2 _ _ e) ω λJ3 s3 h3=>?_
   refine⟨L2,_,rfl,.inl (cQ.of h3),rfl,nQ _,_,rfl,?_⟩
   rw[sL]
   have lO:=sJ.trans (s2.trans s3)
  case c2=>
   exact ite_yes (aI n) (hQ _ _ lO rfl)
  case' c3|c4=>
   refine ite_no (by rw[bE n];decide) ?_
   refine⟨_,rfl,ra,ws,rfl,.inl (cQ.of (lO _ _ FT)),rfl,_,rfl,?_⟩
   rw[iK]
  case c3=>
   exact ite_yes (aI ω) (hQ _ _ lO rfl)
  case c4=>
   refine ite_no (λz=>by have:=aX z;omega) ?_
   refine⟨_,rfl,iO rfl (bZ.of ((s2.trans s3) _ _ Fp)) rfl ⟨dZ,λl1 DV=>?_⟩⟩
   exists DV,.lst [.ref a],J3,l1,s4,w4,J4
   have Ay:=lO.trans s4
   refine⟨ra,l1,ws,[.ref a],rfl,rfl,Ay _ _ FT,w4,by rw[aN];exact aA (by omega:ws.length+1<=100) δ,λp hp=>?_⟩
   exists hp,.lst (ws++ [.ref a]),J4,p,s5,w5,J5
   have xG:=Ay.trans s5
   obtain⟨L0,a1,a2,a3,a4⟩:=FQ (K:=K) (br:=S.br++ [_]) w5 (d_ (au OO λ_ _ z=>z.up λb xs e=>xG _ _ e) ⟨a,rfl,(s2.trans (s3.trans (s4.trans s5))) _ _ ha⟩) (by rw[aQ,aN];omega)
   refine⟨p,L0,rfl,a1,a2,a3,λl L1 hl pm sr=>?_⟩
   obtain⟨s6,o8,h6,p6⟩:=a4 l L1 hl pm sr
   try dsimp only
   generalize upd J5 l (.lst (L1.map λe=>V.ref e.a))=J6 at*
   have xH:=xG.trans s6
   exact⟨_,rfl,_,rfl,dZ,λq hq=>fin rfl hq xH (.inr (cD xG hl)) (.inl rfl) h6 p6 (xH _ _ xJ) (au RT λ_ _ z=>z.up λb xs e=>xH _ _ e)⟩
  case' g1 x n|g2 x n|w1 x d n|w2 x d n pz|w3 x i n i1 i2|t1 c|t2 oc cc|s1 i h|s2 i h=>
   refine jR rfl (sJ _ _ ht) k0 rfl ?_
   refine⟨_,rfl,t,ts,0,_,rfl,rfl,bZ.of (sJ _ _ ht),k0,dZ,λpt Wq=>?_⟩
   exists Wq,.tup [.str "go",.str "weigh"],J,pt,s2,w2,J2
   refine⟨pt,_,rfl,.inr (bZ.of w2),rfl,rfl,_,rfl,?_⟩
   have iD:=sJ.trans s2
  case' g1|g2|w1|w2|w3=>
   refine Wo ?_
   refine⟨_,rfl,L,ys,rfl,.inl (cQ.of (s2 _ _ hJ)),_,rfl,ra,ws,rfl,.inl (cQ.of (s2 _ _ RU)),rfl,_,rfl,?_⟩
   rw[iK]
  case' g1|g2=>
   have eC:(S.br.filter λr=>!PyData.eqv (.str r.1) (dat (.go x)))=oJ S.br x:=xx S.br x
   rw[eC] at pJ ly
   have cl:=xy S.br x
  case g1=>
   exact ite_yes (aI (by have:=cl.mpr n;omega)) (hQ _ _ iD rfl)
  case g2=>
   refine ite_no (λz=>cl.mp (by have:=aX z;omega) n) ?_
   refine hV rfl (iD _ _ ht) k0 ?_
   exact⟨_,rfl,_,rfl,_,rfl,dZ,λq hq=>fin rfl hq iD (.inr hL) (.inl rfl) (s2 _ _ hJ) (au pJ λ_ _ z=>z.up λb xs e=>s2 _ _ e) (iD _ _ xJ) (au RT λ_ _ z=>z.up λb xs e=>iD _ _ e)⟩
  case' w1|w2=>
   have eC:(S.br.filter λr=>!PyData.eqv (.str r.1) (dat (.weigh x d)))=oJ S.br x:=xx S.br x
   rw[eC] at pJ ly
   have cl:=xy S.br x
  case w1=>
   exact ite_yes (aI (by have:=cl.mpr n;omega)) (hQ _ _ iD rfl)
  case w2=>
   refine ite_no (λz=>cl.mp (by have:=aX z;omega) n) ?_
   refine jR rfl (iD _ _ ht) k0 rfl ?_
   obtain⟨v2,zP,_,f2,Vv,_⟩:=dA
   obtain⟨r,S1,er⟩:∃r,r∈S.br/\r.1=x:=by
    obtain⟨r,h1,h2⟩:=cT.mp n
    exact⟨r,h1,h2⟩
   refine⟨_,rfl,ra,rfl,⟨_,cQ.of (iD _ _ FT)⟩,λL2 Az=>?_⟩
   refine FP none Az (iD _ _ FT) (au OO λ_ _ z=>z.up λb xs e=>iD _ _ e) (iD _ _ zP) rfl ω λJ3 s3 h3=>?_
   have lO:=iD.trans s3
   have eh:∃tl,(S.br.filter λr=>decide (r.1=x))=r::tl:=by
    cases e:S.br.filter λr=>decide (r.1=x) with
    |nil=>
     have:r∈S.br.filter λr=>decide (r.1=x):=dN.mpr ⟨S1,aI er⟩
     rw[e] at this;cases this
    |cons q tl=>
     have hq:q∈S.br.filter λr=>decide (r.1=x):=by rw[e];exact cy
     obtain⟨q1,q2⟩:=dN.mp hq
     rw[xu sS.nd q1 S1 ((aX q2).trans er.symm)]
     exact⟨tl,rfl⟩
   obtain⟨tl0,eh⟩:=eh
   rw[eh] at h3
   refine⟨L2,_,0,.str r.2.1,rfl,rfl,cQ.of h3,aV (j:=0) rfl,?_⟩
   refine iO rfl (bZ.of (lO _ _ zP)) rfl ⟨dZ,λpw hpw=>?_⟩
   exists hpw,.tup [.str "a",.str "both",v2],J3,pw,s4,w4,J4
   have Ay:=lO.trans s4
   obtain⟨kk,tk⟩:=(gC (ds:=[.str "a",.str "both",d]) w4 (aW (ix _) (aW (ix _) (aW (f2.same Ay) dU)))).one
   refine⟨kk,_,_,rfl,tk,KP Vv,λJ5 s5=>⟨_,rfl,?_⟩⟩
   have xG:=Ay.trans s5
   rw[BL]
   exact ite_yes (by rw[pz];rfl) (hQ _ _ xG rfl)
  case w3=>
   have eC:(S.br.filter λr=>!PyData.eqv (.str r.1) (dat (.weigh x (.int i))))=oJ S.br x:=xx S.br x
   rw[eC] at pJ ly
   have cl:=xy S.br x
   refine ite_no (λz=>cl.mp (by have:=aX z;omega) n) ?_
   refine jR rfl (iD _ _ ht) k0 rfl ?_
   obtain⟨v2,zP,_,f2,Vv,_⟩:=dA
   obtain⟨r,S1,er⟩:∃r,r∈S.br/\r.1=x:=by
    obtain⟨r,h1,h2⟩:=cT.mp n
    exact⟨r,h1,h2⟩
   refine⟨_,rfl,ra,rfl,⟨_,cQ.of (iD _ _ FT)⟩,λL2 Az=>?_⟩
   refine FP none Az (iD _ _ FT) (au OO λ_ _ z=>z.up λb xs e=>iD _ _ e) (iD _ _ zP) rfl ω λJ3 s3 h3=>?_
   have lO:=iD.trans s3
   have eh:∃tl,(S.br.filter λr=>decide (r.1=x))=r::tl:=by
    cases e:S.br.filter λr=>decide (r.1=x) with
    |nil=>
     have:r∈S.br.filter λr=>decide (r.1=x):=dN.mpr ⟨S1,aI er⟩
     rw[e] at this;cases this
    |cons q tl=>
     have hq:q∈S.br.filter λr=>decide (r.1=x):=by rw[e];exact cy
     obtain⟨q1,q2⟩:=dN.mp hq
     rw[xu sS.nd q1 S1 ((aX q2).trans er.symm)]
     exact⟨tl,rfl⟩
   obtain⟨tl0,eh⟩:=eh
   rw[eh] at h3
   refine⟨L2,_,0,.str r.2.1,rfl,rfl,cQ.of h3,aV (j:=0) rfl,?_⟩
   refine iO rfl (bZ.of (lO _ _ zP)) rfl ⟨dZ,λpw hpw=>?_⟩
   exists hpw,.tup [.str "a",.str "both",v2],J3,pw,s4,w4,J4
   have Ay:=lO.trans s4
   obtain⟨kk,tk⟩:=(gC (ds:=[.str "a",.str "both",.int i]) w4 (aW (ix _) (aW (ix _) (aW (f2.same Ay) dU)))).one
   refine⟨kk,_,_,rfl,tk,KP Vv,λJ5 s5=>⟨_,rfl,?_⟩⟩
   have xG:=Ay.trans s5
   rw[BL]
   refine ite_no (by rw[(OH i1 i2).2];decide) ?_
   obtain rfl:=KO f2
   refine⟨_,rfl,iO rfl (bZ.of (xG _ _ zP)) rfl ⟨_,rfl,iO rfl (bZ.of (xG _ _ zP)) rfl ⟨dZ,λpn hpn=>?_⟩⟩⟩
   exists hpn,.tup [.str x,.str r.2.1,.int i],J5,pn,s6,w6,J6
   refine⟨dZ,λl1 DV=>?_⟩
   exists DV,.lst [.ref pn],J6,l1,s7,w7,J7
   have Wr:=xG.trans (s6.trans s7)
   have sJ7:bg J J7:=s2.trans (s3.trans (s4.trans (s5.trans (s6.trans s7))))
   have aaQ:(oJ S.br x).length<=8:=aA (eM _ _) l8
   refine⟨L,l1,ys,[.ref pn],rfl,rfl,sJ7 _ _ hJ,w7,by rw[aN];exact aA (by omega:ys.length+1<=100) δ,λp hp=>?_⟩
   exists hp,.lst (ys++ [.ref pn]),J7,p,s8,w8,J8
   have RW:=Wr.trans s8
   obtain⟨L0,a1,a2,a3,a4⟩:=FQ (K:=K) (br:=oJ S.br x++ [(x,r.2.1,i)]) w8 (d_ (au pJ λ_ _ z=>z.up λb xs e=>(sJ7.trans s8) _ _ e) ⟨pn,rfl,(s7.trans s8) _ _ w6⟩) (by rw[aQ,aN];omega)
   refine⟨p,L0,rfl,a1,a2,a3,λl L1 hl pm sr=>?_⟩
   obtain⟨s9,o8,h9,p9⟩:=a4 l L1 hl pm sr
   try dsimp only
   generalize upd J8 l (.lst (L1.map λe=>V.ref e.a))=J9 at*
   have s09:=RW.trans s9
   have q_:=sS.Wj S1 i
   rw[er] at q_
   rw[q_] at p9
   exact⟨_,rfl,_,rfl,dZ,λq hq=>fin rfl hq s09 (.inr (cD RW hl)) (.inl rfl) h9 p9 (s09 _ _ xJ) (au RT λ_ _ z=>z.up λb xs e=>s09 _ _ e)⟩
  case' t1|t2|s1|s2=>
   refine Wp ?_
  case' t1|t2=>
   refine hV rfl (iD _ _ ht) k0 ?_
  case t1=>
   obtain⟨kk,tl⟩:=(fr.same iD).one
   refine⟨_,rfl,t,ts,1,_,rfl,rfl,bZ.of (iD _ _ ht),k1,kk,_,_,rfl,tl,fd,λJ3 s3=>⟨_,rfl,?_⟩⟩
   rw[show gP (dat (.tell _))=false from c]
   exact ite_yes δ (hQ _ _ (iD.trans s3) rfl)
  case t2=>
   obtain⟨r,Fp,Of,⟨kk,tl⟩,_⟩:=FO (dA.same iD) oc cc
   refine iO rfl (bZ.of Fp) rfl ⟨kk,_,_,rfl,tl,fd,λJ3 s3=>⟨_,rfl,?_⟩⟩
   rw[xj oc cc]
   refine ite_no δ ?_
   have lO:=iD.trans s3
   refine⟨_,rfl,pa,us,rfl,.inl (cQ.of (lO _ _ xJ)),rfl,_,rfl,?_⟩
   rw[iK]
   refine ite_no (λz=>by have:=aX z;omega) ?_
   refine⟨_,rfl,_,rfl,_,rfl,iO rfl (bZ.of (s3 _ _ Fp)) rfl ⟨dZ,λpn hpn=>?_⟩⟩
   exists hpn,.tup [.int S.n,.ref r],J3,pn,s6,w6,J6
   refine⟨dZ,λl1 DV=>?_⟩
   exists DV,.lst [.ref pn],J6,l1,s7,w7,J7
   have Wr:=lO.trans (s6.trans s7)
   refine⟨pa,l1,us,[.ref pn],rfl,rfl,Wr _ _ xJ,w7,by rw[aN];exact aA (by omega:us.length+1<=100) δ,λp hp=>?_⟩
   exists hp,.lst (us++ [.ref pn]),J7,p,s8,w8,J8
   have RW:=Wr.trans s8
   refine⟨_,rfl,_,_,rfl,rfl,_,rfl,dZ,λq hq=>?_⟩
   exact fin (S':=⟨S.br,S.rows++ [(S.n,_)],S.n+1⟩) (r:=some S.n) rfl hq RW (.inl rfl) (.inr (cD Wr hp)) (RW _ _ FT) (au OO λ_ _ z=>z.up λb xs e=>RW _ _ e) w8 (d_ (au RT λ_ _ z=>z.up λb xs e=>RW _ _ e) ⟨pn,r,rfl,(s7.trans s8) _ _ w6,Of.same (s3.trans (s6.trans (s7.trans s8)))⟩)
  case' s1|s2=>
   refine jR rfl (iD _ _ ht) k0 rfl ?_
   refine⟨_,rfl,pa,rfl,⟨_,cQ.of (iD _ _ xJ)⟩,λL2 Az=>?_⟩
   refine KI (R:=kr) (D0:=λr=>.int r.1) (λh k=>h.up k) RP none Az (iD _ _ xJ) (au RT λ_ _ z=>z.up λb xs e=>iD _ _ e) (iD _ _ ht) k1 (fr.same iD) ω (λx hx=>rZ.lay (Ag (by have:=sS.num x hx;have:=sS.n;omega))) fd.lay λzs J3 s3 h3 p3=>?_
   have eC:(S.rows.filter λr=>!PyData.eqv (.int r.1) (dat (.ku i)))=uX S.rows i:=KL S.rows i
   rw[eC] at p3
   have lz:=bT p3
   have lO:=iD.trans s3
   refine⟨_,rfl,L2,zs,rfl,.inl (cQ.of h3),_,rfl,pa,us,rfl,.inl (cQ.of (lO _ _ xJ)),rfl,_,rfl,?_⟩
   rw[iK]
   have cl:=KN S.rows i
  case s1=>
   exact ite_yes (aI (by have:=cl.mpr h;omega)) (hQ _ _ lO rfl)
  case s2=>
   refine ite_no (λz=>by have:=cl.mp (by have:=aX z;omega);rw[h] at this;cases this) ?_
   exact⟨_,rfl,_,rfl,_,rfl,dZ,λq hq=>fin rfl hq lO (.inl rfl) (.inr (cD iD Az)) (lO _ _ FT) (au OO λ_ _ z=>z.up λb xs e=>lO _ _ e) h3 p3⟩
end
def aal (H:Hp) (v:V):Str⊕Option Nat->Prop
 | .inl s=>v=.str s
 | .inr r=>∃q,v=.ref q/\H q=some (.tup [xA r])
section
variable {P:aJ}{w:bB}{K:Φ}{mg:Str->Option ag}{base:Heap}
abbrev RX:Stmt:=top 52
abbrev aam:List Str:=["own","what","now","here","there","later"]
def BM:bY aam ["own","what"] (ar RX):={}
def put3 {Z:L2.St}{H1:Hp}{ow ra pa rh rj pl ll:ai}{n n':Int}{Q:L2.St->Hp->Prop}(d:H1 ow=some (.dK (je ra pa n pl ll))) (q:∀H2,H2 ow=some (.dK (je rh rj n' pl ll))->(∀z o,z≠ow->H1 z=some o->H2 z=some o)->Tk H1 H2->Q (some (.ref ow)::Z) H2):
  LK (cj 0) (tC (.str "rowers")) FE (.ref rh) (some (.ref ow)::Z) H1 λbX H'=>jZ (LK (cj 0) (tC (.str "pieces")) FE) (jZ (LK (cj 0) (tC (.str "count")) FE) zt) [.ref rj,.int n'] bX H' Q:=by
 refine⟨_,rfl,ow,_,rfl,C7.k (k:=.inr "rowers") d (by show 5<sizeLine;decide),?_⟩
 rw[RF]
 refine⟨_,_,rfl,_,rfl,ow,_,rfl,C7.k (k:=.inr "pieces") aB (by show 5<sizeLine;decide),?_⟩
 rw[RG,rL]
 refine⟨_,_,rfl,_,rfl,ow,_,rfl,C7.k (k:=.inr "count") aB (by show 5<sizeLine;decide),?_⟩
 rw[RH,rL]
 exact⟨rfl,q _ aB (λz o n e=>by rw[bb n];exact e) (λb zs e=>by rw[bb (λz=>by rw[z,d] at e;cases e)];exact e)⟩
def OQ:Sp:=λvs H Q _=>∃(mu:List ai) (ow t ra pa pl ll:ai) (xs ys:List V) (sts:List Cs) (S:Cs) (cO:List Cs) (D:sR) (m:Nat) (o:Str⊕Option Nat) (gk:List Cs) (S':Cs) (fW:List Cs),vs=[.ref ow,.ref t]/\jA mu H ow ra pa pl ll xs ys sts S cO/\pl≠ll/\ow∈mu/\pl∈mu/\ll∈mu/\(∀x∈mu,∃o,H x=some o)/\(∀T∈sts,RJ T)/\(∀T∈cO,RJ T)/\sts.length<=800/\cO.length<=800/\k_ H t D/\St S m/\m<=31/\Ew D sts S cO o gk S' fW/\
 ∀v rh rj xs' ys' H',jW [ow,pl,ll] H H'->Tk H H'->jA mu H' ow rh rj pl ll xs' ys' gk S' fW->aal H' v o->Q v H'
def RY (F:jg K "_law_due" "_law_due" RX f fd) (T:Txt mg) (DL:Df P w K mg base 4 "_law_later" ["own","what"] FR):dR P w K mg base fN 5 f fd ["own","what"] OQ:=by
 exists F.ok,BM
 .obtain⟨mu,ow,t,ra,pa,pl,ll,xs,ys,sts,S,cO,D,m,o,gk,S',fW,rfl,_⟩:=h
  rfl
 .obtain⟨mu,ow,t,ra,pa,pl,ll,xs,ys,sts,S,cO,D,m,o,gk,S',fW,rfl,O,S2,m1,m2,m3,OS,Fu,Fv,l1,l2,dA,sS,tz,sp,hQ⟩:=h
  have hu:=bf (eK (by decide:1<=64) _) hr.units
  refine⟨_,aw (lj (i:=2) BM.nd (bU (ae (fB hu (pv 0) bh) (ae (fB hu (pv 0) bh) (ae (fB hu (pv 0) bh) ah)))))
   (aw (cS (bo qk (aU aZ (pv 1) ao) (bU (ae bh (ae bh ah))) (by with_unfolding_all rfl))
    (aw (iE (aU b_ (cW (ae (bU (ae bh (ae bh ah))) (ae (bU (ae bh (ae bh ah))) ah))) (fG yo rfl T.int nv (ae (gy gO (aU aZ (pv 1) ao) bh (bG _)) ah))) (fU rfl (bx (a_ (i:=3) BM.nd) (bx (a_ (i:=4) BM.nd) eX))))
    (aw (cS (bo (pL hr.units) (fB hu (pv 0) (pv 3)) (cW ah) (bG _)) (aF (bN bh)) bO)
    (aw (gY (rX cJ fk fm hZ (fB hu (pv 0) (pv 4)) (ae (pv 2) ah)))
    (aw (iE (zB cJ vG vH CS (fB hu (pv 0) (pv 3))) (fU rfl (bx (pD (pv 0) bh (F8 hu)) (bx (pD (pv 0) bh (F8 hu)) (bx (pD (pv 0) bh (F8 hu)) eX)))))
    (aF (bN (bU (ae jF ah))))))))
    bO)
   (aw (lj (i:=5) BM.nd (cE DL hr (ae (pv 0) (ae (pv 1) ah))))
   (aw (cS (fM (aR fR rfl T.s_ aE (ae (pv 5) (ae (gX (v:=.ty "str") rfl T.str gT rfl) ah)))) (aF (bN (pv 5))) bO)
   (aw (gY (rX cJ fk fm hZ (fB hu (pv 0) bh) (ae (pv 2) ah)))
   (aw (gY (zB cJ PySem.F.slot_list_clear PySem.F.type_list_clear IM (fB hu (pv 0) bh)))
   (aw (iE (hX zI (pv 5) jL (iU ao)) (fU rfl (bx (pD (pv 0) bh (F8 hu)) (bx (pD (pv 0) bh (F8 hu)) (bx (pD (pv 0) bh (F8 hu)) eX)))))
   (aF (bN (bU (ae (aU aZ (pv 5) ao) ah)))))))))),?_⟩
  have lx:=bT O.pp
  have ly:=bT O.OF
  have g1:=iB.k (k:=.inr "rowers") O.d
  have g2:=iB.k (k:=.inr "pieces") O.d
  have g3:=iB.k (k:=.inr "count") O.d
  rw[Af] at g1
  rw[xt] at g2
  rw[Eu] at g3
  refine⟨_,rfl,ow,.ref ra,rfl,g1,_,rfl,ow,.ref pa,rfl,g2,_,rfl,ow,.int S.n,rfl,g3,dZ,λnw hnw=>?_⟩
  exists hnw,.tup [.ref ra,.ref pa,.int S.n],H,nw,s1,w1,J1
  have O1:=O.same s1
  have nmu:nw∉mu:=λz=>by obtain⟨o,e⟩:=OS _ z;rw[hnw] at e;cases e
  have aan:FF mu J1 (.ref nw) S:=by
   obtain⟨q_,OV,a1,a2,a3,a4,a5,a6⟩:=O1.now
   exact⟨nw,ra,pa,q_,OV,rfl,nmu,a1,a2,w1,a3,a4,a5,a6⟩
  obtain⟨ts,ht,k0⟩:∃ts,H t=some (.tup ts)/\qA ts 0=some (.str (BK D)):=by
   cases D with
   |qd d=>obtain⟨v,h1,_⟩:=dA;exact⟨_,h1,rfl⟩
   |go x=>exact⟨_,dA.1,rfl⟩
   |weigh x d=>obtain⟨v,h1,_⟩:=dA;exact⟨_,h1,rfl⟩
   |tell d=>obtain⟨v,h1,_⟩:=dA;exact⟨_,h1,rfl⟩
   |ku i=>exact⟨_,dA.1,rfl⟩
   |back=>exact⟨_,dA,rfl⟩
   |again=>exact⟨_,dA,rfl⟩
  refine⟨_,rfl,t,ts,0,_,rfl,rfl,bZ.of (s1 _ _ ht),k0,dZ,λpt Wq=>?_⟩
  exists Wq,.tup [.str "back",.str "again"],J1,pt,s2,w2,J2
  refine⟨pt,_,rfl,.inr (bZ.of w2),rfl,rfl,_,rfl,?_⟩
  have O2:=O1.same s2
  have RZ:=aan.kp (fh s2) (fe s2)
  have n1:ow≠pl:=ma O.d O.j4
  have n2:ow≠ll:=ma O.d O.ng
  have kml:∀{G G':Hp},jW [ow,pl,ll] G G'->jW mu G G':=λk z o n e=>k _ _ (λy=>by
   simp only[aD,aG,cx] at y
   rcases y with y|y|y
   .exact n (y▸m1)
   .exact n (y▸m2)
   .exact n (y▸m3)) e
  have Lat:∀{o1:Out},yh S D o1->IG (.str (BK D)) [.str "back",.str "again"]=false:=λl=>by cases l<;>rfl
  have O3:=O2
  cases sp
  case' no l|st l=>
   refine ite_no (by rw[Lat l];decide) ?_
   obtain⟨q_,OV,a1,a2,a3,a4,a5,a6⟩:=O2.now
   have iD:=s1.trans s2
   refine⟨_,rfl,_,rfl,ow,t,ra,pa,pl,ll,q_,OV,D,S,m,_,rfl,O2.d,a3,a4,a5,a6,dA.same iD,sS,tz,l,λv J3 s3 lv=>?_⟩
   have lO:=iD.trans s3
   have O3:=O2.same s3
  case no=>
   obtain rfl:v=.str _:=lv
   refine⟨_,rfl,0,_,_,.str _,rfl,fi.mpr rfl,.inr (.inr (.inl rfl)),_,rfl,?_⟩
   exact ite_yes rfl ⟨_,rfl,hQ _ _ _ _ _ _ (fh lO) (fe lO) O3 rfl⟩
  case st=>
   obtain⟨q,rh,rj,ws,us,rfl,hq,r1,r2,b1,b2,b3,b4⟩:=lv
   rename_i r
   have fo:qI J3 (match r with|none=>PyData.none|some n=>.int n) (xA r):=by
    cases r with
    |none=>exact sO
    |some n=>exact ez _
   obtain⟨kk,tk⟩:=(gC hq (aW (eJ b1 (eG pZ b2)) (aW (eJ b3 (eG rg b4)) (aW (ez _) (aW fo dU))))).one
   refine⟨_,rfl,kk,_,_,_,rfl,tk,.inr (.inr (.inl rfl)),_,rfl,?_⟩
   refine ite_no (λz=>Bool.noConfusion (show false=true from z)) ?_
   have gp:=iB.k (k:=.inr "past") O3.d
   rw[qc] at gp
   refine⟨_,rfl,ow,.ref pl,rfl,gp,.inl ⟨rfl,_,cQ.of O3.j4⟩,_,rfl,pl,xs,.ref nw,rfl,rfl,O3.j4,eF ω,?_⟩
   have u1:∀{z:ai} {o:HO},z≠pl->J3 z=some o->upd J3 pl (.lst (xs++ [.ref nw])) z=some o:=λn e=>by rw[bb n];exact e
   have p4:upd J3 pl (.lst (xs++ [.ref nw])) pl=some (.lst (xs++ [.ref nw])):=aB
   have tk4:Tk J3 (upd J3 pl (.lst (xs++ [.ref nw]))):=λb zs e=>u1 (λz=>by rw[z,O3.j4] at e;cases e) e
   try dsimp only
   generalize upd J3 pl (.lst (xs++ [.ref nw]))=J4 at*
   have d4:=u1 n1 O3.d
   have gl:=iB.k (k:=.inr "later") d4
   rw[qu] at gl
   have l4:=u1 (cG S2) O3.ng
   refine⟨_,rfl,ow,.ref ll,rfl,gl,.inl ⟨rfl,_,cQ.of l4⟩,ll,ys,rfl,rfl,l4,?_⟩
   have u2:∀{z:ai} {o:HO},z≠ll->J4 z=some o->upd J4 ll (.lst []) z=some o:=λn e=>by rw[bb n];exact e
   have p5:upd J4 ll (.lst []) ll=some (.lst []):=aB
   have Lk:Tk J4 (upd J4 ll (.lst [])):=λb zs e=>u2 (λz=>by rw[z,l4] at e;cases e) e
   try dsimp only
   generalize upd J4 ll (.lst [])=J5 at*
   have d5:=u2 n2 d4
   have q5:=Lk _ _ (tk4 _ _ hq)
   refine⟨_,rfl,_,rfl,q,_,rfl,bZ.of q5,λz=>absurd (show HT.iA 4 4 (some 3)=4 from z.2) δ,λ_ p hp=>?_⟩
   rw[show jt [V.ref rh,V.ref rj,V.int S'.n,xA r] none (some 3)=[V.ref rh,V.ref rj,V.int S'.n] from rfl]
   exists hp,.tup [V.ref rh,V.ref rj,V.int S'.n],J5,p,s6,w6,J6
   have d6:=s6 _ _ d5
   refine⟨p,_,rfl,bZ.of w6,rfl,_,_,rfl,?_⟩
   refine put3 d6 λJ7 d7 u7 OY=>?_
   refine iO rfl (bZ.of (OY _ _ (s6 _ _ q5))) rfl ⟨dZ,λz hz=>?_⟩
   exists hz,.tup [xA r],J7,z,s8,w8,J8
   have go:∀{x:ai} {o:HO},x≠ow->x≠pl->x≠ll->J3 x=some o->J8 x=some o:=λe1 e2 e3 h=>s8 _ _ (u7 _ _ e1 (s6 _ _ (u2 e3 (u1 e2 h))))
   have km:jW [ow,pl,ll] J3 J8:=λx o n e=>by
    simp only[aD,aG,cx,rJ] at n
    exact go n.1 n.2.1 n.2.2 e
   have xI:Tk J3 J8:=λb zs e=>s8 _ _ (OY _ _ (s6 _ _ (Lk _ _ (tk4 _ _ e))))
   have B5:=kml km
   have hm:∀{x:ai},(x=ra\/J2 x=none)->ra∉mu->x∉mu:=λh h0=>by
    rcases h with rfl|h
    .exact h0
    .intro z
     obtain⟨o,e⟩:=OS _ z
     rw[iD _ _ e] at h;cases h
   have UA:∀{x:ai},(x=pa\/J2 x=none)->pa∉mu->x∉mu:=λh h0=>by
    rcases h with rfl|h
    .exact h0
    .intro z
     obtain⟨o,e⟩:=OS _ z
     rw[iD _ _ e] at h;cases h
   have r1':=hm r1 a1
   have r2':=UA r2 a2
   refine hQ _ rh rj (xs++ [.ref nw]) [] J8 (λx o n e=>km _ _ n (lO _ _ e)) ((fe lO).trans xI) ⟨s8 _ _ d7,⟨ws,us,r1',r2',B5 _ _ r1' b1,au b2 λ_ _ z=>z.up xI,B5 _ _ r2' b3,au b4 λ_ _ z=>z.up xI⟩,s8 _ _ (u7 _ _ (cG n1) (s6 _ _ (u2 S2 p4))),d_ (au O3.pp λ_ _ z=>z.kp B5 xI) ((RZ.kp (fh s3) (fe s3)).kp B5 xI),s8 _ _ (u7 _ _ (cG n2) (s6 _ _ p5)),.nil⟩ ⟨z,rfl,w8⟩
  case' b0|b=>
   refine ite_yes (show IG (.str "back") [.str "back",.str "again"]=true by decide) ?_
   refine⟨dZ,λt1 h1=>?_⟩
   exists h1,.tup [.str "past",.str "later"],J2,t1,s3,w3,J3
   refine⟨dZ,λt2 h2=>?_⟩
   exists h2,.tup [.str "later",.str "past"],J3,t2,s4,w4,J4
   refine⟨dZ,λt3 h3=>?_⟩
   exists h3,.lst [.ref t1,.ref t2],J4,t3,s5,w5,J5
   have Ey:=s3.trans (s4.trans s5)
   have xG:=(s1.trans s2).trans Ey
   refine⟨_,rfl,t,ts,0,_,rfl,rfl,bZ.of (xG _ _ ht),k0,rfl,.inr ⟨_,rfl,?_⟩⟩
   rw[lZ,show decide (BK .back="again")=false from rfl]
   refine⟨t3,_,0,_,rfl,rfl,cQ.of w5,aV (j:=0) rfl,GY (bZ.of ((s4.trans s5) _ _ w3)) ?_⟩
   have O5:=O2.same Ey
   have R0:=RZ.kp (fh Ey) (fe Ey)
   have gh:=iB.k (k:=.inr "past") O5.d
   rw[qc] at gh
   refine⟨_,rfl,_,rfl,ow,.ref pl,rfl,gh,dZ,λe he=>?_⟩
   exists he,.lst [],J5,e,s6,w6,J6
   have O6:=O5.same s6
   have R1:=R0.kp (fh s6) (fe s6)
   have xH:=xG.trans s6
   obtain⟨ka,qa⟩:=(eJ O6.j4 (eG KH O6.pp)).one
   obtain⟨kb,qb⟩:=(eJ w6 dU).one
   refine⟨ka,kb,_,_,qa,qb,FG Fu,kC,_,rfl,?_⟩
   rw[FH]
  case b0=>
   exact ite_yes rfl (hQ _ _ _ _ _ _ (fh xH) (fe xH) O6 rfl)
  case b=>
   refine ite_no ς ?_
   obtain⟨o8,u,eu,pp',Q9⟩:=fu O6.pp
   have hx:=O6.j4
   rw[eu] at hx
   obtain⟨tp,rh,rj,tu,V3,rfl,c1,c2,c3,c4,c5,c6,c7,c8⟩:=Q9
   have gt:=iB.k (k:=.inr "later") O6.d
   rw[qu] at gt
   refine⟨_,rfl,_,rfl,ow,.ref ll,rfl,gt,.inl ⟨rfl,_,cQ.of O6.ng⟩,_,rfl,ll,ys,.ref nw,rfl,rfl,O6.ng,eF ω,?_⟩
   have u1:∀{z:ai} {o:HO},z≠ll->J6 z=some o->upd J6 ll (.lst (ys++ [.ref nw])) z=some o:=λn e=>by rw[bb n];exact e
   have p7:upd J6 ll (.lst (ys++ [.ref nw])) ll=some (.lst (ys++ [.ref nw])):=aB
   have OY:Tk J6 (upd J6 ll (.lst (ys++ [.ref nw]))):=λb zs e=>u1 (λz=>by rw[z,O6.ng] at e;cases e) e
   try dsimp only
   generalize upd J6 ll (.lst (ys++ [.ref nw]))=J7 at*
   have d7:=u1 n2 O6.d
   have x7:=u1 S2 hx
   have Ws:=iB.k (k:=.inr "past") d7
   rw[qc] at Ws
   refine⟨_,rfl,_,rfl,ow,.ref pl,rfl,Ws,.inl ⟨rfl,_,cQ.of x7⟩,pl,_,.ref tp,rfl,rfl,x7,ς,?_⟩
   rw[show(o8++ [V.ref tp]).dropLast=o8 by simp]
   have u2:∀{z:ai} {o:HO},z≠pl->J7 z=some o->upd J7 pl (.lst o8) z=some o:=λn e=>by rw[bb n];exact e
   have p8:upd J7 pl (.lst o8) pl=some (.lst o8):=aB
   have Wt:Tk J7 (upd J7 pl (.lst o8)):=λb zs e=>u2 (λz=>by rw[z,x7] at e;cases e) e
   try dsimp only
   generalize upd J7 pl (.lst o8)=J8 at*
   have d8:=u2 n1 d7
   refine⟨tp,_,rfl,bZ.of (Wt _ _ (OY _ _ c4)),rfl,_,_,rfl,?_⟩
   refine put3 d8 λJ9 d9 u9 tk9=>?_
   refine⟨dZ,λz hz=>?_⟩
   exists hz,.tup [V.eU],J9,z,s10,CW,R3
   have km:jW [ow,pl,ll] J6 R3:=λx o n e=>by
    simp only[aD,aG,cx,rJ] at n
    exact s10 _ _ (u9 _ _ n.1 (u2 n.2.1 (u1 n.2.2 e)))
   have xI:Tk J6 R3:=λb zs e=>s10 _ _ (tk9 _ _ (Wt _ _ (OY _ _ e)))
   have B5:=kml km
   have vx:=s10 _ _ (u9 _ _ (cG n1) p8)
   have vy:=s10 _ _ (u9 _ _ (cG n2) (u2 (cG S2) p7))
   refine hQ _ rh rj o8 (ys++ [.ref nw]) R3 (λx o n e=>km _ _ n (xH _ _ e)) ((fe xH).trans xI) ⟨s10 _ _ d9,⟨tu,V3,c2,c3,B5 _ _ c2 c5,au c6 λ_ _ z=>z.up xI,B5 _ _ c3 c7,au c8 λ_ _ z=>z.up xI⟩,vx,au pp' λ_ _ z=>z.kp B5 xI,vy,d_ (au O6.OF λ_ _ z=>z.kp B5 xI) (R1.kp B5 xI)⟩ ⟨z,rfl,CW⟩
  case' a0|a=>
   refine ite_yes (show IG (.str "again") [.str "back",.str "again"]=true by decide) ?_
   refine⟨dZ,λt1 h1=>?_⟩
   exists h1,.tup [.str "past",.str "later"],J2,t1,s3,w3,J3
   refine⟨dZ,λt2 h2=>?_⟩
   exists h2,.tup [.str "later",.str "past"],J3,t2,s4,w4,J4
   refine⟨dZ,λt3 h3=>?_⟩
   exists h3,.lst [.ref t1,.ref t2],J4,t3,s5,w5,J5
   have Ey:=s3.trans (s4.trans s5)
   have xG:=(s1.trans s2).trans Ey
   refine⟨_,rfl,t,ts,0,_,rfl,rfl,bZ.of (xG _ _ ht),k0,rfl,.inr ⟨_,rfl,?_⟩⟩
   rw[lZ,show decide (BK .again="again")=true from rfl]
   refine⟨t3,_,1,_,rfl,rfl,cQ.of w5,aV (j:=1) rfl,GY (bZ.of (s5 _ _ w4)) ?_⟩
   have O5:=O2.same Ey
   have R0:=RZ.kp (fh Ey) (fe Ey)
   have gh:=iB.k (k:=.inr "later") O5.d
   rw[qu] at gh
   refine⟨_,rfl,_,rfl,ow,.ref ll,rfl,gh,dZ,λe he=>?_⟩
   exists he,.lst [],J5,e,s6,w6,J6
   have O6:=O5.same s6
   have R1:=R0.kp (fh s6) (fe s6)
   have xH:=xG.trans s6
   obtain⟨ka,qa⟩:=(eJ O6.ng (eG KH O6.OF)).one
   obtain⟨kb,qb⟩:=(eJ w6 dU).one
   refine⟨ka,kb,_,_,qa,qb,FG Fv,kC,_,rfl,?_⟩
   rw[FH]
  case a0=>
   exact ite_yes rfl (hQ _ _ _ _ _ _ (fh xH) (fe xH) O6 rfl)
  case a=>
   refine ite_no ς ?_
   obtain⟨o8,u,eu,pp',Q9⟩:=fu O6.OF
   have hx:=O6.ng
   rw[eu] at hx
   obtain⟨tp,rh,rj,tu,V3,rfl,c1,c2,c3,c4,c5,c6,c7,c8⟩:=Q9
   have gt:=iB.k (k:=.inr "past") O6.d
   rw[qc] at gt
   refine⟨_,rfl,_,rfl,ow,.ref pl,rfl,gt,.inl ⟨rfl,_,cQ.of O6.j4⟩,_,rfl,pl,xs,.ref nw,rfl,rfl,O6.j4,eF ω,?_⟩
   have u1:∀{z:ai} {o:HO},z≠pl->J6 z=some o->upd J6 pl (.lst (xs++ [.ref nw])) z=some o:=λn e=>by rw[bb n];exact e
   have p7:upd J6 pl (.lst (xs++ [.ref nw])) pl=some (.lst (xs++ [.ref nw])):=aB
   have OY:Tk J6 (upd J6 pl (.lst (xs++ [.ref nw]))):=λb zs e=>u1 (λz=>by rw[z,O6.j4] at e;cases e) e
   try dsimp only
   generalize upd J6 pl (.lst (xs++ [.ref nw]))=J7 at*
   have d7:=u1 n1 O6.d
   have x7:=u1 (cG S2) hx
   have Ws:=iB.k (k:=.inr "later") d7
   rw[qu] at Ws
   refine⟨_,rfl,_,rfl,ow,.ref ll,rfl,Ws,.inl ⟨rfl,_,cQ.of x7⟩,ll,_,.ref tp,rfl,rfl,x7,ς,?_⟩
   rw[show(o8++ [V.ref tp]).dropLast=o8 by simp]
   have u2:∀{z:ai} {o:HO},z≠ll->J7 z=some o->upd J7 ll (.lst o8) z=some o:=λn e=>by rw[bb n];exact e
   have p8:upd J7 ll (.lst o8) ll=some (.lst o8):=aB
   have Wt:Tk J7 (upd J7 ll (.lst o8)):=λb zs e=>u2 (λz=>by rw[z,x7] at e;cases e) e
   try dsimp only
   generalize upd J7 ll (.lst o8)=J8 at*
   have d8:=u2 n2 d7
   refine⟨tp,_,rfl,bZ.of (Wt _ _ (OY _ _ c4)),rfl,_,_,rfl,?_⟩
   refine put3 d8 λJ9 d9 u9 tk9=>?_
   refine⟨dZ,λz hz=>?_⟩
   exists hz,.tup [V.eU],J9,z,s10,CW,R3
   have km:jW [ow,pl,ll] J6 R3:=λx o n e=>by
    simp only[aD,aG,cx,rJ] at n
    exact s10 _ _ (u9 _ _ n.1 (u2 n.2.2 (u1 n.2.1 e)))
   have xI:Tk J6 R3:=λb zs e=>s10 _ _ (tk9 _ _ (Wt _ _ (OY _ _ e)))
   have B5:=kml km
   have vx:=s10 _ _ (u9 _ _ (cG n2) p8)
   have vy:=s10 _ _ (u9 _ _ (cG n1) (u2 (cG (cG S2)) p7))
   refine hQ _ rh rj (xs++ [.ref nw]) o8 R3 (λx o n e=>km _ _ n (xH _ _ e)) ((fe xH).trans xI) ⟨s10 _ _ d9,⟨tu,V3,c2,c3,B5 _ _ c2 c5,au c6 λ_ _ z=>z.up xI,B5 _ _ c3 c7,au c8 λ_ _ z=>z.up xI⟩,vy,d_ (au O6.pp λ_ _ z=>z.kp B5 xI) (R1.kp B5 xI),vx,au pp' λ_ _ z=>z.kp B5 xI⟩ ⟨z,rfl,CW⟩
def zf (P:aJ) (w:bB) (K:Φ) (mg:Str->Option ag) (base:Heap) (C:ai):Prop:=∃f fd,dR P w K mg base fN 2 f fd ["self"] (KA C)/\Binds K fd ["self"] []/\uR K C "__len__" f
def zg (D:zf X.prog X.w X.K X.mg X.base C) (hr:eB 3 X.A):gN X (.builtin "len") (Oc C (KA C)):=by
 obtain⟨f,fd,F,b,m⟩:=D
 exact GX F hr b m
abbrev sSr:Stmt:=top 57
def aao:bY ["own","club"] ["own","club"] (ar sSr):={}
def R4 (C:ai):Sp:=λvs H Q _=>∃(cb sl lc ow pl ll:ai) (sts:List Cs) (S:Cs) (cO:List Cs) (m:Nat),vs=[.ref ow,.ref cb]/\Wd C H cb sl lc ow pl ll sts S cO/\St S m/\m<=31/\∀H',bg H H'->Q (.bl true) H'
def Wu (F:jg K "_law_stands_right" "_law_stands_right" sSr f fd) (T:Txt mg) (DR:vv P w K mg base 1 C "rowers" ["self"] (rf C)) (DI:vv P w K mg base 1 C "pieces" ["self"] (xl C)) (DL:zf P w K mg base C) (DT:vv P w K mg base 5 C "trials" ["self"] (BB C)) (DO:Df P w K mg base 3 "_law_trials_of" ["pieces"] OC):dR P w K mg base fN 6 f fd ["own","club"] (R4 C):=by
 exists F.ok,aao
 .obtain⟨cb,sl,lc,ow,pl,ll,sts,S,cO,m,rfl,_⟩:=h
  rfl
 .obtain⟨cb,sl,lc,ow,pl,ll,sts,S,cO,m,rfl,W,sS,tz,hQ⟩:=h
  have hu:=bf (eK (by decide:1<=64) _) hr.units
  have Bx:=hr.mono (j:=1) δ
  have hr3:=hr.mono (j:=3) δ
  refine⟨_,aw (cS (PW.pt (jw (bo (mV hr.units) (kZ DR Bx (pv 1)) (fB hu (pv 0) bh) (bG _)) (jw (bo lV (aR (zg DL hr3) rfl T.len bC (ae (pv 1) ah)) (aR bS rfl T.len bC (ae (fB hu (pv 0) bh) ah)) (bG _)) (kf (bo (mV hr.units) (kZ DI Bx (pv 1)) (fB hu (pv 0) bh) (bG _)))))) (aF (bN mw)) bO)
   (aF (bN (gy (pL hr.units) (kZ DT hr (pv 1)) (cE DO hr3 (ae (fB hu (pv 0) bh) ah)) (bG _)))),?_⟩
  have ok:=sS.ok tz
  have l8:=sS.lc
  have lr:=sS.lr
  obtain⟨dx,_,_,c1,_⟩:=id W.cl
  obtain⟨ra,pa,vs,ws,O⟩:=W.own
  obtain⟨q_,OV,_,_,a3,a4,a5,a6⟩:=O.now
  have lw:=bT a4
  have g1:∀{G:Hp},bg H G->iB G ow (kV (.inr "rowers")) (some (.ref ra)):=λz=>by
   have:=iB.k (k:=.inr "rowers") (z _ _ O.d)
   rw[Af] at this
   exact this
  have g2:∀{G:Hp},bg H G->iB G ow (kV (.inr "pieces")) (some (.ref pa)):=λz=>by
   have:=iB.k (k:=.inr "pieces") (z _ _ O.d)
   rw[xt] at this
   exact this
  refine⟨_,rfl,cb,dx,_,rfl,c1,rfl,cb,sl,lc,S,sts,cO,rfl,W.cl,λl1 u1 DV p1=>?_⟩
  exists DV,.lst u1,H,l1,s1,w1,J1
  obtain⟨k1,q1⟩:=(eJ w1 (eG pZ (au p1 λ_ _ z=>z.up λb xs e=>s1 _ _ e))).one
  obtain⟨k2,q2⟩:=(eJ (s1 _ _ a3) (eG pZ (au a4 λ_ _ z=>z.up λb xs e=>s1 _ _ e))).one
  refine⟨_,rfl,ow,.ref ra,rfl,g1 s1,k1,k2,_,_,q1,q2,ok.Hr,ok.Hr,_,rfl,?_⟩
  rw[l_ xq,aI rfl]
  refine ite_no δ ?_
  refine⟨_,rfl,cb,dx,_,rfl,s1 _ _ c1,cb,sl,lc,S,sts,cO,rfl,W.cl.same s1,λJ2 s2=>⟨S.br.length,rfl,bf l8 δ,?_⟩⟩
  have iD:=s1.trans s2
  refine⟨_,rfl,ow,.ref ra,rfl,g1 iD,ra,q_,rfl,.inl (cQ.of (iD _ _ a3)),rfl,_,rfl,?_⟩
  rw[iK,lw,aI rfl]
  refine ite_no δ ?_
  refine⟨_,rfl,cb,dx,_,rfl,iD _ _ c1,rfl,cb,sl,lc,S,sts,cO,rfl,W.cl.same iD,λl3 u3 BE p3=>?_⟩
  exists BE,.lst u3,J2,l3,s3,w3,J3
  have lO:=iD.trans s3
  obtain⟨k3,q3⟩:=(eJ w3 (eG rg (au p3 λ_ _ z=>z.up λb xs e=>s3 _ _ e))).one
  obtain⟨k4,q4⟩:=(eJ (lO _ _ a5) (eG rg (au a6 λ_ _ z=>z.up λb xs e=>lO _ _ e))).one
  refine⟨_,rfl,ow,.ref pa,rfl,g2 lO,k3,k4,_,_,q3,q4,ok.layR,ok.layR,_,rfl,?_⟩
  rw[l_ Ep,aI rfl]
  refine ite_no δ ?_
  refine⟨_,rfl,cb,dx,_,rfl,lO _ _ c1,rfl,cb,sl,lc,S.rows,S,sts,cO,rfl,W.cl.same lO,rfl,sS.rows,ω,λl5 u5 J5 hl5 s5 h5 p5=>?_⟩
  have xG:=lO.trans s5
  refine⟨_,rfl,ow,.ref pa,rfl,g2 xG,pa,OV,S.rows,rfl,xG _ _ a5,au a6 λ_ _ z=>z.up λb xs e=>xG _ _ e,sS.rows,ω,λl6 u6 J6 hl6 s6 h6 p6=>?_⟩
  obtain⟨k5,q5⟩:=(eJ (s6 _ _ h5) (eG Kv (au p5 λ_ _ z=>z.up λb xs e=>s6 _ _ e))).one
  obtain⟨k6,q6⟩:=(eJ h6 (eG Kv p6)).one
  refine⟨k5,k6,_,_,q5,q6,ok.VY,ok.VY,?_⟩
  rw[l_ Rl,aI rfl]
  exact hQ _ (xG.trans s6)
end
structure Ak (K:Φ) (mg:Str->Option ag) (CE C:ai) (nm:Str):Prop where
 kd:Wc K mg C nm
 xm:exmOne K (.ref C) (.ref CE)=some true
 en:nm∈uZ
structure Wv (K:Φ) (mg:Str->Option ag) (C:ai):Prop where
 at':mg "TooMany"=some (.ref C)
 hd:hasDictIn K C=true
 na:jJ K C "many"
def R5 (H:Hp) (p:ai):Str⊕Option Nat->Prop
 | .inl s=>H p=some (.tup [.eU,.str s])
 | .inr r=>∃q,H q=some (.tup [xA r])/\H p=some (.tup [.ref q,.str ""])
def NB:R2:=λx y H Q=>∃i j,x=.str i/\y=.str j/\i.length+j.length<=sizeLine/\Q (.str (i++j)) H
def NC:List V->Hp->VK->Prop:=λxs H Q=>∃i,xs=[.int i]/\i.natAbs.log2<1920/\Q (.str (toString i)) H
def Ww (K:Φ) (mg:Str->Option ag) (CM:ai) (a:ai):TS:=vM (tQ (j0 (RE K mg a) [] E0 (ck (cj 4) eW)) (de 3)) (xV (tB (Sx (KG K) (ck (cj 4) (ck (tC (.ref CM)) eW)))) (tQ (gH NB (cj 3) (Sx NC (ck (Ol K (cj 4) "many") eW))) (de 3)) NW)
def ni {CE CM C a:ai} (N:Wv K mg CM) (y:Ak K mg CE C nm) (ha:H1 a=none)
  (h:(nm≠"TooMany"/\eA=none/\s=Txt.join "" [nm,"+"])\/(nm="TooMany"/\C=CM/\s="TooMany+9"/\∃d,eA=some d/\H1 d=some (.xd [("many",.int 9)])))
  (nx:∀J,bg H1 J->D.nx [v0,v1,v2,some (.str s),some (.ref a)] J):Ww K mg CM a D [v0,v1,v2,v3,some (.ref a)] (upd H1 a (uh a (.ref C) eA)):=by
 exists ha,(uh a (.ref C) eA),H1,a,s2,Hl,J
 obtain⟨C',mc',kc⟩:=y.kd.all "TooMany" (by decide+kernel)
 obtain rfl:C'=CM:=by have:=mc'.symm.trans N.at';injection this with this;injection this
 rcases h with⟨n,rfl,rfl⟩|⟨rfl,ec,rfl,d,rfl,hd⟩
 .refine⟨_,rfl,C,none,[],nm,rfl,Hl,.inl rfl,y.kd,y.en,λJ2 s3=>?_⟩
  refine⟨_,rfl,a,C,none,[],_,_,false,rfl,s3 _ _ Hl,.inl rfl,y.kd.ex,rfl,by rw[kc,bE (cG n)],_,rfl,?_⟩
  exact ite_no δ (nx _ (s2.trans s3))
 .have hd2:=s2 _ _ hd
  refine⟨_,rfl,C,some d,_,"TooMany",rfl,Hl,.inr ⟨d,rfl,hd2⟩,y.kd,y.en,λJ2 s3=>?_⟩
  subst ec
  refine⟨_,rfl,a,C,some d,_,_,_,true,rfl,s3 _ _ Hl,.inr ⟨d,rfl,s3 _ _ hd2⟩,y.kd.ex,rfl,by rw[kc];decide+kernel,true,rfl,?_⟩
  refine ite_yes rfl ?_
  refine⟨_,rfl,_,rfl,a,C,d,_,_,rfl,s3 _ _ Hl,s3 _ _ hd2,y.kd.ex,N.hd,N.na,rfl,_,rfl,by decide+kernel,_,_,rfl,rfl,by decide+kernel,?_⟩
  have e:Txt.join "" ["TooMany","+"]++toString (9:Int)=("TooMany+9":Str):=by decide+kernel
  exact e▸nx _ (s2.trans s3)
section
variable {P:aJ}{w:bB}{K:Φ}{mg:Str->Option ag}{base:Heap}
abbrev Ez:Stmt:=top 53
abbrev R6:List Str:=["club","what","told","fault","e"]
def iX:bY R6 ["club","what"] (ar Ez):={}
def FU (C:ai):Sp:=λvs H Q _=>∃(cb sl lc t:ai) (sts:List Cs) (S:Cs) (cO:List Cs) (D:sR) (m:Nat) (o:Str⊕Option Nat) (gk:List Cs) (S':Cs) (fW:List Cs),vs=[.ref cb,.ref t]/\eV C H cb sl lc (sts++ [S]) cO/\sts.length<=800/\cO.length<=800/\k_ H t D/\St S m/\m<=31/\Ew D sts S cO o gk S' fW/\
 ∀p kR H',Fx cb sl lc H H'->(kR=lc\/H kR=none)->eV C H' cb sl kR (gk++ [S']) fW->R5 H' p o->Q (.ref p) H'
def KR {C CE CR CT CM CA CP CU CL:ai}(F:jg K "_law_tried" "_law_tried" Ez f fd) (T:Txt mg) (mr:mg "RowError"=some (.ref CE)) (N:Wv K mg CM) (yR:Ak K mg CE CR "NoRower") (yT:Ak K mg CE CT "Twice") (yM:Ak K mg CE CM "TooMany") (yA:Ak K mg CE CA "NoName") (yP:Ak K mg CE CP "NoPiece") (yU:Ak K mg CE CU "NoNumber") (yL:Ak K mg CE CL "NothingLeft") (D1:yd P w K mg base 4 C "come" ["self","rower"] (En C CR CT CM)) (D2:yd P w K mg base 2 C "go" ["self","name"] (Rf C CA)) (D3:yd P w K mg base 3 C "weigh" ["self","name","weight"] (z_ C CA CR)) (D4:yd P w K mg base 4 C "tell" ["self","piece"] (Ej C CP)) (D5:yd P w K mg base 2 C "strike" ["self","number"] (Kk C CU)) (D6:yd P w K mg base 1 C "back" ["self"] (Ek C CL)) (D7:yd P w K mg base 1 C "again" ["self"] (zW C CL)) (DN:ZH P w K mg base 1 "_law_name_of" ["e"] (RE K mg)):dR P w K mg base fN 5 f fd ["club","what"] (FU C):=by
 exists F.ok,iX
 .obtain⟨cb,sl,lc,t,sts,S,cO,D,m,o,gk,S',fW,rfl,_⟩:=h
  rfl
 .obtain⟨cb,sl,lc,t,sts,S,cO,D,m,o,gk,S',fW,rfl,hC,l1,l2,dA,sS,tz,sp,hQ⟩:=h
  have Bx:=hr.mono (j:=1) δ
  refine⟨_,aw (lj (i:=2) iX.nd jF)
   (aw (lj (i:=3) iX.nd bh)
   (aw (He (i:=4) (C:=CE) (tb:=λW=>(xV (gI (gH HQ (gH (gg K) (cj 1) (tC (.int 0))) (tC (.str "come")))) (tQ (mQ (ck (oG C "come" (En C CR CT CM) W (cj 0) (ck (gH (gg K) (cj 1) (tC (.int 1))) eW)) eW)) (de 2)) (xV (gI (gH HQ (gH (gg K) (cj 1) (tC (.int 0))) (tC (.str "go")))) (tQ (mQ (ck (oG C "go" (Rf C CA) W (cj 0) (ck (gH (gg K) (cj 1) (tC (.int 1))) eW)) eW)) (de 2)) (xV (gI (gH HQ (gH (gg K) (cj 1) (tC (.int 0))) (tC (.str "weigh")))) (tQ (mQ (ck (oG C "weigh" (z_ C CA CR) W (cj 0) (ck (gH (gg K) (cj 1) (tC (.int 1))) (ck (gH (gg K) (cj 1) (tC (.int 2))) eW))) eW)) (de 2)) (xV (gI (gH HQ (gH (gg K) (cj 1) (tC (.int 0))) (tC (.str "tell")))) (tQ (mQ (ck (oG C "tell" (Ej C CP) W (cj 0) (ck (gH (gg K) (cj 1) (tC (.int 1))) eW)) eW)) (de 2)) (xV (gI (gH HQ (gH (gg K) (cj 1) (tC (.int 0))) (tC (.str "strike")))) (tQ (mQ (ck (oG C "strike" (Kk C CU) W (cj 0) (ck (gH (gg K) (cj 1) (tC (.int 1))) eW)) eW)) (de 2)) (xV (gI (gH HQ (gH (gg K) (cj 1) (tC (.int 0))) (tC (.str "back")))) (tQ (mQ (ck (oG C "back" (Ek C CL) W (cj 0) eW) eW)) (de 2)) (tQ (mQ (ck (oG C "again" (zW C CL) W (cj 0) eW) eW)) (de 2))))))))) (ts:=λa=>Ww K mg CM a) rfl rfl rfl iX.nd rfl rfl rfl mr
    (λac W=>(aF (cS (bo gO (aU aZ (pv 1) ao) bh (bG _)) (aF (lj (i:=2) iX.nd (bU (ae (xi D1 (hr.mono δ) pV (pv 0) (ae (aU aZ (pv 1) ao) ah)) ah)))) (aF (cS (bo gO (aU aZ (pv 1) ao) bh (bG _)) (aF (lj (i:=2) iX.nd (bU (ae (xi D2 (hr.mono δ) pV (pv 0) (ae (aU aZ (pv 1) ao) ah)) ah)))) (aF (cS (bo gO (aU aZ (pv 1) ao) bh (bG _)) (aF (lj (i:=2) iX.nd (bU (ae (xi D3 (hr.mono δ) pV (pv 0) (ae (aU aZ (pv 1) ao) (ae (aU aZ (pv 1) ao) ah))) ah)))) (aF (cS (bo gO (aU aZ (pv 1) ao) bh (bG _)) (aF (lj (i:=2) iX.nd (bU (ae (xi D4 (hr.mono δ) pV (pv 0) (ae (aU aZ (pv 1) ao) ah)) ah)))) (aF (cS (bo gO (aU aZ (pv 1) ao) bh (bG _)) (aF (lj (i:=2) iX.nd (bU (ae (xi D5 (hr.mono δ) pV (pv 0) (ae (aU aZ (pv 1) ao) ah)) ah)))) (aF (cS (bo gO (aU aZ (pv 1) ao) bh (bG _)) (aF (lj (i:=2) iX.nd (bU (ae (Ft D6 (hr.mono δ) pV (pv 0)) ah)))) (aF (lj (i:=2) iX.nd (bU (ae (Ft D7 (hr.mono δ) pV (pv 0)) ah)))))))))))))))))
    (λa=>aw (lj (i:=3) iX.nd (QO DN (qH.of Bx) (ae (pv 4) ah)))
     (aF (cS (fM (aR fH rfl T.s_ aE (ae (pv 4) (ae (fT (v:=.ref CM) rfl N.at' rfl) ah)))) (aF (lj (i:=3) iX.nd (bW Cy (pv 3) (fG zw rfl T.str gT (ae (MS (pv 4) rfl) ah))))) bO))))
   (aF (bN (bU (ae (pv 2) (ae (pv 3) ah))))))),?_⟩
  obtain⟨dx,vs0,q_,c1,_⟩:=id hC
  have l8:=sS.lc
  have lr:=sS.lr
  cases sp
  case no s1 l=>
   have nt:∀{G:Hp} {p:ai},bg H G->G p=none->Q (.ref p) (upd G p (.tup [.eU,.str s1])):=λsG hp=>hQ _ lc _ (λb o _ _ _ e=>aO hp _ b o (sG b o e)) (.inl rfl) (hC.same (sG.trans (aO hp _))) aB
   cases l
   case' c1 c|t1 c=>
    obtain⟨v,ht,fr,A2,_⟩:=dA
    obtain⟨kk,tl⟩:=fr.one
   case c1=>
    refine hV rfl ht rfl ?_
    refine⟨_,rfl,cb,dx,_,rfl,c1,rfl,iO rfl (bZ.of ht) rfl ⟨cb,sl,lc,kk,_,_,S,sts,cO,rfl,hC,ω,ω,tl,A2,?_⟩⟩
    exact .inl ⟨c,λJ sJ=>⟨yR.xm,λa ha=>ni N yR ha (.inl ⟨by decide+kernel,rfl,by decide+kernel⟩) λJ2 s2=>⟨_,rfl,_,rfl,dZ,λp hp=>nt (sJ.trans s2) hp⟩⟩⟩
   case t1=>
    repeat refine jR rfl ht rfl rfl ?_
    refine hV rfl ht rfl ?_
    refine⟨_,rfl,cb,dx,_,rfl,c1,rfl,iO rfl (bZ.of ht) rfl ⟨cb,sl,lc,kk,_,_,S,sts,cO,rfl,hC,ω,ω,tl,A2,?_⟩⟩
    exact .inl ⟨c,λJ sJ=>⟨yP.xm,λa ha=>ni N yP ha (.inl ⟨by decide+kernel,rfl,by decide+kernel⟩) λJ2 s2=>⟨_,rfl,_,rfl,dZ,λp hp=>nt (sJ.trans s2) hp⟩⟩⟩
   case' c2 c n|c3 c n e8=>
    obtain⟨a,ht,ha,⟨kk,tl⟩,A2⟩:=Aj dA c
    refine hV rfl ht rfl ?_
    refine⟨_,rfl,cb,dx,_,rfl,c1,rfl,iO rfl (bZ.of ht) rfl ⟨cb,sl,lc,kk,_,_,S,sts,cO,rfl,hC,ω,ω,tl,A2,?_⟩⟩
   case c2=>
    exact .inr (.inl ⟨a,_,rfl,rfl,c,ha,n,λJ sJ=>⟨yT.xm,λa ha=>ni N yT ha (.inl ⟨by decide+kernel,rfl,by decide+kernel⟩) λJ2 s2=>⟨_,rfl,_,rfl,dZ,λp hp=>nt (sJ.trans s2) hp⟩⟩⟩)
   case c3=>
    exact .inr (.inr (.inl ⟨a,_,rfl,rfl,c,ha,n,e8,λdd J sJ _ YS=>⟨yM.xm,λa ha=>ni N yM ha (.inr ⟨rfl,rfl,rfl,dd,rfl,YS⟩) λJ2 s2=>⟨_,rfl,_,rfl,dZ,λp hp=>nt (sJ.trans s2) hp⟩⟩⟩))
   case' g1 n|s1 h=>
    obtain⟨ht,_⟩:=dA
   case g1=>
    refine jR rfl ht rfl rfl ?_
    refine hV rfl ht rfl ?_
    refine⟨_,rfl,cb,dx,_,rfl,c1,rfl,iO rfl (bZ.of ht) rfl ⟨cb,sl,lc,_,S,sts,cO,rfl,hC,ω,ω,?_⟩⟩
    exact .inl ⟨n,λJ sJ=>⟨yA.xm,λa ha=>ni N yA ha (.inl ⟨by decide+kernel,rfl,by decide+kernel⟩) λJ2 s2=>⟨_,rfl,_,rfl,dZ,λp hp=>nt (sJ.trans s2) hp⟩⟩⟩
   case s1=>
    repeat refine jR rfl ht rfl rfl ?_
    refine hV rfl ht rfl ?_
    refine⟨_,rfl,cb,dx,_,rfl,c1,rfl,iO rfl (bZ.of ht) rfl ⟨cb,sl,lc,_,S,sts,cO,rfl,hC,ω,ω,?_⟩⟩
    exact .inl ⟨h,λJ sJ=>⟨yU.xm,λa ha=>ni N yU ha (.inl ⟨by decide+kernel,rfl,by decide+kernel⟩) λJ2 s2=>⟨_,rfl,_,rfl,dZ,λp hp=>nt (sJ.trans s2) hp⟩⟩⟩
   case' w1 n|w2 n pz=>
    obtain⟨v,ht,_,fr,fb,wv⟩:=dA
    obtain⟨kk,tl⟩:=fr.one
    have A2:rZ _:=fb.mono δ δ
    repeat refine jR rfl ht rfl rfl ?_
    refine hV rfl ht rfl ?_
    refine⟨_,rfl,cb,dx,_,rfl,c1,rfl,iO rfl (bZ.of ht) rfl (iO rfl (bZ.of ht) rfl ⟨cb,sl,lc,kk,_,_,_,S,sts,cO,rfl,hC,ω,ω,tl,A2,?_⟩)⟩
   case w1=>
    exact .inl ⟨n,λJ sJ=>⟨yA.xm,λa ha=>ni N yA ha (.inl ⟨by decide+kernel,rfl,by decide+kernel⟩) λJ2 s2=>⟨_,rfl,_,rfl,dZ,λp hp=>nt (sJ.trans s2) hp⟩⟩⟩
   case w2=>
    exact .inr (.inl ⟨n,pz,λJ sJ=>⟨yR.xm,λa ha=>ni N yR ha (.inl ⟨by decide+kernel,rfl,by decide+kernel⟩) λJ2 s2=>⟨_,rfl,_,rfl,dZ,λp hp=>nt (sJ.trans s2) hp⟩⟩⟩)
  case st r1 l=>
   have yt:∀{J kR q p},Fx cb sl lc H J->H kR=none->eV C J cb sl kR _ []->J q=none->upd J q (.tup [xA r1]) p=none->Q (.ref p) (upd (upd J q (.tup [xA r1])) p (.tup [.ref q,.str ""])):=λk2 f2 g2 hq hp=>hQ _ _ _ (λb o n1 n2 n3 e=>aO hp _ b o (aO hq _ b o (k2 b o n1 n2 n3 e))) (.inr f2) ((g2.same (aO hq _)).same (aO hp _)) ⟨_,aO hp _ _ _ aB,aB⟩
   cases l with
   |c4 c n e7 g=>
    obtain⟨a,ht,ha,⟨kk,tl⟩,A2⟩:=Aj dA c
    refine hV rfl ht rfl ?_
    refine⟨_,rfl,cb,dx,_,rfl,c1,rfl,iO rfl (bZ.of ht) rfl ⟨cb,sl,lc,kk,_,_,S,sts,cO,rfl,hC,ω,ω,tl,A2,?_⟩⟩
    exact .inr (.inr (.inr ⟨a,_,rfl,rfl,c,ha,n,e7,λkR J2 k2 f2 g2=>⟨dZ,λq hq=>⟨_,rfl,_,rfl,dZ,λp hp=>yt k2 f2 g2 hq hp⟩⟩⟩))
   |g2 n=>
    obtain⟨ht,_⟩:=dA
    refine jR rfl ht rfl rfl ?_
    refine hV rfl ht rfl ?_
    refine⟨_,rfl,cb,dx,_,rfl,c1,rfl,iO rfl (bZ.of ht) rfl ⟨cb,sl,lc,_,S,sts,cO,rfl,hC,ω,ω,?_⟩⟩
    exact .inr ⟨n,λkR J2 k2 f2 g2=>⟨dZ,λq hq=>⟨_,rfl,_,rfl,dZ,λp hp=>yt k2 f2 g2 hq hp⟩⟩⟩
   |w3 n i1 i2=>
    obtain⟨v,ht,_,fr,fb,wv⟩:=dA
    obtain⟨kk,tl⟩:=fr.one
    have A2:rZ _:=fb.mono δ δ
    obtain rfl:=KO fr
    repeat refine jR rfl ht rfl rfl ?_
    refine hV rfl ht rfl ?_
    refine⟨_,rfl,cb,dx,_,rfl,c1,rfl,iO rfl (bZ.of ht) rfl (iO rfl (bZ.of ht) rfl ⟨cb,sl,lc,kk,_,_,_,S,sts,cO,rfl,hC,ω,ω,tl,A2,?_⟩)⟩
    exact .inr (.inr ⟨n,(OH i1 i2).2,_,rfl,λkR J2 k2 f2 g2=>⟨dZ,λq hq=>⟨_,rfl,_,rfl,dZ,λp hp=>yt k2 f2 g2 hq hp⟩⟩⟩)
   |t2 oc cc=>
    obtain⟨r,ht,Of,⟨kk,tl⟩,A2⟩:=FO dA oc cc
    repeat refine jR rfl ht rfl rfl ?_
    refine hV rfl ht rfl ?_
    refine⟨_,rfl,cb,dx,_,rfl,c1,rfl,iO rfl (bZ.of ht) rfl ⟨cb,sl,lc,kk,_,_,S,sts,cO,rfl,hC,ω,ω,tl,A2,?_⟩⟩
    exact .inr ⟨r,_,rfl,rfl,Of,oc,cc,λkR J2 k2 f2 g2=>⟨dZ,λq hq=>⟨_,rfl,_,rfl,dZ,λp hp=>yt k2 f2 g2 hq hp⟩⟩⟩
   |s2 h=>
    obtain⟨ht,_⟩:=dA
    repeat refine jR rfl ht rfl rfl ?_
    refine hV rfl ht rfl ?_
    refine⟨_,rfl,cb,dx,_,rfl,c1,rfl,iO rfl (bZ.of ht) rfl ⟨cb,sl,lc,_,S,sts,cO,rfl,hC,ω,ω,?_⟩⟩
    exact .inr ⟨h,λkR J2 k2 f2 g2=>⟨dZ,λq hq=>⟨_,rfl,_,rfl,dZ,λp hp=>yt k2 f2 g2 hq hp⟩⟩⟩
  case' b0|b=>
   have ht:H t=some (.tup [.str "back"]):=dA
   repeat refine jR rfl ht rfl rfl ?_
   refine hV rfl ht rfl ?_
   refine⟨_,rfl,cb,dx,_,rfl,c1,rfl,cb,sl,lc,S,_,cO,rfl,hC,ω,ω,?_⟩
  case b0=>
   exact .inl ⟨rfl,⟨yL.xm,λa ha=>ni N yL ha (.inl ⟨by decide+kernel,rfl,by decide+kernel⟩) λJ2 s2=>⟨_,rfl,_,rfl,dZ,λp hp=>hQ p lc _ (λb o _ _ _ e=>(s2.trans (aO hp _)) b o e) (.inl rfl) (hC.same (s2.trans (aO hp _))) aB⟩⟩⟩
  case b=>
   exact .inr ⟨ς,λJ2 k2 g2=>⟨dZ,λq hq=>⟨_,rfl,_,rfl,dZ,λp hp=>hQ p lc _ (λb o n1 n2 n3 e=>aO hp _ b o (aO hq _ b o (k2 b o n1 n2 n3 e))) (.inl rfl) ((g2.same (aO hq _)).same (aO hp _)) ⟨q,aO hp _ _ _ aB,aB⟩⟩⟩⟩
  case' a0|a=>
   have ht:H t=some (.tup [.str "again"]):=dA
   repeat refine jR rfl ht rfl rfl ?_
   refine⟨_,rfl,cb,dx,_,rfl,c1,rfl,cb,sl,lc,sts++ [S],_,rfl,hC,by rw[aQ,aN];omega,ω,?_⟩
  case a0=>
   exact .inl ⟨rfl,⟨yL.xm,λa ha=>ni N yL ha (.inl ⟨by decide+kernel,rfl,by decide+kernel⟩) λJ2 s2=>⟨_,rfl,_,rfl,dZ,λp hp=>hQ p lc _ (λb o _ _ _ e=>(s2.trans (aO hp _)) b o e) (.inl rfl) (hC.same (s2.trans (aO hp _))) aB⟩⟩⟩
  case a=>
   exact .inr ⟨_,_,rfl,λJ2 k2 g2=>⟨dZ,λq hq=>⟨_,rfl,_,rfl,dZ,λp hp=>hQ p lc _ (λb o n1 n2 n3 e=>aO hp _ b o (aO hq _ b o (k2 b o n1 n2 n3 e))) (.inl rfl) ((g2.same (aO hq _)).same (aO hp _)) ⟨q,aO hp _ _ _ aB,aB⟩⟩⟩⟩
end
def jf (mu:List ai) (H:Hp) (t:ai) (D:sR):Prop:=∀H1,jW mu H H1->Tk H H1->k_ H1 t D
def jW.mono (h:jW mu H H') (s:∀x∈mu,x∈Ln):jW Ln H H':=λx o n e=>h x o (λz=>n (s x z)) e
section
variable {C:ai}{H H' H1 H2:Hp}{cb sl lc ow pl ll:ai}{sts:List Cs}{S S':Cs}{cO:List Cs}
def Wd.sV (W:Wd C H cb sl lc ow pl ll sts S cO):∀x∈[ow,pl,ll,cb,sl,lc],∃o,H x=some o:=by
 intro x hx
 obtain⟨ra,pa,vs,ws,O⟩:=W.own
 obtain⟨⟨_,_,a1⟩,⟨_,a2⟩,⟨_,a3⟩⟩:=W.cl.kinds
 simp only[aD,aG,cx] at hx
 rcases hx with rfl|rfl|rfl|rfl|rfl|rfl
 .exact⟨_,O.d⟩
 .exact⟨_,O.j4⟩
 .exact⟨_,O.ng⟩
 .exact⟨_,a1⟩
 .exact⟨_,a2⟩
 .exact⟨_,a3⟩
def eV.kpm (h:eV C H cb sl lc sts cO) (k:jW mu H H') (tk:Tk H H') (n1:cb∉mu) (n2:sl∉mu) (n3:lc∉mu):eV C H' cb sl lc sts cO:=by
 obtain⟨dx,vs,ws,c1,c2,c3,c4,c5,c6,c7,c8⟩:=h
 exact⟨dx,vs,ws,k _ _ n1 c1,c2,c3,c4,k _ _ n2 c5,k _ _ n3 c6,au c7 λ_ _ z=>z.up tk,au c8 λ_ _ z=>z.up tk⟩
end
abbrev sx (ow pl ll cb sl lc:ai):List ai:=[ow,pl,ll,cb,sl,lc]
structure WM (C:ai) (N:List ai) (H:Hp) (cb sl lc ow pl ll:ai) (sts:List Cs) (S:Cs) (cO:List Cs):Prop where
 cl:eV C H cb sl lc (sts++ [S]) cO
 own:∃ra pa vs ws,jA (sx ow pl ll cb sl lc++N) H ow ra pa pl ll vs ws sts S cO
 RI:pl≠ll
 Lo:pl≠sl
 Lp:pl≠lc
 Lq:ll≠sl
 Lr:ll≠lc
 st:∀x∈N,∃o,H x=some o
 dj:∀x∈N,x∉sx ow pl ll cb sl lc
def jA.sub {ow ra pa pl ll:ai}{vs ws:List V} (h:jA mu H ow ra pa pl ll vs ws sts S cO) (s:∀x∈Ln,x∈mu):jA Ln H ow ra pa pl ll vs ws sts S cO:=by
 obtain⟨tu,us,m2,m3,r⟩:=h.now
 exact⟨h.d,⟨tu,us,λz=>m2 (s _ z),λz=>m3 (s _ z),r⟩,h.j4,au h.pp λ_ _ z=>z.sub s,h.ng,au h.OF λ_ _ z=>z.sub s⟩
def jA.move {mu Ln:List ai}{H H':Hp}{ow ra pa pl ll:ai}{vs ws:List V}{sts:List Cs}{S:Cs}{cO:List Cs}(h:jA mu H ow ra pa pl ll vs ws sts S cO) (km:jW mu H H') (tk:Tk H H') (e1:H' ow=some (.dK (je ra pa S.n pl ll))) (e2:H' pl=some (.lst vs)) (e3:H' ll=some (.lst ws)) (nm:∀{x:ai}{o:HO},H x=some o->x∉mu->x∉Ln):jA Ln H' ow ra pa pl ll vs ws sts S cO:=by
 have up:∀{w:V} {T:Cs},FF mu H w T->FF Ln H' w T:=λ{w T} q=>by
  obtain⟨t,a,b,tu,us,h1,m1,m2,m3,h2,h3,h4,h5,h6⟩:=q
  exact⟨t,a,b,tu,us,h1,nm h2 m1,nm h3 m2,nm h5 m3,tk _ _ h2,km _ _ m2 h3,au h4 λ_ _ z=>z.up tk,km _ _ m3 h5,au h6 λ_ _ z=>z.up tk⟩
 obtain⟨tu,us,m2,m3,h3,h4,h5,h6⟩:=h.now
 exact⟨e1,⟨tu,us,nm h3 m2,nm h5 m3,km _ _ m2 h3,au h4 λ_ _ z=>z.up tk,km _ _ m3 h5,au h6 λ_ _ z=>z.up tk⟩,e2,au h.pp λ_ _ z=>up z,e3,au h.OF λ_ _ z=>up z⟩
def WM.wd {cb sl lc ow pl ll:ai} (W:WM C N H cb sl lc ow pl ll sts S cO):Wd C H cb sl lc ow pl ll sts S cO:=by
 obtain⟨ra,pa,vs,ws,O⟩:=W.own
 exact⟨W.cl,⟨ra,pa,vs,ws,O.sub λx hx=>cf _ hx⟩,W.RI,W.Lo,W.Lp,W.Lq,W.Lr⟩
def KS {H:Hp}{cb sl lc kR ow pl ll x:ai} (h:H x=some o) (n:x∉sx ow pl ll cb sl lc++N) (f:kR=lc\/H kR=none):x∉sx ow pl ll cb sl kR++N:=λz=>by
 rcases f with e|e
 .rw[e] at z;exact n z
 .have:x≠kR:=λy=>by rw[y,e] at h;cases h
  simp only[sx,F9,List.nil_append,aD,rJ] at z n
  rcases z with z|z|z|z|z|z|z
  .exact n.1 z
  .exact n.2.1 z
  .exact n.2.2.1 z
  .exact n.2.2.2.1 z
  .exact n.2.2.2.2.1 z
  .exact this z
  .exact n.2.2.2.2.2.2 z
def Ew.num (h:Ew D sts S cO (.inr (some n)) gk S' fW):n=S.n:=by
 cases h with
 |st l=>cases l;rfl
def xB:Option Nat->PyData
 |none=>.none
 |some n=>.int n
def Al (r:Option Nat):qI H (xB r) (xA r):=by
 cases r with
 |none=>exact sO
 |some n=>exact ez _
section
variable {P:aJ}{w:bB}{K:Φ}{mg:Str->Option ag}{base:Heap}
abbrev sDr:Stmt:=top 54
def ND:bY ["own","club","what","due","told","fault"] ["own","club","what"] (ar sDr):={}
def HA (C:ai):Sp:=λvs H Q _=>∃(cb sl lc ow pl ll t:ai) (N mu:List ai) (sts:List Cs) (S:Cs) (cO:List Cs) (D:sR) (m:Nat) (o:Str⊕Option Nat) (gk:List Cs) (S':Cs) (fW:List Cs),vs=[.ref ow,.ref cb,.ref t]/\WM C N H cb sl lc ow pl ll sts S cO/\(∀T∈sts,RJ T)/\(∀T∈cO,RJ T)/\sts.length<=800/\cO.length<=800/\jf mu H t D/\(∀x∈[ow,pl,ll],x∈mu)/\St S m/\m<=31/\Ew D sts S cO o gk S' fW/\
 ∀kR H',jW [ow,pl,ll,cb,sl,lc] H H'->Tk H H'->(kR=lc\/H kR=none)->WM C N H' cb sl kR ow pl ll gk S' fW->Q (.bl true) H'
def Wx (F:jg K "_law_deed_right" "_law_deed_right" sDr f fd) (T:Txt mg) (DD:Df P w K mg base 5 "_law_due" ["own","what"] OQ) (DT:Df P w K mg base 5 "_law_tried" ["club","what"] (FU C)):dR P w K mg base fN 6 f fd ["own","club","what"] (HA C):=by
 exists F.ok,ND
 .obtain⟨cb,sl,lc,ow,pl,ll,t,N,mu,sts,S,cO,D,m,o,gk,S',fW,rfl,_⟩:=h
  rfl
 .obtain⟨cb,sl,lc,ow,pl,ll,t,N,mu,sts,S,cO,D,m,o,gk,S',fW,rfl,W,Fu,Fv,l1,l2,dK,OS,sS,tz,sp,hQ⟩:=h
  refine⟨_,aw (lj (i:=3) ND.nd (cE DD hr (ae (pv 0) (ae (pv 2) ah))))
   (aw (iE (cE DT hr (ae (pv 1) (ae (pv 2) ah))) (fU rfl (bx (a_ (i:=4) ND.nd) (bx (a_ (i:=5) ND.nd) eX))))
   (aw (cS (fM (aR fR rfl T.s_ aE (ae (pv 3) (ae (gX (v:=.ty "str") rfl T.str gT rfl) ah)))) (aF (bN (jH (gy Pw (pv 4) jF (bG _)) (mK (gy gO (pv 5) (pv 3) (bG _)))))) bO)
   (aF (bN (jH (gy gO (pv 5) bh (bG _)) (jH (gy (pL hr.units) (pv 4) (pv 3) (bG _)) (mK (Cp (aR fR rfl T.s_ aE (ae (aU aZ (pv 4) ao) (ae (gX (v:=.ty "bool") rfl T.bool uM rfl) ah))))))))))),?_⟩
  obtain⟨ra,pa,xs,ys,O⟩:=W.own
  obtain⟨⟨_,_,j1⟩,⟨_,j2⟩,⟨_,j3⟩⟩:=W.cl.kinds
  have n1:cb∉ [ow,pl,ll]:=by
   simp only[aD,aG,cx,rJ]
   exact⟨λz=>(by rw[z,O.d] at j1;cases j1),vz j1 O.j4,vz j1 O.ng⟩
  have n2:sl∉ [ow,pl,ll]:=by
   simp only[aD,aG,cx,rJ]
   exact⟨(ma O.d j2).symm,cG W.Lo,cG W.Lq⟩
  have n3:lc∉ [ow,pl,ll]:=by
   simp only[aD,aG,cx,rJ]
   exact⟨(ma O.d j3).symm,cG W.Lp,cG W.Lr⟩
  refine⟨_,rfl,_,rfl,sx ow pl ll cb sl lc++N,ow,t,ra,pa,pl,ll,xs,ys,sts,S,cO,D,m,o,gk,S',fW,rfl,O,W.RI,ς,ς,ς,λx hx=>(bK.mp hx).elim (W.wd.sV x) (W.st x),Fu,Fv,l1,l2,dK H jW.refl (λ_ _ e=>e),sS,tz,sp,λv rh rj xs' ys' H1 k1 t1 O1 du=>?_⟩
  have g1:=W.cl.kpm k1 t1 n1 n2 n3
  refine⟨_,rfl,_,rfl,cb,sl,lc,t,sts,S,cO,D,m,o,gk,S',fW,rfl,g1,l1,l2,dK H1 (k1.mono OS) t1,sS,tz,sp,λp kR H2 k2 f2 g2 to=>?_⟩
  have t2:=g1.nZ k2
  have O2:=O1.move (Ln:=sx ow pl ll cb sl kR++N) (λx o n e=>k2 _ _ (λz=>n (by simp[z])) (λz=>n (by simp[z])) (λz=>n (by simp[z])) e) t2 (k2 _ _ (λz=>by rw[z] at n1;simp at n1) (λz=>by rw[z] at n2;simp at n2) (λz=>by rw[z] at n3;simp at n3) O1.d) (k2 _ _ (λz=>n1 (by simp[z])) W.Lo W.Lp O1.j4) (k2 _ _ (λz=>n1 (by simp[z])) W.Lq W.Lr O1.ng) λe n=>KS e n f2
  have Lj:∀{x:ai} {o:HO},x∈N->H x=some o->H1 x=some o/\H2 x=some o:=λ{x o} hx e=>by
   have n:=W.dj x hx
   simp only[aD,aG,cx,rJ] at n
   have e1:=k1 x o (by simp only[aD,aG,cx,rJ];exact⟨n.1,n.2.1,n.2.2.1⟩) e
   exact⟨e1,k2 x o n.2.2.2.1 n.2.2.2.2.1 n.2.2.2.2.2 e1⟩
  have f0:kR=lc\/H kR=none:=f2.imp id λz=>by
   cases e:H kR with
   |none=>rfl
   |some o1=>
    by_cases y:kR∈[ow,pl,ll]
    .simp only[aD,aG,cx] at y
     rcases y with y|y|y
     .rw[y,O1.d] at z;cases z
     .rw[y,O1.j4] at z;cases z
     .rw[y,O1.ng] at z;cases z
    .rw[k1 _ _ y e] at z;cases z
  have np:pl≠kR/\ll≠kR:=by
   rcases f2 with z|z
   .rw[z];exact⟨W.Lp,W.Lr⟩
   .exact⟨λy=>(by rw[<-y,O1.j4] at z;cases z),λy=>(by rw[<-y,O1.ng] at z;cases z)⟩
  have fin:∀{J:Hp},bg H2 J->Q (.bl true) J:=λ{J} sJ=>hQ kR J (λx o n e=>sJ _ _ (by
    have n':=n
    simp only[aD,aG,cx,rJ] at n'
    exact k2 _ _ n'.2.2.2.1 n'.2.2.2.2.1 n'.2.2.2.2.2 (k1 _ _ (by simp only[aD,aG,cx,rJ];exact⟨n'.1,n'.2.1,n'.2.2.1⟩) e))) (t1.trans (t2.trans (fe sJ))) f0 ⟨g2.same sJ,⟨rh,rj,xs',ys',O2.same sJ⟩,W.RI,W.Lo,np.1,W.Lq,np.2,λx hx=>by
   obtain⟨o,e⟩:=W.st x hx
   exact⟨o,sJ _ _ (Lj hx e).2⟩,λx hx z=>by
   obtain⟨o,e⟩:=W.st x hx
   exact KS (N:=[]) (Lj hx e).1 (by rw[cU];exact W.dj x hx) f2 (by rw[cU];exact z)⟩
  cases o with
  |inl s=>
   obtain rfl:v=.str s:=du
   have to':H2 p=some (.tup [.eU,.str s]):=to
   refine GY (bZ.of to') ?_
   refine⟨_,rfl,0,_,_,.str s,rfl,fi.mpr rfl,.inr (.inr (.inl rfl)),_,rfl,?_⟩
   refine ite_yes rfl ?_
   refine⟨_,rfl,rfl,_,rfl,?_⟩
   refine ite_yes δ ?_
   refine⟨_,rfl,_,rfl,rfl,?_⟩
   rw[lZ,aI rfl]
   exact fin (bg.refl _)
  |inr r=>
   obtain⟨q1,rfl,C0⟩:=du
   obtain⟨q2,BW,to'⟩:=to
   have aap:=t2 _ _ C0
   obtain⟨k3,e3⟩:=(gC (ds:=[xB r]) aap (aW (Al r) dU)).one
   obtain⟨k4,e4⟩:=(gC (ds:=[xB r]) BW (aW (Al r) dU)).one
   obtain⟨k5,e5⟩:=(Al (H:=H2) r).one
   have ly:Lay (.tuple [xB r]):=by
    cases r with
    |none=>exact⟨by simp[xB,PyData.canLay0,PyData.canLayAll0],by simp[xB,PyData.depth,PyData.depthAll]⟩
    |some n=>
     have:=sp.num
     have:=sS.n
     refine(Bd.tuple (n:=1) (p:=0) (m:=1) (ds:=[.int n]) (λx hx=>?_) (av 1)).lay δ
     rw[bA.mp hx]
     exact i_ ω
   refine GY (bZ.of to') ?_
   refine⟨_,rfl,k3,_,_,_,rfl,e3,.inr (.inr (.inl rfl)),_,rfl,?_⟩
   refine ite_no (λz=>Bool.noConfusion (show false=true from z)) ?_
   refine⟨_,rfl,rfl,_,rfl,?_⟩
   refine ite_yes δ ?_
   refine⟨_,rfl,_,rfl,k4,k3,_,_,e4,e3,ly,ly,_,rfl,?_⟩
   have ee:PyData.eqv (.tuple [xB r]) (.tuple [xB r])=true:=by
    cases r with
    |none=>rfl
    |some n=>simp[PyData.eqv,PyData.eqvAll,xB]
   refine ite_yes ee ?_
   refine iO rfl (bZ.of BW) rfl ⟨k5,_,_,xB r,rfl,e5,.inr (.inl rfl),_,rfl,?_⟩
   rw[show Aw (xB r) "bool"=false by cases r<;>rfl]
   exact fin (bg.refl _)
end
def NF (ra pa:ai) (n:Int) (pl ll:ai):qT [] (je ra pa n pl ll)=je ra pa n pl ll:=by unfold qT je;rfl
def jb {H:Hp} (e:H x=some o) (h:H y=none):x≠y:=λz=>by rw[z,h] at e;cases e
section
variable {P:aJ}{w:bB}{K:Φ}{mg:Str->Option ag}{base:Heap}
abbrev sW:Stmt:=top 49
def Wy:bY [] [] (ar sW):={}
structure Wz (H H':Hp) (ow ra pa pl ll:ai):Prop where
 s:bg H H'
 d:H' ow=some (.dK (je ra pa 0 pl ll))
 FT:H' ra=some (.lst [])
 xJ:H' pa=some (.lst [])
 j4:H' pl=some (.lst [])
 ng:H' ll=some (.lst [])
 no:H ow=none/\H ra=none/\H pa=none/\H pl=none/\H ll=none
 ne:pl≠ll/\ra≠pl/\ra≠ll/\pa≠pl/\pa≠ll
def xC:Sp:=λvs H Q _=>vs=[]/\∀ow ra pa pl ll H',Wz H H' ow ra pa pl ll->Q (.ref ow) H'
def R7 (F:jg K "_law_club" "_law_club" sW f fd):dR P w K mg base fN 1 f fd [] xC:=by
 exists F.ok,Wy
 .obtain⟨rfl,_⟩:=h
  rfl
 .obtain⟨rfl,hQ⟩:=h
  obtain⟨p1,p2,k1,k2,k3,k4,k5,u1,u2,u3,u4,u5,eb,e1,g1,e2,g2,e3,g3,e4,g4,e5,g5⟩:∃p1 p2 k1 k2 k3 k4 k5 u1 u2 u3 u4 u5,fL sW=[.Return (some (.Dict [some k1,some k2,some k3,some k4,some k5] [u1,u2,u3,u4,u5] p2)) p1]/\PE (eQ fN P w K mg base [] "_law_club" (ar sW) f cdv A outer s H E).kz k1 (tC (.str "rowers"))/\PE (eQ fN P w K mg base [] "_law_club" (ar sW) f cdv A outer s H E).kz u1 (xW eW)/\PE (eQ fN P w K mg base [] "_law_club" (ar sW) f cdv A outer s H E).kz k2 (tC (.str "pieces"))/\PE (eQ fN P w K mg base [] "_law_club" (ar sW) f cdv A outer s H E).kz u2 (xW eW)/\PE (eQ fN P w K mg base [] "_law_club" (ar sW) f cdv A outer s H E).kz k3 (tC (.str "count"))/\PE (eQ fN P w K mg base [] "_law_club" (ar sW) f cdv A outer s H E).kz u3 (tC (.int 0))/\PE (eQ fN P w K mg base [] "_law_club" (ar sW) f cdv A outer s H E).kz k4 (tC (.str "past"))/\PE (eQ fN P w K mg base [] "_law_club" (ar sW) f cdv A outer s H E).kz u4 (xW eW)/\PE (eQ fN P w K mg base [] "_law_club" (ar sW) f cdv A outer s H E).kz k5 (tC (.str "later"))/\PE (eQ fN P w K mg base [] "_law_club" (ar sW) f cdv A outer s H E).kz u5 (xW eW):=⟨_,_,_,_,_,_,_,_,_,_,_,_,rfl,bh,cW ah,bh,cW ah,bh,ao,bh,cW ah,bh,cW ah⟩
  rw[eb]
  refine⟨_,aF (bN (Mg (pN e1 g1 (pN e2 g2 (pN e3 g3 (pN e4 g4 (pN e5 g5 Mf))))) rfl rfl (by intro z;cases z) (by show 5<=15;decide))),?_⟩
  intro ow how
  exists how,.dK [],H,ow,s1,w1,H1
  refine⟨dZ,λa ha=>?_⟩
  exists ha,.lst [],H1,a,s2,w2,H2
  refine⟨dZ,λb hb=>?_⟩
  exists hb,.lst [],H2,b,s3,w3,H3
  refine⟨dZ,λpl j4=>?_⟩
  exists j4,.lst [],H3,pl,s4,w4,H4
  refine⟨dZ,λll ng=>?_⟩
  exists ng,.lst [],H4,ll,s5,w5,H5
  have Ey:=s2.trans (s3.trans (s4.trans s5))
  refine⟨Ey _ _ w1,je a b 0 pl ll,rfl,by show 5<=15;decide,?_⟩
  rw[NF]
  have F1:∀{x:ai} {o:HO},H x=some o->x≠ow:=λe=>jb e how
  have ow5:=Ey _ _ w1
  have u:∀{x:ai} {vs:List V},H5 x=some (.lst vs)->upd H5 ow (.dK (je a b 0 pl ll)) x=some (.lst vs):=λ{x vs} e=>by rw[bb (λz=>by rw[z,ow5] at e;cases e)];exact e
  have a4:=(s3.trans s4) _ _ w2
  have b4:=s4 _ _ w3
  have nn:∀{G:Hp} {x:ai},bg H G->G x=none->H x=none:=λsG e=>cD sG e
  exact hQ ow a b pl ll _ ⟨λx o e=>by rw[bb (F1 e)];exact(s1.trans Ey) _ _ e,aB,u (s5 _ _ a4),u (s5 _ _ b4),u (s5 _ _ w4),u w5,⟨how,nn s1 ha,nn (s1.trans s2) hb,nn (s1.trans (s2.trans s3)) j4,nn (s1.trans (s2.trans (s3.trans s4))) ng⟩,⟨jb w4 ng,jb (s3 _ _ w2) j4,jb a4 ng,jb w3 j4,jb b4 ng⟩⟩
end
def KU:ff (.tuple [a,b])=false:=rfl
def KW:ff (.tuple [.str x,.str "Both",d])=false:=by
 show(fJ (.str x)&&(hU (.str "Both")&&eZ d))=false
 rw[show hU (.str "Both")=false by decide+kernel,bz,fj]
def KY:ff (.tuple [.str x,.str y,.int 0])=false:=by
 show(fJ (.str x)&&(hU (.str y)&&eZ (.int 0)))=false
 rw[show eZ (.int 0)=false by decide+kernel,fj,fj]
def EA:ff (.tuple [.str "",.str y,d])=false:=by
 show(fJ (.str "")&&(hU (.str y)&&eZ d))=false
 rw[show fJ (.str "")=false by decide+kernel,bz]
def KZ:ff (.list ds)=false:=rfl
def HB:gP (.list ds)=false:=rfl
def WA:gP (.tuple [a,b,c,d])=false:=rfl
def WB:gP (.tuple [a,b,c,d,e,f])=false:=rfl
def HC:gP (.tuple [.int i,b,c,d,e])=false:=by
 simp[gP,kN]
def HD:gP (.tuple [a,b,.int 0,d,e])=false:=by
 simp[gP,show j9 (.int 0)=false by decide+kernel]
end K13
namespace L2
open PySem
def strOf:Expr->Option Str
 | .Constant (.str x) _ _=>some x
 |_=>none
def WD (ss:List Str):TA:=λ_ H Q=>Q (ss.map V.str) H
def vA:∀{es:List Expr}{ss:List Str},es.map strOf=ss.map some->PA X es (WD ss)
 | [],[],_=>ah
 |e::es,x::ss,h=>by
  rw[bQ,bQ,Ic] at h
  have ih:=vA (X:=X) h.2
  have h1:=h.1
  unfold strOf at h1
  split at h1
  .cases h1
   exact ae bh ih
  .cases h1
 | [],_::_,h=>by cases h
 |_::_,[],h=>by cases h
end L2
namespace K13
open PySem L2 HT PySem.W
abbrev gD:Stmt:=top 55
abbrev kO:List Str:=["deck","own","way","names","name","rower","bad","pieces","piece","numbers"]
def mq (i:Nat):Stmt:=(fL gD).getD i (.Pass ⟨0,0,0,0⟩)
def R8:fL gD=[mq 0,mq 1,mq 2,mq 3,mq 4,mq 5,mq 6,mq 7,mq 8,mq 9]:=rfl
def md:bY kO ["deck","own"] (ar gD):={}
def R9 (mu:List ai) (H:Hp) (d:PyData) (v:V):Prop:=∀H1,jW mu H H1->Tk H H1->qI H1 d v
def EB (p:PyData->Bool) (mu:List ai) (H:Hp) (v:V):Prop:=∃d,R9 mu H d v/\rZ d/\p d=false
def EB.up (h:EB p mu H v) (k:jW mu H H') (t:Tk H H'):EB p mu H' v:=by
 obtain⟨d,h1,h2⟩:=h
 exact⟨d,λH1 k1 t1=>h1 H1 (k.trans k1) (t.trans t1),h2⟩
def kP (h:H a=some (.tup vs)) (t:∀H1,jW mu H H1->Tk H H1->yg H1 ds vs):R9 mu H (.tuple ds) (.ref a):=λH1 k1 t1=>gC (t1 _ _ h) (t H1 k1 t1)
def BN (h:H a=some (.lst vs)) (n:a∉mu) (t:∀H1,jW mu H H1->Tk H H1->yg H1 ds vs):R9 mu H (.list ds) (.ref a):=λH1 k1 t1=>eJ (k1 _ _ n h) (t H1 k1 t1)
def jh (dk:cH H k c) (kp:eE k H H'):Tk H H':=λb xs e=>kp _ _ (λz=>by
 obtain⟨⟨_,_,q,_⟩,_⟩:=dk;rw[z,q] at e;cases e) e
def BO (h:k∈mu) (kp:eE k H H'):jW mu H H':=λx o n e=>kp _ _ (λz=>n (z▸h)) e
def bc (h:Bd 13 1 d) (t:∀x∈ds,Bd 13 1 x):∀x∈d::ds,Bd 13 1 x:=List.forall_mem_cons.mpr ⟨h,t⟩
def bn:∀x∈([]:List PyData),Bd 13 1 x:=λ_ h=>nomatch h
def yi (h:∀d∈ds,Bd 13 1 d) (l:Nat.ble ds.length 6=true:=by exact rfl):Bd 79 2 (.tuple ds)/\rZ (.tuple ds)/\rZ (.list ds):=by
 have l:=Nat.le_of_ble_eq_true l
 have a:=(Bd.tuple (n:=13) (p:=1) (m:=6) h l)
 have b:=(Bd.list (n:=13) (p:=1) (m:=6) h l)
 exact⟨a.mono δ δ,a.mono δ δ,b.mono δ δ⟩
def S3 (h:B3 x):Bd 13 1 (.str x):=(mX h.1 h.2).mono δ δ
def Ls (h:i.natAbs<2^200):Bd 13 1 (.int i):=(i_ h).mono δ δ
def XD:yg H [.str x,.str y,.int i] [.str x,.str y,.int i]:=aW (ix _) (aW (ix _) (aW (ez _) dU))
def EC (h:x∈nh):B3 x:=⟨(qv x h).1,(qv x h).2.1⟩
def jW.up (h:jW mu H H1):jW (k::mu) H H1:=h.mono λ_ z=>cB _ z
def HE (h:H p=some (.tup [.str "come",v])) (b:EB ff (k::mu) H v):∃De,jf mu H p De:=by
 obtain⟨d,h1,h2,h3⟩:=b
 exact⟨.qd d,λH1 k1 t1=>⟨v,t1 _ _ h,h1 H1 k1.up t1,h2,.inl h3⟩⟩
def HF (h:H p=some (.tup [.str "come",.ref t])) (ht:H t=some (.tup [.str x,.str y,.int i])) (hx:x∈nh) (hy:y∈qe) (i1:1<=i) (i2:i<=1000000):∃De,jf mu H p De:=by
 have f:=RN hx hy i1 i2
 exact⟨.qd (rD (x,y,i)),λH1 k1 t1=>⟨.ref t,t1 _ _ h,pZ _ (x,y,i) ⟨t,rfl,t1 _ _ ht⟩,f.1,.inr ⟨t,(x,y,i),rfl,rfl,f.2,t1 _ _ ht,hx,hy,i1,i2⟩⟩⟩
structure D4 (k L t:ai) (c:Int) (x y:Str) (i:Int) (H1:Hp):Prop where
 dk:cH H1 k c
 hL:H1 L=some (.lst (nh.map V.str))
 nL:L≠k
 hx:x∈nh
 ht:H1 t=some (.tup [.str x,.str y,.int i])
 hy:y∈qe
 i1:1<=i
 i2:i<=1000000
section
variable {P:aJ}{w:bB}{K:Φ}{mg:Str->Option ag}{base:Heap}
def dd0 (hr:eB 3 (A.deeper (Ψ "_law_deed" (ar gD) s.heap.objs.size f cdv))) (DP:Df P w K mg base 1 "_law_pick" ["deck","many"] gi) (DW:Df P w K mg base 2 "_law_weight" ["deck"] Qp):∃r0 r1 r2 r3 t0 t1 t2 t3,mq 0=r0/\mq 1=r1/\mq 2=r2/\mq 3=r3/\PS ((eQ fN P w K mg base kO "_law_deed" (ar gD) f cdv A outer s H E).kz) r0 t0/\PS ((eQ fN P w K mg base kO "_law_deed" (ar gD) f cdv A outer s H E).kz) r1 t1/\PS ((eQ fN P w K mg base kO "_law_deed" (ar gD) f cdv A outer s H E).kz) r2 t2/\PS ((eQ fN P w K mg base kO "_law_deed" (ar gD) f cdv A outer s H E).kz) r3 t3/\∀(D:Ends) (u:TS) (H1:Hp) (k:ai) (v1 v2 v3 v4 v5 v6 v7 v8 v9:Option V) (c:Int),cH H1 k c->c<=5000->(∀(w:Int) L x t y i c' H2,0<=w->w<18->eE k H1 H2->c'<=c+10->H1 L=none->D4 k L t c' x y i H2->u D [some (.ref k),v1,some (.int w),some (.ref L),some (.str x),some (.ref t),v6,v7,v8,v9] H2)->vM t0 (vM t1 (vM t2 (vM t3 u))) D [some (.ref k),v1,v2,v3,v4,v5,v6,v7,v8,v9] H1:=by
 refine⟨_,_,_,_,_,_,_,_,rfl,rfl,rfl,rfl,lj (i:=2) md.nd (cE DP (hr.mono δ) (ae (pv 0) (ae ao ah))),lj (i:=3) md.nd (cW (vA (ss:=nh) rfl)),lj (i:=4) md.nd (aU b_ (pv 3) (cE DP (hr.mono δ) (ae (pv 0) (ae ao ah)))),lj (i:=5) md.nd (bU (ae (pv 4) (ae (aU b_ (cW (vA (ss:=qe) rfl)) (cE DP (hr.mono δ) (ae (pv 0) (ae ao ah)))) (ae (cE DW (hr.mono δ) (ae (pv 0) ah)) ah)))),?_⟩
 intro D u H1 k v1 v2 v3 v4 v5 v6 v7 v8 v9 c dk c5 nx
 refine pk rfl dk ω δ δ λw c1 J1 k1 d1 e1 g1 l1=>?_
 refine⟨dZ,λL hL=>?_⟩
 have nk:L≠k:=λz=>by obtain⟨o,ho⟩:=d1.some;rw[<-z,hL] at ho;cases ho
 exists hL,.lst (nh.map V.str),J1,L,s2,w2,J2
 refine⟨_,rfl,pk rfl (d1.keep (λo e=>s2 _ _ e)) ω δ δ λr c3 J3 k3 d3 e3 g3 l3=>?_⟩
 obtain⟨o7,B6⟩:=ud (xs:=nh.map V.str) g3 (by rw[aq];exact l3)
 rw[ke] at B6
 have hx:nh[r.toNat]'(by rw[aq] at o7;exact o7)∈nh:=cF _
 generalize nh[r.toNat]'(by rw[aq] at o7;exact o7)=x at B6 hx
 have w3:=k3 _ _ nk w2
 refine⟨L,_,r,_,rfl,rfl,cQ.of w3,B6,?_⟩
 refine⟨_,rfl,dZ,λe he=>?_⟩
 have nk4:e≠k:=λz=>by obtain⟨o,ho⟩:=d3.some;rw[<-z,he] at ho;cases ho
 exists he,.lst (qe.map V.str),J3,e,s4,w4,J4
 refine pk rfl (d3.keep (λo e=>s4 _ _ e)) ω δ δ λr5 c5 J5 k5 d5 e5 g5 l5=>?_
 obtain⟨NG,R_⟩:=ud (xs:=qe.map V.str) g5 (by rw[aq];exact l5)
 rw[ke] at R_
 have hy:qe[r5.toNat]'(by rw[aq] at NG;exact NG)∈qe:=cF _
 generalize qe[r5.toNat]'(by rw[aq] at NG;exact NG)=y at R_ hy
 refine⟨e,_,r5,_,rfl,rfl,cQ.of (k5 _ _ nk4 w4),R_,?_⟩
 refine⟨_,rfl,k,c5,rfl,d5,ω,λi c6 J6 k6 d6 e6 i1 i2=>?_⟩
 refine⟨dZ,λt ht=>?_⟩
 have s7:=aO ht (.tup [.str x,.str y,.int i])
 refine nx w L x t y i c6 _ g1 l1 ((((k1.trans s2.keep).trans (k3.trans s4.keep)).trans (k5.trans k6)).trans s7.keep) ω (oE k1 nk hL) ⟨d6.keep (λo e=>s7 _ _ e),s7 _ _ (k6 _ _ nk (k5 _ _ nk (s4 _ _ w3))),nk,hx,aB,hy,i1,i2⟩
def dd4 (hr:eB 3 (A.deeper (Ψ "_law_deed" (ar gD) s.heap.objs.size f cdv))) (DP:Df P w K mg base 1 "_law_pick" ["deck","many"] gi) (T:Txt mg):∃r tt,mq 4=r/\PS ((eQ fN P w K mg base kO "_law_deed" (ar gD) f cdv A outer s H E).kz) r tt/\∀(D:Ends) (mu:List ai) (H1:Hp) (k L t:ai) (v1 v6 v7 v8 v9:Option V) (w c:Int) (x y:Str) (i:Int),D4 k L t c x y i H1->c<=5000->(∀x∈mu,∃o,H1 x=some o)->(4<=w->D.nx [some (.ref k),v1,some (.int w),some (.ref L),some (.str x),some (.ref t),v6,v7,v8,v9] H1)->(∀t De c' H2,eE k H1 H2->cH H2 k c'->c'<=c+200->jf mu H2 t De->D.rt (.ref t) H2)->tt D [some (.ref k),v1,some (.int w),some (.ref L),some (.str x),some (.ref t),v6,v7,v8,v9] H1:=by
 obtain⟨e0,es,b1,p0,p1,p2,p3,er,a0,a1,a7⟩:∃e0 es b1 p0 p1 p2 p3,mq 4=.If e0 [.Assign [.Name "bad" p0] (.List es p1) p2,b1] [] p3/\PT ((eQ fN P w K mg base kO "_law_deed" (ar gD) f cdv A outer s H E).kz) e0 (gI (gH (HP λi j=>.bl (decide (i<j))) (cj 2) (tC (.int 4))))/\PA ((eQ fN P w K mg base kO "_law_deed" (ar gD) f cdv A outer s H E).kz) es (ck (tC .eU) (ck (mQ (ck (cj 4) (ck (tC (.str "both")) eW))) (ck (mQ (ck (cj 4) (ck (tC (.str "Both")) (ck (tC (.int 7)) eW)))) (ck (mQ (ck (cj 4) (ck (tC (.str "both")) (ck (tC (.int 0)) eW)))) (ck (Sx (λxs H Q=>∃p ys,xs=[.ref p]/\(cQ K H p ys\/bZ K H p ys)/\∀l,H l=none->Q (.ref l) (upd H l (.lst ys))) (ck (cj 5) eW)) (ck (mQ (ck (tC (.str "")) (ck (tC (.str "port")) (ck (tC (.int 7)) eW)))) eW))))))/\PS ((eQ fN P w K mg base kO "_law_deed" (ar gD) f cdv A outer s H E).kz) b1 (LI (mQ (ck (tC (.str "come")) (ck (XY (gI (gH HQ (j0 gi [] E0 (ck (cj 0) (ck (tC (.int 10)) eW))) (tC (.int 0)))) (gH (Gr K) (cj 6) (j0 gi [] E0 (ck (cj 0) (ck (tC (.int 6)) eW)))) (cj 5)) eW)))):=⟨_,_,_,_,_,_,_,rfl,bo rN (pv 2) ao (bG _),(ae jF (ae (bU (ae (pv 4) (ae bh ah))) (ae (bU (ae (pv 4) (ae bh (ae ao ah)))) (ae (bU (ae (pv 4) (ae bh (ae ao ah)))) (ae (fG oi rfl T.list uN (ae (pv 5) ah)) (ae (bU (ae bh (ae bh (ae ao ah)))) ah)))))),bN (bU (ae bh (ae (pC (bo gO (cE DP (hr.mono δ) (ae (pv 0) (ae ao ah))) ao (bG _)) (aU b_ (pv 6) (cE DP (hr.mono δ) (ae (pv 0) (ae ao ah)))) (pv 5)) ah)))⟩
 refine⟨_,_,er,cS a0 (aw (lj (i:=6) md.nd (cW a1)) (aF a7)) bO,?_⟩
 intro D mu H1 k L t v1 v6 v7 v8 v9 w c x y i F c5 st nx fin
 refine⟨_,rfl,_,_,rfl,rfl,_,rfl,?_⟩
 refine eY (λq=>?_) (λq=>nx (by have:=jd (ik.mpr q);omega))
 refine⟨_,rfl,dZ,λt1 h1=>?_⟩
 exists h1,.tup [.str x,.str "both"],H1,t1,s1,w1,M1
 refine⟨_,rfl,dZ,λt2 h2=>?_⟩
 exists h2,.tup [.str x,.str "Both",.int 7],M1,t2,s2,w2,M2
 refine⟨_,rfl,dZ,λt3 h3=>?_⟩
 exists h3,.tup [.str x,.str "both",.int 0],M2,t3,s3,w3,M3
 refine⟨_,rfl,t,_,rfl,.inr (bZ.of (((s1.trans s2).trans s3) _ _ F.ht)),λt4 h4=>?_⟩
 exists h4,.lst [.str x,.str y,.int i],M3,t4,s4,w4,M4
 refine⟨dZ,λt5 h5=>?_⟩
 exists h5,.tup [.str "",.str "port",.int 7],M4,t5,s5,w5,M5
 refine⟨dZ,λt6 h6=>?_⟩
 exists h6,.lst [.eU,.ref t1,.ref t2,.ref t3,.ref t4,.ref t5],M5,t6,s6,w6,M6
 have zz:bg H1 M6:=(((((s1.trans s2).trans s3).trans s4).trans s5).trans s6)
 have d6:cH M6 k c:=F.dk.keep λo e=>zz _ _ e
 have n6:t6≠k:=λz=>by obtain⟨o,ho⟩:=F.dk.some;rw[<-z] at ho;rw[cD ((((s1.trans s2).trans s3).trans s4).trans s5) h6] at ho;cases ho
 have oT:=EC F.hx
 have oY:=(xw y F.hy).1
 have si:i.natAbs<2^200:=by have:=F.i1;have:=F.i2;omega
 have ob:∀s∈(["both","Both","port",""]:List Str),Bd 13 1 (.str s):=λs h=>S3 ((show∀s∈(["both","Both","port",""]:List Str),B3 s by unfold B3;decide+kernel) s h)
 have m4:t4∉k::mu:=λz=>by
  have:∃o,H1 t4=some o:=by
   rcases aD.mp z with z|z
   .rw[z];exact F.dk.some
   .exact st _ z
  obtain⟨o,ho⟩:=this
  rw[cD ((s1.trans s2).trans s3) h4] at ho;cases ho
 have bad:∀v∈[V.eU,.ref t1,.ref t2,.ref t3,.ref t4,.ref t5],EB ff (k::mu) M6 v:=λv hv=>by
  simp only[aD,aG,cx] at hv
  rcases hv with rfl|rfl|rfl|rfl|rfl|rfl
  .exact⟨.none,λ_ _ _=>sO,zH.mono δ δ,rfl⟩
  .exact⟨_,kP (((((s2.trans s3).trans s4).trans s5).trans s6) _ _ w1) λ_ _ _=>aW (ix _) (aW (ix _) dU),(yi (bc (S3 oT) (bc (ob "both" δ) bn))).2.1,KU⟩
  .exact⟨_,kP ((((s3.trans s4).trans s5).trans s6) _ _ w2) λ_ _ _=>XD,(yi (bc (S3 oT) (bc (ob "Both" δ) (bc (Ls δ) bn)))).2.1,KW⟩
  .exact⟨_,kP (((s4.trans s5).trans s6) _ _ w3) λ_ _ _=>XD,(yi (bc (S3 oT) (bc (ob "both" δ) (bc (Ls δ) bn)))).2.1,KY⟩
  .exact⟨_,BN ((s5.trans s6) _ _ w4) m4 λ_ _ _=>XD,(yi (bc (S3 oT) (bc (S3 oY) (bc (Ls si) bn)))).2.2,KZ⟩
  .exact⟨_,kP (s6 _ _ w5) λ_ _ _=>XD,(yi (bc (ob "" δ) (bc (ob "port" δ) (bc (Ls δ) bn)))).2.1,EA⟩
 refine pk rfl d6 ω δ δ λr c7 M7 k7 d7 e7 g7 l7=>?_
 refine⟨rfl,_,rfl,?_⟩
 have t07:Tk H1 M7:=(fe zz).trans (jh d6 k7)
 refine eY (λq=>?pos) (λq=>?neg)
 case pos=>
  refine⟨_,rfl,pk rfl d7 ω δ δ λr8 c8 M8 k8 d8 e8 g8 l8=>?_⟩
  obtain⟨o7,B6⟩:=ud (xs:=[V.eU,.ref t1,.ref t2,.ref t3,.ref t4,.ref t5]) g8 l8
  have bv:=bad _ (cF o7)
  generalize [V.eU,.ref t1,.ref t2,.ref t3,.ref t4,.ref t5][r8.toNat]=v at B6 bv
  refine⟨t6,_,r8,v,rfl,rfl,cQ.of (k8 _ _ n6 (k7 _ _ n6 w6)),B6,dZ,λp hp=>?_⟩
  have s9:=aO hp (.tup [.str "come",v])
  have kk:=k7.trans (k8.trans s9.keep)
  obtain⟨De,dK⟩:=HE (mu:=mu) (aB (H:=M8) (a:=p) (o:=.tup [.str "come",v])) (bv.up (BO (cy ..) kk) (jh d6 kk))
  exact fin p De c8 _ (zz.keep.trans kk) (d8.keep λo e=>s9 _ _ e) ω dK
 case neg=>
  refine⟨_,rfl,dZ,λp hp=>?_⟩
  have s9:=aO hp (.tup [.str "come",.ref t])
  obtain⟨De,dK⟩:=HF (mu:=mu) (aB (H:=M7) (a:=p) (o:=.tup [.str "come",.ref t])) (s9 _ _ (t07 _ _ F.ht)) F.hx F.hy F.i1 F.i2
  exact fin p De c7 _ ((zz.keep.trans k7).trans s9.keep) (d7.keep λo e=>s9 _ _ e) ω dK
def dd5 (hr:eB 3 (A.deeper (Ψ "_law_deed" (ar gD) s.heap.objs.size f cdv))) (DP:Df P w K mg base 1 "_law_pick" ["deck","many"] gi) (T:Txt mg):∃r tt,mq 5=r/\PS ((eQ fN P w K mg base kO "_law_deed" (ar gD) f cdv A outer s H E).kz) r tt/\∀(D:Ends) (mu:List ai) (H1:Hp) (k L t:ai) (v1 v6 v7 v8 v9:Option V) (w c:Int) (x y:Str) (i:Int),D4 k L t c x y i H1->c<=5000->(w≠4->D.nx [some (.ref k),v1,some (.int w),some (.ref L),some (.str x),some (.ref t),v6,v7,v8,v9] H1)->(∀t De c' H2,eE k H1 H2->cH H2 k c'->c'<=c+200->jf mu H2 t De->D.rt (.ref t) H2)->tt D [some (.ref k),v1,some (.int w),some (.ref L),some (.str x),some (.ref t),v6,v7,v8,v9] H1:=by
 refine⟨_,_,rfl,cS (bo gO (pv 2) ao (bG _)) (aF (bN (bU (ae bh (ae (aU b_ (cW (ae (pv 4) (ae bh (ae bh ah)))) (aR (yn rfl) rfl T.max uk (ae ao (ae (bW kW (cE DP (hr.mono δ) (ae (pv 0) (ae ao ah))) ao) ah)))) ah))))) bO,?_⟩
 intro D mu H1 k L t v1 v6 v7 v8 v9 w c x y i F c5 nx fin
 refine⟨_,rfl,rfl,_,rfl,?_⟩
 rw[iK]
 refine eY (λq=>?_) (λq=>nx (jd (ik.mpr q)))
 refine⟨_,rfl,dZ,λl hl=>?_⟩
 have nl:l≠k:=λz=>by obtain⟨o,ho⟩:=F.dk.some;rw[<-z,hl] at ho;cases ho
 exists hl,.lst [.str x,.str "nobody",.str ""],H1,l,s1,w1,M1
 refine pk rfl (F.dk.keep (λo e=>s1 _ _ e)) ω δ δ λr c2 M2 k2 d2 e2 g2 l2=>?_
 obtain⟨z,hz,oz⟩:∃z,qA [V.str x,.str "nobody",.str ""] (if r-3>0 then r-3 else 0)=some (.str z)/\B3 z:=by
  by_cases h:r-3>0
  .rw[aT h]
   rcases(by omega:r=4\/r=5) with rfl|rfl
   .exact⟨"nobody",rfl,by unfold B3;decide+kernel⟩
   .exact⟨"",rfl,by unfold B3;decide+kernel⟩
  .rw[aP h]
   exact⟨x,rfl,EC F.hx⟩
 refine⟨_,_,rfl,rfl,_,_,rfl,l,_,_,_,rfl,rfl,cQ.of (k2 _ _ nl w1),hz,dZ,λp hp=>?_⟩
 have s3:=aO hp (.tup [.str "go",.str z])
 exact fin p (.go z) c2 _ ((s1.keep.trans k2).trans s3.keep) (d2.keep λo e=>s3 _ _ e) ω λH3 _ t3=>⟨t3 _ _ aB,oz⟩
def dd6 (hr:eB 3 (A.deeper (Ψ "_law_deed" (ar gD) s.heap.objs.size f cdv))) (DP:Df P w K mg base 1 "_law_pick" ["deck","many"] gi) (T:Txt mg):∃r tt,mq 6=r/\PS ((eQ fN P w K mg base kO "_law_deed" (ar gD) f cdv A outer s H E).kz) r tt/\∀(D:Ends) (mu:List ai) (H1:Hp) (k L t:ai) (v1 v6 v7 v8 v9:Option V) (w c:Int) (x y:Str) (i:Int),D4 k L t c x y i H1->c<=5000->(7<=w->D.nx [some (.ref k),v1,some (.int w),some (.ref L),some (.str x),some (.ref t),v6,v7,v8,v9] H1)->(∀t De c' H2,eE k H1 H2->cH H2 k c'->c'<=c+200->jf mu H2 t De->D.rt (.ref t) H2)->tt D [some (.ref k),v1,some (.int w),some (.ref L),some (.str x),some (.ref t),v6,v7,v8,v9] H1:=by
 refine⟨_,_,rfl,cS (bo rN (pv 2) ao (bG _)) (aF (bN (bU (ae bh (ae (pv 4) (ae (aU b_ (cW (ae (aU aZ (pv 5) ao) (ae ao (ae jF (ae mw (ae (bW gs (bW mO ao ao) ao) ah)))))) (aR (yn rfl) rfl T.max uk (ae ao (ae (bW kW (cE DP (hr.mono δ) (ae (pv 0) (ae ao ah))) ao) ah)))) ah)))))) bO,?_⟩
 intro D mu H1 k L t v1 v6 v7 v8 v9 w c x y i F c5 nx fin
 refine⟨_,rfl,_,_,rfl,rfl,_,rfl,?_⟩
 refine eY (λq=>?_) (λq=>nx (by have:=jd (ik.mpr q);omega))
 refine⟨_,rfl,iO rfl (bZ.of F.ht) (aV (j:=2) rfl) ⟨_,_,rfl,rfl,⟨δ,δ,δ⟩,_,_,rfl,rfl,dZ,λl hl=>?_⟩⟩
 have nl:l≠k:=λz=>by obtain⟨o,ho⟩:=F.dk.some;rw[<-z,hl] at ho;cases ho
 exists hl,.lst [.int i,.int 0,.eU,.bl true,.int (10^Int.toNat 6+1)],H1,l,s1,w1,M1
 refine pk rfl (F.dk.keep (λo e=>s1 _ _ e)) ω δ δ λr c2 M2 k2 d2 e2 g2 l2=>?_
 have i1:=F.i1
 have i2:=F.i2
 obtain⟨v,d,hv,fv,bv,wv⟩:∃v d,qA [V.int i,.int 0,.eU,.bl true,.int (10^Int.toNat 6+1)] (if r-4>0 then r-4 else 0)=some v/\(∀H,qI H d v)/\Bd 1 0 d/\WgV d v:=by
  by_cases h:r-4>0
  .rw[aT h]
   rcases(by omega:r=5\/r=6\/r=7\/r=8) with rfl|rfl|rfl|rfl
   .exact⟨_,.int 0,rfl,λ_=>ez _,i_ δ,.inl (by decide+kernel)⟩
   .exact⟨_,.none,rfl,λ_=>sO,zH,.inl rfl⟩
   .exact⟨_,.bool true,rfl,λ_=>⟨0,λ_ _=>oo.mpr rfl⟩,E_ _,.inl rfl⟩
   .exact⟨_,.int (10^Int.toNat 6+1),rfl,λ_=>ez _,i_ δ,.inl (by decide+kernel)⟩
  .rw[aP h]
   exact⟨_,.int i,rfl,λ_=>ez _,i_ ω,.inr ⟨i,rfl,rfl,i1,i2⟩⟩
 refine⟨_,_,rfl,rfl,_,_,rfl,l,_,_,_,rfl,rfl,cQ.of (k2 _ _ nl w1),hv,dZ,λp hp=>?_⟩
 have s3:=aO hp (.tup [.str "weigh",.str x,v])
 exact fin p (.weigh x d) c2 _ ((s1.keep.trans k2).trans s3.keep) (d2.keep λo e=>s3 _ _ e) ω λH3 _ t3=>⟨v,t3 _ _ aB,EC F.hx,fv _,bv,wv⟩
def dd9 (hr:eB 3 (A.deeper (Ψ "_law_deed" (ar gD) s.heap.objs.size f cdv))) (DP:Df P w K mg base 1 "_law_pick" ["deck","many"] gi) (T:Txt mg):∃r tt,mq 9=r/\PS ((eQ fN P w K mg base kO "_law_deed" (ar gD) f cdv A outer s H E).kz) r tt/\∀(D:Ends) (mu:List ai) (H1:Hp) (k L t:ai) (v1 v6 v7 v8 v9:Option V) (w c:Int) (x y:Str) (i:Int),D4 k L t c x y i H1->c<=5000->14<=w->w<18->(∀t De c' H2,eE k H1 H2->cH H2 k c'->c'<=c+200->jf mu H2 t De->D.rt (.ref t) H2)->tt D [some (.ref k),v1,some (.int w),some (.ref L),some (.str x),some (.ref t),v6,v7,v8,v9] H1:=by
 refine⟨_,_,rfl,bN (bU (ae (aU b_ (cW (vA (ss:=["back","back","again","back"]) rfl)) (bW kW (pv 2) ao)) ah)),?_⟩
 intro D mu H1 k L t v1 v6 v7 v8 v9 w c x y i F c5 w1 w2 fin
 refine⟨dZ,λl hl=>?_⟩
 obtain⟨z,De,hz,oz⟩:∃z De,qA [V.str "back",.str "back",.str "again",.str "back"] (w-14)=some z/\∀H p,H p=some (.tup [z])->jf mu H p De:=by
  rcases(by omega:w=14\/w=15\/w=16\/w=17) with rfl|rfl|rfl|rfl
  .exact⟨_,.back,rfl,λH p h H1 _ t1=>t1 _ _ h⟩
  .exact⟨_,.back,rfl,λH p h H1 _ t1=>t1 _ _ h⟩
  .exact⟨_,.again,rfl,λH p h H1 _ t1=>t1 _ _ h⟩
  .exact⟨_,.back,rfl,λH p h H1 _ t1=>t1 _ _ h⟩
 refine⟨_,rfl,_,_,rfl,rfl,l,_,_,_,rfl,rfl,cQ.of aB,hz,dZ,λp hp=>?_⟩
 have s1:=(aO hl (.lst [.str "back",.str "back",.str "again",.str "back"])).trans (aO hp (.tup [z]))
 exact fin p De c _ s1.keep (F.dk.keep λo e=>s1 _ _ e) ω (oz _ _ aB)
def K0 (v:Option V) (hL:H1 L=none) (h:H1 a=some (.lst us)) (pr:Paired (kr H1) us rows) (hl:rows.length<=1000) (q:∀J,bg H1 J->J L=some (.lst (rows.map λr=>V.int r.1))->Q (.ref L) J):
  pK (EN K a) (de 0) pH (gH (gg K) (cj 0) (tC (.int 0))) [v] H1 Q L:=by
 have lu:=bT pr
 refine kY (n:=us.length) (f:=λi=>us.getD i .eU) (λj ys bX J=>(∃v,bX=[v])/\bg H1 J/\ys=(rows.take j).map λr=>V.int r.1) hL ω ⟨⟨_,rfl⟩,bP (bg.refl _) hL,rfl⟩ (λj ys bX J hj hy ⟨_,sj,_⟩=>qf (K:=K) (cQ.of (sj _ _ h)) j hj) ?_ ?_
 .rintro j ys bX J hj hy ⟨⟨v,rfl⟩,sj,rfl⟩
  have rC:j<rows.length:=ω
  obtain⟨u,eu,b,r,rfl,e1,e2⟩:=eR pr j rC
  rw[getD_some eu]
  refine iO rfl (bZ.of (sj _ _ e1)) (aV (j:=0) rfl) ⟨hy,⟨_,rfl⟩,bP sj hL,?_⟩
  rw[gj rC,bL];rfl
 .rintro ys bX J hy ⟨_,sj,rfl⟩
  rw[lu,dB] at hy
  exact q J sj hy
def K1 (v:Option V) (hL:H1 L=none) (h:H1 a=some (.lst us)) (pr:Paired (kr H1) us rows) (hl:rows.length<=1000) (q:∀J ys,bg H1 J->J L=some (.lst ys)->Paired (λv (x:Nat×qW)=>∃r,v=.ref r/\kq J r x.2) ys rows->Q (.ref L) J):
  pK (EN K a) (de 0) pH (gH (gg K) (cj 0) (tC (.int 1))) [v] H1 Q L:=by
 have lu:=bT pr
 refine kY (n:=us.length) (f:=λi=>us.getD i .eU) (λj ys bX J=>(∃v,bX=[v])/\bg H1 J/\Paired (λv (x:Nat×qW)=>∃r,v=.ref r/\kq J r x.2) ys (rows.take j)) hL ω ⟨⟨_,rfl⟩,bP (bg.refl _) hL,.nil⟩ (λj ys bX J hj hy ⟨_,sj,_⟩=>qf (K:=K) (cQ.of (sj _ _ h)) j hj) ?_ ?_
 .rintro j ys bX J hj hy ⟨⟨v,rfl⟩,sj,pj⟩
  have rC:j<rows.length:=ω
  obtain⟨u,eu,b,r,rfl,e1,e2⟩:=eR pr j rC
  rw[getD_some eu]
  have By:∀c xs,J c=some (.tup xs)->upd J L (.lst (ys++ [.ref r])) c=some (.tup xs):=λc xs e=>by rw[bb (λz=>by rw[z,hy] at e;cases e)];exact e
  refine iO rfl (bZ.of (sj _ _ e1)) (aV (j:=1) rfl) ⟨hy,⟨_,rfl⟩,bP sj hL,?_⟩
  rw[gj rC]
  exact d_ (au pj λ_ _ ⟨r,z1,z2⟩=>⟨r,z1,z2.up By⟩) ⟨r,rfl,(e2.same sj).up By⟩
 .rintro ys bX J hy ⟨_,sj,pj⟩
  rw[lu,dB] at pj
  exact q J ys sj hy pj
def WE:(["row"]:List Str).Nodup:=by decide+kernel
def dd8 (hr:eB 3 (A.deeper (Ψ "_law_deed" (ar gD) s.heap.objs.size f cdv))) (DP:Df P w K mg base 1 "_law_pick" ["deck","many"] gi) (T:Txt mg):∃r tt,mq 8=r/\PS ((eQ fN P w K mg base kO "_law_deed" (ar gD) f cdv A outer s H E).kz) r tt/\∀(D:Ends) (mu:List ai) (H1:Hp) (k L t:ai) (v6 v7 v8 v9:Option V) (w c:Int) (x y:Str) (i:Int) (ow pa:ai) (us:List V) (S:Cs) (m:Nat),D4 k L t c x y i H1->c<=5000->(∀G,bg H1 G->iB G ow (kV (.inr "pieces")) (some (.ref pa))/\iB G ow (kV (.inr "count")) (some (.int S.n)))->H1 pa=some (.lst us)->Paired (kr H1) us S.rows->St S m->m<=31->(14<=w->D.nx [some (.ref k),some (.ref ow),some (.int w),some (.ref L),some (.str x),some (.ref t),v6,v7,v8,v9] H1)->(∀t De c' H2,eE k H1 H2->cH H2 k c'->c'<=c+200->jf mu H2 t De->D.rt (.ref t) H2)->tt D [some (.ref k),some (.ref ow),some (.int w),some (.ref L),some (.str x),some (.ref t),v6,v7,v8,v9] H1:=by
 have hu:=bf (eK (by decide:1<=64) _) hr.units
 refine⟨_,_,rfl,cS (bo rN (pv 2) ao (bG _)) (aw (lj (i:=9) md.nd (bW mT (kI (N:=["row"]) (g:=de 0) (tc:=pH) (te:=gH (gg K) (cj 0) (tC (.int 0))) rfl (jI (fB hu (pv 1) bh)) (fD.closed rfl) (λ_ _ _=>a_ (i:=0) WE) (λ_ _ _=>iV) (λ_ _ _=>aU aZ (pv 0) ao)) (cW (ae (fB hu (pv 1) bh) (ae (qC mP ao) (ae (bW kW (fB hu (pv 1) bh) ao) ah)))))) (aF (bN (bU (ae bh (ae (aU b_ (pv 9) (cE DP (hr.mono δ) (ae (pv 0) (ae (aR bS rfl T.len bC (ae (pv 9) ah)) ah)))) ah)))))) bO,?_⟩
 intro D mu H1 k L t v6 v7 v8 v9 w c x y i ow pa us S m F c5 og xJ pr sS tz nx fin
 refine⟨_,rfl,_,_,rfl,rfl,_,rfl,?_⟩
 refine eY (λq=>?_) (λq=>nx (by have:=jd (ik.mpr q);omega))
 have lr:=sS.lr
 have ln:=sS.n
 have num:=sS.num
 refine⟨_,rfl,ow,.ref pa,rfl,(og _ (bg.refl _)).1,pa,rfl,⟨_,cQ.of xJ⟩,λL1 Oz=>?_⟩
 refine K0 _ Oz xJ pr ω λJ1 s1 w1=>?_
 refine⟨_,rfl,ow,_,rfl,(og _ s1).2,_,rfl,_,rfl,ow,_,rfl,(og _ s1).2,_,_,rfl,rfl,dZ,λl2 nS=>?_⟩
 exists nS,.lst [.int S.n,.int (-1),.int (S.n-1)],J1,l2,s2,w2,J2
 refine⟨L1,l2,_,_,rfl,rfl,s2 _ _ w1,w2,dE (eF (by simp only[dO,jn,aq];omega)),λl3 BE=>?_⟩
 obtain⟨ns,en,hn⟩:∃ns:List Int,(S.rows.map λr=>V.int r.1)++ [.int S.n,.int (-1),.int (S.n-1)]=ns.map V.int/\(∀i∈ns,i.natAbs<2^200):=by
  refine⟨(S.rows.map λr=>(r.1:Int))++ [(S.n:Int),-1,S.n-1],by rw[bL,pf];rfl,λi hi=>?_⟩
  rcases bK.mp hi with z|z
  .obtain⟨r,hr,rfl⟩:=cT.mp z
   have:=num r hr
   omega
  .simp only[aD,aG,cx] at z
   rcases z with rfl|rfl|rfl<;>omega
 have ll:ns.length=S.rows.length+3:=by
  have:=jS List.length en
  simpa using this.symm
 rw[en]
 exists BE,.lst (ns.map V.int),J2,l3,s3,w3,J3
 have lO:=s1.trans (s2.trans s3)
 have n3:l3≠k:=λz=>by obtain⟨o,ho⟩:=F.dk.some;rw[<-z] at ho;rw[cD (s1.trans s2) BE] at ho;cases ho
 refine⟨_,rfl,_,rfl,_,rfl,l3,_,rfl,.inl (cQ.of w3),k,c,_,rfl,F.dk.keep (λo e=>lO _ _ e),ω,by rw[aq];omega,by rw[aq];omega,λr c4 J4 k4 d4 e4 g4 l4=>?_⟩
 obtain⟨o7,B6⟩:=ud (xs:=ns.map V.int) g4 l4
 rw[ke] at B6
 have hi:=hn _ (cF (by rw[aq] at o7;exact o7))
 refine⟨l3,_,r,_,rfl,rfl,cQ.of (k4 _ _ n3 w3),B6,dZ,λp hp=>?_⟩
 have s5:=aO hp (.tup [.str "strike",.int (ns[r.toNat]'(by rw[aq] at o7;exact o7))])
 exact fin p (.ku _) c4 _ ((lO.keep.trans k4).trans s5.keep) (d4.keep λo e=>s5 _ _ e) ω λH5 _ t5=>⟨t5 _ _ aB,hi⟩
end
def HG (h:H p=some (.tup [.str "tell",v])) (b:EB gP (k::mu) H v):∃De,jf mu H p De:=by
 obtain⟨d,h1,h2,h3⟩:=b
 exact⟨.tell d,λH1 k1 t1=>⟨v,t1 _ _ h,h1 H1 k1.up t1,h2,.inl h3⟩⟩
def HH (h:H p=some (.tup [.str "tell",.ref r])) (hp:kq H r pc) (o:iL pc) (c:gz pc):∃De,jf mu H p De:=
 ⟨.tell (ye pc),λH1 k1 t1=>⟨.ref r,t1 _ _ h,Ac (hp.up t1),Kc o,.inr ⟨r,pc,rfl,rfl,hp.up t1,o,c⟩⟩⟩
def bdP (o:iL pc):Bd 13 1 (.tuple (cz pc.a))/\Bd 13 1 (.tuple (cz pc.b))/\Bd 13 1 (.int pc.t)/\Bd 13 1 (.int pc.o)/\Bd 13 1 (.int pc.c):=by
 have i1:=o.t1;have i2:=o.t9;have i3:=o.o1;have i4:=o.o9;have i5:=o.c1;have i6:=o.c9
 have:=o.a.l4
 have:=o.b.l4
 exact⟨nO o.a.ok ω,nO o.b.ok ω,Ls ω,Ls ω,Ls ω⟩
def K2 (h0:0<=r) (h5:r<5):∃ns:List Str,jt (nh.map V.str) none (some (4+r))=ns.map V.str/\2<=ns.length/\ns.length<=12/\(∀n∈ns,okN n)/\ns.Nodup:=by
 have nd:nh.Nodup:=by decide+kernel
 have f:∀n:Nat,2<=n->n<=9->jt (nh.map V.str) none (some (4+r))=(nh.take n).map V.str->∃ns:List Str,jt (nh.map V.str) none (some (4+r))=ns.map V.str/\2<=ns.length/\ns.length<=12/\(∀n∈ns,okN n)/\ns.Nodup:=λn n2 n9 e=>by
  have l:(nh.take n).length=n:=by rw[fF];show min n 9=n;omega
  exact⟨_,e,ω,ω,λx hx=>qv x (ip hx),nd.sublist (rl _ _)⟩
 rcases(by omega:r=0\/r=1\/r=2\/r=3\/r=4) with rfl|rfl|rfl|rfl|rfl
 .exact f 4 δ δ rfl
 .exact f 5 δ δ rfl
 .exact f 6 δ δ rfl
 .exact f 7 δ δ rfl
 .exact f 8 δ δ rfl
section
variable {P:aJ}{w:bB}{K:Φ}{mg:Str->Option ag}{base:Heap}
def LH (i j:Nat):Stmt:=match mq i with
 | .If _ b _ _=>b.getD j (.Pass ⟨0,0,0,0⟩)
 |_=>.Pass ⟨0,0,0,0⟩
def aaq (hr:eB 3 (A.deeper (Ψ "_law_deed" (ar gD) s.heap.objs.size f cdv))) (DP:Df P w K mg base 1 "_law_pick" ["deck","many"] gi):∃r0 r1 t0 t1,LH 7 3=r0/\LH 7 4=r1/\PS ((eQ fN P w K mg base kO "_law_deed" (ar gD) f cdv A outer s H E).kz) r0 t0/\PS ((eQ fN P w K mg base kO "_law_deed" (ar gD) f cdv A outer s H E).kz) r1 t1/\∀(D:Ends) (mu:List ai) (H0 H1:Hp) (k pr:ai) (v1 v2 v3 v4 v5 v6 v7 v9:Option V) (c0 c:Int) (pc:qW),cH H1 k c->c<=6000->c<=c0+150->eE k H0 H1->(∀x∈mu,∃o,H1 x=some o)->kq H1 pr pc->iL pc->gz pc->(∀t De c' H2,eE k H0 H2->cH H2 k c'->c'<=c0+200->jf mu H2 t De->D.rt (.ref t) H2)->vM t0 t1 D [some (.ref k),v1,v2,v3,v4,v5,v6,v7,some (.ref pr),v9] H1:=by
 obtain⟨es,p0,p1,p2,er,a1⟩:∃es p0 p1 p2,LH 7 3=.Assign [.Name "bad" p0] (.List es p1) p2/\PA ((eQ fN P w K mg base kO "_law_deed" (ar gD) f cdv A outer s H E).kz) es (ck (TZ (P4 K) (cj 8) rT (AN (tC (.int 4)))) (ck (λZ H Q=>(cj 8) Z H λx H1=>(tUn (rU λi=>.int (-i)) (tC (.int 1))) Z H1 λy H2=>∃a xs,x=.ref a/\y=.int (-1)/\bZ K H2 a xs/\∀p,H2 p=none->Q (.ref p) (upd H2 p (.tup xs.reverse))) (ck (tC .eU) (ck (gH (IE K) (mQ (ck (gH (gg K) (cj 8) (tC (.int 0))) eW)) (cj 8)) (ck (gH (IE K) (TZ (P4 K) (cj 8) rT (AN (tC (.int 2)))) (mQ (ck (tC (.int 0)) (ck (tC (.int 1)) (ck (tC (.int 1)) eW))))) (ck (xW (ck (cj 8) eW)) eW)))))):=⟨_,_,_,_,rfl,(ae (hX zI (pv 8) jL (iU ao)) (ae (Md (pv 8) (qC mP ao) (λv key=>⟨[v,key],rfl⟩)) (ae jF (ae (bW mz (bU (ae (aU aZ (pv 8) ao) ah)) (pv 8)) (ae (bW mz (hX zI (pv 8) jL (iU ao)) (bU (ae ao (ae ao (ae ao ah))))) (ae (cW (ae (pv 8) ah)) ah))))))⟩
 refine⟨_,_,_,_,er,rfl,lj (i:=6) md.nd (cW a1),bN (bU (ae bh (ae (pC (bo gO (cE DP (hr.mono δ) (ae (pv 0) (ae ao ah))) ao (bG _)) (aU b_ (pv 6) (cE DP (hr.mono δ) (ae (pv 0) (ae ao ah)))) (pv 8)) ah))),?_⟩
 intro D mu H0 H1 k pr v1 v2 v3 v4 v5 v6 v7 v9 c0 c pc dk c6 cc kp st hP oP cP fin
 obtain⟨a,b,h1,h2,h3⟩:=id hP
 have g:∀{G:Hp} (lo hi:Option Int),jt [V.ref a,.ref b,.int pc.t,.int pc.o,.int pc.c] lo hi=jt [V.ref a,.ref b,.int pc.t,.int pc.o,.int pc.c] lo hi:=λ_ _=>rfl
 clear g
 refine⟨_,rfl,_,rfl,pr,_,rfl,bZ.of h1,λz=>absurd z.2 (by show ¬(HT.iA 5 5 (some 4)=5);decide),λ_ tA hA=>?_⟩
 rw[show jt [V.ref a,.ref b,.int pc.t,.int pc.o,.int pc.c] none (some 4)=[.ref a,.ref b,.int pc.t,.int pc.o] from rfl]
 exists hA,.tup [.ref a,.ref b,.int pc.t,.int pc.o],H1,tA,sA,wA,MA
 refine⟨_,rfl,_,rfl,pr,_,rfl,rfl,bZ.of (sA _ _ h1),λtB hB=>?_⟩
 rw[show([.ref a,.ref b,.int pc.t,.int pc.o,.int pc.c]:List V).reverse=[.int pc.c,.int pc.o,.int pc.t,.ref b,.ref a] from rfl]
 exists hB,.tup [.int pc.c,.int pc.o,.int pc.t,.ref b,.ref a],MA,tB,sB,wB,MB
 refine iO rfl (bZ.of ((sA.trans sB) _ _ h1)) (aV (j:=0) rfl) ⟨dZ,λtC hC=>?_⟩
 exists hC,.tup [.ref a],MB,tC,sC,wC,MC
 refine⟨_,rfl,tC,pr,_,_,rfl,rfl,bZ.of wC,bZ.of (((sA.trans sB).trans sC) _ _ h1),List.cons_ne_nil _ _,dZ,(λz=>by cases z),λ_ tD hD=>?_⟩
 rw[show([.ref a]:List V)++ [.ref a,.ref b,.int pc.t,.int pc.o,.int pc.c]=[.ref a,.ref a,.ref b,.int pc.t,.int pc.o,.int pc.c] from rfl]
 exists hD,.tup [.ref a,.ref a,.ref b,.int pc.t,.int pc.o,.int pc.c],MC,tD,sD,wD,MD
 refine⟨_,rfl,_,rfl,pr,_,rfl,bZ.of ((((sA.trans sB).trans sC).trans sD) _ _ h1),λz=>absurd z.2 (by show ¬(HT.iA 5 5 (some 2)=5);decide),λ_ tE hE=>?_⟩
 rw[show jt [V.ref a,.ref b,.int pc.t,.int pc.o,.int pc.c] none (some 2)=[.ref a,.ref b] from rfl]
 exists hE,.tup [.ref a,.ref b],MD,tE,sE,wE,ME
 refine⟨dZ,λtF hF=>?_⟩
 exists hF,.tup [.int 0,.int 1,.int 1],ME,tF,sF,wF,MF
 refine⟨tE,tF,_,_,rfl,rfl,bZ.of (sF _ _ wE),bZ.of wF,List.cons_ne_nil _ _,dZ,(λz=>by cases z),λ_ tG hG=>?_⟩
 rw[show([.ref a,.ref b]:List V)++ [.int 0,.int 1,.int 1]=[.ref a,.ref b,.int 0,.int 1,.int 1] from rfl]
 exists hG,.tup [.ref a,.ref b,.int 0,.int 1,.int 1],MF,tG,sG,wG,MG
 refine⟨_,rfl,dZ,λtI hI=>?_⟩
 exists hI,.lst [.ref pr],MG,tI,sI,wI,MI
 refine⟨dZ,λtJ hJ=>?_⟩
 exists hJ,.lst [.ref tA,.ref tB,.eU,.ref tD,.ref tG,.ref tI],MI,tJ,sJ,wJ,MJ
 have zz:bg H1 MJ:=((((((((sA.trans sB).trans sC).trans sD).trans sE).trans sF).trans sG).trans sI).trans sJ)
 have d9:cH MJ k c:=dk.keep λo e=>zz _ _ e
 have nJ:tJ≠k:=λz=>by obtain⟨o,ho⟩:=dk.some;rw[<-z] at ho;rw[cD (((((((sA.trans sB).trans sC).trans sD).trans sE).trans sF).trans sG).trans sI) hJ] at ho;cases ho
 have mI:tI∉k::mu:=λz=>by
  have:∃o,H1 tI=some o:=by
   rcases aD.mp z with z|z
   .rw[z];exact dk.some
   .exact st _ z
  obtain⟨o,ho⟩:=this
  rw[cD ((((((sA.trans sB).trans sC).trans sD).trans sE).trans sF).trans sG) hI] at ho;cases ho
 obtain⟨b1,b2,b3,b4,b5⟩:=bdP oP
 have PY:=zz _ _ h2
 have h3':=zz _ _ h3
 have fa:∀H,jW (k::mu) MJ H->Tk MJ H->qI H (.tuple (cz pc.a)) (.ref a)/\qI H (.tuple (cz pc.b)) (.ref b):=λH _ t=>⟨gC (t _ _ PY) (oK _),gC (t _ _ h3') (oK _)⟩
 have bad:∀v∈[V.ref tA,.ref tB,.eU,.ref tD,.ref tG,.ref tI],EB gP (k::mu) MJ v:=λv hv=>by
  simp only[aD,aG,cx] at hv
  rcases hv with rfl|rfl|rfl|rfl|rfl|rfl
  .exact⟨_,kP ((((((((sB.trans sC).trans sD).trans sE).trans sF).trans sG).trans sI).trans sJ) _ _ wA) λH1 q1 q2=>aW (fa H1 q1 q2).1 (aW (fa H1 q1 q2).2 (aW (ez _) (aW (ez _) dU))),(yi (bc b1 (bc b2 (bc b3 (bc b4 bn))))).2.1,WA⟩
  .exact⟨_,kP (((((((sC.trans sD).trans sE).trans sF).trans sG).trans sI).trans sJ) _ _ wB) λH1 q1 q2=>aW (ez _) (aW (ez _) (aW (ez _) (aW (fa H1 q1 q2).2 (aW (fa H1 q1 q2).1 dU)))),(yi (bc b5 (bc b4 (bc b3 (bc b2 (bc b1 bn)))))).2.1,HC⟩
  .exact⟨.none,λ_ _ _=>sO,zH.mono δ δ,rfl⟩
  .exact⟨_,kP (((((sE.trans sF).trans sG).trans sI).trans sJ) _ _ wD) λH1 q1 q2=>aW (fa H1 q1 q2).1 (aW (fa H1 q1 q2).1 (aW (fa H1 q1 q2).2 (aW (ez _) (aW (ez _) (aW (ez _) dU))))),(yi (bc b1 (bc b1 (bc b2 (bc b3 (bc b4 (bc b5 bn))))))).2.1,WB⟩
  .exact⟨_,kP ((sI.trans sJ) _ _ wG) λH1 q1 q2=>aW (fa H1 q1 q2).1 (aW (fa H1 q1 q2).2 (aW (ez _) (aW (ez _) (aW (ez _) dU)))),(yi (bc b1 (bc b2 (bc (Ls δ) (bc (Ls δ) (bc (Ls δ) bn)))))).2.1,HD⟩
  .exact⟨_,BN (sJ _ _ wI) mI λH1 q1 q2=>aW (Ac ((hP.same zz).up q2)) dU,(Bd.list (n:=79) (p:=2) (m:=1) (ds:=[ye pc]) (λd hd=>by
    rw[bA.mp hd]
    exact(yi (bc b1 (bc b2 (bc b3 (bc b4 (bc b5 bn)))))).1) (av 1)).mono δ δ,HB⟩
 refine pk rfl d9 ω δ δ λr c7 M7 k7 d7 e7 g7 l7=>?_
 refine⟨rfl,_,rfl,?_⟩
 refine eY (λq=>?pos) (λq=>?neg)
 case pos=>
  refine⟨_,rfl,pk rfl d7 ω δ δ λr8 c8 M8 k8 d8 e8 g8 l8=>?_⟩
  obtain⟨o7,B6⟩:=ud (xs:=[V.ref tA,.ref tB,.eU,.ref tD,.ref tG,.ref tI]) g8 l8
  have bv:=bad _ (cF o7)
  generalize [V.ref tA,.ref tB,.eU,.ref tD,.ref tG,.ref tI][r8.toNat]=v at B6 bv
  refine⟨tJ,_,r8,v,rfl,rfl,cQ.of (k8 _ _ nJ (k7 _ _ nJ wJ)),B6,dZ,λp hp=>?_⟩
  have s9:=aO hp (.tup [.str "tell",v])
  have kk:=k7.trans (k8.trans s9.keep)
  obtain⟨De,dK⟩:=HG (mu:=mu) (aB (H:=M8) (a:=p) (o:=.tup [.str "tell",v])) (bv.up (BO (cy ..) kk) (jh d9 kk))
  exact fin p De c8 _ (kp.trans (zz.keep.trans kk)) (d8.keep λo e=>s9 _ _ e) ω dK
 case neg=>
  refine⟨_,rfl,dZ,λp hp=>?_⟩
  have s9:=aO hp (.tup [.str "tell",.ref pr])
  obtain⟨De,dK⟩:=HH (mu:=mu) (aB (H:=M7) (a:=p) (o:=.tup [.str "tell",.ref pr])) (((hP.same zz).up (jh d9 k7)).same s9) oP cP
  exact fin p De c7 _ (kp.trans ((zz.keep.trans k7).trans s9.keep)) (d7.keep λo e=>s9 _ _ e) ω dK
def dd7 (hr:eB 3 (A.deeper (Ψ "_law_deed" (ar gD) s.heap.objs.size f cdv))) (DP:Df P w K mg base 1 "_law_pick" ["deck","many"] gi) (T:Txt mg) (DC:Df P w K mg base 2 "_law_piece" ["deck","names"] Qw) (DX:Df P w K mg base 2 "_law_exchanged" ["deck","piece"] Rw):∃r tt,mq 7=r/\PS ((eQ fN P w K mg base kO "_law_deed" (ar gD) f cdv A outer s H E).kz) r tt/\∀(D:Ends) (mu:List ai) (H1:Hp) (k L t:ai) (v6 v7 v8 v9:Option V) (w c:Int) (x y:Str) (i:Int) (ow pa:ai) (us:List V) (S:Cs) (m:Nat),D4 k L t c x y i H1->c<=5000->(∀x∈mu,∃o,H1 x=some o)->(∀G,bg H1 G->iB G ow (kV (.inr "pieces")) (some (.ref pa))/\iB G ow (kV (.inr "count")) (some (.int S.n)))->H1 pa=some (.lst us)->Paired (kr H1) us S.rows->St S m->m<=31->(12<=w->D.nx [some (.ref k),some (.ref ow),some (.int w),some (.ref L),some (.str x),some (.ref t),v6,v7,v8,v9] H1)->(∀t De c' H2,eE k H1 H2->cH H2 k c'->c'<=c+200->jf mu H2 t De->D.rt (.ref t) H2)->tt D [some (.ref k),some (.ref ow),some (.int w),some (.ref L),some (.str x),some (.ref t),v6,v7,v8,v9] H1:=by
 have hu:=bf (eK (by decide:1<=64) _) hr.units
 obtain⟨r0,r1,t0,t1,q0,q1,p0,p1,go⟩:=aaq (outer:=outer) (H:=H) (E:=E) hr DP
 rw[<-q0] at p0
 rw[<-q1] at p1
 refine⟨_,_,rfl,cS (bo rN (pv 2) ao (bG _)) (aw (jN (i0:=7) (N:=["row"]) (g:=de 0) (tc:=pH) (te:=gH (gg K) (cj 0) (tC (.int 1))) md.nd rfl (Or.inl rfl) rfl (jI (fB hu (pv 1) bh)) (fD.closed rfl) (λ_ _ _=>a_ (i:=0) WE) (λ_ _ _=>iV) (λ_ _ _=>aU aZ (pv 0) ao)) (aw (lj (i:=8) md.nd (cE DC (hr.mono δ) (ae (pv 0) (ae (hX qj (pv 3) jL (iU (bW gs ao (cE DP (hr.mono δ) (ae (pv 0) (ae ao ah)))))) ah)))) (aw (cS (PW.pt (Ij (bo (mV hr.units) (pv 7) (cW ah) (bG _)) (EL (bo ym (cE DP (hr.mono δ) (ae (pv 0) (ae ao ah))) ao (bG _))))) (aF (lj (i:=8) md.nd (cE DX (hr.mono δ) (ae (pv 0) (ae (aU b_ (pv 7) (cE DP (hr.mono δ) (ae (pv 0) (ae (aR bS rfl T.len bC (ae (pv 7) ah)) ah)))) ah))))) bO) (aw p0 (aF p1))))) bO,?_⟩
 intro D mu H1 k L t v6 v7 v8 v9 w c x y i ow pa us S m F c5 st og xJ pr sS tz nx fin
 refine⟨_,rfl,_,_,rfl,rfl,_,rfl,?_⟩
 refine eY (λq=>?_) (λq=>nx (by have:=jd (ik.mpr q);omega))
 have lr:=sS.lr
 have lu:=bT pr
 refine⟨_,rfl,ow,.ref pa,rfl,(og _ (bg.refl _)).1,pa,rfl,⟨_,cQ.of xJ⟩,λL1 Oz=>?_⟩
 refine K1 _ Oz xJ pr ω λJ1 ys s1 w1 py=>?_
 have nL1:L1≠k:=λz=>by obtain⟨o,ho⟩:=F.dk.some;rw[<-z,Oz] at ho;cases ho
 have ly:=bT py
 have d1:cH J1 k c:=F.dk.keep (λo e=>s1 _ _ e)
 refine⟨_,rfl,_,rfl,pk rfl d1 ω δ δ λr2 c2 J2 k2 d2 e2 g2 l2=>?_⟩
 obtain⟨ns,en,n2,Lj,Zh,nd⟩:=K2 g2 l2
 refine⟨_,_,rfl,rfl,_,rfl,L,_,rfl,cQ.of (k2 _ _ F.nL (s1 _ _ F.hL)),λl3 BE=>?_⟩
 rw[en]
 exists BE,.lst (ns.map V.str),J2,l3,s3,w3,J3
 have n3:l3≠k:=λz=>by obtain⟨o,ho⟩:=d2.some;rw[<-z,BE] at ho;cases ho
 refine⟨k,c2,l3,ns,rfl,d2.keep (λo e=>s3 _ _ e),ω,n3,w3,n2,Lj,Zh,nd,λr4 pc c4 J4 k4 d4 e4 hP oP cP=>?_⟩
 have k14:eE k J1 J4:=k2.trans (s3.keep.trans k4)
 have k04:eE k H1 J4:=s1.keep.trans k14
 have IV:∀{G:Hp} {c':Int},cH G k c'->eE k H1 G->∀x∈mu,∃o,G x=some o:=λ{G c'} dG kG x hx=>by
  obtain⟨o,ho⟩:=st x hx
  by_cases e:x=k
  .rw[e];exact dG.some
  .exact⟨o,kG _ _ e ho⟩
 refine⟨_,rfl,dZ,λl5 hl5=>?_⟩
 exists hl5,.lst [],J4,l5,s5,w5,J5
 have k15:=k14.trans s5.keep
 have t15:=jh d1 k15
 have py5:=au py λ_ _ z=>(show∃r,_/\kq J5 r _ from z.imp λr q=>⟨q.1,q.2.up t15⟩)
 have hy5:=k15 _ _ nL1 w1
 have d5:cH J5 k c4:=d4.keep λo e=>s5 _ _ e
 obtain⟨a1,q1⟩:=(eJ hy5 (eG (f:=λx:Nat×qW=>ye x.2) (λv x ⟨r,z1,z2⟩=>by rw[z1];exact Ac z2) py5)).one
 obtain⟨a2,q2⟩:=(eJ w5 dU).one
 have lay:Lay (.list (S.rows.map λx=>ye x.2)):=(Bd.list (n:=1000) (p:=15) (m:=31) (λd hd=>by
  obtain⟨x,hx,rfl⟩:=cT.mp hd
  exact Kc (sS.rows x hx).1) (by rw[aq];omega)).lay δ
 refine⟨a1,a2,_,_,q1,q2,lay,kC,_,rfl,?_⟩
 have ee:PyData.eqv (.list (S.rows.map λx=>ye x.2)) (.list [])=S.rows.isEmpty:=by
  rw[PyData.eqv]
  cases S.rows with
  |nil=>rfl
  |cons a l=>rw[bQ,PyData.eqvAll];rfl
 rw[ee]
 have qy:∀{G:Hp} {c':Int},cH G k c'->eE k J5 G->c'<=c4+1->vM t0 t1 D [some (.ref k),some (.ref ow),some (.int w),some (.ref L),some (.str x),some (.ref t),v6,some (.ref L1),some (.ref r4),v9] G:=λ{G c'} dG kG lG=>go D mu H1 G k r4 _ _ _ _ _ _ _ _ c c' pc dG ω ω (k04.trans (s5.keep.trans kG)) (IV dG (k04.trans (s5.keep.trans kG))) ((hP.same s5).up (jh d5 kG)) oP cP fin
 by_cases e0:S.rows=[]
 .refine ite_no (by rw[e0];decide) ?_
  refine ite_no δ ?_
  exact qy d5 (eE.refl _ _) ω
 .have aaR:0<S.rows.length:=List.length_pos_iff.mpr e0
  refine ite_yes (by simp[e0]) ?_
  refine pk rfl d5 ω δ δ λr6 c6 J6 k6 d6 e6 g6 l6=>?_
  refine⟨_,_,rfl,rfl,_,rfl,?_⟩
  refine eY (λq=>?_) (λq=>qy d6 k6 e6)
  have hy6:=k6 _ _ nL1 hy5
  refine⟨_,rfl,_,rfl,_,rfl,_,rfl,L1,ys,rfl,.inl (cQ.of hy6),k,c6,_,rfl,d6,ω,ω,ω,λr7 c7 J7 k7 d7 e7 g7 l7=>?_⟩
  have hrl:r7.toNat<S.rows.length:=ω
  obtain⟨u,eu,rp,rfl,hrp⟩:=eR py5 r7.toNat hrl
  have B6:qA ys r7=some (.ref rp):=by
   unfold qA Le
   rw[aT g7,aT ω]
   exact eu
  have t57:Tk J5 J7:=(jh d5 k6).trans (jh d6 k7)
  have ro:=sS.rows _ (cF hrl)
  refine⟨L1,ys,r7,.ref rp,rfl,rfl,cQ.of (k7 _ _ nL1 hy6),B6,k,rp,c7,_,rfl,d7,ω,hrp.up t57,ro.1,ro.2,λt8 p8 m8 y8 c8 J8 k8 d8 e8 hP8 oP8 x8=>?_⟩
  have k08:=k04.trans (s5.keep.trans (k6.trans (k7.trans k8)))
  exact go D mu H1 J8 k t8 _ _ _ _ _ _ _ _ c c8 p8 d8 ω ω k08 (IV d8 k08) hP8 oP8 (x8.U0 ro.2) fin
def ED:Sp:=λvs H Q _=>∃(k ow ra pa pl ll:ai) (us:List V) (S:Cs) (m:Nat) (c:Int) (mu:List ai),vs=[.ref k,.ref ow]/\cH H k c/\c<=4000/\H ow=some (.dK (je ra pa S.n pl ll))/\H pa=some (.lst us)/\Paired (kr H) us S.rows/\St S m/\m<=31/\k≠pa/\(∀x∈mu,∃o,H x=some o)/\
 ∀t De c' H',eE k H H'->cH H' k c'->c'<=c+300->jf mu H' t De->Q (.ref t) H'
def NH (F:jg K "_law_deed" "_law_deed" gD f fd) (T:Txt mg) (DP:Df P w K mg base 1 "_law_pick" ["deck","many"] gi) (DW:Df P w K mg base 2 "_law_weight" ["deck"] Qp) (DC:Df P w K mg base 2 "_law_piece" ["deck","names"] Qw) (DX:Df P w K mg base 2 "_law_exchanged" ["deck","piece"] Rw):dR P w K mg base fN 4 f fd ["deck","own"] ED:=by
 exists F.ok,md
 .obtain⟨k,ow,ra,pa,pl,ll,us,S,m,c,mu,rfl,_⟩:=h
  rfl
 .obtain⟨k,ow,ra,pa,pl,ll,us,S,m,c,mu,rfl,dk,c4,hd,xJ,pr,sS,tz,nk,st,hQ⟩:=h
  obtain⟨r0,r1,r2,r3,t0,t1,t2,t3,e0,e1,e2,e3,p0,p1,p2,p3,S4⟩:=dd0 (outer:=outer) (s:=s) (H:=H) (E:=E) hr DP DW
  obtain⟨r4,t4,e4,p4,go4⟩:=dd4 (outer:=outer) (s:=s) (H:=H) (E:=E) hr DP T
  obtain⟨r5,t5,e5,p5,go5⟩:=dd5 (outer:=outer) (s:=s) (H:=H) (E:=E) hr DP T
  obtain⟨r6,t6,e6,p6,go6⟩:=dd6 (outer:=outer) (s:=s) (H:=H) (E:=E) hr DP T
  obtain⟨r7,t7,e7,p7,go7⟩:=dd7 (outer:=outer) (s:=s) (H:=H) (E:=E) hr DP T DC DX
  obtain⟨r8,t8,e8,p8,go8⟩:=dd8 (outer:=outer) (s:=s) (H:=H) (E:=E) hr DP T
  obtain⟨r9,t9,e9,p9,go9⟩:=dd9 (outer:=outer) (s:=s) (H:=H) (E:=E) hr DP T
  have be:=R8
  rw[e0,e1,e2,e3,e4,e5,e6,e7,e8,e9] at be
  refine⟨_,by rw[be];exact aw p0 (aw p1 (aw p2 (aw p3 (aw p4 (aw p5 (aw p6 (aw p7 (aw p8 (aF p9))))))))),?_⟩
  refine S4 _ _ H k _ _ _ _ _ _ _ _ _ c dk ω λw L x t y i c1 H1 w0 w18 k1 l1 nL F4=>?_
  have nw:ow≠k:=λz=>by
   obtain⟨⟨_,_,q,_⟩,_⟩:=dk;rw[z,q] at hd;cases hd
  have hd1:=k1 _ _ nw hd
  have tk1:=jh dk k1
  have RV:=k1 _ _ (cG nk) xJ
  have Xx:=au pr λ_ _ z=>z.up tk1
  have XA:∀x∈mu,∃o,H1 x=some o:=λx hx=>by
   obtain⟨o,ho⟩:=st x hx
   by_cases e:x=k
   .rw[e];exact F4.dk.some
   .exact⟨o,k1 _ _ e ho⟩
  have og:∀G,bg H1 G->iB G ow (kV (.inr "pieces")) (some (.ref pa))/\iB G ow (kV (.inr "count")) (some (.int S.n)):=λG sG=>by
   have a:=iB.k (k:=.inr "pieces") (sG _ _ hd1)
   have b:=iB.k (k:=.inr "count") (sG _ _ hd1)
   rw[xt] at a
   rw[Eu] at b
   exact⟨a,b⟩
  have fin:∀t De c' H2,eE k H1 H2->cH H2 k c'->c'<=c1+200->jf mu H2 t De->Q (.ref t) H2:=λt De c' H2 k2 d2 l2 dK=>hQ t De c' H2 (k1.trans k2) d2 ω dK
  refine go4 _ mu H1 k L t _ _ _ _ _ w c1 x y i F4 ω XA (λw4=>?_) fin
  refine go5 _ mu H1 k L t _ _ _ _ _ w c1 x y i F4 ω (λw5=>?_) fin
  refine go6 _ mu H1 k L t _ _ _ _ _ w c1 x y i F4 ω (λw6=>?_) fin
  refine go7 _ mu H1 k L t _ _ _ _ w c1 x y i ow pa us S m F4 ω XA og RV Xx sS tz (λw7=>?_) fin
  refine go8 _ mu H1 k L t _ _ _ _ w c1 x y i ow pa us S m F4 ω og RV Xx sS tz (λw8=>?_) fin
  exact go9 _ mu H1 k L t _ _ _ _ _ w c1 x y i F4 ω w8 w18 fin
end
abbrev gu:Stmt:=top 58
abbrev nj:List Str:=["script","two","cell","deck","at","own","club","what","same","turn"]
def nu (i:Nat):Stmt:=(fL gu).getD i (.Pass ⟨0,0,0,0⟩)
def K3:fL gu=[nu 0,nu 1,nu 2,nu 3]:=rfl
def oS:bY nj ["script"] (ar gu):={}
def gv (k i:Nat):Stmt:=match nu k with
 | .For _ _ b _ _=>b.getD i (.Pass ⟨0,0,0,0⟩)
 |_=>.Pass ⟨0,0,0,0⟩
def S0:Cs:=⟨[],[],0⟩
def xD (sts:List Cs) (S:Cs) (cO:List Cs):List Cs:=sts++ [S]++cO.reverse
structure WI (n:Nat) (L:List Cs):Prop where
 all:∀T∈L,St T n
 hd:L.head?=some S0
 len:L.length<=n+1
def Am (sts:List Cs) (S:Cs) (cO:List Cs):(xD sts S cO).length=sts.length+1+cO.length:=by unfold xD;simp;omega
def WI.s (h:WI n (xD sts S cO)):St S n:=h.all S (by unfold xD;simp)
def WI.ok (h:WI n (xD sts S cO)) (hn:n<=31):(∀T∈sts,RJ T)/\(∀T∈cO,RJ T)/\sts.length<=31/\cO.length<=31:=by
 have l:=h.len
 rw[Am] at l
 exact⟨λT hT=>(h.all T (by unfold xD;simp[hT])).sok ω,λT hT=>(h.all T (by unfold xD;simp[hT])).sok ω,ω,ω⟩
def WI.mono (h:WI n L) (l:n<=n'):WI n' L:=⟨λT hT=>(h.all T hT).mono l,h.hd,by have:=h.len;omega⟩
def WI.stp (h:WI n (xD sts S cO)) (p:Ew D sts S cO o gk S' fW):WI (n+1) (xD gk S' fW):=by
 cases p with
 |no l=>exact h.mono (dM _)
 |st l=>
  refine⟨λT hT=>?_,?_,?_⟩
  .unfold xD at hT
   rw[List.reverse_nil,cU] at hT
   rcases bK.mp hT with z|z
   .exact(h.all T (by unfold xD;exact cf _ z)).mono (dM _)
   .rw[bA.mp z];exact l.ok h.s
  .have:=h.hd
   unfold xD at this⊢
   cases sts with
   |nil=>simpa using this
   |cons a l=>simpa using this
  .have:=h.len
   rw[Am] at this⊢
   simp only[aQ,aN,jn]
   omega
 |b0=>exact h.mono (dM _)
 |a0=>exact h.mono (dM _)
 |b=>have:=h.mono (dM n);unfold xD at*;simpa using this
 |a=>have:=h.mono (dM n);unfold xD at*;simpa using this
def WI.first (h:WI n (xD [] S cO)):S=S0:=by
 have:=h.hd
 unfold xD at this
 simpa using this
def K4 (sts:List Cs) (S:Cs) (cO:List Cs):∃o gk S' fW,Ew .back sts S cO o gk S' fW/\xD gk S' fW=xD sts S cO/\gk.length=sts.length-1:=by
 rcases Ah sts with rfl|⟨s',T,rfl⟩
 .exact⟨_,_,_,_,.b0,rfl,rfl⟩
 .exact⟨_,_,_,_,.b,by unfold xD;simp,ς⟩
structure Cw where
 (cb sl lc ow pl ll:ai) (sts:List Cs) (S:Cs) (cO:List Cs)
abbrev Cw.six (c:Cw):List ai:=sx c.ow c.pl c.ll c.cb c.sl c.lc
abbrev Cw.ln (c:Cw):List Cs:=xD c.sts c.S c.cO
def WC (C:ai) (N:List ai) (H:Hp) (c:Cw):Prop:=WM C N H c.cb c.sl c.lc c.ow c.pl c.ll c.sts c.S c.cO
section
variable {C:ai}{N:List ai}{H H':Hp}{cb sl lc kR ow pl ll:ai}{sts:List Cs}{S:Cs}{cO:List Cs}
def WM.same (W:WM C N H cb sl lc ow pl ll sts S cO) (s:bg H H'):WM C N H' cb sl lc ow pl ll sts S cO:=by
 obtain⟨ra,pa,vs,ws,O⟩:=W.own
 exact⟨W.cl.same s,⟨ra,pa,vs,ws,O.same s⟩,W.RI,W.Lo,W.Lp,W.Lq,W.Lr,λx hx=>(W.st x hx).imp λo e=>s _ _ e,W.dj⟩
def WM.frame {N':List ai}(W:WM C N H cb sl lc ow pl ll sts S cO) (kp:jW N H H') (tk:Tk H H') (nw:∀x∈N',x∈N\/H x=none) (st:∀x∈N',∃o,H' x=some o):WM C N' H' cb sl lc ow pl ll sts S cO:=by
 obtain⟨ra,pa,vs,ws,O⟩:=W.own
 have no:∀x∈sx ow pl ll cb sl lc,x∉N:=λx hx z=>W.dj x z hx
 refine⟨W.cl.kpm kp tk (no _ ς) (no _ ς) (no _ ς),⟨ra,pa,vs,ws,O.move (λx o n e=>kp _ _ (λz=>n (aM _ z)) e) tk (kp _ _ (no _ ς) O.d) (kp _ _ (no _ ς) O.j4) (kp _ _ (no _ ς) O.ng) λ{x o} e n z=>?_⟩,W.RI,W.Lo,W.Lp,W.Lq,W.Lr,st,λx hx z=>?_⟩
 .rcases bK.mp z with z|z
  .exact n (cf _ z)
  .rcases nw x z with y|y
   .exact n (aM _ y)
   .rw[e] at y;cases y
 .rcases nw x hx with y|y
  .exact W.dj x y z
  .obtain⟨o,e⟩:=W.wd.sV x z
   rw[e] at y;cases y
end
structure Pr (C:ai) (E:List ai) (H:Hp) (a b:Cw) (n m:Nat):Prop where
 wa:WC C (b.six++E) H a
 wb:WC C (a.six++E) H b
 ia:WI n a.ln
 ib:WI m b.ln
section
variable {C:ai}{E E':List ai}{H H':Hp}{a b:Cw}{n n' m m':Nat}
def Pr.swap (h:Pr C E H a b n m):Pr C E H b a m n:=⟨h.wb,h.wa,h.ib,h.ia⟩
def Pr.same (h:Pr C E H a b n m) (s:bg H H'):Pr C E H' a b n m:=⟨WM.same h.wa s,WM.same h.wb s,h.ia,h.ib⟩
def Pr.mono (h:Pr C E H a b n m) (l:n<=n') (l':m<=m'):Pr C E H a b n' m':=⟨h.wa,h.wb,h.ia.mono l,h.ib.mono l'⟩
def Pr.sV (h:Pr C E H a b n m):∀x∈a.six++(b.six++E),∃o,H x=some o:=λx hx=>(bK.mp hx).elim (h.wa.wd.sV x) (h.wa.st x)
def Pr.turn (h:Pr C E H a b n m) (kp:jW E H H') (tk:Tk H H') (nw:∀x∈E',x∈E\/H x=none) (st:∀x∈E',∃o,H' x=some o):Pr C E' H' a b n m:=by
 have up:∀{N:List ai} {c:Cw},WC C (N++E) H c->(∀x∈N,x∉E)->WC C (N++E') H' c:=λ{N c} W nE=>WM.frame W (λx o n e=>kp _ _ (λz=>n (aM _ z)) e) tk (λx hx=>(bK.mp hx).elim (λz=>.inl (cf _ z)) λz=>(nw x z).imp (aM _) id) λx hx=>(bK.mp hx).elim (λz=>(W.st x (cf _ z)).imp λo e=>kp _ _ (nE x z) e) (st x)
 exact⟨up h.wa λx hx z=>h.wb.dj x (aM _ z) hx,up h.wb λx hx z=>h.wa.dj x (aM _ z) hx,h.ia,h.ib⟩
def Pr.step (h:Pr C E H a b n m) (kp:jW a.six H H') (tk:Tk H H') (f:kR=a.lc\/H kR=none) (W:WM C (b.six++E) H' a.cb a.sl kR a.ow a.pl a.ll gk S' fW) (i:WI n' (xD gk S' fW)):Pr C E H' ⟨a.cb,a.sl,kR,a.ow,a.pl,a.ll,gk,S',fW⟩ b n' m:=by
 refine⟨W,WM.frame h.wb (λx o n e=>kp _ _ (λz=>n (cf _ z)) e) tk (λx hx=>?_) (λx hx=>(bK.mp hx).elim (W.wd.sV x) λz=>W.st x (aM _ z)),i,h.ib⟩
 rcases bK.mp hx with hx|hx
 .simp only[Cw.six,sx,F9,aD,aG,cx] at hx⊢
  rcases hx with rfl|rfl|rfl|rfl|rfl|rfl
  .exact .inl (.inl rfl)
  .exact .inl (.inr (.inl rfl))
  .exact .inl (.inr (.inr (.inl rfl)))
  .exact .inl (.inr (.inr (.inr (.inl rfl))))
  .exact .inl (.inr (.inr (.inr (.inr (.inl rfl)))))
  .exact f.imp (λz=>.inr (.inr (.inr (.inr (.inr (.inl z)))))) id
 .exact .inl (aM _ hx)
def Pr.out (h:Pr C E H a b n m) (e:H p=none):p∉a.six++(b.six++E):=λz=>by
 obtain⟨o,y⟩:=h.sV p z
 rw[e] at y;cases y
end
structure Tb (H:Hp) (tw:ai) (a b:Cw):Prop where
 ex:∃p q,H tw=some (.lst [.ref p,.ref q])/\H p=some (.tup [.ref a.ow,.ref a.cb])/\H q=some (.tup [.ref b.ow,.ref b.cb])
 no:tw∉a.six++b.six
def Tb.same (h:Tb H tw a b) (s:bg H H'):Tb H' tw a b:=by
 obtain⟨p,q,e1,e2,e3⟩:=h.ex
 exact⟨⟨p,q,s _ _ e1,s _ _ e2,s _ _ e3⟩,h.no⟩
def Tx (H:Hp) (tw:ai) (i:Int) (x y:Cw):Prop:=∃us p q,H tw=some (.lst us)/\qA us i=some (.ref p)/\qA us (1-i)=some (.ref q)/\H p=some (.tup [.ref x.ow,.ref x.cb])/\H q=some (.tup [.ref y.ow,.ref y.cb])
def Tb.tx (h:Tb H tw a b):Tx H tw 0 a b/\Tx H tw 1 b a:=by
 obtain⟨p,q,e1,e2,e3⟩:=h.ex
 exact⟨⟨_,p,q,e1,rfl,rfl,e2,e3⟩,⟨_,q,p,e1,rfl,rfl,e3,e2⟩⟩
def jf.up (h:jf mu H t D) (k:jW mu H H') (tk:Tk H H'):jf mu H' t D:=λH1 k1 t1=>h H1 (k.trans k1) (tk.trans t1)
def An {H:Hp}{x:Cw} (f:kR=x.lc\/H kR=none):∀z∈(Cw.mk x.cb x.sl kR x.ow x.pl x.ll gk S' fW).six,z∈x.six\/H z=none:=λz hz=>by
 simp only[Cw.six,sx,aD,aG,cx] at hz⊢
 rcases hz with rfl|rfl|rfl|rfl|rfl|rfl
 .exact .inl (.inl rfl)
 .exact .inl (.inr (.inl rfl))
 .exact .inl (.inr (.inr (.inl rfl)))
 .exact .inl (.inr (.inr (.inr (.inl rfl))))
 .exact .inl (.inr (.inr (.inr (.inr (.inl rfl)))))
 .exact f.imp (λz=>.inr (.inr (.inr (.inr (.inr z))))) id
section
variable {P:aJ}{w:bB}{K:Φ}{mg:Str->Option ag}{base:Heap}
def lb0 {f:ai}{cdv:ag}{A:bH}{outer:List Env}{s:ak}{H:Hp}{E:XK}{C:ai}(hr:eB 7 (A.deeper (Ψ "law" (ar gu) s.heap.objs.size f cdv))) (DK:Df P w K mg base 1 "_law_deck" ["cell","turn"] Dz):∃r tt,gv 1 0=r/\PS ((eQ fN P w K mg base nj "law" (ar gu) f cdv A outer s H E).kz) r tt/\∀(D:Ends) (H1:Hp) (v0 v1 v3 v4 v5 v6 v7 v8 v9:Option V) (cell:Int),(∀k H2,H1 k=none->bg H1 H2->cH H2 k 530->D.nx [v0,v1,some (.int cell),some (.ref k),v4,v5,v6,v7,v8,v9] H2)->tt D [v0,v1,some (.int cell),v3,v4,v5,v6,v7,v8,v9] H1:=by
 refine⟨_,_,rfl,lj (i:=3) oS.nd (cE DK (hr.mono δ) (ae (pv 2) (ae ao ah))),?_⟩
 intro D H1 v0 v1 v3 v4 v5 v6 v7 v8 v9 cell nx
 exact⟨_,rfl,cell,530,rfl,δ,λk H2 h1 h2 h3=>nx k H2 h1 h2 h3⟩
def lb1 {f:ai}{cdv:ag}{A:bH}{outer:List Env}{s:ak}{H:Hp}{E:XK}{C:ai}(hr:eB 7 (A.deeper (Ψ "law" (ar gu) s.heap.objs.size f cdv))) (DP:Df P w K mg base 1 "_law_pick" ["deck","many"] gi) (T:Txt mg):∃r tt,gv 1 1=r/\PS ((eQ fN P w K mg base nj "law" (ar gu) f cdv A outer s H E).kz) r tt/\∀(D:Ends) (H1:Hp) (v0 v1 v2 v4 v5 v6 v7 v8 v9:Option V) (k:ai) (c:Int),cH H1 k c->c<=5000->(∀i c' H2,i=0\/i=1->eE k H1 H2->cH H2 k c'->c'<=c+1->D.nx [v0,v1,v2,some (.ref k),some (.int i),v5,v6,v7,v8,v9] H2)->tt D [v0,v1,v2,some (.ref k),v4,v5,v6,v7,v8,v9] H1:=by
 refine⟨_,_,rfl,lj (i:=4) oS.nd (fG yo rfl T.int nv (ae (gy gO (cE DP (hr.mono δ) (ae (pv 3) (ae ao ah))) ao (bG _)) ah)),?_⟩
 intro D H1 v0 v1 v2 v4 v5 v6 v7 v8 v9 k c dk c5 nx
 refine⟨_,rfl,k,c,3,rfl,dk,ω,δ,δ,λr c2 H2 k2 d2 e2 g2 l2=>⟨rfl,.inr ⟨_,rfl,nx _ c2 H2 ?_ k2 d2 e2⟩⟩⟩
 split
 .exact .inr rfl
 .exact .inl rfl
def lb2 {f:ai}{cdv:ag}{A:bH}{outer:List Env}{s:ak}{H:Hp}{E:XK}{C:ai}(hr:eB 7 (A.deeper (Ψ "law" (ar gu) s.heap.objs.size f cdv))):∃r tt,gv 1 2=r/\PS ((eQ fN P w K mg base nj "law" (ar gu) f cdv A outer s H E).kz) r tt/\∀(D:Ends) (H1:Hp) (v0 v2 v3 v5 v6 v7 v8 v9:Option V) (tw:ai) (i:Int) (x y:Cw),Tx H1 tw i x y->D.nx [v0,some (.ref tw),v2,v3,some (.int i),some (.ref x.ow),some (.ref x.cb),v7,v8,v9] H1->tt D [v0,some (.ref tw),v2,v3,some (.int i),v5,v6,v7,v8,v9] H1:=by
 refine⟨_,_,rfl,iE (aU b_ (pv 1) (pv 4)) (fU rfl (bx (a_ (i:=5) oS.nd) (bx (a_ (i:=6) oS.nd) eX))),?_⟩
 intro D H1 v0 v2 v3 v5 v6 v7 v8 v9 tw i x y ⟨us,p,q,e1,e2,e3,e4,e5⟩ nx
 exact⟨_,rfl,_,rfl,tw,us,i,.ref p,rfl,rfl,cQ.of e1,e2,p,_,rfl,bZ.of e4,rfl,_,_,rfl,_,_,rfl,rfl,nx⟩
def lb3 (hr:eB 7 (A.deeper (Ψ "law" (ar gu) s.heap.objs.size f cdv))) (DE:Df P w K mg base 4 "_law_deed" ["deck","own"] ED):∃r tt,gv 1 3=r/\PS ((eQ fN P w K mg base nj "law" (ar gu) f cdv A outer s H E).kz) r tt/\∀(D:Ends) (H1:Hp) (v0 v1 v2 v4 v6 v7 v8 v9:Option V) (k:ai) (c:Int) (x y:Cw) (n m:Nat),Pr C [k] H1 x y n m->n<=31->cH H1 k c->c<=3000->(∀t De c' H2,eE k H1 H2->cH H2 k c'->c'<=c+300->jf (x.six++(y.six++ [k])) H2 t De->D.nx [v0,v1,v2,some (.ref k),v4,some (.ref x.ow),v6,some (.ref t),v8,v9] H2)->tt D [v0,v1,v2,some (.ref k),v4,some (.ref x.ow),v6,v7,v8,v9] H1:=by
 refine⟨_,_,rfl,lj (i:=7) oS.nd (cE DE (hr.mono δ) (ae (pv 3) (ae (pv 5) ah))),?_⟩
 intro D H1 v0 v1 v2 v4 v6 v7 v8 v9 k c x y n m h Ao dk c3 nx
 obtain⟨ra,pa,vs,ws,O⟩:=h.wa.own
 obtain⟨q_,OV,_,nb,a3,a4,a5,a6⟩:=O.now
 exact⟨_,rfl,_,rfl,k,x.ow,ra,pa,x.pl,x.ll,OV,x.S,n,c,x.six++(y.six++ [k]),rfl,dk,ω,O.d,a5,a6,h.ia.s,Ao,λz=>nb (by simp[z]),h.sV,λt De c' H2 k2 d2 l2 dK=>nx t De c' H2 k2 d2 l2 dK⟩
def lb4 (hr:eB 7 (A.deeper (Ψ "law" (ar gu) s.heap.objs.size f cdv))) (DR:Df P w K mg base 6 "_law_deed_right" ["own","club","what"] (HA C)):∃r tt,gv 1 4=r/\PS ((eQ fN P w K mg base nj "law" (ar gu) f cdv A outer s H E).kz) r tt/\∀(D:Ends) (H1:Hp) (v0 v1 v2 v3 v4 v8 v9:Option V) (k t:ai) (x y:Cw) (n m:Nat) (De:sR),Pr C [k] H1 x y n m->n<=31->jf (x.six++(y.six++ [k])) H1 t De->(∀x' H2,jW x.six H1 H2->Tk H1 H2->x'.ow=x.ow->x'.cb=x.cb->(∀z∈x'.six,z∈x.six\/H1 z=none)->Pr C [k] H2 x' y (n+1) m->D.nx [v0,v1,v2,v3,v4,some (.ref x.ow),some (.ref x.cb),some (.ref t),v8,v9] H2)->tt D [v0,v1,v2,v3,v4,some (.ref x.ow),some (.ref x.cb),some (.ref t),v8,v9] H1:=by
 refine⟨_,_,rfl,cS (fS (fM (cE DR (hr.mono δ) (ae (pv 5) (ae (pv 6) (ae (pv 7) ah)))))) kg bO,?_⟩
 intro D H1 v0 v1 v2 v3 v4 v8 v9 k t x y n m De h Ao dK nx
 obtain⟨Fu,Fv,l1,l2⟩:=h.ia.ok Ao
 obtain⟨o,gk,S',fW,sp⟩:=FK (sts:=x.sts) (S:=x.S) (cO:=x.cO) (dK H1 jW.refl (λ_ _ e=>e)) h.ia.s.lc
 refine⟨_,rfl,_,rfl,_,rfl,x.cb,x.sl,x.lc,x.ow,x.pl,x.ll,t,_,_,x.sts,x.S,x.cO,De,n,o,gk,S',fW,rfl,h.wa,Fu,Fv,ω,ω,dK,ς,h.ia.s,Ao,sp,λkR H2 k2 t2 f2 W2=>⟨_,rfl,?_⟩⟩
 exact ite_no δ (nx ⟨x.cb,x.sl,kR,x.ow,x.pl,x.ll,gk,S',fW⟩ H2 k2 t2 rfl rfl (An f2) (h.step k2 t2 f2 W2 (h.ia.stp sp)))
def lb5 (hr:eB 7 (A.deeper (Ψ "law" (ar gu) s.heap.objs.size f cdv))) (DP:Df P w K mg base 1 "_law_pick" ["deck","many"] gi) (DR:Df P w K mg base 6 "_law_deed_right" ["own","club","what"] (HA C)):∃r tt,gv 1 5=r/\PS ((eQ fN P w K mg base nj "law" (ar gu) f cdv A outer s H E).kz) r tt/\∀(D:Ends) (H1:Hp) (v0 v2 v5 v6 v8 v9:Option V) (k t tw:ai) (c i:Int) (x y:Cw) (mu:List ai) (n m:Nat) (De:sR),Pr C [k] H1 x y n m->m<=31->Tx H1 tw i x y->tw≠k->cH H1 k c->c<=5000->(∀z∈y.six++ [k],z∈mu)->jf mu H1 t De->(∀y' H2,jW (y.six++ [k]) H1 H2->Tk H1 H2->y'.ow=y.ow->y'.cb=y.cb->(∀z∈y'.six,z∈y.six\/H1 z=none)->Pr C [k] H2 x y' n (m+1)->D.nx [v0,some (.ref tw),v2,some (.ref k),some (.int i),v5,v6,some (.ref t),v8,v9] H2)->tt D [v0,some (.ref tw),v2,some (.ref k),some (.int i),v5,v6,some (.ref t),v8,v9] H1:=by
 refine⟨_,_,rfl,cS (PW.pt (Ij (bo gO (cE DP (hr.mono δ) (ae (pv 3) (ae ao ah))) ao (bG _)) (EL (fS (fM (cE DR (hr.mono δ) (ae (aU aZ (aU b_ (pv 1) (bW kW ao (pv 4))) ao) (ae (aU aZ (aU b_ (pv 1) (bW kW ao (pv 4))) ao) (ae (pv 7) ah))))))))) kg bO,?_⟩
 intro D H1 v0 v2 v5 v6 v8 v9 k t tw c i x y mu n m De h tz ⟨us,p,q,e1,e2,e3,e4,e5⟩ nk dk c5 OS dK nx
 refine⟨_,rfl,k,c,2,rfl,dk,ω,δ,δ,λr c2 H2 k2 d2 l2 g2 r2=>⟨rfl,_,rfl,?_⟩⟩
 have kk:jW [k] H1 H2:=λz o n e=>k2 _ _ (λy=>n (by simp[y])) e
 have tk:=jh dk k2
 have h2:=h.turn (E':=[k]) kk tk (λz hz=>.inl hz) (λz hz=>by rw[bA.mp hz];exact d2.some)
 have kw:jW (y.six++ [k]) H1 H2:=λz o n e=>kk _ _ (λy=>n (aM _ y)) e
 refine eY (λ_=>?_) (λ_=>ite_no δ (nx y H2 kw tk rfl rfl (λz hz=>.inl hz) (h2.mono (av _) (dM _))))
 have dK2:=dK.up (λz o n e=>kk _ _ (λy=>n (OS _ (aM _ y))) e) tk
 obtain⟨Fu,Fv,l1,l3⟩:=h2.ib.ok tz
 obtain⟨o,gk,S',fW,sp⟩:=FK (sts:=y.sts) (S:=y.S) (cO:=y.cO) (dK2 H2 jW.refl (λ_ _ e=>e)) h2.ib.s.lc
 have e1':=k2 _ _ nk e1
 have Ll:=tk _ _ e5
 refine⟨_,rfl,_,rfl,_,_,rfl,rfl,tw,us,_,.ref q,rfl,rfl,cQ.of e1',e3,q,_,0,_,rfl,rfl,bZ.of Ll,rfl,_,rfl,_,rfl,_,_,rfl,rfl,tw,us,_,.ref q,rfl,rfl,cQ.of e1',e3,q,_,1,_,rfl,rfl,bZ.of Ll,rfl,_,rfl,y.cb,y.sl,y.lc,y.ow,y.pl,y.ll,t,_,mu,y.sts,y.S,y.cO,De,m,o,gk,S',fW,rfl,h2.wb,Fu,Fv,ω,ω,dK2,λz hz=>OS z (cf _ (by simp only[aD,aG,cx] at hz⊢;rcases hz with rfl|rfl|rfl<;>simp)),h2.ib.s,tz,sp,λkR H3 k3 t3 f3 W3=>⟨_,rfl,?_⟩⟩
 refine ite_no δ (nx ⟨y.cb,y.sl,kR,y.ow,y.pl,y.ll,gk,S',fW⟩ H3 (kw.trans (k3.mono λz hz=>cf _ hz)) (tk.trans t3) rfl rfl ?_ (h2.swap.step k3 t3 f3 W3 (h2.ib.stp sp)).swap)
 exact An (x:=y) (f3.imp id λz=>oE k2 (λy=>by rw[y] at z;obtain⟨o,e⟩:=d2.some;rw[z] at e;cases e) z)
def HI (P:aJ) (w:bB) (K:Φ) (mg:Str->Option ag) (base:Heap) (C:ai):Prop:=∃f fd,dR P w K mg base fN 2 f fd ["self","other"] (Nm C)/\Binds K fd ["self","other"] []/\uR K C "__eq__" f/\findIn K (.ref C) "__ne__"=some (some (.builtin "object.__ne__"))/\mroIn K C (.type "object")=some true
def K5 (D:HI X.prog X.w X.K X.mg X.base C) (hr:eB 2 X.A):lP X (compareOp .Eq) (Mp C (Nm C) false):=by
 obtain⟨f,fd,F,b,m,h1,h2⟩:=D
 exact Qm F hr b m
def Sa (D:HI X.prog X.w X.K X.mg X.base C) (hr:eB 3 X.A):lP X (compareOp .NotEq) (Mp C (Nm C) true):=by
 obtain⟨f,fd,F,b,m,h1,h2⟩:=D
 exact Qn F hr b m h1 h2
def lb6 (hr:eB 7 (A.deeper (Ψ "law" (ar gu) s.heap.objs.size f cdv))) (DS:Df P w K mg base 6 "_law_stands_right" ["own","club"] (R4 C)):∃r tt,gv 1 6=r/\PS ((eQ fN P w K mg base nj "law" (ar gu) f cdv A outer s H E).kz) r tt/\∀(D:Ends) (H1:Hp) (v0 v2 v3 v4 v5 v6 v7 v8 v9:Option V) (tw:ai) (E1:List ai) (a b:Cw) (n m:Nat),Pr C E1 H1 a b n m->n<=31->m<=31->Tb H1 tw a b->(∀H2,bg H1 H2->D.nx [v0,some (.ref tw),v2,v3,v4,v5,v6,v7,v8,v9] H2)->tt D [v0,some (.ref tw),v2,v3,v4,v5,v6,v7,v8,v9] H1:=by
 refine⟨_,_,rfl,cS (PW.pt (jw (fS (fM (cE DS (hr.mono δ) (ae (aU aZ (aU b_ (pv 1) ao) ao) (ae (aU aZ (aU b_ (pv 1) ao) ao) ah))))) (kf (fS (fM (cE DS (hr.mono δ) (ae (aU aZ (aU b_ (pv 1) ao) ao) (ae (aU aZ (aU b_ (pv 1) ao) ao) ah)))))))) kg bO,?_⟩
 intro D H1 v0 v2 v3 v4 v5 v6 v7 v8 v9 tw E1 a b n m h Ao tz tb nx
 obtain⟨p,q,e1,e2,e3⟩:=tb.ex
 refine⟨_,rfl,tw,_,0,.ref p,rfl,rfl,cQ.of e1,rfl,p,_,0,_,rfl,rfl,bZ.of e2,rfl,_,rfl,tw,_,0,.ref p,rfl,rfl,cQ.of e1,rfl,p,_,1,_,rfl,rfl,bZ.of e2,rfl,a.cb,a.sl,a.lc,a.ow,a.pl,a.ll,a.sts,a.S,a.cO,n,rfl,h.wa.wd,h.ia.s,Ao,λH2 s2=>⟨_,rfl,?_⟩⟩
 refine ite_no δ ?_
 refine⟨_,rfl,tw,_,1,.ref q,rfl,rfl,cQ.of (s2 _ _ e1),rfl,q,_,0,_,rfl,rfl,bZ.of (s2 _ _ e3),rfl,_,rfl,tw,_,1,.ref q,rfl,rfl,cQ.of (s2 _ _ e1),rfl,q,_,1,_,rfl,rfl,bZ.of (s2 _ _ e3),rfl,b.cb,b.sl,b.lc,b.ow,b.pl,b.ll,b.sts,b.S,b.cO,m,rfl,h.wb.wd.same s2,h.ib.s,tz,λH3 s3=>⟨_,rfl,?_⟩⟩
 exact ite_no δ (nx H3 (s2.trans s3))
def sX (a b:Cw):Bool:=decide (a.S.br=b.S.br/\a.S.rows=b.S.rows)
def lb8 (hr:eB 7 (A.deeper (Ψ "law" (ar gu) s.heap.objs.size f cdv))) (DQ:HI P w K mg base C):∃r tt,gv 1 8=r/\PS ((eQ fN P w K mg base nj "law" (ar gu) f cdv A outer s H E).kz) r tt/\∀(D:Ends) (H1:Hp) (v0 v2 v3 v4 v5 v6 v7 v9:Option V) (tw:ai) (E1:List ai) (a b:Cw) (n m:Nat),Pr C E1 H1 a b n m->n<=31->m<=31->Tb H1 tw a b->(∀H2,bg H1 H2->D.nx [v0,some (.ref tw),v2,v3,v4,v5,v6,v7,some (.bl (sX a b)),v9] H2)->tt D [v0,some (.ref tw),v2,v3,v4,v5,v6,v7,some (.bl (sX a b)),v9] H1:=by
 refine⟨_,_,rfl,cS (PW.pt (jw (bo lV (gy (K5 DQ (hr.mono δ)) (aU aZ (aU b_ (pv 1) ao) ao) (aU aZ (aU b_ (pv 1) ao) ao) (bG _)) (pv 8) (bG _)) (kf (bo gO (gy (Sa DQ (hr.mono δ)) (aU aZ (aU b_ (pv 1) ao) ao) (aU aZ (aU b_ (pv 1) ao) ao) (bG _)) (pv 8) (bG _))))) kg bO,?_⟩
 intro D H1 v0 v2 v3 v4 v5 v6 v7 v9 tw E1 a b n m h Ao tz tb nx
 obtain⟨p,q,e1,e2,e3⟩:=tb.ex
 obtain⟨da,_,_,ca,_⟩:=id h.wa.cl
 obtain⟨db,_,_,cb,_⟩:=id h.wb.cl
 have oa:=h.ia.s.ok Ao
 have ob:=h.ib.s.ok tz
 refine⟨_,rfl,tw,_,0,.ref p,rfl,rfl,cQ.of e1,rfl,p,_,1,_,rfl,rfl,bZ.of e2,rfl,_,rfl,tw,_,1,.ref q,rfl,rfl,cQ.of e1,rfl,q,_,1,_,rfl,rfl,bZ.of e3,rfl,a.cb,b.cb,da,_,db,_,rfl,rfl,ca,cb,a.cb,a.sl,a.lc,b.cb,b.sl,b.lc,a.S,b.S,a.sts,a.cO,b.sts,b.cO,rfl,h.wa.cl,h.wb.cl,oa,ob,λH2 s2=>⟨_,rfl,_,rfl,rfl,_,rfl,?_⟩⟩
 refine ite_no (by show ¬(!decide (V.bl (sX a b)=V.bl (sX a b)))=true;simp) ?_
 refine⟨_,rfl,tw,_,1,.ref q,rfl,rfl,cQ.of (s2 _ _ e1),rfl,q,_,1,_,rfl,rfl,bZ.of (s2 _ _ e3),rfl,_,rfl,tw,_,0,.ref p,rfl,rfl,cQ.of (s2 _ _ e1),rfl,p,_,1,_,rfl,rfl,bZ.of (s2 _ _ e2),rfl,b.cb,a.cb,db,_,da,_,rfl,rfl,s2 _ _ cb,s2 _ _ ca,b.cb,b.sl,b.lc,a.cb,a.sl,a.lc,b.S,a.S,b.sts,b.cO,a.sts,a.cO,rfl,h.wb.cl.same s2,h.wa.cl.same s2,ob,oa,λH3 s3=>⟨_,rfl,_,rfl,rfl,_,rfl,?_⟩⟩
 have e:decide (b.S.br=a.S.br/\b.S.rows=a.S.rows)=sX a b:=decide_eq_decide.mpr ⟨λz=>⟨z.1.symm,z.2.symm⟩,λz=>⟨z.1.symm,z.2.symm⟩⟩
 refine ite_no (by rw[e];cases sX a b<;>decide) (nx H3 (s2.trans s3))
end
def nm7:List (Str×NameKind):=[(".0",.local),("part",.local),("two",.free)]
def nd7:(["part","two"]:List Str).Nodup:=by decide+kernel
def WG:R2:=λx y H Q=>∃k k' dx dy,Tells H k dx x/\Tells H k' dy y/\Lay dx/\Lay dy/\Q (.bl (PyData.eqv dx dy)) H
def NI (hu:X.A.units+64<cLine):lP X (compareOp .Eq) WG:=pL hu
def te7 (K:Φ):TE:=gH WG (Jn (gH (gg K) (gH (Gr K) (cj 1) (tC (.int 0))) (tC (.int 0))) (cj 0)) (Jn (gH (gg K) (gH (Gr K) (cj 1) (tC (.int 1))) (tC (.int 0))) (cj 0))
def Ap (b:Bool):qI H (.bool b) (.bl b):=⟨0,λ_ _=>oo.mpr rfl⟩
def K6 (a b:Cw):List Bool:=[decide (a.S.br=b.S.br),decide (a.S.rows=b.S.rows)]
section
variable {P:aJ}{w:bB}{K:Φ}{mg:Str->Option ag}{base:Heap}
def FV {ow ra pa pl ll:ai}{vs ws:List V} (O:jA mu H ow ra pa pl ll vs ws sts S cO):(iB H ow (.str "rowers") (some (.ref ra))/\qI H (.list (S.br.map rD)) (.ref ra))/\iB H ow (.str "pieces") (some (.ref pa))/\qI H (.list (S.rows.map Lm)) (.ref pa):=by
 obtain⟨q_,OV,_,_,a3,a4,a5,a6⟩:=O.now
 have a:=iB.k (k:=.inr "rowers") O.d
 have b:=iB.k (k:=.inr "pieces") O.d
 rw[Af] at a
 rw[xt] at b
 exact⟨⟨a,eJ a3 (eG pZ a4)⟩,b,eJ a5 (eG rg a6)⟩
def HJ (v:Option V) (hL:H1 L=none) (ht:H1 pt=some (.tup [.str "rowers",.str "pieces"])) (h:Pr C E1 H1 a b n m) (Ao:n<=31) (tz:m<=31) (tb:Tb H1 tw a b) (q:∀J,bg H1 J->J L=some (.lst ((K6 a b).map V.bl))->Q (.ref L) J):
  pK (Cr K pt) (de 0) pH (te7 K) [v,some (.ref tw)] H1 Q L:=by
 have oa:=h.ia.s.ok Ao
 have ob:=h.ib.s.ok tz
 refine kY (n:=2) (f:=λi=>[V.str "rowers",.str "pieces"].getD i .eU) (λj ys bX J=>(∃v,bX=[v,some (.ref tw)])/\bg H1 J/\ys=((K6 a b).take j).map V.bl) hL δ ⟨⟨_,rfl⟩,bP (bg.refl _) hL,rfl⟩ (λj ys bX J hj hy ⟨_,sj,_⟩=>kD (K:=K) (bZ.of (sj _ _ ht)) j hj) ?_ ?_
 .rintro j ys bX J hj hy ⟨⟨v,rfl⟩,sj,rfl⟩
  obtain⟨p,q,e1,e2,e3⟩:=(tb.same sj).ex
  obtain⟨ra,pa,vs,ws,O⟩:=(WM.same h.wa sj).own
  obtain⟨rb,pb,BZ,tu,O'⟩:=(WM.same h.wb sj).own
  obtain⟨⟨g1,f1⟩,g2,f2⟩:=FV O
  obtain⟨⟨g3,f3⟩,g4,f4⟩:=FV O'
  rcases(by omega:j=0\/j=1) with rfl|rfl
  .obtain⟨k1,t1⟩:=f1.one
   obtain⟨k2,t2⟩:=f3.one
   refine⟨_,rfl,tw,_,0,.ref p,rfl,rfl,cQ.of e1,rfl,p,_,0,_,rfl,rfl,bZ.of e2,rfl,_,rfl,a.ow,_,rfl,g1,_,rfl,tw,_,1,.ref q,rfl,rfl,cQ.of e1,rfl,q,_,0,_,rfl,rfl,bZ.of e3,rfl,_,rfl,b.ow,_,rfl,g3,k1,k2,_,_,t1,t2,oa.Hr,ob.Hr,hy,⟨_,rfl⟩,bP sj hL,?_⟩
   rw[l_ xq];rfl
  .obtain⟨k1,t1⟩:=f2.one
   obtain⟨k2,t2⟩:=f4.one
   refine⟨_,rfl,tw,_,0,.ref p,rfl,rfl,cQ.of e1,rfl,p,_,0,_,rfl,rfl,bZ.of e2,rfl,_,rfl,a.ow,_,rfl,g2,_,rfl,tw,_,1,.ref q,rfl,rfl,cQ.of e1,rfl,q,_,0,_,rfl,rfl,bZ.of e3,rfl,_,rfl,b.ow,_,rfl,g4,k1,k2,_,_,t1,t2,oa.layR,ob.layR,hy,⟨_,rfl⟩,bP sj hL,?_⟩
   rw[l_ Ep];rfl
 .rintro ys bX J hy ⟨_,sj,rfl⟩
  exact q J sj hy
def lb7 (hr:eB 7 (A.deeper (Ψ "law" (ar gu) s.heap.objs.size f cdv))):∃r tt,gv 1 7=r/\PS ((eQ fN P w K mg base nj "law" (ar gu) f cdv A outer s H E).kz) r tt/\∀(D:Ends) (H1:Hp) (v0 v2 v3 v4 v5 v6 v7 v8 v9:Option V) (tw:ai) (E1:List ai) (a b:Cw) (n m:Nat),Pr C E1 H1 a b n m->n<=31->m<=31->Tb H1 tw a b->(∀H2,bg H1 H2->D.nx [v0,some (.ref tw),v2,v3,v4,v5,v6,v7,some (.bl (sX a b)),v9] H2)->tt D [v0,some (.ref tw),v2,v3,v4,v5,v6,v7,v8,v9] H1:=by
 have hu:=bf (eK (by decide:1<=64) _) hr.units
 refine⟨_,_,rfl,lj (i:=8) oS.nd (gy (pL hr.units) (kI (N:=["part","two"]) (g:=de 0) (tc:=pH) (te:=te7 K) rfl (iF (bU (ae bh (ae bh ah)))) (fD.one (v:="part") (fr:="two") (j:=1) (nm:=nm7) rfl rfl rfl rfl) (λ_ _ _=>a_ (i:=0) nd7) (λ_ _ _=>iV) (λ_ _ _=>gy (NI hr.units) (fB hu (aU aZ (aU b_ (pv 1) ao) ao) (pv 0)) (fB hu (aU aZ (aU b_ (pv 1) ao) ao) (pv 0)) (bG _))) (cW (ae mw (ae mw ah))) (bG _)),?_⟩
 intro D H1 v0 v2 v3 v4 v5 v6 v7 v8 v9 tw E1 a b n m h Ao tz tb nx
 refine⟨dZ,λpt Wq=>?_⟩
 exists Wq,.tup [.str "rowers",.str "pieces"],H1,pt,s1,w1,J1
 refine⟨pt,rfl,⟨_,bZ.of w1⟩,λL hL=>?_⟩
 refine HJ _ hL w1 (h.same s1) Ao tz (tb.same s1) λJ2 s2 w2=>?_
 refine⟨dZ,λq hq=>?_⟩
 exists hq,.lst [.bl true,.bl true],J2,q,s3,w3,J3
 obtain⟨k1,t1⟩:=(eJ (ds:=(K6 a b).map .bool) (s3 _ _ w2) (aW (Ap _) (aW (Ap _) dU))).one
 obtain⟨k2,t2⟩:=(eJ (ds:=[.bool true,.bool true]) w3 (aW (Ap _) (aW (Ap _) dU))).one
 have ly:∀c d:Bool,Lay (.list [.bool c,.bool d]):=λc d=>(Bd.list (n:=1) (p:=0) (m:=2) (ds:=[.bool c,.bool d]) (λx hx=>by
  simp only[aD,aG,cx] at hx
  rcases hx with rfl|rfl<;>exact E_ _) (av 2)).lay δ
 refine⟨k1,k2,_,_,t1,t2,ly _ _,ly _ _,?_⟩
 have e:PyData.eqv (.list ((K6 a b).map .bool)) (.list [.bool true,.bool true])=sX a b:=by
  unfold K6 sX
  rw[Bool.decide_and]
  generalize decide (a.S.br=b.S.br)=c
  generalize decide (a.S.rows=b.S.rows)=d
  cases c<;>cases d<;>rfl
 rw[e]
 exact nx J3 (s1.trans (s2.trans s3))
end
def WH {cb sl lc ow ra pa pl ll:ai}(n5:Wz H H2 ow ra pa pl ll) (s:bg H2 H3) (cl:eV C H3 cb sl lc ([]++ [S0]) []) (f1:H2 cb=none) (f2:H2 sl=none) (f3:H2 lc=none) (st:∀x∈N,∃o,H x=some o):WM C N H3 cb sl lc ow pl ll [] S0 []/\∀x∈sx ow pl ll cb sl lc,H x=none:=by
 obtain⟨m1,m2,m3,m4,m5⟩:=n5.no
 obtain⟨n1,n2,n3,n4,n6⟩:=n5.ne
 have fr:∀x∈sx ow pl ll cb sl lc,H x=none:=λx hx=>by
  simp only[aD,aG,cx] at hx
  rcases hx with rfl|rfl|rfl|rfl|rfl|rfl
  .exact m1
  .exact m4
  .exact m5
  .exact cD n5.s f1
  .exact cD n5.s f2
  .exact cD n5.s f3
 have out:∀{x:ai},H x=none->H2 x=some (.lst [])->x≠pl->x≠ll->x∉sx ow pl ll cb sl lc++N:=λ{x} e0 e1 e2 e3 z=>by
  rcases bK.mp z with z|z
  .simp only[aD,aG,cx] at z
   rcases z with z|z|z|z|z|z
   .exact ma n5.d e1 z.symm
   .exact e2 z
   .exact e3 z
   .exact jb e1 f1 z
   .exact jb e1 f2 z
   .exact jb e1 f3 z
  .obtain⟨o,y⟩:=st x z
   rw[e0] at y;cases y
 refine⟨⟨cl,⟨ra,pa,[],[],s _ _ n5.d,⟨[],[],out m2 n5.FT n2 n3,out m3 n5.xJ n4 n6,s _ _ n5.FT,.nil,s _ _ n5.xJ,.nil⟩,s _ _ n5.j4,.nil,s _ _ n5.ng,.nil⟩,n1,jb n5.j4 f2,jb n5.j4 f3,jb n5.ng f2,jb n5.ng f3,λx hx=>(st x hx).imp λo e=>s _ _ (n5.s _ _ e),λx hx z=>?_⟩,fr⟩
 obtain⟨o,y⟩:=st x hx
 rw[fr x z] at y;cases y
section
variable {P:aJ}{w:bB}{K:Φ}{mg:Str->Option ag}{base:Heap}
def XE (P:aJ) (w:bB) (K:Φ) (mg:Str->Option ag) (base:Heap) (C:ai):Prop:=∃f fd,Mk K C f/\dR P w K mg base fN 1 f fd ["self"] (qZ C)/\Binds K fd ["self"] []/\mg "Club"=some (.ref C)
def FW (D:XE X.prog X.w X.K X.mg X.base C) (hr:eB 2 X.A) (hg:Gl X "Club":=by rfl):PE X (.Call (.Name "Club" p) [] [] pos) (yv C (qZ C) [] E0 eW):=by
 obtain⟨f,fd,M,F,b,m⟩:=D
 exact IC M F hr hg m b .nil AS
def K7 (D:Df X.prog X.w X.K X.mg X.base k x [] sp) (hr:eB k X.A) (hg:Gl X x:=by rfl) (qM:(x==("__debug__":Str))=false:=by decide):PE X (.Call (.Name x p) [] [] pos) (j0 sp [] E0 eW):=by
 obtain⟨f,fd,F,b,kp,m⟩:=D
 exact Iy F hr hg m kp b .nil AS qM
def BP {C:ai}{N:List ai}{H1:Hp}{Z:L2.St}{Q:VK}(st:∀x∈N,∃o,H1 x=some o) (q:∀p (a:Cw) H2,a.sts=[]->a.S=S0->a.cO=[]->bg H1 H2->WC C N H2 a->(∀x∈a.six,H1 x=none)->H2 p=some (.tup [.ref a.ow,.ref a.cb])->Q (.ref p) H2):
  mQ (ck (j0 xC [] E0 eW) (ck (yv C (qZ C) [] E0 eW) eW)) Z H1 Q:=by
 refine⟨rfl,λow ra pa pl ll H2 n5=>?_⟩
 intro cb dx hc hd nd
 refine⟨cb,dx,rfl,aB,λsl lc H3 k3 hs hl g=>⟨rfl,?_⟩⟩
 have u:∀b o,H2 b=some o->upd (upd H2 dx (.own cb)) cb (.ins C dx []) b=some o:=λb o e=>by
  rw[bb (jb e hc),bb (jb e hd)];exact e
 have un:∀{x:ai},upd (upd H2 dx (.own cb)) cb (.ins C dx []) x=none->H2 x=none:=λ{x} z=>by
  cases e:H2 x with
  |none=>rfl
  |some o=>rw[u _ _ e] at z;cases z
 have XF:bg H2 H3:=λb o e=>k3 _ _ (jb e hc) (u _ _ e)
 obtain⟨W,fr⟩:=WH n5 XF g hc (un hs) (un hl) st
 refine⟨dZ,λp hp=>?_⟩
 have s4:=aO hp (.tup [.ref ow,.ref cb])
 exact q p ⟨cb,sl,lc,ow,pl,ll,[],S0,[]⟩ _ rfl rfl rfl ((n5.s.trans XF).trans s4) (WM.same W s4) fr aB
def lw0 (hr:eB 7 (A.deeper (Ψ "law" (ar gu) s.heap.objs.size f cdv))) (DC:XE P w K mg base C) (DO:Df P w K mg base 1 "_law_club" [] xC):∃r tt,nu 0=r/\PS ((eQ fN P w K mg base nj "law" (ar gu) f cdv A outer s H E).kz) r tt/\∀(D:Ends) (H1:Hp) (v0 v1 v2 v3 v4 v5 v6 v7 v8 v9:Option V),(∀tw a b H2,bg H1 H2->Pr C [] H2 a b 0 0->Tb H2 tw a b->D.nx [v0,some (.ref tw),v2,v3,v4,v5,v6,v7,v8,v9] H2)->tt D [v0,v1,v2,v3,v4,v5,v6,v7,v8,v9] H1:=by
 refine⟨_,_,rfl,vN (i:=1) oS.nd rfl (Or.inr rfl) (cW (ae (bU (ae (K7 DO (hr.mono δ)) (ae (FW DC (hr.mono δ)) ah))) (ae (bU (ae (K7 DO (hr.mono δ)) (ae (FW DC (hr.mono δ)) ah))) ah))),?_⟩
 intro D H1 v0 v1 v2 v3 v4 v5 v6 v7 v8 v9 nx
 show mQ (ck (j0 xC [] E0 eW) (ck (yv C (qZ C) [] E0 eW) eW)) [v0,v1,v2,v3,v4,v5,v6,v7,v8,v9] H1 (λx H=>ck (mQ (ck (j0 xC [] E0 eW) (ck (yv C (qZ C) [] E0 eW) eW))) eW [v0,v1,v2,v3,v4,v5,v6,v7,v8,v9] H λxs H2=>(x::xs).length<=sizeLine/\∀p,H2 p=none->de 1 (.ref p) [v0,v1,v2,v3,v4,v5,v6,v7,v8,v9] (upd H2 p (.lst (x::xs))) D.nx)
 refine BP (N:=[]) (λx h=>nomatch h) λp a H2 a1 a2 a3 s2 Wa fa hp=>?_
 show mQ (ck (j0 xC [] E0 eW) (ck (yv C (qZ C) [] E0 eW) eW)) [v0,v1,v2,v3,v4,v5,v6,v7,v8,v9] H2 (λy H=>(V.ref p:: [y]).length<=sizeLine/\∀t,H t=none->de 1 (.ref t) [v0,v1,v2,v3,v4,v5,v6,v7,v8,v9] (upd H t (.lst (.ref p:: [y]))) D.nx)
 refine BP (N:=a.six) (Wa.wd.sV) λq b H3 b1 b2 b3 s3 Wb fb hq=>?_
 refine⟨dZ,λtw htw=>?_⟩
 have s4:=aO htw (.lst [.ref p,.ref q])
 have wi:WI 0 (xD [] S0 []):=⟨λT hT=>by
  have:T=S0:=by simpa[xD] using hT
  rw[this];exact St.nil,rfl,δ⟩
 have Wa3:WC C b.six H3 a:=WM.frame Wa (fh s3) (fe s3) (λx hx=>.inr (fb x hx)) Wb.wd.sV
 have pr:Pr C [] H3 a b 0 0:=⟨by rw[cU];exact Wa3,by rw[cU];exact Wb,by unfold Cw.ln;rw[a1,a2,a3];exact wi,by unfold Cw.ln;rw[b1,b2,b3];exact wi⟩
 have no:=pr.out htw
 rw[cU] at no
 exact nx tw a b _ ((s2.trans s3).trans s4) (pr.same s4) ⟨⟨p,q,aB,s4 _ _ (s3 _ _ hp),s4 _ _ hq⟩,no⟩
end
structure Nx (C:ai) (H H':Hp) (x x' y:Cw) (n m:Nat):Prop where
 pr:Pr C [] H' x' y n m
 kp:jW x.six H H'
 tk:Tk H H'
 ow:x'.ow=x.ow
 cb:x'.cb=x.cb
 nw:∀z∈x'.six,z∈x.six\/H z=none
section
variable {P:aJ}{w:bB}{K:Φ}{mg:Str->Option ag}{base:Heap}
def lw3 (hr:eB 7 (A.deeper (Ψ "law" (ar gu) s.heap.objs.size f cdv))) (DQ:HI P w K mg base C):∃r tt,nu 3=r/\PS ((eQ fN P w K mg base nj "law" (ar gu) f cdv A outer s H E).kz) r tt/\∀(D:Ends) (H1:Hp) (v0 v2 v3 v4 v5 v6 v7 v8 v9:Option V) (tw:ai) (E1:List ai) (a b:Cw) (n m:Nat),Pr C E1 H1 a b n m->n<=31->m<=31->Tb H1 tw a b->a.S=S0->b.S=S0->(∀H2,D.rt (.bl true) H2)->tt D [v0,some (.ref tw),v2,v3,v4,v5,v6,v7,v8,v9] H1:=by
 refine⟨_,_,rfl,bN (gy (K5 DQ (hr.mono δ)) (aU aZ (aU b_ (pv 1) ao) ao) (aU aZ (aU b_ (pv 1) ao) ao) (bG _)),?_⟩
 intro D H1 v0 v2 v3 v4 v5 v6 v7 v8 v9 tw E1 a b n m h Ao tz tb ea eb q1
 obtain⟨p,q,e1,e2,e3⟩:=tb.ex
 obtain⟨da,_,_,ca,_⟩:=id h.wa.cl
 obtain⟨db,_,_,cb,_⟩:=id h.wb.cl
 refine⟨_,rfl,tw,_,0,.ref p,rfl,rfl,cQ.of e1,rfl,p,_,1,_,rfl,rfl,bZ.of e2,rfl,_,rfl,tw,_,1,.ref q,rfl,rfl,cQ.of e1,rfl,q,_,1,_,rfl,rfl,bZ.of e3,rfl,a.cb,b.cb,da,_,db,_,rfl,rfl,ca,cb,a.cb,a.sl,a.lc,b.cb,b.sl,b.lc,a.S,b.S,a.sts,a.cO,b.sts,b.cO,rfl,h.wa.cl,h.wb.cl,h.ia.s.ok Ao,h.ib.s.ok tz,λH2 s2=>⟨_,rfl,?_⟩⟩
 rw[ea,eb]
 exact q1 H2
def lc0 (hr:eB 7 (A.deeper (Ψ "law" (ar gu) s.heap.objs.size f cdv))) (T:Txt mg) (DR:Df P w K mg base 6 "_law_deed_right" ["own","club","what"] (HA C)):∃r tt,gv 2 0=r/\PS ((eQ fN P w K mg base nj "law" (ar gu) f cdv A outer s H E).kz) r tt/\∀(D:Ends) (H1:Hp) (v0 v1 v2 v3 v4 v7 v8 v9:Option V) (x y:Cw) (n m:Nat),Pr C [] H1 x y n m->n<=31->(∀x' HK H2,Nx C H1 H2 x x' y n m->x'.sts=[]->D.nx [v0,v1,v2,v3,v4,some (.ref x.ow),some (.ref x.cb),v7,v8,HK] H2)->tt D [v0,v1,v2,v3,v4,some (.ref x.ow),some (.ref x.cb),v7,v8,v9] H1:=by
 have hu:=bf (eK (by decide:1<=64) _) hr.units
 refine⟨_,_,rfl,mL fg rfl (tR rfl T.range (ae (bW gs (aR bS rfl T.len bC (ae (fB hu (pv 5) bh) ah)) ao) ah)) (a_ (i:=9) oS.nd) (aF (cS (fS (fM (cE DR (hr.mono δ) (ae (pv 5) (ae (pv 6) (ae (bU (ae bh ah)) ah)))))) kg bO)),?_⟩
 intro D H1 v0 v1 v2 v3 v4 v7 v8 v9 x y n m h Ao nx
 obtain⟨ra,pa,vs,ws,O⟩:=h.wa.own
 have lu:=bT O.pp
 have gp:=iB.k (k:=.inr "past") O.d
 rw[qc] at gp
 have ln:=h.ia.len
 rw[Am] at ln
 refine⟨_,rfl,x.ow,_,rfl,gp,x.pl,vs,rfl,.inl (cQ.of O.j4),_,_,rfl,rfl,((vs.length:Int)+1),rfl,ω,ω,?_⟩
 refine Gi (λi bX H'=>∃x' HK,bX=[v0,v1,v2,v3,v4,some (.ref x.ow),some (.ref x.cb),v7,v8,HK]/\Nx C H1 H' x x' y n m/\x'.sts.length=x.sts.length-i) ⟨x,_,rfl,⟨h,jW.refl,λ_ _ e=>e,rfl,rfl,λz hz=>.inl hz⟩,rfl⟩ ?_ ?_
 .rintro i bX H4 hi ⟨x',HK,rfl,N,el⟩
  obtain⟨Fu,Fv,l1,l2⟩:=N.pr.ia.ok Ao
  obtain⟨o,gk,S',fW,sp,et,el'⟩:=K4 x'.sts x'.S x'.cO
  refine⟨_,rfl,_,rfl,dZ,λt ht=>?_⟩
  exists ht,.tup [.str "back"],H4,t,s5,w5,H5
  have p5:=N.pr.same s5
  refine⟨x'.cb,x'.sl,x'.lc,x'.ow,x'.pl,x'.ll,t,_,[x'.ow,x'.pl,x'.ll],x'.sts,x'.S,x'.cO,.back,n,o,gk,S',fW,by rw[N.ow,N.cb];rfl,p5.wa,Fu,Fv,ω,ω,λG _ tG=>tG _ _ w5,λz hz=>hz,p5.ia.s,Ao,sp,λkR H6 k6 t6 f6 W6=>⟨_,rfl,?_⟩⟩
  refine ite_no δ ?_
  have f4:kR=x'.lc\/H4 kR=none:=f6.imp id λz=>cD s5 z
  have p6:=p5.step k6 t6 f6 W6 (n':=n) (by rw[et];exact p5.ia)
  refine⟨⟨x'.cb,x'.sl,kR,x'.ow,x'.pl,x'.ll,gk,S',fW⟩,_,rfl,⟨p6,?_,N.tk.trans ((fe s5).trans t6),N.ow,N.cb,?_⟩,by show gk.length=_;rw[el',el];omega⟩
  .intro z o' nz e
   refine k6 _ _ (λy=>?_) (s5 _ _ (N.kp _ _ nz e))
   rcases N.nw z y with y|y
   .exact nz y
   .rw[e] at y;cases y
  .intro z hz
   rcases An (x:=x') f4 z hz with y|y
   .exact N.nw z y
   .by_cases q:z∈x.six
    .exact .inl q
    .refine .inr ?_
     cases e:H1 z with
     |none=>rfl
     |some o'=>rw[N.kp _ _ q e] at y;cases y
 .rintro bX H4 ⟨x',HK,rfl,N,el⟩
  exact nx x' HK H4 N (iT.mp ω)
def lc1 (hr:eB 7 (A.deeper (Ψ "law" (ar gu) s.heap.objs.size f cdv))) (T:Txt mg) (DW:vv P w K mg base 1 C "rowers" ["self"] (rf C)) (DI:vv P w K mg base 1 C "pieces" ["self"] (xl C)) (DT:vv P w K mg base 5 C "trials" ["self"] (BB C)) (DL:zf P w K mg base C):∃r tt,gv 2 1=r/\PS ((eQ fN P w K mg base nj "law" (ar gu) f cdv A outer s H E).kz) r tt/\∀(D:Ends) (H1:Hp) (v0 v1 v2 v3 v4 v5 v7 v8 v9:Option V) (cb sl lc:ai) (sts cO:List Cs),eV C H1 cb sl lc (sts++ [S0]) cO->(∀H2,bg H1 H2->D.nx [v0,v1,v2,v3,v4,v5,some (.ref cb),v7,v8,v9] H2)->tt D [v0,v1,v2,v3,v4,v5,some (.ref cb),v7,v8,v9] H1:=by
 refine⟨_,_,rfl,cS (PW.pt (jw (bo (mV hr.units) (kZ DW (hr.mono δ) (pv 6)) (cW ah) (bG _)) (jw (bo (mV hr.units) (kZ DI (hr.mono δ) (pv 6)) (cW ah) (bG _)) (jw (bo (mV hr.units) (kZ DT (hr.mono δ) (pv 6)) (cW ah) (bG _)) (kf (bo lV (aR (zg DL (hr.mono δ)) rfl T.len bC (ae (pv 6) ah)) ao (bG _))))))) kg bO,?_⟩
 intro D H1 v0 v1 v2 v3 v4 v5 v7 v8 v9 cb sl lc sts cO cl nx
 obtain⟨dx,_,_,c1,_⟩:=id cl
 have nil:∀{G:Hp} {l e:ai} {us:List V},us=[]->G l=some (.lst us)->G e=some (.lst [])->∃k k':ai,Tells G k (.list []) (.ref l)/\Tells G k' (.list []) (.ref e):=λ{G l e us} z h1 h2=>by
  subst z
  obtain⟨k1,t1⟩:=(eJ h1 dU).one
  obtain⟨k2,t2⟩:=(eJ h2 dU).one
  exact⟨k1,k2,t1,t2⟩
 refine⟨_,rfl,cb,dx,_,rfl,c1,rfl,cb,sl,lc,S0,sts,cO,rfl,cl,λl1 u1 DV p1=>?_⟩
 exists DV,.lst u1,H1,l1,s1,w1,J1
 refine⟨dZ,λl2 nS=>?_⟩
 exists nS,.lst [],J1,l2,s2,w2,J2
 obtain⟨k1,k2,t1,t2⟩:=nil (iT.mp (bT p1)) (s2 _ _ w1) w2
 refine⟨k1,k2,_,_,t1,t2,kC,kC,_,rfl,ite_no δ ?_⟩
 have iD:=s1.trans s2
 refine⟨_,rfl,cb,dx,_,rfl,iD _ _ c1,rfl,cb,sl,lc,S0,sts,cO,rfl,cl.same iD,λl3 u3 BE p3=>?_⟩
 exists BE,.lst u3,J2,l3,s3,w3,J3
 refine⟨dZ,λl4 Lh=>?_⟩
 exists Lh,.lst [],J3,l4,s4,w4,J4
 obtain⟨k3,k4,t3,t4⟩:=nil (iT.mp (bT p3)) (s4 _ _ w3) w4
 refine⟨k3,k4,_,_,t3,t4,kC,kC,_,rfl,ite_no δ ?_⟩
 have Ay:=iD.trans (s3.trans s4)
 refine⟨_,rfl,cb,dx,_,rfl,Ay _ _ c1,rfl,cb,sl,lc,[],S0,sts,cO,rfl,cl.same Ay,rfl,(λ_ h=>nomatch h),δ,λl5 u5 J5 hl5 s5 w5 p5=>?_⟩
 refine⟨dZ,λl6 hl6=>?_⟩
 exists hl6,.lst [],J5,l6,s6,w6,J6
 obtain⟨k5,k6,t5,t6⟩:=nil (iT.mp (bT p5)) (s6 _ _ w5) w6
 refine⟨k5,k6,_,_,t5,t6,kC,kC,_,rfl,ite_no δ ?_⟩
 have xH:=Ay.trans (s5.trans s6)
 refine⟨_,rfl,cb,dx,_,rfl,xH _ _ c1,cb,sl,lc,S0,sts,cO,rfl,cl.same xH,λJ7 s7=>⟨0,rfl,δ,rfl,_,rfl,?_⟩⟩
 exact ite_no δ (nx J7 (xH.trans s7))
end
def wcd_mk (h:clsIn K C=some cd) (h2:cd.hasDict=true) (h3:∀self:ag,refuseLoop self "__setattr__" cd.mro=pure ()):∃cd,clsIn K C=some cd/\cd.hasDict=true/\∀self:ag,refuseLoop self "__setattr__" cd.mro=pure ():=⟨cd,h,h2,h3⟩
structure EE (H:Hp) (L:ai) (o:HO) (x y:Cw):Prop where
 e:H L=some o
 nx:L∉x.six
 ny:L∉y.six
section
variable {H H':Hp}{L:ai}{o:HO}{x x' y:Cw}{N:List ai}{tw p q:ai}{i:Int}
def EE.swap (h:EE H L o x y):EE H L o y x:=⟨h.e,h.ny,h.nx⟩
def EE.keep (h:EE H L o x y) (kp:jW N H H') (n:L∉N):EE H' L o x y:=⟨kp _ _ n h.e,h.nx,h.ny⟩
def EE.left (h:EE H L o x y) (kp:jW N H H') (n:L∉N) (nw:∀z∈x'.six,z∈x.six\/H z=none):EE H' L o x' y:=⟨kp _ _ n h.e,λz=>(nw _ z).elim h.nx λe=>(nomatch h.e.symm.trans e),h.ny⟩
structure Tp (H:Hp) (tw p q:ai) (a b:Cw):Prop where
 o:EE H tw (.lst [.ref p,.ref q]) a b
 e2:H p=some (.tup [.ref a.ow,.ref a.cb])
 e3:H q=some (.tup [.ref b.ow,.ref b.cb])
def Tp.tb (h:Tp H tw p q a b):Tb H tw a b:=⟨⟨p,q,h.o.e,h.e2,h.e3⟩,λz=>(bK.mp z).elim h.o.nx h.o.ny⟩
def Tb.tp (h:Tb H tw a b):∃p q,Tp H tw p q a b:=by
 obtain⟨p,q,e1,e2,e3⟩:=h.ex
 exact⟨p,q,⟨e1,λz=>h.no (cf _ z),λz=>h.no (aM _ z)⟩,e2,e3⟩
def Tp.keep (h:Tp H tw p q a b) (kp:jW N H H') (n:tw∉N) (tk:Tk H H'):Tp H' tw p q a b:=⟨h.o.keep kp n,tk _ _ h.e2,tk _ _ h.e3⟩
def Tp.left (h:Tp H tw p q a b) (kp:jW N H H') (n:tw∉N) (tk:Tk H H') (w:a'.ow=a.ow) (c:a'.cb=a.cb) (nw:∀z∈a'.six,z∈a.six\/H z=none):Tp H' tw p q a' b:=⟨h.o.left kp n nw,by rw[w,c];exact tk _ _ h.e2,tk _ _ h.e3⟩
def Tp.right (h:Tp H tw p q a b) (kp:jW N H H') (n:tw∉N) (tk:Tk H H') (w:b'.ow=b.ow) (c:b'.cb=b.cb) (nw:∀z∈b'.six,z∈b.six\/H z=none):Tp H' tw p q a b':=⟨(h.o.swap.left kp n nw).swap,tk _ _ h.e2,by rw[w,c];exact tk _ _ h.e3⟩
def Tq (i:Int) (H:Hp) (tw p q:ai) (x y:Cw):Prop:=i=0/\Tp H tw p q x y\/i=1/\Tp H tw p q y x
def Tq.keep (h:Tq i H tw p q x y) (kp:jW N H H') (n:tw∉N) (tk:Tk H H'):Tq i H' tw p q x y:=h.imp (K_ id λz=>z.keep kp n tk) (K_ id λz=>z.keep kp n tk)
def Tq.left (h:Tq i H tw p q x y) (kp:jW N H H') (n:tw∉N) (tk:Tk H H') (w:x'.ow=x.ow) (c:x'.cb=x.cb) (nw:∀z∈x'.six,z∈x.six\/H z=none):Tq i H' tw p q x' y:=h.imp (K_ id λz=>z.left kp n tk w c nw) (K_ id λz=>z.right kp n tk w c nw)
def Tq.right (h:Tq i H tw p q x y) (kp:jW N H H') (n:tw∉N) (tk:Tk H H') (w:y'.ow=y.ow) (c:y'.cb=y.cb) (nw:∀z∈y'.six,z∈y.six\/H z=none):Tq i H' tw p q x y':=h.imp (K_ id λz=>z.right kp n tk w c nw) (K_ id λz=>z.left kp n tk w c nw)
def Tq.tx (h:Tq i H tw p q x y):Tx H tw i x y:=by
 rcases h with⟨rfl,z⟩|⟨rfl,z⟩
 .exact z.tb.tx.1
 .exact z.tb.tx.2
def Tq.out (h:Tq i H tw p q x y):EE H tw (.lst [.ref p,.ref q]) x y:=h.elim (λz=>z.2.o) λz=>z.2.o.swap
end
section
variable {P:aJ}{w:bB}{K:Φ}{mg:Str->Option ag}{base:Heap}
def lw2 (hr:eB 7 (A.deeper (Ψ "law" (ar gu) s.heap.objs.size f cdv))) (T:Txt mg) (DR:Df P w K mg base 6 "_law_deed_right" ["own","club","what"] (HA C)) (DW:vv P w K mg base 1 C "rowers" ["self"] (rf C)) (DI:vv P w K mg base 1 C "pieces" ["self"] (xl C)) (DT:vv P w K mg base 5 C "trials" ["self"] (BB C)) (DL:zf P w K mg base C):∃r tt,nu 2=r/\PS ((eQ fN P w K mg base nj "law" (ar gu) f cdv A outer s H E).kz) r tt/\∀(D:Ends) (H1:Hp) (v0 v2 v3 v4 v5 v6 v7 v8 v9:Option V) (tw:ai) (a b:Cw) (n m:Nat),Pr C [] H1 a b n m->n<=31->m<=31->Tb H1 tw a b->(∀S5 S6 HK a' b' H2,Pr C [] H2 a' b' n m->Tb H2 tw a' b'->a'.S=S0->b'.S=S0->D.nx [v0,some (.ref tw),v2,v3,v4,S5,S6,v7,v8,HK] H2)->tt D [v0,some (.ref tw),v2,v3,v4,v5,v6,v7,v8,v9] H1:=by
 obtain⟨r0,t0,e0,p0,S4⟩:=lc0 (P:=P) (w:=w) (K:=K) (mg:=mg) (base:=base) (outer:=outer) (s:=s) (H:=H) (E:=E) (C:=C) hr T DR
 obtain⟨r1,t1,e1,p1,go1⟩:=lc1 (outer:=outer) (s:=s) (H:=H) (E:=E) hr T DW DI DT DL
 obtain⟨tg,it,ps,bd,er,hb,hPI,hPG,hFI⟩:∃tg it ps bd,nu 2=.For tg it bd [] ps/\bd=[gv 2 0,gv 2 1]/\PI ((eQ fN P w K mg base nj "law" (ar gu) f cdv A outer s H E).kz) tg it (EO K (cj 1))/\PG ((eQ fN P w K mg base nj "law" (ar gu) f cdv A outer s H E).kz) tg (Cq K 2 (jZ (de 5) (jZ (de 6) zt)))/\∀x,foldedSetIterable it ((eQ fN P w K mg base nj "law" (ar gu) f cdv A outer s H E).kz).env x=pure x:=
  ⟨_,_,_,_,rfl,rfl,jI (pv 1),fU rfl (bx (a_ (i:=5) oS.nd) (bx (a_ (i:=6) oS.nd) eX)),λ_=>rfl⟩
 rw[e0,e1] at hb
 refine⟨_,_,er,mL fg rfl hPI hPG (by rw[hb];exact aw p0 (aF p1)) (hs:=hFI),?_⟩
 intro D H1 v0 v2 v3 v4 v5 v6 v7 v8 v9 tw a b n m h Ao tz tb nx
 obtain⟨p,q,tp⟩:=tb.tp
 refine⟨_,rfl,tw,rfl,⟨_,cQ.of tp.o.e⟩,pF (K:=K) (a:=tw) (xs:=[.ref p,.ref q]) (λi bX H'=>∃S5 S6 HK a' b',bX=[v0,some (.ref tw),v2,v3,v4,S5,S6,v7,v8,HK]/\Pr C [] H' a' b' n m/\Tp H' tw p q a' b'/\(1<=i->a'.S=S0)/\(2<=i->b'.S=S0)) ⟨_,_,_,a,b,rfl,h,tp,λz=>absurd z δ,λz=>absurd z δ⟩ (λi bX H' _ z=>by obtain⟨_,_,_,_,_,_,_,e,_⟩:=z;exact cQ.of e.o.e) ?_ ?_⟩
 .rintro i y bX H4 hi ⟨S5,S6,HK,a',b',rfl,PR,TP,ea,eb⟩
  rcases i with _|_|i
  .cases hi
   refine⟨p,_,rfl,bZ.of TP.e2,rfl,_,_,rfl,_,_,rfl,rfl,?_⟩
   refine S4 _ H4 _ _ _ _ _ _ _ _ a' b' _ _ PR Ao λa2 w9 H5 N es=>?_
   have eS:a2.S=S0:=by
    have z:=N.pr.ia
    unfold Cw.ln at z
    rw[es] at z
    exact z.first
   have cl:eV C H5 a'.cb a2.sl a2.lc (a2.sts++ [S0]) a2.cO:=by
    rw[<-N.cb,<-eS]
    exact N.pr.wa.cl
   refine go1 _ H5 _ _ _ _ _ _ _ _ _ _ a2.sl a2.lc _ _ cl λH6 s6=>?_
   exact⟨_,_,_,a2,b',rfl,N.pr.same s6,(TP.left N.kp TP.o.nx N.tk N.ow N.cb N.nw).keep (fh s6) aG (fe s6),λ_=>eS,λz=>absurd z δ⟩
  .cases hi
   refine⟨q,_,rfl,bZ.of TP.e3,rfl,_,_,rfl,_,_,rfl,rfl,?_⟩
   refine S4 _ H4 _ _ _ _ _ _ _ _ b' a' _ _ PR.swap tz λa2 w9 H5 N es=>?_
   have eS:a2.S=S0:=by
    have z:=N.pr.ia
    unfold Cw.ln at z
    rw[es] at z
    exact z.first
   have cl:eV C H5 b'.cb a2.sl a2.lc (a2.sts++ [S0]) a2.cO:=by
    rw[<-N.cb,<-eS]
    exact N.pr.wa.cl
   refine go1 _ H5 _ _ _ _ _ _ _ _ _ _ a2.sl a2.lc _ _ cl λH6 s6=>?_
   exact⟨_,_,_,a',a2,rfl,(N.pr.same s6).swap,(TP.right N.kp TP.o.ny N.tk N.ow N.cb N.nw).keep (fh s6) aG (fe s6),λ_=>ea δ,λ_=>eS⟩
  .rw[jB ς] at hi
   cases hi
 .rintro bX H4 ⟨S5,S6,HK,a',b',rfl,PR,TP,ea,eb⟩
  exact nx _ _ _ a' b' H4 PR TP.tb (ea ς) (eb ς)
def FX (K:Φ):Sp:=λvs H Q _=>∃(a:ai) (ns:List Int),vs=[.ref a]/\cQ K H a (ns.map V.int)/\ns.length<=63/\∀H',Q (.bl true) H'
def sq1 (h:t {D with nx:=u D} Z H):vM t u D Z H:=h
def Sb (h:x∈jt xs lo hi):x∈xs:=by
 unfold jt at h
 exact xQ (ip h)
def WJ (xs:List V):(jt xs none (some 31)).length<=31:=by
 unfold jt
 rw[fF,dP,show((31:Int))=((31:Nat):Int) from rfl,HT.mx];exact aA (lg _ _) (aA (qx _ _) (lg _ _))
def ior (e:Z[0]?=some (some (.ref a))) (h:cQ K H a xs0) (k:∀M p xs,bg H M->H p=none->M p=some (.lst xs)->xs.length<=31->(∀x∈xs,x∈xs0\/x=.int 0)->R (EN K p) M):
  EO K (P9 K (TZ (PH K) (cj 0) rT (AN (tC (.int 31)))) (xW (ck (tC (.int 0)) eW))) Z H R:=by
 refine⟨_,e,_,rfl,a,_,rfl,h,λp hp=>?_⟩
 exists hp,.lst (jt xs0 none (some 31)),H,p,s1,w1,M1
 refine⟨_,.inl ⟨_,cQ.of w1,rfl⟩,?_⟩
 refine eY (λ_=>?_) (λ_=>?_)
 .exact⟨p,rfl,⟨_,cQ.of w1⟩,k M1 p _ s1 hp w1 (WJ _) λx hx=>.inl (Sb hx)⟩
 .refine⟨dZ,λp2 Xc=>?_⟩
  have s2:=aO Xc (.lst [.int 0])
  have w2:upd M1 p2 (.lst [.int 0]) p2=some (.lst [.int 0]):=aB
  exact⟨p2,rfl,⟨_,cQ.of w2⟩,k _ p2 _ (s1.trans s2) (cD s1 Xc) w2 δ λx hx=>.inr (by simpa using hx)⟩
def Sd (F:jg K "law" "law" gu f fd) (DK:Df P w K mg base 1 "_law_deck" ["cell","turn"] Dz) (DP:Df P w K mg base 1 "_law_pick" ["deck","many"] gi) (DO:Df P w K mg base 1 "_law_club" [] xC) (DE:Df P w K mg base 4 "_law_deed" ["deck","own"] ED) (DS:Df P w K mg base 6 "_law_stands_right" ["own","club"] (R4 C)) (DC:XE P w K mg base C) (DQ:HI P w K mg base C) (T:Txt mg) (DR:Df P w K mg base 6 "_law_deed_right" ["own","club","what"] (HA C)) (DW:vv P w K mg base 1 C "rowers" ["self"] (rf C)) (DI:vv P w K mg base 1 C "pieces" ["self"] (xl C)) (DT:vv P w K mg base 5 C "trials" ["self"] (BB C)) (DL:zf P w K mg base C):dR P w K mg base fN 8 f fd ["script"] (FX K):=by
 exists F.ok,oS
 .obtain⟨a,ns,rfl,_⟩:=h
  rfl
 .obtain⟨f0,ns,rfl,hS,hl,qq⟩:=h
  obtain⟨r0,t0,e0,p0,S4⟩:=lw0 (outer:=outer) (s:=s) (H:=H) (E:=E) hr DC DO
  obtain⟨x0,y0,f_0,z0,gx0⟩:=lb0 (outer:=outer) (s:=s) (H:=H) (E:=E) (C:=C) hr DK
  obtain⟨x1,y1,f1,z1,gx1⟩:=lb1 (outer:=outer) (s:=s) (H:=H) (E:=E) (C:=C) hr DP T
  obtain⟨x2,y2,f2,z2,gx2⟩:=lb2 (P:=P) (w:=w) (K:=K) (mg:=mg) (base:=base) (outer:=outer) (s:=s) (H:=H) (E:=E) (C:=C) hr
  obtain⟨x3,y3,f3,z3,gx3⟩:=lb3 (outer:=outer) (s:=s) (H:=H) (E:=E) (C:=C) hr DE
  obtain⟨x4,y4,f4,z4,gx4⟩:=lb4 (outer:=outer) (s:=s) (H:=H) (E:=E) hr DR
  obtain⟨x5,y5,f5,z5,gx5⟩:=lb5 (outer:=outer) (s:=s) (H:=H) (E:=E) hr DP DR
  obtain⟨x6,y6,f6,z6,gx6⟩:=lb6 (outer:=outer) (s:=s) (H:=H) (E:=E) hr DS
  obtain⟨x7,y7,f7,z7,gx7⟩:=lb7 (P:=P) (w:=w) (K:=K) (mg:=mg) (base:=base) (outer:=outer) (s:=s) (H:=H) (E:=E) (C:=C) hr
  obtain⟨x8,y8,f8,z8,gx8⟩:=lb8 (outer:=outer) (s:=s) (H:=H) (E:=E) hr DQ
  obtain⟨r2,t2,e2,p2,C3⟩:=lw2 (outer:=outer) (s:=s) (H:=H) (E:=E) hr T DR DW DI DT DL
  obtain⟨r3,t3,e3,p3,go3⟩:=lw3 (outer:=outer) (s:=s) (H:=H) (E:=E) hr DQ
  obtain⟨tg,it,ps,bd,er1,hb,hPI,hPG,hFI⟩:∃tg it ps bd,nu 1=.For tg it bd [] ps/\bd=[gv 1 0,gv 1 1,gv 1 2,gv 1 3,gv 1 4,gv 1 5,gv 1 6,gv 1 7,gv 1 8]/\PI ((eQ fN P w K mg base nj "law" (ar gu) f cdv A outer s H E).kz) tg it (EO K (P9 K (TZ (PH K) (cj 0) rT (AN (tC (.int 31)))) (xW (ck (tC (.int 0)) eW))))/\PG ((eQ fN P w K mg base nj "law" (ar gu) f cdv A outer s H E).kz) tg (de 2)/\∀x,foldedSetIterable it ((eQ fN P w K mg base nj "law" (ar gu) f cdv A outer s H E).kz).env x=pure x:=
   ⟨_,_,_,_,rfl,rfl,jI (P_ (hX qj (pv 0) jL (iU ao)) (mK (cW (ae ao ah)))),a_ (i:=2) oS.nd,λ_=>rfl⟩
  rw[f_0,f1,f2,f3,f4,f5,f6,f7,f8] at hb
  have be:=K3
  rw[e0,er1,e2,e3] at be
  refine⟨_,by rw[be];exact aw p0 (aw (mL fg rfl hPI hPG (by rw[hb];exact aw z0 (aw z1 (aw z2 (aw z3 (aw z4 (aw z5 (aw z6 (aw z7 (aF z8))))))))) (hs:=hFI)) (aw p2 (aF p3))),?_⟩
  refine S4 _ H _ _ _ _ _ _ _ _ _ _ λtw a b H2 sm pr tb=>?_
  obtain⟨p,q,tp⟩:=tb.tp
  have Q6:cQ K H2 f0 (ns.map V.int):=sm.seq hS
  dsimp only
  refine sq1 ?_
  unfold TC
  refine ior (Z:=[some (.ref f0),some (.ref tw),none,none,none,none,none,none,none,none]) rfl Q6 λM L xs sM hL hLM l31 hx=>?_
  have oL:EE M L (.lst xs) a b:=⟨hLM,λz=>pr.out hL (cf _ z),λz=>pr.out hL (aM _ (cf _ z))⟩
  refine pF (K:=K) (a:=L) (xs:=xs) (λi bX H'=>∃(v2 v3 v4 v5 v6 v7 v8 v9:Option V) (a b:Cw),bX=[some (.ref f0),some (.ref tw),v2,v3,v4,v5,v6,v7,v8,v9]/\Pr C [] H' a b i i/\Tp H' tw p q a b/\EE H' L (.lst xs) a b)
   ⟨_,_,_,_,_,_,_,_,a,b,rfl,pr.same sM,tp.keep (fh sM) aG (fe sM),oL⟩ (λi bX H' _ h=>by obtain⟨_,_,_,_,_,_,_,_,_,_,_,_,_,e⟩:=h;exact cQ.of e.e) ?_ ?_
  .rintro i y bX H4 hi ⟨v2,v3,v4,v5,v6,v7,v8,v9,a,b,rfl,PR,TP,OL⟩
   have hix:i<xs.length:=(bD.mp hi).1
   have hy:∃cell:Int,y=.int cell:=by
    rcases hx y (xK hi) with z|z
    .obtain⟨c,_,rfl⟩:=cT.mp z
     exact⟨c,rfl⟩
    .exact⟨0,z⟩
   obtain⟨cell,rfl⟩:=hy
   refine gx0 _ H4 _ _ _ _ _ _ _ _ _ cell λk H5 hk s5 d5=>?_
   refine gx1 _ H5 _ _ _ _ _ _ _ _ _ k 530 d5 δ λat' c6 H6 B6 k6 d6 l6=>?_
   have kp6:jW [k] H5 H6:=λz o n e=>k6 _ _ (λy=>n (by simp[y])) e
   have t6:=jh d5 k6
   have nk:∀{z:ai} {o:HO},H4 z=some o->z∉ [k]:=λe h=>by rw[bA.mp h,hk] at e;cases e
   have XG:=nk TP.o.e
   have nkl:=nk OL.e
   have nn:∀{z:ai},z∉([]:List ai):=aG
   have Ko:Pr C [k] H5 a b i i:=PR.turn (fh s5) (fe s5) (λz hz=>.inr (by rw[bA.mp hz];exact hk)) (λz hz=>by rw[bA.mp hz];exact d5.some)
   have Ou:Pr C [k] H6 a b i i:=Ko.turn kp6 t6 (λz hz=>.inl hz) (λz hz=>by rw[bA.mp hz];exact d6.some)
   have tp6:=(TP.keep (fh s5) nn (fe s5)).keep kp6 XG t6
   have ol6:=(OL.keep (fh s5) nn).keep kp6 nkl
   obtain⟨x,y,PX,TQ,OX⟩:∃x y,Pr C [k] H6 x y i i/\Tq at' H6 tw p q x y/\EE H6 L (.lst xs) x y:=by
    rcases B6 with rfl|rfl
    .exact⟨a,b,Ou,.inl ⟨rfl,tp6⟩,ol6⟩
    .exact⟨b,a,Ou.swap,.inr ⟨rfl,tp6⟩,ol6.swap⟩
   refine gx2 _ H6 _ _ _ _ _ _ _ _ tw at' x y TQ.tx ?_
   refine gx3 _ H6 _ _ _ _ _ _ _ _ k c6 x y _ _ PX ω d6 ω λt De c7 H7 k7 d7 l7 dK=>?_
   have kp7:jW [k] H6 H7:=λz o n e=>k7 _ _ (λy=>n (by simp[y])) e
   have t7:=jh d6 k7
   have pr7:Pr C [k] H7 x y i i:=PX.turn kp7 t7 (λz hz=>.inl hz) (λz hz=>by rw[bA.mp hz];exact d7.some)
   have tq7:=TQ.keep kp7 XG t7
   have ol7:=OX.keep kp7 nkl
   refine gx4 _ H7 _ _ _ _ _ _ _ k t x y _ _ De pr7 ω dK λx' H8 XH t8 w8 c8 n8 pr8=>?_
   have tq8:=tq7.left XH tq7.out.nx t8 w8 c8 n8
   have ol8:=ol7.left XH ol7.nx n8
   have d8:=d7.keep λo e=>XH _ _ (pr7.wa.dj k ς) e
   have dK8:=dK.up (XH.mono λz hz=>cf _ hz) t8
   refine gx5 _ H8 _ _ _ _ _ _ k t tw c7 at' x' y _ _ _ De pr8 ω tq8.tx (λz=>XG (by simp[z])) d8 ω (λz hz=>aM _ hz) dK8 λy' H9 kp9 t9 w9 c9 n9 pr9=>?_
   have tq9:=tq8.right kp9 (λz=>(bK.mp z).elim tq8.out.ny XG) t9 w9 c9 n9
   have ol9:=(ol8.swap.left kp9 (λz=>(bK.mp z).elim ol8.ny nkl) n9).swap
   obtain⟨a2,b2,XI,XJ,OL9⟩:∃a b,Pr C [k] H9 a b (i+1) (i+1)/\Tp H9 tw p q a b/\EE H9 L (.lst xs) a b:=by
    rcases tq9 with⟨_,z⟩|⟨_,z⟩
    .exact⟨x',y',pr9,z,ol9⟩
    .exact⟨y',x',pr9.swap,z,ol9.swap⟩
   refine gx6 _ H9 _ _ _ _ _ _ _ _ _ tw [k] a2 b2 _ _ XI ω ω XJ.tb λuU s10=>?_
   refine gx7 _ uU _ _ _ _ _ _ _ _ _ tw [k] a2 b2 _ _ (XI.same s10) ω ω (XJ.tb.same s10) λXb s11=>?_
   have Se:=s10.trans s11
   refine gx8 _ Xb _ _ _ _ _ _ _ _ tw [k] a2 b2 _ _ (XI.same Se) ω ω (XJ.tb.same Se) λH12 s12=>?_
   have s9:=Se.trans s12
   exact⟨_,_,_,_,_,_,_,_,a2,b2,rfl,(XI.same s9).turn jW.refl (λ_ _ e=>e) (λ_ z=>nomatch z) (λ_ z=>nomatch z),XJ.keep (fh s9) nn (fe s9),OL9.keep (fh s9) nn⟩
  .rintro bX H4 ⟨v2,v3,v4,v5,v6,v7,v8,v9,a,b,rfl,PR,TP,OL⟩
   refine C3 _ H4 _ _ _ _ _ _ _ _ _ tw a b _ _ PR l31 l31 TP.tb λS5 S6 HK a' b' H5 PR5 TB5 ea eb=>?_
   exact go3 _ H5 _ _ _ _ _ _ _ _ _ tw [] a' b' _ _ PR5 l31 l31 TB5 ea eb qq
end
end K13
namespace K13
open PySem L2 PySem.W
structure fC (K:Φ) (C:ai) (x q:Str) (st:Stmt) (f:ai):Prop where
 a:findIn K (.ref C) x=some (some (.ref f))
 ex:∃(oc:ag) (od:Option ai) (kV doc pm:ag) (an:Option ai) (cdv ct:ag) (vR:Array (Option ag)),
  K.lookup f=some ⟨oc,od,.func (fnOf x q (jM st) (fL st) (ar st) .none kV doc pm an cdv ct),vR⟩/\codeIn K cdv q=true
 n:isFn K (.ref f)=true
 k:keepIn K (.ref f)=true
section
variable {P:aJ}{w:bB}{K:Φ}{mg:Str->Option ag}{base:Heap}{C:ai}{x q:Str}{st:Stmt}{f:ai}{k:Nat}{ps:List Str}{sp:Sp}
def standsM {kV doc pm:ag}
  (a:findIn K (.ref C) x=some (some (.ref f))) (l:K.lookup f=some ⟨oc,od,.func (fnOf x q (jM st) (fL st) (ar st) .none kV doc pm an cdv ct),vR⟩) (c:codeIn K cdv q=true) (n:isFn K (.ref f)=true) (k:keepIn K (.ref f)=true):fC K C x q st f:=
 ⟨a,⟨oc,od,kV,doc,pm,an,cdv,ct,vR,l,c⟩,n,k⟩
def fC.fn (S:fC K C x q st f):∃fd,jg K x q st f fd:=by
 obtain⟨oc,od,kV,doc,pm,an,cdv,ct,vR,l,c⟩:=S.ex
 exact⟨_,CV (st:=st) l c S.k⟩
def fC.NJ (S:fC K C x q st f):uR K C x f:=⟨S.a,S.n,S.k⟩
abbrev WK (x q:Str) (st:Stmt) (ps:List Str):Prop:=∀(kV doc pm:ag) (an:Option ai) (cdv ct:ag) (us:List ag),us.length=ps.length->bindArgs (fnOf x q (jM st) (fL st) (ar st) .none kV doc pm an cdv ct) ⟨us,[]⟩=pure (ps.zip us)
structure EF (P:aJ) (w:bB) (K:Φ) (mg:Str->Option ag) (base:Heap):Prop where
 ex:∃h:Heap,K.In h/\h.Ns mainGlobals mg
def EF.at (E:EF P w K mg base) (h:nsIn K mainGlobals x=some (some v)):mg x=some v:=by
 obtain⟨_,X,G⟩:=E.ex
 exact mg_of X G h
def EF.no (E:EF P w K mg base) (h:nsIn K mainGlobals x=some none):mg x=none:=by
 obtain⟨_,X,G⟩:=E.ex
 exact mg_none_of X G h
def ξ{x q:Str}{st:Stmt}{ps:List Str}(h:WK x q st ps:=by intro _ _ _ _ _ _ us hl;rcases us with _|⟨_,_|⟨_,_|⟨_,_|⟨_,_|⟨_,_⟩⟩⟩⟩⟩<;>first|(simp at hl;done)|rfl):WK x q st ps:=h
def EF.df (E:EF P w K mg base) (S:ej K x st f) (hF:∀fd,jg K x x st f fd->dR P w K mg base fN k f fd ps sp) (hb:WK x x st ps:=by exact ξ):Df P w K mg base k x ps sp:=by
 obtain⟨fd,F⟩:=S.fn
 exact⟨_,fd,hF fd F,F.binds hb,S.k,E.at S.a⟩
def EF.dg (E:EF P w K mg base) (S:ej K x st f) (hF:∀fd,jg K x x st f fd->dR P w K mg base (rB P w) k f fd ps sp) (hb:WK x x st ps:=by exact ξ):Xq P w K mg base k x ps sp:=by
 obtain⟨fd,F⟩:=S.fn
 exact⟨_,fd,hF fd F,F.binds hb,S.k,E.at S.a⟩
def EF.dh {sp:ai->Sp}(E:EF P w K mg base) (S:ej K x st f) (hF:∀fd,jg K x x st f fd->Ba P w K mg base k f fd ps sp) (hb:WK x x st ps:=by exact ξ):ZH P w K mg base k x ps sp:=by
 obtain⟨fd,F⟩:=S.fn
 exact⟨_,fd,hF fd F,F.binds hb,S.k,E.at S.a⟩
def EF.dm (E:EF P w K mg base) (c:AK K C) (S:fC K C x q st f) (hF:∀fd,jg K x q st f fd->dR P w K mg base fN k f fd ps sp) (hb:WK x q st ps:=by exact ξ):vv P w K mg base k C x ps sp:=by
 obtain⟨fd,F⟩:=S.fn
 exact⟨c,_,fd,hF fd F,F.binds hb,S.NJ⟩
def EF.Sf (E:EF P w K mg base) (c:AK K C) (S:fC K C x q st f) (hF:∀fd,jg K x q st f fd->dR P w K mg base (rB P w) k f fd ps sp) (hb:WK x q st ps:=by exact ξ):yd P w K mg base k C x ps sp:=by
 obtain⟨fd,F⟩:=S.fn
 exact⟨c,_,fd,hF fd F,F.binds hb,S.NJ⟩
structure OZ (K:Φ) (c dr:ai):Prop where
 ga:findIn K (.ref c) "__getattribute__"=some (some (.builtin "BaseException.__getattribute__"))
 gn:findIn K (.ref c) "__getattr__"=some none
 gc:findIn K (.ref c) "__class__"=some (some (.builtin "object.__class__"))
 mo:mroIn K c (.type "object")=some true
 mb:mroIn K c (.type "BaseException")=some true
 cs:(clsIn K c).isSome=true
 ve:kitOne K (.ref c) (.type "ValueError")=some true
 xm:exmOne K (.ref c) (.ref dr)=some true
structure NK (K:Φ) (c d0 d1 d2 d3 d4 d5 d6 d7 d8 d9 BQ:ai) (f0 f1 f2 f3 f4 f5 f6 f7 f8 f9 XM:Bool):Prop where
 k0:kitOne K (.ref c) (.ref d0)=some f0
 k1:kitOne K (.ref c) (.ref d1)=some f1
 k2:kitOne K (.ref c) (.ref d2)=some f2
 k3:kitOne K (.ref c) (.ref d3)=some f3
 k4:kitOne K (.ref c) (.ref d4)=some f4
 k5:kitOne K (.ref c) (.ref d5)=some f5
 k6:kitOne K (.ref c) (.ref d6)=some f6
 k7:kitOne K (.ref c) (.ref d7)=some f7
 k8:kitOne K (.ref c) (.ref d8)=some f8
 k9:kitOne K (.ref c) (.ref d9)=some f9
 k10:kitOne K (.ref c) (.ref BQ)=some XM
structure GsF (mg:Str->Option ag) (d0 d1 d2 d3 d4 d5 d6 d7 d8 d9 BQ:ai):Prop where
 g0:mg "NoCrew"=some (.ref d0)
 g1:mg "NoName"=some (.ref d1)
 g2:mg "NoNumber"=some (.ref d2)
 g3:mg "NoPiece"=some (.ref d3)
 g4:mg "NoRow"=some (.ref d4)
 g5:mg "NoRower"=some (.ref d5)
 g6:mg "NoText"=some (.ref d6)
 g7:mg "NothingLeft"=some (.ref d7)
 g8:mg "NoTrial"=some (.ref d8)
 g9:mg "TooMany"=some (.ref d9)
 g10:mg "Twice"=some (.ref BQ)
def NK.y (t:NK K c d0 d1 d2 d3 d4 d5 d6 d7 d8 d9 BQ f0 f1 f2 f3 f4 f5 f6 f7 f8 f9 XM) (X:OZ K c dr) (G:GsF mg d0 d1 d2 d3 d4 d5 d6 d7 d8 d9 BQ) (hf:[f0,f1,f2,f3,f4,f5,f6,f7,f8,f9,XM]=uZ.map (λx=>decide (x=nm)):=by decide+kernel) (hm:nm∈uZ:=by decide+kernel):Ak K mg dr c nm:=by
 refine⟨⟨⟨X.ga,X.gn,X.gc,X.mo,X.mb,X.cs⟩,λx hx=>?_,X.ve⟩,X.xm,hm⟩
 simp only[uZ,bQ,pd,Ic,and_true] at hf
 obtain⟨h0,h1,h2,h3,h4,h5,h6,h7,h8,h9,h10⟩:=hf
 simp only[uZ,aD,aG,cx] at hx
 rcases hx with rfl|rfl|rfl|rfl|rfl|rfl|rfl|rfl|rfl|rfl|rfl
 .exact⟨_,G.g0,h0▸t.k0⟩
 .exact⟨_,G.g1,h1▸t.k1⟩
 .exact⟨_,G.g2,h2▸t.k2⟩
 .exact⟨_,G.g3,h3▸t.k3⟩
 .exact⟨_,G.g4,h4▸t.k4⟩
 .exact⟨_,G.g5,h5▸t.k5⟩
 .exact⟨_,G.g6,h6▸t.k6⟩
 .exact⟨_,G.g7,h7▸t.k7⟩
 .exact⟨_,G.g8,h8▸t.k8⟩
 .exact⟨_,G.g9,h9▸t.k9⟩
 .exact⟨_,G.g10,h10▸t.k10⟩
end
def all_mk {l:OpenLaw} (X:K.In h) (G:h.Ns mainGlobals mg) (hfa:mg "law"=some (.ref fa))
  (s0:ej K "is_whole" Dw f0)
  (s1:ej K "is_name" JC f1)
  (s2:ej K "is_crew" JN f2)
  (s3:ej K "is_measure" JO f3)
  (s4:ej K "is_piece" DG f4)
  (s5:ej K "fraction" Zd f5)
  (s6:ej K "fraction_less" Zy f6)
  (s7:ej K "margin" Ze f7)
  (s8:ej K "exchanged" ZA f8)
  (s9:ej K "exchanged_pair" ZF f9)
  (s10:ej K "trial_of" ZI XM)
  (s11:ej K "trial_or_none" ZJ f11)
  (s12:ej K "is_weight" zM f12)
  (s13:ej K "is_rower" Dx f13)
  (s14:ej K "names_of" Rb f14)
  (s15:ej K "_law_deck" JK f15)
  (s16:ej K "_law_pick" JL f16)
  (s17:ej K "_law_name_of" HY f17)
  (s18:ej K "_law_weight" Y0 f18)
  (s19:ej K "_law_fraction" Rr f19)
  (s20:ej K "_law_piece" Zf f20)
  (s21:ej K "_law_exchanged" Z9 f21)
  (s22:ej K "_law_trial" Z6 f22)
  (XF:ej K "_law_club" sW f23)
  (s24:ej K "_law_is_rower" Ae f24)
  (Ey:ej K "_law_later" Ex f25)
  (s26:ej K "_law_due" RX f26)
  (s27:ej K "_law_tried" Ez f27)
  (s28:ej K "_law_deed_right" sDr f28)
  (s29:ej K "_law_deed" gD f29)
  (s30:ej K "_law_trials_of" Rx f30)
  (s31:ej K "_law_stands_right" sSr f31)
  (m0S:fC K dC "__init__" "Club.__init__" Kd g0)
  (m1S:fC K dC "__len__" "Club.__len__" QR g1)
  (m2S:fC K dC "enter" "Club.enter" Eg g2)
  (m3S:fC K dC "come" "Club.come" Ke g3)
  (m4S:fC K dC "go" "Club.go" ZL g4)
  (m5S:fC K dC "weigh" "Club.weigh" Eh g5)
  (m6S:fC K dC "tell" "Club.tell" Kf g6)
  (m7S:fC K dC "strike" "Club.strike" QS g7)
  (m8S:fC K dC "back" "Club.back" Kg g8)
  (m9S:fC K dC "again" "Club.again" Ei g9)
  (aar:fC K dC "rowers" "Club.rowers" Kh g10)
  (aas:fC K dC "pieces" "Club.pieces" QT g11)
  (aat:fC K dC "trials" "Club.trials" QU g12)
  (WL:fC K d9 "__init__" "TooMany.__init__" Z0 g13)
  (WN:fC K dC "__eq__" "Club.__eq__" sEq g14)
 {oc kV doc pm cdv ct:ag} (a:nsIn K mainGlobals "law"=some (some (.ref f32))) (lk:K.lookup f32=some ⟨oc,od,.func (fnOf "law" "law" (jM gu) (fL gu) (ar gu) .none kV doc pm an cdv ct),vR⟩) (cc:codeIn K cdv "law"=true) (kk:keepIn K (.ref f32)=true)
  (c0:nsIn K mainGlobals "LONGEST_NAME"=some (some (.int 8 t0)))
  (c1:nsIn K mainGlobals "MOST_IN_CREW"=some (some (.int 4 t1)))
  (c2:nsIn K mainGlobals "LONGEST"=some (some (.int 1000000000 t2)))
  (c3:nsIn K mainGlobals "HEAVIEST"=some (some (.int 1000000 t3)))
  (c4:nsIn K mainGlobals "MOST_ROWERS"=some (some (.int 8 t4)))
  (x0:nsIn K mainGlobals "MOST_PIECES"=some (some (.int 40 u0)))
  (z0:nsIn K mainGlobals "ValueError"=some none)
  (z1:nsIn K mainGlobals "abs"=some none)
  (z2:nsIn K mainGlobals "all"=some none)
  (z3:nsIn K mainGlobals "any"=some none)
  (z4:nsIn K mainGlobals "bool"=some none)
  (z5:nsIn K mainGlobals "enumerate"=some none)
  (z6:nsIn K mainGlobals "int"=some none)
  (z7:nsIn K mainGlobals "isinstance"=some none)
  (z8:nsIn K mainGlobals "len"=some none)
  (z9:nsIn K mainGlobals "list"=some none)
  (z10:nsIn K mainGlobals "max"=some none)
  (z11:nsIn K mainGlobals "min"=some none)
  (z12:nsIn K mainGlobals "range"=some none)
  (z13:nsIn K mainGlobals "sorted"=some none)
  (z14:nsIn K mainGlobals "str"=some none)
  (z15:nsIn K mainGlobals "sum"=some none)
  (z16:nsIn K mainGlobals "tuple"=some none)
  (z17:nsIn K mainGlobals "zip"=some none)
  (n0:nsIn K mainGlobals "NoCrew"=some (some (.ref d0)))
  (n1:nsIn K mainGlobals "NoName"=some (some (.ref d1)))
  (n2:nsIn K mainGlobals "NoNumber"=some (some (.ref d2)))
  (n3:nsIn K mainGlobals "NoPiece"=some (some (.ref d3)))
  (n4:nsIn K mainGlobals "NoRow"=some (some (.ref d4)))
  (n5:nsIn K mainGlobals "NoRower"=some (some (.ref d5)))
  (n6:nsIn K mainGlobals "NoText"=some (some (.ref d6)))
  (n7:nsIn K mainGlobals "NothingLeft"=some (some (.ref d7)))
  (n8:nsIn K mainGlobals "NoTrial"=some (some (.ref d8)))
  (n9:nsIn K mainGlobals "TooMany"=some (some (.ref d9)))
  (n10:nsIn K mainGlobals "Twice"=some (some (.ref BQ)))
  (X1:OZ K d1 dr) (T1:NK K d1 d0 d1 d2 d3 d4 d5 d6 d7 d8 d9 BQ false true false false false false false false false false false)
  (X2:OZ K d2 dr) (T2:NK K d2 d0 d1 d2 d3 d4 d5 d6 d7 d8 d9 BQ false false true false false false false false false false false)
  (X3:OZ K d3 dr) (T3:NK K d3 d0 d1 d2 d3 d4 d5 d6 d7 d8 d9 BQ false false false true false false false false false false false)
  (X5:OZ K d5 dr) (T5:NK K d5 d0 d1 d2 d3 d4 d5 d6 d7 d8 d9 BQ false false false false false true false false false false false)
  (X7:OZ K d7 dr) (T7:NK K d7 d0 d1 d2 d3 d4 d5 d6 d7 d8 d9 BQ false false false false false false false true false false false)
  (X9:OZ K d9 dr) (T9:NK K d9 d0 d1 d2 d3 d4 d5 d6 d7 d8 d9 BQ false false false false false false false false false true false)
  (X10:OZ K BQ dr) (T10:NK K BQ d0 d1 d2 d3 d4 d5 d6 d7 d8 d9 BQ false false false false false false false false false false true)
  (nr:nsIn K mainGlobals "RowError"=some (some (.ref dr)))
  (nC:nsIn K mainGlobals "Club"=some (some (.ref dC)))
  (eT:excIn K d8 L2.wg "ValueError.__new__"=true)
  (xmT:exmOne K (.ref d8) (.ref d8)=some true)
  (e1:excIn K d1 L2.wg "ValueError.__new__"=true)
  (e2:excIn K d2 L2.wg "ValueError.__new__"=true)
  (e3:excIn K d3 L2.wg "ValueError.__new__"=true)
  (e5:excIn K d5 L2.wg "ValueError.__new__"=true)
  (e7:excIn K d7 L2.wg "ValueError.__new__"=true)
  (e10:excIn K BQ L2.wg "ValueError.__new__"=true)
  (ei:Ef K d9 g13=true)
  (kpM:keepIn K (.ref d9)=true)
  (wsa:findIn K (.ref d9) "__setattr__"=some (some (.builtin "object.__setattr__")))
  (wcd:∃cd,clsIn K d9=some cd/\cd.hasDict=true/\∀self:ag,refuseLoop self "__setattr__" cd.mro=pure ())
  (nat:findIn K (.ref d9) "many"=some none)
  (hdM:hasDictIn K d9=true)
  (bga:specialIn K (.ref dr) "__getattribute__"=some (some (.builtin "type.__getattribute__")))
  (brd:readsIn K dr (.type "type")=true)
  (bfc:findCls K (.ref dr) (.type "type") "__init__"=some (.val (.builtin "ValueError.__init__")))
  (pg:plainGet K dC Str.empty=true)
  (hd:hasDictIn K dC=true)
  (po:plainOver K dC=true)
  (sa:findIn K (.ref dC) "__setattr__"=some (some (.builtin "object.__setattr__")))
  (aS:findIn K (.ref dC) "states"=some none)
  (aL2:findIn K (.ref dC) "left"=some none)
  (mk:makesIn K dC=true)
  (kp:keepIn K (.ref dC)=true)
  (ica:findIn K (.ref dC) "__class__"=some (some (.builtin "object.__class__")))
  (icn:specialIn K (.builtin "object.__class__") "__get__"=some (some (.builtin "getset_descriptor.__get__")))
  (ict:takesIn K (.builtin "object.__class__")=some true)
  (icm:mroIn K dC (.type "object")=some true)
  (ick:kitOne K (.ref dC) (.ref dC)=some true)
  (icq:findIn K (.ref dC) "__ne__"=some (some (.builtin "object.__ne__")))
  : ∃fd:FuncData,(∀(s:ak) (v:ag),BindsTo s fd ⟨[v],[]⟩ [("script",v)])/\∀base:Heap,K.In base->base.Ns mainGlobals mg->dR l.prog w K mg base fN 8 fa fd ["script"] (FX K):=by
 have e:=hfa.symm.trans (mg_of X G a)
 cases e
 have FL:=CV (st:=gu) lk cc kk
 refine⟨fnOf "law" "law" (jM gu) (fL gu) (ar gu) .none kV doc pm an cdv ct,λs v=>.of_eq rfl,λbase _ _=>?_⟩
 have E:EF l.prog w K mg base:=⟨h,X,G⟩
 have T:Txt mg:=⟨E.no z0,E.no z1,E.no z2,E.no z3,E.no z4,E.no z5,E.no z6,E.no z7,E.no z8,E.no z9,E.no z10,E.no z11,E.no z12,E.no z13,E.no z14,E.no z15,E.no z16,E.no z17,⟨_,E.at c0⟩,⟨_,E.at c1⟩,⟨_,E.at c2⟩,⟨_,E.at c3⟩,⟨_,E.at c4⟩⟩
 have GG:GsF mg d0 d1 d2 d3 d4 d5 d6 d7 d8 d9 BQ:=⟨E.at n0,E.at n1,E.at n2,E.at n3,E.at n4,E.at n5,E.at n6,E.at n7,E.at n8,E.at n9,E.at n10⟩
 have N1:=T1.y (nm:="NoName") X1 GG
 have N2:=T2.y (nm:="NoNumber") X2 GG
 have N3:=T3.y (nm:="NoPiece") X3 GG
 have N5:=T5.y (nm:="NoRower") X5 GG
 have N7:=T7.y (nm:="NothingLeft") X7 GG
 have N9:=T9.y (nm:="TooMany") X9 GG
 have N10:=T10.y (nm:="Twice") X10 GG
 have gr:=E.at nr
 have CC:HX K dC:=⟨⟨pg,hd,po,sa⟩,aS,aL2⟩
 obtain⟨_,GI⟩:=WL.fn
 have bI:=GI.binds (ps:=["self","many"]) (by intro _ _ _ _ _ _ us hl;rcases us with _|⟨a,_|⟨b,_|⟨c,us⟩⟩⟩<;>first|(simp at hl;done)|rfl)
 have OI:Bq K d9 g13:=⟨ei,WL.n,kpM⟩
 have FI:=VS (P:=l.prog) (w:=w) (base:=base) (mg:=mg) GI OI ⟨wsa,X9.mo,wcd⟩ nat ⟨bga,brd,bfc⟩ gr
 have FY:=E.df s0 λ_ F=>JD F T
 have Sg:=E.df s1 λ_ F=>Fm F T
 have NL:Df l.prog w K mg base 2 "is_name" ["thing"] (x_ fJ):=E.df s1 λ_ F=>Mv (Fm F T) δ
 have Sh:=E.df s2 λ_ F=>Mw F T Sg
 have Si:=E.df s3 λ_ F=>Mx F T FY
 have FZ:=E.df s4 λ_ F=>JP F T Sh Si
 have WO:=E.df s5 λ_ F=>UT F T
 have aau:=E.df s6 λ_ F=>Vn F WO
 have aav:=E.df s7 λ_ F=>UW F WO
 have aaw:=E.df s8 λ_ F=>Vp F T
 have aax:=E.dg s9 λ_ F=>Vr F ⟨GG.g8,eT⟩ aaw
 have aay:=E.dg s10 λ_ F=>Vu F T aax aau aav
 have aaz:=E.df s11 λ_ F=>Vz F GG.g8 xmT aay
 have O0:=E.df s12 λ_ F=>GZ F T FY
 have WQ:=E.df s13 λ_ F=>JF F T NL O0
 have K8:=E.df s14 λ_ F=>Rc F
 have Sj:=E.df s15 λ_ F=>Mt F
 have xE:=E.df s16 λ_ F=>Mu F
 have aaA:=E.dh s17 λ_ F=>Wf F T T.zip
 have aaB:=E.df s18 λ_ F=>UR F xE
 have aaC:=E.df s20 λ_ F=>U2 F T xE
 have WR:=E.df s19 λ_ F=>Ru F T
 have aaD:=E.df s21 λ_ F=>V_ F T xE
 have aaE:=E.df s22 λ_ F=>V9 F T WR
 have WS:=E.df XF λ_ F=>R7 F
 have WT:=E.df s24 λ_ F=>Hw F T
 have NM:=E.df Ey λ_ F=>KQ F T WT FZ
 have WU:=E.df s26 λ_ F=>RY F T NM
 have Sk:=E.df s29 λ_ F=>NH F T xE aaB aaC aaD
 have WV:=E.df s30 λ_ F=>Ry F T aaE
 have sY:=E.dm CC.c m2S λ_ F=>Ki F T CC
 have Aq:=E.dm CC.c aar λ_ F=>Ng F T CC
 have F0:=E.dm CC.c aas λ_ F=>Q4 F T CC
 have O4:=E.dm CC.c aat λ_ F=>Q5 F T F0 aaz
 have Sl:=E.Sf CC.c m3S λ_ F=>Nl F T CC ⟨GG.g5,e5⟩ ⟨GG.g10,e10⟩ GG.g9 OI FI bI WQ K8 sY
 have aaF:=E.Sf CC.c m4S λ_ F=>VQ F CC ⟨GG.g1,e1⟩ K8 sY
 have NN:=E.Sf CC.c m5S λ_ F=>Kt F CC ⟨GG.g1,e1⟩ ⟨GG.g5,e5⟩ K8 O0 sY
 have Sm:=E.Sf CC.c m6S λ_ F=>Nb F T ⟨_,E.at x0⟩ CC ⟨GG.g3,e3⟩ FZ sY
 have K9:=E.Sf CC.c m7S λ_ F=>QZ F CC ⟨GG.g2,e2⟩ sY
 have Sn:=E.Sf CC.c m8S λ_ F=>Nc F T CC ⟨GG.g7,e7⟩
 have NO:=E.Sf CC.c m9S λ_ F=>Kj F T CC ⟨GG.g7,e7⟩
 have DK:XE l.prog w K mg base dC:=by
  obtain⟨_,F⟩:=m0S.fn
  exact⟨_,_,⟨mk,m0S.a,m0S.n,kp⟩,MY F CC,F.binds (ps:=["self"]) (by intro _ _ _ _ _ _ us hl;rcases us with _|⟨a,_|⟨b,us⟩⟩<;>first|(simp at hl;done)|rfl),E.at nC⟩
 have O7:zf l.prog w K mg base dC:=by
  obtain⟨_,F⟩:=m1S.fn
  exact⟨_,_,Rq F T Aq,F.binds (ps:=["self"]) (by intro _ _ _ _ _ _ us hl;rcases us with _|⟨a,_|⟨b,us⟩⟩<;>first|(simp at hl;done)|rfl),m1S.NJ⟩
 have NP:=E.df s27 λ_ F=>KR F T gr ⟨GG.g9,hdM,nat⟩ N5 N10 N9 N1 N3 N2 N7 Sl aaF NN Sm K9 Sn NO aaA
 have aaG:=E.df s28 λ_ F=>Wx F T WU NP
 have aaH:=E.df s31 λ_ F=>Wu F T Aq F0 O7 O4 WV
 have IK:Ro K dC:=⟨CC.c,ica,icn,ict,icm⟩
 have aaI:HI l.prog w K mg base dC:=by
  obtain⟨_,F⟩:=WN.fn
  exact⟨_,_,V0 F T (E.at nC) IK ick Aq F0,F.binds (ps:=["self","other"]) (by intro _ _ _ _ _ _ us hl;rcases us with _|⟨a,_|⟨b,_|⟨c,us⟩⟩⟩<;>first|(simp at hl;done)|rfl),WN.NJ,icq,icm⟩
 exact Sd FL Sj xE WS Sk aaH DK aaI T aaG Aq F0 O4 O7
def walk {l:OpenLaw} {K:Params->Φ}(hn:l.most=some 63) (Ua:d.params.defaults=[])
  (hY:∀(w:bB) (h:Heap),YP w h->(K w.params).In h)
  (F:∀(w:bB) (mg:Str->Option ag) (fa:ai) (h:Heap),(K w.params).In h->h.Ns mainGlobals mg->mg d.name=some (.ref fa)->
   ∃fd:FuncData,(∀(s:ak) (u:ag),BindsTo s fd ⟨[u],[]⟩ [("script",u)])/\∀base:Heap,(K w.params).In base->base.Ns mainGlobals mg->dR l.prog w (K w.params) mg base fN 8 fa fd ["script"] (FX (K w.params))):
  WalkO q loose XP YP l.row.toRowW d [] (λf vs=>PySem.call f vs):=
 L2.LY (n:=63) (k:=8) (x:="script") (CX:=λ_=>fN) (sp:=λw=>FX (K w.params)) hn δ Ua ⟨rfl,δ,δ,rfl⟩ hY F (λ_ _ a ns hl _ hS=>⟨a,ns,rfl,hS,hl,λ_=>rfl⟩) λ_ _ _ _ _ z=>z
end K13
open PySem PySem.W PyProof.Rows
structure PySem.W.Fast:Prop where
 (tw5116327887073405866 tw14148069427847849904 tw11403169908810795017 tw10012183228499492410 tw15274312877151517619 tw11000742364881933355 tw1723491276248251934 tw5706915930875862137 tw17482349489653443366 tw13479716499426819061 tw1471177047306922252 tw3289737162163726065 tw2624135960453582592 tw6727391300505840287 tw6117781606053631882 tw16867044667701359124 tw6080423327719889238 tw17750445713855222184 tw15576844516058161343 tw14199250342865155935 tw12296829846874567176 tw4145100336684305906 tw12061423607406846761 tw14757543365120397447 tw6623645951543046757 tw2800633716917787996 tw1142691313173723354 tw6654978625990888169 tw4589903488352131002 tw14640084660870855184 tw8931339587091005868 tw5184910670474523148 tw2644993421149247648 tw12386392341193033603 tw18224046843879360114 tw9964417032639002323 tw6956990145082577974 tw3290499670020220530 tw16964108311723186650 tw6375290838292763604 tw15530120200257099400 tw13793208215936729188 tw1947153553881415085 tw15160235696928562096 tw2740251476387960725 tw3749198958796887724 tw16157620085520930923 tw4011635911009179785 tw13682641214653305824 tw6189335444605986217 tw578150590271848013 tw6105732397944399125 tw16167615307266575535 tw14737058300402406327 tw13449086105670334644 tw11781752876246187369 tw14231344744071109971 tw10396525937241428329 tw8639427460789731968 tw5417292731450669397 tw6870874732665931480 tw14660294440823876149 tw14062745035557874939 tw17572225945071959748 tw6964147262173146659 tw16472878719736054116 tw7207407920219994539 tw5716961402518056608 tw2151493163183305147 tw4343033834232079364 tw17873823181247376197 tw14569743843757809873 tw14791013036392686169 tw4410006273508472441 tw4304931082318028577 tw17781438667055311159 tw3142359760435177882 tw7652892464282070460 tw1090487048332753268 tw1330827369741058650 tw14619772738264724182 tw16329706462715741795 tw11540253235463458356 tw3385072601386796899 tw5448215871011959874 tw14885910578086006115 tw1458956521640720572 tw14762469319505563184 tw16035967156518647432 tw2566951856310526517 tw1130125415765847571 tw3887604653390964079 tw9527318788958820526 tw15326271614139853180 tw8824222366022942499 tw9209841439068668414 tw5907634076828644784 tw13538530220732987091 tw2984556494006146925 tw1297315864110059557 tw2936760541732950097 tw10741914184982989482 tw6840249465248282191 tw9991576938236652769 tw11954619187527436493 tw8521316471146603998 tw16079735408901148771 tw141913815524253171 tw13900842495141853784 tw6413256744509701520 tw5144518052048250950 tw6196065614221771878 tw10855331862610333020 tw14178548524813672685 tw7004644740871195783 tw13934620482980828881 tw6058214777894197747 tw9026671727032474125 tw3790882578656110824 tw3690860410430114469 tw10004848009095889293 tw14591690834319056617 tw365184687670198388 tw7711805525894845549 tw5919223730257493821 tw12581864178264631611 tw10811145920747508489 tw15563411159797654504 tw14873264188251382966 tw14604270045800534624 tw3775350030243417362 tw15852065017513369712 tw14517968849781867857 tw6331807550404954613 tw7822699215519099057 tw11587054146696720172 tw2781261511589075301 tw77348451584807330 tw17746360782225227064 tw3066789530600971553 tw13675288249655527668 tw15000607068328896439 tw3131574396247077699 tw16485479224646524846 tw10005958511102272889 tw7782630354315865724 tw15369598034926521357 tw1313527188174915952 tw228633275043570403 tw17836789019598968098 tw16062887719883562160 tw7510637818465228283 tw3053189814624182926 tw15985200438501350632 tw6532221351561717218 tw1502969646119177643 tw8578206706359399176 tw13829964698637585075 tw6308246423509859729 tw1745668669739141835 tw16903294551240145780 tw4356305106391138409 tw9531950804530515163 tw18046363972509620050 tw1644782552268755184 tw8839350481885712320 tw12128416912740974028 tw12377735148458420080 tw15672808647025629470 tw8025266403255138818 tw6296793912884930018 tw5246533658481739918 tw4638810418154688641 tw10240410247833151214 tw9458612230360447244 tw2109414038184022198 tw274335231284006282 tw8027272744149117506 tw10194109883885275173 tw2094053892105466845 tw8583379213690809524 tw14514309076895227795 tw12019861674076130327 tw7577627325606276912 tw6914956361879093759 tw11694962192537886845 tw10440058818376042581 tw271899525470708946 tw17240027848135159612 tw15221002016887254043 tw15181835699927066735 tw3116080502219925292 tw1213774024119095706 tw13235341540642921805 tw16930092715231797710 tw3012542723326558259 tw16882707756532627010 tw15016371116784420349 tw8291847530787200869 tw13478253117409888306 tw5344745070604445963 tw10199554179135905306 tw144098704549682349 tw15851141116751827150 tw157803910810249110 tw9256888099451917916 tw2867016279631909980 tw13463907808487347321 tw32472735841613156 tw5144196303066884728 tw15317677998758859264 tw10110160641159768195 tw12805964468878204900 tw17898383671715062714 tw17993094161309916266 tw6550379052204984348 tw16347690501145340463 tw5662048370711345647 tw14239885060878980360 tw4912617532139879607 tw16226173181164760208 tw9633717005647011256 tw6066782130642751776 tw6140591126806599600 tw3933144743657760315 tw6860846006709925201 tw14837546344041917109 tw18185669304710952489:True)
set_option maxRecDepth 100000 in
set_option maxHeartbeats 0 in
theorem PySem.Challenge.cw_rowtrim_k13_clubs_by_turns_holds : PySem.Challenge.rw_rowtrim_k13_clubs_by_turns.Holds := by
  w_on; (refine PySem.W.holds_law (by decide +kernel) fun said=>?_); k_head; (case hw=>w_witness2)
  k_fill
  refine K13.walk (l:=PySem.Challenge.rw_rowtrim_k13_clubs_by_turns) rfl rfl (fun w h Y=>PySem.W.kIn_of Y) ?F
  case F =>
    intro w mg fa h KX G hmg
    refine' K13.all_mk KX G hmg (K13.stands ?a0 ?l0 ?c0 ?k0) (K13.stands ?a1 ?l1 ?c1 ?k1) (K13.stands ?a2 ?l2 ?c2 ?k2) (K13.stands ?a3 ?l3 ?c3 ?k3) (K13.stands ?a4 ?l4 ?c4 ?k4) (K13.stands ?a5 ?l5 ?c5 ?k5) (K13.stands ?a6 ?l6 ?c6 ?k6) (K13.stands ?a7 ?l7 ?c7 ?k7) (K13.stands ?a8 ?l8 ?c8 ?k8) (K13.stands ?a9 ?l9 ?c9 ?k9) (K13.stands ?a10 ?l10 ?c10 ?k10) (K13.stands ?a11 ?l11 ?c11 ?k11) (K13.stands ?a12 ?l12 ?c12 ?k12) (K13.stands ?a13 ?l13 ?c13 ?k13) (K13.stands ?a14 ?l14 ?c14 ?k14) (K13.stands ?a15 ?l15 ?c15 ?k15) (K13.stands ?a16 ?l16 ?c16 ?k16) (K13.stands ?a17 ?l17 ?c17 ?k17) (K13.stands ?a18 ?l18 ?c18 ?k18) (K13.stands ?a19 ?l19 ?c19 ?k19) (K13.stands ?a20 ?l20 ?c20 ?k20) (K13.stands ?a21 ?l21 ?c21 ?k21) (K13.stands ?a22 ?l22 ?c22 ?k22) (K13.stands ?a23 ?l23 ?c23 ?k23) (K13.stands ?a24 ?l24 ?c24 ?k24) (K13.stands ?a25 ?l25 ?c25 ?k25) (K13.stands ?a26 ?l26 ?c26 ?k26) (K13.stands ?a27 ?l27 ?c27 ?k27) (K13.stands ?a28 ?l28 ?c28 ?k28) (K13.stands ?a29 ?l29 ?c29 ?k29) (K13.stands ?a30 ?l30 ?c30 ?k30) (K13.stands ?a31 ?l31 ?c31 ?k31) (K13.standsM ?p0 ?q0 ?r0 ?s0 ?t0) (K13.standsM ?p1 ?q1 ?r1 ?s1 ?t1) (K13.standsM ?p2 ?q2 ?r2 ?s2 ?t2) (K13.standsM ?p3 ?q3 ?r3 ?s3 ?t3) (K13.standsM ?p4 ?q4 ?r4 ?s4 ?t4) (K13.standsM ?p5 ?q5 ?r5 ?s5 ?t5) (K13.standsM ?p6 ?q6 ?r6 ?s6 ?t6) (K13.standsM ?p7 ?q7 ?r7 ?s7 ?t7) (K13.standsM ?p8 ?q8 ?r8 ?s8 ?t8) (K13.standsM ?p9 ?q9 ?r9 ?s9 ?t9) (K13.standsM ?p10 ?q10 ?r10 ?s10 ?t10) (K13.standsM ?p11 ?q11 ?r11 ?s11 ?t11) (K13.standsM ?p12 ?q12 ?r12 ?s12 ?t12) (K13.standsM ?p13 ?q13 ?r13 ?s13 ?t13) (K13.standsM ?p14 ?q14 ?r14 ?s14 ?t14) ?aL ?lL ?cL ?kL ?b0 ?b1 ?b2 ?b3 ?b4 ?x0 ?z0 ?z1 ?z2 ?z3 ?z4 ?z5 ?z6 ?z7 ?z8 ?z9 ?z10 ?z11 ?z12 ?z13 ?z14 ?z15 ?z16 ?z17 ?n0 ?n1 ?n2 ?n3 ?n4 ?n5 ?n6 ?n7 ?n8 ?n9 ?n10 ?X1 ?T1 ?X2 ?T2 ?X3 ?T3 ?X5 ?T5 ?X7 ?T7 ?X9 ?T9 ?X10 ?T10 ?h0 ?h1 ?h2 ?h3 ?h4 ?h5 ?h6 ?h7 ?h8 ?h9 ?h10 ?h11 ?h12 ?h13 ?h14 ?h15 ?h16 ?h17 ?h18 ?h19 ?h20 ?h21 ?h22 ?h23 ?h24 ?h25 ?h26 ?h27 ?h28 ?h29 ?h30 ?h31 ?h32
    (case a0 | l0 | c0 | k0 | a1 | l1 | c1 | k1 | a2 | l2 | c2 | k2 | a3 | l3 | c3 | k3 | a4 | l4 | c4 | k4 | a5 | l5 | c5 | k5 | a6 | l6 | c6 | k6 | a7 | l7 | c7 | k7 | a8 | l8 | c8 | k8 | a9 | l9 | c9 | k9 | a10 | l10 | c10 | k10 | a11 | l11 | c11 | k11 | a12 | l12 | c12 | k12 | a13 | l13 | c13 | k13 | a14 | l14 | c14 | k14 | a15 | l15 | c15 | k15 | a16 | l16 | c16 | k16 | a17 | l17 | c17 | k17 | a18 | l18 | c18 | k18 | a19 | l19 | c19 | k19 | a20 | l20 | c20 | k20 | a21 | l21 | c21 | k21 | a22 | l22 | c22 | k22 | a23 | l23 | c23 | k23 | a24 | l24 | c24 | k24 | a25 | l25 | c25 | k25 | a26 | l26 | c26 | k26 | a27 | l27 | c27 | k27 | a28 | l28 | c28 | k28 | a29 | l29 | c29 | k29 | a30 | l30 | c30 | k30 | a31 | l31 | c31 | k31 | n0 | n1 | n2 | n3 | n4 | n5 | n6 | n7 | n8 | n9 | n10 | h0 | h1 | p0 | q0 | r0 | s0 | t0 | p1 | q1 | r1 | s1 | t1 | p2 | q2 | r2 | s2 | t2 | p3 | q3 | r3 | s3 | t3 | p4 | q4 | r4 | s4 | t4 | p5 | q5 | r5 | s5 | t5 | p6 | q6 | r6 | s6 | t6 | p7 | q7 | r7 | s7 | t7 | p8 | q8 | r8 | s8 | t8 | p9 | q9 | r9 | s9 | t9 | p10 | q10 | r10 | s10 | t10 | p11 | q11 | r11 | s11 | t11 | p12 | q12 | r12 | s12 | t12 | p13 | q13 | r13 | s13 | t13 | p14 | q14 | r14 | s14 | t14 | x0 | aL | lL | cL | kL | b0 | b1 | b2 | b3 | b4 | z0 | z1 | z2 | z3 | z4 | z5 | z6 | z7 | z8 | z9 | z10 | z11 | z12 | z13 | z14 | z15 | z16 | z17=>k_is)
    (case X1 | X2 | X3 | X5 | X7 | X9 | X10=>constructor; k_is; k_is; k_is; k_is; k_is; (refine' Option.isSome_of_eq_some ?hh); (case hh=>k_is); kit_is; kts_exm)
    (case T1 | T2 | T3 | T5 | T7 | T9 | T10=>constructor <;> kit_is)
    (case h2 | h4 | h5 | h6 | h7 | h8 | h9=>k_exc)
    (case h3=>kts_exm)
    (case h10 | h15 | h16 | h17 | h18=>kernel_rfl)
    (case h11 | h12 | h14 | h19 | h20 | h21 | h22 | h23 | h24 | h25 | h26 | h27 | h28 | h29 | h30 | h32=>k_is)
    (case h13=>(refine' K13.wcd_mk ?w1 ?w2 ?w3); (case w1=>k_is); (case w2=>rfl); (case w3=>exact fun _=>rfl))
    (case h31=>kit_is)
#print axioms PySem.Challenge.cw_rowtrim_k13_clubs_by_turns_holds
