import PyProof.Rows.All
import Wide.All
import OpenK.AllK
import Wide.FinOn
import Lean
import PyProof.EqAt
import PyProof.EqKinds
import PyProof.TupleCall
import PyProof.ExcBaseAll.ValueError
import PyProof.InstNe
import PySem.Challenge.RW_rowtrim_k12_whole_clubs
import PyProof.ExcInit
import PyProof.InstStoreFacts
import PyProof.FString5
import PyProof.ListMulRoad
set_option Elab.async false
set_option linter.all false
set_option compiler.extract_closed false
set_option maxRecDepth 100000
set_option maxHeartbeats 4000000
local macro_rules
  | `(tactic| omega) => `(tactic| first | with_reducible assumption | lia | omega (config := {}))
abbrev Φ:=PySem.W.Frag
abbrev Ψ:=@PyProof.Rows.envOfC
theorem ω{p:Prop}(h:p:=by omega):p:=h
theorem δ{p:Prop}(h:p:=by decide):p:=h
theorem ς{p:Prop}(h:p:=by simp):p:=h
def aa:=@PySem.wpAny_bind
def af:=@PySem.Heap.get?_push_of_some
abbrev ag:=PySem.Value
abbrev ai:=PySem.Addr
abbrev aj:=PySem.Shared
def ak:=@PySem.wpAny_pure
def aq:=@List.length_map
def ar:=@Nat.le_refl
def av:=@PySem.Paired.mono
def az:=@PySem.Heap.get?_push_size
def aA:=@Nat.le_trans
def aC:=@PySem.Heap.lt_size
def aD:=@List.mem_cons
def aE:=@PyProof.Rows.boot_isinstance
def aG:=@List.getElem?_eq_getElem
def aH:=@List.size_toArray
def aI:=@decide_eq_true
def aJ:=@List.length_singleton
def aK:=@List.length_append
abbrev aM:=PySem.Program
def aN:=@List.not_mem_nil
def aO:=@if_neg
def aQ:=@if_pos
def aX:=@of_decide_eq_true
def aY:=@PySem.Heap.get?_update_other
def ba:=@Nat.ne_of_lt
def bb:=@Nat.lt_of_le_of_lt
def bf:=@List.getD_eq_getElem?_getD
def bh:=@Nat.lt_of_lt_of_le
def bj:=@Bool.false_and
def br:=@List.getElem?_eq_some_iff
def bA:=@Bool.false_ne_true
abbrev bB:=PySem.World
def bC:=@PySem.boot_len
def bD:=@decide_eq_false
def bE:=@PySem.wpAny_newObj_type
def bF:=@List.map_append
abbrev bG:=PySem.Around
def bJ:=@List.mem_append_right
def bK:=@List.map_cons
def bL:=@PySem.wpAny_field
def bM:=@PySem.wpAny_mono
def bV:=@List.mem_singleton
def bY:=@List.getElem?_map
def cf:=@PySem.Heap.size_push
def cg:=@PySem.wpAny_seqItems
def cj:=@List.mem_cons_self
def cm:=@Bool.true_and
def cu:=@List.mem_cons_of_mem
def cw:=@PyProof.Rows.boot_tuple
def cx:=@PySem.F.plainAttrs_list
def cy:=@or_false
def cB:=@List.getElem_mem
def cD:=@Ne.symm
def cE:=@PyProof.Rows.slot_tuple_getitem
def cH:=@PySem.wpAny_callSpecial?_slot
def cI:=@List.length_cons
def cJ:=@Bool.and_eq_true
def cM:=@Option.some.inj
def cO:=@PySem.wpAny_holding
def cR:=@Nat.le_of_lt
def cS:=@List.mem_map
def cU:=@List.mem_map_of_mem
def cW:=@PySem.Heap.get?_update_self
def cY:=@List.take_of_length_le
def de:=@Nat.zero_le
def dj:=@List.take_length
def dq:=@List.mem_append
def dz:=@Int.le_trans
def dE:=@List.mem_filter
def dF:=@List.length_drop
def dH:=@Nat.le_add_right
def dN:=@Nat.le_succ
def dQ:=@PySem.wpAny_call_entry
def dR:=@Nat.lt_of_le_of_ne
def dU:=@PySem.Paired.snoc
def dX:=@PySem.wpAny_setField_rec
def dY:=@Nat.add_le_add_left
def ek:=@PySem.wpAny_truthy_bool
def eA:=@PySem.F.slot_list_append
def eB:=@PySem.F.type_list_append
def eF:=@List.length_filter_le
def eG:=@Nat.le_of_lt_succ
def eR:=@List.append_nil
def eX:=@PySem.PassesOwn.never
def fg:=@Bool.and_false
def fj:=@Nat.le_of_eq
def fk:=@PySem.W.kia_one
def fm:=@Bool.false_eq_true
def fu:=@List.length_take
def fG:=@PySem.wpAny_letGo
def fH:=@PySem.F.excAttr_ValueError
def fQ:=@Nat.lt_succ_self
def fU:=@Nat.lt_irrefl
def gf:=@PySem.wpAny_Call_Name_kw
def gk:=@Nat.lt_succ_of_lt
def gu:=@Array.length_toList
def gv:=@PySem.mem_of_lookup
def gx:=@PyProof.Rows.callWith_type1
def gy:=@Nat.lt_trans
def gC:=@List.lookup_cons
def gD:=@PySem.codeAny_builtin
def gI:=@PySem.F.excBase_ValueError
def gK:=@PySem.W.methodCall_KW
def gL:=@List.length_replicate
def gM:=@PyProof.Rows.boot_str
def gX:=@PySem.sizeLine_eq
def g_:=@Nat.ne_of_gt
def hU:=@List.append_assoc
def hV:=@PySem.Obj.data_mapFields
def hW:=@Bool.eq_false_iff
def hX:=@List.mem_of_mem_take
def ib:=@PySem.Obj.isFreed_of_fields
def ik:=@Option.isSome_iff_exists
def iy:=@List.filterMap_cons
def iA:=@PySem.F.slot_zip_next
def iD:=@congrArg
def iE:=@PySem.wpAny_pyIter_list
def iF:=@PySem.wpAny_updateSeq_pair
def iI:=@PySem.Around.under_plainId
def iO:=@PySem.wpAny_onRaise
def iP:=@PySem.W.looks_findIn
def iT:=@beq_iff_eq
def iU:=@PySem.W.callWith_K
def iV:=@Nat.not_lt
def iW:=@of_decide_eq_false
def iZ:=@List.nodup_cons
def i9:=@PySem.wpAny_setField
def i_:=@List.length_nil
def jb:=@PySem.F.plain_min_loop
def jc:=@PySem.wpAny_tryCatch
def jd:=@PySem.F.plain_max_loop
def je:=@Nat.le_add_left
def jf:=@Nat.min_eq_left
def jv:=@Int.toNat_natCast
def jw:=@Array.getD_eq_getD_getElem?
def jx:=@PySem.F.typeOf_object_class
def jJ:=@List.mem_append_left
def jK:=@PySem.wpAny_passesOwn
def jL:=@Nat.le_sub_one_of_lt
def jM:=@Array.getElem?_eq_some_iff
def jN:=@PySem.wpAny_standAt
def jO:=@PySem.plainId_quiet
def jQ:=@List.getElem_map
def jX:=@Classical.byContradiction
def jY:=@List.drop_eq_getElem_cons
def j4:=@List.replicate_succ
def j9:=@List.map_congr_left
def kh:=@PyProof.Rows.assignInOrder_cons
def ki:=@PySem.wpAny_rule
def kj:=@List.any_cons
def kq:=@PySem.F.slot_tuple_iterator_next
def kr:=@PySem.codeAny_call_builtin
def kC:=@List.find?_cons
def kK:=@PySem.codeAny_mono
def kN:=@PySem.Heap.size_update
def kO:=@List.filter_append
def kP:=@Int.emod_lt_of_pos
def kX:=@PySem.Heap.get?_update_ne
def lM:=@List.getElem?_set_self
def lN:=@Bool.not_eq_true'
def lO:=@Nat.le_of_succ_le
def lP:=@List.pairwise_map
def lT:=@PySem.wpAny_updateSeq
def me:=@PySem.wpAny_pyIter_tuple
def mJ:=@List.getElem?_eq_none
def mL:=@Nat.succ_le_succ
def mM:=@List.all_eq_true
def m_:=@if_true
def nh:=@List.getElem?_set_ne
def ni:=@PySem.wpAny_bindName
def nj:=@List.mem_of_getElem?
def nu:=@if_false
def nv:=@PySem.wpAny_loadPart_at
def oh:=@List.forIn_cons
def oi:=@PySem.W.Looks.ld
def om:=@Int.emod_nonneg
def ot:=@beq_eq_false_iff_ne
def ou:=@PySem.W.callWith_K0
def oC:=@Nat.add_sub_cancel'
def oJ:=@PySem.wpAny_call
def oK:=@List.map_nil
def oM:=@List.map_map
def pN:=@PySem.Paired.length
def qc:=@List.mem_range
def qU:=@List.take_sublist
def qV:=@List.flatten_cons
def qW:=@decide_eq_true_eq
def qX:=@List.take_add_one
def qY:=@List.nodup_append
def qZ:=@Int.mul_pos
def rh:=@PySem.F.args_tuple_add_2
def rj:=@PySem.wpAny_typeOf
def rl:=@PySem.W.KasT.kasWp_bind
def rm:=@Int.mul_ediv_cancel_left
def sy:=@List.getElem?_replicate
def sH:=@PySem.F.entry_tuple_add
def sL:=@Nat.min_le_right
def sN:=@PySem.call_meets
def sO:=@List.zipIdx_cons
def sQ:=@PySem.slot_listiter_next
def sR:=@List.filter_cons_of_pos
def sU:=@List.filter_cons_of_neg
def uo:=@PySem.W.cellsFrom_some
def uq:=@PySem.F.slot_tuple_add
def ur:=@PySem.Calls.call_function_entry
def uv:=@PyProof.Rows.boot_bool
def uw:=@PyProof.Rows.boot_list
def ux:=@not_or
def uM:=@Bool.eq_iff_iff
def uN:=@List.of_mem_zip
def uO:=@Nat.min_le_left
def uP:=@PySem.Obj.cls_mapFields
def uQ:=@List.zipIdx_nil
def uR:=@PySem.F.args_zip_next_1
def uS:=@Nat.le_antisymm
def vg:=@PySem.wpAny_comprehension_free
def vh:=@PySem.wpAny_attempt
def vm:=@PySem.AutoSeq1.wpAny_loadPart'
def vn:=@PySem.F.entry_bexc_ga
def vo:=@PyProof.Rows.boot_int
def vp:=@PyProof.Rows.boot_all
def vq:=@PySem.F.slot_list_pop
def vt:=@PySem.F.type_list_pop
def xo:=@List.forIn_nil
def xq:=@PySem.F.entry_zip_next
def xr:=@PySem.wpAny_pyIter_zip
def xt:=@Nat.le_sub_of_add_le
def xu:=@List.mem_of_mem_drop
def xv:=@List.drop_drop
def yD:=@PySem.W.plainGet_of
def yE:=@PySem.Calls.callWith_builtin
def yF:=@PySem.codeAny_compStart_list
def yG:=@Nat.mul_le_mul_left
def yH:=@Int.add_le_add_left
def yI:=@List.filter_sublist
def zU:=@PySem.wpAny_execs_nil
def zV:=@List.set_comm
def zW:=@List.all_cons
def zX:=@Bool.and_true
def Ad:=@List.mem_filterMap
def Ae:=@PyProof.Rows.vals1
def Af:=@Nat.sub_le
def Ag:=@Nat.sub_lt
def Ah:=@Int.natAbs_natCast
def Ai:=@List.pairwise_cons
def BF:=@PySem.Heap.get?_none_of_le
def BG:=@List.any_eq_false
def BH:=@PySem.wpAny_loadPart
def BI:=@PySem.Calls.evalArgs_plain
def BJ:=@PySem.wpAny_newFunctionEnv
def BK:=@PySem.wpAny_of_eq
def BL:=@List.length_range
def BM:=@Nat.succ_add
def BN:=@List.filter_congr
def BO:=@List.length_filter_eq_length_iff
def BP:=@List.flatten_replicate_singleton
def Fk:=@Nat.le_of_not_lt
def Fl:=@beq_self_eq_true
def Fm:=@List.ext_getElem
def Fn:=@PySem.Heap.SameBut.update
def Fo:=@List.filter_cons
def Fp:=@PySem.W.set_dict
def G8:=@PySem.wpAny_newList
def G9:=@Int.neg_mul
def Hm:=@PySem.Calls.spliced_cons
def Hn:=@PySem.SeqAt.EqAt.str_str
def Ho:=@PySem.Code.quiet_builtin
def Hr:=@List.cons.injEq
def KQ:=@Int.fdiv_eq_ediv_of_nonneg
def KR:=@List.getElem?_append_right
def KS:=@PySem.wpAny_sequenceKey
def KU:=@Array.perm_iff_toList_perm
def KW:=@Int.le_add_of_nonneg_right
def KY:=@Int.natAbs_mul
def KZ:=@List.perm_append_singleton
def Ni:=@PySem.plainObj_wpAny_Assign_Attribute
def Nj:=@List.getElem?_append_left
def Nk:=@PyProof.Rows.slicePart_none
def Nl:=@PyProof.Rows.take_succ_getD
def Nm:=@Int.natAbs_ediv_le_natAbs
def Og:=@PySem.noFill_tuple_add
def Oh:=@PySem.wpAny_isInstance
def Oi:=@PySem.F.entry_min_loop
def Oj:=@PySem.F.entry_max_loop
def Ol:=@List.map_take
def Om:=@List.map_drop
def Oo:=@List.Perm.eq_of_pairwise
def RK:=@Int.eq_ofNat_of_zero_le
def RL:=@Int.mul_ediv_mul_of_pos
def RM:=@decide_eq_false_iff_not
def Sn:=@PySem.wpAny_loadPart'
def So:=@Int.le_of_lt
def Sq:=@PySem.F.args_tuple_iterator_next_1
def Sr:=@List.any_map
def Ss:=@PyProof.Rows.listUpdate_at
def Su:=@Option.map_eq_some_iff
def Sv:=@Nat.gcd_comm
def Sw:=@Int.mul_comm
def Sx:=@List.drop_of_length_le
def Sy:=@List.length_eq_one_iff
def dP {n:Nat}(h:Nat.ble n 99=true:=by exact rfl):n<=PySem.sizeLine:=aA (Nat.le_of_ble_eq_true h) δ
namespace L2
open PySem PySem.Spec PyProof.Rows
abbrev Key:=Sum Bool Str
def isBoolOf (b:Bool):ag->Bool
 | .bool c=>b==c
 |_=>false
def vv (h:isBoolOf b v=true):v=.bool b:=by
 cases v<;>simp[isBoolOf] at h
 rw[h]
def Ht (b:Bool):Int:=if b then 1 else 0
def rn (h:Q (Ht b) {s with toks:=s.toks+1}):
  wpAny (model prog w) A (pyHash (.bool b)) Q E s:=by
 refine PySem.W.pyHash_slot (T:="bool") rfl F.slot_bool_hash entry_int_hash (args_int_hash _) (beq_builtin_none _) (.inl rfl) ?_
 have go:∀i:Int,reduceHash i=Ht b->wpAny (model prog w) A.in1 (do ret (<-mkInt i)) (λfin s'=>∃n t,fin=.done (.ret (.int n t))/\Q (reduceHash n) s') E s:=λi e=>aa (wpAny_mkInt (ak ⟨_,_,rfl,by rw[e];exact h⟩))
 cases b
 .exact go 0 rfl
 .exact go 1 rfl
def xP:Key->ag->Bool
 | .inl k,v=>isBoolOf k v
 | .inr x,v=>Value.isStrOf x v
def WU (w:bB):Key->Int
 | .inl k=>Ht k
 | .inr x=>hashStr w x
def gm:∀{k:Key}{v:ag},xP k v=true->(∃b,k=Sum.inl b/\v=Value.bool b)\/(∃x t,k=Sum.inr x/\v=Value.str x t)
 | .inl i,v,h=>.inl ⟨i,rfl,vv h⟩
 | .inr x,v,h=>by
  obtain⟨t,e⟩:=Value.isStrOf_shape (x:=x) (v:=v) h
  exact .inr ⟨x,t,rfl,e⟩
def BQ (b:Bool):xP (.inl b) (.bool b)=true:=by simp[xP,isBoolOf]
def Fq (x:Str) (t:Tok):xP (.inr x) (.str x t)=true:=by simp[xP,Value.isStrOf]
def Oq (a b:Bool):decide ((Sum.inl a:Key)=Sum.inl b)=(a==b):=by cases a<;>cases b<;>decide
def Ot (a b:Str):decide ((Sum.inr a:Key)=Sum.inr b)=decide (a=b):=by
 by_cases e:a=b
 .subst e;simp
 .have h:¬(Sum.inr a:Key)=Sum.inr b:=λq=>e (Sum.inr.inj q)
  rw[bD h,bD e]
def Ou (a:Bool) (b:Str):decide ((Sum.inl a:Key)=Sum.inr b)=false:=bD (λq=>nomatch q)
def Ov (a:Str) (b:Bool):decide ((Sum.inr a:Key)=Sum.inl b)=false:=bD (λq=>nomatch q)
def gz (prog:aM) (w:bB):PySem.KeyKind prog w Key where
 is:=xP
 hash:=WU w
 inj:=λv a b ha hb=>by
  rcases gm ha with⟨i,rfl,rfl⟩|⟨x,t,rfl,rfl⟩
  .rcases gm hb with⟨j,rfl,e⟩|⟨y,u,rfl,e⟩
   .injection e with e1;rw[e1]
   .exact nomatch e
  .rcases gm hb with⟨j,rfl,e⟩|⟨y,u,rfl,e⟩
   .exact nomatch e
   .injection e with e1 _;rw[e1]
 byValue:=λk v h=>by
  rcases gm h with⟨i,rfl,rfl⟩|⟨x,t,rfl,rfl⟩<;>rfl
 pyHash:=λhv h=>by
  rcases gm hv with⟨i,rfl,rfl⟩|⟨x,t,rfl,rfl⟩
  .exact rn h
  .exact wpAny_pyHash_str h
 eqBool:=λhu hv h=>by
  rcases gm hu with⟨i,rfl,rfl⟩|⟨x,t,rfl,rfl⟩
  .rcases gm hv with⟨j,rfl,rfl⟩|⟨y,u,rfl,rfl⟩
   .rw[Oq] at h;exact SeqAt.EqAt.bool_bool i j _ _ _ _ h
   .rw[Ou] at h;exact SeqAt.EqAt.bool_str i y u _ _ _ _ h
  .rcases gm hv with⟨j,rfl,rfl⟩|⟨y,u,rfl,rfl⟩
   .rw[Ov] at h;exact SeqAt.EqAt.str_bool x t j _ _ _ _ h
   .rw[Ot] at h;exact wpAny_eqBool_str h
 «strs»:=λk x t v h=>by
  rcases gm h with⟨i,rfl,e⟩|⟨y,u,rfl,e⟩
  .exact nomatch e
  .injection e with e1 _
   subst e1
   cases v<;>rfl
def yJ (prog:aM) (w:bB) (b:Bool):(gz prog w).is (.inl b) (.bool b)=true:=BQ b
def Aj (prog:aM) (w:bB) (x:Str) (t:Tok):(gz prog w).is (.inr x) (.str x t)=true:=Fq x t
inductive V where
 |eK|bl (b:Bool)|int (i:Int)|str (x:Str)|Ea (b:Array UInt8)|Ow (b:UInt64)|ref (a:ai)|ty (n:String)
 deriving DecidableEq
def RelV:V->ag->Prop
 | .eK,u=>u=Value.none
 | .bl b,u=>u=Value.bool b
 | .int i,u=>∃t,u=Value.int i t
 | .str x,u=>∃t,u=Value.str x t
 | .Ea b,u=>∃t,u=Value.bytes b t
 | .Ow b,u=>∃t,u=Value.float b t
 | .ref a,u=>u=Value.ref a
 | .ty n,u=>u=Value.type n
abbrev cz:List V->List ag->Prop:=Paired RelV
def cz.length (r:cz xs us):xs.length=us.length:=pN r
def cz.get:∀{xs:List V}{us:List ag}{i:Nat}{x:V},cz xs us->xs[i]?=some x->∃u,us[i]?=some u/\RelV x u
 |_,_,_,_,.nil,e=>by simp at e
 |_,_,0,_,.cons r _,e=>by simp at e;subst e;exact⟨_,rfl,r⟩
 |_,_,i+1,x,.cons _ t,e=>by
  obtain⟨u,h1,h2⟩:=cz.get (i:=i) (x:=x) t (by simpa using e)
  exact⟨u,by simpa using h1,h2⟩
def cz.set (r:RelV x u):∀{xs:List V}{us:List ag}(i:Nat),cz xs us->cz (xs.set i x) (us.set i u)
 |_,_,_,.nil=>.nil
 |_,_,0,.cons _ t=>.cons r t
 |_,_,i+1,.cons q t=>.cons q (cz.set r i t)
def cz.append:∀{xs ys:List V}{us ws:List ag},cz xs us->cz ys ws->cz (xs++ys) (us++ws)
 |_,_,_,_,.nil,s=>s
 |_,_,_,_,.cons r t,s=>.cons r (cz.append t s)
def cz.take:∀{xs:List V}{us:List ag}(n:Nat),cz xs us->cz (xs.take n) (us.take n)
 |_,_,0,_=>.nil
 |_,_,_+1,.nil=>.nil
 |_,_,n+1,.cons r t=>.cons r (cz.take n t)
def cz.drop:∀{xs:List V}{us:List ag}(n:Nat),cz xs us->cz (xs.drop n) (us.drop n)
 |_,_,0,r=>r
 |_,_,_+1,.nil=>.nil
 |_,_,n+1,.cons _ t=>cz.drop n t
def oo:Option V->Option ag->Prop
 |some v,some u=>RelV v u
 |none,none=>True
 |_,_=>False
def KV {κ:Type}:List (κ×V)->List (κ×ag)->Prop:=Paired λ(p:κ×V) (q:κ×ag)=>p.1=q.1/\RelV p.2 q.2
def kV:Key->V
 | .inl b=>.bl b
 | .inr x=>.str x
inductive HO where
 |lst (xs:List V)
 |tup (xs:List V)
 |dK (dO:List (Key×V))|dT (dO:List (List Key×V))
 |set (S:Int->Bool) (n:Nat)
 |ins (C dx:ai) (fs:List (Str×V))
 |own (x:ai)
 |xd (fs:List (Str×V))
 |met (f x:ai)
 |Wa (lo hi:Int)
 |BR (o:Obj) (u:HO)
 |Np (ps:Array ag)
 |ext (φ:Heap->Prop)
abbrev Hp:=ai->Option HO
def upd (H:Hp) (a:ai) (o:HO):Hp:=λb=>if b=a then some o else H b
def aB:upd H a o a=some o:=by unfold upd;rw[aQ rfl]
def aV (h:b≠a):upd H a o b=H b:=by unfold upd;rw[aO h]
def rq:upd (upd H a o) a u=upd H a u:=by
 funext b;unfold upd;split<;>rfl
def vw (h:Heap) (a:ai) (items:Array ag):Prop:=∃o,h.get? a=some o/\o.cls=.type "tuple"/\o.dict=none/\∃n,o.data=.seq items n
def vw.isTup (x:vw h a items):IsTup h a items:=let⟨o,e,c,_,n,d⟩:=x;⟨o,e,c,n,d⟩
def vw.lt (x:vw h a items):a<h.objs.size:=let⟨o,e,_⟩:=x;aC e
def vw.new (h:Heap) (items:Array ag):vw (h.push {cls:=.type "tuple",data:=.seq items}) h.objs.size items:=⟨_,az _ rfl,rfl,rfl,_,rfl⟩
def xQ {H:Hp}{a b:ai}{o u:HO}(h:H a=some o) (h':H b=some u) (d:o≠u):a≠b:=by
 intro e;subst e;rw[h] at h';exact d (cM h')
def dB {H:Hp} (h:H a=some o) (h':H b=none):a≠b:=by
 intro e;subst e;rw[h] at h';cases h'
section
variable (P:aM) (w:bB)
def fV (H:Hp) (h:Heap) (a:ai):HO->Prop
 | .lst xs=>xs.length<=sizeLine/\∃(cF:List ag) (n:Nat),cz xs cF/\h.get? a=some {cls:=.type "list",data:=.seq cF.toArray n}
 | .tup xs=>xs.length<=sizeLine/\∃cF:List ag,cz xs cF/\vw h a cF.toArray
 | .dK dO=>dO.length<=sizeLine/\(a==sysModules)=false/\∃vs,KV dO vs/\h.DictOf (gz P w) a vs
 | .dT dO=>dO.length<=sizeLine/\(a==sysModules)=false/\∃xs:List (List Key×ai×ag),
   Paired (λ(p:List Key×V) (q:List Key×ai×ag)=>p.1=q.1/\H q.2.1=some (.tup (p.1.map kV))/\RelV p.2 q.2.2) dO xs/\
   ∃o es ep,h.get? a=some o/\o.ExactDict/\o.data=.dict es ep/\es.toList=xs.map (entryOfKey (tupleKind (gz P w)))/\(xs.map (·.1)).Nodup
 | .set S n=>h.SetOf (intKind P w) a S n
 | .ins C dx fs=>H dx=some (.own a)/\fs.length<=1000/\dx≠a/\h.get? a=some (PySem.W.instObj C dx)/\
   ∃mA,h.Ns1 dx mA/\(∀f,oo (fs.lookup f) (mA f))/\PySem.Within mA (fs.map (·.1))
 | .own _=>∃o,h.get? a=some o
 | .xd fs=>∃mA,h.Ns1 a mA/\∀f,oo (fs.lookup f) (mA f)
 | .Wa lo hi=>∃t u v,h.get? a=some {cls:=.type "range",data:=.fields #[.int lo t,.int hi u,.int 1 v]}
 | .BR o u=>h.get? a=some o/\fV H h a u
 | .Np ps=>h.get? a=some {cls:=.none,data:=.fields ps}
 | .met f x=>h.get? a=some (PySem.W.methodObj (.ref f) (.ref x))
 | .ext φ=>φ h/\(∃o,h.get? a=some o)/\∀h1 h2:Heap,φ h1->(∀o,h1.get? a=some o->h2.get? a=some o)->φ h2
def qi (H:Hp) (h:Heap):Prop:=∀a o,H a=some o->fV P w H h a o
end
section
variable {P:aM}{w:bB}{H H':Hp}{h h':Heap}{a:ai}{o:HO}
def fV.lt (x:fV P w H h a o):a<h.objs.size:=by
 cases o with
 |lst xs=>obtain⟨_,_,_,_,e⟩:=x;exact aC e
 |tup xs=>obtain⟨_,_,_,p⟩:=x;exact p.lt
 |dK dO=>obtain⟨_,_,_,_,o,_,_,e,_⟩:=x;exact aC e
 |dT dO=>obtain⟨_,_,_,_,o,_,_,e,_⟩:=x;exact aC e
 |set S n=>obtain⟨o,_,_,_,e,_⟩:=x;exact aC e
 |ins C dx fs=>obtain⟨_,_,_,e,_⟩:=x;exact aC e
 |own y=>obtain⟨_,e⟩:=x;exact aC e
 |xd fs=>obtain⟨_,⟨_,_,_,e,_⟩,_⟩:=x;exact aC e
 |Wa lo hi=>obtain⟨_,_,_,e⟩:=x;exact aC e
 |BR ob u=>obtain⟨e,_⟩:=x;exact aC e
 |Np ps=>exact aC (show h.get? a=some _ from x)
 |met f y=>exact aC (show h.get? a=some _ from x)
 |ext φ=>obtain⟨_,⟨_,e⟩,_⟩:=x;exact aC e
def Paired.Sz {α β:Type}{F G:α->β->Prop}{l₁:List α}{l₂:List β}(h:Paired F l₁ l₂) (f:∀a b,F a b->G a b):Paired G l₁ l₂:=by
 induction h with
 |nil=>exact .nil
 |cons r _ ih=>exact .cons (f _ _ r) ih
def fV.qd (x:fV P w H h a o) (k:∀b u,(b=a\/H b=some (.own a))->h.get? b=some u->h'.get? b=some u)
  (ho:∀b,H b=some (.own a)->H' b=some (.own a)) (ht:∀b xs,H b=some (.tup xs)->H' b=some (.tup xs)):fV P w H' h' a o:=by
 induction o with
 |lst xs=>obtain⟨z,cF,n,r,e⟩:=x;exact⟨z,cF,n,r,k _ _ (.inl rfl) e⟩
 |tup xs=>obtain⟨z,cF,r,ob,e,c⟩:=x;exact⟨z,cF,r,ob,k _ _ (.inl rfl) e,c⟩
 |dK dO=>obtain⟨z,y,vs,r,ob,es,ep,e,c⟩:=x;exact⟨z,y,vs,r,ob,es,ep,k _ _ (.inl rfl) e,c⟩
 |dT dO=>
  obtain⟨z,y,xs,r,ob,es,ep,e,c⟩:=x
  exact⟨z,y,xs,Paired.Sz r λp q z=>⟨z.1,ht _ _ z.2.1,z.2.2⟩,ob,es,ep,k _ _ (.inl rfl) e,c⟩
 |set S n=>obtain⟨ob,es,ep,t,e,c⟩:=x;exact⟨ob,es,ep,t,k _ _ (.inl rfl) e,c⟩
 |ins C dx fs=>
  obtain⟨d,z,ne,e,mA,⟨od,es,ep,e2,c⟩,r⟩:=x
  exact⟨ho _ d,z,ne,k _ _ (.inl rfl) e,mA,⟨od,es,ep,k _ _ (.inr d) e2,c⟩,r⟩
 |own y=>obtain⟨ob,e⟩:=x;exact⟨ob,k _ _ (.inl rfl) e⟩
 |xd fs=>obtain⟨mA,⟨od,es,ep,e,c⟩,r⟩:=x;exact⟨mA,⟨od,es,ep,k _ _ (.inl rfl) e,c⟩,r⟩
 |Wa lo hi=>obtain⟨t,u,v,e⟩:=x;exact⟨t,u,v,k _ _ (.inl rfl) e⟩
 |BR ob u ih=>obtain⟨e,q⟩:=x;exact⟨k _ _ (.inl rfl) e,ih q⟩
 |Np ps=>
  have e:h.get? a=some {cls:=.none,data:=.fields ps}:=x
  show h'.get? a=some {cls:=.none,data:=.fields ps}
  exact k a _ (.inl rfl) e
 |met f y=>
  have e:h.get? a=some (PySem.W.methodObj (.ref f) (.ref y)):=x
  show h'.get? a=some (PySem.W.methodObj (.ref f) (.ref y))
  exact k a _ (.inl rfl) e
 |ext φ=>obtain⟨p,⟨o,e⟩,st⟩:=x;exact⟨st _ _ p λo q=>k _ _ (.inl rfl) q,⟨o,k _ _ (.inl rfl) e⟩,st⟩
def qi.lt (x:qi P w H h) (e:H a=some o):a<h.objs.size:=(x a o e).lt
def qi.fresh (x:qi P w H h) (e:h.objs.size<=a):H a=none:=by
 cases q:H a with
 |none=>rfl
 |some u=>exact absurd (bh (x.lt q) e) (fU _)
def qi.kept (x:qi P w H h) (k:∀b u,h.get? b=some u->h'.get? b=some u):qi P w H h':=λa o e=>
 (x a o e).qd (λb u _ q=>k b u q) (λ_ q=>q) λ_ _ q=>q
def qi.laid (x:qi P w H h) (k:∀b u,h.get? b=some u->h'.get? b=some u) (hp:h.objs.size<=a) (new:fV P w (upd H a o) h' a o):qi P w (upd H a o) h':=λb u e=>by
 have hn:=x.fresh hp
 by_cases hb:b=a
 .subst hb;rw[aB] at e;cases e;exact new
 .rw[aV hb] at e
  exact(x b u e).qd (λc v _ q=>k c v q) (λc q=>by rw[aV (dB q hn)];exact q) λc xs q=>by rw[aV (dB q hn)];exact q
end
def Rd (H:Hp) (a:ai) (u:HO):Prop:=H a=some u\/∃o,H a=some (.BR o u)
def Rd.ok (r:Rd H a u) (x:qi P w H h):fV P w H h a u:=by
 rcases r with r|⟨o,r⟩
 .exact x a u r
 .obtain⟨_,q⟩:=x a _ r
  exact q
def SA:Option HO->Prop
 |some (.lst _)=>True
 |some (.dK _)=>True
 |some (.dT _)=>True
 |some (.set _ _)=>True
 |some (.ins _ _ _)=>True
 |some (.ext _)=>True
 |_=>False
section
variable {P:aM}{w:bB}{H:Hp}{h h':Heap}{x e:ai}{o':HO}
def qi.write (ok:qi P w H h) (mu:SA (H x)) (he:e=x\/H e=some (.own x)) (k:∀b u,b≠e->h.get? b=some u->h'.get? b=some u) (RN:∃u,h'.get? e=some u)
  (new:fV P w (upd H x o') h' x o'):qi P w (upd H x o') h':=λb u q=>by
 have SD:∀c y,H c=some (.own y)->c≠x:=λc y r z=>by subst z;rw[r] at mu;exact mu
 have WV:∀c xs,H c=some (.tup xs)->c≠x:=λc xs r z=>by subst z;rw[r] at mu;exact mu
 by_cases hb:b=x
 .subst hb;rw[aB] at q;cases q;exact new
 .rw[aV hb] at q
  by_cases Ox:b=e
  .have q':H b=some (.own x):=by
    rcases he with z|z
    .exact absurd (Ox.trans z) hb
    .rw[Ox];exact z
   rw[q] at q';cases q'
   obtain⟨v,hv⟩:=RN
   exact⟨v,by rw[Ox];exact hv⟩
  .refine(ok b u q).qd (λc v hc r=>k c v ?_ r) (λc r=>by rw[aV (SD c b r)];exact r) λc xs r=>by rw[aV (WV c xs r)];exact r
   rcases hc with rfl|hc
   .exact Ox
   .rintro rfl
    rcases he with z|z
    .exact SD c b hc z
    .rw[hc] at z;cases z;exact hb rfl
end
structure Un (fs ex:List ai) (H H':Hp) (h h':Heap):Prop where
 keep:∀b o,h.get? b=some o->H b=none->b∉fs->b∉ex->h'.get? b=some o
 slot:∀b o,h.get? b=some o->H b=none->b∈fs->b∉ex->∃sl,h'.get? b=some {o with slots:=sl}
 free:∀b o,h.get? b=some o->H b=none->b∉ex->H' b=none
 there:∀b o,h.get? b=some o->b∉ex->∃o',h'.get? b=some o'
 nz:∀b xs,H b=some (.tup xs)->H' b=some (.tup xs)
 oN:∀b o u,H b=some (.BR o u)->H' b=some (.BR o u)
 qe:∀b ps,H b=some (.Np ps)->∃more,H' b=some (.Np (ps++more))
section
variable {fs fs' ex ex':List ai}{H H1 H2:Hp}{h h1 h2 h':Heap}{a x e:ai}{o:HO}
def Un.any (u:Un fs ex H H1 h h1) (q:h.get? b=some ob) (n:H b=none) (hx:b∉ex):∃sl,h1.get? b=some {ob with slots:=sl}:=by
 by_cases hb:b∈fs
 .exact u.slot b ob q n hb hx
 .exact⟨ob.slots,u.keep b ob q n hb hx⟩
def Un.trans (a:Un fs ex H H1 h h1) (b:Un fs ex H1 H2 h1 h2):Un fs ex H H2 h h2 where
 keep:=λc ob q n hc hx=>b.keep c ob (a.keep c ob q n hc hx) (a.free c ob q n hx) hc hx
 slot:=λc ob q n hc hx=>by
  obtain⟨sl,e1⟩:=a.slot c ob q n hc hx
  obtain⟨Oy,e2⟩:=b.slot c _ e1 (a.free c ob q n hx) hc hx
  exact⟨Oy,e2⟩
 free:=λc ob q n hx=>by
  obtain⟨o',e1⟩:=a.there c ob q hx
  exact b.free c o' e1 (a.free c ob q n hx) hx
 there:=λc ob q hx=>by
  obtain⟨o',e1⟩:=a.there c ob q hx
  exact b.there c o' e1 hx
 nz:=λc xs q=>b.nz c xs (a.nz c xs q)
 oN:=λc ob xs q=>b.oN c ob xs (a.oN c ob xs q)
 qe:=λc ps q=>by
  obtain⟨m1,e1⟩:=a.qe c ps q
  obtain⟨m2,e2⟩:=b.qe c _ e1
  exact⟨m1++m2,by rw[e2,Array.append_assoc]⟩
def Un.kept (k:∀b u,h.get? b=some u->h'.get? b=some u):Un fs ex H H h h':=
 ⟨λb ob q _ _ _=>k b ob q,λb ob q _ _ _=>⟨ob.slots,k b ob q⟩,λ_ _ _ n _=>n,λb ob q _=>⟨ob,k b ob q⟩,λ_ _ q=>q,λ_ _ _ q=>q,λ_ ps q=>⟨#[],by rw[q];simp⟩⟩
def Un.refl:Un fs ex H H h h:=Un.kept λ_ _ q=>q
def Un.laid (k:∀b u,h.get? b=some u->h'.get? b=some u) (hp:h.objs.size<=a) (hn:H a=none):Un fs ex H (upd H a o) h h' where
 keep:=λb u q _ _ _=>k b u q
 slot:=λb u q _ _ _=>⟨u.slots,k b u q⟩
 free:=λb u q n _=>by rw[aV (ba (bh (aC q) hp))];exact n
 there:=λb u q _=>⟨u,k b u q⟩
 nz:=λb xs q=>by rw[aV (dB q hn)];exact q
 oN:=λb u xs q=>by rw[aV (dB q hn)];exact q
 qe:=λb ps q=>⟨#[],by rw[aV (dB q hn),q];simp⟩
def Un.write (mu:SA (H x)) (he:e=x\/H e=some (.own x)) (k:∀b u,b≠e->h.get? b=some u->h'.get? b=some u) (RN:∃u,h'.get? e=some u):Un fs ex H (upd H x o) h h':=by
 have hx:∀b,H b=none->b≠x:=λb n z=>by subst z;rw[n] at mu;exact mu
 have hb:∀b,H b=none->b≠e:=λb n z=>by
  subst z
  rcases he with r|r
  .exact hx b n r
  .rw[n] at r;cases r
 have hm:∀b u,H b=some u->¬SA (some u)->b≠x:=λb u q nm z=>by subst z;rw[q] at mu;exact nm mu
 refine⟨λb u q n _ _=>k b u (hb b n) q,λb u q n _ _=>⟨u.slots,k b u (hb b n) q⟩,λb u q n _=>by rw[aV (hx b n)];exact n,λb u q _=>?_,
  λb xs q=>by rw[aV (hm b _ q λz=>z)];exact q,λb u xs q=>by rw[aV (hm b _ q λz=>z)];exact q,λb ps q=>⟨#[],by rw[aV (hm b _ q λz=>z),q];simp⟩⟩
 by_cases Ox:b=e
 .subst Ox;exact RN
 .exact⟨u,k b u Ox q⟩
end
def uy (h:Heap) (H:Hp):List ai:=(List.range h.objs.size).filter λa=>(H a).isSome
def yN (h:Heap) (H:Hp):Heap:=PySem.W.hideAll h (uy h H)
def Fs (h:Heap) (H:Hp):(yN h H).objs.size=h.objs.size:=PySem.W.hideAll_size _ _
def Hu (e:h.get? b=some o) (n:H b=none):(yN h H).get? b=some o:=
 PySem.W.hideAll_get _ e λhm=>by
  have q:(H b).isSome=true:=(dE.mp hm).2
  rw[n] at q;simp at q
def K0 (e:(yN h H).get? b=some o):h.get? b=some o/\H b=none:=by
 have e':h.get? b=some o:=PySem.W.of_hideAll (uy h H) e
 refine⟨e',?_⟩
 cases q:H b with
 |none=>rfl
 |some x=>
  have hm:b∈uy h H:=dE.mpr ⟨qc.mpr (aC e'),by simp[q]⟩
  have z:(yN h H).get? b=none:=PySem.W.hideAll_none (uy h H) hm
  rw[z] at e;cases e
def K1 (g h:Heap) (L:ai):List (ai×Obj):=(List.range h.objs.size).filterMap λa=>if a=L\/(g.get? a).isSome=true then none else(h.get? a).map λo=>(a,o)
def rest (g h:Heap) (L d:ai):List (ai×Obj):=(K1 g h L).filter λp=>decide (p.1≠d)
structure Mod (K:Φ) (mg:Str->Option ag) (base:Heap):Prop where
 qf:K.In base
 glob:base.Ns mainGlobals mg
 blt:∃mb,base.Ns builtinsNs mb/\∀x:Str,x≠"__name__"->mb x=bootBuiltins x
 nolimit:base.NoLimit
structure Cx where
 prog:aM
 w:bB
 K:Φ
 mg:Str->Option ag
 base:Heap
 A:bG
 N:List Str
 gP:aj
 BS:Hp
 env:Env
 outer:List Env
 stack:List Env
 ex:List ai
 fn:Str->Bool
 calm:Bool
 pn:List (ai×Obj)
 xe:ag->aj->Prop
def oq (l:List Env):List ai:=l.filterMap (·.frame)
abbrev Cx.fs (X:Cx):List ai:=oq X.outer
def Wb (sc:Scope) (x:Str):Prop:=sc.names.lookup x=some .local\/sc.names.lookup x=some .cell\/sc.names.lookup x=some .free
def Loc (sc:Scope) (x:Str):Prop:=sc.names.lookup x=some .local\/sc.names.lookup x=some .cell
def Look (env:Env) (h:Heap) (m:Str->Option ag) (x:Str) (u:ag):Prop:=
 (env.kindOf x=some .local/\m x=some u)\/((env.kindOf x=some .cell\/env.kindOf x=some .free)/\∃c,env.cells.lookup x=some c/\h.IsCell c (some u))
structure Cx.Ok (X:Cx):Prop where
 mod:Mod X.K X.mg X.base
 kind:X.env.scope.kind=.function
 glob:X.env.globals=mainGlobals
 blt:X.env.builtins=builtinsNs
 above:X.gP.heap.objs.size<=X.env.locals
 inj:∀x y c,X.env.cells.lookup x=some c->X.env.cells.lookup y=some c->x=y
 has:∀x,(X.env.kindOf x=some .cell\/X.env.kindOf x=some .free)->∃c,X.env.cells.lookup x=some c
 KD:∀x c,X.fn x=true->X.env.cells.lookup x=some c->X.gP.heap.objs.size<=c
 hd:X.calm=true->X.A.handled=none
 frames:X.A.frames=some X.stack
 K2:X.stack=X.outer\/(X.stack=X.env::X.outer/\X.env.frame=some X.env.locals)
 Ft:∀b∈X.ex,b≠X.env.locals/\∀x c,X.env.cells.lookup x=some c->c≠b
 bs:∀b o,X.base.get? b=some o->X.gP.heap.get? b=some o/\X.BS b=none
 BU:X.base.objs.size<=X.gP.heap.objs.size
 xw:∀b o,X.base.get? b=some o->b∉X.ex
 uz:∀b∈X.ex,b∉X.fs
 mO:X.gP.heap.FunFrames X.base X.outer
 Eb:∀b∈X.fs,X.BS b=none
structure Inv (X:Cx) (ac:List (ai×Obj)) (Z:List (Option V)) (H:Hp) (s:aj):Prop where
 ok:X.Ok
 os:s.os=X.gP.os
 bare:AllBare s.gens
 base:Un X.fs X.ex X.BS H X.gP.heap s.heap
 loc:∃m,s.heap.Ns X.env.locals m/\∀(i:Nat) (x:Str) (v:V),X.N[i]?=some x->Z[i]?=some (some v)->Wb X.env.scope x->∃u,RelV v u/\Look X.env s.heap m x u
 cell:∀x c,X.env.cells.lookup x=some c->∃v,s.heap.IsCell c v
 free:H X.env.locals=none
 jq:∀x c,X.env.cells.lookup x=some c->H c=none
 pin:∀p∈X.pn++ac,s.heap.get? p.1=some p.2/\H p.1=none/\p.1≠X.env.locals/\p.1∉X.fs/\∀v,p.2.data≠.cell v
 eN:qi X.prog X.w H s.heap
 len:Z.length=X.N.length
section
variable {X:Cx}{ac:List (ai×Obj)}{Z:List (Option V)}{H H':Hp}{s:aj}{h':Heap}
def Cx.Ok.WW (ok:X.Ok) (e:X.base.get? b=some o):b∉X.fs:=λhb=>by
 have:=(ok.mO.mem hb).1
 rw[e] at this;cases this
def Inv.bs (I:Inv X ac Z H s):∀b o,X.base.get? b=some o->s.heap.get? b=some o/\H b=none:=λb o e=>
 ⟨I.base.keep b o (I.ok.bs b o e).1 (I.ok.bs b o e).2 (I.ok.WW e) (I.ok.xw b o e),I.base.free b o (I.ok.bs b o e).1 (I.ok.bs b o e).2 (I.ok.xw b o e)⟩
def Inv.bk (I:Inv X ac Z H s):∀b o,X.base.get? b=some o->s.heap.get? b=some o:=λb o e=>(I.bs b o e).1
def Inv.mod (I:Inv X ac Z H s):Mod X.K X.mg X.base:=I.ok.mod
def Inv.kY (I:Inv X ac Z H s):X.K.In s.heap:=I.ok.mod.qf.keeps I.bk
def Inv.lt (I:Inv X ac Z H s):X.env.locals<s.heap.objs.size:=let⟨_,hn,_⟩:=I.loc;hn.lt
def Inv.sz (I:Inv X ac Z H s):X.gP.heap.objs.size<=s.heap.objs.size:=aA I.ok.above (cR I.lt)
def Inv.WX (I:Inv X ac Z H s) (h:s.heap.objs.size<=a):a∉X.fs:=λhb=>by
 obtain⟨_,o,ho,_⟩:=I.ok.mO.mem hb
 exact absurd (bh (aC ho) (aA I.sz h)) (fU _)
def Inv.Hv (I:Inv X ac Z H s):∀x c,X.env.cells.lookup x=some c->c≠X.env.locals:=λx c e z=>by
 obtain⟨v,o,ho,hd⟩:=I.cell x c e
 obtain⟨m,⟨o',es,ep,Ak,WY,_⟩,_⟩:=I.loc
 rw[z,Ak] at ho;cases ho;rw[WY] at hd;cases hd
def Inv.mO (I:Inv X ac Z H s):s.heap.FunFrames X.base X.outer:=by
 have all:∀(l:List Env),(∀b∈oq l,b∈X.fs)->X.gP.heap.FunFrames X.base l->s.heap.FunFrames X.base l:=by
  intro l
  induction l with
  |nil=>intro _ _;trivial
  |cons env r ih=>
   intro hs hl
   obtain⟨hk,⟨L,o,hf,hn,ho,hd⟩,hr⟩:=hl
   have hL:L∈X.fs:=hs L (by unfold oq;rw[iy,hf];exact cj)
   obtain⟨sl,e⟩:=I.base.slot L o ho (I.ok.Eb L hL) hL λz=>I.ok.uz L z hL
   exact⟨hk,⟨L,_,hf,hn,e,hd⟩,ih (λb hb=>hs b (by unfold oq;rw[iy,hf];exact cu _ hb)) hr⟩
 exact all X.outer (λ_ hb=>hb) I.ok.mO
def Inv.stack (I:Inv X ac Z H s):s.heap.FunFrames X.base X.stack:=by
 rcases I.ok.K2 with e|⟨e,hf⟩
 .rw[e];exact I.mO
 .rw[e]
  obtain⟨m,hn,_⟩:=I.loc
  refine .cons (by rw[I.ok.kind];decide) hf hn ?_ I.mO
  exact BF (aA I.ok.BU I.ok.above)
def Inv.sV (I:Inv X ac Z H s):∀b∈oq X.stack,b∈X.env.locals::X.fs:=λb hb=>by
 rcases I.ok.K2 with e|⟨e,hf⟩
 .rw[e] at hb;exact cu _ hb
 .rw[e] at hb
  unfold oq at hb
  rw[iy,hf] at hb
  exact hb
def Inv.yO (I:Inv X ac Z H s):∀b∈oq X.stack,H b=none:=λb hb=>by
 rcases aD.mp (I.sV b hb) with e|hb
 .rw[e];exact I.free
 .obtain⟨_,o,ho,_⟩:=I.ok.mO.mem hb
  exact I.base.free b o ho (I.ok.Eb b hb) λz=>I.ok.uz b z hb
def Inv.step {g':Array GenState}{t':Nat}{d':Drawn}{ch:List ai}(I:Inv X ac Z H s)
  (KE:∀b∈ch,(b∈X.ex\/X.gP.heap.objs.size<=b)/\b≠X.env.locals/\(∀x c,X.env.cells.lookup x=some c->c≠b)/\∀p∈X.pn++ac,p.1≠b)
  (keep:∀b o,b≠X.env.locals->b∉X.fs->b∉ch->s.heap.get? b=some o->H b=none->h'.get? b=some o)
  (slot:∀b o,b≠X.env.locals->b∈X.fs->b∉ch->s.heap.get? b=some o->H b=none->∃sl,h'.get? b=some {o with slots:=sl}) (free:∀b o,b∉ch->s.heap.get? b=some o->H b=none->H' b=none)
  (there:∀b o,b∉ch->s.heap.get? b=some o->∃o',h'.get? b=some o')
  (nz:∀b xs,H b=some (.tup xs)->H' b=some (.tup xs)) (oN:∀b o u,H b=some (.BR o u)->H' b=some (.BR o u)) (qe:∀b ps,H b=some (.Np ps)->∃more,H' b=some (.Np (ps++more)))
  (ns:∀m,s.heap.Ns X.env.locals m->h'.Ns X.env.locals m) (eN:qi X.prog X.w H' h') (hg:AllBare g'):
  Inv X ac Z H' {s with heap:=h',gens:=g',drawn:=d',toks:=t'}:=by
 have neL:∀b o,X.gP.heap.get? b=some o->b≠X.env.locals:=λb o e=>ba (bh (aC e) I.ok.above)
 have Wc:∀b o,X.gP.heap.get? b=some o->b∉X.ex->b∉ch:=λb o e hx hb=>by
  rcases(KE b hb).1 with z|z
  .exact hx z
  .exact absurd (bh (aC e) z) (fU _)
 have cellK:∀x c,X.env.cells.lookup x=some c->∀v,s.heap.IsCell c v->h'.IsCell c v:=λx c e v ⟨o,ho,hd⟩=>by
  have SE:c∉ch:=λz=>(KE c z).2.2.1 x c e rfl
  by_cases hc:c∈X.fs
  .obtain⟨sl,q⟩:=slot c o (I.Hv x c e) hc SE ho (I.jq x c e)
   exact⟨_,q,hd⟩
  .exact⟨o,keep c o (I.Hv x c e) hc SE ho (I.jq x c e),hd⟩
 refine⟨I.ok,I.os,hg,⟨λb o e n hb hx=>?_,λb o e n hb hx=>?_,λb o e n hx=>?_,λb o e hx=>?_,λb xs e=>nz b xs (I.base.nz b xs e),λb o xs e=>oN b o xs (I.base.oN b o xs e),λb ps e=>?_⟩,?_,λx c e=>?_,?_,λx c e=>?_,λp hp=>?_,eN,I.len⟩
 .exact keep b o (neL b o e) hb (Wc b o e hx) (I.base.keep b o e n hb hx) (I.base.free b o e n hx)
 .obtain⟨sl,e1⟩:=I.base.slot b o e n hb hx
  obtain⟨Oy,e2⟩:=slot b _ (neL b o e) hb (Wc b o e hx) e1 (I.base.free b o e n hx)
  exact⟨Oy,e2⟩
 .obtain⟨o',e1⟩:=I.base.there b o e hx
  exact free b o' (Wc b o e hx) e1 (I.base.free b o e n hx)
 .obtain⟨o',e1⟩:=I.base.there b o e hx
  exact there b o' (Wc b o e hx) e1
 .obtain⟨m1,e1⟩:=I.base.qe b ps e
  obtain⟨m2,e2⟩:=qe b _ e1
  exact⟨m1++m2,by rw[e2,Array.append_assoc]⟩
 .obtain⟨m,hn,hl⟩:=I.loc
  refine⟨m,ns m hn,λi x v e1 e2 e3=>?_⟩
  obtain⟨u,r,l⟩:=hl i x v e1 e2 e3
  refine⟨u,r,?_⟩
  rcases l with l|⟨k,c,e,z⟩
  .exact .inl l
  .exact .inr ⟨k,c,e,cellK x c e _ z⟩
 .obtain⟨v,z⟩:=I.cell x c e
  exact⟨v,cellK x c e v z⟩
 .obtain⟨m,⟨o,_,_,ho,_⟩,_⟩:=I.loc
  exact free _ o (λz=>(KE _ z).2.1 rfl) ho I.free
 .obtain⟨v,o,ho,hd⟩:=I.cell x c e
  exact free c o (λz=>(KE c z).2.2.1 x c e rfl) ho (I.jq x c e)
 .obtain⟨e,n,ne,nf,d⟩:=I.pin p hp
  have SE:p.1∉ch:=λz=>(KE p.1 z).2.2.2 p hp rfl
  exact⟨keep p.1 p.2 ne nf SE e n,free p.1 p.2 SE e n,ne,nf,d⟩
def Inv.un {t':Nat}(I:Inv X ac Z H s) (u:Un X.fs [] H H' s.heap h') (eN:qi X.prog X.w H' h'):Inv X ac Z H' {s with heap:=h',toks:=t'}:=by
 obtain⟨m,⟨o,es,ep,ho,r⟩,_⟩:=id I.loc
 obtain⟨sl,hL⟩:=u.any ho I.free ς
 exact I.step (g':=s.gens) (d':=s.drawn) (ch:=[]) (λ_ z=>nomatch z) (λb o _ hb _ e n=>u.keep b o e n hb ς) (λb o _ hb _ e n=>u.slot b o e n hb ς) (λb o _ e n=>u.free b o e n ς) (λb o _ e=>u.there b o e ς) u.nz u.oN u.qe (λm' hm=>by
  obtain⟨o',We,WZ,Ak,r'⟩:=hm
  rw[ho] at Ak;cases Ak
  exact⟨_,We,WZ,hL,r'⟩) eN I.bare
def Inv.call {g':Array GenState}{t':Nat}{d':Drawn}{ch:List ai}(I:Inv X ac Z H s) (u:Un (oq X.stack) ch H H' s.heap h') (eN:qi X.prog X.w H' h') (hg:AllBare g')
  (KE:∀b∈ch,(b∈X.ex\/X.gP.heap.objs.size<=b)/\b≠X.env.locals/\(∀x c,X.env.cells.lookup x=some c->c≠b)/\∀p∈X.pn++ac,p.1≠b):
  Inv X ac Z H' {s with heap:=h',gens:=g',drawn:=d',toks:=t'}:=by
 obtain⟨m,⟨o,es,ep,ho,r⟩,_⟩:=id I.loc
 obtain⟨sl,hL⟩:=u.any ho I.free λz=>(KE _ z).2.1 rfl
 exact I.step (ch:=ch) KE (λb o hL hb hc e n=>u.keep b o e n (λz=>(aD.mp (I.sV b z)).elim hL hb) hc) (λb o _ _ hc e n=>u.any e n hc) (λb o hc e n=>u.free b o e n hc) (λb o hc e=>u.there b o e hc) u.nz u.oN u.qe (λm' hm=>by
  obtain⟨o',We,WZ,Ak,r'⟩:=hm
  rw[ho] at Ak;cases Ak
  exact⟨_,We,WZ,hL,r'⟩) eN hg
def Inv.turned {t':Nat}{it:ai}(I:Inv X ac Z H s) (k:∀b o,b≠it->s.heap.get? b=some o->h'.get? b=some o) (hn:H it=none) (hL:it≠X.env.locals)
  (h1:it∈X.ex\/X.gP.heap.objs.size<=it) (h2:∀x c,X.env.cells.lookup x=some c->c≠it) (h3:∀p∈X.pn++ac,p.1≠it):Inv X ac Z H {s with heap:=h',toks:=t'}:=by
 have RO:∀b u,H b=some u->b≠it:=λb u e z=>by rw[z,hn] at e;cases e
 refine I.step (g':=s.gens) (d':=s.drawn) (ch:=[it]) (λb hb=>?_) (λb o _ _ hc e _=>k b o (λz=>hc (by simp[z])) e) (λb o _ _ hc e _=>⟨o.slots,k b o (λz=>hc (by simp[z])) e⟩) (λ_ _ _ _ n=>n)
  (λb o hc e=>⟨o,k b o (λz=>hc (by simp[z])) e⟩) (λ_ _ e=>e) (λ_ _ _ e=>e) (λb ps e=>⟨#[],by rw[e];simp⟩) (λm hm=>?_) (λb u e=>?_) I.bare
 .have e:b=it:=by simpa using hb
  subst e
  exact⟨h1,hL,h2,h3⟩
 .obtain⟨o,es,ep,ho,r⟩:=hm
  exact⟨o,es,ep,k _ o (cD hL) ho,r⟩
 .refine(I.eN b u e).qd (λc v hc q=>k c v ?_ q) (λ_ q=>q) λ_ _ q=>q
  rcases hc with z|z
  .rw[z];exact RO b u e
  .exact RO c _ z
def Inv.tok (I:Inv X ac Z H s) (t:Nat):Inv X ac Z H {s with toks:=t}:=I.un (h':=s.heap) (t':=t) Un.refl I.eN
def Inv.kept {t':Nat}(I:Inv X ac Z H s) (k:∀b u,s.heap.get? b=some u->h'.get? b=some u):Inv X ac Z H {s with heap:=h',toks:=t'}:=I.un (Un.kept k) (I.eN.kept k)
def Inv.laid {a:ai}{o:HO}{t':Nat}(I:Inv X ac Z H s) (k:∀b u,s.heap.get? b=some u->h'.get? b=some u) (hp:s.heap.objs.size<=a) (new:fV X.prog X.w (upd H a o) h' a o):
  Inv X ac Z (upd H a o) {s with heap:=h',toks:=t'}:=I.un (Un.laid k hp (I.eN.fresh hp)) (I.eN.laid k hp new)
def Inv.write {x e:ai}{o:HO}{t':Nat}(I:Inv X ac Z H s) (mu:SA (H x)) (he:e=x\/H e=some (.own x)) (k:∀b u,b≠e->s.heap.get? b=some u->h'.get? b=some u) (RN:∃u,h'.get? e=some u)
  (new:fV X.prog X.w (upd H x o) h' x o):Inv X ac Z (upd H x o) {s with heap:=h',toks:=t'}:=I.un (Un.write mu he k RN) (I.eN.write mu he k RN new)
def Inv.Ec (I:Inv X ac Z H s) (h:∀p∈Ed,s.heap.get? p.1=some p.2/\H p.1=none/\p.1≠X.env.locals/\p.1∉X.fs/\∀v,p.2.data≠.cell v):Inv X Ed Z H s:=
 ⟨I.ok,I.os,I.bare,I.base,I.loc,I.cell,I.free,I.jq,λp hp=>(dq.mp hp).elim (λz=>I.pin p (jJ _ z)) (h p),I.eN,I.len⟩
def vz {N:List Str}(hN:N.Nodup) {i j:Nat}(a:N[i]?=some x) (b:N[j]?=some x):i=j:=by
 obtain⟨h1,e1⟩:=br.mp a
 obtain⟨h2,e2⟩:=br.mp b
 exact(List.getElem_inj hN).mp (e1.trans e2.symm)
def pO {M:Model}{A:bG}{E:ag->aj->Prop}{i:Nat}{x:Str}{v:V}{u:ag}{Q:Unit->aj->Prop}(I:Inv X ac Z H s) (hN:X.N.Nodup) (hi:X.N[i]?=some x) (hx:Loc X.env.scope x) (r:RelV v u)
  (h:∀s',Inv X ac (Z.set i (some v)) H s'->(∃a,Heap.SameBut a s.heap s'.heap/\(a=X.env.locals\/X.env.cells.lookup x=some a))->Q () s') (hf:X.fn x=true\/X.env.scope.names.lookup x=some .local:=by first|exact .inl rfl|exact .inr rfl|assumption):wpAny M A (storeName X.env x u) Q E s:=by
 obtain⟨m,hn,hl⟩:=id I.loc
 have Oz:(X.env.scope.kind== .class||(X.env.scope.kind== .module&&X.env.locals !=X.env.globals))=false:=by rw[I.ok.kind];rfl
 have Fu:i<Z.length:=by rw[I.len];exact(br.mp hi).1
 have Hv:=I.Hv
 have tracked:∀{a:ai} {h':Heap},(∃o,s.heap.get? a=some o/\H a=none)->Heap.SameBut a s.heap h'->qi X.prog X.w H h':=λ{a h'} ha hs b ob e=>by
  obtain⟨_,_,Ee⟩:=ha
  refine(I.eN b ob e).qd (λc w' hc q=>(hs.2 c ?_).trans q) (λ_ q=>q) λ_ _ q=>q
  rintro rfl
  rcases hc with rfl|hc
  .rw[Ee] at e;cases e
  .rw[Ee] at hc;cases hc
 rcases hx with hk|hk
 .refine wpAny_storeName_local hk hn (λh' Wf hs=>?_) Oz
  obtain⟨oL,_,_,hoL,_⟩:=id hn
  refine h _ ⟨I.ok,I.os,I.bare,⟨λb o e n hb hx=>?_,λb o e n hb hx=>?_,I.base.free,λb o e hx=>?_,I.base.nz,I.base.oN,I.base.qe⟩,⟨_,Wf,λj y v' e1 e2 e3=>?_⟩,λy c e=>?_,I.free,I.jq,λp hp=>?_,tracked ⟨oL,hoL,I.free⟩ hs,by simpa using I.len⟩ ⟨_,hs,.inl rfl⟩
  .exact(hs.2 b (ba (bh (aC e) I.ok.above))).trans (I.base.keep b o e n hb hx)
  .obtain⟨sl,e1⟩:=I.base.slot b o e n hb hx
   exact⟨sl,(hs.2 b (ba (bh (aC e) I.ok.above))).trans e1⟩
  .obtain⟨o',e1⟩:=I.base.there b o e hx
   exact⟨o',(hs.2 b (ba (bh (aC e) I.ok.above))).trans e1⟩
  .by_cases hj:j=i
   .subst hj
    rw[hi] at e1;cases e1
    rw[lM Fu] at e2
    cases e2
    exact⟨u,r,.inl ⟨hk,ς⟩⟩
   .rw[nh (cD hj)] at e2
    obtain⟨u',r',q⟩:=hl j y v' e1 e2 e3
    refine⟨u',r',?_⟩
    rcases q with⟨k,e⟩|⟨k,c,e,z⟩
    .refine .inl ⟨k,?_⟩
     have:y≠x:=λe=>hj (vz hN e1 (e▸hi))
     simp[this,e]
    .exact .inr ⟨k,c,e,z.sameBut hs (Hv y c e)⟩
  .obtain⟨w',z⟩:=I.cell y c e
   exact⟨w',z.sameBut hs (Hv y c e)⟩
  .obtain⟨e,n,ne,nf,d⟩:=I.pin p hp
   exact⟨(hs.2 p.1 ne).trans e,n,ne,nf,d⟩
 .have OC:X.fn x=true:=by
   rcases hf with z|z
   .exact z
   .rw[z] at hk;cases hk
  obtain⟨c,hc⟩:=I.ok.has x (.inl hk)
  obtain⟨w',z⟩:=I.cell x c hc
  refine wpAny_storeName_cell I.ok.kind hk hc z (λh' zY hs=>?_)
  obtain⟨oc,SG,W2⟩:=id z
  refine h {s with heap:=h'} ⟨I.ok,I.os,I.bare,⟨λb o e n hb hx=>?_,λb o e n hb hx=>?_,I.base.free,λb o e hx=>?_,I.base.nz,I.base.oN,I.base.qe⟩,⟨m,hn.sameBut hs (cD (Hv x c hc)),λj y v' e1 e2 e3=>?_⟩,λy c' e=>?_,I.free,I.jq,λp hp=>?_,tracked ⟨oc,SG,I.jq x c hc⟩ hs,by simpa using I.len⟩ ⟨c,hs,.inr hc⟩
  .exact(hs.2 b (ba (bh (aC e) (I.ok.KD x c OC hc)))).trans (I.base.keep b o e n hb hx)
  .obtain⟨sl,e1⟩:=I.base.slot b o e n hb hx
   exact⟨sl,(hs.2 b (ba (bh (aC e) (I.ok.KD x c OC hc)))).trans e1⟩
  .obtain⟨o',e1⟩:=I.base.there b o e hx
   exact⟨o',(hs.2 b (ba (bh (aC e) (I.ok.KD x c OC hc)))).trans e1⟩
  .by_cases hj:j=i
   .subst hj
    rw[hi] at e1;cases e1
    rw[lM Fu] at e2
    cases e2
    exact⟨u,r,.inr ⟨.inl hk,c,hc,zY⟩⟩
   .rw[nh (cD hj)] at e2
    obtain⟨u',r',q⟩:=hl j y v' e1 e2 e3
    refine⟨u',r',?_⟩
    rcases q with q|⟨k,c',e,z'⟩
    .exact .inl q
    .refine .inr ⟨k,c',e,z'.sameBut hs ?_⟩
     rintro rfl
     exact hj (vz hN e1 (I.ok.inj _ _ _ e hc▸hi))
  .by_cases SH:c'=c
   .subst SH;exact⟨_,zY⟩
   .obtain⟨w2,z2⟩:=I.cell y c' e
    exact⟨w2,z2.sameBut hs SH⟩
  .obtain⟨e,n,ne,nf,d⟩:=I.pin p hp
   refine⟨(hs.2 p.1 ?_).trans e,n,ne,nf,d⟩
   intro q
   rw[q,SG] at e
   have q':oc=p.2:=cM e
   exact d w' (by rw[<-q'];exact W2)
def kZ (I:Inv X ac Z H s) (hN:X.N.Nodup) (hi:X.N[i]?=some x) (hx:Loc X.env.scope x) (r:RelV v u)
  (h:∀s',Inv X ac (Z.set i (some v)) H s'->Q () s') (hf:X.fn x=true\/X.env.scope.names.lookup x=some .local:=by first|exact .inl rfl|exact .inr rfl|assumption):wpAny M A (storeName X.env x u) Q E s:=
 pO I hN hi hx r (λs' I' _=>h s' I') hf
def Inv.Hw {s':aj}{ch:List ai}(I:Inv X ac Z H s) (ho:s'.os=s.os) (u:Un (oq X.stack) ch H H' s.heap s'.heap) (eN:qi X.prog X.w H' s'.heap) (hg:AllBare s'.gens)
  (KE:∀b∈ch,(b∈X.ex\/X.gP.heap.objs.size<=b)/\b≠X.env.locals/\(∀x c,X.env.cells.lookup x=some c->c≠b)/\∀p∈X.pn++ac,p.1≠b):Inv X ac Z H' s':=by
 obtain⟨h',g',d',t',o'⟩:=s'
 have e:o'=s.os:=ho
 subst e
 exact I.call (g':=g') (t':=t') (d':=d') u eN hg KE
end
abbrev XK:=ag->Option ai->Hp->Prop
abbrev St:=List (Option V)
abbrev VK:=V->Hp->Prop
abbrev TE:=St->Hp->VK->Prop
abbrev TT:=St->Hp->(Bool->Hp->Prop)->Prop
abbrev TA:=St->Hp->(List V->Hp->Prop)->Prop
structure Ends where
 nx:St->Hp->Prop
 rt:VK
 bk:St->Hp->Prop:=λ_ _=>False
 ct:St->Hp->Prop:=λ_ _=>False
abbrev TS:=Ends->St->Hp->Prop
def EP (X:Cx) (ac:List (ai×Obj)) (Z:St) (Q:VK) (u:ag) (s':aj):Prop:=∃v H',Inv X ac Z H' s'/\RelV v u/\Q v H'
def TP (X:Cx) (ac:List (ai×Obj)) (Z:St) (Q:Bool->Hp->Prop) (b:Bool) (s':aj):Prop:=∃H',Inv X ac Z H' s'/\Q b H'
def AP (X:Cx) (ac:List (ai×Obj)) (Z:St) (Q:List V->Hp->Prop) (us:List ag) (s':aj):Prop:=∃vs H',Inv X ac Z H' s'/\cz vs us/\Q vs H'
def SP (X:Cx) (ac:List (ai×Obj)) (D:Ends) (f:Flow) (s':aj):Prop:=
 match f with
 | .next=>∃bX H',Inv X ac bX H' s'/\D.nx bX H'
 | .brk=>∃bX H',Inv X ac bX H' s'/\D.bk bX H'
 | .cont=>∃bX H',Inv X ac bX H' s'/\D.ct bX H'
 | .ret u=>∃v bX H',Inv X ac bX H' s'/\RelV v u/\D.rt v H'
def PE (X:Cx) (e:Expr) (t:TE):Prop:=
 ∀(ac:List (ai×Obj)) (s:aj) (Z:St) (H:Hp) (Q:VK),Inv X ac Z H s->t Z H Q->wpAny (model X.prog X.w) X.A (eval e X.env) (EP X ac Z Q) X.xe s
def PT (X:Cx) (e:Expr) (t:TT):Prop:=
 ∀(ac:List (ai×Obj)) (s:aj) (Z:St) (H:Hp) (Q:Bool->Hp->Prop),Inv X ac Z H s->t Z H Q->wpAny (model X.prog X.w) X.A (isTrue e X.env (eval e X.env)) (TP X ac Z Q) X.xe s
def PW (X:Cx) (e:Expr) (t:TT):Prop:=
 ∀(whole:Sem ag) (ac:List (ai×Obj)) (s:aj) (Z:St) (H:Hp) (Q:Bool->Hp->Prop),Inv X ac Z H s->t Z H Q->wpAny (model X.prog X.w) X.A (isTrue e X.env whole) (TP X ac Z Q) X.xe s
def PW.pt (h:PW X e t):PT X e t:=h _
def PA (X:Cx) (es:List Expr) (t:TA):Prop:=
 ∀(pos:Pos) (ac:List (ai×Obj)) (s:aj) (Z:St) (H:Hp) (Q:List V->Hp->Prop),Inv X ac Z H s->t Z H Q->wpAny (model X.prog X.w) X.A (spliced (backTo pos (starEach es X.env))) (AP X ac Z Q) X.xe s
def PS (X:Cx) (st:Stmt) (t:TS):Prop:=
 ∀(ac:List (ai×Obj)) (s:aj) (Z:St) (H:Hp) (D:Ends),Inv X ac Z H s->t D Z H->wpAny (model X.prog X.w) X.A (exec st X.env) (SP X ac D) X.xe s
def xx (X:Cx) (st:List Stmt) (t:TS):Prop:=
 ∀(ac:List (ai×Obj)) (s:aj) (Z:St) (H:Hp) (D:Ends),Inv X ac Z H s->t D Z H->wpAny (model X.prog X.w) X.A (execs st X.env) (SP X ac D) X.xe s
def fq {α:Type}{t:Sem α}{Q Q':α->aj->Prop}{M:Model}{A:bG}{E:ag->aj->Prop}{s:aj}(h:wpAny M A t Q E s) (hQ:∀a s,Q a s->Q' a s):wpAny M A t Q' E s:=bM h hQ λ_ _ x=>x
section
variable {X:Cx}
def b_ (i:Nat):TE:=λZ H Q=>∃v,Z[i]?=some (some v)/\Q v H
def tC (v:V):TE:=λ_ H Q=>Q v H
def OD (hN:X.N[i]?=some x) (hv:Wb X.env.scope x) (hd:(x==("__debug__":Str))=false:=by decide) (BV:(x==("__classdict__":Str))=false:=by decide):PE X (.Name x pos) (b_ i):=by
 intro ac s Z H Q I h
 obtain⟨v,e,h⟩:=h
 obtain⟨m,hn,hl⟩:=I.loc
 obtain⟨u,r,l⟩:=hl i x v hN e hv
 have fin:EP X ac Z Q u s:=⟨v,H,I,r,h⟩
 rcases l with⟨hk,hm⟩|⟨hk,c,hc,Nq⟩
 .exact wpAny_Name (wpAny_loadName_local I.ok.kind hk hn hm fin) hd
 .rcases hk with hk|hk
  .exact wpAny_Name (wpAny_loadName_cell I.ok.kind hk hc Nq fin) hd
  .exact wpAny_Name (wpAny_loadName_free I.ok.kind hk hc Nq fin BV) hd
def ao {i j pos}:PE X (.Constant (.int i) j pos) (tC (.int i)):=λ_ _ _ H _ I h=>wpAny_Constant_int ⟨.int i,H,I.tok _,⟨_,rfl⟩,h⟩
def nS {b j pos}:PE X (.Constant (.bool b) j pos) (tC (.bl b)):=λ_ _ _ H _ I h=>Constant_bool ⟨.bl b,H,I,rfl,h⟩
def jg {j pos}:PE X (.Constant .none j pos) (tC .eK):=λ_ _ _ H _ I h=>Constant_none ⟨.eK,H,I,rfl,h⟩
def aW {x j pos}:PE X (.Constant (.str x) j pos) (tC (.str x)):=λ_ _ _ H _ I h=>Calls.Constant_str ⟨.str x,H,I.tok _,⟨_,rfl⟩,h⟩
def Gl (X:Cx) (x:Str):Prop:=X.env.kindOf x=some .globalImplicit
def jy (I:Inv X ac Z H s) (hg:Gl X x) (hm:X.mg x=some u) (h:Q u s)
  (hd:(x==("__debug__":Str))=false:=by decide):wpAny (model X.prog X.w) X.A (eval (.Name x pos) X.env) Q E s:=
 Calls.Name_function_global I.ok.kind hg (Calls.loadGlobal_global (by rw[I.ok.glob];exact I.mod.glob.keeps I.bk) hm h) hd
def qv (I:Inv X ac Z H s) (hg:Gl X x) (hm:X.mg x=none) (hv:bootBuiltins x=some u) (h:Q u s)
  (hn:x≠"__name__":=by decide) (hd:(x==("__debug__":Str))=false:=by decide):wpAny (model X.prog X.w) X.A (eval (.Name x pos) X.env) Q E s:=by
 obtain⟨mb,h1,h2⟩:=I.mod.blt
 exact Calls.Name_function_global I.ok.kind hg (Calls.loadGlobal_builtin (by rw[I.ok.glob];exact I.mod.glob.keeps I.bk) hm (by rw[I.ok.blt];exact h1.keeps I.bk) ((h2 x hn).trans hv) h) hd
def fY {x:Str}{v:V}{u:ag}{pos:Pos}(hg:Gl X x) (hm:X.mg x=some u) (r:RelV v u) (hd:(x==("__debug__":Str))=false:=by decide):PE X (.Name x pos) (tC v):=
 λ_ _ _ H _ I h=>jy I hg hm ⟨v,H,I,r,h⟩ hd
def gQ (hg:Gl X x) (hm:X.mg x=none) (hv:bootBuiltins x=some u) (r:RelV v u) (hn:x≠"__name__":=by decide) (hd:(x==("__debug__":Str))=false:=by decide):PE X (.Name x pos) (tC v):=
 λ_ _ _ H _ I h=>qv I hg hm hv ⟨v,H,I,r,h⟩ hn hd
def t2I (ta tb:TE) (k:Int->Int->Hp->Prop):St->Hp->Prop:=λZ H=>ta Z H λx H1=>tb Z H1 λy H2=>∃i j,x=.int i/\y=.int j/\k i j H2
def K3 (ta tb:TE):TE:=λZ H Q=>t2I ta tb (λi j H2=>Q (.int (i-j)) H2) Z H
variable {a b:Expr}{ta tb:TE}{pos:Pos}
def tB (t:TE):TT:=λZ H Q=>t Z H λx H1=>∃c,x=.bl c/\Q c H1
def fM {e:Expr}{t:TE}(h:PE X e t) (he:∀whole,isTrue e X.env whole=(do let v<-whole;standAt e.pos;holding [v] (truthy v)):=by intro _;rfl):PT X e (tB t):=by
 intro ac s Z H Q I hw
 refine isTrue_plain (fq (h ac s Z H _ I hw) λv s1 cZ=>?_) (he _)
 obtain⟨x,H1,I1,r1,q1⟩:=cZ
 obtain⟨d,rfl,q⟩:=q1
 cases r1
 exact ek ⟨H1,I1,q⟩
variable {tA Wg:TT}{rest:List Expr}
def W7 (t u:TT):TT:=λZ H Q=>t Z H λc H1=>if c=true then u Z H1 Q else Q false H1
def tOr (t u:TT):TT:=λZ H Q=>t Z H λc H1=>if c=true then Q true H1 else u Z H1 Q
def W8 (t:TT):TT:=λZ H Q=>t Z H λc H1=>Q (!c) H1
def Ef (ha:PT X a tA):PW X (.BoolOp .And [a] pos) tA:=by
 intro wh ac s Z H Q I h
 refine isTrue_and (fq (ha ac s Z H Q I h) λc s1 e=>?_)
 cases c with
 |true=>exact isTrue_and_nil e
 |false=>exact e
def mf (ha:PT X a tA):PW X (.BoolOp .Or [a] pos) tA:=by
 intro wh ac s Z H Q I h
 refine isTrue_or (fq (ha ac s Z H Q I h) λc s1 e=>?_)
 cases c with
 |false=>exact isTrue_or_nil e
 |true=>exact e
def BW (ha:PT X a tA) (hb:PW X (.BoolOp .And (b::rest) pos) Wg):PW X (.BoolOp .And (a::b::rest) pos) (W7 tA Wg):=by
 intro wh ac s Z H Q I h
 refine isTrue_and (fq (ha ac s Z H _ I h) λc s1 cZ=>?_)
 obtain⟨H1,I1,q1⟩:=cZ
 cases c with
 |true=>exact hb wh ac s1 Z H1 Q I1 q1
 |false=>exact⟨H1,I1,q1⟩
def k_ (ha:PT X a tA) (hb:PW X (.BoolOp .Or (b::rest) pos) Wg):PW X (.BoolOp .Or (a::b::rest) pos) (tOr tA Wg):=by
 intro wh ac s Z H Q I h
 refine isTrue_or (fq (ha ac s Z H _ I h) λc s1 cZ=>?_)
 obtain⟨H1,I1,q1⟩:=cZ
 cases c with
 |true=>exact⟨H1,I1,q1⟩
 |false=>exact hb wh ac s1 Z H1 Q I1 q1
def fO (ha:PT X a tA):PT X (.UnaryOp .Not a pos) (W8 tA):=by
 intro ac s Z H Q I h
 exact isTrue_not (ha ac s Z H (λc H1=>Q (!c) H1) I h)
def SI (ta tb:TE):TE:=λZ H Q=>ta Z H λx H1=>∃c,x=.bl c/\if c=true then tb Z H1 Q else Q (.bl false) H1
def SJ (ta:TE):TE:=λZ H Q=>ta Z H λx H1=>∃c,x=.bl c/\Q (.bl (!c)) H1
def mh {op}(h:PE X a t):PE X (.BoolOp op [a] pos) t:=λac s Z H Q I hw=>BoolOp_one (h ac s Z H Q I hw)
def jR (ha:PE X a ta) (hb:PE X (.BoolOp .And (b::rest) pos) tb):PE X (.BoolOp .And (a::b::rest) pos) (SI ta tb):=by
 intro ac s Z H Q I h
 refine BoolOp_and (fq (ha ac s Z H _ I h) λv s1 cZ=>?_)
 obtain⟨x,H1,I1,r1,q1⟩:=cZ
 obtain⟨c,rfl,q1⟩:=q1
 cases r1
 refine ek ?_
 cases c with
 |true=>exact hb ac s1 Z H1 Q I1 q1
 |false=>exact⟨.bl false,H1,I1,rfl,q1⟩
def BX (ha:PE X a ta):PE X (.UnaryOp .Not a pos) (SJ ta):=by
 intro ac s Z H Q I h
 refine UnaryOp_ (fq (ha ac s Z H _ I h) λv s1 cZ=>?_)
 obtain⟨x,H1,I1,r1,q1⟩:=cZ
 obtain⟨c,rfl,q1⟩:=q1
 cases r1
 exact not_of (ek ⟨.bl (!c),H1,I1,rfl,q1⟩)
def W9 (t:TT) (ta tb:TE):TE:=λZ H Q=>t Z H λc H1=>if c=true then ta Z H1 Q else tb Z H1 Q
def oO (hc:PT X c tA) (ha:PE X a ta) (hb:PE X b tb):PE X (.IfExp c a b pos) (W9 tA ta tb):=by
 intro ac s Z H Q I h
 refine wpAny_IfExp (fq (hc ac s Z H _ I h) λd s1 cZ=>?_)
 obtain⟨H1,I1,q1⟩:=cZ
 cases d with
 |true=>exact ha ac s1 Z H1 Q I1 q1
 |false=>exact hb ac s1 Z H1 Q I1 q1
end
def cT (K:Φ) (H:Hp) (a:ai) (xs:List V):Prop:=
 Rd H a (.lst xs)\/
  ∃(o:Obj) (cF:Array ag) (n:Nat),K.lookup a=some o/\o.cls=.type "list"/\o.dict=none/\o.data=.seq cF n/\cF.size<=sizeLine/\cz xs cF.toList
def bZ (K:Φ) (H:Hp) (a:ai) (xs:List V):Prop:=
 Rd H a (.tup xs)\/
  ∃(o:Obj) (cF:Array ag) (n:Nat),K.lookup a=some o/\o.cls=.type "tuple"/\o.data=.seq cF n/\cF.size<=sizeLine/\cz xs cF.toList
def W_:ag->Option V
 | .none=>some .eK
 | .bool b=>some (.bl b)
 | .int i _=>some (.int i)
 | .str x _=>some (.str x)
 | .bytes b _=>some (.Ea b)
 | .float b _=>some (.Ow b)
 | .ref a=>some (.ref a)
 | .type n=>some (.ty n)
 |_=>none
def RelV.abs (r:RelV x u):W_ u=some x:=by
 cases x with
 |eK=>cases r;rfl
 |bl _=>cases r;rfl
 |int _=>obtain⟨t,rfl⟩:=r;rfl
 |str _=>obtain⟨t,rfl⟩:=r;rfl
 |Ea _=>obtain⟨t,rfl⟩:=r;rfl
 |Ow _=>obtain⟨t,rfl⟩:=r;rfl
 |ref _=>cases r;rfl
 |ty _=>cases r;rfl
def RelV.inj (r:RelV x u) (q:RelV y u):x=y:=cM (r.abs.symm.trans q.abs)
def cz.inj (h:cz xs us) (h':cz ys us):xs=ys:=by
 induction h generalizing ys with
 |nil=>cases h';rfl
 |cons r _ ih=>cases h' with
  |cons r' t'=>rw[r.inj r',ih t']
section
variable {X:Cx}{ac:List (ai×Obj)}{Z:St}{H:Hp}{s:aj}{a:ai}{xs ys:List V}
def cT.of {K:Φ}(h:H a=some (.lst xs)):cT K H a xs:=.inl (.inl h)
def bZ.of {K:Φ}(h:H a=some (.tup xs)):bZ K H a xs:=.inl (.inl h)
def Inv.list (I:Inv X ac Z H s) (h:cT X.K H a xs):∃cF:List ag,cz xs cF/\PlainL s.heap a cF.toArray/\xs.length<=sizeLine:=by
 rcases h with h|⟨o,cF,n,hk,hc,hd,hs,hz,r⟩
 .obtain⟨z,cF,n,r,e⟩:=h.ok I.eN
  exact⟨cF,r,⟨_,n,e,rfl,rfl,rfl⟩,z⟩
 .refine⟨cF.toList,r,⟨o,n,I.kY a o hk,hc,hd,by simpa using hs⟩,?_⟩
  have e:=r.length
  simp only[gu] at e
  omega
def Inv.tuple (I:Inv X ac Z H s) (h:bZ X.K H a xs):∃cF:List ag,cz xs cF/\IsTup s.heap a cF.toArray/\xs.length<=sizeLine:=by
 rcases h with h|⟨o,cF,n,hk,hc,hs,hz,r⟩
 .obtain⟨z,cF,r,p⟩:=h.ok I.eN
  exact⟨cF,r,p.isTup,z⟩
 .refine⟨cF.toList,r,⟨o,I.kY a o hk,hc,n,by simpa using hs⟩,?_⟩
  have e:=r.length
  simp only[gu] at e
  omega
def Inv.rz (I:Inv X ac Z H s) (h:cT X.K H a xs) (h':cT X.K H a ys):xs=ys:=by
 obtain⟨cF,r,⟨o,n,e,_,_,d⟩,_⟩:=I.list h
 obtain⟨its',r',⟨o',n',e',_,_,d'⟩,_⟩:=I.list h'
 rw[e] at e';cases e'
 rw[d] at d'
 injection d' with d1 _
 have:cF=its':=by simpa using iD Array.toList d1
 subst this
 exact r.inj r'
def Inv.sW (I:Inv X ac Z H s) (h:bZ X.K H a xs) (h':bZ X.K H a ys):xs=ys:=by
 obtain⟨cF,r,⟨o,e,_,n,d⟩,_⟩:=I.tuple h
 obtain⟨its',r',⟨o',e',_,n',d'⟩,_⟩:=I.tuple h'
 rw[e] at e';cases e'
 rw[d] at d'
 injection d' with d1 _
 have:cF=its':=by simpa using iD Array.toList d1
 subst this
 exact r.inj r'
end
abbrev Cx.vA (X:Cx) (E:ag->aj->Prop):Cx:={X with xe:=E}
abbrev Cx.lg (X:Cx):Cx:=X.vA λ_ _=>False
def Cx.Ok.vA {X:Cx}(ok:X.Ok) (E:ag->aj->Prop):(X.vA E).Ok:=
 ⟨ok.mod,ok.kind,ok.glob,ok.blt,ok.above,ok.inj,ok.has,ok.KD,ok.hd,ok.frames,ok.K2,ok.Ft,ok.bs,ok.BU,ok.xw,ok.uz,ok.mO,ok.Eb⟩
def Cx.Ok.nA {X:Cx}(ok:(X.vA E).Ok):X.Ok:=
 ⟨ok.mod,ok.kind,ok.glob,ok.blt,ok.above,ok.inj,ok.has,ok.KD,ok.hd,ok.frames,ok.K2,ok.Ft,ok.bs,ok.BU,ok.xw,ok.uz,ok.mO,ok.Eb⟩
section
variable {X:Cx}{ac:List (ai×Obj)}{Z:St}{H:Hp}{s:aj}{E:ag->aj->Prop}
def Inv.vA (I:Inv X ac Z H s) (E:ag->aj->Prop):Inv (X.vA E) ac Z H s:=⟨I.ok.vA E,I.os,I.bare,I.base,I.loc,I.cell,I.free,I.jq,I.pin,I.eN,I.len⟩
def Inv.nA (I:Inv (X.vA E) ac Z H s):Inv X ac Z H s:=⟨I.ok.nA,I.os,I.bare,I.base,I.loc,I.cell,I.free,I.jq,I.pin,I.eN,I.len⟩
def SP.nA (h:SP (X.vA E) ac D f s'):SP X ac D f s':=by
 cases f with
 |next=>obtain⟨bX,H',I,q⟩:=h;exact⟨bX,H',I.nA,q⟩
 |brk=>obtain⟨bX,H',I,q⟩:=h;exact⟨bX,H',I.nA,q⟩
 |cont=>obtain⟨bX,H',I,q⟩:=h;exact⟨bX,H',I.nA,q⟩
 |ret u=>obtain⟨v,bX,H',I,r,q⟩:=h;exact⟨v,bX,H',I.nA,r,q⟩
def xx.lg {st:List Stmt}(h:xx X.lg st t):xx X st t:=λac s Z H D I hw=>
 bM (h ac s Z H D (I.vA _) hw) (λ_ _ q=>q.nA) λ_ _ z=>False.elim z
end
section
variable {X:Cx}{st:Stmt}{rest:List Stmt}{t u:TS}{e:Expr}{te:TE}{pos:Pos}
def Nr:TS:=λD Z H=>D.nx Z H
def vB (t u:TS):TS:=λD Z H=>t {D with nx:=u D} Z H
def bN:xx X [] Nr:=λ_ _ Z H _ I h=>zU ⟨Z,H,I,h⟩
def au (h1:PS X st t) (h2:xx X rest u):xx X (st::rest) (vB t u):=by
 intro ac s Z H D I h
 refine wpAny_execs_cons (fq (h1 ac s Z H {D with nx:=u D} I h) λf s1 q=>?_)
 cases f with
 |next=>
  obtain⟨bX,H',I',q⟩:=q
  exact h2 ac s1 bX H' D I' q
 |ret v=>exact q
 |brk=>exact q
 |cont=>exact q
def aF (h1:PS X st t):xx X [st] t:=by
 intro ac s Z H D I h
 refine wpAny_execs_cons (fq (h1 ac s Z H D I h) λf s1 q=>?_)
 cases f with
 |next=>exact zU q
 |ret v=>exact q
 |brk=>exact q
 |cont=>exact q
def Inv.quiet {ac:List (ai×Obj)}{Z:St}{H:Hp}{s:aj}(I:Inv X ac Z H s):interactive X.env=false:=by simp[interactive,I.ok.kind]
def SK (te:TE):TS:=λD Z H=>te Z H λ_ H1=>D.nx Z H1
def gA (he:PE X e te) (hs:swapsWith e none pos.line X.env=pure false:=by rfl):PS X (.Expr e pos) (SK te):=by
 intro ac s Z H D I h
 refine wpAny_Expr_any (fq (he ac s Z H _ I h) λv s1 cZ=>?_) I.quiet hs
 obtain⟨x,H1,I1,r1,q1⟩:=cZ
 exact⟨Z,H1,I1,q1⟩
def K4 (te:TE):TS:=λD Z H=>te Z H D.rt
def bH (he:PE X e te):PS X (.Return (some e) pos) (K4 te):=by
 intro ac s Z H D I h
 refine wpAny_Return_some (fq (he ac s Z H _ I h) λv s1 cZ=>?_)
 obtain⟨x,H1,I1,r1,q1⟩:=cZ
 exact⟨x,Z,H1,I1,r1,q1⟩
def xy (c:TT) (t u:TS):TS:=λD Z H=>c Z H λb H1=>if b=true then t D Z H1 else u D Z H1
def cQ (hc:PT X c tc) (ha:xx X a t) (hb:xx X b u):PS X (.If c a b pos) (xy tc t u):=by
 intro ac s Z H D I h
 refine wpAny_If (fq (hc ac s Z H _ I h) λd s1 cZ=>?_)
 obtain⟨H1,I1,q1⟩:=cZ
 cases d with
 |true=>exact ha ac s1 Z H1 D I1 q1
 |false=>exact hb ac s1 Z H1 D I1 q1
def OE:TS:=λ_ _ _=>False
def mP:xx X sts OE:=λ_ _ _ _ _ _ h=>h.elim
end
abbrev TG:=V->St->Hp->(St->Hp->Prop)->Prop
abbrev RP:=List V->St->Hp->(St->Hp->Prop)->Prop
def PG (X:Cx) (target:Expr) (t:TG):Prop:=
 ∀(ac:List (ai×Obj)) (s:aj) (Z:St) (H:Hp) (v:V) (u:ag) (Q:St->Hp->Prop),Inv X ac Z H s->RelV v u->t v Z H Q->
  wpAny (model X.prog X.w) X.A (assign target X.env u) (λ_ s'=>∃bX H',Inv X ac bX H' s'/\Q bX H') X.xe s
def SM (X:Cx) (ts:List Expr) (t:RP):Prop:=
 ∀(ac:List (ai×Obj)) (s:aj) (Z:St) (H:Hp) (vs:List V) (us:List ag) (Q:St->Hp->Prop),Inv X ac Z H s->cz vs us->t vs Z H Q->
  wpAny (model X.prog X.w) X.A (assignInOrder ((assignEach ts X.env).map (·.2)) us) (λ_ s'=>∃bX H',Inv X ac bX H' s'/\Q bX H') X.xe s
abbrev K5:=V->V->V->Hp->(Hp->Prop)->Prop
def OF (X:Cx) (t:K5):Prop:=
 ∀(ac:List (ai×Obj)) (s:aj) (Z:St) (H:Hp) (o i v:V) (ov iv u:ag) (Q:Hp->Prop),Inv X ac Z H s->RelV o ov->RelV i iv->RelV v u->t o i v H Q->
  wpAny (model X.prog X.w) X.A (setItem ov iv u) (λ_ s'=>∃H',Inv X ac Z H' s'/\Q H') X.xe s
section
variable {X:Cx}{pos:Pos}
def dI (i:Nat):TG:=λv Z H Q=>Q (Z.set i (some v)) H
def aZ (hN:X.N.Nodup) (hi:X.N[i]?=some x:=by rfl) (hx:Loc X.env.scope x:=by exact Or.inl rfl) (hf:X.fn x=true\/X.env.scope.names.lookup x=some .local:=by first|exact .inl rfl|exact .inr rfl|assumption):PG X (.Name x pos) (dI i):=by
 intro ac s Z H v u Q I r h
 exact wpAny_assign_Name (kZ I hN hi hx r (λs' I'=>⟨_,H,I',h⟩) hf)
def Al:RP:=λvs Z H Q=>vs=[]/\Q Z H
def kD (t:TG) (u:RP):RP:=λvs Z H Q=>∃v r,vs=v::r/\t v Z H λbX H'=>u r bX H' Q
def eZ:SM X [] Al:=by
 intro ac s Z H vs us Q I r h
 obtain⟨e,h⟩:=h
 subst e
 cases r
 exact assignInOrder_nil ⟨Z,H,I,h⟩
def bz (h1:PG X e t) (h2:SM X es u)
  (hs:(assignEach (e::es) X.env).map (·.2)=assign e X.env::(assignEach es X.env).map (·.2):=by rfl):SM X (e::es) (kD t u):=by
 intro ac s Z H vs us Q I r h
 obtain⟨v,vr,e1,h⟩:=h
 subst e1
 cases r with
 |cons r rr=>
  rw[hs]
  refine kh (fq (h1 ac s Z H _ _ _ I r h) λ_ s1 cZ=>?_)
  obtain⟨RQ,H1,I1,q1⟩:=cZ
  exact h2 ac s1 RQ H1 _ _ Q I1 rr q1
def Fv (K:Φ) (n:Nat) (t:RP):TG:=λv Z H Q=>∃a xs,v=.ref a/\bZ K H a xs/\xs.length=n/\t xs Z H Q
def gg (hc:X.calm=true) (h:SM X es t)
  (hn:(assignEach es X.env).length=n:=by rfl) (Fw:(assignEach es X.env).findIdx? (·.1)=none:=by rfl):PG X (.Tuple es k pos) (Fv X.K n t):=by
 intro ac s Z H v u Q I r hw
 obtain⟨a,xs,e1,hq,hl,hw⟩:=hw
 subst e1
 cases r
 obtain⟨cF,rv,ht,hz⟩:=I.tuple hq
 refine assign_Tuple_tuple (I.ok.hd hc) ht (by simp[hn,<-hl,rv.length]) Fw λh' hx=>?_
 have I1:Inv X ac Z H {s with heap:=h'}:=I.kept (t':=s.toks) λb o e=>hx b o (ba (aC e)) e
 exact h ac _ Z H xs _ Q I1 (by simpa using rv) hw
def K6 (to ti:TE) (t:K5):TG:=λv Z H Q=>to Z H λo H1=>ti Z H1 λi H2=>t o i v H2 λH3=>Q Z H3
def oQ {o i:Expr}{to ti:TE}{t:K5}(ho:PE X o to) (hi:PE X i ti) (hs:OF X t)
  (ha:∀v,assign (.Subscript o i pos) X.env v=(do
   let ov<-holding [v] (eval o X.env)
   let iv<-holding [v,ov] (eval i X.env)
   standAt pos
   holding [v,ov,iv] (setItem ov iv v)
   release [v,ov,iv] []):=by intro _;rfl):PG X (.Subscript o i pos) (K6 to ti t):=by
 intro ac s Z H v u Q I r h
 rw[ha]
 refine aa (cO (fq (ho ac s Z H _ I h) λov s1 cZ=>?_))
 obtain⟨x,H1,I1,r1,q1⟩:=cZ
 refine aa (cO (fq (hi ac s1 Z H1 _ I1 q1) λiv s2 cZ=>?_))
 obtain⟨y,H2,I2,r2,q2⟩:=cZ
 refine aa (jN (aa (cO (fq (hs ac s2 Z H2 x y v ov iv u _ I2 r1 r2 r q2) λ_ s3 cZ=>?_))))
 obtain⟨H3,I3,q3⟩:=cZ
 exact wpAny_release ⟨Z,H3,I3,q3⟩
def sX (te:TE) (g:TG):TS:=λD Z H=>te Z H λx H1=>g x Z H1 D.nx
def iQ (he:PE X e te) (hg:PG X tg g) (hs:swapsWithSole [tg] e pos.line X.env=pure false:=by rfl) (hw:swappedStores [tg] e X.env=pure none:=by rfl)
  (h1:(assignEach [tg] X.env).map (·.2)=[assign tg X.env]:=by rfl):PS X (.Assign [tg] e pos) (sX te g):=by
 intro ac s Z H D I h
 refine wpAny_Assign_stores (fq (he ac s Z H _ I h) λv s1 cZ=>?_) hs hw
 obtain⟨x,H1,I1,r1,q1⟩:=cZ
 rw[h1]
 exact fq (hg ac s1 Z H1 x v _ I1 r1 q1) λ_ s2 q=>q
def yQ {i:Nat}{x:Str}{e:Expr}{te:TE}{pos':Pos}(hN:X.N.Nodup) (hi:X.N[i]?=some x) (hx:Loc X.env.scope x) (he:PE X e te) (hs:swapsWith e (some (.Name x pos')) pos.line X.env=pure false:=by rfl) (hf:X.fn x=true\/X.env.scope.names.lookup x=some .local:=by first|exact .inl rfl|exact .inr rfl|assumption):
  PS X (.Assign [.Name x pos'] e pos) (sX te (dI i)):=by
 intro ac s Z H D I h
 refine wpAny_Assign_Name (fq (he ac s Z H _ I h) λv s1 cZ=>?_) hs
 obtain⟨y,H1,I1,r1,q1⟩:=cZ
 exact kZ I1 hN hi hx r1 (λs2 I2=>⟨_,H1,I2,q1⟩) hf
def Xa (i j:Nat) (ta:TA):TS:=λD Z H=>ta Z H λvs H1=>∃v w,vs=[v,w]/\D.nx ((Z.set i (some v)).set j (some w)) H1
def ku {i:Nat}{x:Str}{e:Expr}{te:TE}{pos':Pos}(hN:X.N.Nodup) (he:PE X e te) (hi:X.N[i]?=some x:=by rfl) (hx:Loc X.env.scope x:=by exact Or.inl rfl) (hs:swapsWith e (some (.Name x pos')) pos.line X.env=pure false:=by rfl) (hf:X.fn x=true\/X.env.scope.names.lookup x=some .local:=by first|exact .inl rfl|exact .inr rfl|assumption):PS X (.Assign [.Name x pos'] e pos) (sX te (dI i)):=yQ hN hi hx he hs hf
def yS {kt k2 OG}(hc:X.calm=true) (hN:X.N.Nodup) (hi:X.N[i]?=some x) (hj:X.N[j]?=some y) (oR:i≠j)
  (hx:X.env.scope.names.lookup x=some .local) (hy:X.env.scope.names.lookup y=some .local) (ha:PA X [a,b] ta)
  (hw:swappedStores [.Tuple [.Name x px,.Name y py] kt pt] (.Tuple [a,b] k2 OG) X.env=pure (some [x,y]))
  (hs:swapsWithSole [.Tuple [.Name x px,.Name y py] kt pt] (.Tuple [a,b] k2 OG) pos.line X.env=pure false:=by rfl):
  PS X (.Assign [.Tuple [.Name x px,.Name y py] kt pt] (.Tuple [a,b] k2 OG) pos) (Xa i j ta):=by
 intro ac s Z H D I h
 rw[exec_Assign_arm]
 refine aa (jN ?_)
 rw[hs]
 refine aa (ak ?_)
 rw[aO δ]
 refine aa (Tuple_ (fq (ha _ ac s Z H _ I h) λus s1 cZ=>?_))
 obtain⟨vs,H1,I1,r1,q1⟩:=cZ
 obtain⟨v,w,e1,q1⟩:=q1
 subst e1
 obtain⟨u1,u2,rfl,rv,Fx⟩:∃u1 u2,us=[u1,u2]/\RelV v u1/\RelV w u2:=by
  cases r1 with
  |cons p q=>
   cases q with
   |cons p' q'=>
    cases q'
    exact⟨_,_,rfl,p,p'⟩
 refine bE ?_ (dP)
 have I2:Inv X ac Z H1 {s1 with heap:=s1.heap.push {cls:=.type "tuple",data:=.seq [u1,u2].toArray}}:=I1.kept (t':=s1.toks) λb o e=>af _ e
 rw[hw]
 refine aa (ak ?_)
 show wpAny (model X.prog X.w) X.A (do rule "assign.swapped-stores";let items<-unpackItems (.ref s1.heap.objs.size) 2 none;assignInOrder [λv=>bindName X.env y v,λv=>bindName X.env x v] items.reverse;pure Flow.next) _ _ _
 refine aa (ki (aa (unpackItems_tuple (items:=#[u1,u2]) (I.ok.hd hc) (IsTup.new s1.heap _) λh' SN=>?_)))
 have I3:=I2.kept (h':=h') (t':=s1.toks) λb o e=>SN b o (ba (aC e)) e
 show wpAny _ _ (assignInOrder [λv=>bindName X.env y v,λv=>bindName X.env x v] [u2,u1]>>=λ_=>pure Flow.next) _ _ _
 refine aa (kh (ni (kZ I3 hN hj (.inl hy) Fx (λs2 I4=>?_) (.inr hy))))
 refine kh (ni (kZ I4 hN hi (.inl hx) rv (λs3 I5=>assignInOrder_nil (ak ?_)) (.inr hx)))
 rw[zV _ _ (cD oR)] at I5
 exact⟨_,H1,I5,q1⟩
end
section
variable {X:Cx}{pos:Pos}
def Hx (c:TT) (tb:TS):TS:=λD Z H=>∃W:Nat->St->Hp->Prop,(∃m,W m Z H)/\∀m Z H,W m Z H->
 c Z H λb H1=>if b=true then∃N:St->Hp->Prop,(∀bX H',N bX H'->∃m',m'<m/\W m' bX H')/\tb {D with nx:=N,ct:=N,bk:=D.nx} Z H1 else D.nx Z H1
def Am (hp:PassesOwn (model X.prog X.w) X.A X.env X.xe) (hc:PT X c tc) (hb:xx X body tb):PS X (.While c body [] pos) (Hx tc tb):=by
 intro ac s Z H D I h
 obtain⟨W,⟨m0,w0⟩,turn⟩:=h
 refine wpAny_While (codeAny_whileLoop (λn s'=>∃bX H',Inv X ac bX H' s'/\W n bX H') ?_ m0 ⟨Z,H,I,w0⟩)
 rintro n s1 ⟨RQ,H1,I1,w1⟩
 refine jK hp (fq (hc ac s1 RQ H1 _ I1 (turn n RQ H1 w1)) λb s2 cZ=>?_)
 obtain⟨H2,I2,q2⟩:=cZ
 cases b with
 |true=>
  obtain⟨N,hN,q2⟩:=q2
  rw[aQ rfl]
  refine jK hp (fq (hb ac s2 RQ H2 _ I2 q2) λf s3 q3=>?_)
  cases f with
  |next=>
   obtain⟨Hy,H3,I3,n3⟩:=q3
   obtain⟨m',hm,w3⟩:=hN Hy H3 n3
   exact⟨m',hm,Hy,H3,I3,w3⟩
  |cont=>
   obtain⟨Hy,H3,I3,n3⟩:=q3
   obtain⟨m',hm,w3⟩:=hN Hy H3 n3
   exact⟨m',hm,Hy,H3,I3,w3⟩
  |brk=>exact q3
  |ret v=>exact q3
 |false=>
  rw[aO bA]
  exact zU ⟨RQ,H2,I2,q2⟩
end
structure It where
 go:Nat->Hp->Prop
 BY:Nat->Hp->V->Hp->Prop
 stop:Nat->Hp->Prop
def mQ (X:Cx) (ac:List (ai×Obj)) (H:Hp) (b:ai):Prop:=
 H b=none/\b≠X.env.locals/\b∉X.fs/\(b∈X.ex\/X.gP.heap.objs.size<=b)/\(∀x c,X.env.cells.lookup x=some c->c≠b)/\∀p∈X.pn++ac,p.1≠b
def Inv.yV (I:Inv X ac Z H s) (hb:s.heap.objs.size<=b) (hn:H' b=none):mQ X ac H' b:=by
 refine⟨hn,g_ (bh I.lt hb),I.WX hb,.inr (aA I.sz hb),λx c e z=>?_,λp hp z=>?_⟩
 .obtain⟨v,q⟩:=I.cell x c e
  exact absurd (bh q.lt (by rw[z];exact hb)) (fU _)
 .exact absurd (bh (aC (I.pin p hp).1) (by rw[z];exact hb)) (fU _)
structure Turn (P:aM) (w:bB) (K:Φ) (tg:Expr) (J:It) (fp:List ai) (it:ai) (tn:Nat->Heap->Prop):Prop where
 mem:it∈fp
 obj:∀i h,tn i h->∀b∈fp,∃o,h.get? b=some o/\∀v,o.data≠.cell v
 keep:∀i h h',tn i h->(∀b∈fp,∀o,h.get? b=some o->h'.get? b=some o)->tn i h'
 item:∀(X:Cx),X.prog=P->X.w=w->X.K=K->X.calm=true->∀(i:Nat) (ac:List (ai×Obj)) (s:aj) (Z:St) (H:Hp) (E:ag->aj->Prop),Inv X ac Z H s->(∀b∈fp,mQ X ac H b)->tn i s.heap->J.go i H->
  wpAny (model P w) X.A (pyNext (.ref it)) (λr s1=>∃u,r=some u/\
   wpAny (model P w) X.A (letOwnedTupleGo tg (.ref it) u) (λ_ s2=>∃x H',Inv X ac Z H' s2/\RelV x u/\J.BY i H x H'/\tn (i+1) s2.heap/\∀b∈fp,H' b=none) E s1) E s
 done:∀(X:Cx),X.prog=P->X.w=w->X.K=K->X.calm=true->∀(i:Nat) (ac:List (ai×Obj)) (s:aj) (Z:St) (H:Hp) (E:ag->aj->Prop),Inv X ac Z H s->(∀b∈fp,mQ X ac H b)->tn i s.heap->J.stop i H->
  wpAny (model P w) X.A (pyNext (.ref it)) (λr s1=>r=none/\Inv X ac Z H s1) E s
 self:∀(A:bG) (i:Nat) (s:aj) (Q:ag->aj->Prop) (E:ag->aj->Prop),tn i s.heap->Q (.ref it) s->wpAny (model P w) A (pyIter (.ref it)) Q E s
abbrev TI:=St->Hp->(It->Hp->Prop)->Prop
def Xb (X:Cx) (ac:List (ai×Obj)) (Z:St) (tg:Expr) (R:It->Hp->Prop) (OH:ag) (s2:aj):Prop:=
 ∃(it:ai) (fp:List ai) (tn:Nat->Heap->Prop) (J:It) (H':Hp),OH=.ref it/\Inv X ac Z H' s2/\Turn X.prog X.w X.K tg J fp it tn/\tn 0 s2.heap/\(∀b∈fp,mQ X ac H' b)/\R J H'
def PI (X:Cx) (tg iter:Expr) (wi:TI):Prop:=
 ∀(ac:List (ai×Obj)) (s:aj) (Z:St) (H:Hp) (R:It->Hp->Prop),Inv X ac Z H s->wi Z H R->
  wpAny (model X.prog X.w) X.A (eval iter X.env) (λv s1=>wpAny (model X.prog X.w) X.A (pyIter v) (Xb X ac Z tg R) X.xe s1) X.xe s
def Eg {M:Model}{A:bG}{E:ag->aj->Prop}{s:aj}{tg:Expr}{it:ai}{u:ag}{o:Obj}{n:String}{vs:Array ag}{Q:Unit->aj->Prop}(ho:s.heap.get? it=some o) (hc:o.cls=.type n) (hd:o.data=.fields vs)
  (hn:["enumerate","zip","dict_itemiterator","dict_reverseitemiterator","odict_iterator","itertools.zip_longest","itertools.pairwise"].contains n=false) (hQ:Q () s):wpAny M A (letOwnedTupleGo tg (.ref it) u) Q E s:=by
 unfold letOwnedTupleGo
 cases tg<;>first
  |exact ak hQ
  |(cases u<;>first
   |exact ak hQ
   |(refine aa (wpAny_load ho ?_)
     rw[hc,hd]
     show wpAny M A (if(["enumerate","zip","dict_itemiterator","dict_reverseitemiterator","odict_iterator","itertools.zip_longest","itertools.pairwise"].contains n&&vs[0]?==some (rawInt _))=true then _ else _) Q E s
     rw[aO (by intro h;rw[hn,bj] at h;cases h)]
     exact ak hQ))
def Eh (K:Φ) (a:ai):It:=
 ⟨λi H=>∃xs x,cT K H a xs/\xs[i]?=some x,λi H x H'=>H'=H/\∀xs,cT K H a xs->xs[i]?=some x,λi H=>∃xs,cT K H a xs/\xs.length<=i⟩
def Ei (K:Φ) (a:ai):It:=
 ⟨λi H=>∃xs x,bZ K H a xs/\xs[i]?=some x,λi H x H'=>H'=H/\∀xs,bZ K H a xs->xs[i]?=some x,λi H=>∃xs,bZ K H a xs/\xs.length<=i⟩
def Nt (lo:Int) (n:Nat):It:=⟨λi _=>i<n,λi H x H'=>H'=H/\x=.int (lo+i),λi _=>n<=i⟩
def Fy {P:aM}{w:bB}{K:Φ}{tg:Expr}(a it:ai):Turn P w K tg (Eh K a) [it] it (λi h=>h.IsListIter it a i) where
 mem:=ς
 obj:=λi h st b hb=>by
  have e:b=it:=by simpa using hb
  subst e
  obtain⟨o,e,c,d⟩:=st
  exact⟨o,e,λv z=>by rw[d] at z;cases z⟩
 keep:=λi h h' st k=>st.at λo e=>k it ς o e
 item:=by
  intro X hP hw hK hc i ac s Z H E I hf st hg
  subst hP hw hK
  obtain⟨xs,x,hq,hx⟩:=hg
  obtain⟨cF,rv,p,hz⟩:=I.list hq
  obtain⟨u,hu,ru⟩:=rv.get hx
  obtain⟨f0,f1,f2,f3,f4,f5⟩:=hf it ς
  refine wpAny_pyNext_list_item st p.isList (x:=u) (by simpa using hu) λh' tY sb=>?_
  have I1:Inv X ac Z H {s with heap:=h'}:=I.turned (t':=s.toks) (λb o hb e=>(sb.2 b hb).trans e) f0 f1 f3 f4 f5
  obtain⟨o,e,c,d⟩:=id tY
  exact⟨u,rfl,Eg (s:={s with heap:=h'}) e c d δ ⟨x,H,I1,ru,⟨rfl,λys hy=>by rw[I.rz hy hq];exact hx⟩,tY,λb hb=>(hf b hb).1⟩⟩
 done:=by
  intro X hP hw hK hc i ac s Z H E I hf st hg
  subst hP hw hK
  obtain⟨xs,hq,hx⟩:=hg
  obtain⟨cF,rv,p,hz⟩:=I.list hq
  obtain⟨f0,f1,f2,f3,f4,f5⟩:=hf it ς
  have hl:=rv.length
  exact wpAny_pyNext_list_end (I.ok.hd hc) st p.isList (by simp;omega) λh' eb=>⟨rfl,I.turned (t':=s.toks) (λb o hb e=>eb b o hb e) f0 f1 f3 f4 f5⟩
 self:=λ_ _ _ _ _ st h=>wpAny_pyIter_listiter st h
def BZ {P:aM}{w:bB}{K:Φ}{tg:Expr}(a it:ai):Turn P w K tg (Ei K a) [it] it (λi h=>h.IsTupleIter it a i) where
 mem:=ς
 obj:=λi h st b hb=>by
  have e:b=it:=by simpa using hb
  subst e
  obtain⟨o,e,c,d⟩:=st
  exact⟨o,e,λv z=>by rw[d] at z;cases z⟩
 keep:=λi h h' st k=>st.at λo e=>k it ς o e
 item:=by
  intro X hP hw hK hc i ac s Z H E I hf st hg
  subst hP hw hK
  obtain⟨xs,x,hq,hx⟩:=hg
  obtain⟨cF,rv,p,hz⟩:=I.tuple hq
  obtain⟨u,hu,ru⟩:=rv.get hx
  obtain⟨f0,f1,f2,f3,f4,f5⟩:=hf it ς
  refine wpAny_pyNext_tuple_item st (show s.heap.IsTuple a cF.toArray from p) (x:=u) (by simpa using hu) λh' tY sb=>?_
  have I1:Inv X ac Z H {s with heap:=h'}:=I.turned (t':=s.toks) (λb o hb e=>(sb.2 b hb).trans e) f0 f1 f3 f4 f5
  obtain⟨o,e,c,d⟩:=id tY
  exact⟨u,rfl,Eg (s:={s with heap:=h'}) e c d δ ⟨x,H,I1,ru,⟨rfl,λys hy=>by rw[I.sW hy hq];exact hx⟩,tY,λb hb=>(hf b hb).1⟩⟩
 done:=by
  intro X hP hw hK hc i ac s Z H E I hf st hg
  subst hP hw hK
  obtain⟨xs,hq,hx⟩:=hg
  obtain⟨cF,rv,p,hz⟩:=I.tuple hq
  obtain⟨f0,f1,f2,f3,f4,f5⟩:=hf it ς
  have hl:=rv.length
  exact wpAny_pyNext_tuple_end (I.ok.hd hc) st (show s.heap.IsTuple a cF.toArray from p) (by simp;omega) λh' eb=>⟨rfl,I.turned (t':=s.toks) (λb o hb e=>eb b o hb e) f0 f1 f3 f4 f5⟩
 self:=λ_ _ _ _ _ st h=>wpAny_pyIter_tupleiter st h
def B0 {P:aM}{w:bB}{K:Φ}{tg:Expr}(it:ai) (lo:Int) (n:Nat):Turn P w K tg (Nt lo n) [it] it (λi h=>IsRangeIter h it (lo+(i:Nat)*1) ((n:Int)-(i:Nat)) 1) where
 mem:=ς
 obj:=λi h st b hb=>by
  have e:b=it:=by simpa using hb
  subst e
  exact⟨_,st,λv z=>by
   have z':Data.fields _=Data.cell v:=z
   cases z'⟩
 keep:=λi h h' st k=>k it ς _ st
 item:=by
  intro X hP hw hK hc i ac s Z H E I hf st hg
  subst hP hw hK
  obtain⟨f0,f1,f2,f3,f4,f5⟩:=hf it ς
  have W:=Walks.range (prog:=X.prog) (w:=X.w) (I.ok.hd hc) it lo 1 n
  refine W.item i s _ _ hg st λv h' tk hv tY kk=>?_
  obtain⟨t,rfl⟩:=hv
  have I1:Inv X ac Z H {s with heap:=h',toks:=tk}:=I.turned (λb o hb e=>kk b o (by simpa using hb) e) f0 f1 f3 f4 f5
  refine⟨_,rfl,Eg (s:={s with heap:=h',toks:=tk}) (n:="range_iterator") tY rfl rfl δ ⟨.int (lo+i),H,I1,⟨t,?_⟩,⟨rfl,rfl⟩,tY,λb hb=>(hf b hb).1⟩⟩
  rw[Int.mul_one]
 done:=by
  intro X hP hw hK hc i ac s Z H E I hf st hg
  subst hP hw hK
  obtain⟨f0,f1,f2,f3,f4,f5⟩:=hf it ς
  exact wpAny_pyNext_range_end (I.ok.hd hc) st (by have:n<=i:=hg;omega) λh' eb=>⟨rfl,I.turned (t':=s.toks) (λb o hb e=>eb b o hb e) f0 f1 f3 f4 f5⟩
 self:=λ_ _ _ _ _ st h=>wpAny_pyIter_rangeiter st h
section
variable {X:Cx}{tg:Expr}
def Hz (K:Φ) (tl:TE):TI:=λZ H R=>tl Z H λx H1=>∃a,x=.ref a/\(∃xs,cT K H1 a xs)/\R (Eh K a) H1
def Xc (K:Φ) (tl:TE):TI:=λZ H R=>tl Z H λx H1=>∃a,x=.ref a/\(∃xs,bZ K H1 a xs)/\R (Ei K a) H1
def jz (hl:PE X l tl):PI X tg l (Hz X.K tl):=by
 intro ac s Z H R I h
 refine fq (hl ac s Z H _ I h) λv s1 cZ=>?_
 obtain⟨x,H1,I1,r1,q1⟩:=cZ
 obtain⟨a,e,⟨xs,hq⟩,q⟩:=q1
 subst e
 cases r1
 obtain⟨cF,rv,p,hz⟩:=I1.list hq
 refine iE p.isList ?_
 refine⟨s1.heap.objs.size,[s1.heap.objs.size],_,_,H1,rfl,I1.kept (t':=s1.toks) λb o e=>af _ e,Fy a _,⟨_,az _ rfl,rfl,rfl⟩,λb hb=>?_,q⟩
 have e:b=s1.heap.objs.size:=by simpa using hb
 subst e
 exact I1.yV (ar _) (I1.eN.fresh (ar _))
def iq (hl:PE X l tl):PI X tg l (Xc X.K tl):=by
 intro ac s Z H R I h
 refine fq (hl ac s Z H _ I h) λv s1 cZ=>?_
 obtain⟨x,H1,I1,r1,q1⟩:=cZ
 obtain⟨a,e,⟨xs,hq⟩,q⟩:=q1
 subst e
 cases r1
 obtain⟨cF,rv,p,hz⟩:=I1.tuple hq
 refine me (show s1.heap.IsTuple a cF.toArray from p) ?_
 refine⟨s1.heap.objs.size,[s1.heap.objs.size],_,_,H1,rfl,I1.kept (t':=s1.toks) λb o e=>af _ e,BZ a _,⟨_,az _ rfl,rfl,rfl⟩,λb hb=>?_,q⟩
 have e:b=s1.heap.objs.size:=by simpa using hb
 subst e
 exact I1.yV (ar _) (I1.eN.fresh (ar _))
def HA {ac:List (ai×Obj)}{Z:St}{H:Hp}{s:aj}{R:It->Hp->Prop}{E:ag->aj->Prop}{lo hi:Int}{t u v:Tok}{tk:Nat}(I:Inv X ac Z H s) (h1:-(2^62)<=lo) (h2:lo<2^62) (h3:-(2^62)<=hi) (h4:hi<2^62)
  (q:R (Nt lo (hi-lo).toNat) H):wpAny (model X.prog X.w) X.A (pyIter (.ref s.heap.objs.size)) (Xb X ac Z tg R) E {s with heap:=s.heap.push {cls:=.type "range",data:=.fields #[.int lo t,.int hi u,.int 1 v]},toks:=tk}:=by
 refine wpAny_pyIter_range (IsRange.new ..) (small_one h1 h2 h3 h4) ?_
 have I1:Inv X ac Z H {s with heap:=s.heap.push {cls:=.type "range",data:=.fields #[.int lo t,.int hi u,.int 1 v]},toks:=tk}:=I.kept λb o e=>af _ e
 refine⟨(s.heap.push {cls:=.type "range",data:=.fields #[.int lo t,.int hi u,.int 1 v]}).objs.size,[(s.heap.push {cls:=.type "range",data:=.fields #[.int lo t,.int hi u,.int 1 v]}).objs.size],_,_,H,rfl,
  I1.kept (t':=tk) λb o e=>af _ e,B0 _ lo (hi-lo).toNat,?_,λb hb=>?_,q⟩
 .have e1:lo+((0:Nat):Int)*1=lo:=ς
  have e2:(((hi-lo).toNat:Nat):Int)-((0:Nat):Int)=Builtin.Range.rangeSize lo hi 1:=by rw[rangeSize_one];split<;>omega
  show IsRangeIter _ _ (lo+((0:Nat):Int)*1) ((((hi-lo).toNat:Nat):Int)-((0:Nat):Int)) 1
  rw[e1,e2]
  exact az _ rfl
 .have e:b=(s.heap.push {cls:=.type "range",data:=.fields #[.int lo t,.int hi u,.int 1 v]}).objs.size:=by simpa using hb
  subst e
  exact I1.yV (ar _) (I1.eN.fresh (ar _))
def SO (ta:TA):TI:=λZ H R=>ta Z H λvs H1=>∃j:Int,vs=[.int j]/\-(2^62)<=j/\j<2^62/\R (Nt 0 j.toNat) H1
def xR (hg:Gl X "range") (hm:X.mg "range"=none) (ha:PA X [a] ta) (hs:starEach [a] X.env=[(false,eval a X.env)]:=by rfl):PI X tg (.Call (.Name "range" p) [a] [] pos) (SO ta):=by
 intro ac s Z H R I h
 refine Call_ (qv I hg hm boot_range (gx (fq (ha pos ac s Z H _ I h) λus s1 cZ=>?_) hs rfl))
 obtain⟨vs,H1,I1,r1,q1⟩:=cZ
 obtain⟨j,e,q1,q2,q⟩:=q1
 subst e
 cases r1 with
 |cons r rr=>
  cases rr
  obtain⟨t,rfl⟩:=r
  exact call_range_1 (HA I1 ω ω q1 q2 (by simpa using q))
def SQ (wi:TI) (g:TG) (tb:TS):TS:=λD Z H=>wi Z H λJ H1=>∃W:Nat->Nat->St->Hp->Prop,(∃m,W 0 m Z H1)/\∀i m Z H,W i m Z H->
 (J.stop i H/\D.nx Z H)\/(J.go i H/\∃N:St->Hp->Prop,(∀bX H',N bX H'->∃m',m'<m/\W (i+1) m' bX H')/\∀x H',J.BY i H x H'->g x Z H' λiR H2=>tb {D with nx:=N,ct:=N,bk:=D.nx} iR H2)
def qw (fp:List ai) (h:Heap):List (ai×Obj):=fp.filterMap λb=>(h.get? b).map λo=>(b,o)
def iu (hb:b∈fp) (e:h.get? b=some o):(b,o)∈qw fp h:=Ad.mpr ⟨b,hb,by rw[e];rfl⟩
def Fz (hp:p∈qw fp h):p.1∈fp/\h.get? p.1=some p.2:=by
 obtain⟨b,hb,e⟩:=Ad.mp hp
 cases q:h.get? b with
 |none=>rw[q] at e;cases e
 |some o=>
  rw[q] at e
  have e':(b,o)=p:=cM e
  subst e'
  exact⟨hb,q⟩
def Inv.pinned (I:Inv X ac Z H s) (hf:∀b∈fp,mQ X ac H b) (ho:∀b∈fp,∃o,s.heap.get? b=some o/\∀v,o.data≠.cell v):Inv X (ac++qw fp s.heap) Z H s:=
 I.Ec λp hp=>(dq.mp hp).elim (λz=>I.pin p (bJ _ z)) λz=>by
  obtain⟨hb,e⟩:=Fz z
  obtain⟨f0,f1,f2,_⟩:=hf p.1 hb
  obtain⟨o,e',d⟩:=ho p.1 hb
  rw[e] at e';cases e'
  exact⟨e,f0,f1,f2,d⟩
def Inv.mR (I:Inv X (ac++pl) Z H s):Inv X ac Z H s:=I.Ec λp hp=>I.pin p (bJ _ (jJ _ hp))
def mi (hp:PassesOwn (model X.prog X.w) X.A X.env X.xe) (hc:X.calm=true) (hi:PI X tg iter wi) (hg:PG X tg g) (hb:xx X body tb)
  (hs:∀x,foldedSetIterable iter X.env x=pure x:=by intro _;rfl):PS X (.For tg iter body [] pos) (SQ wi g tb):=by
 intro ac s Z H D I h
 refine wpAny_For (fq (hi ac s Z H _ I h) λv s1 h1=>fq h1 λOH s2 h2=>?_) hs
 obtain⟨it,fp,tn,J,H2,e,I2,T,Bx,f2,W,⟨m0,w0⟩,turn⟩:=h2
 subst e
 --aau stays true of Wh OJ objects through Wh loop
 have qx:∀{H':Hp},(∀b∈fp,H' b=none)->∀b∈fp,mQ X ac H' b:=λhn b hb=>⟨hn b hb,(f2 b hb).2⟩
 refine codeAny_forLoop_any (λn s'=>∃i bX H',Inv X ac bX H' s'/\tn i s'.heap/\(∀b∈fp,H' b=none)/\W i n bX H') ?_ m0 ⟨0,Z,H2,I2,Bx,λb hb=>(f2 b hb).1,w0⟩
 rintro n s3 ⟨i,Hy,H3,I3,st3,fr3,w3⟩
 rcases turn i n Hy H3 w3 with⟨stop,qn⟩|⟨go,N,hN,step⟩
 .refine jK hp (fq (T.done X rfl rfl rfl hc i ac s3 Hy H3 X.xe I3 (qx fr3) st3 stop) λr s4 cZ=>?_)
  obtain⟨hr,I4⟩:=cZ
  subst hr
  exact zU ⟨Hy,H3,I4,qn⟩
 .refine jK hp (fq (T.item X rfl rfl rfl hc i ac s3 Hy H3 X.xe I3 (qx fr3) st3 go) λr s4 cZ=>?_)
  obtain⟨u,hr,h4⟩:=cZ
  subst hr
  refine jK hp (fq h4 λ_ s5 cZ=>?_)
  obtain⟨x,H5,I5,r5,y5,G_,KG⟩:=cZ
  have I5':=I5.pinned (qx KG) (T.obj _ _ G_)
  refine jK hp (fq (hg _ s5 Hy H5 x u _ I5' r5 (step x H5 y5)) λ_ s6 cZ=>?_)
  obtain⟨σ6,H6,I6,q6⟩:=cZ
  refine jK hp (fq (hb _ s6 σ6 H6 _ I6 q6) λf s7 q7=>?_)
  have again:∀{uD:St} {H7:Hp},Inv X (ac++qw fp s5.heap) uD H7 s7->N uD H7->∃m,m<n/\∃i bX H',Inv X ac bX H' s7/\tn i s7.heap/\(∀b∈fp,H' b=none)/\W i m bX H':=λ{uD H7} I7 n7=>by
   obtain⟨m',hm,w7⟩:=hN uD H7 n7
   refine⟨m',hm,i+1,uD,H7,I7.mR,T.keep _ _ _ G_ λb hb o e=>(I7.pin (b,o) (bJ _ (bJ _ (iu hb e)))).1,λb hb=>?_,w7⟩
   obtain⟨o,e,d⟩:=T.obj _ _ G_ b hb
   exact(I7.pin (b,o) (bJ _ (bJ _ (iu hb e)))).2.1
  cases f with
  |next=>obtain⟨uD,H7,I7,n7⟩:=q7;exact again I7 n7
  |cont=>obtain⟨uD,H7,I7,n7⟩:=q7;exact again I7 n7
  |brk=>obtain⟨uD,H7,I7,q7⟩:=q7;exact⟨uD,H7,I7.mR,q7⟩
  |ret v=>obtain⟨x7,uD,H7,I7,r7,q7⟩:=q7;exact⟨x7,uD,H7,I7.mR,r7,q7⟩
end
def oS {K:Φ}{a:ai}{xs:List V}{g:TG}{tb:TS}{D:Ends}{Z:St}{H:Hp}(Pv:Nat->St->Hp->Prop) (h0:Pv 0 Z H) (hl:∀i Z H,i<=xs.length->Pv i Z H->cT K H a xs)
  (hs:∀i x Z H,xs[i]?=some x->Pv i Z H->g x Z H λiR H2=>tb {D with nx:=Pv (i+1),ct:=Pv (i+1),bk:=D.nx} iR H2) (hd:∀Z H,Pv xs.length Z H->D.nx Z H):
  ∃W:Nat->Nat->St->Hp->Prop,(∃m,W 0 m Z H)/\∀i m Z H,W i m Z H->
   ((Eh K a).stop i H/\D.nx Z H)\/((Eh K a).go i H/\∃N:St->Hp->Prop,(∀bX H',N bX H'->∃m',m'<m/\W (i+1) m' bX H')/\∀x H',(Eh K a).BY i H x H'->g x Z H' λiR H2=>tb {D with nx:=N,ct:=N,bk:=D.nx} iR H2):=by
 refine⟨λi m Z H=>m=xs.length-i/\i<=xs.length/\Pv i Z H,⟨xs.length,ς,de _,h0⟩,?_⟩
 rintro i m Z H ⟨rfl,hi,p⟩
 have q:=hl i Z H hi p
 by_cases mS:i<xs.length
 .refine .inr ⟨⟨xs,xs[i],q,by simp[mS]⟩,Pv (i+1),λbX H' p'=>⟨xs.length-(i+1),ω,rfl,mS,p'⟩,λx H' y=>?_⟩
  obtain⟨e,y⟩:=y
  subst e
  exact hs i x Z _ (y xs q) p
 .have e:i=xs.length:=ω
  subst e
  exact .inl ⟨⟨xs,q,ar _⟩,hd Z H p⟩
def yW {K:Φ} {g:TG}{tb:TS}{D:Ends} (Pv:Nat->St->Hp->Prop) (h0:Pv 0 Z H) (hl:∀i Z H,i<=xs.length->Pv i Z H->bZ K H a xs)
  (hs:∀i x Z H,xs[i]?=some x->Pv i Z H->g x Z H λiR H2=>tb {D with nx:=Pv (i+1),ct:=Pv (i+1),bk:=D.nx} iR H2) (hd:∀Z H,Pv xs.length Z H->D.nx Z H):
  ∃W:Nat->Nat->St->Hp->Prop,(∃m,W 0 m Z H)/\∀i m Z H,W i m Z H->
   ((Ei K a).stop i H/\D.nx Z H)\/((Ei K a).go i H/\∃N:St->Hp->Prop,(∀bX H',N bX H'->∃m',m'<m/\W (i+1) m' bX H')/\∀x H',(Ei K a).BY i H x H'->g x Z H' λiR H2=>tb {D with nx:=N,ct:=N,bk:=D.nx} iR H2):=by
 refine⟨λi m Z H=>m=xs.length-i/\i<=xs.length/\Pv i Z H,⟨xs.length,ς,de _,h0⟩,?_⟩
 rintro i m Z H ⟨rfl,hi,p⟩
 have q:=hl i Z H hi p
 by_cases mS:i<xs.length
 .refine .inr ⟨⟨xs,xs[i],q,by simp[mS]⟩,Pv (i+1),λbX H' p'=>⟨xs.length-(i+1),ω,rfl,mS,p'⟩,λx H' y=>?_⟩
  obtain⟨e,y⟩:=y
  subst e
  exact hs i x Z _ (y xs q) p
 .have e:i=xs.length:=ω
  subst e
  exact .inl ⟨⟨xs,q,ar _⟩,hd Z H p⟩
def An {c:TT}{tb:TS}{D:Ends}{Z:St}{H:Hp}(Pv:St->Hp->Prop) (μ:St->Hp->Nat) (h0:Pv Z H)
  (hs:∀Z H,Pv Z H->c Z H λb H1=>if b=true then tb {D with nx:=λbX H'=>Pv bX H'/\μ bX H'<μ Z H,ct:=λbX H'=>Pv bX H'/\μ bX H'<μ Z H,bk:=D.nx} Z H1 else D.nx Z H1)
  (mono:∀Z H Q Q',(∀b H1,Q b H1->Q' b H1)->c Z H Q->c Z H Q'):Hx c tb D Z H:=by
 refine⟨λm Z H=>m=μ Z H/\Pv Z H,⟨_,rfl,h0⟩,?_⟩
 rintro m Z H ⟨rfl,p⟩
 refine mono Z H _ _ (λb H1 q=>?_) (hs Z H p)
 cases b with
 |true=>exact⟨_,λbX H' ⟨p',l⟩=>⟨_,l,rfl,p'⟩,q⟩
 |false=>exact q
abbrev R2:=V->V->Hp->VK->Prop
def lU (X:Cx) (f:ag->ag->Sem ag) (r:R2):Prop:=
 ∀(ac:List (ai×Obj)) (s:aj) (Z:St) (H:Hp) (x y:V) (v u:ag) (Q:VK),Inv X ac Z H s->RelV x v->RelV y u->r x y H Q->
  wpAny (model X.prog X.w) X.A (f v u) (EP X ac Z Q) X.xe s
def Xd (X:Cx) (f:ag->Sem ag) (r:V->Hp->VK->Prop):Prop:=
 ∀(ac:List (ai×Obj)) (s:aj) (Z:St) (H:Hp) (x:V) (v:ag) (Q:VK),Inv X ac Z H s->RelV x v->r x H Q->
  wpAny (model X.prog X.w) X.A (f v) (EP X ac Z Q) X.xe s
def gN (X:Cx) (f:ag) (r:List V->Hp->VK->Prop):Prop:=
 ∀(ac:List (ai×Obj)) (s:aj) (Z:St) (H:Hp) (xs:List V) (us:List ag) (Q:VK),Inv X ac Z H s->cz xs us->r xs H Q->
  wpAny (model X.prog X.w) X.A (call f us) (EP X ac Z Q) X.xe s
def Xe (X:Cx) (r:V->Hp->(Bool->Hp->Prop)->Prop):Prop:=
 ∀(ac:List (ai×Obj)) (s:aj) (Z:St) (H:Hp) (x:V) (v:ag) (Q:Bool->Hp->Prop),Inv X ac Z H s->RelV x v->r x H Q->
  wpAny (model X.prog X.w) X.A (truthy v) (TP X ac Z Q) X.xe s
def gJ (r:R2) (ta tb:TE):TE:=λZ H Q=>ta Z H λx H1=>tb Z H1 λy H2=>r x y H2 Q
def tUn (r:V->Hp->VK->Prop) (ta:TE):TE:=λZ H Q=>ta Z H λx H1=>r x H1 Q
def rI (C:Int->Int->Prop) (g:Int->Int->V):R2:=λx y H Q=>∃i j,x=.int i/\y=.int j/\C i j/\Q (g i j) H
def Ha (g:Int->Int->V):R2:=λx y H Q=>∃i j,x=.int i/\y=.int j/\Q (g i j) H
def rU (g:Int->V):V->Hp->VK->Prop:=λx H Q=>∃i,x=.int i/\Q (g i) H
section
variable {X:Cx}{a b c:Expr}{ta tb tc:TE}{pos:Pos}
def OK (ha:PE X a ta) (hb:PE X b tb) {R:V->V->Hp->Prop}(I:Inv X ac Z H s)
  (h:ta Z H λx H1=>tb Z H1 λy H2=>R x y H2) {f:ag->ag->Sem ag}
  (hf:∀v u s2 x y H2,Inv X ac Z H2 s2->RelV x v->RelV y u->R x y H2->wpAny (model X.prog X.w) X.A (f v u) Q X.xe s2):
  wpAny (model X.prog X.w) X.A (eval a X.env) (λv fh=>wpAny (model X.prog X.w) X.A (eval b X.env) (λu sY=>wpAny (model X.prog X.w) X.A (f v u) Q X.xe sY) X.xe fh) X.xe s:=by
 refine fq (ha ac s Z H _ I h) λv s1 cZ=>?_
 obtain⟨x,H1,I1,r1,q1⟩:=cZ
 refine fq (hb ac s1 Z H1 _ I1 q1) λu s2 cZ=>?_
 obtain⟨y,H2,I2,r2,q2⟩:=cZ
 exact hf v u s2 x y H2 I2 r1 r2 q2
def bT (ho:lU X (binaryOp op) r) (ha:PE X a ta) (hb:PE X b tb):PE X (.BinOp a op b pos) (gJ r ta tb):=by
 intro ac s Z H Q I h
 exact wpAny_BinOp (OK ha hb I h λv u s2 x y H2 I2 rx ry q=>ho ac s2 Z H2 x y v u Q I2 rx ry q)
def qj (ho:Xd X (unaryOp op) r) (ha:PE X a ta):PE X (.UnaryOp op a pos) (tUn r ta):=by
 intro ac s Z H Q I h
 refine UnaryOp_ (fq (ha ac s Z H _ I h) λv s1 cZ=>?_)
 obtain⟨x,H1,I1,r1,q1⟩:=cZ
 exact ho ac s1 Z H1 x v Q I1 r1 q1
def SR {g:Int->Int->Int}
  (rule:∀(i j:Int) (t u:Tok) (s:aj) (Q:ag->aj->Prop) (E:ag->aj->Prop),C i j->Q (.int (g i j) s.toks) {s with toks:=s.toks+1}->wpAny (model X.prog X.w) X.A (f (.int i t) (.int j u)) Q E s):
  lU X f (rI C λi j=>.int (g i j)):=by
 intro ac s Z H x y v u Q I rx ry h
 obtain⟨i,j,rfl,rfl,hc,q⟩:=h
 obtain⟨t,rfl⟩:=rx
 obtain⟨t',rfl⟩:=ry
 exact rule i j t t' s _ _ hc ⟨.int (g i j),H,I.tok _,⟨_,rfl⟩,q⟩
def SS {g:Int->Int->Int}
  (rule:∀(i j:Int) (t u:Tok) (s:aj) (Q:ag->aj->Prop) (E:ag->aj->Prop),Q (.int (g i j) s.toks) {s with toks:=s.toks+1}->wpAny (model X.prog X.w) X.A (f (.int i t) (.int j u)) Q E s):
  lU X f (Ha λi j=>.int (g i j)):=by
 intro ac s Z H x y v u Q I rx ry h
 obtain⟨i,j,rfl,rfl,q⟩:=h
 obtain⟨t,rfl⟩:=rx
 obtain⟨t',rfl⟩:=ry
 exact rule i j t t' s _ _ ⟨.int (g i j),H,I.tok _,⟨_,rfl⟩,q⟩
def K7 {g:Int->Int->Bool}
  (rule:∀(i j:Int) (t u:Tok) (s:aj) (Q:ag->aj->Prop) (E:ag->aj->Prop),Q (.bool (g i j)) s->wpAny (model X.prog X.w) X.A (f (.int i t) (.int j u)) Q E s):
  lU X f (Ha λi j=>.bl (g i j)):=by
 intro ac s Z H x y v u Q I rx ry h
 obtain⟨i,j,rfl,rfl,q⟩:=h
 obtain⟨t,rfl⟩:=rx
 obtain⟨t',rfl⟩:=ry
 exact rule i j t t' s _ _ ⟨.bl (g i j),H,I,rfl,q⟩
def Xf (i j:Int):Prop:=0<j/\j<1073741824
def SU (i j:Int):Prop:=0<=j/\j<=1000000/\i.natAbs<2^64
def FA (i j:Int):Prop:=(-(2^64)<i/\i<2^64)\/(-(2^64)<j/\j<2^64)
def FA.ok (h:FA i j):IntMulOk i j:=by
 rcases h with⟨h1,h2⟩|⟨h1,h2⟩
 .exact .of_left (intBits_le_64 h1 h2)
 .exact .of_right (intBits_le_64 h1 h2)
def gi:lU X (binaryOp .Add) (Ha λi j=>.int (i+j)):=SS λ_ _ _ _ _ _ _ q=>add_int q
def mj:lU X (binaryOp .Sub) (Ha λi j=>.int (i-j)):=SS λ_ _ _ _ _ _ _ q=>sub_int q
def mq:lU X (binaryOp .Mult) (rI FA λi j=>.int (i*j)):=SR λ_ _ _ _ _ _ _ hc q=>mul_int q hc.ok
def Ej:lU X (binaryOp .FloorDiv) (rI Xf λi j=>.int (i/j)):=SR λi j _ _ _ _ _ hc q=>by
 have h1:(0:Int)<j:=hc.1
 have h2:j<1073741824:=hc.2
 exact floordiv_int ω (by rw[KQ i ω];exact q) (.inl (PyProof.noPylong_small ω))
def nB:lU X (binaryOp .Mod) (rI (λ_ j=>0<j) λi j=>.int (i %j)):=SR λi j _ _ _ _ _ hc q=>by
 have h1:(0:Int)<j:=hc
 exact mod_int' ω (by rw[Int.fmod_eq_emod_of_nonneg i ω];exact q)
def mv:lU X (binaryOp .Pow) (rI SU λi j=>.int (i^j.toNat)):=SR λ_ _ _ _ _ _ _ hc q=>pow_int_small hc.1 hc.2.1 hc.2.2 q
def unI {g:Int->Int}
  (rule:∀(i:Int) (t:Tok) (s:aj) (Q:ag->aj->Prop) (E:ag->aj->Prop),Q (.int (g i) s.toks) {s with toks:=s.toks+1}->wpAny (model X.prog X.w) X.A (f (.int i t)) Q E s):
  Xd X f (rU λi=>.int (g i)):=by
 intro ac s Z H x v Q I rx h
 obtain⟨i,rfl,q⟩:=h
 obtain⟨t,rfl⟩:=rx
 exact rule i t s _ _ ⟨.int (g i),H,I.tok _,⟨_,rfl⟩,q⟩
def mw:Xd X (unaryOp .USub) (rU λi=>.int (-i)):=unI λ_ _ _ _ _ q=>neg_int q
end
def SV:V->V->Bool
 | .eK,.eK=>true| .eK,.int _=>true| .int _,.eK=>true| .eK,.bl _=>true| .bl _,.eK=>true| .eK,.str _=>true| .str _,.eK=>true
 | .int _,.int _=>true| .bl _,.bl _=>true| .str _,.str _=>true| .Ea _,.Ea _=>true
 | .int _,.str _=>true| .str _,.int _=>true| .bl _,.str _=>true| .str _,.bl _=>true
 |_,_=>false
def Hb:R2:=λx y H Q=>SV x y=true/\Q (.bl (decide (x=y))) H
def K8:R2:=λx y H Q=>SV x y=true/\Q (.bl (!decide (x=y))) H
def Ek:decide (V.int i=V.int j)=(i==j):=by
 rw[uM]
 simp
def HB:decide (V.bl i=V.bl j)=(i==j):=by
 rw[uM]
 simp
def El:decide (V.str i=V.str j)=(i==j):=by
 rw[uM]
 simp
def Em:decide (V.Ea i=V.Ea j)=(i.toList==j.toList):=by
 rw[uM]
 cases i
 cases j
 simp
section
variable {X:Cx}{a b c:Expr}{ta tb tc:TE}{pos:Pos}
def eI (I:Inv X ac Z H s) (q:Q (.bl k) H) (e:k=k'):EP X ac Z Q (.bool k') s:=by
 subst e
 exact⟨.bl k,H,I,rfl,q⟩
def ie:lU X (compareOp .Eq) Hb:=by
 intro ac s Z H x y v u Q I rx ry h
 obtain⟨hs,q⟩:=h
 cases x with
 |eK=>
  cases rx
  cases y with
  |eK=>cases ry;exact PySem.EqNone.eq_none_none (eI I q ς)
  |bl j=>cases ry;exact PySem.EqNone.eq_none_bool (eI I q ς)
  |int j=>obtain⟨t',rfl⟩:=ry;exact PySem.EqNone.eq_none_int (eI I q ς)
  |str j=>obtain⟨t',rfl⟩:=ry;exact PySem.EqNone.eq_none_str (eI I q ς)
  |_=>exact absurd (show false=true from hs) bA
 |bl i=>
  cases rx
  cases y with
  |eK=>cases ry;exact PySem.EqNone.eq_bool_none (eI I q ς)
  |bl j=>cases ry;exact eq_bool (eI I q HB)
  |str j=>obtain⟨t',rfl⟩:=ry;exact PySem.EqMixed.eq_bool_str (eI I q ς)
  |_=>exact absurd (show false=true from hs) bA
 |int i=>
  obtain⟨t,rfl⟩:=rx
  cases y with
  |eK=>cases ry;exact PySem.EqNone.eq_int_none (eI I q ς)
  |int j=>obtain⟨t',rfl⟩:=ry;exact eq_int (eI I q Ek)
  |str j=>obtain⟨t',rfl⟩:=ry;exact PySem.EqMixed.eq_int_str (eI I q ς)
  |_=>exact absurd (show false=true from hs) bA
 |str i=>
  obtain⟨t,rfl⟩:=rx
  cases y with
  |eK=>cases ry;exact PySem.EqNone.eq_str_none (eI I q ς)
  |bl j=>cases ry;exact PySem.EqMixed.eq_str_bool (eI I q ς)
  |int j=>obtain⟨t',rfl⟩:=ry;exact PySem.EqMixed.eq_str_int (eI I q ς)
  |str j=>obtain⟨t',rfl⟩:=ry;exact eq_str (eI I q El)
  |_=>exact absurd (show false=true from hs) bA
 |Ea i=>
  obtain⟨t,rfl⟩:=rx
  cases y with
  |Ea j=>obtain⟨t',rfl⟩:=ry;exact PySem.W.eq_bytes (eI I q Em)
  |_=>exact absurd (show false=true from hs) bA
 |_=>cases y<;>exact absurd (show false=true from hs) bA
def mT:lU X (compareOp .NotEq) K8:=by
 intro ac s Z H x y v u Q I rx ry h
 obtain⟨hs,q⟩:=h
 cases x with
 |eK=>
  cases rx
  cases y with
  |eK=>cases ry;exact PySem.EqNone.ne_none_none (eI I q ς)
  |bl j=>cases ry;exact PySem.EqNone.ne_none_bool (eI I q ς)
  |int j=>obtain⟨t',rfl⟩:=ry;exact PySem.EqNone.ne_none_int (eI I q ς)
  |str j=>obtain⟨t',rfl⟩:=ry;exact PySem.EqNone.ne_none_str (eI I q ς)
  |_=>exact absurd (show false=true from hs) bA
 |bl i=>
  cases rx
  cases y with
  |eK=>cases ry;exact PySem.EqNone.ne_bool_none (eI I q ς)
  |bl j=>cases ry;exact ne_bool (eI I q (iD not HB))
  |str j=>obtain⟨t',rfl⟩:=ry;exact PySem.EqMixed.ne_bool_str (eI I q ς)
  |_=>exact absurd (show false=true from hs) bA
 |int i=>
  obtain⟨t,rfl⟩:=rx
  cases y with
  |eK=>cases ry;exact PySem.EqNone.ne_int_none (eI I q ς)
  |int j=>obtain⟨t',rfl⟩:=ry;exact ne_int (eI I q (iD not Ek))
  |str j=>obtain⟨t',rfl⟩:=ry;exact PySem.EqMixed.ne_int_str (eI I q ς)
  |_=>exact absurd (show false=true from hs) bA
 |str i=>
  obtain⟨t,rfl⟩:=rx
  cases y with
  |eK=>cases ry;exact PySem.EqNone.ne_str_none (eI I q ς)
  |bl j=>cases ry;exact PySem.EqMixed.ne_str_bool (eI I q ς)
  |int j=>obtain⟨t',rfl⟩:=ry;exact PySem.EqMixed.ne_str_int (eI I q ς)
  |str j=>obtain⟨t',rfl⟩:=ry;exact ne_str (eI I q (iD not El))
  |_=>exact absurd (show false=true from hs) bA
 |Ea i=>
  obtain⟨t,rfl⟩:=rx
  cases y with
  |Ea j=>obtain⟨t',rfl⟩:=ry;exact PySem.W.ne_bytes (eI I q (iD not Em))
  |_=>exact absurd (show false=true from hs) bA
 |_=>cases y<;>exact absurd (show false=true from hs) bA
def rA:lU X (compareOp .Lt) (Ha λi j=>.bl (decide (i<j))):=K7 λ_ _ _ _ _ _ _ q=>lt_int q
def rB:lU X (compareOp .LtE) (Ha λi j=>.bl (decide (i<=j))):=K7 λ_ _ _ _ _ _ _ q=>le_int q
def xS:lU X (compareOp .Gt) (Ha λi j=>.bl (decide (j<i))):=K7 λ_ _ _ _ _ _ _ q=>gt_int q
def HC:lU X (compareOp .GtE) (Ha λi j=>.bl (decide (j<=i))):=K7 λ_ _ _ _ _ _ _ q=>ge_int q
def FC:lU X (compareOp .Lt) (λx y H Q=>∃i j,x=.str i/\y=.str j/\Q (.bl (decide (i.cps.toList<j.cps.toList))) H):=by
 intro ac s Z H x y v u Q I rx ry h
 obtain⟨i,j,rfl,rfl,q⟩:=h
 obtain⟨t,rfl⟩:=rx
 obtain⟨t',rfl⟩:=ry
 exact lt_str (eI I q rfl)
def OO:lU X (compareOp .Is) (λx y H Q=>y=.eK/\Q (.bl (decide (x=.eK))) H):=by
 intro ac s Z H x y v u Q I rx ry h
 obtain⟨rfl,q⟩:=h
 cases ry
 refine is_none_gen (eI I q ?_)
 cases x<;>first
  |(cases rx;rfl)
  |(obtain⟨t,rfl⟩:=rx;rfl)
def En:lU X (compareOp .IsNot) (λx y H Q=>y=.eK/\Q (.bl (!decide (x=.eK))) H):=by
 intro ac s Z H x y v u Q I rx ry h
 obtain⟨rfl,q⟩:=h
 cases ry
 refine isnot_none_gen (eI I q ?_)
 cases x<;>first
  |(cases rx;rfl)
  |(obtain⟨t,rfl⟩:=rx;rfl)
def bP (b:Expr) (h:op≠.In:=by decide) (h2:op≠.NotIn:=by decide):behindInMarks op b=false:=by
 have e1:(op==CmpOp.In)=false:=by cases op<;>first|rfl|exact absurd rfl h
 have e2:(op==CmpOp.NotIn)=false:=by cases op<;>first|rfl|exact absurd rfl h2
 cases b<;>simp[behindInMarks,e1,e2]
def jZ {op:CmpOp}{r:R2}(ho:lU X (compareOp op) r) (ha:PE X a ta) (hb:PE X b tb) (hm:behindInMarks op b=false):PE X (.Compare a [op] [b] pos) (gJ r ta tb):=by
 intro ac s Z H Q I h
 exact wpAny_Compare1 (OK ha hb I h λv u s2 x y H2 I2 rx ry q=>ho ac s2 Z H2 x y v u Q I2 rx ry q) hm
def gw (t:TE):TT:=λZ H Q=>t Z H λx H'=>∃k,x=.bl k/\Q k H'
def bo (ho:lU X (compareOp op) r) (ha:PE X a ta) (hb:PE X b tb) (hm:behindInMarks op b=false):PT X (.Compare a [op] [b] pos) (gw (gJ r ta tb)):=by
 intro ac s Z H Q I h
 refine wpAny_isTrue_Compare1 (fq (ha ac s Z H _ I h) λv s1 cZ=>?_) hm
 obtain⟨x,H1,I1,r1,q1⟩:=cZ
 refine fq (hb ac s1 Z H1 _ I1 q1) λu s2 Ao=>?_
 obtain⟨y,H2,I2,r2,q2⟩:=Ao
 refine fq (ho ac s2 Z H2 x y v u _ I2 r1 r2 q2) λc s3 SW=>?_
 obtain⟨z,H3,I3,r3,k,e,q3⟩:=SW
 subst e
 cases r3
 exact ek ⟨H3,I3,q3⟩
def HD (r r':R2) (ta tb tc:TE):TE:=λZ H Q=>ta Z H λx H1=>tb Z H1 λy H2=>r x y H2 λz H3=>∃k,z=.bl k/\
 (if k=true then tc Z H3 λw' H4=>r' y w' H4 Q else Q (.bl false) H3)
def rC (ho:lU X (compareOp op) r) (Ak:lU X (compareOp SX) r') (ha:PE X a ta) (hb:PE X b tb) (hc:PE X c tc)
  (hm:lastMarks [op,SX] [b,c]=false:=by with_unfolding_all rfl):PE X (.Compare a [op,SX] [b,c] pos) (HD r r' ta tb tc):=by
 intro ac s Z H Q I h
 refine Compare_chain (fq (ha ac s Z H _ I h) λv s1 cZ=>?_) hm
 obtain⟨x,H1,I1,r1,q1⟩:=cZ
 refine chain_link (fq (hb ac s1 Z H1 _ I1 q1) λu s2 Ao=>?_)
 obtain⟨y,H2,I2,r2,q2⟩:=Ao
 refine fq (ho ac s2 Z H2 x y v u _ I2 r1 r2 q2) λd s3 SW=>?_
 obtain⟨z,H3,I3,r3,k,e,q3⟩:=SW
 subst e
 cases r3
 refine ek ?_
 cases k with
 |false=>exact ite_ff ⟨.bl false,H3,I3,rfl,q3⟩
 |true=>
  refine ite_tt (chain_last (fq (hc ac s3 Z H3 _ I3 q3) λw' s4 cZ=>?_))
  obtain⟨z',H4,I4,r4,q4⟩:=cZ
  exact Ak ac s4 Z H4 y z' u w' Q I4 r2 r4 q4
def rD (ho:lU X (compareOp op) r) (Ak:lU X (compareOp SX) r') (ha:PE X a ta) (hb:PE X b tb) (hc:PE X c tc)
  (hm:lastMarks [op,SX] [b,c]=false:=by with_unfolding_all rfl):PT X (.Compare a [op,SX] [b,c] pos) (gw (HD r r' ta tb tc)):=by
 intro ac s Z H Q I h
 refine isTrue_chain (fq (ha ac s Z H _ I h) λv s1 cZ=>?_) hm
 obtain⟨x,H1,I1,r1,q1⟩:=cZ
 refine test_link (fq (hb ac s1 Z H1 _ I1 q1) λu s2 Ao=>?_)
 obtain⟨y,H2,I2,r2,q2⟩:=Ao
 refine fq (ho ac s2 Z H2 x y v u _ I2 r1 r2 q2) λd s3 SW=>?_
 obtain⟨z,H3,I3,r3,k,e,q3⟩:=SW
 subst e
 cases r3
 refine ek ?_
 cases k with
 |false=>
  obtain⟨k',e',q'⟩:=q3
  cases e'
  exact ite_ff ⟨H3,I3,q'⟩
 |true=>
  refine ite_tt (test_last (fq (hc ac s3 Z H3 _ I3 q3) λw' s4 cZ=>?_))
  obtain⟨z',H4,I4,r4,q4⟩:=cZ
  refine fq (Ak ac s4 Z H4 y z' u w' _ I4 r2 r4 q4) λd' s5 Ao=>?_
  obtain⟨z2,H5,I5,r5,k2,e2,q5⟩:=Ao
  subst e2
  cases r5
  exact ek ⟨H5,I5,q5⟩
def SY (K:Φ) (x:V) (H:Hp) (k:Bool):Prop:=
 match x with
 | .eK=>k=false
 | .bl b=>k=b
 | .int i=>k=(i !=0)
 | .str y=>y.length<=sizeLine/\k=((y.length:Int) !=0)
 | .Ea y=>y.size<=sizeLine/\k=((y.size:Int) !=0)
 | .ref p=>(∃xs,cT K H p xs/\k= !xs.isEmpty)\/(∃xs,bZ K H p xs/\k= !xs.isEmpty)\/∃dO,H p=some (.dK dO)/\k= !dO.isEmpty
 |_=>False
def B3 {κ:Type}{dO:List (κ×V)}{vs:List (κ×ag)}(r:KV dO vs):(!vs.isEmpty)= !dO.isEmpty:=by
 cases r<;>rfl
def vC (r:cz xs cF):(!cF.toArray.isEmpty)= !xs.isEmpty:=by
 cases r<;>simp
def sZ:(sizeLine:Nat)<2^63:=by rw[gX];decide
def OQ:Xe X (λx H Q=>∃k,SY X.K x H k/\Q k H):=by
 intro ac s Z H x v Q I rx h
 obtain⟨k,e,q⟩:=h
 have hl:=sZ
 have hs:sizeLine=16777216:=gX
 cases x with
 |eK=>
  cases rx
  have e':k=false:=e
  subst e'
  exact truthy_none ⟨H,I,q⟩
 |bl b=>
  cases rx
  have e':k=b:=e
  subst e'
  exact ek ⟨H,I,q⟩
 |int i=>
  obtain⟨t,rfl⟩:=rx
  have e':k=(i !=0):=e
  subst e'
  exact PySem.P.truthy_int ⟨H,I,q⟩
 |str y=>
  obtain⟨t,rfl⟩:=rx
  obtain⟨hy,e'⟩:y.length<=sizeLine/\k=((y.length:Int) !=0):=e
  subst e'
  exact PySem.P.truthy_str ω ⟨H,I.tok _,q⟩
 |Ea y=>
  obtain⟨t,rfl⟩:=rx
  obtain⟨hy,e'⟩:y.size<=sizeLine/\k=((y.size:Int) !=0):=e
  subst e'
  exact PySem.W.truthy_bytes ω ⟨H,I.tok _,q⟩
 |ref p=>
  cases rx
  have e':(∃xs,cT X.K H p xs/\k= !xs.isEmpty)\/(∃xs,bZ X.K H p xs/\k= !xs.isEmpty)\/∃dO,H p=some (.dK dO)/\k= !dO.isEmpty:=e
  rcases e' with⟨xs,hx,e'⟩|⟨xs,hx,e'⟩|⟨dO,hx,e'⟩
  .subst e'
   obtain⟨cF,r,pl,hz⟩:=I.list hx
   have hlen:=r.length
   exact wpAny_truthy_list pl.isList (by simp only[aH];omega) ⟨H,I.tok _,by rw[vC r];exact q⟩
  .subst e'
   obtain⟨cF,r,pl,hz⟩:=I.tuple hx
   have hlen:=r.length
   exact truthy_tuple pl (by simp only[aH];omega) ⟨H,I.tok _,by rw[vC r];exact q⟩
  .subst e'
   obtain⟨hz,hS,vs,r,m⟩:dO.length<=sizeLine/\(p==sysModules)=false/\∃vs,KV dO vs/\s.heap.DictOf (gz X.prog X.w) p vs:=I.eN p _ hx
   have hlen:dO.length=vs.length:=pN r
   exact wpAny_truthy_dict hS m ω ⟨H,I.tok _,by rw[B3 r];exact q⟩
 |_=>exact(show False from e).elim
def B5:lU X (binaryOp .Add) (λx y H Q=>∃i j,x=.str i/\y=.str j/\i.length+j.length<=sizeLine/\Q (.str (i++j)) H):=by
 intro ac s Z H x y v u Q I rx ry h
 obtain⟨i,j,rfl,rfl,hz,q⟩:=h
 obtain⟨t,rfl⟩:=rx
 obtain⟨t',rfl⟩:=ry
 exact add_str (λt' tk=>⟨.str (i++j),H,I.tok _,⟨_,rfl⟩,q⟩) hz
def Ae (r:cz [x] us):∃u,us=[u]/\RelV x u:=by
 cases r with
 |cons r1 r2=>cases r2;exact⟨_,rfl,r1⟩
def vals2 (r:cz [x,y] us):∃u w',us=[u,w']/\RelV x u/\RelV y w':=by
 cases r with
 |cons r1 r2=>
  cases r2 with
  |cons r3 r4=>cases r4;exact⟨_,_,rfl,r1,r3⟩
def vD:gN X (.builtin "abs") (λxs H Q=>∃i,xs=[.int i]/\Q (.int (if i<0 then-i else i)) H):=by
 intro ac s Z H xs us Q I r h
 obtain⟨i,rfl,q⟩:=h
 obtain⟨u,rfl,t,rfl⟩:=Ae r
 exact call_abs_int λu tk=>⟨.int (if i<0 then-i else i),H,I.tok _,⟨_,rfl⟩,q⟩
def xT (hc:X.calm=true):gN X (.builtin "max") (λxs H Q=>∃i j,xs=[.int i,.int j]/\Q (.int (if j>i then j else i)) H):=by
 intro ac s Z H xs us Q I r h
 obtain⟨i,j,rfl,q⟩:=h
 obtain⟨u,w',rfl,⟨t,rfl⟩,⟨t',rfl⟩⟩:=vals2 r
 refine max_two_ints (I.ok.hd hc) λh' tk k=>⟨_,H,I.kept k,?_,q⟩
 by_cases hj:j>i
 .rw[aQ hj,aQ hj];exact⟨_,rfl⟩
 .rw[aO hj,aO hj];exact⟨_,rfl⟩
def FD (hc:X.calm=true):gN X (.builtin "min") (λxs H Q=>∃i j,xs=[.int i,.int j]/\Q (.int (if j<i then j else i)) H):=by
 intro ac s Z H xs us Q I r h
 obtain⟨i,j,rfl,q⟩:=h
 obtain⟨u,w',rfl,⟨t,rfl⟩,⟨t',rfl⟩⟩:=vals2 r
 refine min_two_ints (I.ok.hd hc) λh' tk k=>⟨_,H,I.kept k,?_,q⟩
 by_cases hj:j<i
 .rw[aQ hj,aQ hj];exact⟨_,rfl⟩
 .rw[aO hj,aO hj];exact⟨_,rfl⟩
def FE:gN X (.type "int") (λxs H Q=>(∃i,xs=[.int i]/\Q (.int i) H)\/∃k,xs=[.bl k]/\Q (.int (if k then 1 else 0)) H):=by
 intro ac s Z H xs us Q I r h
 rcases h with⟨i,rfl,q⟩|⟨k,rfl,q⟩
 .obtain⟨u,rfl,t,rfl⟩:=Ae r
  exact call_int_int ⟨.int i,H,I,⟨_,rfl⟩,q⟩
 .obtain⟨u,rfl,r1⟩:=Ae r
  cases r1
  exact call_int_bool ⟨.int (if k then 1 else 0),H,I.tok _,⟨_,rfl⟩,q⟩
def yX:gN X (.type "str") (λxs H Q=>∃i,xs=[.int i]/\i.natAbs.log2<1920/\Q (.str (toString i)) H):=by
 intro ac s Z H xs us Q I r h
 obtain⟨i,rfl,hz,q⟩:=h
 obtain⟨u,rfl,t,rfl⟩:=Ae r
 exact PySem.P.str_of_int hz ⟨.str _,H,I.tok _,⟨_,rfl⟩,q⟩
end
structure B6 (h:Heap) (x dx C:ai) (mA:Str->Option ag):Prop where
 obj:h.get? x=some (PySem.W.instObj C dx)
 ns:h.Ns1 dx mA
 ne:dx≠x
def xU {h:Heap} (n:h.Ns1 dx mA):∃od,h.get? dx=some od/\∀name,PySem.W.lookIn name od=some (mA name):=by
 obtain⟨o,es,ep,ho,hd,hk,_,hm⟩:=n
 refine⟨o,ho,λname=>?_⟩
 have e:=hm name
 unfold nsFind findBy at e
 rw[<-Array.find?_toList] at e
 unfold PySem.W.lookIn
 rw[hd]
 dsimp only
 split
 .rename_i y q
  rw[q] at e
  exact iD some e
 .rename_i q
  rw[q] at e
  have a:es.toList.any (·.refKey)=false:=by
   rw[BG]
   intro y hy
   obtain⟨z,t,Xg⟩:=hk y (Array.mem_toList_iff.mp hy)
   simp[DictEntry.refKey,Xg]
  have a':¬es.toList.any (·.refKey)=true:=by rw[a];exact bA
  rw[aO a']
  exact iD some e
def B6.look (I:B6 h x dx C mA):∃od,PySem.W.InstAt h x (PySem.W.instObj C dx) C (some od)/\∀name,PySem.W.lookIn name od=some (mA name):=
 let⟨od,ho,hl⟩:=xU I.ns
 ⟨od,⟨I.obj,rfl,rfl,ho⟩,hl⟩
section
variable {prog:aM}{w:bB}{A:bG}{E:ag->aj->Prop}{s:aj}{K:Φ}{x dx C f:ai}{mA:Str->Option ag}{name:Str}{v:ag}
def get_map (X:K.In s.heap) (I:B6 s.heap x dx C mA) (hg:PySem.W.plainGet K C name=true) (hh:PySem.W.hasDictIn K C=true)
  (ha:PySem.W.findIn K (.ref C) name=some none) (hv:mA name=some v) (hv':PySem.W.handedIn v=true) (h:Q v {s with toks:=s.toks+1}):
  wpAny (model prog w) A (getAttr (.ref x) name expr) Q E s:=by
 obtain⟨od,J,hl⟩:=I.look
 exact PySem.W.get_value X J (yD hg).1 (PySem.W.findObj_own hh ha rfl (by rw[hl,hv])) hv' h
def HE (X:K.In s.heap) (I:B6 s.heap x dx C mA) (hg:PySem.W.plainGet K C name=true)
  (hf:PySem.W.findIn K (.ref C) name=some (some (.ref f))) (ht:PySem.W.isFn K (.ref f)=true) (hv:mA name=none) (h:Q (.ref f,[.ref x]) s):
  wpAny (model prog w) A (getMethod (.ref x) name pl) Q E s:=by
 obtain⟨od,J,hl⟩:=I.look
 exact PySem.W.method_fn X J (yD hg).1 (yD hg).2 hf (iT.mp ht) (by show(PySem.W.lookIn name od).map (·.isSome)=some false;rw[hl,hv];rfl) h
def K9 (X:K.In s.heap) (I:B6 s.heap x dx C mA)
  (hs:PySem.W.findIn K (.ref C) "__setattr__"=some (some (.builtin "object.__setattr__"))) (hp:PySem.W.plainOver K C=true) (ht:PySem.W.takerIn K C name=some none) (hh:PySem.W.hasDictIn K C=true)
  (hw:PySem.Within mA ns) (hsz:ns.length<=sizeLine)
  (h:∀h',B6 h' x dx C (λy=>if y=name then some v else mA y)->Heap.SameBut dx s.heap h'->Q () {s with heap:=h',toks:=s.toks+2}):
  wpAny (model prog w) A (setAttr (.ref x) name v) Q E s:=by
 obtain⟨od,J,hl⟩:=I.look
 refine PySem.W.set_plain X J hs (PySem.W.osa_open (s:={s with toks:=s.toks+1}) (r:=none) X J hp ht λb=>?_)
 obtain⟨cd,hc,WY⟩:=PySem.W.any_some hh
 have hx:s.heap.get? x=some ⟨.ref C,some dx,.plain,#[]⟩:=I.obj
 refine aa (ak (aa (aa (BH hx (aa (PySem.W.Looks.here (s:={s with toks:=s.toks+1}) (PySem.W.looks_clsIn X hc) ?_))))))
 rw[WY]
 refine ak (a:=some dx) (aa (ak (aa ?_)))
 refine wpAny_nsSet1 (s:={s with toks:=s.toks+1}) I.ns λh' KH Hc=>?_
 obtain⟨oD,esD,epD,Xh,Xi,Xj⟩:=KH.count (PySem.Within.cons name v hw)
 refine aa (wpAny_lookBehind Xh (by rw[Xi];exact pastItsLine_dict (aA Xj (by rw[cI];omega))) ?_)
 exact ak (h _ ⟨(Hc.2 _ (cD I.ne)).trans I.obj,KH,I.ne⟩ Hc)
def HF {R:Result->aj->Prop}{vs:List ag}{kw:List (Str×ag)}(X:K.In s.heap) (hm:PySem.W.makesIn K C=true)
  (hi:PySem.W.findIn K (.ref C) "__init__"=some (some (.ref f))) (hf:PySem.W.typeIn K (.ref f)=some (.type "function"))
  (h:codeAny (model prog w) (A.under (.builtin "type.__call__" ⟨.ref C::vs,kw⟩)) (.call (.ref f) ⟨.ref (s.heap.objs.size+1)::vs,kw⟩) (PySem.W.InitBack (s.heap.objs.size+1) R)
   {s with heap:=(s.heap.push PySem.W.emptyDict).push (PySem.W.instObj C s.heap.objs.size)}):
  codeAny (model prog w) A (.call (.ref C) ⟨vs,kw⟩) R s:=by
 obtain⟨hh,g,d,t,os⟩:=s
 exact PySem.W.make_core (PySem.W.makes_of X hm) (PySem.W.looks_findIn X hi) (λself=>PySem.W.bind_fn X self hf) (.inl rfl) h
end
def kx (f:Str) (v:V):List (Str×V)->List (Str×V)
 | []=>[(f,v)]
 |(g,x)::r=>if g=f then(g,v)::r else(g,x)::kx f v r
def tZ (f g:Str) (v:V):∀fs:List (Str×V),(kx f v fs).lookup g=if g=f then some v else fs.lookup g
 | []=>by
  show List.lookup g [(f,v)]=_
  by_cases h:g=f
  .have hb:(g==f)=true:=iT.mpr h
   simp only[List.lookup,hb,aQ h]
  .have hb:(g==f)=false:=ot.mpr h
   simp only[List.lookup,hb,aO h]
 |(k,x)::r=>by
  have ih:=tZ f g v r
  rw[show kx f v ((k,x)::r)=(if k=f then(k,v)::r else(k,x)::kx f v r) from rfl]
  by_cases hk:k=f
  .rw[aQ hk]
   by_cases h:g=k
   .have hb:(g==k)=true:=iT.mpr h
    simp only[List.lookup,hb,aQ (h.trans hk)]
   .have hb:(g==k)=false:=ot.mpr h
    simp only[List.lookup,hb,aO (λe:g=f=>h (e.trans hk.symm))]
  .rw[aO hk]
   by_cases h:g=k
   .have hb:(g==k)=true:=iT.mpr h
    simp only[List.lookup,hb,aO (λe:g=f=>hk (h.symm.trans e))]
   .have hb:(g==k)=false:=ot.mpr h
    simp only[List.lookup,hb]
    exact ih
def s_ (f:Str) (v:V):∀fs:List (Str×V),f∈(kx f v fs).map (·.1)/\∀g,g∈fs.map (·.1)->g∈(kx f v fs).map (·.1)
 | []=>⟨by simp[kx],λg h=>by simp at h⟩
 |(k,x)::r=>by
  obtain⟨i1,i2⟩:=s_ f v r
  rw[show kx f v ((k,x)::r)=(if k=f then(k,v)::r else(k,x)::kx f v r) from rfl]
  by_cases hk:k=f
  .rw[aQ hk]
   subst hk
   exact⟨ς,λg h=>by simpa using h⟩
  .rw[aO hk]
   refine⟨?_,λg h=>?_⟩
   .rw[bK]
    exact cu _ i1
   .rw[bK] at h⊢
    rcases aD.mp h with e|e
    .exact aD.mpr (.inl e)
    .exact cu _ (i2 g e)
def t_ (f:Str) (v:V):∀fs:List (Str×V),(kx f v fs).length<=fs.length+1
 | []=>by simp[kx]
 |(k,x)::r=>by
  have ih:=t_ f v r
  rw[show kx f v ((k,x)::r)=(if k=f then(k,v)::r else(k,x)::kx f v r) from rfl]
  by_cases hk:k=f
  .rw[aQ hk,cI,cI];omega
  .rw[aO hk,cI,cI];omega
def oo.some_of (r:oo (some v) o):∃u,o=some u/\RelV v u:=by
 cases o with
 |none=>exact(show False from r).elim
 |some u=>exact⟨u,rfl,r⟩
def oo.none_of (r:oo none o):o=none:=by
 cases o with
 |none=>rfl
 |some u=>exact(show False from r).elim
def xV (r:RelV v u):PySem.W.handedIn u=true:=by
 cases v with
 |eK=>cases(show u=Value.none from r);rfl
 |bl b=>cases(show u=Value.bool b from r);rfl
 |int i=>obtain⟨t,e⟩:=(show∃t,u=Value.int i t from r);cases e;rfl
 |str x=>obtain⟨t,e⟩:=(show∃t,u=Value.str x t from r);cases e;rfl
 |Ea b=>obtain⟨t,e⟩:=(show∃t,u=Value.bytes b t from r);cases e;rfl
 |Ow b=>obtain⟨t,e⟩:=(show∃t,u=Value.float b t from r);cases e;rfl
 |ref a=>cases(show u=Value.ref a from r);rfl
 |ty n=>cases(show u=Value.type n from r);rfl
section
variable {P:aM}{w:bB}{H H':Hp}{h h':Heap}{a C dx:ai}{fs fs':List (Str×V)}
def uT (eN:qi P w H h) (e:H a=some (.ins C dx fs)):∃mA,B6 h a dx C mA/\(∀f,oo (fs.lookup f) (mA f))/\PySem.Within mA (fs.map (·.1))/\fs.length<=1000/\H dx=some (.own a):=by
 obtain⟨d,z,ne,ob,mA,n,r,q⟩:=(show fV P w H h a (.ins C dx fs) from eN a _ e)
 exact⟨mA,⟨ob,n,ne⟩,r,q,z,d⟩
end
structure By (K:Φ) (C:ai):Prop where
 pg:PySem.W.plainGet K C Str.empty=true
 hd:PySem.W.hasDictIn K C=true
 po:PySem.W.plainOver K C=true
 sa:PySem.W.findIn K (.ref C) "__setattr__"=some (some (.builtin "object.__setattr__"))
def By.get {K:Φ}(c:By K C) (f:Str):PySem.W.plainGet K C f=true:=c.pg
def jA (K:Φ) (C:ai) (f:Str):Prop:=PySem.W.findIn K (.ref C) f=some none
def jA.S1 {K:Φ} (n:jA K C f):PySem.W.takerIn K C f=some none:=by
 unfold PySem.W.takerIn
 rw[show PySem.W.findIn K (.ref C) f=some none from n]
 rfl
structure yY (K:Φ) (C:ai) (m:Str) (f:ai):Prop where
 at_:PySem.W.findIn K (.ref C) m=some (some (.ref f))
 fn:PySem.W.isFn K (.ref f)=true
 kp:PySem.W.keepIn K (.ref f)=true
section
variable {X:Cx}{ac:List (ai×Obj)}{Z:St}{H:Hp}{s:aj}{a C dx:ai}{fs:List (Str×V)}{f:Str}{v:V}{A:bG}{E:ag->aj->Prop}
def B7 (I:Inv X ac Z H s) (e:H a=some (.ins C dx fs)) (c:By X.K C) (n:jA X.K C f) (l:fs.lookup f=some v)
  (h:∀u s',Inv X ac Z H s'->RelV v u->Q u s'):wpAny (model X.prog X.w) A (getAttr (.ref a) f b) Q E s:=by
 obtain⟨mA,O,r,_,_,_⟩:=uT I.eN e
 obtain⟨u,hu,ru⟩:=oo.some_of (v:=v) (o:=mA f) (by rw[<-l];exact r f)
 exact get_map I.kY O (c.get f) c.hd n hu (xV ru) (h u _ (I.tok _) ru)
def lh (I:Inv X ac Z H s) (e:H a=some (.ins C dx fs)) (c:By X.K C) (k:yY X.K C m g) (l:fs.lookup m=none)
  (h:Q (.ref g,[.ref a]) s):wpAny (model X.prog X.w) A (getMethod (.ref a) m pl) Q E s:=by
 obtain⟨mA,O,r,_,_,_⟩:=uT I.eN e
 have hn:mA m=none:=oo.none_of (by rw[<-l];exact r m)
 exact HE I.kY O (c.get m) k.at_ k.fn hn h
def B8 (I:Inv X ac Z H s) (e:H a=some (.ins C dx fs)) (c:By X.K C) (n:jA X.K C f) (hl:fs.length<1000) (ry:RelV y u)
  (h:∀s',Inv X ac Z (upd H a (.ins C dx (kx f y fs))) s'->Q () s'):wpAny (model X.prog X.w) A (setAttr (.ref a) f u) Q E s:=by
 obtain⟨mA,O,r,wi,_,ho⟩:=uT I.eN e
 have hz:(fs.map (·.1)).length<=sizeLine:=by rw[aq,gX];omega
 refine K9 I.kY O c.sa c.po n.S1 c.hd wi hz λh' O' sb=>h _ ?_
 have hd:∃o,h'.get? dx=some o:=let⟨o,_,_,e',_⟩:=O'.ns;⟨o,e'⟩
 refine I.write (x:=a) (e:=dx) (by rw[e];exact True.intro) (.inr ho) (λb q hb z=>(sb.2 b hb).trans z) hd ?_
 refine⟨by rw[aV O.ne];exact ho,?_,O.ne,O'.obj,_,O'.ns,λg=>?_,λg hg=>?_⟩
 .have:=t_ f y fs;omega
 .show oo ((kx f y fs).lookup g) (if g=f then some u else mA g)
  rw[tZ]
  by_cases q:g=f
  .rw[aQ q,aQ q];exact ry
  .rw[aO q,aO q];exact r g
 .by_cases q:g=f
  .rw[q];exact(s_ f y fs).1
  .refine(s_ f y fs).2 g (wi g λz=>hg ?_)
   show(if g=f then some u else mA g)=none
   rw[aO q];exact z
def Inv.made (I:Inv X ac Z H s):Inv X ac Z (upd (upd H s.heap.objs.size (.own (s.heap.objs.size+1))) (s.heap.objs.size+1) (.ins C s.heap.objs.size []))
  {s with heap:=(s.heap.push PySem.W.emptyDict).push (PySem.W.instObj C s.heap.objs.size)}:=by
 have e1:(s.heap.push PySem.W.emptyDict).get? s.heap.objs.size=some PySem.W.emptyDict:=az s.heap rfl
 have e2:((s.heap.push PySem.W.emptyDict).push (PySem.W.instObj C s.heap.objs.size)).get? (s.heap.objs.size+1)=some (PySem.W.instObj C s.heap.objs.size):=by
  have:=az (s.heap.push PySem.W.emptyDict) (o:=PySem.W.instObj C s.heap.objs.size) rfl
  rwa[cf] at this
 have e3:(s.heap.push PySem.W.emptyDict).Ns s.heap.objs.size (λ_=>none):=⟨PySem.W.emptyDict,#[],_,e1,rfl,(λe he=>absurd he ς),λ_=>rfl⟩
 have I1:=I.laid (a:=s.heap.objs.size) (o:=.own (s.heap.objs.size+1)) (h':=s.heap.push PySem.W.emptyDict) (t':=s.toks) (λb u q=>af _ q) (ar _) ⟨_,e1⟩
 refine I1.laid (a:=s.heap.objs.size+1) (o:=.ins C s.heap.objs.size []) (t':=s.toks) (λb u q=>af _ q) (fj (cf _ _)) ?_
 have ne:s.heap.objs.size≠s.heap.objs.size+1:=ba (fQ _)
 refine⟨by rw[aV ne,aB],de _,ne,e2,λ_=>none,(Heap.Ns1.of_empty e3).at λo q=>af _ q,λ_=>True.intro,λy hy=>absurd rfl hy⟩
def Eo {prog:aM}{w:bB}{env:Env}{e:Expr}{f:Str}{pos:Pos}{s:aj}{Q:ag->aj->Prop}(hb:attributeBase e f env (eval e env)=eval e env)
  (h:wpAny (model prog w) A (eval e env) (λo fh=>wpAny (model prog w) A (getAttr o f true) Q E fh) E s):wpAny (model prog w) A (eval (.Attribute e f pos) env) Q E s:=
 Attribute_any_ h (by rw[arm_eval_Attribute,hb])
end
def Xk (K:Φ) (ta:TE) (f:Str):TE:=λZ H Q=>ta Z H λx H1=>∃a C dx fs v,x=.ref a/\H1 a=some (.ins C dx fs)/\By K C/\jA K C f/\fs.lookup f=some v/\Q v H1
def Xl (K:Φ) (ta tv:TE) (f:Str):TS:=λD Z H=>tv Z H λy H1=>ta Z H1 λx H2=>∃a C dx fs,x=.ref a/\H2 a=some (.ins C dx fs)/\By K C/\jA K C f/\fs.length<1000/\
 D.nx Z (upd H2 a (.ins C dx (kx f y fs)))
section
variable {X:Cx}{o e value:Expr}{f:Str}{pos pos' Xm:Pos}{ta tv:TE}
def jB (he:PE X e ta) (hb:attributeBase e f X.env (eval e X.env)=eval e X.env):PE X (.Attribute e f pos) (Xk X.K ta f):=by
 intro ac s Z H Q I h
 refine Eo hb (fq (he ac s Z H _ I h) λu s1 cZ=>?_)
 obtain⟨x,H1,I1,rx,a,C,dx,fs,v,ex,ea,c,n,l,q⟩:=cZ
 subst ex
 obtain rfl:u=Value.ref a:=rx
 exact B7 I1 ea c n l λu' s2 I2 ru=>⟨v,H1,I2,ru,q⟩
def B9 (ha:PE X o ta) (hv:PE X value tv) (hs:swapsWith value (some (.Attribute o f pos')) pos.line X.env=pure false):PS X (.Assign [.Attribute o f pos'] value pos) (Xl X.K ta tv f):=by
 intro ac s Z H D I h
 refine Ni (fq (hv ac s Z H _ I h) λu s1 cZ=>?_) hs
 obtain⟨y,H1,I1,ry,q⟩:=cZ
 refine fq (ha ac s1 Z H1 _ I1 q) λov s2 Ao=>?_
 obtain⟨x,H2,I2,rx,a,C,dx,fs,ex,ea,c,n,l,q2⟩:=Ao
 subst ex
 obtain rfl:ov=Value.ref a:=rx
 exact B8 I2 ea c n l ry λs3 I3=>⟨Z,_,I3,q2⟩
def Nu {pl:Sem Bool}{m:Str}{apos:Pos}{args:List Expr}{ac:List (ai×Obj)}{s:aj}{Z:St}{H:Hp}{Q:ag->aj->Prop}{te:TE}(he:PE X e te) (I:Inv X ac Z H s)
  (h:te Z H λx H1=>∃a C dx fs g,x=.ref a/\H1 a=some (.ins C dx fs)/\By X.K C/\yY X.K C m g/\fs.lookup m=none/\
   ∀s1,Inv X ac Z H1 s1->wpAny (model X.prog X.w) X.A (callWith pos (.ref g) [.ref a] (backTo pos (starEach args X.env)) (backToKw pos (keywordEach [] X.env))) Q X.xe s1)
  (ht:eval (.Call (.Attribute e m apos) args [] pos) X.env=(do
   let ov<-eval e X.env
   standAt apos.atName
   let(f,first)<-holding [ov] (getMethod ov m pl)
   callWith pos f first (backTo pos (starEach args X.env)) (backToKw pos (keywordEach [] X.env)))):
  wpAny (model X.prog X.w) X.A (eval (.Call (.Attribute e m apos) args [] pos) X.env) Q X.xe s:=by
 refine gK (pl:=pl) (fq (he ac s Z H _ I h) λu s1 cZ=>?_) ht
 obtain⟨x,H1,I1,rx,a,C,dx,fs,g,ex,ea,c,k,l,q⟩:=cZ
 subst ex
 obtain rfl:u=Value.ref a:=rx
 exact lh I1 ea c k l (q s1 I1)
end
section
variable {X:Cx}{ac:List (ai×Obj)}{Z:St}{H:Hp}{s:aj}{A:bG}{E:ag->aj->Prop}{Q:ag->aj->Prop}{c:ag}{b:Bool}
inductive tj (K:Φ) (H:Hp):V->ag->Prop where
 |eK:tj K H .eK (.type "NoneType")
 |bl (x:Bool):tj K H (.bl x) (.type "bool")
 |int (i:Int):tj K H (.int i) (.type "int")
 |str (x:Str):tj K H (.str x) (.type "str")
 |Ow (x:UInt64):tj K H (.Ow x) (.type "float")
 |lst {a:ai} {xs:List V} (e:H a=some (.lst xs)):tj K H (.ref a) (.type "list")
 |BR {a:ai} {o:Obj} {xs:List V} (e:H a=some (.BR o (.lst xs))):tj K H (.ref a) (.type "list")
 |tup {a:ai} {xs:List V} (e:H a=some (.tup xs)):tj K H (.ref a) (.type "tuple")
 |dK {a:ai} {dO:List (Key×V)} (e:H a=some (.dK dO)):tj K H (.ref a) (.type "dict")
 |dT {a:ai} {dO:List (List Key×V)} (e:H a=some (.dT dO)):tj K H (.ref a) (.type "dict")
 |ins {a C dx:ai} {fs:List (Str×V)} (e:H a=some (.ins C dx fs)) (cl:By K C) (ha:PySem.W.findIn K (.ref C) "__class__"=some (some (.builtin "object.__class__")))
  (hn:PySem.W.specialIn K (.builtin "object.__class__") "__get__"=some (some (.builtin "getset_descriptor.__get__"))) (htk:PySem.W.takesIn K (.builtin "object.__class__")=some true)
  (hm:PySem.W.mroIn K C (.type "object")=some true):tj K H (.ref a) (.ref C)
def FF {x:V}{u t:ag}(I:Inv X ac Z H s) (rx:RelV x u) (ty:tj X.K H x t) (e:PySem.W.kitOne X.K t c=some b) (h:∀tk,Q (.bool b) {s with toks:=tk}):
  wpAny (model X.prog X.w) A (call (.builtin "isinstance") [u,c]) Q E s:=by
 cases ty with
 |eK=>cases(show u=Value.none from rx);exact fk PySem.W.kitx_none I.kY True.intro e (λz=>nomatch z) h
 |bl y=>cases(show u=Value.bool y from rx);exact fk PySem.W.kitx_bool I.kY True.intro e (λz=>nomatch z) h
 |int i=>obtain⟨t,q⟩:=(show∃t,u=Value.int i t from rx);cases q;exact fk PySem.W.kitx_int I.kY True.intro e (λz=>nomatch z) h
 |str y=>obtain⟨t,q⟩:=(show∃t,u=Value.str y t from rx);cases q;exact fk PySem.W.kitx_str I.kY True.intro e (λz=>nomatch z) h
 |Ow y=>obtain⟨t,q⟩:=(show∃t,u=Value.float y t from rx);cases q;exact fk PySem.W.kitx_float I.kY True.intro e (λz=>nomatch z) h
 | @lst a xs ea=>
  cases(show u=Value.ref a from rx)
  obtain⟨_,_,n,_,h1⟩:=(show fV X.prog X.w H s.heap a (.lst xs) from I.eN a _ ea)
  exact fk PySem.W.kitx_list I.kY ⟨_,h1,rfl⟩ e (λz=>nomatch z) h
 | @BR a ob xs ea=>
  cases(show u=Value.ref a from rx)
  obtain⟨_,_,_,n,_,h1⟩:=(show fV X.prog X.w H s.heap a (.BR ob (.lst xs)) from I.eN a _ ea)
  exact fk PySem.W.kitx_list I.kY ⟨_,h1,rfl⟩ e (λz=>nomatch z) h
 | @tup a xs ea=>
  cases(show u=Value.ref a from rx)
  obtain⟨_,_,_,p⟩:=(show fV X.prog X.w H s.heap a (.tup xs) from I.eN a _ ea)
  obtain⟨o,h1,h2,_⟩:=p
  exact fk PySem.W.kitx_tuple I.kY ⟨o,h1,h2⟩ e (λz=>nomatch z) h
 | @dK a dO ea=>
  cases(show u=Value.ref a from rx)
  obtain⟨_,_,vs,_,p⟩:=(show fV X.prog X.w H s.heap a (.dK dO) from I.eN a _ ea)
  obtain⟨o,es,ep,h1,h2,_⟩:=p
  exact fk PySem.W.kitx_dict I.kY ⟨o,h1,h2.1⟩ e (λz=>nomatch z) h
 | @dT a dO ea=>
  cases(show u=Value.ref a from rx)
  obtain⟨_,_,xs,_,o,es,ep,h1,h2,_⟩:=(show fV X.prog X.w H s.heap a (.dT dO) from I.eN a _ ea)
  exact fk PySem.W.kitx_dict I.kY ⟨o,h1,h2.1⟩ e (λz=>nomatch z) h
 | @ins a C dx fs ea cl ha hn htk hm=>
  cases(show u=Value.ref a from rx)
  obtain⟨mA,O,_⟩:=uT I.eN ea
  obtain⟨od,J,_⟩:=O.look
  exact fk (PySem.W.kitx_own (cl.get _) cl.hd ha hn htk hm) I.kY J e (λz=>nomatch z) h
end
structure eS (k:Nat) (A:bG):Prop where
 hd:A.handled=none
 dp:A.depth+3*k+5<recursionLimit
 un:A.units+16*k+200<cLine
 gd:A.guards=some []
def eS.mono (r:eS k A) (h:j<=k):eS j A:=⟨r.hd,by have:=r.dp;omega,by have:=r.un;omega,r.gd⟩
def eS.deeper (r:eS (k+1) A) (env:Env):eS k (A.deeper env):=
 ⟨r.hd,by have:=r.dp;show A.depth+1+3*k+5<_;omega,by have:=r.un;show A.units+3+16*k+200<_;omega,r.gd⟩
def eS.in1 (r:eS (k+1) A):eS k A.in1:=
 ⟨r.hd,by have:=r.dp;show A.depth+3*k+5<_;omega,by have:=r.un;show A.units+1+16*k+200<_;omega,r.gd⟩
def B_ {A:bG}:(A.under (.builtin "type.__call__" ⟨.ref C::us,kw⟩)).depth=A.depth+1:=by
 first|rfl|simp[Around.under,Code.weight,Code.isCreation,Code.isGuard,Code.isCaller,Code.frames,Code.isFrame,guardIds]
def Ca {A:bG}:(A.under (.builtin "type.__call__" ⟨.ref C::us,kw⟩)).units=A.units+1:=by
 first|rfl|simp[Around.under,Code.cUnits,Code.frames,Code.isFrame]
def Ap {A:bG} (h:A.guards=some []):(A.under (.builtin "type.__call__" ⟨.ref C::us,kw⟩)).guards=some []:=by
 first|exact h|simp[Around.under,Code.guards,Code.isGuard,guardIds,pushGuards,h]
def eS.make (r:eS (k+1) A) (C:ai) (us:List ag) (kw:List (Str×ag)):eS k (A.under (.builtin "type.__call__" ⟨.ref C::us,kw⟩)):=
 ⟨r.hd,by have:=r.dp;rw[B_];omega,by have:=r.un;rw[Ca];omega,Ap r.gd⟩
def eS.depth (r:eS k A):A.depth<recursionLimit:=by have:=r.dp;omega
def eS.units (r:eS k A):A.units+64<cLine:=by have:=r.un;omega
def fE:TA:=λ_ H Q=>Q [] H
def cA (ta:TE) (tr:TA):TA:=λZ H Q=>ta Z H λx H1=>tr Z H1 λxs H2=>Q (x::xs) H2
section
variable {X:Cx}{e:Expr}{es:List Expr}{te:TE}{t:TA}{pos:Pos}
def ah:PA X [] fE:=λ_ _ _ _ H Q I h=>Calls.spliced_nil ⟨[],H,I,.nil,h⟩
def ae (ha:PE X e te) (hr:PA X es t) (hs:starEach (e::es) X.env=(false,eval e X.env)::starEach es X.env:=by rfl):PA X (e::es) (cA te t):=by
 intro pos ac s Z H Q I h
 rw[hs]
 show wpAny _ _ (spliced ((false,eval e X.env)::backTo pos (starEach es X.env))) _ _ s
 refine Hm (fq (ha ac s Z H _ I h) λu s1 cZ=>?_)
 obtain⟨x,H1,I1,r1,q1⟩:=cZ
 refine fq (hr pos ac s1 Z H1 _ I1 q1) λus s2 cZ=>?_
 obtain⟨xs,H2,I2,r2,q2⟩:=cZ
 exact⟨x::xs,H2,I2,.cons r1 r2,q2⟩
def oU (t:TA):TE:=λZ H Q=>t Z H λxs H1=>xs.length<=sizeLine/\∀p,H1 p=none->Q (.ref p) (upd H1 p (.tup xs))
def xA (t:TA):TE:=λZ H Q=>t Z H λxs H1=>xs.length<=sizeLine/\∀p,H1 p=none->Q (.ref p) (upd H1 p (.lst xs))
def bQ {x1}(h:PA X es t):PE X (.Tuple es x1 pos) (oU t):=by
 intro ac s Z H Q I hq
 refine wpAny_Tuple_spliced (fq (h pos ac s Z H _ I hq) λus s1 ⟨xs,H1,I1,r,z,q⟩=>⟨by rw[<-r.length];exact z,?_⟩)
 have hf:H1 s1.heap.objs.size=none:=I1.eN.fresh (ar _)
 refine⟨.ref s1.heap.objs.size,upd H1 s1.heap.objs.size (.tup xs),I1.laid (t':=s1.toks) (λb u e=>af _ e) (ar _) ?_,rfl,q _ hf⟩
 exact⟨z,us,r,⟨_,az _ rfl,rfl,rfl,_,rfl⟩⟩
def cX (h:PA X es t):PE X (.List es pos) (xA t):=by
 intro ac s Z H Q I hq
 refine wpAny_List_spliced (fq (h pos ac s Z H _ I hq) λus s1 ⟨xs,H1,I1,r,z,q⟩=>⟨by rw[<-r.length];exact z,?_⟩)
 have hf:H1 s1.heap.objs.size=none:=I1.eN.fresh (ar _)
 refine⟨.ref s1.heap.objs.size,upd H1 s1.heap.objs.size (.lst xs),I1.laid (t':=s1.toks) (λb u e=>af _ e) (ar _) ?_,rfl,q _ hf⟩
 exact⟨z,us,0,r,az _ rfl⟩
end
abbrev Sp:=List V->Hp->VK->XK->Prop
abbrev Hd:=List Env->Hp->aj->XK->ag->aj->Prop
structure uE (P:aM) (w:bB) (K:Φ) (mg:Str->Option ag) (base:Heap) (A:bG) (outer:List Env) (s:aj) (H:Hp):Prop where
 frames:A.frames=some outer
 mod:Mod K mg base
 bs:∀b o,base.get? b=some o->s.heap.get? b=some o/\H b=none
 BU:base.objs.size<=s.heap.objs.size
 mO:s.heap.FunFrames base outer
 Eb:∀b∈oq outer,H b=none
 eN:qi P w H s.heap
 bare:AllBare s.gens
def CE (outer:List Env) (P:aM) (w:bB) (H:Hp) (s:aj) (Q:VK) (u:ag) (s':aj):Prop:=
 ∃v H',s'.os=s.os/\AllBare s'.gens/\Un (oq outer) [] H H' s.heap s'.heap/\qi P w H' s'.heap/\RelV v u/\Q v H'
def CR (CX:Hd) (outer:List Env) (P:aM) (w:bB) (H:Hp) (s:aj) (Q:VK) (E:XK) (r:Result) (s':aj):Prop:=
 match r with
 | .ok (.ret u)=>CE outer P w H s Q u s'
 | .ok _=>False
 | .error e=>CX outer H s E e s'
structure dW (P:aM) (w:bB) (K:Φ) (mg:Str->Option ag) (base:Heap) (CX:Hd) (k:Nat) (f:ai) (fd:FuncData) (ps:List Str) (sp:Sp):Prop where
 len:∀vs H Q E,sp vs H Q E->vs.length=ps.length
 run:∀(A:bG) (outer:List Env) (s:aj) (H:Hp) (args:Args) (us:List ag) (vs:List V) (Q:VK) (E:XK),eS k A->uE P w K mg base A outer s H->BindsTo s fd args (ps.zip us)->cz vs us->sp vs H Q E->
  codeAny (model P w) A (.call (.ref f) args) (CR CX outer P w H s Q E) s
def uE.make {K:Φ} (e:uE P w K mg base A outer s H) (C:ai) (us:List ag) (kw:List (Str×ag)):
  uE P w K mg base (A.under (.builtin "type.__call__" ⟨.ref C::us,kw⟩)) outer s H:=⟨by first|exact e.frames|(simpa[Around.under,Code.envs,Code.isFrame,pushEnvs] using e.frames),e.mod,e.bs,e.BU,e.mO,e.Eb,e.eN,e.bare⟩
def uE.in1 {K:Φ} (e:uE P w K mg base A outer s H):
  uE P w K mg base A.in1 outer s H:=⟨e.frames,e.mod,e.bs,e.BU,e.mO,e.Eb,e.eN,e.bare⟩
section
variable {X:Cx}{ac:List (ai×Obj)}{Z:St}{H:Hp}{s s':aj}
def Inv.FG (I:Inv X ac Z H s):uE X.prog X.w X.K X.mg X.base X.A X.stack s H:=
 ⟨I.ok.frames,I.ok.mod,I.bs,aA I.ok.BU I.sz,I.stack,I.yO,I.eN,I.bare⟩
def Inv.after {Q:VK}{u:ag}(I:Inv X ac Z H s) (h:CE X.stack X.prog X.w H s Q u s'):EP X ac Z Q u s':=by
 obtain⟨v,H',os,bare,un,eN,r,q⟩:=h
 obtain⟨hh,g,d,t,os'⟩:=s'
 obtain rfl:os'=s.os:=os
 exact⟨v,H',I.call (h':=hh) (g':=g) (d':=d) (t':=t) (ch:=[]) un eN bare (λb z=>absurd z ς),r,q⟩
end
def lV (sp:Sp) (mK:List V) (E:XK) (t:TA):TE:=λZ H Q=>t Z H λvs H1=>sp (vs++mK) H1 Q E
def Ep (C:ai) (m:Str) (sp:Sp) (mK:List V) (E:XK) (ta:TE) (t:TA):TE:=λZ H Q=>ta Z H λx H1=>∃a dx fs,x=.ref a/\H1 a=some (.ins C dx fs)/\fs.lookup m=none/\
 t Z H1 λvs H2=>sp (x::(vs++mK)) H2 Q E
def Nv (C:ai) (sp:Sp) (mK:List V) (E:XK) (t:TA):TE:=λZ H Q=>t Z H λvs H1=>∀x dx,H1 x=none->H1 dx=none->dx≠x->
 sp (.ref x::(vs++mK)) (upd (upd H1 dx (.own x)) x (.ins C dx [])) (λv H2=>v=.eK/\Q (.ref x) H2) E
def Binds (K:Φ) (fd:FuncData) (ps:List Str) (ds:List ag):Prop:=
 ∀(s:aj) (us:List ag),K.In s.heap->(us++ds).length=ps.length->BindsTo s fd ⟨us,[]⟩ (ps.zip (us++ds))
def Binds.all {K:Φ}{fd:FuncData}{ps:List Str}(h:∀us:List ag,us.length=ps.length->bindArgs fd ⟨us,[]⟩=pure (ps.zip us)):Binds K fd ps []:=λs us _ hl=>by
 rw[eR] at hl⊢
 exact .of_eq (h us hl)
def mx (CX:Hd) (X:Cx) (E:XK):Prop:=∀(ac:List (ai×Obj)) (Z:St) (H:Hp) (s:aj) (e:ag) (s':aj),Inv X ac Z H s->CX X.stack H s E e s'->X.xe e s'
section
variable {X:Cx}{CX:Hd}{k:Nat}{f C:ai}{fd:FuncData}{ps:List Str}{sp:Sp}{mK:List V}{ds:List ag}{E:XK}{x m:Str}{p pos apos:Pos}{e o:Expr}{es:List Expr}{ta:TE}{t:TA}
def yZ {ac:List (ai×Obj)}{Z:St}{H:Hp}{s:aj}{Q:VK}{us:List ag}{vs:List V}(F:dW X.prog X.w X.K X.mg X.base CX k f fd ps sp) (hr:eS k X.A) (hb:Binds X.K fd ps ds) (hd:cz mK ds) (hx:mx CX X E)
  (I:Inv X ac Z H s) (r:cz vs us) (h:sp (vs++mK) H Q E):wpAny (model X.prog X.w) X.A (call (.ref f) us) (EP X ac Z Q) X.xe s:=by
 have r2:cz (vs++mK) (us++ds):=r.append hd
 have hl:(us++ds).length=ps.length:=by rw[<-r2.length];exact F.len _ _ _ _ h
 refine oJ (kK (F.run X.A X.stack s H ⟨us,[]⟩ (us++ds) (vs++mK) Q E hr I.FG (hb s us I.kY hl) r2 h) λr s' hq=>?_)
 cases r with
 |error e=>exact hx ac Z H s e s' I hq
 |ok fl=>
  cases fl with
  |ret u=>exact I.after hq
  |next=>exact False.elim hq
  |brk=>exact False.elim hq
  |cont=>exact False.elim hq
def K_ (F:dW X.prog X.w X.K X.mg X.base CX k f fd ps sp) (hr:eS k X.A) (hg:Gl X x) (hm:X.mg x=some (.ref f)) (hk:PySem.W.keepIn X.K (.ref f)=true) (hb:Binds X.K fd ps ds) (hd:cz mK ds) (hx:mx CX X E)
  (ha:PA X (e::es) t) (qy:(x==("__debug__":Str))=false:=by decide) (he:starEach (e::es) X.env=(false,eval e X.env)::starEach es X.env:=by rfl) (ky:(backTo pos (starEach es X.env)).any (·.1)=false:=by rfl):
  PE X (.Call (.Name x p) (e::es) [] pos) (lV sp mK E t):=by
 intro ac s Z H Q I h
 refine gf (jy I hg hm ?_ qy)
 refine iU (h₀:=X.base) I.ok.mod.qf hk (fq (ha pos ac s Z H _ I h) λus s1 cZ=>?_) he ky
 obtain⟨vs,H1,I1,r,q⟩:=cZ
 refine⟨I1.kY,?_⟩
 exact yZ F hr hb hd hx I1 r q
def HG (F:dW X.prog X.w X.K X.mg X.base CX k f fd ps sp) (hr:eS k X.A) (hg:Gl X x) (hm:X.mg x=some (.ref f)) (hk:PySem.W.keepIn X.K (.ref f)=true) (hb:Binds X.K fd ps ds) (hd:cz mK ds) (hx:mx CX X E)
  (qy:(x==("__debug__":Str))=false:=by decide):PE X (.Call (.Name x p) [] [] pos) (lV sp mK E fE):=by
 intro ac s Z H Q I h
 refine gf (jy I hg hm ?_ qy)
 exact ou I.kY hk (yZ (us:=[]) F hr hb hd hx I .nil h)
def La {pl:Sem Bool}(he:PE X o ta) (c:By X.K C) (hm:yY X.K C m f) (F:dW X.prog X.w X.K X.mg X.base CX k f fd ps sp) (hr:eS k X.A) (hb:Binds X.K fd ps ds) (hd:cz mK ds) (hx:mx CX X E) (ha:PA X (e::es) t)
  (Fw:starEach (e::es) X.env=(false,eval e X.env)::starEach es X.env:=by rfl) (ky:(backTo pos (starEach es X.env)).any (·.1)=false:=by rfl)
  (ht:eval (.Call (.Attribute o m apos) (e::es) [] pos) X.env=(do
   let ov<-eval o X.env
   standAt apos.atName
   let(f,first)<-holding [ov] (getMethod ov m pl)
   callWith pos f first (backTo pos (starEach (e::es) X.env)) (backToKw pos (keywordEach [] X.env))):=by rfl):
  PE X (.Call (.Attribute o m apos) (e::es) [] pos) (Ep C m sp mK E ta t):=by
 intro ac s Z H Q I h
 refine gK (pl:=pl) (fq (he ac s Z H _ I h) λu s1 cZ=>?_) ht
 obtain⟨x,H1,I1,rx,a,dx,fs,ex,ea,l,q⟩:=cZ
 subst ex
 obtain rfl:u=Value.ref a:=rx
 refine lh I1 ea c hm l ?_
 refine iU (first:=[.ref a]) (h₀:=X.base) I.ok.mod.qf hm.kp (fq (ha pos ac s1 Z H1 _ I1 q) λus s2 cZ=>?_) Fw ky
 obtain⟨vs,H2,I2,r,q2⟩:=cZ
 refine⟨I2.kY,?_⟩
 exact yZ (us:=.ref a::us) (vs:=.ref a::vs) F hr hb hd hx I2 (.cons rfl r) q2
def HH {pl:Sem Bool}(he:PE X o ta) (c:By X.K C) (hm:yY X.K C m f) (F:dW X.prog X.w X.K X.mg X.base CX k f fd ps sp) (hr:eS k X.A) (hb:Binds X.K fd ps ds) (hd:cz mK ds) (hx:mx CX X E)
  (ht:eval (.Call (.Attribute o m apos) [] [] pos) X.env=(do
   let ov<-eval o X.env
   standAt apos.atName
   let(f,first)<-holding [ov] (getMethod ov m pl)
   callWith pos f first (backTo pos (starEach [] X.env)) (backToKw pos (keywordEach [] X.env))):=by rfl):
  PE X (.Call (.Attribute o m apos) [] [] pos) (Ep C m sp mK E ta fE):=by
 intro ac s Z H Q I h
 refine gK (pl:=pl) (fq (he ac s Z H _ I h) λu s1 cZ=>?_) ht
 obtain⟨x,H1,I1,rx,a,dx,fs,ex,ea,l,q⟩:=cZ
 subst ex
 obtain rfl:u=Value.ref a:=rx
 refine lh I1 ea c hm l ?_
 exact ou (first:=[.ref a]) I1.kY hm.kp (yZ (us:=[.ref a]) (vs:=[.ref a]) F hr hb hd hx I1 (.cons rfl .nil) q)
structure Mk (K:Φ) (C f:ai):Prop where
 makes:PySem.W.makesIn K C=true
 init:PySem.W.findIn K (.ref C) "__init__"=some (some (.ref f))
 fn:PySem.W.isFn K (.ref f)=true
 kp:PySem.W.keepIn K (.ref C)=true
def HI (M:Mk X.K C f) (F:dW X.prog X.w X.K X.mg X.base CX k f fd ps sp) (hr:eS (k+1) X.A) (hb:Binds X.K fd ps ds) (hd:cz mK ds)
  (hx:mx CX X E) (I:Inv X ac Z H s) (r:cz vs us)
  (h:∀x dx,H x=none->H dx=none->dx≠x->sp (.ref x::(vs++mK)) (upd (upd H dx (.own x)) x (.ins C dx [])) (λv H2=>v=.eK/\Q (.ref x) H2) E):
  wpAny (model X.prog X.w) X.A (call (.ref C) us) (EP X ac Z Q) X.xe s:=by
 have hq:=h (s.heap.objs.size+1) s.heap.objs.size (I.eN.fresh (dN _)) (I.eN.fresh (ar _)) (ba (fQ _))
 have I2:=Inv.made (C:=C) I
 have r2:cz (V.ref (s.heap.objs.size+1)::(vs++mK)) (Value.ref (s.heap.objs.size+1)::(us++ds)):=.cons rfl (r.append hd)
 have hl:(Value.ref (s.heap.objs.size+1)::us++ds).length=ps.length:=by
  have e:=r2.length
  rw[F.len _ _ _ _ hq] at e
  exact e.symm
 refine oJ (HF (f:=f) I.kY M.makes M.init (iT.mp M.fn) (kK (F.run _ X.stack _ _ ⟨Value.ref (s.heap.objs.size+1)::us,[]⟩ (Value.ref (s.heap.objs.size+1)::(us++ds)) _ _ E (hr.make C us [])
  (I2.FG.make C us []) (hb _ (Value.ref (s.heap.objs.size+1)::us) I2.kY hl) r2 hq) λr s' FH=>?_))
 cases r with
 |error e=>exact hx ac Z _ _ e s' I2 FH
 |ok fl=>
  cases fl with
  |ret u=>
   obtain⟨v,H',I3,rv,ev,q3⟩:=I2.after FH
   subst ev
   exact⟨rv,⟨V.ref (s.heap.objs.size+1),H',I3,rfl,q3⟩⟩
  |next=>exact False.elim FH
  |brk=>exact False.elim FH
  |cont=>exact False.elim FH
def HJ (M:Mk X.K C f) (F:dW X.prog X.w X.K X.mg X.base CX k f fd ps sp) (hr:eS (k+1) X.A) (hg:Gl X x) (hm:X.mg x=some (.ref C)) (hb:Binds X.K fd ps ds) (hd:cz mK ds) (hx:mx CX X E)
  (qy:(x==("__debug__":Str))=false:=by decide):PE X (.Call (.Name x p) [] [] pos) (Nv C sp mK E fE):=by
 intro ac s Z H Q I h
 refine gf (jy I hg hm ?_ qy)
 exact ou I.kY M.kp (HI (us:=[]) M F hr hb hd hx I .nil h)
end
section
variable {X:Cx}{CX:Hd}{k:Nat}{f C:ai}{fd:FuncData}{ps ks:List Str}{sp:Sp}{E:XK}{x m:Str}{p pos apos aav:Pos}{e o:Expr}{es:List Expr}{kws:List Keyword}{te ta:TE}{t tk:TA}{nm:Option Str}
variable {g:List ag->List ag->List ag}{gV:List V->List V->List V}
end
structure bW (N P:List Str) (sc:Scope):Prop where
 kind:sc.kind=.function:=by rfl
 co:sc.isCoroutine=false:=by rfl
 gen:sc.isGenerator=false:=by rfl
 nd:N.Nodup:=by decide+kernel
 pre:N.take P.length=P:=by rfl
 par:∀x∈P,sc.names.lookup x=some .local\/sc.names.lookup x=some .cell:=by decide+kernel
 OS:∀y∈sc.names,y.2≠.free:=by decide+kernel
def xW {kindOf:Str->Option NameKind}:∀{binds:List (Str×ag)}{m:Str->Option ag},(∀v,(x,v)∉binds)->bindL kindOf binds m x=m x
 | [],_,_=>rfl
 |(n,v)::r,m,h=>by
  unfold bindL
  rw[xW λw hw=>h w (cu _ hw)]
  split
  .have:x≠n:=by rintro rfl;exact h v cj
   simp[this]
  .rfl
def xX {kindOf:Str->Option NameKind}:∀{binds:List (Str×ag)}{m:Str->Option ag},(∀v,(x,v)∉binds)->bindC kindOf binds m x=m x
 | [],_,_=>rfl
 |(n,v)::r,m,h=>by
  unfold bindC
  rw[xX λw hw=>h w (cu _ hw)]
  split
  .rfl
  .have:x≠n:=by rintro rfl;exact h v cj
   simp[this]
def xY {kindOf:Str->Option NameKind}:∀{P:List Str}{vs:List ag}{i:Nat}{m:Str->Option ag},P.Nodup->P[i]?=some x->vs[i]?=some v->kindOf x=some .local->
  bindL kindOf (P.zip vs) m x=some v
 | [],_,_,_,_,h,_,_=>by simp at h
 |_::_,[],_,_,_,_,h,_=>by simp at h
 |p::P,w::vs,0,m,nd,h1,h2,hk=>by
  simp at h1 h2;subst h1;subst h2
  show bindL kindOf ((p,w)::P.zip vs) m p=_
  unfold bindL
  rw[xW λv hv=>(iZ.mp nd).1 (uN hv).1,aQ hk]
  simp
 |p::P,w::vs,i+1,m,nd,h1,h2,hk=>by
  show bindL kindOf ((p,w)::P.zip vs) m x=_
  unfold bindL
  exact xY (i:=i) (iZ.mp nd).2 (by simpa using h1) (by simpa using h2) hk
def xZ {kindOf:Str->Option NameKind}:∀{P:List Str}{vs:List ag}{i:Nat}{m:Str->Option ag},P.Nodup->P[i]?=some x->vs[i]?=some v->kindOf x≠some .local->
  bindC kindOf (P.zip vs) m x=some v
 | [],_,_,_,_,h,_,_=>by simp at h
 |_::_,[],_,_,_,_,h,_=>by simp at h
 |p::P,w::vs,0,m,nd,h1,h2,hk=>by
  simp at h1 h2;subst h1;subst h2
  show bindC kindOf ((p,w)::P.zip vs) m p=_
  unfold bindC
  rw[xX λv hv=>(iZ.mp nd).1 (uN hv).1,aO hk]
  simp
 |p::P,w::vs,i+1,m,nd,h1,h2,hk=>by
  show bindC kindOf ((p,w)::P.zip vs) m x=_
  unfold bindC
  exact xZ (i:=i) (iZ.mp nd).2 (by simpa using h1) (by simpa using h2) hk
def start (N:List Str) (vs:List V):St:=vs.map some++List.replicate (N.length-vs.length) none
def eY (CX:Hd) (P:aM) (w:bB) (K:Φ) (mg:Str->Option ag) (base:Heap) (N:List Str) (qual:Str) (scope:Scope) (f:ai) (cd:ag) (A:bG) (outer:List Env) (s:aj) (H:Hp) (E:XK):Cx where
 prog:=P
 w:=w
 K:=K
 mg:=mg
 base:=base
 A:=A.deeper (envOfC qual scope s.heap.objs.size f cd)
 N:=N
 gP:=s
 BS:=H
 env:=envOfC qual scope s.heap.objs.size f cd
 outer:=outer
 stack:=envOfC qual scope s.heap.objs.size f cd::outer
 ex:=[]
 calm:=true
 fn:=λ_=>true
 pn:=[]
 xe:=λe s'=>wpAny (model P w) (A.deeper (envOfC qual scope s.heap.objs.size f cd)) (leaving (envOfC qual scope s.heap.objs.size f cd) e) (λ_ Xn=>CX outer H s E e Xn) (λe' Xn=>CX outer H s E e' Xn) s'
def Aq {sc:Scope} (h:sc.names.lookup x=some .cell):∃c,(cellsFrom n sc.names []).lookup x=some c:=by
 have q:=uo sc.names n [] (.inl h)
 exact ik.mp q
def x6 {K:Φ}
  (S:bW N ps scope) (hd:A.handled=none) (e0:uE P w K mg base A outer s H) (hl:vs.length=ps.length) (r:cz vs us)
  (x:InCallC s s.heap.objs.size (bindL (envOfC qual scope s.heap.objs.size f cd).kindOf (ps.zip us) λ_=>none) (cellsFrom (s.heap.objs.size+1) scope.names []) (bindC (envOfC qual scope s.heap.objs.size f cd).kindOf (ps.zip us) λ_=>none) s1):
  Inv (eY CX P w K mg base N qual scope f cd A outer s H E) [] (start N vs) H s1:=by
 have ky:ps.length<=N.length:=by have:=iD List.length S.pre;rw[fu] at this;omega
 obtain⟨h1,tk,rfl,hk⟩:=x.done
 have S2:∀b:ai,b∉(eY CX P w K mg base N qual scope f cd A outer s H E).ex:=λb z=>absurd (show b∈([]:List ai) from z) ς
 refine⟨⟨e0.mod,S.kind,rfl,rfl,ar _,λy z c h1 h2=>?_,λy hy=>?_,λy c _ h=>?_,λ_=>hd,Around.frames_deeper e0.frames,.inr ⟨rfl,rfl⟩,λb z=>absurd z (S2 b),e0.bs,e0.BU,λb _ _=>S2 b,λb z=>absurd z (S2 b),e0.mO,e0.Eb⟩,
  rfl,e0.bare,Un.kept hk,⟨_,x.toInCall.ns,λi y v h1 h2 h3=>?_⟩,λy c h=>⟨_,x.cell y c h⟩,e0.eN.fresh (ar _),λy c h=>?_,λp hp=>absurd (show p∈([]:List (ai×Obj)) from hp) ς,e0.eN.kept hk,?_⟩
 .exact name_of_addr x.apart (gv h1) (gv h2)
 .have hy:scope.names.lookup y=some .cell\/scope.names.lookup y=some .free:=hy
  rcases hy with hy|hy
  .exact Aq hy
  .exact absurd rfl (S.OS _ (gv hy))
 .exact cR (x.above y c (gv h))
 .have hi:i<vs.length:=by
   unfold start at h2
   by_cases hi:i<vs.length
   .exact hi
   .rw[KR (by simpa using hi)] at h2
    rw[sy] at h2
    split at h2<;>cases h2
  have ha:vs[i]?=some v:=by
   unfold start at h2
   rw[Nj (by simpa using hi),bY] at h2
   cases e:vs[i]? with
   |none=>rw[e] at h2;cases h2
   |some a=>rw[e] at h2;cases h2;rfl
  obtain⟨u,hu,rv⟩:=r.get ha
  have hp:ps[i]?=some y:=by
   rw[<-S.pre,List.getElem?_take_of_lt ω];exact h1
  have ndP:ps.Nodup:=by rw[<-S.pre];exact S.nd.sublist (qU _ _)
  refine⟨u,rv,?_⟩
  rcases S.par y (nj hp) with k|k
  .exact .inl ⟨k,xY ndP hp hu k⟩
  .obtain⟨c,e⟩:=Aq (n:=s.heap.objs.size+1) k
   refine .inr ⟨.inl k,c,e,?_⟩
   have q:=x.cell y c e
   rw[xZ ndP hp hu (by show scope.names.lookup y≠_;rw[k];decide)] at q
   exact q
 .exact e0.eN.fresh (cR (x.above y c (gv h)))
 .unfold start
  show _=N.length
  rw[aK,aq,gL]
  omega
def Nw {CX:Hd}{P:aM}{w:bB}{K:Φ}{mg:Str->Option ag}{base:Heap}{k:Nat}{f:ai}{name qual:Str}{params:Arguments}{body:List Stmt}{scope:Scope}{dV kV doc pm cdv ct oc:ag}{an od:Option ai}
  {vE:Array (Option ag)} {N ps:List Str} {sp:Sp} (lk:K.lookup f=some ⟨oc,od,.func (PySem.W.fnOf name qual params body scope dV kV doc pm an cdv ct),vE⟩) (BV:PySem.W.codeIn K cdv qual=true) (S:bW N ps scope)
  (len:∀vs H Q E,sp vs H Q E->vs.length=ps.length)
  (vF:∀(A:bG) (outer:List Env) (s:aj) (H:Hp) (vs:List V) (Q:VK) (E:XK),eS k (A.deeper (envOfC qual scope s.heap.objs.size f cdv))->sp vs H Q E->
   ∃t,xx (eY CX P w K mg base N qual scope f cdv A outer s H E) body t/\t {nx:=λ_ H'=>Q .eK H',rt:=Q} (start N vs) H):
  dW P w K mg base CX (k+1) f (PySem.W.fnOf name qual params body scope dV kV doc pm an cdv ct) ps sp:=by
 refine⟨len,λA outer s H args us vs Q E hr e0 hb r FJ=>?_⟩
 have hl:=len _ _ _ _ FJ
 have KX:K.In s.heap:=e0.mod.qf.keeps λb o e=>(e0.bs b o e).1
 have lim:s.heap.NoLimit:=e0.mod.nolimit.keeps λb o e=>(e0.bs b o e).1
 have S3:∀y∈ps.zip us,scope.names.lookup y.1=some .local\/(scope.names.lookup y.1=some .cell/\((cellsFrom (s.heap.objs.size+1) scope.names []).lookup y.1).isSome=true):=λ⟨n,v⟩ hy=>by
  rcases S.par n (uN hy).1 with q|q
  .exact .inl q
  .exact .inr ⟨q,uo _ _ _ (.inl q)⟩
 refine codeAny_call_function hr.depth (KX _ _ lk) rfl S.co S.gen rfl (PySem.W.codeRec_of KX BV) (hb _ _ _ _ ?_)
 refine wpAny_newFunctionEnv_cells S.kind S3 λenv he s1 x=>?_
 subst he
 refine⟨lim.keeps x.toInCall.keep,codeAny_func ?_⟩
 obtain⟨t,ht,hq⟩:=vF A outer s H vs Q E (hr.deeper _) FJ
 have I:Inv (eY CX P w K mg base N qual scope f cdv A outer s H E) [] (start N vs) H s1:=x6 S hr.hd e0 hl r x
 refine bM (ht [] s1 (start N vs) H _ I hq) (λfl s' hs=>?_) λe s' hs=>hs
 have fin:∀{bX:St} {H':Hp} {v:V} {u:ag},Inv (eY CX P w K mg base N qual scope f cdv A outer s H E) [] bX H' s'->RelV v u->Q v H'->CE outer P w H s Q u s':=
  λ{bX H' v u} J rv q=>⟨v,H',J.os,J.bare,J.base,J.eN,rv,q⟩
 cases fl with
 |ret u=>
  obtain⟨v,bX,H',J,rv,q⟩:=hs
  exact fin J rv q
 |next=>
  obtain⟨bX,H',J,q⟩:=hs
  exact fin (v:=V.eK) (u:=Value.none) J rfl q
 |brk=>
  obtain⟨_,_,_,q⟩:=hs
  exact False.elim q
 |cont=>
  obtain⟨_,_,_,q⟩:=hs
  exact False.elim q
section
variable {X:Cx}{x:Str}{p pos:Pos}{e:Expr}{es:List Expr}{t:TA}{id T:String}{r:List V->Hp->VK->Prop}
def RR (r:List V->Hp->VK->Prop) (t:TA):TE:=λZ H Q=>t Z H λvs H1=>r vs H1 Q
def aR (hc:gN X (.builtin id) r) (hg:Gl X x) (hm:X.mg x=none) (hv:bootBuiltins x=some (.builtin id)) (ha:PA X (e::es) t) (hn:x≠"__name__":=by decide) (qy:(x==("__debug__":Str))=false:=by decide)
  (he:starEach (e::es) X.env=(false,eval e X.env)::starEach es X.env:=by rfl) (ky:(backTo pos (starEach es X.env)).any (·.1)=false:=by rfl):PE X (.Call (.Name x p) (e::es) [] pos) (RR r t):=by
 intro ac s Z H Q I h
 refine gf (qv I hg hm hv ?_ hn qy)
 refine PyProof.Rows.callWith_builtin1 (fq (ha pos ac s Z H _ I h) λus s1 cZ=>?_) he ky
 obtain⟨vs,H1,I1,r1,q1⟩:=cZ
 exact hc ac s1 Z H1 vs us Q I1 r1 q1
def fK (hc:gN X (.type T) r) (hg:Gl X x) (hm:X.mg x=none) (hv:bootBuiltins x=some (.type T)) (ha:PA X (e::es) t) (hn:x≠"__name__":=by decide) (qy:(x==("__debug__":Str))=false:=by decide)
  (he:starEach (e::es) X.env=(false,eval e X.env)::starEach es X.env:=by rfl) (ky:(backTo pos (starEach es X.env)).any (·.1)=false:=by rfl):PE X (.Call (.Name x p) (e::es) [] pos) (RR r t):=by
 intro ac s Z H Q I h
 refine gf (qv I hg hm hv ?_ hn qy)
 refine gx (fq (ha pos ac s Z H _ I h) λus s1 cZ=>?_) he ky
 obtain⟨vs,H1,I1,r1,q1⟩:=cZ
 exact hc ac s1 Z H1 vs us Q I1 r1 q1
end
end L2
namespace HT
open PySem PyProof.Rows
section
open PySem.SeqAt
open PySem.AutoSeq1 (wpAny_loadPart')
open PySem.MeetsSeq PySem.MeetsSeq2 PySem.MeetsSeq3
end
section
variable {prog:aM}{w:bB}{A:bG}{E:ag->aj->Prop}{s:aj}
def Lb {t b:ai}{vs ws:List ag}{Q:ag->aj->Prop}(ht:IsTup s.heap t vs.toArray) (hb:IsTup s.heap b ws.toArray) (hv:vs≠[])
  (h1:ws=[]->Q (.ref t) s) (h2:ws≠[]->Q (.ref s.heap.objs.size) {s with heap:=s.heap.push {cls:=.type "tuple",data:=.seq (vs++ws).toArray}})
  (hsz:vs.length+ws.length<=sizeLine):wpAny (model prog w) A (binaryOp .Add (.ref t) (.ref b)) Q E s:=by
 obtain⟨⟨cls,dd,data,sl⟩,ho,hc,n,hd⟩:=id ht
 obtain⟨⟨Xo,Wi,data2,RS⟩,Lc,FK,n2,hd2⟩:=id hb
 simp only at hc hd FK hd2
 subst hc hd FK hd2
 have e:vs.toArray++ws.toArray=(vs++ws).toArray:=ς
 by_cases hw:ws=[]
 .exact concat_meets ⟨_,ho,rfl⟩ ⟨_,Lc,rfl⟩ Og seq_tuple_add uq sH (rh _ _)
   (tuple_addW1 t b vs.toArray ws.toArray n n2 dd Wi sl RS (by simpa using hv) (by simp[hw])) ⟨ho,Lc,h1 hw⟩
 .refine concat_meets ⟨_,ho,rfl⟩ ⟨_,Lc,rfl⟩ Og seq_tuple_add uq sH (rh _ _)
   (tuple_addW2 t b vs.toArray ws.toArray n n2 dd Wi sl RS (by simpa using hv) (by simpa using hw) (by rw[aH,aH];exact hsz)) ⟨ho,Lc,?_⟩
  rw[e]
  exact h2 hw
def ip (n d:Nat):Option Int->Nat
 |none=>d
 |some v=>if v<0 then(v+(n:Int)).toNat else min v.toNat n
def rE (n d:Nat):ip n d none=d:=rfl
def lW (n d k:Nat):ip n d (some (k:Int))=min k n:=by
 show(if(k:Int)<0 then((k:Int)+(n:Int)).toNat else min (k:Int).toNat n)=min k n
 rw[aO ω,jv]
def OV (n d:Nat) (hd:d<=n) (o:Option Int):ip n d o<=n:=by
 cases o with
 |none=>exact hd
 |some v=>
  show(if v<0 then(v+(n:Int)).toNat else min v.toNat n)<=n
  by_cases hv:v<0
  .rw[aQ hv];omega
  .rw[aO hv];exact sL _ _
def S7 (m n:Nat):min (m:Int) (n:Int)=((min m n:Nat):Int):=by
 rw[Int.min_def,Nat.min_def]
 split<;>rename_i h
 .rw[aQ (Int.ofNat_le.mp h)]
 .rw[aO (λz=>h (Int.ofNat_le.mpr z))]
def Er (v:Int) (n d:Nat):(if v<0 then max (v+(n:Int)) 0 else min v (n:Int))=((ip n d (some v):Nat):Int):=by
 show(if v<0 then max (v+(n:Int)) 0 else min v (n:Int))=(((if v<0 then(v+(n:Int)).toNat else min v.toNat n):Nat):Int)
 by_cases hv:v<0
 .rw[aQ hv,aQ hv];exact(Int.ofNat_toNat _).symm
 .rw[aO hv,aO hv];obtain⟨k,rfl⟩:=RK (Int.not_lt.mp hv);exact S7 k n
def Nx (i:Int) (n:Nat):max 0 (min (if i<0 then i+ ↑n else i) ↑n)=(((if i<0 then(i+ ↑n).toNat else min i.toNat n):Nat):Int):=by
 by_cases h:i<0
 .rw[aQ h,aQ h,Int.min_eq_left (Int.add_le_of_le_sub_right (by rw[Int.sub_self];exact So h)),Int.max_comm];exact(Int.ofNat_toNat _).symm
 .rw[aO h,aO h];obtain⟨k,rfl⟩:=RK (Int.not_lt.mp h);rw[S7,Int.max_eq_right (Int.natCast_nonneg _)];rfl
def Cb (lo hi:Option Int) (n:Nat):Builtin.Slice.sliceAdjust lo hi 1 (n:Int)=(((ip n 0 lo:Nat):Int),((ip n n hi:Nat):Int)):=by
 have h1:¬((1:Int)<0):=ω
 unfold Builtin.Slice.sliceAdjust
 simp only[h1,nu]
 refine Prod.ext ?_ ?_
 .cases lo with
  |none=>rfl
  |some v=>exact Er v n 0
 .cases hi with
  |none=>rfl
  |some v=>exact Er v n n
def Cc (i j:Nat):Builtin.Slice.slicePlaces (i:Int) (j:Int) 1=j-i:=by
 unfold Builtin.Slice.slicePlaces
 have h1:(1:Int)>0:=ω
 simp only[h1,m_,Int.ediv_one]
 split<;>omega
def qz (p:IsPart v o) (h:Q o s):wpAny (model prog w) A (Builtin.Slice.slicePartIndex v) Q E s:=by
 cases p with
 |none=>exact Nk h
 |int i t=>exact slicePart_int h
def mU {lo hi:Option Int}{n:Nat}(hs:s.heap.IsSliceOf sl vl vu .none) (pl:IsPart vl lo) (pu:IsPart vu hi)
  (h:Q (((ip n 0 lo:Nat):Int),1,ip n n hi-ip n 0 lo) s):wpAny (model prog w) A (Builtin.Slice.sliceApplied (.ref sl) (pure (n:Int))) Q E s:=by
 obtain⟨os,OX,Wj,S8⟩:=id hs
 unfold Builtin.Slice.sliceApplied Builtin.Slice.sliceFields
 refine aa (aa (bL OX S8 (x:=vl) rfl (aa (bL OX S8 (x:=vu) rfl (aa (bL OX S8 (x:=.none) rfl (ak ?_)))))))
 refine aa (Nk ?_)
 show wpAny _ _ (if((1:Int)==0)=true then _ else _) _ _ s
 rw[aO δ]
 refine aa (qz pl (aa (qz pu (aa (ak ?_)))))
 show wpAny _ _ (match Builtin.Slice.sliceAdjust lo hi 1 (n:Int) with|(lo,hi)=>pure (lo,(1:Int),Builtin.Slice.slicePlaces lo hi 1)) _ _ s
 rw[Cb lo hi n]
 show wpAny _ _ (pure (((ip n 0 lo:Nat):Int),(1:Int),Builtin.Slice.slicePlaces ((ip n 0 lo:Nat):Int) ((ip n n hi:Nat):Int) 1)) _ _ s
 rw[Cc]
 exact ak h
def HK (xs:Array ag) (i k:Nat):((List.range k).filterMap λ(m:Nat)=>xs[((i:Int)+(m:Int)*1).toNat]?).toArray=((xs.toList.drop i).take k).toArray:=by
 have e:(λ(m:Nat)=>xs[((i:Int)+(m:Int)*1).toNat]?)=λm=>xs[i+m]?:=by
  funext m
  rw[Int.mul_one,show((i:Int)+(m:Int)).toNat=i+m from rfl]
 rw[e]
 have:=pick_run xs i k
 rw[List.filterMap_map] at this
 have e2:((λx=>xs[x]?)∘λx=>i+x)=λm=>xs[i+m]?:=rfl
 rw[e2] at this
 rw[this]
def rF {lo hi:Option Int}(ht:IsTup s.heap t items) (hs:s.heap.IsSliceOf sl vl vu .none) (pl:IsPart vl lo) (pu:IsPart vu hi)
  (hw:¬(ip items.size 0 lo=0/\ip items.size items.size hi=items.size))
  (h:Q (.ref s.heap.objs.size) {s with heap:=s.heap.push {cls:=.type "tuple",data:=.seq ((items.toList.drop (ip items.size 0 lo)).take (ip items.size items.size hi-ip items.size 0 lo)).toArray}})
  (hsz:items.size<=sizeLine):wpAny (model prog w) A (getItem (.ref t) (.ref sl)) Q E s:=by
 have Es:sizeOk (.seq ((items.toList.drop (ip items.size 0 lo)).take (ip items.size items.size hi-ip items.size 0 lo)).toArray):=by
  show((items.toList.drop (ip items.size 0 lo)).take (ip items.size items.size hi-ip items.size 0 lo)).toArray.size<=sizeLine
  rw[aH,fu,dF,gu]
  exact aA (sL _ _) (aA (Af _ _) hsz)
 have hj:ip items.size items.size hi<=items.size:=OV _ _ (ar _) hi
 obtain⟨os,OX,Wj,S8⟩:=id hs
 have Xq:s.TypeIs (.ref sl) "slice":=⟨os,OX,Wj⟩
 unfold getItem
 try with_reducible refine cO ?_
 first|refine aa (ak ?_)|skip
 refine aa (KS ht.typeIs δ ?_)
 refine aa (cH (name:=Str.ofString "__getitem__") ht.typeIs cE
  (dQ cE ht.typeIs entry_tuple_getitem ?_ (args_tuple_getitem _ _)))
 show wpAny _ _ (Builtin.Tuple.tupleItemsOf (.ref t)>>=_) _ _ s
 refine aa (tupleItemsOf_ ht ?_)
 refine aa (rj Xq ?_)
 rw[aQ δ]
 refine aa (mU hs pl pu ?_)
 have OY:¬((((ip items.size 0 lo:Nat):Int)==0&&(1:Int)==1&&(ip items.size items.size hi-ip items.size 0 lo)==items.size)=true):=by
  intro q
  rw[cJ,cJ] at q
  have q1:((ip items.size 0 lo:Nat):Int)=0:=eq_of_beq q.1.1
  have q2:ip items.size items.size hi-ip items.size 0 lo=items.size:=eq_of_beq q.2
  have q0:=Int.ofNat.inj q1
  exact hw ⟨q0,by rw[q0] at q2;exact q2⟩
 show wpAny _ _ (if(((ip items.size 0 lo:Nat):Int)==0&&(1:Int)==1&&(ip items.size items.size hi-ip items.size 0 lo)==items.size)=true then _ else _) _ _ s
 rw[aO OY,HK]
 first
  |exact aa (m:=Builtin.Tuple.tupleExact _) (bE (ak ⟨_,rfl,ak h⟩) Es)
  |exact aa (m:=Builtin.Tuple.tupleExact _) (bE (aa (ak (ak ⟨_,rfl,ak h⟩))) Es)
  |exact aa (aa (m:=Builtin.Tuple.tupleExact _) (bE (ak (ak ⟨_,rfl,ak h⟩)) Es))
  |exact aa (aa (m:=Builtin.Tuple.tupleExact _) (bE (ak ⟨_,rfl,ak h⟩) Es))
end
end HT
namespace L2
open PySem PySem.Spec PyProof.Rows
abbrev TO:=St->Hp->(Option Int->Hp->Prop)->Prop
def PO (X:Cx) (e:Option Expr) (t:TO):Prop:=
 ∀(ac:List (ai×Obj)) (s:aj) (Z:St) (H:Hp) (Q:Option Int->Hp->Prop),Inv X ac Z H s->t Z H Q->
  wpAny (model X.prog X.w) X.A (evalPart e X.env) (λu s'=>∃o H',Inv X ac Z H' s'/\IsPart u o/\Q o H') X.xe s
def rG:TO:=λ_ H Q=>Q none H
def Ar (t:TE):TO:=λZ H Q=>t Z H λx H1=>∃i,x=.int i/\Q (some i) H1
section
variable {X:Cx}{e:Expr}{te:TE}{lo hi:Option Expr}{tl th:TO}{pos p2:Pos}
def jC:PO X none rG:=by
 intro ac s Z H Q I h
 rw[evalPart_none]
 exact ak ⟨none,H,I,.none,h⟩
def iJ (h:PE X e te):PO X (some e) (Ar te):=by
 intro ac s Z H Q I hw
 rw[evalPart_some]
 refine fq (h ac s Z H _ I hw) λu s1 cZ=>?_
 obtain⟨x,H1,I1,r1,q1⟩:=cZ
 obtain⟨i,rfl,q⟩:=q1
 obtain⟨t,rfl⟩:=r1
 exact⟨some i,H1,I1,.int i t,q⟩
def Wk (X:Cx) (r:V->Option Int->Option Int->Hp->VK->Prop):Prop:=
 ∀(ac:List (ai×Obj)) (s:aj) (Z:St) (H:Hp) (x:V) (v vl vu:ag) (lo hi:Option Int) (sl:ai) (Q:VK),Inv X ac Z H s->RelV x v->s.heap.IsSliceOf sl vl vu .none->IsPart vl lo->IsPart vu hi->r x lo hi H Q->
  ∃T id,typeLookup (.type T) "__getitem__"=pure (some (.builtin id))/\s.TypeIs v T/\wpAny (model X.prog X.w) X.A (getItem v (.ref sl)) (EP X ac Z Q) X.xe s
def S9 (r:V->Option Int->Option Int->Hp->VK->Prop) (te:TE) (tl th:TO):TE:=λZ H Q=>te Z H λx H1=>tl Z H1 λl H2=>th Z H2 λu H3=>r x l u H3 Q
def gY {r:V->Option Int->Option Int->Hp->VK->Prop}(hr:Wk X r) (he:PE X e te) (hl:PO X lo tl) (hu:PO X hi th):PE X (.Subscript e (.Slice lo hi none p2) pos) (S9 r te tl th):=by
 intro ac s Z H Q I h
 refine Subscript_ (fq (he ac s Z H _ I h) λv s1 cZ=>?_)
 obtain⟨x,H1,I1,r1,q1⟩:=cZ
 refine wpAny_Slice (fq (hl ac s1 Z H1 _ I1 q1) λvl s2 cZ=>?_)
 obtain⟨l,H2,I2,pl,q2⟩:=cZ
 refine fq (hu ac s2 Z H2 _ I2 q2) λvu s3 Ao=>?_
 obtain⟨u,H3,I3,pu,q3⟩:=Ao
 rw[evalPart_none]
 refine ak ?_
 have I4:Inv X ac Z H3 {s3 with heap:=s3.heap.push {cls:=.type "slice",data:=.fields #[vl,vu,.none]}}:=I3.kept (t':=s3.toks) λb ob q=>af _ q
 obtain⟨T,id,hT,ht,hg⟩:=hr ac {s3 with heap:=s3.heap.push {cls:=.type "slice",data:=.fields #[vl,vu,.none]}} Z H3 x v vl vu l u s3.heap.objs.size Q I4 r1 (Heap.IsSliceOf.new ..) pl pu q3
 show wpAny (model X.prog X.w) X.A (subscriptTail e (.Slice lo hi none p2) v (.ref s3.heap.objs.size)) (EP X ac Z Q) X.xe {s3 with heap:=s3.heap.push {cls:=.type "slice",data:=.fields #[vl,vu,.none]}}
 exact tail_any (ops:=[.ref s3.heap.objs.size,v]) ht hT hg (by with_unfolding_all rfl)
def jh (xs:List V) (lo hi:Option Int):List V:=(xs.drop (HT.ip xs.length 0 lo)).take (HT.ip xs.length xs.length hi-HT.ip xs.length 0 lo)
def ua (xs:List V) (lo hi:Option Int):(jh xs lo hi).length<=xs.length:=by
 unfold jh
 rw[fu,dF]
 exact aA (sL _ _) (Af _ _)
def Xr (K:Φ):V->Option Int->Option Int->Hp->VK->Prop:=λx lo hi H Q=>∃a xs,x=.ref a/\bZ K H a xs/\
 ¬(HT.ip xs.length 0 lo=0/\HT.ip xs.length xs.length hi=xs.length)/\∀p,H p=none->Q (.ref p) (upd H p (.tup (jh xs lo hi)))
def y4:Wk X (Xr X.K):=by
 intro ac s Z H x v vl vu lo hi sl Q I rx hs pl pu h
 obtain⟨a,xs,rfl,hx,hw,q⟩:=h
 cases rx
 obtain⟨cF,r,ht,hz⟩:=I.tuple hx
 have hlen:cF.toArray.size=xs.length:=by rw[aH];exact r.length.symm
 refine⟨"tuple",_,cE.lookup,ht.typeIs,?_⟩
 refine HT.rF ht hs pl pu (by rw[hlen];exact hw) ?_ (by rw[hlen];exact hz)
 rw[hlen]
 refine⟨.ref s.heap.objs.size,_,I.laid (t':=s.toks) (o:=.tup (jh xs lo hi)) (λb ob q=>af _ q) (ar _) ?_,rfl,q _ (I.eN.fresh (ar _))⟩
 exact⟨aA (ua xs lo hi) hz,_,(r.drop (HT.ip xs.length 0 lo)).take (HT.ip xs.length xs.length hi-HT.ip xs.length 0 lo),vw.new _ _⟩
def HL (K:Φ):R2:=λx y H Q=>∃a b xs ys,x=.ref a/\y=.ref b/\bZ K H a xs/\bZ K H b ys/\xs≠[]/\xs.length+ys.length<=sizeLine/\
 (ys=[]->Q (.ref a) H)/\(ys≠[]->∀p,H p=none->Q (.ref p) (upd H p (.tup (xs++ys))))
def cz.y6 (r:cz xs us):us=[]↔xs=[]:=by
 cases r with
 |nil=>simp
 |cons _ _=>simp
def lX:lU X (binaryOp .Add) (HL X.K):=by
 intro ac s Z H x y v u Q I rx ry h
 obtain⟨a,b,xs,ys,rfl,rfl,ha,hb,hx,hz,q1,q2⟩:=h
 cases rx
 cases ry
 obtain⟨cF,r1,p1,_⟩:=I.tuple ha
 obtain⟨lQ,r2,p2,_⟩:=I.tuple hb
 refine HT.Lb p1 p2 (λz=>hx (r1.y6.mp z)) (λz=>⟨.ref a,H,I,rfl,q1 (r2.y6.mp z)⟩) (λz=>?_) (by rw[<-r1.length,<-r2.length];exact hz)
 refine⟨.ref s.heap.objs.size,_,I.laid (t':=s.toks) (o:=.tup (xs++ys)) (λb ob q=>af _ q) (ar _) ?_,rfl,q2 (λw=>z (r2.y6.mpr w)) _ (I.eN.fresh (ar _))⟩
 exact⟨by rw[aK];exact hz,_,r1.append r2,vw.new _ _⟩
end
def KI (n:Nat) (i:Int):Option Nat:=if 0<=i then(if i<n then some i.toNat else none) else if-(n:Int)<=i then some (i+n).toNat else none
def qA {α:Type}(xs:List α) (i:Int):Option α:=(KI xs.length i).bind λj=>xs[j]?
def Et (h:KI n i=some j):seqIndex? i n=some j/\j<n/\-(n:Int)<=i/\i<n:=by
 unfold KI at h
 by_cases h0:0<=i
 .rw[aQ h0] at h
  by_cases h1:i<n
  .rw[aQ h1] at h
   have e:i.toNat=j:=cM h
   exact⟨by rw[seqIndex_of h0 h1,e],ω,ω,h1⟩
  .rw[aO h1] at h;cases h
 .rw[aO h0] at h
  by_cases h1:-(n:Int)<=i
  .rw[aQ h1] at h
   have e:(i+n).toNat=j:=cM h
   exact⟨by rw[seqIndex_neg ω h1,e],ω,h1,ω⟩
  .rw[aO h1] at h;cases h
def Eu {α:Type}{xs:List α}{i:Int}{v:α}(h:qA xs i=some v):∃j,seqIndex? i xs.length=some j/\xs[j]?=some v/\j<xs.length/\-(xs.length:Int)<=i/\i<xs.length:=by
 unfold qA at h
 cases e:KI xs.length i with
 |none=>rw[e] at h;cases h
 |some j=>
  rw[e] at h
  obtain⟨h1,h2,h3,h4⟩:=Et e
  exact⟨j,h1,h,h2,h3,h4⟩
def aT {α:Type}{xs:List α}{j:Nat}{v:α}(h:xs[j]?=some v):qA xs (j:Int)=some v:=by
 have hj:j<xs.length:=(br.mp h).1
 have e:KI xs.length (j:Int)=some j:=by
  unfold KI
  rw[aQ ω,aQ ω];simp
 unfold qA;rw[e];exact h
def lj {α:Type}(xs:List α) (v:α):qA (xs++ [v]) (-1)=some v:=by
 have hl:(xs++ [v]).length=xs.length+1:=ς
 have e:KI (xs++ [v]).length (-1)=some xs.length:=by
  unfold KI
  rw[hl,aO δ,aQ ω]
  congr 1
  omega
 unfold qA
 rw[e]
 show(xs++ [v])[xs.length]?=some v
 simp
def Ld (b:Expr):Prop:=∀o i,subscripted b false o i=operate [o,i] (getItem o i)
def Xs (X:Cx) (r:R2):Prop:=
 ∀(value slice:Expr) (ac:List (ai×Obj)) (s:aj) (Z:St) (H:Hp) (x y:V) (v u:ag) (Q:VK),Inv X ac Z H s->RelV x v->RelV y u->r x y H Q->
  subscripted slice false v u=operate [v,u] (getItem v u)->wpAny (model X.prog X.w) X.A (subscriptTail value slice v u) (EP X ac Z Q) X.xe s
def Xt (X:Cx) (id:String) (r:V->List V->Hp->VK->Prop):Prop:=
 ∀(ac:List (ai×Obj)) (s:aj) (Z:St) (H:Hp) (x:V) (xs:List V) (v:ag) (us:List ag) (Q:VK),Inv X ac Z H s->RelV x v->cz xs us->r x xs H Q->
  wpAny (model X.prog X.w) X.A (call (.builtin id) (v::us)) (EP X ac Z Q) X.xe s
section
variable {X:Cx}{a b:Expr}{ta tb:TE}{pos:Pos}
def bg {r:R2}(hr:Xs X r) (ha:PE X a ta) (hb:PE X b tb) (hs:Ld b:=by intro _ _;rfl):PE X (.Subscript a b pos) (gJ r ta tb):=by
 intro ac s Z H Q I h
 exact Subscript_ (OK ha hb I h λv u s2 x y H2 I2 rx ry q=>hr a b ac s2 Z H2 x y v u Q I2 rx ry q (hs _ _))
def Le (K:Φ):R2:=λx y H Q=>∃p xs i v,x=.ref p/\y=.int i/\cT K H p xs/\qA xs i=some v/\Q v H
def gj (K:Φ):R2:=λx y H Q=>∃p xs i v,x=.ref p/\y=.int i/\bZ K H p xs/\qA xs i=some v/\Q v H
def cV:Xs X (Le X.K):=by
 intro value slice ac s Z H x y v u Q I rx ry h hs
 obtain⟨p,xs,i,z,rfl,rfl,hq,he,q⟩:=h
 cases rx
 obtain⟨t,rfl⟩:=ry
 obtain⟨cF,r,pl,hz⟩:=I.list hq
 obtain⟨j,h1,h2,h3,h4,h5⟩:=Eu he
 obtain⟨w,ew,Fx⟩:=r.get h2
 have hl:=r.length
 have hn:=sZ
 have fin:EP X ac Z Q w s:=⟨z,H,I,Fx,q⟩
 by_cases h0:0<=i
 .have hj:i.toNat=j:=by
   rw[seqIndex_of h0 h5] at h1
   exact cM h1
  exact item_listR pl.isList h0 ω (by rw[hj];simpa using ew) fin hs
 .have hj:(i+(cF.toArray.size:Int)).toNat=j:=by
   rw[seqIndex_neg ω h4] at h1
   rw[aH,<-hl]
   exact cM h1
  exact subscriptTail_builtinR (x:=w) pl.isList.typeIs slot_list_getitem.lookup
   (wpAny_getItem_list_neg (Q:=λr s'=>r=w/\EP X ac Z Q r s') pl.isList ω (by rw[aH]<;>omega) ω (by rw[hj];simpa using ew) ⟨rfl,fin⟩) hs
def bw:Xs X (gj X.K):=by
 intro value slice ac s Z H x y v u Q I rx ry h hs
 obtain⟨p,xs,i,z,rfl,rfl,hq,he,q⟩:=h
 cases rx
 obtain⟨t,rfl⟩:=ry
 obtain⟨cF,r,pl,hz⟩:=I.tuple hq
 obtain⟨j,h1,h2,h3,h4,h5⟩:=Eu he
 obtain⟨w,ew,Fx⟩:=r.get h2
 have hl:=r.length
 have hn:=sZ
 have fin:EP X ac Z Q w s:=⟨z,H,I,Fx,q⟩
 exact subscriptTail_builtinR (x:=w) pl.typeIs slot_tuple_getitem.lookup
  (getItem_tuple (j:=j) (Q:=λr s'=>r=w/\EP X ac Z Q r s') pl ω ω (by rw[aH,<-hl];exact h1) (by simpa using ew) ⟨rfl,fin⟩) hs
def Cd (cF:List ag) (n j:Nat) (u:ag):Obj.mapSeq (·.setIfInBounds j u) {cls:=.type "list",data:=.seq cF.toArray n}={cls:=.type "list",data:=.seq (cF.set j u).toArray n}:=by
 simp[Obj.mapSeq]
def Inv.lst (I:Inv X ac Z H s) (h:H p=some (.lst xs)):
  ∃(cF:List ag) (n:Nat),cz xs cF/\s.heap.get? p=some {cls:=.type "list",data:=.seq cF.toArray n}/\xs.length<=sizeLine:=by
 obtain⟨z,cF,n,r,e⟩:=I.eN p _ h
 exact⟨cF,n,r,e,z⟩
def Inv.OZ {ac:List (ai×Obj)}{Z:St}{H:Hp}{s:aj}{p:ai}{xs ys:List V}{cF its':List ag}{n n':Nat}{f:Obj->Obj}(I:Inv X ac Z H s) (h:H p=some (.lst xs))
  (ho:s.heap.get? p=some {cls:=.type "list",data:=.seq cF.toArray n}) (hf:f {cls:=.type "list",data:=.seq cF.toArray n}={cls:=.type "list",data:=.seq its'.toArray n'}) (r:cz ys its') (hz:ys.length<=sizeLine) (t:Nat):
  Inv X ac Z (upd H p (.lst ys)) {s with heap:=s.heap.update p f,toks:=t}:=by
 have e:(s.heap.update p f).get? p=some {cls:=.type "list",data:=.seq its'.toArray n'}:=by
  rw[cW f ho (by rw[hf]<;>rfl),hf]
 refine I.write (x:=p) (e:=p) (by rw[h];trivial) (.inl rfl) (λb u hb q=>(aY _ _ (cD hb)).trans q) ⟨_,e⟩ ?_
 exact⟨hz,its',n',r,e⟩
def S_:V->V->V->Hp->(Hp->Prop)->Prop:=λo i v H Q=>∃p xs k j,o=.ref p/\i=.int k/\H p=some (.lst xs)/\KI xs.length k=some j/\Q (upd H p (.lst (xs.set j v)))
def set_list:OF X S_:=by
 intro ac s Z H o i v ov iv u Q I ro ri rv h
 obtain⟨p,xs,k,j,rfl,rfl,hp,hj,q⟩:=h
 cases ro
 obtain⟨t,rfl⟩:=ri
 obtain⟨cF,n,r,ho,hz⟩:=I.lst hp
 obtain⟨h1,h2,h3,h4⟩:=Et hj
 have hl:=r.length
 have hn:=sZ
 have I':Inv X ac Z (upd H p (.lst (xs.set j v))) {s with heap:=s.heap.update p (Obj.mapSeq (·.setIfInBounds j u))}:=
  I.OZ hp ho (Cd cF n j u) (r.set rv j) (by rw[List.length_set];exact hz) s.toks
 by_cases h0:0<=k
 .have hk:k.toNat=j:=by
   rw[seqIndex_of h0 h4] at h1
   exact cM h1
  exact PySem.W.ki_setAt ho h0 ω (by rw[aH,<-hl];exact h4) (by rw[hk];exact⟨_,I',q⟩)
 .have hk:(k+(cF.toArray.size:Int)).toNat=j:=by
   rw[seqIndex_neg ω h3] at h1
   rw[aH,<-hl]
   exact cM h1
  exact PySem.W.ki_setBack ho ω (by rw[aH,<-hl];exact h3) ω (by rw[hk];exact⟨_,I',q⟩)
def y9 (lo hi:Option Int) (n:Nat):(sliceBounds lo hi none n).1=((HT.ip n 0 lo:Nat):Int)/\(sliceBounds lo hi none n).2.1=((HT.ip n n hi:Nat):Int)/\(sliceBounds lo hi none n).2.2=1:=by
 refine⟨?_,?_,rfl⟩
 .cases lo with
  |none=>simp[sliceBounds,HT.ip]
  |some i=>
   simp only[sliceBounds,HT.ip,Option.getD_none,show(1:Int)>0 by decide,m_]
   exact HT.Nx i n
 .cases hi with
  |none=>simp[sliceBounds,HT.ip]
  |some i=>
   simp only[sliceBounds,HT.ip,Option.getD_none,show(1:Int)>0 by decide,m_]
   exact HT.Nx i n
def xB (cF:List ag) (lo hi:Option Int):slicePick cF.toArray lo hi none=((cF.drop (HT.ip cF.length 0 lo)).take (HT.ip cF.length cF.length hi-HT.ip cF.length 0 lo)).toArray:=by
 obtain⟨h1,h2,h3⟩:=y9 lo hi cF.toArray.size
 unfold slicePick
 rw[h1,h2,h3]
 simp only[sliceRange_one,pick_run,aH]<;>rfl
def O0 (K:Φ):V->Option Int->Option Int->Hp->VK->Prop:=λx lo hi H Q=>∃a xs,x=.ref a/\cT K H a xs/\∀p,H p=none->Q (.ref p) (upd H p (.lst (jh xs lo hi)))
def pP:Wk X (O0 X.K):=by
 intro ac s Z H x v vl vu lo hi sl Q I rx hs pl pu h
 obtain⟨a,xs,rfl,hx,q⟩:=h
 cases rx
 obtain⟨cF,r,ht,hz⟩:=I.list hx
 have hlen:=r.length
 refine⟨"list",_,slot_list_getitem.lookup,ht.isList.typeIs,?_⟩
 refine wpAny_getItem_list_slice ht.isList hs pl pu .none ς ?_ (by rw[aH]<;>omega)
 rw[xB,<-hlen]
 refine⟨.ref s.heap.objs.size,_,I.laid (t':=s.toks) (o:=.lst (jh xs lo hi)) (λb ob q=>af _ q) (ar _) ?_,rfl,q _ (I.eN.fresh (ar _))⟩
 exact⟨aA (ua xs lo hi) hz,_,0,(r.drop (HT.ip xs.length 0 lo)).take (HT.ip xs.length xs.length hi-HT.ip xs.length 0 lo),az _ rfl⟩
def qk:V->Bool
 | .eK=>true
 | .bl _=>true
 | .int _=>true
 | .str _=>true
 |_=>false
def KJ:V->V->Bool
 | .eK,.eK=>true
 | .bl a,.bl b=>a==b
 | .bl a,.int b=>(if a then 1 else 0)==b
 | .int a,.bl b=>a==(if b then 1 else 0)
 | .int a,.int b=>a==b
 | .str a,.str b=>a==b
 |_,_=>false
def O4 (ry:RelV y u) (rx:RelV x v) (fy:qk y=true) (fx:qk x=true):SeqAt.EqAt A s u v (KJ y x):=by
 cases y with
 |eK=>
  cases ry
  cases x with
  |eK=>cases rx;exact SeqAt.EqAt.same _
  |bl b=>cases rx;exact SeqAt.EqAt.none_bool b
  |int b=>obtain⟨t,rfl⟩:=rx;exact SeqAt.EqAt.none_int b t
  |str b=>obtain⟨t,rfl⟩:=rx;exact SeqAt.EqAt.none_str b t
  |_=>exact absurd (show false=true from fx) bA
 |bl a=>
  cases ry
  cases x with
  |eK=>cases rx;exact SeqAt.EqAt.bool_none a
  |bl b=>cases rx;exact SeqAt.EqAt.bool_bool a b
  |int b=>obtain⟨t,rfl⟩:=rx;exact SeqAt.EqAt.bool_int a b t
  |str b=>obtain⟨t,rfl⟩:=rx;exact SeqAt.EqAt.bool_str a b t
  |_=>exact absurd (show false=true from fx) bA
 |int a=>
  obtain⟨t',rfl⟩:=ry
  cases x with
  |eK=>cases rx;exact SeqAt.EqAt.int_none a t'
  |bl b=>cases rx;exact SeqAt.EqAt.int_bool a t' b
  |int b=>obtain⟨t,rfl⟩:=rx;exact SeqAt.EqAt.int_int a t' b t
  |str b=>obtain⟨t,rfl⟩:=rx;exact SeqAt.EqAt.int_str a t' b t
  |_=>exact absurd (show false=true from fx) bA
 |str a=>
  obtain⟨t',rfl⟩:=ry
  cases x with
  |eK=>cases rx;exact SeqAt.EqAt.str_none a t'
  |bl b=>cases rx;exact SeqAt.EqAt.str_bool a t' b
  |int b=>obtain⟨t,rfl⟩:=rx;exact SeqAt.EqAt.str_int a t' b t
  |str b=>obtain⟨t,rfl⟩:=rx;exact Hn a t' b t
  |_=>exact absurd (show false=true from fx) bA
 |_=>exact absurd (show false=true from fy) bA
def Ce (x:V) (u:ag):Bool:=match u with
 | .none=>KJ .eK x
 | .bool b=>KJ (.bl b) x
 | .int i _=>KJ (.int i) x
 | .str z _=>KJ (.str z) x
 |_=>false
def HM (r:RelV y u) (f:qk y=true):Ce x u=KJ y x:=by
 cases y with
 |eK=>cases r;rfl
 |bl b=>cases r;rfl
 |int i=>obtain⟨t,rfl⟩:=r;rfl
 |str z=>obtain⟨t,rfl⟩:=r;rfl
 |_=>exact absurd (show false=true from f) bA
def rH:∀{xs:List V}{us:List ag},cz xs us->xs.all qk=true->us.any (Ce x)=xs.any λy=>KJ y x
 |_,_,.nil,_=>rfl
 |y::xs,u::us,.cons r t,f=>by
  rw[zW,cJ] at f
  rw[kj,kj,HM r f.1,rH t f.2]
def oV (rx:RelV x v) (fx:qk x=true):∀{xs:List V}{us:List ag},cz xs us->xs.all qk=true->∀u∈us,SeqAt.EqAt A s u v (Ce x u)
 |_,_,.nil,_=>λu hu=>by cases hu
 |y::xs,u::us,.cons r t,f=>λu' hu=>by
  rw[zW,cJ] at f
  rcases aD.mp hu with rfl|hu
  .rw[HM r f.1];exact O4 r rx f.1 fx
  .exact oV rx fx t f.2 u' hu
def HN (x:V) (xs:List V):Bool:=xs.any λy=>KJ y x
def O7 (K:Φ) (neg:Bool):R2:=λx y H Q=>∃p xs,y=.ref p/\(cT K H p xs\/bZ K H p xs)/\qk x=true/\xs.all qk=true/\Q (.bl (if neg then !HN x xs else HN x xs)) H
def pQ:lU X (compareOp .In) (O7 X.K false):=by
 intro ac s Z H x y v u Q I rx ry h
 obtain⟨p,xs,rfl,hq,fx,fs,q⟩:=h
 cases ry
 rcases hq with hq|hq
 .obtain⟨cF,r,pl,hz⟩:=I.list hq
  refine SeqAt.in_listAt (Ce x) pl.isList (λw hw=>oV rx fx r fs w (by simpa using hw)) ⟨.bl _,H,I,rfl,?_⟩
  rw[show cF.toArray.any (Ce x)=cF.any (Ce x) by simp,rH r fs]
  exact q
 .obtain⟨cF,r,pl,hz⟩:=I.tuple hq
  refine SeqAt.in_tupleAt (Ce x) pl (λw hw=>oV rx fx r fs w (by simpa using hw)) ⟨.bl _,H,I,rfl,?_⟩
  rw[show cF.toArray.any (Ce x)=cF.any (Ce x) by simp,rH r fs]
  exact q
def gR:lU X (compareOp .NotIn) (O7 X.K true):=by
 intro ac s Z H x y v u Q I rx ry h
 obtain⟨p,xs,rfl,hq,fx,fs,q⟩:=h
 cases ry
 rcases hq with hq|hq
 .obtain⟨cF,r,pl,hz⟩:=I.list hq
  refine SeqAt.notIn_listAt (Ce x) pl.isList (λw hw=>oV rx fx r fs w (by simpa using hw)) ⟨.bl _,H,I,rfl,?_⟩
  rw[show cF.toArray.any (Ce x)=cF.any (Ce x) by simp,rH r fs]
  exact q
 .obtain⟨cF,r,pl,hz⟩:=I.tuple hq
  refine SeqAt.notIn_tupleAt (Ce x) pl (λw hw=>oV rx fx r fs w (by simpa using hw)) ⟨.bl _,H,I,rfl,?_⟩
  rw[show cF.toArray.any (Ce x)=cF.any (Ce x) by simp,rH r fs]
  exact q
def bO:gN X (.builtin "len") (λxs H Q=>∃p ys,xs=[.ref p]/\(cT X.K H p ys\/bZ X.K H p ys)/\Q (.int ys.length) H):=by
 intro ac s Z H xs us Q I r h
 obtain⟨p,ys,rfl,hq,q⟩:=h
 obtain⟨u,rfl,rx⟩:=Ae r
 cases rx
 have hn:=sZ
 rcases hq with hq|hq
 .obtain⟨cF,r',pl,hz⟩:=I.list hq
  have hlen:=r'.length
  exact Calls.call_len_list pl.isList (by simp only[aH]<;>omega) ⟨.int ys.length,H,I.tok _,⟨s.toks+1,by rw[aH,hlen]⟩,q⟩
 .obtain⟨cF,r',pl,hz⟩:=I.tuple hq
  have hlen:=r'.length
  exact len_tuple pl (by simp only[aH]<;>omega) ⟨.int ys.length,H,I.tok _,⟨s.toks+1,by rw[aH,hlen]⟩,q⟩
def rJ:gN X (.builtin "len") (λxs H Q=>∃z,xs=[.str z]/\z.length<=sizeLine/\Q (.int z.length) H):=by
 intro ac s Z H xs us Q I r h
 obtain⟨z,rfl,hz,q⟩:=h
 obtain⟨u,rfl,t,rfl⟩:=Ae r
 have hn:=sZ
 exact len_str ω ⟨.int z.length,H,I.tok _,⟨_,rfl⟩,q⟩
def nE:gN X (.type "list") (λxs H Q=>∃p ys,xs=[.ref p]/\(cT X.K H p ys\/bZ X.K H p ys)/\∀l,H l=none->Q (.ref l) (upd H l (.lst ys))):=by
 intro ac s Z H xs us Q I r h
 obtain⟨p,ys,rfl,hq,q⟩:=h
 obtain⟨u,rfl,rx⟩:=Ae r
 cases rx
 have fin:∀(cF:List ag),cz ys cF->ys.length<=sizeLine->∀(h':Heap) (c':Nat),(∀b o',s.heap.get? b=some o'->h'.get? b=some o')->
   h'.get? s.heap.objs.size=some {cls:=.type "list",dict:=none,data:=.seq cF.toArray c',slots:=#[]}->EP X ac Z Q (.ref s.heap.objs.size) {s with heap:=h'}:=λcF r' hz h' c' kp e=>
  ⟨.ref s.heap.objs.size,_,I.laid (t':=s.toks) kp (ar _) (show fV X.prog X.w _ h' _ (.lst ys) from⟨hz,cF,c',r',e⟩),rfl,q _ (I.eN.fresh (ar _))⟩
 rcases hq with hq|hq
 .obtain⟨cF,r',pl,hz⟩:=I.list hq
  have hlen:=r'.length
  obtain⟨o,ho,hc,n,hd⟩:=pl.isList
  exact call_list_seq p (.inl rfl) ho hc hd (λh' c' kp e=>fin cF r' hz h' c' kp e) (by simp only[aH]<;>omega)
 .obtain⟨cF,r',pl,hz⟩:=I.tuple hq
  have hlen:=r'.length
  obtain⟨o,ho,hc,n,hd⟩:=pl
  exact call_list_seq p (.inr rfl) ho hc hd (λh' c' kp e=>fin cF r' hz h' c' kp e) (by simp only[aH]<;>omega)
def fB:gN X (.type "tuple") (λxs H Q=>∃p ys,xs=[.ref p]/\((cT X.K H p ys/\∀l,H l=none->Q (.ref l) (upd H l (.tup ys)))\/(bZ X.K H p ys/\Q (.ref p) H))):=by
 intro ac s Z H xs us Q I r h
 obtain⟨p,ys,rfl,h⟩:=h
 obtain⟨u,rfl,rx⟩:=Ae r
 cases rx
 rcases h with⟨hq,q⟩|⟨hq,q⟩
 .obtain⟨cF,r',pl,hz⟩:=I.list hq
  have hlen:=r'.length
  refine call_tuple_list pl.isList (λh' kp=>?_) (by simp only[aH]<;>omega)
  have I1:Inv X ac Z H {s with heap:=h'}:=I.kept (t':=s.toks) kp
  have I2:Inv X ac Z (upd H h'.objs.size (.tup ys)) {s with heap:=h'.push {cls:=.type "tuple",data:=.seq cF.toArray}}:=
   I1.laid (t':=s.toks) (λb o e=>af _ e) (ar _) (show fV X.prog X.w _ _ _ (.tup ys) from⟨hz,cF,r',vw.new _ _⟩)
  exact⟨.ref h'.objs.size,_,I2,rfl,q _ (I1.eN.fresh (ar _))⟩
 .obtain⟨cF,r',pl,hz⟩:=I.tuple hq
  exact call_tuple_same pl ⟨.ref p,H,I,rfl,q⟩
def Xu (K:Φ) (T:String) (x:V) (H:Hp):Prop:=match x with
 | .str _=>T="str"
 | .int _=>T="int"
 | .ref p=>(T="list"/\∃xs,cT K H p xs)\/(T="tuple"/\∃o,K.lookup p=some o/\o.cls=.type "tuple"/\o.dict=none)\/
   (T="dict"/\((∃dO,H p=some (.dK dO))\/∃dO,H p=some (.dT dO)))\/(T="set"/\∃S n,H p=some (.set S n))
 |_=>False
def HP (I:Inv X ac Z H s) (r:RelV x v) (ty:Xu X.K T x H):
  s.TypeIs v T/\∀a,v=.ref a->∃ob,s.heap.get? a=some ob/\ob.dict=none:=by
 cases x with
 |str z=>
  obtain⟨t,rfl⟩:=r
  cases(show T="str" from ty)
  exact⟨typeIs_str s z t,λ_ e=>nomatch e⟩
 |int i=>
  obtain⟨t,rfl⟩:=r
  cases(show T="int" from ty)
  exact⟨typeIs_int s i t,λ_ e=>nomatch e⟩
 |ref p=>
  cases r
  rcases ty with⟨rfl,xs,hq⟩|⟨rfl,o,hk,hc,hd⟩|⟨rfl,hk⟩|⟨rfl,S,n,hk⟩
  .obtain⟨cF,_,pl,_⟩:=I.list hq
   refine⟨pl.isList.typeIs,λa e=>?_⟩
   cases e
   obtain⟨o,n,e,c,hd,_⟩:=pl
   exact⟨o,e,hd⟩
  .refine⟨⟨o,I.kY p o hk,hc⟩,λa e=>?_⟩
   cases e
   exact⟨o,I.kY _ o hk,hd⟩
  .have z:∃o,s.heap.get? p=some o/\o.ExactDict:=by
    rcases hk with⟨dO,hk⟩|⟨dO,hk⟩
    .obtain⟨_,_,_,_,o,_,_,e,ex,_⟩:=I.eN p _ hk
     exact⟨o,e,ex⟩
    .obtain⟨_,_,_,_,o,_,_,e,ex,_⟩:=I.eN p _ hk
     exact⟨o,e,ex⟩
   obtain⟨o,e,ex⟩:=z
   refine⟨⟨o,e,ex.1⟩,λa e2=>?_⟩
   cases e2
   exact⟨o,e,ex.2.1⟩
  .obtain⟨o,_,_,_,e,ex,_⟩:=I.eN p _ hk
   refine⟨⟨o,e,ex.1⟩,λa e2=>?_⟩
   cases e2
   exact⟨o,e,ex.2.1⟩
 |_=>exact False.elim ty
def Xv (K:Φ) (T:String) (r:V->List V->Hp->VK->Prop) (to:TE):TE:=λZ H Q=>to Z H λx H1=>Xu K T x H1/\r x [] H1 Q
def tBM (K:Φ) (T:String) (r:V->List V->Hp->VK->Prop) (to:TE) (t:TA):TE:=λZ H Q=>to Z H λx H1=>Xu K T x H1/\t Z H1 λxs H2=>r x xs H2 Q
variable {o e:Expr}{es:List Expr}{to:TE}{t:TA}{name:Str}{apos jS:Pos}{T id:String}{r:V->List V->Hp->VK->Prop}
def y_ (pa:PlainAttrs T) (slot:Slot T name id) (Xw:typeOf (.builtin id)=pure (.type "method_descriptor")) (hm:Xt X id r) (ho:PE X o to)
  (As:attributeBase o name X.env (eval o X.env)=eval o X.env:=by rfl) (HQ:(apos.endLine==jS.line)=true:=by rfl):PE X (.Call (.Attribute o name apos) [] [] jS) (Xv X.K T r to):=by
 intro ac s Z H Q I h
 refine wpAny_Call_method0_late As HQ (fq (ho ac s Z H _ I h) λv s1 cZ=>?_)
 obtain⟨x,H1,I1,r1,ty,q1⟩:=cZ
 obtain⟨h1,h2⟩:=HP I1 r1 ty
 exact⟨T,id,pa,slot,Xw,h1,h2,yE rfl (PySem.evalArgs_none (hm ac s1 Z H1 x [] v [] Q I1 r1 .nil q1))⟩
def ql (pa:PlainAttrs T) (slot:Slot T name id) (Xw:typeOf (.builtin id)=pure (.type "method_descriptor")) (hm:Xt X id r) (ho:PE X o to) (ha:PA X (e::es) t)
  (As:attributeBase o name X.env (eval o X.env)=eval o X.env:=by rfl)
  (Xx:((backTo jS (starEach (e::es) X.env)).all (λx=>!x.1)&&(backToKw jS (keywordEach [] X.env)).all (λx=>x.1.isSome)
   &&decide ((e::es).length+([]:List Keyword).length+(if([]:List Keyword).isEmpty then 0 else 1)<30))=true:=by rfl)
  (HQ:(apos.endLine==jS.line)=true:=by rfl) (hs:starEach (e::es) X.env=(false,eval e X.env)::starEach es X.env:=by rfl) (O8:(backTo jS (starEach es X.env)).any (·.1)=false:=by rfl):
  PE X (.Call (.Attribute o name apos) (e::es) [] jS) (tBM X.K T r to t):=by
 intro ac s Z H Q I h
 refine wpAny_Call_method_late As Xx HQ rfl (fq (ho ac s Z H _ I h) λv s1 cZ=>?_)
 obtain⟨x,H1,I1,r1,ty,q1⟩:=cZ
 obtain⟨h1,h2⟩:=HP I1 r1 ty
 refine⟨T,id,pa,slot,Xw,h1,h2,?_⟩
 have hA:=ha jS ac s1 Z H1 _ I1 q1
 rw[hs] at hA⊢
 refine yE (by show(false||(backTo jS (starEach es X.env)).any (·.1))=false;rw[O8]<;>rfl) (BI ?_)
 refine fq hA λus s2 cZ=>?_
 obtain⟨vs,H2,I2,r2,q2⟩:=cZ
 exact hm ac s2 Z H2 x vs v us Q I2 r1 r2 q2
end
def Ta (X:Cx) (id:String) (r:V->List V->Hp->VK->Prop):Prop:=
 ∀(ac:List (ai×Obj)) (s:aj) (Z:St) (H:Hp) (x:V) (xs:List V) (v:ag) (us:List ag) (Q:VK),Inv X ac Z H s->RelV x v->cz xs us->r x xs H Q->
  wpAny (model X.prog X.w) X.A (call (.builtin id) (v::us)) (EP X ac Z Q) X.xe s
def cz.one (h:cz [x] us):∃u,us=[u]/\RelV x u:=by
 cases h with
 |cons r t=>cases t;exact⟨_,rfl,r⟩
def cz.two (h:cz [x,y] us):∃u v,us=[u,v]/\RelV x u/\RelV y v:=by
 cases h with
 |cons r t=>cases t with
  |cons q t=>cases t;exact⟨_,_,rfl,r,q⟩
def cz.zero:∀{us:List ag},cz [] us->us=[]
 |_,.nil=>rfl
def cz.dropLast (h:cz xs us):cz xs.dropLast us.dropLast:=by
 induction h with
 |nil=>exact .nil
 |cons r t ih=>
  cases t with
  |nil=>exact .nil
  |cons q t'=>exact .cons r ih
def cz.rep (h:cz xs us):∀k:Nat,cz (List.replicate k xs).flatten (List.replicate k us).flatten
 |0=>.nil
 |k+1=>by
  rw[j4,j4,qV,qV]
  exact cz.append h (cz.rep h k)
def Cf {α:Type}(l:List α):l.eraseIdx (l.length-1)=l.dropLast:=by
 induction l with
 |nil=>rfl
 |cons a r ih=>
  cases r with
  |nil=>rfl
  |cons b r=>
   have e:(a::b::r).length-1=((b::r).length-1)+1:=rfl
   rw[e,List.eraseIdx_cons_succ,ih]
   all_goals rfl
def foldl_rep (cF:List ag):∀(k:Nat) (acc:List ag),
  List.foldl (λx1 x2=>x1++x2) acc.toArray (List.replicate k cF.toArray)=(acc++(List.replicate k cF).flatten).toArray
 |0,acc=>by simp
 |k+1,acc=>by
  have e:acc.toArray++cF.toArray=(acc++cF).toArray:=ς
  have e2:(acc++cF)++(List.replicate k cF).flatten=acc++(List.replicate (k+1) cF).flatten:=by
   rw[j4,qV,hU]
  rw[<-e2,<-foldl_rep cF k (acc++cF),<-e,j4,List.foldl_cons]
section
variable {X:Cx}{ac:List (ai×Obj)}{Z:St}{H:Hp}{s:aj}{l b:ai}{xs ys zs:List V}
def Inv.HR {cF its':List ag} (I:Inv X ac Z H s) (hH:H l=some (.lst xs))
  (e:s.heap.get? l=some {cls:=.type "list",data:=.seq cF.toArray n}) (hf:f cF.toArray=its'.toArray) (hv:cz ys its') (hz:ys.length<=sizeLine):
  Inv X ac Z (upd H l (.lst ys)) {s with heap:=s.heap.update l (Obj.mapSeq f),toks:=t'}:=by
 have q:=PySem.IsL.update e f
 rw[hf] at q
 refine I.write (x:=l) (e:=l) (by rw[hH];exact trivial) (.inl rfl) (λb' u hb hu=>(aY s.heap (Obj.mapSeq f) (cD hb)).trans hu) ⟨_,q⟩ ?_
 exact⟨hz,its',_,hv,q⟩
def Inv.Tb (I:Inv X ac Z H s) (hv:cz ys cF) (hz:ys.length<=sizeLine):
  Inv X ac Z (upd H s.heap.objs.size (.lst ys)) {s with heap:=s.heap.push {cls:=.type "list",data:=.seq cF.toArray},toks:=t'}:=
 I.laid (λ_ _ q=>af _ q) (ar _) ⟨hz,cF,0,hv,az _ rfl⟩
def Inv.fresh (I:Inv X ac Z H s):H s.heap.objs.size=none:=I.eN.fresh (ar _)
def Inv.za (I:Inv X ac Z H s) (hH:H l=some (.lst xs)):xs.length<=sizeLine/\∃(cF:List ag) (n:Nat),cz xs cF/\xs.length=cF.length/\s.heap.get? l=some {cls:=.type "list",data:=.seq cF.toArray n}:=by
 obtain⟨z,cF,n,r,e⟩:=I.eN l _ hH
 exact⟨z,cF,n,r,r.length,e⟩
def Au (h:n<=sizeLine):Builtin.List.listTooLong n=false:=by
 unfold Builtin.List.listTooLong
 exact bD ω
end
section
variable {X:Cx}
def Lf:V->List V->Hp->VK->Prop:=λx vs H Q=>∃l xs y,x=.ref l/\vs=[y]/\H l=some (.lst xs)/\xs.length<sizeLine/\Q .eK (upd H l (.lst (xs++ [y])))
def gE:Ta X "list.append" Lf:=by
 intro ac s Z H x vs v us Q I rx rv h
 obtain⟨l,xs,y,rfl,rfl,hH,hz,q⟩:=h
 cases rx
 obtain⟨u,rfl,ru⟩:=rv.one
 obtain⟨z,cF,n,r,hl,e⟩:=I.za hH
 refine sN F.slot_list_append ⟨_,e,rfl⟩ F.entry_list_append (F.args_list_append_2 _ _) (PySem.list_append l cF.toArray n u (by rw[aH];omega)) ⟨e,?_⟩
 refine⟨.eK,_,I.HR (its':=cF++ [u]) hH e ς (r.append (.cons ru .nil)) ?_,rfl,q⟩
 rw[aK,aJ]
 omega
def Lg:V->List V->Hp->VK->Prop:=λx vs H Q=>∃l b xs zs,x=.ref l/\vs=[.ref b]/\H l=some (.lst xs)/\H b=some (.lst zs)/\xs.length+zs.length<=sizeLine/\Q .eK (upd H l (.lst (xs++zs)))
def RT:Ta X "list.extend" Lg:=by
 intro ac s Z H x vs v us Q I rx rv h
 obtain⟨l,b,xs,zs,rfl,rfl,hH,hB,hz,q⟩:=h
 cases rx
 obtain⟨u,rfl,ru⟩:=rv.one
 cases ru
 obtain⟨z,cF,n,r,hl,e⟩:=I.za hH
 obtain⟨z2,lQ,n2,r2,oE,e2⟩:=I.za hB
 have hsz:cF.toArray.size+lQ.toArray.size<=sizeLine:=by rw[aH,aH];omega
 have HS:¬(!cF.toArray.isEmpty&&Builtin.List.listTooLong (cF.toArray.size+lQ.toArray.size))=true:=by
  rw[Au hsz,fg]
  exact bA
 refine sN F.slot_list_extend ⟨_,e,rfl⟩ F.entry_list_extend (F.args_list_extend_2 _ _)
  (AutoSeq1.list_extend_list_list_0 l cF.toArray n b lQ.toArray n2 HS (by rw[aH];omega) ω) ⟨e,e2,?_⟩
 refine⟨.eK,_,I.HR (its':=cF++lQ) hH e ς (r.append r2) ?_,rfl,q⟩
 rw[aK]
 omega
def Xy:V->List V->Hp->VK->Prop:=λx vs H Q=>∃l xs y,x=.ref l/\vs=[]/\H l=some (.lst xs)/\xs[xs.length-1]?=some y/\Q y (upd H l (.lst xs.dropLast))
def Cg:Ta X "list.pop" Xy:=by
 intro ac s Z H x vs v us Q I rx rv h
 obtain⟨l,xs,y,rfl,rfl,hH,hy,q⟩:=h
 cases rx
 have Xz:=rv.zero
 subst Xz
 obtain⟨z,cF,n,r,hl,e⟩:=I.za hH
 obtain⟨u,hu,ru⟩:=r.get hy
 have XA:cF.toArray[cF.toArray.size-1]?=some u:=by
  show cF.toArray[cF.length-1]?=some u
  rw[<-Array.getElem?_toList,<-hl]
  exact hu
 refine sN F.slot_list_pop ⟨_,e,rfl⟩ F.entry_list_pop (F.args_list_pop_1 _) (MeetsSeq.list_pop_last l cF.toArray n u XA (by rw[aH];omega)) ⟨e,?_⟩
 refine⟨y,_,I.HR (its':=cF.dropLast) hH e ?_ r.dropLast ?_,ru,q⟩
 .show cF.toArray.eraseIdxIfInBounds (cF.toArray.size-1)=cF.dropLast.toArray
  rw[aH,List.eraseIdxIfInBounds_toArray,Cf]
 .rw[List.length_dropLast]
  omega
def O9:V->List V->Hp->VK->Prop:=λx vs H Q=>∃l xs,x=.ref l/\vs=[]/\H l=some (.lst xs)/\Q .eK (upd H l (.lst []))
def HU:Ta X "list.clear" O9:=by
 intro ac s Z H x vs v us Q I rx rv h
 obtain⟨l,xs,rfl,rfl,hH,q⟩:=h
 cases rx
 have Xz:=rv.zero
 subst Xz
 obtain⟨z,cF,n,r,hl,e⟩:=I.za hH
 refine sN F.slot_list_clear ⟨_,e,rfl⟩ F.entry_list_clear (F.args_list_clear_1 _) (AutoSeq1.list_clear_list_0 l cF.toArray n (by rw[aH];omega)) ⟨e,?_⟩
 exact⟨.eK,_,I.HR (its':=[]) (ys:=[]) hH e rfl .nil (de _),rfl,q⟩
def XB:R2:=λx y H Q=>∃l b xs zs,x=.ref l/\y=.ref b/\H l=some (.lst xs)/\H b=some (.lst zs)/\xs.length+zs.length<=sizeLine/\∀p,H p=none->Q (.ref p) (upd H p (.lst (xs++zs)))
def lD:lU X (binaryOp .Add) XB:=by
 intro ac s Z H x y v u Q I rx ry h
 obtain⟨l,b,xs,zs,rfl,rfl,hH,hB,hz,q⟩:=h
 cases rx
 cases ry
 obtain⟨z,cF,n,r,hl,e⟩:=I.za hH
 obtain⟨z2,lQ,n2,r2,oE,e2⟩:=I.za hB
 refine PySem.P.add_list e e2 ?_ (by rw[aH,aH];omega)
 have ea:cF.toArray++lQ.toArray=(cF++lQ).toArray:=ς
 rw[ea]
 exact⟨.ref _,_,I.Tb (t':=s.toks) (r.append r2) (by rw[aK];omega),rfl,q _ I.fresh⟩
def XC:R2:=λx y H Q=>∃l k xs,x=.ref l/\y=.int k/\H l=some (.lst xs)/\-(2^63)<=k/\k<2^63/\xs.length*k.toNat<=sizeLine/\
 ∀p,H p=none->Q (.ref p) (upd H p (.lst (List.replicate k.toNat xs).flatten))
def len_rep {α:Type}(xs:List α) (k:Nat):(List.replicate k xs).flatten.length=k*xs.length:=by
 induction k with
 |zero=>simp
 |succ k ih=>rw[j4,qV,aK,ih,Nat.succ_mul,Nat.add_comm]
def HW:lU X (binaryOp .Mult) XC:=by
 intro ac s Z H x y v u Q I rx ry h
 obtain⟨l,k,xs,rfl,rfl,hH,h1,h2,hz,q⟩:=h
 cases rx
 obtain⟨t,rfl⟩:=ry
 obtain⟨z,cF,n,r,hl,e⟩:=I.za hH
 have hlen:cF.toArray.size*k.toNat<=sizeLine:=by rw[aH,<-hl];exact hz
 have XD:¬cF.toArray.size*k.toNat>(2^63-1)/8:=by
  have:(sizeLine:Nat)<=(2^63-1)/8:=δ
  omega
 have XE:¬(!Builtin.List.listFitsIndex k)=true:=by
  rw[fitsIndex_both h1 h2]
  exact bA
 have HS:¬Builtin.List.listTooLong (cF.toArray.size*k.toNat)=true:=by
  rw[Au hlen]
  exact bA
 have XF:List.foldl (λx1 x2=>x1++x2) #[] (List.replicate (if cF.toArray.isEmpty=true then 0 else k.toNat) cF.toArray)=(List.replicate k.toNat cF).flatten.toArray:=by
  have f0:∀m:Nat,List.foldl (λx1 x2=>x1++x2) #[] (List.replicate m cF.toArray)=(List.replicate m cF).flatten.toArray:=λm=>by
   have:=foldl_rep cF m []
   rw[List.nil_append] at this
   exact this
  rw[f0]
  cases cF with
  |nil=>simp
  |cons a r'=>rw[aO ς]
 refine wpAny_binaryOp_repeat_ref (T:="list") (U:="int") δ ⟨_,e,rfl⟩ (λs'=>typeIs_int s' k t) noFill_list_mul F.fills_int_mul F.slot_int_rmul repeat_list F.slot_int_index.lookup
  (sN F.slot_int_rmul (typeIs_int s k t) F.entry_int_rmul (F.args_int_rmul_2 _ _) (int___rmul___int_list k t l cF.toArray n)
   ⟨e,rfl,⟨_,e,rfl⟩,sN F.slot_list_mul ⟨_,e,rfl⟩ F.entry_list_mul (F.args_list_mul_2 _ _) (AutoListH.list___mul___list_int_3 l cF.toArray n k t XE XD HS) ⟨e,?_⟩⟩)
 rw[XF]
 exact⟨.ref _,_,I.Tb (t':=s.toks) (r.rep k.toNat) (by rw[len_rep,Nat.mul_comm];exact hz),rfl,q _ I.fresh⟩
end
section
variable {prog:aM}{w:bB}{A:bG}{E:ag->aj->Prop}{s:aj}
end
section
variable {X:Cx}
end
end L2
namespace Att
open PySem PySem.W PySem.Calls PyProof.Rows
def uF:∀(ns:List Int) (vs:List ag),WellAll P h vs (ns.map WData.int)->IntsAre vs ns:=by
 intro ns
 induction ns with
 |nil=>
  intro vs w
  rw[oK] at w
  cases w
  exact .nil
 |cons n ns ih=>
  intro vs w
  rw[bK] at w
  cases w with
  |cons a b=>
   cases a
   exact .cons _ _ (ih _ b)
def FN {l:OpenLaw}(hn:l.most=some n)
  (Lh:l.row.toRowW.claim.pre args=true) (XG:WellAll P h vals args):
  ∃a vs ns,vals=[Value.ref a]/\args=[WData.list (ns.map WData.int)]/\h.get? a=some {cls:=.type "list",data:=.seq vs.toArray}/\IntsAre vs ns/\ns.length<=n:=by
 have hsh:WShape.hasAll [] args [.list .int]=true:=(pre_splitW Lh).1
 have hc:l.pre.holds [] {args:=args}=true:=(pre_splitW Lh).2
 obtain⟨d,r,rfl,h1,h2⟩:=hasAllW_cons hsh
 obtain rfl:=hasAllW_nil h2
 obtain⟨xs,rfl,h3⟩:=hasW_list h1
 obtain⟨ns,rfl⟩:=items_int h3
 have hlen:ns.length<=n:=by
  unfold OpenLaw.pre at hc
  have h4:(WTm.not (.lt (.lit (.int (n:Int))) (.len (.arg 0)))).holds [] {args:=[.list (ns.map .int)]}=true:=by
   have h4:=(holds_andW hc).1
   rw[hn] at h4
   exact h4
  have h5:=condW_of h4 (w_not (w_lt w_lit (w_len_list (w_arg rfl))))
  rw[aq] at h5
  refine Fk λq=>?_
  have q':(n:Int)<((ns.length:Nat):Int):=ω
  first
   |(rw[aI q'] at h5;exact absurd h5 δ)
   |(simp at h5;omega)
 cases XG with
 |cons w1 w2=>
  cases w2
  cases w1 with
  |list ho O_=>exact⟨_,_,ns,rfl,rfl,ho,uF ns _ O_,hlen⟩
def FO (l:OpenLaw) (args:List WData):l.row.toRowW.claim.post args (.bool true) args=true:=
 postW_of (r:=l.row.toRowW) (X:=(true==true))
  (show WShape.has [] (.bool true) .bool=true by first|rfl|decide|simp[WShape.has,WShape.arms,WShape.armsAll])
  (show(WTm.eq .res (.lit (.bool true))).value [] {args:=args,res:=some (.bool true),after:=args}=some (.bool (true==true)) from w_eq_bool (w_res rfl) w_lit) rfl
def Av {l:OpenLaw}{n:Nat}{q:aM}{loose:List Str}{XP:(Str->Option ag)->Heap->Prop}{YP:bB->Heap->Prop}{d:DefRec}
  (hn:l.most=some n) (Tc:d.params.defaults=[])
  (call:∀(w:bB) (gP fh:aj) (mg mb:Str->Option ag) (fa:ai) (o:Obj) (pm cd doc:ag) (a:ai) (vs:List ag) (ns:List Int),
   Ground q loose [] XP w gP mg mb fh.heap->YP w fh.heap->
   fh.heap.get? fa=some o->o.data=.func (docDef d.name d.params d.body d.scope pm cd doc)->fh.heap.CodeRec cd d.name->mg d.name=some (.ref fa)->
   fh.heap.get? a=some {cls:=.type "list",data:=.seq vs.toArray}->IntsAre vs ns->ns.length<=n->fh.gens=#[]->
   codeAny (model l.prog w) callerA (.call (.ref fa) ⟨[.ref a],[]⟩) (λr s'=>r=.ok (.ret (.bool true))/\OldK fh.heap s'.heap/\s'.os=fh.os/\AllBare s'.gens) fh):
  WalkO q loose XP YP l.row.toRowW d [] (λf vs=>PySem.call f vs):=by
 intro w gP fh mg mb G Y fa o pm cd doc dV kV ho hd BV hD hmg hg args vals as Lh aaw hrd XG hlo
 obtain rfl:dV=.none:=Dflts.none hD Tc
 obtain rfl:kV=.none:=Dflts.noKw hD
 obtain⟨a,vs,ns,rfl,rfl,Pa,hints,hlen⟩:=FN hn Lh XG
 refine enter_call (kK (call w gP fh mg mb fa o pm cd doc a vs ns G Y ho (fd_plain hd) BV hmg Pa hints hlen hg) λr s' hq=>?_)
 obtain⟨rfl,h2,h3,h4⟩:=hq
 exact⟨.inl ⟨.bool true,.bool true,[],rfl,λ_=>rfl,.bool true,FO l _,λ_=>⟨List.Pairwise.nil,λ_ hm=>(nomatch hm)⟩⟩,h2,h3,h4⟩
section
variable {prog:aM}{w:bB}{A:bG}{E:ag->aj->Prop}{s:aj}{K:Φ}
def ledger (h:Heap) (L d:ai):List (ai×Obj):=(List.range h.objs.size).filterMap λa=>if a=L\/a=d then none else(h.get? a).map λo=>(a,o)
end
end Att
namespace L2
open PySem PySem.Spec PyProof.Rows
def x9:∀{vs:List ag}{ns:List Int},IntsAre vs ns->cz (ns.map V.int) vs
 |_,_,.nil=>.nil
 |_,_,.cons n t h=>.cons ⟨t,rfl⟩ (x9 h)
def Pb (H:Hp):Prop:=∀b,H b=none\/∃o xs,H b=some (.BR o (.lst xs))
def HX {P:aM}{w:bB}{K:Φ}{mg mb:Str->Option ag}{CX:Hd}{k:Nat}{fa a:ai}{fd:FuncData}{x:Str}{sp:Sp}{fh:aj}{vs:List ag}{ns:List Int}
  (KX:K.In fh.heap) (RU:fh.heap.Ns mainGlobals mg) (hb:fh.heap.Ns builtinsNs mb) (hbb:∀x:Str,x≠"__name__"->mb x=bootBuiltins x) (XH:fh.heap.NoLimit) (hg:fh.gens=#[])
  (ha:fh.heap.get? a=some {cls:=.type "list",data:=.seq vs.toArray}) (hi:IntsAre vs ns) (hl:ns.length<=sizeLine) (hr:eS k callerA)
  (F:∀base:Heap,K.In base->base.Ns mainGlobals mg->dW P w K mg base CX k fa fd [x] sp) (hbind:∀(s:aj) (u:ag),BindsTo s fd ⟨[u],[]⟩ [(x,u)])
  (FJ:∀H:Hp,Pb H->cT K H a (ns.map V.int)->sp [.ref a] H (λv _=>v=.bl true) λ_ _ _=>False)
  (hCX:∀H e s',CX [] H fh (λ_ _ _=>False) e s'->False):
  codeAny (model P w) callerA (.call (.ref fa) ⟨[.ref a],[]⟩) (λr s'=>r=.ok (.ret (.bool true))/\OldK fh.heap s'.heap/\s'.os=fh.os/\AllBare s'.gens) fh:=by
 have rv:=x9 hi
 have XI:=hi.length
 --from an abstract heap in aas nothing but Wh Pc may be tracked
 have core:∀H:Hp,Pb H->cT K H a (ns.map V.int)->qi P w H fh.heap->(∀b,H b≠none->b=a)->(H a≠none->K.lookup a=none)->
   codeAny (model P w) callerA (.call (.ref fa) ⟨[.ref a],[]⟩) (λr s'=>r=.ok (.ret (.bool true))/\OldK fh.heap s'.heap/\s'.os=fh.os/\AllBare s'.gens) fh:=by
  intro H hO hS eN hA hK
  have Ew:∀{b:ai} {o:Obj},fh.heap.get? b=some o->H b=none->(yN fh.heap H).get? b=some o:=λe n=>Hu e n
  have S2:∀{b:ai} {o:Obj} {es:Array DictEntry} {ep:Nat},fh.heap.get? b=some o->o.data=.dict es ep->H b=none:=λ{b o es ep} e d=>by
   cases q:H b with
   |none=>rfl
   |some u=>
    have e':b=a:=hA b (by rw[q];simp)
    subst e'
    rw[ha] at e;cases e
    have d':Data.seq vs.toArray _=Data.dict es ep:=d
    cases d'
  have Wl:∀{b:ai} {m:Str->Option ag},fh.heap.Ns b m->(yN fh.heap H).Ns b m:=λ{b m} ⟨o,es,ep,e,d,r⟩=>⟨o,es,ep,Ew e (S2 e d),d,r⟩
  have hKb:K.In (yN fh.heap H):=λb o e=>Ew (KX b o e) (by
   cases q:H b with
   |none=>rfl
   |some u=>
    have e':b=a:=hA b (by rw[q];simp)
    subst e'
    rw[hK (by rw[q];simp)] at e;cases e)
  have hM:Mod K mg (yN fh.heap H):=⟨hKb,Wl RU,⟨mb,Wl hb,hbb⟩,let⟨mc,h1,h2⟩:=XH;⟨mc,Wl h1,h2⟩⟩
  have e0:uE P w K mg (yN fh.heap H) callerA [] fh H:=⟨rfl,hM,λb o e=>K0 e,fj (Fs _ _),trivial,λb hb=>absurd (show b∈([]:List ai) from hb) ς,eN,.of_eq hg⟩
  refine kK ((F _ hKb (Wl RU)).run callerA [] fh H ⟨[.ref a],[]⟩ [.ref a] [.ref a] _ _ hr e0 (hbind fh (.ref a)) (.cons rfl .nil) (FJ H hO hS)) λr s' h=>?_
  cases r with
  |error e=>exact(hCX H e s' h).elim
  |ok fl=>
   cases fl with
   |next=>exact False.elim h
   |brk=>exact False.elim h
   |cont=>exact False.elim h
   |ret u=>
    obtain⟨v,H',os,bare,un,XJ,r',q⟩:=h
    have q':v=.bl true:=q
    subst q'
    obtain rfl:u=Value.bool true:=r'
    refine⟨rfl,OldK.of_keep λb o e=>?_,os,bare⟩
    cases q:H b with
    |none=>exact un.keep b o e q (by intro z;exact absurd (show b∈([]:List ai) from z) ς) ς
    |some u=>
     rcases hO b with z|⟨ob,xs,z⟩
     .rw[q] at z;cases z
     .have z2:=un.oN b ob _ z
      obtain⟨e1,_⟩:=eN b _ z
      obtain⟨e2,_⟩:=XJ b _ z2
      rw[e] at e1;cases e1
      exact e2
 cases hk:K.lookup a with
 |some o=>
  --Wh Pc is one of Wh Td own objects
  have e:=KX a o hk
  rw[ha] at e
  cases e
  refine core (λ_=>none) (λ_=>.inl rfl) (.inr ⟨_,vs.toArray,_,hk,rfl,rfl,rfl,by rw[aH,XI];exact hl,by simpa using rv⟩) (λb u z=>by have z':(none:Option HO)=some u:=z;cases z') (λb z=>absurd rfl z) λz=>absurd rfl z
 |none=>
  refine core (λb=>if b=a then some (.BR {cls:=.type "list",data:=.seq vs.toArray} (.lst (ns.map V.int))) else none) (λb=>?_) (.inl (.inr ⟨{cls:=.type "list",data:=.seq vs.toArray},aQ rfl⟩)) (λb u z=>?_) (λb z=>?_) λ_=>hk
  .by_cases hb:b=a
   .exact .inr ⟨_,_,aQ hb⟩
   .exact .inl (aO hb)
  .by_cases hb:b=a
   .have z':=(aQ hb).symm.trans z
    cases z'
    subst hb
    exact⟨ha,by rw[aq];exact hl,vs,_,rv,ha⟩
   .have z':=(aO hb).symm.trans z
    cases z'
  .by_cases hb:b=a
   .exact hb
   .exact absurd (aO hb) z
def Li {l:PySem.W.OpenLaw}{n k:Nat}{q:aM}{loose:List Str}{XP:(Str->Option ag)->Heap->Prop}{YP:bB->Heap->Prop}{d:DefRec}{K:Params->Φ}{CX:bB->Hd}{sp:bB->Sp}{x:Str}
  (hn:l.most=some n) (KH:n<=sizeLine) (Tc:d.params.defaults=[]) (hr:eS k callerA)
  (hY:∀(w:bB) (h:Heap),YP w h->(K w.params).In h)
  (F:∀(w:bB) (mg:Str->Option ag) (fa:ai) (h:Heap),(K w.params).In h->h.Ns mainGlobals mg->mg d.name=some (.ref fa)->
   ∃fd:FuncData,(∀(s:aj) (u:ag),BindsTo s fd ⟨[u],[]⟩ [(x,u)])/\
    ∀base:Heap,(K w.params).In base->base.Ns mainGlobals mg->dW l.prog w (K w.params) mg base (CX w) k fa fd [x] (sp w))
  (FJ:∀(w:bB) (H:Hp) (a:ai) (ns:List Int),ns.length<=n->Pb H->cT (K w.params) H a (ns.map V.int)->sp w [.ref a] H (λv _=>v=.bl true) λ_ _ _=>False)
  (hCX:∀(w:bB) (H:Hp) (s:aj) (e:ag) (s':aj),CX w [] H s (λ_ _ _=>False) e s'->False):
  PySem.W.WalkO q loose XP YP l.row.toRowW d [] (λf vs=>PySem.call f vs):=by
 refine Att.Av hn Tc λw gP fh mg mb fa o pm cd doc a vs ns G Y ho hd BV hmg Pa hints hlen hg=>?_
 have KX:=hY w _ Y
 obtain⟨fd,hb,hF⟩:=F w mg fa _ KX G.T.g hmg
 exact HX KX G.T.g G.T.b G.T.builtins G.T.nolimit hg Pa hints (aA hlen KH) hr hF hb (λH hO hS=>FJ w H a ns hlen hO hS) λH e s'=>hCX w H fh e s'
end L2
namespace L2
open PySem PySem.Spec PyProof.Rows
def jD (s:Stmt):Arguments:=match s with
 | .FunctionDef _ a _ _ _ _ _ _ _ _=>a
 |_=>{posonlyargs:=[],args:=[],vararg:=none,kwonlyargs:=[],kw_defaults:=[],kwarg:=none,defaults:=[]}
def fC (s:Stmt):List Stmt:=match s with
 | .FunctionDef _ _ b _ _ _ _ _ _ _=>b
 |_=>[]
def aw (s:Stmt):Scope:=match s with
 | .FunctionDef _ _ _ _ _ _ sc _ _ _=>sc
 |_=>{kind:=.function,names:=[],isGenerator:=false,isCoroutine:=false}
abbrev fT:Hd:=λ_ _ _ _ _ _=>False
abbrev E0:XK:=λ_ _ _=>False
def Aw:mx fT X E0:=λ_ _ _ _ _ _ _ h=>h.elim
structure ji (K:Φ) (x qual:Str) (st:Stmt) (f:ai) (fd:FuncData):Prop where
 ex:∃(oc:ag) (od:Option ai) (kV doc pm:ag) (an:Option ai) (cdv ct:ag) (vE:Array (Option ag)),
  fd=PySem.W.fnOf x qual (jD st) (fC st) (aw st) .none kV doc pm an cdv ct/\K.lookup f=some ⟨oc,od,.func fd,vE⟩/\PySem.W.codeIn K cdv qual=true
 kp:PySem.W.keepIn K (.ref f)=true
section
variable {P:aM}{w:bB}{K:Φ}{mg:Str->Option ag}{base:Heap}
def ji.ok {x qual:Str}{st:Stmt}{f:ai}{fd:FuncData}{N ps:List Str}{k:Nat}{sp:Sp}(F:ji K x qual st f fd) (S:bW N ps (aw st)) (len:∀vs H Q E,sp vs H Q E->vs.length=ps.length)
  (vF:∀(cdv:ag) (A:bG) (outer:List Env) (s:aj) (H:Hp) (vs:List V) (Q:VK) (E:XK),eS k (A.deeper (envOfC qual (aw st) s.heap.objs.size f cdv))->sp vs H Q E->
   ∃t,xx (eY fT P w K mg base N qual (aw st) f cdv A outer s H E).lg (fC st) t/\t {nx:=λ_ H'=>Q .eK H',rt:=Q} (start N vs) H):dW P w K mg base fT (k+1) f fd ps sp:=by
 obtain⟨oc,od,kV,doc,pm,an,cdv,ct,vE,rfl,lk,BV⟩:=F.ex
 refine Nw lk BV S len λA outer s H vs Q E hr FJ=>?_
 obtain⟨t,h,q⟩:=vF cdv A outer s H vs Q E hr FJ
 exact⟨t,h.lg,q⟩
def ji.binds {x qual:Str}{st:Stmt}{f:ai}{fd:FuncData}{ps:List Str}(F:ji K x qual st f fd)
  (h:∀(kV doc pm:ag) (an:Option ai) (cdv ct:ag) (us:List ag),us.length=ps.length->bindArgs (PySem.W.fnOf x qual (jD st) (fC st) (aw st) .none kV doc pm an cdv ct) ⟨us,[]⟩=pure (ps.zip us)):Binds K fd ps []:=by
 obtain⟨oc,od,kV,doc,pm,an,cdv,ct,vE,rfl,lk,BV⟩:=F.ex
 exact .all (h kV doc pm an cdv ct)
def Ci {st:Stmt} {kV doc pm cdv ct:ag}(l:K.lookup f=some ⟨oc,od,.func (PySem.W.fnOf x qual (jD st) (fC st) (aw st) .none kV doc pm an cdv ct),vE⟩)
  (c:PySem.W.codeIn K cdv qual=true) (k:PySem.W.keepIn K (.ref f)=true):ji K x qual st f (PySem.W.fnOf x qual (jD st) (fC st) (aw st) .none kV doc pm an cdv ct):=⟨⟨oc,od,kV,doc,pm,an,cdv,ct,vE,rfl,l,c⟩,k⟩
end
def dD (h:n<=1000):n<sizeLine:=bb h δ
section
variable {X:Cx}
def pv (i:Nat) (hN:X.N[i]?=some x:=by rfl) (hv:Wb X.env.scope x:=by first|exact Or.inl rfl|exact Or.inr (Or.inl rfl)|exact Or.inr (Or.inr rfl)) (hd:(x==("__debug__":Str))=false:=by decide)
  (BV:(x==("__classdict__":Str))=false:=by decide):PE X (.Name x pos) (b_ i):=OD hN hv hd BV
end
def qB {A B:Prop}(h:A):if true=true then A else B:=by
 rw[aQ rfl]
 exact h
def eP {c A B:Prop} [Decidable c] (h1:c->A) (h2:¬c->B):if c then A else B:=by
 by_cases h:c
 .rw[aQ h]
  exact h1 h
 .rw[aO h]
  exact h2 h
def a_ (H H':Hp):Prop:=∀b o,H b=some o->H' b=some o
def a_.refl (H:Hp):a_ H H:=λ_ _ h=>h
def a_.trans (a:a_ H H1) (b:a_ H1 H2):a_ H H2:=λc o h=>b c o (a c o h)
def a_.seq {K:Φ} (e:a_ H H') (h:cT K H a xs):cT K H' a xs:=by
 rcases h with(h|⟨o,h⟩)|h
 .exact .inl (.inl (e _ _ h))
 .exact .inl (.inr ⟨o,e _ _ h⟩)
 .exact .inr h
def j0 (env:Env):List (Str×NameKind)->List (Str×ai)->List (Str×ai)
 | [],acc=>acc
 |(n,k)::r,acc=>j0 env r (if k== .free then(match env.cells.lookup n with|some c=>(n,c)::acc|none=>acc) else acc)
abbrev nF (scope:Scope) (env:Env):List (Str×ai):=j0 env scope.names []
def qC
  (hg:∀n k cs,g (n,k) cs=if(k==NameKind.free)=true then(cellOf env n>>=λc=>pure (ForInStep.yield ((n,c)::cs))) else pure (ForInStep.yield cs)):
  ∀(names:List (Str×NameKind)) (acc:List (Str×ai)),(∀y∈names,y.2=.free->∃c,env.cells.lookup y.1=some c)->forIn names acc g=pure (j0 env names acc)
 | [],acc,_=>rfl
 |(n,k)::r,acc,h=>by
  rw[oh,hg]
  have hr:∀y∈r,y.2=.free->∃c,env.cells.lookup y.1=some c:=λy hy=>h y (cu _ hy)
  unfold j0
  by_cases hk:(k==NameKind.free)=true
  .rw[aQ hk,aQ hk]
   obtain⟨c,hc⟩:=h (n,k) cj (by simpa using hk)
   have zY:env.cells.lookup n=some c:=hc
   have e:cellOf env n=pure c:=by unfold cellOf;rw[zY]
   rw[e,pure_bind,pure_bind,zY]
   exact qC hg r _ hr
  .rw[aO hk,aO hk,pure_bind]
   exact qC hg r _ hr
def mz (h:∀y∈scope.names,y.2=.free->∃c,env.cells.lookup y.1=some c):closureFor scope env=pure (nF scope env):=by
 unfold closureFor
 dsimp only
 rw[qC (env:=env) (λn k cs=>by
  show(if(k==NameKind.free)=true then _ else _)=_
  split
  .rfl
  .rfl) scope.names [] h]
 rfl
def Ax:∀(names:List (Str×NameKind)) (acc:List (Str×ai)),(∀y c,acc.lookup y=some c->env.cells.lookup y=some c)->(j0 env names acc).lookup x=some c->env.cells.lookup x=some c
 | [],acc,h,e=>h _ _ e
 |(n,k)::r,acc,h,e=>by
  unfold j0 at e
  refine Ax r _ ?_ e
  intro y d z
  split at z
  .split at z
   .rename_i c' zY
    rw[gC] at z
    cases hy:y==n with
    |true=>
     rw[hy] at z
     have z':c'=d:=cM z
     subst z'
     have:y=n:=by simpa using hy
     rw[this];exact zY
    |false=>rw[hy] at z;exact h _ _ z
   .exact h _ _ z
  .exact h _ _ z
def x_:∀(names:List (Str×NameKind)) (acc:List (Str×ai)),(∃c,acc.lookup x=some c)->∃c,(j0 env names acc).lookup x=some c
 | [],acc,h=>h
 |(n,k)::r,acc,h=>by
  unfold j0
  refine x_ r _ ?_
  split
  .split
   .rw[gC]
    cases x==n with
    |true=>exact⟨_,rfl⟩
    |false=>exact h
   .exact h
  .exact h
def vG:∀(names:List (Str×NameKind)) (acc:List (Str×ai)),(x,NameKind.free)∈names->(∃c,env.cells.lookup x=some c)->∃c,(j0 env names acc).lookup x=some c
 | [],acc,h,_=>nomatch h
 |(n,k)::r,acc,h,hx=>by
  unfold j0
  rcases aD.mp h with e|e
  .cases e
   refine x_ r _ ?_
   obtain⟨c,hc⟩:=hx
   rw[aQ δ,hc]
   exact⟨c,by rw[gC,Fl]⟩
  .exact vG r _ e hx
@[reducible] def Cx.ya (X:Cx) (N:List Str) (scope:Scope) (s:aj) (H:Hp) (fp:List ai):Cx:=
 {X with N:=N,gP:=s,BS:=H,env:=compEnvC scope (nF scope X.env) s.heap.objs.size X.env,outer:=X.stack,stack:=X.stack,ex:=fp,fn:=λ_=>false,pn:=[],xe:=λ_ _=>False}
def pick (Z:St):Option Nat->Option V
 |none=>none
 |some j=>(Z[j]?).join
structure fz (X:Cx) (scope:Scope) (N:List Str) (r:List (Option Nat)):Prop where
 kind:scope.kind=.function
 qD:∀y∈scope.names,y.2≠.cell
 own:∀y∈scope.names,y.2=.local->scope.names.lookup y.1=some .local
 out:∀y∈scope.names,y.2=.free->X.env.scope.names.lookup y.1=some .cell\/X.env.scope.names.lookup y.1=some .free
 len:r.length=N.length
 free:∀(i j:Nat) (x:Str),r[i]?=some (some j)->N[i]?=some x->X.N[j]?=some x/\(x,NameKind.free)∈scope.names/\scope.names.lookup x=some .free
def nU (hf:∀y,(f y).1=y.1):∀{names:List (Str×NameKind)}{x:Str}{k:NameKind},(names.map f).lookup x=some k->∃k',names.lookup x=some k'/\(f (x,k')).2=k
 | [],_,_,h=>by simp at h
 |(n,k0)::r,x,k,h=>by
  rw[bK] at h
  have e1:(f (n,k0)).1=n:=hf _
  have e2:f (n,k0)=(n,(f (n,k0)).2):=Prod.ext e1 rfl
  rw[e2,gC] at h
  cases hx:x==n with
  |true=>
   rw[hx] at h
   have XM:x=n:=by simpa using hx
   subst XM
   exact⟨k0,by rw[gC,Fl],cM h⟩
  |false=>
   rw[hx] at h
   obtain⟨k',h1,h2⟩:=nU hf h
   exact⟨k',by rw[gC,hx];exact h1,h2⟩
def nV {f:Str×NameKind->Str×NameKind}(hf:∀y,(f y).1=y.1):∀{names:List (Str×NameKind)}{x:Str}{k:NameKind},names.lookup x=some k->(names.map f).lookup x=some (f (x,k)).2
 | [],_,_,h=>by simp at h
 |(n,k0)::r,x,k,h=>by
  rw[bK]
  have e1:(f (n,k0)).1=n:=hf _
  have e2:f (n,k0)=(n,(f (n,k0)).2):=Prod.ext e1 rfl
  rw[e2,gC]
  rw[gC] at h
  cases hx:x==n with
  |true=>
   rw[hx] at h
   have XM:x=n:=by simpa using hx
   subst XM
   have:k0=k:=cM h
   subst this
   rfl
  |false=>
   rw[hx] at h
   exact nV hf h
def rK {scope:Scope}{env:Env}{x:Str}{k:NameKind}(hc:∀y∈scope.names,y.2≠.cell) (h:(relabel scope env).names.lookup x=some k) (hk:k=.cell\/k=.free):scope.names.lookup x=some .free:=by
 have h':(scope.names.map λ(y:Str×NameKind)=>if(y.2==NameKind.free&&env.scope.kind== .function&&env.kindOf y.1==some .cell)=true then(y.1,NameKind.cell) else y).lookup x=some k:=h
 obtain⟨k',h1,h2⟩:=nU (f:=λy=>if(y.2==NameKind.free&&env.scope.kind== .function&&env.kindOf y.1==some .cell)=true then(y.1,NameKind.cell) else y) (λy=>by split<;>rfl) h'
 dsimp only at h2
 split at h2
 .rename_i z
  have z1:(k'==NameKind.free)=true:=by
   simp only[cJ] at z
   exact z.1.1
  have:k'=.free:=by simpa using z1
  rw[this] at h1;exact h1
 .have Pd:k'=k:=h2
  subst Pd
  rcases hk with rfl|rfl
  .exact absurd rfl (hc _ (gv h1))
  .exact h1
def zb (h:scope.names.lookup x=some .free):(relabel scope env).names.lookup x=some .cell\/(relabel scope env).names.lookup x=some .free:=by
 have q:=nV (f:=λ(y:Str×NameKind)=>if(y.2==NameKind.free&&env.scope.kind== .function&&env.kindOf y.1==some .cell)=true then(y.1,NameKind.cell) else y) (λy=>by split<;>rfl) h
 have q':(relabel scope env).names.lookup x=_:=q
 rw[q']
 dsimp only
 split
 .exact .inl rfl
 .exact .inr rfl
section
variable {X:Cx}
def Ny (X:Cx) (ifs:List Expr) (t:TT):Prop:=
 ∀(ac:List (ai×Obj)) (s:aj) (Z:St) (H:Hp) (Q:Bool->Hp->Prop),Inv X ac Z H s->t Z H Q->
  wpAny (model X.prog X.w) X.A (forIn ifs true λc r=>if r=true then do let ok<-isTrue c X.env (eval c X.env);pure (ForInStep.yield ok) else pure (ForInStep.yield r)) (TP X ac Z Q) X.xe s
def qE:TT:=λ_ H Q=>Q true H
def iX:Ny X [] qE:=λac s Z H Q I h=>wpAny_tests_nil ⟨H,I,h⟩
def ig (hc:PT X c t):Ny X [c] t:=λac s Z H Q I h=>wpAny_tests_one (hc ac s Z H Q I h)
def oW (I:Nat->aj->Prop)
  (turn:∀n s,I n s->wpAny (model prog w) A (pyNext it) (λr fh=>match r with
   |none=>R (.ok .next) fh
   |some v=>wpAny (model prog w) A (letOwnedTupleGo target it v) (λ_ fh=>wpAny (model prog w) A (assign target env v) (λ_ sY=>
    wpAny (model prog w) A (forIn ifs true λc r=>if r=true then do let ok<-isTrue c env (eval c env);pure (ForInStep.yield ok) else pure (ForInStep.yield r)) (λok FP=>
     if ok=true then wpAny (model prog w) A (eval elt env) (λx Te=>
      wpAny (model prog w) A (call (.builtin "list.append") [acc,x]) (λ_ Tf=>∃m,m<n/\I m Tf) (notedBy (model prog w) A env λe s'=>R (.error e) s') Te) (notedBy (model prog w) A env λe s'=>R (.error e) s') FP
     else∃m,m<n/\I m FP) (notedBy (model prog w) A env λe s'=>R (.error e) s') sY) (notedBy (model prog w) A env λe s'=>R (.error e) s') fh)
    (notedBy (model prog w) A env λe s'=>R (.error e) s') fh) (notedBy (model prog w) A env λe s'=>R (.error e) s') s)
  (n:Nat) (h:I n s):
  codeAny (model prog w) A (.compLoop (.ListComp elt [⟨target,iter,ifs,0⟩] scope pos) 0 it acc env) R s:=by
 refine codeAny_loop rfl I (λn s hI=>?_) n h
 show wpAny _ A ((compTurn (.ListComp elt [⟨target,iter,ifs,0⟩] scope pos) 0 it acc env).onRaise (λx=>do noteFrame x env;theTreesLotGoes x)) _ _ s
 refine wpAny_noted ?_
 rw[compTurn_list]
 refine aa (jN (aa (bM (turn n s hI) (λr fh FQ=>?_) λ_ _ h'=>h')))
 cases r with
 |none=>exact ak FQ
 |some v=>
  refine aa (bM FQ (λ_ aat Tg=>?_) λ_ _ h'=>h')
  refine aa (bM Tg (λ_ sY HY=>aa (bM HY (λok FP Lj=>?_) λ_ _ h'=>h')) λ_ _ h'=>h')
  cases ok with
  |false=>exact ak ⟨rfl,Lj⟩
  |true=>
   exact aa (aa (bM Lj (λx Te XN=>aa (bM XN (λ_ Tf XO=>ak (ak ⟨rfl,XO⟩)) λ_ _ h'=>h')) λ_ _ h'=>h'))
def tu {N:List Str}{scope:Scope}{r:List (Option Nat)}{ac:List (ai×Obj)}{Z:St}{H:Hp}{s:aj}{h4:Heap}{tk:Nat}{fp:List ai}(S:fz X scope N r) (I:Inv X ac Z H s) (hf:∀b∈fp,mQ X ac H b) (mS:∀b∈fp,b<s.heap.objs.size)
  (RU:h4.Ns s.heap.objs.size (λx=>([]:List (Str×ag)).reverse.lookup x)) (hk:∀b o,s.heap.get? b=some o->h4.get? b=some o):
  Inv (X.ya N scope s H fp) [] (r.map (pick Z)) H {s with heap:=h4,toks:=tk}:=by
 have FR:∀x c,(nF scope X.env).lookup x=some c->X.env.cells.lookup x=some c:=λx c e=>Ax scope.names [] (λ_ _ z=>by simp at z) e
 have yb:∀b∈fp,b∉oq X.stack:=λb hb z=>by
  obtain⟨_,f1,f2,_⟩:=hf b hb
  rcases aD.mp (I.sV b z) with e|e
  .exact f1 e
  .exact f2 e
 refine⟨⟨I.ok.mod,S.kind,I.ok.glob,I.ok.blt,ar _,λx y c h1 h2=>I.ok.inj x y c (FR x c h1) (FR y c h2),λx hx=>?_,λx c z=>absurd z ς,I.ok.hd,I.ok.frames,.inl rfl,
   λb hb=>⟨ba (mS b hb),λx c e=>(hf b hb).2.2.2.2.1 x c (FR x c e)⟩,I.bs,aA I.ok.BU I.sz,λb o e hb=>?_,yb,I.stack,I.yO⟩,
  rfl,I.bare,Un.kept hk,⟨_,RU,λi x v e1 e2 e3=>?_⟩,λx c e=>?_,I.eN.fresh (ar _),λx c e=>I.jq x c (FR x c e),λp hp=>absurd (show p∈([]:List (ai×Obj)) from hp) ς,I.eN.kept hk,?_⟩
 .have SN:(relabel scope X.env).names.lookup x=some .cell\/(relabel scope X.env).names.lookup x=some .free:=hx
  have Ee:scope.names.lookup x=some .free:=by
   rcases SN with z|z
   .exact rK S.qD z (.inl rfl)
   .exact rK S.qD z (.inr rfl)
  have hm:=gv Ee
  exact vG scope.names [] hm (I.ok.has x (S.out _ hm rfl))
 .obtain⟨_,_,_,f3,_⟩:=hf b hb
  rcases f3 with z|z
  .exact I.ok.xw b o e z
  .exact absurd (bh (aC (I.ok.bs b o e).1) z) (fU _)
 .rw[bY] at e2
  cases hr:r[i]? with
  |none=>rw[hr] at e2;cases e2
  |some oj=>
   rw[hr] at e2
   cases oj with
   |none=>cases e2
   |some j=>
    have vH:pick Z (some j)=some v:=cM e2
    obtain⟨k1,k2,k3⟩:=S.free i j x hr e1
    have e4:Z[j]?=some (some v):=by
     have vH:(Z[j]?).join=some v:=vH
     cases hj:Z[j]? with
     |none=>rw[hj] at vH;cases vH
     |some o=>rw[hj] at vH;rw[show o=some v from vH]
    obtain⟨m,hn,hl⟩:=I.loc
    have vis:Wb X.env.scope x:=by
     rcases S.out _ k2 rfl with z|z
     .exact .inr (.inl z)
     .exact .inr (.inr z)
    obtain⟨u,ru,lk⟩:=hl j x v k1 e4 vis
    refine⟨u,ru,.inr ⟨zb k3,?_⟩⟩
    rcases lk with⟨z,_⟩|⟨_,c,ec,ic⟩
    .have z':X.env.scope.names.lookup x=some .local:=z
     rcases S.out _ k2 rfl with y|y
     .rw[y] at z';cases z'
     .rw[y] at z';cases z'
    .obtain⟨c',ec'⟩:=vG scope.names [] k2 ⟨c,ec⟩
     have:c'=c:=cM ((FR x c' ec').symm.trans ec)
     subst this
     exact⟨c',ec',ic.keeps hk⟩
 .obtain⟨v,z⟩:=I.cell x c (FR x c e)
  exact⟨v,z.keeps hk⟩
 .rw[aq];exact S.len
def zc {N:List Str}{scope:Scope}{ac:List (ai×Obj)}{Z bX:St}{H H0 H':Hp}{s s0 s':aj}{h':Heap}{fp:List ai}(I:Inv X ac Z H s) (hf:∀b∈fp,mQ X ac H b)
  (u0:Un (oq X.stack) fp H H0 s.heap s0.heap) (hsz:s.heap.objs.size<=s0.heap.objs.size) (ho:s0.os=s.os) (J:Inv (X.ya N scope s0 H0 fp) [] bX H' s') (hs:Heap.SameBut s0.heap.objs.size s'.heap h'):Inv X ac Z H' {s' with heap:=h'}:=by
 have u:Un (oq X.stack) fp H H' s.heap s'.heap:=u0.trans J.base
 have ne:∀b o,s.heap.get? b=some o->b≠s0.heap.objs.size:=λb o e=>ba (bh (aC e) hsz)
 have hC:H' s0.heap.objs.size=none:=J.free
 refine I.Hw (s':={s' with heap:=h'}) (ch:=fp) (J.os.trans ho) ⟨λb o e n hb hx=>(hs.2 b (ne b o e)).trans (u.keep b o e n hb hx),λb o e n hb hx=>?_,u.free,λb o e hx=>?_,u.nz,u.oN,u.qe⟩ (λb ob e=>?_) J.bare λb hb=>⟨(hf b hb).2.2.2.1,(hf b hb).2.1,(hf b hb).2.2.2.2.1,(hf b hb).2.2.2.2.2⟩
 .obtain⟨sl,e1⟩:=u.slot b o e n hb hx
  exact⟨sl,(hs.2 b (ne b o e)).trans e1⟩
 .obtain⟨o',e1⟩:=u.there b o e hx
  exact⟨o',(hs.2 b (ne b o e)).trans e1⟩
 .refine(J.eN b ob e).qd (λc w' hc q=>(hs.2 c ?_).trans q) (λ_ q=>q) λ_ _ q=>q
  rintro rfl
  rcases hc with rfl|hc
  .rw[hC] at e;cases e
  .rw[hC] at hc;cases hc
def qg (J:It) (g:TG) (tc:TT) (te:TE) (FT:St) (H1:Hp) (Q:VK) (D:ai):Prop:=
 ∃W:Nat->Nat->St->Hp->Prop,(∃m,W 0 m FT (upd H1 D (.lst [])))/\∀i m bX H',W i m bX H'->
  (J.stop i H'/\Q (.ref D) H')\/(J.go i H'/\∃(N:St->Hp->Prop) (M:V->St->Hp->Prop),(∀iR H4,N iR H4->∃m',m'<m/\W (i+1) m' iR H4)/\
   (∀y iR H5,M y iR H5->∃xs m',H5 D=some (.lst xs)/\xs.length<sizeLine/\m'<m/\W (i+1) m' iR (upd H5 D (.lst (xs++ [y]))))/\
   ∀x H2,J.BY i H' x H2->g x bX H2 λiR H3=>tc iR H3 λb H4=>if b=true then te iR H4 λy H5=>M y iR H5 else N iR H4)
def XQ (wi:TI) (r:List (Option Nat)) (g:TG) (tc:TT) (te:TE):TE:=λZ H Q=>wi Z H λJ H1=>∀D,H1 D=none->qg J g tc te (r.map (pick Z)) H1 Q D
def kE (hc:X.calm=true) (hi:PI X tg iter wi) (S:fz X scope N r)
  (hg:∀s H fp,PG (X.ya N scope s H fp) tg g) (ht:∀s H fp,Ny (X.ya N scope s H fp) ifs tc) (he:∀s H fp,PE (X.ya N scope s H fp) elt te)
  (hs:∀x,foldedSetIterable iter X.env x=pure x:=by intro _;rfl):PE X (.ListComp elt [⟨tg,iter,ifs,0⟩] scope pos) (XQ wi r g tc te):=by
 intro ac s Z H Q I h
 rw[eval_ListComp]
 have HZ:closureFor scope X.env=pure (nF scope X.env):=mz λy hy hk=>I.ok.has y.1 (S.out y hy hk)
 refine vg (use:=none) rfl hs HZ S.kind S.own ?_
 show wpAny _ _ (eval iter X.env) _ _ s
 refine fq (hi ac s Z H _ I h) λv s1 h1=>fq h1 λOH s2 h2=>?_
 obtain⟨it,fp,tn,J,H2,e,I2,T,Bx,f2,q2⟩:=h2
 subst e
 have hD:H2 s2.heap.objs.size=none:=I2.eN.fresh (ar _)
 obtain⟨W,⟨m0,w0⟩,turn⟩:=q2 _ hD
 have Ay:∀b∈fp,b<s2.heap.objs.size:=λb hb=>by
  obtain⟨o,e,_⟩:=T.obj _ _ Bx b hb
  exact aC e
 refine bE ?_
 generalize Bz:({s2 with heap:=s2.heap.push {cls:=.type "list",dict:=none,data:=.seq ([]:List ag).toArray}}:aj)=s3
 have k3:∀b o,s2.heap.get? b=some o->s3.heap.get? b=some o:=λb o e=>by rw[<-Bz];exact af _ e
 have z3:s3.heap.objs.size=s2.heap.objs.size+1:=by rw[<-Bz];exact cf ..
 have u3:Un (oq X.stack) fp H2 (upd H2 s2.heap.objs.size (.lst [])) s2.heap s3.heap:=Un.laid k3 (ar _) hD
 have o3:s3.os=s2.os:=by rw[<-Bz]
 have I3:Inv X ac Z (upd H2 s2.heap.objs.size (.lst [])) s3:=by
  rw[<-Bz]
  exact I2.laid (t':=s2.toks) (λb u e=>af _ e) (ar _) ⟨de _,[],0,.nil,az _ rfl⟩
 have f3:∀b∈fp,mQ X ac (upd H2 s2.heap.objs.size (.lst [])) b:=λb hb=>⟨by rw[aV (ba (Ay b hb))];exact(f2 b hb).1,(f2 b hb).2⟩
 refine BJ S.qD (by intro y hy;simp at hy) (λh4 H_ Ia=>?_) S.kind
 have k4:∀b o,s3.heap.get? b=some o->h4.get? b=some o:=λb o e=>Ia.extBut b o (ba (aC e)) (af _ e)
 have J4:Inv (X.ya N scope s3 (upd H2 s2.heap.objs.size (.lst [])) fp) [] (r.map (pick Z)) (upd H2 s2.heap.objs.size (.lst [])) {s3 with heap:=h4,toks:=s3.toks+([]:List (Str×ag)).length}:=
  tu S I3 f3 (λb hb=>by rw[z3];exact gk (Ay b hb)) H_ k4
 have Ib:tn 0 h4:=T.keep _ _ _ Bx λb _ o e=>k4 b o (k3 b o e)
 have qx:∀{H':Hp},(∀b∈fp,H' b=none)->∀b∈fp,mQ (X.ya N scope s3 (upd H2 s2.heap.objs.size (.lst [])) fp) [] H' b:=λhn b hb=>
  ⟨hn b hb,(J4.ok.Ft b hb).1,J4.ok.uz b hb,.inl hb,(J4.ok.Ft b hb).2,λp hp=>absurd (show p∈([]:List (ai×Obj)) from hp) ς⟩
 generalize hY:X.ya N scope s3 (upd H2 s2.heap.objs.size (.lst [])) fp=Y at*
 have loop:∀s4:aj,s4={s3 with heap:=h4,toks:=s3.toks+([]:List (Str×ag)).length}->
   codeAny (model X.prog X.w) X.A (.compLoop (.ListComp elt [⟨tg,iter,ifs,0⟩] scope pos) 0 (.ref it) (.ref s2.heap.objs.size) Y.env) (compPost (model X.prog X.w) X.A X.xe none (EP X ac Z Q) (.ref s2.heap.objs.size) s3.heap.objs.size) s4:=by
  rintro s4 rfl
  have yp:Y.prog=X.prog:=by rw[<-hY]
  have yw:Y.w=X.w:=by rw[<-hY]
  have yK:Y.K=X.K:=by rw[<-hY]
  have yA:Y.A=X.A:=by rw[<-hY]
  have yc:Y.calm=true:=by rw[<-hY];exact hc
  have Th:PG Y tg g:=by rw[<-hY];exact hg _ _ _
  have Ti:Ny Y ifs tc:=by rw[<-hY];exact ht _ _ _
  have Tj:PE Y elt te:=by rw[<-hY];exact he _ _ _
  have yx:∀e s',¬Y.xe e s':=λe s' z=>by rw[<-hY] at z;exact z
  refine oW (λn s'=>∃i bX H',Inv Y [] bX H' s'/\tn i s'.heap/\(∀b∈fp,H' b=none)/\W i n bX H') ?_ m0 ⟨0,_,_,J4,Ib,λb hb=>(f3 b hb).1,w0⟩
  rintro n s5 ⟨i,Ex,H5,I5,G_,KG,w5⟩
  rcases turn i n Ex H5 w5 with⟨stop,qn⟩|⟨go,Nn,Mm,Tn,To,step⟩
  .have d:=T.done Y yp yw yK yc i [] s5 Ex H5 (notedBy (model X.prog X.w) X.A Y.env λe s'=>compPost (model X.prog X.w) X.A X.xe none (EP X ac Z Q) (.ref s2.heap.objs.size) s3.heap.objs.size (.error e) s') I5 (qx KG) G_ stop
   rw[yA] at d
   refine fq d λrr s6 cZ=>?_
   obtain⟨hr,I6⟩:=cZ
   subst hr
   obtain⟨m,hn,_⟩:=id I6.loc
   refine⟨m,by rw[<-hY] at hn;exact hn,λh' Tp=>⟨.ref s2.heap.objs.size,H5,?_,rfl,qn⟩⟩
   rw[<-hY] at I6
   exact zc I2 f2 u3 (by rw[z3];exact dN _) o3 I6 Tp
  .have d:=T.item Y yp yw yK yc i [] s5 Ex H5 (notedBy (model X.prog X.w) X.A Y.env λe s'=>compPost (model X.prog X.w) X.A X.xe none (EP X ac Z Q) (.ref s2.heap.objs.size) s3.heap.objs.size (.error e) s') I5 (qx KG) G_ go
   rw[yA] at d
   refine fq d λrr s6 cZ=>?_
   obtain⟨u,hr,h6⟩:=cZ
   subst hr
   refine fq h6 λ_ s7 cZ=>?_
   obtain⟨x,H7,I7,r7,y7,Ic,Tq⟩:=cZ
   have Tr:=I7.pinned (qx Tq) (T.obj _ _ Ic)
   have g7:=Th _ s7 Ex H7 x u _ Tr r7 (step x H7 y7)
   rw[yp,yw,yA] at g7
   refine bM g7 (λ_ s8 cZ=>?_) λe s' z=>(yx e s' z).elim
   obtain⟨yd,H8,I8,q8⟩:=cZ
   have t8:=Ti _ s8 yd H8 _ I8 q8
   rw[yp,yw,yA] at t8
   refine bM t8 (λok s9 cZ=>?_) λe s' z=>(yx e s' z).elim
   obtain⟨H9,I9,q9⟩:=cZ
   have again:∀{s10:aj} {vI:Hp} {m':Nat},Inv Y ([]++qw fp s7.heap) yd vI s10->m'<n->W (i+1) m' yd vI->∃m,m<n/\∃i bX H',Inv Y [] bX H' s10/\tn i s10.heap/\(∀b∈fp,H' b=none)/\W i m bX H':=λ{s10 vI m'} Az hm Cj=>by
    refine⟨m',hm,i+1,yd,vI,Az.mR,T.keep _ _ _ Ic λb hb o e=>(Az.pin (b,o) (bJ _ (bJ _ (iu hb e)))).1,λb hb=>?_,Cj⟩
    obtain⟨o,e,d⟩:=T.obj _ _ Ic b hb
    exact(Az.pin (b,o) (bJ _ (bJ _ (iu hb e)))).2.1
   cases ok with
   |false=>
    rw[aO ς] at q9⊢
    obtain⟨m',hm,w9⟩:=Tn _ _ q9
    exact again I9 hm w9
   |true=>
    rw[aQ rfl] at q9⊢
    have e9:=Tj _ s9 yd H9 _ I9 q9
    rw[yp,yw,yA] at e9
    refine bM e9 (λuu s10 cZ=>?_) λe s' z=>(yx e s' z).elim
    obtain⟨y,vI,Az,r10,hM⟩:=cZ
    obtain⟨xs,m',Ie,hz,hm,Cj⟩:=To _ _ _ hM
    have a10:=gE _ s10 yd vI (.ref s2.heap.objs.size) [y] (.ref s2.heap.objs.size) [uu] (λv Hq=>v=.eK/\Hq=upd vI s2.heap.objs.size (.lst (xs++ [y]))) Az rfl (.cons r10 .nil) ⟨_,xs,y,rfl,rfl,Ie,hz,rfl,rfl⟩
    rw[yp,yw,yA] at a10
    refine bM a10 (λ_ s11 cZ=>?_) λe s' z=>(yx e s' z).elim
    obtain⟨_,H11,Ts,_,_,Tt⟩:=cZ
    subst Tt
    exact again Ts hm Cj
 have Tu:Y.env={scope:=relabel scope X.env,locals:=s3.heap.objs.size,globals:=X.env.globals,cells:=nF scope X.env,qual:=X.env.qual,func:=none,code:=X.env.code,frame:=X.env.frame,builtins:=X.env.builtins}:=by rw[<-hY];rfl
 rw[Tu] at loop
 exact yF (loop _ rfl) (T.self _ 0 _ _ _ Ib (loop _ rfl))
def lY {J:It}{n:Nat}{f:Nat->V}{g:TG}{tc:TT}{te:TE}{FT:St}{H1:Hp}{Q:VK}{D:ai}(Iv:Nat->List V->St->Hp->Prop) (hD:H1 D=none) (hn:n<=1000)
  (h0:Iv 0 [] FT (upd H1 D (.lst [])))
  (hj:∀i ys Z H,i<=n->H D=some (.lst ys)->Iv i ys Z H->(i=n->J.stop i H)/\(i<n->J.go i H/\∀x H',J.BY i H x H'->H'=H/\x=f i))
  (hs:∀i ys Z H,i<n->H D=some (.lst ys)->Iv i ys Z H->g (f i) Z H λiR H3=>tc iR H3 λb H4=>
   if b=true then te iR H4 λy H5=>H5 D=some (.lst ys)/\Iv (i+1) (ys++ [y]) iR (upd H5 D (.lst (ys++ [y]))) else H4 D=some (.lst ys)/\Iv (i+1) ys iR H4)
  (hd:∀ys Z H,H D=some (.lst ys)->Iv n ys Z H->Q (.ref D) H):qg J g tc te FT H1 Q D:=by
 refine⟨λi m Z H=>m=n-i/\i<=n/\∃ys,H D=some (.lst ys)/\ys.length<=i/\Iv i ys Z H,⟨n,rfl,de _,[],aB,ar _,h0⟩,?_⟩
 rintro i m Z H ⟨rfl,hi,ys,hy,hl,iv⟩
 obtain⟨j1,j2⟩:=hj i ys Z H hi hy iv
 by_cases mS:i<n
 .obtain⟨go,yl⟩:=j2 mS
  refine .inr ⟨go,λiR H4=>H4 D=some (.lst ys)/\Iv (i+1) ys iR H4,λy iR H5=>H5 D=some (.lst ys)/\Iv (i+1) (ys++ [y]) iR (upd H5 D (.lst (ys++ [y]))),λiR H4 q=>?_,λy iR H5 q=>?_,λx H2 q=>?_⟩
  .exact⟨n-(i+1),ω,rfl,mS,ys,q.1,ω,q.2⟩
  .exact⟨ys,n-(i+1),q.1,dD ω,ω,rfl,mS,ys++ [y],aB,by rw[aK,aJ];omega,q.2⟩
  .obtain⟨rfl,rfl⟩:=yl x H2 q
   exact hs i ys Z _ mS hy iv
 .have e:i=n:=ω
  subst e
  exact .inl ⟨j1 rfl,hd ys Z H hy iv⟩
end
mutual
def Tells (H:Hp) (k:ai):PyData->V->Prop
 | .none,v=>v=.eK
 | .bool b,v=>v=.bl b
 | .int i,v=>v=.int i
 | .str x,v=>v=.str x
 | .list ds,v=>∃a vs,v=.ref a/\a≠k/\H a=some (.lst vs)/\c_ H k ds vs
 | .tuple ds,v=>∃a vs,v=.ref a/\a≠k/\H a=some (.tup vs)/\c_ H k ds vs
 | .dict _,_=>False
def c_ (H:Hp) (k:ai):List PyData->List V->Prop
 | [],vs=>vs=[]
 |d::ds,vs=>∃v r,vs=v::r/\Tells H k d v/\c_ H k ds r
end
def ez (k:ai) (H H':Hp):Prop:=∀b o,b≠k->H b=some o->H' b=some o
def ez.refl (k:ai) (H:Hp):ez k H H:=λ_ _ _ e=>e
def ez.trans (a:ez k H H1) (b:ez k H1 H2):ez k H H2:=λc o n e=>b c o n (a c o n e)
def a_.keep (a:a_ H H'):ez k H H':=λc o _ e=>a c o e
def aP (h:H p=none) (o:HO):a_ H (upd H p o):=λb u q=>by rw[aV (dB q h)];exact q
def ez.new (h:H p=none) (o:HO):ez k H (upd H p o):=(aP h o).keep
def ez.at (o:HO):ez k H (upd H k o):=λb u n e=>by rw[aV n];exact e
mutual
def Tells.keep {H H':Hp}{k:ai}(K:ez k H H'):∀{d:PyData}{v:V},Tells H k d v->Tells H' k d v
 | .none,_,h=>by unfold Tells at h⊢;exact h
 | .bool _,_,h=>by unfold Tells at h⊢;exact h
 | .int _,_,h=>by unfold Tells at h⊢;exact h
 | .str _,_,h=>by unfold Tells at h⊢;exact h
 | .list ds,v,h=>by
  unfold Tells at h⊢
  obtain⟨a,vs,e,n,q,r⟩:=h
  exact⟨a,vs,e,n,K a _ n q,c_.keep K r⟩
 | .tuple ds,v,h=>by
  unfold Tells at h⊢
  obtain⟨a,vs,e,n,q,r⟩:=h
  exact⟨a,vs,e,n,K a _ n q,c_.keep K r⟩
 | .dict _,_,h=>by unfold Tells at h;exact h.elim
def c_.keep {H H':Hp}{k:ai}(K:ez k H H'):∀{ds:List PyData}{vs:List V},c_ H k ds vs->c_ H' k ds vs
 | [],_,h=>by unfold c_ at h⊢;exact h
 |d::ds,vs,h=>by
  unfold c_ at h⊢
  obtain⟨v,r,e,q,qs⟩:=h
  exact⟨v,r,e,Tells.keep K q,c_.keep K qs⟩
end
def jT:Tells H k (.list ds) v↔∃a vs,v=.ref a/\a≠k/\H a=some (.lst vs)/\c_ H k ds vs:=by
 rw[Tells]
def eU:Tells H k (.tuple ds) v↔∃a vs,v=.ref a/\a≠k/\H a=some (.tup vs)/\c_ H k ds vs:=by
 rw[Tells]
def ff:Tells H k (.str x) v↔v=.str x:=by rw[Tells]
def jr:Tells H k (.int i) v↔v=.int i:=by rw[Tells]
def qF:Tells H k (.bool b) v↔v=.bl b:=by rw[Tells]
def qG:Tells H k .none v↔v=.eK:=by rw[Tells]
def eE:c_ H k [] vs↔vs=[]:=by rw[c_]
def bU:c_ H k (d::ds) vs↔∃v r,vs=v::r/\Tells H k d v/\c_ H k ds r:=by rw[c_]
def gS:∀{ds:List PyData}{vs:List V},c_ H k ds vs->vs.length=ds.length
 | [],_,h=>by rw[eE.mp h];rfl
 |d::ds,_,h=>by
  obtain⟨v,r,rfl,_,q⟩:=bU.mp h
  simp[gS q]
def nG:∀{ds:List PyData}{vs:List V}{i:Nat}{v:V},c_ H k ds vs->vs[i]?=some v->∃d,ds[i]?=some d/\Tells H k d v
 | [],_,i,v,h,e=>by rw[eE.mp h] at e;simp at e
 |d::ds,_,0,v,h,e=>by
  obtain⟨w,r,rfl,q,_⟩:=bU.mp h
  simp at e;subst e
  exact⟨d,rfl,q⟩
 |d::ds,_,i+1,v,h,e=>by
  obtain⟨w,r,rfl,_,q⟩:=bU.mp h
  exact nG (i:=i) q (by simpa using e)
def zd (h:Tells H k d v):c_ H k [d] [v]:=bU.mpr ⟨v,[],rfl,h,eE.mpr rfl⟩
section
variable {X:Cx}{ac:List (ai×Obj)}{Z:St}{H:Hp}{s:aj}
mutual
def Tells.reads (I:Inv X ac Z H s) {k:ai}:∀{d:PyData}{v:V}{u:ag},Tells H k d v->RelV v u->∃as,Reads s.heap u d as
 | .none,v,u,h,r=>by
  rw[qG] at h;subst h
  cases(show u=Value.none from r)
  exact⟨_,.none⟩
 | .bool b,v,u,h,r=>by
  rw[qF] at h;subst h
  cases(show u=Value.bool b from r)
  exact⟨_,.bool b⟩
 | .int i,v,u,h,r=>by
  rw[jr] at h;subst h
  obtain⟨t,rfl⟩:=(show∃t,u=Value.int i t from r)
  exact⟨_,.int i t⟩
 | .str x,v,u,h,r=>by
  rw[ff] at h;subst h
  obtain⟨t,rfl⟩:=(show∃t,u=Value.str x t from r)
  exact⟨_,.str x t⟩
 | .list ds,v,u,h,r=>by
  obtain⟨a,vs,rfl,_,e,q⟩:=jT.mp h
  cases(show u=Value.ref a from r)
  obtain⟨_,cF,n,rv,g⟩:=I.eN a _ e
  obtain⟨as,ra⟩:=c_.reads I q rv
  exact⟨_,.list g rfl rfl (by simpa using ra)⟩
 | .tuple ds,v,u,h,r=>by
  obtain⟨a,vs,rfl,_,e,q⟩:=eU.mp h
  cases(show u=Value.ref a from r)
  obtain⟨_,cF,rv,o,g,c,_,n,dt⟩:=I.eN a _ e
  obtain⟨as,ra⟩:=c_.reads I q rv
  exact⟨_,.tuple g c dt (by simpa using ra)⟩
 | .dict _,_,_,h,_=>by unfold Tells at h;exact h.elim
def c_.reads (I:Inv X ac Z H s) {k:ai}:∀{ds:List PyData}{vs:List V}{us:List ag},c_ H k ds vs->cz vs us->∃as,ReadsAll s.heap us ds as
 | [],_,us,h,r=>by
  rw[eE] at h;subst h
  cases r
  exact⟨_,.nil⟩
 |d::ds,_,us,h,r=>by
  obtain⟨w,rr,rfl,q1,q2⟩:=bU.mp h
  cases r with
  |cons r1 r2=>
   obtain⟨as,a1⟩:=Tells.reads I q1 r1
   obtain⟨bs,a2⟩:=c_.reads I q2 r2
   exact⟨_,.cons a1 a2⟩
end
end
def tyName:PyData->String
 | .none=>"NoneType"
 | .bool _=>"bool"
 | .int _=>"int"
 | .str _=>"str"
 | .list _=>"list"
 | .tuple _=>"tuple"
 | .dict _=>"dict"
def Tells.ty {K:Φ}:∀{d:PyData}{v:V},Tells H k d v->tj K H v (.type (tyName d))
 | .none,v,h=>by rw[qG] at h;subst h;exact .eK
 | .bool b,v,h=>by rw[qF] at h;subst h;exact .bl b
 | .int i,v,h=>by rw[jr] at h;subst h;exact .int i
 | .str x,v,h=>by rw[ff] at h;subst h;exact .str x
 | .list ds,v,h=>by obtain⟨a,vs,rfl,_,e,q⟩:=jT.mp h;exact .lst e
 | .tuple ds,v,h=>by obtain⟨a,vs,rfl,_,e,q⟩:=eU.mp h;exact .tup e
 | .dict _,_,h=>by unfold Tells at h;exact h.elim
def zZ:PyData->String->Bool
 | .bool _,n=>n=="bool"||n=="int"
 |d,n=>n==tyName d
def Lk (K:Φ) (d:PyData) (n:String) (hd:∀dO,d≠.dict dO) (hn:n="int"\/n="bool"\/n="str"\/n="tuple"\/n="list"):PySem.W.kitOne K (.type (tyName d)) (.type n)=some (zZ d n):=by
 rcases hn with rfl|rfl|rfl|rfl|rfl<;>cases d<;>first|exact absurd rfl (hd _)|rfl|decide+kernel
section
variable {X:Cx}
def Tv:List V->Hp->VK->Prop:=λxs H Q=>∃k x n d,xs=[x,.ty n]/\Tells H k d x/\(n="int"\/n="bool"\/n="str"\/n="tuple"\/n="list")/\Q (.bl (zZ d n)) H
def fL:gN X (.builtin "isinstance") Tv:=by
 intro ac s Z H xs us Q I r h
 obtain⟨k,x,n,d,rfl,t,hn,q⟩:=h
 obtain⟨u,u',rfl,r1,r2⟩:=vals2 r
 cases(show u'=Value.type n from r2)
 refine FF I r1 t.ty (Lk _ d n (λdO e=>?_) hn) λtk=>⟨.bl _,H,I.tok tk,rfl,q⟩
 subst e
 unfold Tells at t
 exact t
def Lay (d:PyData):Prop:=d.canLay0=true/\d.depth<=20
def qH (hu:X.A.units+64<cLine):lU X (compareOp .Eq) (λx y H Q=>∃k k' dx dy,Tells H k dx x/\Tells H k' dy y/\Lay dx/\Lay dy/\Q (.bl (PyData.eqv dx dy)) H):=by
 intro ac s Z H x y v u Q I rx ry h
 obtain⟨k,k',dx,dy,tx,ty,lx,ly,q⟩:=h
 obtain⟨as,ax⟩:=tx.reads I rx
 obtain⟨bs,ay⟩:=ty.reads I ry
 refine SeqAt.compareEq_reads ax ay lx.1 ly.1 ?_ ⟨.bl _,H,I,rfl,q⟩
 have:=lx.2;have:min dx.depth dy.depth<=dx.depth:=uO _ _
 omega
def qI (hu:X.A.units+64<cLine):lU X (compareOp .NotEq) (λx y H Q=>∃k k' dx dy,Tells H k dx x/\Tells H k' dy y/\Lay dx/\Lay dy/\Q (.bl (!PyData.eqv dx dy)) H):=by
 intro ac s Z H x y v u Q I rx ry h
 obtain⟨k,k',dx,dy,tx,ty,lx,ly,q⟩:=h
 obtain⟨as,ax⟩:=tx.reads I rx
 obtain⟨bs,ay⟩:=ty.reads I ry
 refine SeqAt.compareNe_reads ax ay lx.1 ly.1 ?_ ⟨.bl _,H,I,rfl,q⟩
 have:=lx.2;have:min dx.depth dy.depth<=dx.depth:=uO _ _
 omega
def room_in (h:u+64<cLine) (hb:b<=20):u+1+min a b<cLine:=by
 have:min a b<=b:=sL _ _
 omega
def Tw (neg:Bool):R2:=λx y H Q=>∃k k' d ds,Tells H k d x/\(Tells H k' (.tuple ds) y\/Tells H k' (.list ds) y)/\Lay d/\PyData.canLayAll0 ds=true/\Q (.bl (if neg then !(ds.any λz=>PyData.eqv z d) else ds.any λz=>PyData.eqv z d)) H
def Ig (hu:X.A.units+64<cLine):lU X (compareOp .In) (Tw false):=by
 intro ac s Z H x y v u Q I rx ry h
 obtain⟨k,k',d,ds,tx,ty,l,ls,q⟩:=h
 obtain⟨as,ax⟩:=tx.reads I rx
 rcases ty with ty|ty
 .obtain⟨bs,ay⟩:=ty.reads I ry
  exact SeqAt.in_tuple_reads ay ax ls l.1 (room_in hu l.2) ⟨.bl _,H,I,rfl,q⟩
 .obtain⟨bs,ay⟩:=ty.reads I ry
  exact SeqAt.in_list_reads ay ax ls l.1 (room_in hu l.2) ⟨.bl _,H,I,rfl,q⟩
def FU (hu:X.A.units+64<cLine):lU X (compareOp .NotIn) (Tw true):=by
 intro ac s Z H x y v u Q I rx ry h
 obtain⟨k,k',d,ds,tx,ty,l,ls,q⟩:=h
 obtain⟨as,ax⟩:=tx.reads I rx
 rcases ty with ty|ty
 .obtain⟨bs,ay⟩:=ty.reads I ry
  exact SeqAt.notIn_tuple_reads ay ax ls l.1 (room_in hu l.2) ⟨.bl _,H,I,rfl,q⟩
 .obtain⟨bs,ay⟩:=ty.reads I ry
  exact SeqAt.notIn_list_reads ay ax ls l.1 (room_in hu l.2) ⟨.bl _,H,I,rfl,q⟩
end
section
variable {X:Cx}{tg:Expr}
def Nz (x:Str):It:=⟨λi _=>i<x.cps.size,λi H y H'=>H'=H/\∃c,x.cps[i]?=some c/\y=.str ⟨#[c]⟩,λi _=>i=x.cps.size⟩
def ye {P:aM}{w:bB}{K:Φ}{x:Str}{it:ai}{St:Nat->Heap->Prop}{n:String}(hn:["enumerate","zip","dict_itemiterator","dict_reverseitemiterator","odict_iterator","itertools.zip_longest","itertools.pairwise"].contains n=false)
  (hw:∀A':bG,A'.handled=none->Walks P w A' it [it] [it] x.cps.size (SignAt x) St) (hs:∀i h,St i h->∃o vs,h.get? it=some o/\o.cls=.type n/\o.data=.fields vs)
  (Tx:∀(A:bG) (i:Nat) (s:aj) (Q:ag->aj->Prop) (E:ag->aj->Prop),St i s.heap->Q (.ref it) s->wpAny (model P w) A (pyIter (.ref it)) Q E s):Turn P w K tg (Nz x) [it] it St where
 mem:=ς
 obj:=λi h st b hb=>by
  have e:b=it:=by simpa using hb
  subst e
  obtain⟨o,vs,e,c,d⟩:=hs i h st
  exact⟨o,e,λv z=>by rw[d] at z;cases z⟩
 keep:=λi h h' st k=>(hw {} rfl).frame i h h' st k
 item:=by
  intro X hP XR hK hc i ac s Z H E I hf st hg
  subst hP XR hK
  obtain⟨f0,f1,f2,f3,f4,f5⟩:=hf it ς
  refine(hw X.A (I.ok.hd hc)).item i s _ _ hg st λv h' tk hv tY kk=>?_
  obtain⟨c,u,zY,rfl⟩:=hv
  have I1:Inv X ac Z H {s with heap:=h',toks:=tk}:=I.turned (λb o hb e=>kk b o (by simpa using hb) e) f0 f1 f3 f4 f5
  obtain⟨o,vs,e,c2,d⟩:=hs _ _ tY
  exact⟨_,rfl,Eg (s:={s with heap:=h',toks:=tk}) e c2 d hn ⟨.str ⟨#[c]⟩,H,I1,⟨u,rfl⟩,⟨rfl,c,zY,rfl⟩,tY,λb hb=>(hf b hb).1⟩⟩
 done:=by
  intro X hP XR hK hc i ac s Z H E I hf st hg
  subst hP XR hK
  obtain⟨f0,f1,f2,f3,f4,f5⟩:=hf it ς
  have hg':i=x.cps.size:=hg
  subst hg'
  exact(hw X.A (I.ok.hd hc)).done s _ _ st λh' tk kk=>⟨rfl,I.turned (λb o hb e=>kk b o (by simpa using hb) e) f0 f1 f3 f4 f5⟩
 self:=Tx
def XS (tl:TE):TI:=λZ H R=>tl Z H λx H1=>∃y,x=.str y/\R (Nz y) H1
def Ih (hl:PE X l tl):PI X tg l (XS tl):=by
 intro ac s Z H R I h
 refine fq (hl ac s Z H _ I h) λv s1 cZ=>?_
 obtain⟨x,H1,I1,r1,q1⟩:=cZ
 obtain⟨y,e,q⟩:=q1
 subst e
 obtain⟨t,rfl⟩:=r1
 have fin:∀(o:Obj) (St:Nat->Heap->Prop),Turn X.prog X.w X.K tg (Nz y) [s1.heap.objs.size] s1.heap.objs.size St->St 0 (s1.heap.push o)->Xb X ac Z tg R (.ref s1.heap.objs.size) {s1 with heap:=s1.heap.push o}:=λo St T st=>by
  refine⟨s1.heap.objs.size,[s1.heap.objs.size],St,_,H1,rfl,I1.kept (t':=s1.toks) λb o e=>af _ e,T,st,λb hb=>?_,q⟩
  have e:b=s1.heap.objs.size:=by simpa using hb
  subst e
  exact I1.yV (ar _) (I1.eN.fresh (ar _))
 cases ha:y.cps.all (· <128)
 .refine wpAny_pyIter_wide ha (fin _ _ (ye (n:="str_iterator") δ (λA' hA=>Walks.strWide hA _ y t) (λi h cZ=>?_) λ_ _ _ _ _ st hQ=>wpAny_pyIter_striter_wide st hQ) ⟨_,az _ rfl,rfl,rfl⟩)
  obtain⟨o,e,c,d⟩:=cZ
  exact⟨o,_,e,c,d⟩
 .refine wpAny_pyIter_ascii ha (fin _ _ (ye (n:="str_ascii_iterator") δ (λA' hA=>Walks.strAscii hA _ y t) (λi h cZ=>?_) λ_ _ _ _ _ st hQ=>wpAny_pyIter_striter_ascii st hQ) ⟨_,az _ rfl,rfl,rfl⟩)
  obtain⟨o,e,c,d⟩:=cZ
  exact⟨o,_,e,c,d⟩
def pR:lU X (compareOp .LtE) (λx y H Q=>∃i j,x=.str i/\y=.str j/\Q (.bl (!decide (j.cps.toList<i.cps.toList))) H):=by
 intro ac s Z H x y v u Q I rx ry h
 obtain⟨i,j,rfl,rfl,q⟩:=h
 obtain⟨t,rfl⟩:=rx
 obtain⟨t',rfl⟩:=ry
 exact PySem.P.le_str ⟨.bl _,H,I,rfl,q⟩
def vJ (hc:X.calm=true):gN X (.builtin "all") (λxs H Q=>∃(p:ai) (bs:List Bool),xs=[.ref p]/\cT X.K H p (bs.map V.bl)/\Q (.bl (bs.all id)) H):=by
 intro ac s Z H xs us Q I r h
 obtain⟨p,bs,rfl,hq,q⟩:=h
 obtain⟨u,rfl,rx⟩:=Ae r
 cases(show u=Value.ref p from rx)
 obtain⟨cF,rv,pl,hz⟩:=I.list hq
 have mS:p<s.heap.objs.size:=by obtain⟨o,e,_⟩:=pl.isList;exact aC e
 refine call_all_walk (iE pl.isList ?_)
 refine⟨s.heap.objs.size,_,_,cF.toArray.size,_,_,λi=>bs.getD i false,rfl,Walks.list (prog:=X.prog) (w:=X.w) (A:=X.A.in1) (I.ok.hd hc) s.heap.objs.size p (ba mS) cF.toArray,⟨⟨_,az _ rfl,rfl,rfl⟩,pl.isList.at λo e=>af _ e⟩,?_,λh' tk hk=>?_⟩
 .intro i v s' Q' E' hP hQ
  have tw:cF[i]?=some v:=by simpa using hP
  have hl:=rv.length
  rw[aq] at hl
  have hi:i<cF.length:=(br.mp tw).1
  obtain⟨u,hu,ru⟩:=rv.get (i:=i) (x:=V.bl (bs.getD i false)) (by rw[bY,aG ω];simp[List.getD,aG (show i<bs.length by omega)])
  rw[tw] at hu;cases hu
  cases(show v=Value.bool _ from ru)
  exact ek hQ
 .refine⟨.bl _,H,I.kept λb o e=>hk b o (by simpa using ba (aC e)) (af _ e),rfl,?_⟩
  have hl:=rv.length
  rw[aq] at hl
  have e:(List.range cF.toArray.size).all (λi=>bs.getD i false)=bs.all id:=by
   rw[aH,<-hl]
   have:(List.range bs.length).map (λi=>bs.getD i false)=bs:=by
    apply Fm
    .simp
    .intro i h1 h2;simp[List.getD,aG h2]
   conv=>rhs;rw[<-this]
   rw[List.all_map];rfl
  rw[e];exact q
def cz.insertAt (r:cz xs us) (ry:RelV y u) (k:Nat):cz (xs.take k++y::xs.drop k) (us.take k++u::us.drop k):=(r.take k).append (.cons ry (r.drop k))
def FV:Ta X "list.insert" (λx vs H Q=>∃l xs i y,x=.ref l/\vs=[.int i,y]/\H l=some (.lst xs)/\xs.length<sizeLine/\0<=i/\i<=xs.length/\Q .eK (upd H l (.lst (xs.take i.toNat++y::xs.drop i.toNat)))):=by
 intro ac s Z H x vs v us Q I rx rv h
 obtain⟨l,xs,i,y,rfl,rfl,hH,hz,h0,h1,q⟩:=h
 cases rx
 obtain⟨ui,u,rfl,ri,ru⟩:=rv.two
 obtain⟨t,rfl⟩:=ri
 obtain⟨z,cF,n,r,hl,e⟩:=I.za hH
 have hs:sizeLine=16777216:=gX
 have hf:Builtin.List.listFitsIndex i=true:=fitsIndex_both ω ω
 refine sN F.slot_list_insert ⟨_,e,rfl⟩ F.entry_list_insert (F.args_list_insert_3 _ _ _) (AutoSeq1.list_insert_list_int_val_1 l cF.toArray n i t u (by rw[hf];simp) (by rw[aH];omega)) ⟨e,?_⟩
 refine⟨.eK,_,I.HR (its':=cF.take i.toNat++u::cF.drop i.toNat) hH e ?_ (cz.insertAt r ru i.toNat) ?_,rfl,q⟩
 .dsimp only
  rw[aO ω]
  have e1:min i.toNat cF.toArray.size=i.toNat:=by rw[aH];omega
  rw[e1]
  apply Array.ext'
  simp
  exact cY ς
 .simp only[aK,fu,cI,dF]
  omega
end
end L2
namespace L2
open PySem
mutual
def Ey:PyData->Nat
 | .list ds=>1+mB ds
 | .tuple ds=>1+mB ds
 | .none| .bool _| .int _| .str _| .dict _=>1
def mB:List PyData->Nat
 | []=>0
 |d::ds=>Ey d+mB ds
end
mutual
def hZ:PyData->Bool
 | .none| .bool _=>true
 | .int i=>decide (i.natAbs<2^200)
 | .str x=>decide (x.length<=100)&&PyData.strOk x
 | .list ds=>js ds
 | .tuple ds=>js ds
 | .dict _=>false
def js:List PyData->Bool
 | []=>true
 |d::ds=>hZ d&&js ds
end
mutual
def AA:∀d:PyData,hZ d=true->d.canLay0=true
 | .none,_=>by simp only[PyData.canLay0]
 | .bool _,_=>by simp only[PyData.canLay0]
 | .int _,_=>by simp only[PyData.canLay0]
 | .str x,h=>by
  rw[hZ,cJ] at h
  simp only[PyData.canLay0];exact h.2
 | .list ds,h=>by rw[hZ] at h;simp only[PyData.canLay0];exact lZ ds h
 | .tuple ds,h=>by rw[hZ] at h;simp only[PyData.canLay0];exact lZ ds h
 | .dict _,h=>by rw[hZ] at h;cases h
def lZ:∀ds:List PyData,js ds=true->PyData.canLayAll0 ds=true
 | [],_=>by simp only[PyData.canLayAll0]
 |d::ds,h=>by
  rw[js,cJ] at h
  rw[PyData.canLayAll0,cJ]
  exact⟨AA d h.1,lZ ds h.2⟩
end
def Ll {i:Int}(h:i.natAbs<2^200):i.natAbs.log2<200:=by
 by_cases h0:i.natAbs=0
 .rw[h0];decide+kernel
 .exact(Nat.log2_lt h0).mpr h
structure Bd (n p:Nat) (d:PyData):Prop where
 leaf:hZ d=true
 w:Ey d<=n
 dp:d.depth<=p
abbrev rL (d:PyData):Prop:=Bd 1000 15 d
def Bd.mono (h:Bd n p d) (h1:n<=m) (h2:p<=q):Bd m q d:=⟨h.leaf,aA h.w h1,aA h.dp h2⟩
def Bd.lay (h:Bd n p d) (hp:p<=20):Lay d:=⟨AA d h.leaf,aA h.dp hp⟩
def rL.lay (h:rL d):Lay d:=Bd.lay h δ
def jt:∀{ds:List PyData},js ds=true↔∀d∈ds,hZ d=true
 | []=>by simp[js]
 |d::ds=>by rw[js,cJ,jt];simp
def Lm (d:PyData):1<=Ey d:=by cases d<;>simp[Ey]
def ze:∀{ds:List PyData}{d:PyData},d∈ds->Ey d<=mB ds
 |e::ds,d,h=>by
  rw[mB]
  rcases aD.mp h with rfl|h
  .omega
  .have:=ze h;omega
def zf:∀ds:List PyData,ds.length<=mB ds
 | []=>de _
 |d::ds=>by rw[mB,cI];have:=Lm d;have:=zf ds;omega
def tH:∀{ds:List PyData}{d:PyData},d∈ds->d.depth<=PyData.depthAll ds
 |e::ds,d,h=>by
  rw[PyData.depthAll]
  rcases aD.mp h with rfl|h
  .omega
  .have:=tH h;omega
def vK:∀{ds:List PyData},(∀d∈ds,Ey d<=n)->mB ds<=n*ds.length
 | [],_=>by simp[mB]
 |d::ds,h=>by
  rw[mB,cI,Nat.mul_succ]
  have h1:=h d cj
  have h2:=vK λe he=>h e (cu _ he)
  omega
def nI:∀{ds:List PyData},(∀d∈ds,d.depth<=p)->PyData.depthAll ds<=p
 | [],_=>by simp[PyData.depthAll]
 |d::ds,h=>by
  rw[PyData.depthAll]
  have h1:=h d cj
  have h2:=nI λe he=>h e (cu _ he)
  omega
def Bd.list (h:∀d∈ds,Bd n p d) (hl:ds.length<=m):Bd (1+n*m) (p+1) (.list ds):=by
 refine⟨by rw[hZ];exact jt.mpr λd hd=>(h d hd).leaf,?_,?_⟩
 .rw[Ey]
  have:=vK λd hd=>(h d hd).w
  have:=yG n hl
  omega
 .rw[PyData.depth]
  have:=nI λd hd=>(h d hd).dp
  omega
def Bd.tuple (h:∀d∈ds,Bd n p d) (hl:ds.length<=m):Bd (1+n*m) (p+1) (.tuple ds):=by
 refine⟨by rw[hZ];exact jt.mpr λd hd=>(h d hd).leaf,?_,?_⟩
 .rw[Ey]
  have:=vK λd hd=>(h d hd).w
  have:=yG n hl
  omega
 .rw[PyData.depth]
  have:=nI λd hd=>(h d hd).dp
  omega
def Bd.XT (h:Bd n p (.list ds)):(∀d∈ds,Bd n p d)/\ds.length<=n:=by
 have h1:=h.leaf;have h2:=h.w;have h3:=h.dp
 rw[hZ] at h1;rw[Ey] at h2;rw[PyData.depth] at h3
 refine⟨λd hd=>⟨jt.mp h1 d hd,?_,?_⟩,?_⟩
 .have:=ze hd;omega
 .have:=tH hd;omega
 .have:=zf ds;omega
def Bd.pS (h:Bd n p (.tuple ds)):(∀d∈ds,Bd n p d)/\ds.length<=n:=by
 have h1:=h.leaf;have h2:=h.w;have h3:=h.dp
 rw[hZ] at h1;rw[Ey] at h2;rw[PyData.depth] at h3
 refine⟨λd hd=>⟨jt.mp h1 d hd,?_,?_⟩,?_⟩
 .have:=ze hd;omega
 .have:=tH hd;omega
 .have:=zf ds;omega
def Bd.Ii (h:Bd n p (.str x)):x.length<=100:=by
 have h1:=h.leaf
 rw[hZ,cJ,qW] at h1
 exact h1.1
def FW (h:∀d∈ds,Bd n p d):PyData.canLayAll0 ds=true:=lZ ds (jt.mpr λd hd=>(h d hd).leaf)
def mC (h1:x.length<=100) (h2:PyData.strOk x=true):Bd 1 0 (.str x):=⟨by rw[hZ,h2,aI h1];rfl,by simp[Ey],by simp[PyData.depth]⟩
def iS (h:i.natAbs<2^200):Bd 1 0 (.int i):=⟨by rw[hZ];exact aI h,by simp[Ey],by simp[PyData.depth]⟩
def Ln (b:Bool):Bd 1 0 (.bool b):=⟨by simp[hZ],by simp[Ey],by simp[PyData.depth]⟩
def zg:Bd 1 0 .none:=⟨by simp[hZ],by simp[Ey],by simp[PyData.depth]⟩
def lE {J:It}{n:Nat}{f:Nat->V}{g:TG}{te:TE}{FT:St}{H1:Hp}{Q:VK}{D:ai}(Iv:Nat->List V->St->Hp->Prop) (hD:H1 D=none) (hn:n<=1000)
  (h0:Iv 0 [] FT (upd H1 D (.lst [])))
  (hj:∀i ys Z H,i<=n->H D=some (.lst ys)->Iv i ys Z H->(i=n->J.stop i H)/\(i<n->J.go i H/\∀x H',J.BY i H x H'->H'=H/\x=f i))
  (hs:∀i ys Z H,i<n->H D=some (.lst ys)->Iv i ys Z H->g (f i) Z H λiR H3=>te iR H3 λy H5=>H5 D=some (.lst ys)/\Iv (i+1) (ys++ [y]) iR (upd H5 D (.lst (ys++ [y]))))
  (hd:∀ys Z H,H D=some (.lst ys)->Iv n ys Z H->Q (.ref D) H):qg J g qE te FT H1 Q D:=
 lY Iv hD hn h0 hj (λi ys Z H h1 h2 h3=>hs i ys Z H h1 h2 h3) hd
end L2
namespace L2
open PySem PySem.Spec PyProof.Rows
section
variable {X:Cx}
def jE {i0:Nat}{x0:Str}{pos' Tz:Pos}{elt tg iter:Expr}{ifs:List Expr}{scope:Scope}{pos:Pos}{wi:TI}{N:List Str}{r:List (Option Nat)}{g:TG}{tc:TT}{te:TE}(hN:X.N.Nodup) (hi0:X.N[i0]?=some x0) (hx:Loc X.env.scope x0) (hc:X.calm=true) (hi:PI X tg iter wi) (S:fz X scope N r)
  (hg:∀s H fp,PG (X.ya N scope s H fp) tg g) (ht:∀s H fp,Ny (X.ya N scope s H fp) ifs tc) (he:∀s H fp,PE (X.ya N scope s H fp) elt te)
  (hsw:swapsWith (.ListComp elt [⟨tg,iter,ifs,0⟩] scope pos) (some (.Name x0 pos')) Tz.line X.env=pure true:=by rfl)
  (hs:∀x,foldedSetIterable iter X.env x=pure x:=by intro _;rfl) (hf:X.fn x0=true\/X.env.scope.names.lookup x0=some .local:=by first|exact .inl rfl|exact .inr rfl|assumption):
  PS X (.Assign [.Name x0 pos'] (.ListComp elt [⟨tg,iter,ifs,0⟩] scope pos) Tz) (sX (XQ wi r g tc te) (dI i0)):=by
 intro ac s Z H DD I h
 rw[exec_Assign_Name_used _ _ _ _ hsw]
 refine aa (jN (aa ?_))
 show wpAny _ X.A (do let _<-comprehension (.ListComp elt [⟨tg,iter,ifs,0⟩] scope pos) scope X.env _ (newList []) false (eval iter X.env) (some (assign (.Name x0 pos') X.env))) _ _ s
 refine aa (bM (?_:wpAny _ X.A _ (λ_ s'=>SP X ac DD .next s') _ s) (λ_ s' hq=>ak (ak hq)) λ_ _ e=>e)
 have HZ:closureFor scope X.env=pure (nF scope X.env):=mz λy hy hk=>I.ok.has y.1 (S.out y hy hk)
 refine vg (use:=some (assign (.Name x0 pos') X.env)) rfl hs HZ S.kind S.own ?_
 show wpAny _ _ (eval iter X.env) _ _ s
 refine fq (hi ac s Z H _ I h) λv s1 h1=>fq h1 λOH s2 h2=>?_
 obtain⟨it,fp,tn,J,H2,e,I2,T,Bx,f2,q2⟩:=h2
 subst e
 have hD:H2 s2.heap.objs.size=none:=I2.eN.fresh (ar _)
 obtain⟨W,⟨m0,w0⟩,turn⟩:=q2 _ hD
 have Ay:∀b∈fp,b<s2.heap.objs.size:=λb hb=>by
  obtain⟨o,e,_⟩:=T.obj _ _ Bx b hb
  exact aC e
 refine bE ?_
 generalize Bz:({s2 with heap:=s2.heap.push {cls:=.type "list",dict:=none,data:=.seq ([]:List ag).toArray}}:aj)=s3
 have k3:∀b o,s2.heap.get? b=some o->s3.heap.get? b=some o:=λb o e=>by rw[<-Bz];exact af _ e
 have z3:s3.heap.objs.size=s2.heap.objs.size+1:=by rw[<-Bz];exact cf ..
 have u3:Un (oq X.stack) fp H2 (upd H2 s2.heap.objs.size (.lst [])) s2.heap s3.heap:=Un.laid k3 (ar _) hD
 have o3:s3.os=s2.os:=by rw[<-Bz]
 have I3:Inv X ac Z (upd H2 s2.heap.objs.size (.lst [])) s3:=by
  rw[<-Bz]
  exact I2.laid (t':=s2.toks) (λb u e=>af _ e) (ar _) ⟨de _,[],0,.nil,az _ rfl⟩
 have f3:∀b∈fp,mQ X ac (upd H2 s2.heap.objs.size (.lst [])) b:=λb hb=>⟨by rw[aV (ba (Ay b hb))];exact(f2 b hb).1,(f2 b hb).2⟩
 refine BJ S.qD (by intro y hy;simp at hy) (λh4 H_ Ia=>?_) S.kind
 have k4:∀b o,s3.heap.get? b=some o->h4.get? b=some o:=λb o e=>Ia.extBut b o (ba (aC e)) (af _ e)
 have J4:Inv (X.ya N scope s3 (upd H2 s2.heap.objs.size (.lst [])) fp) [] (r.map (pick Z)) (upd H2 s2.heap.objs.size (.lst [])) {s3 with heap:=h4,toks:=s3.toks+([]:List (Str×ag)).length}:=
  tu S I3 f3 (λb hb=>by rw[z3];exact gk (Ay b hb)) H_ k4
 have Ib:tn 0 h4:=T.keep _ _ _ Bx λb _ o e=>k4 b o (k3 b o e)
 have qx:∀{H':Hp},(∀b∈fp,H' b=none)->∀b∈fp,mQ (X.ya N scope s3 (upd H2 s2.heap.objs.size (.lst [])) fp) [] H' b:=λhn b hb=>
  ⟨hn b hb,(J4.ok.Ft b hb).1,J4.ok.uz b hb,.inl hb,(J4.ok.Ft b hb).2,λp hp=>absurd (show p∈([]:List (ai×Obj)) from hp) ς⟩
 generalize hY:X.ya N scope s3 (upd H2 s2.heap.objs.size (.lst [])) fp=Y at*
 have loop:∀s4:aj,s4={s3 with heap:=h4,toks:=s3.toks+([]:List (Str×ag)).length}->
   codeAny (model X.prog X.w) X.A (.compLoop (.ListComp elt [⟨tg,iter,ifs,0⟩] scope pos) 0 (.ref it) (.ref s2.heap.objs.size) Y.env) (compPost (model X.prog X.w) X.A X.xe (some (assign (.Name x0 pos') X.env)) (λ_ s'=>SP X ac DD .next s') (.ref s2.heap.objs.size) s3.heap.objs.size) s4:=by
  rintro s4 rfl
  have yp:Y.prog=X.prog:=by rw[<-hY]
  have yw:Y.w=X.w:=by rw[<-hY]
  have yK:Y.K=X.K:=by rw[<-hY]
  have yA:Y.A=X.A:=by rw[<-hY]
  have yc:Y.calm=true:=by rw[<-hY];exact hc
  have Th:PG Y tg g:=by rw[<-hY];exact hg _ _ _
  have Ti:Ny Y ifs tc:=by rw[<-hY];exact ht _ _ _
  have Tj:PE Y elt te:=by rw[<-hY];exact he _ _ _
  have yx:∀e s',¬Y.xe e s':=λe s' z=>by rw[<-hY] at z;exact z
  refine oW (λn s'=>∃i bX H',Inv Y [] bX H' s'/\tn i s'.heap/\(∀b∈fp,H' b=none)/\W i n bX H') ?_ m0 ⟨0,_,_,J4,Ib,λb hb=>(f3 b hb).1,w0⟩
  rintro n s5 ⟨i,Ex,H5,I5,G_,KG,w5⟩
  rcases turn i n Ex H5 w5 with⟨stop,qn⟩|⟨go,Nn,Mm,Tn,To,step⟩
  .have d:=T.done Y yp yw yK yc i [] s5 Ex H5 (notedBy (model X.prog X.w) X.A Y.env λe s'=>compPost (model X.prog X.w) X.A X.xe (some (assign (.Name x0 pos') X.env)) (λ_ s'=>SP X ac DD .next s') (.ref s2.heap.objs.size) s3.heap.objs.size (.error e) s') I5 (qx KG) G_ stop
   rw[yA] at d
   refine fq d λrr s6 cZ=>?_
   obtain⟨hr,I6⟩:=cZ
   subst hr
   obtain⟨m,hn,_⟩:=id I6.loc
   rw[<-hY] at I6 hn
   have IX:Inv X ac Z H5 s6:=zc I2 f2 u3 (by rw[z3];exact dN _) o3 I6 (Heap.SameBut.refl _ _)
   have hC:H5 s3.heap.objs.size=none:=I6.free
   obtain⟨f0,f1,f2',f3',f4,f5⟩:=I3.yV (ar _) hC
   refine wpAny_assign_Name (pO IX hN hi0 hx (show RelV (V.ref s2.heap.objs.size) _ from rfl) (λs7 I7 cZ=>?_) hf)
   obtain⟨a,XU,ha⟩:=cZ
   have hCa:s3.heap.objs.size≠a:=by
    rcases ha with rfl|ha
    .exact f1
    .exact λz=>f4 _ _ ha z.symm
   refine⟨m,Heap.Ns.sameBut hn XU hCa,λh' Tp=>⟨_,H5,I7.turned (t':=s7.toks) (it:=s3.heap.objs.size) (λb o hb e=>Tp.extBut b o hb e) hC f1 f3' f4 f5,qn⟩⟩
  .have d:=T.item Y yp yw yK yc i [] s5 Ex H5 (notedBy (model X.prog X.w) X.A Y.env λe s'=>compPost (model X.prog X.w) X.A X.xe (some (assign (.Name x0 pos') X.env)) (λ_ s'=>SP X ac DD .next s') (.ref s2.heap.objs.size) s3.heap.objs.size (.error e) s') I5 (qx KG) G_ go
   rw[yA] at d
   refine fq d λrr s6 cZ=>?_
   obtain⟨u,hr,h6⟩:=cZ
   subst hr
   refine fq h6 λ_ s7 cZ=>?_
   obtain⟨x,H7,I7,r7,y7,Ic,Tq⟩:=cZ
   have Tr:=I7.pinned (qx Tq) (T.obj _ _ Ic)
   have g7:=Th _ s7 Ex H7 x u _ Tr r7 (step x H7 y7)
   rw[yp,yw,yA] at g7
   refine bM g7 (λ_ s8 cZ=>?_) λe s' z=>(yx e s' z).elim
   obtain⟨yd,H8,I8,q8⟩:=cZ
   have t8:=Ti _ s8 yd H8 _ I8 q8
   rw[yp,yw,yA] at t8
   refine bM t8 (λok s9 cZ=>?_) λe s' z=>(yx e s' z).elim
   obtain⟨H9,I9,q9⟩:=cZ
   have again:∀{s10:aj} {vI:Hp} {m':Nat},Inv Y ([]++qw fp s7.heap) yd vI s10->m'<n->W (i+1) m' yd vI->∃m,m<n/\∃i bX H',Inv Y [] bX H' s10/\tn i s10.heap/\(∀b∈fp,H' b=none)/\W i m bX H':=λ{s10 vI m'} Az hm Cj=>by
    refine⟨m',hm,i+1,yd,vI,Az.mR,T.keep _ _ _ Ic λb hb o e=>(Az.pin (b,o) (bJ _ (bJ _ (iu hb e)))).1,λb hb=>?_,Cj⟩
    obtain⟨o,e,d⟩:=T.obj _ _ Ic b hb
    exact(Az.pin (b,o) (bJ _ (bJ _ (iu hb e)))).2.1
   cases ok with
   |false=>
    rw[aO ς] at q9⊢
    obtain⟨m',hm,w9⟩:=Tn _ _ q9
    exact again I9 hm w9
   |true=>
    rw[aQ rfl] at q9⊢
    have e9:=Tj _ s9 yd H9 _ I9 q9
    rw[yp,yw,yA] at e9
    refine bM e9 (λuu s10 cZ=>?_) λe s' z=>(yx e s' z).elim
    obtain⟨y,vI,Az,r10,hM⟩:=cZ
    obtain⟨xs,m',Ie,hz,hm,Cj⟩:=To _ _ _ hM
    have a10:=gE _ s10 yd vI (.ref s2.heap.objs.size) [y] (.ref s2.heap.objs.size) [uu] (λv Hq=>v=.eK/\Hq=upd vI s2.heap.objs.size (.lst (xs++ [y]))) Az rfl (.cons r10 .nil) ⟨_,xs,y,rfl,rfl,Ie,hz,rfl,rfl⟩
    rw[yp,yw,yA] at a10
    refine bM a10 (λ_ s11 cZ=>?_) λe s' z=>(yx e s' z).elim
    obtain⟨_,H11,Ts,_,_,Tt⟩:=cZ
    subst Tt
    exact again Ts hm Cj
 have Tu:Y.env={scope:=relabel scope X.env,locals:=s3.heap.objs.size,globals:=X.env.globals,cells:=nF scope X.env,qual:=X.env.qual,func:=none,code:=X.env.code,frame:=X.env.frame,builtins:=X.env.builtins}:=by rw[<-hY];rfl
 rw[Tu] at loop
 exact yF (loop _ rfl) (T.self _ 0 _ _ _ Ib (loop _ rfl))
end
section
variable {X:Cx}{ac:List (ai×Obj)}{Z:St}{H:Hp}{s:aj}
def Inv.uU {h':Heap}{t':Nat}{fp:List ai}(I:Inv X ac Z H s) (hf:∀b∈fp,mQ X ac H b) (k:∀b o,b∉fp->s.heap.get? b=some o->h'.get? b=some o):Inv X ac Z H {s with heap:=h',toks:=t'}:=by
 have away:∀b u,H b=some u->b∉fp:=λb u e z=>by
  rw[(hf b z).1] at e
  cases e
 refine I.step (g':=s.gens) (d':=s.drawn) (ch:=fp) (λb hb=>⟨(hf b hb).2.2.2.1,(hf b hb).2.1,(hf b hb).2.2.2.2.1,(hf b hb).2.2.2.2.2⟩) (λb o _ _ hc e _=>k b o hc e)
  (λb o _ _ hc e _=>⟨o.slots,k b o hc e⟩) (λ_ _ _ _ n=>n) (λb o hc e=>⟨o,k b o hc e⟩) (λ_ _ e=>e) (λ_ _ _ e=>e) (λb ps e=>⟨#[],by rw[e];simp⟩) (λm hm=>?_) (λb u e=>?_) I.bare
 .obtain⟨o,es,ep,qm,rest⟩:=hm
  exact⟨o,es,ep,k _ o (λz=>(hf _ z).2.1 rfl) qm,rest⟩
 .refine(I.eN b u e).qd (λc v hc q=>k c v ?_ q) (λ_ q=>q) λ_ _ q=>q
  rcases hc with z|z
  .rw[z];exact away b u e
  .exact away c _ z
def Inv.out {h':Heap}{t':Nat}{fp:List ai}{xs:List V}{us:List ag}(I:Inv X ac Z H s) (hf:∀b∈fp,mQ X ac H b) (lt:∀b∈fp,b<s.heap.objs.size) (r:cz xs us) (hz:xs.length<=sizeLine)
  (k:∀b o,b∉fp->s.heap.get? b=some o->h'.get? b=some o) (hT:h'.get? s.heap.objs.size=some {cls:=.type "tuple",data:=.seq us.toArray}):
  H s.heap.objs.size=none/\Inv X ac Z (upd H s.heap.objs.size (.tup xs)) {s with heap:=h',toks:=t'}/\∀b∈fp,(upd H s.heap.objs.size (.tup xs)) b=none:=by
 have fresh:H s.heap.objs.size=none:=I.eN.fresh (ar _)
 have I1:Inv X ac Z (upd H s.heap.objs.size (.tup xs)) {s with heap:=s.heap.push {cls:=.type "tuple",data:=.seq us.toArray},toks:=s.toks}:=
  I.laid (λb u e=>af _ e) (ar _) ⟨hz,us,r,⟨_,az _ rfl,rfl,rfl,_,rfl⟩⟩
 have hf1:∀b∈fp,mQ X ac (upd H s.heap.objs.size (.tup xs)) b:=λb hb=>⟨by rw[aV (ba (lt b hb))];exact(hf b hb).1,(hf b hb).2⟩
 refine⟨fresh,I1.uU hf1 λb o hb e=>?_,λb hb=>(hf1 b hb).1⟩
 by_cases z:b=s.heap.objs.size
 .subst z
  have e':some ({cls:=.type "tuple",data:=.seq us.toArray}:Obj)=some o:=(az s.heap (o:={cls:=.type "tuple",data:=.seq us.toArray}) rfl).symm.trans e
  rw[hT,e']
 .refine k b o hb ?_
  have lt2:b<(s.heap.push {cls:=.type "tuple",data:=.seq us.toArray}).objs.size:=aC e
  rw[cf] at lt2
  have lt3:b<s.heap.objs.size:=dR (eG lt2) z
  cases q:s.heap.get? b with
  |some o'=>
   have:=af ({cls:=.type "tuple",data:=.seq us.toArray}:Obj) q
   rw[this] at e
   exact e
  |none=>
   exfalso
   have e2:(s.heap.push {cls:=.type "tuple",data:=.seq us.toArray}).get? b=none:=by
    first|exact Heap.Ez _ q lt3|simp[Heap.get?,Heap.push,Array.getElem?_push,ba lt3] at q⊢;exact q
   rw[e2] at e
   cases e
end
section
variable {prog:aM}{w:bB}{A:bG}{E:ag->aj->Prop}{s:aj}
def qJ (a1:s.heap.IsTupleIter J t n) (a2:s.heap.IsTuple t vs) (a3:vs[n]?=some y)
  (q:∀h',h'.IsTupleIter J t (n+1)->Heap.SameBut J s.heap h'->Q y {s with heap:=h'}):wpAny (model prog w) A (Builtin.SmallTypes.nextOf (.ref J)) Q E s:=by
 obtain⟨jo,j1,j2,j3⟩:=id a1
 obtain⟨to,t1,_,tn,t2⟩:=a2
 unfold Builtin.SmallTypes.nextOf
 refine aa (cH (name:=Str.ofString "__next__") a1.typeIs kq (dQ kq a1.typeIs F.entry_tuple_iterator_next ?_ (Sq _)))
 refine(aa (bL j1 j3 (x:=.ref t) rfl ?_):wpAny _ _ (field (.ref J) 0>>=_) _ _ s)
 refine(?_:wpAny _ _ (if(Value.ref t==Value.none)=true then _ else _) _ _ s)
 rw[aO ς]
 refine(aa (bL j1 j3 (x:=.int n 0) rfl ?_):wpAny _ _ (field (.ref J) 1>>=_) _ _ s)
 refine(aa (cg t1 t2 ?_):wpAny _ _ (seqItems? (.ref t)>>=_) _ _ s)
 simp only[a3,jv]
 exact aa (i9 j1 j3 ς (ak ⟨y,rfl,ak (q _ ⟨_,cW _ j1 (ib (hV j3 _)),(uP ..).trans j2,by rw[hV j3];simp[rawInt]⟩ (Fn ..))⟩))
def yf (free:A.handled=none) (a1:s.heap.IsTupleIter J t n) (a2:s.heap.IsTuple t vs) (a3:vs[n]?=none)
  (q:∀h' x,Heap.ExtBut J s.heap h'->(∃o,h'.get? x=some o/\o.cls=.type "StopIteration")->E (.ref x) {s with heap:=h'}):wpAny (model prog w) A (Builtin.SmallTypes.nextOf (.ref J)) Q E s:=by
 obtain⟨jo,j1,j2,j3⟩:=id a1
 obtain⟨to,t1,_,tn,t2⟩:=a2
 unfold Builtin.SmallTypes.nextOf
 refine aa (cH (name:=Str.ofString "__next__") a1.typeIs kq (dQ kq a1.typeIs F.entry_tuple_iterator_next ?_ (Sq _)))
 refine(aa (bL j1 j3 (x:=.ref t) rfl ?_):wpAny _ _ (field (.ref J) 0>>=_) _ _ s)
 refine(?_:wpAny _ _ (if(Value.ref t==Value.none)=true then _ else _) _ _ s)
 rw[aO ς]
 refine(aa (bL j1 j3 (x:=.int n 0) rfl ?_):wpAny _ _ (field (.ref J) 1>>=_) _ _ s)
 refine(aa (cg t1 t2 ?_):wpAny _ _ (seqItems? (.ref t)>>=_) _ _ s)
 simp only[a3,jv]
 refine aa (ki (aa (i9 j1 j3 ς ?_)))
 refine(aa ?_:wpAny _ _ (newExc (.type "StopIteration") []>>=_) _ _ _)
 simp only[newTuple,newExc]
 refine aa (bE (aa (m:=firstArgMember _ _) (BK (a:=Value.none) (by first|rfl|(simp only[firstArgMember];rfl)) (bE ?_ (by size_fits)))) (by size_fits))
 simp only[raiseNew]
 refine aa (wpAny_handled ?_)
 first|rw[show A.in1.handled=none from free]|rw[free]
 exact aa (ak (wpAny_throw (q _ _ (((Fn ..).extBut.push _).push _) ⟨_,az _ rfl,rfl⟩)))
end
section
variable {prog:aM}{w:bB}{A:bG}{E:ag->aj->Prop}{s:aj}
end
def Ck:bootBuiltins "enumerate"=some (.type "enumerate"):=by decide+kernel
section
variable {prog:aM}{w:bB}{A:bG}{E:ag->aj->Prop}{s:aj}
def fR (x:h.IsTupleIter a t i) (sb:Heap.SameBut b h h') (n:a≠b):h'.IsTupleIter a t i:=x.extBut sb.extBut n
def jF (x:h.IsTuple a vs) (sb:Heap.SameBut b h h') (n:a≠b):h'.IsTuple a vs:=x.extBut sb.extBut n
def FX {z TI TO i1 i2 t1 t2:ai}{n1 n2:Nat}{xs ys:Array ag}{x y a b:ag}{Q:ag->aj->Prop}(D:ZipApart z TI TO i1 i2 t1 t2) (c1:IsZip s.heap z TI TO .none) (c2:IsPair s.heap TI (.ref i1) (.ref i2)) (c3:IsPair s.heap TO a b)
  (c4:s.heap.IsTupleIter i1 t1 n1) (c5:s.heap.IsTupleIter i2 t2 n2) (c6:s.heap.IsTuple t1 xs) (c7:s.heap.IsTuple t2 ys) (c8:xs[n1]?=some x) (c9:ys[n2]?=some y)
  (q:∀h',IsZip h' z TI TO (rawInt s.heap.objs.size)->IsPair h' TO x y->h'.IsTupleIter i1 t1 (n1+1)->h'.IsTupleIter i2 t2 (n2+1)->IsPair h' s.heap.objs.size x y->(∀c o,c≠z->c≠TO->c≠i1->c≠i2->s.heap.get? c=some o->h'.get? c=some o)->Q (.ref s.heap.objs.size) {s with heap:=h'}):
  wpAny (model prog w) A (Builtin.«zip.__next__» ⟨[.ref z],[]⟩) (λfin s'=>∃v,fin=.done (.ret v)/\Q v s') E s:=by
 refine(aa (bL c1 rfl (x:=.bool false) rfl ?_):wpAny _ _ (field (.ref z) 2>>=_) _ _ _)
 refine(aa (bL c1 rfl (x:=.ref TI) rfl ?_):wpAny _ _ (field (.ref z) 3>>=_) _ _ _);refine aa (cg c2 rfl ?_)
 refine(aa ?_:wpAny _ _ (Builtin.SmallTypes.ownedTupleIsFree (.ref z)>>=_) _ _ _)
 unfold Builtin.SmallTypes.ownedTupleIsFree
 refine aa (bL c1 rfl (x:=.none) rfl (ak ?_))
 simp only[m_]
 refine aa (ki ?_);refine aa (bL c1 rfl (x:=.ref TO) rfl ?_);refine aa (dX c1 ς λg1 k1 s1=>?_)
 have k1:IsZip g1 z TI TO .ellipsis:=k1
 refine aa ?_
 simp only[oh,xo,sO,uQ]
 refine aa (aa (iO ?_))
 show wpAny _ _ (Builtin.SmallTypes.nextOf (.ref i1)>>=_) _ _ _;refine aa (qJ (fR c4 s1 D.i1z) (jF c6 s1 D.l1z) c8 λg2 k2 s2=>ak ?_)
 have o2:IsPair g2 TO a b:=s2.extBut _ _ D.TOi1 (s1.extBut _ _ D.TOz c3)
 refine aa (cg o2 rfl ?_);refine aa (iF o2 λg3 o3 s3=>?_);refine aa (fG (ak ?_))
 have o3:IsPair g3 TO x b:=o3
 refine aa (aa (iO ?_))
 show wpAny _ _ (Builtin.SmallTypes.nextOf (.ref i2)>>=_) _ _ _;refine aa (qJ (fR (fR (fR c5 s1 D.i2z) s2 D.i12.symm) s3 D.TOi2.symm) (jF (jF (jF c7 s1 D.l2z) s2 D.l2i1) s3 D.l2TO) c9 λg4 k4 s4=>ak ?_)
 have o4:IsPair g4 TO x b:=s4.extBut _ _ D.TOi2 o3
 refine aa (cg o4 rfl ?_);refine aa (iF o4 λg5 o5 s5=>?_);refine aa (fG (ak (ak ?_)))
 have o5:IsPair g5 TO x y:=o5
 refine aa (cg o5 rfl ?_);refine aa (wpAny_newTuple ?_)
 have sz:g5.objs.size=s.heap.objs.size:=by rw[s5.1,s4.1,s3.1,s2.1,s1.1]
 have z5:IsZip g5 z TI TO .ellipsis:=s5.extBut _ _ D.TOz.symm (s4.extBut _ _ D.i2z.symm (s3.extBut _ _ D.TOz.symm (s2.extBut _ _ D.i1z.symm k1)))
 have j1:g5.IsTupleIter i1 t1 (n1+1):=fR (fR (fR k2 s3 D.TOi1.symm) s4 D.i12) s5 D.TOi1.symm
 have j2:g5.IsTupleIter i2 t2 (n2+1):=fR k4 s5 D.TOi2.symm
 have zl:z<g5.objs.size:=aC z5
 refine(aa ?_:wpAny _ _ (Builtin.SmallTypes.ownedTupleHandOut (.ref z) (.ref g5.objs.size)>>=_) _ _ _)
 unfold Builtin.SmallTypes.ownedTupleHandOut
 refine aa (dX (af _ z5) ς λg7 z7 s7=>?_)
 have z7:IsZip g7 z TI TO (rawInt g5.objs.size):=z7
 refine dX z7 ς λg8 z8 s8=>ak ⟨_,rfl,?_⟩
 have z8:IsZip g8 z TI TO (rawInt g5.objs.size):=z8
 have up:∀c o,c≠z->g5.get? c=some o->g8.get? c=some o:=λc o n e=>s8.extBut _ _ n (s7.extBut _ _ n (af _ e))
 have T8:IsPair g8 g5.objs.size x y:=s8.extBut _ _ (g_ zl) (s7.extBut _ _ (g_ zl) (az _ rfl))
 rw[sz] at z8 T8
 refine(?_:Q (.ref g5.objs.size) _)
 rw[sz]
 obtain⟨v1,v2,v3⟩:=j1
 obtain⟨w1,w2,w3⟩:=j2
 exact q g8 z8 (up _ _ D.TOz o5) ⟨v1,up _ _ D.i1z v2,v3⟩ ⟨w1,up _ _ D.i2z w2,w3⟩ T8 λc o n1 n2 n3 n4 e=>up c o n1 (s5.extBut _ _ n2 (s4.extBut _ _ n4 (s3.extBut _ _ n2 (s2.extBut _ _ n3 (s1.extBut _ _ n1 e)))))
def Ij {z TI TO i1 i2 t1 t2:ai}{n1 n2:Nat}{xs ys:Array ag}{a b:ag}{Q:Fin->aj->Prop}(free:A.handled=none) (D:ZipApart z TI TO i1 i2 t1 t2) (c1:IsZip s.heap z TI TO .none) (c2:IsPair s.heap TI (.ref i1) (.ref i2)) (c3:IsPair s.heap TO a b)
  (c4:s.heap.IsTupleIter i1 t1 n1) (c5:s.heap.IsTupleIter i2 t2 n2) (c6:s.heap.IsTuple t1 xs) (c7:s.heap.IsTuple t2 ys) (c8:xs[n1]?=none\/ys[n2]?=none)
  (q:∀h' x,(∀c o,c≠z->c≠TO->c≠i1->c≠i2->s.heap.get? c=some o->h'.get? c=some o)->(∃o,h'.get? x=some o/\o.cls=.type "StopIteration")->E (.ref x) {s with heap:=h'}):
  wpAny (model prog w) A (Builtin.«zip.__next__» ⟨[.ref z],[]⟩) Q E s:=by
 have vL:∀{g:Heap} {x:ai} {o:Obj},IsZip g z TI TO .ellipsis->g.get? x=some o->o.cls=.type "StopIteration"->x≠z:=λ{g x o} k1 k2 k3 e=>by
  rw[e,k1] at k2
  cases k2
  exact absurd (show Value.type "zip"=Value.type "StopIteration" from k3) δ
 refine(aa (bL c1 rfl (x:=.bool false) rfl ?_):wpAny _ _ (field (.ref z) 2>>=_) _ _ _)
 refine(aa (bL c1 rfl (x:=.ref TI) rfl ?_):wpAny _ _ (field (.ref z) 3>>=_) _ _ _);refine aa (cg c2 rfl ?_)
 refine(aa ?_:wpAny _ _ (Builtin.SmallTypes.ownedTupleIsFree (.ref z)>>=_) _ _ _)
 unfold Builtin.SmallTypes.ownedTupleIsFree
 refine aa (bL c1 rfl (x:=.none) rfl (ak ?_))
 simp only[m_]
 refine aa (ki ?_);refine aa (bL c1 rfl (x:=.ref TO) rfl ?_);refine aa (dX c1 ς λg1 k1 s1=>?_)
 have k1:IsZip g1 z TI TO .ellipsis:=k1
 refine aa ?_
 simp only[oh,xo,sO,uQ]
 refine aa (aa (iO ?_))
 cases hx:xs[n1]? with
 |none=>
  show wpAny _ _ (Builtin.SmallTypes.nextOf (.ref i1)>>=_) _ _ _;refine aa (yf free (fR c4 s1 D.i1z) (jF c6 s1 D.l1z) hx λg2 x s2 ⟨o,o1,o2⟩=>?_)
  have z2:IsZip g2 z TI TO .ellipsis:=s2 _ _ D.i1z.symm k1
  exact dX z2 ς λg3 _ s3=>q g3 x (λc u n1 _ n3 _ e=>s3.extBut _ _ n1 (s2 _ _ n3 (s1.extBut _ _ n1 e))) ⟨o,s3.extBut _ _ (vL z2 o1 o2) o1,o2⟩
 |some x1=>
  have hy:ys[n2]?=none:=by
   rcases c8 with e|e
   .rw[hx] at e;cases e
   .exact e
  show wpAny _ _ (Builtin.SmallTypes.nextOf (.ref i1)>>=_) _ _ _;refine aa (qJ (fR c4 s1 D.i1z) (jF c6 s1 D.l1z) hx λg2 k2 s2=>ak ?_)
  have o2:IsPair g2 TO a b:=s2.extBut _ _ D.TOi1 (s1.extBut _ _ D.TOz c3)
  refine aa (cg o2 rfl ?_);refine aa (iF o2 λg3 o3 s3=>?_);refine aa (fG (ak ?_))
  refine aa (aa (iO ?_))
  show wpAny _ _ (Builtin.SmallTypes.nextOf (.ref i2)>>=_) _ _ _;refine aa (yf free (fR (fR (fR c5 s1 D.i2z) s2 D.i12.symm) s3 D.TOi2.symm) (jF (jF (jF c7 s1 D.l2z) s2 D.l2i1) s3 D.l2TO) hy λg4 x s4 ⟨o,o1,TB⟩=>?_)
  have z4:IsZip g4 z TI TO .ellipsis:=s4 _ _ D.i2z.symm (s3.extBut _ _ D.TOz.symm (s2.extBut _ _ D.i1z.symm k1))
  exact dX z4 ς λg5 _ s5=>q g5 x (λc u n1 n2 n3 n4 e=>s5.extBut _ _ n1 (s4 _ _ n4 (s3.extBut _ _ n2 (s2.extBut _ _ n3 (s1.extBut _ _ n1 e))))) ⟨o,s5.extBut _ _ (vL z4 o1 TB) o1,TB⟩
def Cm (t1 t2:ai) (xs ys:Array ag):Meets (Builtin.«zip.__new__» ⟨[.type "zip",.ref t1,.ref t2],[]⟩) (λ_ R s=>s.heap.IsTuple t1 xs/\s.heap.IsTuple t2 ys/\∀h1 h2 h3 h4 h5:Heap,
   h1=s.heap.push {cls:=.type "tuple_iterator",data:=.fields #[.ref t1,.int 0 0]}->h2=h1.push {cls:=.type "tuple_iterator",data:=.fields #[.ref t2,.int 0 0]}->h3=h2.push {cls:=.type "tuple",data:=.seq #[.ref s.heap.objs.size,.ref h1.objs.size]}->
   h4=h3.push {cls:=.type "tuple",data:=.seq #[.none,.none]}->h5=h4.push {cls:=.type "zip",data:=.fields #[.none,.bool false,.bool false,.ref h2.objs.size,.ref h3.objs.size]}->R (.ok (.ret (.ref h4.objs.size))) {s with heap:=h5}):=
 .of_wp λprog w A R s h=>by
  obtain⟨hp,g,d,tk,os⟩:=s
  obtain⟨p1,p2,h⟩:=h
  have Lo:=sub_zip
  have q1:Heap.IsTuple (Shared.heap ⟨hp,g,d,tk,os⟩) t1 xs:=p1
  have q2:Heap.IsTuple (Shared.heap ⟨hp.push {cls:=.type "tuple_iterator",data:=.fields #[.ref t1,.int 0 0]},g,d,tk,os⟩) t2 ys:=Heap.IsTuple.push p2 _
  wp_walk using me q1,me q2
  exact⟨_,rfl,h _ _ _ _ _ rfl rfl rfl rfl rfl⟩
def FY (p1:s.heap.IsTuple t1 xs) (p2:s.heap.IsTuple t2 ys)
  (q:∀h',IsZip h' (s.heap.objs.size+4) (s.heap.objs.size+2) (s.heap.objs.size+3) .none->IsPair h' (s.heap.objs.size+2) (.ref s.heap.objs.size) (.ref (s.heap.objs.size+1))->IsPair h' (s.heap.objs.size+3) .none .none->
   h'.IsTupleIter s.heap.objs.size t1 0->h'.IsTupleIter (s.heap.objs.size+1) t2 0->(∀c o,s.heap.get? c=some o->h'.get? c=some o)->Q (.ref (s.heap.objs.size+4)) {s with heap:=h'}):
  wpAny (model prog w) A (call (.type "zip") [.ref t1,.ref t2]) Q E s:=by
 refine callType_new F.called_zip δ (F.typeCall_zip_2 _ _) (F.newCall_zip_2 _ _) (λobj=>F.args_object_init_3 obj _ _) F.entry_zip_new (Cm t1 t2 xs ys) ⟨p1,p2,λh1 h2 h3 h4 h5 e1 e2 e3 e4 e5=>?_⟩
 have m1:h1.objs.size=s.heap.objs.size+1:=by rw[e1];exact cf ..
 have m2:h2.objs.size=s.heap.objs.size+2:=by rw[e2,cf,m1]
 have m3:h3.objs.size=s.heap.objs.size+3:=by rw[e3,cf,m2]
 have m4:h4.objs.size=s.heap.objs.size+4:=by rw[e4,cf,m3]
 have u5:∀c o,h4.get? c=some o->h5.get? c=some o:=λc o e=>by rw[e5];exact af _ e
 have u4:∀c o,h3.get? c=some o->h4.get? c=some o:=λc o e=>by rw[e4];exact af _ e
 have u3:∀c o,h2.get? c=some o->h3.get? c=some o:=λc o e=>by rw[e3];exact af _ e
 have u2:∀c o,h1.get? c=some o->h2.get? c=some o:=λc o e=>by rw[e2];exact af _ e
 have u1:∀c o,s.heap.get? c=some o->h1.get? c=some o:=λc o e=>by rw[e1];exact af _ e
 have f5:IsZip h5 (s.heap.objs.size+4) (s.heap.objs.size+2) (s.heap.objs.size+3) .none:=by
  rw[<-m4,<-m3,<-m2,e5];exact az _ rfl
 have f4:IsPair h4 (s.heap.objs.size+3) .none .none:=by rw[<-m3,e4];exact az _ rfl
 have f3:IsPair h3 (s.heap.objs.size+2) (.ref s.heap.objs.size) (.ref (s.heap.objs.size+1)):=by rw[<-m2,<-m1,e3];exact az _ rfl
 have f2:h2.IsTupleIter (s.heap.objs.size+1) t2 0:=⟨_,by rw[<-m1,e2];exact az _ rfl,rfl,rfl⟩
 have f1:h1.IsTupleIter s.heap.objs.size t1 0:=⟨_,by rw[e1];exact az _ rfl,rfl,rfl⟩
 rw[m4]
 obtain⟨v1,v2,v3⟩:=f1
 obtain⟨w1,w2,w3⟩:=f2
 exact⟨⟨_,f5,rfl⟩,q h5 f5 (u5 _ _ (u4 _ _ f3)) (u5 _ _ f4) ⟨v1,u5 _ _ (u4 _ _ (u3 _ _ (u2 _ _ v2))),v3⟩ ⟨w1,u5 _ _ (u4 _ _ (u3 _ _ w2)),w3⟩ λc o e=>u5 _ _ (u4 _ _ (u3 _ _ (u2 _ _ (u1 _ _ e))))⟩
end
def Itz (K:Φ) (a b:ai):It:=⟨λi H=>∃xs ys x y,bZ K H a xs/\bZ K H b ys/\xs[i]?=some x/\ys[i]?=some y,
 λi H v H'=>∃T x y,H T=none/\v=.ref T/\H'=upd H T (.tup [x,y])/\(∀xs,bZ K H a xs->xs[i]?=some x)/\∀ys,bZ K H b ys->ys[i]?=some y,λi H=>∃xs ys,bZ K H a xs/\bZ K H b ys/\(xs.length<=i\/ys.length<=i)⟩
def TC (z TI TO i1 i2 a b:ai) (i:Nat) (h:Heap):Prop:=IsZip h z TI TO .none/\IsPair h TI (.ref i1) (.ref i2)/\(∃x y,IsPair h TO x y)/\h.IsTupleIter i1 a i/\h.IsTupleIter i2 b i
def FZ {P:aM}{w:bB}{K:Φ}{elts:List Expr}{kk:Nat}{tp:Pos}(z TI TO i1 i2 a b:ai) (D:ZipApart z TI TO i1 i2 a b):Turn P w K (.Tuple elts kk tp) (Itz K a b) [z,TI,TO,i1,i2] z (TC z TI TO i1 i2 a b) where
 mem:=ς
 obj:=λi h st c hc=>by
  obtain⟨z1,z2,⟨x,y,z3⟩,⟨o,o1,o2,o3⟩,⟨u,u1,u2,u3⟩⟩:=st
  simp only[aD,aN,cy] at hc
  rcases hc with rfl|rfl|rfl|rfl|rfl
  .exact⟨_,z1,λv e=>by cases(show Data.fields _=Data.cell v from e)⟩
  .exact⟨_,z2,λv e=>by cases(show Data.seq _ _=Data.cell v from e)⟩
  .exact⟨_,z3,λv e=>by cases(show Data.seq _ _=Data.cell v from e)⟩
  .exact⟨o,o1,λv e=>by rw[o3] at e;cases e⟩
  .exact⟨u,u1,λv e=>by rw[u3] at e;cases e⟩
 keep:=λi h h' st kp=>by
  obtain⟨z1,z2,⟨x,y,z3⟩,⟨o,o1,o2⟩,⟨u,u1,u2⟩⟩:=st
  exact⟨kp z ς _ z1,kp TI ς _ z2,⟨x,y,kp TO ς _ z3⟩,⟨o,kp i1 ς o o1,o2⟩,⟨u,kp i2 ς u u1,u2⟩⟩
 item:=by
  intro X hP hw hK hc i ac s Z H E I hf st hg
  subst hP hw hK
  obtain⟨xs,ys,x,y,AB,z_,hx,hy⟩:=hg
  obtain⟨vM,Lp,p1,_⟩:=I.tuple AB
  obtain⟨lQ,Lq,p2,_⟩:=I.tuple z_
  obtain⟨u1,XW,Pe⟩:=Lp.get hx
  obtain⟨u2,Pf,Pg⟩:=Lq.get hy
  obtain⟨z1,z2,⟨oa,ob,z3⟩,j1,j2⟩:=st
  have Ik:s.TypeIs (.ref z) "zip":=⟨_,z1,rfl⟩
  have lt:∀c∈[z,TI,TO,i1,i2],c<s.heap.objs.size:=λc hc=>by
   obtain⟨_,w1,_⟩:=id j1
   obtain⟨_,w2,_⟩:=id j2
   simp only[aD,aN,cy] at hc
   rcases hc with rfl|rfl|rfl|rfl|rfl
   .exact aC z1
   .exact aC z2
   .exact aC z3
   .exact aC w1
   .exact aC w2
  unfold pyNext
  refine aa (vh (cH (name:=Str.ofString "__next__") Ik iA (dQ iA Ik xq
   (FX D z1 z2 z3 j1 j2 (show s.heap.IsTuple a vM.toArray from p1) (show s.heap.IsTuple b lQ.toArray from p2) (x:=u1) (y:=u2) (by simpa using XW) (by simpa using Pf) λh' a1 a2 a3 a4 a5 a7=>ak ?_) (uR _))))
  refine⟨_,rfl,wpAny_letOwnedTupleGo_zip a1 λh2 b1 Lr=>?_⟩
  have nT:s.heap.objs.size≠z:=g_ (lt z ς)
  have F0:∀c o,c≠z->h'.get? c=some o->h2.get? c=some o:=λc o n e=>(Lr.2 c n).trans e
  obtain⟨f1,f2,f3⟩:=I.out (h':=h2) (t':=s.toks) (xs:=[x,y]) (us:=[u1,u2]) hf lt (.cons Pe (.cons Pg .nil)) (dP)
   (λc o hc q=>F0 c o (λe=>hc (by simp[e])) (a7 c o (λe=>hc (by simp[e])) (λe=>hc (by simp[e])) (λe=>hc (by simp[e])) (λe=>hc (by simp[e])) q)) (F0 _ _ nT a5)
  obtain⟨v1,v2,v3⟩:=a3
  obtain⟨w1,w2,w3⟩:=a4
  exact⟨.ref s.heap.objs.size,_,f2,rfl,⟨_,x,y,f1,rfl,rfl,λzs Ph=>by rw[I.sW Ph AB];exact hx,λzs Ph=>by rw[I.sW Ph z_];exact hy⟩,
   ⟨b1,F0 _ _ D.TIz (a7 _ _ D.TIz D.TITO D.TIi1 D.TIi2 z2),⟨_,_,F0 _ _ D.TOz a2⟩,⟨v1,F0 _ _ D.i1z v2,v3⟩,⟨w1,F0 _ _ D.i2z w2,w3⟩⟩,f3⟩
 done:=by
  intro X hP hw hK hc i ac s Z H E I hf st hg
  subst hP hw hK
  obtain⟨xs,ys,AB,z_,XX⟩:=hg
  obtain⟨vM,Lp,p1,_⟩:=I.tuple AB
  obtain⟨lQ,Lq,p2,_⟩:=I.tuple z_
  obtain⟨z1,z2,⟨oa,ob,z3⟩,j1,j2⟩:=st
  have Ik:s.TypeIs (.ref z) "zip":=⟨_,z1,rfl⟩
  have l1:=Lp.length
  have l2:=Lq.length
  have ends:vM.toArray[i]?=none\/lQ.toArray[i]?=none:=by
   rcases XX with e|e
   .left;simp;omega
   .right;simp;omega
  unfold pyNext
  refine aa (vh (cH (name:=Str.ofString "__next__") Ik iA (dQ iA Ik xq
   (Ij (I.ok.hd hc) D z1 z2 z3 j1 j2 (show s.heap.IsTuple a vM.toArray from p1) (show s.heap.IsTuple b lQ.toArray from p2) ends λh' x kp ⟨o,o1,o2⟩=>?_) (uR _))))
  refine aa (Oh (T:="StopIteration") (b:=true) ⟨o,o1,o2⟩ isSubtype_stop (ak ⟨rfl,?_⟩))
  exact I.uU (t':=s.toks) hf λc o hc q=>kp c o (λe=>hc (by simp[e])) (λe=>hc (by simp[e])) (λe=>hc (by simp[e])) (λe=>hc (by simp[e])) q
 self:=λ_ _ _ _ _ st q=>xr st.1 q
def yg:bootBuiltins "zip"=some (.type "zip"):=by decide+kernel
def TF (K:Φ) (ta:TA):TI:=λZ H R=>ta Z H λvs H1=>∃a b,vs=[.ref a,.ref b]/\(∃xs,bZ K H1 a xs)/\(∃ys,bZ K H1 b ys)/\R (Itz K a b) H1
def Ls (hg:Gl X "zip") (hm:X.mg "zip"=none) (ha:PA X [e1,e2] ta) (hs:starEach [e1,e2] X.env=[(false,eval e1 X.env),(false,eval e2 X.env)]:=by rfl) (Hc:starEach [e2] X.env=[(false,eval e2 X.env)]:=by rfl):
  PI X (.Tuple elts kk tp) (.Call (.Name "zip" p) [e1,e2] [] pos) (TF X.K ta):=by
 intro ac s Z H R I h
 refine Call_ (qv I hg hm yg (gx (fq (ha pos ac s Z H _ I h) λus s1 ⟨vs,H1,I1,r1,q1⟩=>?_) (by rw[hs,Hc]) (by rw[Hc];rfl)))
 obtain⟨a,b,e,⟨xs,AB⟩,⟨ys,z_⟩,q⟩:=q1
 subst e
 obtain⟨u1,u2,rfl,Pe,Pg⟩:=vals2 r1
 cases(show u1=Value.ref a from Pe)
 cases(show u2=Value.ref b from Pg)
 obtain⟨vM,Lp,p1,_⟩:=I1.tuple AB
 obtain⟨lQ,Lq,p2,_⟩:=I1.tuple z_
 have la:a<s1.heap.objs.size:=by obtain⟨o,e,_⟩:=(show s1.heap.IsTuple a vM.toArray from p1);exact aC e
 have lb:b<s1.heap.objs.size:=by obtain⟨o,e,_⟩:=(show s1.heap.IsTuple b lQ.toArray from p2);exact aC e
 refine FY (show s1.heap.IsTuple a vM.toArray from p1) (show s1.heap.IsTuple b lQ.toArray from p2) λh' a1 a2 a3 a4 a5 kp=>xr a1 ?_
 refine⟨_,[s1.heap.objs.size+4,s1.heap.objs.size+2,s1.heap.objs.size+3,s1.heap.objs.size,s1.heap.objs.size+1],_,_,H1,rfl,I1.kept (t':=s1.toks) kp,FZ _ _ _ _ _ a b (zipApart_new la lb),⟨a1,a2,⟨_,_,a3⟩,a4,a5⟩,λc hc=>?_,q⟩
 have ge:s1.heap.objs.size<=c:=by
  simp only[aD,aN,cy] at hc
  rcases hc with rfl|rfl|rfl|rfl|rfl
  .exact dH _ _
  .exact dH _ _
  .exact dH _ _
  .exact ar _
  .exact dH _ _
 exact I1.yV ge (I1.eN.fresh ge)
def AD {J:It}{n:Nat}{u v:Nat->V}{g:TG}{tc:TT}{te:TE}{FT:St}{H1:Hp}{Q:VK}{D:ai}(Iv:Nat->List V->St->Hp->Prop) (hD:H1 D=none) (hn:n<=1000)
  (h0:Iv 0 [] FT (upd H1 D (.lst [])))
  (hj:∀i ys Z H,i<=n->H D=some (.lst ys)->Iv i ys Z H->(i=n->J.stop i H)/\(i<n->J.go i H/\∀x H',J.BY i H x H'->∃T,H T=none/\x=.ref T/\H'=upd H T (.tup [u i,v i])))
  (hs:∀i ys Z H T,i<n->H D=some (.lst ys)->Iv i ys Z H->H T=none->g (.ref T) Z (upd H T (.tup [u i,v i])) λiR H3=>tc iR H3 λb H4=>
   if b=true then te iR H4 λy H5=>H5 D=some (.lst ys)/\Iv (i+1) (ys++ [y]) iR (upd H5 D (.lst (ys++ [y]))) else H4 D=some (.lst ys)/\Iv (i+1) ys iR H4)
  (hd:∀ys Z H,H D=some (.lst ys)->Iv n ys Z H->Q (.ref D) H):qg J g tc te FT H1 Q D:=by
 refine⟨λi m Z H=>m=n-i/\i<=n/\∃ys,H D=some (.lst ys)/\ys.length<=i/\Iv i ys Z H,⟨n,rfl,de _,[],aB,ar _,h0⟩,?_⟩
 rintro i m Z H ⟨rfl,hi,ys,hy,hl,iv⟩
 obtain⟨j1,j2⟩:=hj i ys Z H hi hy iv
 rcases Nat.lt_or_ge i n with lt|ge
 .obtain⟨go,yl⟩:=j2 lt
  refine .inr ⟨go,λiR H4=>H4 D=some (.lst ys)/\Iv (i+1) ys iR H4,λy iR H5=>H5 D=some (.lst ys)/\Iv (i+1) (ys++ [y]) iR (upd H5 D (.lst (ys++ [y]))),λiR H4 q=>?_,λy iR H5 q=>?_,λx H2 q=>?_⟩
  .exact⟨n-(i+1),ω,rfl,lt,ys,q.1,ω,q.2⟩
  .exact⟨ys,n-(i+1),q.1,dD ω,ω,rfl,lt,ys++ [y],aB,by rw[aK,aJ];omega,q.2⟩
  .obtain⟨T,f1,rfl,rfl⟩:=yl x H2 q
   exact hs i ys Z H T lt hy iv f1
 .have e:i=n:=ω
  subst e
  exact .inl ⟨j1 rfl,hd ys Z H hy iv⟩
section
variable {X:Cx}{tg:Expr}
def Il (hc:X.calm=true):gN X (.builtin "any") (λxs H Q=>∃(p:ai) (bs:List Bool),xs=[.ref p]/\cT X.K H p (bs.map V.bl)/\Q (.bl (bs.any id)) H):=by
 intro ac s Z H xs us Q I r h
 obtain⟨p,bs,rfl,hq,q⟩:=h
 obtain⟨u,rfl,rx⟩:=Ae r
 cases(show u=Value.ref p from rx)
 obtain⟨cF,rv,pl,hz⟩:=I.list hq
 have mS:p<s.heap.objs.size:=by obtain⟨o,e,_⟩:=pl.isList;exact aC e
 refine call_any_walk (iE pl.isList ?_)
 refine⟨s.heap.objs.size,_,_,cF.toArray.size,_,_,λi=>bs.getD i false,rfl,Walks.list (prog:=X.prog) (w:=X.w) (A:=X.A.in1) (I.ok.hd hc) s.heap.objs.size p (ba mS) cF.toArray,⟨⟨_,az _ rfl,rfl,rfl⟩,pl.isList.at λo e=>af _ e⟩,?_,λh' tk hk=>?_⟩
 .intro i v s' Q' E' hP hQ
  have tw:cF[i]?=some v:=by simpa using hP
  have hl:=rv.length
  rw[aq] at hl
  have hi:i<cF.length:=(br.mp tw).1
  obtain⟨u,hu,ru⟩:=rv.get (i:=i) (x:=V.bl (bs.getD i false)) (by rw[bY,aG ω];simp[List.getD,aG (show i<bs.length by omega)])
  rw[tw] at hu;cases hu
  cases(show v=Value.bool _ from ru)
  exact ek hQ
 .refine⟨.bl _,H,I.kept λb o e=>hk b o (by simpa using ba (aC e)) (af _ e),rfl,?_⟩
  have hl:=rv.length
  rw[aq] at hl
  have e:(List.range cF.toArray.size).any (λi=>bs.getD i false)=bs.any id:=by
   rw[aH,<-hl]
   have:(List.range bs.length).map (λi=>bs.getD i false)=bs:=by
    apply Fm
    .simp
    .intro i h1 h2;simp[List.getD,aG h2]
   conv=>rhs;rw[<-this]
   rw[Sr];rfl
  rw[e];exact q
end
def Im (h:1<=xs.length):jh xs (some 1) none=xs.drop 1:=by
 unfold jh
 have e1:HT.ip xs.length 0 (some 1)=1:=by
  have:=HT.lW xs.length 0 1
  rw[show((1:Nat):Int)=1 from rfl] at this
  rw[this];omega
 rw[e1,HT.rE,cY (by rw[dF];exact ar _)]
def F2 {J:It}{n:Nat}{u v:Nat->V}{g:TG}{te:TE}{FT:St}{H1:Hp}{Q:VK}{D:ai}(Iv:Nat->List V->St->Hp->Prop) (hD:H1 D=none) (hn:n<=1000)
  (h0:Iv 0 [] FT (upd H1 D (.lst [])))
  (hj:∀i ys Z H,i<=n->H D=some (.lst ys)->Iv i ys Z H->(i=n->J.stop i H)/\(i<n->J.go i H/\∀x H',J.BY i H x H'->∃T,H T=none/\x=.ref T/\H'=upd H T (.tup [u i,v i])))
  (hs:∀i ys Z H T,i<n->H D=some (.lst ys)->Iv i ys Z H->H T=none->g (.ref T) Z (upd H T (.tup [u i,v i])) λiR H3=>te iR H3 λy H5=>H5 D=some (.lst ys)/\Iv (i+1) (ys++ [y]) iR (upd H5 D (.lst (ys++ [y]))))
  (hd:∀ys Z H,H D=some (.lst ys)->Iv n ys Z H->Q (.ref D) H):qg J g qE te FT H1 Q D:=
 AD Iv hD hn h0 hj (λi ys Z H T h1 h2 h3 h4=>hs i ys Z H T h1 h2 h3 h4) hd
def yh:∀{ss:List Str}{us:List ag},cz (ss.map V.str) us->StrsAre us ss
 | [],_,r=>by cases r;exact .nil
 |x::ss,_,r=>by
  cases r with
  |cons r1 r2=>
   obtain⟨t,rfl⟩:=r1
   exact .cons x t (yh r2)
def yi:∀{us:List ag}{ss:List Str},StrsAre us ss->cz (ss.map V.str) us
 |_,_,.nil=>.nil
 |_,_,.cons x t h=>.cons ⟨t,rfl⟩ (yi h)
section
variable {X:Cx}
def iK:gN X (.builtin "sorted") (λxs H Q=>∃(p:ai) (ss:List Str),xs=[.ref p]/\cT X.K H p (ss.map V.str)/\ss.length<64/\∀(l:ai) (RV:List Str),H l=none->RV.Perm ss->sortedS RV=true->Q (.ref l) (upd H l (.lst (RV.map V.str)))):=by
 intro ac s Z H xs us Q I r h
 obtain⟨p,ss,rfl,hq,He,q⟩:=h
 obtain⟨u,rfl,rx⟩:=Ae r
 cases(show u=Value.ref p from rx)
 obtain⟨cF,rv,pl,hz⟩:=I.list hq
 have hl:=rv.length
 rw[aq] at hl
 refine sorted_strs pl.isList (yh rv) ω λout RV a1 a2 a3=>?_
 obtain⟨e,he⟩:=sortedAll_at s.heap cF out
 have fresh:H (s.heap.objs.size+1)=none:=I.eN.fresh (dN _)
 have oE:=a2.length_eq
 refine⟨.ref (s.heap.objs.size+1),upd H (s.heap.objs.size+1) (.lst (RV.map V.str)),I.laid (t':=s.toks) (λb o eb=>sortedAll_old eb) (dN _) ⟨?_,out.toList,e,yi a1,?_⟩,rfl,q _ RV fresh a2 a3⟩
 .rw[aq];exact cR (dD ω)
 .rw[he]
end
end L2
namespace HT
open PySem PyProof.Rows
section
variable {prog:aM}{w:bB}{A:bG}{E:ag->aj->Prop}{s:aj}
def rM {t sl:ai}{items:Array ag}{vl vu:ag}{lo hi:Option Int}{Q:ag->aj->Prop}(ht:IsTup s.heap t items) (hs:s.heap.IsSliceOf sl vl vu .none) (pl:IsPart vl lo) (pu:IsPart vu hi)
  (hw:ip items.size 0 lo=0/\ip items.size items.size hi=items.size) (h:Q (.ref t) s):wpAny (model prog w) A (getItem (.ref t) (.ref sl)) Q E s:=by
 obtain⟨os,OX,Wj,S8⟩:=id hs
 have Xq:s.TypeIs (.ref sl) "slice":=⟨os,OX,Wj⟩
 unfold getItem
 try with_reducible refine cO ?_
 first|refine aa (ak ?_)|skip
 refine aa (KS ht.typeIs δ ?_)
 refine aa (cH (name:=Str.ofString "__getitem__") ht.typeIs cE
  (dQ cE ht.typeIs entry_tuple_getitem ?_ (args_tuple_getitem _ _)))
 show wpAny _ _ (Builtin.Tuple.tupleItemsOf (.ref t)>>=_) _ _ s
 refine aa (tupleItemsOf_ ht ?_)
 refine aa (rj Xq ?_)
 rw[aQ δ]
 refine aa (mU hs pl pu ?_)
 show wpAny _ _ (if(((ip items.size 0 lo:Nat):Int)==0&&(1:Int)==1&&(ip items.size items.size hi-ip items.size 0 lo)==items.size)=true then _ else _) _ _ s
 rw[hw.1,hw.2,aQ ς]
 unfold Builtin.Tuple.tupleIsExact
 refine aa (aa (rj ht.typeIs (ak ?_)))
 rw[aQ δ]
 refine aa (ki ?_)
 exact ak ⟨_,rfl,ak h⟩
end
end HT
namespace L2
open PySem PySem.Spec PyProof.Rows
section
variable {X:Cx}
def Pj (K:Φ):V->Option Int->Option Int->Hp->VK->Prop:=λx lo hi H Q=>∃a xs,x=.ref a/\bZ K H a xs/\
 ((HT.ip xs.length 0 lo=0/\HT.ip xs.length xs.length hi=xs.length)->Q (.ref a) H)/\(¬(HT.ip xs.length 0 lo=0/\HT.ip xs.length xs.length hi=xs.length)->∀p,H p=none->Q (.ref p) (upd H p (.tup (jh xs lo hi))))
def zh:Wk X (Pj X.K):=by
 intro ac s Z H x v vl vu lo hi sl Q I rx hs pl pu h
 obtain⟨a,xs,e,hx,q1,q2⟩:=h
 by_cases hw:HT.ip xs.length 0 lo=0/\HT.ip xs.length xs.length hi=xs.length
 .subst e
  cases rx
  obtain⟨cF,r,ht,hz⟩:=I.tuple hx
  have hlen:cF.toArray.size=xs.length:=by rw[aH];exact r.length.symm
  refine⟨"tuple",_,cE.lookup,ht.typeIs,?_⟩
  exact HT.rM ht hs pl pu (by rw[hlen];exact hw) ⟨.ref a,H,I,rfl,q1 hw⟩
 .exact y4 ac s Z H x v vl vu lo hi sl Q I rx hs pl pu ⟨a,xs,e,hx,hw,q2 hw⟩
end
end L2
namespace HT
open PySem PyProof.Rows
def Cn (n:Nat):Builtin.Slice.sliceAdjust none none (-1) (n:Int)=((n:Int)-1,-1):=by
 unfold Builtin.Slice.sliceAdjust
 simp
def Co (n:Nat):Builtin.Slice.slicePlaces ((n:Int)-1) (-1) (-1)=n:=by
 unfold Builtin.Slice.slicePlaces
 simp
 omega
def filterMap_some {α β:Type}{f:α->Option β}{g:α->β}:∀{l:List α},(∀a∈l,f a=some (g a))->l.filterMap f=l.map g
 | [],_=>rfl
 |a::l,h=>by
  rw[iy,h a cj,bK,filterMap_some λb hb=>h b (cu _ hb)]
def Io (xs:Array ag):((List.range xs.size).filterMap λ(m:Nat)=>xs[(((xs.size:Nat):Int)-1+(m:Int)*(-1)).toNat]?).toArray=xs.toList.reverse.toArray:=by
 congr 1
 have:∀m∈List.range xs.size,(λ(m:Nat)=>xs[(((xs.size:Nat):Int)-1+(m:Int)*(-1)).toNat]?) m=some (xs.toList.reverse.getD m .none):=λm hm=>by
  have TH:=qc.mp hm
  have e:((((xs.size:Nat):Int)-1+(m:Int)*(-1)).toNat)=xs.size-1-m:=ω
  show xs[(((xs.size:Nat):Int)-1+(m:Int)*(-1)).toNat]?=_
  rw[e,Array.getElem?_eq_getElem ω]
  simp[List.getD,TH]
 rw[filterMap_some (g:=λm=>xs.toList.reverse.getD m .none) this]
 apply Fm
 .simp
 .intro i h1 h2
  have Pd:i<xs.size:=by simpa using h2
  simp[List.getD,Pd]
section
variable {prog:aM}{w:bB}{A:bG}{E:ag->aj->Prop}{s:aj}
def AE {n:Nat}(hs:s.heap.IsSliceOf sl .none .none vk) (pk:IsPart vk (some (-1))) (h:Q ((n:Int)-1,-1,n) s):wpAny (model prog w) A (Builtin.Slice.sliceApplied (.ref sl) (pure (n:Int))) Q E s:=by
 obtain⟨os,o1,o2,o3⟩:=id hs
 unfold Builtin.Slice.sliceApplied Builtin.Slice.sliceFields
 refine aa (aa (bL o1 o3 (x:=.none) rfl (aa (bL o1 o3 (x:=.none) rfl (aa (bL o1 o3 (x:=vk) rfl (ak ?_)))))))
 refine aa (qz pk ?_)
 refine(?_:wpAny _ _ (if((-1:Int)==0)=true then _ else _) _ _ s)
 rw[aO δ]
 refine aa (Nk (aa (Nk (aa (ak ?_)))))
 refine(?_:wpAny _ _ (match Builtin.Slice.sliceAdjust none none (-1) (n:Int) with|(lo,hi)=>pure (lo,(-1:Int),Builtin.Slice.slicePlaces lo hi (-1))) _ _ s)
 rw[Cn]
 refine(?_:wpAny _ _ (pure ((n:Int)-1,(-1:Int),Builtin.Slice.slicePlaces ((n:Int)-1) (-1) (-1))) _ _ s)
 rw[Co]
 exact ak h
def rN (ht:IsTup s.heap t items) (hs:s.heap.IsSliceOf sl .none .none vk) (pk:IsPart vk (some (-1)))
  (h:Q (.ref s.heap.objs.size) {s with heap:=s.heap.push {cls:=.type "tuple",data:=.seq items.toList.reverse.toArray}}) (hsz:items.size<=sizeLine):wpAny (model prog w) A (getItem (.ref t) (.ref sl)) Q E s:=by
 obtain⟨os,o1,o2,o3⟩:=id hs
 have RW:s.TypeIs (.ref sl) "slice":=⟨os,o1,o2⟩
 have fits:sizeOk (.seq items.toList.reverse.toArray):=by
  show items.toList.reverse.toArray.size<=sizeLine
  simpa using hsz
 unfold getItem
 try with_reducible refine cO ?_
 first|refine aa (ak ?_)|skip
 refine aa (KS ht.typeIs δ ?_)
 refine aa (cH (name:=Str.ofString "__getitem__") ht.typeIs cE
  (dQ cE ht.typeIs entry_tuple_getitem ?_ (args_tuple_getitem _ _)))
 show wpAny _ _ (Builtin.Tuple.tupleItemsOf (.ref t)>>=_) _ _ s
 refine aa (tupleItemsOf_ ht ?_)
 refine aa (rj RW ?_)
 rw[aQ δ]
 refine aa (AE hs pk ?_)
 show wpAny _ _ (if(((items.size:Int)-1)==0&&(-1:Int)==1&&items.size==items.size)=true then _ else _) _ _ s
 rw[aO ς,Io]
 first
  |exact aa (m:=Builtin.Tuple.tupleExact _) (bE (ak ⟨_,rfl,ak h⟩) fits)
  |exact aa (m:=Builtin.Tuple.tupleExact _) (bE (aa (ak (ak ⟨_,rfl,ak h⟩))) fits)
  |exact aa (aa (m:=Builtin.Tuple.tupleExact _) (bE (ak (ak ⟨_,rfl,ak h⟩)) fits))
  |exact aa (aa (m:=Builtin.Tuple.tupleExact _) (bE (ak ⟨_,rfl,ak h⟩) fits))
end
end HT
namespace L2
open PySem PySem.Spec PyProof.Rows
section
variable {X:Cx}
def cz.AF:∀{xs:List V}{us:List ag},cz xs us->cz xs.reverse us.reverse
 |_,_,.nil=>.nil
 |_,_,.cons r rs=>by
  rw[List.reverse_cons,List.reverse_cons]
  exact(cz.AF rs).append (.cons r .nil)
def Lu {e st:Expr}{te ts:TE}{p2 pos:Pos}(he:PE X e te) (Fw:PE X st ts) (Lo:∀v key:ag,∃ops,subscripted (.Slice none none (some st) p2) false v key=operate ops (getItem v key)):
  PE X (.Subscript e (.Slice none none (some st) p2) pos) (λZ H Q=>te Z H λx H1=>ts Z H1 λy H2=>∃a xs,x=.ref a/\y=.int (-1)/\bZ X.K H2 a xs/\∀p,H2 p=none->Q (.ref p) (upd H2 p (.tup xs.reverse))):=by
 intro ac s Z H Q I h
 refine Subscript_ (fq (he ac s Z H _ I h) λv s1 cZ=>?_)
 obtain⟨x,H1,I1,r1,q1⟩:=cZ
 refine wpAny_Slice ?_
 rw[evalPart_none,evalPart_some]
 refine ak (ak (fq (Fw ac s1 Z H1 _ I1 q1) λvk s2 cZ=>?_))
 obtain⟨y,H2,I2,r2,q2⟩:=cZ
 obtain⟨a,xs,rfl,rfl,hx,q⟩:=q2
 obtain⟨tk,rfl⟩:=(show∃t,vk=Value.int (-1) t from r2)
 cases(show v=Value.ref a from r1)
 have I3:Inv X ac Z H2 {s2 with heap:=s2.heap.push {cls:=.type "slice",data:=.fields #[.none,.none,.int (-1) tk]}}:=I2.kept (t':=s2.toks) λb ob q=>af _ q
 obtain⟨cF,r,ht,hz⟩:=I3.tuple hx
 have hlen:=r.length
 show wpAny (model X.prog X.w) X.A (subscriptTail e (.Slice none none (some st) p2) (.ref a) (.ref s2.heap.objs.size)) (EP X ac Z Q) X.xe {s2 with heap:=s2.heap.push {cls:=.type "slice",data:=.fields #[.none,.none,.int (-1) tk]}}
 obtain⟨ops,XY⟩:=Lo (.ref a) (.ref s2.heap.objs.size)
 refine tail_any (ops:=ops) ht.typeIs cE.lookup (HT.rN ht (Heap.IsSliceOf.new ..) (.int _ _) ?_ (by rw[aH];omega)) XY
 refine⟨.ref _,_,I3.laid (t':=s2.toks) (o:=.tup xs.reverse) (λb ob q=>af _ q) (ar _) ?_,rfl,q _ (I3.eN.fresh (ar _))⟩
 exact⟨by rw[List.length_reverse];exact hz,_,cz.AF r,vw.new _ _⟩
end
section
variable {prog:aM}{w:bB}{A:bG}{E:ag->aj->Prop}{s:aj}
def Ip {t:ai}{vs:List ag}{Q:List ag->aj->Prop}(zZ:s.heap.IsTuple t vs.toArray) (q:Q vs {s with heap:=(s.heap.push (seqObj "list" #[] 0)).update s.heap.objs.size (Obj.mapSeq (· ++vs.toArray))}) (AG:vs.length<=sizeLine):
  wpAny (model prog w) A (collect (.ref t)) Q E s:=by
 obtain⟨o,o1,o2,n,o3⟩:=id zZ
 unfold collect
 refine aa (wpAny_runValue (gD entry_proto_collect' ?_));show wpAny _ _ (do again (.builtin "list.__iadd__" ⟨[<-newList [],.ref t],[]⟩)) _ _ s
 refine aa (G8 (ak ⟨Ho _ (by decide+kernel),gD entry_list_iadd' ?_⟩));show wpAny _ _ (Builtin.List.listExtendWith (.ref s.heap.objs.size) (.ref t) (.ref s.heap.objs.size)) _ _ {s with heap:=s.heap.push (seqObj "list" #[] 0)}
 unfold Builtin.List.listExtendWith
 have u1:(s.heap.push (seqObj "list" #[] 0)).get? t=some o:=af _ o1
 refine aa (rj (T:="tuple") ⟨o,u1,o2⟩ ?_);rw[aQ ς]
 refine aa (listItems_at u1 o3 ?_);refine aa (listItems_at (xs:=#[]) (n:=0) (az _ rfl) rfl ?_)
 rw[aO ς];refine aa (Ss (xs:=#[]) (n:=0) (az _ rfl) rfl (ak ?_) (de _) (by show(#[]++vs.toArray).size<=sizeLine+1;simp only[Array.size_append,aH,i_];omega))
 refine(?_:wpAny (model prog w) A (load s.heap.objs.size>>=_) Q E {s with heap:=(s.heap.push (seqObj "list" #[] 0)).update s.heap.objs.size (Obj.mapSeq (· ++vs.toArray))});refine aa (wpAny_load (get?_update_seq (az _ rfl) _) ?_)
 refine(?_:wpAny _ _ (pure ((#[]:Array ag)++vs.toArray).toList) Q E _)
 rw[show((#[]:Array ag)++vs.toArray).toList=vs by simp];exact ak q
end
section
variable {X:Cx}
end
section
variable {κ:Type} [DecidableEq κ]
def mD (dO:List (κ×V)) (k:κ):Option V:=(dO.find? λkv=>decide (kv.1=k)).map (·.2)
def putK (dO:List (κ×V)) (k:κ) (v:V):List (κ×V):=
 if(dO.any λkv=>decide (kv.1=k))=true then dO.map (λkv=>if kv.1=k then(kv.1,v) else kv) else dO++ [(k,v)]
def vN {p:κ×V}{r:List (κ×V)}{k:κ}(e:p.1=k):mD (p::r) k=some p.2:=by simp[mD,kC,e]
def vO {p:κ×V}{r:List (κ×V)}{k:κ}(e:¬p.1=k):mD (p::r) k=mD r k:=by simp[mD,kC,e]
def AH (k:κ):∀dO:List (κ×V),(dO.any λkv=>decide (kv.1=k))=(mD dO k).isSome
 | []=>rfl
 |p::r=>by
  rw[kj]
  by_cases e:p.1=k
  .simp only[vN e,aI e,Bool.true_or,Option.isSome_some]
  .rw[vO e,bD e,Bool.false_or];exact AH k r
def oX (dO:List (κ×V)) (k:κ) (v:V):(putK dO k v).length<=dO.length+1:=by
 unfold putK
 split
 .rw[aq];omega
 .rw[aK,cI,i_];omega
def oo.F3 (r:oo o u):o.isSome=u.isSome:=by
 cases o with
 |none=>cases u with
  |none=>rfl
  |some _=>exact(show False from r).elim
 |some _=>cases u with
  |none=>exact(show False from r).elim
  |some _=>rfl
def KV.val {dO:List (κ×V)}{vs:List (κ×ag)}(r:KV dO vs) (k:κ):oo (mD dO k) (valueAt vs k):=by
 unfold KV at r
 induction r with
 |nil=>exact True.intro
 | @cons p q ps qs h t ih=>
  obtain⟨h1,h2⟩:=h
  by_cases e:p.1=k
  .have e':q.1=k:=h1.symm.trans e
   have b:valueAt (q::qs) k=some q.2:=by simp[valueAt,kC,e']
   rw[vN e,b];exact h2
  .have e':¬q.1=k:=λz=>e (h1.trans z)
   have b:valueAt (q::qs) k=valueAt qs k:=by simp[valueAt,kC,e']
   rw[vO e,b];exact ih
def KV.any {dO:List (κ×V)}{vs:List (κ×ag)}(r:KV dO vs) (k:κ):(dO.any λkv=>decide (kv.1=k))=vs.any λkv=>decide (kv.1=k):=by
 unfold KV at r
 induction r with
 |nil=>rfl
 |cons h t ih=>rw[kj,kj,ih,h.1]
def KV.Pk {dO:List (κ×V)}{vs:List (κ×ag)}(r:KV dO vs) (k:κ) {y:V}{u:ag}(ry:RelV y u):
  KV (dO.map λkv=>if kv.1=k then(kv.1,y) else kv) (vs.map λkv=>if kv.1=k then(kv.1,u) else kv):=by
 unfold KV at r⊢
 induction r with
 |nil=>exact .nil
 | @cons p q ps qs h t ih=>
  rw[bK,bK]
  refine .cons ?_ ih
  obtain⟨h1,h2⟩:=h
  by_cases e:p.1=k
  .rw[aQ e,aQ (h1.symm.trans e)];exact⟨h1,ry⟩
  .rw[aO e,aO (λz=>e (h1.trans z))];exact⟨h1,h2⟩
def KV.put {dO:List (κ×V)}{vs:List (κ×ag)}(r:KV dO vs) (k:κ) {y:V}{u:ag}(ry:RelV y u):KV (putK dO k y) (stored vs k u):=by
 unfold putK stored
 rw[r.any k]
 by_cases e:(vs.any λkv=>decide (kv.1=k))=true
 .rw[aQ e,aQ e];exact r.Pk k ry
 .rw[aO e,aO e];exact dU r ⟨rfl,ry⟩
def KV.length {dO:List (κ×V)}{vs:List (κ×ag)}(r:KV dO vs):dO.length=vs.length:=pN r
end
def EA (r:RelV (kV k) u):(gz P w).is k u=true:=by
 cases k with
 |inl i=>obtain rfl:=(show u=Value.bool i from r);exact yJ P w i
 |inr x=>obtain⟨t,e⟩:=(show∃t,u=Value.str x t from r);subst e;exact Aj P w x t
def yj:∀{ks:List Key}{us:List ag},cz (ks.map kV) us->ItemsAre (gz P w) ks us
 | [],_,r=>by rw[oK] at r;cases r;exact .nil
 |k::ks,_,r=>by
  rw[bK] at r
  cases r with
  |cons h t=>exact .cons (EA h) (yj t)
abbrev KT (H:Hp):List (List Key×V)->List (List Key×ai×ag)->Prop:=Paired λp q=>p.1=q.1/\H q.2.1=some (.tup (p.1.map kV))/\RelV p.2 q.2.2
def KT.val (r:KT H dO xs) (k:List Key):oo (mD dO k) ((atKey xs k).map (·.2)):=by
 induction r with
 |nil=>exact True.intro
 | @cons p q ps qs h t ih=>
  obtain⟨h1,_,h2⟩:=h
  by_cases e:p.1=k
  .have e':q.1=k:=h1.symm.trans e
   have b:atKey (q::qs) k=some q.2:=by simp[atKey,kC,e']
   rw[vN e,b];exact h2
  .have e':¬q.1=k:=λz=>e (h1.trans z)
   have b:atKey (q::qs) k=atKey qs k:=by simp[atKey,kC,e']
   rw[vO e,b];exact ih
def KT.Pk (r:KT H dO xs) (k:List Key) (ry:RelV y u):
  KT H (dO.map λkv=>if kv.1=k then(kv.1,y) else kv) (xs.map (putAt k u)):=by
 induction r with
 |nil=>exact .nil
 | @cons p q ps qs h t ih=>
  rw[bK,bK]
  refine .cons ?_ ih
  obtain⟨h1,h2,h3⟩:=h
  unfold putAt
  by_cases e:p.1=k
  .rw[aQ e,aQ (h1.symm.trans e)];exact⟨h1,h2,ry⟩
  .rw[aO e,aO (λz=>e (h1.trans z))];exact⟨h1,h2,h3⟩
def KT.put (r:KT H dO xs) (k:List Key) (hb:H b=some (.tup (k.map kV))) (ry:RelV y u):
  KT H (putK dO k y) (storedH xs k b u):=by
 have e:(dO.any λkv=>decide (kv.1=k))=(atKey xs k).isSome:=by
  rw[AH,(r.val k).F3,Option.isSome_map]
 unfold putK storedH
 rw[e]
 by_cases q:(atKey xs k).isSome=true
 .rw[aQ q,aQ q];exact r.Pk k ry
 .rw[aO q,aO q];exact dU r ⟨rfl,hb,ry⟩
def KT.keeps (r:KT H dO xs) (ht:∀b ys,H b=some (.tup ys)->H' b=some (.tup ys)):KT H' dO xs:=
 Paired.Sz r λ_ _ z=>⟨z.1,ht _ _ z.2.1,z.2.2⟩
section
variable {P:aM}{w:bB}{H:Hp}{h:Heap}{a:ai}
def NA (ok:qi P w H h) (e:Rd H a u):fV P w H h a u:=e.ok ok
def Iq (ok:qi P w H h) (e:Rd H a (.dK dO)):dO.length<=sizeLine/\(a==sysModules)=false/\∃vs,KV dO vs/\h.DictOf (gz P w) a vs:=
 show fV P w H h a (.dK dO) from NA ok e
def NB (ok:qi P w H h) (e:H a=some (.dK dO)):dO.length<=sizeLine/\(a==sysModules)=false/\∃vs,KV dO vs/\h.DictOf (gz P w) a vs:=Iq ok (.inl e)
def Cp {ks:List Key}(ok:qi P w H h) (e:H a=some (.tup (ks.map kV))):(tupleKind (gz P w)).is h ks a:=by
 obtain⟨_,cF,r,o,h1,h2,_,n,h3⟩:=(show fV P w H h a (.tup (ks.map kV)) from ok a _ e)
 exact⟨o,cF.toArray,n,h1,h2,h3,by simpa using yj r⟩
def Ir (ok:qi P w H h) (e:Rd H a (.dT dO)):dO.length<=sizeLine/\(a==sysModules)=false/\
  ∃xs,KT H dO xs/\h.DictOfH (tupleKind (gz P w)) a xs:=by
 obtain⟨z,y,xs,r,o,es,ep,h1,h2,h3,h4,h5⟩:=(show fV P w H h a (.dT dO) from NA ok e)
 refine⟨z,y,xs,r,o,es,ep,h1,h2,h3,h4,λx hx=>?_,h5⟩
 have all:∀{l:List (List Key×V)} {m:List (List Key×ai×ag)},KT H l m->∀x∈m,(tupleKind (gz P w)).is h x.1 x.2.1:=by
  intro l m q
  induction q with
  |nil=>intro x hx;exact nomatch hx
  | @cons p q ps qs hq t ih=>
   intro x hx
   rcases aD.mp hx with e|hx
   .subst e
    exact Cp ok (by rw[<-hq.1];exact hq.2.1)
   .exact ih x hx
 exact all r x hx
def TJ (ok:qi P w H h) (e:H a=some (.dT dO)):dO.length<=sizeLine/\(a==sysModules)=false/\
  ∃xs,KT H dO xs/\h.DictOfH (tupleKind (gz P w)) a xs:=Ir ok (.inl e)
end
def h_ (H:Hp) (a:ai) (y:V) (r:Option V):Prop:=
 (∃dO k,Rd H a (.dK dO)/\y=kV k/\r=mD dO k)\/∃dO k b,Rd H a (.dT dO)/\y=.ref b/\H b=some (.tup (k.map kV))/\r=mD dO k
def Cq (H:Hp) (a:ai) (y v:V) (H':Hp):Prop:=
 (∃dO k,H a=some (.dK dO)/\y=kV k/\dO.length<sizeLine/\H'=upd H a (.dK (putK dO k v)))\/
 ∃dO k b,H a=some (.dT dO)/\y=.ref b/\H b=some (.tup (k.map kV))/\dO.length<sizeLine/\H'=upd H a (.dT (putK dO k v))
def h_.k {k:Key}(e:H a=some (.dK dO)):h_ H a (kV k) (mD dO k):=.inl ⟨dO,k,.inl e,rfl,rfl⟩
def Cq.k {k:Key}(e:H a=some (.dK dO)) (hl:dO.length<sizeLine):Cq H a (kV k) v (upd H a (.dK (putK dO k v))):=.inl ⟨dO,k,e,rfl,hl,rfl⟩
section
variable {X:Cx}{ac:List (ai×Obj)}{Z:St}{H:Hp}{s:aj}{a:ai}{y v:V}{u r:ag}{o:Option V}{A:bG}{E:ag->aj->Prop}
def Inv.big (I:Inv X ac Z H s):sysModules<s.heap.objs.size:=by
 have h:mainGlobals<s.heap.objs.size:=(I.mod.glob.keeps I.bk).lt
 exact gy δ h
def F5 {Q:ag->aj->Prop}(hu:A.units+1<cLine) (I:Inv X ac Z H s) (g:h_ H a y (some v)) (ry:RelV y u) (h:∀w' s',Inv X ac Z H s'->RelV v w'->Q w' s'):
  wpAny (model X.prog X.w) A (getItem (.ref a) u) Q E s:=by
 rcases g with⟨dO,k,e,ey,l⟩|⟨dO,k,b,e,ey,eb,l⟩
 .subst ey
  obtain⟨z,hd,vs,rel,dd⟩:=Iq I.eN e
  obtain⟨w',hw,Fx⟩:=oo.some_of (v:=v) (o:=valueAt vs k) (by rw[l];exact rel.val k)
  exact wpAny_getItem_of (EA ry) dd.mapOf hw (h w' _ (I.tok _) Fx)
 .subst ey
  cases(show u=Value.ref b from ry)
  obtain⟨z,hd,xs,rel,dd⟩:=Ir I.eN e
  obtain⟨w',hw,Fx⟩:=oo.some_of (v:=v) (o:=(atKey xs k).map (·.2)) (by rw[l];exact rel.val k)
  obtain⟨p,hp,Pl⟩:=Su.mp hw
  refine wpAny_getItem_heap (tupleKind_room_in1 hu) (Cp I.eN eb) dd hp ?_
  rw[Pl]
  exact h w' _ (I.tok _) Fx
def zi {h':Heap}{t':Nat}{ob:HO}(I:Inv X ac Z H s) (mu:SA (H a)) (hs:Heap.SameBut a s.heap h') (he:∃q,h'.get? a=some q) (new:fV X.prog X.w (upd H a ob) h' a ob):
  Inv X ac Z (upd H a ob) {s with heap:=h',toks:=t'}:=
 I.write (x:=a) (e:=a) mu (.inl rfl) (λb q hb z=>(hs.2 b hb).trans z) he new
def Iu (z:dO.length<=sizeLine) (hd:(a==sysModules)=false) (rel:KV dO vs) (dd:h'.DictOf (gz P w) a vs):
  fV P w H' h' a (.dK dO):=⟨z,hd,vs,rel,dd⟩
def F6 {H':Hp}{Q:Unit->aj->Prop}(hu:A.units+1<cLine) (I:Inv X ac Z H s) (g:Cq H a y v H') (ry:RelV y u) (rv:RelV v r) (h:∀s',Inv X ac Z H' s'->Q () s'):
  wpAny (model X.prog X.w) A (setItem (.ref a) u r) Q E s:=by
 rcases g with⟨dO,k,e,ey,l,eH⟩|⟨dO,k,b,e,ey,eb,l,eH⟩
 .subst ey eH
  obtain⟨z,hd,vs,rel,dd⟩:=NB I.eN e
  have hz:vs.length<=sizeLine:=by rw[<-rel.length];exact z
  have hl:(putK dO k v).length<=sizeLine:=by have:=oX dO k v;omega
  refine wpAny_setItem_pairs (hsz:=hz) (EA ry) dd λh' Pm hs=>h _ ?_
  have he:∃q,h'.get? a=some q:=let⟨q,_,_,hq,_⟩:=Pm;⟨q,hq⟩
  exact zi I (by rw[e];exact True.intro) hs he (Iu hl hd (rel.put k rv) Pm)
 .subst ey eH
  cases(show u=Value.ref b from ry)
  obtain⟨z,hd,xs,rel,dd⟩:=TJ I.eN e
  have hz:xs.length<=sizeLine:=by rw[<-pN rel];exact z
  have hl:(putK dO k v).length<=sizeLine:=by have:=oX dO k v;omega
  refine wpAny_setItem_heap (hsz:=hz) (tupleKind_room_in1 hu) (Cp I.eN eb) dd λh' Pm hs=>h _ ?_
  obtain⟨q,es,ep,hq,h2,h3,h4,_,h5⟩:=Pm
  refine zi I (by rw[e];exact True.intro) hs ⟨q,hq⟩ ⟨hl,hd,_,(rel.put k eb rv).keeps λc ys ec=>?_,q,es,ep,hq,h2,h3,h4,h5⟩
  rw[aV (xQ ec e (λz=>nomatch z))]
  exact ec
end
section
variable {X:Cx}{ac:List (ai×Obj)}{Z:St}{H:Hp}{s:aj}{a:ai}{dO:List (Key×V)}{k:Key}{u:ag}{A:bG}{E:ag->aj->Prop}
end
def TK (i:Expr):Prop:=∀ov iv,subscripted i false ov iv=operate [ov,iv] (getItem ov iv)
def Lv {T id:String}
  (hl:typeLookup (.type T) "__getitem__"=pure (some (.builtin id))) (hs:TK slice)
  (h:wpAny (model prog w) A (eval value env) (λo fh=>wpAny (model prog w) A (eval slice env) (λi sY=>sY.TypeIs o T/\wpAny (model prog w) A (getItem o i) Q E sY) E fh) E s):
  wpAny (model prog w) A (eval (.Subscript value slice pos) env) Q E s:=by
 refine Subscript_ (bM h (λo fh FQ=>bM FQ (λi sY HY=>?_) λ_ _ x=>x) λ_ _ x=>x)
 obtain⟨hT,HY⟩:=HY
 unfold subscriptTail
 refine aa ?_
 rw[getitemInPython_of_ne hT.not_modules]
 refine aa (wpAny_specialOf hT hl ?_)
 have fin:wpAny (model prog w) A (subscripted slice false o i) (λr FP=>wpAny (model prog w) A (letTemporaryGo value o r>>=λ_=>pure r) Q E FP) E sY:=by
  rw[hs o i]
  exact wpAny_operating (bM HY (λr FP Lj=>aa (wpAny_letTemporaryGo (ak Lj))) λ_ _ x=>x)
 first
  |exact ak (aa fin)
  |exact aa (ak (aa fin))
  |exact aa fin
def AI (I:Inv X ac Z H s) (g:h_ H a y o):s.TypeIs (.ref a) "dict":=by
 rcases g with⟨dO,k,e,_,_⟩|⟨dO,k,b,e,_,_,_⟩
 .obtain⟨_,_,vs,_,dd⟩:=Iq I.eN e
  exact dd.typeIs
 .obtain⟨_,_,xs,_,dd⟩:=Ir I.eN e
  exact dd.typeIs
def TL (td ty:TE):TE:=λZ H Q=>td Z H λx H1=>ty Z H1 λy H2=>∃a v,x=.ref a/\h_ H2 a y (some v)/\Q v H2
section
variable {X:Cx}{o i e value:Expr}{pos pos' Xm:Pos}{td ty tv:TE}
def eM (hu:X.A.units+1<cLine) (ho:PE X o td) (hi:PE X i ty) (hs:TK i:=by intro _ _;rfl):PE X (.Subscript o i pos) (TL td ty):=by
 intro ac s Z H Q I h
 refine Lv PySem.F.slot_dict_getitem.lookup hs (fq (ho ac s Z H _ I h) λu s1 cZ=>?_)
 obtain⟨x,H1,I1,rx,q1⟩:=cZ
 refine fq (hi ac s1 Z H1 _ I1 q1) λiv s2 Ao=>?_
 obtain⟨y,H2,I2,ry,a,v,ex,g,q2⟩:=Ao
 subst ex
 obtain rfl:u=Value.ref a:=rx
 exact⟨AI I2 g,F5 hu I2 g ry λw' s3 I3 Fx=>⟨v,H2,I3,Fx,q2⟩⟩
end
def Iw (h:Heap) (hb:sysModules<h.objs.size):fV P w H (h.push {cls:=.type "dict",data:=.dict #[]}) h.objs.size (.dK []):=
 ⟨de _,ot.mpr (cD (ba hb)),[],.nil,Heap.DictOf.new h⟩
section
variable {X:Cx}{pos:Pos}
end
def Cr:List (TE×TE)->St->Hp->(List (V×V)->Hp->Prop)->Prop
 | [],_,H,Q=>Q [] H
 |(tk,tv)::r,Z,H,Q=>tk Z H λx H1=>tv Z H1 λy H2=>Cr r Z H2 λps H3=>Q ((x,y)::ps) H3
abbrev VV:List (V×V)->List (ag×ag)->Prop:=Paired λp q=>RelV p.1 q.1/\RelV p.2 q.2
def Wm (X:Cx) (pos:Pos) (keys:List (Option Expr)) (values:List Expr) (Pn:List (TE×TE)):Prop:=
 ∀(ac:List (ai×Obj)) (s:aj) (Z:St) (H:Hp) (Q:List (V×V)->Hp->Prop),Inv X ac Z H s->Cr Pn Z H Q->
  wpAny (model X.prog X.w) X.A (evalPairs (pairTrees keys values X.env pos)) (λvs s'=>∃ps H',Inv X ac Z H' s'/\VV ps vs/\Q ps H') X.xe s
def Lx:Wm X pos [] [] []:=λac s Z H Q I h=>pairTrees_nil_walk ⟨[],H,I,.nil,h⟩
def oZ (hk:PE X k tk) (hv:PE X v tv) (hr:Wm X pos ks vs Pn):
  Wm X pos (some k::ks) (v::vs) ((tk,tv)::Pn):=λac s Z H Q I h=>
 pairTrees_cons_walk (fq (hk ac s Z H _ I h) λu s1 ⟨x,H1,I1,rx,q1⟩=>fq (hv ac s1 Z H1 _ I1 q1) λw2 s2 ⟨y,H2,I2,ry,q2⟩=>
  fq (hr ac s2 Z H2 _ I2 q2) λws s3 ⟨ps,H3,I3,rel,q3⟩=>⟨(x,y)::ps,H3,I3,.cons ⟨rx,ry⟩ rel,q3⟩)
def qK (dO more:List (Key×V)):List (Key×V):=more.foldl (λacc kv=>putK acc kv.1 kv.2) dO
def KV.merge:∀{more:List (Key×V)}{rs:List (Key×ag)}{dO:List (Key×V)}{vs:List (Key×ag)},KV more rs->KV dO vs->KV (qK dO more) (merged vs rs):=by
 intro more rs dO vs r
 unfold KV at r
 induction r generalizing dO vs with
 |nil=>intro q;exact q
 | @cons p q ps qs h t ih=>
  intro r0
  have e:KV (putK dO p.1 p.2) (stored vs q.1 q.2):=by
   have:=r0.put p.1 h.2
   rw[<-h.1];exact this
  exact ih e
def qo:∀(more dO:List (Key×V)),(qK dO more).length<=dO.length+more.length
 | [],dO=>by show dO.length<=dO.length+0;omega
 |p::r,dO=>by
  have h1:=qo r (putK dO p.1 p.2)
  have h2:=oX dO p.1 p.2
  show(qK (putK dO p.1 p.2) r).length<=_
  rw[cI];omega
def vP:∀{dO:List (Key×V)}{ws:List (ag×ag)},VV (dO.map λkv=>(kV kv.1,kv.2)) ws->∃rs,Carries (gz P w) ws rs/\KV dO rs
 | [],_,r=>by rw[oK] at r;cases r;exact⟨[],True.intro,.nil⟩
 |p::dO,_,r=>by
  rw[bK] at r
  cases r with
  | @cons a b as bs h t=>
   obtain⟨rs,c,q⟩:=vP (P:=P) (w:=w) t
   obtain⟨b1,b2⟩:=b
   exact⟨(p.1,b2)::rs,⟨EA h.1,rfl,c⟩,.cons ⟨rfl,h.2⟩ q⟩
def TM (Pn:List (TE×TE)):TE:=λZ H Q=>∀p,H p=none->Cr Pn Z (upd H p (.dK [])) λps H2=>H2 p=some (.dK [])/\∃dO:List (Key×V),ps=dO.map (λkv=>(kV kv.1,kv.2))/\dO.length<=15/\Q (.ref p) (upd H2 p (.dK (qK [] dO)))
def Ly (h:Wm X pos keys values Pn) (O_:keys.all (·.isSome)=true) (hl:keys.length=values.length) (h0:keys≠[])
  (h15:keys.length<=15):PE X (.Dict keys values pos) (TM Pn):=by
 intro ac s Z H Q I q
 have hn:=I.eN.fresh (ar s.heap.objs.size)
 have I1:=I.laid (a:=s.heap.objs.size) (o:=.dK []) (h':=s.heap.push {cls:=.type "dict",data:=.dict #[]}) (t':=s.toks) (λ_ _ q=>af _ q) (ar _) (Iw s.heap I.big)
 refine wpAny_Dict_walk (knd:=gz X.prog X.w) O_ hl h0 h15 (fq (h ac _ Z _ _ I1 (q _ hn)) λws s2 cZ=>?_)
 obtain⟨ps,H2,I2,rel,e,dO,ep,lk,q2⟩:=cZ
 subst ep
 obtain⟨rs,c,rk⟩:=vP (P:=X.prog) (w:=X.w) rel
 obtain⟨z,hd,vs0,r0,dd⟩:=NB I2.eN e
 cases r0
 refine⟨rs,c,dd,λh' Pm hs=>⟨.ref s.heap.objs.size,_,?_,rfl,q2⟩⟩
 have hz:(qK [] dO).length<=sizeLine:=by
  have h1:=qo dO []
  rw[i_] at h1
  rw[gX];omega
 have he:∃q,h'.get? s.heap.objs.size=some q:=let⟨q,_,_,hq,_⟩:=Pm;⟨q,hq⟩
 exact zi I2 (by rw[e];exact True.intro) hs he (Iu hz hd (rk.merge .nil) Pm)
structure M1 (X:Cx) (o:Expr) (m:Str) (apos:Pos) (e:Expr) (jS:Pos):Prop where
 base:attributeBase o m X.env (eval o X.env)=eval o X.env
 few:((backTo jS (starEach [e] X.env)).all (λx=>!x.1)&&(backToKw jS (keywordEach [] X.env)).all (λx=>x.1.isSome)
  &&decide (([e]:List Expr).length+([]:List Keyword).length+(if([]:List Keyword).isEmpty then 0 else 1)<30))=true
 line:(apos.endLine==jS.line)=true
 trees:backTo jS (starEach [e] X.env)=[(false,eval e X.env)]
structure M2 (X:Cx) (o:Expr) (m:Str) (apos:Pos) (e f:Expr) (jS:Pos):Prop where
 base:attributeBase o m X.env (eval o X.env)=eval o X.env
 few:((backTo jS (starEach [e,f] X.env)).all (λx=>!x.1)&&(backToKw jS (keywordEach [] X.env)).all (λx=>x.1.isSome)
  &&decide (([e,f]:List Expr).length+([]:List Keyword).length+(if([]:List Keyword).isEmpty then 0 else 1)<30))=true
 line:(apos.endLine==jS.line)=true
 trees:backTo jS (starEach [e,f] X.env)=[(false,eval e X.env),(false,eval f X.env)]
section
variable {X:Cx}{ac:List (ai×Obj)}{Z:St}{H:Hp}{s:aj}{a:ai}{y d:V}{u r:ag}{o:Option V}{A:bG}{E:ag->aj->Prop}
end
section
variable {X:Cx}{o e f:Expr}{apos jS:Pos}{td ty tx:TE}
end
section
variable {X:Cx}{ac:List (ai×Obj)}{Z:St}{H:Hp}{s:aj}{a:ai}{dO:List (Key×V)}{A:bG}{E:ag->aj->Prop}
end
section
variable {X:Cx}{ac:List (ai×Obj)}{Z:St}{H:Hp}{s:aj}{a:ai}{y:V}{u:ag}{A:bG}{E:ag->aj->Prop}
end
end L2
namespace HT
open PySem PySem.Spec PyProof.Rows
section
variable {prog:aM}{w:bB}{A:bG}{E:ag->aj->Prop}{s:aj}{d c:ai}{es:Array DictEntry}{ep i:Nat}
end
end HT
namespace L2
open PySem PySem.Spec PyProof.Rows
section
variable {X:Cx}{ac:List (ai×Obj)}{Z:St}{H:Hp}{s:aj}
end
section
variable {X:Cx}
end
section
variable {prog:aM}{w:bB}{A:bG}{E:ag->aj->Prop}{s:aj}
def AJ (t:ai) (o:Obj) (vs:Array ag) (n:Nat) (hc:o.cls=.type "list") (hd:o.data=.seq vs n):
  Meets (Builtin.«enumerate.__new__» ⟨[.type "enumerate",.ref t],[]⟩) (λ_ R s=>s.heap.get? t=some o/\
   R (.ok (.ret (.ref (s.heap.push {cls:=.type "list_iterator",data:=.fields #[.ref t,.int 0 0]}).objs.size)))
    {s with heap:=(s.heap.push {cls:=.type "list_iterator",data:=.fields #[.ref t,.int 0 0]}).push {cls:=.type "enumerate",data:=.fields #[.none,.bool false,.ref s.heap.objs.size,rawInt 0,.none,.none]}}):=
 .of_wp λprog w A R s h=>by
  obtain⟨hp,g,d,tk,os⟩:=s
  obtain⟨qm,h⟩:=h
  have Lo:=sub_enumerate
  have zZ:Heap.IsList (Shared.heap ⟨hp,g,d,tk,os⟩) t vs:=⟨_,qm,hc,n,hd⟩
  obtain⟨oc,od,TN,vE⟩:=o
  cases(show oc=Value.type "list" from hc)
  cases(show TN=Data.seq vs n from hd)
  wp_walk using vm qm
  refine wpAny_stack_any λst=>ak ?_
  split
  .rename_i c _ _ _ _ _
   cases(c==Value.type "enumerate")<;>(wp_walk using vm qm,iE zZ;exact⟨_,rfl,h⟩)
  .wp_walk using vm qm,iE zZ
   exact⟨_,rfl,h⟩
def Ct (zZ:s.heap.IsList t vs)
  (q:∀h',IsEnum h' (s.heap.objs.size+1) s.heap.objs.size 0 .none->h'.IsListIter s.heap.objs.size t 0->(∀b o,s.heap.get? b=some o->h'.get? b=some o)->Q (.ref (s.heap.objs.size+1)) {s with heap:=h'}):
  wpAny (model prog w) A (call (.type "enumerate") [.ref t]) Q E s:=by
 obtain⟨o,qm,hc,n,hd⟩:=zZ
 refine callType_new F.called_enumerate δ (F.typeCall_enumerate_1 _) (F.newCall_enumerate_1 _) (λobj=>F.args_object_init_2 obj _) F.entry_enumerate_new (AJ t o vs n hc hd) ⟨qm,?_⟩
 have sz:(s.heap.push {cls:=.type "list_iterator",data:=.fields #[.ref t,.int 0 0]}).objs.size=s.heap.objs.size+1:=cf ..
 refine(?_:_/\_)
 rw[sz]
 have TQ:IsEnum ((s.heap.push {cls:=.type "list_iterator",data:=.fields #[.ref t,.int 0 0]}).push {cls:=.type "enumerate",data:=.fields #[.none,.bool false,.ref s.heap.objs.size,rawInt 0,.none,.none]}) (s.heap.objs.size+1) s.heap.objs.size 0 .none:=by
  rw[<-sz]
  exact az _ rfl
 exact⟨⟨_,TQ,rfl⟩,q _ TQ ⟨_,af _ (az _ rfl),rfl,rfl⟩ λb o e=>af _ (af _ e)⟩
end
def TR (K:Φ) (a:ai):It:=⟨λi H=>∃xs x,cT K H a xs/\xs[i]?=some x,λi H y H'=>∃T x,H T=none/\y=.ref T/\H'=upd H T (.tup [.int i,x])/\∀xs,cT K H a xs->xs[i]?=some x,λi H=>∃xs,cT K H a xs/\i=xs.length⟩
def Cu {P:aM}{w:bB}{K:Φ}{elts:List Expr}{kk:Nat}{tp:Pos}(a e it:ai) (XZ:e≠it):Turn P w K (.Tuple elts kk tp) (TR K a) [e,it] e (λi h=>(∃old,IsEnum h e it i old)/\h.IsListIter it a i) where
 mem:=ς
 obj:=λi h st b hb=>by
  obtain⟨⟨old,e1⟩,⟨o,o1,o2,o3⟩⟩:=st
  simp only[aD,aN,cy] at hb
  rcases hb with rfl|rfl
  .exact⟨_,e1,λv z=>by
    have z':Data.fields _=Data.cell v:=z
    cases z'⟩
  .exact⟨o,o1,λv z=>by rw[o3] at z;cases z⟩
 keep:=λi h h' st kp=>by
  obtain⟨⟨old,e1⟩,⟨o,o1,o2⟩⟩:=st
  exact⟨⟨old,kp e ς _ e1⟩,⟨o,kp it ς o o1,o2⟩⟩
 item:=by
  intro X hP hw hK hc i ac s Z H E I hf st hg
  subst hP hw hK
  obtain⟨xs,x,hq,hx⟩:=hg
  obtain⟨cF,rv,p,hz⟩:=I.list hq
  obtain⟨u,hu,ru⟩:=rv.get hx
  obtain⟨⟨old,e1⟩,Bx⟩:=st
  obtain⟨jo,j1,j2,j3⟩:=id Bx
  have p':s.heap.IsList a cF.toArray:=p.isList
  obtain⟨to,t1,t2,_⟩:=id p'
  have RO:a≠it:=λz=>by
   rw[z,j1] at t1;cases t1
   rw[j2] at t2
   exact absurd t2 δ
  have nea:e≠a:=λz=>by
   rw[<-z,e1] at t1;cases t1
   exact absurd (show Value.type "enumerate"=Value.type "list" from t2) δ
  have lt:∀b∈[e,it],b<s.heap.objs.size:=λb hb=>by
   simp only[aD,aN,cy] at hb
   rcases hb with rfl|rfl
   .exact aC e1
   .exact aC j1
  have NC:i<cF.length:=(br.mp hu).1
  refine wpAny_pyNext_enum_itemD (Draws.list (A:=X.A.in1) (I.ok.hd hc) it a RO cF.toArray) e1 ⟨Bx,p'⟩ (by simpa using NC) XZ (by simp[XZ,nea]) λx' h' tk hP ho hs' hT hsz hk=>?_
  have ex:x'=u:=by
   have:cF[i]?=some x':=by simpa using hP
   rw[hu] at this;exact(cM this).symm
  subst ex
  refine⟨_,rfl,wpAny_letOwnedTupleGo_enum ho λh2 X0 Lr=>?_⟩
  have nT:s.heap.objs.size≠e:=g_ (lt e ς)
  obtain⟨f1,f2,f3⟩:=I.out (h':=h2) (t':=tk+1) (xs:=[.int i,x]) (us:=[.int i tk,x']) hf lt (.cons ⟨tk,rfl⟩ (.cons ru .nil)) (dP)
   (λb o hb q=>(Lr.2 b (λz=>hb (by simp[z]))).trans (hk b o (λz=>hb (by simp[z])) (λz=>hb (by simp[z])) q)) ((Lr.2 _ nT).trans hT)
  obtain⟨⟨io,i1,i2⟩,_⟩:=hs'
  exact⟨.ref s.heap.objs.size,_,f2,rfl,⟨_,x,f1,rfl,rfl,λys hy=>by rw[I.rz hy hq];exact hx⟩,⟨⟨x',by simpa using X0⟩,⟨io,(Lr.2 it XZ.symm).trans i1,i2⟩⟩,f3⟩
 done:=by
  intro X hP hw hK hc i ac s Z H E I hf st hg
  subst hP hw hK
  obtain⟨xs,hq,hx⟩:=hg
  obtain⟨cF,rv,p,hz⟩:=I.list hq
  obtain⟨⟨old,e1⟩,Bx⟩:=st
  obtain⟨jo,j1,j2,j3⟩:=id Bx
  have p':s.heap.IsList a cF.toArray:=p.isList
  obtain⟨to,t1,t2,_⟩:=id p'
  have RO:a≠it:=λz=>by
   rw[z,j1] at t1;cases t1
   rw[j2] at t2
   exact absurd t2 δ
  have hl:=rv.length
  have ei:i=cF.toArray.size:=by rw[aH];omega
  refine wpAny_pyNext_enum_endD (Draws.list (A:=X.A.in1) (I.ok.hd hc) it a RO cF.toArray) e1 (by rw[<-ei];exact⟨Bx,p'⟩) λh' eb=>⟨rfl,I.uU (t':=s.toks) hf λb o hb q=>eb b o (λz=>hb (by simp[z])) q⟩
 self:=λ_ _ _ _ _ st q=>by
  obtain⟨⟨old,e1⟩,_⟩:=st
  exact wpAny_pyIter_enum e1 q
def Po (K:Φ) (ta:TA):TI:=λZ H R=>ta Z H λvs H1=>∃a,vs=[.ref a]/\(∃xs,cT K H1 a xs)/\R (TR K a) H1
def AK (hg:Gl X "enumerate") (hm:X.mg "enumerate"=none) (ha:PA X [a] ta) (hs:starEach [a] X.env=[(false,eval a X.env)]:=by rfl):
  PI X (.Tuple elts kk tp) (.Call (.Name "enumerate" p) [a] [] pos) (Po X.K ta):=by
 intro ac s Z H R I h
 refine Call_ (qv I hg hm Ck (gx (fq (ha pos ac s Z H _ I h) λus s1 cZ=>?_) hs rfl))
 obtain⟨vs,H1,I1,r1,q1⟩:=cZ
 obtain⟨ad,e,⟨xs,hq⟩,q⟩:=q1
 subst e
 obtain⟨u,rfl,ru⟩:=Ae r1
 cases(show u=Value.ref ad from ru)
 obtain⟨cF,rv,tp',hz⟩:=I1.list hq
 refine Ct (show s1.heap.IsList ad cF.toArray from tp'.isList) λh' TQ isI kp=>wpAny_pyIter_enum TQ ?_
 refine⟨_,[s1.heap.objs.size+1,s1.heap.objs.size],_,_,H1,rfl,I1.kept (t':=s1.toks) kp,Cu ad _ _ (Nat.succ_ne_self _),⟨⟨_,TQ⟩,isI⟩,λb hb=>?_,q⟩
 simp only[aD,aN,cy] at hb
 rcases hb with rfl|rfl
 .exact I1.yV (dN _) (I1.eN.fresh (dN _))
 .exact I1.yV (ar _) (I1.eN.fresh (ar _))
def yk {K:Φ}{a:ai}{xs:List V}{g:TG}{tb:TS}{D:Ends}{Z:St}{H:Hp}(Pv:Nat->St->Hp->Prop) (h0:Pv 0 Z H) (hl:∀i Z H,i<=xs.length->Pv i Z H->cT K H a xs)
  (hs:∀i x Z H T,xs[i]?=some x->Pv i Z H->H T=none->g (.ref T) Z (upd H T (.tup [.int i,x])) λiR H2=>tb {D with nx:=Pv (i+1),ct:=Pv (i+1),bk:=D.nx} iR H2) (hd:∀Z H,Pv xs.length Z H->D.nx Z H):
  ∃W:Nat->Nat->St->Hp->Prop,(∃m,W 0 m Z H)/\∀i m Z H,W i m Z H->
   ((TR K a).stop i H/\D.nx Z H)\/((TR K a).go i H/\∃N:St->Hp->Prop,(∀bX H',N bX H'->∃m',m'<m/\W (i+1) m' bX H')/\∀x H',(TR K a).BY i H x H'->g x Z H' λiR H2=>tb {D with nx:=N,ct:=N,bk:=D.nx} iR H2):=by
 refine⟨λi m Z H=>m=xs.length-i/\i<=xs.length/\Pv i Z H,⟨xs.length,ς,de _,h0⟩,?_⟩
 rintro i m Z H ⟨rfl,hi,iv⟩
 have sq:=hl i Z H hi iv
 rcases Nat.lt_or_ge i xs.length with lt|ge
 .refine .inr ⟨⟨xs,xs[i],sq,by simp[lt]⟩,Pv (i+1),λbX H' p'=>⟨xs.length-(i+1),ω,rfl,lt,p'⟩,λx H' y=>?_⟩
  obtain⟨T,z,f1,rfl,rfl,f2⟩:=y
  exact hs i z Z H T (f2 xs sq) iv f1
 .have e:i=xs.length:=ω
  subst e
  exact .inl ⟨⟨xs,sq,rfl⟩,hd Z H iv⟩
end L2
namespace HT
open PySem PySem.Spec PyProof.Rows
section
variable {prog:aM}{w:bB}{A:bG}{E:ag->aj->Prop}{s:aj}
end
section
variable {prog:aM}{w:bB}{A:bG}{R:Result->aj->Prop}{I:ai}{fp wr:List ai}{n:Nat}{P:Nat->ag->Prop}{St:Nat->Heap->Prop}
end
end HT
namespace L2
open PySem PySem.Spec PyProof.Rows
section
variable {X:Cx}{ac:List (ai×Obj)}{Z:St}{H:Hp}{s:aj}
end
section
variable {X:Cx}
end
end L2
namespace HT
open PySem PySem.Spec PyProof.Rows L2
section
variable {prog:aM}{w:bB}{A:bG}{R:Result->aj->Prop}{I:ai}{fp wr:List ai}{G:Array GenState->Array GenState->Prop}{n:Nat}{P:Nat->ag->Prop}{St:Nat->aj->Prop}
end
section
variable {prog:aM}{w:bB}{A:bG}{E:ag->aj->Prop}{s:aj}
end
end HT
namespace L2
open PySem PySem.Spec PyProof.Rows HT
section
variable {X:Cx}
end
end L2
namespace L2
open PySem PySem.Spec PyProof.Rows
section
variable {X:Cx}{ac:List (ai×Obj)}{Z:St}{H:Hp}{s:aj}
end
section
variable {X:Cx}{a b:Expr}{ta tb:TE}{pos:Pos}{rest:List Expr}
def Pp (K:Φ) (ta tb:TE):TE:=λZ H Q=>ta Z H λx H1=>∃k,SY K x H1 k/\if k=true then Q x H1 else tb Z H1 Q
def Pq (ha:PE X a ta) (hb:PE X (.BoolOp .Or (b::rest) pos) tb):PE X (.BoolOp .Or (a::b::rest) pos) (Pp X.K ta tb):=by
 intro ac s Z H Q I h
 refine BoolOp_or (fq (ha ac s Z H _ I h) λv s1 cZ=>?_)
 obtain⟨x,H1,I1,r1,k,tr,q1⟩:=cZ
 refine fq (OQ ac s1 Z H1 x v (λb H'=>b=k/\H'=H1) I1 r1 ⟨k,tr,rfl,rfl⟩) λc s2 cZ=>?_
 obtain⟨H2,I2,e1,e2⟩:=cZ
 subst e1 e2
 cases c with
 |false=>exact hb ac s2 Z H2 Q I2 q1
 |true=>exact⟨x,H2,I2,r1,q1⟩
end
section
variable {X:Cx}
end
end L2
namespace HT
open PySem PySem.Spec PyProof.Rows L2
def Cv (A:bG) (s:aj) (y x:ag) (b:Bool):Prop:=
 ∀(prog:aM) (w:bB) (E:ag->aj->Prop) (Q:ag->aj->Prop),Q (.bool b) s->wpAny (model prog w) A (richCompare .Lt y x) Q E s
inductive Lex (A:bG) (s:aj):List ag->List ag->Bool->Prop
 |nn:Lex A s [] [] false
 |nc {y:ag} {ys:List ag}:Lex A s [] (y::ys) true
 |cn {x:ag} {xs:List ag}:Lex A s (x::xs) [] false
 |eq {x y:ag} {xs ys:List ag} {r:Bool}:SeqAt.EqAt A s x y true->Lex A s xs ys r->Lex A s (x::xs) (y::ys) r
 |lt {x y:ag} {xs ys:List ag} {r:Bool}:SeqAt.EqAt A s x y false->Cv A s x y r->Lex A s (x::xs) (y::ys) r
section
open PySem.SeqAt
open PySem.AutoSeq1 (wpAny_loadPart')
open PySem.MeetsSeq PySem.MeetsSeq2 PySem.MeetsSeq3
end
section
variable {A:bG}{s:aj}
def Cv.int (a:Int) (t:Tok) (c:Int) (u:Tok):Cv A s (.int a t) (.int c u) (decide (a<c)):=λprog w E Q h=>(lt_int h:wpAny (model prog w) A (compareOp .Lt (.int a t) (.int c u)) Q E s)
def Cv.str (a:Str) (t:Tok) (c:Str) (u:Tok):Cv A s (.str a t) (.str c u) (decide (a.cps.toList<c.cps.toList)):=λprog w E Q h=>(lt_str h:wpAny (model prog w) A (compareOp .Lt (.str a t) (.str c u)) Q E s)
def dZ (a b:Str):Bool:=decide (a.cps.toList<b.cps.toList)
end
def Pr (prog:aM) (w:bB) (A:bG) (P:Nat->ag->Prop) (St:Nat->Heap->Prop) (bt:Nat->Nat->Bool):Prop:=
 ∀i j vi vj k (s:aj) (Q:ag->aj->Prop) (E:ag->aj->Prop),St k s.heap->P i vi->P j vj->Q (.bool (bt i j)) s->wpAny (model prog w) A (richCompare .Lt vi vj) Q E s
section
variable {prog:aM}{w:bB}{A:bG}{R:Result->aj->Prop}{I:ai}{fp wr:List ai}{n:Nat}{P:Nat->ag->Prop}{St:Nat->Heap->Prop}
def F7 (W:Walks prog w A.in1 I fp wr n P St) (bt:Nat->Nat->Bool) (cmp:Pr prog w A.in1 P St bt) (S:ai) (out:S∉fp) (kw:List (Str×ag)):
  ∀(k j:Nat) (s:aj) (vb:ag) (c:Nat),n-(j+1)=k->j+1<=n->St (j+1) s.heap->P (argBest bt j) vb->s.heap.get? S=some {cls:=.type "list",dict:=none,data:=.seq #[vb,vb] c,slots:=#[]}->
  (∀v h' tk,P (argBest bt (n-1)) v->(∀b o,b∉wr->b≠S->s.heap.get? b=some o->h'.get? b=some o)->R (.ok (.ret v)) {s with heap:=h',toks:=tk})->
  codeAny (model prog w) A (.builtin "min.loop" ⟨[.ref I,.none,.ref S],kw⟩) R s:=by
 have away:S∉wr:=λh=>out (W.sub _ h)
 have nm:(toString "min"++toString ".loop":String)="min.loop":=δ
 intro k
 induction k with
 |zero=>
  intro j s vb c hk hj st hb qm q
  have en:j+1=n:=ω
  refine gD Oi ?_;rw[iI jb _]
  show wpAny _ A.in1 (seqItems? (.ref S)>>=_) _ _ s;refine aa (cg qm rfl ?_);show wpAny _ A.in1 (tryCatch (pyNext (.ref I)) _>>=_) _ _ s;refine aa (jc (W.done s _ _ (en▸st) λh' tk kp=>?_))
  show wpAny _ A.in1 (updateSeq S (λ_=>#[])>>=_) _ _ _;refine aa ?_;refine lT (kp S _ away qm) rfl (aa (fG (ak ?_)))
  exact q vb _ tk (by rw[<-en];exact hb) λb o h1 h2 e=>(aY _ _ (cD h2)).trans (kp b o h1 e)
 |succ k ih=>
  intro j s vb c hk hj st hb qm q
  have lt:j+1<n:=ω
  refine gD Oi ?_;rw[iI jb _]
  show wpAny _ A.in1 (seqItems? (.ref S)>>=_) _ _ s;refine aa (cg qm rfl ?_);show wpAny _ A.in1 (tryCatch (pyNext (.ref I)) _>>=_) _ _ s;refine aa (jc (W.item (j+1) s _ _ lt st λv h' tk hP tY kp=>?_))
  have at2:=kp S _ away qm
  show wpAny _ A.in1 (tryCatch (holding [v,v] (richCompare .Lt v vb>>=_)) _>>=_) _ _ _;refine aa (jc (cO (aa (cmp (j+1) (argBest bt j) v vb _ _ _ _ tY hP hb ?_))))
  refine aa (cO (ek ?_));refine aa (fG (ak ?_))
  cases better:bt (j+1) (argBest bt j) with
  |true=>
   simp only[m_]
   refine aa ?_;refine lT at2 rfl (aa (fG ?_))
   rw[nm]
   refine ak ⟨jO jb _,ih (j+1) _ v _ ω lt (W.frame _ _ _ tY λb hf o e=>(aY _ _ (λh:S=b=>out (by rw[h];exact hf))).trans e) (by simp only[argBest,better,m_];exact hP) (cW _ at2 rfl) λv' Iy vQ tw Cw=>?_⟩
   exact q v' Iy vQ tw λb o h1 h2 e=>Cw b o h1 h2 ((aY _ _ (cD h2)).trans (kp b o h1 e))
  |false=>
   simp only[fm,nu]
   refine aa (fG ?_)
   rw[nm]
   refine ak ⟨jO jb _,ih (j+1) _ vb c ω lt tY (by simp only[argBest,better,fm,nu];exact hb) at2 λv' Iy vQ tw Cw=>?_⟩
   exact q v' Iy vQ tw λb o h1 h2 e=>Cw b o h1 h2 (kp b o h1 e)
def Cy (W:Walks prog w A.in1 I fp wr n P St) (bt:Nat->Nat->Bool) (cmp:Pr prog w A.in1 P St bt) (S:ai) (out:S∉fp) (pos:0<n) (st:St 0 s.heap)
  (qm:s.heap.get? S=some {cls:=.type "list",dict:=none,data:=.seq #[] c,slots:=#[]})
  (q:∀v h' tk,P (argBest bt (n-1)) v->(∀b o,b∉wr->b≠S->s.heap.get? b=some o->h'.get? b=some o)->R (.ok (.ret v)) {s with heap:=h',toks:=tk}):
  codeAny (model prog w) A (.builtin "min.loop" ⟨[.ref I,.none,.ref S],[]⟩) R s:=by
 have away:S∉wr:=λh=>out (W.sub _ h)
 have nm:(toString "min"++toString ".loop":String)="min.loop":=δ
 refine gD Oi ?_;rw[iI jb _]
 show wpAny _ A.in1 (seqItems? (.ref S)>>=_) _ _ s;refine aa (cg qm rfl ?_);show wpAny _ A.in1 (tryCatch (pyNext (.ref I)) _>>=_) _ _ s;refine aa (jc (W.item 0 s _ _ pos st λv h' tk hP tY kp=>?_))
 have at2:=kp S _ away qm
 show wpAny _ A.in1 (updateSeq S (λ_=>#[v,v])>>=_) _ _ _;refine aa ?_;refine lT at2 rfl ?_;rw[nm]
 refine ak ⟨jO jb _,F7 W bt cmp S out _ _ 0 _ v _ rfl pos (W.frame _ _ _ tY λb hf o e=>(aY _ _ (λh:S=b=>out (by rw[h];exact hf))).trans e) hP (cW _ at2 rfl) λv' Iy vQ tw Cw=>?_⟩
 exact q v' Iy vQ tw λb o h1 h2 e=>Cw b o h1 h2 ((aY _ _ (cD h2)).trans (kp b o h1 e))
end
section
variable {prog:aM}{w:bB}{A:bG}{E:ag->aj->Prop}{s:aj}
end
def zj (a:Str):dZ a a=false:=bD (List.lt_irrefl _)
def tK (h1:dZ a b=true) (h2:dZ b c=true):dZ a c=true:=aI (List.lt_trans (aX h1) (aX h2))
def uV (h:a≠b):dZ a b=true\/dZ b a=true:=by
 by_cases h1:a.cps.toList<b.cps.toList
 .exact .inl (aI h1)
 .by_cases h2:b.cps.toList<a.cps.toList
  .exact .inr (aI h2)
  .exfalso
   apply h
   have e:a.cps.toList=b.cps.toList:=List.le_antisymm (List.not_lt.mp h2) (List.not_lt.mp h1)
   obtain⟨x⟩:=a
   obtain⟨y⟩:=b
   have:x=y:=Array.toList_inj.mp e
   rw[this]
end HT
namespace L2
open PySem PySem.Spec PyProof.Rows HT
section
variable {X:Cx}
end
end L2
namespace L2
open PySem PySem.Spec PyProof.Rows
section
variable {X:Cx}
def TU (K:Φ):R2:=λx y H Q=>∃a b xs ys,x=.ref a/\y=.ref b/\bZ K H a xs/\bZ K H b ys/\ys≠[]/\xs.length+ys.length<=sizeLine/\
 (xs=[]->Q (.ref b) H)/\(xs≠[]->∀p,H p=none->Q (.ref p) (upd H p (.tup (xs++ys))))
def EB:lU X (binaryOp .Add) (TU X.K):=by
 intro ac s Z H x y v u Q I rx ry h
 obtain⟨a,b,xs,ys,rfl,rfl,ha,hb,hy,hz,q1,q2⟩:=h
 by_cases hx:xs=[]
 .cases rx
  cases ry
  obtain⟨cF,r1,p1,_⟩:=I.tuple ha
  obtain⟨lQ,r2,p2,_⟩:=I.tuple hb
  obtain⟨⟨cls,dd,data,sl⟩,ho,hc,n,hd⟩:=id p1
  obtain⟨⟨Xo,Wi,data2,RS⟩,Lc,FK,n2,hd2⟩:=id p2
  simp only at hc hd FK hd2
  subst hc hd FK hd2
  have e0:cF=[]:=by rw[hx] at r1;cases r1;rfl
  exact concat_meets ⟨_,ho,rfl⟩ ⟨_,Lc,rfl⟩ Og seq_tuple_add uq sH (rh _ _)
   (tuple_addW0 a b cF.toArray lQ.toArray n n2 dd Wi sl RS (by rw[e0];rfl)) ⟨ho,Lc,⟨.ref b,H,I,rfl,q1 hx⟩⟩
 .exact lX ac s Z H (.ref a) (.ref b) v u Q I rx ry ⟨a,b,xs,ys,rfl,rfl,ha,hb,hx,hz,λe=>absurd e hy,λ_=>q2 hx⟩
end
end L2
namespace L2
open PySem PySem.Spec PyProof.Rows HT
section
variable {X:Cx}
end
end L2
namespace L2
open PySem PySem.Spec PyProof.Rows
section
variable {X:Cx}
end
end L2
namespace L2
open PySem PySem.Spec PyProof.Rows HT
section
variable {X:Cx}{tg:Expr}
end
section
variable {prog:aM}{w:bB}{K:Type} [DecidableEq K] {knd:HeapKind prog w K}{a b:ai}
end
section
variable {X:Cx}
end
end L2
namespace L2
open PySem PySem.Spec PyProof.Rows
section
variable {prog:aM}{w:bB}{A:bG}{R:Result->aj->Prop}{s:aj}
abbrev two (elt tg iter:Expr) (ifs:List Expr) (tg2 TV:Expr) (X4:List Expr) (scope:Scope) (pos:Pos):Expr:=.ListComp elt [⟨tg,iter,ifs,0⟩,⟨tg2,TV,X4,0⟩] scope pos
end
section
variable {X:Cx}
end
end L2
namespace L2
open PySem PySem.Spec PyProof.Rows HT
section
variable {X:Cx}
end
end L2
namespace L2
open PySem PySem.Spec PyProof.Rows
section
variable {X:Cx}
end
section
variable {prog:aM}{w:bB}{A:bG}{E:ag->aj->Prop}{R:Result->aj->Prop}{s:aj}
end
section
variable {X:Cx}
end
end L2
namespace L2
open PySem PySem.Spec PyProof.Rows HT
section
variable {X:Cx}
end
end L2
namespace L2
open PySem PySem.Spec PyProof.Rows
section
variable {X:Cx}
end
end L2
namespace L2
open PySem PySem.Spec PyProof.Rows HT
section
variable {prog:aM}{w:bB}{A:bG}{E:ag->aj->Prop}{s:aj}
def Cz
  (h:wpAny (model prog w) A.in1 (pyIter (.ref s.heap.objs.size)) (λit s2=>∃I fp wr n P St bt,it=.ref I/\Walks prog w A.in1 I fp wr n P St/\St 0 s2.heap/\(∀b∈fp,b<s2.heap.objs.size)/\0<n/\Pr prog w A.in1 P St bt/\
   ∀v h' tk,P (argBest bt (n-1)) v->(∀b o,b∉wr->s2.heap.get? b=some o->h'.get? b=some o)->Q v {s2 with heap:=h',toks:=tk}) E {s with heap:=s.heap.push {cls:=.type "tuple",data:=.seq #[a,b]}}):
  wpAny (model prog w) A (call (.builtin "min") [a,b]) Q E s:=by
 have nm:(toString "min"++toString ".loop":String)="min.loop":=δ
 refine call_function_tree F.kind_min F.plain_min F.entry_min (F.args_min2 _ _) ?_;show wpAny _ A.in1 (Builtin.Builtins.bindParams "min" ["key","default"] 0 ⟨[],[]⟩>>=_) _ _ s
 refine aa (BK (show Builtin.Builtins.bindParams "min" ["key","default"] 0 ⟨[],[]⟩=pure [none,none] from rfl) ?_)
 show wpAny _ A.in1 (newTuple [a,b]>>=_) _ _ s
 refine aa (bE (aa (bM h (λit s2 h2=>?_) λ_ _ e=>e)))
 obtain⟨I,fp,wr,n,P,St,bt,rfl,W,st,below,pos,cmp,q⟩:=h2
 refine aa (bE ?_);rw[nm]
 have out:s2.heap.objs.size∉fp:=λhm=>fU _ (below _ hm)
 refine ak ⟨jO jb _,Cy W bt cmp s2.heap.objs.size out pos (W.frame _ _ _ st λb _ o e=>af _ e) (az _ rfl) λv h' tk hP hk=>?_⟩
 exact q v h' tk hP λb o X6 e=>hk b o X6 (ba (aC e)) (af _ e)
end
section
variable {X:Cx}
def ym:∀{ts:List Str}{us:List ag},cz (ts.map V.str) us->∃l:List (Str×Tok),us=strValues l/\l.map (·.1)=ts
 | [],_,r=>by cases r;exact⟨[],rfl,rfl⟩
 |x::ts,_,r=>by
  cases r with
  |cons r1 r2=>
   obtain⟨t,rfl⟩:=r1
   obtain⟨l,e1,e2⟩:=ym r2
   exact⟨(x,t)::l,by rw[e1];rfl,by rw[bK,e2]⟩
def Lz:Xt X "str.join" (λx vs H Q=>∃(sep:Str) (p:ai) (ts:List Str),x=.str sep/\vs=[.ref p]/\cT X.K H p (ts.map V.str)/\JoinOk sep ts=true/\Q (.str (Txt.join sep ts)) H):=by
 intro ac s Z H x vs v us Q I rx rv h
 obtain⟨sep,p,ts,rfl,rfl,hp,ok,q⟩:=h
 obtain⟨t,rfl⟩:=(show∃t,v=Value.str sep t from rx)
 obtain⟨u,rfl,ru⟩:=Ae rv
 cases(show u=Value.ref p from ru)
 obtain⟨cF,r1,pl,_⟩:=I.list hp
 obtain⟨l,rfl,el⟩:=ym r1
 exact SC.join pl.isList el ok λt' k=>⟨.str _,H,I.tok k,⟨t',rfl⟩,q⟩
end
end L2
namespace HT
open PySem PySem.Spec PyProof.Rows L2
def Pt (prog:aM) (w:bB) (A:bG) (P:Nat->ag->Prop) (St:Nat->Heap->Prop) (bt:Nat->Nat->Bool):Prop:=
 ∀i j vi vj k (s:aj) (Q:ag->aj->Prop) (E:ag->aj->Prop),St k s.heap->P i vi->P j vj->Q (.bool (bt i j)) s->wpAny (model prog w) A (richCompare .Gt vi vj) Q E s
section
variable {prog:aM}{w:bB}{A:bG}{R:Result->aj->Prop}{I:ai}{fp wr:List ai}{n:Nat}{P:Nat->ag->Prop}{St:Nat->Heap->Prop}
def F8 (W:Walks prog w A.in1 I fp wr n P St) (bt:Nat->Nat->Bool) (cmp:Pt prog w A.in1 P St bt) (S:ai) (out:S∉fp) (kw:List (Str×ag)):
  ∀(k j:Nat) (s:aj) (vb:ag) (c:Nat),n-(j+1)=k->j+1<=n->St (j+1) s.heap->P (argBest bt j) vb->s.heap.get? S=some {cls:=.type "list",dict:=none,data:=.seq #[vb,vb] c,slots:=#[]}->
  (∀v h' tk,P (argBest bt (n-1)) v->(∀b o,b∉wr->b≠S->s.heap.get? b=some o->h'.get? b=some o)->R (.ok (.ret v)) {s with heap:=h',toks:=tk})->
  codeAny (model prog w) A (.builtin "max.loop" ⟨[.ref I,.none,.ref S],kw⟩) R s:=by
 have away:S∉wr:=λh=>out (W.sub _ h)
 have nm:(toString "max"++toString ".loop":String)="max.loop":=δ
 intro k
 induction k with
 |zero=>
  intro j s vb c hk hj st hb qm q
  have en:j+1=n:=ω
  refine gD Oj ?_;rw[iI jd _]
  show wpAny _ A.in1 (seqItems? (.ref S)>>=_) _ _ s;refine aa (cg qm rfl ?_);show wpAny _ A.in1 (tryCatch (pyNext (.ref I)) _>>=_) _ _ s;refine aa (jc (W.done s _ _ (en▸st) λh' tk kp=>?_))
  show wpAny _ A.in1 (updateSeq S (λ_=>#[])>>=_) _ _ _;refine aa ?_;refine lT (kp S _ away qm) rfl (aa (fG (ak ?_)))
  exact q vb _ tk (by rw[<-en];exact hb) λb o h1 h2 e=>(aY _ _ (cD h2)).trans (kp b o h1 e)
 |succ k ih=>
  intro j s vb c hk hj st hb qm q
  have lt:j+1<n:=ω
  refine gD Oj ?_;rw[iI jd _]
  show wpAny _ A.in1 (seqItems? (.ref S)>>=_) _ _ s;refine aa (cg qm rfl ?_);show wpAny _ A.in1 (tryCatch (pyNext (.ref I)) _>>=_) _ _ s;refine aa (jc (W.item (j+1) s _ _ lt st λv h' tk hP tY kp=>?_))
  have at2:=kp S _ away qm
  show wpAny _ A.in1 (tryCatch (holding [v,v] (richCompare .Gt v vb>>=_)) _>>=_) _ _ _;refine aa (jc (cO (aa (cmp (j+1) (argBest bt j) v vb _ _ _ _ tY hP hb ?_))))
  refine aa (cO (ek ?_));refine aa (fG (ak ?_))
  cases better:bt (j+1) (argBest bt j) with
  |true=>
   simp only[m_]
   refine aa ?_;refine lT at2 rfl (aa (fG ?_))
   rw[nm]
   refine ak ⟨jO jd _,ih (j+1) _ v _ ω lt (W.frame _ _ _ tY λb hf o e=>(aY _ _ (λh:S=b=>out (by rw[h];exact hf))).trans e) (by simp only[argBest,better,m_];exact hP) (cW _ at2 rfl) λv' Iy vQ tw Cw=>?_⟩
   exact q v' Iy vQ tw λb o h1 h2 e=>Cw b o h1 h2 ((aY _ _ (cD h2)).trans (kp b o h1 e))
  |false=>
   simp only[fm,nu]
   refine aa (fG ?_)
   rw[nm]
   refine ak ⟨jO jd _,ih (j+1) _ vb c ω lt tY (by simp only[argBest,better,fm,nu];exact hb) at2 λv' Iy vQ tw Cw=>?_⟩
   exact q v' Iy vQ tw λb o h1 h2 e=>Cw b o h1 h2 (kp b o h1 e)
def CB (W:Walks prog w A.in1 I fp wr n P St) (bt:Nat->Nat->Bool) (cmp:Pt prog w A.in1 P St bt) (S:ai) (out:S∉fp) (pos:0<n) (st:St 0 s.heap)
  (qm:s.heap.get? S=some {cls:=.type "list",dict:=none,data:=.seq #[] c,slots:=#[]})
  (q:∀v h' tk,P (argBest bt (n-1)) v->(∀b o,b∉wr->b≠S->s.heap.get? b=some o->h'.get? b=some o)->R (.ok (.ret v)) {s with heap:=h',toks:=tk}):
  codeAny (model prog w) A (.builtin "max.loop" ⟨[.ref I,.none,.ref S],[]⟩) R s:=by
 have away:S∉wr:=λh=>out (W.sub _ h)
 have nm:(toString "max"++toString ".loop":String)="max.loop":=δ
 refine gD Oj ?_;rw[iI jd _]
 show wpAny _ A.in1 (seqItems? (.ref S)>>=_) _ _ s;refine aa (cg qm rfl ?_);show wpAny _ A.in1 (tryCatch (pyNext (.ref I)) _>>=_) _ _ s;refine aa (jc (W.item 0 s _ _ pos st λv h' tk hP tY kp=>?_))
 have at2:=kp S _ away qm
 show wpAny _ A.in1 (updateSeq S (λ_=>#[v,v])>>=_) _ _ _;refine aa ?_;refine lT at2 rfl ?_;rw[nm]
 refine ak ⟨jO jd _,F8 W bt cmp S out _ _ 0 _ v _ rfl pos (W.frame _ _ _ tY λb hf o e=>(aY _ _ (λh:S=b=>out (by rw[h];exact hf))).trans e) hP (cW _ at2 rfl) λv' Iy vQ tw Cw=>?_⟩
 exact q v' Iy vQ tw λb o h1 h2 e=>Cw b o h1 h2 ((aY _ _ (cD h2)).trans (kp b o h1 e))
end
end HT
namespace L2
open PySem PySem.Spec PyProof.Rows HT
section
variable {prog:aM}{w:bB}{A:bG}{E:ag->aj->Prop}{s:aj}
def CD
  (h:wpAny (model prog w) A.in1 (pyIter (.ref s.heap.objs.size)) (λit s2=>∃I fp wr n P St bt,it=.ref I/\Walks prog w A.in1 I fp wr n P St/\St 0 s2.heap/\(∀b∈fp,b<s2.heap.objs.size)/\0<n/\Pt prog w A.in1 P St bt/\
   ∀v h' tk,P (argBest bt (n-1)) v->(∀b o,b∉wr->s2.heap.get? b=some o->h'.get? b=some o)->Q v {s2 with heap:=h',toks:=tk}) E {s with heap:=s.heap.push {cls:=.type "tuple",data:=.seq #[a,b]}}):
  wpAny (model prog w) A (call (.builtin "max") [a,b]) Q E s:=by
 have nm:(toString "max"++toString ".loop":String)="max.loop":=δ
 refine call_function_tree F.kind_max F.plain_max F.entry_max (F.args_max2 _ _) ?_;show wpAny _ A.in1 (Builtin.Builtins.bindParams "max" ["key","default"] 0 ⟨[],[]⟩>>=_) _ _ s
 refine aa (BK (show Builtin.Builtins.bindParams "max" ["key","default"] 0 ⟨[],[]⟩=pure [none,none] from rfl) ?_)
 show wpAny _ A.in1 (newTuple [a,b]>>=_) _ _ s
 refine aa (bE (aa (bM h (λit s2 h2=>?_) λ_ _ e=>e)))
 obtain⟨I,fp,wr,n,P,St,bt,rfl,W,st,below,pos,cmp,q⟩:=h2
 refine aa (bE ?_);rw[nm]
 have out:s2.heap.objs.size∉fp:=λhm=>fU _ (below _ hm)
 refine ak ⟨jO jd _,CB W bt cmp s2.heap.objs.size out pos (W.frame _ _ _ st λb _ o e=>af _ e) (az _ rfl) λv h' tk hP hk=>?_⟩
 exact q v h' tk hP λb o X6 e=>hk b o X6 (ba (aC e)) (af _ e)
end
section
variable {X:Cx}
def CF (hc:X.calm=true):gN X (.builtin "min") (λxs H Q=>∃x y:Str,xs=[.str x,.str y]/\Q (.str (if dZ y x=true then y else x)) H):=by
 intro ac s Z H xs us Q I r h
 obtain⟨x,y,rfl,q⟩:=h
 obtain⟨u,u',rfl,⟨t,rfl⟩,⟨t',rfl⟩⟩:=vals2 r
 have hT:(s.heap.push {cls:=.type "tuple",data:=.seq #[.str x t,.str y t']}).IsTuple s.heap.objs.size #[.str x t,.str y t']:=⟨_,az _ rfl,rfl,0,rfl⟩
 refine Cz (me hT ?_)
 have z1:(s.heap.push {cls:=.type "tuple",data:=.seq #[.str x t,.str y t']}).objs.size=s.heap.objs.size+1:=cf ..
 have W:=Walks.tuple (prog:=X.prog) (w:=X.w) (A:=X.A.in1) (I.ok.hd hc) (s.heap.objs.size+1) s.heap.objs.size (ba (fQ _)) #[.str x t,.str y t']
 rw[z1]
 refine⟨s.heap.objs.size+1,_,_,2,_,_,λi j=>dZ ([x,y].getD i x) ([x,y].getD j x),rfl,W,⟨⟨_,by rw[<-z1];exact az _ rfl,rfl,rfl⟩,hT.push _⟩,?_,δ,?_,λv h' tk hP hk=>?_⟩
 .intro b hb
  show b<((s.heap.push _).push _).objs.size
  rw[cf,z1]
  simp only[aD,aN,cy] at hb
  rcases hb with e|e
  .rw[e];exact fQ _
  .rw[e];exact gk (fQ _)
 .intro i j vi vj k s' Q' E' st hi hj hQ
  have two:∀(i:Nat) (v:ag),(#[Value.str x t,.str y t']:Array ag)[i]?=some v->∃t,v=.str ([x,y].getD i x) t:=λi v e=>by
   match i,e with
   |0,e=>cases e;exact⟨_,rfl⟩
   |1,e=>cases e;exact⟨_,rfl⟩
   |n+2,e=>simp at e
  obtain⟨t1,rfl⟩:=two i vi hi
  obtain⟨t2,rfl⟩:=two j vj hj
  exact(lt_str hQ:wpAny _ _ (compareOp .Lt _ _) _ _ _)
 .have tw:(#[Value.str x t,.str y t']:Array ag)[argBest (λi j=>dZ ([x,y].getD i x) ([x,y].getD j x)) 1]?=some v:=hP
  refine⟨.str (if dZ y x=true then y else x),H,I.kept (t':=tk) λb o e=>hk b o (λz=>?_) (af _ (af _ e)),?_,q⟩
  .have:=aC e
   rw[bV.mp z] at this
   exact absurd this (iV.mpr (dN _))
  .by_cases hb:dZ y x=true
   .have e:argBest (λi j=>dZ ([x,y].getD i x) ([x,y].getD j x)) 1=1:=by simp[argBest,hb]
    rw[e] at tw
    rw[aQ hb]
    cases tw
    exact⟨_,rfl⟩
   .have e:argBest (λi j=>dZ ([x,y].getD i x) ([x,y].getD j x)) 1=0:=by simp[argBest,hb]
    rw[e] at tw
    rw[aO hb]
    cases tw
    exact⟨_,rfl⟩
def CG (hc:X.calm=true):gN X (.builtin "max") (λxs H Q=>∃x y:Str,xs=[.str x,.str y]/\Q (.str (if dZ x y=true then y else x)) H):=by
 intro ac s Z H xs us Q I r h
 obtain⟨x,y,rfl,q⟩:=h
 obtain⟨u,u',rfl,⟨t,rfl⟩,⟨t',rfl⟩⟩:=vals2 r
 have hT:(s.heap.push {cls:=.type "tuple",data:=.seq #[.str x t,.str y t']}).IsTuple s.heap.objs.size #[.str x t,.str y t']:=⟨_,az _ rfl,rfl,0,rfl⟩
 refine CD (me hT ?_)
 have z1:(s.heap.push {cls:=.type "tuple",data:=.seq #[.str x t,.str y t']}).objs.size=s.heap.objs.size+1:=cf ..
 have W:=Walks.tuple (prog:=X.prog) (w:=X.w) (A:=X.A.in1) (I.ok.hd hc) (s.heap.objs.size+1) s.heap.objs.size (ba (fQ _)) #[.str x t,.str y t']
 rw[z1]
 refine⟨s.heap.objs.size+1,_,_,2,_,_,λi j=>dZ ([x,y].getD j x) ([x,y].getD i x),rfl,W,⟨⟨_,by rw[<-z1];exact az _ rfl,rfl,rfl⟩,hT.push _⟩,?_,δ,?_,λv h' tk hP hk=>?_⟩
 .intro b hb
  show b<((s.heap.push _).push _).objs.size
  rw[cf,z1]
  simp only[aD,aN,cy] at hb
  rcases hb with e|e
  .rw[e];exact fQ _
  .rw[e];exact gk (fQ _)
 .intro i j vi vj k s' Q' E' st hi hj hQ
  have two:∀(i:Nat) (v:ag),(#[Value.str x t,.str y t']:Array ag)[i]?=some v->∃t,v=.str ([x,y].getD i x) t:=λi v e=>by
   match i,e with
   |0,e=>cases e;exact⟨_,rfl⟩
   |1,e=>cases e;exact⟨_,rfl⟩
   |n+2,e=>simp at e
  obtain⟨t1,rfl⟩:=two i vi hi
  obtain⟨t2,rfl⟩:=two j vj hj
  exact(PySem.P.gt_str hQ:wpAny _ _ (compareOp .Gt _ _) _ _ _)
 .have tw:(#[Value.str x t,.str y t']:Array ag)[argBest (λi j=>dZ ([x,y].getD j x) ([x,y].getD i x)) 1]?=some v:=hP
  refine⟨.str (if dZ x y=true then y else x),H,I.kept (t':=tk) λb o e=>hk b o (λz=>?_) (af _ (af _ e)),?_,q⟩
  .have:=aC e
   rw[bV.mp z] at this
   exact absurd this (iV.mpr (dN _))
  .by_cases hb:dZ x y=true
   .have e:argBest (λi j=>dZ ([x,y].getD j x) ([x,y].getD i x)) 1=1:=by simp[argBest,hb]
    rw[e] at tw
    rw[aQ hb]
    cases tw
    exact⟨_,rfl⟩
   .have e:argBest (λi j=>dZ ([x,y].getD j x) ([x,y].getD i x)) 1=0:=by simp[argBest,hb]
    rw[e] at tw
    rw[aO hb]
    cases tw
    exact⟨_,rfl⟩
end
section
variable {X:Cx}{ac:List (ai×Obj)}{Z:St}{H:Hp}{s:aj}
end
end L2
namespace L2
open PySem PySem.Spec PyProof.Rows PySem.W
section
variable {M:Model}{A:bG}{E:ag->aj->Prop}{s:aj}{B:Heap}{env:Env}{outer:List Env}{L e:ai}{cls fl:ag}{Q:Unit->aj->Prop}
end
def l_ (x:fV P w H h a o):∃u,h.get? a=some u:=by
 induction o with
 |lst xs=>obtain⟨_,cF,n,_,e⟩:=x;exact⟨_,e⟩
 |tup xs=>obtain⟨_,cF,_,ob,e,_⟩:=x;exact⟨_,e⟩
 |dK dO=>obtain⟨_,_,vs,_,ob,es,ep,e,_⟩:=x;exact⟨_,e⟩
 |dT dO=>obtain⟨_,_,xs,_,ob,es,ep,e,_⟩:=x;exact⟨_,e⟩
 |set S n=>obtain⟨ob,es,ep,t,e,_⟩:=x;exact⟨_,e⟩
 |ins C dx fs=>obtain⟨_,_,_,e,_⟩:=x;exact⟨_,e⟩
 |own y=>exact x
 |xd fs=>obtain⟨mA,⟨od,es,ep,e,_⟩,_⟩:=x;exact⟨_,e⟩
 |Wa lo hi=>obtain⟨t,u,v,e⟩:=x;exact⟨_,e⟩
 |BR ob u ih=>exact⟨_,x.1⟩
 |Np ps=>exact⟨_,(show h.get? a=some _ from x)⟩
 |met f y=>exact⟨_,(show h.get? a=some _ from x)⟩
 |ext φ=>exact x.2.1
section
variable {X:Cx}{ac:List (ai×Obj)}{Z:St}{H:Hp}{s:aj}
def Inv.ub {B h':Heap}(I:Inv X ac Z H s) (kB:B.StaysIn s.heap) (Wn:B.StaysIn h') (ups:s.heap.UpToSlots h') (uy:∀b u,H b=some u->∃o,B.get? b=some o)
  (hp:∀p∈X.pn++ac,B.get? p.1=some p.2) (o1:∀b o,X.gP.heap.get? b=some o->X.BS b=none->b∉X.fs->b∉X.ex->B.get? b=some o) (o2:∀b o,X.gP.heap.get? b=some o->b∉X.fs->b∉X.ex->∃o',B.get? b=some o'):
  Inv X ac Z H {s with heap:=h'}:=by
 have fr:∀b,b∈X.fs->∃o,s.heap.get? b=some o/\∃sl,h'.get? b=some {o with slots:=sl}:=λb hb=>by
  obtain⟨_,o,ho,hnf⟩:=I.mO.mem hb
  exact⟨o,ho,ups b o ho hnf⟩
 refine⟨I.ok,I.os,I.bare,⟨λb o q n hb hx=>Wn b o (o1 b o q n hb hx),λb o q n hb hx=>?_,I.base.free,λb o q hx=>?_,I.base.nz,I.base.oN,I.base.qe⟩,?_,λx c e=>?_,I.free,I.jq,λp hq=>?_,λa o e=>?_,I.len⟩
 .obtain⟨sl,e1⟩:=I.base.slot b o q n hb hx
  obtain⟨o',e2,RS,e3⟩:=fr b hb
  rw[e1] at e2;cases e2
  exact⟨RS,e3⟩
 .by_cases hb:b∈X.fs
  .obtain⟨o',_,sl,e⟩:=fr b hb
   exact⟨_,e⟩
  .obtain⟨o',e⟩:=o2 b o q hb hx
   exact⟨o',Wn _ _ e⟩
 .obtain⟨m,hn,hl⟩:=I.loc
  refine⟨m,ups.ns hn,λi x v e1 e2 e3=>?_⟩
  obtain⟨u,r,lk⟩:=hl i x v e1 e2 e3
  refine⟨u,r,?_⟩
  rcases lk with lk|⟨lk,c,ec,oc,hc,hd⟩
  .exact .inl lk
  .obtain⟨sl,es⟩:=ups c oc hc λvs z=>by rw[hd] at z;cases z
   exact .inr ⟨lk,c,ec,_,es,hd⟩
 .obtain⟨v,oc,hc,hd⟩:=I.cell x c e
  obtain⟨sl,es⟩:=ups c oc hc λvs z=>by rw[hd] at z;cases z
  exact⟨v,_,es,hd⟩
 .obtain⟨_,p2⟩:=I.pin p hq
  exact⟨Wn _ _ (hp p hq),p2⟩
 .refine(I.eN a o e).qd (λb u hb eu=>?_) (λ_ z=>z) (λ_ _ z=>z)
  have ht:∃u',H b=some u':=by
   rcases hb with rfl|hb
   .exact⟨_,e⟩
   .exact⟨_,hb⟩
  obtain⟨u',ht⟩:=ht
  obtain⟨o',Ak⟩:=uy b u' ht
  have:=kB _ _ Ak
  rw[eu] at this;cases this
  exact Wn _ _ Ak
def Inv.yb (I:Inv X ac Z H s) (q:X.gP.heap.get? b=some o) (hb:b∉X.fs):b∉oq X.stack:=λz=>by
 rcases aD.mp (I.sV b z) with e|e
 .have h1:=aC q
  rw[e] at h1
  exact absurd h1 (iV.mpr I.ok.above)
 .exact hb e
end
section
variable {P:aM}{w:bB}{K:Φ}{mg:Str->Option ag}{base:Heap}{N:List Str}{qual:Str}{scope:Scope}{f:ai}{cd:ag}{A:bG}{outer:List Env}{s:aj}{H:Hp}{E:XK}
end
abbrev vR:List ag:=[.type "ValueError",.type "Exception",.type "BaseException",.type "object"]
structure tL (K:Φ) (mg:Str->Option ag) (x:Str) (C:ai):Prop where
 at':mg x=some (.ref C)
 is:excIn K C vR "ValueError.__new__"=true
def tL.own {K:Φ} (O:tL K mg x C) (qf:K.In h):OwnCls x C vR "ValueError.__new__" mg h:=by
 have q:=O.is
 refine⟨O.at',?_⟩
 unfold excIn at q
 split at q
 case h_2=>exact absurd q δ
 case h_1 d0 c0 s0 look=>
  split at q
  case h_2=>exact absurd q δ
  case h_1 C1 tl a0 a1 a2 a3 nw a5 em es=>
   rcases c0 with⟨c1,c2,c3,c4,c5,c6,c7,c8,c9,c10,c11⟩
   rcases s0 with⟨sl⟩
   simp only[cJ,iT,lN] at q
   obtain⟨⟨⟨⟨⟨g1,g2⟩,g3⟩,g4⟩,g5⟩,g6⟩:=q
   dsimp only at em es g3 g5 g6
   subst g1 g2 g3 em es
   exact⟨tl,c4,c1,c5,c2,c6,c7,c8,c9,c10,d0,a0,a1,a2,a3,a5,h.nsMap c4,qf _ _ look,.of_isNs (isNs_of_in qf g5),nsMap_none_of_in qf g5 g6,tail_of_in qf g4⟩
section
variable {X:Cx}{W:ag->St->Hp->Prop}
def PS.lg {st:Stmt}{t:TS}(h:PS X.lg st t):PS X st t:=λac s Z H D I hw=>
 bM (h ac s Z H D (I.vA _) hw) (λ_ _ q=>q.nA) λ_ _ z=>False.elim z
end
abbrev Cx.Aa (X:Cx) (a:ai):Cx:={X with A:=X.A.mark (some (.ref a)),calm:=false,xe:=λ_ _=>False}
def X8 (a:ai) (cls:ag):HO:=.ext λh=>∃oe vs,h.get? a=some oe/\oe.cls=cls/\oe.dict=none/\oe.data=.fields vs/\vs[2]?=some .none
section
variable {X:Cx}{ac:List (ai×Obj)}{Z:St}{H:Hp}{s:aj}{W:ag->St->Hp->Prop}
def Inv.Aa (I:Inv X ac Z H s) (a:ai):Inv (X.Aa a) ac Z H s:=
 ⟨⟨I.ok.mod,I.ok.kind,I.ok.glob,I.ok.blt,I.ok.above,I.ok.inj,I.ok.has,I.ok.KD,(λz=>nomatch z),I.ok.frames,I.ok.K2,I.ok.Ft,I.ok.bs,I.ok.BU,I.ok.xw,I.ok.uz,I.ok.mO,I.ok.Eb⟩,I.os,I.bare,I.base,I.loc,I.cell,I.free,I.jq,I.pin,I.eN,I.len⟩
def Inv.ND (c:X.calm=true->X.A.handled=none) (f:X.A.frames=some X.stack) (I:Inv (X.Aa a) ac Z H s):Inv X ac Z H s:=
 ⟨⟨I.ok.mod,I.ok.kind,I.ok.glob,I.ok.blt,I.ok.above,I.ok.inj,I.ok.has,I.ok.KD,c,f,I.ok.K2,I.ok.Ft,I.ok.bs,I.ok.BU,I.ok.xw,I.ok.uz,I.ok.mO,I.ok.Eb⟩,I.os,I.bare,I.base,I.loc,I.cell,I.free,I.jq,I.pin,I.eN,I.len⟩
def Inv.NF {a:ai}{o:HO}(I:Inv X ac Z H s) (n:H a=none) (n0:X.gP.heap.get? a=none) (nl:a≠X.env.locals) (nc:∀x c,X.env.cells.lookup x=some c->c≠a) (np:∀p∈X.pn++ac,p.1≠a) (ok:fV X.prog X.w (upd H a o) s.heap a o):Inv X ac Z (upd H a o) s:=by
 refine⟨I.ok,I.os,I.bare,⟨I.base.keep,I.base.slot,λb u q m hx=>?_,I.base.there,λb xs e=>?_,λb u v e=>?_,λb ps e=>?_⟩,I.loc,I.cell,?_,λx c e=>?_,λp hp=>?_,λb u e=>?_,I.len⟩
 .rw[aV (λz=>by rw[z,n0] at q;cases q)]
  exact I.base.free b u q m hx
 .have:=I.base.nz b xs e
  rw[aV (dB this n)];exact this
 .have:=I.base.oN b u v e
  rw[aV (dB this n)];exact this
 .obtain⟨m,this⟩:=I.base.qe b ps e
  exact⟨m,by rw[aV (dB this n)];exact this⟩
 .rw[aV nl.symm];exact I.free
 .rw[aV (nc x c e)];exact I.jq x c e
 .obtain⟨p1,p2,p3⟩:=I.pin p hp
  exact⟨p1,by rw[aV (np p hp)];exact p2,p3⟩
 .by_cases eb:b=a
  .subst eb
   rw[aB] at e
   cases e
   exact ok
  .rw[aV eb] at e
   refine(I.eN b u e).qd (λ_ _ _ z=>z) (λc z=>?_) (λc xs z=>?_)
   .rw[aV (dB z n)];exact z
   .rw[aV (dB z n)];exact z
def uW {M:Model}{A:bG}{E:ag->aj->Prop}{i:Nat}{n:Str}{pos:Pos}{Q:Unit->aj->Prop}(I:Inv X ac Z H s) (hN:X.N.Nodup) (hi:X.N[i]?=some n) (hk:X.env.scope.names.lookup n=some .local)
  (q:∀s',Inv X ac (Z.set i none) H s'->Q () s'):wpAny M A (do bindName X.env n .none;unbindBehindTheSuite X.env n pos) Q E s:=by
 have Oz:(X.env.scope.kind== .class||(X.env.scope.kind== .module&&X.env.locals !=X.env.globals))=false:=by rw[I.ok.kind];rfl
 refine aa (ni (pO I hN hi (.inl hk) (show RelV V.eK Value.none from rfl) (λs1 I1 _=>?_) (.inr hk)))
 obtain⟨m,hn,hl⟩:=id I1.loc
 have kl:X.env.kindOf n=some .local:=hk
 unfold unbindBehindTheSuite
 refine iO ?_
 unfold unbindName
 refine aa (wpAny_point (aa ?_))
 unfold deleteName
 simp only[kl,Oz]
 rw[aO δ]
 refine aa (wpAny_nsDel_keeps hn λh2 v KH sb=>?_)
 have hmn:(m n).isSome=true:=by
  have Fu:i<Z.length:=by rw[I.len];exact(br.mp hi).1
  obtain⟨u,r,lk⟩:=hl i n .eK hi (lM Fu) (.inl hk)
  rcases lk with⟨_,e⟩|⟨k,_⟩
  .rw[e];rfl
  .rw[kl] at k;rcases k with k|k<;>cases k
 rw[hmn]
 simp only[Bool.not_true,fm,nu]
 refine ak (wpAny_point (q _ ?_))
 have Hv:=I1.Hv
 obtain⟨oL,_,_,hoL,_⟩:=id hn
 have old:∀{b:ai} {o:Obj},X.gP.heap.get? b=some o->b≠X.env.locals:=λ{b o} e=>ba (bh (aC e) I1.ok.above)
 have Fu:i<Z.length:=by rw[I.len];exact(br.mp hi).1
 refine⟨I1.ok,I1.os,I1.bare,⟨λb o e n' hb hx=>?_,λb o e n' hb hx=>?_,I1.base.free,λb o e hx=>?_,I1.base.nz,I1.base.oN,I1.base.qe⟩,⟨_,KH,λj y v' e1 e2 e3=>?_⟩,λy c e=>?_,I1.free,I1.jq,λp hp=>?_,λb ob e=>?_,by simpa using I.len⟩
 .rw[sb.2 b (old e)];exact I1.base.keep b o e n' hb hx
 .obtain⟨sl,e1⟩:=I1.base.slot b o e n' hb hx
  exact⟨sl,by rw[sb.2 b (old e)];exact e1⟩
 .obtain⟨o',e1⟩:=I1.base.there b o e hx
  exact⟨o',by rw[sb.2 b (old e)];exact e1⟩
 .by_cases hj:j=i
  .subst hj
   rw[lM Fu] at e2
   cases e2
  .rw[nh (cD hj)] at e2
   obtain⟨u',r',lk⟩:=hl j y v' e1 (by rw[nh (cD hj)];exact e2) e3
   refine⟨u',r',?_⟩
   have ny:y≠n:=λz=>hj (vz hN e1 (z▸hi))
   rcases lk with⟨k,e⟩|⟨k,c,e,z⟩
   .exact .inl ⟨k,by simp[ny,e]⟩
   .exact .inr ⟨k,c,e,z.sameBut sb (Hv y c e)⟩
 .obtain⟨w',z⟩:=I1.cell y c e
  exact⟨w',z.sameBut sb (Hv y c e)⟩
 .obtain⟨p1,p2,p3,p4⟩:=I1.pin p hp
  exact⟨by rw[sb.2 _ p3];exact p1,p2,p3,p4⟩
 .refine(I1.eN b ob e).qd (λc w' hc z=>?_) (λ_ z=>z) (λ_ _ z=>z)
  rw[sb.2 c ?_]
  .exact z
  .rintro rfl
   have fr:=I1.free
   rcases hc with rfl|hc
   .rw[fr] at e;cases e
   .rw[fr] at hc;cases hc
end
def xC:entryFor table "proto.unchain"=some Builtin.«proto.unchain»:=entryFor_of_tree (by kernel_rfl)
def Iz (A:bG) (h:Heap):Prop:=∃a oa ws,A.handled=some (.ref a)/\h.get? a=some oa/\oa.data=.fields ws/\ws[2]?=some .none
section
variable {prog:aM}{w:bB}{A:bG}{E:ag->aj->Prop}{s:aj}
def vS {e:ai}{oe:Obj}{vs:Array ag}{α:Type}{Q:α->aj->Prop}(hn:Iz A s.heap) (he:s.heap.get? e=some oe) (hd:oe.data=.fields vs) (h2:2<vs.size) (ne:∀a,A.handled=some (.ref a)->a≠e)
  (q:∀h',(∀b o,b≠e->s.heap.get? b=some o->h'.get? b=some o)->(∃o,h'.get? e=some o/\o.cls=oe.cls)->E (.ref e) {s with heap:=h'}):wpAny (model prog w) A (raiseNew (.ref e):Sem α) Q E s:=by
 obtain⟨a,oa,ws,hh,ha,Wo,w2⟩:=hn
 have nae:=ne a hh
 unfold raiseNew
 refine aa (wpAny_handled ?_)
 rw[hh]
 dsimp only
 rw[aQ (by simpa using nae)]
 refine aa (cO (wpAny_runValue (gD xC ?_)))
 refine(aa (bL ha Wo w2 ?_):wpAny _ _ (field (.ref a) 2>>=_) _ _ s)
 rw[aQ δ]
 refine ak ?_
 show wpAny _ A (updateField e 2 (.ref a)>>=λ_=>_) _ _ s
 unfold updateField
 refine aa (aa (wpAny_load he ?_))
 rw[hd]
 dsimp only
 rw[aQ h2]
 refine wpAny_update he ?_
 have d1:=hV hd (·.setIfInBounds 2 (Value.ref a))
 exact wpAny_throw (q _ (λb o nb hb=>by rw[aY _ _ (cD nb)];exact hb) ⟨_,cW _ he (ib d1),uP _ _⟩)
end
section
variable {prog:aM}{w:bB}{A:bG}{R:Result->aj->Prop}
end
section
variable {prog:aM}{w:bB}{A:bG}{s:aj}{R:Result->aj->Prop}
end
section
variable {prog:aM}{w:bB}{A:bG}{E:ag->aj->Prop}{s:aj}
end
section
variable {X:Cx}{ac:List (ai×Obj)}{Z:St}{H H':Hp}{s:aj}{h':Heap}
end
end L2
namespace L2
open PySem PySem.W PyProof.Rows
structure o6 (lt:Nat->Nat->Bool):Prop where
 as:∀a b,lt a b=true->lt b a=false
 tr:∀a b c,lt b a=false->lt c b=false->lt c a=false
def o6.ir (O:o6 lt) (a:Nat):lt a a=false:=by
 cases e:lt a a with
 |false=>rfl
 |true=>have:=O.as a a e;rw[e] at this;cases this
def pat (p:Array Nat) (k:Nat):Nat:=p.getD k 0
def rO (h:p[i]?=q[j]?):pat p i=pat q j:=by
 unfold pat
 rw[jw,jw,h]
def nK (hj:j<=p.size) (k:Nat):pat (kas_rev p i j) k=if i<=k/\k<j then pat p (i+j-1-k) else pat p k:=by
 have e:=getElem?_mirror_all (i:=i) hj k
 by_cases h:i<=k/\k<j
 .rw[aQ h] at e⊢;exact rO e
 .rw[aO h] at e⊢;exact rO e
def LC (hs:src<p.size) (hd:d<=src) (k:Nat):pat (bubble p src d) k=if k=src-d then pat p src else if src-d<k/\k<=src then pat p (k-1) else pat p k:=by
 have e:=getElem?_bubble hs d hd k
 by_cases h1:k=src-d
 .rw[aQ h1] at e⊢;exact rO e
 .rw[aO h1] at e⊢
  by_cases h2:src-d<k/\k<=src
  .rw[aQ h2] at e⊢;exact rO e
  .rw[aO h2] at e⊢;exact rO e
def sv (n:Nat) (p:Array Nat):Prop:=p.toList.Perm (List.range n)
def sv.size (h:sv n p):p.size=n:=by
 have:=h.length_eq
 rwa[BL,gu] at this
def sv.lt (h:sv n p) (hk:k<n):pat p k<n:=by
 have hk':k<p.size:=by rw[h.size];exact hk
 have e:pat p k=p[k]:=by unfold pat;rw[jw,getElem?_pos p k hk'];rfl
 rw[e]
 exact qc.mp (h.mem_iff.mp (Array.mem_toList_iff.mpr (Array.getElem_mem hk')))
def sv.rev (h:sv n p) (i j:Nat):sv n (kas_rev p i j):=(KU.mp (mirror_perm p i j _)).trans h
def sv.bub (h:sv n p) (i d:Nat):sv n (bubble p i d):=(KU.mp (bubble_perm p i d)).trans h
section
variable {n:Nat}{lt:Nat->Nat->Bool}{cmp:Nat->Nat->(Bool->aj->Prop)->aj->Prop}{I:aj->Prop}
def BA (lt:Nat->Nat->Bool) (p:Array Nat) (k:Nat):Prop:=∀i j,i<=j->j<k->lt (pat p j) (pat p i)=false
def KL (lt:Nat->Nat->Bool) (p:Array Nat) (k:Nat):Prop:=∀i j,i<=j->j<k->lt (pat p i) (pat p j)=false
def TX (lt:Nat->Nat->Bool) (p:Array Nat) (a b:Nat):Prop:=∀i j,a<=i->i<b->a<=j->j<b->lt (pat p i) (pat p j)=false
def LD (n:Nat) (lt:Nat->Nat->Bool) (cmp:Nat->Nat->(Bool->aj->Prop)->aj->Prop) (I:aj->Prop):Prop:=
 ∀i j,i<n->j<n->∀(C:Bool->aj->Prop) s,I s->(∀s',I s'->C (lt i j) s')->cmp i j C s
def q1 (h:a+(f+1)<=n):a<n:=bh (Nat.lt_add_of_pos_right (Nat.succ_pos f)) h
def q2 (h:a+(f+1)<=n):a-1<n:=bb (Af a 1) (q1 h)
def q3 (h:a+(f+1)<=n):a+1+f<=n:=aA (fj (BM a f)) h
def q0 (h:n<=a+1+f):n<=a+(f+1):=aA h (fj (BM a f))
def q4 (h:a<=i/\i<b):a<=a+b-1-i:=xt (xt (dY h.2 a))
def q5 (h:a<=i/\i<b):a+b-1-i<b:=ω
def q8 (h1:a<=i) (h2:i<a+1) (h3:a<=j) (h4:j<a+1):i=j:=uS (aA (eG h2) h3) (aA (eG h4) h1)
def q9 (oR:i<=j) (hj:j<1):i=j:=uS oR (aA (eG hj) (de i))
def X_ (c:m<j/\j<=k):j-1<k:=bh (Ag (bb (de m) c.1) Nat.one_pos) c.2
def qh (h:¬l>=r) (h2:r<=k) (h3:r-l<=f+1):l<=(l+r)/2/\(l+r)/2<r/\(l+r)/2<k/\(l+r)/2-l<=f/\r-((l+r)/2+1)<=f:=ω
def LF (O:o6 lt) (h1:1<=k) (h:BA lt p k) (hk:lt (pat p k) (pat p (k-1))=false):BA lt p (k+1):=by
 intro i j oR hj
 by_cases e:j=k
 .subst e
  by_cases e2:i=j
  .subst e2;exact O.ir _
  .exact O.tr _ (pat p (j-1)) _ (h i (j-1) (jL (dR oR e2)) (Ag h1 Nat.one_pos)) hk
 .exact h i j oR (dR (eG hj) e)
def rP (O:o6 lt) (h1:1<=k) (h:KL lt p k) (hk:lt (pat p (k-1)) (pat p k)=false):KL lt p (k+1):=by
 intro i j oR hj
 by_cases e:j=k
 .subst e
  by_cases e2:i=j
  .subst e2;exact O.ir _
  .exact O.tr _ (pat p (j-1)) _ hk (h i (j-1) (jL (dR oR e2)) (Ag h1 Nat.one_pos))
 .exact h i j oR (dR (eG hj) e)
def CH (O:o6 lt) (hc:LD n lt cmp I) (hp:sv n p):∀(f a:Nat) {Q:Nat->aj->Prop}{s:aj},1<=a->a+f<=n->BA lt p a->I s->
  (∀m s',I s'->a<=m->m<=a+f->BA lt p m->(m<a+f->lt (pat p m) (pat p (m-1))=true)->Q m s')->(kas_asc p f a).kasWp cmp Q s
 |0,a,Q,s,h1,ha,so,hi,q=>q a s hi (ar _) (ar _) so (λh=>absurd h (fU _))
 |f+1,a,Q,s,h1,ha,so,hi,q=>by
  show cmp (pat p a) (pat p (a-1)) _ s
  refine hc _ _ (hp.lt (q1 ha)) (hp.lt (q2 ha)) _ s hi λs' BB=>?_
  cases e:lt (pat p a) (pat p (a-1)) with
  |true=>exact q a s' BB (ar _) (dH _ _) so (λ_=>e)
  |false=>exact CH O hc hp f (a+1) (je 1 a) (q3 ha) (LF O h1 so e) BB λm s2 i2 l1 l2 s3 l3=>q m s2 i2 (lO l1) (q0 l2) s3 (λh=>l3 (bh h (fj (BM a f).symm)))
def CI (O:o6 lt) (k a b:Nat) (hb:b<=p.size) (w:KL lt p k) (e:TX lt p a b) (hbk:b<=k):KL lt (kas_rev p a b) k:=by
 intro i j oR hj
 rw[nK hb,nK hb]
 by_cases h1:a<=i/\i<b
 .rw[aQ h1]
  by_cases h2:a<=j/\j<b
  .rw[aQ h2];exact e _ _ (q4 h1) (q5 h1) (q4 h2) (q5 h2)
  .rw[aO h2];exact w _ _ (aA (cR (q5 h1)) (Fk λz=>h2 ⟨aA h1.1 oR,z⟩)) hj
 .rw[aO h1]
  by_cases h2:a<=j/\j<b
  .rw[aQ h2];exact w _ _ (aA (Nat.le_of_not_le λz=>h1 ⟨z,bb oR h2.2⟩) (q4 h2)) (bh (q5 h2) hbk)
  .rw[aO h2];exact w _ _ oR hj
def uc (hb:b<=p.size) (h:b<=k):pat (kas_rev p a b) k=pat p k:=by
 rw[nK hb,aO λz=>Nat.not_lt_of_le h z.2]
def uX (O:o6 lt) (hc:LD n lt cmp I):∀(f:Nat) (p:Array Nat) (a q:Nat) {Q:Array Nat×Nat×Nat->aj->Prop}{s:aj},sv n p->q+1<=a->a+f<=n->KL lt p a->TX lt p (a-(q+1)) a->I s->
  (∀p' m q' s',I s'->sv n p'->a<=m->m<=a+f->q'+1<=m->KL lt p' m->TX lt p' (m-(q'+1)) m->Q (p',m,q') s')->(kas_desc f p a q).kasWp cmp Q s
 |0,p,a,q,Q,s,hp,h1,ha,wd,eq,hi,k=>k p a q s hi hp (ar _) (ar _) h1 wd eq
 |f+1,p,a,q,Q,s,hp,h1,ha,wd,eq,hi,k=>by
  have hs:a<=p.size:=by rw[hp.size];exact cR (q1 ha)
  have a1:1<=a:=aA (je 1 q) h1
  have g:a-(q+1)<=a-1/\a-1<a:=⟨Nat.sub_le_sub_left (je 1 q) a,Ag a1 Nat.one_pos⟩
  show cmp (pat p a) (pat p (a-1)) _ s
  refine hc _ _ (hp.lt (q1 ha)) (hp.lt (q2 ha)) _ s hi λs' BB=>?_
  have one:∀p':Array Nat,TX lt p' (a+1-(0+1)) (a+1):=λp' i j h1 h2 h3 h4=>q8 (a:=a) h1 h2 h3 h4▸O.ir _
  cases e:lt (pat p a) (pat p (a-1)) with
  |true=>
   show KasT.kasWp cmp (if q>0 then _ else _) Q s'
   by_cases hq:q>0
   .rw[aQ hq]
    have w2:=CI O a _ a hs wd eq (ar _)
    refine uX O hc f _ (a+1) 0 (hp.rev _ _) (je 1 a) (q3 ha) (rP O a1 w2 ?_) (one _) BB λp' m q' s2 i2 p2 l1 l2 l3 w3 e3=>k p' m q' s2 i2 p2 (lO l1) (q0 l2) l3 w3 e3
    rw[uc hs (ar _),nK hs,aQ g]
    exact O.tr _ (pat p (a-1)) _ (O.as _ _ e) (eq _ _ (q4 g) (q5 g) g.1 g.2)
   .rw[aO hq]
    exact uX O hc f _ (a+1) 0 hp (je 1 a) (q3 ha) (rP O a1 wd (O.as _ _ e)) (one _) BB λp' m q' s2 i2 p2 l1 l2 l3 w3 e3=>k p' m q' s2 i2 p2 (lO l1) (q0 l2) l3 w3 e3
  |false=>
   show cmp (pat p (a-1)) (pat p a) _ s'
   refine hc _ _ (hp.lt (q2 ha)) (hp.lt (q1 ha)) _ s' BB λs2 hi2=>?_
   cases e2:lt (pat p (a-1)) (pat p a) with
   |true=>exact k p a q s2 hi2 hp (ar _) (dH _ _) h1 wd eq
   |false=>
    refine uX O hc f p (a+1) (q+1) hp (mL h1) (q3 ha) (rP O a1 wd e2) (λi j i1 i2 j1 j2=>?_) hi2 λp' m q' s2 i2 p2 l1 l2 l3 w3 e3=>k p' m q' s2 i2 p2 (lO l1) (q0 l2) l3 w3 e3
    rw[Nat.add_sub_add_right] at i1 j1
    have il:=λz=>dR (eG i2) z
    have jl:=λz=>dR (eG j2) z
    by_cases ia:i=a
    .by_cases ja:j=a
     .rw[ia,ja];exact O.ir _
     .rw[ia];exact O.tr _ (pat p (a-1)) _ (eq _ _ g.1 g.2 j1 (jl ja)) e
    .by_cases ja:j=a
     .rw[ja];exact O.tr _ (pat p (a-1)) _ e2 (eq _ _ i1 (il ia) g.1 g.2)
     .exact eq _ _ i1 (il ia) j1 (jl ja)
def IA (hk:k<=p.size) (w:KL lt p k):BA lt (kas_rev p 0 k) k:=by
 intro i j oR hj
 have ci:0<=i/\i<k:=⟨de _,bb oR hj⟩
 rw[nK hk,nK hk,aQ ⟨de _,hj⟩,aQ ci]
 exact w _ _ (Nat.sub_le_sub_left oR _) (q5 ci)
abbrev CJ (n:Nat) (lt:Nat->Nat->Bool) (I:aj->Prop) (Q:Nat×Array Nat->aj->Prop):Prop:=∀m p' s',I s'->sv n p'->1<=m->m<=n->BA lt p' m->Q (m,p') s'
def AL (O:o6 lt) (hc:LD n lt cmp I) (hp:sv n p) (h1:1<=a) (ha:a<=n) (w:KL lt p a) (hi:I s) (q:CJ n lt I Q):(kas_tail3 a n p).kasWp cmp Q s:=by
 unfold kas_tail3
 rw[rl]
 have ea:=fj (oC ha)
 exact CH O hc (hp.rev 0 a) (n-a) a h1 ea (IA (by rw[hp.size];exact ha) w) hi λm s' i' l1 l2 so _=>q m _ s' i' (hp.rev 0 a) (aA h1 l1) (aA l2 ea) so
def ud (O:o6 lt) (hc:LD n lt cmp I) (hp:sv n p) (h1:1<=a) (ha:a+1<=n) (w:KL lt p (a+1)) (hi:I s) (q:CJ n lt I Q):(kas_descPart a n p).kasWp cmp Q s:=by
 unfold kas_descPart
 rw[rl]
 have ea:=fj (oC ha)
 refine uX O hc (n-(a+1)) p (a+1) 0 hp (je 1 a) ea w (λi j i1 i2 j1 j2=>?_) hi λp' m q' s' i' p2 l1 l2 l3 w3 e3=>?_
 .exact q8 (a:=a) i1 i2 j1 j2▸O.ir _
 .have lm:m<=n:=aA l2 ea
  have m1:1<=m:=aA (je 1 a) l1
  dsimp only
  by_cases hq:q'>0
  .rw[aQ hq]
   exact AL O hc (p2.rev _ _) m1 lm (CI O m _ m (by rw[p2.size];exact lm) w3 e3 (ar _)) i' q
  .rw[aO hq]
   exact AL O hc p2 m1 lm w3 i' q
def IB (O:o6 lt) (hc:LD n lt cmp I) (hp:sv n p) (hn:2<=n) (hi:I s) (q:CJ n lt I Q):(kas_count n p).kasWp cmp Q s:=by
 unfold kas_count
 rw[rl]
 have n1:1<=n:=lO hn
 have ea:=oC n1
 refine CH O hc hp (n-1) 1 (ar _) (fj ea) (λi j oR hj=>?_) hi λm s' i' l1 l2 so st=>?_
 .exact q9 oR hj▸O.ir _
 .have lm:m<=n:=aA l2 (fj ea)
  have hs:m<=p.size:=by rw[hp.size];exact lm
  by_cases hm:m=n
  .rw[aQ (by simp[hm])]
   exact q m p s' i' hp l1 lm so
  .rw[aO (by simp[hm])]
   have ml:m<n:=dR lm hm
   have tY:=st (bh ml (fj ea.symm))
   have g:0<=m-1/\m-1<m:=⟨de _,Ag l1 Nat.one_pos⟩
   by_cases h1:m>1
   .rw[aQ h1]
    show cmp (pat p 0) (pat p (m-1)) _ s'
    refine hc _ _ (hp.lt n1) (hp.lt (gy g.2 ml)) _ s' i' λs2 i2=>?_
    cases e:lt (pat p 0) (pat p (m-1)) with
    |true=>exact q m p s2 i2 hp l1 lm so
    |false=>
     have eq:TX lt p 0 m:=λi j _ BB _ hj'=>by
      by_cases oR:j<=i
      .exact so j i oR BB
      .exact O.tr _ (pat p (m-1)) _ (so j (m-1) (jL hj') g.2) (O.tr _ (pat p 0) _ e (so 0 i (de _) BB))
     have wd:KL lt (kas_rev p 0 m) m:=CI O m 0 m hs (λi j oR hj=>eq i j (de _) (bb oR hj) (de _) hj) eq (ar _)
     refine ud O hc (hp.rev 0 m) l1 ml (rP O l1 wd ?_) i2 q
     rw[uc hs (ar _),nK hs,aQ g]
     exact O.tr _ (pat p (m-1)) _ (O.as _ _ tY) (eq _ _ (q4 g) (q5 g) g.1 g.2)
   .rw[aO h1]
    have:m=1:=uS (iV.mp h1) l1
    subst this
    exact ud O hc hp (ar _) hn (rP O (ar _) (λi j oR hj=>q9 oR hj▸O.ir _) (O.as _ _ tY)) i' q
def vT (O:o6 lt) (hc:LD n lt cmp I) (hp:sv n p) (hk:k<n) (so:BA lt p k):∀(f l r:Nat) {Q:Nat->aj->Prop}{s:aj},l<=r->r<=k->r-l<=f->(∀i,i<l->lt (pat p k) (pat p i)=false)->(∀i,r<=i->i<k->lt (pat p i) (pat p k)=false)->I s->
  (∀m s',I s'->m<=k->(∀i,i<m->lt (pat p k) (pat p i)=false)->(∀i,m<=i->i<k->lt (pat p i) (pat p k)=false)->Q m s')->(kas_place p k f l r).kasWp cmp Q s
 |0,l,r,Q,s,h1,h2,h3,a,b,hi,q=>q l s hi (aA h1 h2) a (λi h4 h5=>b i (aA (Nat.le_of_sub_eq_zero (Nat.eq_zero_of_le_zero h3)) h4) h5)
 |f+1,l,r,Q,s,h1,h2,h3,a,b,hi,q=>by
  unfold kas_place
  by_cases h:l>=r
  .rw[aQ h]
   exact q l s hi (aA h1 h2) a (λi h4 h5=>b i (aA h h4) h5)
  .rw[aO h]
   obtain⟨g1,g2,g3,g4,g5⟩:=qh h h2 h3
   show cmp (pat p k) (pat p ((l+r)/2)) _ s
   refine hc _ _ (hp.lt hk) (hp.lt (gy g3 hk)) _ s hi λs' BB=>?_
   cases e:lt (pat p k) (pat p ((l+r)/2)) with
   |true=>
    refine vT O hc hp hk so f l ((l+r)/2) g1 (cR g3) g4 a (λi h4 h5=>?_) BB q
    exact O.tr _ (pat p ((l+r)/2)) _ (O.as _ _ e) (so _ _ h4 h5)
   |false=>
    refine vT O hc hp hk so f ((l+r)/2+1) r g2 h2 g5 (λi h4=>?_) b BB q
    exact O.tr _ (pat p ((l+r)/2)) _ (so _ _ (eG h4) g3) e
def IC (O:o6 lt) (hc:LD n lt cmp I):∀(f:Nat) (p:Array Nat) (k:Nat) {Q:Array Nat->aj->Prop}{s:aj},sv n p->k+f=n->BA lt p k->I s->(∀p' s',I s'->sv n p'->BA lt p' n->Q p' s')->(kas_bin f p k).kasWp cmp Q s
 |0,p,k,Q,s,hp,hk,so,hi,q=>q p s hi hp (by rw[show n=k from hk.symm];exact so)
 |f+1,p,k,Q,s,hp,hk,so,hi,q=>by
  unfold kas_bin
  rw[rl]
  have kn:k<n:=q1 (fj hk)
  refine vT O hc hp kn so k 0 k (de _) (ar _) (ar _) (λi h=>absurd h (Nat.not_lt_zero _)) (λi h1 h2=>absurd h2 (Nat.not_lt_of_le h1)) hi λm s' i' l1 a b=>?_
  refine IC O hc f _ (k+1) (hp.bub _ _) ((BM k f).trans hk) (λi j oR hj=>?_) i' q
  have bu:=LC (p:=p) (src:=k) (d:=k-m) (by rw[hp.size];exact kn) (Af _ _)
  rw[bu,bu,Nat.sub_sub_self l1]
  have jk:=eG hj
  by_cases i1:i=m
  .rw[aQ i1]
   by_cases j1:j=m
   .rw[aQ j1];exact O.ir _
   .have c:m<j/\j<=k:=⟨dR (i1▸oR) (cD j1),jk⟩
    rw[aO j1,aQ c];exact b _ (jL c.1) (X_ c)
  .rw[aO i1]
   by_cases i2:m<i/\i<=k
   .have c:m<j/\j<=k:=⟨bh i2.1 oR,jk⟩
    rw[aQ i2,aO (g_ c.1),aQ c];exact so _ _ (Nat.sub_le_sub_right oR 1) (X_ c)
   .rw[aO i2]
    by_cases j1:j=m
    .rw[aQ j1];exact a _ (dR (j1▸oR) i1)
    .rw[aO j1]
     by_cases j2:m<j/\j<=k
     .rw[aQ j2];exact so _ _ (jL (dR oR λz=>i2 (z▸j2))) (X_ j2)
     .rw[aO j2];exact so _ _ oR (bh (dR (Fk λz=>j2 ⟨z,jk⟩) j1) l1)
def LH (O:o6 lt) (hc:LD n lt cmp I) (hn:2<=n) (hi:I s) (q:∀p' s',I s'->sv n p'->BA lt p' n->Q p' s'):(kas_sort n).kasWp cmp Q s:=by
 unfold kas_sort
 rw[rl]
 refine IB O hc (show sv n (List.toArray (List.range n)) from List.Perm.refl _) hn hi λm p' s' i' p2 l1 l2 so=>?_
 dsimp only
 by_cases h:m<n
 .rw[aQ h]
  rw[Nat.max_eq_left l1]
  exact IC O hc (n-m) p' m p2 (oC l2) so i' q
 .rw[aO h]
  exact q p' s' i' p2 (by rw[uS (iV.mp h) l2];exact so)
end
end L2
namespace HT
open PySem PySem.Spec PySem.W PyProof.Rows L2
section
variable {prog:aM}{w:bB}{A:bG}{E:ag->aj->Prop}{s:aj}
def EC (h h':Heap):Prop:=∀b o,h.get? b=some o->h'.get? b=some o
def LI (prog:aM) (w:bB) (A:bG) (vs:List ag) (lt:Nat->Nat->Bool) (s:aj):Prop:=
 ∃κ:SortKind,(∀Q:SortKind->aj->Prop,Q κ s->wpAny (model prog w) A (keyKind' vs.toArray) Q (λ_ _=>False) s)/\LD vs.length lt (kas_ask prog w A κ vs) (λs'=>s'=s)
def inOrder (vs:List ag) (p:Array Nat):Array ag:=(p.toList.map λi=>vs.getD i Value.none).toArray
def xD (vs:List ag):inOrder vs (List.toArray (List.range vs.length))=vs.toArray:=by
 unfold inOrder
 congr 1
 refine List.ext_getElem? λi=>?_
 rw[bY]
 show Option.map _ (List.range vs.length)[i]?=vs[i]?
 by_cases h:i<vs.length
 .rw[List.getElem?_range h,aG h]
  show some (vs.getD i Value.none)=_
  rw[bf,aG h];rfl
 .rw[mJ (by rw[BL];omega),mJ ω];rfl
def qp (here:s.heap.get? a=some (seqObj "list" vs.toArray n)) (O:o6 lt) (He:vs.length<64)
  (ask:2<=vs.length->∀h',(∀b o,b≠a->s.heap.get? b=some o->h'.get? b=some o)->LI prog w A vs lt {s with heap:=h'})
  (fin:∀p:Array Nat,sv vs.length p->BA lt p vs.length->P (.done (.ret .none)) {s with heap:=sortedHeap s.heap a vs (inOrder vs p)}):
  wpAny (model prog w) A (Builtin.«list.sort» ⟨[.ref a],[]⟩) P E s:=by
 have low:a<s.heap.objs.size:=aC here
 have len:vs.toArray.size=vs.length:=aH ..
 obtain⟨c,emptied⟩:∃c,(s.heap.update a (Obj.mapSeq λ_=>#[])).get? a=some (seqObj "list" #[] c):=⟨_,get?_update_seq here (λ_=>#[])⟩
 have others:∀b o,b≠a->s.heap.get? b=some o->(((s.heap.update a (Obj.mapSeq λ_=>#[])).push (seqObj "tuple" vs.toArray 0)).push (seqObj "list" #[] 0)).get? b=some o:=λb o ne e=>by
  refine af _ (af _ ?_)
  rw[kX _ _ _ _ ne];exact e
 have ED:(((s.heap.update a (Obj.mapSeq λ_=>#[])).push (seqObj "tuple" vs.toArray 0)).push (seqObj "list" #[] 0)).get? a=some (seqObj "list" #[] c):=af _ (af _ emptied)
 rw[list_sort_plain]
 refine aa (listItems_at here rfl (aa (Ss here rfl ?_)))
 refine aa (seqEpoch_at emptied rfl (aa (wpAny_newTuple (aa (G8 (cO ?_))))))
 show wpAny (model prog w) A _ P E {s with heap:=((s.heap.update a (Obj.mapSeq λ_=>#[])).push (seqObj "tuple" vs.toArray 0)).push (seqObj "list" #[] 0)}
 dsimp only
 by_cases h2:vs.toArray.size<2
 .rw[aQ h2,aQ h2]
  refine aa (ak ?_)
  rw[StateT.run_pure]
  refine aa (ak ?_)
  dsimp only
  refine aa (seqEpoch_at ED rfl ?_)
  refine aa (Ss ED rfl ?_ (hsz2:=by rw[Array.size_map];show(pairsOf vs).size<=_;rw[pairsOf_size,gX];omega))
  simp only[bne_self_eq_false,fm,nu]
  have e:=fin (List.toArray (List.range vs.length)) (List.Perm.refl _) (λi j oR hj=>by
   have:i=j:=ω
   subst this;exact O.ir _)
  rw[xD] at e
  refine ak ?_
  have e2:Array.map (·.2) (vs.toArray.zip vs.toArray)=vs.toArray:=by
   apply Array.toList_inj.mp
   rw[Array.toList_map,Array.toList_zip]
   exact List.map_snd_zip (ar _)
  show P _ {s with heap:=Heap.update _ a (Obj.mapSeq λ_=>Array.map (·.2) (vs.toArray.zip vs.toArray))}
  rw[e2]
  exact e
 .rw[aO h2,aO h2]
  obtain⟨κ,hk,ans⟩:=ask ω _ others
  refine aa (bM (hk (λk s'=>k=κ/\s'=_) ⟨rfl,rfl⟩) ?_ λ_ _ z=>z.elim)
  rintro _ _ ⟨rfl,rfl⟩
  refine aa (bM (kat_run (ks:=vs) (vs:=vs) (G:=λp s'=>s'=_/\sv vs.length p/\BA lt p vs.length) (Q:=λst s'=>∃p,arrOf st=p.map (kas_item (vs.toArray.zip vs.toArray))/\failedOf st=none/\s'=_/\sv vs.length p/\BA lt p vs.length) rfl ω He
   (λp st s' _ e1 e2 g=>⟨p,e1,e2,g⟩) (LH O ans ω rfl λp s' e1 e2 e3=>⟨e1,e2,e3⟩)) ?_ λ_ _ z=>z)
  rintro⟨⟨⟩,st⟩ s' ⟨p,e1,e2,rfl,pm,so⟩
  have e3:(arrOf st).map (·.2)=inOrder vs p:=kat_snds rfl e1
  have z:(inOrder vs p).size=vs.length:=by
   show((p.toList.map λi=>vs.getD i Value.none).toArray).size=_
   rw[aH,aq,gu,pm.size]
  dsimp only at e2 e3⊢
  refine aa (seqEpoch_at ED rfl ?_)
  refine aa (Ss ED rfl ?_ (hsz2:=by rw[e3,z,gX];omega))
  rw[e2,e3]
  simp only[bne_self_eq_false,fm,nu]
  exact ak (fin p pm so)
def CK (hl:s.heap.IsList l vs.toArray) (O:o6 lt) (He:vs.length<64)
  (ask:2<=vs.length->∀h',EC s.heap h'->LI prog w A.in1.in1 vs lt {s with heap:=h'})
  (fin:∀p:Array Nat,sv vs.length p->BA lt p vs.length->Q (.ref (s.heap.objs.size+1)) {s with heap:=sortedAll s.heap vs (inOrder vs p)}):
  wpAny (model prog w) A (call (.builtin "sorted") [.ref l]) Q E s:=by
 refine ur kind_sorted plain_sorted entry_sorted (args_sorted1 _) ?_
 unfold Builtin.«sorted»
 refine aa (m:=checkCount "sorted" 1 1 _) (ak (aa (collect_list hl (aa (G8 ?_)))))
 have z:((s.heap.push (seqObj "list" #[] 0)).update s.heap.objs.size (Obj.mapSeq (· ++vs.toArray))).objs.size=s.heap.objs.size+1:=by rw[kN,size_push']
 have qm:(((s.heap.push (seqObj "list" #[] 0)).update s.heap.objs.size (Obj.mapSeq (· ++vs.toArray))).push (seqObj "list" vs.toArray 0)).get? (s.heap.objs.size+1)=some (seqObj "list" vs.toArray 0):=z▸az _ rfl
 have old:∀b o,s.heap.get? b=some o->b<s.heap.objs.size/\(((s.heap.push (seqObj "list" #[] 0)).update s.heap.objs.size (Obj.mapSeq (· ++vs.toArray))).push (seqObj "list" vs.toArray 0)).get? b=some o:=λb o e=>by
  have lo:b<s.heap.objs.size:=aC e
  refine⟨lo,af _ ?_⟩
  rw[kX _ _ _ _ (ba lo)]
  exact af _ e
 show wpAny _ _ _ _ _ {s with heap:=((s.heap.push (seqObj "list" #[] 0)).update s.heap.objs.size (Obj.mapSeq (· ++vs.toArray))).push (seqObj "list" vs.toArray 0)}
 rw[z]
 refine aa (cO (dQ slot_list_sort ⟨_,qm,rfl⟩ entry_list_sort ?_ (args_list_sort _)))
 refine qp qm O He (λh2 h' k=>?_) λp pm so=>⟨_,rfl,ak ⟨_,rfl,fin p pm so⟩⟩
 exact ask h2 h' λb o e=>k b o (ba (gk (old b o e).1)) (old b o e).2
def ue {b fin:Bool}{Q:Bool->aj->Prop}:∀{vs ws:List ag}{r:Bool}(i:Nat),Lex A s vs ws r->fin=decide (vs.length<ws.length)->Q r s->KatLex prog w A b fin Q (vs.zip ws) (i+1) s
 |_,_,_,i,.nn,e,q=>by rw[e];exact q
 |_,_,_,i,.nc,e,q=>by
  show Q _ _
  rw[e,aI ς];exact q
 |_,_,_,i,.cn,e,q=>by
  show Q _ _
  rw[e,bD ς];exact q
 |_,_,_,i,.eq h1 h2,e,q=>by
  refine kat_cons (h1 _ _ _ _ (kat_yes (ue (i+1) h2 ?_ q)))
  rw[e];simp
 |_,_,_,i,.lt (r:=r) h1 h2,e,q=>by
  refine kat_cons (h1 _ _ _ _ (kat_no ?_))
  rw[show(b&&(i+1==0))=false by simp]
  exact kat_one _ _ (h2 _ _ _ _ q)
def CO (h:Lex A s vs ws r) (q:Q (if a=c then r else dZ a c) s):
  KatLex prog w A true (decide ((Value.str a t::vs).length<(Value.str c u::ws).length)) Q ((Value.str a t::vs).zip (Value.str c u::ws)) 0 s:=by
 have he:=Hn (A:=A) (s:=s) a t c u
 rw[List.zip_cons_cons]
 by_cases e:a=c
 .rw[aQ e] at q
  rw[show(a==c)=true by simpa using e] at he
  exact kat_cons (he _ _ _ _ (kat_yes (ue 0 h ς q)))
 .rw[aO e] at q
  rw[show(a==c)=false by simpa using e] at he
  exact kat_cons (he _ _ _ _ (kat_no (oneLt_str q)))
def F9 (a:Str) (t:Tok):Looks M h (typeOf (.str a t)) (.type "str"):=Looks.of_pure rfl
def ID (h:Heap) (vs:List ag) (hd:Nat->Str) (rs:Nat->List ag):Prop:=∀i,i<vs.length->∃(a:ai) (t:Tok),vs[i]?=some (.ref a)/\IsTup h a (Value.str (hd i) t::rs i).toArray
def AM:∀{vs:List ag}{hd:Nat->Str}{rs:Nat->List ag},ID h vs hd rs->∃fs:List ag,KatTups h vs fs/\fs.length=vs.length/\∀v∈fs,∃a t,v=Value.str a t
 | [],_,_,_=>⟨[],.nil,rfl,λv hv=>by cases hv⟩
 |v::vs,hd,rs,x=>by
  obtain⟨fs,k,l,al⟩:=AM (vs:=vs) (hd:=λi=>hd (i+1)) (rs:=λi=>rs (i+1)) λi hi=>by
   obtain⟨a,t,e,p⟩:=x (i+1) (by simp;omega)
   exact⟨a,t,by simpa using e,p⟩
  obtain⟨a,t,e,o,ho,hc,n,Ya⟩:=x 0 ς
  cases(show v=Value.ref a by simpa using e)
  refine⟨.str (hd 0) t::fs,KatTups.cons ho hc Ya ς k,by simp[l],λz hz=>?_⟩
  rcases aD.mp hz with rfl|hz
  .exact⟨_,_,rfl⟩
  .exact al z hz
def yn {lt r:Nat->Nat->Bool}(h2:2<=vs.length) (x:ID s.heap vs hd rs) (hx:∀i j,i<vs.length->j<vs.length->Lex A s (rs i) (rs j) (r i j))
  (mS:∀i j,i<vs.length->j<vs.length->lt i j=if hd i=hd j then r i j else dZ (hd i) (hd j)):LI prog w A vs lt s:=by
 obtain⟨fs,k,l,al⟩:=AM x
 refine⟨tuples' true,λQ q=>kat_kind (T:=.type "str") k ω (λv hv=>?_) δ q,λi j hi hj C s' e q=>?_⟩
 .obtain⟨a,t,rfl⟩:=al v hv
  exact F9 a t
 .subst e
  have q':=q _ rfl
  rw[mS i j hi hj] at q'
  obtain⟨a,t,e1,o1,ho1,_,n1,d1⟩:=x i hi
  obtain⟨b,u,e2,o2,Lc,_,n2,d2⟩:=x j hj
  show wpAny _ _ (keyLt' _ (vs.getD i Value.none) (vs.getD j Value.none)) C _ _
  rw[bf,bf,e1,e2]
  refine kat_lt ho1 d1 Lc d2 ?_
  exact CO (hx i j hi hj) q'
end
end HT
namespace HT
open PySem PySem.Spec PySem.W PyProof.Rows L2
structure IE {κ:Type}(lt:κ->κ->Bool):Prop where
 RX:∀a,lt a a=false
 trans:∀a b c,lt a b=true->lt b c=true->lt a c=true
 Pu:∀a b,a≠b->lt a b=true\/lt b a=true
def IE.ok {κ:Type} [DecidableEq κ] {lt:κ->κ->Bool}(S:IE lt) (f:Nat->κ):o6 λi j=>lt (f i) (f j):=by
 have as:∀a b,lt a b=true->lt b a=false:=λa b h=>by
  cases e:lt b a with
  |false=>rfl
  |true=>have:=S.trans _ _ _ h e;rw[S.RX] at this;cases this
 refine⟨λa b h=>as _ _ h,λa b c h1 h2=>?_⟩
 cases e:lt (f c) (f a) with
 |false=>rfl
 |true=>
  exfalso
  by_cases ab:f a=f b
  .rw[<-ab,e] at h2;cases h2
  .rcases S.Pu _ _ ab with h|h
   .rw[S.trans _ _ _ e h] at h2;cases h2
   .rw[h] at h1;cases h1
def ltI (a b:Int):Bool:=decide (a<b)
def Pw:IE ltI:=⟨λa=>bD ω,λa b c h1 h2=>aI (by have:=aX h1;have:=aX h2;omega),λa b h=>by
 by_cases e:a<b
 .exact .inl (aI e)
 .exact .inr (aI ω)⟩
def Px:IE dZ:=⟨zj,λ_ _ _=>tK,λ_ _=>uV⟩
def xE {α β:Type} [DecidableEq α] (f:α->α->Bool) (g:β->β->Bool) (x y:α×β):Bool:=if x.1=y.1 then g x.2 y.2 else f x.1 y.1
def IE.lex {α β:Type} [DecidableEq α] {f:α->α->Bool}{g:β->β->Bool}(F:IE f) (G:IE g):IE (xE f g):=by
 refine⟨λa=>by unfold xE;rw[aQ rfl];exact G.RX _,λa b c h1 h2=>?_,λa b h=>?_⟩
 .unfold xE at*
  by_cases e1:a.1=b.1
  .rw[aQ e1] at h1
   by_cases e2:b.1=c.1
   .rw[aQ e2] at h2;rw[aQ (e1.trans e2)];exact G.trans _ _ _ h1 h2
   .rw[aO e2] at h2;rw[aO (by rw[e1];exact e2),e1];exact h2
  .rw[aO e1] at h1
   by_cases e2:b.1=c.1
   .rw[aO (by rw[<-e2];exact e1),<-e2];exact h1
   .rw[aO e2] at h2
    have h3:=F.trans _ _ _ h1 h2
    rw[aO (λz=>by rw[z,F.RX] at h3;cases h3)];exact h3
 .unfold xE
  by_cases e:a.1=b.1
  .rw[aQ e,aQ e.symm]
   exact G.Pu _ _ λz=>h (Prod.ext e z)
  .rw[aO e,aO (λz=>e z.symm)]
   exact F.Pu _ _ e
def nM:Str×Str×Int->Str×Str×Int->Bool:=xE dZ (xE dZ ltI)
def uf:IE nM:=Px.lex (Px.lex Pw)
section
variable {A:bG}{s:aj}
def EE (a:Int) (t:Tok) (c:Int) (u:Tok) (h:Lex A s vs ws r):Lex A s (.int a t::vs) (.int c u::ws) (if a=c then r else ltI a c):=by
 have he:=SeqAt.EqAt.int_int (A:=A) (s:=s) a t c u
 by_cases e:a=c
 .rw[aQ e]
  rw[show(a==c)=true by simpa using e] at he
  exact .eq he h
 .rw[aO e]
  rw[show(a==c)=false by simpa using e] at he
  exact .lt he (Cv.int a t c u)
def EF (a:Str) (t:Tok) (c:Str) (u:Tok) (h:Lex A s vs ws r):Lex A s (.str a t::vs) (.str c u::ws) (if a=c then r else dZ a c):=by
 have he:=Hn (A:=A) (s:=s) a t c u
 by_cases e:a=c
 .rw[aQ e]
  rw[show(a==c)=true by simpa using e] at he
  exact .eq he h
 .rw[aO e]
  rw[show(a==c)=false by simpa using e] at he
  exact .lt he (Cv.str a t c u)
end
end HT
namespace L2
open PySem PySem.Spec PySem.W PyProof.Rows HT
def yo {α:Type}(L:List α) (d:α) {p:List Nat}(h:p.Perm (List.range L.length)):(p.map λi=>L.getD i d).Perm L:=by
 have h1:=h.map λi=>L.getD i d
 have e:(List.range L.length).map (λi=>L.getD i d)=L:=by
  refine List.ext_getElem? λi=>?_
  rw[bY]
  by_cases hi:i<L.length
  .rw[List.getElem?_range hi,aG hi]
   show some (L.getD i d)=_
   rw[bf,aG hi];rfl
  .rw[mJ (by rw[BL];omega),mJ ω];rfl
 rwa[e] at h1
def ug {α:Type}{L:List α}{d:α}{lt:α->α->Bool}{p:Array Nat}(pm:sv L.length p) (so:BA (λi j=>lt (L.getD i d) (L.getD j d)) p L.length):(p.toList.map λi=>L.getD i d).Pairwise λe e'=>lt e' e=false:=by
 rw[List.pairwise_iff_getElem]
 intro i j hi hj oR
 rw[aq,gu] at hi hj
 have hz:=pm.size
 have at_:∀k (hk:k<p.size),pat p k=p.toList[k]'(by rw[gu];exact hk):=λk hk=>by
  unfold pat
  rw[jw,getElem?_pos p k hk,Array.getElem_toList];rfl
 have:=so i j ω ω
 rw[at_ i hi,at_ j hj] at this
 rw[jQ,jQ]
 exact this
structure mE (κ:Type) where
 a:ai
 x:Str
 rest:List V
 key:κ
section
variable {X:Cx}{κ:Type}
def tM:∀{L:List (mE κ)}{us:List ag},cz (L.map λe=>V.ref e.a) us->us=L.map λe=>Value.ref e.a
 | [],_,r=>by cases r;rfl
 |e::L,_,r=>by
  cases r with
  |cons r1 r2=>
   rw[bK,tM r2,show _=Value.ref e.a from r1]
def tN:∀(L:List (mE κ)),cz (L.map λe=>V.ref e.a) (L.map λe=>Value.ref e.a)
 | []=>.nil
 |e::L=>.cons rfl (tN L)
def vU [DecidableEq κ] {lt:κ->κ->Bool}(S:IE lt) (dk:κ):gN X (.builtin "sorted") (λxs H Q=>∃(p:ai) (L:List (mE κ)) (R:mE κ->mE κ->Bool),xs=[.ref p]/\cT X.K H p (L.map λe=>V.ref e.a)/\L.length<64/\(∀e∈L,bZ X.K H e.a (.str e.x::e.rest))/\
  (∀(ac:List (ai×Obj)) (Z:St) (s:aj),Inv X ac Z H s->∀e∈L,∀e'∈L,∀us nW:List ag,cz e.rest us->cz e'.rest nW->∀h',EC s.heap h'->Lex X.A.in1.in1 {s with heap:=h'} us nW (R e e'))/\
  (∀e∈L,∀e'∈L,lt e.key e'.key=if e.x=e'.x then R e e' else dZ e.x e'.x)/\
  ∀(l:ai) (L':List (mE κ)),H l=none->L'.Perm L->(L'.Pairwise λe e'=>lt e'.key e.key=false)->Q (.ref l) (upd H l (.lst (L'.map λe=>V.ref e.a)))):=by
 intro ac s Z H xs us Q I r h
 obtain⟨p,L,R,rfl,hq,He,hT,hR,hK,q⟩:=h
 obtain⟨u,rfl,rx⟩:=Ae r
 cases(show u=Value.ref p from rx)
 obtain⟨cF,rv,pl,hz⟩:=I.list hq
 cases tM rv
 have d:mE κ:=⟨0,"",[],dk⟩
 have gt:∀i,i<L.length->L.getD i d∈L:=λi hi=>by
  rw[bf,aG hi];exact cB hi
 have lz:(L.map λe=>Value.ref e.a).length=L.length:=aq _
 have ex:∀i,∃us:List ag,i<L.length->∃t,cz (L.getD i d).rest us/\IsTup s.heap (L.getD i d).a (Value.str (L.getD i d).x t::us).toArray:=λi=>by
  by_cases hi:i<L.length
  .obtain⟨cF,r,tp,_⟩:=I.tuple (hT _ (gt i hi))
   cases r with
   |cons r1 r2=>
    obtain⟨t,rfl⟩:=r1
    exact⟨_,λ_=>⟨t,r2,tp⟩⟩
  .exact⟨[],λh=>absurd h hi⟩
 obtain⟨rs,Py⟩:=Classical.skolem.mp ex
 refine CK pl.isList (S.ok λi=>(L.getD i d).key) ω (λh2 h' g=>?_) λpp pm so=>?_
 .refine yn (s:={s with heap:=h'}) (hd:=λi=>(L.getD i d).x) (rs:=rs) (r:=λi j=>R (L.getD i d) (L.getD j d)) h2 (λi hi=>?_) (λi j hi hj=>?_) (λi j hi hj=>?_)
  .rw[lz] at hi
   obtain⟨t,_,tp⟩:=Py i hi
   refine⟨(L.getD i d).a,t,?_,tp.keeps g⟩
   rw[bY,bf,aG hi];rfl
  .rw[lz] at hi hj
   obtain⟨_,v1,_⟩:=Py i hi
   obtain⟨_,v2,_⟩:=Py j hj
   exact hR ac Z s I _ (gt i hi) _ (gt j hj) _ _ v1 v2 h' g
  .rw[lz] at hi hj
   exact hK _ (gt i hi) _ (gt j hj)
 .rw[lz] at pm so
  have e1:inOrder (L.map λe=>Value.ref e.a) pp=((pp.toList.map λi=>L.getD i d).map λe=>Value.ref e.a).toArray:=by
   unfold inOrder
   congr 1
   rw[oM]
   refine j9 λi hi=>?_
   have BB:i<L.length:=qc.mp (pm.mem_iff.mp hi)
   show(L.map λe=>Value.ref e.a).getD i Value.none=Value.ref (L.getD i d).a
   rw[bf,bY,bf,aG BB];rfl
  rw[e1]
  have p1:=yo L d pm
  have p2:=ug (lt:=λe e'=>lt e.key e'.key) pm so
  generalize pp.toList.map (λi=>L.getD i d)=L' at p1 p2
  obtain⟨e,he⟩:=sortedAll_at s.heap (L.map λe=>Value.ref e.a) (L'.map λe=>Value.ref e.a).toArray
  have fresh:H (s.heap.objs.size+1)=none:=I.eN.fresh (dN _)
  have oE:=p1.length_eq
  refine⟨.ref (s.heap.objs.size+1),upd H (s.heap.objs.size+1) (.lst (L'.map λe=>V.ref e.a)),I.laid (t':=s.toks) (λb o eb=>sortedAll_old eb) (dN _) ⟨?_,L'.map λe=>Value.ref e.a,e,tN L',?_⟩,rfl,q _ L' fresh p1 p2⟩
  .rw[aq];exact cR (dD ω)
  .rw[he]
end
section
variable {X:Cx}
end
end L2
namespace L2
open PySem PySem.Spec PyProof.Rows PySem.W
def Iz.ext (x:Iz A h) (k:∀a,A.handled=some (.ref a)->∀o,h.get? a=some o->h'.get? a=some o):Iz A h':=by
 obtain⟨a,oa,ws,e,ha,r⟩:=x
 exact⟨a,oa,ws,e,k a e _ ha,r⟩
section
variable {prog:aM}{w:bB}{A:bG}{E:ag->aj->Prop}{s:aj}
def fS (x:h.IsListIter a t i) (sb:Heap.SameBut b h h') (n:a≠b):h'.IsListIter a t i:=x.extBut sb.extBut n
def jG (x:h.IsList a vs) (sb:Heap.SameBut b h h') (n:a≠b):h'.IsList a vs:=x.extBut sb.extBut n
def qL (a1:s.heap.IsListIter J t n) (a2:s.heap.IsList t vs) (a3:vs[n]?=some y)
  (q:∀h',h'.IsListIter J t (n+1)->Heap.SameBut J s.heap h'->Q y {s with heap:=h'}):wpAny (model prog w) A (Builtin.SmallTypes.nextOf (.ref J)) Q E s:=by
 obtain⟨jo,j1,j2,j3⟩:=id a1
 obtain⟨to,t1,_,tn,t2⟩:=a2
 unfold Builtin.SmallTypes.nextOf
 refine aa (cH (name:=Str.ofString "__next__") a1.typeIs sQ (dQ sQ a1.typeIs entry_listiter_next ?_ (args_listiter_next _)))
 refine(aa (bL j1 j3 (x:=.ref t) rfl ?_):wpAny _ _ (field (.ref J) 0>>=_) _ _ s)
 refine(?_:wpAny _ _ (if(Value.ref t==Value.none)=true then _ else _) _ _ s)
 rw[aO ς]
 refine(aa (bL j1 j3 (x:=.int n 0) rfl ?_):wpAny _ _ (field (.ref J) 1>>=_) _ _ s)
 refine(aa (cg t1 t2 ?_):wpAny _ _ (seqItems? (.ref t)>>=_) _ _ s)
 simp only[a3,jv]
 exact aa (i9 j1 j3 ς (ak ⟨y,rfl,ak (q _ ⟨_,cW _ j1 (ib (hV j3 _)),(uP ..).trans j2,by rw[hV j3];simp[rawInt]⟩ (Fn ..))⟩))
def vV (hn:Iz A s.heap) (na:∀a,A.handled=some (.ref a)->a≠J) (a1:s.heap.IsListIter J t n) (a2:s.heap.IsList t vs) (a3:vs[n]?=none)
  (q:∀h' x,Heap.ExtBut J s.heap h'->(∃o,h'.get? x=some o/\o.cls=.type "StopIteration")->E (.ref x) {s with heap:=h'}):wpAny (model prog w) A (Builtin.SmallTypes.nextOf (.ref J)) Q E s:=by
 obtain⟨jo,j1,j2,j3⟩:=id a1
 obtain⟨to,t1,_,tn,t2⟩:=a2
 unfold Builtin.SmallTypes.nextOf
 refine aa (cH (name:=Str.ofString "__next__") a1.typeIs sQ (dQ sQ a1.typeIs entry_listiter_next ?_ (args_listiter_next _)))
 refine(aa (bL j1 j3 (x:=.ref t) rfl ?_):wpAny _ _ (field (.ref J) 0>>=_) _ _ s)
 refine(?_:wpAny _ _ (if(Value.ref t==Value.none)=true then _ else _) _ _ s)
 rw[aO ς]
 refine(aa (bL j1 j3 (x:=.int n 0) rfl ?_):wpAny _ _ (field (.ref J) 1>>=_) _ _ s)
 refine(aa (cg t1 t2 ?_):wpAny _ _ (seqItems? (.ref t)>>=_) _ _ s)
 simp only[a3,jv]
 refine aa (ki (aa (i9 j1 j3 ς ?_)))
 refine(aa ?_:wpAny _ _ (newExc (.type "StopIteration") []>>=_) _ _ _)
 simp only[newTuple,newExc]
 refine aa (bE (aa (m:=firstArgMember _ _) (BK (a:=Value.none) (by first|rfl|(simp only[firstArgMember];rfl)) (bE ?_ (by size_fits)))) (by size_fits))
 have KH:Iz A.in1 s.heap:=hn
 refine vS (KH.ext λa ha o ho=>af _ (af _ ((aY _ _ (cD (na a ha))).trans ho))) (az _ rfl) rfl (by simp;omega) (λa ha z=>?_) λh' kp ⟨o,o1,o2⟩=>q _ _ (λb u nb hb=>kp b u (λz=>?_) (af _ (af _ ((aY _ _ (cD nb)).trans hb)))) ⟨o,o1,o2⟩
 .obtain⟨a',oa,ws,e,ho,_⟩:=hn
  have ea:a'=a:=by have:=e.symm.trans ha;injection this with this;injection this
  rw[ea] at ho
  have l1:=aC ho
  rw[z,cf] at l1
  rw[kN] at l1
  exact absurd l1 (iV.mpr (dH _ _))
 .have l1:=aC hb
  rw[z,cf] at l1
  rw[kN] at l1
  exact absurd l1 (iV.mpr (dH _ _))
def F_ {z TI TO i1 i2 t1 t2:ai} {Q:ag->aj->Prop}(D:ZipApart z TI TO i1 i2 t1 t2) (c1:IsZip s.heap z TI TO .none) (c2:IsPair s.heap TI (.ref i1) (.ref i2)) (c3:IsPair s.heap TO a b)
  (c4:s.heap.IsListIter i1 t1 n1) (c5:s.heap.IsListIter i2 t2 n2) (c6:s.heap.IsList t1 xs) (c7:s.heap.IsList t2 ys) (c8:xs[n1]?=some x) (c9:ys[n2]?=some y)
  (q:∀h',IsZip h' z TI TO (rawInt s.heap.objs.size)->IsPair h' TO x y->h'.IsListIter i1 t1 (n1+1)->h'.IsListIter i2 t2 (n2+1)->IsPair h' s.heap.objs.size x y->(∀c o,c≠z->c≠TO->c≠i1->c≠i2->s.heap.get? c=some o->h'.get? c=some o)->Q (.ref s.heap.objs.size) {s with heap:=h'}):
  wpAny (model prog w) A (Builtin.«zip.__next__» ⟨[.ref z],[]⟩) (λfin s'=>∃v,fin=.done (.ret v)/\Q v s') E s:=by
 refine(aa (bL c1 rfl (x:=.bool false) rfl ?_):wpAny _ _ (field (.ref z) 2>>=_) _ _ _)
 refine(aa (bL c1 rfl (x:=.ref TI) rfl ?_):wpAny _ _ (field (.ref z) 3>>=_) _ _ _);refine aa (cg c2 rfl ?_)
 refine(aa ?_:wpAny _ _ (Builtin.SmallTypes.ownedTupleIsFree (.ref z)>>=_) _ _ _)
 unfold Builtin.SmallTypes.ownedTupleIsFree
 refine aa (bL c1 rfl (x:=.none) rfl (ak ?_))
 simp only[m_]
 refine aa (ki ?_);refine aa (bL c1 rfl (x:=.ref TO) rfl ?_);refine aa (dX c1 ς λg1 k1 s1=>?_)
 have k1:IsZip g1 z TI TO .ellipsis:=k1
 refine aa ?_
 simp only[oh,xo,sO,uQ]
 refine aa (aa (iO ?_))
 show wpAny _ _ (Builtin.SmallTypes.nextOf (.ref i1)>>=_) _ _ _;refine aa (qL (fS c4 s1 D.i1z) (jG c6 s1 D.l1z) c8 λg2 k2 s2=>ak ?_)
 have o2:IsPair g2 TO a b:=s2.extBut _ _ D.TOi1 (s1.extBut _ _ D.TOz c3)
 refine aa (cg o2 rfl ?_);refine aa (iF o2 λg3 o3 s3=>?_);refine aa (fG (ak ?_))
 have o3:IsPair g3 TO x b:=o3
 refine aa (aa (iO ?_))
 show wpAny _ _ (Builtin.SmallTypes.nextOf (.ref i2)>>=_) _ _ _;refine aa (qL (fS (fS (fS c5 s1 D.i2z) s2 D.i12.symm) s3 D.TOi2.symm) (jG (jG (jG c7 s1 D.l2z) s2 D.l2i1) s3 D.l2TO) c9 λg4 k4 s4=>ak ?_)
 have o4:IsPair g4 TO x b:=s4.extBut _ _ D.TOi2 o3
 refine aa (cg o4 rfl ?_);refine aa (iF o4 λg5 o5 s5=>?_);refine aa (fG (ak (ak ?_)))
 have o5:IsPair g5 TO x y:=o5
 refine aa (cg o5 rfl ?_);refine aa (wpAny_newTuple ?_)
 have sz:g5.objs.size=s.heap.objs.size:=by rw[s5.1,s4.1,s3.1,s2.1,s1.1]
 have z5:IsZip g5 z TI TO .ellipsis:=s5.extBut _ _ D.TOz.symm (s4.extBut _ _ D.i2z.symm (s3.extBut _ _ D.TOz.symm (s2.extBut _ _ D.i1z.symm k1)))
 have j1:g5.IsListIter i1 t1 (n1+1):=fS (fS (fS k2 s3 D.TOi1.symm) s4 D.i12) s5 D.TOi1.symm
 have j2:g5.IsListIter i2 t2 (n2+1):=fS k4 s5 D.TOi2.symm
 have zl:z<g5.objs.size:=aC z5
 refine(aa ?_:wpAny _ _ (Builtin.SmallTypes.ownedTupleHandOut (.ref z) (.ref g5.objs.size)>>=_) _ _ _)
 unfold Builtin.SmallTypes.ownedTupleHandOut
 refine aa (dX (af _ z5) ς λg7 z7 s7=>?_)
 have z7:IsZip g7 z TI TO (rawInt g5.objs.size):=z7
 refine dX z7 ς λg8 z8 s8=>ak ⟨_,rfl,?_⟩
 have z8:IsZip g8 z TI TO (rawInt g5.objs.size):=z8
 have up:∀c o,c≠z->g5.get? c=some o->g8.get? c=some o:=λc o n e=>s8.extBut _ _ n (s7.extBut _ _ n (af _ e))
 have T8:IsPair g8 g5.objs.size x y:=s8.extBut _ _ (g_ zl) (s7.extBut _ _ (g_ zl) (az _ rfl))
 rw[sz] at z8 T8
 refine(?_:Q (.ref g5.objs.size) _)
 rw[sz]
 obtain⟨v1,v2,v3⟩:=j1
 obtain⟨w1,w2,w3⟩:=j2
 exact q g8 z8 (up _ _ D.TOz o5) ⟨v1,up _ _ D.i1z v2,v3⟩ ⟨w1,up _ _ D.i2z w2,w3⟩ T8 λc o n1 n2 n3 n4 e=>up c o n1 (s5.extBut _ _ n2 (s4.extBut _ _ n4 (s3.extBut _ _ n2 (s2.extBut _ _ n3 (s1.extBut _ _ n1 e)))))
def Ga {z TI TO i1 i2 t1 t2:ai} (hn:Iz A s.heap) (na:∀a,A.handled=some (.ref a)->a≠z/\a≠TO/\a≠i1/\a≠i2) (D:ZipApart z TI TO i1 i2 t1 t2) (c1:IsZip s.heap z TI TO .none) (c2:IsPair s.heap TI (.ref i1) (.ref i2)) (c3:IsPair s.heap TO a b)
  (c4:s.heap.IsListIter i1 t1 n1) (c5:s.heap.IsListIter i2 t2 n2) (c6:s.heap.IsList t1 xs) (c7:s.heap.IsList t2 ys) (c8:xs[n1]?=none\/ys[n2]?=none)
  (q:∀h' x,(∀c o,c≠z->c≠TO->c≠i1->c≠i2->s.heap.get? c=some o->h'.get? c=some o)->(∃o,h'.get? x=some o/\o.cls=.type "StopIteration")->E (.ref x) {s with heap:=h'}):
  wpAny (model prog w) A (Builtin.«zip.__next__» ⟨[.ref z],[]⟩) Q E s:=by
 have vL:∀{g:Heap} {x:ai} {o:Obj},IsZip g z TI TO .ellipsis->g.get? x=some o->o.cls=.type "StopIteration"->x≠z:=λ{g x o} k1 k2 k3 e=>by
  rw[e,k1] at k2
  cases k2
  exact absurd (show Value.type "zip"=Value.type "StopIteration" from k3) δ
 refine(aa (bL c1 rfl (x:=.bool false) rfl ?_):wpAny _ _ (field (.ref z) 2>>=_) _ _ _)
 refine(aa (bL c1 rfl (x:=.ref TI) rfl ?_):wpAny _ _ (field (.ref z) 3>>=_) _ _ _);refine aa (cg c2 rfl ?_)
 refine(aa ?_:wpAny _ _ (Builtin.SmallTypes.ownedTupleIsFree (.ref z)>>=_) _ _ _)
 unfold Builtin.SmallTypes.ownedTupleIsFree
 refine aa (bL c1 rfl (x:=.none) rfl (ak ?_))
 simp only[m_]
 refine aa (ki ?_);refine aa (bL c1 rfl (x:=.ref TO) rfl ?_);refine aa (dX c1 ς λg1 k1 s1=>?_)
 have k1:IsZip g1 z TI TO .ellipsis:=k1
 refine aa ?_
 simp only[oh,xo,sO,uQ]
 refine aa (aa (iO ?_))
 cases hx:xs[n1]? with
 |none=>
  show wpAny _ _ (Builtin.SmallTypes.nextOf (.ref i1)>>=_) _ _ _;refine aa (vV (hn.ext λa ha o ho=>s1.extBut _ _ (na a ha).1 ho) (λa ha=>(na a ha).2.2.1) (fS c4 s1 D.i1z) (jG c6 s1 D.l1z) hx λg2 x s2 ⟨o,o1,o2⟩=>?_)
  have z2:IsZip g2 z TI TO .ellipsis:=s2 _ _ D.i1z.symm k1
  exact dX z2 ς λg3 _ s3=>q g3 x (λc u n1 _ n3 _ e=>s3.extBut _ _ n1 (s2 _ _ n3 (s1.extBut _ _ n1 e))) ⟨o,s3.extBut _ _ (vL z2 o1 o2) o1,o2⟩
 |some x1=>
  have hy:ys[n2]?=none:=by
   rcases c8 with e|e
   .rw[hx] at e;cases e
   .exact e
  show wpAny _ _ (Builtin.SmallTypes.nextOf (.ref i1)>>=_) _ _ _;refine aa (qL (fS c4 s1 D.i1z) (jG c6 s1 D.l1z) hx λg2 k2 s2=>ak ?_)
  have o2:IsPair g2 TO a b:=s2.extBut _ _ D.TOi1 (s1.extBut _ _ D.TOz c3)
  refine aa (cg o2 rfl ?_);refine aa (iF o2 λg3 o3 s3=>?_);refine aa (fG (ak ?_))
  refine aa (aa (iO ?_))
  show wpAny _ _ (Builtin.SmallTypes.nextOf (.ref i2)>>=_) _ _ _;refine aa (vV (hn.ext λa ha o ho=>s3.extBut _ _ (na a ha).2.1 (s2.extBut _ _ (na a ha).2.2.1 (s1.extBut _ _ (na a ha).1 ho))) (λa ha=>(na a ha).2.2.2) (fS (fS (fS c5 s1 D.i2z) s2 D.i12.symm) s3 D.TOi2.symm) (jG (jG (jG c7 s1 D.l2z) s2 D.l2i1) s3 D.l2TO) hy λg4 x s4 ⟨o,o1,TB⟩=>?_)
  have z4:IsZip g4 z TI TO .ellipsis:=s4 _ _ D.i2z.symm (s3.extBut _ _ D.TOz.symm (s2.extBut _ _ D.i1z.symm k1))
  exact dX z4 ς λg5 _ s5=>q g5 x (λc u n1 n2 n3 n4 e=>s5.extBut _ _ n1 (s4 _ _ n4 (s3.extBut _ _ n2 (s2.extBut _ _ n3 (s1.extBut _ _ n1 e))))) ⟨o,s5.extBut _ _ (vL z4 o1 TB) o1,TB⟩
def TY {h:Heap} (x:h.IsList a vs) (o:Obj):(h.push o).IsList a vs:=x.at λu e=>af _ e
def CQ (t1 t2:ai) (xs ys:Array ag):Meets (Builtin.«zip.__new__» ⟨[.type "zip",.ref t1,.ref t2],[]⟩) (λ_ R s=>s.heap.IsList t1 xs/\s.heap.IsList t2 ys/\∀h1 h2 h3 h4 h5:Heap,
   h1=s.heap.push {cls:=.type "list_iterator",data:=.fields #[.ref t1,.int 0 0]}->h2=h1.push {cls:=.type "list_iterator",data:=.fields #[.ref t2,.int 0 0]}->h3=h2.push {cls:=.type "tuple",data:=.seq #[.ref s.heap.objs.size,.ref h1.objs.size]}->
   h4=h3.push {cls:=.type "tuple",data:=.seq #[.none,.none]}->h5=h4.push {cls:=.type "zip",data:=.fields #[.none,.bool false,.bool false,.ref h2.objs.size,.ref h3.objs.size]}->R (.ok (.ret (.ref h4.objs.size))) {s with heap:=h5}):=
 .of_wp λprog w A R s h=>by
  obtain⟨hp,g,d,tk,os⟩:=s
  obtain⟨p1,p2,h⟩:=h
  have Lo:=sub_zip
  have q1:Heap.IsList (Shared.heap ⟨hp,g,d,tk,os⟩) t1 xs:=p1
  have q2:Heap.IsList (Shared.heap ⟨hp.push {cls:=.type "list_iterator",data:=.fields #[.ref t1,.int 0 0]},g,d,tk,os⟩) t2 ys:=TY p2 _
  wp_walk using iE q1,iE q2
  exact⟨_,rfl,h _ _ _ _ _ rfl rfl rfl rfl rfl⟩
def Gb (p1:s.heap.IsList t1 xs) (p2:s.heap.IsList t2 ys)
  (q:∀h',IsZip h' (s.heap.objs.size+4) (s.heap.objs.size+2) (s.heap.objs.size+3) .none->IsPair h' (s.heap.objs.size+2) (.ref s.heap.objs.size) (.ref (s.heap.objs.size+1))->IsPair h' (s.heap.objs.size+3) .none .none->
   h'.IsListIter s.heap.objs.size t1 0->h'.IsListIter (s.heap.objs.size+1) t2 0->(∀c o,s.heap.get? c=some o->h'.get? c=some o)->Q (.ref (s.heap.objs.size+4)) {s with heap:=h'}):
  wpAny (model prog w) A (call (.type "zip") [.ref t1,.ref t2]) Q E s:=by
 refine callType_new F.called_zip δ (F.typeCall_zip_2 _ _) (F.newCall_zip_2 _ _) (λobj=>F.args_object_init_3 obj _ _) F.entry_zip_new (CQ t1 t2 xs ys) ⟨p1,p2,λh1 h2 h3 h4 h5 e1 e2 e3 e4 e5=>?_⟩
 have m1:h1.objs.size=s.heap.objs.size+1:=by rw[e1];exact cf ..
 have m2:h2.objs.size=s.heap.objs.size+2:=by rw[e2,cf,m1]
 have m3:h3.objs.size=s.heap.objs.size+3:=by rw[e3,cf,m2]
 have m4:h4.objs.size=s.heap.objs.size+4:=by rw[e4,cf,m3]
 have u5:∀c o,h4.get? c=some o->h5.get? c=some o:=λc o e=>by rw[e5];exact af _ e
 have u4:∀c o,h3.get? c=some o->h4.get? c=some o:=λc o e=>by rw[e4];exact af _ e
 have u3:∀c o,h2.get? c=some o->h3.get? c=some o:=λc o e=>by rw[e3];exact af _ e
 have u2:∀c o,h1.get? c=some o->h2.get? c=some o:=λc o e=>by rw[e2];exact af _ e
 have u1:∀c o,s.heap.get? c=some o->h1.get? c=some o:=λc o e=>by rw[e1];exact af _ e
 have f5:IsZip h5 (s.heap.objs.size+4) (s.heap.objs.size+2) (s.heap.objs.size+3) .none:=by
  rw[<-m4,<-m3,<-m2,e5];exact az _ rfl
 have f4:IsPair h4 (s.heap.objs.size+3) .none .none:=by rw[<-m3,e4];exact az _ rfl
 have f3:IsPair h3 (s.heap.objs.size+2) (.ref s.heap.objs.size) (.ref (s.heap.objs.size+1)):=by rw[<-m2,<-m1,e3];exact az _ rfl
 have f2:h2.IsListIter (s.heap.objs.size+1) t2 0:=⟨_,by rw[<-m1,e2];exact az _ rfl,rfl,rfl⟩
 have f1:h1.IsListIter s.heap.objs.size t1 0:=⟨_,by rw[e1];exact az _ rfl,rfl,rfl⟩
 rw[m4]
 obtain⟨v1,v2,v3⟩:=f1
 obtain⟨w1,w2,w3⟩:=f2
 exact⟨⟨_,f5,rfl⟩,q h5 f5 (u5 _ _ (u4 _ _ f3)) (u5 _ _ f4) ⟨v1,u5 _ _ (u4 _ _ (u3 _ _ (u2 _ _ v2))),v3⟩ ⟨w1,u5 _ _ (u4 _ _ (u3 _ _ w2)),w3⟩ λc o e=>u5 _ _ (u4 _ _ (u3 _ _ (u2 _ _ (u1 _ _ e))))⟩
end
section
variable {prog:aM}{w:bB}{A:bG}{E:ag->aj->Prop}{s:aj}
def IF (hn:Iz A s.heap) (na:∀a,A.handled=some (.ref a)->a≠J) (a1:IsTupIter s.heap J t n) (a2:IsTup s.heap t xs) (a3:xs[n]?=none)
  (q:∀h',Heap.ExtBut J s.heap h'->Q none {s with heap:=h'}):wpAny (model prog w) A (pyNext (.ref J)) Q E s:=by
 obtain⟨jo,j1,j2,j3⟩:=id a1
 obtain⟨to,t1,_,tn,t2⟩:=a2
 unfold pyNext
 refine aa (vh (cH (name:=Str.ofString "__next__") a1.typeIs slot_tupleiter_next (dQ slot_tupleiter_next a1.typeIs entry_tupleiter_next ?_ (args_tupleiter_next _))))
 refine(aa (bL j1 j3 (x:=.ref t) rfl ?_):wpAny _ _ (field (.ref J) 0>>=_) _ _ s)
 refine(?_:wpAny _ _ (if(Value.ref t==Value.none)=true then _ else _) _ _ s)
 rw[aO ς]
 refine(aa (bL j1 j3 (x:=.int n 0) rfl ?_):wpAny _ _ (field (.ref J) 1>>=_) _ _ s)
 refine(aa (cg t1 t2 ?_):wpAny _ _ (seqItems? (.ref t)>>=_) _ _ s)
 simp only[a3,jv]
 refine aa (ki (aa (i9 j1 j3 ς ?_)))
 refine(aa ?_:wpAny _ _ (newExc (.type "StopIteration") []>>=_) _ _ _)
 simp only[newTuple,newExc]
 refine aa (bE (aa (m:=firstArgMember _ _) (BK (a:=Value.none) (by first|rfl|(simp only[firstArgMember];rfl)) (bE ?_ (by size_fits)))) (by size_fits))
 have KH:Iz A.in1 s.heap:=hn
 refine vS (KH.ext λa ha o ho=>af _ (af _ ((aY _ _ (cD (na a ha))).trans ho))) (az _ rfl) rfl (by simp;omega) (λa ha z=>?_) λh' kp ⟨o,o1,o2⟩=>?_
 .obtain⟨a',oa,ws,e,ho,_⟩:=hn
  have ea:a'=a:=by have:=e.symm.trans ha;injection this with this;injection this
  rw[ea] at ho
  have l1:=aC ho
  rw[z,cf] at l1
  rw[kN] at l1
  exact absurd l1 (iV.mpr (dH _ _))
 .refine aa (Oh (T:="StopIteration") (b:=true) ⟨o,o1,o2⟩ isSubtype_stop (ak (q _ λb u nb hb=>kp b u (λz=>?_) (af _ (af _ ((aY _ _ (cD nb)).trans hb))))))
  have l1:=aC hb
  rw[z,cf] at l1
  rw[kN] at l1
  exact absurd l1 (iV.mpr (dH _ _))
def AN {kk} (hn:Iz A s.heap) (a2:IsTup s.heap t xs) (hl:(assignEach elts env).length=xs.size) (Fw:(assignEach elts env).findIdx? (·.1)=none)
  (q:∀h',Heap.ExtBut s.heap.objs.size s.heap h'->wpAny (model prog w) A (assignInOrder ((assignEach elts env).map (·.2)) xs.toList) Q E {s with heap:=h'}):wpAny (model prog w) A (assign (.Tuple elts kk pos) env (.ref t)) Q E s:=by
 have ne:t≠s.heap.objs.size:=by
  obtain⟨o,e,_⟩:=a2
  exact ba (aC e)
 rw[assign_Tuple]
 refine aa (jN ?_)
 unfold unpack
 rw[hl,Fw]
 refine aa (cO ?_)
 unfold unpackItems
 refine aa ?_
 unfold notIterableAtAll
 refine aa (wpAny_specialOf a2.typeIs slot_tuple_iter.lookup (ak ?_))
 simp only[fm,nu]
 refine aa (cO (iter_tuple a2 ?_))
 refine aa (cO (draw_tuple ne xs.size 0 _ _ ⟨_,az _ rfl,rfl,rfl⟩ (a2.push _) ω λg b1 b2=>?_))
 have all:List.take xs.size (List.drop 0 xs.toList)=xs.toList:=cY (fj ς)
 rw[all,aO ς]
 have old:∀{b:ai} {o:Obj},s.heap.get? b=some o->g.get? b=some o:=λ{b o} e=>b2.extBut b o (ba (aC e)) (af _ e)
 refine aa (cO (IF (hn.ext λa ha o ho=>old ho) (λa ha z=>?_) b1 ((a2.push _).extBut b2.extBut ne) ς λh2 e2=>?_))
 .obtain⟨a',oa,ws,e,ho,_⟩:=hn
  have ea:a'=a:=by have:=e.symm.trans ha;injection this with this;injection this
  rw[ea,z] at ho
  exact absurd (aC ho) (fU _)
 .simp only[Option.isSome_none,fm,nu]
  exact ak (q h2 λb o nb e=>e2 b o nb (b2.extBut b o nb (af _ e)))
end
section
variable {X:Cx}
end
structure o7 (K:Φ) (C:ai):Prop where
 ga:findIn K (.ref C) "__getattribute__"=some (some (.builtin "BaseException.__getattribute__"))
 no:findIn K (.ref C) "__getattr__"=some none
 cl:findIn K (.ref C) "__class__"=some (some (.builtin "object.__class__"))
 ob:mroIn K C (.type "object")=some true
 be:mroIn K C (.type "BaseException")=some true
 cs:(clsIn K C).isSome=true
def ExcAt (a C:ai) (h:Heap):Prop:=∃oe vs,h.get? a=some oe/\oe.cls=.ref C/\oe.dict=none/\oe.data=.fields vs
section
variable {prog:aM}{w:bB}{A:bG}{E:ag->aj->Prop}{K:Φ}{h:Heap}{g:Array GenState}{d:Drawn}{t:Nat}{os:OsState}{a C:ai}
def EG (h1:h.get? a=some oe) (h2:oe.cls=.ref C) (h3:oe.dict=none) (h4:oe.data=.fields vs):InstAt h a oe C none:=by
 refine⟨h1,h2,?_,?_⟩
 .obtain⟨_,_,dt,_⟩:=oe
  have:dt=.fields vs:=h4
  subst this
  rfl
 .rw[h3];trivial
def Gc (X:K.In h) (F:o7 K C) (p:ExcAt a C h) (q:Q () ⟨h,g,d,t,os⟩):wpAny (model prog w) A (checkBuiltinCall "BaseException.__getattribute__" ⟨[.ref a,IG],[]⟩) Q E ⟨h,g,d,t,os⟩:=by
 obtain⟨oe,vs,h1,h2,h3,h4⟩:=p
 have L0:Looks (model prog w) h (typeOf (.ref a)) (.ref C):=h2▸(oi h1).andThen .now
 have L1:=looks_mroIn (M:=model prog w) X F.be
 have hk:builtinKind "BaseException.__getattribute__"=some .slot:=by decide+kernel
 have hs:splitId "BaseException.__getattribute__"=some ("BaseException","__getattribute__"):=by decide+kernel
 have ha:=PySem.F.args_bexc_ga (.ref a) IG
 simp only[checkBuiltinCall,hk,hs]
 refine aa ?_
 unfold isInstance
 repeat (first|with_reducible refine L0.at ?_|with_reducible refine L1.at ?_|wp_step)
 exact q
def Gd (X:K.In h) (F:o7 K C) (p:ExcAt a C h) (q:Q (.done (.ret (.ref C))) ⟨h,g,d,t,os⟩):
  wpAny (model prog w) A (Builtin.«object.__getattribute__» ⟨[.ref a,.str "__class__" tk],[]⟩) Q E ⟨h,g,d,t,os⟩:=by
 obtain⟨oe,vs,h1,h2,h3,h4⟩:=p
 have L0:Looks (model prog w) h (typeOf (.ref a)) (.ref C):=h2▸(oi h1).andThen .now
 have L2:=iP (M:=model prog w) X F.cl
 have hT5:(⟨h,g,d,t,os⟩:aj).TypeIs (.builtin "object.__class__") "getset_descriptor":=jx
 have f5:=jx
 have f6:=PySem.F.slot_gs_get.lookup
 have f7:=PySem.F.slot_gs_set.lookup
 repeat (any_goals (first|assumption|with_reducible refine L0.at ?_|with_reducible refine L2.at ?_|wp_step))
 refine class_get (s:=⟨h,g,d,t,os⟩) X (EG h1 h2 h3 h4) F.ob ?_
 repeat (any_goals (first|assumption|wp_step))
def Pz (X:K.In h) (F:o7 K C) (p:ExcAt a C h) (q:Q (.ref C) ⟨h,g,d,t,os⟩):
  wpAny (model prog w) A (getAttrBy (.ref a) (.str "__class__" tk) false) Q E ⟨h,g,d,t,os⟩:=by
 have p':=p
 obtain⟨oe,vs,h1,h2,h3,h4⟩:=p
 have L0:Looks (model prog w) h (typeOf (.ref a)) (.ref C):=h2▸(oi h1).andThen .now
 have L1:=iP (M:=model prog w) X F.ga
 have L2:=iP (M:=model prog w) X F.no
 have b0:=fH.ga.bind (.ref a)
 have n0:(onTheHeap (Value.ref C)&&Value.builtin "BaseException.__getattribute__"==Value.builtin "object.__getattribute__")=false:=by
  have n1:(Value.builtin "BaseException.__getattribute__"==Value.builtin "object.__getattribute__")=false:=by decide+kernel
  rw[n1];rfl
 repeat (any_goals (first|assumption|with_reducible refine L0.at ?_|with_reducible refine L1.at ?_|with_reducible refine L2.at ?_|wp_step))
 refine kr fH.ga.plain vn (Gc X F p' (Gd X F p' ?_))
 repeat (any_goals (first|assumption|wp_step))
def IH (X:K.In h) (F:o7 K C) (p:ExcAt a C h) (q:Q (some (.ref C)) ⟨h,g,d,t+1,os⟩):wpAny (model prog w) A (getAttr? (.ref a) "__class__") Q E ⟨h,g,d,t,os⟩:=by
 unfold getAttr? getAttrBy?
 repeat (any_goals (first|assumption|with_reducible apply Pz X F p|wp_step))
end
def II {K:Φ}{a C:ai}(F:o7 K C):KitX K (.ref a) (.ref C) (ExcAt a C) where
 ty:=λM h _ p=>by
  obtain⟨oe,vs,h1,h2,_⟩:=p
  exact h2▸(oi h1).andThen .now
 it:=λ_ _ X _=>by
  obtain⟨cd,hc⟩:=ik.mp F.cs
  unfold clsIn at hc
  split at hc
  .rename_i c' d' Yb Oy ho
   intro A' Q' E' s' k q
   unfold isType loadHead
   exact aa (BH (k _ _ (X _ _ ho)) (ak q))
  .cases hc
 ne:=λh tp dd cF n sl X Yc=>by
  obtain⟨cd,hc⟩:=ik.mp F.cs
  refine hW.mpr λq=>?_
  have e:C=tp:=Value.ref.inj (iT.mp q)
  subst e
  unfold clsIn at hc
  split at hc
  .rename_i c' d' Yb Oy ho
   have z:=(X _ _ ho).symm.trans Yc
   cases z
  .cases hc
 ca:=λ{_ _ _ _ _ s} X p k=>by
  obtain⟨h,g,d,t,os⟩:=s
  exact IH X F p k
structure qr (k:Nat) (a:ai) (A:bG):Prop where
 hd:A.handled=some (.ref a)
 dp:A.depth+3*k+5<recursionLimit
 un:A.units+16*k+200<cLine
 gd:A.guards=some []
def qr.of (r:eS k A):qr k a (A.mark (some (.ref a))):=⟨rfl,r.dp,r.un,r.gd⟩
def qr.deeper (r:qr (k+1) a A) (env:Env):qr k a (A.deeper env):=
 ⟨r.hd,by have:=r.dp;show A.depth+1+3*k+5<_;omega,by have:=r.un;show A.units+3+16*k+200<_;omega,r.gd⟩
abbrev Cx.Wp (X:Cx) (A:bG):Cx:={X with A:=A,calm:=false,xe:=λ_ _=>False}
def Inv.Wp (I:Inv X ac Z H s) (f:A.frames=some X.stack):Inv (X.Wp A) ac Z H s:=
 ⟨⟨I.ok.mod,I.ok.kind,I.ok.glob,I.ok.blt,I.ok.above,I.ok.inj,I.ok.has,I.ok.KD,(λz=>nomatch z),f,I.ok.K2,I.ok.Ft,I.ok.bs,I.ok.BU,I.ok.xw,I.ok.uz,I.ok.mO,I.ok.Eb⟩,I.os,I.bare,I.base,I.loc,I.cell,I.free,I.jq,I.pin,I.eN,I.len⟩
structure AO (P:aM) (w:bB) (K:Φ) (mg:Str->Option ag) (base:Heap) (k:Nat) (f:ai) (fd:FuncData) (ps:List Str) (sp:ai->Sp):Prop where
 len:∀a vs H Q E,sp a vs H Q E->vs.length=ps.length
 run:∀(a:ai) (A:bG) (outer:List Env) (s:aj) (H:Hp) (args:Args) (us:List ag) (vs:List V) (Q:VK),qr k a A->uE P w K mg base A outer s H->BindsTo s fd args (ps.zip us)->cz vs us->sp a vs H Q E0->
  codeAny (model P w) A (.call (.ref f) args) (CR fT outer P w H s Q E0) s
abbrev vW (P:aM) (w:bB) (K:Φ) (mg:Str->Option ag) (base:Heap) (N:List Str) (qual:Str) (scope:Scope) (f:ai) (cd:ag) (A:bG) (outer:List Env) (s:aj) (H:Hp):Cx:=
 (eY fT P w K mg base N qual scope f cd {A with handled:=none} outer s H E0).Wp (A.deeper (envOfC qual scope s.heap.objs.size f cd))
def ji.okH {K:Φ} {st:Stmt} (F:ji K x qual st f fd) (S:bW N ps (aw st)) (len:∀a vs H Q E,sp a vs H Q E->vs.length=ps.length)
  (vF:∀(a:ai) (cdv:ag) (A:bG) (outer:List Env) (s:aj) (H:Hp) (vs:List V) (Q:VK),qr k a (A.deeper (envOfC qual (aw st) s.heap.objs.size f cdv))->sp a vs H Q E0->
   ∃t,xx (vW P w K mg base N qual (aw st) f cdv A outer s H) (fC st) t/\t {nx:=λ_ H'=>Q .eK H',rt:=Q} (start N vs) H):AO P w K mg base (k+1) f fd ps sp:=by
 obtain⟨oc,od,kV,doc,pm,an,cdv,ct,vE,rfl,lk,BV⟩:=F.ex
 refine⟨len,λa A outer s H args us vs Q hr e0 hb r FJ=>?_⟩
 have hl:=len _ _ _ _ _ FJ
 have qf:K.In s.heap:=e0.mod.qf.keeps λb o e=>(e0.bs b o e).1
 have lim:s.heap.NoLimit:=e0.mod.nolimit.keeps λb o e=>(e0.bs b o e).1
 have kinds:∀y∈ps.zip us,(aw st).names.lookup y.1=some .local\/((aw st).names.lookup y.1=some .cell/\((cellsFrom (s.heap.objs.size+1) (aw st).names []).lookup y.1).isSome=true):=by
  rintro⟨n,v⟩ hy
  rcases S.par n (uN hy).1 with z|z
  .exact .inl z
  .exact .inr ⟨z,uo _ _ _ (.inl z)⟩
 refine codeAny_call_function (by have:=hr.dp;omega) (qf _ _ lk) rfl S.co S.gen rfl (PySem.W.codeRec_of qf BV) (hb _ _ _ _ ?_)
 refine wpAny_newFunctionEnv_cells S.kind kinds λenv he s1 x=>?_
 subst he
 refine⟨lim.keeps x.toInCall.keep,codeAny_func ?_⟩
 obtain⟨t,ht,hq⟩:=vF a cdv A outer s H vs Q (hr.deeper _) FJ
 have e1:uE P w K mg base {A with handled:=none} outer s H:=⟨e0.frames,e0.mod,e0.bs,e0.BU,e0.mO,e0.Eb,e0.eN,e0.bare⟩
 have I0:Inv (eY fT P w K mg base N qual (aw st) f cdv {A with handled:=none} outer s H E0) [] (start N vs) H s1:=x6 S rfl e1 hl r x
 have I:=I0.Wp (A:=A.deeper (envOfC qual (aw st) s.heap.objs.size f cdv)) (Around.frames_deeper e0.frames)
 refine bM (ht [] s1 (start N vs) H _ I hq) (λfl s' hs=>?_) λe s' hs=>False.elim hs
 cases fl with
 |ret u=>
  obtain⟨v,bX,H',J,rv,q⟩:=hs
  exact⟨v,H',J.os,J.bare,J.base,J.eN,rv,q⟩
 |next=>
  obtain⟨bX,H',J,q⟩:=hs
  exact⟨V.eK,H',J.os,J.bare,J.base,J.eN,rfl,q⟩
 |brk=>
  obtain⟨_,_,_,q⟩:=hs
  exact False.elim q
 |cont=>
  obtain⟨_,_,_,q⟩:=hs
  exact False.elim q
def IJ (F:AO X.prog X.w X.K X.mg X.base k f fd ps sp) (hr:qr k a X.A) (hg:Gl X x) (hm:X.mg x=some (.ref f)) (hk:PySem.W.keepIn X.K (.ref f)=true) (hb:Binds X.K fd ps [])
  (ha:PA X (e::es) t) (qy:(x==("__debug__":Str))=false:=by decide) (he:starEach (e::es) X.env=(false,eval e X.env)::starEach es X.env:=by rfl) (ky:(backTo pos (starEach es X.env)).any (·.1)=false:=by rfl):
  PE X (.Call (.Name x p) (e::es) [] pos) (lV (sp a) [] E0 t):=by
 intro ac s Z H Q I h
 refine gf (jy I hg hm ?_ qy)
 refine iU (h₀:=X.base) I.ok.mod.qf hk (fq (ha pos ac s Z H _ I h) λus s1 cZ=>?_) he ky
 obtain⟨vs,H1,I1,r,q⟩:=cZ
 refine⟨I1.kY,?_⟩
 have r2:cz (vs++ []) (us++ []):=r.append .nil
 have hl:(us++ []).length=ps.length:=by rw[<-r2.length];exact F.len _ _ _ _ _ q
 refine oJ (kK (F.run a X.A X.stack s1 H1 ⟨us,[]⟩ (us++ []) (vs++ []) Q hr I1.FG (hb s1 us I1.kY hl) r2 q) λr s' hq=>?_)
 cases r with
 |error e=>exact False.elim hq
 |ok fl=>
  cases fl with
  |ret u=>exact I1.after hq
  |next=>exact False.elim hq
  |brk=>exact False.elim hq
  |cont=>exact False.elim hq
def IK:V->Option ag
 | .ref D=>some (.ref D)
 | .ty n=>some (.type n)
 |_=>none
def PB (K:Φ):List V->Hp->VK->Prop:=λxs H Q=>∃a C c cv b,xs=[.ref a,c]/\H a=some (X8 a (.ref C))/\o7 K C/\IK c=some cv/\kitOne K (.ref C) cv=some b/\Q (.bl b) H
def CS:gN X (.builtin "isinstance") (PB X.K):=by
 intro ac s Z H xs us Q I r h
 obtain⟨a,C,c,cv,b,rfl,ha,F,hc,e,q⟩:=h
 obtain⟨u,u',rfl,r1,r2⟩:=vals2 r
 cases(show u=Value.ref a from r1)
 have hu:u'=cv:=by
  cases c<;>simp only[IK,Option.some.injEq,reduceCtorEq] at hc
  .subst hc;exact r2
  .subst hc;exact r2
 subst hu
 obtain⟨⟨oe,vs,h1,h2,h3,h4,_⟩,_⟩:=I.eN a _ ha
 exact kia_one (II F) I.kY ⟨oe,vs,h1,h2,h3,h4⟩ e (λz=>nomatch z) λtk=>⟨.bl b,H,I.tok tk,rfl,q⟩
section
variable {M:Model}{A:bG}{E:ag->aj->Prop}{s:aj}{K:Φ}{x C f:ai}{o:Obj}{name:Str}
def IL (qf:K.In s.heap) (hx:s.heap.get? x=some o) (hc:o.cls=.ref C) (hf:findIn K (.ref C) name=some r) (q:Q r s):wpAny M A (specialOf (.ref x) name) Q E s:=by
 unfold specialOf
 refine aa (wpAny_typeOf_ref hx ?_)
 rw[hc]
 exact(iP qf hf).here q
def CV (qf:K.In s.heap) (hx:s.heap.get? x=some o) (hc:o.cls=.ref C) (hf:findIn K (.ref C) name=some (some (.ref f))) (OC:isFn K (.ref f)=true)
  (IM:wpAny M A (call (.ref f) (.ref x::args)) (λv=>Q (some v)) E s):wpAny M A (callSpecial? (.ref x) name args) Q E s:=by
 unfold callSpecial?
 refine aa (IL qf hx hc hf ?_)
 refine cO (aa ((bind_fn qf (.ref x) (iT.mp OC)).here ?_))
 exact aa (bM IM (λv s' h'=>ak h') λ_ _ h'=>h')
end
section
variable {prog:aM}{w:bB}{A:bG}{E:ag->aj->Prop}{s:aj}{K:Φ}{x y C f:ai}{o oy:Obj}
def PC (qf:K.In s.heap) (hx:s.heap.get? x=some o) (hc:o.cls=.ref C) (hf:findIn K (.ref C) "__len__"=some (some (.ref f))) (OC:isFn K (.ref f)=true)
  (IM:wpAny (model prog w) A.in1 (call (.ref f) [.ref x]) (λr s'=>∃n u,r=.int n u/\0<=n/\n<2^63/\Q (.int n s'.toks) {s' with toks:=s'.toks+1}) E s):
  wpAny (model prog w) A (call (.builtin "len") [.ref x]) Q E s:=by
 refine ur kind_len plain_len entry_len (args_len1 _) ?_
 unfold Builtin.«len»
 refine aa (m:=oneArg "len" _) (ak ?_)
 refine aa (m:=callSpecial? (.ref x) (Str.ofString "__len__")) (CV qf hx hc hf OC (bM IM (λr s' hr=>?_) λ_ _ y=>y))
 obtain⟨n,u,rfl,h0,h1,hq⟩:=hr
 refine aa (cO (ak ?_))
 refine aa (fG ?_)
 show wpAny _ _ (if n<0 then _ else _) _ _ _
 rw[aO ω]
 show wpAny _ _ (if n>=2^63 then _ else _) _ _ _
 rw[aO ω]
 exact aa (wpAny_mkInt (ak ⟨_,rfl,hq⟩))
end
section
variable {X:Cx}{k:Nat}{f C:ai}{fd:FuncData}{ps:List Str}{sp:Sp}
def LJ {ac:List (ai×Obj)}{Z:St}{H:Hp}{s:aj}{Q:VK}{R:ag->aj->Prop}{us:List ag}{vs:List V}(F:dW X.prog X.w X.K X.mg X.base fT k f fd ps sp) (hr:eS (k+1) X.A) (hb:Binds X.K fd ps [])
  (I:Inv X ac Z H s) (r:cz vs us) (h:sp vs H Q E0) (hR:∀u s',EP X ac Z Q u s'->R u s'):wpAny (model X.prog X.w) X.A.in1 (call (.ref f) us) R X.xe s:=by
 have hl:(us++ []).length=ps.length:=by rw[eR,<-r.length];exact F.len _ _ _ _ h
 refine oJ (kK (F.run X.A.in1 X.stack s H ⟨us,[]⟩ (us++ []) vs Q E0 hr.in1 I.FG.in1 (hb s us I.kY hl) (by rw[eR];exact r) h) λr s' hq=>?_)
 cases r with
 |error e=>exact False.elim hq
 |ok fl=>
  cases fl with
  |ret u=>exact hR _ _ (I.after hq)
  |next=>exact False.elim hq
  |brk=>exact False.elim hq
  |cont=>exact False.elim hq
def LK (eN:qi P w H h) (e:H a=some (.ins C dx fs)):∃o,h.get? a=some o/\o.cls=.ref C:=by
 obtain⟨d,z,ne,ob,_⟩:=(show fV P w H h a (.ins C dx fs) from eN a _ e)
 exact⟨_,ob,rfl⟩
def NG (C:ai) (sp:Sp):List V->Hp->VK->Prop:=λxs H Q=>∃a dx fs,xs=[.ref a]/\H a=some (.ins C dx fs)/\sp [.ref a] H (λv H'=>∃n:Nat,v=.int n/\n<2^62/\Q (.int n) H') E0
def Ge (F:dW X.prog X.w X.K X.mg X.base fT k f fd ps sp) (hr:eS (k+1) X.A) (hb:Binds X.K fd ps []) (hm:yY X.K C "__len__" f):gN X (.builtin "len") (NG C sp):=by
 rintro ac s Z H xs us Q I r ⟨a,dx,fs,rfl,ea,h⟩
 obtain⟨u,nW,rfl,ru,rr⟩:∃u nW,us=u::nW/\RelV (.ref a) u/\cz [] nW:=by cases r with|cons q t=>exact⟨_,_,rfl,q,t⟩
 cases rr
 obtain rfl:u=Value.ref a:=ru
 obtain⟨o,ho,hc⟩:=LK I.eN ea
 refine PC I.kY ho hc hm.at_ hm.fn (LJ (vs:=[.ref a]) F hr hb I (.cons rfl .nil) h ?_)
 rintro u s' ⟨v,H',I',rv,n,rfl,hn,q⟩
 obtain⟨t,rfl⟩:=rv
 exact⟨n,t,rfl,ω,ω,.int n,H',I'.tok _,⟨_,rfl⟩,q⟩
end
end L2
local macro_rules
 | `(tactic| exists $F, $c) => do
  let i (x : Lean.Name) := Lean.mkIdent x
  `(tactic| refine $F $c (fun $(i `vs) $(i `H) $(i `Q) $(i `E) $(i `h) => ?_) (fun $(i `cdv) $(i `A) $(i `outer) $(i `s) $(i `H) $(i `vs) $(i `Q) $(i `E) $(i `hr) $(i `h) => ?_))
namespace K12
open PySem L2
def lF (h:∀D':Ends,(∀bX H',u D bX H'->D'.nx bX H')->t D' Z H):vB t u D Z H:=h {D with nx:=u D} λ_ _ z=>z
def iB (h0:Z[i]?=some (some (.ref t))) (h:bZ K H t xs) (h1:qA xs j=some x) (q:Q x H):gJ (gj K) (b_ i) (tC (.int j)) Z H Q:=⟨_,h0,t,xs,j,x,rfl,rfl,h,h1,q⟩
def CW (h0:Z[i]?=some (some (.ref t))) (h:cT K H t xs) (h1:qA xs j=some x) (q:Q x H):gJ (Le K) (b_ i) (tC (.int j)) Z H Q:=⟨_,h0,t,xs,j,x,rfl,rfl,h,h1,q⟩
def Gf (h:bZ K H t [x,y]) (q:Q ((Z.set i (some x)).set j (some y)) H):Fv K 2 (kD (dI i) (kD (dI j) Al)) (.ref t) Z H Q:=⟨t,_,rfl,h,rfl,_,_,rfl,_,_,rfl,rfl,q⟩
def TZ (h:bZ K H t [x,y,z]) (q:Q (((Z.set i (some x)).set j (some y)).set k (some z)) H):Fv K 3 (kD (dI i) (kD (dI j) (kD (dI k) Al))) (.ref t) Z H Q:=⟨t,_,rfl,h,rfl,_,_,rfl,_,_,rfl,_,_,rfl,rfl,q⟩
section
variable {P:aM}{w:bB}{K:Φ}{mg:Str->Option ag}{base:Heap}
def top (i:Nat):Stmt:=PySem.Challenge.pw_rowtrim_k12_whole_clubs.main.body.getD i (.Pass ⟨0,0,0,0⟩)
abbrev CY:Stmt:=top 16
abbrev IP:Stmt:=top 17
abbrev zk:Stmt:=top 33
abbrev CZ:Stmt:=top 34
structure Txt (mg:Str->Option ag):Prop where
 ValueError:mg "ValueError"=none
 abs:mg "abs"=none
 all:mg "all"=none
 any:mg "any"=none
 bool:mg "bool"=none
 enum:mg "enumerate"=none
 int:mg "int"=none
 tO:mg "isinstance"=none
 len:mg "len"=none
 list:mg "list"=none
 max:mg "max"=none
 min:mg "min"=none
 range:mg "range"=none
 sorted:mg "sorted"=none
 str:mg "str"=none
 sum:mg "sum"=none
 tuple:mg "tuple"=none
 zip:mg "zip"=none
 LN:∃t,mg "LONGEST_NAME"=some (.int 8 t)
 MC:∃t,mg "MOST_IN_CREW"=some (.int 4 t)
 LG:∃t,mg "LONGEST"=some (.int 1000000000 t)
 HV:∃t,mg "HEAVIEST"=some (.int 1000000 t)
 MR:∃t,mg "MOST_ROWERS"=some (.int 8 t)
def Df (P:aM) (w:bB) (K:Φ) (mg:Str->Option ag) (base:Heap) (k:Nat) (x:Str) (ps:List Str) (sp:Sp):Prop:=
 ∃f fd,dW P w K mg base fT k f fd ps sp/\Binds K fd ps []/\PySem.W.keepIn K (.ref f)=true/\mg x=some (.ref f)
def cC (D:Df X.prog X.w X.K X.mg X.base k x ps sp) (hr:eS k X.A) (ha:PA X (e::es) t) (hg:Gl X x:=by rfl) (qy:(x==("__debug__":Str))=false:=by decide)
  (he:starEach (e::es) X.env=(false,eval e X.env)::starEach es X.env:=by rfl) (ky:(backTo pos (starEach es X.env)).any (·.1)=false:=by rfl):PE X (.Call (.Name x p) (e::es) [] pos) (lV sp [] E0 t):=by
 obtain⟨f,fd,F,b,kp,m⟩:=D
 exact K_ F hr hg m kp b .nil Aw ha qy he ky
def xF (p:PyData->Bool):Sp:=λvs H Q _=>∃k d v,vs=[v]/\Tells H k d v/\rL d/\∀H',a_ H H'->Q (.bl (p d)) H'
def vX:PyData->Bool
 | .int _=>true
 |_=>false
def yq (d:PyData):(zZ d "int"&& !zZ d "bool")=vX d:=by cases d<;>rfl
def scW:bW ["thing"] ["thing"] (aw CY):={}
def IQ (F:ji K "is_whole" "is_whole" CY f fd) (T:Txt mg):dW P w K mg base fT 1 f fd ["thing"] (xF vX):=by
 exists F.ok,scW
 .obtain⟨k,d,v,rfl,_⟩:=h
  rfl
 .obtain⟨k,d,v,rfl,t,_,q⟩:=h
  refine⟨_,aF (bH (jR (aR fL rfl T.tO aE (ae (pv 0) (ae (gQ (v:=.ty "int") rfl T.int vo rfl) ah)))
   (mh (BX (aR fL rfl T.tO aE (ae (pv 0) (ae (gQ (v:=.ty "bool") rfl T.bool uv rfl) ah))))))),?_⟩
  refine⟨_,rfl,k,_,_,d,rfl,t,.inl rfl,_,rfl,?_⟩
  have e:=yq d
  refine eP (λc=>?_) (λc=>?_)
  .refine⟨_,rfl,k,_,_,d,rfl,t,.inr (.inl rfl),_,rfl,?_⟩
   rw[c,cm] at e
   rw[e]
   exact q H (a_.refl _)
  .rw[show zZ d "int"=false by simpa using c,bj] at e
   rw[e]
   exact q H (a_.refl _)
def fz.closed (hk:scope.kind=.function) (h1:∀y∈scope.names,y.2≠.cell:=by decide+kernel) (h2:∀y∈scope.names,y.2=.local->scope.names.lookup y.1=some .local:=by decide+kernel) (h3:∀y∈scope.names,y.2≠.free:=by decide+kernel):fz X scope N (N.map λ_=>none):=
 ⟨hk,h1,h2,λy hy e=>absurd e (h3 y hy),aq _,λi j x e _=>by
  rw[bY] at e
  cases h:N[i]? with
  |none=>rw[h] at e;cases e
  |some z=>rw[h] at e;cases e⟩
def Yd (x:Str):([x]:List Str).Nodup:=ς
def sgn (c:Nat):Bool:=(!decide ((⟨#[c]⟩:Str).cps.toList<("a":Str).cps.toList))&&(!decide (("z":Str).cps.toList<(⟨#[c]⟩:Str).cps.toList))
def fA:PyData->Bool
 | .str x=>(decide (1<=(x.length:Int))&&decide ((x.length:Int)<=8))&&(x.cps.toList.map sgn).all id
 |_=>false
def EH (h:zZ d "str"=true):∃x,d=.str x:=by
 cases d with
 |str x=>exact⟨x,rfl⟩
 |none=>cases h
 |bool b=>cases h
 |int i=>cases h
 |list ds=>cases h
 |tuple ds=>cases h
 |dict dO=>cases h
def EI (x:Str) (i:Nat) (H:Hp) (hi:i<=x.cps.size):(i=x.cps.size->(Nz x).stop i H)/\(i<x.cps.size->(Nz x).go i H/\∀y H',(Nz x).BY i H y H'->H'=H/\y=.str ⟨#[x.cps.getD i 0]⟩):=by
 refine⟨λe=>e,λe=>⟨e,λy H' q=>?_⟩⟩
 obtain⟨q1,c,q2,q3⟩:=q
 refine⟨q1,?_⟩
 rw[q3]
 simp[Array.getD,e,(jM.mp q2).2]
def tP {x:Str}(h:i<x.cps.size):x.cps.toList.take (i+1)=x.cps.toList.take i++ [x.cps.getD i 0]:=by
 rw[qX]
 congr 1
 simp[Array.getD,h]
def scN:bW ["thing"] ["thing"] (aw IP):={}
def EJ (F:ji K "is_name" "is_name" IP f fd) (T:Txt mg):dW P w K mg base fT 1 f fd ["thing"] (xF fA):=by
 exists F.ok,scN
 .obtain⟨k,d,v,rfl,_⟩:=h
  rfl
 .obtain⟨k,d,v,rfl,t,hf,q⟩:=h
  obtain⟨tl,hLN⟩:=T.LN
  refine⟨_,au (cQ (PW.pt (k_ (fO (fM (aR fL rfl T.tO aE (ae (pv 0) (ae (gQ (v:=.ty "str") rfl T.str gM rfl) ah)))))
    (mf (fO (rD rB rB ao (aR rJ rfl T.len bC (ae (pv 0) ah)) (fY (v:=.int 8) rfl hLN ⟨tl,rfl⟩))))))
    (aF (bH nS)) bN)
   (aF (bH (aR (vJ rfl) rfl T.all vp (ae (kE (N:=["letter"]) rfl (Ih (pv 0)) (fz.closed rfl)
    (λ_ _ _=>aZ (i:=0) (Yd _)) (λ_ _ _=>iX) (λ_ _ _=>rC pR pR aW (pv 0) aW)) ah)))),?_⟩
  refine⟨_,rfl,k,_,_,d,rfl,t,.inr (.inr (.inl rfl)),_,rfl,?_⟩
  refine eP (λc=>?_) (λc=>?_)
  .refine qB ?_
   have e:fA d=false:=by
    cases d with
    |str x=>cases c
    |_=>rfl
   have:=q H (a_.refl _)
   rw[e] at this
   exact this
  .obtain⟨x,rfl⟩:=EH (d:=d) (by simpa using c)
   rw[ff] at t
   subst t
   have hl:=Bd.Ii hf
   refine⟨_,rfl,x,rfl,aA hl δ,_,_,rfl,rfl,_,rfl,?_⟩
   show if decide (1<=(x.length:Int))=true then _ else _
   refine eP (λc1=>?_) (λc1=>?_)
   .refine⟨_,_,rfl,rfl,_,rfl,?_⟩
    refine eP (λc2=>?_) (λc2=>?_)
    .have e:fA (.str x)=false:=by
      have LL:decide ((x.length:Int)<=8)=false:=by simpa using c2
      show((decide (1<=(x.length:Int))&&decide ((x.length:Int)<=8))&&_)=false
      rw[LL,fg,bj]
     have:=q H (a_.refl _)
     rw[e] at this
     exact this
    .have LL:decide ((x.length:Int)<=8)=true:=by simpa using c2
     refine⟨_,rfl,x,rfl,λD hD=>?_⟩
     refine lE (J:=Nz x) (n:=x.cps.size) (f:=λi=>.str ⟨#[x.cps.getD i 0]⟩) (λi ys bX H'=>ys=((x.cps.toList.take i).map sgn).map V.bl/\(∃v,bX=[v])/\H'=upd H D (.lst ys)) hD (by have:x.cps.size=x.length:=rfl;omega)
      ⟨rfl,⟨none,rfl⟩,rfl⟩ (λi ys bX H' hi _ _=>EI x i H' hi) ?_ ?_
     .rintro i ys bX H' hi hy ⟨e1,⟨v,rfl⟩,rfl⟩
      refine⟨_,rfl,_,_,rfl,rfl,_,rfl,?_⟩
      have step:∀b,sgn (x.cps.getD i 0)=b->(upd H D (.lst ys)) D=some (.lst ys)/\((ys++ [V.bl b])=((x.cps.toList.take (i+1)).map sgn).map V.bl/\(∃v,([some (V.str ⟨#[x.cps.getD i 0]⟩)]:St)=[v])/\upd (upd H D (.lst ys)) D (.lst (ys++ [V.bl b]))=upd H D (.lst (ys++ [V.bl b]))):=λb hb=>by
       refine⟨hy,?_,⟨_,rfl⟩,rq⟩
       rw[tP hi,e1,bF,bF,<-hb]
       rfl
      refine eP (λc3=>?_) (λc3=>?_)
      .refine⟨_,_,rfl,rfl,?_⟩
       refine step _ ?_
       show(_&&_)=_
       rw[c3,cm]
      .refine step false ?_
       show(_&&_)=_
       rw[show(!decide ((⟨#[x.cps.getD i 0]⟩:Str).cps.toList<("a":Str).cps.toList))=false by simpa using c3,bj]
     .rintro ys bX H' hy ⟨e1,⟨v,rfl⟩,rfl⟩
      rw[cY ς] at e1
      refine⟨D,(x.cps.toList.map sgn),rfl,cT.of (by rw[hy,e1]),?_⟩
      have:=q (upd H D (.lst ys)) (aP hD _)
      rw[show fA (.str x)=(x.cps.toList.map sgn).all id by
       show((decide (1<=(x.length:Int))&&decide ((x.length:Int)<=8))&&_)=_
       rw[c1,LL,cm,cm]] at this
      exact this
   .refine⟨_,rfl,qB ?_⟩
    have e:fA (.str x)=false:=by
     have c1':decide (1<=(x.length:Int))=false:=by simpa using c1
     show((decide (1<=(x.length:Int))&&decide ((x.length:Int)<=8))&&_)=false
     rw[c1',bj,bj]
    have:=q H (a_.refl _)
    rw[e] at this
    exact this
def IS {x y:V}(h:(!decide (x=y))=true):x≠y:=λe=>by rw[aI e] at h;cases h
def v_eq {x y:V}(h:¬(!decide (x=y))=true):x=y:=by
 by_cases e:x=y
 .exact e
 .exact absurd (by rw[bD e];rfl) h
def eQ:PyData->Bool
 | .int i=>decide (1<=i)&&decide (i<=1000000)
 |_=>false
def Ye:bW ["thing"] ["thing"] (aw zk):={}
def Gg (F:ji K "is_weight" "is_weight" zk f fd) (T:Txt mg) (DW:Df P w K mg base 1 "is_whole" ["thing"] (xF vX)):dW P w K mg base fT 2 f fd ["thing"] (xF eQ):=by
 exists F.ok,Ye
 .obtain⟨k,d,v,rfl,_⟩:=h
  rfl
 .obtain⟨k,d,v,rfl,t,hf,q⟩:=h
  obtain⟨th,Yf⟩:=T.HV
  refine⟨_,aF (bH (jR (cC DW hr (ae (pv 0) ah)) (mh (rC rB rB ao (pv 0) (fY (v:=.int 1000000) rfl Yf ⟨th,rfl⟩))))),?_⟩
  refine⟨_,rfl,k,d,v,rfl,t,hf,λH1 s1=>⟨_,rfl,?_⟩⟩
  refine eP (λc=>?_) (λc=>?_)
  .cases d with
   |int i=>
    rw[jr] at t
    subst t
    refine⟨_,rfl,_,_,rfl,rfl,_,rfl,?_⟩
    have q':=q H1 s1
    refine eP (λc1=>?_) (λc1=>?_)
    .refine⟨_,_,rfl,rfl,?_⟩
     rw[show eQ (.int i)=decide (i<=1000000) by show(_&&_)=_;rw[c1,cm]] at q'
     exact q'
    .rw[show eQ (.int i)=false by show(_&&_)=_;rw[show decide (1<=i)=false by simpa using c1,bj]] at q'
     exact q'
   |_=>cases c
  .have e:eQ d=false:=by
    cases d with
    |int i=>exact absurd rfl c
    |_=>rfl
   have q':=q H1 s1
   rw[e] at q'
   exact q'
def vY:List PyData:=[.str "port",.str "starboard",.str "both"]
def gT (s:PyData):Bool:=vY.any λz=>PyData.eqv z s
def eW:PyData->Bool
 | .tuple [n,s,w]=>fA n&&(gT s&&eQ w)
 |_=>false
def vZ (h:ds.length≠3):eW (.tuple ds)=false:=by
 match ds,h with
 | [],_=>rfl
 | [_],_=>rfl
 | [_,_],_=>rfl
 | [_,_,_],h=>exact absurd rfl h
 |_::_::_::_::_,_=>rfl
def pT (h:zZ d "tuple"=true):∃ds,d=.tuple ds:=by
 cases d with
 |tuple ds=>exact⟨ds,rfl⟩
 |none=>cases h
 |bool b=>cases h
 |int i=>cases h
 |list ds=>cases h
 |str x=>cases h
 |dict dO=>cases h
def v_:PyData.canLayAll0 vY=true:=by decide+kernel
def uh (hp:p≠k):Tells (upd H p (.tup [.str "port",.str "starboard",.str "both"])) k (.tuple vY) (.ref p):=
 eU.mpr ⟨p,_,rfl,hp,aB,bU.mpr ⟨_,_,rfl,ff.mpr rfl,bU.mpr ⟨_,_,rfl,ff.mpr rfl,zd (ff.mpr rfl)⟩⟩⟩
def T4 {α:Type}{ds:List α}(h:ds.length=3):∃a b c,ds=[a,b,c]:=by
 match ds,h with
 | [a,b,c],_=>exact⟨a,b,c,rfl⟩
def Wq:bW ["thing","name","sides","weight"] ["thing"] (aw CZ):={}
def IT (F:ji K "is_rower" "is_rower" CZ f fd) (T:Txt mg) (DN:Df P w K mg base 2 "is_name" ["thing"] (xF fA)) (DW:Df P w K mg base 2 "is_weight" ["thing"] (xF eQ)):dW P w K mg base fT 3 f fd ["thing"] (xF eW):=by
 exists F.ok,Wq
 .obtain⟨k,d,v,rfl,_⟩:=h
  rfl
 .obtain⟨k,d,v,rfl,t,hf,q⟩:=h
  refine⟨_,au (cQ (PW.pt (k_ (fO (fM (aR fL rfl T.tO aE (ae (pv 0) (ae (gQ (v:=.ty "tuple") rfl T.tuple cw rfl) ah)))))
    (mf (bo mT (aR bO rfl T.len bC (ae (pv 0) ah)) ao (bP _)))))
    (aF (bH nS)) bN)
   (au (iQ (pv 0) (gg rfl (bz (aZ (i:=1) Wq.nd) (bz (aZ (i:=2) Wq.nd) (bz (aZ (i:=3) Wq.nd) eZ)))))
   (aF (bH (jR (cC DN hr (ae (pv 1) ah)) (jR (jZ (Ig hr.units) (pv 2) (bQ (ae aW (ae aW (ae aW ah)))) (by with_unfolding_all rfl))
    (mh (cC DW hr (ae (pv 3) ah)))))))),?_⟩
  refine⟨_,rfl,k,_,_,d,rfl,t,.inr (.inr (.inr (.inl rfl))),_,rfl,?_⟩
  have no:eW d=false->Q (.bl false) H:=λe=>by have:=q H (a_.refl _);rw[e] at this;exact this
  refine eP (λc=>?_) (λc=>?_)
  .refine qB (no ?_)
   cases d with
   |tuple ds=>cases c
   |_=>rfl
  .obtain⟨ds,rfl⟩:=pT (d:=d) (by simpa using c)
   obtain⟨a,xs,rfl,hk,ha,ng⟩:=eU.mp t
   have hl:=gS ng
   refine⟨_,rfl,a,xs,rfl,.inr (bZ.of ha),rfl,_,rfl,?_⟩
   refine eP (λc1=>?_) (λc1=>?_)
   .refine no ?_
    have:ds.length≠3:=λz=>IS c1 (by rw[hl,z];rfl)
    exact vZ this
   .have l3:ds.length=3:=by
     have e3:V.int (xs.length:Int)=V.int 3:=v_eq c1
     injection e3 with e3
     omega
    obtain⟨dn,C0,dw,rfl⟩:=T4 l3
    obtain⟨x1,r1,rfl,t1,ng⟩:=bU.mp ng
    obtain⟨x2,r2,rfl,t2,ng⟩:=bU.mp ng
    obtain⟨x3,r3,rfl,t3,ng⟩:=bU.mp ng
    rw[eE] at ng
    subst ng
    have AQ:=(Bd.pS hf).1
    refine⟨_,rfl,a,_,rfl,bZ.of ha,rfl,_,_,rfl,_,_,rfl,_,_,rfl,rfl,?_⟩
    refine⟨_,rfl,k,dn,x1,rfl,t1,AQ dn ς,λH1 s1=>⟨_,rfl,?_⟩⟩
    have q':∀H',a_ H H'->Q (.bl (fA dn&&(gT C0&&eQ dw))) H':=q
    refine eP (λc2=>?_) (λc2=>?_)
    .refine⟨_,rfl,dP,λp hp=>?_⟩
     have PD:∀b o,H b=some o->b≠p:=λb o e=>dB (s1 b o e) hp
     have s2:a_ H1 (upd H1 p (.tup [.str "port",.str "starboard",.str "both"])):=aP hp _
     refine⟨k,a,C0,vY,t2.keep (s1.trans s2).keep,.inl (uh (PD a _ ha).symm),rL.lay (AQ C0 ς),v_,⟨_,rfl,?_⟩⟩
     refine eP (λc3=>?_) (λc3=>?_)
     .refine⟨_,rfl,k,dw,x3,rfl,t3.keep (s1.trans s2).keep,AQ dw ς,λH3 s3=>?_⟩
      have:=q' H3 ((s1.trans s2).trans s3)
      rw[c2,show gT C0=true from c3,cm,cm] at this
      exact this
     .have:=q' _ (s1.trans s2)
      rw[show gT C0=false by simpa[gT] using c3,bj,fg] at this
      exact this
    .have:=q' H1 s1
     rw[show fA dn=false by simpa using c2,bj] at this
     exact this
def RW (a:Str):PyData->Bool
 | .str x=>x==a
 |_=>false
def LM (a:Str) (z:PyData):PyData.eqv z (.str a)=RW a z:=by cases z<;>simp[PyData.eqv,RW]
def iw (i j:Int):decide (V.int i=V.int j)=decide (i=j):=by
 by_cases h:i=j
 .rw[aI h,aI (by rw[h])]
 .rw[bD h,bD (λz=>h (by injection z))]
def Gh (h:zZ z "str"=false):fA z=false:=by
 cases z with
 |str x=>cases h
 |none=>rfl
 |bool b=>rfl
 |int i=>rfl
 |list ds=>rfl
 |tuple ds=>rfl
 |dict dO=>rfl
def rQ (cs:List Nat):List Nat:=cs.filter λc=>!sgn c
def wb (cs:List Nat):List PyData:=cs.map λc=>.str ⟨#[c]⟩
def wc (cs:List Nat):List V:=cs.map λc=>.str ⟨#[c]⟩
def we:∀cs:List Nat,c_ H k (wb cs) (wc cs)
 | []=>eE.mpr rfl
 |c::cs=>bU.mpr ⟨_,_,rfl,ff.mpr rfl,we cs⟩
def IU (h:∀c∈cs,c<0x110000):Lay (.list (wb cs)):=by
 refine⟨?_,?_⟩
 .rw[PyData.canLay0]
  induction cs with
  |nil=>rw[wb,oK,PyData.canLayAll0]
  |cons c cs ih=>
   rw[wb,bK,PyData.canLayAll0,cJ]
   refine⟨?_,ih λd hd=>h d (cu _ hd)⟩
   rw[PyData.canLay0]
   simp[PyData.strOk,h c cj]
 .rw[PyData.depth]
  have:PyData.depthAll (wb cs)<=0:=nI λd hd=>by
   obtain⟨c,_,rfl⟩:=cS.mp hd
   simp[PyData.depth]
  omega
def LO (cs:List Nat):PyData.eqv (.list (wb cs)) (.list [])=cs.isEmpty:=by
 cases cs with
 |nil=>rfl
 |cons c cs=>rfl
def IV (cs:List Nat):(rQ cs).isEmpty=(cs.map sgn).all id:=by
 induction cs with
 |nil=>rfl
 |cons c cs ih=>
  unfold rQ at ih⊢
  rw[Fo,bK,zW]
  cases h:sgn c with
  |true=>simp[ih]
  |false=>simp
def IW (h:sgn c=true):rQ (cs++ [c])=rQ cs:=by unfold rQ;rw[kO];simp[h]
def IY (h:sgn c=false):rQ (cs++ [c])=rQ cs++ [c]:=by unfold rQ;rw[kO];simp[h]
def pU:Lay (.list []):=⟨by simp[PyData.canLay0,PyData.canLayAll0],by simp[PyData.depth,PyData.depthAll]⟩
def ck (ns:List Str):List PyData:=ns.map .str
def j_:∀ns:List Str,c_ H k (ck ns) (ns.map .str)
 | []=>eE.mpr rfl
 |n::ns=>bU.mpr ⟨_,_,rfl,ff.mpr rfl,j_ ns⟩
def Gi (ns:List Str) (x:Str):(ck ns).any (λz=>PyData.eqv z (.str x))=decide (x∈ns):=by
 induction ns with
 |nil=>simp[ck]
 |cons n ns ih=>
  unfold ck at ih⊢
  rw[bK,kj,ih,LM]
  by_cases h:n=x
  .subst h;simp[RW]
  .have h':¬x=n:=λz=>h z.symm
   have hb:(n==x)=false:=by simpa using h
   simp[RW,hb,h']
abbrev IZ:Stmt:=top 41
abbrev I_:Stmt:=top 42
structure cN (H:Hp) (k:ai) (c:Int):Prop where
 ex:∃a b:Int,H k=some (.lst [.int a,.int b,.int c])/\0<=b/\b<2147483648
 c0:0<=c
def o8:lU X (binaryOp .FloorDiv) (rI (λ_ j=>0<j/\j<2^200) λi j=>.int (i/j)):=SR λi j _ _ _ _ _ hc q=>by
 refine PyProof.Rows.floordiv_int ω ?_ (.inl (PyProof.noPylong_of_log2 ?_))
 .rw[KQ i ω]
  exact q
 .have:j.natAbs.log2<200:=Ll ω
  omega
def C3:Sp:=λvs H Q _=>∃cell tn:Int,vs=[.int cell,.int tn]/\0<=tn/\∀p H',H p=none->a_ H H'->cN H' p tn->Q (.ref p) H'
def scD:bW ["cell","turn"] ["cell","turn"] (aw IZ):={}
def LP (F:ji K "_law_deck" "_law_deck" IZ f fd):dW P w K mg base fT 1 f fd ["cell","turn"] C3:=by
 exists F.ok,scD
 .obtain⟨cell,tn,rfl,_⟩:=h
  rfl
 .obtain⟨cell,tn,rfl,t0,q⟩:=h
  refine⟨_,au (cQ (bo HC (pv 0) (bT mv ao ao) (bP _))
    (aF (bH (cX (ae (bT mj (pv 0) (bT mv ao ao)) (ae (bT nB (pv 0) ao) (ae (pv 1) ah)))))) bN)
   (aF (bH (cX (ae ao (ae (bT nB (pv 0) ao) (ae (pv 1) ah)))))),?_⟩
  have hb:0<=cell %2147483579/\cell %2147483579<2147483648:=ω
  refine⟨_,rfl,_,_,rfl,rfl,⟨δ,δ,δ⟩,_,_,rfl,rfl,_,rfl,?_⟩
  refine eP (λc=>?_) (λc=>?_)
  .refine⟨_,rfl,_,_,rfl,rfl,⟨δ,δ,δ⟩,_,_,rfl,rfl,_,rfl,_,_,rfl,rfl,by show(0:Int)<2147483579;decide,_,rfl,dP,λp hp=>?_⟩
   exact q p _ hp (aP hp _) ⟨⟨_,_,aB,hb.1,hb.2⟩,t0⟩
  .refine⟨_,rfl,_,_,rfl,rfl,by show(0:Int)<2147483579;decide,_,rfl,dP,λp hp=>?_⟩
   exact q p _ hp (aP hp _) ⟨⟨_,_,aB,hb.1,hb.2⟩,t0⟩
def gF:Sp:=λvs H Q _=>∃(k:ai) (c many:Int),vs=[.ref k,.int many]/\cN H k c/\c<=100000/\0<many/\many<=10000000000000/\
 ∀(r c':Int) (H':Hp),ez k H H'->cN H' k c'->c'<=c+1->0<=r->r<many->Q (.int r) H'
def pk (h0:Z[i]?=some (some (.ref k))) (dk:cN H k c) (hc:c<=100000) (h1:0<n) (h2:n<=10000000000000) (q:∀(r c':Int) (H':Hp),ez k H H'->cN H' k c'->c'<=c+1->0<=r->r<n->Q (.int r) H'):lV gF [] E (cA (b_ i) (cA (tC (.int n)) fE)) Z H Q:=⟨_,h0,k,c,n,rfl,dk,hc,h1,h2,q⟩
def Wr:bW ["deck","many","found","number"] ["deck","many"] (aw I_):={}
def pkA {b c:Int}(b0:0<=b) (b1:b<2147483648) (c0:0<=c) (c1:c<=100000):(b+15485867*(c+1)).natAbs<2^64:=ω
def pkB {n c:Int}(b0:0<=n) (b1:n<2147483647) (c0:0<=c) (c1:c<=100000):(n+7919*(c+1)).natAbs<2^64:=ω
def pkC {x:Int}(h0:0<=x) (h1:x<2147483629):0<=x/32/\x/32<2147483629:=ω
def iG {r k a n:Int}(h:r<k) (e:a+k<=n):a+r<=n:=dz (yH (So h) a) e
def iH {r a:Int}(h:0<=r) (e:1<=a):1<=a+r:=dz e (KW h)
def i4 {r:Int}(h:0<=r) (l:r<4):r=0\/r=1\/r=2\/r=3:=ω
def iC {c c1 c2 c3 c4:Int}(a:c1<=c+1) (b:c2<=c1+1) (d:c3<=c2+1) (e:c4<=c3+1):c4<=c+4:=ω
def LQ (F:ji K "_law_pick" "_law_pick" I_ f fd):dW P w K mg base fT 1 f fd ["deck","many"] gF:=by
 exists F.ok,Wr
 .obtain⟨k,c,many,rfl,_⟩:=h
  rfl
 .obtain⟨k,c,many,rfl,⟨⟨a,b,hk,b0,b1⟩,c0⟩,c1,m0,m1,q⟩:=h
  refine⟨_,au (cQ (bo xS (bg cV (pv 0) ao) ao (bP _))
    (au (ku (i:=2) Wr.nd (bT nB (bg cV (pv 0) ao) (pv 1)))
    (au (iQ (bT o8 (bg cV (pv 0) ao) (pv 1)) (oQ (pv 0) ao set_list))
    (aF (bH (pv 2))))) bN)
   (au (iQ (bT gi (bg cV (pv 0) ao) ao) (oQ (pv 0) ao set_list))
   (au (ku (i:=3) Wr.nd (bT nB (bT mv (bT gi (bg cV (pv 0) ao) (bT mq ao (bg cV (pv 0) ao))) ao) ao))
   (au (ku (i:=2) Wr.nd (bT Ej (bT nB (bT mv (bT gi (pv 3) (bT mq ao (bg cV (pv 0) ao))) ao) ao) ao))
   (au (cQ (bo xS (pv 1) ao (bP _)) (aF (bH (bT nB (bT gi (bT mq (pv 2) ao) (pv 3)) (pv 1)))) bN)
   (aF (bH (bT nB (pv 2) (pv 1)))))))),?_⟩
  refine CW rfl (cT.of hk) (aT (j:=0) rfl) ⟨_,_,rfl,rfl,_,rfl,?_⟩
  refine eP (λc2=>?_) (λc2=>?_)
  .refine CW rfl (cT.of hk) (aT (j:=0) rfl) ⟨_,rfl,_,_,rfl,rfl,m0,?_⟩
   refine CW rfl (cT.of hk) (aT (j:=0) rfl) ⟨_,rfl,_,_,rfl,rfl,⟨m0,ω⟩,?_⟩
   refine⟨_,rfl,k,_,0,0,rfl,rfl,hk,rfl,?_⟩
   refine⟨_,rfl,q _ c _ (ez.at _) ⟨⟨_,_,aB,b0,b1⟩,c0⟩ ω (om _ ω) (kP _ m0)⟩
  .refine CW rfl (cT.of hk) (aT (j:=2) rfl) ⟨_,_,rfl,rfl,?_⟩
   refine⟨_,rfl,k,_,2,2,rfl,rfl,hk,rfl,?_⟩
   have Ws:(upd H k (.lst [.int a,.int b,.int (c+1)])) k=some (.lst [.int a,.int b,.int (c+1)]):=aB
   show vB _ _ _ _ (upd H k (.lst [.int a,.int b,.int (c+1)]))
   have kp:ez k H (upd H k (.lst [.int a,.int b,.int (c+1)])):=ez.at _
   generalize upd H k (.lst [.int a,.int b,.int (c+1)])=H2 at*
   have fin:∀r:Int,0<=r->r<many->Q (.int r) H2:=λr h1 h2=>q r (c+1) H2 kp ⟨⟨_,_,Ws,b0,b1⟩,ω⟩ (Int.le_refl _) h1 h2
   refine CW rfl (cT.of Ws) (aT (j:=1) rfl) (CW rfl (cT.of Ws) (aT (j:=2) rfl) ⟨_,_,rfl,rfl,.inl ⟨δ,δ⟩,_,_,rfl,rfl,_,_,rfl,rfl,⟨δ,δ,?_⟩,_,_,rfl,rfl,by show(0:Int)<2147483647;decide,?_⟩)
   .exact pkA b0 b1 c0 c1
   .generalize hN:(b+15485867*(c+1))^(5:Int).toNat %2147483647=number
    have n0:0<=number:=by rw[<-hN];exact om _ δ
    have n1:number<2147483647:=by rw[<-hN];exact kP _ δ
    refine⟨_,rfl,CW rfl (cT.of Ws) (aT (j:=2) rfl) ⟨_,_,rfl,rfl,.inl ⟨δ,δ⟩,_,_,rfl,rfl,_,_,rfl,rfl,⟨δ,δ,?_⟩,_,_,rfl,rfl,by show(0:Int)<2147483629;decide,_,_,rfl,rfl,⟨δ,δ⟩,?_⟩⟩
    .subst hN;exact pkB n0 n1 c0 c1
    .generalize hF:(number+7919*(c+1))^(3:Int).toNat %2147483629/32=found
     have f0:0<=found/\found<2147483629:=by
      have e0:0<=(number+7919*(c+1))^(3:Int).toNat %2147483629:=om _ δ
      have e1:(number+7919*(c+1))^(3:Int).toNat %2147483629<2147483629:=kP _ δ
      rw[<-hF]
      exact pkC e0 e1
     refine⟨_,rfl,_,_,rfl,rfl,_,rfl,?_⟩
     refine eP (λc3=>?_) (λc3=>?_)
     .exact⟨_,rfl,_,_,rfl,rfl,.inl (by subst hF hN;exact⟨Int.lt_of_lt_of_le δ f0.1,Int.lt_trans f0.2 δ⟩),_,rfl,_,_,rfl,rfl,_,rfl,_,_,rfl,rfl,m0,fin _ (om _ ω) (kP _ m0)⟩
     .exact⟨_,rfl,_,rfl,_,_,rfl,rfl,m0,fin _ (om _ ω) (kP _ m0)⟩
abbrev Yg:Stmt:=top 44
def okN (n:Str):Prop:=n.length<=100/\PyData.strOk n=true/\fA (.str n)=true
def cN.keep {H H':Hp}{k:ai}{c:Int}(h:cN H k c) (e:∀o,H k=some o->H' k=some o):cN H' k c:=by
 obtain⟨⟨a,b,h1,h2⟩,c0⟩:=h
 exact⟨⟨a,b,e _ h1,h2⟩,c0⟩
def cN.some {H:Hp}{k:ai}{c:Int}(h:cN H k c):∃o,H k=some o:=let⟨⟨_,_,h1,_⟩,_⟩:=h;⟨_,h1⟩
def PF:Sp:=λvs H Q _=>∃(k:ai) (c:Int),vs=[.ref k]/\cN H k c/\c<=50000/\
 ∀(r c':Int) (H':Hp),ez k H H'->cN H' k c'->c'<=c+4->1<=r->r<=1000000->Q (.int r) H'
def Yh:bW ["deck"] ["deck"] (aw Yg):={}
def T6 (F:ji K "_law_weight" "_law_weight" Yg f fd) (DP:Df P w K mg base 1 "_law_pick" ["deck","many"] gF):dW P w K mg base fT 2 f fd ["deck"] PF:=by
 exists F.ok,Yh
 .obtain⟨k,c,rfl,_⟩:=h
  rfl
 .obtain⟨k,c,rfl,hk,hc,q⟩:=h
  refine⟨_,aF (bH (bg cV (cX (ae (bT gi ao (cC DP hr (ae (pv 0) (ae ao ah)))) (ae (bT gi ao (cC DP hr (ae (pv 0) (ae ao ah))))
   (ae (bT gi ao (cC DP hr (ae (pv 0) (ae (bT mv ao ao) ah)))) (ae (bT mv ao ao) ah)))))
   (cC DP hr (ae (pv 0) (ae ao ah))) (λ_ _=>rfl))),?_⟩
  refine⟨_,rfl,k,c,5,rfl,hk,ω,δ,δ,λr1 c1 H1 k1 d1 e1 g1 l1=>⟨_,_,rfl,rfl,?_⟩⟩
  refine⟨_,rfl,k,c1,40,rfl,d1,ω,δ,δ,λr2 c2 H2 k2 d2 e2 g2 l2=>⟨_,_,rfl,rfl,?_⟩⟩
  refine⟨_,rfl,_,_,rfl,rfl,⟨δ,δ,δ⟩,k,c2,_,rfl,d2,ω,δ,δ,λr3 c3 H3 k3 d3 e3 g3 l3=>⟨_,_,rfl,rfl,?_⟩⟩
  refine⟨_,_,rfl,rfl,⟨δ,δ,δ⟩,dP,λp hp=>?_⟩
  have PD:k≠p:=λz=>by obtain⟨o,ho⟩:=d3.some;rw[z,hp] at ho;cases ho
  refine⟨_,rfl,k,c3,4,rfl,d3.keep (λo e=>by rw[aV PD];exact e),ω,δ,δ,λr4 c4 H4 k4 d4 e4 g4 l4=>?_⟩
  have l3':r3<1000000:=l3
  have kk:ez k H H4:=((k1.trans k2).trans k3).trans ((ez.new hp _).trans k4)
  have RY:=k4 p _ PD.symm aB
  have r4':=i4 g4 l4
  have z4:=iC e1 e2 e3 e4
  rcases r4' with rfl|rfl|rfl|rfl
  .exact⟨p,_,0,_,rfl,rfl,cT.of RY,aT (j:=0) rfl,q _ c4 H4 kk d4 z4 (iH g1 δ) (iG l1 δ)⟩
  .exact⟨p,_,1,_,rfl,rfl,cT.of RY,aT (j:=1) rfl,q _ c4 H4 kk d4 z4 (iH g2 δ) (iG l2 δ)⟩
  .exact⟨p,_,2,_,rfl,rfl,cT.of RY,aT (j:=2) rfl,q _ c4 H4 kk d4 z4 (iH g3 δ) ω⟩
  .exact⟨p,_,3,_,rfl,rfl,cT.of RY,aT (j:=3) rfl,q _ c4 H4 kk d4 z4 δ δ⟩
def AR:∀{es:List Expr}{vs:List V},Paired (λ(e:Expr) (v:V)=>∃x j p,e=.Constant (.str x) j p/\v=.str x) es vs->PA X es (λ_ H Q=>Q vs H)
 |_,_,.nil=>ah
 |_,_,.cons (a:=e) (b:=v) (l₁:=es) (l₂:=vs) ⟨x,j,p,he,hv⟩ r=>by
  subst he hv
  exact λpos ac s Z H Q I h=>ae aW (AR r) rfl pos ac s Z H Q I h
def cN.ne (h:cN H k c) (hp:H p=none):k≠p:=λz=>by obtain⟨o,ho⟩:=h.some;rw[z,hp] at ho;cases ho
def cN.new (h:cN H k c) (hp:H p=none):cN (upd H p o) k c:=h.keep λu e=>by rw[aV (h.ne hp)];exact e
def rR (kk:ez k H H') (n:p≠k) (h:H' p=none):H p=none:=by
 cases e:H p with
 |none=>rfl
 |some o=>rw[kk p o n e] at h;cases h
def tQ {α:Type}{xs:List α}{i:Int}(h0:0<=i) (h1:i<xs.length):∃h:i.toNat<xs.length,qA xs i=some xs[i.toNat]:=by
 have h2:i.toNat<xs.length:=ω
 have e:i=((i.toNat:Nat):Int):=ω
 refine⟨h2,?_⟩
 have:=aT (j:=i.toNat) (aG h2)
 rw[<-e] at this
 exact this
def C4 (ss:List Str) (i:Nat) (x:Str):(ss.map V.str).take i++V.str x::(ss.map V.str).drop i=(ss.take i++x::ss.drop i).map V.str:=by
 rw[bF,bK,Ol,Om]
def C5 (ss:List Str) (x:Str) (h:i<=ss.length):(ss.take i++x::ss.drop i).length=ss.length+1:=by
 simp only[aK,fu,cI,dF]
 omega
def Gj {ss:List Str}(i:Nat) (h:∀s∈ss,okN s) (hx:okN x):∀s∈ss.take i++x::ss.drop i,okN s:=by
 intro s hs
 rcases dq.mp hs with hs|hs
 .exact h s (hX hs)
 .rcases aD.mp hs with rfl|hs
  .exact hx
  .exact h s (xu hs)
def wT:Nat->Nat
 |0=>4
 |n+1=>1+wT n*3
def yr (n:Nat) (i:Nat) (H:Hp) (hi:i<=n):(i=n->(Nt 0 n).stop i H)/\(i<n->(Nt 0 n).go i H/\∀x H',(Nt 0 n).BY i H x H'->H'=H/\x=.int i):=by
 refine⟨λe=>by show n<=i;omega,λe=>⟨e,λx H' y=>?_⟩⟩
 obtain⟨e1,e2⟩:=y
 refine⟨e1,?_⟩
 rw[e2,Int.zero_add]
def NH (x:V):Prop:=∃d:PyData,Bd 1 0 d/\∀(H:Hp) (k:ai),Tells H k d x
def Jd:List V->Prop
 | []=>True
 |x::xs=>NH x/\Jd xs
def ll (h:NH x) (hs:Jd xs):Jd (x::xs):=⟨h,hs⟩
def LR (h:dW P w K mg base fT j f fd ps sp) (le:j<=k):dW P w K mg base fT k f fd ps sp:=
 ⟨h.len,λA outer s H args us vs Q E hr=>h.run A outer s H args us vs Q E (hr.mono le)⟩
structure d_ (K:Φ) (x:Str) (st:Stmt) (f:ai):Prop where
 a:PySem.W.nsIn K mainGlobals x=some (some (.ref f))
 ex:∃(oc:ag) (od:Option ai) (kV doc pm:ag) (an:Option ai) (cdv ct:ag) (vE:Array (Option ag)),
  K.lookup f=some ⟨oc,od,.func (PySem.W.fnOf x x (jD st) (fC st) (aw st) .none kV doc pm an cdv ct),vE⟩/\PySem.W.codeIn K cdv x=true
 k:PySem.W.keepIn K (.ref f)=true
def stands {kV doc pm:ag}
  (a:PySem.W.nsIn K mainGlobals x=some (some (.ref f))) (l:K.lookup f=some ⟨oc,od,.func (PySem.W.fnOf x x (jD st) (fC st) (aw st) .none kV doc pm an cdv ct),vE⟩) (c:PySem.W.codeIn K cdv x=true) (k:PySem.W.keepIn K (.ref f)=true):d_ K x st f:=
 ⟨a,⟨oc,od,kV,doc,pm,an,cdv,ct,vE,l,c⟩,k⟩
def d_.fn (S:d_ K x st f):∃fd,ji K x x st f fd:=by
 obtain⟨oc,od,kV,doc,pm,an,cdv,ct,vE,l,c⟩:=S.ex
 exact⟨_,Ci (st:=st) l c S.k⟩
end
abbrev Je:Stmt:=top 23
abbrev Jf:Stmt:=top 24
abbrev C6:Stmt:=top 25
def strOf:PyData->Str
 | .str x=>x
 |_=>""
def Yi (a b:Str):Bool:=decide (a.cps.toList<b.cps.toList)
def nX (ns:List Str):List Bool:=List.zipWith Yi ns (ns.drop 1)
def ke:PyData->Bool
 | .tuple ds=>(decide (1<=(ds.length:Int))&&decide ((ds.length:Int)<=4))&&((ds.map fA).all id&&(nX (ds.map strOf)).all id)
 |_=>false
def qM (h:fA d=true):∃x,d=.str x:=by
 cases d with
 |str x=>exact⟨x,rfl⟩
 |_=>cases h
def AS:∀{ds:List PyData}{xs:List V},c_ H k ds xs->(∀d∈ds,fA d=true)->xs=(ds.map strOf).map V.str
 | [],xs,h,_=>eE.mp h
 |d::ds,xs,h,hp=>by
  obtain⟨v,r,rfl,t1,t2⟩:=bU.mp h
  obtain⟨x,rfl⟩:=qM (hp d cj)
  rw[ff] at t1
  subst t1
  rw[AS t2 λe he=>hp e (cu _ he)]
  rfl
def PH {ns:List Str}(h:i<ns.length):(ns.map V.str)[i]?=some (.str (ns.getD i "")):=by
 rw[bY,aG h]
 simp[List.getD,h]
def Gk {α β γ:Type}{f:α->β->γ}{as:List α}{bs:List β}{i:Nat}{a:α}{b:β}(c:γ) (h1:i<as.length) (h2:i<bs.length):(List.zipWith f as bs).getD i c=f (as.getD i a) (bs.getD i b):=by
 simp[List.getD,List.getElem?_zipWith,h1,h2]
section
variable {P:aM}{w:bB}{K:Φ}{mg:Str->Option ag}{base:Heap}
def kQ (h:bZ K H a xs) (i:Nat) (hi:i<=xs.length):(i=xs.length->(Ei K a).stop i H)/\(i<xs.length->(Ei K a).go i H/\∀y H',(Ei K a).BY i H y H'->H'=H/\y=xs.getD i .eK):=by
 refine⟨λe=>⟨xs,h,ω⟩,λe=>⟨⟨xs,xs[i],h,by simp[e]⟩,λy H' q=>?_⟩⟩
 obtain⟨q1,q2⟩:=q
 have:=q2 xs h
 exact⟨q1,by simp[List.getD,this]⟩
def Nl {α:Type}{xs:List α}{i:Nat}{z:α}(h:i<xs.length):xs.take (i+1)=xs.take i++ [xs.getD i z]:=by
 rw[qX]
 congr 1
 simp[List.getD,h]
def scC:bW ["thing"] ["thing"] (aw Je):={}
def T_:(["name","behind"]:List Str).Nodup:=by decide+kernel
def LS (F:ji K "is_crew" "is_crew" Je f fd) (T:Txt mg) (DN:Df P w K mg base 1 "is_name" ["thing"] (xF fA)):dW P w K mg base fT 2 f fd ["thing"] (xF ke):=by
 exists F.ok,scC
 .obtain⟨k,d,v,rfl,_⟩:=h
  rfl
 .obtain⟨k,d,v,rfl,t,hf,q⟩:=h
  obtain⟨tm,hMC⟩:=T.MC
  refine⟨_,au (cQ (PW.pt (k_ (fO (fM (aR fL rfl T.tO aE (ae (pv 0) (ae (gQ (v:=.ty "tuple") rfl T.tuple cw rfl) ah)))))
    (mf (fO (rD rB rB ao (aR bO rfl T.len bC (ae (pv 0) ah)) (fY (v:=.int 4) rfl hMC ⟨tm,rfl⟩))))))
    (aF (bH nS)) bN)
   (au (cQ (fO (fM (aR (vJ rfl) rfl T.all vp (ae (kE (N:=["name"]) rfl (iq (pv 0)) (fz.closed rfl)
     (λ_ _ _=>aZ (i:=0) (Yd _)) (λ_ _ _=>iX) (λ_ _ _=>cC DN hr (ae (pv 0) ah))) ah))))
    (aF (bH nS)) bN)
   (aF (bH (aR (vJ rfl) rfl T.all vp (ae (kE (N:=["name","behind"]) (g:=Fv K 2 (kD (dI 0) (kD (dI 1) Al))) rfl (Ls rfl T.zip (ae (pv 0) (ae (gY y4 (pv 0) (iJ ao) jC) ah))) (fz.closed rfl)
     (λ_ _ _=>gg rfl (bz (aZ (i:=0) T_) (bz (aZ (i:=1) T_) eZ))) (λ_ _ _=>iX) (λ_ _ _=>jZ FC (pv 0) (pv 1) (bP _))) ah))))),?_⟩
  refine⟨_,rfl,k,_,_,d,rfl,t,.inr (.inr (.inr (.inl rfl))),_,rfl,?_⟩
  have no:∀H',a_ H H'->ke d=false->Q (.bl false) H':=λH' s' e=>by have:=q H' s';rw[e] at this;exact this
  refine eP (λc=>?_) (λc=>?_)
  .refine qB (no H (a_.refl _) ?_)
   cases d with
   |tuple ds=>cases c
   |_=>rfl
  .obtain⟨ds,rfl⟩:=pT (d:=d) (by simpa using c)
   obtain⟨a,xs,rfl,hk,ha,ng⟩:=eU.mp t
   have hl:=gS ng
   have AQ:=(Bd.pS hf).1
   have sx:ke (.tuple ds)=((decide (1<=(ds.length:Int))&&decide ((ds.length:Int)<=4))&&((ds.map fA).all id&&(nX (ds.map strOf)).all id)):=rfl
   refine⟨_,rfl,a,xs,rfl,.inr (bZ.of ha),_,_,rfl,rfl,_,rfl,?_⟩
   rw[hl]
   refine eP (λc1=>?_) (λc1=>?_)
   .have c1n:1<=ds.length:=by have:(1:Int)<=(ds.length:Int):=aX c1;omega
    refine⟨_,_,rfl,rfl,_,rfl,?_⟩
    refine eP (λc2=>?_) (λc2=>?_)
    .refine no H (a_.refl _) ?_
     rw[sx,show decide ((ds.length:Int)<=4)=false by simpa using c2,fg,bj]
    .have LL:decide ((ds.length:Int)<=4)=true:=by simpa using c2
     have c2n:ds.length<=4:=by have:(ds.length:Int)<=4:=aX LL;omega
     refine⟨_,rfl,a,rfl,⟨xs,bZ.of ha⟩,λD hD=>?_⟩
     refine lE (n:=xs.length) (f:=λi=>xs.getD i .eK) (λi ys bX H'=>ys=((ds.take i).map fA).map V.bl/\(∃v,bX=[v])/\a_ H H') hD ω ⟨rfl,⟨none,rfl⟩,aP hD _⟩
      (λi ys bX H' hi _ iv=>kQ (bZ.of (iv.2.2 _ _ ha)) i hi) ?_ ?_
     .rintro i ys bX H' hi hy ⟨e1,⟨v,rfl⟩,s'⟩
      obtain⟨di,RZ,ti⟩:=nG ng (show xs[i]?=some (xs.getD i .eK) by simp[List.getD,hi])
      refine⟨_,rfl,k,di,_,rfl,ti.keep s'.keep,AQ di (nj RZ),λH5 s5=>⟨s5 _ _ hy,?_,⟨_,rfl⟩,λb o e=>?_⟩⟩
      .rw[Nl (z:=PyData.none) ω,bF,bF,e1]
       simp[List.getD,RZ]
      .rw[aV (dB e hD)]
       exact s5 b o (s' b o e)
     .rintro ys bX H' hy ⟨e1,⟨v,rfl⟩,s'⟩
      rw[cY ω] at e1
      refine⟨D,ds.map fA,rfl,cT.of (by rw[hy,e1]),_,rfl,?_⟩
      refine eP (λc3=>?_) (λc3=>?_)
      .refine no H' s' ?_
       rw[sx,show(ds.map fA).all id=false by simpa using c3,bj,fg]
      .have R0:(ds.map fA).all id=true:=by
        cases hb:(ds.map fA).all id with
        |true=>rfl
        |false=>rw[hb] at c3;exact absurd rfl c3
       have exs:=AS ng λd hd=>by
        rw[mM] at R0
        exact R0 _ (cU hd)
       generalize RU:ds.map strOf=ns at*
       have hnl:ns.length=ds.length:=by rw[<-RU,aq]
       subst exs
       have haH:=s' _ _ ha
       have Yj:jh (ns.map V.str) (some 1) none=(ns.drop 1).map V.str:=by rw[Im (by rw[aq];omega),Om]
       have Wt:HT.ip (ns.map V.str).length 0 (some 1)=1:=by
        have:=HT.lW (ns.map V.str).length 0 1
        rw[show((1:Nat):Int)=1 from rfl] at this
        rw[this,aq];omega
       refine⟨_,rfl,_,rfl,_,rfl,a,_,rfl,bZ.of haH,λz=>by rw[Wt] at z;exact absurd z.1 δ,λp hp=>?_⟩
       rw[Yj]
       have Wu:=aP hp (.tup ((ns.drop 1).map V.str)) _ _ haH
       have Wv:(upd H' p (.tup ((ns.drop 1).map V.str))) p=some (.tup ((ns.drop 1).map V.str)):=aB
       have sP:a_ H' (upd H' p (.tup ((ns.drop 1).map V.str))):=aP hp _
       generalize upd H' p (.tup ((ns.drop 1).map V.str))=Hp' at*
       have hdl:(ns.drop 1).length=ns.length-1:=dF
       refine⟨a,p,rfl,⟨_,bZ.of Wu⟩,⟨_,bZ.of Wv⟩,λD2 Gm=>?_⟩
       refine F2 (n:=ns.length-1) (u:=λi=>.str (ns.getD i "")) (v:=λi=>.str ((ns.drop 1).getD i "")) (λi ys iR J=>ys=((nX ns).take i).map V.bl/\(∃v w,iR=[v,w])/\a_ Hp' J) Gm ω ⟨rfl,⟨none,none,rfl⟩,aP Gm _⟩
        (λi ys iR J hi _ iv=>⟨λe=>⟨_,_,bZ.of (iv.2.2 _ _ Wu),bZ.of (iv.2.2 _ _ Wv),.inr (by rw[aq];omega)⟩,λlt=>⟨⟨_,_,.str (ns.getD i ""),.str ((ns.drop 1).getD i ""),bZ.of (iv.2.2 _ _ Wu),bZ.of (iv.2.2 _ _ Wv),PH ω,PH ω⟩,λx J' yl=>?_⟩⟩) ?_ ?_
       .obtain⟨TT,x1,y1,f1,f2,f3,f4,f5⟩:=yl
        have g1:=f4 _ (bZ.of (iv.2.2 _ _ Wu))
        have g2:=f5 _ (bZ.of (iv.2.2 _ _ Wv))
        rw[PH ω] at g1 g2
        cases g1;cases g2
        exact⟨TT,f1,f2,f3⟩
       .rintro i ys iR J TT hi KN ⟨e2,⟨v1,v2,rfl⟩,s2⟩ hTT
        refine Gf (bZ.of aB) ?_
        have nD:D2≠TT:=λz=>by rw[z,hTT] at KN;cases KN
        refine⟨_,rfl,_,rfl,_,_,rfl,rfl,by rw[aV nD];exact KN,?_,⟨_,_,rfl⟩,λb o e=>?_⟩
        .rw[Nl (z:=false) (by rw[nX,List.length_zipWith,hdl];omega),bF,e2]
         congr 1
         show[V.bl (Yi _ _)]=[V.bl _]
         rw[nX,Gk _ ω ω]
        .have e3:=s2 b o e
         rw[aV (dB e Gm),aV (dB e3 hTT)];exact e3
       .rintro ys iR J KN ⟨e2,⟨v1,v2,rfl⟩,s2⟩
        rw[cY (by rw[nX,List.length_zipWith];omega)] at e2
        refine⟨D2,nX ns,rfl,cT.of (by rw[KN,e2]),?_⟩
        have:=q J (s'.trans (sP.trans s2))
        rw[sx,c1,LL,R0,cm,cm,cm] at this
        exact this
   .refine⟨_,rfl,qB (no H (a_.refl _) ?_)⟩
    rw[sx,show decide (1<=(ds.length:Int))=false by simpa using c1,bj,bj]
end
def fz.one {X:Cx}{scope:Scope}{nm:List (Str×NameKind)}{v fr:Str}{j:Nat}(hN:X.N[j]?=some fr) (hk:scope.kind=.function) (hn:scope.names=nm) (h1:X.env.scope.names.lookup fr=some .cell) (c1:∀y∈nm,y.2≠.cell:=by decide+kernel) (c2:∀y∈nm,y.2=.local->nm.lookup y.1=some .local:=by decide+kernel)
  (c3:∀y∈nm,y.2=.free->y.1=fr:=by decide+kernel) (c4:(fr,NameKind.free)∈nm:=by decide+kernel) (c5:nm.lookup fr=some .free:=by decide+kernel):fz X scope [v,fr] [none,some j] where
 kind:=hk
 qD:=by rw[hn];exact c1
 own:=by rw[hn];exact c2
 out:=by
  rw[hn]
  intro y hy e
  rw[c3 y hy e]
  exact .inl h1
 len:=rfl
 free:=by
  intro i j' x e1 e2
  rw[hn]
  match i,e1,e2 with
  |1,e1,e2=>cases e1;cases e2;exact⟨hN,c4,c5⟩
  |n+2,e1,e2=>simp at e1
section
variable {P:aM}{w:bB}{K:Φ}{mg:Str->Option ag}{base:Heap}
def jP:PyData->Bool
 | .int i=>decide (1<=i)&&decide (i<=1000000000)
 |_=>false
def Yk:bW ["thing"] ["thing"] (aw Jf):={}
def LU (F:ji K "is_measure" "is_measure" Jf f fd) (T:Txt mg) (DW:Df P w K mg base 1 "is_whole" ["thing"] (xF vX)):dW P w K mg base fT 2 f fd ["thing"] (xF jP):=by
 exists F.ok,Yk
 .obtain⟨k,d,v,rfl,_⟩:=h
  rfl
 .obtain⟨k,d,v,rfl,t,hf,q⟩:=h
  obtain⟨th,Yf⟩:=T.LG
  refine⟨_,aF (bH (jR (cC DW hr (ae (pv 0) ah)) (mh (rC rB rB ao (pv 0) (fY (v:=.int 1000000000) rfl Yf ⟨th,rfl⟩))))),?_⟩
  refine⟨_,rfl,k,d,v,rfl,t,hf,λH1 s1=>⟨_,rfl,?_⟩⟩
  refine eP (λc=>?_) (λc=>?_)
  .cases d with
   |int i=>
    rw[jr] at t
    subst t
    refine⟨_,rfl,_,_,rfl,rfl,_,rfl,?_⟩
    have q':=q H1 s1
    refine eP (λc1=>?_) (λc1=>?_)
    .refine⟨_,_,rfl,rfl,?_⟩
     rw[show jP (.int i)=decide (i<=1000000000) by show(_&&_)=_;rw[c1,cm]] at q'
     exact q'
    .rw[show jP (.int i)=false by show(_&&_)=_;rw[show decide (1<=i)=false by simpa using c1,bj]] at q'
     exact q'
   |_=>cases c
  .have e:jP d=false:=by
    cases d with
    |int i=>exact absurd rfl c
    |_=>rfl
   have q':=q H1 s1
   rw[e] at q'
   exact q'
def jj:PyData->List Str
 | .tuple ds=>ds.map strOf
 |_=>[]
def gG:PyData->Bool
 | .tuple [f,s,t,o,c]=>(ke f&&(ke s&&decide ((jj f).length=(jj s).length)))&&(!((jj f).map λn=>decide (n∈jj s)).any id&&(jP t&&(jP o&&jP c)))
 |_=>false
def C7 (h:ds.length≠5):gG (.tuple ds)=false:=by
 match ds,h with
 | [],_=>rfl
 | [_],_=>rfl
 | [_,_],_=>rfl
 | [_,_,_],_=>rfl
 | [_,_,_,_],_=>rfl
 | [_,_,_,_,_],h=>exact absurd rfl h
 |_::_::_::_::_::_::_,_=>rfl
def Yl {ds:List PyData}(h:ds.length=5):∃a b c d e,ds=[a,b,c,d,e]:=by
 match ds,h with
 | [a,b,c,d,e],_=>exact⟨a,b,c,d,e,rfl⟩
def wg (h:ke d=true):∃ns:List Str,d=.tuple (ck ns)/\jj d=ns/\1<=ns.length/\ns.length<=4/\∀n∈ns,fA (.str n)=true:=by
 cases d with
 |tuple ds=>
  have h':((decide (1<=(ds.length:Int))&&decide ((ds.length:Int)<=4))&&((ds.map fA).all id&&(nX (ds.map strOf)).all id))=true:=h
  simp only[cJ,qW] at h'
  obtain⟨⟨h1,h2⟩,h3,h4⟩:=h'
  have all:∀d∈ds,fA d=true:=λd hd=>by
   rw[mM] at h3
   exact h3 _ (cU hd)
  refine⟨ds.map strOf,?_,rfl,by rw[aq];omega,by rw[aq];omega,λn hn=>?_⟩
  .congr 1
   unfold ck
   rw[oM]
   have:∀d∈ds,((PyData.str∘strOf) d)=d:=λd hd=>by
    obtain⟨x,rfl⟩:=qM (all d hd)
    rfl
   rw[j9 this,List.map_id']
  .obtain⟨d,hd,rfl⟩:=cS.mp hn
   have:=all d hd
   obtain⟨x,rfl⟩:=qM this
   exact this
 |_=>cases h
def Ym:List (Str×NameKind):=[(".0",.local),("name",.local),("second",.free)]
def Yn:(["name","second"]:List Str).Nodup:=by decide+kernel
def Gn:bW ["thing","first","second","time","other","course"] ["thing"] (aw C6):={}
def Jg (F:ji K "is_piece" "is_piece" C6 f fd) (T:Txt mg) (DC:Df P w K mg base 2 "is_crew" ["thing"] (xF ke)) (DM:Df P w K mg base 2 "is_measure" ["thing"] (xF jP)):dW P w K mg base fT 3 f fd ["thing"] (xF gG):=by
 exists F.ok,Gn
 .obtain⟨k,d,v,rfl,_⟩:=h
  rfl
 .obtain⟨k,d,v,rfl,t,hf,q⟩:=h
  refine⟨_,au (cQ (PW.pt (k_ (fO (fM (aR fL rfl T.tO aE (ae (pv 0) (ae (gQ (v:=.ty "tuple") rfl T.tuple cw rfl) ah)))))
    (mf (bo mT (aR bO rfl T.len bC (ae (pv 0) ah)) ao (bP _)))))
    (aF (bH nS)) bN)
   (au (iQ (pv 0) (gg rfl (bz (aZ (i:=1) Gn.nd) (bz (aZ (i:=2) Gn.nd rfl (Or.inr rfl)) (bz (aZ (i:=3) Gn.nd) (bz (aZ (i:=4) Gn.nd) (bz (aZ (i:=5) Gn.nd) eZ)))))))
   (au (cQ (PW.pt (k_ (fO (fM (cC DC hr (ae (pv 1) ah)))) (k_ (fO (fM (cC DC hr (ae (pv 2) ah))))
    (mf (bo mT (aR bO rfl T.len bC (ae (pv 1) ah)) (aR bO rfl T.len bC (ae (pv 2) ah)) (bP _))))))
    (aF (bH nS)) bN)
   (au (cQ (fM (aR (Il rfl) rfl T.any (by decide+kernel) (ae (kE (N:=["name","second"]) rfl (iq (pv 1)) (fz.one (v:="name") (fr:="second") (j:=2) (nm:=Ym) rfl rfl rfl rfl)
     (λ_ _ _=>aZ (i:=0) Yn) (λ_ _ _=>iX) (λ_ _ _=>jZ (Ig hr.units) (pv 0) (pv 1) (by with_unfolding_all rfl))) ah)))
    (aF (bH nS)) bN)
   (aF (bH (jR (cC DM hr (ae (pv 3) ah)) (jR (cC DM hr (ae (pv 4) ah)) (mh (cC DM hr (ae (pv 5) ah)))))))))),?_⟩
  refine⟨_,rfl,k,_,_,d,rfl,t,.inr (.inr (.inr (.inl rfl))),_,rfl,?_⟩
  have no:∀H',a_ H H'->gG d=false->Q (.bl false) H':=λH' s' e=>by have:=q H' s';rw[e] at this;exact this
  refine eP (λc=>?_) (λc=>?_)
  .refine qB (no H (a_.refl _) ?_)
   cases d with
   |tuple ds=>cases c
   |_=>rfl
  .obtain⟨ds,rfl⟩:=pT (d:=d) (by simpa using c)
   obtain⟨a,xs,rfl,hk,ha,ng⟩:=eU.mp t
   have hl:=gS ng
   refine⟨_,rfl,a,xs,rfl,.inr (bZ.of ha),rfl,_,rfl,?_⟩
   refine eP (λc1=>?_) (λc1=>?_)
   .refine no H (a_.refl _) (C7 λz=>IS c1 (by rw[hl,z];rfl))
   .have l5:ds.length=5:=by
     have e5:V.int (xs.length:Int)=V.int 5:=v_eq c1
     injection e5 with e5
     omega
    obtain⟨d1,d2,d3,d4,d5,rfl⟩:=Yl l5
    obtain⟨x1,r1,rfl,t1,ng⟩:=bU.mp ng
    obtain⟨x2,r2,rfl,t2,ng⟩:=bU.mp ng
    obtain⟨x3,r3,rfl,t3,ng⟩:=bU.mp ng
    obtain⟨x4,r4,rfl,t4,ng⟩:=bU.mp ng
    obtain⟨x5,r5,rfl,t5,ng⟩:=bU.mp ng
    rw[eE] at ng
    subst ng
    have AQ:=(Bd.pS hf).1
    have sx:gG (.tuple [d1,d2,d3,d4,d5])=((ke d1&&(ke d2&&decide ((jj d1).length=(jj d2).length)))&&(!((jj d1).map λn=>decide (n∈jj d2)).any id&&(jP d3&&(jP d4&&jP d5)))):=rfl
    refine⟨_,rfl,a,_,rfl,bZ.of ha,rfl,_,_,rfl,_,_,rfl,_,_,rfl,_,_,rfl,_,_,rfl,rfl,?_⟩
    refine⟨_,rfl,k,d1,x1,rfl,t1,AQ d1 ς,λH1 s1=>⟨_,rfl,?_⟩⟩
    refine eP (λc2=>?_) (λc2=>?_)
    .refine qB (no H1 s1 ?_)
     rw[sx,show ke d1=false by simpa using c2,bj,bj]
    have LL:ke d1=true:=by simpa using c2
    refine⟨_,rfl,k,d2,x2,rfl,t2.keep s1.keep,AQ d2 ς,λH2 s2=>⟨_,rfl,?_⟩⟩
    have s12:=s1.trans s2
    refine eP (λc3=>?_) (λc3=>?_)
    .refine qB (no H2 s12 ?_)
     rw[sx,show ke d2=false by simpa using c3,bj,fg,bj]
    have R0:ke d2=true:=by simpa using c3
    obtain⟨AU,rfl,e1,l1,m1,nm1⟩:=wg LL
    obtain⟨Hf,rfl,e2,l2,m2,nm2⟩:=wg R0
    obtain⟨a1,y1,rfl,k1,Yo,hy1⟩:=eU.mp t1
    obtain⟨a2,y2,rfl,k2,ha2,KN⟩:=eU.mp t2
    have f1:y1.length=AU.length:=by rw[gS hy1,ck,aq]
    have f2:y2.length=Hf.length:=by rw[gS KN,ck,aq]
    rw[e1,e2,LL,R0,cm,cm] at sx
    refine⟨_,rfl,a1,y1,rfl,.inr (bZ.of (s12 _ _ Yo)),_,rfl,a2,y2,rfl,.inr (bZ.of (s12 _ _ ha2)),rfl,_,rfl,?_⟩
    rw[f1,f2]
    refine eP (λc4=>?_) (λc4=>?_)
    .refine no H2 s12 ?_
     rw[sx,show decide (AU.length=Hf.length)=false from bD λz=>IS c4 (by rw[z]),bj]
    have c4':AU.length=Hf.length:=by
     have e5:V.int (AU.length:Int)=V.int (Hf.length:Int):=v_eq c4
     injection e5 with e5
     omega
    rw[aI c4',cm] at sx
    have Yp:∀{J:Hp},a_ H2 J->Tells J k (.tuple (ck Hf)) (.ref a2):=λsJ=>t2.keep (s12.trans sJ).keep
    have Yq:PyData.canLayAll0 (ck Hf)=true:=FW (Bd.pS (AQ _ (by simp:PyData.tuple (ck Hf)∈_))).1
    refine⟨_,rfl,a1,rfl,⟨y1,bZ.of (s12 _ _ Yo)⟩,λD hD=>?_⟩
    refine lE (n:=y1.length) (f:=λi=>y1.getD i .eK) (λi ys bX J=>ys=((AU.take i).map λn=>decide (n∈Hf)).map V.bl/\(∃v,bX=[v,some (.ref a2)])/\a_ H2 J) hD ω ⟨rfl,⟨none,rfl⟩,aP hD _⟩
     (λi ys bX J hi _ iv=>kQ (bZ.of (iv.2.2 _ _ (s12 _ _ Yo))) i hi) ?_ ?_
    .rintro i ys bX J hi hy ⟨q1,⟨v,rfl⟩,sJ⟩
     obtain⟨di,RZ,ti⟩:=nG hy1 (show y1[i]?=some (y1.getD i .eK) by simp[List.getD,hi])
     have PJ:i<AU.length:=ω
     have edi:di=.str (AU.getD i ""):=by
      unfold ck at RZ
      rw[bY,aG PJ] at RZ
      have:=(cM RZ).symm
      rw[this];simp[List.getD,PJ]
     subst edi
     have tn:=ff.mp ti
     rw[tn]
     have R1:AU.getD i ""∈AU:=by
      rw[show AU.getD i ""=AU[i] by simp[List.getD,PJ]]
      exact cB PJ
     have Yr:rL (.str (AU.getD i "")):=(Bd.pS (AQ _ (by simp:PyData.tuple (ck AU)∈_))).1 _ (cU R1)
     refine⟨_,rfl,_,rfl,k,k,.str (AU.getD i ""),ck Hf,ff.mpr rfl,.inl (Yp sJ),rL.lay Yr,Yq,?_⟩
     refine⟨hy,?_,⟨_,rfl⟩,λb o e=>?_⟩
     .rw[Nl (z:=("":Str)) PJ,bF,bF,q1]
      congr 1
      show[V.bl ((ck Hf).any λz=>PyData.eqv z (.str (AU.getD i "")))]=_
      rw[Gi]
      rfl
     .rw[aV (dB e hD)];exact sJ b o e
    .rintro ys bX J hy ⟨q1,⟨v,rfl⟩,sJ⟩
     rw[cY ω] at q1
     have PK:=s12.trans sJ
     refine⟨D,AU.map λn=>decide (n∈Hf),rfl,cT.of (by rw[hy,q1]),_,rfl,?_⟩
     refine eP (λc5=>?_) (λc5=>?_)
     .refine no J PK ?_
      rw[sx,c5];rfl
     have Ys:(AU.map λn=>decide (n∈Hf)).any id=false:=by simpa using c5
     rw[Ys,Bool.not_false,cm] at sx
     refine⟨_,rfl,k,d3,x3,rfl,t3.keep PK.keep,AQ d3 ς,λJ1 u1=>⟨_,rfl,?_⟩⟩
     refine eP (λc6=>?_) (λc6=>?_)
     .refine⟨_,rfl,k,d4,x4,rfl,t4.keep (PK.trans u1).keep,AQ d4 ς,λJ2 u2=>⟨_,rfl,?_⟩⟩
      refine eP (λc7=>?_) (λc7=>?_)
      .refine⟨_,rfl,k,d5,x5,rfl,t5.keep ((PK.trans u1).trans u2).keep,AQ d5 ς,λJ3 u3=>?_⟩
       have:=q J3 (((PK.trans u1).trans u2).trans u3)
       rw[sx,c6,c7,cm,cm] at this
       exact this
      .have:=q J2 ((PK.trans u1).trans u2)
       rw[sx,show jP d4=false by simpa using c7,bj,fg] at this
       exact this
     .have:=q J1 (PK.trans u1)
      rw[sx,show jP d3=false by simpa using c6,bj] at this
      exact this
end
abbrev Yt:Stmt:=top 18
abbrev Yu:Stmt:=top 26
def AV (m n:Nat):Nat.gcd n (m %n)=Nat.gcd m n:=by
 rw[Sv n (m %n),<-Nat.gcd_rec n m,Sv]
def uY (m n:Nat):((m:Int) %(n:Int))=((m %n:Nat):Int):=(Int.natCast_emod m n).symm
def EK (t:Int):(if t<0 then-t else t)=(t.natAbs:Int):=by
 split<;>omega
def ef (t b:Int):Int:=t/(Nat.gcd t.natAbs b.natAbs:Int)
def dM (t b:Int):Int:=b/(Nat.gcd t.natAbs b.natAbs:Int)
def EL {t b:Int}(h:0<b):0<Nat.gcd t.natAbs b.natAbs:=Nat.gcd_pos_of_pos_right _ ω
def Jh {m:Nat}(h:m<2^150):(m:Int)<2^200:=by
 have:m<2^200:=bh h (Nat.pow_le_pow_right δ δ)
 exact_mod_cast this
section
variable {P:aM}{w:bB}{K:Φ}{mg:Str->Option ag}{base:Heap}
def Ji:Sp:=λvs H Q _=>∃t b:Int,vs=[.int t,.int b]/\0<b/\b.natAbs<2^150/\t.natAbs<2^150/\∀p,H p=none->Q (.ref p) (upd H p (.tup [.int (ef t b),.int (dM t b)]))
def PL:bW ["top","bottom","divisor","rest"] ["top","bottom"] (aw Yt):={}
def tR:bootBuiltins "abs"=some (.builtin "abs"):=by decide+kernel
def Ua (F:ji K "fraction" "fraction" Yt f fd) (T:Txt mg):dW P w K mg base fT 1 f fd ["top","bottom"] Ji:=by
 exists F.ok,PL
 .obtain⟨t,b,rfl,_⟩:=h
  rfl
 .obtain⟨t,b,rfl,b0,b1,t1,q⟩:=h
  refine⟨_,au (yS (i:=2) (j:=3) rfl PL.nd rfl rfl δ rfl rfl (ae (pv 1) (ae (aR vD rfl T.abs tR (ae (pv 0) ah)) ah)) rfl)
   (au (Am eX (bo xS (pv 3) ao (bP _)) (aF (yS (i:=2) (j:=3) rfl PL.nd rfl rfl δ rfl rfl (ae (pv 3) (ae (bT nB (pv 2) (pv 3)) ah)) rfl)))
   (aF (bH (bQ (ae (bT o8 (pv 0) (pv 2)) (ae (bT o8 (pv 1) (pv 2)) ah)))))),?_⟩
  refine⟨_,rfl,_,rfl,_,rfl,_,_,rfl,?_⟩
  refine An (λbX H'=>H'=H/\∃m n:Nat,bX=[some (.int t),some (.int b),some (.int m),some (.int n)]/\0<m/\Nat.gcd m n=Nat.gcd t.natAbs b.natAbs/\m<2^150/\n<2^150)
   (λbX _=>match bX with| [_,_,_,some (.int n)]=>n.toNat|_=>0) ?_ ?_ ?_
  .refine⟨rfl,b.natAbs,t.natAbs,?_,ω,Sv _ _,b1,t1⟩
   show[some (V.int t),some (V.int b),some (V.int b),some (V.int (if t<0 then-t else t))]=_
   rw[EK,show((b.natAbs:Nat):Int)=b by omega]
  .rintro bX H' ⟨rfl,m,n,rfl,m0,hg,hm,hn⟩
   refine⟨_,rfl,_,_,rfl,rfl,_,rfl,?_⟩
   refine eP (λc=>?_) (λc=>?_)
   .have n0:0<n:=by have:(0:Int)<(n:Int):=aX c;omega
    refine⟨_,rfl,_,rfl,_,rfl,_,_,rfl,rfl,ω,_,_,rfl,⟨rfl,n,m %n,?_,n0,by rw[AV];exact hg,hn,bb (Nat.mod_le _ _) hm⟩,?_⟩
    .show[some (V.int t),some (V.int b),some (V.int (n:Int)),some (V.int ((m:Int) %(n:Int)))]=_
     rw[uY]
    .show((m:Int) %(n:Int)).toNat<(n:Int).toNat
     rw[uY]
     have:=Nat.mod_lt m n0
     omega
   .have n0:n=0:=by have: ¬(0:Int)<(n:Int):=by simpa using c
                    omega
    subst n0
    rw[Nat.gcd_zero_right] at hg
    have bd:(0:Int)<(m:Int)/\(m:Int)<2^200:=⟨ω,Jh hm⟩
    refine⟨_,rfl,_,rfl,_,_,rfl,rfl,bd,_,rfl,_,rfl,_,_,rfl,rfl,bd,dP,λp hp=>?_⟩
    have:=q p hp
    unfold ef dM at this
    rw[<-hg] at this
    exact this
  .rintro bX H' Q1 Q2 imp ⟨v,hv,i,j,e1,e2,b',e3,h⟩
   exact⟨v,hv,i,j,e1,e2,b',e3,imp _ _ h⟩
def Ub (K:Φ):Sp:=λvs H Q _=>∃(a:ai) (x y:V) (t o c:Int),vs=[.ref a]/\bZ K H a [x,y,.int t,.int o,.int c]/\0<c/\c.natAbs<2^150/\(o-t).natAbs<2^150/\∀p,H p=none->Q (.ref p) (upd H p (.tup [.int (ef (o-t) c),.int (dM (o-t) c)]))
def Gp:bW ["piece","first","second","time","other","course"] ["piece"] (aw Yu):={}
def Uc (F:ji K "margin" "margin" Yu f fd) (DF:Df P w K mg base 1 "fraction" ["top","bottom"] Ji):dW P w K mg base fT 2 f fd ["piece"] (Ub K):=by
 exists F.ok,Gp
 .obtain⟨a,x,y,t,o,c,rfl,_⟩:=h
  rfl
 .obtain⟨a,x,y,t,o,c,rfl,hS,c0,c1,d1,q⟩:=h
  refine⟨_,au (iQ (pv 0) (gg rfl (bz (aZ (i:=1) Gp.nd) (bz (aZ (i:=2) Gp.nd) (bz (aZ (i:=3) Gp.nd) (bz (aZ (i:=4) Gp.nd) (bz (aZ (i:=5) Gp.nd) eZ)))))))
   (aF (bH (cC DF hr (ae (bT mj (pv 4) (pv 3)) (ae (pv 5) ah))))),?_⟩
  refine⟨_,rfl,a,_,rfl,hS,rfl,_,_,rfl,_,_,rfl,_,_,rfl,_,_,rfl,_,_,rfl,rfl,?_⟩
  exact⟨_,rfl,_,rfl,_,_,rfl,rfl,_,rfl,o-t,c,rfl,c0,c1,d1,q⟩
end
end K12
namespace K12
open PySem L2 HT
def yu (t b:Int):((Nat.gcd t.natAbs b.natAbs:Nat):Int)∣t:=Int.natAbs_dvd_natAbs.mp (by rw[Ah];exact Nat.gcd_dvd_left _ _)
def yv (t b:Int):((Nat.gcd t.natAbs b.natAbs:Nat):Int)∣b:=Int.natAbs_dvd_natAbs.mp (by rw[Ah];exact Nat.gcd_dvd_right _ _)
def zm (hb:0<b):ef t b*b=t*dM t b:=by
 unfold ef dM
 have g0:(0:Int)<((Nat.gcd t.natAbs b.natAbs:Nat):Int):=by have:=EL (t:=t) hb;omega
 obtain⟨x,hx⟩:=yu t b
 obtain⟨y,hy⟩:=yv t b
 generalize ((Nat.gcd t.natAbs b.natAbs:Nat):Int)=g at*
 subst hx hy
 rw[rm _ ω,rm _ ω]
 grind
def mV (hb:0<b):0<dM t b:=by
 unfold dM
 have g0:(0:Int)<((Nat.gcd t.natAbs b.natAbs:Nat):Int):=by have:=EL (t:=t) hb;omega
 obtain⟨y,hy⟩:=yv t b
 generalize ((Nat.gcd t.natAbs b.natAbs:Nat):Int)=g at*
 subst hy
 rw[rm _ ω]
 exact Int.pos_of_mul_pos_right hb g0
def AW (hk:0<k):ef (k*t) (k*b)=ef t b/\dM (k*t) (k*b)=dM t b:=by
 unfold ef dM
 have e:((Nat.gcd (k*t).natAbs (k*b).natAbs:Nat):Int)=k*((Nat.gcd t.natAbs b.natAbs:Nat):Int):=by
  rw[KY,KY,Nat.gcd_mul_left,Int.natCast_mul]
  congr 1
  omega
 rw[e,RL _ _ hk,RL _ _ hk]
 exact⟨rfl,rfl⟩
def NI (hb:0<b) (hd:0<d) (e:a*d=c*b):ef a b=ef c d/\dM a b=dM c d:=by
 obtain⟨h1,h2⟩:=AW (t:=a) (b:=b) hd
 obtain⟨h3,h4⟩:=AW (t:=c) (b:=d) hb
 have e1:d*a=b*c:=by rw[Sw,e,Sw]
 have e2:d*b=b*d:=Sw _ _
 rw[<-h1,<-h2,e1,e2,h3,h4]
 exact⟨rfl,rfl⟩
def LV (hb:0<b):ef 0 b=0/\dM 0 b=1:=by
 obtain⟨h1,h2⟩:=NI (a:=0) (b:=b) (c:=0) (d:=1) hb δ ω
 exact⟨h1.trans δ,h2.trans δ⟩
def wj:(ef t b).natAbs<=t.natAbs:=Nm _ _
def wk:(dM t b).natAbs<=b.natAbs:=Nm _ _
abbrev Up (l:List Str):Prop:=l.Pairwise λa b=>dZ a b=true
def o_ (h:dZ a b=true):dZ b a=false:=by
 cases e:dZ b a with
 |false=>rfl
 |true=>have:=tK h e;rw[zj] at this;cases this
def Jj (h:dZ a b=true):a≠b:=λz=>by rw[z,zj] at h;cases h
def pb (ha:Up a) (hb:Up b) (p:a.Perm b):a=b:=
 Oo (λx y _ _ h1 h2=>by rw[o_ h1] at h2;cases h2) ha hb p
def Up.nodup (h:Up l):l.Nodup:=h.imp λz=>Jj z
def yy:∀{l:List Str}{p:Str},PyProof.Rows.risingS p l=true->(p::l).Nodup->(p::l).Pairwise λa b=>dZ a b=true
 | [],p,_,_=>by simp
 |x::l,p,h,nd=>by
  have h':=(cJ _ _▸h:_/\_)
  have Ww:=iZ.mp nd
  have ih:=yy h'.2 Ww.2
  have px:dZ p x=true:=by
   have n:p≠x:=λz=>Ww.1 (z▸cj)
   rcases uV n with z|z
   .exact z
   .have:=h'.1
    rw[PyProof.Rows.ltCps_eq] at this
    unfold dZ at z
    rw[z] at this
    cases this
  refine Ai.mpr ⟨λy hy=>?_,ih⟩
  rcases aD.mp hy with rfl|hy
  .exact px
  .exact tK px ((Ai.mp ih).1 y hy)
def pV (h:PyProof.Rows.sortedS l=true) (nd:l.Nodup):l.Pairwise λa b=>dZ a b=true:=by
 cases l with
 |nil=>exact .nil
 |cons x l=>exact yy h nd
structure qt where
 a:List Str
 b:List Str
 t:Int
 o:Int
 c:Int
def jU (H:Hp) (r:ai) (p:qt):Prop:=∃a b,H r=some (.tup [.ref a,.ref b,.int p.t,.int p.o,.int p.c])/\H a=some (.tup (p.a.map V.str))/\H b=some (.tup (p.b.map V.str))
def jU.up (h:jU H r p) (s:∀b xs,H b=some (.tup xs)->H' b=some (.tup xs)):jU H' r p:=by
 obtain⟨a,b,h1,h2,h3⟩:=h
 exact⟨a,b,s _ _ h1,s _ _ h2,s _ _ h3⟩
def jU.same (h:jU H r p) (s:a_ H H'):jU H' r p:=h.up λ_ _ e=>s _ _ e
structure C8 (a:List Str):Prop where
 l1:1<=a.length
 l4:a.length<=4
 ok:∀n∈a,okN n
structure ix (p:qt):Prop where
 a:C8 p.a
 b:C8 p.b
 t1:1<=p.t
 t9:p.t<=1000000000
 o1:1<=p.o
 o9:p.o<=1000000000
 c1:1<=p.c
 c9:p.c<=1000000000
structure gq (p:qt):Prop where
 a:Up p.a
 b:Up p.b
 no:∀n∈p.a,n∉p.b
 le:p.a.length=p.b.length
def exc (a:List Str) (m y:Str):List Str:=a.filter (λn=>!decide (n=m))++ [y]
def xG (a:List Str) (m y:Str) (c:List Str):Prop:=c.Perm (exc a m y)/\Up c
def xG.uniq (h:xG a m y c) (k:xG a m y d):c=d:=pb h.2 k.2 (h.1.trans k.1.symm)
def kR:x∈exc a m y↔(x∈a/\x≠m)\/x=y:=by
 unfold exc
 rw[dq,dE,bV]
 simp
def tS (h:a.Nodup) (hy:y∉a):(exc a m y).Nodup:=by
 unfold exc
 rw[qY]
 refine⟨h.filter _,ς,λx hx z hz=>?_⟩
 rw[bV.mp hz]
 rintro rfl
 exact hy (dE.mp hx).1
def uZ (h:a.Nodup) (hy:y∉a) (p:c.Perm (exc a m y)) (s:PyProof.Rows.sortedS c=true):xG a m y c:=⟨p,pV s (p.nodup_iff.mpr (tS h hy))⟩
structure Xp (p q:qt) (m y:Str):Prop where
 hm:m∈p.a
 hy:y∈p.b
 a:xG p.a m y q.a
 b:xG p.b y m q.b
def mF {a b:List Str}(ha:a.Nodup) (hb:b.Nodup) (h:∀x,x∈a↔x∈b):a.Perm b:=(List.perm_ext_iff_of_nodup ha hb).mpr h
def C9 {a:List Str}(h:a.Nodup) (hm:m∈a) (hf:∀x∈a,f x=true↔x=m):a.filter f=[m]:=by
 have hn:(a.filter f).Nodup:=h.filter _
 have hp:(a.filter f).Perm [m]:=mF hn ς λx=>by
  rw[dE,bV]
  exact⟨λz=>(hf x z.1).mp z.2,λz=>z▸⟨hm,(hf m hm).mpr rfl⟩⟩
 exact List.perm_singleton.mp hp
def gO (a b:List Str):List Str:=a.filter λn=>!decide (n∈b)
def rS (h:a.Nodup) (hm:m∈a) (hf:∀x∈a,x∉b↔x=m):gO a b=[m]:=C9 h hm λx hx=>by rw[<-hf x hx];simp
def pW (e:gO a b=[m]):m∈a/\m∉b/\∀x∈a,x∉b->x=m:=by
 have hm:m∈gO a b:=by rw[e];simp
 have h:=dE.mp hm
 refine⟨h.1,by simpa using h.2,λx hx hn=>?_⟩
 have:x∈gO a b:=dE.mpr ⟨hx,by simpa using hn⟩
 rw[e] at this
 exact bV.mp this
def Xp.diff {p q:qt}{m y:Str}(P:gq p) (x:Xp p q m y):gO p.a q.a=[m]/\gO q.a p.a=[y]/\gO p.b q.b=[y]/\gO q.b p.b=[m]:=by
 have my:m≠y:=λz=>P.no _ x.hm (z▸x.hy)
 have Ud:y∉p.a:=λz=>P.no _ z x.hy
 have Ue:m∉p.b:=P.no _ x.hm
 have e1:∀z,z∈q.a↔(z∈p.a/\z≠m)\/z=y:=λz=>by rw[x.a.1.mem_iff,kR]
 have e2:∀z,z∈q.b↔(z∈p.b/\z≠y)\/z=m:=λz=>by rw[x.b.1.mem_iff,kR]
 refine⟨rS P.a.nodup x.hm λz hz=>?_,rS x.a.2.nodup ((e1 y).mpr (.inr rfl)) λz hz=>?_,rS P.b.nodup x.hy λz hz=>?_,rS x.b.2.nodup ((e2 m).mpr (.inr rfl)) λz hz=>?_⟩
 .rw[e1]
  refine⟨λh=>jX λw=>h (.inl ⟨hz,w⟩),?_⟩
  rintro rfl (h|h)
  .exact h.2 rfl
  .exact my h
 .refine⟨λh=>?_,λh=>h▸Ud⟩
  rcases(e1 z).mp hz with w|w
  .exact absurd w.1 h
  .exact w
 .rw[e2]
  refine⟨λh=>jX λw=>h (.inl ⟨hz,w⟩),?_⟩
  rintro rfl (h|h)
  .exact h.2 rfl
  .exact my h.symm
 .refine⟨λh=>?_,λh=>h▸Ue⟩
  rcases(e2 z).mp hz with w|w
  .exact absurd w.1 h
  .exact w
def Ug (P:gq p) (Qc:gq q) (h1:gO p.a q.a=[m]) (h2:gO q.a p.a=[y]) (h3:gO p.b q.b=[y]) (h4:gO q.b p.b=[m]):Xp p q m y:=by
 obtain⟨a1,a2,a3⟩:=pW h1
 obtain⟨b1,b2,b3⟩:=pW h2
 obtain⟨c1,c2,c3⟩:=pW h3
 obtain⟨d1,d2,d3⟩:=pW h4
 refine⟨a1,c1,⟨?_,Qc.a⟩,⟨?_,Qc.b⟩⟩
 .refine mF Qc.a.nodup (tS P.a.nodup b2) λz=>?_
  rw[kR]
  constructor
  .intro hz
   by_cases hp:z∈p.a
   .exact .inl ⟨hp,λw=>a2 (w▸hz)⟩
   .exact .inr (b3 z hz hp)
  .rintro(⟨h,n⟩|h)
   .exact jX λw=>n (a3 z h w)
   .exact h▸b1
 .refine mF Qc.b.nodup (tS P.b.nodup d2) λz=>?_
  rw[kR]
  constructor
  .intro hz
   by_cases hp:z∈p.b
   .exact .inl ⟨hp,λw=>c2 (w▸hz)⟩
   .exact .inr (d3 z hz hp)
  .rintro(⟨h,n⟩|h)
   .exact jX λw=>n (c3 z h w)
   .exact h▸d1
def wm (nd:a.Nodup) (h:m∈a):(exc a m y).length=a.length:=by
 unfold exc
 rw[aK,aJ]
 have e:a.filter (λn=>!decide (n=m))=a.erase m:=by
  rw[nd.erase_eq_filter]
  rfl
 rw[e,List.length_erase_of_mem h]
 have:0<a.length:=List.length_pos_of_mem h
 omega
def Xp.Uh (P:gq p) (x:Xp p q m y):gq q:=by
 have my:m≠y:=λz=>P.no _ x.hm (z▸x.hy)
 refine⟨x.a.2,x.b.2,λn hn hb=>?_,?_⟩
 .rw[x.a.1.mem_iff,kR] at hn
  rw[x.b.1.mem_iff,kR] at hb
  rcases hn with⟨h1,h2⟩|h1<;>rcases hb with⟨h3,h4⟩|h3
  .exact P.no n h1 h3
  .exact h2 h3
  .exact h4 h1
  .exact my (h3.symm.trans h1)
 .rw[x.a.1.length_eq,x.b.1.length_eq,wm P.a.nodup x.hm,wm P.b.nodup x.hy];exact P.le
def Xp.uniq (P:gq p) (x:Xp p q m y) (x':Xp p q m' y'):m=m'/\y=y':=by
 have a:=x.diff P
 have b:=x'.diff P
 have h1:=a.1.symm.trans b.1
 have h2:=a.2.1.symm.trans b.2.1
 simp only[Hr,and_true] at h1 h2
 exact⟨h1,h2⟩
def qu (p q:qt):Int:=(p.o-p.t)*q.c-(q.o-q.t)*p.c
def pd (p q:qt) (m y:Str):Str×Str×Int×Int:=
 let d:=qu p q
 let b:=p.c*q.c
 if 0<d then(m,y,ef d b,dM d b) else if d<0 then(y,m,ef (-d) b,dM (-d) b) else(if dZ y m=true then y else m,if dZ y m=true then m else y,0,1)
def Told (p q:qt) (r:Option (Str×Str×Int×Int)):Prop:=(∃m y,Xp p q m y/\r=some (pd p q m y))\/((∀m y,¬Xp p q m y)/\r=none)
def Told.uniq (P:gq p) (h:Told p q r) (h':Told p q r'):r=r':=by
 rcases h with⟨m,y,x,rfl⟩|⟨n,rfl⟩<;>rcases h' with⟨m',y',x',rfl⟩|⟨n',rfl⟩
 .obtain⟨rfl,rfl⟩:=x.uniq P x';rfl
 .exact absurd x (n' _ _)
 .exact absurd x' (n _ _)
 .rfl
def PM {p q:qt}(hp:0<p.c) (hq:0<q.c):ef (ef (p.o-p.t) p.c*dM (q.o-q.t) q.c-ef (q.o-q.t) q.c*dM (p.o-p.t) p.c) (dM (p.o-p.t) p.c*dM (q.o-q.t) q.c)=ef (qu p q) (p.c*q.c)/\
  dM (ef (p.o-p.t) p.c*dM (q.o-q.t) q.c-ef (q.o-q.t) q.c*dM (p.o-p.t) p.c) (dM (p.o-p.t) p.c*dM (q.o-q.t) q.c)=dM (qu p q) (p.c*q.c):=by
 have m1:=zm (t:=p.o-p.t) hp
 have m2:=zm (t:=q.o-q.t) hq
 have b1:=mV (t:=p.o-p.t) hp
 have b2:=mV (t:=q.o-q.t) hq
 generalize ef (p.o-p.t) p.c=T1 at*
 generalize dM (p.o-p.t) p.c=B1 at*
 generalize ef (q.o-q.t) q.c=T2 at*
 generalize dM (q.o-q.t) q.c=B2 at*
 refine NI (qZ b1 b2) (qZ hp hq) ?_
 unfold qu
 rw[Int.sub_mul,Int.sub_mul]
 have a1:T1*B2*(p.c*q.c)=(p.o-p.t)*q.c*(B1*B2):=by
  calc T1*B2*(p.c*q.c)=(T1*p.c)*(B2*q.c):=by ac_rfl
   _=((p.o-p.t)*B1)*(B2*q.c):=by rw[m1]
   _=_:=by ac_rfl
 have a2:T2*B1*(p.c*q.c)=(q.o-q.t)*p.c*(B1*B2):=by
  calc T2*B1*(p.c*q.c)=(T2*q.c)*(B1*p.c):=by ac_rfl
   _=((q.o-q.t)*B2)*(B1*p.c):=by rw[m2]
   _=_:=by ac_rfl
 rw[a1,a2]
def PN (hb:0<b):ef (-t) b=-ef t b/\dM (-t) b=dM t b:=by
 have h:=zm (t:=t) hb
 unfold ef dM
 rw[Int.natAbs_neg]
 refine⟨?_,rfl⟩
 rw[Int.neg_ediv_of_dvd]
 exact yu t b
def LW (hb:0<b):(0<ef t b↔0<t)/\(ef t b<0↔t<0):=by
 have h:=zm (t:=t) hb
 have hB:=mV (t:=t) hb
 generalize ef t b=T at*
 generalize dM t b=B at*
 have key:∀{x y u v:Int},0<u->0<v->x*u=y*v->0<x->0<y:=λhu hv e hx=>by
  have:=qZ hx hu
  rw[e] at this
  exact Int.pos_of_mul_pos_left this hv
 refine⟨⟨key hb hB h,key hB hb h.symm⟩,⟨λz=>?_,λz=>?_⟩⟩
 .have:=key (x:=-T) (y:=-t) hb hB (by rw[G9,G9,h]) ω
  omega
 .have:=key (x:=-t) (y:=-T) hB hb (by rw[G9,G9,h]) ω
  omega
end K12
namespace K12
open PySem L2
abbrev Yv:Stmt:=top 46
def Yw:List (Str×NameKind):=[(".0",.local),("k",.local),("_law_pick",.globalImplicit),("deck",.free)]
def Ui:(["k","deck"]:List Str).Nodup:=by decide+kernel
section
variable {P:aM}{w:bB}{K:Φ}{mg:Str->Option ag}{base:Heap}
def PQ:Sp:=λvs H Q _=>∃(k:ai) (c:Int) (p:ai) (ns:List Str),vs=[.ref k,.ref p]/\cN H k c/\c<=20000/\p≠k/\H p=some (.lst (ns.map V.str))/\2<=ns.length/\ns.length<=12/\(∀n∈ns,okN n)/\ns.Nodup/\
 ∀(r:ai) (pc:qt) (c':Int) (H':Hp),ez k H H'->cN H' k c'->c'<=c+60->jU H' r pc->ix pc->gq pc->Q (.ref r) H'
def Jk {ss sA sB:List Str}(nd:ss.Nodup) (pA:sA.Perm (ss.take m)) (pB:sB.Perm ((ss.drop m).take m)) (oA:PyProof.Rows.sortedS sA=true) (oB:PyProof.Rows.sortedS sB=true):Up sA/\Up sB/\∀n∈sA,n∉sB:=by
 have h1:(ss.take m).Nodup:=nd.sublist (qU _ _)
 have h2:((ss.drop m).take m).Nodup:=(nd.sublist (List.drop_sublist _ _)).sublist (qU _ _)
 refine⟨pV oA (pA.nodup_iff.mpr h1),pV oB (pB.nodup_iff.mpr h2),λn hA hB=>?_⟩
 have a:=pA.mem_iff.mp hA
 have b:=hX (pB.mem_iff.mp hB)
 rw[<-List.take_append_drop m ss,qY] at nd
 exact nd.2.2 n a n b rfl
def AX {ss ns:List Str}(h:ss.Perm (ns.take i)) (hi:i<ns.length):(ss.take r++ns[i]::ss.drop r).Perm (ns.take (i+1)):=by
 rw[qX,aG hi,Option.toList_some]
 refine List.perm_middle.trans ?_
 rw[List.take_append_drop]
 exact(List.Perm.cons _ h).trans (KZ _ _).symm
def wo:bW ["deck","names","many","order","name","times","course","crews"] ["deck","names"] (aw Yv):={}
def yz:bootBuiltins "min"=some (.builtin "min"):=by decide+kernel
def fP:bootBuiltins "sorted"=some (.builtin "sorted"):=by decide+kernel
def wA {c c':Int}{i n:Nat}(hc:c<=20000) (h:c'<=c+1+i) (hi:i<=n) (hn:n<=12):c'<=20013:=ω
def wB {i:Nat}(h:c2<=c'+3*(i:Int)) (hc:c'<=20013) (hi:i<=2):c2<=20019:=ω
def wC {a b x:Int}(h:a<=b+1) (hb:b<=x):a<=x+1:=dz h (Int.add_le_add_right hb 1)
def wD {i:Nat}(h:c2<=c'+3*(i:Int)) (ea:ca<=c2+1) (eb:cb<=ca+1) (ec:cc<=cb+1):cc<=c'+3*((i+1:Nat):Int):=ω
def wE {c c' c2:Int}{i:Nat}(h:c'<=c+1+i) (e:c2<=c'+1):c2<=c+1+((i+1:Nat):Int):=ω
def wF {i n:Nat}(h:i<n) (hn:n<=12):(i:Int)+1<=10000000000000:=ω
def wG {r k a n:Int}(h:r<k) (e:a+k<=n):a+r<=n:=dz (yH (So h) a) e
def wH {r a:Int}(h:0<=r) (e:1<=a):1<=a+r:=dz e (KW h)
def wI {n:Nat}(h:c2<=c'+3*((2:Nat):Int)) (ea:ca<=c2+1) (ec:cc<=ca+1) (hc:c'<=c+1+n) (hn:n<=12):cc<=c+60:=ω
def wM {M r:Int}{m n:Nat}(M4:M<=4) (M2:2*M<=n) (g:0<=r) (l:r<M) (em:1+r=m):1<=m/\m<=4/\2*m<=n:=ω
def w3 {r:Int}(h:0<=r) (l:r<3):r=0\/r=1\/r=2:=ω
def w4 {r:Int}(h:0<=r) (l:r<4):r=0\/r=1\/r=2\/r=3:=ω
def wS {n:Nat}(l2:2<=n) (l12:n<=12):∃M:Int,(if(n:Int)/2<4 then(n:Int)/2 else 4)=M/\1<=M/\M<=4/\2*M<=n/\0<M/\M<=10000000000000:=by
 refine⟨_,rfl,?_⟩
 split<;>omega
def Uj (F:ji K "_law_piece" "_law_piece" Yv f fd) (T:Txt mg) (DP:Df P w K mg base 1 "_law_pick" ["deck","many"] gF):dW P w K mg base fT 2 f fd ["deck","names"] PQ:=by
 exists F.ok,wo
 .obtain⟨k,c,p,ns,rfl,_⟩:=h
  rfl
 .obtain⟨k,c,p,ns,rfl,hk,hc,PD,hp,l2,l12,Yx,ndn,q⟩:=h
  refine⟨_,au (ku (i:=2) wo.nd (bT gi ao (cC DP hr (ae (pv 0) (ae (aR (FD rfl) rfl T.min yz (ae ao (ae (bT Ej (aR bO rfl T.len bC (ae (pv 1) ah)) ao) ah))) ah)))))
   (au (ku (i:=3) wo.nd (cX ah))
   (au (mi eX rfl (jz (pv 1)) (aZ (i:=4) wo.nd)
    (aF (gA (ql cx PySem.F.slot_list_insert PySem.F.type_list_insert FV (pv 3)
     (ae (cC DP hr (ae (pv 0) (ae (bT gi (aR bO rfl T.len bC (ae (pv 3) ah)) ao) ah))) (ae (pv 4) ah))))))
   (au (jE (i0:=5) wo.nd rfl (Or.inl rfl) rfl (xR rfl T.range (ae ao ah)) (fz.one (v:="k") (fr:="deck") (j:=0) (nm:=Yw) rfl rfl rfl rfl)
    (λ_ _ _=>aZ (i:=0) Ui) (λ_ _ _=>iX)
    (te:=gJ (Le K) (xA (cA (gJ (Ha λi j=>.int (i+j)) (tC (.int 1)) (lV gF [] E0 (cA (b_ 1) (cA (tC (.int 9)) fE)))) (cA (gJ (Ha λi j=>.int (i+j)) (tC (.int 300)) (lV gF [] E0 (cA (b_ 1) (cA (tC (.int 60)) fE)))) (cA (gJ (rI SU λi j=>.int (i^j.toNat)) (tC (.int 10)) (tC (.int 9))) fE)))) (lV gF [] E0 (cA (b_ 1) (cA (tC (.int 3)) fE))))
    (λ_ _ _=>bg cV (cX (ae (bT gi ao (cC DP hr (ae (pv 1) (ae ao ah)))) (ae (bT gi ao (cC DP hr (ae (pv 1) (ae ao ah)))) (ae (bT mv ao ao) ah)))) (cC DP hr (ae (pv 1) (ae ao ah)))))
   (au (ku (i:=6) wo.nd (bg cV (cX (ae ao (ae ao (ae (bT gi ao (cC DP hr (ae (pv 0) (ae ao ah)))) (ae (bT mv ao ao) ah))))) (cC DP hr (ae (pv 0) (ae ao ah)))))
   (au (ku (i:=7) wo.nd (bQ (ae (fK fB rfl T.tuple cw (ae (aR iK rfl T.sorted fP (ae (gY pP (pv 3) jC (iJ (pv 2))) ah)) ah))
    (ae (fK fB rfl T.tuple cw (ae (aR iK rfl T.sorted fP (ae (gY pP (pv 3) (iJ (pv 2)) (iJ (bT mq ao (pv 2)))) ah)) ah)) ah))))
   (aF (bH (bT lX (pv 7) (bQ (ae (bg cV (pv 5) ao) (ae (bg cV (pv 5) ao) (ae (pv 6) ah)))))))))))),?_⟩
  obtain⟨M,hM,M1,M4,M2,M0,M9⟩:=wS l2 l12
  rw[<-aq (f:=V.str)] at hM
  refine lF λD1 zo=>?_
  refine⟨_,rfl,_,rfl,p,_,rfl,.inl (cT.of hp),_,_,rfl,rfl,⟨δ,δ⟩,_,_,rfl,k,c,_,rfl,hk,dz hc δ,hM▸M0,hM▸M9,λr c1 H1 k1 d1 e1 g1 l1=>⟨_,_,rfl,rfl,?_⟩⟩
  rw[hM] at l1
  obtain⟨m,em⟩:∃m:Nat,1+r=(m:Int):=⟨(1+r).toNat,(Int.toNat_of_nonneg (Int.add_nonneg δ g1)).symm⟩
  obtain⟨m1,m4,m2⟩:=wM M4 M2 g1 l1 em
  refine zo _ _ ?_
  refine lF λD2 Gm=>?_
  refine⟨dP,λfo PR=>?_⟩
  have Uk:k≠fo:=d1.ne PR
  have Yy:H fo=none:=rR k1 Uk.symm PR
  have Jl:=k1 p _ PD hp
  have hpf:p≠fo:=λz=>by rw[z,PR] at Jl;cases Jl
  refine Gm _ _ ?_
  refine lF λD3 PU=>?_
  refine⟨_,rfl,p,rfl,⟨_,cT.of (aP PR _ _ _ Jl)⟩,oS (K:=K) (a:=p) (xs:=ns.map V.str) (λi bX H'=>∃(v:Option V) (c':Int) (ss:List Str),bX=[some (.ref k),some (.ref p),some (.int m),some (.ref fo),v,none,none,none]/\ez k H H'/\H' p=some (.lst (ns.map V.str))/\cN H' k c'/\c'<=c+1+i/\
    H' fo=some (.lst (ss.map V.str))/\ss.length=i/\(∀n∈ss,okN n)/\ss.Perm (ns.take i)) ?_ (λi bX H' _ ⟨_,_,_,_,_,h,_⟩=>cT.of h) ?_ ?_⟩
  .refine⟨none,c1,[],?_,k1.trans (ez.new PR _),aP PR _ _ _ Jl,d1.new PR,dz e1 (Int.le_of_eq (Int.add_zero _).symm),aB,rfl,ς,ς⟩
   rw[<-em]
   rfl
  .rintro i y bX H' hi ⟨v,c',ss,rfl,kH,hP,dk,zY,hF,R3,oF,pm⟩
   have NC:i<ns.length:=by
    have:=(br.mp hi).1
    simpa using this
   have hy:y=.str ns[i]:=by
    rw[bY,aG NC] at hi
    exact(cM hi).symm
   have Ul:okN ns[i]:=Yx _ (cB NC)
   have hpm:=λr=>AX (r:=r) pm NC
   generalize ns[i]=nm at hy Ul hpm
   subst hy
   have sl:(ss.map V.str).length=i:=by rw[aq];exact R3
   refine⟨_,rfl,.inl ⟨rfl,_,cT.of hF⟩,?_⟩
   refine⟨_,rfl,_,rfl,fo,_,rfl,.inl (cT.of hF),_,_,rfl,rfl,k,c',_,rfl,dk,dz (wA hc zY (cR NC) l12) δ,by rw[sl];exact Int.succ_ofNat_pos i,by rw[sl];exact wF NC l12,λr2 c2 H2 k2 d2 e2 g2 LX=>?_⟩
   rw[sl] at LX
   have hF2:=k2 fo _ Uk.symm hF
   refine⟨_,rfl,fo,_,r2,_,rfl,rfl,hF2,dD (aA (fj sl) (aA (cR NC) (aA l12 δ))),g2,by rw[sl];exact Int.le_of_lt_add_one LX,?_⟩
   rw[C4]
   have Hc:=C5 ss (i:=r2.toNat) nm (by rw[R3];exact Int.toNat_le.mpr (Int.le_of_lt_add_one LX))
   refine⟨_,c2,_,rfl,λb o n e=>by rw[aV (dB e Yy)];exact k2 b o n (kH b o n e),by rw[aV hpf];exact k2 p _ PD hP,d2.keep (λo e=>by rw[aV Uk];exact e),wE zY e2,aB,Hc.trans (iD (· +1) R3),Gj r2.toNat oF Ul,hpm _⟩
  .rintro bX H' ⟨v,c',ss,rfl,kH,hP,dk,zY,hF,R3,oF,pm⟩
   rw[aq] at zY R3 pm
   rw[dj] at pm
   have SH:=wA hc zY (ar _) l12
   refine PU _ _ ?_
   refine lF λD4 Um=>?_
   refine⟨_,rfl,δ,δ,λD hD=>?_⟩
   have nD:k≠D:=dk.ne hD
   refine lE (J:=Nt 0 2) (n:=2) (f:=λi=>.int i) (λi ys bX J=>∃(ts:List Int) (c2:Int),ys=ts.map V.int/\(∃v,bX=[v,some (.ref k)])/\ez k H' J/\cN J k c2/\c2<=c'+3*i/\ts.length=i/\∀t∈ts,1<=t/\t<=1000000000) hD δ
    ⟨[],c',rfl,⟨none,rfl⟩,ez.new hD _,dk.new hD,ς,rfl,ς⟩ (λi ys bX J hi _ _=>yr 2 i J hi) ?_ ?_
   .rintro i ys iR J hi hy ⟨ts,c2,rfl,⟨v2,rfl⟩,kJ,dJ,FK,PV,LY⟩
    have b2:=wB FK SH (cR hi)
    refine pk rfl dJ (dz b2 δ) δ δ λra ca Ja ka da ea ga la=>⟨_,_,rfl,rfl,?_⟩
    refine pk rfl da (dz (wC ea b2) δ) δ δ λrb cb Jb kb db eb gb lb=>⟨_,_,rfl,rfl,?_⟩
    refine⟨_,_,rfl,rfl,⟨δ,δ,δ⟩,dP,λl hl=>?_⟩
    refine pk rfl (db.new hl) (dz (wC eb (wC ea b2)) δ) δ δ λrc cc Jc kc dc ec gc lc=>?_
    have Uo:=kc l _ (db.ne hl).symm aB
    have hv:∃t:Int,qA [V.int (1+ra),V.int (300+rb),V.int ((10:Int)^(9:Int).toNat)] rc=some (.int t)/\1<=t/\t<=1000000000:=by
     rcases w3 gc lc with rfl|rfl|rfl
     .exact⟨_,aT (j:=0) rfl,wH ga δ,wG la δ⟩
     .exact⟨_,aT (j:=1) rfl,wH gb δ,wG lb δ⟩
     .exact⟨_,aT (j:=2) rfl,δ,δ⟩
    obtain⟨t,ht,t1,t2⟩:=hv
    have R4:ez k J Jc:=(ka.trans kb).trans ((ez.new hl _).trans kc)
    refine⟨l,_,rc,_,rfl,rfl,cT.of Uo,ht,R4 D _ nD.symm hy,ts++ [t],cc,ς,⟨_,rfl⟩,λb o n e=>?_,dc.keep (λo e=>by rw[aV nD];exact e),wD FK ea eb ec,by simp[PV],λx hx=>?_⟩
    .have nb:b≠D:=λz=>by rw[z,hD] at e;cases e
     rw[aV nb]
     exact R4 b o n (kJ b o n e)
    .rcases dq.mp hx with hx|hx
     .exact LY x hx
     .rw[bV.mp hx];exact⟨t1,t2⟩
   .rintro ys iR J hy ⟨ts,c2,rfl,⟨v2,rfl⟩,kJ,dJ,FK,PV,LY⟩
    have xH:∃ta tb:Int,ts=[ta,tb]:=by
     match ts,PV with
     | [ta,tb],_=>exact⟨ta,tb,rfl⟩
    obtain⟨ta,tb,rfl⟩:=xH
    have Uq:=LY ta ς
    have Ur:=LY tb ς
    refine Um _ _ ?_
    refine lF λD5 hD5=>?_
    have b2:=wB FK SH (ar 2)
    refine pk rfl dJ (dz b2 δ) δ δ λra ca Ja ka da ea ga la=>⟨_,_,rfl,rfl,?_⟩
    refine⟨_,_,rfl,rfl,⟨δ,δ,δ⟩,dP,λl hl=>?_⟩
    refine pk rfl (da.new hl) (dz (wC ea b2) δ) δ δ λrc cc Jc kc dc ec gc lc=>?_
    have Uo:=kc l _ (da.ne hl).symm aB
    have hv:∃t:Int,qA [V.int 1,V.int 2000,V.int (1+ra),V.int ((10:Int)^(9:Int).toNat)] rc=some (.int t)/\1<=t/\t<=1000000000:=by
     rcases w4 gc lc with rfl|rfl|rfl|rfl
     .exact⟨_,aT (j:=0) rfl,δ,δ⟩
     .exact⟨_,aT (j:=1) rfl,δ,δ⟩
     .exact⟨_,aT (j:=2) rfl,wH ga δ,wG la δ⟩
     .exact⟨_,aT (j:=3) rfl,δ,δ⟩
    obtain⟨co,Yz,YA,YB⟩:=hv
    have R4:ez k J Jc:=ka.trans ((ez.new hl _).trans kc)
    refine⟨l,_,rc,_,rfl,rfl,cT.of Uo,Yz,?_⟩
    refine hD5 _ _ ?_
    have hFc:=R4 fo _ Uk.symm (kJ fo _ Uk.symm hF)
    have hDc:=R4 D _ nD.symm hy
    have kHc:ez k H Jc:=(kH.trans kJ).trans R4
    have YC:2*m<=ss.length:=aA m2 (fj R3.symm)
    have ml:m<=ss.length:=aA (Nat.le_mul_of_pos_left m δ) YC
    have YD:jh (ss.map V.str) none (some (m:Int))=(ss.take m).map V.str:=by
     unfold jh
     rw[HT.rE,HT.lW,List.drop_zero,aq,Nat.sub_zero,jf ml,Ol]
    have YE:jh (ss.map V.str) (some (m:Int)) (some (2*(m:Int)))=((ss.drop m).take m).map V.str:=by
     unfold jh
     rw[show(2*(m:Int))=((2*m:Nat):Int) from rfl,HT.lW,HT.lW,aq,jf ml,jf YC,show 2*m-m=m by rw[Nat.two_mul,Nat.add_sub_cancel],Ol,Om]
    refine⟨_,rfl,_,rfl,_,rfl,fo,_,rfl,cT.of hFc,λs1 Wt=>?_⟩
    rw[YD]
    have u1:a_ Jc (upd Jc s1 (.lst ((ss.take m).map V.str))):=aP Wt _
    have w1:(upd Jc s1 (.lst ((ss.take m).map V.str))) s1=some (.lst ((ss.take m).map V.str)):=aB
    generalize upd Jc s1 (.lst ((ss.take m).map V.str))=G1 at*
    refine⟨s1,ss.take m,rfl,cT.of w1,by rw[fu];exact bb (aA (uO _ _) m4) δ,λl1 Jm Hg YF soA=>?_⟩
    have u2:a_ G1 (upd G1 l1 (.lst (Jm.map V.str))):=aP Hg _
    have w2:(upd G1 l1 (.lst (Jm.map V.str))) l1=some (.lst (Jm.map V.str)):=aB
    try dsimp only
    generalize upd G1 l1 (.lst (Jm.map V.str))=G2 at*
    refine⟨l1,_,rfl,.inl ⟨cT.of w2,λt1 EM=>?_⟩⟩
    have u3:a_ G2 (upd G2 t1 (.tup (Jm.map V.str))):=aP EM _
    have w3:(upd G2 t1 (.tup (Jm.map V.str))) t1=some (.tup (Jm.map V.str)):=aB
    try dsimp only
    generalize upd G2 t1 (.tup (Jm.map V.str))=G3 at*
    have v3:a_ Jc G3:=(u1.trans u2).trans u3
    refine⟨_,rfl,_,rfl,_,rfl,_,rfl,_,_,rfl,rfl,.inl ⟨δ,δ⟩,_,rfl,fo,_,rfl,cT.of (v3 _ _ hFc),λs2 Hc=>?_⟩
    rw[YE]
    have u4:a_ G3 (upd G3 s2 (.lst (((ss.drop m).take m).map V.str))):=aP Hc _
    have w4:(upd G3 s2 (.lst (((ss.drop m).take m).map V.str))) s2=some (.lst (((ss.drop m).take m).map V.str)):=aB
    generalize upd G3 s2 (.lst (((ss.drop m).take m).map V.str))=G4 at*
    refine⟨s2,(ss.drop m).take m,rfl,cT.of w4,by rw[fu];exact bb (aA (uO _ _) m4) δ,λLX Jn oE YG soB=>?_⟩
    have u5:a_ G4 (upd G4 LX (.lst (Jn.map V.str))):=aP oE _
    have w5:(upd G4 LX (.lst (Jn.map V.str))) LX=some (.lst (Jn.map V.str)):=aB
    try dsimp only
    generalize upd G4 LX (.lst (Jn.map V.str))=G5 at*
    refine⟨LX,_,rfl,.inl ⟨cT.of w5,λt2 xH=>?_⟩⟩
    have u6:a_ G5 (upd G5 t2 (.tup (Jn.map V.str))):=aP xH _
    have w6:(upd G5 t2 (.tup (Jn.map V.str))) t2=some (.tup (Jn.map V.str)):=aB
    try dsimp only
    generalize upd G5 t2 (.tup (Jn.map V.str))=G6 at*
    have v6:a_ G3 G6:=(u4.trans u5).trans u6
    refine⟨dP,λcr Us=>?_⟩
    have u7:a_ G6 (upd G6 cr (.tup [.ref t1,.ref t2])):=aP Us _
    have w7:(upd G6 cr (.tup [.ref t1,.ref t2])) cr=some (.tup [.ref t1,.ref t2]):=aB
    try dsimp only
    generalize upd G6 cr (.tup [.ref t1,.ref t2])=G7 at*
    have v7:a_ Jc G7:=(v3.trans v6).trans u7
    refine⟨_,rfl,CW rfl (cT.of (v7 _ _ hDc)) (aT (j:=0) rfl) (CW rfl (cT.of (v7 _ _ hDc)) (aT (j:=1) rfl) ⟨_,rfl,dP,λtt YH=>?_⟩)⟩
    have u8:a_ G7 (upd G7 tt (.tup [.int ta,.int tb,.int co])):=aP YH _
    refine⟨cr,tt,_,_,rfl,rfl,bZ.of (u8 _ _ w7),bZ.of aB,ς,by show 2+3<=sizeLine;decide,(λz=>absurd z ς),λ_ rr PX=>?_⟩
    have v9:a_ Jc (upd (upd G7 tt (.tup [.int ta,.int tb,.int co])) rr (.tup ([.ref t1,.ref t2]++ [.int ta,.int tb,.int co]))):=(v7.trans u8).trans (aP PX _)
    have v39:=(v6.trans u7).trans (u8.trans (aP PX (.tup ([.ref t1,.ref t2]++ [.int ta,.int tb,.int co]))))
    have v69:=u7.trans (u8.trans (aP PX (.tup ([.ref t1,.ref t2]++ [.int ta,.int tb,.int co]))))
    obtain⟨ko,hko⟩:=dc.some
    have kne:∀{G:Hp} {x:ai},a_ Jc G->G x=none->x≠k:=λsG hx z=>by rw[z,sG _ _ hko] at hx;cases hx
    have lA:=YF.length_eq
    have lB:=YG.length_eq
    rw[fu] at lA lB
    rw[dF,jf (xt (by rw[<-Nat.two_mul];exact YC))] at lB
    rw[jf ml] at lA
    obtain⟨uA,uB,no⟩:=Jk (pm.nodup_iff.mpr ndn) YF YG soA soB
    have A1:1<=Jm.length:=by rw[lA];exact m1
    have A4:Jm.length<=4:=by rw[lA];exact m4
    have B1:1<=Jn.length:=by rw[lB];exact m1
    have B4:Jn.length<=4:=by rw[lB];exact m4
    exact q rr ⟨Jm,Jn,ta,tb,co⟩ cc _ (kHc.trans v9.keep) (dc.keep λo e=>v9 _ _ e) (wI FK ea ec zY l12) ⟨t1,t2,aB,v39 _ _ w3,v69 _ _ w6⟩
     ⟨⟨A1,A4,λn hn=>oF n (hX (YF.mem_iff.mp hn))⟩,⟨B1,B4,λn hn=>oF n (xu (hX (YG.mem_iff.mp hn)))⟩,Uq.1,Uq.2,Ur.1,Ur.2,YA,YB⟩ ⟨uA,uB,no,lA.trans lB.symm⟩
end
end K12
namespace L2
open PySem PySem.Spec PyProof.Rows PySem.W
section
variable {prog:aM}{w:bB}{A:bG}{E:ag->aj->Prop}{h:Heap}{g:Array GenState}{d:Drawn}{t:Nat}{os:OsState}
variable {nm q:Str}{C N:ai}{bs bm PY:List ag}{hdct:Bool}{sn:List Str}{sub:List ag}{ab:Bool}{col:Option Bool}{dd:Option ai}{k0 k1 k2 k3 k5:Option ag}{B newId wu:String}
def uG (F:ExcBaseFacts B newId wu PY) (T:OwnTail h PY bm) {rest:List ag}
  (hC:h.get? C=some (excClassObj nm q C N bs bm hdct sn sub ab col dd k0 k1 k2 k3 k5 newId)) (hn:h.Ns N mN) (hi:mN "__init__"=some (.ref fI))
  (Ut:h.get? fI=some oI) (Uu:oI.cls=.type "function")
  (hq:∀h' e,Heap.MadeExcOf h h' e (.ref C) rest->
   wpAny (model prog w) A (call (.ref fI) (.ref e::rest)) (λr s'=>r=.none/\Q (.done (.ret (.ref e))) s') E ⟨h',g,d,t,os⟩) (EN:rest.length<=sizeLine):
  wpAny (model prog w) A (Builtin.«type.__call__» ⟨.ref C::rest,[]⟩) Q E ⟨h,g,d,t,os⟩:=by
 repeat (first|with_reducible refine nv hC ?_|with_reducible refine wpAny_madeBy_exc hC ?_|wp_step)
 refine codeAny_call_builtin_code (Ho _ F.quiet) (wpAny_check_new_subT F T hC ?_)
 refine codeAny_exc_new_subT F T hC ?_ EN
 show wpAny _ _ _ _ _ _
 have NJ:=af {cls:=.ref C,data:=.fields #[.ref h.objs.size,.none,.none,.none,.bool false,.none]}
  (af {cls:=.type "tuple",data:=.seq rest.toArray} hC)
 have PZ:=af {cls:=.ref C,data:=.fields #[.ref h.objs.size,.none,.none,.none,.bool false,.none]}
  (af {cls:=.type "tuple",data:=.seq rest.toArray} Ut)
 have Uv:((h.push {cls:=.type "tuple",data:=.seq rest.toArray}).push {cls:=.ref C,data:=.fields #[.ref h.objs.size,.none,.none,.none,.bool false,.none]}).Ns N mN:=
  let⟨o,es,ep,e,r⟩:=hn;⟨o,es,ep,af _ (af _ e),r⟩
 have Uw:((h.push {cls:=.type "tuple",data:=.seq rest.toArray}).push
   {cls:=.ref C,data:=.fields #[.ref h.objs.size,.none,.none,.none,.bool false,.none]}).get? (h.objs.size+1)=some
   {cls:=.ref C,data:=.fields #[.ref h.objs.size,.none,.none,.none,.bool false,.none]}:=by heap_get
 have hcC:(Value.ref C::bm).contains (.ref C)=true:=ς
 have YI:=T.keeps (h':=(h.push {cls:=.type "tuple",data:=.seq rest.toArray}).push {cls:=.ref C,data:=.fields #[.ref h.objs.size,.none,.none,.none,.bool false,.none]})
  λb o e=>af _ (af _ e)
 unfold isInstance
 repeat (first|with_reducible refine nv Uw ?_|(with_reducible refine wpAny_isSubtype_exc NJ ?_;rw[hcC])|wp_step)
 show wpAny _ _ (typeLookup (.ref C) _) _ _ _
 refine wpAny_typeLookup_tail NJ Uv YI F.mroIs F.init.lookup ?_
 rw[hi]
 refine cO (aa ?_)
 unfold bindSpecial
 refine aa (rj (T:="function") ⟨_,PZ,Uu⟩ ?_)
 rw[aQ δ]
 refine ak (aa (bM (hq _ (h.objs.size+1) ⟨λb o hb=>af _ (af _ hb),BF (dN _),h.objs.size,Uw,BF (ar _),?_⟩) (λr s' hr=>?_) λ_ _ x=>x))
 .exact af _ (Heap.get?_push_at rfl rfl)
 .obtain⟨rfl,hQ⟩:=hr
  wp_walk
  exact hQ
def C_ (F:ExcBaseFacts B newId wu PY) (T:OwnTail h PY bm) {rest:List ag}
  (hC:h.get? C=some (excClassObj nm q C N bs bm hdct sn sub ab col dd k0 k1 k2 k3 k5 newId)) (hn:h.Ns N mN) (hi:mN "__init__"=some (.ref fI))
  (Ut:h.get? fI=some oI) (Uu:oI.cls=.type "function")
  (hq:∀h' e,Heap.MadeExcOf h h' e (.ref C) rest->
   wpAny (model prog w) (A.under (.builtin "type.__call__" ⟨.ref C::rest,[]⟩)) (call (.ref fI) (.ref e::rest)) (λr s'=>r=.none/\Q (.ref e) s') E ⟨h',g,d,t,os⟩) (EN:rest.length<=sizeLine):
  wpAny (model prog w) A (call (.ref C) rest) Q E ⟨h,g,d,t,os⟩:=by
 have f1:=tc_lookup
 have f2:=tc_bind (.ref C)
 have hT:(⟨h,g,d,t,os⟩:aj).TypeIs (.ref C) "type":=⟨_,hC,rfl⟩
 refine oJ (codeAny_of_tree ?_)
 show wpAny _ _ (callAny (.ref C) _) _ _ _
 repeat (any_goals (first|assumption|with_reducible refine nv hC ?_|wp_step))
 refine⟨rfl,?_⟩
 refine codeAny_call_builtin_at (Ho _ (by decide+kernel)) entry_typeCall (wpAny_check_type_call_sub hC (uG F T hC hn hi Ut Uu (λh' e hm=>?_) EN))
 exact hq h' e hm
end
section
variable {M:Model}{A:bG}{E:ag->aj->Prop}{env:Env}
variable {nm q:Str}{C N:ai}{bs bm:List ag}{hdct:Bool}{sn:List Str}{sub:List ag}{ab:Bool}{col:Option Bool}{dd:Option ai}{k0 k1 k2 k3 k5:Option ag}{newId:String}
def xI (As:bm.contains (.type "BaseException")=true) (hh:A.handled=none)
  (h:wpAny M A x (λv fh=>∃e oe vs,v=.ref e/\fh.heap.get? C=some (excClassObj nm q C N bs bm hdct sn sub ab col dd k0 k1 k2 k3 k5 newId)/\
   fh.heap.get? e=some oe/\oe.cls=.ref C/\oe.data=.fields vs/\vs[1]?=some .none/\E (.ref e) fh) E s):
  wpAny M A (raiseStmt env (some x) none) Q E s:=by
 have hcB:(Value.ref C::bm).contains (.type "BaseException")=true:=by rw[List.contains_cons,As,Bool.or_true]
 unfold raiseStmt
 refine aa (bM h (λv fh FQ=>?_) λ_ _ x=>x)
 obtain⟨e,⟨c0,d0,da0,sl0⟩,vs,rfl,hC,he,HZ,Wo,hv1,hE⟩:=FQ
 dsimp only at HZ Wo
 subst HZ Wo
 obtain⟨hp,g,d,tk,os⟩:=fh
 repeat (first|with_reducible refine nv he ?_|with_reducible refine nv hC ?_|(with_reducible refine wpAny_isSubtype_exc hC ?_;rw[hcB])|wp_step)
 rw[hv1]
 repeat wp_step
 exact wpAny_raiseNew_none hh hE
end
def YJ (h B:Heap) (e:ai) (cls:ag) (ej:Option ai) (fl:ag):Prop:=
 ∃oe vs T oT ts,h.get? e=some oe/\oe.cls=cls/\oe.dict=ej/\oe.data=.fields vs/\vs[1]?=some (.ref T)/\vs[2]?=some .none/\B.get? T=none/\T≠e/\h.get? T=some oT/\oT.data=.fields ts/\ts[3]?=some fl
structure wK (B:Heap) (l:List Env) (e:ai) (cls:ag) (ej:Option ai) (fl:ag) (h:Heap):Prop where
 st:B.StaysIn h
 no:B.get? e=none
 fr:h.FunFrames B l
 tr:YJ h B e cls ej fl
section
variable {M:Model}{A:bG}{E:ag->aj->Prop}{s:aj}{B:Heap}{env:Env}{outer:List Env}{L e:ai}{cls fl:ag}{ej:Option ai}{Q:Unit->aj->Prop}
def EO (AY:A.frames=some (env::outer)) (hl:s.heap.FunFrames B (env::outer)) (hf:env.frame=some L) (he:s.heap.get? e=some oe) (Ux:B.StaysIn s.heap) (R5:B.get? e=none) (OY:oe.dict=ej) (hd:oe.data=.fields vs) (h2:vs[2]?=some .none)
  (q:∀h',wK B (env::outer) e oe.cls ej (rawInt L) h'->s.heap.UpToSlots h'->Q () {s with heap:=h'}):
  wpAny M A (do let a<-frameOf env;let pl<-entryPlaceOf L had;let b<-EntryCells.newEntry head a .none (rawInt L) .none pl;setField (.ref e) 1 b) Q E s:=by
 have sz:2<vs.size:=(jM.mp h2).1
 have Uy:e∉(env::outer).filterMap (·.frame):=by
  intro z
  obtain⟨_,u,hu,nf⟩:=hl.mem z
  rw[he] at hu
  cases hu
  exact nf vs hd
 refine aa (wpAny_frameOf_fun AY hl hf λg so=>aa (wpAny_entryPlaceOf λpl isp=>?_))
 unfold EntryCells.newEntry newFields
 refine aa (bE ?_ (isp.sizeOk5 _ _ _ _ _))
 generalize hTB:({cls:=.type "traceback",dict:=none,data:=.fields ([head,.ref L,.none,rawInt L,.none]++(if pl.isEmpty then List.replicate 6 Value.none else pl)).toArray}:Obj)=tb
 have dTB:tb.data=.fields ([head,.ref L,.none,rawInt L,.none]++(if pl.isEmpty then List.replicate 6 Value.none else pl)).toArray:=by rw[<-hTB]
 have fTB:tb.isFreed=false:=ib dTB
 have ge:g.get? e=some oe:=by rw[so.2.1 e Uy];exact he
 have pe:(g.push tb).get? e=some oe:=af tb ge
 have P0:g.objs.size≠e:=λz=>by
  have:=aC ge
  rw[<-z] at this
  exact fU _ this
 refine i9 pe hd ω (q _ ?_ ?_)
 .have d1:=hV hd (·.setIfInBounds 1 (Value.ref g.objs.size))
  have gB:B.StaysIn g:=λb o hb=>by
   rw[so.2.1 b λz=>by rw[(hl.mem z).1] at hb;cases hb]
   exact Ux b o hb
  have keep:∀b o,b≠e->g.get? b=some o->((g.push tb).update e (Obj.mapFields (·.setIfInBounds 1 (Value.ref g.objs.size)))).get? b=some o:=λb o ne hb=>by
   rw[aY _ _ (cD ne)]
   exact af tb hb
  refine⟨λb o hb=>keep b o (λz=>by rw[z,R5] at hb;cases hb) (gB b o hb),R5,hl.of_keeps λb o hb nf=>?_,_,_,g.objs.size,tb,_,cW _ pe (ib d1),uP _ _,?_,d1,?_,?_,gB.fresh,P0,?_,dTB,?_⟩
  rotate_left
  .rw[<-OY];obtain⟨_,_,dt,_⟩:=oe;cases dt<;>rfl
  rotate_right
  .obtain⟨sl,hs⟩:=so.2.2 b o hb
   exact⟨_,keep b _ (λz=>by rw[z,he] at hb;cases hb;exact nf vs hd) hs,rfl⟩
  .rw[Array.getElem?_setIfInBounds_self]
   simp only[show 1<vs.size by omega,m_]
  .rw[Array.getElem?_setIfInBounds_ne δ];exact h2
  .rw[aY _ _ (cD P0)];exact az g fTB
  .first|(simp;done)|(rcases isp with rfl|⟨_,_,_,_,_,_,_,rfl⟩<;>simp)
 .intro b o hb nf
  obtain⟨sl,hs⟩:=so.2.2 b o hb
  refine⟨sl,?_⟩
  have ne:b≠e:=λz=>by rw[z,he] at hb;cases hb;exact nf vs hd
  rw[aY _ _ (cD ne)]
  exact af tb hs
def Dc {oe:Obj}{vs:Array ag}(AY:A.frames=some (env::outer)) (hf:env.frame=some L) (Ux:B.StaysIn s.heap) (hl:s.heap.FunFrames B (env::outer)) (he:s.heap.get? e=some oe) (hc:oe.cls=cls) (NK:oe.dict=ej) (hd:oe.data=.fields vs) (h1:vs[1]?=some .none) (h2:vs[2]?=some .none) (R5:B.get? e=none)
  (q:∀h',wK B (env::outer) e cls ej (rawInt L) h'->s.heap.UpToSlots h'->Q () {s with heap:=h'}):wpAny M A (noteFrame (.ref e) env) Q E s:=by
 subst hc
 unfold noteFrame
 simp only[hf]
 refine aa (bL (x:=Value.none) he hd h1 ?_)
 rw[aO δ]
 exact EO AY hl hf he Ux R5 NK hd h2 q
def wL (AY:A.frames=some (env::outer)) (hf:env.frame=some L) (F:wK B (env::outer) e cls ej .none s.heap)
  (q:∀h',wK B (env::outer) e cls ej (rawInt L) h'->s.heap.UpToSlots h'->Q () {s with heap:=h'}):wpAny M A (noteFrame (.ref e) env) Q E s:=by
 obtain⟨st,no,fr,oe,vs,T,oT,ts,he,hc,OY,hd,v1,v2,tB,P0,hT,P1,t3⟩:=F
 subst hc
 unfold noteFrame
 simp only[hf]
 refine aa (bL he hd v1 ?_)
 rw[aQ ς]
 refine aa (bL hT P1 t3 ?_)
 rw[aO (by simp[rawInt])]
 refine aa (i9 hT P1 (jM.mp t3).1 ?_)
 generalize hg:s.heap.update T (Obj.mapFields (·.setIfInBounds 3 Value.none))=g
 have LZ:∀b,b≠T->g.get? b=s.heap.get? b:=λb nb=>by rw[<-hg];exact aY _ _ (cD nb)
 have Jo:∀b o,s.heap.get? b=some o->(∀ws,o.data≠.fields ws)->b≠T:=λb o hb nf z=>by
  rw[z,hT] at hb
  cases hb
  exact nf ts P1
 have ups:s.heap.UpToSlots g:=λb o hb nf=>⟨o.slots,by rw[LZ b (Jo b o hb nf)];exact hb⟩
 refine EO (s:={s with heap:=g}) AY (fr.of_keeps λb o hb nf=>⟨o,by rw[LZ b (Jo b o hb nf)];exact hb,rfl⟩) hf (by rw[LZ e P0.symm];exact he) (λb o hb=>?_) no OY hd v2 λh' F' u=>q h' F' (ups.trans u)
 rw[LZ b λz=>by rw[z,tB] at hb;cases hb]
 exact st b o hb
def tT {l:List Env}(F:wK B l e cls ej fl s.heap) (q:∀h',wK B l e cls ej .none h'->s.heap.UpToSlots h'->Q () {s with heap:=h'}):wpAny M A (setFlight (.ref e) none) Q E s:=by
 obtain⟨st,no,fr,oe,vs,T,oT,ts,he,hc,OY,hd,v1,v2,tB,P0,hT,P1,t3⟩:=F
 have s3:3<ts.size:=(jM.mp t3).1
 unfold setFlight
 refine aa (bL he hd v1 ?_)
 rw[aQ ς]
 refine i9 hT P1 s3 ?_
 generalize hg:s.heap.update T (Obj.mapFields (·.setIfInBounds 3 ((none:Option ai).elim Value.none λf=>rawInt f)))=g
 have LZ:∀b,b≠T->g.get? b=s.heap.get? b:=λb nb=>by rw[<-hg];exact aY _ _ (cD nb)
 have Jo:∀b o,s.heap.get? b=some o->(∀ws,o.data≠.fields ws)->b≠T:=λb o hb nf z=>by
  rw[z,hT] at hb
  cases hb
  exact nf ts P1
 have d3:=hV P1 (·.setIfInBounds 3 ((none:Option ai).elim Value.none λf=>rawInt f))
 refine q g ⟨λb o hb=>?_,no,fr.of_keeps λb o hb nf=>⟨o,by rw[LZ b (Jo b o hb nf)];exact hb,rfl⟩,oe,vs,T,_,_,by rw[LZ e P0.symm];exact he,hc,OY,hd,v1,v2,tB,P0,by rw[<-hg];exact cW _ hT (ib d3),d3,?_⟩ (λb o hb nf=>⟨o.slots,by rw[LZ b (Jo b o hb nf)];exact hb⟩)
 .rw[LZ b λz=>by rw[z,tB] at hb;cases hb]
  exact st b o hb
 .simp[s3]
def Gq (AY:A.frames=some (env::outer)) (hf:env.frame=some L) (F:wK B (env::outer) e cls ej .none s.heap)
  (q:∀h',wK B outer e cls ej .none h'->s.heap.UpToSlots h'->Q () {s with heap:=h'}):wpAny M A (leaving env (.ref e)) Q E s:=by
 unfold leaving
 refine aa (wL AY hf F λg G u=>tT (s:={s with heap:=g}) G λh' G' u'=>q h' ⟨G'.st,G'.no,G'.fr.2.2,G'.tr⟩ (u.trans u'))
def AZ (AY:A.frames=some (env::outer)) (hf:env.frame=some L) (Ux:B.StaysIn s.heap) (hl:s.heap.FunFrames B (env::outer)) (he:s.heap.get? e=some oe) (hc:oe.cls=cls) (NK:oe.dict=ej) (hd:oe.data=.fields vs) (h1:vs[1]?=some .none) (h2:vs[2]?=some .none) (R5:B.get? e=none)
  (q:∀h',wK B outer e cls ej .none h'->s.heap.UpToSlots h'->Q () {s with heap:=h'}):wpAny M A (leaving env (.ref e)) Q E s:=by
 unfold leaving
 refine aa (Dc AY hf Ux hl he hc NK hd h1 h2 R5 λg G u=>tT (s:={s with heap:=g}) G λh' G' u'=>q h' ⟨G'.st,G'.no,G'.fr.2.2,G'.tr⟩ (u.trans u'))
end
def Uz (l:List Env) (H:Hp) (a:ai) (cls:ag) (ej:Option ai) (h hs:Heap) (Hs:Hp):Prop:=
 ∃B:Heap,wK B l a cls ej .none h/\(∀b u,H b=some u->∃o,B.get? b=some o)/\
  (∀b o,hs.get? b=some o->Hs b=none->b∉oq l->B.get? b=some o)/\∀b o,hs.get? b=some o->b∉oq l->∃o',B.get? b=some o'
def q_ (P:aM) (w:bB):Hd:=λouter H s E e s'=>∃a cls ej H',e=.ref a/\s'.os=s.os/\AllBare s'.gens/\Un (oq outer) [] H H' s.heap s'.heap/\qi P w H' s'.heap/\E cls ej H'/\Uz outer H' a cls ej s'.heap s.heap H
section
variable {X:Cx}{ac:List (ai×Obj)}{Z:St}{H:Hp}{s:aj}
structure Jp (X:Cx) (ac:List (ai×Obj)) (H:Hp) (a:ai) (cls:ag) (ej:Option ai) (h:Heap):Prop where
 ex:∃B:Heap,wK B X.stack a cls ej .none h/\(∀b u,H b=some u->∃o,B.get? b=some o)/\(∀p∈X.pn++ac,B.get? p.1=some p.2)/\
  (∀b o,X.gP.heap.get? b=some o->X.BS b=none->b∉X.fs->b∉X.ex->B.get? b=some o)/\∀b o,X.gP.heap.get? b=some o->b∉X.fs->b∉X.ex->∃o',B.get? b=some o'
def Inv.Jq {H':Hp}{a:ai}{cls:ag}{ej:Option ai}{s':aj}(I:Inv X ac Z H s) (F:Uz X.stack H' a cls ej s'.heap s.heap H):Jp X ac H' a cls ej s'.heap:=by
 obtain⟨B,A0,uy,o1,o2⟩:=F
 refine⟨B,A0,uy,λp hp=>?_,λb o q n hb hx=>?_,λb o q hb hx=>?_⟩
 .obtain⟨p1,p2,p3,p4,_⟩:=I.pin p hp
  exact o1 _ _ p1 p2 λz=>(aD.mp (I.sV _ z)).elim p3 p4
 .exact o1 b o (I.base.keep b o q n hb hx) (I.base.free b o q n hx) (I.yb q hb)
 .obtain⟨o',e⟩:=I.base.there b o q hx
  exact o2 b o' e (I.yb q hb)
end
def wN (X:Cx) (W:ag->Option ai->St->Hp->Prop):Prop:=
 ∀(ac:List (ai×Obj)) (Z:St) (H:Hp) (s:aj) (e:ag) (s':aj),Inv X ac Z H s->q_ X.prog X.w X.stack H s (λcls ej H'=>W cls ej Z H') e s'->X.xe e s'
structure Mad (h:Heap) (e:ai) (cls:ag) (ej:Option ai):Prop where
 ex:∃oe vs,h.get? e=some oe/\oe.cls=cls/\oe.dict=ej/\oe.data=.fields vs/\vs[1]?=some .none/\vs[2]?=some .none
def Dd (X:Cx) (W:ag->Option ai->St->Hp->Prop):Prop:=
 ∀(ac:List (ai×Obj)) (Z:St) (H:Hp) (s:aj) (e:ai) (cls:ag) (ej:Option ai),Inv X ac Z H s->Mad s.heap e cls ej->H e=none->X.gP.heap.get? e=none->e≠X.env.locals->(∀x c,X.env.cells.lookup x=some c->c≠e)->(∀p∈X.pn++ac,p.1≠e)->W cls ej Z H->X.xe (.ref e) s
section
variable {P:aM}{w:bB}{K:Φ}{mg:Str->Option ag}{base:Heap}{N:List Str}{qual:Str}{scope:Scope}{f:ai}{cd:ag}{A:bG}{outer:List Env}{s:aj}{H:Hp}{E:XK}
def P2:wN (eY (q_ P w) P w K mg base N qual scope f cd A outer s H E) (λcls ej _ H'=>E cls ej H'):=by
 rintro ac Z H1 s1 e s' I ⟨a,cls,ej,H',rfl,os,bare,un,eN,q,F⟩
 have J:=I.Hw os un eN bare (λb z=>absurd z ς)
 obtain⟨B,A0,uy,hp,o1,o2⟩:=(I.Jq F).ex
 show wpAny _ _ (leaving _ (.ref a)) _ _ s'
 refine Gq I.ok.frames rfl A0 λh' x1 x2=>?_
 have J':=J.ub A0.st x1.st x2 uy hp o1 o2
 exact⟨a,cls,ej,H',rfl,J'.os,J'.bare,J'.base,J'.eN,q,B,x1,uy,λb o q n hb=>o1 b o q n hb (by intro z;cases z),λb o q hb=>o2 b o q hb (by intro z;cases z)⟩
end
section
variable {P:aM}{w:bB}{K:Φ}{mg:Str->Option ag}{base:Heap}{N:List Str}{qual:Str}{scope:Scope}{f:ai}{cd:ag}{A:bG}{outer:List Env}{s:aj}{H:Hp}{E:XK}
def jH:Dd (eY (q_ P w) P w K mg base N qual scope f cd A outer s H E) (λcls ej _ H'=>E cls ej H'):=by
 intro ac Z H1 s1 e cls ej I hx n0 ns nl nc np q
 have Yp:∀env∈(eY (q_ P w) P w K mg base N qual scope f cd A outer s H E).stack,∀a,env.frame=some a->a∈e::oq (eY (q_ P w) P w K mg base N qual scope f cd A outer s H E).stack:=λenv he a hf=>cu _ (Ad.mpr ⟨env,he,hf⟩)
 obtain⟨oe,vs,he,hc,NK,hd,v1,v2⟩:=hx.ex
 show wpAny _ _ (leaving _ (.ref e)) _ _ _
 have ns:s.heap.get? e=none:=ns
 refine AZ (B:=hideAll s1.heap (e::oq (eY (q_ P w) P w K mg base N qual scope f cd A outer s H E).stack)) I.ok.frames rfl (λb o q=>of_hideAll _ q) (funFrames_hide I.stack Yp) he hc NK hd v1 v2 (hideAll_none _ (cj ..)) λh' x1 x4=>?_
 have kB:(hideAll s1.heap (e::oq (eY (q_ P w) P w K mg base N qual scope f cd A outer s H E).stack)).StaysIn s1.heap:=λb o q=>of_hideAll _ q
 have Wx:∀b o,s1.heap.get? b=some o->b≠e->b∉oq (eY (q_ P w) P w K mg base N qual scope f cd A outer s H E).stack->(hideAll s1.heap (e::oq (eY (q_ P w) P w K mg base N qual scope f cd A outer s H E).stack)).get? b=some o:=λb o g n1 n2=>hideAll_get _ g λz=>(aD.mp z).elim n1 n2
 have uy:∀b u,H1 b=some u->∃o,(hideAll s1.heap (e::oq (eY (q_ P w) P w K mg base N qual scope f cd A outer s H E).stack)).get? b=some o:=λb u eb=>by
  obtain⟨o,ho⟩:=l_ (I.eN b u eb)
  exact⟨o,Wx b o ho (λz=>by rw[z,n0] at eb;cases eb) λz=>by rw[I.yO b z] at eb;cases eb⟩
 have hp:∀p∈[]++ac,(hideAll s1.heap (e::oq (eY (q_ P w) P w K mg base N qual scope f cd A outer s H E).stack)).get? p.1=some p.2:=λp hq=>by
  obtain⟨p1,p2,p3,p4,_⟩:=I.pin p hq
  exact Wx _ _ p1 (np p hq) λz=>(aD.mp (I.sV _ z)).elim p3 p4
 have o1:∀b o,s.heap.get? b=some o->H b=none->b∉oq outer->b∉([]:List ai)->(hideAll s1.heap (e::oq (eY (q_ P w) P w K mg base N qual scope f cd A outer s H E).stack)).get? b=some o:=λb o q n hb hx=>Wx _ _ (I.base.keep b o q n hb hx) (λz=>by rw[z,ns] at q;cases q) (I.yb q hb)
 have o2:∀b o,s.heap.get? b=some o->b∉oq outer->b∉([]:List ai)->∃o',(hideAll s1.heap (e::oq (eY (q_ P w) P w K mg base N qual scope f cd A outer s H E).stack)).get? b=some o':=λb o q hb hx=>by
  obtain⟨o',eo⟩:=I.base.there b o q hx
  exact⟨o',Wx _ _ eo (λz=>by rw[z,ns] at q;cases q) (I.yb q hb)⟩
 have J':=I.ub kB x1.st x4 uy hp o1 o2
 exact⟨e,cls,ej,H1,rfl,J'.os,J'.bare,J'.base,J'.eN,q,_,x1,uy,λb o q n hb=>o1 b o q n hb (by intro z;cases z),λb o q hb=>o2 b o q hb (by intro z;cases z)⟩
end
section
variable {X:Cx}{W:ag->Option ai->St->Hp->Prop}
def zp {k:Nat}{f:ai}{fd:FuncData}{ps:List Str}{sp:Sp}{ds:List ag}{mK:List V}{ac:List (ai×Obj)}{Z:St}{H:Hp}{s:aj}{Q:VK}{us:List ag}{vs:List V}(F:dW X.prog X.w X.K X.mg X.base (q_ X.prog X.w) k f fd ps sp) (hr:eS k X.A) (hb:Binds X.K fd ps ds) (hd:cz mK ds) (hL:wN X W)
  (I:Inv X ac Z H s) (r:cz vs us) (h:sp (vs++mK) H Q (λcls ej H'=>W cls ej Z H')):wpAny (model X.prog X.w) X.A (call (.ref f) us) (EP X ac Z Q) X.xe s:=by
 have r2:cz (vs++mK) (us++ds):=r.append hd
 have hl:(us++ds).length=ps.length:=by rw[<-r2.length];exact F.len _ _ _ _ h
 refine oJ (kK (F.run X.A X.stack s H ⟨us,[]⟩ (us++ds) (vs++mK) Q _ hr I.FG (hb s us I.kY hl) r2 h) λr s' hq=>?_)
 cases r with
 |error e=>exact hL ac Z H s e s' I hq
 |ok fl=>
  cases fl with
  |ret u=>exact I.after hq
  |next=>exact False.elim hq
  |brk=>exact False.elim hq
  |cont=>exact False.elim hq
def Dg (sp:Sp) (mK:List V) (W:ag->Option ai->St->Hp->Prop) (t:TA):TE:=λZ H Q=>t Z H λvs H1=>sp (vs++mK) H1 Q λcls ej H'=>W cls ej Z H'
def Jr (F:dW X.prog X.w X.K X.mg X.base (q_ X.prog X.w) k f fd ps sp) (hr:eS k X.A) (hg:Gl X x) (hm:X.mg x=some (.ref f)) (hk:PySem.W.keepIn X.K (.ref f)=true) (hb:Binds X.K fd ps ds) (hd:cz mK ds) (hL:wN X W)
  (ha:PA X (e::es) t) (qy:(x==("__debug__":Str))=false:=by decide) (he:starEach (e::es) X.env=(false,eval e X.env)::starEach es X.env:=by rfl) (ky:(backTo pos (starEach es X.env)).any (·.1)=false:=by rfl):
  PE X (.Call (.Name x p) (e::es) [] pos) (Dg sp mK W t):=by
 intro ac s Z H Q I h
 refine gf (jy I hg hm ?_ qy)
 refine iU (h₀:=X.base) I.ok.mod.qf hk (fq (ha pos ac s Z H _ I h) λus s1 cZ=>?_) he ky
 obtain⟨vs,H1,I1,r,q⟩:=cZ
 refine⟨I1.kY,?_⟩
 exact zp F hr hb hd hL I1 r q
end
def ji.L7 {P:aM}{w:bB}{K:Φ}{mg:Str->Option ag}{base:Heap}{x qual:Str}{st:Stmt}{f:ai}{fd:FuncData}{N ps:List Str}{k:Nat}{sp:Sp}(F:ji K x qual st f fd) (S:bW N ps (aw st)) (len:∀vs H Q E,sp vs H Q E->vs.length=ps.length)
  (vF:∀(cdv:ag) (A:bG) (outer:List Env) (s:aj) (H:Hp) (vs:List V) (Q:VK) (E:XK),eS k (A.deeper (envOfC qual (aw st) s.heap.objs.size f cdv))->sp vs H Q E->
   ∃t,xx (eY (q_ P w) P w K mg base N qual (aw st) f cdv A outer s H E) (fC st) t/\t {nx:=λ_ H'=>Q .eK H',rt:=Q} (start N vs) H):dW P w K mg base (q_ P w) (k+1) f fd ps sp:=by
 obtain⟨oc,od,kV,doc,pm,an,cdv,ct,vE,rfl,lk,BV⟩:=F.ex
 exact Nw lk BV S len λA outer s H vs Q E hr FJ=>vF cdv A outer s H vs Q E hr FJ
abbrev Cx.zq (X:Cx) (ac:List (ai×Obj)) (W:ag->Option ai->St->Hp->Prop):Cx:=
 {X with pn:=X.pn++ac,xe:=λe s'=>∃a cls ej Z H',e=.ref a/\Inv X ac Z H' s'/\Jp X ac H' a cls ej s'.heap/\W cls ej Z H'}
def tU (a:ai) (cls:ag) (ej:Option ai):HO:=.ext λh=>∃oe vs,h.get? a=some oe/\oe.cls=cls/\oe.dict=ej/\oe.data=.fields vs/\vs[2]?=some .none
section
variable {X:Cx}{ac:List (ai×Obj)}{Z:St}{H:Hp}{s:aj}{W:ag->Option ai->St->Hp->Prop}
def Inv.zq (I:Inv X ac Z H s) (W:ag->Option ai->St->Hp->Prop):Inv (X.zq ac W) [] Z H s:=
 ⟨⟨I.ok.mod,I.ok.kind,I.ok.glob,I.ok.blt,I.ok.above,I.ok.inj,I.ok.has,I.ok.KD,I.ok.hd,I.ok.frames,I.ok.K2,I.ok.Ft,I.ok.bs,I.ok.BU,I.ok.xw,I.ok.uz,I.ok.mO,I.ok.Eb⟩,I.os,I.bare,I.base,I.loc,I.cell,I.free,I.jq,λp hp=>I.pin p (by simpa using hp),I.eN,I.len⟩
def Inv.pf (I:Inv (X.zq ac W) Ed Z H s):Inv X ac Z H s:=
 ⟨⟨I.ok.mod,I.ok.kind,I.ok.glob,I.ok.blt,I.ok.above,I.ok.inj,I.ok.has,I.ok.KD,I.ok.hd,I.ok.frames,I.ok.K2,I.ok.Ft,I.ok.bs,I.ok.BU,I.ok.xw,I.ok.uz,I.ok.mO,I.ok.Eb⟩,I.os,I.bare,I.base,I.loc,I.cell,I.free,I.jq,λp hp=>I.pin p (jJ _ hp),I.eN,I.len⟩
def SP.pf (h:SP (X.zq ac W) Ed D f s'):SP X ac D f s':=by
 cases f with
 |next=>obtain⟨bX,H',I,q⟩:=h;exact⟨bX,H',I.pf,q⟩
 |brk=>obtain⟨bX,H',I,q⟩:=h;exact⟨bX,H',I.pf,q⟩
 |cont=>obtain⟨bX,H',I,q⟩:=h;exact⟨bX,H',I.pf,q⟩
 |ret u=>obtain⟨v,bX,H',I,r,q⟩:=h;exact⟨v,bX,H',I.pf,r,q⟩
def ph:wN (X.zq ac W) W:=by
 rintro Ed Z H s e s' I ⟨a,cls,ej,H',rfl,os,bare,un,eN,q,F⟩
 have J:=I.Hw os un eN bare (λb z=>absurd z ς)
 obtain⟨B,A0,uy,hp,o1,o2⟩:=(I.Jq F).ex
 exact⟨a,cls,ej,Z,H',rfl,J.pf,⟨B,A0,uy,λp h=>hp p (jJ _ h),o1,o2⟩,q⟩
end
def L8 (K:Φ) (C:ai) (i:Nat) (tb:(ag->Option ai->St->Hp->Prop)->TS) (ts:ai->TS):TS:=λD Z H=>
 tb (λcls ej bX H'=>exmOne K cls (.ref C)=some true/\∀a,H' a=none->ts a {nx:=λiR H2=>D.nx (iR.set i none) H2,rt:=D.rt,bk:=λiR H2=>D.bk (iR.set i none) H2,ct:=λiR H2=>D.ct (iR.set i none) H2} (bX.set i (some (.ref a))) (upd H' a (tU a cls ej))) D Z H
def Gr (Js:X.stack=X.env::X.outer) (AY:X.env.frame=some X.env.locals) (hex:X.ex=[]) (hN:X.N.Nodup) (hi:X.N[i]?=some n) (hk:X.env.scope.names.lookup n=some .local)
  (hg:Gl X x) (hm:X.mg x=some (.ref C)) (hb:∀ac W,xx (X.zq ac W) body (tb W)) (hs:∀a,xx (X.Aa a) (b0::Jt) (ts a)) (qy:(x==("__debug__":Str))=false:=by decide):
  PS X (.Try body [.ExceptHandler (some (.Name x xp)) (some n) (b0::Jt) hp] [] [] pos) (L8 X.K C i tb ts):=by
 intro ac s Z H D I h
 refine wpAny_Try_except ?_
 refine bM (hb ac _ [] s Z H D (I.zq _) h) (λf s1 q=>?_) λe s1 q=>?_
 .have q':=q.pf
  cases f with
  |next=>exact ak q'
  |brk=>exact q'
  |cont=>exact q'
  |ret u=>exact q'
 .obtain⟨a,cls,ej,bX,H',rfl,I1,⟨B,A0,uy,NL,o1,o2⟩,w1,w2⟩:=q
  have YK:X.A.frames=some (X.env::X.outer):=by rw[<-Js];exact I.ok.frames
  rw[Js] at A0
  refine wL YK AY A0 λh1 G1 u1=>?_
  have I2:=I1.ub A0.st G1.st u1 uy NL o1 o2
  refine tT (s:={s1 with heap:=h1}) G1 λh2 G2 u2=>?_
  have I3:=I2.ub G1.st G2.st u2 uy NL o1 o2
  refine wpAny_handleBy_cons (codeAny_handlers_test ?_) (λz=>nomatch z)
  refine jy (X:=X.Aa a) (I3.Aa a) hg hm ?_ qy
  obtain⟨oe,vs,T,oT,ts',he,hc,r⟩:=G2.tr
  have lt:Looks (model X.prog X.w) h2 (typeOf (.ref a)) cls:=by
   rw[<-hc]
   exact(oi he).andThen .now
  refine(exm_one (M:=model X.prog X.w) (K:=X.K) (h:=h2) (I3.kY) lt w1).here ?_
  refine codeAny_handlers_suite_as ?_
  refine tT (s:={s1 with heap:=h2}) G2 λh3 G3 u3=>?_
  have I4:=I3.ub G2.st G3.st u3 uy NL o1 o2
  have nH:H' a=none:=by
   cases e:H' a with
   |none=>rfl
   |some u=>obtain⟨o,ho⟩:=uy a u e;rw[A0.no] at ho;cases ho
  obtain⟨oe3,vs3,T3,oT3,ts3,Wy,YL,YM,YN,v31,v32,r3⟩:=G3.tr
  have nfr:a∉oq (X.env::X.outer):=λz=>by
   obtain⟨_,o,ho,nf⟩:=G3.fr.mem z
   rw[Wy] at ho;cases ho
   exact nf _ YN
  have inl:X.env.locals∈oq (X.env::X.outer):=by rw[oq,iy,AY];exact cj
  have sub:∀b,b∈X.fs->b∈oq (X.env::X.outer):=λb hb=>by rw[oq,iy,AY];exact cu _ hb
  have n0:X.gP.heap.get? a=none:=by
   cases e:X.gP.heap.get? a with
   |none=>rfl
   |some o=>
    obtain⟨o',Ak⟩:=o2 a o e (λz=>nfr (sub a z)) (by rw[hex];simp)
    rw[A0.no] at Ak;cases Ak
  have I5:=I4.NF (a:=a) (o:=tU a cls ej) nH n0 (λz=>nfr (z▸inl)) (λy c ec z=>by
   obtain⟨v,oc,SG,NK⟩:=I4.cell y c ec
   rw[z] at SG
   have UA:h3.get? a=some oc:=SG
   rw[Wy] at UA;cases UA
   rw[YN] at NK;cases NK) (λp hp z=>by
   have:=NL p hp
   rw[z,A0.no] at this;cases this) ⟨⟨oe3,vs3,Wy,YL,YM,YN,v32⟩,⟨_,Wy⟩,λg1 g2 ⟨oe,vs,e,r⟩ k=>⟨oe,vs,k _ e,r⟩⟩
  refine pO I5 hN hi (.inl hk) (show RelV (V.ref a) (Value.ref a) from rfl) (λs6 I6 _=>?_) (.inr hk)
  refine bM (hs a ac s6 _ _ _ (I6.Aa a) (w2 a nH)) (λf s7 q=>?_) λ_ _ z=>False.elim z
  have un:∀{uD:St} {H7:Hp},Inv (X.Aa a) ac uD H7 s7->Inv X ac uD H7 s7:=λJ=>J.ND I.ok.hd I.ok.frames
  cases f with
  |next=>
   obtain⟨uD,H7,J,q⟩:=q
   exact uW (un J) hN hi hk λs' J'=>⟨_,_,J',q⟩
  |brk=>
   obtain⟨uD,H7,J,q⟩:=q
   exact uW (un J) hN hi hk λs' J'=>⟨_,_,J',q⟩
  |cont=>
   obtain⟨uD,H7,J,q⟩:=q
   exact uW (un J) hN hi hk λs' J'=>⟨_,_,J',q⟩
  |ret u=>
   obtain⟨v,uD,H7,J,r,q⟩:=q
   exact uW (un J) hN hi hk λs' J'=>⟨v,_,_,J',r,q⟩
def tV (a C d:ai) (h:Heap):Prop:=∃oe vs od,h.get? a=some oe/\oe.cls=.ref C/\oe.dict=some d/\oe.data=.fields vs/\h.get? d=some od
section
variable {prog:aM}{w:bB}{A:bG}{E:ag->aj->Prop}{K:Φ}{h:Heap}{g:Array GenState}{d:Drawn}{t:Nat}{os:OsState}{a C dc:ai}
def A2 (h1:h.get? a=some oe) (h2:oe.cls=.ref C) (h3:oe.dict=some dc) (h4:oe.data=.fields vs) (h5:h.get? dc=some od):InstAt h a oe C (some od):=by
 refine⟨h1,h2,?_,?_⟩
 .obtain⟨_,_,dt,_⟩:=oe
  have:dt=.fields vs:=h4
  subst this
  rfl
 .rw[h3];exact h5
def wO (X:K.In h) (F:o7 K C) (p:tV a C dc h) (q:Q () ⟨h,g,d,t,os⟩):wpAny (model prog w) A (checkBuiltinCall "BaseException.__getattribute__" ⟨[.ref a,IG],[]⟩) Q E ⟨h,g,d,t,os⟩:=by
 obtain⟨oe,vs,od,h1,h2,h3,h4,h5⟩:=p
 have L0:Looks (model prog w) h (typeOf (.ref a)) (.ref C):=h2▸(oi h1).andThen .now
 have L1:=looks_mroIn (M:=model prog w) X F.be
 have hk:builtinKind "BaseException.__getattribute__"=some .slot:=by decide+kernel
 have hs:splitId "BaseException.__getattribute__"=some ("BaseException","__getattribute__"):=by decide+kernel
 have ha:=PySem.F.args_bexc_ga (.ref a) IG
 simp only[checkBuiltinCall,hk,hs]
 refine aa ?_
 unfold isInstance
 repeat (first|with_reducible refine L0.at ?_|with_reducible refine L1.at ?_|wp_step)
 exact q
def Dh (X:K.In h) (F:o7 K C) (p:tV a C dc h) (q:Q (.done (.ret (.ref C))) ⟨h,g,d,t,os⟩):
  wpAny (model prog w) A (Builtin.«object.__getattribute__» ⟨[.ref a,.str "__class__" tk],[]⟩) Q E ⟨h,g,d,t,os⟩:=by
 obtain⟨oe,vs,od,h1,h2,h3,h4,h5⟩:=p
 have L0:Looks (model prog w) h (typeOf (.ref a)) (.ref C):=h2▸(oi h1).andThen .now
 have L2:=iP (M:=model prog w) X F.cl
 have hT5:(⟨h,g,d,t,os⟩:aj).TypeIs (.builtin "object.__class__") "getset_descriptor":=jx
 have f5:=jx
 have f6:=PySem.F.slot_gs_get.lookup
 have f7:=PySem.F.slot_gs_set.lookup
 repeat (any_goals (first|assumption|with_reducible refine L0.at ?_|with_reducible refine L2.at ?_|wp_step))
 refine class_get (s:=⟨h,g,d,t,os⟩) X (A2 h1 h2 h3 h4 h5) F.ob ?_
 repeat (any_goals (first|assumption|wp_step))
def L9 (X:K.In h) (F:o7 K C) (p:tV a C dc h) (q:Q (.ref C) ⟨h,g,d,t,os⟩):
  wpAny (model prog w) A (getAttrBy (.ref a) (.str "__class__" tk) false) Q E ⟨h,g,d,t,os⟩:=by
 have p':=p
 obtain⟨oe,vs,od,h1,h2,h3,h4,h5⟩:=p
 have L0:Looks (model prog w) h (typeOf (.ref a)) (.ref C):=h2▸(oi h1).andThen .now
 have L1:=iP (M:=model prog w) X F.ga
 have L2:=iP (M:=model prog w) X F.no
 have b0:=fH.ga.bind (.ref a)
 have n0:(onTheHeap (Value.ref C)&&Value.builtin "BaseException.__getattribute__"==Value.builtin "object.__getattribute__")=false:=by
  have n1:(Value.builtin "BaseException.__getattribute__"==Value.builtin "object.__getattribute__")=false:=by decide+kernel
  rw[n1];rfl
 repeat (any_goals (first|assumption|with_reducible refine L0.at ?_|with_reducible refine L1.at ?_|with_reducible refine L2.at ?_|wp_step))
 refine kr fH.ga.plain vn (wO X F p' (Dh X F p' ?_))
 repeat (any_goals (first|assumption|wp_step))
def Gs (X:K.In h) (F:o7 K C) (p:tV a C dc h) (q:Q (some (.ref C)) ⟨h,g,d,t+1,os⟩):wpAny (model prog w) A (getAttr? (.ref a) "__class__") Q E ⟨h,g,d,t,os⟩:=by
 unfold getAttr? getAttrBy?
 repeat (any_goals (first|assumption|with_reducible apply L9 X F p|wp_step))
end
def Gu {K:Φ}{a C dc:ai}(F:o7 K C):KitX K (.ref a) (.ref C) (tV a C dc) where
 ty:=λM h _ p=>by
  obtain⟨oe,vs,_,h1,h2,_⟩:=p
  exact h2▸(oi h1).andThen .now
 it:=λ_ _ X _=>by
  obtain⟨cd,hc⟩:=ik.mp F.cs
  unfold clsIn at hc
  split at hc
  .rename_i c' d' Yb Oy ho
   intro A' Q' E' s' k q
   unfold isType loadHead
   exact aa (BH (k _ _ (X _ _ ho)) (ak q))
  .cases hc
 ne:=λh tp dd cF n sl X Yc=>by
  obtain⟨cd,hc⟩:=ik.mp F.cs
  refine hW.mpr λq=>?_
  have e:C=tp:=Value.ref.inj (iT.mp q)
  subst e
  unfold clsIn at hc
  split at hc
  .rename_i c' d' Yb Oy ho
   have z:=(X _ _ ho).symm.trans Yc
   cases z
  .cases hc
 ca:=λ{_ _ _ _ _ s} X p k=>by
  obtain⟨h,g,d,t,os⟩:=s
  exact Gs X F p k
def P4 (K:Φ):List V->Hp->VK->Prop:=λxs H Q=>∃a C d fs c cv b,xs=[.ref a,c]/\H a=some (tU a (.ref C) (some d))/\H d=some (.xd fs)/\o7 K C/\IK c=some cv/\kitOne K (.ref C) cv=some b/\Q (.bl b) H
def Di:gN X (.builtin "isinstance") (P4 X.K):=by
 intro ac s Z H xs us Q I r h
 obtain⟨a,C,d,fs,c,cv,b,rfl,ha,hd,F,hc,e,q⟩:=h
 obtain⟨u,u',rfl,r1,r2⟩:=vals2 r
 cases(show u=Value.ref a from r1)
 have hu:u'=cv:=by
  cases c<;>simp only[IK,Option.some.injEq,reduceCtorEq] at hc
  .subst hc;exact r2
  .subst hc;exact r2
 subst hu
 obtain⟨⟨oe,vs,h1,h2,h3,h4,_⟩,_⟩:=I.eN a _ ha
 obtain⟨od,ho⟩:=l_ (I.eN d _ hd)
 exact kia_one (Gu (dc:=d) F) I.kY ⟨oe,vs,od,h1,h2,h3,h4,ho⟩ e (λz=>nomatch z) λtk=>⟨.bl b,H,I.tok tk,rfl,q⟩
section
variable {prog:aM}{w:bB}{A:bG}{E:ag->aj->Prop}{K:Φ}{h:Heap}{g:Array GenState}{d:Drawn}{t:Nat}{os:OsState}{a C dc:ai}{oe od:Obj}{name:Str}{v:ag}
def Dj (X:K.In h) (I:InstAt h a oe C (some od)) (hf:findObj K C (some od) name=some (.value v)) (q:Q (.done (.ret v)) ⟨h,g,d,t,os⟩):
  wpAny (model prog w) A (Builtin.«object.__getattribute__» ⟨[.ref a,.str name tk],[]⟩) Q E ⟨h,g,d,t,os⟩:=by
 have L0:=I.type (M:=model prog w)
 have L1:=looks_find (M:=model prog w) X I hf
 refine aa (ak (aa (ak (aa (L0.at (aa (L1.at ?_)))))))
 exact ak q
def L_ (X:K.In h) (F:o7 K C) (h1:h.get? a=some oe) (h2:oe.cls=.ref C) (h3:oe.dict=some dc) (h4:oe.data=.fields vs) (h5:h.get? dc=some od)
  (hf:findObj K C (some od) name=some (.value v)) (hv:handedIn v=true) (q:Q v ⟨h,g,d,t,os⟩):
  wpAny (model prog w) A (getAttrBy (.ref a) (.str name tk) b c) Q E ⟨h,g,d,t,os⟩:=by
 have p':tV a C dc h:=⟨oe,vs,od,h1,h2,h3,h4,h5⟩
 have L0:Looks (model prog w) h (typeOf (.ref a)) (.ref C):=h2▸(oi h1).andThen .now
 have L1:=iP (M:=model prog w) X F.ga
 have L2:=iP (M:=model prog w) X F.no
 have b0:=fH.ga.bind (.ref a)
 have n0:(onTheHeap (Value.ref C)&&Value.builtin "BaseException.__getattribute__"==Value.builtin "object.__getattribute__")=false:=by
  have n1:(Value.builtin "BaseException.__getattribute__"==Value.builtin "object.__getattribute__")=false:=by decide+kernel
  rw[n1];rfl
 cases b<;>cases c
 all_goals repeat (any_goals (first|assumption|with_reducible refine L0.at ?_|with_reducible refine L1.at ?_|with_reducible refine L2.at ?_|wp_step))
 all_goals refine kr fH.ga.plain vn (wO X F p' (Dj X (A2 h1 h2 h3 h4 h5) hf ?_))
 all_goals show wpAny _ _ (handedOut v) _ _ _
 all_goals rw[handedOut_of hv]
 all_goals exact ak q
end
section
variable {prog:aM}{w:bB}{A:bG}{E:ag->aj->Prop}{K:Φ}{s:aj}{x C:ai}{ox:Obj}{od:Option Obj}{cd:ClassData}{name:Str}{v:ag}
def Ma (X:K.In s.heap) (I:InstAt s.heap x ox C od) (hc:clsIn K C=some cd) (YO:mroIn K C (.type "object")=some true) (hr:refuseLoop (.ref x) "__setattr__" cd.mro=pure ()) (ha:findIn K (.ref C) name=some none)
  (h:wpAny (model prog w) A.in1 (Builtin.ObjectAttr.storeInOwnDict (.ref x) (.ref C) (.str name tk) name v false)
   (λfin s'=>match fin with| .done f=>R (.ok f) s'| .again c'=>c'.quiet=true/\codeAny (model prog w) A c' R s') (λe s'=>R (.error e) s') s):
  codeAny (model prog w) A (.call (.builtin "object.__setattr__") ⟨[.ref x,.str name tk,v],[]⟩) R s:=by
 have SF:=PySem.F.store_object
 have sub:Looks (model prog w) s.heap (isInstance (.ref x) (.type "object")) true:=I.type.andThen (looks_mroIn X YO)
 refine kr SF.slot.plain SF.entry (@check_slot (model prog w) _ _ s "object.__setattr__" "object" "__setattr__" (.ref x) [.str name tk,v] [] _ SF.kind SF.split sub (SF.args (.ref x) (.str name tk) v) ?_)
 have hm:Looks (model prog w) s.heap (mroOf (.ref C)) cd.mro:=(looks_clsIn X hc).andThen .now
 have L3:Looks (model prog w) s.heap (Builtin.ObjectAttr.storeTaker? none) none:=.now
 rw[osa_eq,refuse_eq]
 refine aa (aa (I.type.here (aa (hm.here ?_))))
 rw[hr]
 refine ak (aa (I.type.here (aa ((iP X ha).here (aa (L3.here ?_))))))
 exact h
def Gv {Q:Unit->aj->Prop}(X:K.In s.heap) (I:InstAt s.heap x ox C none) (hdn:ox.dict=none) (hs:findIn K (.ref C) "__setattr__"=some (some (.builtin "object.__setattr__"))) (hc:clsIn K C=some cd) (hd:cd.hasDict=true) (YO:mroIn K C (.type "object")=some true) (hr:refuseLoop (.ref x) "__setattr__" cd.mro=pure ()) (ha:findIn K (.ref C) name=some none)
  (h:∀h' t',h'.get? x=some {ox with dict:=some s.heap.objs.size}->h'.Ns1 s.heap.objs.size (λy=>if y=name then some v else none)->(∀b o,b≠x->s.heap.get? b=some o->h'.get? b=some o)->Q () {s with heap:=h',toks:=t'}):
  wpAny (model prog w) A (setAttr (.ref x) name v) Q E s:=by
 refine set_plain X I hs (Ma (s:={s with toks:=s.toks+1}) X I hc YO hr ha ?_)
 obtain⟨hx,HZ,hn,-⟩:=I
 obtain⟨hp,g,d,t,os⟩:=s
 obtain⟨oc,odi,TN,vE⟩:=ox
 dsimp only at HZ hdn hx h
 subst HZ hdn
 refine aa (ak (aa (aa (BH hx (aa (PySem.W.Looks.here (s:=⟨hp,g,d,t+1,os⟩) (looks_clsIn X hc) ?_))))))
 rw[hd]
 have ng:x≠hp.objs.size:=ba (aC hx)
 have NM:(hp.push {cls:=.type "dict",data:=.dict #[]}).get? x=some ⟨.ref C,none,TN,vE⟩:=af _ hx
 have body:wpAny (model prog w) A.in1 (do
   let a<-alloc {cls:=.type "dict",data:=.dict #[]}
   update x λo=>{o with dict:=some a}
   pure (some a)) (λr s'=>wpAny (model prog w) A.in1 (match r with|some d=>Builtin.ObjectAttr.storeInDict d (.str name t) name v|none=>Builtin.ObjectAttr.noDictFor (.ref x) (.ref C) name false) (λfin s'=>match fin with| .done f=>(match (Except.ok f:Result) with| .ok (.ret _)=>Q () s'| .ok _=>False| .error e=>E e s')| .again c'=>c'.quiet=true/\codeAny (model prog w) A c' (λr s'=>match r with| .ok (.ret _)=>Q () s'| .ok _=>False| .error e=>E e s') s') E s') E ⟨hp,g,d,t+1,os⟩:=by
  refine aa (wpAny_alloc' (aa (wpAny_update' NM (ak ?_))))
  have hgd:((hp.push {cls:=.type "dict",data:=.dict #[]}).update x λo=>{o with dict:=some hp.objs.size}).get? hp.objs.size=some {cls:=.type "dict",data:=.dict #[]}:=
   (kX _ _ _ _ ng.symm).trans (Heap.get?_push_at rfl rfl)
  have Aa:((hp.push {cls:=.type "dict",data:=.dict #[]}).update x λo=>{o with dict:=some hp.objs.size}).Ns hp.objs.size (λ_=>none):=
   ⟨_,#[],_,hgd,rfl,λe he=>absurd he ς,λ_=>rfl⟩
  show wpAny _ _ (Builtin.ObjectAttr.storeInDict hp.objs.size (.str name t) name v) _ _ _
  unfold Builtin.ObjectAttr.storeInDict Builtin.ObjectAttr.newKeyGuard
  refine aa (ak (aa (wpAny_nsSet1 (Heap.Ns1.of_empty Aa) λh' Wf hs=>?_)))
  obtain⟨oD,esD,epD,Xh,Xi,Xj⟩:=Wf.count (Within.cons name v Within.nil)
  refine aa (wpAny_lookBehind Xh (by rw[Xi];exact pastItsLine_dict (aA Xj (by rw[cI,i_,gX];omega))) ?_)
  refine ak (h h' _ ?_ Wf λb o hbx hb=>?_)
  .refine(hs.2 x ng).trans (cW _ NM ?_)
   have AY:=(Heap.get?_some_iff.mp hx).2
   cases TN<;>first|rfl|exact AY
  .exact(hs.2 b (ba (aC hb))).trans ((kX _ _ _ _ hbx).trans (af _ hb))
 cases TN with
 |cls c=>cases hn
 |_=>exact body
end
abbrev wQ (cls:ag) (ej:Option ai) (t:ai):Obj:={cls:=cls,dict:=ej,data:=.fields #[.ref t,.none,.none,.none,.bool false,.none]}
def qN (a:ai) (cls:ag) (ej:Option ai):HO:=.ext λh=>∃t,h.get? a=some (wQ cls ej t)
def zr (h1:h.get? a=some (wQ cls ej t)):fV P w H h a (qN a cls ej):=
 ⟨⟨t,h1⟩,⟨_,h1⟩,λg1 g2 ⟨t,e⟩ k=>⟨t,k _ e⟩⟩
structure P5 (K:Φ) (C:ai):Prop where
 sa:findIn K (.ref C) "__setattr__"=some (some (.builtin "object.__setattr__"))
 ob:mroIn K C (.type "object")=some true
 cd:∃cd,clsIn K C=some cd/\cd.hasDict=true/\∀self:ag,refuseLoop self "__setattr__" cd.mro=pure ()
section
variable {X:Cx}{ac:List (ai×Obj)}{Z:St}{H:Hp}{s:aj}{a C d:ai}{fs:List (Str×V)}{f:Str}{v:V}{A:bG}{E:ag->aj->Prop}
def A3 (I:Inv X ac Z H s) (e:H a=some (qN a (.ref C) none)) (c:P5 X.K C) (n:jA X.K C f) (ry:RelV y u)
  (h:∀d s',H d=none->d≠a->Inv X ac Z (upd (upd H d (.xd [(f,y)])) a (qN a (.ref C) (some d))) s'->Q () s'):wpAny (model X.prog X.w) A (setAttr (.ref a) f u) Q E s:=by
 obtain⟨⟨t,h1⟩,_⟩:=I.eN a _ e
 obtain⟨cd,hc,hd,hr⟩:=c.cd
 have na:s.heap.objs.size≠a:=g_ (aC h1)
 refine Gv I.kY (EG h1 rfl rfl rfl) rfl c.sa hc hd c.ob (hr _) n λh' t' g1 g2 g3=>?_
 refine h s.heap.objs.size _ (I.eN.fresh (ar _)) na ?_
 obtain⟨od,es,ep,ho,r⟩:=g2
 have nf:od.isFreed=false:=(Heap.get?_some_iff.mp ho).2
 have e1:(s.heap.push od).get? s.heap.objs.size=some od:=az _ nf
 have I1:=I.laid (a:=s.heap.objs.size) (o:=.xd [(f,y)]) (h':=s.heap.push od) (t':=t') (λb u q=>af _ q) (ar _) ⟨_,⟨od,es,ep,e1,r⟩,λg=>by
  show oo (List.lookup g [(f,y)]) (if g=f then some u else none)
  by_cases q:g=f
  .rw[q,aQ rfl];simp only[List.lookup,Fl];exact ry
  .rw[aO q];have:(g==f)=false:=by simpa using q
   simp only[List.lookup,this];exact True.intro⟩
 refine I1.write (x:=a) (e:=a) (h':=h') (t':=t') (by rw[aV (cD na),e];exact True.intro) (.inl rfl) (λb u hb q=>?_) ⟨_,g1⟩ (zr (t:=t) g1)
 rcases Heap.get?_push_cases q with⟨rfl,rfl⟩|q'
 .exact ho
 .exact g3 b u hb q'
def A5 (I:Inv X ac Z H s) (e:H a=some (tU a (.ref C) (some d))) (ed:H d=some (.xd fs)) (c:o7 X.K C) (hh:hasDictIn X.K C=true) (n:jA X.K C f) (l:fs.lookup f=some v)
  (h:∀u s',Inv X ac Z H s'->RelV v u->Q u s'):wpAny (model X.prog X.w) A (getAttr (.ref a) f b) Q E s:=by
 obtain⟨⟨oe,vs,h1,h2,h3,h4,_⟩,_⟩:=I.eN a _ e
 obtain⟨mA,hn,r⟩:=I.eN d _ ed
 obtain⟨od,ho,hl⟩:=xU hn
 obtain⟨u,hu,ru⟩:=oo.some_of (v:=v) (o:=mA f) (by rw[<-l];exact r f)
 obtain⟨hp,g,dd,t,os⟩:=s
 unfold getAttr
 refine aa (wpAny_mkText ?_)
 exact L_ I.kY c h1 h2 h3 h4 ho (findObj_own hh n rfl (by rw[hl,hu])) (xV ru) (h u _ (I.tok _) ru)
end
def NN (K:Φ) (ta:TE) (f:Str):TE:=λZ H Q=>ta Z H λx H1=>∃a C d fs v,x=.ref a/\H1 a=some (tU a (.ref C) (some d))/\H1 d=some (.xd fs)/\o7 K C/\hasDictIn K C=true/\jA K C f/\fs.lookup f=some v/\Q v H1
def UB (K:Φ) (ta tv:TE) (f:Str):TS:=λD Z H=>tv Z H λy H1=>ta Z H1 λx H2=>∃a C,x=.ref a/\H2 a=some (qN a (.ref C) none)/\P5 K C/\jA K C f/\
 ∀d,H2 d=none->d≠a->D.nx Z (upd (upd H2 d (.xd [(f,y)])) a (qN a (.ref C) (some d)))
section
variable {X:Cx}{o e value:Expr}{f:Str}{pos pos':Pos}{ta tv:TE}
def Mb (he:PE X e ta) (hb:attributeBase e f X.env (eval e X.env)=eval e X.env):PE X (.Attribute e f pos) (NN X.K ta f):=by
 intro ac s Z H Q I h
 refine Eo hb (fq (he ac s Z H _ I h) λu s1 cZ=>?_)
 obtain⟨x,H1,I1,rx,a,C,d,fs,v,ex,ea,ed,c,hh,n,l,q⟩:=cZ
 subst ex
 obtain rfl:u=Value.ref a:=rx
 exact A5 I1 ea ed c hh n l λu' s2 I2 ru=>⟨v,H1,I2,ru,q⟩
def Mc (ha:PE X o ta) (hv:PE X value tv) (hs:swapsWith value (some (.Attribute o f pos')) pos.line X.env=pure false):PS X (.Assign [.Attribute o f pos'] value pos) (UB X.K ta tv f):=by
 intro ac s Z H D I h
 refine Ni (fq (hv ac s Z H _ I h) λu s1 cZ=>?_) hs
 obtain⟨y,H1,I1,ry,q⟩:=cZ
 refine fq (ha ac s1 Z H1 _ I1 q) λov s2 Ao=>?_
 obtain⟨x,H2,I2,rx,a,C,ex,ea,c,n,q2⟩:=Ao
 subst ex
 obtain rfl:ov=Value.ref a:=rx
 exact A3 I2 ea c n ry λd s3 nd na I3=>⟨Z,_,I3,q2 d nd na⟩
end
section
variable {prog:aM}{w:bB}{A:bG}{E:ag->aj->Prop}{h:Heap}{g:Array GenState}{d:Drawn}{t:Nat}{os:OsState}
variable {nm q:Str}{C N:ai}{bs bm PY:List ag}{hdct:Bool}{sn:List Str}{sub:List ag}{ab:Bool}{col:Option Bool}{dd:Option ai}{k0 k1 k2 k3 k5:Option ag}{B newId wu:String}
def init_exc (F:ExcBaseFacts B newId wu PY) (T:OwnTail h PY bm) {rest:List ag}
  (hC:h.get? C=some (excClassObj nm q C N bs bm hdct sn sub ab col dd k0 k1 k2 k3 k5 newId)) (he:h.get? e=some (wQ (.ref C) none t0)) (EN:rest.length<=sizeLine)
  (hq:∀h' t1,h'.get? e=some (wQ (.ref C) none t1)->(∀b o,b≠e->h.get? b=some o->h'.get? b=some o)->Q .none ⟨h',g,d,t,os⟩):
  wpAny (model prog w) A (call (.builtin wu) (.ref e::rest)) Q E ⟨h,g,d,t,os⟩:=by
 refine oJ (kr F.init.plain F.initEntry (wpAny_check_init_subT F T hC he rfl ?_))
 have UC:(h.push {cls:=.type "tuple",data:=.seq rest.toArray}).get? e=some (wQ (.ref C) none t0):=af _ he
 wp_walk
 refine hq _ h.objs.size ?_ λb o hb q=>?_
 .rw[cW _ UC rfl]
  rfl
 .rw[aY _ _ (cD hb)]
  exact af _ q
end
def del (H:Hp) (a:ai):Hp:=λb=>if b=a then none else H b
def A6:del H a a=none:=by unfold del;rw[aQ rfl]
def pq (h:b≠a):del H a b=H b:=by unfold del;rw[aO h]
def rT (h:H b=none):del H a b=none:=by unfold del;split<;>first|rfl|exact h
def P6 (h:H a=some o):upd H a o=H:=by
 funext b;unfold upd;split
 .rename_i e;rw[e,h]
 .rfl
section
variable {X:Cx}{ac:List (ai×Obj)}{Z:St}{H:Hp}{s:aj}{a C R fI:ai}{cls:ag}{ej:Option ai}
def Inv.Md (I:Inv X ac Z H s) (e:H a=some (.ext φ)):Inv X ac Z (del H a) s:=by
 refine⟨I.ok,I.os,I.bare,⟨I.base.keep,I.base.slot,λb u q m hx=>rT (I.base.free b u q m hx),I.base.there,λb xs z=>?_,λb u v z=>?_,λb ps z=>?_⟩,I.loc,I.cell,rT I.free,λx c z=>rT (I.jq x c z),λp hp=>?_,λb u z=>?_,I.len⟩
 .have:=I.base.nz b xs z
  rw[pq (xQ this e nofun)];exact this
 .have:=I.base.oN b u v z
  rw[pq (xQ this e nofun)];exact this
 .obtain⟨m,this⟩:=I.base.qe b ps z
  exact⟨m,by rw[pq (xQ this e nofun)];exact this⟩
 .obtain⟨p1,p2,p3⟩:=I.pin p hp
  exact⟨p1,rT p2,p3⟩
 .by_cases eb:b=a
  .rw[eb,A6] at z;cases z
  .rw[pq eb] at z
   refine(I.eN b u z).qd (λ_ _ _ y=>y) (λc y=>?_) (λc xs y=>?_)
   .rw[pq (xQ y e nofun)];exact y
   .rw[pq (xQ y e nofun)];exact y
end
def Dk {K:Φ} (X:K.In h) (G:h.Ns N mg) (e:nsIn K N n=some (some v)):mg n=some v:=by
 obtain⟨o,es,ep,ho,hd,_,hf⟩:=G
 unfold nsIn at e
 split at e
 .rename_i c d We n' sl q
  have:=X _ _ q
  rw[ho] at this
  cases this
  cases hd
  split at e
  .rename_i en he
   cases e
   rw[<-hf]
   unfold nsFind findBy
   rw[<-Array.find?_toList,he]
   rfl
  .split at e<;>cases e
 .cases e
def Dl (K:Φ) (C fI:ai):Bool:=match K.lookup C with
 |some ⟨.type "type",_,.cls cd,sl⟩=>(match cd.mro,sl.toList with
  | .ref C'::bm,[_,_,_,_,some (.builtin n),_]=>C'==C&&n=="ValueError.__new__"&& !cd.hasDel&&tailIn K vR bm&&nsOkIn K cd.ns&&nsIn K cd.ns "__init__"==some (some (.ref fI))
  |_,_=>false)
 |_=>false
structure A7 (K:Φ) (C fI:ai):Prop where
 is:Dl K C fI=true
 fn:isFn K (.ref fI)=true
 kp:keepIn K (.ref C)=true
def A7.own {K:Φ} (O:A7 K C fI) (qf:K.In h):∃tl N nm q bs hdct sn sub ab col dd k0 k1 k2 k3 k5 mN,h.get? C=some (excClassObj nm q C N bs tl hdct sn sub ab col dd k0 k1 k2 k3 k5 "ValueError.__new__")/\h.Ns N mN/\mN "__init__"=some (.ref fI)/\OwnTail h vR tl:=by
 have q:=O.is
 unfold Dl at q
 split at q
 case h_2=>cases q
 case h_1 d0 c0 s0 look=>
  split at q
  case h_2=>cases q
  case h_1 C1 tl a0 a1 a2 a3 nw a5 em es=>
   obtain⟨c1,c2,c3,c4,c5,c6,c7,c8,c9,c10,c11⟩:=c0
   obtain⟨sl⟩:=s0
   simp only[cJ,iT,lN] at q
   obtain⟨⟨⟨⟨⟨g1,g2⟩,g3⟩,g4⟩,g5⟩,g6⟩:=q
   dsimp only at em es g3 g5 g6
   subst g1 g2 g3 em es
   have n0:h.Ns c4 (h.nsMap c4):=.of_isNs (isNs_of_in qf g5)
   exact⟨tl,c4,c1,c5,c2,c6,c7,c8,c9,c10,d0,a0,a1,a2,a3,a5,h.nsMap c4,qf _ _ look,n0,Dk qf n0 g6,tail_of_in qf g4⟩
def UD {K:Φ} (qf:K.In h) (e:isFn K (.ref f)=true):∃o,h.get? f=some o/\o.cls=.type "function":=by
 have e:(K.lookup f).map (·.cls)=some (.type "function"):=iT.mp e
 obtain⟨o,ho,hc⟩:=Su.mp e
 exact⟨o,qf _ _ ho,hc⟩
section
variable {X:Cx}{CX:Hd}{k:Nat}{C fI:ai}{fd:FuncData}{ps:List Str}{sp:Sp}{mK:List V}{ds:List ag}{E:XK}{ac:List (ai×Obj)}{Z:St}{H:Hp}{s:aj}
def Inv.UE {h':Heap}{e:ai}{rest:List ag}(I:Inv X ac Z H s) (hex:X.ex=[]) (mk:Heap.MadeExcOf s.heap h' e (.ref C) rest):
  H e=none/\X.gP.heap.get? e=none/\Inv X ac Z (upd H e (qN e (.ref C) none)) {s with heap:=h'}:=by
 have n1:H e=none:=by
  cases q:H e with
  |none=>rfl
  |some u=>obtain⟨o,ho⟩:=l_ (I.eN e u q);rw[mk.new] at ho;cases ho
 have n2:X.gP.heap.get? e=none:=by
  cases q:X.gP.heap.get? e with
  |none=>rfl
  |some o=>obtain⟨o',ho⟩:=I.base.there e o q (by rw[hex];simp);rw[mk.new] at ho;cases ho
 obtain⟨t,ht,_,_⟩:=mk.there
 refine⟨n1,n2,Inv.NF (I.kept (h':=h') (t':=s.toks) mk.keeps) n1 n2 (λz=>?_) (λx c ec z=>?_) (λp hp z=>?_) (zr ht)⟩
 .obtain⟨m,⟨o,es,ep,ho,_⟩,_⟩:=I.loc
  rw[<-z,mk.new] at ho;cases ho
 .obtain⟨v,o,ho,_⟩:=I.cell x c ec
  rw[z,mk.new] at ho;cases ho
 .have:=(I.pin p hp).1
  rw[z,mk.new] at this;cases this
def Gw {Q:ai->Hp->Prop} (O:A7 X.K C fI) (F:dW X.prog X.w X.K X.mg X.base CX k fI fd ps sp) (hr:eS (k+1) X.A) (hb:Binds X.K fd ps ds) (hd:cz mK ds) (hx:mx CX X E) (hex:X.ex=[])
  (I:Inv X ac Z H s) (r:cz vs us) (hz:vs.length<=sizeLine)
  (h:∀a,H a=none->sp (.ref a::(vs++mK)) (upd H a (qN a (.ref C) none)) (λv H2=>v=.eK/\Q a H2) E):
  wpAny (model X.prog X.w) X.A (call (.ref C) us) (λu s'=>∃a H2,u=.ref a/\X.gP.heap.get? a=none/\Inv X ac Z H2 s'/\Q a H2) X.xe s:=by
 obtain⟨tl,N,nm,q,bs,hdct,sn,sub,ab,col,dd,k0,k1,k2,k3,k5,mN,hC,hN,hi,T⟩:=O.own I.kY
 obtain⟨oI,Ut,Uu⟩:=UD I.kY O.fn
 obtain⟨hp,g,d,t,os⟩:=s
 refine C_ gI T hC hN hi Ut Uu (λh' e mk=>?_) (by rw[<-r.length];exact hz)
 obtain⟨n1,n2,I2⟩:=I.UE hex mk
 have hq:=h e n1
 have r2:cz (V.ref e::(vs++mK)) (Value.ref e::(us++ds)):=.cons rfl (r.append hd)
 have hl:(Value.ref e::us++ds).length=ps.length:=by
  have z:=r2.length
  rw[F.len _ _ _ _ hq] at z
  exact z.symm
 refine oJ (kK (F.run _ X.stack _ _ ⟨Value.ref e::us,[]⟩ (Value.ref e::(us++ds)) _ _ E (hr.make C us []) (I2.FG.make C us []) (hb _ (Value.ref e::us) I2.kY hl) r2 hq) λr s' FH=>?_)
 cases r with
 |error e=>exact hx ac Z _ _ e s' I2 FH
 |ok fl=>
  cases fl with
  |ret u=>
   obtain⟨v,H',I3,rv,ev,q3⟩:=I2.after FH
   subst ev
   exact⟨rv,e,H',rfl,n2,I3,q3⟩
  |next=>exact False.elim FH
  |brk=>exact False.elim FH
  |cont=>exact False.elim FH
def Me (C:ai) (sp:Sp) (mK:List V) (E:XK) (W:ag->Option ai->St->Hp->Prop) (t:TA):TS:=λ_ Z H=>t Z H λvs H1=>vs.length<=sizeLine/\
 ∀a,H1 a=none->sp (.ref a::(vs++mK)) (upd H1 a (qN a (.ref C) none)) (λv H2=>v=.eK/\∃ej,H2 a=some (qN a (.ref C) ej)/\W (.ref C) ej Z (del H2 a)) E
def Gx (hM:Dd X W) (hc:X.calm=true) (O:A7 X.K C fI) (F:dW X.prog X.w X.K X.mg X.base CX k fI fd ps sp) (hr:eS (k+1) X.A) (hb:Binds X.K fd ps ds) (hd:cz mK ds) (hx:mx CX X E) (hex:X.ex=[])
  (hg:Gl X x) (hm:X.mg x=some (.ref C)) (ha:PA X (e::es) t) (qy:(x==("__debug__":Str))=false:=by decide)
  (he:starEach (e::es) X.env=(false,eval e X.env)::starEach es X.env:=by rfl) (ky:(backTo jS (starEach es X.env)).any (·.1)=false:=by rfl):
  PS X (.Raise (some (.Call (.Name x np) (e::es) [] jS)) none pos) (Me C sp mK E W t):=by
 intro ac s Z H D I h
 obtain⟨tl,N,nm,q,bs,hdct,sn,sub,ab,col,dd,k0,k1,k2,k3,k5,mN,hC,hN,hi,T⟩:=O.own I.ok.mod.qf
 rw[arm_exec_Raise]
 refine aa (jN (xI (C:=C) (nm:=nm) (q:=q) (N:=N) (bs:=bs) (bm:=tl) (hdct:=hdct) (sn:=sn) (sub:=sub) (ab:=ab) (col:=col) (dd:=dd) (k0:=k0) (k1:=k1) (k2:=k2) (k3:=k3) (k5:=k5) (newId:="ValueError.__new__")
  (T.hasType gI.hasBase) (I.ok.hd hc) (aa (bM (Q:=λu s'=>∃a H2,u=.ref a/\X.gP.heap.get? a=none/\Inv X ac Z H2 s'/\∃ej,H2 a=some (qN a (.ref C) ej)/\W (.ref C) ej Z (del H2 a)) ?_ (λv s3 h3=>aa (jN (ak ?_))) λ_ _ x=>x))))
 .refine gf (jy I hg hm ?_ qy)
  refine iU (h₀:=X.base) I.ok.mod.qf O.kp (fq (ha jS ac s Z H _ I h) λus s1 cZ=>?_) he ky
  obtain⟨vs,H1,I1,r,hz,q1⟩:=cZ
  refine⟨I1.kY,?_⟩
  exact Gw O F hr hb hd hx hex I1 r hz q1
 .obtain⟨a,H2,rfl,n0,I2,ej,ea,hw⟩:=h3
  obtain⟨⟨t0,h1⟩,_⟩:=I2.eN a _ ea
  refine⟨a,_,_,rfl,I2.bk _ _ hC,h1,rfl,rfl,rfl,?_⟩
  refine hM ac Z (del H2 a) s3 a (.ref C) ej (I2.Md ea) ⟨⟨_,_,h1,rfl,rfl,rfl,rfl,rfl⟩⟩ A6 n0 (λz=>?_) (λy c ec z=>?_) (λp hp z=>?_) hw
  .have:=I2.free;rw[<-z,ea] at this;cases this
  .have:=I2.jq y c ec;rw[z,ea] at this;cases this
  .have:=(I2.pin p hp).2.1;rw[z,ea] at this;cases this
end
section
variable {X:Cx}{W:ag->Option ai->St->Hp->Prop}
def Mf (W:ag->Option ai->St->Hp->Prop) (cls:ag) (t:TA):TS:=λ_ Z H=>t Z H λvs H1=>vs.length<=sizeLine/\W cls none Z H1
def gZ (hM:Dd X W) (hc:X.calm=true) (hex:X.ex=[]) (O:tL X.K X.mg x C) (hg:Gl X x) (ha:PA X (e::es) t) (qy:(x==("__debug__":Str))=false:=by decide)
  (he:starEach (e::es) X.env=(false,eval e X.env)::starEach es X.env:=by rfl) (ky:(backTo jS (starEach es X.env)).any (·.1)=false:=by rfl):
  PS X (.Raise (some (.Call (.Name x np) (e::es) [] jS)) none pos) (Mf W (.ref C) t):=by
 intro ac s Z H D I h
 have OB:=O.own I.ok.mod.qf
 obtain⟨tl,N,nm,q,bs,hdct,sn,sub,ab,col,dd,k0,k1,k2,k3,k5,mN,hC,hN,PJ,T⟩:=OB.obj
 refine wpAny_Raise_call_subT (C:=C) (nm:=nm) (q:=q) (N:=N) (bs:=bs) (bm:=tl) (hdct:=hdct) (sn:=sn) (sub:=sub) (ab:=ab) (col:=col) (dd:=dd) (k0:=k0) (k1:=k1) (k2:=k2) (k3:=k3) (k5:=k5)
  gI (mN:=mN) (T.hasType gI.hasBase) (I.ok.hd hc) (by rw[he];show(false||(backTo jS (starEach es X.env)).any (·.1))=false;rw[ky];rfl) PJ (jy I hg O.at' ⟨rfl,?_⟩ qy)
 have h2:=ha jS ac s Z H _ I h
 rw[he] at h2⊢
 refine BI (bM h2 (λvs sY ⟨xs,H1,I1,r,z,q⟩=>⟨rfl,by rw[<-r.length];exact z,I1.bk _ _ hC,hN.keeps I1.bk,T.keeps I1.bk,λh' e' mk=>?_⟩) λ_ _ y=>y)
 have J:Inv X ac Z H1 {sY with heap:=h'}:=I1.kept (t':=sY.toks) λb o e=>mk.keeps b o e
 obtain⟨t0,m1,_,_⟩:=mk.there
 refine hM ac Z H1 {sY with heap:=h'} e' (.ref C) none J ⟨⟨_,_,m1,rfl,rfl,rfl,rfl,rfl⟩⟩ ?_ ?_ ?_ ?_ ?_ q
 .cases g:H1 e' with
  |none=>rfl
  |some u=>obtain⟨o,ho⟩:=l_ (I1.eN e' u g);rw[mk.new] at ho;cases ho
 .cases g:X.gP.heap.get? e' with
  |none=>rfl
  |some o=>obtain⟨o',ho⟩:=I1.base.there e' o g (by rw[hex];intro z;cases z);rw[mk.new] at ho;cases ho
 .intro z
  obtain⟨m,⟨o,_,_,ho,_⟩,_⟩:=I1.loc
  rw[<-z,mk.new] at ho;cases ho
 .intro y c ec z
  obtain⟨v,o,ho,_⟩:=I1.cell y c ec
  rw[z,mk.new] at ho;cases ho
 .intro p hp z
  have:=(I1.pin p hp).1
  rw[z,mk.new] at this;cases this
def nN (C:ai) (m:Str) (sp:Sp) (W:ag->Option ai->St->Hp->Prop) (ta:TE) (t:TA):TE:=λZ H Q=>ta Z H λx H1=>∃a dx fs,x=.ref a/\H1 a=some (.ins C dx fs)/\fs.lookup m=none/\
 t Z H1 λvs H2=>sp (x::vs) H2 Q λcls ej H'=>W cls ej Z H'
def xJ (P:aM) (w:bB) (K:Φ) (mg:Str->Option ag) (base:Heap) (k:Nat) (C:ai) (m:Str) (ps:List Str) (sp:Sp):Prop:=
 By K C/\∃f fd,dW P w K mg base (q_ P w) k f fd ps sp/\Binds K fd ps []/\yY K C m f
variable {k:Nat}{C:ai}{m:Str}{ps:List Str}{sp:Sp}{o e:Expr}{es:List Expr}{ta:TE}{t:TA}{apos pos:Pos}
def wR {pl:Sem Bool}(D:xJ X.prog X.w X.K X.mg X.base k C m ps sp) (hr:eS k X.A) (hL:wN X W) (he:PE X o ta) (ha:PA X (e::es) t)
  (Fw:starEach (e::es) X.env=(false,eval e X.env)::starEach es X.env:=by rfl) (ky:(backTo pos (starEach es X.env)).any (·.1)=false:=by rfl)
  (ht:eval (.Call (.Attribute o m apos) (e::es) [] pos) X.env=(do
   let ov<-eval o X.env
   standAt apos.atName
   let(f,first)<-holding [ov] (getMethod ov m pl)
   callWith pos f first (backTo pos (starEach (e::es) X.env)) (backToKw pos (keywordEach [] X.env))):=by rfl):
  PE X (.Call (.Attribute o m apos) (e::es) [] pos) (nN C m sp W ta t):=by
 intro ac s Z H Q I h
 obtain⟨c,f,fd,F,hb,hm⟩:=D
 refine gK (pl:=pl) (fq (he ac s Z H _ I h) λu s1 cZ=>?_) ht
 obtain⟨x,H1,I1,rx,a,dx,fs,ex,ea,l,q⟩:=cZ
 subst ex
 obtain rfl:u=Value.ref a:=rx
 refine lh I1 ea c hm l ?_
 refine iU (first:=[.ref a]) (h₀:=X.base) I.ok.mod.qf hm.kp (fq (ha pos ac s1 Z H1 _ I1 q) λus s2 cZ=>?_) Fw ky
 obtain⟨vs,H2,I2,r,q2⟩:=cZ
 refine⟨I2.kY,?_⟩
 exact zp (us:=.ref a::us) (vs:=.ref a::vs) (mK:=[]) (ds:=[]) F hr hb .nil hL I2 (.cons rfl r) (by rw[eR];exact q2)
def ER {pl:Sem Bool}(D:xJ X.prog X.w X.K X.mg X.base k C m ps sp) (hr:eS k X.A) (hL:wN X W) (he:PE X o ta)
  (ht:eval (.Call (.Attribute o m apos) [] [] pos) X.env=(do
   let ov<-eval o X.env
   standAt apos.atName
   let(f,first)<-holding [ov] (getMethod ov m pl)
   callWith pos f first (backTo pos (starEach [] X.env)) (backToKw pos (keywordEach [] X.env))):=by rfl):
  PE X (.Call (.Attribute o m apos) [] [] pos) (nN C m sp W ta fE):=by
 intro ac s Z H Q I h
 obtain⟨c,f,fd,F,hb,hm⟩:=D
 refine gK (pl:=pl) (fq (he ac s Z H _ I h) λu s1 cZ=>?_) ht
 obtain⟨x,H1,I1,rx,a,dx,fs,ex,ea,l,q⟩:=cZ
 subst ex
 obtain rfl:u=Value.ref a:=rx
 refine lh I1 ea c hm l ?_
 exact ou (first:=[.ref a]) I1.kY hm.kp (zp (us:=[.ref a]) (vs:=[.ref a]) (mK:=[]) (ds:=[]) F hr hb .nil hL I1 (.cons rfl .nil) q)
end
def UG (K:Φ) (C:ai) (tb:(ag->Option ai->St->Hp->Prop)->TS) (ts:TS):TS:=λD Z H=>
 tb (λcls ej bX H'=>exmOne K cls (.ref C)=some true/\ts D bX H') D Z H
def Mg (Js:X.stack=X.env::X.outer) (AY:X.env.frame=some X.env.locals)
  (hg:Gl X x) (hm:X.mg x=some (.ref C)) (hb:∀ac W,xx (X.zq ac W) body (tb W)) (hs:∀a,xx (X.Aa a) (b0::Jt) ts) (qy:(x==("__debug__":Str))=false:=by decide):
  PS X (.Try body [.ExceptHandler (some (.Name x xp)) none (b0::Jt) hp] [] [] pos) (UG X.K C tb ts):=by
 intro ac s Z H D I h
 refine wpAny_Try_except ?_
 refine bM (hb ac _ [] s Z H D (I.zq _) h) (λf s1 q=>?_) λe s1 q=>?_
 .have q':=q.pf
  cases f with
  |next=>exact ak q'
  |brk=>exact q'
  |cont=>exact q'
  |ret u=>exact q'
 .obtain⟨a,cls,ej,bX,H',rfl,I1,⟨B,A0,uy,NL,o1,o2⟩,w1,w2⟩:=q
  have YK:X.A.frames=some (X.env::X.outer):=by rw[<-Js];exact I.ok.frames
  rw[Js] at A0
  refine wL YK AY A0 λh1 G1 u1=>?_
  have I2:=I1.ub A0.st G1.st u1 uy NL o1 o2
  refine tT (s:={s1 with heap:=h1}) G1 λh2 G2 u2=>?_
  have I3:=I2.ub G1.st G2.st u2 uy NL o1 o2
  refine wpAny_handleBy_cons (codeAny_handlers_test ?_) (λz=>nomatch z)
  refine jy (X:=X.Aa a) (I3.Aa a) hg hm ?_ qy
  obtain⟨oe,vs,T,oT,ts',he,hc,r⟩:=G2.tr
  have lt:Looks (model X.prog X.w) h2 (typeOf (.ref a)) cls:=by
   rw[<-hc]
   exact(oi he).andThen .now
  refine(exm_one (M:=model X.prog X.w) (K:=X.K) (h:=h2) (I3.kY) lt w1).here ?_
  refine codeAny_handlers_suite ?_
  refine tT (s:={s1 with heap:=h2}) G2 λh3 G3 u3=>?_
  have I4:=I3.ub G2.st G3.st u3 uy NL o1 o2
  refine bM (hs a ac _ _ _ _ (I4.Aa a) w2) (λf s7 q=>?_) λ_ _ z=>False.elim z
  have un:∀{uD:St} {H7:Hp},Inv (X.Aa a) ac uD H7 s7->Inv X ac uD H7 s7:=λJ=>J.ND I.ok.hd I.ok.frames
  cases f with
  |next=>obtain⟨uD,H7,J,q⟩:=q;exact⟨_,_,un J,q⟩
  |brk=>obtain⟨uD,H7,J,q⟩:=q;exact⟨_,_,un J,q⟩
  |cont=>obtain⟨uD,H7,J,q⟩:=q;exact⟨_,_,un J,q⟩
  |ret u=>obtain⟨v,uD,H7,J,r,q⟩:=q;exact⟨v,_,_,un J,r,q⟩
end L2
local macro_rules
 | `(tactic| exists $h, $o, $H, $t, $s, $w, $M) => do
  let f (x : Lean.TSyntax `term) : Lean.TSyntax `ident := ⟨x.raw⟩
  `(tactic| (have $(f s):ident := L2.aP $h $o; have $(f w):ident : L2.upd $H $t $o $t = some $o := L2.aB; (try dsimp only); generalize L2.upd $H $t $o = $(f M):ident at *))
namespace K12
open PySem L2 HT
def lH (i j:Str):decide (V.str i=V.str j)=decide (i=j):=by
 by_cases e:i=j
 .rw[e];simp
 .rw[bD e,bD (λz=>e (by injection z))]
def A8 {ss:List Str}(h:i<ss.length):(ss.map V.str).getD i .eK=.str ss[i]:=by
 rw[bf,bY,aG h];rfl
def fW {α:Type}{l:List α}{i:Nat}(h:i<l.length):l.take (i+1)=l.take i++ [l[i]]:=by
 rw[qX,aG h];rfl
def bR (s:a_ H H1) (n:H p=none):a_ H (upd H1 p o):=λb u e=>by
 rw[aV (λz=>by rw[z,n] at e;cases e)];exact s _ _ e
def ite_yes {c:Prop} [Decidable c] {A B:Prop}(h:c) (a:A):if c then A else B:=by rw[aQ h];exact a
def ite_no {c:Prop} [Decidable c] {A B:Prop}(h:¬c) (a:B):if c then A else B:=by rw[aO h];exact a
def A9 {x:Str}:(l++ [x]).filter f=if f x=true then l.filter f++ [x] else l.filter f:=by
 rw[kO]
 by_cases h:f x=true
 .rw[aQ h,sR h];rfl
 .rw[aO h,sU h];simp
section
variable {P:aM}{w:bB}{K:Φ}{mg:Str->Option ag}{base:Heap}
def zt {H1:Hp}{L a:ai}{A:List Str}{x:Str}{Q:VK}(v:Option V) (hL:H1 L=none) (h:H1 a=some (.tup (A.map V.str))) (hl:A.length<=1000) (q:∀J,a_ H1 J->J L=some (.lst ((A.filter λn=>!decide (n=x)).map V.str))->Q (.ref L) J):
  qg (Ei K a) (dI 0) (gw (gJ K8 (b_ 0) (b_ 1))) (b_ 0) [v,some (.str x)] H1 Q L:=by
 refine lY (n:=A.length) (f:=λi=>(A.map V.str).getD i .eK) (λj ys bX J=>(∃v,bX=[v,some (.str x)])/\a_ H1 J/\ys=((A.take j).filter λn=>!decide (n=x)).map V.str) hL hl ⟨⟨_,rfl⟩,bR (a_.refl _) hL,rfl⟩ ?_ ?_ ?_
 .rintro j ys bX J hj hy ⟨_,sj,_⟩
  have:=kQ (K:=K) (bZ.of (sj _ _ h)) j (by rw[aq];exact hj)
  rw[aq] at this
  exact this
 .rintro j ys bX J hj hy ⟨⟨v,rfl⟩,sj,rfl⟩
  rw[A8 hj]
  refine⟨_,rfl,_,rfl,rfl,_,rfl,?_⟩
  rw[lH,fW hj,A9]
  by_cases e:A[j]=x
  .refine ite_no (by simp[e]) ?_
   refine⟨hy,⟨_,rfl⟩,sj,?_⟩
   rw[aO (by simp[e])]
  .refine ite_yes (by simp[e]) ?_
   refine⟨_,rfl,hy,⟨_,rfl⟩,bR sj hL,?_⟩
   rw[aQ (by simp[e]),bF]
   rfl
 .rintro ys bX J hy ⟨_,sj,rfl⟩
  rw[dj] at hy
  exact q J sj hy
abbrev YQ:Stmt:=top 19
def UH (K:Φ):Sp:=λvs H Q _=>∃(a b:ai) (t1 b1 t2 b2:Int),vs=[.ref a,.ref b]/\bZ K H a [.int t1,.int b1]/\bZ K H b [.int t2,.int b2]/\0<b1/\0<b2/\b1<2^60/\b2<2^60/\t1.natAbs<2^60/\t2.natAbs<2^60/\
 ∀p,H p=none->Q (.ref p) (upd H p (.tup [.int (ef (t1*b2-t2*b1) (b1*b2)),.int (dM (t1*b2-t2*b1) (b1*b2))]))
def YR:bW ["one","other"] ["one","other"] (aw YQ):={}
def kS {x y:Int}(hx:x.natAbs<2^a) (hy:y.natAbs<2^b):(x*y).natAbs<2^(a+b):=by
 rw[KY,Nat.pow_add]
 exact Nat.mul_lt_mul'' hx hy
def bqA {b:Int}(p:0<b) (l:b<2^60):-2^64<b/\b<2^64/\b.natAbs<2^60:=ω
def bqB {a b:Int}(m1:a.natAbs<2^120) (m2:b.natAbs<2^120):(a-b).natAbs<2^150:=bb (Int.natAbs_sub_le a b) (gy (Nat.add_lt_add m1 m2) δ)
def UI (F:ji K "fraction_less" "fraction_less" YQ f fd) (DF:Df P w K mg base 1 "fraction" ["top","bottom"] Ji):dW P w K mg base fT 2 f fd ["one","other"] (UH K):=by
 exists F.ok,YR
 .obtain⟨a,b,t1,b1,t2,b2,rfl,_⟩:=h
  rfl
 .obtain⟨a,b,t1,b1,t2,b2,rfl,h1,h2,p1,p2,l1,l2,m1,m2,q⟩:=h
  refine⟨_,aF (bH (cC DF hr (ae (bT mj (bT mq (bg bw (pv 0) ao) (bg bw (pv 1) ao)) (bT mq (bg bw (pv 1) ao) (bg bw (pv 0) ao)))
   (ae (bT mq (bg bw (pv 0) ao) (bg bw (pv 1) ao)) ah)))),?_⟩
  obtain⟨x1,x2,x3⟩:=bqA p2 l2
  obtain⟨y1,y2,y3⟩:=bqA p1 l1
  have c1:FA t1 b2:=.inr ⟨x1,x2⟩
  have c2:FA t2 b1:=.inr ⟨y1,y2⟩
  have c3:FA b1 b2:=.inr ⟨x1,x2⟩
  have z:(b1*b2).natAbs<2^120:=kS (a:=60) (b:=60) y3 x3
  have z1:(t1*b2).natAbs<2^120:=kS (a:=60) (b:=60) m1 x3
  have z2:(t2*b1).natAbs<2^120:=kS (a:=60) (b:=60) m2 y3
  refine⟨_,rfl,a,_,0,_,rfl,rfl,h1,aT (j:=0) rfl,_,rfl,b,_,1,_,rfl,rfl,h2,aT (j:=1) rfl,_,_,rfl,rfl,c1,_,rfl,b,_,0,_,rfl,rfl,h2,aT (j:=0) rfl,_,rfl,a,_,1,_,rfl,rfl,h1,aT (j:=1) rfl,_,_,rfl,rfl,c2,_,_,rfl,rfl,?_⟩
  refine⟨_,rfl,a,_,1,_,rfl,rfl,h1,aT (j:=1) rfl,_,rfl,b,_,1,_,rfl,rfl,h2,aT (j:=1) rfl,_,_,rfl,rfl,c3,?_⟩
  exact⟨_,_,rfl,qZ p1 p2,gy z δ,bqB z1 z2,q⟩
abbrev YS:Stmt:=top 27
def YT:List (Str×NameKind):=[(".0",.local),("name",.local),("leaves",.free)]
def YU:(["name","leaves"]:List Str).Nodup:=by decide+kernel
def UJ:Sp:=λvs H Q _=>∃(a:ai) (A:List Str) (m y:Str),vs=[.ref a,.str m,.str y]/\H a=some (.tup (A.map V.str))/\A.length<=12/\
 ∀(t:ai) (C:List Str) (H':Hp),a_ H H'->H' t=some (.tup (C.map V.str))->C.Perm (exc A m y)->PyProof.Rows.sortedS C=true->Q (.ref t) H'
def YV:bW ["crew","leaves","enters"] ["crew","leaves","enters"] (aw YS):={}
def UK (F:ji K "exchanged" "exchanged" YS f fd) (T:Txt mg):dW P w K mg base fT 1 f fd ["crew","leaves","enters"] UJ:=by
 exists F.ok,YV
 .obtain⟨a,A,m,y,rfl,_⟩:=h
  rfl
 .obtain⟨a,A,m,y,rfl,h1,l12,q⟩:=h
  refine⟨_,aF (bH (fK fB rfl T.tuple cw (ae (aR iK rfl T.sorted fP (ae (bT lD (kE (N:=["name","leaves"]) (g:=dI 0) (tc:=gw (gJ K8 (b_ 0) (b_ 1))) (te:=b_ 0) rfl (iq (pv 0))
   (fz.one (v:="name") (fr:="leaves") (j:=1) (nm:=YT) rfl rfl rfl rfl)
   (λ_ _ _=>aZ (i:=0) YU) (λ_ _ _=>ig (bo mT (pv 0) (pv 1) (bP _))) (λ_ _ _=>pv 0)) (cX (ae (pv 2) ah))) ah)) ah))),?_⟩
  have lf:(A.filter λn=>!decide (n=m)).length<=12:=aA (eF _ _) l12
  refine⟨_,rfl,a,rfl,⟨_,bZ.of h1⟩,λL hL=>?_⟩
  refine zt none hL h1 ω λJ sJ hJ=>?_
  refine⟨_,rfl,dP,λe he=>?_⟩
  exists he,.lst [.str y],J,e,s2,X0,J2
  refine⟨L,e,_,_,rfl,rfl,s2 _ _ hJ,X0,cR (dD (by rw[aq];simp only[aJ];omega)),λc hc=>?_⟩
  have em:(A.filter λn=>!decide (n=m)).map V.str++ [V.str y]=(exc A m y).map V.str:=by unfold exc;rw[bF];rfl
  rw[em]
  exists hc,.lst ((exc A m y).map V.str),J2,c,s3,YL,J3
  refine⟨c,exc A m y,rfl,cT.of YL,by unfold exc;rw[aK,aJ];omega,λl C hl pm so=>?_⟩
  exists hl,.lst (C.map V.str),J3,l,s4,RY,J4
  refine⟨l,_,rfl,.inl ⟨cT.of RY,λt ht=>?_⟩⟩
  exact q t C _ ((((sJ.trans s2).trans s3).trans s4).trans (aP ht _)) aB pm so
def P7 (a b:List Str):PyData:=.tuple [.tuple (ck a),.tuple (ck b)]
def P8 (t a b:Nat):t≠t+a+b+1/\a≠t+a+b+1/\b≠t+a+b+1:=ω
def A_ (h1:H t=some (.tup [.ref a,.ref b])) (h2:H a=some (.tup (A.map V.str))) (h3:H b=some (.tup (B.map V.str))):Tells H (t+a+b+1) (P7 A B) (.ref t):=
 eU.mpr ⟨t,_,rfl,(P8 t a b).1,h1,bU.mpr ⟨_,_,rfl,eU.mpr ⟨a,_,rfl,(P8 t a b).2.1,h2,j_ A⟩,bU.mpr ⟨_,_,rfl,eU.mpr ⟨b,_,rfl,(P8 t a b).2.2,h3,j_ B⟩,eE.mpr rfl⟩⟩⟩
def mW (hc:∀n∈c,okN n) (hl:c.length<=12):Bd 13 1 (.tuple (ck c)):=by
 refine(Bd.tuple (n:=1) (p:=0) (m:=12) (λx hx=>?_) (by unfold ck;rw[aq];exact hl)).mono δ δ
 obtain⟨n,hn,rfl⟩:=cS.mp hx
 exact mC (hc n hn).1 (hc n hn).2.1
def NO (ha:∀n∈a,okN n) (hb:∀n∈b,okN n) (la:a.length<=12) (lb:b.length<=12):Bd 30 2 (P7 a b):=by
 refine(Bd.tuple (n:=13) (p:=1) (m:=2) (ds:=[.tuple (ck a),.tuple (ck b)]) (λx hx=>?_) (ar 2)).mono δ δ
 simp only[aD,aN,cy] at hx
 rcases hx with rfl|rfl
 .exact mW ha la
 .exact mW hb lb
def kU:∀(a b:List Str),PyData.eqv (.tuple (ck a)) (.tuple (ck b))=decide (a=b)
 | [],[]=>by simp[ck,PyData.eqv,PyData.eqvAll]
 | [],_::_=>by simp[ck,PyData.eqv,PyData.eqvAll]
 |_::_,[]=>by simp[ck,PyData.eqv,PyData.eqvAll]
 |x::a,y::b=>by
  have ih:=kU a b
  simp only[ck,PyData.eqv,PyData.eqvAll,bK] at ih⊢
  rw[ih]
  by_cases h1:x=y
  .by_cases h2:a=b<;>simp[h1,h2]
  .simp[h1]
def P9:PyData.eqv (P7 a b) (P7 c d)=decide (a=c/\b=d):=by
 have h1:=kU a c
 have h2:=kU b d
 simp only[P7,PyData.eqv,PyData.eqvAll] at h1 h2⊢
 rw[h1,h2]
 by_cases e1:a=c<;>by_cases e2:b=d<;>simp[e1,e2]
abbrev YW:Stmt:=top 28
def UL (CN:ai):Sp:=λvs H Q E=>∃(r1 r2:ai) (p q:qt),vs=[.ref r1,.ref r2]/\jU H r1 p/\jU H r2 q/\ix p/\ix q/\gq p/\
 (((∀m y,¬Xp p q m y)/\∀H',a_ H H'->E (.ref CN) none H')\/∃m y,Xp p q m y/\∀t H',a_ H H'->H' t=some (.tup [.str m,.str y])->Q (.ref t) H')
def P_:bW ["one","other","mine","yours"] ["one","other"] (aw YW):={}
def UM (F:ji K "exchanged_pair" "exchanged_pair" YW f fd) (ON:tL K mg "NoTrial" CN) (DX:Df P w K mg base 1 "exchanged" ["crew","leaves","enters"] UJ):dW P w K mg base (q_ P w) 2 f fd ["one","other"] (UL CN):=by
 exists F.L7,P_
 .obtain⟨r1,r2,p,q,rfl,_⟩:=h
  rfl
 .obtain⟨r1,r2,p,q,rfl,h1,h2,o1,o2,cp,hq⟩:=h
  refine⟨_,au (PS.lg (mi eX rfl (iq (bg bw (pv 0) ao)) (aZ (i:=2) P_.nd)
    (aF (mi eX rfl (iq (bg bw (pv 0) ao)) (aZ (i:=3) P_.nd)
     (aF (cQ (bo (qH hr.units) (gY y4 (pv 1) jC (iJ ao)) (bQ (ae (cC DX hr (ae (bg bw (pv 0) ao) (ae (pv 2) (ae (pv 3) ah)))) (ae (cC DX hr (ae (bg bw (pv 0) ao) (ae (pv 3) (ae (pv 2) ah)))) ah))) (bP _))
      (aF (bH (bQ (ae (pv 2) (ae (pv 3) ah))))) bN))))))
   (aF (gZ (W:=λcls ej _ H'=>E cls ej H') jH rfl rfl ON rfl (ae aW ah))),?_⟩
  obtain⟨a,b,e1,e2,e3⟩:=h1
  obtain⟨c,d,g1,g2,g3⟩:=h2
  have la4:=o1.a.l4
  have lb4:=o1.b.l4
  refine iB rfl (bZ.of e1) (aT (j:=0) rfl) ⟨a,rfl,⟨_,bZ.of e2⟩,yW (K:=K) (a:=a) (xs:=p.a.map V.str) (λi bX H'=>∃v2 v3,bX=[some (.ref r1),some (.ref r2),v2,v3]/\a_ H H'/\∀m∈p.a.take i,∀y,¬Xp p q m y)
   ⟨none,none,rfl,a_.refl _,ς⟩ (λi bX H' _ ⟨_,_,_,sm,_⟩=>bZ.of (sm _ _ e2)) ?_ ?_⟩
  .rintro i x bX H1 hx ⟨v2,v3,rfl,sm,no⟩
   have hi:i<p.a.length:=by have:=(br.mp hx).1;rwa[aq] at this
   rw[bY,aG hi] at hx
   cases hx
   have mm:=cB hi
   have tk:=fW hi
   rw[tk]
   generalize p.a[i]=m at*
   refine iB rfl (bZ.of (sm _ _ e1)) (aT (j:=1) rfl) ⟨b,rfl,⟨_,bZ.of (sm _ _ e3)⟩,yW (K:=K) (a:=b) (xs:=p.b.map V.str) (λj bX H'=>∃v3,bX=[some (.ref r1),some (.ref r2),some (.str m),v3]/\a_ H H'/\∀y∈p.b.take j,¬Xp p q m y)
    ⟨_,rfl,sm,ς⟩ (λi bX H' _ ⟨_,_,sm,_⟩=>bZ.of (sm _ _ e3)) ?_ ?_⟩
   .rintro j x bX H2 hx ⟨w3,rfl,s2,R6⟩
    have hj:j<p.b.length:=by have:=(br.mp hx).1;rwa[aq] at this
    rw[bY,aG hj] at hx
    cases hx
    have my:=cB hj
    have YX:=fW hj
    generalize p.b[j]=y at*
    refine⟨_,rfl,_,rfl,r2,_,rfl,bZ.of (s2 _ _ g1),(show ¬(ip 5 0 none=0/\ip 5 5 (some 2)=5) by decide+kernel),λsl UN=>?_⟩
    have s3:=bR (o:=.tup [.ref c,.ref d]) (a_.refl H2) UN
    have Bz:upd H2 sl (.tup [.ref c,.ref d]) sl=some (.tup [.ref c,.ref d]):=aB
    show oU _ _ (upd H2 sl (.tup [.ref c,.ref d])) _
    generalize upd H2 sl (.tup [.ref c,.ref d])=H3 at*
    have lR:=s2.trans s3
    refine iB rfl (bZ.of (lR _ _ e1)) (aT (j:=0) rfl) ⟨_,rfl,_,rfl,a,p.a,m,y,rfl,lR _ _ e2,ω,λt1 C1 H4 s4 EM R7 Qa=>?_⟩
    have Hh:=lR.trans s4
    refine iB rfl (bZ.of (Hh _ _ e1)) (aT (j:=1) rfl) ⟨_,rfl,_,rfl,b,p.b,y,m,rfl,Hh _ _ e3,ω,λt2 C2 H5 s5 xH R8 YY=>?_⟩
    have xl:=Hh.trans s5
    refine⟨dP,λt ht=>?_⟩
    have s6:=bR (o:=.tup [.ref t1,.ref t2]) (a_.refl H5) ht
    have UO:upd H5 t (.tup [.ref t1,.ref t2]) t=some (.tup [.ref t1,.ref t2]):=aB
    generalize upd H5 t (.tup [.ref t1,.ref t2])=H6 at*
    have Ab:=xl.trans s6
    have Ud:y∉p.a:=λz=>cp.no _ z my
    have Ue:m∉p.b:=cp.no _ mm
    have x1:xG p.a m y C1:=uZ cp.a.nodup Ud R7 Qa
    have x2:xG p.b y m C2:=uZ cp.b.nodup Ue R8 YY
    have Hi:∀n∈C1,okN n:=λn hn=>by
     rcases kR.mp (R7.mem_iff.mp hn) with z|z
     .exact o1.a.ok n z.1
     .rw[z];exact o1.b.ok y my
    have Hj:∀n∈C2,okN n:=λn hn=>by
     rcases kR.mp (R8.mem_iff.mp hn) with z|z
     .exact o1.b.ok n z.1
     .rw[z];exact o1.a.ok m mm
    have l1:C1.length<=12:=by
     rw[R7.length_eq];unfold exc;rw[aK,aJ]
     have:=eF (λn=>!decide (n=m)) p.a
     omega
    have l2:C2.length<=12:=by
     rw[R8.length_eq];unfold exc;rw[aK,aJ]
     have:=eF (λn=>!decide (n=y)) p.b
     omega
    have bq:=NO o2.a.ok o2.b.ok (aA o2.a.l4 δ) (aA o2.b.l4 δ)
    have bc:=NO Hi Hj l1 l2
    refine⟨_,_,P7 q.a q.b,P7 C1 C2,A_ (((s4.trans s5).trans s6) _ _ Bz) (Ab _ _ g2) (Ab _ _ g3),A_ UO ((s5.trans s6) _ _ EM) (s6 _ _ xH),bq.lay δ,bc.lay δ,_,rfl,?_⟩
    rw[P9]
    refine eP (λz=>?_) (λz=>?_)
    .obtain⟨z1,z2⟩:=aX z
     have xp:Xp p q m y:=⟨mm,my,z1▸x1,z2▸x2⟩
     rcases hq with⟨UP,_⟩|⟨m',y',x',hQ⟩
     .exact absurd xp (UP _ _)
     .obtain⟨rfl,rfl⟩:=xp.uniq cp x'
      refine⟨_,rfl,_,rfl,dP,λu hu=>?_⟩
      exact hQ u _ (Ab.trans (bR (a_.refl _) hu)) aB
    .refine⟨_,rfl,Ab,?_⟩
     rw[YX]
     intro y' XA x'
     rcases dq.mp XA with h|h
     .exact R6 y' h x'
     .rw[bV.mp h] at x'
      exact z (aI ⟨x'.a.uniq x1,x'.b.uniq x2⟩)
   .rintro bX H2 ⟨w3,rfl,s2,R6⟩
    rw[aq,dj] at R6
    refine⟨_,_,rfl,s2,?_⟩
    intro m' TH y' x'
    rcases dq.mp TH with h|h
    .exact no m' h y' x'
    .rw[bV.mp h] at x'
     exact R6 y' x'.hy x'
  .rintro bX H1 ⟨v2,v3,rfl,sm,no⟩
   rw[aq,dj] at no
   rcases hq with⟨_,hE⟩|⟨m,y,x,_⟩
   .exact⟨dP,hE H1 sm⟩
   .exact absurd x (no m x.hm y)
end
end K12
namespace K12
open PySem L2 HT PySem.W
section
variable {P:aM}{w:bB}{K:Φ}{mg:Str->Option ag}{base:Heap}
def Wz (P:aM) (w:bB) (K:Φ) (mg:Str->Option ag) (base:Heap) (k:Nat) (x:Str) (ps:List Str) (sp:Sp):Prop:=
 ∃f fd,dW P w K mg base (q_ P w) k f fd ps sp/\Binds K fd ps []/\keepIn K (.ref f)=true/\mg x=some (.ref f)
def Ju (D:Wz X.prog X.w X.K X.mg X.base k x ps sp) (hr:eS k X.A) (hL:wN X W) (ha:PA X (e::es) t) (hg:Gl X x:=by rfl) (qy:(x==("__debug__":Str))=false:=by decide)
  (he:starEach (e::es) X.env=(false,eval e X.env)::starEach es X.env:=by rfl) (ky:(backTo pos (starEach es X.env)).any (·.1)=false:=by rfl):PE X (.Call (.Name x p) (e::es) [] pos) (Dg sp [] W t):=by
 obtain⟨f,fd,F,b,kp,m⟩:=D
 exact Jr F hr hg m kp b .nil hL ha qy he ky
def YZ (P:aM) (w:bB) (K:Φ) (mg:Str->Option ag) (base:Heap) (k:Nat) (x:Str) (ps:List Str) (sp:ai->Sp):Prop:=
 ∃f fd,AO P w K mg base k f fd ps sp/\Binds K fd ps []/\keepIn K (.ref f)=true/\mg x=some (.ref f)
def Qb (D:YZ X.prog X.w X.K X.mg X.base k x ps sp) (hr:qr k a X.A) (ha:PA X (e::es) t) (hg:Gl X x:=by rfl) (qy:(x==("__debug__":Str))=false:=by decide)
  (he:starEach (e::es) X.env=(false,eval e X.env)::starEach es X.env:=by rfl) (ky:(backTo pos (starEach es X.env)).any (·.1)=false:=by rfl):PE X (.Call (.Name x p) (e::es) [] pos) (lV (sp a) [] E0 t):=by
 obtain⟨f,fd,F,b,kp,m⟩:=D
 exact IJ F hr hg m kp b ha qy he ky
abbrev Y0:Stmt:=top 29
abbrev NP:=Str×Str×Int×Int
def zu (H:Hp) (q:ai) (r:NP):Prop:=∃l,H q=some (.tup [.str r.1,.str r.2.1,.ref l])/\H l=some (.tup [.int r.2.2.1,.int r.2.2.2])
def zu.same (h:zu H q r) (s:a_ H H'):zu H' q r:=by
 obtain⟨l,h1,h2⟩:=h
 exact⟨l,s _ _ h1,s _ _ h2⟩
def Qd (CN:ai):Sp:=λvs H Q E=>∃(r1 r2:ai) (p q:qt),vs=[.ref r1,.ref r2]/\jU H r1 p/\jU H r2 q/\ix p/\ix q/\gq p/\
 (((∀m y,¬Xp p q m y)/\∀H',a_ H H'->E (.ref CN) none H')\/∃m y,Xp p q m y/\∀t H',a_ H H'->zu H' t (pd p q m y)->Q (.ref t) H')
def Jv:bW ["one","other","mine","yours","top","bottom"] ["one","other"] (aw Y0):={}
def tW:bootBuiltins "max"=some (.builtin "max"):=by decide+kernel
def bqC {a b:Int}(a1:1<=a) (a2:a<=1000000000) (b1:1<=b) (b2:b<=1000000000):(a-b).natAbs<2^60:=ω
def bqD {c:Int}(a1:1<=c) (a2:c<=1000000000):c.natAbs<2^150:=ω
def bqE {f c:Int}(l:f.natAbs<=c.natAbs) (a1:1<=c) (a2:c<=1000000000):f<2^60:=ω
def UQ (F:ji K "trial_of" "trial_of" Y0 f fd) (T:Txt mg) (DX:Wz P w K mg base 2 "exchanged_pair" ["one","other"] (UL CN)) (DL:Df P w K mg base 2 "fraction_less" ["one","other"] (UH K)) (DM:Df P w K mg base 2 "margin" ["piece"] (Ub K)):dW P w K mg base (q_ P w) 3 f fd ["one","other"] (Qd CN):=by
 exists F.L7,Jv
 .obtain⟨r1,r2,p,q,rfl,_⟩:=h
  rfl
 .obtain⟨r1,r2,p,q,rfl,h1,h2,o1,o2,cp,hq⟩:=h
  refine⟨_,au (iQ (Ju DX hr (W:=λcls ej _ H'=>E cls ej H') P2 (ae (pv 0) (ae (pv 1) ah))) (gg rfl (bz (aZ (i:=2) Jv.nd) (bz (aZ (i:=3) Jv.nd) eZ))))
   (xx.lg (au (iQ (cC DL hr (ae (cC DM hr (ae (pv 0) ah)) (ae (cC DM hr (ae (pv 1) ah)) ah))) (gg rfl (bz (aZ (i:=4) Jv.nd) (bz (aZ (i:=5) Jv.nd) eZ))))
   (au (cQ (bo xS (pv 4) ao (bP _)) (aF (bH (bQ (ae (pv 2) (ae (pv 3) (ae (bQ (ae (pv 4) (ae (pv 5) ah))) ah)))))) bN)
   (au (cQ (bo rA (pv 4) ao (bP _)) (aF (bH (bQ (ae (pv 3) (ae (pv 2) (ae (bQ (ae (qj mw (pv 4)) (ae (pv 5) ah))) ah)))))) bN)
   (aF (bH (bQ (ae (aR (CF rfl) rfl T.min yz (ae (pv 2) (ae (pv 3) ah))) (ae (aR (CG rfl) rfl T.max tW (ae (pv 2) (ae (pv 3) ah))) (ae (bQ (ae ao (ae ao ah))) ah)))))))))),?_⟩
  refine⟨_,rfl,_,rfl,r1,r2,p,q,rfl,h1,h2,o1,o2,cp,?_⟩
  rcases hq with⟨no,hE⟩|⟨m,y,x,hQ⟩
  .exact .inl ⟨no,hE⟩
  refine .inr ⟨m,y,x,λt H1 s1 ht=>?_⟩
  refine Gf (bZ.of ht) ?_
  have h1':=h1
  have Pd:=h2
  obtain⟨a,b,e1,_,_⟩:=h1'
  obtain⟨c,d,g1,_,_⟩:=Pd
  have R9:=o1.c1
  have pc9:=o1.c9
  have R_:=o2.c1
  have qc9:=o2.c9
  have bdp:(p.o-p.t).natAbs<2^60:=bqC o1.o1 o1.o9 o1.t1 o1.t9
  have bdq:(q.o-q.t).natAbs<2^60:=bqC o2.o1 o2.o9 o2.t1 o2.t9
  refine⟨_,rfl,r1,_,_,_,_,_,rfl,bZ.of (s1 _ _ e1),R9,bqD R9 pc9,gy bdp δ,λm1 hm1=>?_⟩
  have s2:=bR (o:=.tup [.int (ef (p.o-p.t) p.c),.int (dM (p.o-p.t) p.c)]) (a_.refl H1) hm1
  have w2:upd H1 m1 (.tup [.int (ef (p.o-p.t) p.c),.int (dM (p.o-p.t) p.c)]) m1=some (.tup [.int (ef (p.o-p.t) p.c),.int (dM (p.o-p.t) p.c)]):=aB
  try dsimp only
  generalize upd H1 m1 (.tup [.int (ef (p.o-p.t) p.c),.int (dM (p.o-p.t) p.c)])=H2 at*
  refine⟨_,rfl,r2,_,_,_,_,_,rfl,bZ.of ((s1.trans s2) _ _ g1),R_,bqD R_ qc9,gy bdq δ,λm2 hm2=>?_⟩
  have s3:=bR (o:=.tup [.int (ef (q.o-q.t) q.c),.int (dM (q.o-q.t) q.c)]) (a_.refl H2) hm2
  have w3:upd H2 m2 (.tup [.int (ef (q.o-q.t) q.c),.int (dM (q.o-q.t) q.c)]) m2=some (.tup [.int (ef (q.o-q.t) q.c),.int (dM (q.o-q.t) q.c)]):=aB
  try dsimp only
  generalize upd H2 m2 (.tup [.int (ef (q.o-q.t) q.c),.int (dM (q.o-q.t) q.c)])=H3 at*
  have bp:=mV (t:=p.o-p.t) (b:=p.c) R9
  have bq:=mV (t:=q.o-q.t) (b:=q.c) R_
  have lp:=wk (t:=p.o-p.t) (b:=p.c)
  have lq:=wk (t:=q.o-q.t) (b:=q.c)
  have tp:=wj (t:=p.o-p.t) (b:=p.c)
  have tq:=wj (t:=q.o-q.t) (b:=q.c)
  refine⟨m1,m2,_,_,_,_,rfl,bZ.of (s3 _ _ w2),bZ.of w3,bp,bq,bqE lp R9 pc9,bqE lq R_ qc9,bb tp bdp,bb tq bdq,λz hz=>?_⟩
  obtain⟨fd1,UR⟩:=PM (p:=p) (q:=q) R9 R_
  rw[fd1,UR]
  have cc:0<p.c*q.c:=qZ R9 R_
  obtain⟨sg1,sg2⟩:=LW (t:=qu p q) cc
  have s4:=bR (o:=.tup [.int (ef (qu p q) (p.c*q.c)),.int (dM (qu p q) (p.c*q.c))]) (a_.refl H3) hz
  have w4:upd H3 z (.tup [.int (ef (qu p q) (p.c*q.c)),.int (dM (qu p q) (p.c*q.c))]) z=some (.tup [.int (ef (qu p q) (p.c*q.c)),.int (dM (qu p q) (p.c*q.c))]):=aB
  try dsimp only
  generalize upd H3 z (.tup [.int (ef (qu p q) (p.c*q.c)),.int (dM (qu p q) (p.c*q.c))])=H4 at*
  have Jw:=((s1.trans s2).trans s3).trans s4
  refine Gf (bZ.of w4) ?_
  have my:m≠y:=λz=>cp.no _ x.hm (z▸x.hy)
  refine⟨_,rfl,_,_,rfl,rfl,_,rfl,?_⟩
  refine eP (λu=>?_) (λu=>?_)
  .have dp:=sg1.mp (aX u)
   have et:pd p q m y=(m,y,ef (qu p q) (p.c*q.c),dM (qu p q) (p.c*q.c)):=by unfold pd;simp only[aQ dp]
   refine⟨_,rfl,_,rfl,_,rfl,_,rfl,dP,λl hl=>⟨dP,λr hr=>?_⟩⟩
   have n:l≠r:=λz=>by rw[<-z,aB] at hr;cases hr
   refine hQ r _ ((Jw.trans (bR (a_.refl _) hl)).trans (bR (a_.refl _) hr)) ?_
   rw[et]
   exact⟨l,aB,by rw[aV n];exact aB⟩
  have nd:¬0<qu p q:=λz=>u (aI (sg1.mpr z))
  refine⟨_,rfl,_,_,rfl,rfl,_,rfl,?_⟩
  refine eP (λu2=>?_) (λu2=>?_)
  .have dn:=sg2.mp (aX u2)
   obtain⟨ng1,ng2⟩:=PN (t:=qu p q) cc
   have et:pd p q m y=(y,m,-ef (qu p q) (p.c*q.c),dM (qu p q) (p.c*q.c)):=by unfold pd;simp only[aO nd,aQ dn,ng1,ng2]
   refine⟨_,rfl,_,rfl,_,rfl,_,rfl,_,rfl,dP,λl hl=>⟨dP,λr hr=>?_⟩⟩
   have n:l≠r:=λz=>by rw[<-z,aB] at hr;cases hr
   refine hQ r _ ((Jw.trans (bR (a_.refl _) hl)).trans (bR (a_.refl _) hr)) ?_
   rw[et]
   exact⟨l,aB,by rw[aV n];exact aB⟩
  .have nn:¬qu p q<0:=λz=>u2 (aI (sg2.mpr z))
   have et:pd p q m y=(if dZ y m=true then y else m,if dZ m y=true then y else m,0,1):=by
    unfold pd
    simp only[aO nd,aO nn]
    rcases uV my with z|z
    .rw[aO (by rw[o_ z];decide),aO (by rw[o_ z];decide),aQ z]
    .rw[aQ z,aQ z,aO (by rw[o_ z];decide)]
   refine⟨_,rfl,_,rfl,m,y,rfl,_,rfl,_,rfl,m,y,rfl,dP,λl hl=>⟨dP,λr hr=>?_⟩⟩
   have n:l≠r:=λz=>by rw[<-z,aB] at hr;cases hr
   refine hQ r _ ((Jw.trans (bR (a_.refl _) hl)).trans (bR (a_.refl _) hr)) ?_
   rw[et]
   exact⟨l,aB,by rw[aV n];exact aB⟩
end
def xK (p:qt):PyData:=.tuple [.tuple (ck p.a),.tuple (ck p.b),.int p.t,.int p.o,.int p.c]
def Jx (o:ix p):rL (xK p):=by
 have i1:=o.t1;have i2:=o.t9;have i3:=o.o1;have i4:=o.o9;have i5:=o.c1;have i6:=o.c9
 refine(Bd.tuple (n:=13) (p:=1) (m:=5) (ds:=[.tuple (ck p.a),.tuple (ck p.b),.int p.t,.int p.o,.int p.c]) (λx hx=>?_) (ar 5)).mono δ δ
 simp only[aD,aN,cy] at hx
 rcases hx with rfl|rfl|rfl|rfl|rfl
 .exact mW o.a.ok (aA o.a.l4 δ)
 .exact mW o.b.ok (aA o.b.l4 δ)
 .exact(iS ω).mono δ δ
 .exact(iS ω).mono δ δ
 .exact(iS ω).mono δ δ
def pC (a:List Str):(ck a).map strOf=a:=by
 unfold ck
 rw[oM]
 exact List.map_id' a
def Ba:∀{a:List Str},Up a->(nX a).all id=true
 | [],_=>rfl
 | [x],_=>rfl
 |x::y::l,h=>by
  have e:nX (x::y::l)=Yi x y::nX (y::l):=rfl
  have h':=Ai.mp h
  rw[e,zW,Ba h'.2,zX]
  exact h'.1 y cj
def ES (o:C8 a) (u:Up a):ke (.tuple (ck a))=true:=by
 show((decide (1<=((ck a).length:Int))&&decide (((ck a).length:Int)<=4))&&(((ck a).map fA).all id&&(nX ((ck a).map strOf)).all id))=true
 have l:(ck a).length=a.length:=by unfold ck;exact aq _
 have h1:=o.l1
 have h4:=o.l4
 rw[pC,Ba u,l,aI ω,aI ω,zX,cm,zX,mM]
 intro b hb
 obtain⟨d,hd,rfl⟩:=cS.mp hb
 obtain⟨n,hn,rfl⟩:=cS.mp hd
 exact(o.ok n hn).2.2
def wU (op:ix p) (cp:gq p):gG (xK p)=true:=by
 show((ke (.tuple (ck p.a))&&(ke (.tuple (ck p.b))&&decide ((jj (.tuple (ck p.a))).length=(jj (.tuple (ck p.b))).length)))&&(!((jj (.tuple (ck p.a))).map λn=>decide (n∈jj (.tuple (ck p.b)))).any id&&(jP (.int p.t)&&(jP (.int p.o)&&jP (.int p.c)))))=true
 have ea:jj (.tuple (ck p.a))=p.a:=pC p.a
 have eb:jj (.tuple (ck p.b))=p.b:=pC p.b
 have m:∀{i:Int},1<=i->i<=1000000000->jP (.int i)=true:=λ{i} h1 h2=>by
  show(decide (1<=i)&&decide (i<=1000000000))=true
  rw[aI h1,aI h2];rfl
 have na:(p.a.map λn=>decide (n∈p.b)).any id=false:=by
  rw[BG]
  intro b hb
  obtain⟨n,hn,rfl⟩:=cS.mp hb
  rw[bD (cp.no n hn)]
  decide
 rw[ea,eb,ES op.a cp.a,ES op.b cp.b,aI cp.le,na,m op.t1 op.t9,m op.o1 op.o9,m op.c1 op.c9]
 rfl
end K12
namespace L2
open PySem PySem.Spec PyProof.Rows PySem.W
section
variable {X:Cx}{W:ag->St->Hp->Prop}{k:Nat}{C:ai}{m:Str}{ps:List Str}{sp:Sp}{o e:Expr}{es:List Expr}{ta:TE}{t:TA}{apos pos:Pos}
end
end L2
namespace L2
open PySem PySem.Spec PySem.W PyProof.Rows HT
section
variable {prog:aM}{w:bB}{A:bG}{E:ag->aj->Prop}{s:aj}
def Bb (hl:s.heap.IsTuple l vs.toArray) (O:o6 lt) (He:vs.length<64)
  (ask:2<=vs.length->∀h',EC s.heap h'->LI prog w A.in1.in1 vs lt {s with heap:=h'})
  (fin:∀p:Array Nat,sv vs.length p->BA lt p vs.length->Q (.ref (s.heap.objs.size+1)) {s with heap:=sortedAll s.heap vs (inOrder vs p)}):
  wpAny (model prog w) A (call (.builtin "sorted") [.ref l]) Q E s:=by
 refine ur kind_sorted plain_sorted entry_sorted (args_sorted1 _) ?_
 unfold Builtin.«sorted»
 refine aa (m:=checkCount "sorted" 1 1 _) (ak (aa (Ip hl (aa (G8 ?_)) (by rw[gX];omega))))
 have z:((s.heap.push (seqObj "list" #[] 0)).update s.heap.objs.size (Obj.mapSeq (· ++vs.toArray))).objs.size=s.heap.objs.size+1:=by rw[kN,size_push']
 have qm:(((s.heap.push (seqObj "list" #[] 0)).update s.heap.objs.size (Obj.mapSeq (· ++vs.toArray))).push (seqObj "list" vs.toArray 0)).get? (s.heap.objs.size+1)=some (seqObj "list" vs.toArray 0):=z▸az _ rfl
 have old:∀b o,s.heap.get? b=some o->b<s.heap.objs.size/\(((s.heap.push (seqObj "list" #[] 0)).update s.heap.objs.size (Obj.mapSeq (· ++vs.toArray))).push (seqObj "list" vs.toArray 0)).get? b=some o:=λb o e=>by
  have lo:b<s.heap.objs.size:=aC e
  refine⟨lo,af _ ?_⟩
  rw[kX _ _ _ _ (ba lo)]
  exact af _ e
 show wpAny _ _ _ _ _ {s with heap:=((s.heap.push (seqObj "list" #[] 0)).update s.heap.objs.size (Obj.mapSeq (· ++vs.toArray))).push (seqObj "list" vs.toArray 0)}
 rw[z]
 refine aa (cO (dQ slot_list_sort ⟨_,qm,rfl⟩ entry_list_sort ?_ (args_list_sort _)))
 refine qp qm O He (λh2 h' k=>?_) λp pm so=>⟨_,rfl,ak ⟨_,rfl,fin p pm so⟩⟩
 exact ask h2 h' λb o e=>k b o (ba (gk (old b o e).1)) (old b o e).2
end
section
variable {X:Cx}{κ:Type}
def uH [DecidableEq κ] {lt:κ->κ->Bool}(S:IE lt) (dk:κ):gN X (.builtin "sorted") (λxs H Q=>∃(p:ai) (L:List (mE κ)) (R:mE κ->mE κ->Bool),xs=[.ref p]/\bZ X.K H p (L.map λe=>V.ref e.a)/\L.length<64/\(∀e∈L,bZ X.K H e.a (.str e.x::e.rest))/\
  (∀(ac:List (ai×Obj)) (Z:St) (s:aj),Inv X ac Z H s->∀e∈L,∀e'∈L,∀us nW:List ag,cz e.rest us->cz e'.rest nW->∀h',EC s.heap h'->Lex X.A.in1.in1 {s with heap:=h'} us nW (R e e'))/\
  (∀e∈L,∀e'∈L,lt e.key e'.key=if e.x=e'.x then R e e' else dZ e.x e'.x)/\
  ∀(l:ai) (L':List (mE κ)),H l=none->L'.Perm L->(L'.Pairwise λe e'=>lt e'.key e.key=false)->Q (.ref l) (upd H l (.lst (L'.map λe=>V.ref e.a)))):=by
 intro ac s Z H xs us Q I r h
 obtain⟨p,L,R,rfl,hq,He,hT,hR,hK,q⟩:=h
 obtain⟨u,rfl,rx⟩:=Ae r
 cases(show u=Value.ref p from rx)
 obtain⟨cF,rv,pl,hz⟩:=I.tuple hq
 cases tM rv
 have d:mE κ:=⟨0,"",[],dk⟩
 have gt:∀i,i<L.length->L.getD i d∈L:=λi hi=>by
  rw[bf,aG hi];exact cB hi
 have lz:(L.map λe=>Value.ref e.a).length=L.length:=aq _
 have ex:∀i,∃us:List ag,i<L.length->∃t,cz (L.getD i d).rest us/\IsTup s.heap (L.getD i d).a (Value.str (L.getD i d).x t::us).toArray:=λi=>by
  by_cases hi:i<L.length
  .obtain⟨cF,r,tp,_⟩:=I.tuple (hT _ (gt i hi))
   cases r with
   |cons r1 r2=>
    obtain⟨t,rfl⟩:=r1
    exact⟨_,λ_=>⟨t,r2,tp⟩⟩
  .exact⟨[],λh=>absurd h hi⟩
 obtain⟨rs,Py⟩:=Classical.skolem.mp ex
 refine Bb (show s.heap.IsTuple p (L.map λe=>Value.ref e.a).toArray from pl) (S.ok λi=>(L.getD i d).key) ω (λh2 h' g=>?_) λpp pm so=>?_
 .refine yn (s:={s with heap:=h'}) (hd:=λi=>(L.getD i d).x) (rs:=rs) (r:=λi j=>R (L.getD i d) (L.getD j d)) h2 (λi hi=>?_) (λi j hi hj=>?_) (λi j hi hj=>?_)
  .rw[lz] at hi
   obtain⟨t,_,tp⟩:=Py i hi
   refine⟨(L.getD i d).a,t,?_,tp.keeps g⟩
   rw[bY,bf,aG hi];rfl
  .rw[lz] at hi hj
   obtain⟨_,v1,_⟩:=Py i hi
   obtain⟨_,v2,_⟩:=Py j hj
   exact hR ac Z s I _ (gt i hi) _ (gt j hj) _ _ v1 v2 h' g
  .rw[lz] at hi hj
   exact hK _ (gt i hi) _ (gt j hj)
 .rw[lz] at pm so
  have e1:inOrder (L.map λe=>Value.ref e.a) pp=((pp.toList.map λi=>L.getD i d).map λe=>Value.ref e.a).toArray:=by
   unfold inOrder
   congr 1
   rw[oM]
   refine j9 λi hi=>?_
   have BB:i<L.length:=qc.mp (pm.mem_iff.mp hi)
   show(L.map λe=>Value.ref e.a).getD i Value.none=Value.ref (L.getD i d).a
   rw[bf,bY,bf,aG BB];rfl
  rw[e1]
  have p1:=yo L d pm
  have p2:=ug (lt:=λe e'=>lt e.key e'.key) pm so
  generalize pp.toList.map (λi=>L.getD i d)=L' at p1 p2
  obtain⟨e,he⟩:=sortedAll_at s.heap (L.map λe=>Value.ref e.a) (L'.map λe=>Value.ref e.a).toArray
  have fresh:H (s.heap.objs.size+1)=none:=I.eN.fresh (dN _)
  have oE:=p1.length_eq
  refine⟨.ref (s.heap.objs.size+1),upd H (s.heap.objs.size+1) (.lst (L'.map λe=>V.ref e.a)),I.laid (t':=s.toks) (λb o eb=>sortedAll_old eb) (dN _) ⟨?_,L'.map λe=>Value.ref e.a,e,tN L',?_⟩,rfl,q _ L' fresh p1 p2⟩
  .rw[aq];exact cR (dD ω)
  .rw[he]
def US (H:Hp) (e:mE (Str×Str×Int)):Prop:=e.x=e.key.1/\e.rest=[.str e.key.2.1,.int e.key.2.2]/\H e.a=some (.tup [.str e.key.1,.str e.key.2.1,.int e.key.2.2])
def wV:gN X (.builtin "sorted") (λxs H Q=>∃(p:ai) (L:List (mE (Str×Str×Int))),xs=[.ref p]/\bZ X.K H p (L.map λe=>V.ref e.a)/\L.length<64/\(∀e∈L,US H e)/\
  ∀(l:ai) (L':List (mE (Str×Str×Int))),H l=none->L'.Perm L->(L'.Pairwise λe e'=>nM e'.key e.key=false)->Q (.ref l) (upd H l (.lst (L'.map λe=>V.ref e.a)))):=by
 intro ac s Z H xs us Q I r h
 obtain⟨p,L,rfl,hq,He,hT,q⟩:=h
 refine uH uf ("","",0) ac s Z H [.ref p] us Q I r ⟨p,L,λe e'=>xE dZ ltI e.key.2 e'.key.2,rfl,hq,He,λe he=>?_,λac Z s I e he e' Qe us nW r1 r2 h' g=>?_,λe he e' Qe=>?_,q⟩
 .obtain⟨e1,e2,e3⟩:=hT e he
  rw[e1,e2];exact bZ.of e3
 .obtain⟨_,e2,_⟩:=hT e he
  obtain⟨_,g2,_⟩:=hT e' Qe
  rw[e2] at r1
  rw[g2] at r2
  cases r1 with
  |cons a1 a2=>
   cases a2 with
   |cons b1 b2=>
    cases b2
    cases r2 with
    |cons c1 c2=>
     cases c2 with
     |cons d1 d2=>
      cases d2
      obtain⟨t,rfl⟩:=a1
      obtain⟨t',rfl⟩:=c1
      obtain⟨u,rfl⟩:=b1
      obtain⟨u',rfl⟩:=d1
      have:=EF (A:=X.A.in1.in1) (s:={s with heap:=h'}) e.key.2.1 t e'.key.2.1 t' (EE e.key.2.2 u e'.key.2.2 u' .nn)
      have e5:(if e.key.2.2=e'.key.2.2 then false else ltI e.key.2.2 e'.key.2.2)=ltI e.key.2.2 e'.key.2.2:=by
       split
       .rename_i z;rw[z,Pw.RX]
       .rfl
      rw[e5] at this
      exact this
 .obtain⟨e1,_⟩:=hT e he
  obtain⟨g1,_⟩:=hT e' Qe
  rw[e1,g1];rfl
def pD:gN X (.builtin "sorted") (λxs H Q=>∃(p:ai) (L:List (mE (Str×Str×Int))),xs=[.ref p]/\cT X.K H p (L.map λe=>V.ref e.a)/\L.length<64/\(∀e∈L,US H e)/\
  ∀(l:ai) (L':List (mE (Str×Str×Int))),H l=none->L'.Perm L->(L'.Pairwise λe e'=>nM e'.key e.key=false)->Q (.ref l) (upd H l (.lst (L'.map λe=>V.ref e.a)))):=by
 intro ac s Z H xs us Q I r h
 obtain⟨p,L,rfl,hq,He,hT,q⟩:=h
 refine vU uf ("","",0) ac s Z H [.ref p] us Q I r ⟨p,L,λe e'=>xE dZ ltI e.key.2 e'.key.2,rfl,hq,He,λe he=>?_,λac Z s I e he e' Qe us nW r1 r2 h' g=>?_,λe he e' Qe=>?_,q⟩
 .obtain⟨e1,e2,e3⟩:=hT e he
  rw[e1,e2];exact bZ.of e3
 .obtain⟨_,e2,_⟩:=hT e he
  obtain⟨_,g2,_⟩:=hT e' Qe
  rw[e2] at r1
  rw[g2] at r2
  cases r1 with
  |cons a1 a2=>
   cases a2 with
   |cons b1 b2=>
    cases b2
    cases r2 with
    |cons c1 c2=>
     cases c2 with
     |cons d1 d2=>
      cases d2
      obtain⟨t,rfl⟩:=a1
      obtain⟨t',rfl⟩:=c1
      obtain⟨u,rfl⟩:=b1
      obtain⟨u',rfl⟩:=d1
      have:=EF (A:=X.A.in1.in1) (s:={s with heap:=h'}) e.key.2.1 t e'.key.2.1 t' (EE e.key.2.2 u e'.key.2.2 u' .nn)
      have e5:(if e.key.2.2=e'.key.2.2 then false else ltI e.key.2.2 e'.key.2.2)=ltI e.key.2.2 e'.key.2.2:=by
       split
       .rename_i z;rw[z,Pw.RX]
       .rfl
      rw[e5] at this
      exact this
 .obtain⟨e1,_⟩:=hT e he
  obtain⟨g1,_⟩:=hT e' Qe
  rw[e1,g1];rfl
end
end L2
namespace K12
open PySem L2 HT PySem.W
section
variable {P:aM}{w:bB}{K:Φ}{mg:Str->Option ag}{base:Heap}
abbrev Y1:Stmt:=top 37
def UT (H:Hp) (v:V):Option NP->Prop
 |none=>v=.eK
 |some r=>∃t,v=.ref t/\zu H t r
def UU:Sp:=λvs H Q _=>∃(r1 r2:ai) (p q:qt),vs=[.ref r1,.ref r2]/\jU H r1 p/\jU H r2 q/\ix p/\ix q/\gq p/\∀v r H',a_ H H'->Told p q r->UT H' v r->Q v H'
def Y2:bW ["one","other"] ["one","other"] (aw Y1):={}
def UW (F:ji K "trial_or_none" "trial_or_none" Y1 f fd) (mn:mg "NoTrial"=some (.ref CN)) (xm:exmOne K (.ref CN) (.ref CN)=some true) (DT:Wz P w K mg base 3 "trial_of" ["one","other"] (Qd CN)):dW P w K mg base fT 4 f fd ["one","other"] UU:=by
 exists F.ok,Y2
 .obtain⟨r1,r2,p,q,rfl,_⟩:=h
  rfl
 .obtain⟨r1,r2,p,q,rfl,h1,h2,o1,o2,cp,hq⟩:=h
  refine⟨_,aF (Mg (C:=CN) (tb:=λW=>K4 (Dg (Qd CN) [] W (cA (b_ 0) (cA (b_ 1) fE)))) (ts:=K4 (tC .eK)) rfl rfl rfl mn
    (λac W=>aF (bH (Ju DT hr ph (ae (pv 0) (ae (pv 1) ah)))))
    (λa=>aF (bH jg))),?_⟩
  refine⟨_,rfl,_,rfl,r1,r2,p,q,rfl,h1,h2,o1,o2,cp,?_⟩
  by_cases hx:∃m y,Xp p q m y
  .obtain⟨m,y,x⟩:=hx
   exact .inr ⟨m,y,x,λqq H2 s2 TA=>hq _ (some _) H2 s2 (.inl ⟨m,y,x,rfl⟩) ⟨qq,rfl,TA⟩⟩
  .exact .inl ⟨λm y x=>hx ⟨m,y,x⟩,λH1 s0=>⟨xm,hq .eK none H1 s0 (.inr ⟨λm y x=>hx ⟨m,y,x⟩,rfl⟩) rfl⟩⟩
def gH (i:Nat):Stmt:=match top 39 with
 | .ClassDef _ _ _ b _ _ _ _ _ _ _=>b.getD i (.Pass ⟨0,0,0,0⟩)
 |_=>.Pass ⟨0,0,0,0⟩
def zv (P:aM) (w:bB) (K:Φ) (mg:Str->Option ag) (base:Heap) (k:Nat) (C:ai) (m:Str) (ps:List Str) (sp:Sp):Prop:=
 By K C/\∃f fd,dW P w K mg base fT k f fd ps sp/\Binds K fd ps []/\yY K C m f
def Bc {X:Cx}{k:Nat}{C:ai}{m:Str}{ps:List Str}{sp:Sp}{o e:Expr}{es:List Expr}{ta:TE}{t:TA}{apos pos:Pos}{pl:Sem Bool}(D:zv X.prog X.w X.K X.mg X.base k C m ps sp) (hr:eS k X.A) (he:PE X o ta) (ha:PA X (e::es) t)
  (Fw:starEach (e::es) X.env=(false,eval e X.env)::starEach es X.env:=by rfl) (ky:(backTo pos (starEach es X.env)).any (·.1)=false:=by rfl)
  (ht:eval (.Call (.Attribute o m apos) (e::es) [] pos) X.env=(do
   let ov<-eval o X.env
   standAt apos.atName
   let(f,first)<-holding [ov] (getMethod ov m pl)
   callWith pos f first (backTo pos (starEach (e::es) X.env)) (backToKw pos (keywordEach [] X.env))):=by rfl):
  PE X (.Call (.Attribute o m apos) (e::es) [] pos) (Ep C m sp [] E0 ta t):=by
 obtain⟨c,f,fd,F,b,hm⟩:=D
 exact La (pl:=pl) he c hm F hr b .nil Aw ha Fw ky ht
def pE {X:Cx}{k:Nat}{C:ai}{m:Str}{ps:List Str}{sp:Sp}{o:Expr}{ta:TE}{apos pos:Pos}{pl:Sem Bool}(D:zv X.prog X.w X.K X.mg X.base k C m ps sp) (hr:eS k X.A) (he:PE X o ta)
  (ht:eval (.Call (.Attribute o m apos) [] [] pos) X.env=(do
   let ov<-eval o X.env
   standAt apos.atName
   let(f,first)<-holding [ov] (getMethod ov m pl)
   callWith pos f first (backTo pos (starEach [] X.env)) (backToKw pos (keywordEach [] X.env))):=by rfl):
  PE X (.Call (.Attribute o m apos) [] [] pos) (Ep C m sp [] E0 ta fE):=by
 obtain⟨c,f,fd,F,b,hm⟩:=D
 exact HH (pl:=pl) he c hm F hr b .nil Aw ht
structure Hk (K:Φ) (C:ai):Prop where
 c:By K C
 ns:jA K C "states"
 nl:jA K C "left"
abbrev Rows:=List (Nat×qt)
abbrev oG:=Str×Str×Int
def jV (H:Hp) (v:V) (x:Nat×qt):Prop:=∃u r,v=.ref u/\H u=some (.tup [.int x.1,.ref r])/\jU H r x.2
def jV.up (h:jV H v x) (s:∀b xs,H b=some (.tup xs)->H' b=some (.tup xs)):jV H' v x:=by
 obtain⟨u,r,h1,h2,h3⟩:=h
 exact⟨u,r,h1,s _ _ h2,h3.up s⟩
def f_ (H:Hp) (v:V) (r:oG):Prop:=∃a,v=.ref a/\H a=some (.tup [.str r.1,.str r.2.1,.int r.2.2])
def f_.up (h:f_ H v r) (s:∀b xs,H b=some (.tup xs)->H' b=some (.tup xs)):f_ H' v r:=by
 obtain⟨a,h1,h2⟩:=h
 exact⟨a,h1,s _ _ h2⟩
def av {α β:Type}{R S:α->β->Prop}:∀{as:List α}{bs:List β},Paired R as bs->(∀a b,R a b->S a b)->Paired S as bs
 |_,_,.nil,_=>.nil
 |_,_,.cons h t,f=>.cons (f _ _ h) (av t f)
structure Cs where
 bx:List oG
 rows:Rows
 n:Nat
def UX (H:Hp) (v:V) (S:Cs):Prop:=∃(st cr sd:ai) (ws us:List V),v=.ref st/\H st=some (.tup [.ref cr,.ref sd,.int S.n])/\H cr=some (.tup ws)/\Paired (f_ H) ws S.bx/\H sd=some (.tup us)/\Paired (jV H) us S.rows
def UX.up (h:UX H v S) (s:∀b xs,H b=some (.tup xs)->H' b=some (.tup xs)):UX H' v S:=by
 obtain⟨st,cr,sd,ws,us,h1,h2,h3,h4,h5,h6⟩:=h
 exact⟨st,cr,sd,ws,us,h1,s _ _ h2,s _ _ h3,av h4 λ_ _ z=>z.up s,s _ _ h5,av h6 λ_ _ z=>z.up s⟩
def e_ (C:ai) (H:Hp) (cb sl ll:ai) (sts cG:List Cs):Prop:=∃(dx:ai) (vs ws:List V),H cb=some (.ins C dx [("states",.ref sl),("left",.ref ll)])/\sl≠cb/\ll≠cb/\ll≠sl/\
 H sl=some (.lst vs)/\H ll=some (.lst ws)/\Paired (UX H) vs sts/\Paired (UX H) ws cG
def e_.same {cb sl ll:ai}(h:e_ C H cb sl ll sts cG) (s:a_ H H'):e_ C H' cb sl ll sts cG:=by
 obtain⟨dx,vs,ws,c1,c2,c3,c4,c5,c6,c7,c8⟩:=h
 exact⟨dx,vs,ws,s _ _ c1,c2,c3,c4,s _ _ c5,s _ _ c6,av c7 λ_ _ z=>z.up λ_ _ e=>s _ _ e,av c8 λ_ _ z=>z.up λ_ _ e=>s _ _ e⟩
def cK (s:a_ H H') (h:H' a=none):H a=none:=by
 cases e:H a with
 |none=>rfl
 |some o=>rw[s _ _ e] at h;cases h
abbrev Jy:Stmt:=gH 0
abbrev Qf:Stmt:=gH 1
abbrev Dm:Stmt:=gH 3
abbrev Jz:Stmt:=gH 4
abbrev Y3:Stmt:=gH 5
abbrev Dn:Stmt:=gH 6
abbrev JA:Stmt:=gH 7
abbrev Qg:Stmt:=gH 8
abbrev JB:Stmt:=gH 9
abbrev Dp:Stmt:=gH 10
abbrev JC:Stmt:=gH 11
abbrev Qh:Stmt:=gH 12
abbrev Qi:Stmt:=gH 13
def Qj:bW ["self"] ["self"] (aw Jy):={}
def Dq (C:ai):Sp:=λvs H Q _=>∃cb dx,vs=[.ref cb]/\H cb=some (.ins C dx [])/\∀sl ll H',(∀b o,b≠cb->H b=some o->H' b=some o)->H sl=none->H ll=none->e_ C H' cb sl ll [⟨[],[],0⟩] []->Q .eK H'
def Mh (F:ji K "__init__" "Club.__init__" Jy f fd) (CC:Hk K C):dW P w K mg base fT 1 f fd ["self"] (Dq C):=by
 exists F.ok,Qj
 .obtain⟨cb,dx,rfl,_⟩:=h
  rfl
 .obtain⟨cb,dx,rfl,hc,hQ⟩:=h
  refine⟨_,au (B9 (pv 0) (cX (ae (bQ (ae (bQ ah) (ae (bQ ah) (ae ao ah)))) ah)) rfl) (aF (B9 (pv 0) (cX ah) rfl)),?_⟩
  refine⟨dP,λt1 h1=>?_⟩
  exists h1,.tup [],H,t1,s1,w1,M1
  refine⟨dP,λt2 h2=>?_⟩
  exists h2,.tup [],M1,t2,s2,w2,M2
  refine⟨dP,λt3 h3=>?_⟩
  exists h3,.tup [.ref t1,.ref t2,.int 0],M2,t3,s3,w3,M3
  refine⟨dP,λsl UN=>?_⟩
  have s4:=aP UN (.lst [.ref t3])
  have w4:upd M3 sl (.lst [.ref t3]) sl=some (.lst [.ref t3]):=aB
  have Jw:a_ H (upd M3 sl (.lst [.ref t3])):=((s1.trans s2).trans s3).trans s4
  have Qk:H sl=none:=by
   cases e:H sl with
   |none=>rfl
   |some o=>rw[((s1.trans s2).trans s3) _ _ e] at UN;cases UN
  try dsimp only
  generalize upd M3 sl (.lst [.ref t3])=M4 at*
  have Mi:=Jw _ _ hc
  refine⟨_,rfl,cb,C,dx,[],rfl,Mi,CC.c,CC.ns,δ,?_⟩
  have Y4:sl≠cb:=λz=>by rw[z,hc] at Qk;cases Qk
  have k5:∀b o,b≠cb->M4 b=some o->upd M4 cb (.ins C dx (kx "states" (.ref sl) [])) b=some o:=λb o n e=>by rw[aV n];exact e
  have w5:upd M4 cb (.ins C dx (kx "states" (.ref sl) [])) cb=some (.ins C dx (kx "states" (.ref sl) [])):=aB
  try dsimp only
  generalize upd M4 cb (.ins C dx (kx "states" (.ref sl) []))=M5 at*
  refine⟨dP,λll nY=>?_⟩
  exists nY,.lst [],M5,ll,s6,w6,M6
  refine⟨_,rfl,cb,C,dx,_,rfl,s6 _ _ w5,CC.c,CC.nl,(show 1<1000 by decide),?_⟩
  have kH:∀b o,b≠cb->H b=some o->upd M6 cb (.ins C dx (kx "left" (.ref ll) (kx "states" (.ref sl) []))) b=some o:=λb o n e=>by rw[aV n];exact s6 _ _ (k5 _ _ n (Jw _ _ e))
  have k4:∀b o,b≠cb->M4 b=some o->upd M6 cb (.ins C dx (kx "left" (.ref ll) (kx "states" (.ref sl) []))) b=some o:=λb o n e=>by rw[aV n];exact s6 _ _ (k5 _ _ n e)
  have nT:∀b xs,M4 b=some (.tup xs)->b≠cb:=λb xs e z=>by rw[z,Mi] at e;cases e
  have v1:=((s2.trans s3).trans s4) _ _ w1
  have v2:=(s3.trans s4) _ _ w2
  have v3:=s4 _ _ w3
  have Y5:H ll=none:=by
   cases e:H ll with
   |none=>rfl
   |some o=>by_cases z:ll=cb
            .rw[z,w5] at nY;cases nY
            .rw[k5 _ _ z (Jw _ _ e)] at nY;cases nY
  have nlc:ll≠cb:=λz=>by rw[z,w5] at nY;cases nY
  have nls:ll≠sl:=λz=>by rw[z,k5 _ _ Y4 w4] at nY;cases nY
  exact hQ sl ll _ kH Qk Y5 ⟨dx,[.ref t3],[],aB,Y4,nlc,nls,k4 _ _ Y4 w4,by rw[aV nlc];exact w6,.cons ⟨t3,t1,t2,[],[],rfl,k4 _ _ (nT _ _ v3) v3,k4 _ _ (nT _ _ v1) v1,.nil,k4 _ _ (nT _ _ v2) v2,.nil⟩ .nil,.nil⟩
def PE.weak (h:PE X e t) (k:∀Z H Q,t' Z H Q->t Z H Q):PE X e t':=λac s Z H Q I q=>h ac s Z H Q I (k _ _ _ q)
def UY (i:Nat):TE:=λZ H Q=>∃p us,Z[i]?=some (some (.ref p))/\(H p=some (.tup us)\/H p=some (.lst us))/\∀M0 p',a_ H M0->M0 p'=some (.tup us)->Q (.ref p') M0
def UZ:∀Z H Q,UY i Z H Q->RR (λxs H Q=>∃p ys,xs=[.ref p]/\((cT K H p ys/\∀l,H l=none->Q (.ref l) (upd H l (.tup ys)))\/(bZ K H p ys/\Q (.ref p) H))) (cA (b_ i) fE) Z H Q:=by
 rintro Z H Q ⟨p,us,e,h,q⟩
 refine⟨_,e,p,us,rfl,?_⟩
 rcases h with h|h
 .exact .inr ⟨bZ.of h,q H p (λ_ _ e=>e) h⟩
 .exact .inl ⟨cT.of h,λl hl=>q _ l (aP hl _) aB⟩
def Mj:bW ["self","crew","standing","following"] ["self","crew","standing","following"] (aw Dm):={}
def ET (a b c:ai) (H H':Hp):Prop:=∀x o,x≠a->x≠b->x≠c->H x=some o->H' x=some o
def nO (C:ai):Sp:=λvs H Q _=>∃(cb sl ll cr sd:ai) (ws us:List V) (n:Nat) (bx:List oG) (rows:Rows) (sts cG:List Cs),vs=[.ref cb,.ref cr,.ref sd,.int n]/\e_ C H cb sl ll sts cG/\sts.length<=900/\(H cr=some (.tup ws)\/H cr=some (.lst ws))/\Paired (f_ H) ws bx/\(H sd=some (.tup us)\/H sd=some (.lst us))/\Paired (jV H) us rows/\
 ∀pX H',ET cb sl ll H H'->H pX=none->e_ C H' cb sl pX (sts++ [⟨bx,rows,n⟩]) []->Q .eK H'
def bS {α β:Type}{R:α->β->Prop}:∀{as:List α}{bs:List β},Paired R as bs->as.length=bs.length
 |_,_,.nil=>rfl
 |_,_,.cons _ t=>by simp[bS t]
def fi {α β:Type}{R:α->β->Prop}:∀{as:List α}{bs:List β}{b:β},Paired R as (bs++ [b])->∃WA a,as=WA++ [a]/\Paired R WA bs/\R a b
 |_,[],_,.cons h .nil=>⟨[],_,rfl,.nil,h⟩
 |_,_::bs,_,.cons h t=>by
  obtain⟨WA,a,rfl,h1,h2⟩:=fi (bs:=bs) t
  exact⟨_::WA,a,rfl,.cons h h1,h2⟩
def JD (F:ji K "enter" "Club.enter" Dm f fd) (T:Txt mg) (CC:Hk K C):dW P w K mg base fT 1 f fd ["self","crew","standing","following"] (nO C):=by
 exists F.ok,Mj
 .obtain⟨cb,sl,ll,cr,sd,ws,us,n,bx,rows,sts,cG,rfl,_⟩:=h
  rfl
 .obtain⟨cb,sl,ll,cr,sd,ws,us,n,bx,rows,sts,cG,rfl,hC,u60,Us,pc,U0,pr,hQ⟩:=h
  refine⟨_,au (gA (ql cx eA eB gE (jB (pv 0) rfl) (ae (bQ (ae (PE.weak (fK fB rfl T.tuple cw (ae (pv 1) ah)) UZ) (ae (PE.weak (fK fB rfl T.tuple cw (ae (pv 2) ah)) UZ) (ae (pv 3) ah)))) ah))) (aF (B9 (pv 0) (cX ah) rfl)),?_⟩
  obtain⟨dx,vs,xs,c1,c2,c3,c4,c5,c6,c7,c8⟩:=hC
  have lv:=bS c7
  refine⟨_,rfl,cb,C,dx,_,_,rfl,c1,CC.c,CC.ns,rfl,.inl ⟨rfl,_,cT.of c5⟩,cr,ws,rfl,Us,λM0 U1 s0 w0=>⟨sd,us,rfl,?_,λM1 U2 s1 w1=>?_⟩⟩
  .rcases U0 with U0|U0
   .exact .inl (s0 _ _ U0)
   .exact .inr (s0 _ _ U0)
  have s01:=s0.trans s1
  refine⟨_,rfl,dP,λt ht=>?_⟩
  have s2:=aP ht (.tup [.ref U1,.ref U2,.int n])
  have ju:=s01.trans s2
  have w2:upd M1 t (.tup [.ref U1,.ref U2,.int n]) t=some (.tup [.ref U1,.ref U2,.int n]):=aB
  have w0':=s2 _ _ (s1 _ _ w0)
  have Ml:=s2 _ _ w1
  try dsimp only
  generalize upd M1 t (.tup [.ref U1,.ref U2,.int n])=M2 at*
  have d5:=ju _ _ c5
  have d1:=ju _ _ c1
  refine⟨sl,vs,.ref t,rfl,rfl,d5,dD ω,?_⟩
  have k3:∀b o,b≠sl->M2 b=some o->upd M2 sl (.lst (vs++ [.ref t])) b=some o:=λb o n e=>by rw[aV n];exact e
  have w3:upd M2 sl (.lst (vs++ [.ref t])) sl=some (.lst (vs++ [.ref t])):=aB
  try dsimp only
  generalize upd M2 sl (.lst (vs++ [.ref t]))=M3 at*
  refine⟨dP,λl2 oE=>?_⟩
  exists oE,.lst [],M3,l2,s4,w4,M4
  refine⟨_,rfl,cb,C,dx,_,rfl,s4 _ _ (k3 _ _ c2.symm d1),CC.c,CC.nl,(show 2<1000 by decide),?_⟩
  have ep:kx "left" (.ref l2) [("states",.ref sl),("left",.ref ll)]=[(("states":Str),V.ref sl),("left",.ref l2)]:=rfl
  rw[ep]
  have kk:ET cb sl ll H (upd M4 cb (.ins C dx [("states",.ref sl),("left",.ref l2)])):=λb o n1 n2 _ e=>by rw[aV n1];exact s4 _ _ (k3 _ _ n2 (ju _ _ e))
  have kM:∀b xs,M2 b=some (.tup xs)->upd M4 cb (.ins C dx [("states",.ref sl),("left",.ref l2)]) b=some (.tup xs):=λb xs e=>by
   rw[aV (λz=>by rw[z,d1] at e;cases e)]
   exact s4 _ _ (k3 _ _ (λz=>by rw[z,d5] at e;cases e) e)
  have n1:l2≠cb:=λz=>by rw[z,k3 _ _ c2.symm d1] at oE;cases oE
  have n2:l2≠sl:=λz=>by rw[z,w3] at oE;cases oE
  have hl0:H l2=none:=by
   cases e:H l2 with
   |none=>rfl
   |some o=>rw[k3 _ _ n2 (ju _ _ e)] at oE;cases oE
  exact hQ l2 _ kk hl0 ⟨dx,vs++ [.ref t],[],aB,c2,n1,n2,by rw[aV c2];exact s4 _ _ w3,by rw[aV n1];exact w4,
   dU (av c7 λ_ _ z=>z.up λb xs e=>kM _ _ (ju _ _ e)) ⟨t,U1,U2,ws,us,rfl,kM _ _ w2,kM _ _ w0',av pc λ_ _ z=>z.up λb xs e=>kM _ _ (ju _ _ e),kM _ _ Ml,av pr λ_ _ z=>z.up λb xs e=>kM _ _ (ju _ _ e)⟩,.nil⟩
def zw:bW ["self","piece","crew","standing","following"] ["self","piece"] (aw JA):={}
def Dr (C CP:ai):Sp:=λvs H Q E=>∃(cb sl ll k:ai) (v:V) (d:PyData) (S:Cs) (sts cG:List Cs),vs=[.ref cb,v]/\e_ C H cb sl ll (sts++ [S]) cG/\sts.length<=890/\S.rows.length<=39/\Tells H k d v/\rL d/\
 ((gG d=false/\∀H',a_ H H'->E (.ref CP) none H')\/(∃r p,v=.ref r/\d=xK p/\jU H r p/\ix p/\gq p/\
 ∀pX H',ET cb sl ll H H'->H pX=none->e_ C H' cb sl pX (sts++ [S]++ [⟨S.bx,S.rows++ [(S.n,p)],S.n+1⟩]) []->Q (.int S.n) H'))
def Mn (F:ji K "tell" "Club.tell" JA f fd) (T:Txt mg) (hM:∃t,mg "MOST_PIECES"=some (.int 40 t)) (CC:Hk K C) (OP:tL K mg "NoPiece" CP) (DI:Df P w K mg base 3 "is_piece" ["thing"] (xF gG)) (DE:zv P w K mg base 1 C "enter" ["self","crew","standing","following"] (nO C)):dW P w K mg base (q_ P w) 4 f fd ["self","piece"] (Dr C CP):=by
 exists F.L7,zw
 .obtain⟨cb,sl,ll,k,v,d,S,sts,cG,rfl,_⟩:=h
  rfl
 .obtain⟨cb,sl,ll,k,v,d,S,sts,cG,rfl,hC,WB,l30,tl,fd',hq⟩:=h
  have Be:=hr.mono (j:=1) δ
  obtain⟨tk,hM⟩:=hM
  refine⟨_,au (iQ (bg cV (jB (pv 0) rfl) (qj mw ao)) (gg rfl (bz (aZ (i:=2) zw.nd) (bz (aZ (i:=3) zw.nd) (bz (aZ (i:=4) zw.nd) eZ)))))
   (au (cQ (fO (fM (cC DI hr (ae (pv 1) ah)))) (aF (gZ (W:=λcls ej _ H'=>E cls ej H') jH rfl rfl OP rfl (ae aW ah))) bN)
   (au (cQ (bo HC (aR bO rfl T.len bC (ae (pv 3) ah)) (fY (v:=.int 40) rfl hM ⟨_,rfl⟩) (bP _)) mP bN)
   (au (gA (Bc DE Be (pv 0) (ae (pv 2) (ae (bT EB (pv 3) (bQ (ae (bQ (ae (pv 4) (ae (pv 1) ah))) ah))) (ae (bT gi (pv 4) ao) ah)))))
   (aF (bH (pv 4)))))),?_⟩
  obtain⟨dx,vs,ws,c1,c2,c3,c4,c5,c6,c7,c8⟩:=id hC
  obtain⟨EU,_,rfl,Gy,st,cr,sd,qO,us,rfl,e1,e2,vH,e3,e4⟩:=fi c7
  have BC:=bS e4
  refine lF λNQ zo=>?_
  refine⟨_,rfl,cb,C,dx,_,_,rfl,c1,CC.c,CC.ns,rfl,1,rfl,sl,_,-1,.ref st,rfl,rfl,cT.of c5,lj _ _,TZ (bZ.of e1) ?_⟩
  refine zo _ _ ?_
  refine⟨_,rfl,k,d,_,rfl,tl,fd',λH1 s1=>⟨_,rfl,?_⟩⟩
  rcases hq with⟨no,hE⟩|⟨r,p,rfl,rfl,hP,op,cp,hQ⟩
  .rw[no]
   exact ite_yes δ ⟨dP,hE H1 s1⟩
  rw[wU op cp]
  refine ite_no δ ?_
  have hC1:=hC.same s1
  refine⟨_,rfl,sd,us,rfl,.inr (bZ.of (s1 _ _ e3)),_,_,rfl,rfl,_,rfl,?_⟩
  refine ite_no (λz=>?_) ?_
  .have:=aX z
   try dsimp only at BC
   omega
  refine⟨_,rfl,cb,dx,_,rfl,s1 _ _ c1,rfl,_,rfl,_,rfl,_,rfl,_,rfl,dP,λu hu=>?_⟩
  exists hu,.tup [.int S.n,.ref r],H1,u,z1,y1,M1
  refine⟨dP,λx1 Ql=>?_⟩
  exists Ql,.tup [.ref u],M1,x1,z2,y2,M2
  have lw:(S.n:Int)+1=((S.n+1:Nat):Int):=ω
  have fin:∀(M3:Hp) (x:ai),a_ M2 M3->M3 x=some (.tup (us++ [.ref u]))->nO C [.ref cb,.ref cr,.ref x,.int ((S.n:Int)+1)] M3 (λ_ H'=>Q (.int S.n) H') (λ_ _ _=>False):=λM3 x z3 y3=>by
   have zz:=s1.trans ((z1.trans z2).trans z3)
   refine⟨cb,sl,ll,cr,x,qO,us++ [.ref u],S.n+1,S.bx,S.rows++ [(S.n,p)],sts++ [S],cG,by rw[lw],hC.same zz,by rw[aK,aJ];omega,.inl (zz _ _ e2),av vH λ_ _ q=>q.up λb xs e=>zz _ _ e,.inl y3,dU (av e4 λ_ _ q=>q.up λb xs e=>zz _ _ e) ⟨u,r,rfl,(z2.trans z3) _ _ y1,hP.up λb xs e=>zz _ _ e⟩,λpX H' k' f' C'=>?_⟩
   exact hQ pX H' (λb o n1 n2 n3 e=>k' _ _ n1 n2 n3 (zz _ _ e)) (cK zz f') C'
  refine⟨sd,x1,us,[.ref u],rfl,rfl,bZ.of ((z1.trans z2) _ _ (s1 _ _ e3)),bZ.of y2,ς,cR (dD (by simp only[aJ];omega)),λh0=>?_,λ_ x2 Gz=>?_⟩
  .have y3:M2 x1=some (.tup (us++ [.ref u])):=by rw[h0];exact y2
   obtain⟨b1,b2,b3,b4,b5,b6,b7,b8,b9,b0,d1,d2,d3,d4,d5,d6,d7,d8,d9,d0⟩:=(fin M2 x1 (λ_ _ e=>e) y3)
   exact⟨_,rfl,_,_,rfl,rfl,b1,b2,b3,b4,b5,b6,b7,b8,b9,b0,d1,d2,d3,d4,d5,d6,d7,d8,d9,λpX H' k1 k2 k3=>⟨_,rfl,d0 pX H' k1 k2 k3⟩⟩
  .have z3:=aP Gz (.tup (us++ [.ref u]))
   have y3:upd M2 x2 (.tup (us++ [.ref u])) x2=some (.tup (us++ [.ref u])):=aB
   try dsimp only
   obtain⟨b1,b2,b3,b4,b5,b6,b7,b8,b9,b0,d1,d2,d3,d4,d5,d6,d7,d8,d9,d0⟩:=(fin _ x2 z3 y3)
   exact⟨_,rfl,_,_,rfl,rfl,b1,b2,b3,b4,b5,b6,b7,b8,b9,b0,d1,d2,d3,d4,d5,d6,d7,d8,d9,λpX H' k1 k2 k3=>⟨_,rfl,d0 pX H' k1 k2 k3⟩⟩
def Qm:bW ["self"] ["self"] (aw JB):={}
def Ds (C CL:ai):Sp:=λvs H Q E=>∃(cb sl ll:ai) (S:Cs) (sts cG:List Cs),vs=[.ref cb]/\e_ C H cb sl ll (sts++ [S]) cG/\sts.length<=900/\cG.length<=900/\
 ((sts=[]/\E (.ref CL) none H)\/(sts≠[]/\∀H',ET cb sl ll H H'->e_ C H' cb sl ll sts (cG++ [S])->Q .eK H'))
def Mo (F:ji K "back" "Club.back" JB f fd) (T:Txt mg) (CC:Hk K C) (OL:tL K mg "NothingLeft" CL):dW P w K mg base (q_ P w) 1 f fd ["self"] (Ds C CL):=by
 exists F.L7,Qm
 .obtain⟨cb,sl,ll,S,sts,cG,rfl,_⟩:=h
  rfl
 .obtain⟨cb,sl,ll,S,sts,cG,rfl,hC,Y6,Y7,hq⟩:=h
  refine⟨_,au (cQ (bo ie (aR bO rfl T.len bC (ae (jB (pv 0) rfl) ah)) ao (bP _)) (aF (gZ (W:=λcls ej _ H'=>E cls ej H') jH rfl rfl OL rfl (ae aW ah))) bN)
   (aF (gA (ql cx eA eB gE (jB (pv 0) rfl) (ae (y_ cx vq vt Cg (jB (pv 0) rfl)) ah)))),?_⟩
  obtain⟨dx,vs,ws,c1,c2,c3,c4,c5,c6,c7,c8⟩:=id hC
  obtain⟨EU,v,rfl,Gy,hv⟩:=fi c7
  have lv:=bS Gy
  have lw:=bS c8
  refine⟨_,rfl,cb,C,dx,_,_,rfl,c1,CC.c,CC.ns,rfl,sl,_,rfl,.inl (cT.of c5),rfl,_,rfl,?_⟩
  rw[iw,aK,aJ]
  rcases hq with⟨rfl,hE⟩|⟨ne,hQ⟩
  .exact ite_yes (aI (by rw[lv];rfl)) ⟨dP,hE⟩
  refine ite_no (λz=>?_) ?_
  .have z':=aX z
   have:sts.length=0:=ω
   exact ne (List.length_eq_zero_iff.mp this)
  refine⟨_,rfl,cb,C,dx,_,_,rfl,c1,CC.c,CC.nl,rfl,.inl ⟨rfl,_,cT.of c6⟩,_,rfl,cb,C,dx,_,_,rfl,c1,CC.c,CC.ns,rfl,.inl ⟨rfl,_,cT.of c5⟩,sl,_,v,rfl,rfl,c5,ς,?_⟩
  rw[show(EU++ [v]).dropLast=EU by simp]
  have k1:∀b o,b≠sl->H b=some o->upd H sl (.lst EU) b=some o:=λb o n e=>by rw[aV n];exact e
  have w1:upd H sl (.lst EU) sl=some (.lst EU):=aB
  try dsimp only
  generalize upd H sl (.lst EU)=M1 at*
  have d6:=k1 _ _ c4 c6
  refine⟨ll,ws,v,rfl,rfl,d6,dD ω,?_⟩
  have tk:∀b xs,H b=some (.tup xs)->upd M1 ll (.lst (ws++ [v])) b=some (.tup xs):=λb xs e=>by
   rw[aV (λz=>by rw[z,c6] at e;cases e)]
   exact k1 _ _ (λz=>by rw[z,c5] at e;cases e) e
  exact hQ _ (λx o n1 n2 n3 e=>by rw[aV n3];exact k1 _ _ n2 e) ⟨dx,EU,ws++ [v],by rw[aV c3.symm];exact k1 _ _ c2.symm c1,c2,c3,c4,by rw[aV c4.symm];exact w1,aB,av Gy λ_ _ z=>z.up tk,dU (av c8 λ_ _ z=>z.up tk) (hv.up tk)⟩
def Mp:bW ["self"] ["self"] (aw Dp):={}
def zx (C CL:ai):Sp:=λvs H Q E=>∃(cb sl ll:ai) (sts cG:List Cs),vs=[.ref cb]/\e_ C H cb sl ll sts cG/\sts.length<=900/\cG.length<=900/\
 ((cG=[]/\E (.ref CL) none H)\/∃fJ S,cG=fJ++ [S]/\∀H',ET cb sl ll H H'->e_ C H' cb sl ll (sts++ [S]) fJ->Q .eK H')
def JE (F:ji K "again" "Club.again" Dp f fd) (T:Txt mg) (CC:Hk K C) (OL:tL K mg "NothingLeft" CL):dW P w K mg base (q_ P w) 1 f fd ["self"] (zx C CL):=by
 exists F.L7,Mp
 .obtain⟨cb,sl,ll,sts,cG,rfl,_⟩:=h
  rfl
 .obtain⟨cb,sl,ll,sts,cG,rfl,hC,Y6,Y7,hq⟩:=h
  refine⟨_,au (cQ (bo ie (aR bO rfl T.len bC (ae (jB (pv 0) rfl) ah)) ao (bP _)) (aF (gZ (W:=λcls ej _ H'=>E cls ej H') jH rfl rfl OL rfl (ae aW ah))) bN)
   (aF (gA (ql cx eA eB gE (jB (pv 0) rfl) (ae (y_ cx vq vt Cg (jB (pv 0) rfl)) ah)))),?_⟩
  obtain⟨dx,vs,ws,c1,c2,c3,c4,c5,c6,c7,c8⟩:=id hC
  have lv:=bS c7
  have lw:=bS c8
  refine⟨_,rfl,cb,C,dx,_,_,rfl,c1,CC.c,CC.nl,rfl,ll,_,rfl,.inl (cT.of c6),rfl,_,rfl,?_⟩
  rw[iw]
  rcases hq with⟨rfl,hE⟩|⟨fJ,S,rfl,hQ⟩
  .exact ite_yes (aI (by rw[lw];rfl)) ⟨dP,hE⟩
  rw[aK,aJ] at lw
  refine ite_no (λz=>?_) ?_
  .have z':=aX z
   omega
  obtain⟨yB,v,rfl,c8',hv⟩:=fi c8
  refine⟨_,rfl,cb,C,dx,_,_,rfl,c1,CC.c,CC.ns,rfl,.inl ⟨rfl,_,cT.of c5⟩,_,rfl,cb,C,dx,_,_,rfl,c1,CC.c,CC.nl,rfl,.inl ⟨rfl,_,cT.of c6⟩,ll,_,v,rfl,rfl,c6,ς,?_⟩
  rw[show(yB++ [v]).dropLast=yB by simp]
  have k1:∀b o,b≠ll->H b=some o->upd H ll (.lst yB) b=some o:=λb o n e=>by rw[aV n];exact e
  have w1:upd H ll (.lst yB) ll=some (.lst yB):=aB
  try dsimp only
  generalize upd H ll (.lst yB)=M1 at*
  have d5:=k1 _ _ c4.symm c5
  refine⟨sl,vs,v,rfl,rfl,d5,dD ω,?_⟩
  have tk:∀b xs,H b=some (.tup xs)->upd M1 sl (.lst (vs++ [v])) b=some (.tup xs):=λb xs e=>by
   rw[aV (λz=>by rw[z,c5] at e;cases e)]
   exact k1 _ _ (λz=>by rw[z,c6] at e;cases e) e
  exact hQ _ (λx o n1 n2 n3 e=>by rw[aV n2];exact k1 _ _ n3 e) ⟨dx,vs++ [v],yB,by rw[aV c2.symm];exact k1 _ _ c3.symm c1,c2,c3,c4,aB,by rw[aV c4];exact w1,dU (av c7 λ_ _ z=>z.up tk) (hv.up tk),av c8' λ_ _ z=>z.up tk⟩
def EV:bW ["self","number","crew","standing","following"] ["self","number"] (aw Qg):={}
def Y8:List (Str×NameKind):=[(".0",.local),("told",.local),("number",.free)]
def Y9:(["told","number"]:List Str).Nodup:=by decide+kernel
def U3:(["other","piece"]:List Str).Nodup:=by decide+kernel
def uI (rows:Rows) (k:Int):Rows:=rows.filter λx=>!decide ((x.1:Int)=k)
def zy (rows:Rows) (k:Int):Bool:=rows.any λx=>decide ((x.1:Int)=k)
def JF (C CU:ai):Sp:=λvs H Q E=>∃(cb sl ll:ai) (k:Int) (S:Cs) (sts cG:List Cs),vs=[.ref cb,.int k]/\e_ C H cb sl ll (sts++ [S]) cG/\sts.length<=890/\S.rows.length<=90/\
 ((zy S.rows k=false/\∀H',a_ H H'->E (.ref CU) none H')\/(zy S.rows k=true/\
 ∀pX H',ET cb sl ll H H'->H pX=none->e_ C H' cb sl pX (sts++ [S]++ [⟨S.bx,uI S.rows k,S.n⟩]) []->Q .eK H'))
def eJ {α β:Type}{R:α->β->Prop}:∀{as:List α}{bs:List β},Paired R as bs->∀(i:Nat) (h:i<bs.length),∃a,as[i]?=some a/\R a bs[i]
 |_,_,.nil,i,h=>by cases h
 |_,_,.cons h t,0,_=>⟨_,rfl,h⟩
 |_,_,.cons h t,i+1,hi=>by
  obtain⟨a,e,r⟩:=eJ t i (by simpa using hi)
  exact⟨a,by simpa using e,by simpa using r⟩
def getD_some {us:List V} (h:us[i]?=some u):us.getD i .eK=u:=by rw[bf,h];rfl
def JG {H1:Hp}{L a:ai}{us:List V}{rows:Rows}{Q:VK}(hL:H1 L=none) (h:H1 a=some (.tup us)) (pr:Paired (jV H1) us rows) (hl:rows.length<=1000) (q:∀J,a_ H1 J->J L=some (.lst (rows.map λx=>V.int x.1))->Q (.ref L) J):
  qg (Ei K a) (Fv K 2 (kD (dI 0) (kD (dI 1) Al))) qE (b_ 0) [none,none] H1 Q L:=by
 have lu:=bS pr
 refine lE (n:=us.length) (f:=λi=>us.getD i .eK) (λj ys bX J=>(∃v v',bX=[v,v'])/\a_ H1 J/\ys=(rows.take j).map λx=>V.int x.1) hL ω ⟨⟨_,_,rfl⟩,bR (a_.refl _) hL,rfl⟩ (λj ys bX J hj hy ⟨_,sj,_⟩=>kQ (K:=K) (bZ.of (sj _ _ h)) j hj) ?_ ?_
 .rintro j ys bX J hj hy ⟨⟨v,v',rfl⟩,sj,rfl⟩
  have rf:j<rows.length:=ω
  obtain⟨u,eu,b,r,rfl,e1,_⟩:=eJ pr j rf
  rw[getD_some eu]
  refine Gf (bZ.of (sj _ _ e1)) ⟨_,rfl,hy,⟨_,_,rfl⟩,bR sj hL,?_⟩
  rw[fW rf,bF];rfl
 .rintro ys bX J hy ⟨_,sj,rfl⟩
  rw[lu,dj] at hy
  exact q J sj hy
def u_ {α:Type}(f:α->Bool) (l:List α) (x:α):(l++ [x]).filter f=if f x=true then l.filter f++ [x] else l.filter f:=by
 rw[kO]
 by_cases h:f x=true
 .rw[aQ h,sR h];rfl
 .rw[aO h,sU h];simp
def GA {H1:Hp}{L a:ai}{us:List V}{rows:Rows}{k:Int}{Q:VK}(v:Option V) (hL:H1 L=none) (h:H1 a=some (.tup us)) (pr:Paired (jV H1) us rows) (hl:rows.length<=1000)
  (q:∀ys J,a_ H1 J->J L=some (.lst ys)->Paired (jV J) ys (uI rows k)->Q (.ref L) J):
  qg (Ei K a) (dI 0) (gw (gJ K8 (gJ (gj K) (b_ 0) (tC (.int 0))) (b_ 1))) (b_ 0) [v,some (.int k)] H1 Q L:=by
 have lu:=bS pr
 refine lY (n:=us.length) (f:=λi=>us.getD i .eK) (λj ys bX J=>(∃v,bX=[v,some (.int k)])/\a_ H1 J/\Paired (jV J) ys (uI (rows.take j) k)) hL ω ⟨⟨_,rfl⟩,bR (a_.refl _) hL,.nil⟩ (λj ys bX J hj hy ⟨_,sj,_⟩=>kQ (K:=K) (bZ.of (sj _ _ h)) j hj) ?_ ?_
 .rintro j ys bX J hj hy ⟨⟨v,rfl⟩,sj,pj⟩
  have rf:j<rows.length:=ω
  obtain⟨u,eu,b,r,rfl,e1,e2⟩:=eJ pr j rf
  rw[getD_some eu]
  refine iB rfl (bZ.of (sj _ _ e1)) (aT (j:=0) rfl) ⟨_,rfl,rfl,_,rfl,?_⟩
  unfold uI at*
  rw[iw,fW rf,u_]
  by_cases e:(rows[j].1:Int)=k
  .refine ite_no (by simp[e]) ?_
   refine⟨hy,⟨_,rfl⟩,sj,?_⟩
   rw[aO (by simp[e])]
   exact pj
  .refine ite_yes (by simp[e]) ?_
   have Bf:∀c xs,J c=some (.tup xs)->upd J L (.lst (ys++ [.ref b])) c=some (.tup xs):=λc xs e=>by rw[aV (λz=>by rw[z,hy] at e;cases e)];exact e
   refine⟨_,rfl,hy,⟨_,rfl⟩,bR sj hL,?_⟩
   rw[aQ (by simp[e])]
   exact dU (av pj λ_ _ z=>z.up Bf) ⟨b,r,rfl,Bf _ _ (sj _ _ e1),e2.up λc xs e=>Bf _ _ (sj _ _ e)⟩
 .rintro ys bX J hy ⟨_,sj,pj⟩
  rw[lu,dj] at pj
  exact q ys J sj hy pj
def Mq (ns:Rows):HN (.int k) (ns.map λx=>V.int x.1)=zy ns k:=by
 unfold HN zy
 rw[Sr]
 congr 1
def GB (ns:Rows):(ns.map λx=>V.int x.1).all qk=true:=by
 rw[mM]
 intro v hv
 obtain⟨x,_,rfl⟩:=cS.mp hv
 rfl
def Qn (F:ji K "strike" "Club.strike" Qg f fd) (CC:Hk K C) (OU:tL K mg "NoNumber" CU) (DE:zv P w K mg base 1 C "enter" ["self","crew","standing","following"] (nO C)):dW P w K mg base (q_ P w) 2 f fd ["self","number"] (JF C CU):=by
 exists F.L7,EV
 .obtain⟨cb,sl,ll,k,S,sts,cG,rfl,_⟩:=h
  rfl
 .obtain⟨cb,sl,ll,k,S,sts,cG,rfl,hC,WB,Y_,hq⟩:=h
  refine⟨_,au (iQ (bg cV (jB (pv 0) rfl) (qj mw ao)) (gg rfl (bz (aZ (i:=2) EV.nd) (bz (aZ (i:=3) EV.nd) (bz (aZ (i:=4) EV.nd) eZ)))))
   (au (cQ (bo gR (pv 1) (kE (N:=["other","piece"]) (g:=Fv K 2 (kD (dI 0) (kD (dI 1) Al))) (tc:=qE) (te:=b_ 0) rfl (iq (pv 3)) (fz.closed rfl)
    (λ_ _ _=>gg rfl (bz (aZ (i:=0) U3) (bz (aZ (i:=1) U3) eZ))) (λ_ _ _=>iX) (λ_ _ _=>pv 0)) rfl) (aF (gZ (W:=λcls ej _ H'=>E cls ej H') jH rfl rfl OU rfl (ae aW ah))) bN)
   (aF (gA (Bc DE hr (pv 0) (ae (pv 2) (ae (kE (N:=["told","number"]) (g:=dI 0) (tc:=gw (gJ K8 (gJ (gj K) (b_ 0) (tC (.int 0))) (b_ 1))) (te:=b_ 0) rfl (iq (pv 3))
    (fz.one (v:="told") (fr:="number") (j:=1) (nm:=Y8) rfl rfl rfl rfl)
    (λ_ _ _=>aZ (i:=0) Y9) (λ_ _ _=>ig (bo mT (bg bw (pv 0) ao) (pv 1) (bP _))) (λ_ _ _=>pv 0)) (ae (pv 4) ah))))))),?_⟩
  obtain⟨dx,vs,ws,c1,c2,c3,c4,c5,c6,c7,c8⟩:=id hC
  obtain⟨EU,_,rfl,Gy,st,cr,sd,qO,us,rfl,e1,e2,vH,e3,e4⟩:=fi c7
  have BC:=bS e4
  refine lF λNQ zo=>?_
  refine⟨_,rfl,cb,C,dx,_,_,rfl,c1,CC.c,CC.ns,rfl,1,rfl,sl,_,-1,.ref st,rfl,rfl,cT.of c5,lj _ _,TZ (bZ.of e1) ?_⟩
  refine zo _ _ ?_
  refine⟨_,rfl,_,rfl,sd,rfl,⟨_,bZ.of e3⟩,λL hL=>?_⟩
  refine JG hL e3 e4 ω λJ sJ hJ=>?_
  refine⟨L,_,rfl,.inl (cT.of hJ),rfl,GB S.rows,_,rfl,?_⟩
  rw[Mq]
  rcases hq with⟨no,hE⟩|⟨yes,hQ⟩
  .rw[no]
   exact ite_yes δ ⟨dP,hE J sJ⟩
  rw[yes]
  refine ite_no δ ?_
  refine⟨_,rfl,cb,dx,_,rfl,sJ _ _ c1,rfl,_,rfl,_,rfl,sd,rfl,⟨_,bZ.of (sJ _ _ e3)⟩,λL2 Ac=>?_⟩
  refine GA none Ac (sJ _ _ e3) (av e4 λ_ _ z=>z.up λb xs e=>sJ _ _ e) ω λys J2 s2 Qo U4=>?_
  have zz:=sJ.trans s2
  refine⟨_,rfl,cb,sl,ll,cr,L2,qO,ys,S.n,S.bx,_,sts++ [S],cG,rfl,hC.same zz,by rw[aK,aJ];omega,.inl (zz _ _ e2),av vH λ_ _ q=>q.up λb xs e=>zz _ _ e,.inr Qo,U4,λpX H' k' f' C'=>?_⟩
  exact hQ pX H' (λb o n1 n2 n3 e=>k' _ _ n1 n2 n3 (zz _ _ e)) (cK zz f') C'
def Qp:bW ["self"] ["self"] (aw JC):={}
def wW (C:ai):Sp:=λvs H Q _=>∃(cb sl ll:ai) (S:Cs) (sts cG:List Cs),vs=[.ref cb]/\e_ C H cb sl ll (sts++ [S]) cG/\∀l us,H l=none->Paired (f_ H) us S.bx->Q (.ref l) (upd H l (.lst us))
def Mr (F:ji K "rowers" "Club.rowers" JC f fd) (T:Txt mg) (CC:Hk K C):dW P w K mg base fT 1 f fd ["self"] (wW C):=by
 exists F.ok,Qp
 .obtain⟨cb,sl,ll,S,sts,cG,rfl,_⟩:=h
  rfl
 .obtain⟨cb,sl,ll,S,sts,cG,rfl,hC,hQ⟩:=h
  refine⟨_,aF (bH (fK nE rfl T.list uw (ae (bg bw (bg cV (jB (pv 0) rfl) (qj mw ao)) ao) ah))),?_⟩
  obtain⟨dx,vs,ws,c1,c2,c3,c4,c5,c6,c7,c8⟩:=id hC
  obtain⟨EU,_,rfl,Gy,st,cr,sd,qO,us,rfl,e1,e2,vH,e3,e4⟩:=fi c7
  exact⟨_,rfl,cb,C,dx,_,_,rfl,c1,CC.c,CC.ns,rfl,1,rfl,sl,_,-1,.ref st,rfl,rfl,cT.of c5,lj _ _,st,_,0,_,rfl,rfl,bZ.of e1,aT (j:=0) rfl,cr,qO,rfl,.inr (bZ.of e2),λl hl=>hQ l qO hl vH⟩
def U5:bW ["self"] ["self"] (aw Qh):={}
def Bg (C:ai):Sp:=λvs H Q _=>∃(cb sl ll:ai) (S:Cs) (sts cG:List Cs),vs=[.ref cb]/\e_ C H cb sl ll (sts++ [S]) cG/\∀l us,H l=none->Paired (jV H) us S.rows->Q (.ref l) (upd H l (.lst us))
def Qq (F:ji K "pieces" "Club.pieces" Qh f fd) (T:Txt mg) (CC:Hk K C):dW P w K mg base fT 1 f fd ["self"] (Bg C):=by
 exists F.ok,U5
 .obtain⟨cb,sl,ll,S,sts,cG,rfl,_⟩:=h
  rfl
 .obtain⟨cb,sl,ll,S,sts,cG,rfl,hC,hQ⟩:=h
  refine⟨_,aF (bH (fK nE rfl T.list uw (ae (bg bw (bg cV (jB (pv 0) rfl) (qj mw ao)) ao) ah))),?_⟩
  obtain⟨dx,vs,ws,c1,c2,c3,c4,c5,c6,c7,c8⟩:=id hC
  obtain⟨EU,_,rfl,Gy,st,cr,sd,qO,us,rfl,e1,e2,vH,e3,e4⟩:=fi c7
  exact⟨_,rfl,cb,C,dx,_,_,rfl,c1,CC.c,CC.ns,rfl,1,rfl,sl,_,-1,.ref st,rfl,rfl,cT.of c5,lj _ _,st,_,1,_,rfl,rfl,bZ.of e1,aT (j:=1) rfl,sd,us,rfl,.inr (bZ.of e3),λl hl=>hQ l us hl e4⟩
end
open Classical in
noncomputable def wX (p q:qt):Option NP:=if h:∃m y,Xp p q m y then some (pd p q h.choose h.choose_spec.choose) else none
def Bh (P:gq p) (h:Told p q r):r=wX p q:=by
 refine h.uniq P ?_
 unfold wX
 split
 .rename_i h
  exact .inl ⟨_,_,h.choose_spec.choose_spec,rfl⟩
 .rename_i h
  exact .inr ⟨λm y x=>h ⟨m,y,x⟩,rfl⟩
abbrev Row3:=Nat×Nat×NP
def zA (i j:Nat):Option NP->List Row3
 |none=>[]
 |some t=>[(i,j,t)]
noncomputable def GC (x:Nat×qt):Rows->List Row3
 | []=>[]
 |y::ys=>zA x.1 y.1 (wX x.2 y.2)++GC x ys
noncomputable def uJ:Rows->List Row3
 | []=>[]
 |x::xs=>GC x xs++uJ xs
def nZ (H:Hp) (v:V) (r:Row3):Prop:=∃a q,v=.ref a/\H a=some (.tup [.int r.1,.int r.2.1,.ref q])/\zu H q r.2.2
def zu.up (h:zu H q r) (s:∀b xs,H b=some (.tup xs)->H' b=some (.tup xs)):zu H' q r:=by
 obtain⟨l,h1,h2⟩:=h
 exact⟨l,s _ _ h1,s _ _ h2⟩
def nZ.up (h:nZ H v r) (s:∀b xs,H b=some (.tup xs)->H' b=some (.tup xs)):nZ H' v r:=by
 obtain⟨a,q,h1,h2,h3⟩:=h
 exact⟨a,q,h1,s _ _ h2,h3.up s⟩
section
variable {P:aM}{w:bB}{K:Φ}{mg:Str->Option ag}{base:Heap}
def rV:bW ["self","found","standing","at","one","piece","other","later","trial"] ["self"] (aw Qi):={}
def EW (C:ai):Sp:=λvs H Q _=>∃(cb sl ll:ai) (rows:Rows) (S:Cs) (sts cG:List Cs),vs=[.ref cb]/\e_ C H cb sl ll (sts++ [S]) cG/\S.rows=rows/\(∀x∈rows,ix x.2/\gq x.2)/\rows.length<=31/\
 ∀l ws H',H l=none->a_ H H'->H' l=some (.lst ws)->Paired (nZ H') ws (uJ rows)->Q (.ref l) H'
def rwA {a b m n i:Nat}(l5:a<=31*i+m) (e:b=a) (h:i+1+m<n) (hn:n<=31):b<=1000:=ω
def rwB {a n i:Nat}(l5:a<=31*i+(n-(i+1))) (hn:n<=31):a<=31*(i+1):=aA l5 (dY (aA (Af _ _) hn) _)
def Qr (F:ji K "trials" "Club.trials" Qi f fd) (T:Txt mg) (DP:zv P w K mg base 1 C "pieces" ["self"] (Bg C)) (DT:Df P w K mg base 4 "trial_or_none" ["one","other"] UU):dW P w K mg base fT 5 f fd ["self"] (EW C):=by
 exists F.ok,rV
 .obtain⟨cb,sl,ll,rows,S,sts,cG,rfl,_⟩:=h
  rfl
 .obtain⟨cb,sl,ll,_,S,sts,cG,rfl,hC,rfl,eN,l30,hQ⟩:=h
  obtain⟨rows,NR⟩:∃rows,rows=S.rows:=⟨_,rfl⟩
  rw[<-NR] at eN l30 hQ
  have Be:=hr.mono (j:=1) δ
  refine⟨_,au (ku (i:=1) rV.nd (cX ah))
   (au (ku (i:=2) rV.nd (pE DP Be (pv 0)))
   (au (mi eX rfl (AK rfl T.enum (ae (pv 2) ah)) (gg rfl (bz (aZ (i:=3) rV.nd) (bz (gg rfl (bz (aZ (i:=4) rV.nd) (bz (aZ (i:=5) rV.nd) eZ))) eZ)))
    (aF (mi eX rfl (jz (gY pP (pv 2) (iJ (bT gi (pv 3) ao)) jC)) (gg rfl (bz (aZ (i:=6) rV.nd) (bz (aZ (i:=7) rV.nd) eZ)))
     (au (ku (i:=8) rV.nd (cC DT hr (ae (pv 5) (ae (pv 7) ah))))
     (aF (cQ (bo En (pv 8) jg (bP _)) (aF (gA (ql cx eA eB gE (pv 1) (ae (bQ (ae (pv 4) (ae (pv 6) (ae (pv 8) ah)))) ah)))) bN))))))
   (aF (bH (pv 1))))),?_⟩
  obtain⟨dx,vs0,qO,c1,_⟩:=id hC
  refine lF λNQ zo=>?_
  refine⟨dP,λl hl=>?_⟩
  exists hl,.lst [],H,l,s1,w1,M1
  refine zo _ _ ?_
  refine lF λZa Gm=>?_
  refine⟨_,rfl,cb,dx,_,rfl,s1 _ _ c1,rfl,cb,sl,ll,S,sts,cG,rfl,hC.same s1,λl2 us oE Sa=>?_⟩
  rw[<-NR] at Sa
  have s2:=aP oE (.lst us)
  have w2:upd M1 l2 (.lst us) l2=some (.lst us):=aB
  have Ml:=s2 _ _ w1
  have Qs:l2≠l:=λz=>by rw[z,w1] at oE;cases oE
  try dsimp only
  generalize upd M1 l2 (.lst us)=M2 at*
  refine Gm _ _ ?_
  have ju:=s1.trans s2
  have U6:Paired (jV M2) us rows:=av Sa λ_ _ z=>z.up λb xs e=>s2 _ _ e
  have BC:=bS Sa
  refine lF λDH3 PU=>?_
  refine⟨_,rfl,l2,rfl,⟨_,cT.of w2⟩,yk (K:=K) (a:=l2) (xs:=us) (λi bX H'=>∃(v3 v4 v5 v6 v7 v8:Option V) (ws:List V) (L:List Row3),bX=[some (.ref cb),some (.ref l),some (.ref l2),v3,v4,v5,v6,v7,v8]/\ez l M2 H'/\H' l=some (.lst ws)/\Paired (nZ H') ws L/\L++uJ (rows.drop i)=uJ rows/\L.length<=31*i)
   ⟨_,_,_,_,_,_,[],[],rfl,ez.refl _ _,Ml,.nil,rfl,ς⟩ (λi bX H' _ h=>by obtain⟨_,_,_,_,_,_,_,_,_,kp,_⟩:=h;exact cT.of (kp _ _ Qs w2)) ?_ ?_⟩
  .rintro i x bX H' T hx ⟨v3,v4,v5,v6,v7,v8,ws,L,rfl,kp,hL,pr,eL,lL⟩ hT
   have U7:i<us.length:=(br.mp hx).1
   have hi:i<rows.length:=BC▸U7
   obtain⟨_,hu,u,r,rfl,Pf,Zb⟩:=eJ U6 i hi
   rw[hu] at hx
   cases hx
   have tk:∀{b xs},M2 b=some (.tup xs)->H' b=some (.tup xs):=λ{b xs} e=>kp _ _ (λz=>by rw[z,Ml] at e;cases e) e
   exists hT,.tup [.int i,.ref u],H',T,sT,wT,M3
   have k3:ez l M2 M3:=kp.trans sT.keep
   have dp:rows.drop i=rows[i]::rows.drop (i+1):=jY hi
   have Qt:=eN rows[i] (cB hi)
   refine⟨T,_,rfl,bZ.of wT,rfl,_,_,rfl,_,_,rfl,Gf (bZ.of (sT _ _ (tk Pf))) ⟨rfl,?_⟩⟩
   refine⟨_,rfl,_,rfl,_,_,rfl,rfl,_,rfl,l2,us,rfl,cT.of (k3 _ _ Qs w2),λq hq=>?_⟩
   have Qu:jh us (some ((i:Int)+1)) none=us.drop (i+1):=by
    unfold jh
    rw[show((i:Int)+1)=((i+1:Nat):Int) from rfl,HT.lW,HT.rE,jf U7,cY ς]
   rw[Qu]
   have sq:=aP hq (.lst (us.drop (i+1)))
   have wq:upd M3 q (.lst (us.drop (i+1))) q=some (.lst (us.drop (i+1))):=aB
   have nq:q≠l:=λz=>by rw[z,sT _ _ hL] at hq;cases hq
   generalize upd M3 q (.lst (us.drop (i+1)))=M4 at*
   have U8:=sT.trans sq
   refine⟨q,rfl,⟨_,cT.of wq⟩,oS (K:=K) (a:=q) (xs:=us.drop (i+1)) (λm bX H'=>∃(v6 v7 v8:Option V) (ws:List V) (L:List Row3),bX=[some (.ref cb),some (.ref l),some (.ref l2),some (.int i),some (.int rows[i].1),some (.ref r),v6,v7,v8]/\ez l M4 H'/\H' l=some (.lst ws)/\Paired (nZ H') ws L/\(L++GC rows[i] ((rows.drop (i+1)).drop m))++uJ (rows.drop (i+1))=uJ rows/\L.length<=31*i+m)
    ⟨_,_,_,ws,L,rfl,ez.refl _ _,U8 _ _ hL,av pr λa b h=>h.up λb xs e=>U8 _ _ e,by rw[dp] at eL;show(L++GC rows[i] (rows.drop (i+1)))++_=_;rw[hU];exact eL,lL⟩ (λm bX H' _ h=>by obtain⟨_,_,_,_,_,_,Cw,_⟩:=h;exact cT.of (Cw _ _ nq wq)) ?_ ?_⟩
   .rintro m x bX H5 hx ⟨w6,w7,w8,Dt,L5,rfl,k5,JH,Ms,e5,l5⟩
    rw[List.getElem?_drop] at hx
    have U9:i+1+m<us.length:=(br.mp hx).1
    have hj:i+1+m<rows.length:=BC▸U9
    obtain⟨_,Qv,u',r',rfl,Qw,Qx⟩:=eJ U6 (i+1+m) hj
    rw[Qv] at hx
    cases hx
    have KO:∀b xs,M2 b=some (.tup xs)->H5 b=some (.tup xs):=λb xs e=>k5 _ _ (λz=>by rw[z,Ml] at e;cases e) (sq _ _ (sT _ _ (tk e)))
    refine Gf (bZ.of (KO _ _ Qw)) ?_
    have WC:=eN rows[i+1+m] (cB hj)
    refine⟨_,rfl,_,rfl,r,r',rows[i].2,rows[i+1+m].2,rfl,Zb.up KO,Qx.up KO,Qt.1,WC.1,Qt.2,λv rr H6 s6 td dv=>?_⟩
    have er:=Bh Qt.2 td
    have dd:(rows.drop (i+1)).drop m=rows[i+1+m]::(rows.drop (i+1)).drop (m+1):=by
     rw[xv,xv,show i+1+(m+1)=(i+1+m)+1 from rfl]
     exact jY hj
    rw[dd] at e5
    have Qy:((L5++zA rows[i].1 rows[i+1+m].1 rr)++GC rows[i] ((rows.drop (i+1)).drop (m+1)))++uJ (rows.drop (i+1))=uJ rows:=by
     rw[<-e5,er,hU L5];rfl
    refine⟨_,rfl,rfl,_,rfl,?_⟩
    have U_:Paired (nZ H6) Dt L5:=av Ms λa b h=>h.up λb xs e=>s6 _ _ e
    have k6:ez l M4 H6:=k5.trans s6.keep
    cases rr with
    |none=>
     have:v=.eK:=dv
     subst this
     refine ite_no δ ?_
     exact⟨_,_,_,Dt,L5,rfl,k6,s6 _ _ JH,U_,by rw[show zA rows[i].1 rows[i+1+m].1 none=[] from rfl,eR] at Qy;exact Qy,Nat.le_succ_of_le l5⟩
    |some t=>
     obtain⟨y,rfl,ty⟩:=dv
     refine ite_yes (by rw[bD ς];rfl) ?_
     refine⟨_,rfl,.inl ⟨rfl,_,cT.of (s6 _ _ JH)⟩,_,rfl,_,rfl,_,rfl,dP,λa ha=>?_⟩
     have sa:=aP ha (.tup [.int rows[i].1,.int rows[i+1+m].1,.ref y])
     have wa:upd H6 a (.tup [.int rows[i].1,.int rows[i+1+m].1,.ref y]) a=some (.tup [.int rows[i].1,.int rows[i+1+m].1,.ref y]):=aB
     have Va:=sa _ _ (s6 _ _ JH)
     generalize upd H6 a (.tup [.int rows[i].1,.int rows[i+1+m].1,.ref y])=H7 at*
     have Zc:=pN Ms
     refine⟨l,Dt,.ref a,rfl,rfl,Va,dD (rwA l5 Zc (BC▸U9) l30),?_⟩
     have kt:∀b xs,H7 b=some (.tup xs)->upd H7 l (.lst (Dt++ [.ref a])) b=some (.tup xs):=λb xs e=>by rw[aV (λz=>by rw[z,Va] at e;cases e)];exact e
     refine⟨_,_,_,Dt++ [.ref a],L5++ [(rows[i].1,rows[i+1+m].1,t)],rfl,λb o n e=>by rw[aV n];exact sa _ _ (k6 _ _ n e),aB,dU (av U_ λa b h=>h.up λb xs e=>kt _ _ (sa _ _ e)) ⟨a,y,rfl,kt _ _ wa,(ty.same sa).up kt⟩,Qy,by rw[aK,aJ];exact mL l5⟩
   .rintro bX H5 ⟨w6,w7,w8,Dt,L5,rfl,k5,JH,Ms,e5,l5⟩
    rw[show(rows.drop (i+1)).drop (us.drop (i+1)).length=[] from Sx (by rw[dF,dF,BC];exact ar _)] at e5
    refine⟨_,_,_,_,_,_,Dt,L5,rfl,λb o n e=>k5 _ _ n (sq _ _ (k3 _ _ n e)),JH,Ms,by rw[show GC rows[i] []=[] from rfl,eR] at e5;exact e5,by rw[dF] at l5;exact rwB l5 (by rw[BC];exact l30)⟩
  .rintro bX H' ⟨v3,v4,v5,v6,v7,v8,ws,L,rfl,kp,hL,pr,eL,lL⟩
   refine PU _ _ ?_
   rw[BC,List.drop_length,show uJ []=[] from rfl,eR] at eL
   subst eL
   refine⟨_,rfl,hQ l ws H' hl (λb o e=>kp _ _ (λz=>by rw[z,hl] at e;cases e) (ju _ _ e)) hL pr⟩
end
def fz.two {X:Cx}{scope:Scope}{nm:List (Str×NameKind)}{v fr fs:Str}{j k:Nat}(hN:X.N[j]?=some fr) (hM:X.N[k]?=some fs) (hk:scope.kind=.function) (hn:scope.names=nm) (h1:X.env.scope.names.lookup fr=some .cell) (h2:X.env.scope.names.lookup fs=some .cell) (c1:∀y∈nm,y.2≠.cell:=by decide+kernel)
  (c2:∀y∈nm,y.2=.local->nm.lookup y.1=some .local:=by decide+kernel) (c3:∀y∈nm,y.2=.free->y.1=fr\/y.1=fs:=by decide+kernel) (c4:(fr,NameKind.free)∈nm:=by decide+kernel) (c5:nm.lookup fr=some .free:=by decide+kernel) (c6:(fs,NameKind.free)∈nm:=by decide+kernel) (c7:nm.lookup fs=some .free:=by decide+kernel):fz X scope [v,fr,fs] [none,some j,some k] where
 kind:=hk
 qD:=by rw[hn];exact c1
 own:=by rw[hn];exact c2
 out:=by
  rw[hn]
  intro y hy e
  rcases c3 y hy e with z|z
  .rw[z];exact .inl h1
  .rw[z];exact .inl h2
 len:=rfl
 free:=by
  intro i j' x e1 e2
  rw[hn]
  match i,e1,e2 with
  |1,e1,e2=>cases e1;cases e2;exact⟨hN,c4,c5⟩
  |2,e1,e2=>cases e1;cases e2;exact⟨hM,c6,c7⟩
  |n+3,e1,e2=>simp at e1
def mX (l:List oG):List oG:=l.mergeSort λa b=>!nM b a
def JI {a b:List oG}(ha:a.Pairwise λe e'=>nM e' e=false) (hb:b.Pairwise λe e'=>nM e' e=false) (p:a.Perm b):a=b:=
 Oo (λx y _ _ h1 h2=>by
  by_cases e:x=y
  .exact e
  .rcases uf.Pu _ _ e with z|z
   .rw[z] at h2;cases h2
   .rw[z] at h1;cases h1) ha hb p
def NS (h:nM a b=true):nM b a=false:=by
 cases e:nM b a with
 |false=>rfl
 |true=>have:=uf.trans _ _ _ h e;rw[uf.RX] at this;cases this
def rW (l:List oG):(mX l).Pairwise λe e'=>nM e' e=false:=by
 have:=List.pairwise_mergeSort (le:=λa b:oG=>!nM b a) (λa b c h1 h2=>by
  simp only[lN] at h1 h2⊢
  by_cases e1:a=b
  .rw[e1];exact h2
  by_cases e2:b=c
  .rw[<-e2];exact h1
  have g1:nM a b=true:=by rcases uf.Pu _ _ e1 with z|z;exact z;rw[z] at h1;cases h1
  have g2:nM b c=true:=by rcases uf.Pu _ _ e2 with z|z;exact z;rw[z] at h2;cases h2
  exact NS (uf.trans _ _ _ g1 g2)) (λa b=>by
  cases e:nM b a with
  |false=>rfl
  |true=>rw[NS e];rfl) l
 exact this.imp λh=>by simpa using h
def wY (l:List oG):(mX l).Perm l:=List.mergeSort_perm _ _
def wZ (p:l'.Perm l) (s:l'.Pairwise λe e'=>nM e' e=false):l'=mX l:=JI s (rW l) (p.trans (wY l).symm)
def zB:∀{ws:List V}{bx:List oG},Paired (f_ H) ws bx->∃L:List (mE (Str×Str×Int)),ws=L.map (λe=>V.ref e.a)/\L.map (·.key)=bx/\∀e∈L,US H e
 |_,_,.nil=>⟨[],rfl,rfl,λ_ h=>nomatch h⟩
 |_,_,.cons (b:=r) ⟨a,e1,e2⟩ t=>by
  obtain⟨L,h1,h2,h3⟩:=zB t
  refine⟨⟨a,r.1,[.str r.2.1,.int r.2.2],r⟩::L,by rw[e1,h1];rfl,by rw[bK,h2],λe he=>?_⟩
  rcases aD.mp he with rfl|he
  .exact⟨rfl,rfl,e2⟩
  .exact h3 e he
def zC:∀{L:List (mE (Str×Str×Int))},(∀e∈L,US H e)->Paired (f_ H) (L.map λe=>V.ref e.a) (L.map (·.key))
 | [],_=>.nil
 |e::L,h=>.cons ⟨e.a,rfl,(h e (.head _)).2.2⟩ (zC λx hx=>h x (.tail _ hx))
def lU.weak (h:lU X f r) (k:∀x y H Q,r' x y H Q->r x y H Q):lU X f r':=λac s Z H x y v u Q I rx ry q=>h ac s Z H x y v u Q I rx ry (k _ _ _ _ q)
def Vb:R2:=λx y H Q=>∃a b xs ys,x=.ref a/\y=.ref b/\H a=some (.tup xs)/\H b=some (.tup ys)/\ys≠[]/\xs.length+ys.length<=1000/\∀M p,a_ H M->M p=some (.tup (xs++ys))->Q (.ref p) M
def Mt:lU X (binaryOp .Add) Vb:=lU.weak EB (by
 rintro x y H Q ⟨a,b,xs,ys,rfl,rfl,h1,h2,h3,h4,q⟩
 exact⟨a,b,xs,ys,rfl,rfl,bZ.of h1,bZ.of h2,h3,cR (dD h4),λe=>q H b (a_.refl _) (by rw[e];exact h2),λ_ p hp=>q _ p (aP hp _) aB⟩)
section
variable {P:aM}{w:bB}{K:Φ}{mg:Str->Option ag}{base:Heap}
abbrev Qz:Stmt:=top 38
def Vc:bW ["crew"] ["crew"] (aw Qz):={}
def Zd:(["rower"]:List Str).Nodup:=by decide+kernel
def fF (bx:List oG):List Str:=bx.map (·.1)
def EX:Sp:=λvs H Q _=>∃(cr:ai) (ws:List V) (bx:List oG),vs=[.ref cr]/\H cr=some (.tup ws)/\Paired (f_ H) ws bx/\bx.length<=100/\∀L J,a_ H J->J L=some (.lst ((fF bx).map V.str))->Q (.ref L) J
def QA (F:ji K "names_of" "names_of" Qz f fd):dW P w K mg base fT 1 f fd ["crew"] EX:=by
 exists F.ok,Vc
 .obtain⟨cr,ws,bx,rfl,_⟩:=h
  rfl
 .obtain⟨cr,ws,bx,rfl,h1,h2,h3,q⟩:=h
  refine⟨_,aF (bH (kE (N:=["rower"]) (g:=dI 0) (tc:=qE) (te:=gJ (gj K) (b_ 0) (tC (.int 0))) rfl (iq (pv 0)) (fz.closed rfl)
   (λ_ _ _=>aZ (i:=0) Zd) (λ_ _ _=>iX) (λ_ _ _=>bg bw (pv 0) ao))),?_⟩
  have lu:=bS h2
  refine⟨_,rfl,cr,rfl,⟨_,bZ.of h1⟩,λL hL=>?_⟩
  refine lE (n:=ws.length) (f:=λi=>ws.getD i .eK) (λj ys bX J=>(∃v,bX=[v])/\a_ H J/\ys=(fF (bx.take j)).map V.str) hL ω ⟨⟨_,rfl⟩,bR (a_.refl _) hL,rfl⟩ (λj ys bX J hj hy ⟨_,sj,_⟩=>kQ (K:=K) (bZ.of (sj _ _ h1)) j hj) ?_ ?_
  .rintro j ys bX J hj hy ⟨⟨v,rfl⟩,sj,rfl⟩
   have rf:j<bx.length:=ω
   obtain⟨u,eu,a,rfl,e1⟩:=eJ h2 j rf
   rw[getD_some eu]
   refine iB rfl (bZ.of (sj _ _ e1)) (aT (j:=0) rfl) ⟨hy,⟨_,rfl⟩,bR sj hL,?_⟩
   unfold fF
   rw[fW rf,bF,bF];rfl
  .rintro ys bX J hy ⟨_,sj,rfl⟩
   rw[lu,dj] at hy
   exact q L J sj hy
def rX (x:Str) (ns:List Str):HN (.str x) (ns.map V.str)=decide (x∈ns):=by
 unfold HN
 rw[Sr]
 induction ns with
 |nil=>rfl
 |cons a l ih=>
  rw[kj,ih]
  have:KJ (V.str a) (.str x)=decide (a=x):=rfl
  show(KJ (V.str a) (.str x)||_)=_
  rw[this]
  by_cases e:a=x
  .subst e;simp
  .have e':¬x=a:=λz=>e z.symm
   simp[e,e']
def mY (ns:List Str):(ns.map V.str).all qk=true:=by
 rw[mM]
 intro v hv
 obtain⟨x,_,rfl⟩:=cS.mp hv
 rfl
def Mu:bW ["self","name","crew","standing","following"] ["self","name"] (aw Y3):={}
def Ze:List (Str×NameKind):=[(".0",.local),("rower",.local),("name",.free)]
def Zf:(["rower","name"]:List Str).Nodup:=by decide+kernel
def nP (bx:List oG) (x:Str):List oG:=bx.filter λr=>!decide (r.1=x)
def Mv (v:Option V) (hL:H1 L=none) (h:H1 a=some (.tup us)) (pr:Paired (f_ H1) us bx) (hl:bx.length<=1000)
  (q:∀ys J,a_ H1 J->J L=some (.lst ys)->Paired (f_ J) ys (nP bx x)->Q (.ref L) J):
  qg (Ei K a) (dI 0) (gw (gJ K8 (gJ (gj K) (b_ 0) (tC (.int 0))) (b_ 1))) (b_ 0) [v,some (.str x)] H1 Q L:=by
 have lu:=bS pr
 refine lY (n:=us.length) (f:=λi=>us.getD i .eK) (λj ys bX J=>(∃v,bX=[v,some (.str x)])/\a_ H1 J/\Paired (f_ J) ys (nP (bx.take j) x)) hL ω ⟨⟨_,rfl⟩,bR (a_.refl _) hL,.nil⟩ (λj ys bX J hj hy ⟨_,sj,_⟩=>kQ (K:=K) (bZ.of (sj _ _ h)) j hj) ?_ ?_
 .rintro j ys bX J hj hy ⟨⟨v,rfl⟩,sj,pj⟩
  have rf:j<bx.length:=ω
  obtain⟨u,eu,b,rfl,e1⟩:=eJ pr j rf
  rw[getD_some eu]
  refine iB rfl (bZ.of (sj _ _ e1)) (aT (j:=0) rfl) ⟨_,rfl,rfl,_,rfl,?_⟩
  unfold nP at*
  rw[lH,fW rf,u_]
  by_cases e:bx[j].1=x
  .refine ite_no (by simp[e]) ?_
   refine⟨hy,⟨_,rfl⟩,sj,?_⟩
   rw[aO (by simp[e])]
   exact pj
  .refine ite_yes (by simp[e]) ?_
   have Bf:∀c xs,J c=some (.tup xs)->upd J L (.lst (ys++ [.ref b])) c=some (.tup xs):=λc xs e=>by rw[aV (λz=>by rw[z,hy] at e;cases e)];exact e
   refine⟨_,rfl,hy,⟨_,rfl⟩,bR sj hL,?_⟩
   rw[aQ (by simp[e])]
   exact dU (av pj λ_ _ z=>z.up Bf) ⟨b,rfl,Bf _ _ (sj _ _ e1)⟩
 .rintro ys bX J hy ⟨_,sj,pj⟩
  rw[lu,dj] at pj
  exact q ys J sj hy pj
def QB (C CA:ai):Sp:=λvs H Q E=>∃(cb sl ll:ai) (x:Str) (S:Cs) (sts cG:List Cs),vs=[.ref cb,.str x]/\e_ C H cb sl ll (sts++ [S]) cG/\sts.length<=890/\S.bx.length<=90/\
 ((x∉fF S.bx/\∀H',a_ H H'->E (.ref CA) none H')\/(x∈fF S.bx/\
 ∀pX H',ET cb sl ll H H'->H pX=none->e_ C H' cb sl pX (sts++ [S]++ [⟨nP S.bx x,S.rows,S.n⟩]) []->Q .eK H'))
def Vd (F:ji K "go" "Club.go" Y3 f fd) (CC:Hk K C) (OA:tL K mg "NoName" CA) (DN:Df P w K mg base 1 "names_of" ["crew"] EX) (DE:zv P w K mg base 1 C "enter" ["self","crew","standing","following"] (nO C)):dW P w K mg base (q_ P w) 2 f fd ["self","name"] (QB C CA):=by
 exists F.L7,Mu
 .obtain⟨cb,sl,ll,x,S,sts,cG,rfl,_⟩:=h
  rfl
 .obtain⟨cb,sl,ll,x,S,sts,cG,rfl,hC,WB,Y_,hq⟩:=h
  refine⟨_,au (iQ (bg cV (jB (pv 0) rfl) (qj mw ao)) (gg rfl (bz (aZ (i:=2) Mu.nd) (bz (aZ (i:=3) Mu.nd) (bz (aZ (i:=4) Mu.nd) eZ)))))
   (au (cQ (bo gR (pv 1) (cC DN hr (ae (pv 2) ah)) rfl) (aF (gZ (W:=λcls ej _ H'=>E cls ej H') jH rfl rfl OA rfl (ae aW ah))) bN)
   (aF (gA (Bc DE hr (pv 0) (ae (kE (N:=["rower","name"]) (g:=dI 0) (tc:=gw (gJ K8 (gJ (gj K) (b_ 0) (tC (.int 0))) (b_ 1))) (te:=b_ 0) rfl (iq (pv 2))
    (fz.one (v:="rower") (fr:="name") (j:=1) (nm:=Ze) rfl rfl rfl rfl)
    (λ_ _ _=>aZ (i:=0) Zf) (λ_ _ _=>ig (bo mT (bg bw (pv 0) ao) (pv 1) (bP _))) (λ_ _ _=>pv 0)) (ae (pv 3) (ae (pv 4) ah))))))),?_⟩
  obtain⟨dx,vs,ws,c1,c2,c3,c4,c5,c6,c7,c8⟩:=id hC
  obtain⟨EU,_,rfl,Gy,st,cr,sd,qO,us,rfl,e1,e2,vH,e3,e4⟩:=fi c7
  refine lF λNQ zo=>?_
  refine⟨_,rfl,cb,C,dx,_,_,rfl,c1,CC.c,CC.ns,rfl,1,rfl,sl,_,-1,.ref st,rfl,rfl,cT.of c5,lj _ _,TZ (bZ.of e1) ?_⟩
  refine zo _ _ ?_
  refine⟨_,rfl,_,rfl,cr,qO,S.bx,rfl,e2,vH,ω,λL J sJ hJ=>?_⟩
  refine⟨L,_,rfl,.inl (cT.of hJ),rfl,mY _,_,rfl,?_⟩
  rw[rX]
  rcases hq with⟨no,hE⟩|⟨yes,hQ⟩
  .rw[bD no]
   exact ite_yes δ ⟨dP,hE J sJ⟩
  rw[aI yes]
  refine ite_no δ ?_
  refine⟨_,rfl,cb,dx,_,rfl,sJ _ _ c1,rfl,_,rfl,cr,rfl,⟨_,bZ.of (sJ _ _ e2)⟩,λL2 Ac=>?_⟩
  refine Mv none Ac (sJ _ _ e2) (av vH λ_ _ z=>z.up λb xs e=>sJ _ _ e) ω λys J2 s2 Qo U4=>?_
  have zz:=sJ.trans s2
  refine⟨_,rfl,_,rfl,cb,sl,ll,L2,sd,ys,us,S.n,_,S.rows,sts++ [S],cG,rfl,hC.same zz,by rw[aK,aJ];omega,.inr Qo,U4,.inl (zz _ _ e3),av e4 λ_ _ q=>q.up λb xs e=>zz _ _ e,λpX H' k' f' C'=>?_⟩
  exact hQ pX H' (λb o n1 n2 n3 e=>k' _ _ n1 n2 n3 (zz _ _ e)) (cK zz f') C'
end
end K12
namespace L2
open PySem PySem.Spec PyProof.Rows PySem.W
def JJ:List TE->Str->TE
 | [],acc=>λZ H Q=>acc.length<=sizeLine/\Q (.str acc) H
 |t::ts,acc=>λZ H Q=>t Z H λx H1=>∃y,x=.str y/\(acc++y).length<=sizeLine/\JJ ts (acc++y) Z H1 Q
def NT:V->Option Str
 | .int n=>if n.natAbs.log2<1920 then some (Str.ofString (toString n)) else none
 | .str x=>if x.length<=sizeLine then some x else none
 |_=>none
def Zg (te:TE):TE:=λZ H Q=>te Z H λx H1=>∃y,NT x=some y/\Q (.str y) H1
section
variable {X:Cx}
def Bi:∀{es:List Expr}{ts:List TE},Paired (PE X) es ts->∀(acc:Str) (H:Hp) (s:aj),Inv X ac Z H s->JJ ts acc Z H Q->
  Joins (model X.prog X.w) X.A X.xe (evalEach es X.env) acc (λout s1=>out.length<=sizeLine/\EP X ac Z Q (.str out s1.toks) {s1 with toks:=s1.toks+1}) s
 |_,_,.nil,acc,H,s,I,h=>⟨h.1,.str acc,H,I.tok _,⟨_,rfl⟩,h.2⟩
 |_,_,.cons p r,acc,H,s,I,h=>by
  refine fq (p ac s Z H _ I h) λu s1 cZ=>?_
  obtain⟨x,H1,I1,rx,y,ex,hl,q⟩:=cZ
  subst ex
  obtain⟨t,rfl⟩:=rx
  exact⟨y,t,rfl,hl,Bi r _ H1 s1 I1 q⟩
def GD (hp:Paired (PE X) (e1::e2::es) ts):PE X (.JoinedStr (e1::e2::es) pos) (JJ ts Str.empty):=by
 intro ac s Z H Q I h
 exact wpAny_JoinedStr (Bi hp _ H s I h)
def QC (he:PE X e te):PE X (.FormattedValue e (-1) none pos) (Zg te):=by
 intro ac s Z H Q I h
 refine wpAny_FormattedValue_plain (fq (he ac s Z H _ I h) λu s1 cZ=>?_)
 obtain⟨x,H1,I1,rx,y,ey,q⟩:=cZ
 cases x with
 |int n=>
  obtain⟨t,rfl⟩:=rx
  replace ey:(if n.natAbs.log2<1920 then some (Str.ofString (toString n)) else none)=some y:=ey
  split at ey
  .rename_i hl
   cases ey
   exact wpAny_formatField_int hl ⟨.str (Str.ofString (toString n)),H1,I1.tok _,⟨_,rfl⟩,q⟩
  .cases ey
 |str z=>
  obtain⟨t,rfl⟩:=rx
  replace ey:(if z.length<=sizeLine then some z else none)=some y:=ey
  split at ey
  .rename_i hl
   cases ey
   exact wpAny_formatField_str ⟨.str y,H1,I1,⟨_,rfl⟩,q⟩ ⟨.str y,H1,I1.tok _,⟨_,rfl⟩,q⟩ hl
  .cases ey
 |_=>cases ey
end
structure NU (K:Φ) (R:ai):Prop where
 ga:specialIn K (.ref R) "__getattribute__"=some (some (.builtin "type.__getattribute__"))
 rd:readsIn K R (.type "type")=true
 fc:findCls K (.ref R) (.type "type") "__init__"=some (.val (.builtin "ValueError.__init__"))
def QD (K:Φ) (C fI:ai) (te tf:TE):TE:=λZ H Q=>te Z H λx H1=>tf Z H1 λy H2=>∃a,x=.ref a/\H2 a=some (qN a (.ref C) none)/\A7 K C fI/\Q .eK H2
def JK {X:Cx}{x:Str}{R C fI:ai}{e f:Expr}{te tf:TE}{np apos pos:Pos}{pl:Sem Bool}(B:NU X.K R) (hg:Gl X x) (hm:X.mg x=some (.ref R)) (he:PE X e te) (hf:PE X f tf)
  (ht:eval (.Call (.Attribute (.Name x np) "__init__" apos) [e,f] [] pos) X.env=(do
   let ov<-eval (.Name x np) X.env
   standAt apos.atName
   let(f',first)<-holding [ov] (getMethod ov "__init__" pl)
   callWith pos f' first (backTo pos (starEach [e,f] X.env)) (backToKw pos (keywordEach [] X.env))):=by rfl)
  (htr:backTo pos (starEach [e,f] X.env)=[(false,eval e X.env),(false,eval f X.env)]:=by rfl) (qy:(x==("__debug__":Str))=false:=by decide):
  PE X (.Call (.Attribute (.Name x np) "__init__" apos) [e,f] [] pos) (QD X.K C fI te tf):=by
 intro ac s Z H Q I h
 refine gK (pl:=pl) (jy I hg hm ?_ qy) ht
 refine method_cls I.kY B.ga (cls_value I.kY B.rd B.fc rfl ?_)
 have J:=I.tok (s.toks+1)
 rw[htr]
 refine yE rfl (BI (Hm (fq (he ac _ Z H _ J h) λu s1 cZ=>?_)))
 obtain⟨v,H1,I1,rv,q1⟩:=cZ
 refine Hm (fq (hf ac s1 Z H1 _ I1 q1) λu2 s2 Ao=>?_)
 obtain⟨y,H2,I2,ry,a,ev,ea,O,q2⟩:=Ao
 refine Calls.spliced_nil ?_
 subst ev
 obtain rfl:u=Value.ref a:=rv
 obtain⟨tl,N,nm,q,bs,hdct,sn,sub,ab,col,dd,k0,k1,k2,k3,k5,mN,hC,hN,hi,T⟩:=O.own I2.kY
 obtain⟨⟨t0,h1⟩,_⟩:=I2.eN a _ ea
 obtain⟨hp,g,d,t,os⟩:=s2
 refine init_exc gI T hC h1 (by rw[aJ,gX];omega) λh' t1 g1 g2=>⟨.eK,H2,?_,rfl,q2⟩
 have:=I2.write (x:=a) (e:=a) (o:=qN a (.ref C) none) (h':=h') (t':=t) (by rw[ea];exact True.intro) (.inl rfl) (λb u hb z=>g2 b u hb z) ⟨_,g1⟩ (zr g1)
 rwa[P6 ea] at this
end L2
namespace K12
open PySem L2 HT PySem.W
def QE:Stmt:=match top 3 with
 | .ClassDef _ _ _ b _ _ _ _ _ _ _=>b.getD 0 (.Pass ⟨0,0,0,0⟩)
 |_=>.Pass ⟨0,0,0,0⟩
abbrev Zh:Stmt:=QE
def Zi:bW ["self","many"] ["self","many"] (aw Zh):={}
def Bj {n:Nat}(h:n<=40320):NT (.int n)=some (Str.ofString (toString (n:Int)))/\(Str.ofString (toString (n:Int))).length<=10:=by
 have h1:(n:Int).natAbs<10^5:=ω
 have e:=int_text_length_le10 (a:=(n:Int)) (k:=5) δ h1
 refine⟨?_,?_⟩
 .show(if(n:Int).natAbs.log2<1920 then _ else _)=_
  rw[aQ]
  have:(n:Int).natAbs=n:=Ah n
  rw[this]
  by_cases z:n=0
  .rw[z];decide
  .exact(Nat.log2_lt z).mpr (bb h (bh (by decide:40320<2^16) (Nat.pow_le_pow_right δ δ)))
 .rw[ofString_length];omega
section
variable {P:aM}{w:bB}{K:Φ}{mg:Str->Option ag}{base:Heap}
def Ve (C:ai):Sp:=λvs H Q _=>∃(a:ai) (n:Nat),vs=[.ref a,.int n]/\n<=40320/\H a=some (qN a (.ref C) none)/\∀d,H d=none->d≠a->Q .eK (upd (upd H d (.xd [("many",.int n)])) a (qN a (.ref C) (some d)))
def Vf (F:ji K "__init__" "TooMany.__init__" Zh f fd) (O:A7 K C f) (OW:P5 K C) (nm:jA K C "many") (B:NU K R) (mr:mg "RowError"=some (.ref R)):dW P w K mg base fT 1 f fd ["self","many"] (Ve C):=by
 exists F.ok,Zi
 .obtain⟨a,n,rfl,_⟩:=h
  rfl
 .obtain⟨a,n,rfl,hn,ha,q⟩:=h
  refine⟨_,au (gA (JK (C:=C) (fI:=f) B rfl mr (pv 0) (GD (.cons aW (.cons (QC (pv 1)) .nil))))) (aF (Mc (pv 0) (pv 1) rfl)),?_⟩
  have l2:((Str.empty++"too many: ")++Str.ofString (toString (n:Int))).length<=sizeLine:=by
   have:=(Bj hn).2
   rw[strLen_append,gX]
   have e:(Str.empty++("too many: ":Str)).length=10:=by decide+kernel
   omega
  exact⟨_,rfl,_,rfl,by rw[gX];decide+kernel,_,rfl,_,(Bj hn).1,_,rfl,l2,l2,a,rfl,ha,O,_,rfl,_,rfl,a,C,rfl,ha,OW,nm,q⟩
end
def JL (ha:H a=none) (hd:upd H a o1 d=none) (na:d≠a):a_ H (del (upd (upd (upd H a o1) d o2) a o3) a)/\H d=none/\del (upd (upd (upd H a o1) d o2) a o3) a d=some o2:=by
 rw[aV na] at hd
 refine⟨λb o e=>?_,hd,?_⟩
 .have n1:b≠a:=dB e ha
  have n2:b≠d:=dB e hd
  rw[pq n1,aV n1,aV n2,aV n1];exact e
 .rw[pq na,aV na,aB]
section
variable {P:aM}{w:bB}{K:Φ}{mg:Str->Option ag}{base:Heap}
def rY:bW ["self","name","weight","crew","standing","following","weighed"] ["self","name","weight"] (aw Dn):={}
def Zj:List (Str×NameKind):=[(".0",.local),("rower",.local),("name",.free),("weight",.free)]
def Zk:(["rower","name","weight"]:List Str).Nodup:=by decide+kernel
def yC (x:Str) (i:Int) (r:oG):oG:=if r.1=x then(r.1,r.2.1,i) else r
def Vg (K:Φ):TE:=W9 (gw (gJ Hb (gJ (gj K) (b_ 0) (tC (.int 0))) (b_ 1))) (oU (cA (gJ (gj K) (b_ 0) (tC (.int 0))) (cA (gJ (gj K) (b_ 0) (tC (.int 1))) (cA (b_ 2) fE)))) (b_ 0)
def Mw (v:Option V) (hL:H1 L=none) (h:H1 a=some (.tup us)) (pr:Paired (f_ H1) us bx) (hl:bx.length<=1000)
  (q:∀ys J,a_ H1 J->J L=some (.lst ys)->Paired (f_ J) ys (bx.map (yC x i))->Q (.ref L) J):
  qg (Ei K a) (dI 0) qE (Vg K) [v,some (.str x),some (.int i)] H1 Q L:=by
 have lu:=bS pr
 refine lE (n:=us.length) (f:=λi=>us.getD i .eK) (λj ys bX J=>(∃v,bX=[v,some (.str x),some (.int i)])/\a_ H1 J/\Paired (f_ J) ys ((bx.take j).map (yC x i))) hL ω ⟨⟨_,rfl⟩,bR (a_.refl _) hL,.nil⟩ (λj ys bX J hj hy ⟨_,sj,_⟩=>kQ (K:=K) (bZ.of (sj _ _ h)) j hj) ?_ ?_
 .rintro j ys bX J hj hy ⟨⟨v,rfl⟩,sj,pj⟩
  have rf:j<bx.length:=ω
  obtain⟨u,eu,b,rfl,e1⟩:=eJ pr j rf
  rw[getD_some eu]
  rw[fW rf,bF]
  refine iB rfl (bZ.of (sj _ _ e1)) (aT (j:=0) rfl) ⟨_,rfl,rfl,_,rfl,?_⟩
  rw[lH]
  by_cases e:bx[j].1=x
  .refine ite_yes (by simp[e]) ?_
   refine iB rfl (bZ.of (sj _ _ e1)) (aT (j:=0) rfl) (iB rfl (bZ.of (sj _ _ e1)) (aT (j:=1) rfl) ⟨_,rfl,dP,λt ht=>?_⟩)
   have Bf:∀c xs,J c=some (.tup xs)->upd (upd J t (.tup [.str bx[j].1,.str bx[j].2.1,.int i])) L (.lst (ys++ [.ref t])) c=some (.tup xs):=λc xs e=>by
    rw[aV (λz=>by rw[z,hy] at e;cases e),aV (λz=>by rw[z,ht] at e;cases e)];exact e
   have ntL:t≠L:=λz=>by rw[z,hy] at ht;cases ht
   refine⟨by rw[aV (cD ntL)];exact hy,⟨_,rfl⟩,bR (bR sj (cK sj ht)) hL,?_⟩
   refine dU (av pj λ_ _ z=>z.up Bf) ⟨t,rfl,?_⟩
   rw[aV ntL,aB]
   unfold yC
   rw[aQ e]
  .refine ite_no (by simp[e]) ?_
   have Bf:∀c xs,J c=some (.tup xs)->upd J L (.lst (ys++ [.ref b])) c=some (.tup xs):=λc xs e=>by rw[aV (λz=>by rw[z,hy] at e;cases e)];exact e
   refine⟨_,rfl,hy,⟨_,rfl⟩,bR sj hL,?_⟩
   refine dU (av pj λ_ _ z=>z.up Bf) ⟨b,rfl,?_⟩
   unfold yC
   rw[aO e]
   exact Bf _ _ (sj _ _ e1)
 .rintro ys bX J hy ⟨_,sj,pj⟩
  rw[lu,dj] at pj
  exact q ys J sj hy pj
def zD (C CA CR:ai):Sp:=λvs H Q E=>∃(cb sl ll k:ai) (x:Str) (v:V) (d:PyData) (S:Cs) (sts cG:List Cs),vs=[.ref cb,.str x,v]/\e_ C H cb sl ll (sts++ [S]) cG/\sts.length<=890/\S.bx.length<=90/\Tells H k d v/\rL d/\
 ((x∉fF S.bx/\∀H',a_ H H'->E (.ref CA) none H')\/(x∈fF S.bx/\eQ d=false/\∀H',a_ H H'->E (.ref CR) none H')\/(x∈fF S.bx/\eQ d=true/\∃i,v=.int i/\
 ∀pX H',ET cb sl ll H H'->H pX=none->e_ C H' cb sl pX (sts++ [S]++ [⟨S.bx.map (yC x i),S.rows,S.n⟩]) []->Q .eK H'))
def JM {C CA CR:ai}(F:ji K "weigh" "Club.weigh" Dn f fd) (CC:Hk K C) (OA:tL K mg "NoName" CA) (OR:tL K mg "NoRower" CR) (DN:Df P w K mg base 1 "names_of" ["crew"] EX) (DW:Df P w K mg base 2 "is_weight" ["thing"] (xF eQ)) (DE:zv P w K mg base 1 C "enter" ["self","crew","standing","following"] (nO C)):dW P w K mg base (q_ P w) 3 f fd ["self","name","weight"] (zD C CA CR):=by
 exists F.L7,rY
 .obtain⟨cb,sl,ll,k,x,v,d,S,sts,cG,rfl,_⟩:=h
  rfl
 .obtain⟨cb,sl,ll,k,x,v,d,S,sts,cG,rfl,hC,WB,Y_,tl,AG,hq⟩:=h
  have Be:=hr.mono (j:=1) δ
  refine⟨_,au (iQ (bg cV (jB (pv 0) rfl) (qj mw ao)) (gg rfl (bz (aZ (i:=3) rY.nd) (bz (aZ (i:=4) rY.nd) (bz (aZ (i:=5) rY.nd) eZ)))))
   (au (cQ (bo gR (pv 1) (cC DN Be (ae (pv 3) ah)) rfl) (aF (gZ (W:=λcls ej _ H'=>E cls ej H') jH rfl rfl OA rfl (ae aW ah))) bN)
   (au (cQ (fO (fM (cC DW hr (ae (pv 2) ah)))) (aF (gZ (W:=λcls ej _ H'=>E cls ej H') jH rfl rfl OR rfl (ae aW ah))) bN)
   (au (jE (i0:=6) (N:=["rower","name","weight"]) (g:=dI 0) (tc:=qE) (te:=Vg K) rY.nd rfl (Or.inl rfl) rfl (iq (pv 3))
    (fz.two (v:="rower") (fr:="name") (fs:="weight") (j:=1) (k:=2) (nm:=Zj) rfl rfl rfl rfl rfl rfl)
    (λ_ _ _=>aZ (i:=0) Zk) (λ_ _ _=>iX)
    (λ_ _ _=>oO (bo ie (bg bw (pv 0) ao) (pv 1) (bP _)) (bQ (ae (bg bw (pv 0) ao) (ae (bg bw (pv 0) ao) (ae (pv 2) ah)))) (pv 0)))
   (aF (gA (Bc DE Be (pv 0) (ae (pv 6) (ae (pv 4) (ae (pv 5) ah))))))))),?_⟩
  obtain⟨dx,vs,ws,c1,c2,c3,c4,c5,c6,c7,c8⟩:=id hC
  obtain⟨EU,_,rfl,Gy,st,cr,sd,qO,us,rfl,e1,e2,vH,e3,e4⟩:=fi c7
  refine lF λNQ zo=>?_
  refine⟨_,rfl,cb,C,dx,_,_,rfl,c1,CC.c,CC.ns,rfl,1,rfl,sl,_,-1,.ref st,rfl,rfl,cT.of c5,lj _ _,TZ (bZ.of e1) ?_⟩
  refine zo _ _ ?_
  refine⟨_,rfl,_,rfl,cr,qO,S.bx,rfl,e2,vH,ω,λL J sJ hJ=>?_⟩
  refine⟨L,_,rfl,.inl (cT.of hJ),rfl,mY _,_,rfl,?_⟩
  rw[rX]
  rcases hq with⟨no,hE⟩|hq
  .rw[bD no]
   exact ite_yes δ ⟨dP,hE J sJ⟩
  have yes:x∈fF S.bx:=by rcases hq with h|h<;>exact h.1
  rw[aI yes]
  refine ite_no δ ?_
  refine⟨_,rfl,k,d,v,rfl,tl.keep sJ.keep,AG,λJ1 s1=>⟨_,rfl,?_⟩⟩
  have QF:=sJ.trans s1
  rcases hq with⟨_,no,hE⟩|⟨_,ok,i,rfl,hQ⟩
  .rw[no]
   exact ite_yes δ ⟨dP,hE J1 QF⟩
  rw[ok]
  refine ite_no δ ?_
  refine⟨_,rfl,cr,rfl,⟨_,bZ.of (QF _ _ e2)⟩,λL2 Ac=>?_⟩
  refine Mw none Ac (QF _ _ e2) (av vH λ_ _ z=>z.up λb xs e=>QF _ _ e) ω λys J2 s2 Qo U4=>?_
  have zz:=QF.trans s2
  refine⟨_,rfl,cb,dx,_,rfl,zz _ _ c1,rfl,_,rfl,_,rfl,_,rfl,cb,sl,ll,L2,sd,ys,us,S.n,_,S.rows,sts++ [S],cG,rfl,hC.same zz,by rw[aK,aJ];omega,.inr Qo,U4,.inl (zz _ _ e3),av e4 λ_ _ q=>q.up λb xs e=>zz _ _ e,λpX H' k' f' C'=>?_⟩
  exact hQ pX H' (λb o n1 n2 n3 e=>k' _ _ n1 n2 n3 (zz _ _ e)) (cK zz f') C'
def zE:bW ["self","rower","crew","standing","following"] ["self","rower"] (aw Jz):={}
def qP (r:oG):PyData:=.tuple [.str r.1,.str r.2.1,.int r.2.2]
def Du (C CR CT CM:ai):Sp:=λvs H Q E=>∃(cb sl ll k:ai) (v:V) (d:PyData) (S:Cs) (sts cG:List Cs),vs=[.ref cb,v]/\e_ C H cb sl ll (sts++ [S]) cG/\sts.length<=890/\S.bx.length<=8/\Tells H k d v/\rL d/\
 ((eW d=false/\∀H',a_ H H'->E (.ref CR) none H')\/(∃a r,v=.ref a/\d=qP r/\eW d=true/\H a=some (.tup [.str r.1,.str r.2.1,.int r.2.2])/\r.1∈fF S.bx/\∀H',a_ H H'->E (.ref CT) none H')\/
 (∃a r,v=.ref a/\d=qP r/\eW d=true/\H a=some (.tup [.str r.1,.str r.2.1,.int r.2.2])/\r.1∉fF S.bx/\S.bx.length=8/\∀dd H',a_ H H'->H dd=none->H' dd=some (.xd [("many",.int 9)])->E (.ref CM) (some dd) H')\/
 (∃a r,v=.ref a/\d=qP r/\eW d=true/\H a=some (.tup [.str r.1,.str r.2.1,.int r.2.2])/\r.1∉fF S.bx/\S.bx.length<=7/\
 ∀pX H',ET cb sl ll H H'->H pX=none->e_ C H' cb sl pX (sts++ [S]++ [⟨mX (S.bx++ [r]),S.rows,S.n⟩]) []->Q .eK H'))
def Mx {C CR CT CM:ai}(F:ji K "come" "Club.come" Jz f fd) (T:Txt mg) (CC:Hk K C) (OR:tL K mg "NoRower" CR) (OT:tL K mg "Twice" CT) (mc:mg "TooMany"=some (.ref CM)) (OM:A7 K CM fI) (FI:dW P w K mg base fT 1 fI fdI ["self","many"] (Ve CM)) (bI:Binds K fdI ["self","many"] []) (DR:Df P w K mg base 3 "is_rower" ["thing"] (xF eW)) (DN:Df P w K mg base 1 "names_of" ["crew"] EX) (DE:zv P w K mg base 1 C "enter" ["self","crew","standing","following"] (nO C)):dW P w K mg base (q_ P w) 4 f fd ["self","rower"] (Du C CR CT CM):=by
 exists F.L7,zE
 .obtain⟨cb,sl,ll,k,v,d,S,sts,cG,rfl,_⟩:=h
  rfl
 .obtain⟨cb,sl,ll,k,v,d,S,sts,cG,rfl,hC,WB,Y_,tl,AG,hq⟩:=h
  have Be:=hr.mono (j:=1) δ
  have hr2:=hr.mono (j:=2) δ
  obtain⟨tk,hM⟩:=T.MR
  refine⟨_,au (iQ (bg cV (jB (pv 0) rfl) (qj mw ao)) (gg rfl (bz (aZ (i:=2) zE.nd) (bz (aZ (i:=3) zE.nd) (bz (aZ (i:=4) zE.nd) eZ)))))
   (au (cQ (fO (fM (cC DR hr (ae (pv 1) ah)))) (aF (gZ (W:=λcls ej _ H'=>E cls ej H') jH rfl rfl OR rfl (ae aW ah))) bN)
   (au (cQ (bo pQ (bg bw (pv 1) ao) (cC DN Be (ae (pv 2) ah)) rfl) (aF (gZ (W:=λcls ej _ H'=>E cls ej H') jH rfl rfl OT rfl (ae aW ah))) bN)
   (au (cQ (bo HC (aR bO rfl T.len bC (ae (pv 2) ah)) (fY (v:=.int 8) rfl hM ⟨_,rfl⟩) (bP _)) (aF (Gx (W:=λcls ej _ H'=>E cls ej H') (E:=E0) jH rfl OM FI hr2 bI .nil (λ_ _ _ _ _ _ _ z=>z.elim) rfl rfl mc (ae (bT gi (aR bO rfl T.len bC (ae (pv 2) ah)) ao) ah))) bN)
   (aF (gA (Bc DE Be (pv 0) (ae (aR wV rfl T.sorted fP (ae (bT Mt (pv 2) (bQ (ae (pv 1) ah))) ah)) (ae (pv 3) (ae (pv 4) ah))))))))),?_⟩
  obtain⟨dx,vs,ws,c1,c2,c3,c4,c5,c6,c7,c8⟩:=id hC
  obtain⟨EU,_,rfl,Gy,st,cr,sd,qO,us,rfl,e1,e2,vH,e3,e4⟩:=fi c7
  have lw:=bS vH
  refine lF λNQ zo=>?_
  refine⟨_,rfl,cb,C,dx,_,_,rfl,c1,CC.c,CC.ns,rfl,1,rfl,sl,_,-1,.ref st,rfl,rfl,cT.of c5,lj _ _,TZ (bZ.of e1) ?_⟩
  refine zo _ _ ?_
  refine⟨_,rfl,k,d,v,rfl,tl,AG,λJ1 s1=>⟨_,rfl,?_⟩⟩
  rcases hq with⟨no,hE⟩|hq
  .rw[no]
   exact ite_yes δ ⟨dP,hE J1 s1⟩
  have gd:∃a r,v=.ref a/\eW d=true/\H a=some (.tup [.str r.1,.str r.2.1,.int r.2.2])/\((r.1∈fF S.bx/\∀H',a_ H H'->E (.ref CT) none H')\/(r.1∉fF S.bx/\((S.bx.length=8/\∀dd H',a_ H H'->H dd=none->H' dd=some (.xd [("many",.int 9)])->E (.ref CM) (some dd) H')\/(S.bx.length<=7/\
    ∀pX H',ET cb sl ll H H'->H pX=none->e_ C H' cb sl pX (sts++ [S]++ [⟨mX (S.bx++ [r]),S.rows,S.n⟩]) []->Q .eK H')))):=by
   rcases hq with⟨a,r,h1,_,h3,h4,h5⟩|⟨a,r,h1,_,h3,h4,h5,h6⟩|⟨a,r,h1,_,h3,h4,h5,h6⟩
   .exact⟨a,r,h1,h3,h4,.inl h5⟩
   .exact⟨a,r,h1,h3,h4,.inr ⟨h5,.inl h6⟩⟩
   .exact⟨a,r,h1,h3,h4,.inr ⟨h5,.inr h6⟩⟩
  obtain⟨a,r,rfl,ok,ha,hq⟩:=gd
  rw[ok]
  refine ite_no δ ?_
  refine iB rfl (bZ.of (s1 _ _ ha)) (aT (j:=0) rfl) ⟨_,rfl,cr,qO,S.bx,rfl,s1 _ _ e2,av vH λ_ _ z=>z.up λb xs e=>s1 _ _ e,ω,λL J sJ' hJ=>?_⟩
  have sJ:=s1.trans sJ'
  refine⟨L,_,rfl,.inl (cT.of hJ),rfl,mY _,_,rfl,?_⟩
  rw[rX]
  rcases hq with⟨yes,hE⟩|⟨no,hq⟩
  .rw[aI yes]
   exact ite_yes δ ⟨dP,hE J sJ⟩
  rw[bD no]
  refine ite_no δ ?_
  refine⟨_,rfl,cr,qO,rfl,.inr (bZ.of (sJ _ _ e2)),_,_,rfl,rfl,_,rfl,?_⟩
  rcases hq with⟨l8,hE⟩|⟨l7,hQ⟩
  .refine ite_yes (aI ω) ?_
   refine⟨_,rfl,cr,qO,rfl,.inr (bZ.of (sJ _ _ e2)),_,_,rfl,rfl,dP,λx hx=>?_⟩
   refine⟨x,9,by rw[lw,l8];rfl,δ,aB,λdd hd na=>⟨rfl,some dd,aB,?_⟩⟩
   obtain⟨z1,z2,z3⟩:=JL (o2:=.xd [("many",.int 9)]) (o3:=qN x (.ref CM) (some dd)) hx hd na
   exact hE dd _ (sJ.trans z1) (cK sJ z2) z3
  refine ite_no (λz=>?_) ?_
  .have:=aX z
   omega
  refine⟨_,rfl,cb,dx,_,rfl,sJ _ _ c1,rfl,_,rfl,_,rfl,dP,λt ht=>?_⟩
  exists ht,.tup [.ref a],J,t,z1,y1,M1
  have s2:=sJ.trans z1
  refine⟨cr,t,qO,[.ref a],rfl,rfl,s2 _ _ e2,y1,ς,by rw[aJ];omega,λM2 p z2 y2=>?_⟩
  have s3:=s2.trans z2
  obtain⟨L0,eL,kL,hL⟩:=zB (H:=M2) (dU (av vH λ_ _ z=>z.up λb xs e=>s3 _ _ e) ⟨a,rfl,s3 _ _ ha⟩:Paired (f_ M2) (qO++ [.ref a]) (S.bx++ [r]))
  have lL:L0.length=qO.length+1:=by have:=iD List.length eL;simpa using this.symm
  refine⟨p,L0,rfl,bZ.of (by rw[<-eL];exact y2),ω,hL,λl L1 hl p1 Qa=>?_⟩
  exists hl,.lst (L1.map λe=>V.ref e.a),M2,l,z3,y3,M3
  have zz:=s3.trans z3
  have Us:L1.map (·.key)=mX (S.bx++ [r]):=wZ (by rw[<-kL];exact p1.map _) (lP.mpr Qa)
  have pc:Paired (f_ M3) (L1.map λe=>V.ref e.a) (L1.map (·.key)):=av (zC λe he=>hL e (p1.mem_iff.mp he)) λ_ _ z=>z.up λb xs e=>z3 _ _ e
  rw[Us] at pc
  refine⟨_,rfl,_,rfl,cb,sl,ll,l,sd,_,us,S.n,_,S.rows,sts++ [S],cG,rfl,hC.same zz,by rw[aK,aJ];omega,.inr y3,pc,.inl (zz _ _ e3),av e4 λ_ _ q=>q.up λb xs e=>zz _ _ e,λpX H' k' f' C'=>?_⟩
  exact hQ pX H' (λb o n1 n2 n3 e=>k' _ _ n1 n2 n3 (zz _ _ e)) (cK zz f') C'
end
def Sb (r:NP):PyData:=.tuple [.str r.1,.str r.2.1,.tuple [.int r.2.2.1,.int r.2.2.2]]
def JN (r:NP):Prop:=okN r.1/\okN r.2.1/\r.2.2.1.natAbs<2^200/\r.2.2.2.natAbs<2^200
def Vh (h:JN r):Bd 10 2 (Sb r):=by
 obtain⟨h1,h2,h3,h4⟩:=h
 have b1:Bd 3 1 (.tuple [.int r.2.2.1,.int r.2.2.2]):=by
  refine(Bd.tuple (n:=1) (p:=0) (m:=2) (ds:=[.int r.2.2.1,.int r.2.2.2]) (λx hx=>?_) (ar 2)).mono δ δ
  simp only[aD,aN,cy] at hx
  rcases hx with rfl|rfl
  .exact iS h3
  .exact iS h4
 refine(Bd.tuple (n:=3) (p:=1) (m:=3) (ds:=[.str r.1,.str r.2.1,.tuple [.int r.2.2.1,.int r.2.2.2]]) (λx hx=>?_) (ar 3)).mono δ δ
 simp only[aD,aN,cy] at hx
 rcases hx with rfl|rfl|rfl
 .exact(mC h1.1 h1.2.1).mono δ δ
 .exact(mC h2.1 h2.2.1).mono δ δ
 .exact b1
def Vi (o1:ix p) (o2:ix q) (x:Xp p q m y):JN (pd p q m y):=by
 have WD:=o1.a.ok m x.hm
 have WE:=o1.b.ok y x.hy
 have i1:=o1.c1;have i2:=o1.c9;have i3:=o2.c1;have i4:=o2.c9
 have i5:=o1.t1;have i6:=o1.t9;have i7:=o1.o1;have i8:=o1.o9
 have j5:=o2.t1;have j6:=o2.t9;have j7:=o2.o1;have j8:=o2.o9
 have m1:((p.o-p.t)*q.c).natAbs<2^70:=kS (a:=35) (b:=35) ω ω
 have m2:((q.o-q.t)*p.c).natAbs<2^70:=kS (a:=35) (b:=35) ω ω
 have m3:(p.c*q.c).natAbs<2^70:=kS (a:=35) (b:=35) ω ω
 have ld:(qu p q).natAbs<2^80:=by unfold qu;omega
 have ft:∀d:Int,d.natAbs<2^80->(ef d (p.c*q.c)).natAbs<2^200:=λd hd=>by have:=wj (t:=d) (b:=p.c*q.c);omega
 have fb:∀d:Int,(dM d (p.c*q.c)).natAbs<2^200:=λd=>by have:=wk (t:=d) (b:=p.c*q.c);omega
 unfold pd
 dsimp only
 split
 .exact⟨WD,WE,ft _ ld,fb _⟩
 .split
  .exact⟨WE,WD,ft _ ω,fb _⟩
  .refine⟨?_,?_,(show(0:Int).natAbs<2^200 by decide),(show(1:Int).natAbs<2^200 by decide)⟩
   .show okN (if dZ y m=true then y else m)
    split
    .exact WE
    .exact WD
   .show okN (if dZ y m=true then m else y)
    split
    .exact WD
    .exact WE
def rg (H:Hp) (d:PyData) (v:V):Prop:=∃k0:Nat,∀k:Nat,k0<=k->Tells H k d v
def xM (H:Hp) (ds:List PyData) (vs:List V):Prop:=∃k0:Nat,∀k:Nat,k0<=k->c_ H k ds vs
def zF (h:Nat.add (Nat.add k0 a) 1<=k):k0<=k/\a≠k:=by
 have h:k0+a+1<=k:=h
 exact⟨ω,ω⟩
def rg.one (h:rg H d v):∃k,Tells H k d v:=let⟨k,t⟩:=h;⟨k,t k (ar k)⟩
def ij (x:Str):rg H (.str x) (.str x):=⟨0,λ_ _=>ff.mpr rfl⟩
def eg (i:Int):rg H (.int i) (.int i):=⟨0,λ_ _=>jr.mpr rfl⟩
def rZ:rg H .none .eK:=⟨0,λ_ _=>qG.mpr rfl⟩
def dS:xM H [] []:=⟨0,λ_ _=>eE.mpr rfl⟩
def aU (h:rg H d v) (t:xM H ds vs):xM H (d::ds) (v::vs):=by
 obtain⟨k1,t1⟩:=h
 obtain⟨k2,t2⟩:=t
 exact⟨k1+k2,λk hk=>bU.mpr ⟨_,_,rfl,t1 k ω,t2 k ω⟩⟩
def fZ (h:H a=some (.tup vs)) (t:xM H ds vs):rg H (.tuple ds) (.ref a):=by
 obtain⟨k0,t⟩:=t
 exact⟨Nat.add (Nat.add k0 a) 1,λk hk=>eU.mpr ⟨a,vs,rfl,(zF (k0:=k0) hk).2,h,t _ (zF (k0:=k0) (a:=a) hk).1⟩⟩
def fe (h:H a=some (.lst vs)) (t:xM H ds vs):rg H (.list ds) (.ref a):=by
 obtain⟨k0,t⟩:=t
 exact⟨Nat.add (Nat.add k0 a) 1,λk hk=>jT.mpr ⟨a,vs,rfl,(zF (k0:=k0) hk).2,h,t _ (zF (k0:=k0) (a:=a) hk).1⟩⟩
def eO {α:Type}{H:Hp}{R:V->α->Prop}{f:α->PyData}(g:∀v x,R v x->rg H (f x) v):∀{ws:List V}{L:List α},Paired R ws L->xM H (L.map f) ws
 |_,_,.nil=>dS
 |_,_,.cons h t=>aU (g _ _ h) (eO g t)
def nQ (ns:List Str):xM H (ck ns) (ns.map V.str):=⟨0,λ_ _=>j_ ns⟩
def JO (x:Nat×qt):PyData:=.tuple [.int x.1,xK x.2]
def Sd (r:Row3):PyData:=.tuple [.int r.1,.int r.2.1,Sb r.2.2]
def zG (h:jU H r p):rg H (xK p) (.ref r):=by
 obtain⟨a,b,h1,h2,h3⟩:=h
 exact fZ h1 (aU (fZ h2 (nQ _)) (aU (fZ h3 (nQ _)) (aU (eg _) (aU (eg _) (aU (eg _) dS)))))
def qQ (v:V) (r:oG) (h:f_ H v r):rg H (qP r) v:=by
 obtain⟨a,rfl,h1⟩:=h
 exact fZ h1 (aU (ij _) (aU (ij _) (aU (eg _) dS)))
def tX (v:V) (x:Nat×qt) (h:jV H v x):rg H (JO x) v:=by
 obtain⟨u,r,rfl,h1,h2⟩:=h
 exact fZ h1 (aU (eg _) (aU (zG h2) dS))
def JP (v:V) (x:Row3) (h:nZ H v x):rg H (Sd x) v:=by
 obtain⟨a,q,rfl,h1,l,h2,h3⟩:=h
 exact fZ h1 (aU (eg _) (aU (eg _) (aU (fZ h2 (aU (ij _) (aU (ij _) (aU (fZ h3 (aU (eg _) (aU (eg _) dS))) dS)))) dS)))
def EY {α:Type} [DecidableEq α] {f:α->PyData}(h:∀a b,PyData.eqv (f a) (f b)=decide (a=b)):∀a b:List α,PyData.eqvAll (a.map f) (b.map f)=decide (a=b)
 | [],[]=>by simp[PyData.eqvAll]
 | [],_::_=>by simp[PyData.eqvAll]
 |_::_,[]=>by simp[PyData.eqvAll]
 |x::a,y::b=>by
  rw[bK,bK,PyData.eqvAll,EY h a b,h]
  by_cases e:x=y
  .subst e;simp
  .simp[e]
def pF {α:Type} [DecidableEq α] {f:α->PyData}(h:∀a b,PyData.eqv (f a) (f b)=decide (a=b)) (a b:List α):PyData.eqv (.list (a.map f)) (.list (b.map f))=decide (a=b):=by rw[<-EY h];rw[PyData.eqv]
def zH (a b:oG):PyData.eqv (qP a) (qP b)=decide (a=b):=by
 obtain⟨a1,a2,a3⟩:=a
 obtain⟨b1,b2,b3⟩:=b
 unfold qP
 by_cases e1:a1=b1<;>by_cases e2:a2=b2<;>by_cases e3:a3=b3<;>simp[PyData.eqv,PyData.eqvAll,e1,e2,e3]
instance:DecidableEq qt:=λp q=>decidable_of_iff (p.a=q.a/\p.b=q.b/\p.t=q.t/\p.o=q.o/\p.c=q.c) (by cases p;cases q;simp)
def Dv (p q:qt):PyData.eqv (xK p) (xK q)=decide (p=q):=by
 obtain⟨a1,a2,a3,a4,a5⟩:=p
 obtain⟨b1,b2,b3,b4,b5⟩:=q
 unfold xK
 have h1:=kU a1 b1
 have h2:=kU a2 b2
 by_cases e1:a1=b1<;>by_cases e2:a2=b2<;>by_cases e3:a3=b3<;>by_cases e4:a4=b4<;>by_cases e5:a5=b5<;>simp[PyData.eqv,PyData.eqvAll,h1,h2,e1,e2,e3,e4,e5]<;>simp_all [PyData.eqv]
def JQ (a b:Nat×qt):PyData.eqv (JO a) (JO b)=decide (a=b):=by
 obtain⟨a1,a2⟩:=a
 obtain⟨b1,b2⟩:=b
 unfold JO
 by_cases e1:a1=b1<;>by_cases e2:a2=b2<;>simp[PyData.eqv,PyData.eqvAll,Dv,e1,e2,Int.natCast_inj]
def QG (a b:NP):PyData.eqv (Sb a) (Sb b)=decide (a=b):=by
 obtain⟨a1,a2,a3,a4⟩:=a
 obtain⟨b1,b2,b3,b4⟩:=b
 unfold Sb
 by_cases e1:a1=b1<;>by_cases e2:a2=b2<;>by_cases e3:a3=b3<;>by_cases e4:a4=b4<;>simp[PyData.eqv,PyData.eqvAll,e1,e2,e3,e4]
def QH (a b:Row3):PyData.eqv (Sd a) (Sd b)=decide (a=b):=by
 obtain⟨a1,a2,a3⟩:=a
 obtain⟨b1,b2,b3⟩:=b
 unfold Sd
 by_cases e1:a1=b1<;>by_cases e2:a2=b2<;>by_cases e3:a3=b3<;>simp[PyData.eqv,PyData.eqvAll,QG,e1,e2,e3,Int.natCast_inj]
def BD (n:Str):Prop:=n.length<=100/\PyData.strOk n=true
def QI (r:oG):Prop:=okN r.1/\BD r.2.1/\r.2.2.natAbs<2^200
structure w_ (S:Cs):Prop where
 bx:∀r∈S.bx,QI r
 rows:∀x∈S.rows,ix x.2/\gq x.2
 num:∀x∈S.rows,x.1<=100000
 lc:S.bx.length<=8
 lr:S.rows.length<=31
def NV (h:QI r):Bd 4 1 (qP r):=by
 refine(Bd.tuple (n:=1) (p:=0) (m:=3) (ds:=[.str r.1,.str r.2.1,.int r.2.2]) (λx hx=>?_) (ar 3)).mono δ δ
 simp only[aD,aN,cy] at hx
 rcases hx with rfl|rfl|rfl
 .exact mC h.1.1 h.1.2.1
 .exact mC h.2.1.1 h.2.1.2
 .exact iS h.2.2
def zI {l:List oG}(h:∀r∈l,QI r) (hl:l.length<=100):Bd 401 2 (.list (l.map qP)):=by
 refine(Bd.list (n:=4) (p:=1) (m:=100) (λx hx=>?_) (by rw[aq];exact hl)).mono δ δ
 obtain⟨r,hr,rfl⟩:=cS.mp hx
 exact NV (h r hr)
def Vj (h:ix x.2) (hn:x.1<=100000):Bd 2001 16 (JO x):=by
 refine(Bd.tuple (n:=1000) (p:=15) (m:=2) (ds:=[.int x.1,xK x.2]) (λy hy=>?_) (ar 2)).mono δ δ
 simp only[aD,aN,cy] at hy
 rcases hy with rfl|rfl
 .exact(iS ω).mono δ δ
 .exact Jx h
def zJ {l:Rows}(h:∀x∈l,ix x.2/\gq x.2) (hn:∀x∈l,x.1<=100000) (hl:l.length<=100):Bd 200101 17 (.list (l.map JO)):=by
 refine(Bd.list (n:=2001) (p:=16) (m:=100) (λx hx=>?_) (by rw[aq];exact hl)).mono δ δ
 obtain⟨r,hr,rfl⟩:=cS.mp hx
 exact Vj (h r hr).1 (hn r hr)
def JR (h:r∈zA i j o):∃t,o=some t/\r=(i,j,t):=by
 cases o with
 |none=>cases h
 |some t=>exact⟨t,rfl,by simpa[zA] using h⟩
def JS (o1:ix p) (o2:ix q) (h:wX p q=some t):JN t:=by
 unfold wX at h
 split at h
 .rename_i x
  cases h
  exact Vi o1 o2 x.choose_spec.choose_spec
 .cases h
def JT (hx:ix x.2) (nx:x.1<=100000):∀{l:Rows},(∀y∈l,ix y.2)->(∀y∈l,y.1<=100000)->r∈GC x l->r.1<=100000/\r.2.1<=100000/\JN r.2.2
 | [],_,_,h=>by cases h
 |y::l,ho,hn,h=>by
  rcases dq.mp h with h|h
  .obtain⟨t,e,rfl⟩:=JR h
   exact⟨nx,hn y (.head _),JS hx (ho y (.head _)) e⟩
  .exact JT hx nx (λz hz=>ho z (.tail _ hz)) (λz hz=>hn z (.tail _ hz)) h
def JU:∀{l:Rows},(∀y∈l,ix y.2)->(∀y∈l,y.1<=100000)->r∈uJ l->r.1<=100000/\r.2.1<=100000/\JN r.2.2
 | [],_,_,h=>by cases h
 |y::l,ho,hn,h=>by
  rcases dq.mp h with h|h
  .exact JT (ho y (.head _)) (hn y (.head _)) (λz hz=>ho z (.tail _ hz)) (λz hz=>hn z (.tail _ hz)) h
  .exact JU (λz hz=>ho z (.tail _ hz)) (λz hz=>hn z (.tail _ hz)) h
def QJ (ho:∀x∈l,ix x.2/\gq x.2) (hn:∀x∈l,x.1<=100000):Lay (.list ((uJ l).map Sd)):=by
 refine(Bd.list (n:=31) (p:=3) (m:=(uJ l).length) (λx hx=>?_) (by rw[aq];exact ar _)).lay δ
 obtain⟨r,hr,rfl⟩:=cS.mp hx
 obtain⟨h1,h2,h3⟩:=JU (λy hy=>(ho y hy).1) hn hr
 refine(Bd.tuple (n:=10) (p:=2) (m:=3) (ds:=[.int r.1,.int r.2.1,Sb r.2.2]) (λx hx=>?_) (ar 3)).mono δ δ
 simp only[aD,aN,cy] at hx
 rcases hx with rfl|rfl|rfl
 .exact(iS ω).mono δ δ
 .exact(iS ω).mono δ δ
 .exact Vh h3
def w_.QK (h:w_ S):Lay (.list (S.bx.map qP)):=(zI h.bx (aA h.lc δ)).lay δ
def w_.layR (h:w_ S):Lay (.list (S.rows.map JO)):=(zJ h.rows h.num (aA h.lr δ)).lay δ
def w_.Vk (h:w_ S):Lay (.list ((uJ S.rows).map Sd)):=QJ h.rows h.num
section
variable {P:aM}{w:bB}{K:Φ}{mg:Str->Option ag}{base:Heap}
def Vl:bW ["self"] ["self"] (aw Qf):={}
def JV (C:ai):Sp:=λvs H Q _=>∃(cb sl ll:ai) (S:Cs) (sts cG:List Cs),vs=[.ref cb]/\e_ C H cb sl ll (sts++ [S]) cG/\∀H',a_ H H'->Q (.int S.bx.length) H'
def QL (F:ji K "__len__" "Club.__len__" Qf f fd) (T:Txt mg) (DR:zv P w K mg base 1 C "rowers" ["self"] (wW C)):dW P w K mg base fT 2 f fd ["self"] (JV C):=by
 exists F.ok,Vl
 .obtain⟨cb,sl,ll,S,sts,cG,rfl,_⟩:=h
  rfl
 .obtain⟨cb,sl,ll,S,sts,cG,rfl,hC,hQ⟩:=h
  refine⟨_,aF (bH (aR bO rfl T.len bC (ae (pE DR hr (pv 0)) ah))),?_⟩
  obtain⟨dx,vs,ws,c1,_⟩:=id hC
  refine⟨_,rfl,cb,dx,_,rfl,c1,rfl,cb,sl,ll,S,sts,cG,rfl,hC,λl us hl pr=>⟨l,us,rfl,.inl (cT.of aB),?_⟩⟩
  rw[bS pr]
  exact hQ _ (aP hl _)
end
end K12
namespace K12
open PySem L2
abbrev QM:Stmt:=top 45
section
variable {P:aM}{w:bB}{K:Φ}{mg:Str->Option ag}{base:Heap}
def QN:bW ["top","bottom","one","other"] ["top","bottom"] (aw QM):={}
def QO (F:ji K "_law_fraction" "_law_fraction" QM f fd) (T:Txt mg):dW P w K mg base fT 1 f fd ["top","bottom"] Ji:=by
 exists F.ok,QN
 .obtain⟨t,b,rfl,_⟩:=h
  rfl
 .obtain⟨t,b,rfl,b0,b1,t1,q⟩:=h
  refine⟨_,au (yS (i:=2) (j:=3) rfl QN.nd rfl rfl δ rfl rfl (ae (aR vD rfl T.abs tR (ae (pv 0) ah)) (ae (pv 1) ah)) rfl)
   (au (Am eX (bo mT (pv 3) ao (bP _)) (aF (yS (i:=2) (j:=3) rfl QN.nd rfl rfl δ rfl rfl (ae (pv 3) (ae (bT nB (pv 2) (pv 3)) ah)) rfl)))
   (aF (bH (bQ (ae (bT o8 (pv 0) (pv 2)) (ae (bT o8 (pv 1) (pv 2)) ah)))))),?_⟩
  refine⟨_,rfl,_,rfl,_,rfl,_,_,rfl,?_⟩
  refine An (λbX H'=>H'=H/\∃m n:Nat,bX=[some (.int t),some (.int b),some (.int m),some (.int n)]/\0<m+n/\Nat.gcd m n=Nat.gcd t.natAbs b.natAbs/\m<2^150/\n<2^150)
   (λbX _=>match bX with| [_,_,_,some (.int n)]=>n.toNat|_=>0) ?_ ?_ ?_
  .refine⟨rfl,t.natAbs,b.natAbs,?_,ω,rfl,t1,b1⟩
   show[some (V.int t),some (V.int b),some (V.int (if t<0 then-t else t)),some (V.int b)]=_
   rw[EK,show((b.natAbs:Nat):Int)=b by omega]
  .rintro bX H' ⟨rfl,m,n,rfl,m0,hg,hm,hn⟩
   refine⟨_,rfl,rfl,_,rfl,?_⟩
   refine eP (λc=>?_) (λc=>?_)
   .have n0:0<n:=by
     have:n≠0:=λz=>IS c (by rw[z];rfl)
     omega
    refine⟨_,rfl,_,rfl,_,rfl,_,_,rfl,rfl,ω,_,_,rfl,⟨rfl,n,m %n,?_,ω,by rw[AV];exact hg,hn,bb (Nat.mod_le _ _) hm⟩,?_⟩
    .show[some (V.int t),some (V.int b),some (V.int (n:Int)),some (V.int ((m:Int) %(n:Int)))]=_
     rw[uY]
    .show((m:Int) %(n:Int)).toNat<(n:Int).toNat
     rw[uY]
     have:=Nat.mod_lt m n0
     omega
   .have n0:n=0:=by
     have e5:V.int (n:Int)=V.int 0:=v_eq c
     injection e5 with e5
     omega
    subst n0
    rw[Nat.gcd_zero_right] at hg
    have bd:(0:Int)<(m:Int)/\(m:Int)<2^200:=⟨ω,Jh hm⟩
    refine⟨_,rfl,_,rfl,_,_,rfl,rfl,bd,_,rfl,_,rfl,_,_,rfl,rfl,bd,dP,λp hp=>?_⟩
    have:=q p hp
    unfold ef dM at this
    rw[<-hg] at this
    exact this
  .rintro bX H' Q1 Q2 imp ⟨v,hv,sc,b',e3,h⟩
   exact⟨v,hv,sc,b',e3,imp _ _ h⟩
end
end K12
namespace K12
open PySem L2 HT PySem.W
def xa (a b:List Str):PyData.eqv (.list (ck a)) (.list (ck b))=decide (a=b):=by
 have:=kU a b
 simp only[PyData.eqv] at this⊢
 exact this
def pY (h:H a=some (.lst (A.map V.str))):Tells H (a+1) (.list (ck A)) (.ref a):=
 jT.mpr ⟨a,_,rfl,(λz=>absurd z (ba (fQ a))),h,j_ A⟩
def GF (hc:∀n∈c,okN n) (hl:c.length<=12):Bd 13 1 (.list (ck c)):=by
 refine(Bd.list (n:=1) (p:=0) (m:=12) (λx hx=>?_) (by unfold ck;rw[aq];exact hl)).mono δ δ
 obtain⟨n,hn,rfl⟩:=cS.mp hx
 exact mC (hc n hn).1 (hc n hn).2.1
def JW (h:∀n∈a,okN n):∀n∈gO a b,okN n:=λn hn=>h n (dE.mp hn).1
def GH:(gO a b).length<=a.length:=eF _ _
section
variable {P:aM}{w:bB}{K:Φ}{mg:Str->Option ag}{base:Heap}
def r_ {H1:Hp}{L a r b:ai}{A B:List Str}{xs:List V}{k:Int}{Q:VK}(v:Option V) (hL:H1 L=none) (h:H1 a=some (.tup (A.map V.str))) (hr:H1 r=some (.tup xs)) (hx:qA xs k=some (.ref b)) (hb:H1 b=some (.tup (B.map V.str))) (hl:A.length<=1000)
  (q:∀J,a_ H1 J->J L=some (.lst ((gO A B).map V.str))->Q (.ref L) J):
  qg (Ei K a) (dI 0) (gw (gJ (O7 K true) (b_ 0) (gJ (gj K) (b_ 1) (tC (.int k))))) (b_ 0) [v,some (.ref r)] H1 Q L:=by
 refine lY (n:=A.length) (f:=λi=>(A.map V.str).getD i .eK) (λj ys bX J=>(∃v,bX=[v,some (.ref r)])/\a_ H1 J/\ys=(gO (A.take j) B).map V.str) hL hl ⟨⟨_,rfl⟩,bR (a_.refl _) hL,rfl⟩ ?_ ?_ ?_
 .rintro j ys bX J hj hy ⟨_,sj,_⟩
  have:=kQ (K:=K) (bZ.of (sj _ _ h)) j (by rw[aq];exact hj)
  rw[aq] at this
  exact this
 .rintro j ys bX J hj hy ⟨⟨v,rfl⟩,sj,rfl⟩
  rw[A8 hj]
  refine⟨_,rfl,_,rfl,r,xs,k,_,rfl,rfl,bZ.of (sj _ _ hr),hx,b,_,rfl,.inr (bZ.of (sj _ _ hb)),rfl,mY B,_,rfl,?_⟩
  rw[show(if true=true then !HN (V.str A[j]) (B.map V.str) else HN (V.str A[j]) (B.map V.str))= !decide (A[j]∈B) from iD (!·) (rX _ _),fW hj]
  unfold gO
  rw[A9]
  by_cases e:A[j]∈B
  .refine ite_no (by simp[e]) ?_
   refine⟨hy,⟨_,rfl⟩,sj,?_⟩
   rw[aO (by simp[e])]
  .refine ite_yes (by simp[e]) ?_
   refine⟨_,rfl,hy,⟨_,rfl⟩,bR sj hL,?_⟩
   rw[aQ (by simp[e]),bF]
   rfl
 .rintro ys bX J hy ⟨_,sj,rfl⟩
  rw[dj] at hy
  exact q J sj hy
abbrev Zl:Stmt:=top 48
def Vm:List (Str×NameKind):=[(".0",.local),("name",.local),("other",.free)]
def Vn:List (Str×NameKind):=[(".0",.local),("name",.local),("one",.free)]
def Vo:(["name","other"]:List Str).Nodup:=by decide+kernel
def Vp:(["name","one"]:List Str).Nodup:=by decide+kernel
def Vq:Sp:=λvs H Q _=>∃(r1 r2:ai) (p q:qt),vs=[.ref r1,.ref r2]/\jU H r1 p/\jU H r2 q/\ix p/\ix q/\gq p/\gq q/\∀v r H',a_ H H'->Told p q r->UT H' v r->Q v H'
def Bk:bW ["one","other","out","came","gone","new","top","by"] ["one","other"] (aw Zl):={}
def wq (h1:1<=c) (h2:c<=1000000000):-2^64<c/\c<2^64/\c.natAbs<2^35:=ω
def wr {a b:Int}(a1:1<=a) (a2:a<=1000000000) (b1:1<=b) (b2:b<=1000000000):(a-b).natAbs<2^35:=ω
def ws {a b:Int}(m1:a.natAbs<2^70) (m2:b.natAbs<2^70):(a-b).natAbs<2^80:=bb (Int.natAbs_sub_le a b) (gy (Nat.add_lt_add m1 m2) δ)
def wt (h:x.natAbs<2^80):(if x<0 then-x else x).natAbs<2^150:=by
 split
 .rw[Int.natAbs_neg];exact gy h δ
 .exact gy h δ
def Vr (F:ji K "_law_trial" "_law_trial" Zl f fd) (T:Txt mg) (DF:Df P w K mg base 1 "_law_fraction" ["top","bottom"] Ji):dW P w K mg base fT 2 f fd ["one","other"] Vq:=by
 exists F.ok,Bk
 .obtain⟨r1,r2,p,q,rfl,_⟩:=h
  rfl
 .obtain⟨r1,r2,p,q,rfl,h1,h2,o1,o2,cp,cq,hQ⟩:=h
  refine⟨_,au (jE (i0:=2) (N:=["name","other"]) (g:=dI 0) (tc:=gw (gJ (O7 K true) (b_ 0) (gJ (gj K) (b_ 1) (tC (.int 0))))) (te:=b_ 0) Bk.nd rfl (Or.inl rfl) rfl (iq (bg bw (pv 0) ao))
    (fz.one (v:="name") (fr:="other") (j:=1) (nm:=Vm) rfl rfl rfl rfl)
    (λ_ _ _=>aZ (i:=0) Vo) (λ_ _ _=>ig (bo gR (pv 0) (bg bw (pv 1) ao) (by with_unfolding_all rfl))) (λ_ _ _=>pv 0))
   (au (jE (i0:=3) (N:=["name","one"]) (g:=dI 0) (tc:=gw (gJ (O7 K true) (b_ 0) (gJ (gj K) (b_ 1) (tC (.int 0))))) (te:=b_ 0) Bk.nd rfl (Or.inl rfl) rfl (iq (bg bw (pv 1) ao))
    (fz.one (v:="name") (fr:="one") (j:=0) (nm:=Vn) rfl rfl rfl rfl)
    (λ_ _ _=>aZ (i:=0) Vp) (λ_ _ _=>ig (bo gR (pv 0) (bg bw (pv 1) ao) (by with_unfolding_all rfl))) (λ_ _ _=>pv 0))
   (au (jE (i0:=4) (N:=["name","other"]) (g:=dI 0) (tc:=gw (gJ (O7 K true) (b_ 0) (gJ (gj K) (b_ 1) (tC (.int 1))))) (te:=b_ 0) Bk.nd rfl (Or.inl rfl) rfl (iq (bg bw (pv 0) ao))
    (fz.one (v:="name") (fr:="other") (j:=1) (nm:=Vm) rfl rfl rfl rfl)
    (λ_ _ _=>aZ (i:=0) Vo) (λ_ _ _=>ig (bo gR (pv 0) (bg bw (pv 1) ao) (by with_unfolding_all rfl))) (λ_ _ _=>pv 0))
   (au (jE (i0:=5) (N:=["name","one"]) (g:=dI 0) (tc:=gw (gJ (O7 K true) (b_ 0) (gJ (gj K) (b_ 1) (tC (.int 1))))) (te:=b_ 0) Bk.nd rfl (Or.inl rfl) rfl (iq (bg bw (pv 1) ao))
    (fz.one (v:="name") (fr:="one") (j:=0) (nm:=Vn) rfl rfl rfl rfl)
    (λ_ _ _=>aZ (i:=0) Vp) (λ_ _ _=>ig (bo gR (pv 0) (bg bw (pv 1) ao) (by with_unfolding_all rfl))) (λ_ _ _=>pv 0))
   (au (cQ (PW.pt (k_ (bo mT (aR bO rfl T.len bC (ae (pv 2) ah)) ao (bP _)) (k_ (bo mT (aR bO rfl T.len bC (ae (pv 3) ah)) ao (bP _)) (k_ (bo (qI hr.units) (pv 4) (pv 3) (bP _)) (mf (bo (qI hr.units) (pv 5) (pv 2) (bP _))))))) (aF (bH jg)) bN)
   (au (ku (i:=6) Bk.nd (bT mq (bT mj (bg bw (pv 0) ao) (bg bw (pv 0) ao)) (bg bw (pv 1) ao)))
   (au (ku (i:=6) Bk.nd (bT mj (pv 6) (bT mq (bT mj (bg bw (pv 1) ao) (bg bw (pv 1) ao)) (bg bw (pv 0) ao))))
   (au (ku (i:=7) Bk.nd (cC DF hr (ae (aR vD rfl T.abs tR (ae (pv 6) ah)) (ae (bT mq (bg bw (pv 0) ao) (bg bw (pv 1) ao)) ah))))
   (au (cQ (bo xS (pv 6) ao (bP _)) (aF (bH (bQ (ae (bg cV (pv 2) ao) (ae (bg cV (pv 3) ao) (ae (pv 7) ah)))))) bN)
   (au (cQ (bo rA (pv 6) ao (bP _)) (aF (bH (bQ (ae (bg cV (pv 3) ao) (ae (bg cV (pv 2) ao) (ae (pv 7) ah)))))) bN)
   (aF (bH (bT lX (fK fB rfl T.tuple cw (ae (aR iK rfl T.sorted fP (ae (cX (ae (bg cV (pv 2) ao) (ae (bg cV (pv 3) ao) ah))) ah)) ah)) (bQ (ae (pv 7) ah)))))))))))))),?_⟩
  obtain⟨a,b,e1,e2,e3⟩:=id h1
  obtain⟨c,d,g1,g2,g3⟩:=id h2
  have a4:=o1.a.l4
  have b4:=o1.b.l4
  have c4:=o2.a.l4
  have d4:=o2.b.l4
  refine lF λNQ zo=>?_
  refine iB rfl (bZ.of e1) (aT (j:=0) rfl) ⟨a,rfl,⟨_,bZ.of e2⟩,λL1 NW=>?_⟩
  refine r_ none NW e2 g1 (aT (j:=0) rfl) g2 (aA a4 δ) λJ1 s1 w1=>?_
  refine zo _ _ ?_
  refine lF λZa Gm=>?_
  refine iB rfl (bZ.of (s1 _ _ g1)) (aT (j:=0) rfl) ⟨c,rfl,⟨_,bZ.of (s1 _ _ g2)⟩,λL2 Ac=>?_⟩
  refine r_ none Ac (s1 _ _ g2) (s1 _ _ e1) (aT (j:=0) rfl) (s1 _ _ e2) (aA c4 δ) λJ2 s2 w2=>?_
  refine Gm _ _ ?_
  have ju:=s1.trans s2
  refine lF λDH3 PU=>?_
  refine iB rfl (bZ.of (ju _ _ e1)) (aT (j:=1) rfl) ⟨b,rfl,⟨_,bZ.of (ju _ _ e3)⟩,λL3 hL3=>?_⟩
  refine r_ none hL3 (ju _ _ e3) (ju _ _ g1) (aT (j:=1) rfl) (ju _ _ g3) (aA b4 δ) λJ3 s3 w3=>?_
  refine PU _ _ ?_
  have lR:=ju.trans s3
  refine lF λDH4 Um=>?_
  refine iB rfl (bZ.of (lR _ _ g1)) (aT (j:=1) rfl) ⟨d,rfl,⟨_,bZ.of (lR _ _ g3)⟩,λL4 hL4=>?_⟩
  refine r_ none hL4 (lR _ _ g3) (lR _ _ e1) (aT (j:=1) rfl) (lR _ _ e3) (aA d4 δ) λJ s4 w4=>?_
  refine Um _ _ ?_
  have s0:=lR.trans s4
  have v1:=((s2.trans s3).trans s4) _ _ w1
  have v2:=(s3.trans s4) _ _ w2
  have v3:=s4 _ _ w3
  have My:(∀m y,Xp p q m y->False)->Q .eK J:=λh=>hQ .eK none J s0 (.inr ⟨λm y x=>h m y x,rfl⟩) rfl
  have lay:∀{u v:List Str},(∀n∈u,okN n)->u.length<=4->Lay (.list (ck (gO u v))):=λhu hl=>(GF (JW hu) (aA GH (aA hl δ))).lay δ
  refine⟨_,rfl,L1,_,rfl,.inl (cT.of v1),rfl,_,rfl,?_⟩
  rw[iw,aq]
  refine eP (λz=>My λm y x=>?_) (λz=>?_)
  .rw[(x.diff cp).1] at z;simp at z
  have z1:(gO p.a q.a).length=1:=by
   by_cases h:(gO p.a q.a).length=1
   .exact h
   .exact absurd (by rw[bD ω];rfl) z
  refine⟨_,rfl,L2,_,rfl,.inl (cT.of v2),rfl,_,rfl,?_⟩
  rw[iw,aq]
  refine eP (λz=>My λm y x=>?_) (λz=>?_)
  .rw[(x.diff cp).2.1] at z;simp at z
  have z2:(gO q.a p.a).length=1:=by
   by_cases h:(gO q.a p.a).length=1
   .exact h
   .exact absurd (by rw[bD ω];rfl) z
  refine⟨_,rfl,_,rfl,_,_,_,_,pY v3,pY v2,lay o1.b.ok b4,lay o2.a.ok c4,_,rfl,?_⟩
  rw[xa]
  refine eP (λz=>My λm y x=>?_) (λz=>?_)
  .rw[(x.diff cp).2.1,(x.diff cp).2.2.1] at z;simp at z
  have z3:gO p.b q.b=gO q.a p.a:=by simpa using z
  refine⟨_,rfl,_,rfl,_,_,_,_,pY w4,pY v1,lay o2.b.ok d4,lay o1.a.ok a4,_,rfl,?_⟩
  rw[xa]
  refine eP (λz=>My λm y x=>?_) (λz=>?_)
  .rw[(x.diff cp).1,(x.diff cp).2.2.2] at z;simp at z
  have z4:gO q.b p.b=gO p.a q.a:=by simpa using z
  obtain⟨m,em⟩:=Sy.mp z1
  obtain⟨y,ey⟩:=Sy.mp z2
  have x:Xp p q m y:=Ug cp cq em ey (z3.trans ey) (z4.trans em)
  rw[em] at v1
  rw[ey] at v2
  have my:m≠y:=λz=>cp.no _ x.hm (z▸x.hy)
  have i1:=o1.c1
  have i2:=o1.c9
  have i3:=o2.c1
  have i4:=o2.c9
  have i5:=o1.t1
  have i6:=o1.t9
  have i7:=o1.o1
  have i8:=o1.o9
  have j5:=o2.t1
  have j6:=o2.t9
  have j7:=o2.o1
  have j8:=o2.o9
  obtain⟨p1,p2,p3⟩:=wq i1 i2
  obtain⟨r1,r2,r3⟩:=wq i3 i4
  refine iB rfl (bZ.of (s0 _ _ e1)) (aT (j:=3) rfl) (iB rfl (bZ.of (s0 _ _ e1)) (aT (j:=2) rfl) ⟨_,_,rfl,rfl,iB rfl (bZ.of (s0 _ _ g1)) (aT (j:=4) rfl) ⟨_,_,rfl,rfl,.inr ⟨r1,r2⟩,?_⟩⟩)
  refine⟨_,rfl,iB rfl (bZ.of (s0 _ _ g1)) (aT (j:=3) rfl) (iB rfl (bZ.of (s0 _ _ g1)) (aT (j:=2) rfl) ⟨_,_,rfl,rfl,iB rfl (bZ.of (s0 _ _ e1)) (aT (j:=4) rfl) ⟨_,_,rfl,rfl,.inr ⟨p1,p2⟩,_,_,rfl,rfl,?_⟩⟩)⟩
  have m1:((p.o-p.t)*q.c).natAbs<2^70:=kS (a:=35) (b:=35) (wr i7 i8 i5 i6) r3
  have m2:((q.o-q.t)*p.c).natAbs<2^70:=kS (a:=35) (b:=35) (wr j7 j8 j5 j6) p3
  have m3:(p.c*q.c).natAbs<2^70:=kS (a:=35) (b:=35) p3 r3
  have cc:0<p.c*q.c:=qZ i1 i3
  have ld:(qu p q).natAbs<2^80:=ws m1 m2
  refine⟨_,rfl,_,rfl,iB rfl (bZ.of (s0 _ _ e1)) (aT (j:=4) rfl) (iB rfl (bZ.of (s0 _ _ g1)) (aT (j:=4) rfl) ⟨_,_,rfl,rfl,.inr ⟨r1,r2⟩,?_⟩)⟩
  refine⟨_,_,rfl,cc,gy m3 δ,wt ld,λu hu=>?_⟩
  try dsimp only
  generalize hD':(if(p.o-p.t)*q.c-(q.o-q.t)*p.c<0 then-((p.o-p.t)*q.c-(q.o-q.t)*p.c) else(p.o-p.t)*q.c-(q.o-q.t)*p.c)=D
  have hD:(if qu p q<0 then-qu p q else qu p q)=D:=hD'
  have s5:=bR (o:=.tup [.int (ef D (p.c*q.c)),.int (dM D (p.c*q.c))]) (a_.refl J) hu
  have w5:upd J u (.tup [.int (ef D (p.c*q.c)),.int (dM D (p.c*q.c))]) u=some (.tup [.int (ef D (p.c*q.c)),.int (dM D (p.c*q.c))]):=aB
  try dsimp only
  generalize upd J u (.tup [.int (ef D (p.c*q.c)),.int (dM D (p.c*q.c))])=J5 at*
  have Zm:=s5 _ _ v1
  have Zn:=s5 _ _ v2
  refine⟨_,rfl,_,_,rfl,rfl,_,rfl,?_⟩
  refine eP (λz=>?_) (λz=>?_)
  .have dp:0<qu p q:=aX z
   have eD:D=qu p q:=by rw[<-hD,aO ω]
   have et:pd p q m y=(m,y,ef D (p.c*q.c),dM D (p.c*q.c)):=by unfold pd;simp only[aQ dp,eD]
   refine CW rfl (cT.of Zm) (aT (j:=0) rfl) (CW rfl (cT.of Zn) (aT (j:=0) rfl) ⟨_,rfl,dP,λr hr=>?_⟩)
   have s6:=bR (o:=.tup [.str m,.str y,.ref u]) (a_.refl J5) hr
   refine hQ _ (some _) _ ((s0.trans s5).trans s6) (.inl ⟨m,y,x,rfl⟩) ⟨r,rfl,?_⟩
   rw[et]
   exact⟨u,aB,s6 _ _ w5⟩
  have nd:¬0<qu p q:=λh=>z (aI h)
  refine⟨_,rfl,_,_,rfl,rfl,_,rfl,?_⟩
  refine eP (λz=>?_) (λz=>?_)
  .have dn:qu p q<0:=aX z
   have eD:D=-qu p q:=by rw[<-hD,aQ dn]
   have et:pd p q m y=(y,m,ef D (p.c*q.c),dM D (p.c*q.c)):=by unfold pd;simp only[aO nd,aQ dn,eD]
   refine CW rfl (cT.of Zn) (aT (j:=0) rfl) (CW rfl (cT.of Zm) (aT (j:=0) rfl) ⟨_,rfl,dP,λr hr=>?_⟩)
   have s6:=bR (o:=.tup [.str y,.str m,.ref u]) (a_.refl J5) hr
   refine hQ _ (some _) _ ((s0.trans s5).trans s6) (.inl ⟨m,y,x,rfl⟩) ⟨r,rfl,?_⟩
   rw[et]
   exact⟨u,aB,s6 _ _ w5⟩
  .have nn:¬qu p q<0:=λh=>z (aI h)
   have eD:D=0:=by rw[<-hD,aO nn];omega
   obtain⟨f0,f1⟩:=LV (b:=p.c*q.c) cc
   rw[eD,f0,f1] at w5
   refine CW rfl (cT.of Zm) (aT (j:=0) rfl) (CW rfl (cT.of Zn) (aT (j:=0) rfl) ⟨dP,λl hl=>?_⟩)
   have s6:=bR (o:=.lst [.str m,.str y]) (a_.refl J5) hl
   have w6:upd J5 l (.lst [.str m,.str y]) l=some (.lst (([m,y]:List Str).map V.str)):=aB
   try dsimp only
   generalize upd J5 l (.lst [.str m,.str y])=J6 at*
   refine⟨l,[m,y],rfl,cT.of w6,(by simp only[cI,i_];decide),λl2 C oE pm so=>?_⟩
   have hC:C=[if dZ y m=true then y else m,if dZ y m=true then m else y]:=by
    have ndm:([m,y]:List Str).Nodup:=by simp[my]
    have uC:=pV so (pm.nodup_iff.mpr ndm)
    by_cases c:dZ y m=true
    .rw[aQ c,aQ c]
     exact pb uC (by simp[c]) (pm.trans (List.Perm.swap _ _ _))
    .rw[aO c,aO c]
     have c2:dZ m y=true:=(uV my).resolve_right c
     exact pb uC (by simp[c2]) pm
   have s7:=bR (o:=.lst (C.map V.str)) (a_.refl J6) oE
   have w7:upd J6 l2 (.lst (C.map V.str)) l2=some (.lst (C.map V.str)):=aB
   try dsimp only
   generalize upd J6 l2 (.lst (C.map V.str))=J7 at*
   refine⟨l2,_,rfl,.inl ⟨cT.of w7,λt ht=>?_⟩⟩
   have s8:=bR (o:=.tup (C.map V.str)) (a_.refl J7) ht
   have w8:upd J7 t (.tup (C.map V.str)) t=some (.tup (C.map V.str)):=aB
   try dsimp only
   generalize upd J7 t (.tup (C.map V.str))=J8 at*
   refine⟨_,rfl,dP,λt1 EM=>?_⟩
   have s9:=bR (o:=.tup [.ref u]) (a_.refl J8) EM
   have w9:upd J8 t1 (.tup [.ref u]) t1=some (.tup [.ref u]):=aB
   try dsimp only
   generalize upd J8 t1 (.tup [.ref u])=J9 at*
   have lC:C.length=2:=by rw[hC];rfl
   refine⟨t,t1,_,_,rfl,rfl,bZ.of (s9 _ _ w8),bZ.of w9,by rw[hC];simp,by rw[aq,lC];show 2+1<=sizeLine;decide,(λz=>absurd z ς),λ_ r hr=>?_⟩
   have s10:=bR (o:=.tup (C.map V.str++ [.ref u])) (a_.refl J9) hr
   refine hQ _ (some _) _ ((((((s0.trans s5).trans s6).trans s7).trans s8).trans s9).trans s10) (.inl ⟨m,y,x,rfl⟩) ⟨r,rfl,?_⟩
   have et:pd p q m y=(if dZ y m=true then y else m,if dZ y m=true then m else y,0,1):=by unfold pd;simp only[aO nd,aO nn]
   rw[et]
   refine⟨u,?_,((((s6.trans s7).trans s8).trans s9).trans s10) _ _ w5⟩
   rw[aB,hC]
   rfl
end
def JX (d:cN H k c):∀xs,H k≠some (.tup xs):=λxs z=>by
 obtain⟨⟨_,_,h1,_⟩,_⟩:=d
 rw[h1] at z;cases z
def kW (d:cN H k c) (s:a_ H H'):cN H' k c:=d.keep λo e=>s _ _ e
def pG (d:cN H k c) (s:ez k H H'):∀b xs,H b=some (.tup xs)->H' b=some (.tup xs):=λb xs e=>s _ _ (λz=>JX d xs (z▸e)) e
def zK (h:m∈a):(exc a m y).length<=a.length:=by
 unfold exc
 rw[aK,aJ]
 have:=List.length_filter_lt_length_iff_exists (p:=λn=>!decide (n=m)) (l:=a)
 have h2:=this.mpr ⟨m,h,ς⟩
 omega
def QP (h:∀n∈a,okN n) (hy:okN y):∀n∈exc a m y,okN n:=λn hn=>by
 rcases kR.mp hn with z|z
 .exact h n z.1
 .rw[z];exact hy
def Bl (o:C8 a) (hm:m∈a) (hy:okN y) (pm:c.Perm (exc a m y)):C8 c:=by
 refine⟨?_,?_,λn hn=>QP o.ok hy n (pm.mem_iff.mp hn)⟩
 .rw[pm.length_eq];unfold exc;rw[aK,aJ];omega
 .rw[pm.length_eq];exact aA (zK hm) o.l4
def Bm {A:List Str}(h0:0<=i) (h1:i<((A.map V.str).length:Int)):∃m∈A,qA (A.map V.str) i=some (.str m):=by
 obtain⟨h,e⟩:=tQ h0 h1
 refine⟨A[i.toNat]'(by rwa[aq] at h),cB _,?_⟩
 rw[e,jQ]
section
variable {P:aM}{w:bB}{K:Φ}{mg:Str->Option ag}{base:Heap}
abbrev Zo:Stmt:=top 47
def Zp:List (Str×NameKind):=[(".0",.local),("name",.local),("one",.free)]
def Zq:List (Str×NameKind):=[(".0",.local),("name",.local),("other",.free)]
def Zr:List (Str×NameKind):=[(".0",.local),("k",.local),("_law_pick",.globalImplicit),("deck",.free)]
def Zs:(["name","one"]:List Str).Nodup:=by decide+kernel
def Zt:(["name","other"]:List Str).Nodup:=by decide+kernel
def QQ:Sp:=λvs H Q _=>∃(k r:ai) (c:Int) (p:qt),vs=[.ref k,.ref r]/\cN H k c/\c<=40000/\jU H r p/\ix p/\gq p/\
 ∀(t:ai) (p':qt) (m y:Str) (c':Int) (H':Hp),ez k H H'->cN H' k c'->c'<=c+10->jU H' t p'->ix p'->Xp p p' m y->Q (.ref t) H'
def GJ:bW ["deck","piece","one","other","first","second","times"] ["deck","piece"] (aw Zo):={}
def wl {n m:Nat}(e:m=n) (h1:1<=n) (h4:n<=4):0<(m:Int)/\(m:Int)<=10000000000000:=ω
def wz {c c1 c2 c3:Int}(hc:c<=40000) (u1:c1<=c+1) (u2:c2<=c1+1) (u3:c3<=c2+1):c1<=40001/\c2<=40002/\c3<=40003/\c3<=c+3:=ω
def wy {i:Nat}(h:a<=b+(i:Int)) (hb:b<=x) (hi:i<=2):a<=x+2:=ω
def wx {i:Nat}(h:a<=b+(i:Int)) (e:c<=a+1):c<=b+((i+1:Nat):Int):=ω
def wv (h:c3<=c+3) (e:c4<=c3+((2:Nat):Int)) (ea:ca<=c4+1) (ec:cc<=ca+1):cc<=c+10:=ω
def w2 {r:Int}(h:0<=r) (l:r<2):r=0\/r=1:=ω
def Vs (F:ji K "_law_exchanged" "_law_exchanged" Zo f fd) (T:Txt mg) (DP:Df P w K mg base 1 "_law_pick" ["deck","many"] gF):dW P w K mg base fT 2 f fd ["deck","piece"] QQ:=by
 exists F.ok,GJ
 .obtain⟨k,r,c,p,rfl,_⟩:=h
  rfl
 .obtain⟨k,r,c,p,rfl,dk,hc,hp,op,cp,hQ⟩:=h
  refine⟨_,au (yQ (i:=2) GJ.nd rfl (Or.inr rfl) (bg bw (bg bw (pv 1) ao) (cC DP hr (ae (pv 0) (ae (aR bO rfl T.len bC (ae (bg bw (pv 1) ao) ah)) ah)))))
   (au (yQ (i:=3) GJ.nd rfl (Or.inr rfl) (bg bw (bg bw (pv 1) ao) (cC DP hr (ae (pv 0) (ae (aR bO rfl T.len bC (ae (bg bw (pv 1) ao) ah)) ah)))))
   (au (ku (i:=4) GJ.nd (fK fB rfl T.tuple cw (ae (aR iK rfl T.sorted fP (ae (bT lD (kE (N:=["name","one"]) (g:=dI 0) (tc:=gw (gJ K8 (b_ 0) (b_ 1))) (te:=b_ 0) rfl (iq (bg bw (pv 1) ao))
    (fz.one (v:="name") (fr:="one") (j:=2) (nm:=Zp) rfl rfl rfl rfl)
    (λ_ _ _=>aZ (i:=0) Zs) (λ_ _ _=>ig (bo mT (pv 0) (pv 1) (bP _))) (λ_ _ _=>pv 0)) (cX (ae (pv 3) ah))) ah)) ah)))
   (au (ku (i:=5) GJ.nd (fK fB rfl T.tuple cw (ae (aR iK rfl T.sorted fP (ae (bT lD (kE (N:=["name","other"]) (g:=dI 0) (tc:=gw (gJ K8 (b_ 0) (b_ 1))) (te:=b_ 0) rfl (iq (bg bw (pv 1) ao))
    (fz.one (v:="name") (fr:="other") (j:=3) (nm:=Zq) rfl rfl rfl rfl)
    (λ_ _ _=>aZ (i:=0) Zt) (λ_ _ _=>ig (bo mT (pv 0) (pv 1) (bP _))) (λ_ _ _=>pv 0)) (cX (ae (pv 2) ah))) ah)) ah)))
   (au (cQ (bo ie (cC DP hr (ae (pv 0) (ae ao ah))) ao (bP _)) (aF (bH (bT lX (bQ (ae (pv 4) (ae (pv 5) ah))) (gY y4 (pv 1) (iJ ao) jC)))) bN)
   (au (ku (i:=6) GJ.nd (fK fB rfl T.tuple cw (ae (kE (N:=["k","deck"]) (g:=dI 0) (tc:=qE) (te:=gJ (Ha λi j=>.int (i+j)) (tC (.int 1)) (lV gF [] E0 (cA (b_ 1) (cA (tC (.int 400)) fE)))) rfl (xR rfl T.range (ae ao ah))
    (fz.one (v:="k") (fr:="deck") (j:=0) (nm:=Zr) rfl rfl rfl rfl)
    (λ_ _ _=>aZ (i:=0) Ui) (λ_ _ _=>iX) (λ_ _ _=>bT gi ao (cC DP hr (ae (pv 1) (ae ao ah))))) ah)))
   (aF (bH (bT lX (bT lX (bQ (ae (pv 4) (ae (pv 5) ah))) (pv 6)) (bQ (ae (bg cV (cX (ae (bg bw (pv 1) ao) (ae (bT gi ao (cC DP hr (ae (pv 0) (ae ao ah)))) ah))) (cC DP hr (ae (pv 0) (ae ao ah)))) ah)))))))))),?_⟩
  obtain⟨a,b,e1,e2,e3⟩:=id hp
  have a1:=op.a.l1
  have a4:=op.a.l4
  have b1:=op.b.l1
  have b4:=op.b.l4
  have la:(p.a.map V.str).length=p.a.length:=aq _
  have lb:(p.b.map V.str).length=p.b.length:=aq _
  refine lF λNQ zo=>?_
  refine iB rfl (bZ.of e1) (aT (j:=0) rfl) ⟨_,rfl,iB rfl (bZ.of e1) (aT (j:=0) rfl) ⟨a,_,rfl,.inr (bZ.of e2),k,c,_,rfl,dk,dz hc δ,(wl la a1 a4).1,(wl la a1 a4).2,λi1 c1 H1 k1 d1 u1 g1 l1=>?_⟩⟩
  obtain⟨m,hm,am⟩:=Bm g1 l1
  have q1:=pG dk k1
  refine⟨a,_,i1,_,rfl,rfl,bZ.of (q1 _ _ e2),am,?_⟩
  refine zo _ _ ?_
  refine lF λZa Gm=>?_
  refine iB rfl (bZ.of (q1 _ _ e1)) (aT (j:=1) rfl) ⟨_,rfl,iB rfl (bZ.of (q1 _ _ e1)) (aT (j:=1) rfl) ⟨b,_,rfl,.inr (bZ.of (q1 _ _ e3)),k,c1,_,rfl,d1,dz (wC u1 hc) δ,(wl lb b1 b4).1,(wl lb b1 b4).2,λi2 c2 H2 k2 d2 u2 g2 l2=>?_⟩⟩
  obtain⟨y,hy,ay⟩:=Bm g2 l2
  have q2:∀b xs,H b=some (.tup xs)->H2 b=some (.tup xs):=λb xs z=>pG d1 k2 _ _ (q1 _ _ z)
  refine⟨b,_,i2,_,rfl,rfl,bZ.of (q2 _ _ e3),ay,?_⟩
  refine Gm _ _ ?_
  have E1:=q2 _ _ e1
  have E2:=q2 _ _ e2
  have E3:=q2 _ _ e3
  have k02:ez k H H2:=k1.trans k2
  refine lF λDH3 PU=>?_
  refine iB rfl (bZ.of E1) (aT (j:=0) rfl) ⟨a,rfl,⟨_,bZ.of E2⟩,λL1 NW=>?_⟩
  refine zt none NW E2 (aA a4 δ) λJ1 QF hJ1=>?_
  refine⟨_,rfl,dP,λx1 Ql=>?_⟩
  exists Ql,.lst [.str y],J1,x1,sa1,wa1,Ka1
  refine⟨L1,x1,_,_,rfl,rfl,sa1 _ _ hJ1,wa1,cR (dD (by rw[aq];exact aA (mL (aA (eF _ _) a4)) δ)),λcl1 hc1=>?_⟩
  have em1:(p.a.filter λn=>!decide (n=m)).map V.str++ [V.str y]=(exc p.a m y).map V.str:=by unfold exc;rw[bF];rfl
  rw[em1]
  exists hc1,.lst ((exc p.a m y).map V.str),Ka1,cl1,sb1,wb1,Kb1
  refine⟨cl1,exc p.a m y,rfl,cT.of wb1,bb (aA (zK hm) a4) δ,λl1 C1 Hg R7 Qa=>?_⟩
  exists Hg,.lst (C1.map V.str),Kb1,l1,sc1,wc1,Kc1
  refine⟨l1,_,rfl,.inl ⟨cT.of wc1,λt1 EM=>?_⟩⟩
  exists EM,.tup (C1.map V.str),Kc1,t1,sd1,wt1,G1
  refine PU _ _ ?_
  have s1:a_ H2 G1:=(((QF.trans sa1).trans sb1).trans sc1).trans sd1
  have E1':=s1 _ _ E1
  have E3':=s1 _ _ E3
  refine lF λDH4 Um=>?_
  refine iB rfl (bZ.of E1') (aT (j:=1) rfl) ⟨b,rfl,⟨_,bZ.of E3'⟩,λL2 Ac=>?_⟩
  refine zt none Ac E3' (aA b4 δ) λJ2 sJ2 Qo=>?_
  refine⟨_,rfl,dP,λx2 Gz=>?_⟩
  exists Gz,.lst [.str m],J2,x2,sa2,wa2,Ka2
  refine⟨L2,x2,_,_,rfl,rfl,sa2 _ _ Qo,wa2,cR (dD (by rw[aq];exact aA (mL (aA (eF _ _) b4)) δ)),λcl2 FK=>?_⟩
  have em2:(p.b.filter λn=>!decide (n=y)).map V.str++ [V.str m]=(exc p.b y m).map V.str:=by unfold exc;rw[bF];rfl
  rw[em2]
  exists FK,.lst ((exc p.b y m).map V.str),Ka2,cl2,Lr,wb2,Kb2
  refine⟨cl2,exc p.b y m,rfl,cT.of wb2,bb (aA (zK hy) b4) δ,λl2 C2 oE R8 YY=>?_⟩
  exists oE,.lst (C2.map V.str),Kb2,l2,sc2,wc2,Kc2
  refine⟨l2,_,rfl,.inl ⟨cT.of wc2,λt2 xH=>?_⟩⟩
  exists xH,.tup (C2.map V.str),Kc2,t2,sd2,wt2,G2
  refine Um _ _ ?_
  have s2:a_ G1 G2:=(((sJ2.trans sa2).trans Lr).trans sc2).trans sd2
  have s12:=s1.trans s2
  have D2:=kW d2 s12
  have W1:=s2 _ _ wt1
  have Zu:=s2 _ _ E1'
  have kG:ez k H G2:=k02.trans s12.keep
  have Ud:y∉p.a:=λz=>cp.no _ z hy
  have Ue:m∉p.b:=cp.no _ hm
  have x1:xG p.a m y C1:=uZ cp.a.nodup Ud R7 Qa
  have x2:xG p.b y m C2:=uZ cp.b.nodup Ue R8 YY
  have xpp:∀t o c:Int,Xp p ⟨C1,C2,t,o,c⟩ m y:=λt o c=>⟨hm,hy,x1,x2⟩
  have Hi:C8 C1:=Bl op.a hm (op.b.ok y hy) R7
  have Hj:C8 C2:=Bl op.b hy (op.a.ok m hm) R8
  refine pk rfl D2 (dz (wC u2 (wC u1 hc)) δ) δ δ λi3 c3 H3 k3 d3 u3 g3 l3=>⟨rfl,_,rfl,?_⟩
  have q3:=pG D2 k3
  have V1:=q3 _ _ W1
  have V2:=q3 _ _ wt2
  have F1:=q3 _ _ Zu
  have kH3:ez k H H3:=kG.trans k3
  refine eP (λ_=>?_) (λ_=>?_)
  .refine⟨_,rfl,_,rfl,dP,λx1 Ql=>?_⟩
   exists Ql,.tup [.ref t1,.ref t2],H3,x1,z1,y1,M1
   refine⟨_,rfl,_,rfl,r,_,rfl,bZ.of (z1 _ _ F1),(show ¬(ip 5 0 (some 2)=0/\ip 5 5 none=5) by decide+kernel),λx2 Gz=>?_⟩
   have z2:=aP Gz (.tup [.int p.t,.int p.o,.int p.c])
   have y2:upd M1 x2 (.tup [.int p.t,.int p.o,.int p.c]) x2=some (.tup [.int p.t,.int p.o,.int p.c]):=aB
   refine⟨x1,x2,_,_,rfl,rfl,bZ.of (z2 _ _ y1),bZ.of y2,ς,by show 2+3<=sizeLine;decide,(λz=>absurd z ς),λ_ rr PX=>?_⟩
   have z3:=(z1.trans z2).trans (aP PX (.tup ([.ref t1,.ref t2]++ [.int p.t,.int p.o,.int p.c])))
   exact hQ rr ⟨C1,C2,p.t,p.o,p.c⟩ m y c3 _ (kH3.trans z3.keep) (kW d3 z3) (dz (wz hc u1 u2 u3).2.2.2 (yH δ c)) ⟨t1,t2,aB,z3 _ _ V1,z3 _ _ V2⟩ ⟨Hi,Hj,op.t1,op.t9,op.o1,op.o9,op.c1,op.c9⟩ (xpp _ _ _)
  refine⟨_,rfl,δ,δ,λD hD=>?_⟩
  have nD:k≠D:=d3.ne hD
  refine lE (J:=Nt 0 2) (n:=2) (f:=λi=>.int i) (λi ys bX J=>∃(ts:List Int) (c4:Int),ys=ts.map V.int/\(∃v,bX=[v,some (.ref k)])/\ez k H3 J/\cN J k c4/\c4<=c3+i/\ts.length=i/\∀t∈ts,1<=t/\t<=1000000000) hD δ
    ⟨[],c3,rfl,⟨none,rfl⟩,ez.new hD _,d3.new hD,ς,rfl,ς⟩ (λi ys bX J hi _ _=>yr 2 i J hi) ?_ ?_
  .rintro i ys iR J hi hy ⟨ts,c4,rfl,⟨v2,rfl⟩,kJ,dJ,Mi,PV,LY⟩
   refine pk rfl dJ (dz (wy Mi (wz hc u1 u2 u3).2.2.1 (cR hi)) δ) δ δ λra ca Ja ka da ea ga Zv=>⟨_,_,rfl,rfl,?_⟩
   refine⟨ka D _ nD.symm hy,ts++ [1+ra],ca,ς,⟨_,rfl⟩,λb o n e=>?_,da.keep (λo e=>by rw[aV nD];exact e),wx Mi ea,by simp[PV],λx hx=>?_⟩
   .have nb:b≠D:=λz=>by rw[z,hD] at e;cases e
    rw[aV nb]
    exact ka b o n (kJ b o n e)
   .rcases dq.mp hx with hx|hx
    .exact LY x hx
    .rw[bV.mp hx];exact⟨wH ga δ,wG Zv δ⟩
  .rintro ys iR J hy ⟨ts,c4,rfl,⟨v2,rfl⟩,kJ,dJ,Mi,PV,LY⟩
   have xH:∃ta tb:Int,ts=[ta,tb]:=by
    match ts,PV with
    | [ta,tb],_=>exact⟨ta,tb,rfl⟩
   obtain⟨ta,tb,rfl⟩:=xH
   have Uq:=LY ta ς
   have Ur:=LY tb ς
   have q4:=pG d3 kJ
   refine⟨D,_,rfl,.inl ⟨cT.of hy,λtt YH=>?_⟩⟩
   have z0:=aP YH (.tup ([ta,tb].map V.int))
   have y0:upd J tt (.tup ([ta,tb].map V.int)) tt=some (.tup [.int ta,.int tb]):=aB
   try dsimp only
   generalize upd J tt (.tup ([ta,tb].map V.int))=M0 at*
   have dM0:=kW dJ z0
   refine⟨_,rfl,_,rfl,dP,λx1 Ql=>?_⟩
   exists Ql,.tup [.ref t1,.ref t2],M0,x1,z1,y1,M1
   refine⟨_,rfl,x1,tt,_,_,rfl,rfl,bZ.of y1,bZ.of (z1 _ _ y0),ς,by show 2+2<=sizeLine;decide,(λz=>absurd z ς),λ_ x2 Gz=>?_⟩
   have z2:=aP Gz (.tup ([.ref t1,.ref t2]++ [.int ta,.int tb]))
   have y2:upd M1 x2 (.tup ([.ref t1,.ref t2]++ [.int ta,.int tb])) x2=some (.tup [.ref t1,.ref t2,.int ta,.int tb]):=aB
   try dsimp only
   generalize upd M1 x2 (.tup ([.ref t1,.ref t2]++ [.int ta,.int tb]))=M2 at*
   have WG:=(z0.trans z1).trans z2
   have q5:∀b xs,H3 b=some (.tup xs)->M2 b=some (.tup xs):=λb xs z=>WG _ _ (q4 _ _ z)
   refine iB rfl (bZ.of (q5 _ _ F1)) (aT (j:=4) rfl) (pk rfl (kW dJ WG) (dz (wy Mi (wz hc u1 u2 u3).2.2.1 (ar 2)) δ) δ δ λra ca Ja ka da ea ga Zv=>⟨_,_,rfl,rfl,dP,λl hl=>?_⟩)
   refine pk rfl (da.new hl) (dz (wC ea (wy Mi (wz hc u1 u2 u3).2.2.1 (ar 2))) δ) δ δ λrc cc Jc kc dc ec gc lc=>?_
   have Uo:=kc l _ (da.ne hl).symm aB
   have hv:∃t:Int,qA [V.int p.c,V.int (1+ra)] rc=some (.int t)/\1<=t/\t<=1000000000:=by
    rcases w2 gc lc with rfl|rfl
    .exact⟨_,aT (j:=0) rfl,op.c1,op.c9⟩
    .exact⟨_,aT (j:=1) rfl,wH ga δ,wG Zv δ⟩
   obtain⟨co,Yz,YA,YB⟩:=hv
   refine⟨l,_,rc,_,rfl,rfl,cT.of Uo,Yz,dP,λx3 hx3=>?_⟩
   have kM:ez k M2 Jc:=ka.trans ((ez.new hl _).trans kc)
   have q6:=pG (kW dJ WG) kM
   have z3:=aP hx3 (.tup [.int co])
   refine⟨x2,x3,_,_,rfl,rfl,bZ.of (z3 _ _ (q6 _ _ y2)),bZ.of aB,ς,by show 4+1<=sizeLine;decide,(λz=>absurd z ς),λ_ rr PX=>?_⟩
   have z4:=z3.trans (aP PX (.tup ([.ref t1,.ref t2,.int ta,.int tb]++ [.int co])))
   have q7:∀b xs,H3 b=some (.tup xs)->upd (upd Jc x3 (.tup [.int co])) rr (.tup ([.ref t1,.ref t2,.int ta,.int tb]++ [.int co])) b=some (.tup xs):=λb xs z=>z4 _ _ (q6 _ _ (q5 _ _ z))
   exact hQ rr ⟨C1,C2,ta,tb,co⟩ m y cc _ (((kH3.trans kJ).trans WG.keep).trans (kM.trans z4.keep)) (kW dc z4) (wv (wz hc u1 u2 u3).2.2.2 Mi ea ec) ⟨t1,t2,aB,q7 _ _ V1,q7 _ _ V2⟩ ⟨Hi,Hj,Uq.1,Uq.2,Ur.1,Ur.2,YA,YB⟩ (xpp _ _ _)
abbrev QR:Stmt:=top 56
def uj:bW ["pieces","found","k","one","piece","other","later","trial"] ["pieces"] (aw QR):={}
def NX:Sp:=λvs H Q _=>∃(l2:ai) (us:List V) (rows:Rows),vs=[.ref l2]/\H l2=some (.lst us)/\Paired (jV H) us rows/\(∀x∈rows,ix x.2/\gq x.2)/\rows.length<=31/\
 ∀l ws H',H l=none->a_ H H'->H' l=some (.lst ws)->Paired (nZ H') ws (uJ rows)->Q (.ref l) H'
def QS (F:ji K "_law_trials_of" "_law_trials_of" QR f fd) (T:Txt mg) (DT:Df P w K mg base 2 "_law_trial" ["one","other"] Vq):dW P w K mg base fT 3 f fd ["pieces"] NX:=by
 exists F.ok,uj
 .obtain⟨l2,us,rows,rfl,_⟩:=h
  rfl
 .obtain⟨l2,us,rows,rfl,w0,Sa,eN,l30,hQ⟩:=h
  refine⟨_,au (ku (i:=1) uj.nd (cX ah))
   (au (mi eX rfl (AK rfl T.enum (ae (pv 0) ah)) (gg rfl (bz (aZ (i:=2) uj.nd) (bz (gg rfl (bz (aZ (i:=3) uj.nd) (bz (aZ (i:=4) uj.nd) eZ))) eZ)))
    (aF (mi eX rfl (jz (gY pP (pv 0) (iJ (bT gi (pv 2) ao)) jC)) (gg rfl (bz (aZ (i:=5) uj.nd) (bz (aZ (i:=6) uj.nd) eZ)))
     (au (ku (i:=7) uj.nd (cC DT hr (ae (pv 4) (ae (pv 6) ah))))
     (aF (cQ (bo En (pv 7) jg (bP _)) (aF (gA (ql cx eA eB gE (pv 1) (ae (bQ (ae (pv 3) (ae (pv 5) (ae (pv 7) ah)))) ah)))) bN))))))
   (aF (bH (pv 1)))),?_⟩
  refine lF λNQ zo=>?_
  refine⟨dP,λl hl=>?_⟩
  exists hl,.lst [],H,l,s1,w1,M2
  refine zo _ _ ?_
  have w2:=s1 _ _ w0
  have Ml:=w1
  have Qs:l2≠l:=λz=>by rw[z,hl] at w0;cases w0
  have ju:=s1
  have U6:Paired (jV M2) us rows:=av Sa λ_ _ z=>z.up λb xs e=>s1 _ _ e
  have BC:=bS Sa
  refine lF λZa Gm=>?_
  refine⟨_,rfl,l2,rfl,⟨_,cT.of w2⟩,yk (K:=K) (a:=l2) (xs:=us) (λi bX H'=>∃(v3 v4 v5 v6 v7 v8:Option V) (ws:List V) (L:List Row3),bX=[some (.ref l2),some (.ref l),v3,v4,v5,v6,v7,v8]/\ez l M2 H'/\H' l=some (.lst ws)/\Paired (nZ H') ws L/\L++uJ (rows.drop i)=uJ rows/\L.length<=31*i)
   ⟨_,_,_,_,_,_,[],[],rfl,ez.refl _ _,Ml,.nil,rfl,ς⟩ (λi bX H' _ h=>by obtain⟨_,_,_,_,_,_,_,_,_,kp,_⟩:=h;exact cT.of (kp _ _ Qs w2)) ?_ ?_⟩
  .rintro i x bX H' T hx ⟨v3,v4,v5,v6,v7,v8,ws,L,rfl,kp,hL,pr,eL,lL⟩ hT
   have U7:i<us.length:=(br.mp hx).1
   have hi:i<rows.length:=BC▸U7
   obtain⟨_,hu,u,r,rfl,Pf,Zb⟩:=eJ U6 i hi
   rw[hu] at hx
   cases hx
   have tk:∀{b xs},M2 b=some (.tup xs)->H' b=some (.tup xs):=λ{b xs} e=>kp _ _ (λz=>by rw[z,Ml] at e;cases e) e
   exists hT,.tup [.int i,.ref u],H',T,sT,wT,M3
   have k3:ez l M2 M3:=kp.trans sT.keep
   have dp:rows.drop i=rows[i]::rows.drop (i+1):=jY hi
   have Qt:=eN rows[i] (cB hi)
   refine⟨T,_,rfl,bZ.of wT,rfl,_,_,rfl,_,_,rfl,Gf (bZ.of (sT _ _ (tk Pf))) ⟨rfl,?_⟩⟩
   refine⟨_,rfl,_,rfl,_,_,rfl,rfl,_,rfl,l2,us,rfl,cT.of (k3 _ _ Qs w2),λq hq=>?_⟩
   have Qu:jh us (some ((i:Int)+1)) none=us.drop (i+1):=by
    unfold jh
    rw[show((i:Int)+1)=((i+1:Nat):Int) from rfl,HT.lW,HT.rE,jf U7,cY ς]
   rw[Qu]
   have sq:=aP hq (.lst (us.drop (i+1)))
   have wq:upd M3 q (.lst (us.drop (i+1))) q=some (.lst (us.drop (i+1))):=aB
   have nq:q≠l:=λz=>by rw[z,sT _ _ hL] at hq;cases hq
   generalize upd M3 q (.lst (us.drop (i+1)))=M4 at*
   have U8:=sT.trans sq
   refine⟨q,rfl,⟨_,cT.of wq⟩,oS (K:=K) (a:=q) (xs:=us.drop (i+1)) (λm bX H'=>∃(v6 v7 v8:Option V) (ws:List V) (L:List Row3),bX=[some (.ref l2),some (.ref l),some (.int i),some (.int rows[i].1),some (.ref r),v6,v7,v8]/\ez l M4 H'/\H' l=some (.lst ws)/\Paired (nZ H') ws L/\(L++GC rows[i] ((rows.drop (i+1)).drop m))++uJ (rows.drop (i+1))=uJ rows/\L.length<=31*i+m)
    ⟨_,_,_,ws,L,rfl,ez.refl _ _,U8 _ _ hL,av pr λa b h=>h.up λb xs e=>U8 _ _ e,by rw[dp] at eL;show(L++GC rows[i] (rows.drop (i+1)))++_=_;rw[hU];exact eL,lL⟩ (λm bX H' _ h=>by obtain⟨_,_,_,_,_,_,Cw,_⟩:=h;exact cT.of (Cw _ _ nq wq)) ?_ ?_⟩
   .rintro m x bX H5 hx ⟨w6,w7,w8,Dt,L5,rfl,k5,JH,Ms,e5,l5⟩
    rw[List.getElem?_drop] at hx
    have U9:i+1+m<us.length:=(br.mp hx).1
    have hj:i+1+m<rows.length:=BC▸U9
    obtain⟨_,Qv,u',r',rfl,Qw,Qx⟩:=eJ U6 (i+1+m) hj
    rw[Qv] at hx
    cases hx
    have KO:∀b xs,M2 b=some (.tup xs)->H5 b=some (.tup xs):=λb xs e=>k5 _ _ (λz=>by rw[z,Ml] at e;cases e) (sq _ _ (sT _ _ (tk e)))
    refine Gf (bZ.of (KO _ _ Qw)) ?_
    have WC:=eN rows[i+1+m] (cB hj)
    refine⟨_,rfl,_,rfl,r,r',rows[i].2,rows[i+1+m].2,rfl,Zb.up KO,Qx.up KO,Qt.1,WC.1,Qt.2,WC.2,λv rr H6 s6 td dv=>?_⟩
    have er:=Bh Qt.2 td
    have dd:(rows.drop (i+1)).drop m=rows[i+1+m]::(rows.drop (i+1)).drop (m+1):=by
     rw[xv,xv,show i+1+(m+1)=(i+1+m)+1 from rfl]
     exact jY hj
    rw[dd] at e5
    have Qy:((L5++zA rows[i].1 rows[i+1+m].1 rr)++GC rows[i] ((rows.drop (i+1)).drop (m+1)))++uJ (rows.drop (i+1))=uJ rows:=by
     rw[<-e5,er,hU L5];rfl
    refine⟨_,rfl,rfl,_,rfl,?_⟩
    have U_:Paired (nZ H6) Dt L5:=av Ms λa b h=>h.up λb xs e=>s6 _ _ e
    have k6:ez l M4 H6:=k5.trans s6.keep
    cases rr with
    |none=>
     have:v=.eK:=dv
     subst this
     refine ite_no δ ?_
     exact⟨_,_,_,Dt,L5,rfl,k6,s6 _ _ JH,U_,by rw[show zA rows[i].1 rows[i+1+m].1 none=[] from rfl,eR] at Qy;exact Qy,Nat.le_succ_of_le l5⟩
    |some t=>
     obtain⟨y,rfl,ty⟩:=dv
     refine ite_yes (by rw[bD ς];rfl) ?_
     refine⟨_,rfl,.inl ⟨rfl,_,cT.of (s6 _ _ JH)⟩,_,rfl,_,rfl,_,rfl,dP,λa ha=>?_⟩
     have sa:=aP ha (.tup [.int rows[i].1,.int rows[i+1+m].1,.ref y])
     have wa:upd H6 a (.tup [.int rows[i].1,.int rows[i+1+m].1,.ref y]) a=some (.tup [.int rows[i].1,.int rows[i+1+m].1,.ref y]):=aB
     have Va:=sa _ _ (s6 _ _ JH)
     generalize upd H6 a (.tup [.int rows[i].1,.int rows[i+1+m].1,.ref y])=H7 at*
     have Zc:=pN Ms
     refine⟨l,Dt,.ref a,rfl,rfl,Va,dD (rwA l5 Zc (BC▸U9) l30),?_⟩
     have kt:∀b xs,H7 b=some (.tup xs)->upd H7 l (.lst (Dt++ [.ref a])) b=some (.tup xs):=λb xs e=>by rw[aV (λz=>by rw[z,Va] at e;cases e)];exact e
     refine⟨_,_,_,Dt++ [.ref a],L5++ [(rows[i].1,rows[i+1+m].1,t)],rfl,λb o n e=>by rw[aV n];exact sa _ _ (k6 _ _ n e),aB,dU (av U_ λa b h=>h.up λb xs e=>kt _ _ (sa _ _ e)) ⟨a,y,rfl,kt _ _ wa,(ty.same sa).up kt⟩,Qy,by rw[aK,aJ];exact mL l5⟩
   .rintro bX H5 ⟨w6,w7,w8,Dt,L5,rfl,k5,JH,Ms,e5,l5⟩
    rw[show(rows.drop (i+1)).drop (us.drop (i+1)).length=[] from Sx (by rw[dF,dF,BC];exact ar _)] at e5
    refine⟨_,_,_,_,_,_,Dt,L5,rfl,λb o n e=>k5 _ _ n (sq _ _ (k3 _ _ n e)),JH,Ms,by rw[show GC rows[i] []=[] from rfl,eR] at e5;exact e5,by rw[dF] at l5;exact rwB l5 (by rw[BC];exact l30)⟩
  .rintro bX H' ⟨v3,v4,v5,v6,v7,v8,ws,L,rfl,kp,hL,pr,eL,lL⟩
   refine Gm _ _ ?_
   rw[BC,List.drop_length,show uJ []=[] from rfl,eR] at eL
   subst eL
   refine⟨_,rfl,hQ l ws H' hl (λb o e=>kp _ _ (λz=>by rw[z,hl] at e;cases e) (ju _ _ e)) hL pr⟩
end
abbrev zL:Stmt:=top 50
section
variable {P:aM}{w:bB}{K:Φ}{mg:Str->Option ag}{base:Heap}
def Dw (h:zZ z "str"=false):gT z=false:=by
 cases z with
 |str x=>cases h
 |none=>rfl
 |bool b=>rfl
 |int i=>rfl
 |list ds=>rfl
 |tuple ds=>rfl
 |dict dO=>rfl
def uk (h:vX z=false):eQ z=false:=by
 cases z with
 |int i=>cases h
 |none=>rfl
 |bool b=>rfl
 |str i=>rfl
 |list ds=>rfl
 |tuple ds=>rfl
 |dict dO=>rfl
def Zw:bW ["thing"] ["thing"] (aw zL):={}
def GK (F:ji K "_law_is_rower" "_law_is_rower" zL f fd) (T:Txt mg):dW P w K mg base fT 1 f fd ["thing"] (xF eW):=by
 exists F.ok,Zw
 .obtain⟨k,d,v,rfl,_⟩:=h
  rfl
 .obtain⟨k,d,v,rfl,t,hf,q⟩:=h
  refine⟨_,au (cQ (PW.pt (k_ (fO (fM (aR fL rfl T.tO aE (ae (pv 0) (ae (gQ (v:=.ty "tuple") rfl T.tuple cw rfl) ah)))))
    (k_ (bo mT (aR bO rfl T.len bC (ae (pv 0) ah)) ao (bP _))
    (mf (fO (fM (aR fL rfl T.tO aE (ae (bg bw (pv 0) ao) (ae (gQ (v:=.ty "str") rfl T.str gM rfl) ah)))))))))
    (aF (bH nS)) bN)
   (au (cQ (PW.pt (k_ (fO (rD rA rA ao (aR rJ rfl T.len bC (ae (bg bw (pv 0) ao) ah)) ao))
    (mf (bo (qI hr.units) (kE (N:=["sign"]) rfl (Ih (bg bw (pv 0) ao)) (fz.closed rfl)
     (λ_ _ _=>aZ (i:=0) (Yd _)) (λ_ _ _=>ig (fO (rD pR pR aW (pv 0) aW))) (λ_ _ _=>pv 0)) (cX ah) (bP _)))))
    (aF (bH nS)) bN)
   (au (cQ (PW.pt (k_ (fO (fM (aR fL rfl T.tO aE (ae (bg bw (pv 0) ao) (ae (gQ (v:=.ty "str") rfl T.str gM rfl) ah)))))
    (mf (bo (FU hr.units) (bg bw (pv 0) ao) (bQ (ae aW (ae aW (ae aW ah)))) (by with_unfolding_all rfl)))))
    (aF (bH nS)) bN)
   (aF (bH (jR (aR fL rfl T.tO aE (ae (bg bw (pv 0) ao) (ae (gQ (v:=.ty "int") rfl T.int vo rfl) ah)))
    (jR (BX (aR fL rfl T.tO aE (ae (bg bw (pv 0) ao) (ae (gQ (v:=.ty "bool") rfl T.bool uv rfl) ah))))
    (mh (rC rA rB ao (bg bw (pv 0) ao) (bT mv ao ao))))))))),?_⟩
  refine⟨_,rfl,k,_,_,d,rfl,t,.inr (.inr (.inr (.inl rfl))),_,rfl,?_⟩
  have no:∀H',a_ H H'->eW d=false->Q (.bl false) H':=λH' s' e=>by have:=q H' s';rw[e] at this;exact this
  refine eP (λc=>?_) (λc=>?_)
  .refine qB (no H (a_.refl _) ?_)
   cases d with
   |tuple ds=>cases c
   |_=>rfl
  .obtain⟨ds,rfl⟩:=pT (d:=d) (by simpa using c)
   obtain⟨a,xs,rfl,hk,ha,ng⟩:=eU.mp t
   have hl:=gS ng
   refine⟨_,rfl,a,xs,rfl,.inr (bZ.of ha),rfl,_,rfl,?_⟩
   refine eP (λc1=>?_) (λc1=>?_)
   .refine qB (no H (a_.refl _) ?_)
    have:ds.length≠3:=λz=>IS c1 (by rw[hl,z];rfl)
    exact vZ this
   .have l3:ds.length=3:=by
     have e3:V.int (xs.length:Int)=V.int 3:=v_eq c1
     injection e3 with e3
     omega
    obtain⟨dn,C0,dw,rfl⟩:=T4 l3
    obtain⟨x1,r1,rfl,t1,ng⟩:=bU.mp ng
    obtain⟨x2,r2,rfl,t2,ng⟩:=bU.mp ng
    obtain⟨x3,r3,rfl,t3,ng⟩:=bU.mp ng
    rw[eE] at ng
    subst ng
    have AQ:=(Bd.pS hf).1
    have sx:eW (.tuple [dn,C0,dw])=(fA dn&&(gT C0&&eQ dw)):=rfl
    have i0:∀{H':Hp},a_ H H'->∀{R:VK},R x1 H'->gj K (.ref a) (.int 0) H' R:=λs' R h=>⟨a,_,0,x1,rfl,rfl,bZ.of (s' _ _ ha),aT (j:=0) rfl,h⟩
    have i1:∀{H':Hp},a_ H H'->∀{R:VK},R x2 H'->gj K (.ref a) (.int 1) H' R:=λs' R h=>⟨a,_,1,x2,rfl,rfl,bZ.of (s' _ _ ha),aT (j:=1) rfl,h⟩
    have i2:∀{H':Hp},a_ H H'->∀{R:VK},R x3 H'->gj K (.ref a) (.int 2) H' R:=λs' R h=>⟨a,_,2,x3,rfl,rfl,bZ.of (s' _ _ ha),aT (j:=2) rfl,h⟩
    refine⟨_,rfl,i0 (a_.refl _) ?_⟩
    refine⟨k,_,_,dn,rfl,t1,.inr (.inr (.inl rfl)),_,rfl,?_⟩
    refine eP (λc2=>?_) (λc2=>?_)
    .refine no H (a_.refl _) ?_
     rw[sx,Gh (by simpa using c2),bj]
    .obtain⟨x,rfl⟩:=EH (d:=dn) (by simpa using c2)
     rw[ff] at t1
     subst t1
     have hxl:=Bd.Ii (AQ (.str x) ς)
     have Zx:PyData.strOk x=true:=by
      have:=(AQ (.str x) ς).leaf
      rw[hZ,cJ] at this
      exact this.2
     have WH:fA (.str x)=((decide (1<=(x.length:Int))&&decide ((x.length:Int)<=8))&&(x.cps.toList.map sgn).all id):=rfl
     refine⟨_,rfl,i0 (a_.refl _) ?_⟩
     refine⟨x,rfl,aA hxl δ,_,_,rfl,rfl,_,rfl,?_⟩
     refine eP (λc3=>?_) (λc3=>?_)
     .refine⟨_,_,rfl,rfl,_,rfl,?_⟩
      refine eP (λc4=>?_) (λc4=>?_)
      .refine qB (no H (a_.refl _) ?_)
       rw[sx,WH,show decide ((x.length:Int)<=8)=false from bD (by
        have:¬(x.length:Int)<9:=by simpa using c4
        omega),fg,bj,bj]
      .have c4':(x.length:Int)<9:=by simpa using c4
       refine iB rfl (bZ.of ha) (aT (j:=0) rfl) ⟨x,rfl,λD hD=>?_⟩
       refine lY (J:=Nz x) (n:=x.cps.size) (f:=λi=>.str ⟨#[x.cps.getD i 0]⟩) (λi ys bX H'=>ys=wc (rQ (x.cps.toList.take i))/\(∃v,bX=[v])/\H'=upd H D (.lst ys)) hD (by have:x.cps.size=x.length:=rfl;omega)
        ⟨rfl,⟨none,rfl⟩,rfl⟩ (λi ys bX H' hi _ _=>EI x i H' hi) ?_ ?_
       .rintro i ys bX H' hi hy ⟨e1,⟨v,rfl⟩,rfl⟩
        have yes:sgn (x.cps.getD i 0)=true->wc (rQ (x.cps.toList.take (i+1)))=ys:=λz=>by
         rw[tP hi,e1,IW z]
        have nay:sgn (x.cps.getD i 0)=false->wc (rQ (x.cps.toList.take (i+1)))=ys++ [V.str ⟨#[x.cps.getD i 0]⟩]:=λz=>by
         rw[tP hi,e1,IY z]
         unfold wc
         rw[bF]
         rfl
        refine⟨_,rfl,_,_,rfl,rfl,_,rfl,?_⟩
        refine eP (λc5=>?_) (λc5=>?_)
        .refine⟨_,_,rfl,rfl,_,rfl,?_⟩
         refine eP (λc6=>?_) (λc6=>?_)
         .refine⟨_,rfl,hy,(nay ?_).symm,⟨_,rfl⟩,rq⟩
          show(_&&_)=false
          rw[c5,cm]
          simpa using c6
         .refine⟨hy,(yes ?_).symm,⟨_,rfl⟩,rfl⟩
          show(_&&_)=true
          rw[c5,cm]
          simpa using c6
        .refine⟨_,rfl,qB ?_⟩
         refine⟨_,rfl,hy,(nay ?_).symm,⟨_,rfl⟩,rq⟩
         show(_&&_)=false
         rw[show(!decide ((⟨#[x.cps.getD i 0]⟩:Str).cps.toList<("a":Str).cps.toList))=false by simpa using c5,bj]
       .rintro ys bX H' hy ⟨e1,⟨v,rfl⟩,rfl⟩
        rw[cY ς] at e1
        subst e1
        have s1:a_ H (upd H D (.lst (wc (rQ x.cps.toList)))):=aP hD _
        generalize hH1:upd H D (.lst (wc (rQ x.cps.toList)))=H1 at*
        refine⟨dP,λp hp=>?_⟩
        have hDp:D≠p:=dB hy hp
        have s2:a_ H1 (upd H1 p (.lst [])):=aP hp _
        have hDa:D≠a:=λz=>by rw[z,ha] at hD;cases hD
        have xn:p≠a:=λz=>by have:=s1 _ _ ha;rw[<-z,hp] at this;cases this
        refine⟨a,a,.list (wb (rQ x.cps.toList)),.list [],jT.mpr ⟨D,_,rfl,hDa,s2 _ _ hy,we _⟩,jT.mpr ⟨p,_,rfl,xn,aB,eE.mpr rfl⟩,
         IU (λc hc=>?_),pU,_,rfl,?_⟩
        .have zY:=(dE.mp hc).1
         unfold PyData.strOk at Zx
         rw[Array.all_eq_true'] at Zx
         exact aX (Zx c (by simpa using zY))
        .rw[LO,IV]
         have s12:=s1.trans s2
         generalize upd H1 p (.lst [])=H2 at*
         refine eP (λc5=>?_) (λc5=>?_)
         .refine no H2 s12 ?_
          rw[sx,WH,show(x.cps.toList.map sgn).all id=false by simpa using c5,fg,bj]
         .have Ys:(x.cps.toList.map sgn).all id=true:=by
           cases hb:(x.cps.toList.map sgn).all id with
           |true=>rfl
           |false=>rw[hb] at c5;exact absurd rfl c5
          have nT:fA (.str x)=true:=by
           rw[WH,Ys,zX,cJ,qW,qW]
           have:0<(x.length:Int):=aX c3
           omega
          rw[nT,cm] at sx
          refine iB rfl (bZ.of (s12 _ _ ha)) (aT (j:=1) rfl) ⟨k,_,_,C0,rfl,t2.keep s12.keep,.inr (.inr (.inl rfl)),_,rfl,?_⟩
          refine eP (λc6=>?_) (λc6=>?_)
          .refine qB (no H2 s12 ?_)
           rw[sx,Dw (by simpa using c6),bj]
          .refine iB rfl (bZ.of (s12 _ _ ha)) (aT (j:=1) rfl) ⟨dP,λp3 WJ=>?_⟩
           have s3:a_ H2 (upd H2 p3 (.tup [.str "port",.str "starboard",.str "both"])):=aP WJ _
           have s13:=s12.trans s3
           refine⟨k,a,C0,vY,t2.keep s13.keep,.inl (uh (dB (s12 _ _ ha) WJ).symm),rL.lay (AQ C0 ς),v_,_,rfl,?_⟩
           generalize upd H2 p3 (.tup [.str "port",.str "starboard",.str "both"])=H3 at*
           refine eP (λc7=>?_) (λc7=>?_)
           .refine no H3 s13 ?_
            have Gy:(!gT C0)=true:=c7
            rw[sx,show gT C0=false by simpa using Gy,bj]
           .have Gy:gT C0=true:=by
             have:¬(!gT C0)=true:=c7
             simpa using this
            rw[Gy,cm] at sx
            refine iB rfl (bZ.of (s13 _ _ ha)) (aT (j:=2) rfl) ⟨k,_,_,dw,rfl,t3.keep s13.keep,.inl rfl,_,rfl,?_⟩
            have q4:=q H3 s13
            have e:=yq dw
            refine eP (λc8=>?_) (λc8=>?_)
            .refine iB rfl (bZ.of (s13 _ _ ha)) (aT (j:=2) rfl) ⟨k,_,_,dw,rfl,t3.keep s13.keep,.inr (.inl rfl),_,rfl,_,rfl,?_⟩
             rw[c8,cm] at e
             refine eP (λcb=>?_) (λcb=>?_)
             .cases dw with
              |int i=>
               rw[jr] at t3
               subst t3
               refine iB rfl (bZ.of (s13 _ _ ha)) (aT (j:=2) rfl) ⟨_,_,rfl,rfl,_,rfl,?_⟩
               have wEq:eQ (.int i)=(decide (1<=i)&&decide (i<=1000000)):=rfl
               refine eP (λc9=>?_) (λc9=>?_)
               .refine⟨_,_,rfl,rfl,⟨δ,δ,δ⟩,_,_,rfl,rfl,?_⟩
                have h9:(0:Int)<i:=aX c9
                rw[sx,wEq,show decide (1<=i)=true from aI ω,cm] at q4
                exact q4
               .have h9:¬(0:Int)<i:=by simpa using c9
                rw[sx,wEq,show decide (1<=i)=false from bD ω,bj] at q4
                exact q4
              |bool b=>cases cb
              |_=>cases c8
             .rw[sx,uk (by rw[<-e];simpa using cb)] at q4
              exact q4
            .rw[sx,uk (by rw[<-e,show zZ dw "int"=false by simpa using c8];rfl)] at q4
             exact q4
     .refine⟨_,rfl,qB (qB (no H (a_.refl _) ?_))⟩
      rw[sx,WH,show decide (1<=(x.length:Int))=false from bD (by
       have:¬(0:Int)<(x.length:Int):=by simpa using c3
       omega),bj,bj,bj]
end
end K12
namespace L2
open PySem PySem.Spec PyProof.Rows PySem.W
section
variable {X:Cx}
def Bn (a:ai) (H:Hp):Prop:=∃cls ej,H a=some (tU a cls ej)
def Bn.Aa (h:Bn a H) (e:X.A.handled=some (.ref a)) (I:Inv X ac Z H s):Iz X.A s.heap:=by
 obtain⟨cls,ej,ha⟩:=h
 obtain⟨⟨oe,vs,h1,_,_,h3,h4⟩,_⟩:=I.eN a _ ha
 exact⟨a,oe,vs,e,h1,h3,h4⟩
def Bn.same (h:Bn a H) (s:a_ H H'):Bn a H':=let⟨c,d,e⟩:=h;⟨c,d,s _ _ e⟩
def NY (K:Φ) (a:ai) (n:Nat) (t:RP):TG:=λv Z H Q=>Bn a H/\∃p xs,v=.ref p/\bZ K H p xs/\xs.length=n/\t xs Z H Q
def Mz (e:X.A.handled=some (.ref a)) (h:SM X es t)
  (hn:(assignEach es X.env).length=n:=by rfl) (Fw:(assignEach es X.env).findIdx? (·.1)=none:=by rfl):PG X (.Tuple es k pos) (NY X.K a n t):=by
 intro ac s Z H v u Q I r hw
 obtain⟨hh,p,xs,e1,hq,hl,hw⟩:=hw
 subst e1
 cases r
 obtain⟨cF,rv,ht,hz⟩:=I.tuple hq
 refine AN (hh.Aa e I) ht (by simp[hn,<-hl,rv.length]) Fw λh' hx=>?_
 have I1:Inv X ac Z H {s with heap:=h'}:=I.kept (t':=s.toks) λb o e=>hx b o (ba (aC e)) e
 exact h ac _ Z H xs _ Q I1 (by simpa using rv) hw
end
structure NZ (P:aM) (w:bB) (K:Φ) (a:ai) (tg:Expr) (J:It) (fp:List ai) (it:ai) (tn:Nat->Heap->Prop):Prop where
 mem:it∈fp
 obj:∀i h,tn i h->∀b∈fp,∃o,h.get? b=some o/\∀v,o.data≠.cell v
 keep:∀i h h',tn i h->(∀b∈fp,∀o,h.get? b=some o->h'.get? b=some o)->tn i h'
 item:∀(X:Cx),X.prog=P->X.w=w->X.K=K->X.A.handled=some (.ref a)->∀(i:Nat) (ac:List (ai×Obj)) (s:aj) (Z:St) (H:Hp) (E:ag->aj->Prop),Inv X ac Z H s->(∀b∈fp,mQ X ac H b)->tn i s.heap->J.go i H->
  wpAny (model P w) X.A (pyNext (.ref it)) (λr s1=>∃u,r=some u/\
   wpAny (model P w) X.A (letOwnedTupleGo tg (.ref it) u) (λ_ s2=>∃x H',Inv X ac Z H' s2/\RelV x u/\J.BY i H x H'/\tn (i+1) s2.heap/\∀b∈fp,H' b=none) E s1) E s
 done:∀(X:Cx),X.prog=P->X.w=w->X.K=K->X.A.handled=some (.ref a)->∀(i:Nat) (ac:List (ai×Obj)) (s:aj) (Z:St) (H:Hp) (E:ag->aj->Prop),Inv X ac Z H s->(∀b∈fp,mQ X ac H b)->tn i s.heap->J.stop i H->
  wpAny (model P w) X.A (pyNext (.ref it)) (λr s1=>r=none/\Inv X ac Z H s1) E s
 self:∀(A:bG) (i:Nat) (s:aj) (Q:ag->aj->Prop) (E:ag->aj->Prop),tn i s.heap->Q (.ref it) s->wpAny (model P w) A (pyIter (.ref it)) Q E s
def Zy (a:ai) (X:Cx) (ac:List (ai×Obj)) (Z:St) (tg:Expr) (R:It->Hp->Prop) (OH:ag) (s2:aj):Prop:=
 ∃(it:ai) (fp:List ai) (tn:Nat->Heap->Prop) (J:It) (H':Hp),OH=.ref it/\Inv X ac Z H' s2/\NZ X.prog X.w X.K a tg J fp it tn/\tn 0 s2.heap/\(∀b∈fp,mQ X ac H' b)/\R J H'
def PIG (a:ai) (X:Cx) (tg iter:Expr) (wi:TI):Prop:=
 ∀(ac:List (ai×Obj)) (s:aj) (Z:St) (H:Hp) (R:It->Hp->Prop),Inv X ac Z H s->wi Z H R->
  wpAny (model X.prog X.w) X.A (eval iter X.env) (λv s1=>wpAny (model X.prog X.w) X.A (pyIter v) (Zy a X ac Z tg R) X.xe s1) X.xe s
def QT (K:Φ) (e0 a b:ai):It:=⟨λi H=>∃xs ys x y,cT K H a xs/\cT K H b ys/\xs[i]?=some x/\ys[i]?=some y,
 λi H v H'=>∃T x y,H T=none/\v=.ref T/\H'=upd H T (.tup [x,y])/\(∀xs,cT K H a xs->xs[i]?=some x)/\∀ys,cT K H b ys->ys[i]?=some y,λi H=>Bn e0 H/\∃xs ys,cT K H a xs/\cT K H b ys/\(xs.length<=i\/ys.length<=i)⟩
def QU (z TI TO i1 i2 a b:ai) (i:Nat) (h:Heap):Prop:=IsZip h z TI TO .none/\IsPair h TI (.ref i1) (.ref i2)/\(∃x y,IsPair h TO x y)/\h.IsListIter i1 a i/\h.IsListIter i2 b i
def Dx {P:aM}{w:bB}{K:Φ}{e0:ai}{elts:List Expr}{kk:Nat}{tp:Pos}(z TI TO i1 i2 a b:ai) (D:ZipApart z TI TO i1 i2 a b):NZ P w K e0 (.Tuple elts kk tp) (QT K e0 a b) [z,TI,TO,i1,i2] z (QU z TI TO i1 i2 a b) where
 mem:=ς
 obj:=λi h st c hc=>by
  obtain⟨z1,z2,⟨x,y,z3⟩,⟨o,o1,o2,o3⟩,⟨u,u1,u2,u3⟩⟩:=st
  simp only[aD,aN,cy] at hc
  rcases hc with rfl|rfl|rfl|rfl|rfl
  .exact⟨_,z1,λv e=>by cases(show Data.fields _=Data.cell v from e)⟩
  .exact⟨_,z2,λv e=>by cases(show Data.seq _ _=Data.cell v from e)⟩
  .exact⟨_,z3,λv e=>by cases(show Data.seq _ _=Data.cell v from e)⟩
  .exact⟨o,o1,λv e=>by rw[o3] at e;cases e⟩
  .exact⟨u,u1,λv e=>by rw[u3] at e;cases e⟩
 keep:=λi h h' st kp=>by
  obtain⟨z1,z2,⟨x,y,z3⟩,⟨o,o1,o2⟩,⟨u,u1,u2⟩⟩:=st
  exact⟨kp z ς _ z1,kp TI ς _ z2,⟨x,y,kp TO ς _ z3⟩,⟨o,kp i1 ς o o1,o2⟩,⟨u,kp i2 ς u u1,u2⟩⟩
 item:=by
  intro X hP hw hK hc i ac s Z H E I hf st hg
  subst hP hw hK
  obtain⟨xs,ys,x,y,AB,z_,hx,hy⟩:=hg
  obtain⟨vM,Lp,p1,_⟩:=I.list AB
  obtain⟨lQ,Lq,p2,_⟩:=I.list z_
  obtain⟨u1,XW,Pe⟩:=Lp.get hx
  obtain⟨u2,Pf,Pg⟩:=Lq.get hy
  obtain⟨z1,z2,⟨oa,ob,z3⟩,j1,j2⟩:=st
  have Ik:s.TypeIs (.ref z) "zip":=⟨_,z1,rfl⟩
  have lt:∀c∈[z,TI,TO,i1,i2],c<s.heap.objs.size:=λc hc=>by
   obtain⟨_,w1,_⟩:=id j1
   obtain⟨_,w2,_⟩:=id j2
   simp only[aD,aN,cy] at hc
   rcases hc with rfl|rfl|rfl|rfl|rfl
   .exact aC z1
   .exact aC z2
   .exact aC z3
   .exact aC w1
   .exact aC w2
  unfold pyNext
  refine aa (vh (cH (name:=Str.ofString "__next__") Ik iA (dQ iA Ik xq
   (F_ D z1 z2 z3 j1 j2 p1.isList p2.isList (x:=u1) (y:=u2) (by simpa using XW) (by simpa using Pf) λh' a1 a2 a3 a4 a5 a7=>ak ?_) (uR _))))
  refine⟨_,rfl,wpAny_letOwnedTupleGo_zip a1 λh2 b1 Lr=>?_⟩
  have nT:s.heap.objs.size≠z:=g_ (lt z ς)
  have F0:∀c o,c≠z->h'.get? c=some o->h2.get? c=some o:=λc o n e=>(Lr.2 c n).trans e
  obtain⟨f1,f2,f3⟩:=I.out (h':=h2) (t':=s.toks) (xs:=[x,y]) (us:=[u1,u2]) hf lt (.cons Pe (.cons Pg .nil)) (dP)
   (λc o hc q=>F0 c o (λe=>hc (by simp[e])) (a7 c o (λe=>hc (by simp[e])) (λe=>hc (by simp[e])) (λe=>hc (by simp[e])) (λe=>hc (by simp[e])) q)) (F0 _ _ nT a5)
  obtain⟨v1,v2,v3⟩:=a3
  obtain⟨w1,w2,w3⟩:=a4
  exact⟨.ref s.heap.objs.size,_,f2,rfl,⟨_,x,y,f1,rfl,rfl,λzs Ph=>by rw[I.rz Ph AB];exact hx,λzs Ph=>by rw[I.rz Ph z_];exact hy⟩,
   ⟨b1,F0 _ _ D.TIz (a7 _ _ D.TIz D.TITO D.TIi1 D.TIi2 z2),⟨_,_,F0 _ _ D.TOz a2⟩,⟨v1,F0 _ _ D.i1z v2,v3⟩,⟨w1,F0 _ _ D.i2z w2,w3⟩⟩,f3⟩
 done:=by
  intro X hP hw hK hc i ac s Z H E I hf st hg
  subst hP hw hK
  obtain⟨hE,xs,ys,AB,z_,XX⟩:=hg
  obtain⟨vM,Lp,p1,_⟩:=I.list AB
  obtain⟨lQ,Lq,p2,_⟩:=I.list z_
  obtain⟨z1,z2,⟨oa,ob,z3⟩,j1,j2⟩:=st
  have Ik:s.TypeIs (.ref z) "zip":=⟨_,z1,rfl⟩
  have l1:=Lp.length
  have l2:=Lq.length
  have ends:vM.toArray[i]?=none\/lQ.toArray[i]?=none:=by
   rcases XX with e|e
   .left;simp;omega
   .right;simp;omega
  have na:∀c,X.A.handled=some (.ref c)->c≠z/\c≠TO/\c≠i1/\c≠i2:=λc ec=>by
   have e1:c=e0:=by have:=ec.symm.trans hc;injection this with this;injection this
   subst e1
   obtain⟨cls,ej,hE⟩:=hE
   have no:∀b∈[z,TI,TO,i1,i2],c≠b:=λb hb e=>by rw[e,(hf b hb).1] at hE;cases hE
   exact⟨no z ς,no TO ς,no i1 ς,no i2 ς⟩
  unfold pyNext
  refine aa (vh (cH (name:=Str.ofString "__next__") Ik iA (dQ iA Ik xq
   (Ga (hE.Aa hc I) na D z1 z2 z3 j1 j2 p1.isList p2.isList ends λh' x kp ⟨o,o1,o2⟩=>?_) (uR _))))
  refine aa (Oh (T:="StopIteration") (b:=true) ⟨o,o1,o2⟩ isSubtype_stop (ak ⟨rfl,?_⟩))
  exact I.uU (t':=s.toks) hf λc o hc q=>kp c o (λe=>hc (by simp[e])) (λe=>hc (by simp[e])) (λe=>hc (by simp[e])) (λe=>hc (by simp[e])) q
 self:=λ_ _ _ _ _ st q=>xr st.1 q
def QV (K:Φ) (e0:ai) (ta:TA):TI:=λZ H R=>ta Z H λvs H1=>∃a b,vs=[.ref a,.ref b]/\(∃xs,cT K H1 a xs)/\(∃ys,cT K H1 b ys)/\R (QT K e0 a b) H1
def JY (hg:Gl X "zip") (hm:X.mg "zip"=none) (ha:PA X [e1,e2] ta) (hs:starEach [e1,e2] X.env=[(false,eval e1 X.env),(false,eval e2 X.env)]:=by rfl) (Hc:starEach [e2] X.env=[(false,eval e2 X.env)]:=by rfl):
  PIG e0 X (.Tuple elts kk tp) (.Call (.Name "zip" p) [e1,e2] [] pos) (QV X.K e0 ta):=by
 intro ac s Z H R I h
 refine Call_ (qv I hg hm yg (gx (fq (ha pos ac s Z H _ I h) λus s1 ⟨vs,H1,I1,r1,q1⟩=>?_) (by rw[hs,Hc]) (by rw[Hc];rfl)))
 obtain⟨a,b,e,⟨xs,AB⟩,⟨ys,z_⟩,q⟩:=q1
 subst e
 obtain⟨u1,u2,rfl,Pe,Pg⟩:=vals2 r1
 cases(show u1=Value.ref a from Pe)
 cases(show u2=Value.ref b from Pg)
 obtain⟨vM,Lp,p1,_⟩:=I1.list AB
 obtain⟨lQ,Lq,p2,_⟩:=I1.list z_
 have la:a<s1.heap.objs.size:=by obtain⟨o,e,_⟩:=p1.isList;exact aC e
 have lb:b<s1.heap.objs.size:=by obtain⟨o,e,_⟩:=p2.isList;exact aC e
 refine Gb p1.isList p2.isList λh' a1 a2 a3 a4 a5 kp=>xr a1 ?_
 refine⟨_,[s1.heap.objs.size+4,s1.heap.objs.size+2,s1.heap.objs.size+3,s1.heap.objs.size,s1.heap.objs.size+1],_,_,H1,rfl,I1.kept (t':=s1.toks) kp,Dx _ _ _ _ _ a b (zipApart_new la lb),⟨a1,a2,⟨_,_,a3⟩,a4,a5⟩,λc hc=>?_,q⟩
 have ge:s1.heap.objs.size<=c:=by
  simp only[aD,aN,cy] at hc
  rcases hc with rfl|rfl|rfl|rfl|rfl
  .exact dH _ _
  .exact dH _ _
  .exact dH _ _
  .exact ar _
  .exact dH _ _
 exact I1.yV ge (I1.eN.fresh ge)
section
variable {X:Cx}
def QW (hc:X.A.handled=some (.ref e0)) (hi:PIG e0 X tg iter wi) (S:fz X scope N r)
  (hg:∀s H fp,PG (X.ya N scope s H fp) tg g) (ht:∀s H fp,Ny (X.ya N scope s H fp) ifs tc) (he:∀s H fp,PE (X.ya N scope s H fp) elt te)
  (hs:∀x,foldedSetIterable iter X.env x=pure x:=by intro _;rfl):PE X (.ListComp elt [⟨tg,iter,ifs,0⟩] scope pos) (XQ wi r g tc te):=by
 intro ac s Z H Q I h
 rw[eval_ListComp]
 have HZ:closureFor scope X.env=pure (nF scope X.env):=mz λy hy hk=>I.ok.has y.1 (S.out y hy hk)
 refine vg (use:=none) rfl hs HZ S.kind S.own ?_
 show wpAny _ _ (eval iter X.env) _ _ s
 refine fq (hi ac s Z H _ I h) λv s1 h1=>fq h1 λOH s2 h2=>?_
 obtain⟨it,fp,tn,J,H2,e,I2,T,Bx,f2,q2⟩:=h2
 subst e
 have hD:H2 s2.heap.objs.size=none:=I2.eN.fresh (ar _)
 obtain⟨W,⟨m0,w0⟩,turn⟩:=q2 _ hD
 have Ay:∀b∈fp,b<s2.heap.objs.size:=λb hb=>by
  obtain⟨o,e,_⟩:=T.obj _ _ Bx b hb
  exact aC e
 refine bE ?_
 generalize Bz:({s2 with heap:=s2.heap.push {cls:=.type "list",dict:=none,data:=.seq ([]:List ag).toArray}}:aj)=s3
 have k3:∀b o,s2.heap.get? b=some o->s3.heap.get? b=some o:=λb o e=>by rw[<-Bz];exact af _ e
 have z3:s3.heap.objs.size=s2.heap.objs.size+1:=by rw[<-Bz];exact cf ..
 have u3:Un (oq X.stack) fp H2 (upd H2 s2.heap.objs.size (.lst [])) s2.heap s3.heap:=Un.laid k3 (ar _) hD
 have o3:s3.os=s2.os:=by rw[<-Bz]
 have I3:Inv X ac Z (upd H2 s2.heap.objs.size (.lst [])) s3:=by
  rw[<-Bz]
  exact I2.laid (t':=s2.toks) (λb u e=>af _ e) (ar _) ⟨de _,[],0,.nil,az _ rfl⟩
 have f3:∀b∈fp,mQ X ac (upd H2 s2.heap.objs.size (.lst [])) b:=λb hb=>⟨by rw[aV (ba (Ay b hb))];exact(f2 b hb).1,(f2 b hb).2⟩
 refine BJ S.qD (by intro y hy;simp at hy) (λh4 H_ Ia=>?_) S.kind
 have k4:∀b o,s3.heap.get? b=some o->h4.get? b=some o:=λb o e=>Ia.extBut b o (ba (aC e)) (af _ e)
 have J4:Inv (X.ya N scope s3 (upd H2 s2.heap.objs.size (.lst [])) fp) [] (r.map (pick Z)) (upd H2 s2.heap.objs.size (.lst [])) {s3 with heap:=h4,toks:=s3.toks+([]:List (Str×ag)).length}:=
  tu S I3 f3 (λb hb=>by rw[z3];exact gk (Ay b hb)) H_ k4
 have Ib:tn 0 h4:=T.keep _ _ _ Bx λb _ o e=>k4 b o (k3 b o e)
 have qx:∀{H':Hp},(∀b∈fp,H' b=none)->∀b∈fp,mQ (X.ya N scope s3 (upd H2 s2.heap.objs.size (.lst [])) fp) [] H' b:=λhn b hb=>
  ⟨hn b hb,(J4.ok.Ft b hb).1,J4.ok.uz b hb,.inl hb,(J4.ok.Ft b hb).2,λp hp=>absurd (show p∈([]:List (ai×Obj)) from hp) ς⟩
 generalize hY:X.ya N scope s3 (upd H2 s2.heap.objs.size (.lst [])) fp=Y at*
 have loop:∀s4:aj,s4={s3 with heap:=h4,toks:=s3.toks+([]:List (Str×ag)).length}->
   codeAny (model X.prog X.w) X.A (.compLoop (.ListComp elt [⟨tg,iter,ifs,0⟩] scope pos) 0 (.ref it) (.ref s2.heap.objs.size) Y.env) (compPost (model X.prog X.w) X.A X.xe none (EP X ac Z Q) (.ref s2.heap.objs.size) s3.heap.objs.size) s4:=by
  rintro s4 rfl
  have yp:Y.prog=X.prog:=by rw[<-hY]
  have yw:Y.w=X.w:=by rw[<-hY]
  have yK:Y.K=X.K:=by rw[<-hY]
  have yA:Y.A=X.A:=by rw[<-hY]
  have yc:Y.A.handled=some (.ref e0):=by rw[<-hY];exact hc
  have Th:PG Y tg g:=by rw[<-hY];exact hg _ _ _
  have Ti:Ny Y ifs tc:=by rw[<-hY];exact ht _ _ _
  have Tj:PE Y elt te:=by rw[<-hY];exact he _ _ _
  have yx:∀e s',¬Y.xe e s':=λe s' z=>by rw[<-hY] at z;exact z
  refine oW (λn s'=>∃i bX H',Inv Y [] bX H' s'/\tn i s'.heap/\(∀b∈fp,H' b=none)/\W i n bX H') ?_ m0 ⟨0,_,_,J4,Ib,λb hb=>(f3 b hb).1,w0⟩
  rintro n s5 ⟨i,Ex,H5,I5,G_,KG,w5⟩
  rcases turn i n Ex H5 w5 with⟨stop,qn⟩|⟨go,Nn,Mm,Tn,To,step⟩
  .have d:=T.done Y yp yw yK yc i [] s5 Ex H5 (notedBy (model X.prog X.w) X.A Y.env λe s'=>compPost (model X.prog X.w) X.A X.xe none (EP X ac Z Q) (.ref s2.heap.objs.size) s3.heap.objs.size (.error e) s') I5 (qx KG) G_ stop
   rw[yA] at d
   refine fq d λrr s6 cZ=>?_
   obtain⟨hr,I6⟩:=cZ
   subst hr
   obtain⟨m,hn,_⟩:=id I6.loc
   refine⟨m,by rw[<-hY] at hn;exact hn,λh' Tp=>⟨.ref s2.heap.objs.size,H5,?_,rfl,qn⟩⟩
   rw[<-hY] at I6
   exact zc I2 f2 u3 (by rw[z3];exact dN _) o3 I6 Tp
  .have d:=T.item Y yp yw yK yc i [] s5 Ex H5 (notedBy (model X.prog X.w) X.A Y.env λe s'=>compPost (model X.prog X.w) X.A X.xe none (EP X ac Z Q) (.ref s2.heap.objs.size) s3.heap.objs.size (.error e) s') I5 (qx KG) G_ go
   rw[yA] at d
   refine fq d λrr s6 cZ=>?_
   obtain⟨u,hr,h6⟩:=cZ
   subst hr
   refine fq h6 λ_ s7 cZ=>?_
   obtain⟨x,H7,I7,r7,y7,Ic,Tq⟩:=cZ
   have Tr:=I7.pinned (qx Tq) (T.obj _ _ Ic)
   have g7:=Th _ s7 Ex H7 x u _ Tr r7 (step x H7 y7)
   rw[yp,yw,yA] at g7
   refine bM g7 (λ_ s8 cZ=>?_) λe s' z=>(yx e s' z).elim
   obtain⟨yd,H8,I8,q8⟩:=cZ
   have t8:=Ti _ s8 yd H8 _ I8 q8
   rw[yp,yw,yA] at t8
   refine bM t8 (λok s9 cZ=>?_) λe s' z=>(yx e s' z).elim
   obtain⟨H9,I9,q9⟩:=cZ
   have again:∀{s10:aj} {vI:Hp} {m':Nat},Inv Y ([]++qw fp s7.heap) yd vI s10->m'<n->W (i+1) m' yd vI->∃m,m<n/\∃i bX H',Inv Y [] bX H' s10/\tn i s10.heap/\(∀b∈fp,H' b=none)/\W i m bX H':=λ{s10 vI m'} Az hm Cj=>by
    refine⟨m',hm,i+1,yd,vI,Az.mR,T.keep _ _ _ Ic λb hb o e=>(Az.pin (b,o) (bJ _ (bJ _ (iu hb e)))).1,λb hb=>?_,Cj⟩
    obtain⟨o,e,d⟩:=T.obj _ _ Ic b hb
    exact(Az.pin (b,o) (bJ _ (bJ _ (iu hb e)))).2.1
   cases ok with
   |false=>
    rw[aO ς] at q9⊢
    obtain⟨m',hm,w9⟩:=Tn _ _ q9
    exact again I9 hm w9
   |true=>
    rw[aQ rfl] at q9⊢
    have e9:=Tj _ s9 yd H9 _ I9 q9
    rw[yp,yw,yA] at e9
    refine bM e9 (λuu s10 cZ=>?_) λe s' z=>(yx e s' z).elim
    obtain⟨y,vI,Az,r10,hM⟩:=cZ
    obtain⟨xs,m',Ie,hz,hm,Cj⟩:=To _ _ _ hM
    have a10:=gE _ s10 yd vI (.ref s2.heap.objs.size) [y] (.ref s2.heap.objs.size) [uu] (λv Hq=>v=.eK/\Hq=upd vI s2.heap.objs.size (.lst (xs++ [y]))) Az rfl (.cons r10 .nil) ⟨_,xs,y,rfl,rfl,Ie,hz,rfl,rfl⟩
    rw[yp,yw,yA] at a10
    refine bM a10 (λ_ s11 cZ=>?_) λe s' z=>(yx e s' z).elim
    obtain⟨_,H11,Ts,_,_,Tt⟩:=cZ
    subst Tt
    exact again Ts hm Cj
 have Tu:Y.env={scope:=relabel scope X.env,locals:=s3.heap.objs.size,globals:=X.env.globals,cells:=nF scope X.env,qual:=X.env.qual,func:=none,code:=X.env.code,frame:=X.env.frame,builtins:=X.env.builtins}:=by rw[<-hY];rfl
 rw[Tu] at loop
 exact yF (loop _ rfl) (T.self _ 0 _ _ _ Ib (loop _ rfl))
end
end L2
namespace L2
open PySem HT PySem.W
def um (H:Hp) (ej:Option ai) (fs:List (Str×V)):Prop:=ej=none\/∃d,ej=some d/\H d=some (.xd fs)
def um.same (h:um H ej fs) (s:a_ H H'):um H' ej fs:=h.imp id λ⟨d,e,h⟩=>⟨d,e,s _ _ h⟩
def JZ (K:Φ):List V->Hp->VK->Prop:=λxs H Q=>∃a C ej fs c cv b,xs=[.ref a,c]/\H a=some (tU a (.ref C) ej)/\um H ej fs/\o7 K C/\IK c=some cv/\kitOne K (.ref C) cv=some b/\Q (.bl b) H
def fw:gN X (.builtin "isinstance") (JZ X.K):=by
 intro ac s Z H xs us Q I r h
 obtain⟨a,C,ej,fs,c,cv,b,e,ha,hd,F,hc,hk,q⟩:=h
 rcases hd with rfl|⟨d,rfl,hd⟩
 .exact CS ac s Z H xs us Q I r ⟨a,C,c,cv,b,e,ha,F,hc,hk,q⟩
 .exact Di ac s Z H xs us Q I r ⟨a,C,d,fs,c,cv,b,e,ha,hd,F,hc,hk,q⟩
end L2
namespace K12
open PySem L2 HT PySem.W
def uK:List Str:=["NoCrew","NoName","NoNumber","NoPiece","NoRow","NoRower","NoText","NothingLeft","NoTrial","TooMany","Twice"]
structure Vt (K:Φ) (mg:Str->Option ag) (C:ai) (nm:Str):Prop where
 ex:o7 K C
 all:∀x∈uK,∃D,mg x=some (.ref D)/\kitOne K (.ref C) (.ref D)=some (decide (x=nm))
 ve:kitOne K (.ref C) (.type "ValueError")=some true
section
variable {P:aM}{w:bB}{K:Φ}{mg:Str->Option ag}{base:Heap}
abbrev Hl:Stmt:=top 43
def n_ (i:Nat):Stmt:=(fC Hl).getD i (.Pass ⟨0,0,0,0⟩)
def MH:fC Hl=[n_ 0,n_ 1,n_ 2,n_ 3,n_ 4,n_ 5]:=rfl
abbrev QX:List Str:=["e","kinds","names"]
def GL:bW QX ["e"] (aw Hl):={}
def Vu:(["name","kind"]:List Str).Nodup:=by decide+kernel
def MK:bootBuiltins "ValueError"=some (.type "ValueError"):=by decide+kernel
def kF:List Str:=uK++(["+"]:List Str)
def iN (nm:Str):List Bool:=uK.map (λx=>decide (x=nm))++ [true]
def Bo (nm:Str) (i:Nat):List Str:=(((kF.zip (iN nm)).take i).filter (·.2)).map (·.1)
def GN (h:nm∈uK):Bo nm 12=[nm,"+"]:=by
 revert nm
 decide+kernel
def ML:∀nm∈uK,JoinOk "" [nm,"+"]=true:=by decide+kernel
def QY (K:Φ) (mg:Str->Option ag):ai->Sp:=λa vs H Q _=>∃(C:ai) (ej:Option ai) (fs:List (Str×V)) (nm:Str),vs=[.ref a]/\H a=some (tU a (.ref C) ej)/\um H ej fs/\Vt K mg C nm/\nm∈uK/\∀H',a_ H H'->Q (.str (Txt.join "" [nm,"+"])) H'
def no0 (T:Txt mg) (kd:Vt K mg C nm):∃r t,n_ 0=r/\PS (vW P w K mg base QX "_law_name_of" (aw Hl) f cdv A outer s H) r t/\∀(D:Ends) (H1:Hp) (v1 v2:Option V) (a:ai) (ej:Option ai) (fs:List (Str×V)),H1 a=some (tU a (.ref C) ej)->um H1 ej fs->(∀l' H2,a_ H1 H2->H2 l'=some (.lst (((iN nm).take 4).map V.bl))->D.nx [some (.ref a),some (.ref l'),v2] H2)->t D [some (.ref a),v1,v2] H1:=by
 obtain⟨D0,m0,k0⟩:=kd.all "NoCrew" (by decide+kernel)
 obtain⟨D1,m1,k1⟩:=kd.all "NoName" (by decide+kernel)
 obtain⟨D2,m2,k2⟩:=kd.all "NoNumber" (by decide+kernel)
 obtain⟨D3,m3,k3⟩:=kd.all "NoPiece" (by decide+kernel)
 refine⟨_,_,rfl,ku (i:=1) GL.nd (cX (ae (aR fw rfl T.tO aE (ae (pv 0) (ae (fY (v:=.ref D0) rfl m0 rfl) ah))) (ae (aR fw rfl T.tO aE (ae (pv 0) (ae (fY (v:=.ref D1) rfl m1 rfl) ah))) (ae (aR fw rfl T.tO aE (ae (pv 0) (ae (fY (v:=.ref D2) rfl m2 rfl) ah))) (ae (aR fw rfl T.tO aE (ae (pv 0) (ae (fY (v:=.ref D3) rfl m3 rfl) ah))) ah))))),?_⟩
 intro D H1 v1 v2 a ej fs ha hd nx
 refine⟨_,rfl,a,C,ej,fs,_,_,decide (("NoCrew":Str)=nm),rfl,ha,hd,kd.ex,rfl,k0,_,rfl,a,C,ej,fs,_,_,decide (("NoName":Str)=nm),rfl,ha,hd,kd.ex,rfl,k1,_,rfl,a,C,ej,fs,_,_,decide (("NoNumber":Str)=nm),rfl,ha,hd,kd.ex,rfl,k2,_,rfl,a,C,ej,fs,_,_,decide (("NoPiece":Str)=nm),rfl,ha,hd,kd.ex,rfl,k3,dP,λl hl=>?_⟩
 exact nx l _ (aP hl _) aB
def no1 (T:Txt mg) (kd:Vt K mg C nm):∃r t,n_ 1=r/\PS (vW P w K mg base QX "_law_name_of" (aw Hl) f cdv A outer s H) r t/\∀(D:Ends) (H1:Hp) (v1 v2:Option V) (a l:ai) (ej:Option ai) (fs:List (Str×V)),H1 a=some (tU a (.ref C) ej)->um H1 ej fs->H1 l=some (.lst (((iN nm).take 4).map V.bl))->(∀l' H2,a_ H1 H2->H2 l'=some (.lst (((iN nm).take 8).map V.bl))->D.nx [some (.ref a),some (.ref l'),v2] H2)->t D [some (.ref a),some (.ref l),v2] H1:=by
 obtain⟨D4,m4,k4⟩:=kd.all "NoRow" (by decide+kernel)
 obtain⟨D5,m5,k5⟩:=kd.all "NoRower" (by decide+kernel)
 obtain⟨D6,m6,k6⟩:=kd.all "NoText" (by decide+kernel)
 obtain⟨D7,m7,k7⟩:=kd.all "NothingLeft" (by decide+kernel)
 refine⟨_,_,rfl,ku (i:=1) GL.nd (bT lD (pv 1) (cX (ae (aR fw rfl T.tO aE (ae (pv 0) (ae (fY (v:=.ref D4) rfl m4 rfl) ah))) (ae (aR fw rfl T.tO aE (ae (pv 0) (ae (fY (v:=.ref D5) rfl m5 rfl) ah))) (ae (aR fw rfl T.tO aE (ae (pv 0) (ae (fY (v:=.ref D6) rfl m6 rfl) ah))) (ae (aR fw rfl T.tO aE (ae (pv 0) (ae (fY (v:=.ref D7) rfl m7 rfl) ah))) ah)))))),?_⟩
 intro D H1 v1 v2 a l ej fs ha hd hl nx
 refine⟨_,rfl,_,rfl,a,C,ej,fs,_,_,decide (("NoRow":Str)=nm),rfl,ha,hd,kd.ex,rfl,k4,_,rfl,a,C,ej,fs,_,_,decide (("NoRower":Str)=nm),rfl,ha,hd,kd.ex,rfl,k5,_,rfl,a,C,ej,fs,_,_,decide (("NoText":Str)=nm),rfl,ha,hd,kd.ex,rfl,k6,_,rfl,a,C,ej,fs,_,_,decide (("NothingLeft":Str)=nm),rfl,ha,hd,kd.ex,rfl,k7,dP,λl2 oE=>?_⟩
 have nY:l≠l2:=λz=>by rw[<-z,hl] at oE;cases oE
 refine⟨l,l2,_,_,rfl,rfl,by rw[aV nY];exact hl,aB,dP,λl3 GO=>?_⟩
 exact nx l3 _ ((aP oE _).trans (aP GO _)) aB
def R6 (T:Txt mg) (kd:Vt K mg C nm):∃r t,n_ 2=r/\PS (vW P w K mg base QX "_law_name_of" (aw Hl) f cdv A outer s H) r t/\∀(D:Ends) (H1:Hp) (v1 v2:Option V) (a l:ai) (ej:Option ai) (fs:List (Str×V)),H1 a=some (tU a (.ref C) ej)->um H1 ej fs->H1 l=some (.lst (((iN nm).take 8).map V.bl))->(∀l' H2,a_ H1 H2->H2 l'=some (.lst (((iN nm).take 12).map V.bl))->D.nx [some (.ref a),some (.ref l'),v2] H2)->t D [some (.ref a),some (.ref l),v2] H1:=by
 obtain⟨D8,m8,k8⟩:=kd.all "NoTrial" (by decide+kernel)
 obtain⟨D9,m9,k9⟩:=kd.all "TooMany" (by decide+kernel)
 obtain⟨D10,m10,k10⟩:=kd.all "Twice" (by decide+kernel)
 refine⟨_,_,rfl,ku (i:=1) GL.nd (bT lD (pv 1) (cX (ae (aR fw rfl T.tO aE (ae (pv 0) (ae (fY (v:=.ref D8) rfl m8 rfl) ah))) (ae (aR fw rfl T.tO aE (ae (pv 0) (ae (fY (v:=.ref D9) rfl m9 rfl) ah))) (ae (aR fw rfl T.tO aE (ae (pv 0) (ae (fY (v:=.ref D10) rfl m10 rfl) ah))) (ae (aR fw rfl T.tO aE (ae (pv 0) (ae (gQ (v:=.ty "ValueError") rfl T.ValueError MK rfl) ah))) ah)))))),?_⟩
 intro D H1 v1 v2 a l ej fs ha hd hl nx
 refine⟨_,rfl,_,rfl,a,C,ej,fs,_,_,decide (("NoTrial":Str)=nm),rfl,ha,hd,kd.ex,rfl,k8,_,rfl,a,C,ej,fs,_,_,decide (("TooMany":Str)=nm),rfl,ha,hd,kd.ex,rfl,k9,_,rfl,a,C,ej,fs,_,_,decide (("Twice":Str)=nm),rfl,ha,hd,kd.ex,rfl,k10,_,rfl,a,C,ej,fs,_,_,true,rfl,ha,hd,kd.ex,rfl,kd.ve,dP,λl2 oE=>?_⟩
 have nY:l≠l2:=λz=>by rw[<-z,hl] at oE;cases oE
 refine⟨l,l2,_,_,rfl,rfl,by rw[aV nY];exact hl,aB,dP,λl3 GO=>?_⟩
 exact nx l3 _ ((aP oE _).trans (aP GO _)) aB
def no3:∃r t,n_ 3=r/\PS (vW P w K mg base QX "_law_name_of" (aw Hl) f cdv A outer s H) r t/\∀(D:Ends) (H1:Hp) (v0 v1 v2:Option V),(∀l H2,a_ H1 H2->H2 l=some (.lst ((kF.take 9).map V.str))->D.nx [v0,v1,some (.ref l)] H2)->t D [v0,v1,v2] H1:=by
 refine⟨_,_,rfl,(by
  refine yQ (i:=2) (te:=xA (λ_ H Q=>Q ((kF.take 9).map V.str) H)) ?_ ?_ ?_ ?_ ?_ ?_
  .exact GL.nd
  .rfl
  .exact Or.inl rfl
  .refine cX ?_
   refine AR ?_
   repeat (first|exact .nil|refine .cons ⟨_,_,_,rfl,rfl⟩ ?_)
  .rfl
  .exact .inl rfl),?_⟩
 intro D H1 v0 v1 v2 nx
 exact⟨dP,λl hl=>nx l _ (aP hl _) aB⟩
def no4:∃t,PS (vW P w K mg base QX "_law_name_of" (aw Hl) f cdv A outer s H) (n_ 4) t/\∀(D:Ends) (H1:Hp) (v0 v1:Option V) (l:ai),H1 l=some (.lst ((kF.take 9).map V.str))->(∀l' H2,a_ H1 H2->H2 l'=some (.lst (kF.map V.str))->D.nx [v0,v1,some (.ref l')] H2)->t D [v0,v1,some (.ref l)] H1:=by
 refine⟨_,ku (i:=2) GL.nd (bT lD (pv 2) (cX (ae aW (ae aW (ae aW ah))))),?_⟩
 intro D H1 v0 v1 l hl nx
 refine⟨_,rfl,dP,λl2 oE=>?_⟩
 have nY:l≠l2:=λz=>by rw[<-z,hl] at oE;cases oE
 refine⟨l,l2,_,_,rfl,rfl,by rw[aV nY];exact hl,aB,dP,λl3 GO=>?_⟩
 exact nx l3 _ ((aP oE _).trans (aP GO _)) aB
def no5 (hh:(A.deeper (Ψ "_law_name_of" (aw Hl) s.heap.objs.size f cdv)).handled=some (.ref a)) (hz:mg "zip"=none):∃t,PS (vW P w K mg base QX "_law_name_of" (aw Hl) f cdv A outer s H) (n_ 5) t/\∀(D:Ends) (H1:Hp) (v0:Option V) (l m:ai) (nm:Str),Bn a H1->H1 l=some (.lst ((iN nm).map V.bl))->H1 m=some (.lst (kF.map V.str))->nm∈uK->(∀H2,a_ H1 H2->D.rt (.str (Txt.join "" [nm,"+"])) H2)->t D [v0,some (.ref l),some (.ref m)] H1:=by
 refine⟨_,bH (ql PySem.F.plainAttrs_str PySem.F.slot_str_join PySem.F.type_str_join Lz aW (ae (QW (e0:=a) (N:=["name","kind"]) (g:=NY K a 2 (kD (dI 0) (kD (dI 1) Al))) (tc:=tB (b_ 1)) (te:=b_ 0) hh (JY rfl hz (ae (pv 2) (ae (pv 1) ah))) (fz.closed rfl)
   (λ_ _ _=>Mz hh (bz (aZ (i:=0) Vu) (bz (aZ (i:=1) Vu) eZ))) (λ_ _ _=>ig (fM (pv 1))) (λ_ _ _=>pv 0)) ah)),?_⟩
 intro D H1 v0 l m nm hE hl hm R1 rt
 have lk:((iN nm).map V.bl).length=12:=by rw[aq];unfold iN;rw[aK,aq];rfl
 have ln:(kF.map V.str).length=12:=by rw[aq];rfl
 refine⟨rfl,_,rfl,_,rfl,m,l,rfl,⟨_,cT.of hm⟩,⟨_,cT.of hl⟩,λL hL=>?_⟩
 refine AD (J:=QT K a m l) (n:=12) (u:=λi=>(kF.map V.str).getD i .eK) (v:=λi=>((iN nm).map V.bl).getD i .eK) (λi ys bX J=>(∃x y,bX=[x,y])/\a_ H1 J/\ys=(Bo nm i).map V.str) hL δ ⟨⟨_,_,rfl⟩,aP hL _,rfl⟩ (λi ys Z J hi hy ⟨_,sm,_⟩=>?_) ?_ ?_
 .refine⟨λe=>⟨hE.same sm,_,_,cT.of (sm _ _ hm),cT.of (sm _ _ hl),.inl (by rw[ln];omega)⟩,λe=>?_⟩
  have e1:(kF.map V.str)[i]?=some ((kF.map V.str).getD i .eK):=by rw[bf,aG (by rw[ln];exact e)];rfl
  have e2:((iN nm).map V.bl)[i]?=some (((iN nm).map V.bl).getD i .eK):=by rw[bf,aG (by rw[lk];exact e)];rfl
  refine⟨⟨_,_,_,_,cT.of (sm _ _ hm),cT.of (sm _ _ hl),e1,e2⟩,?_⟩
  rintro x H' ⟨T,x1,y1,hT,rfl,rfl,f1,f2⟩
  have g1:=(f1 _ (cT.of (sm _ _ hm))).symm.trans e1
  have g2:=(f2 _ (cT.of (sm _ _ hl))).symm.trans e2
  cases g1
  cases g2
  exact⟨T,hT,rfl,rfl⟩
 .rintro i ys Z J t hi hy ⟨⟨x,y,rfl⟩,sm,rfl⟩ ht
  have i1:i<kF.length:=by rw[aq] at ln;omega
  have i2:i<(iN nm).length:=by rw[aq] at lk;omega
  have iz:i<(kF.zip (iN nm)).length:=by rw[List.length_zip];omega
  have a1:(kF.map V.str).getD i .eK=.str kF[i]:=by rw[bf,bY,aG i1];rfl
  have a2:((iN nm).map V.bl).getD i .eK=.bl (iN nm)[i]:=by rw[bf,bY,aG i2];rfl
  have e3:Bo nm (i+1)=Bo nm i++(if(iN nm)[i]=true then[kF[i]] else[]):=by
   unfold Bo
   rw[fW iz,List.getElem_zip,kO,bF]
   congr 1
   by_cases c:(iN nm)[i]=true
   .rw[aQ c,sR (by exact c)];rfl
   .rw[aO c,sU (by exact c)];rfl
  rw[a1,a2,e3]
  exists ht,.tup [.str kF[i],.bl (iN nm)[i]],J,t,s2,xH,J2
  have KN:=s2 _ _ hy
  refine⟨(hE.same sm).same s2,Gf (bZ.of xH) ?_⟩
  refine⟨_,rfl,_,rfl,?_⟩
  dsimp only
  by_cases c:(iN nm)[i]=true
  .rw[aQ c,aQ c]
   exact⟨_,rfl,KN,⟨_,_,rfl⟩,bR (sm.trans s2) hL,by rw[bF];rfl⟩
  .rw[aO c,aO c]
   exact⟨KN,⟨_,_,rfl⟩,sm.trans s2,by rw[eR]⟩
 .rintro ys Z J hy ⟨_,sm,rfl⟩
  rw[GN R1] at hy
  exact⟨"",L,[nm,"+"],rfl,rfl,cT.of hy,ML nm R1,rt J sm⟩
def Vv (F:ji K "_law_name_of" "_law_name_of" Hl f fd) (T:Txt mg) (hz:mg "zip"=none):AO P w K mg base 1 f fd ["e"] (QY K mg):=by
 refine F.okH GL (λa vs H Q E h=>?_) (λa cdv A outer s H vs Q hr h=>?_)
 .obtain⟨C,ej,fs,nm,rfl,_⟩:=h
  rfl
 .obtain⟨C,ej,fs,nm,rfl,ha,hd,kd,R1,q⟩:=h
  obtain⟨r0,t0,e0,p0,g0⟩:=no0 (P:=P) (w:=w) (K:=K) (mg:=mg) (base:=base) (f:=f) (cdv:=cdv) (A:=A) (outer:=outer) (s:=s) (H:=H) T kd
  obtain⟨r1,t1,e1,p1,g1⟩:=no1 (P:=P) (w:=w) (K:=K) (mg:=mg) (base:=base) (f:=f) (cdv:=cdv) (A:=A) (outer:=outer) (s:=s) (H:=H) T kd
  obtain⟨r2,t2,e2,p2,g2⟩:=R6 (P:=P) (w:=w) (K:=K) (mg:=mg) (base:=base) (f:=f) (cdv:=cdv) (A:=A) (outer:=outer) (s:=s) (H:=H) T kd
  obtain⟨r3,t3,e3,p3,g3⟩:=no3 (P:=P) (w:=w) (K:=K) (mg:=mg) (base:=base) (f:=f) (cdv:=cdv) (A:=A) (outer:=outer) (s:=s) (H:=H)
  obtain⟨t4,p4,g4⟩:=no4 (P:=P) (w:=w) (K:=K) (mg:=mg) (base:=base) (f:=f) (cdv:=cdv) (A:=A) (outer:=outer) (s:=s) (H:=H)
  obtain⟨t5,p5,g5⟩:=no5 (P:=P) (w:=w) (K:=K) (mg:=mg) (base:=base) (f:=f) (cdv:=cdv) (A:=A) (outer:=outer) (s:=s) (H:=H) hr.hd hz
  rw[MH,e0,e1,e2,e3]
  refine⟨_,au p0 (au p1 (au p2 (au p3 (au p4 (aF p5))))),?_⟩
  refine g0 _ H none none a ej fs ha hd λl1 H1 s1 h1=>?_
  refine g1 _ H1 none none a l1 ej fs (s1 _ _ ha) (hd.same s1) h1 λl2 H2 s2 h2=>?_
  refine g2 _ H2 none none a l2 ej fs (s2 _ _ (s1 _ _ ha)) ((hd.same s1).same s2) h2 λl3 H3 s3 h3=>?_
  refine g3 _ H3 _ _ _ λm1 H4 s4 h4=>?_
  refine g4 _ H4 _ _ m1 h4 λm2 H5 s5 h5=>?_
  have ss:=(((s1.trans s2).trans s3).trans s4).trans s5
  have Zz:H5 l3=some (.lst ((iN nm).map V.bl)):=by
   have:=(s4.trans s5) _ _ h3
   rw[cY (by unfold iN;rw[aK,aq];decide)] at this
   exact this
  exact g5 _ H5 _ l3 m2 nm ⟨_,_,ss _ _ ha⟩ Zz h5 R1 λH6 s6=>q H6 (ss.trans s6)
end
end K12
namespace L2
open PySem PySem.Spec PySem.W PyProof.Rows HT
open AutoSeq1 (wpAny_loadPart')
section
variable {X:Cx}
end
end L2
namespace L2
open PySem HT PySem.W
section
variable {X:Cx}
def EZ:K5:=λo i v H Q=>∃a H',o=.ref a/\Cq H a i v H'/\Q H'
def Fp (hu:X.A.units+1<cLine):OF X EZ:=by
 intro ac s Z H o i v ov iv u Q I ro ri rv h
 obtain⟨a,H',rfl,g,q⟩:=h
 obtain rfl:ov=Value.ref a:=ro
 exact F6 hu I g ri rv λs' I'=>⟨H',I',q⟩
end
end L2
namespace K12
open PySem L2 HT PySem.W
def oH (mu:List ai) (H H':Hp):Prop:=∀x o,x∉mu->H x=some o->H' x=some o
def oH.refl:oH mu H H:=λ_ _ _ e=>e
def oH.trans (a:oH mu H H1) (b:oH mu H1 H2):oH mu H H2:=λx o n e=>b x o n (a x o n e)
def fX (s:a_ H H'):oH mu H H':=λx o _ e=>s x o e
def MM (mu:List ai) (H:Hp) (v:V) (S:Cs):Prop:=∃(t a b:ai) (ws us:List V),v=.ref t/\t∉mu/\a∉mu/\b∉mu/\H t=some (.tup [.ref a,.ref b,.int S.n])/\H a=some (.lst ws)/\Paired (f_ H) ws S.bx/\H b=some (.lst us)/\Paired (jV H) us S.rows
def Tk (H H':Hp):Prop:=∀b xs,H b=some (.tup xs)->H' b=some (.tup xs)
def Tk.trans (a:Tk H H1) (b:Tk H1 H2):Tk H H2:=λx y e=>b x y (a x y e)
def eV (s:a_ H H'):Tk H H':=λb xs e=>s _ _ e
def MM.kp (h:MM mu H v S) (k:oH mu H H') (tk:Tk H H'):MM mu H' v S:=by
 obtain⟨t,a,b,ws,us,h1,m1,m2,m3,h2,h3,h4,h5,h6⟩:=h
 exact⟨t,a,b,ws,us,h1,m1,m2,m3,tk _ _ h2,k _ _ m2 h3,av h4 λ_ _ z=>z.up tk,k _ _ m3 h5,av h6 λ_ _ z=>z.up tk⟩
def jm (ra pa:ai) (n:Int) (pl ll:ai):List (Key×V):=[(.inr "rowers",.ref ra),(.inr "pieces",.ref pa),(.inr "count",.int n),(.inr "past",.ref pl),(.inr "later",.ref ll)]
def zM (ra pa:ai) (n:Int) (pl ll:ai):mD (jm ra pa n pl ll) (.inr "rowers")=some (.ref ra):=by unfold mD jm;rfl
def xb (ra pa:ai) (n:Int) (pl ll:ai):mD (jm ra pa n pl ll) (.inr "pieces")=some (.ref pa):=by unfold mD jm;rfl
def Dy (ra pa:ai) (n:Int) (pl ll:ai):mD (jm ra pa n pl ll) (.inr "count")=some (.int n):=by unfold mD jm;rfl
def pH (ra pa:ai) (n:Int) (pl ll:ai):mD (jm ra pa n pl ll) (.inr "past")=some (.ref pl):=by unfold mD jm;rfl
def pZ (ra pa:ai) (n:Int) (pl ll:ai):mD (jm ra pa n pl ll) (.inr "later")=some (.ref ll):=by unfold mD jm;rfl
def QZ (ra pa qR:ai) (n:Int) (pl ll:ai):putK (jm ra pa n pl ll) (.inr "rowers") (.ref qR)=jm qR pa n pl ll:=by unfold putK jm;rfl
def Q0 (ra pa qS:ai) (n:Int) (pl ll:ai):putK (jm ra pa n pl ll) (.inr "pieces") (.ref qS)=jm ra qS n pl ll:=by unfold putK jm;rfl
def Q3 (ra pa:ai) (n n':Int) (pl ll:ai):putK (jm ra pa n pl ll) (.inr "count") (.int n')=jm ra pa n' pl ll:=by unfold putK jm;rfl
def J0 (mu:List ai) (H:Hp) (ra pa:ai) (S:Cs):Prop:=∃(ws us:List V),ra∉mu/\pa∉mu/\H ra=some (.lst ws)/\Paired (f_ H) ws S.bx/\H pa=some (.lst us)/\Paired (jV H) us S.rows
def J0.kp (h:J0 mu H ra pa S) (k:oH mu H H') (tk:Tk H H'):J0 mu H' ra pa S:=by
 obtain⟨ws,us,m2,m3,h3,h4,h5,h6⟩:=h
 exact⟨ws,us,m2,m3,k _ _ m2 h3,av h4 λ_ _ z=>z.up tk,k _ _ m3 h5,av h6 λ_ _ z=>z.up tk⟩
structure mZ (mu:List ai) (H:Hp) (ow ra pa pl ll:ai) (vs ws:List V) (sts:List Cs) (S:Cs) (cG:List Cs):Prop where
 d:H ow=some (.dK (jm ra pa S.n pl ll))
 now:J0 mu H ra pa S
 ky:H pl=some (.lst vs)
 pp:Paired (MM mu H) vs sts
 nY:H ll=some (.lst ws)
 Se:Paired (MM mu H) ws cG
structure Wd (C:ai) (H:Hp) (cb sl lc ow pl ll:ai) (sts:List Cs) (S:Cs) (cG:List Cs):Prop where
 cl:e_ C H cb sl lc (sts++ [S]) cG
 own:∃ra pa vs ws,mZ [ow,pl,ll,cb,sl,lc] H ow ra pa pl ll vs ws sts S cG
 ZA:pl≠ll
 Sf:pl≠sl
 Sg:pl≠lc
 Sh:ll≠sl
 Si:ll≠lc
def mZ.kp {ow ra pa pl ll:ai}{vs ws:List V} (h:mZ mu H ow ra pa pl ll vs ws sts S cG) (k:oH mu H H') (tk:Tk H H') (e1:H' ow=some (.dK (jm ra pa S.n pl ll))) (e2:H' pl=some (.lst vs)) (e3:H' ll=some (.lst ws)):mZ mu H' ow ra pa pl ll vs ws sts S cG:=
 ⟨e1,h.now.kp k tk,e2,av h.pp λ_ _ z=>z.kp k tk,e3,av h.Se λ_ _ z=>z.kp k tk⟩
def mZ.same {ow ra pa pl ll:ai}{vs ws:List V} (h:mZ mu H ow ra pa pl ll vs ws sts S cG) (s:a_ H H'):mZ mu H' ow ra pa pl ll vs ws sts S cG:=
 h.kp (fX s) (eV s) (s _ _ h.d) (s _ _ h.ky) (s _ _ h.nY)
def Wd.same {cb sl lc ow pl ll:ai} (h:Wd C H cb sl lc ow pl ll sts S cG) (s:a_ H H'):Wd C H' cb sl lc ow pl ll sts S cG:=by
 obtain⟨ra,pa,vs,ws,o⟩:=h.own
 exact⟨h.cl.same s,⟨ra,pa,vs,ws,o.same s⟩,h.ZA,h.Sf,h.Sg,h.Sh,h.Si⟩
def lI {H:Hp} (h1:H a=some (.dK dO)) (h2:H b=some (.lst vs)):a≠b:=λz=>by rw[z,h2] at h1;cases h1
def va {H:Hp} (h1:H a=some (.ins C dx fs)) (h2:H b=some (.lst vs)):a≠b:=λz=>by rw[z,h2] at h1;cases h1
def e_.kinds {cb sl ll:ai}(h:e_ C H cb sl ll sts cG):(∃dx fs,H cb=some (.ins C dx fs))/\(∃vs,H sl=some (.lst vs))/\∃ws,H ll=some (.lst ws):=by
 obtain⟨dx,vs,ws,c1,c2,c3,c4,c5,c6,_⟩:=h
 exact⟨⟨_,_,c1⟩,⟨_,c5⟩,⟨_,c6⟩⟩
def e_.nz {cb sl ll:ai}(h:e_ C H cb sl ll sts cG) (k:ET cb sl ll H H'):Tk H H':=λb xs e=>by
 obtain⟨dx,vs,ws,c1,c2,c3,c4,c5,c6,c7,c8⟩:=h
 exact k _ _ (λz=>by rw[z,c1] at e;cases e) (λz=>by rw[z,c5] at e;cases e) (λz=>by rw[z,c6] at e;cases e) e
def mZ.ZC {C:ai}{H H':Hp}{cb sl lc iY ow ra pa pl ll:ai}{vs ws:List V}{sts:List Cs}{S:Cs}{cG:List Cs}{WK lf1:List Cs}(h:mZ [ow,pl,ll,cb,sl,lc] H ow ra pa pl ll vs ws sts S cG) (cl:e_ C H cb sl lc WK lf1) (kp:ET cb sl lc H H') (f:iY=lc\/H iY=none) (Sf:pl≠sl) (Sg:pl≠lc) (Sh:ll≠sl) (Si:ll≠lc):mZ [ow,pl,ll,cb,sl,iY] H' ow ra pa pl ll vs ws sts S cG:=by
 obtain⟨⟨_,_,a1⟩,⟨_,a2⟩,⟨_,a3⟩⟩:=cl.kinds
 have e1:=kp _ _ (λz=>by rw[<-z,h.d] at a1;cases a1) (lI h.d a2) (lI h.d a3) h.d
 have e2:=kp _ _ (va a1 h.ky).symm Sf Sg h.ky
 have e3:=kp _ _ (va a1 h.nY).symm Sh Si h.nY
 have km:oH [ow,pl,ll,cb,sl,lc] H H':=λx o n e=>kp _ _ (λz=>n (by simp[z])) (λz=>n (by simp[z])) (λz=>n (by simp[z])) e
 have tk:=cl.nz kp
 have nm:∀{x:ai} {o:HO},H x=some o->x∉ [ow,pl,ll,cb,sl,lc]->x∉ [ow,pl,ll,cb,sl,iY]:=λ{x o} e m=>by
  rcases f with z|z
  .rw[z];exact m
  .have:x≠iY:=λy=>by rw[y,z] at e;cases e
   simp only[aD,aN,cy,ux] at m⊢
   exact⟨m.1,m.2.1,m.2.2.1,m.2.2.2.1,m.2.2.2.2.1,this⟩
 have up:∀{w:V} {T:Cs},MM [ow,pl,ll,cb,sl,lc] H w T->MM [ow,pl,ll,cb,sl,iY] H' w T:=λ{w T} q=>by
  obtain⟨t,a,b,yB,us,h1,m1,m2,m3,h2,h3,h4,h5,h6⟩:=q
  exact⟨t,a,b,yB,us,h1,nm h2 m1,nm h3 m2,nm h5 m3,tk _ _ h2,km _ _ m2 h3,av h4 λ_ _ z=>z.up tk,km _ _ m3 h5,av h6 λ_ _ z=>z.up tk⟩
 obtain⟨yB,us,m2,m3,h3,h4,h5,h6⟩:=h.now
 exact⟨e1,⟨yB,us,nm h3 m2,nm h5 m3,km _ _ m2 h3,av h4 λ_ _ z=>z.up tk,km _ _ m3 h5,av h6 λ_ _ z=>z.up tk⟩,e2,av h.pp λ_ _ z=>up z,e3,av h.Se λ_ _ z=>up z⟩
def WL (S:Cs):PyData:=.tuple [.list (S.bx.map qP),.list (S.rows.map JO),.int S.n]
def J_ (v:V) (S:Cs) (h:MM mu H v S):rg H (WL S) v:=by
 obtain⟨t,a,b,ws,us,rfl,_,_,_,h2,h3,h4,h5,h6⟩:=h
 exact fZ h2 (aU (fe h3 (eO qQ h4)) (aU (fe h5 (eO tX h6)) (aU (eg _) dS)))
def Vw (h:w_ S) (hn:S.n<=100000):Bd 600304 18 (WL S):=by
 refine(Bd.tuple (n:=200101) (p:=17) (m:=3) (ds:=[.list (S.bx.map qP),.list (S.rows.map JO),.int S.n]) (λx hx=>?_) (ar 3)).mono δ δ
 simp only[aD,aN,cy] at hx
 rcases hx with rfl|rfl|rfl
 .exact(zI h.bx (aA h.lc δ)).mono δ δ
 .exact zJ h.rows h.num (aA h.lr δ)
 .exact(iS ω).mono δ δ
def E4 {sts:List Cs}(h:∀S∈sts,w_ S/\S.n<=100000):Lay (.list (sts.map WL)):=by
 refine(Bd.list (n:=600304) (p:=18) (m:=sts.length) (λx hx=>?_) (by rw[aq];exact ar _)).lay δ
 obtain⟨S,hS,rfl⟩:=cS.mp hx
 exact Vw (h S hS).1 (h S hS).2
def E5 (sts:List Cs):PyData.eqv (.list (sts.map WL)) (.list [])=sts.isEmpty:=by
 rw[PyData.eqv]
 cases sts with
 |nil=>rfl
 |cons a l=>rw[bK,PyData.eqvAll];rfl
def Q4 (S:Cs):Prop:=w_ S/\S.n<=100000
def mG:List Str:=["ann","bo","cy","di","ed","fay","gus","al","ali"]
def p_:∀x∈mG,okN x:=by unfold okN;decide+kernel
abbrev WM (l:List oG):Prop:=l.Pairwise λe e'=>nM e' e=false
structure St (S:Cs) (m:Nat):Prop where
 nd:(fF S.bx).Nodup
 N0:∀x∈fF S.bx,x∈mG
 rw:∀r∈S.bx,BD r.2.1/\1<=r.2.2/\r.2.2<=1000000
 Vx:WM S.bx
 lc:S.bx.length<=8
 rows:∀x∈S.rows,ix x.2/\gq x.2
 num:∀x∈S.rows,x.1<S.n
 Sj:(S.rows.map (·.1)).Nodup
 lr:S.rows.length<=m
 n:S.n<=m
def St.ok (h:St S m) (hm:m<=31):w_ S:=
 ⟨λr hr=>⟨p_ _ (h.N0 _ (cU hr)),(h.rw r hr).1,by have:=h.rw r hr;omega⟩,h.rows,λx hx=>by have:=h.num x hx;have:=h.n;omega,h.lc,aA h.lr hm⟩
def St.sok (h:St S m) (hm:m<=31):Q4 S:=⟨h.ok hm,by have:=h.n;omega⟩
def St.mono (h:St S m) (hm:m<=m'):St S m':=⟨h.nd,h.N0,h.rw,h.Vx,h.lc,h.rows,h.num,h.Sj,aA h.lr hm,aA h.n hm⟩
def St.nil:St ⟨[],[],0⟩ 0:=⟨by simp[fF],by simp[fF],ς,List.Pairwise.nil,ς,ς,ς,ς,ς,ar _⟩
def xc {l:List oG}(nd:(fF l).Nodup) {a b:oG}(ha:a∈l) (hb:b∈l) (e:a.1=b.1):a=b:=by
 induction l with
 |nil=>cases ha
 |cons c l ih=>
  rw[show fF (c::l)=c.1::fF l from rfl,iZ] at nd
  rcases aD.mp ha with rfl|ha'
  .rcases aD.mp hb with rfl|hb
   .rfl
   .exact absurd (cU (f:=(·.1)) hb) (by rw[<-e];exact nd.1)
  .rcases aD.mp hb with rfl|hb
   .exact absurd (e▸cU (f:=(·.1)) ha') nd.1
   .exact ih nd.2 ha' hb
def ma {α:Type} [DecidableEq α] (l:List α) (x:α):List α:=l.filter λy=>!decide (y=x)
def GP (nd:(fF l).Nodup) (h:r∈l):ma l r=nP l r.1:=by
 unfold ma nP
 refine BN λy hy=>?_
 congr 1
 exact decide_eq_decide.mpr ⟨λz=>by rw[z],λz=>xc nd hy h z⟩
def St.pI (h:St S m) (h1:r.1∈mG) (h2:r.1∉fF S.bx) (h3:BD r.2.1/\1<=r.2.2/\r.2.2<=1000000) (h4:S.bx.length<=7):St ⟨mX (S.bx++ [r]),S.rows,S.n⟩ m:=by
 have p:=wY (S.bx++ [r])
 have pn:(fF (mX (S.bx++ [r]))).Perm (fF S.bx++ [r.1]):=by
  have:=p.map (·.1)
  rwa[bF] at this
 have mem:∀q,q∈mX (S.bx++ [r])->q∈S.bx\/q=r:=λq hq=>by
  rcases dq.mp (p.mem_iff.mp hq) with z|z
  .exact .inl z
  .exact .inr (bV.mp z)
 refine⟨pn.nodup_iff.mpr ?_,λx hx=>?_,λq hq=>?_,rW _,?_,h.rows,h.num,h.Sj,h.lr,h.n⟩
 .rw[qY]
  exact⟨h.nd,ς,λa ha b hb=>by rw[bV.mp hb];rintro rfl;exact h2 ha⟩
 .rcases dq.mp (pn.mem_iff.mp hx) with z|z
  .exact h.N0 x z
  .rw[bV.mp z];exact h1
 .rcases mem q hq with z|z
  .exact h.rw q z
  .rw[z];exact h3
 .have:=p.length_eq
  rw[aK,aJ] at this
  show(mX (S.bx++ [r])).length<=8
  omega
def St.go (h:St S m) (x:Str):St ⟨nP S.bx x,S.rows,S.n⟩ m:=by
 have sub:∀q,q∈nP S.bx x->q∈S.bx:=λq hq=>(dE.mp hq).1
 refine⟨?_,λy hy=>?_,λq hq=>h.rw q (sub q hq),h.Vx.sublist yI,aA (eF _ _) h.lc,h.rows,h.num,h.Sj,h.lr,h.n⟩
 .exact(List.Sublist.map _ yI).nodup h.nd
 .obtain⟨q,hq,rfl⟩:=cS.mp hy
  exact h.N0 _ (cU (sub q hq))
def xf (bx:List oG) (x:Str) (i:Int):fF (bx.map (yC x i))=fF bx:=by
 unfold fF
 rw[oM]
 refine j9 λr _=>?_
 show(yC x i r).1=r.1
 unfold yC
 split<;>rfl
def Q5 {l:List oG}(nd:(fF l).Nodup) (s:WM l):Up (fF l):=by
 unfold fF at*
 rw[Up,lP]
 have Ww:=lP.mp nd
 refine(s.and Ww).imp λ{a b} ⟨h1,h2⟩=>?_
 unfold nM xE at h1
 rw[aO (λz=>h2 z.symm)] at h1
 rcases Px.Pu a.1 b.1 h2 with z|z
 .exact z
 .rw[z] at h1;cases h1
def Q6 (h:Up (fF l)):WM l:=by
 unfold fF at h
 have h':=lP.mp h
 refine h'.imp λ{a b} z=>?_
 unfold nM xE
 rw[aO (λy=>Jj z y.symm)]
 exact o_ z
def St.Vy (h:St S m) (x:Str) (i:Int):WM (S.bx.map (yC x i)):=Q6 (by rw[xf];exact Q5 h.nd h.Vx)
def St.weigh (h:St S m) (x:Str) (h1:1<=i) (h2:i<=1000000):St ⟨S.bx.map (yC x i),S.rows,S.n⟩ m:=by
 refine⟨by rw[xf];exact h.nd,by rw[xf];exact h.N0,λq hq=>?_,h.Vy x i,by rw[aq];exact h.lc,h.rows,h.num,h.Sj,h.lr,h.n⟩
 obtain⟨r,hr,rfl⟩:=cS.mp hq
 have:=h.rw r hr
 unfold yC
 split
 .exact⟨this.1,h1,h2⟩
 .exact this
def E6:∀{l:List oG}{r:oG}{i:Int},(fF l).Nodup->r∈l->(l.map (yC r.1 i)).Perm (ma l r++ [(r.1,r.2.1,i)])
 |c::l,r,i,nd,h=>by
  rw[show fF (c::l)=c.1::fF l from rfl,iZ] at nd
  have qd:r.1∉fF l->l.map (yC r.1 i)=l:=λn=>by
   conv=>rhs;rw[<-List.map_id l]
   refine j9 λy hy=>?_
   unfold yC
   rw[aO (λz=>n (by rw[<-z];exact cU (f:=(·.1)) hy))];rfl
  rcases aD.mp h with rfl|hr
  .rw[bK,qd nd.1]
   have e1:yC r.1 i r=(r.1,r.2.1,i):=by unfold yC;rw[aQ rfl]
   have e2:ma (r::l) r=l:=by
    unfold ma
    rw[Fo,aO ς]
    exact List.filter_eq_self.mpr λy hy=>by
     simp only[lN,RM]
     rintro rfl
     exact nd.1 (cU (f:=(·.1)) hy)
   rw[e1,e2]
   exact(KZ _ _).symm
  .have ne:c≠r:=λz=>by rw[z] at nd;exact nd.1 (cU (f:=(·.1)) hr)
   have nn:c.1≠r.1:=λz=>nd.1 (by rw[z];exact cU (f:=(·.1)) hr)
   have e1:yC r.1 i c=c:=by unfold yC;rw[aO nn]
   have e2:ma (c::l) r=c::ma l r:=by
    unfold ma
    rw[Fo,aQ (by simp[ne])]
   rw[bK,e1,e2,List.cons_append]
   exact(E6 nd.2 hr).cons c
def St.Vz (h:St S m) (hr:r∈S.bx) (i:Int):mX (nP S.bx r.1++ [(r.1,r.2.1,i)])=S.bx.map (yC r.1 i):=by
 rw[<-GP h.nd hr]
 exact(wZ (E6 h.nd hr) (h.Vy r.1 i)).symm
def St.tell (h:St S m) (o:ix p) (c:gq p):St ⟨S.bx,S.rows++ [(S.n,p)],S.n+1⟩ (m+1):=by
 have:=h.n
 refine⟨h.nd,h.N0,h.rw,h.Vx,h.lc,λx hx=>?_,λx hx=>?_,?_,by have:=h.lr;rw[aK,aJ];omega,by show S.n+1<=m+1;omega⟩
 .rcases dq.mp hx with z|z
  .exact h.rows x z
  .rw[bV.mp z];exact⟨o,c⟩
 .rcases dq.mp hx with z|z
  .have:=h.num x z;show x.1<S.n+1;omega
  .rw[bV.mp z];show S.n<S.n+1;omega
 .show((S.rows++ [(S.n,p)]).map (·.1)).Nodup
  rw[bF,qY]
  refine⟨h.Sj,ς,λa ha b hb=>?_⟩
  obtain⟨x,hx,rfl⟩:=cS.mp ha
  have:=h.num x hx
  simp only[bK,oK,bV] at hb
  omega
def St.jW (h:St S m) (k:Int):St ⟨S.bx,uI S.rows k,S.n⟩ m:=by
 have sub:∀q,q∈uI S.rows k->q∈S.rows:=λq hq=>(dE.mp hq).1
 exact⟨h.nd,h.N0,h.rw,h.Vx,h.lc,λx hx=>h.rows x (sub x hx),λx hx=>h.num x (sub x hx),(List.Sublist.map _ yI).nodup h.Sj,aA (eF _ _) h.lr,h.n⟩
def Q7 (hx:okN x) (hy:BD y) (hi:i.natAbs<2^200):rL (qP (x,y,i)):=(NV (r:=(x,y,i)) ⟨hx,hy,hi⟩).mono δ δ
def zN (h:i.natAbs<2^200):rL (.int i):=(iS h).mono δ δ
def pK:List Str:=["port","starboard","both"]
def xg:∀x∈pK,BD x/\gT (.str x)=true:=by unfold BD;decide+kernel
def Q8 (hx:x∈mG) (hy:y∈pK) (h1:1<=i) (h2:i<=1000000):rL (qP (x,y,i))/\eW (qP (x,y,i))=true:=by
 have ox:=p_ x hx
 have oy:=xg y hy
 refine⟨Q7 ox oy.1 ω,?_⟩
 show(fA (.str x)&&(gT (.str y)&&eQ (.int i)))=true
 rw[ox.2.2,oy.2,show eQ (.int i)=true by
  show(decide (1<=i)&&decide (i<=1000000))=true
  rw[aI h1,aI h2];rfl];rfl
def N4 (h1:1<=i) (h2:i<=1000000):rL (.int i)/\eQ (.int i)=true:=by
 refine⟨zN ω,?_⟩
 show(decide (1<=i)&&decide (i<=1000000))=true
 rw[aI h1,aI h2];rfl
end K12
namespace L2
open PySem PySem.Spec PyProof.Rows HT PySem.W
section
variable {X:Cx}{pos:Pos}
def VA (i j k:Nat) (ta:TA):TS:=λD Z H=>ta Z H λvs H1=>∃v w u,vs=[v,w,u]/\D.nx (((Z.set i (some v)).set j (some w)).set k (some u)) H1
def MN {kt k2 OG}(hc:X.calm=true) (hN:X.N.Nodup) (hi:X.N[i]?=some x) (hj:X.N[j]?=some y) (hk:X.N[k]?=some z) (oR:i≠j) (hik:i≠k) (hjk:j≠k)
  (hx:X.env.scope.names.lookup x=some .local) (hy:X.env.scope.names.lookup y=some .local) (hz:X.env.scope.names.lookup z=some .local) (ha:PA X [a,b,c] ta)
  (hw:swappedStores [.Tuple [.Name x px,.Name y py,.Name z pz] kt pt] (.Tuple [a,b,c] k2 OG) X.env=pure (some [x,y,z]))
  (hs:swapsWithSole [.Tuple [.Name x px,.Name y py,.Name z pz] kt pt] (.Tuple [a,b,c] k2 OG) pos.line X.env=pure false:=by rfl):
  PS X (.Assign [.Tuple [.Name x px,.Name y py,.Name z pz] kt pt] (.Tuple [a,b,c] k2 OG) pos) (VA i j k ta):=by
 intro ac s Z H D I h
 rw[exec_Assign_arm]
 refine aa (jN ?_)
 rw[hs]
 refine aa (ak ?_)
 rw[aO δ]
 refine aa (Tuple_ (fq (ha _ ac s Z H _ I h) λus s1 cZ=>?_))
 obtain⟨vs,H1,I1,r1,q1⟩:=cZ
 obtain⟨v,w,u,e1,q1⟩:=q1
 subst e1
 obtain⟨u1,u2,u3,rfl,rv,Fx,ru⟩:∃u1 u2 u3,us=[u1,u2,u3]/\RelV v u1/\RelV w u2/\RelV u u3:=by
  cases r1 with
  |cons p q=>
   cases q with
   |cons p' q'=>
    cases q' with
    |cons p'' q''=>
     cases q''
     exact⟨_,_,_,rfl,p,p',p''⟩
 refine bE ?_ (dP)
 have I2:Inv X ac Z H1 {s1 with heap:=s1.heap.push {cls:=.type "tuple",data:=.seq [u1,u2,u3].toArray}}:=I1.kept (t':=s1.toks) λb o e=>af _ e
 rw[hw]
 refine aa (ak ?_)
 show wpAny (model X.prog X.w) X.A (do rule "assign.swapped-stores";let items<-unpackItems (.ref s1.heap.objs.size) 3 none;assignInOrder [λv=>bindName X.env z v,λv=>bindName X.env y v,λv=>bindName X.env x v] items.reverse;pure Flow.next) _ _ _
 refine aa (ki (aa (unpackItems_tuple (items:=#[u1,u2,u3]) (I.ok.hd hc) (IsTup.new s1.heap _) λh' SN=>?_)))
 have I3:=I2.kept (h':=h') (t':=s1.toks) λb o e=>SN b o (ba (aC e)) e
 show wpAny _ _ (assignInOrder [λv=>bindName X.env z v,λv=>bindName X.env y v,λv=>bindName X.env x v] [u3,u2,u1]>>=λ_=>pure Flow.next) _ _ _
 refine aa (kh (ni (kZ I3 hN hk (.inl hz) ru (λs2 I4=>?_) (.inr hz))))
 refine kh (ni (kZ I4 hN hj (.inl hy) Fx (λs3 I5=>?_) (.inr hy)))
 refine kh (ni (kZ I5 hN hi (.inl hx) rv (λs4 I6=>assignInOrder_nil (ak ?_)) (.inr hx)))
 refine⟨_,H1,?_,q1⟩
 have e:(((Z.set i (some v)).set j (some w)).set k (some u))=(((Z.set k (some u)).set j (some w)).set i (some v)):=by
  rw[zV _ _ oR,zV _ _ hik,zV _ _ hjk]
 rw[e]
 exact I6
end
end L2
namespace K12
open PySem L2 HT PySem.W
inductive uL
 |pI (d:PyData)
 |go (x:Str)
 |weigh (x:Str) (d:PyData)
 |tell (d:PyData)
 |jW (i:Int)
 |back
 |again
def RwG (r:oG):Prop:=r.1∈mG/\r.2.1∈pK/\1<=r.2.2/\r.2.2<=1000000
def VB (H:Hp) (d:PyData) (v:V):Prop:=eW d=false\/∃a r,v=.ref a/\d=qP r/\eW d=true/\H a=some (.tup [.str r.1,.str r.2.1,.int r.2.2])/\RwG r
def WgV (d:PyData) (v:V):Prop:=eQ d=false\/∃i:Int,d=.int i/\v=.int i/\1<=i/\i<=1000000
def VC (H:Hp) (d:PyData) (v:V):Prop:=gG d=false\/∃r p,v=.ref r/\d=xK p/\jU H r p/\ix p/\gq p
def kz (H:Hp) (t:ai):uL->Prop
 | .pI d=>∃v,H t=some (.tup [.str "come",v])/\rg H d v/\rL d/\VB H d v
 | .go x=>H t=some (.tup [.str "go",.str x])/\BD x
 | .weigh x d=>∃v,H t=some (.tup [.str "weigh",.str x,v])/\BD x/\rg H d v/\Bd 1 0 d/\WgV d v
 | .tell d=>∃v,H t=some (.tup [.str "tell",v])/\rg H d v/\rL d/\VC H d v
 | .jW i=>H t=some (.tup [.str "strike",.int i])/\i.natAbs<2^200
 | .back=>H t=some (.tup [.str "back"])
 | .again=>H t=some (.tup [.str "again"])
def rg.same (h:rg H d v) (s:a_ H H'):rg H' d v:=by
 obtain⟨k0,f⟩:=h
 exact⟨k0,λk hk=>(f k hk).keep s.keep⟩
def kz.same (h:kz H t D) (s:a_ H H'):kz H' t D:=by
 cases D with
 |pI d=>
  obtain⟨v,h1,h2,h3,h4⟩:=h
  refine⟨v,s _ _ h1,h2.same s,h3,h4.imp id ?_⟩
  rintro⟨a,r,e1,e2,e3,e4,e5⟩
  exact⟨a,r,e1,e2,e3,s _ _ e4,e5⟩
 |go x=>exact⟨s _ _ h.1,h.2⟩
 |weigh x d=>
  obtain⟨v,h1,h0,h2,h3,h4⟩:=h
  exact⟨v,s _ _ h1,h0,h2.same s,h3,h4⟩
 |tell d=>
  obtain⟨v,h1,h2,h3,h4⟩:=h
  refine⟨v,s _ _ h1,h2.same s,h3,h4.imp id ?_⟩
  rintro⟨a,r,e1,e2,e3,e5⟩
  exact⟨a,r,e1,e2,e3.same s,e5⟩
 |jW i=>exact⟨s _ _ h.1,h.2⟩
 |back=>exact s _ _ h
 |again=>exact s _ _ h
inductive Out
 |no (s:Str)
 |st (S:Cs) (r:Option Nat)
inductive xN (S:Cs):uL->Out->Prop
 |c1 {d:PyData}:eW d=false->xN S (.pI d) (.no "NoRower+")
 |c2 {r:oG}:eW (qP r)=true->r.1∈fF S.bx->xN S (.pI (qP r)) (.no "Twice+")
 |c3 {r:oG}:eW (qP r)=true->r.1∉fF S.bx->S.bx.length=8->xN S (.pI (qP r)) (.no "TooMany+9")
 |c4 {r:oG}:eW (qP r)=true->r.1∉fF S.bx->S.bx.length<=7->RwG r->xN S (.pI (qP r)) (.st ⟨mX (S.bx++ [r]),S.rows,S.n⟩ none)
 |g1 {x:Str}:x∉fF S.bx->xN S (.go x) (.no "NoName+")
 |g2 {x:Str}:x∈fF S.bx->xN S (.go x) (.st ⟨nP S.bx x,S.rows,S.n⟩ none)
 |w1 {x:Str} {d:PyData}:x∉fF S.bx->xN S (.weigh x d) (.no "NoName+")
 |w2 {x:Str} {d:PyData}:x∈fF S.bx->eQ d=false->xN S (.weigh x d) (.no "NoRower+")
 |w3 {x:Str} {i:Int}:x∈fF S.bx->1<=i->i<=1000000->xN S (.weigh x (.int i)) (.st ⟨S.bx.map (yC x i),S.rows,S.n⟩ none)
 |t1 {d:PyData}:gG d=false->xN S (.tell d) (.no "NoPiece+")
 |t2 {p:qt}:ix p->gq p->xN S (.tell (xK p)) (.st ⟨S.bx,S.rows++ [(S.n,p)],S.n+1⟩ (some S.n))
 |s1 {i:Int}:zy S.rows i=false->xN S (.jW i) (.no "NoNumber+")
 |s2 {i:Int}:zy S.rows i=true->xN S (.jW i) (.st ⟨S.bx,uI S.rows i,S.n⟩ none)
inductive Bp:uL->List Cs->Cs->List Cs->Str⊕Option Nat->List Cs->Cs->List Cs->Prop
 |no {D:uL} {sts:List Cs} {S:Cs} {cG:List Cs} {s:Str}:xN S D (.no s)->Bp D sts S cG (.inl s) sts S cG
 |st {D:uL} {sts:List Cs} {S S':Cs} {cG:List Cs} {r:Option Nat}:xN S D (.st S' r)->Bp D sts S cG (.inr r) (sts++ [S]) S' []
 |b0 {S:Cs} {cG:List Cs}:Bp .back [] S cG (.inl "NothingLeft+") [] S cG
 |b {sts:List Cs} {T S:Cs} {cG:List Cs}:Bp .back (sts++ [T]) S cG (.inr none) sts T (cG++ [S])
 |a0 {sts:List Cs} {S:Cs}:Bp .again sts S [] (.inl "NothingLeft+") sts S []
 |a {sts:List Cs} {S T:Cs} {cG:List Cs}:Bp .again sts S (cG++ [T]) (.inr none) (sts++ [S]) T cG
def vc {α:Type}(l:List α):l=[]\/∃l' x,l=l'++ [x]:=by
 rcases List.eq_nil_or_concat l with h|⟨l',x,h⟩
 .exact .inl h
 .exact .inr ⟨l',x,by rw[h,List.concat_eq_append]⟩
def MO (h:kz H t D) (l8:S.bx.length<=8):∃o fN S' fJ,Bp D sts S cG o fN S' fJ:=by
 have of:∀{o},xN S D o->∃o fN S' fJ,Bp D sts S cG o fN S' fJ:=λ{o} l=>by
  cases o with
  |no s=>exact⟨_,_,_,_,.no l⟩
  |st S' r=>exact⟨_,_,_,_,.st l⟩
 cases D with
 |pI d=>
  obtain⟨v,_,_,_,c|⟨a,r,_,rfl,c,_,g⟩⟩:=h
  .exact of (.c1 c)
  by_cases m:r.1∈fF S.bx
  .exact of (.c2 c m)
  by_cases e:S.bx.length=8
  .exact of (.c3 c m e)
  .exact of (.c4 c m ω g)
 |go x=>
  by_cases m:x∈fF S.bx
  .exact of (.g2 m)
  .exact of (.g1 m)
 |weigh x d=>
  obtain⟨v,_,_,_,_,c⟩:=h
  by_cases m:x∈fF S.bx
  .rcases c with c|⟨i,rfl,_,i1,i2⟩
   .exact of (.w2 m c)
   .exact of (.w3 m i1 i2)
  .exact of (.w1 m)
 |tell d=>
  obtain⟨v,_,_,_,c|⟨r,p,_,rfl,_,o,c⟩⟩:=h
  .exact of (.t1 c)
  .exact of (.t2 o c)
 |jW i=>
  cases e:zy S.rows i with
  |false=>exact of (.s1 e)
  |true=>exact of (.s2 e)
 |back=>
  rcases vc sts with rfl|⟨s',T,rfl⟩
  .exact⟨_,_,_,_,.b0⟩
  .exact⟨_,_,_,_,.b⟩
 |again=>
  rcases vc cG with rfl|⟨s',T,rfl⟩
  .exact⟨_,_,_,_,.a0⟩
  .exact⟨_,_,_,_,.a⟩
def xN.ok (h:xN S D (.st S' r)) (s:St S m):St S' (m+1):=by
 cases h with
 |c4 c n l g=>exact(s.pI g.1 n ⟨(xg _ g.2.1).1,g.2.2⟩ l).mono ω
 |g2 h=>exact(s.go _).mono ω
 |w3 h h1 h2=>exact(s.weigh _ h1 h2).mono ω
 |t2 o c=>exact s.tell o c
 |s2 h=>exact(s.jW _).mono ω
def pL (h:cT K H a xs) (i:Nat) (hi:i<=xs.length):(i=xs.length->(Eh K a).stop i H)/\(i<xs.length->(Eh K a).go i H/\∀y H',(Eh K a).BY i H y H'->H'=H/\y=xs.getD i .eK):=by
 refine⟨λe=>⟨xs,h,ω⟩,λe=>⟨⟨xs,xs[i],h,by simp[e]⟩,λy H' q=>?_⟩⟩
 obtain⟨q1,q2⟩:=q
 have:=q2 xs h
 exact⟨q1,by simp[List.getD,this]⟩
def VD:R2:=λx y H Q=>∃k k' dx dy,Tells H k dx x/\Tells H k' dy y/\Lay dx/\Lay dy/\Q (.bl (!PyData.eqv dx dy)) H
def E7 (hu:X.A.units+64<cLine):lU X (compareOp .NotEq) VD:=qI hu
def ZD (K:Φ):TT:=gw (gJ VD (gJ (gj K) (b_ 0) (tC (.int 0))) (gJ (gj K) (b_ 1) (tC (.int 1))))
section
variable {P:aM}{w:bB}{K:Φ}{mg:Str->Option ag}{base:Heap}
def Ka {α:Type}{R:Hp->V->α->Prop}{D0:α->PyData}(up:∀{H H':Hp}{v:V}{x:α},R H v x->Tk H H'->R H' v x) (fst:∀{H:Hp}{v:V}{x:α},R H v x->∃b ys v0,v=.ref b/\H b=some (.tup ys)/\qA ys 0=some v0/\∀H' k,Tells H' k (D0 x) v0)
  {H1:Hp} {L a t:ai} {us ts:List V} {xs:List α} {v1:V} {d:PyData} {Q:VK} (v:Option V) (hL:H1 L=none) (h:H1 a=some (.lst us)) (pr:Paired (R H1) us xs) (ht:H1 t=some (.tup ts)) (h1:qA ts 1=some v1) (fr:rg H1 d v1) (hl:xs.length<=1000) (lay:∀x∈xs,Lay (D0 x)) (lay0:Lay d)
  (q:∀ys J,a_ H1 J->J L=some (.lst ys)->Paired (R J) ys (xs.filter λx=>!PyData.eqv (D0 x) d)->Q (.ref L) J):
  qg (Eh K a) (dI 0) (ZD K) (b_ 0) [v,some (.ref t)] H1 Q L:=by
 have lu:=bS pr
 refine lY (n:=us.length) (f:=λi=>us.getD i .eK) (λj ys bX J=>(∃v,bX=[v,some (.ref t)])/\a_ H1 J/\Paired (R J) ys ((xs.take j).filter λx=>!PyData.eqv (D0 x) d)) hL ω ⟨⟨_,rfl⟩,bR (a_.refl _) hL,.nil⟩ (λj ys bX J hj hy ⟨_,sj,_⟩=>pL (K:=K) (cT.of (sj _ _ h)) j hj) ?_ ?_
 .rintro j ys bX J hj hy ⟨⟨v,rfl⟩,sj,pj⟩
  have rf:j<xs.length:=ω
  obtain⟨u,eu,e1⟩:=eJ pr j rf
  rw[getD_some eu]
  have e2:=up e1 (eV sj)
  obtain⟨b,zs,v0,rfl,hb,b0,tb⟩:=fst e2
  obtain⟨k2,t2⟩:=(fr.same sj).one
  refine iB rfl (bZ.of hb) b0 (iB rfl (bZ.of (sj _ _ ht)) h1 ⟨0,k2,_,_,tb _ _,t2,lay _ (cB rf),lay0,_,rfl,?_⟩)
  rw[fW rf,u_]
  by_cases e:PyData.eqv (D0 xs[j]) d=true
  .refine ite_no (by simp[e]) ?_
   refine⟨hy,⟨_,rfl⟩,sj,?_⟩
   rw[aO (by simp[e])]
   exact pj
  .refine ite_yes (by simp[e]) ?_
   have Bf:Tk J (upd J L (.lst (ys++ [.ref b]))):=λc xs e=>by rw[aV (λz=>by rw[z,hy] at e;cases e)];exact e
   refine⟨_,rfl,hy,⟨_,rfl⟩,bR sj hL,?_⟩
   rw[aQ (by simp[e])]
   exact dU (av pj λ_ _ z=>up z Bf) (up e2 Bf)
 .rintro ys bX J hy ⟨_,sj,pj⟩
  rw[lu,dj] at pj
  exact q ys J sj hy pj
def Kb {H1:Hp}{L a:ai}{us:List V}{bx:List oG}{Q:VK}(v:Option V) (hL:H1 L=none) (h:H1 a=some (.lst us)) (pr:Paired (f_ H1) us bx) (hl:bx.length<=1000) (q:∀J,a_ H1 J->J L=some (.lst ((fF bx).map V.str))->Q (.ref L) J):
  qg (Eh K a) (dI 0) qE (gJ (gj K) (b_ 0) (tC (.int 0))) [v] H1 Q L:=by
 have lu:=bS pr
 refine lE (n:=us.length) (f:=λi=>us.getD i .eK) (λj ys bX J=>(∃v,bX=[v])/\a_ H1 J/\ys=(fF (bx.take j)).map V.str) hL ω ⟨⟨_,rfl⟩,bR (a_.refl _) hL,rfl⟩ (λj ys bX J hj hy ⟨_,sj,_⟩=>pL (K:=K) (cT.of (sj _ _ h)) j hj) ?_ ?_
 .rintro j ys bX J hj hy ⟨⟨v,rfl⟩,sj,rfl⟩
  have rf:j<bx.length:=ω
  obtain⟨u,eu,b,rfl,e1⟩:=eJ pr j rf
  rw[getD_some eu]
  refine iB rfl (bZ.of (sj _ _ e1)) (aT (j:=0) rfl) ⟨hy,⟨_,rfl⟩,bR sj hL,?_⟩
  unfold fF
  rw[fW rf,bF,bF];rfl
 .rintro ys bX J hy ⟨_,sj,rfl⟩
  rw[lu,dj] at hy
  exact q J sj hy
def Q9 (h:f_ H v x):∃b ys v0,v=.ref b/\H b=some (.tup ys)/\qA ys 0=some v0/\∀H' k,Tells H' k (.str x.1) v0:=by
 obtain⟨a,rfl,e⟩:=h
 exact⟨a,_,_,rfl,e,aT (j:=0) rfl,λ_ _=>ff.mpr rfl⟩
def Q_ (h:jV H v x):∃b ys v0,v=.ref b/\H b=some (.tup ys)/\qA ys 0=some v0/\∀H' k,Tells H' k (.int x.1) v0:=by
 obtain⟨a,r,rfl,e,_⟩:=h
 exact⟨a,_,_,rfl,e,aT (j:=0) rfl,λ_ _=>jr.mpr rfl⟩
def xh (bx:List oG) (x:Str):(bx.filter λr=>!PyData.eqv (.str r.1) (.str x))=nP bx x:=by
 unfold nP
 refine BN λr _=>?_
 rw[PyData.eqv]
 by_cases e:r.1=x
 .simp[e]
 .simp[e]
def Kc (rows:Rows) (i:Int):(rows.filter λr=>!PyData.eqv (.int r.1) (.int i))=uI rows i:=by
 unfold uI
 refine BN λr _=>?_
 rw[PyData.eqv]
 by_cases e:(r.1:Int)=i
 .simp[e]
 .simp[e]
def xi (bx:List oG) (x:Str):(nP bx x).length=bx.length↔x∉fF bx:=by
 unfold nP fF
 rw[BO]
 constructor
 .intro h m
  obtain⟨r,hr,rfl⟩:=cS.mp m
  have:=h r hr
  simp at this
 .intro h r hr
  simp only[lN,RM]
  rintro rfl
  exact h (cU hr)
def Kd (rows:Rows) (i:Int):(uI rows i).length=rows.length↔zy rows i=false:=by
 unfold uI zy
 rw[BO,BG]
 constructor
 .intro h r hr
  have:=h r hr
  simpa using this
 .intro h r hr
  have:=h r hr
  simpa using this
end
end K12
namespace L2
open PySem
section
variable {K:Φ}{i:Nat}{t:ai}{s s':Str}{ts:List V}{A B:TS}{D:Ends}{Z:St}{H:Hp}
def gU (hv:Z[i]?=some (some (.ref t))) (ht:H t=some (.tup ts)) (k:qA ts 0=some (.str s)) (h:A D Z H):xy (gw (gJ Hb (gJ (gj K) (b_ i) (tC (.int 0))) (tC (.str s)))) A B D Z H:=by
 refine⟨_,hv,t,_,0,_,rfl,rfl,bZ.of ht,k,rfl,_,rfl,?_⟩
 show if decide (V.str s=V.str s)=true then A D Z H else B D Z H
 rw[aQ (aI rfl)]
 exact h
def jI (hv:Z[i]?=some (some (.ref t))) (ht:H t=some (.tup ts)) (k:qA ts 0=some (.str s')) (n:decide (s'=s)=false) (h:B D Z H):xy (gw (gJ Hb (gJ (gj K) (b_ i) (tC (.int 0))) (tC (.str s)))) A B D Z H:=by
 refine⟨_,hv,t,_,0,_,rfl,rfl,bZ.of ht,k,rfl,_,rfl,?_⟩
 show if decide (V.str s'=V.str s)=true then A D Z H else B D Z H
 rw[aO (λz=>iW n (V.str.inj (aX z)))]
 exact h
end
def VE {A B:Prop}(a:A) (h:c=true:=by exact rfl):if c=true then A else B:=by rw[h,aQ rfl];exact a
def VF {A B:Prop}(b:B) (h:c=false:=by exact rfl):if c=true then A else B:=by rw[h,aO bA];exact b
end L2
namespace K12
open PySem L2 HT PySem.W
def Bq:uL->Str
 | .pI _=>"come"
 | .go _=>"go"
 | .weigh _ _=>"weigh"
 | .tell _=>"tell"
 | .jW _=>"strike"
 | .back=>"back"
 | .again=>"again"
def dat:uL->PyData
 | .pI d=>d
 | .go x=>.str x
 | .weigh x _=>.str x
 | .tell d=>d
 | .jW i=>.int i
 | .back=>.none
 | .again=>.none
def zO (h:BD x):rL (.str x):=(mC h.1 h.2).mono δ δ
def kz.one (h:kz H t D) (l:xN S D o):∃ts v1,H t=some (.tup ts)/\qA ts 0=some (.str (Bq D))/\qA ts 1=some v1/\rg H (dat D) v1/\rL (dat D):=by
 cases D with
 |pI d=>
  obtain⟨v,h1,h2,h3,_⟩:=h
  exact⟨_,v,h1,rfl,rfl,h2,h3⟩
 |go x=>exact⟨_,_,h.1,rfl,rfl,ij x,zO h.2⟩
 |weigh x d=>
  obtain⟨v,h1,h0,_⟩:=h
  exact⟨_,_,h1,rfl,rfl,ij x,zO h0⟩
 |tell d=>
  obtain⟨v,h1,h2,h3,_⟩:=h
  exact⟨_,v,h1,rfl,rfl,h2,h3⟩
 |jW i=>exact⟨_,_,h.1,rfl,rfl,eg i,zN h.2⟩
 |back=>cases l
 |again=>cases l
def MP (e:qP r=qP q):r=q:=by
 have h:=zH r q
 rw[e,zH q q,aI rfl] at h
 exact aX h.symm
def MQ (e:xK r=xK q):r=q:=by
 have h:=Dv r q
 rw[e,Dv q q,aI rfl] at h
 exact aX h.symm
def zP (h:kz H t (.pI (qP r))) (c:eW (qP r)=true):∃a,H t=some (.tup [.str "come",.ref a])/\H a=some (.tup [.str r.1,.str r.2.1,.int r.2.2])/\(∃k,Tells H k (qP r) (.ref a))/\rL (qP r):=by
 obtain⟨v,h1,h2,h3,h4|⟨a,q,rfl,e,_,h5,_⟩⟩:=h
 .rw[c] at h4;cases h4
 .rw[<-MP e] at h5
  exact⟨a,h1,h5,h2.one,h3⟩
def E8 (h:kz H t (.tell (xK p))) (o:ix p) (c:gq p):∃r,H t=some (.tup [.str "tell",.ref r])/\jU H r p/\(∃k,Tells H k (xK p) (.ref r))/\rL (xK p):=by
 obtain⟨v,h1,h2,h3,h4|⟨a,q,rfl,e,h5,_⟩⟩:=h
 .rw[wU o c] at h4;cases h4
 .rw[<-MQ e] at h5
  exact⟨a,h1,h5,h2.one,h3⟩
def Ke (h:rg H (.int i) v):v=.int i:=by
 obtain⟨k,t⟩:=h.one
 exact jr.mp t
def xj:Option Nat->V
 |none=>.eK
 |some n=>.int n
def ZE (H H':Hp) (ra pa:ai) (v:V):Out->Prop
 | .no s=>v=.str s
 | .st S' r=>∃q qR qS ws us,v=.ref q/\H' q=some (.tup [.ref qR,.ref qS,.int S'.n,xj r])/\(qR=ra\/H qR=none)/\(qS=pa\/H qS=none)/\H' qR=some (.lst ws)/\Paired (f_ H') ws S'.bx/\H' qS=some (.lst us)/\Paired (jV H') us S'.rows
def St.ZF (h:St S m):∀r∈S.bx,Lay (.str r.1):=λr hr=>by
 have o:=p_ _ (h.N0 _ (cU hr))
 exact rL.lay (zO ⟨o.1,o.2.1⟩)
def Br:eW (.tuple [.str "a",.str "both",d])=eQ d:=by
 show(fA (.str "a")&&(gT (.str "both")&&eQ d))=eQ d
 rw[show fA (.str "a")=true by decide+kernel,show gT (.str "both")=true by decide+kernel];rfl
def Kf (h:Bd 1 0 d):rL (.tuple [.str "a",.str "both",d]):=by
 refine(Bd.tuple (n:=1) (p:=0) (m:=3) (ds:=[.str "a",.str "both",d]) (λx hx=>?_) (ar 3)).mono δ δ
 simp only[aD,aN,cy] at hx
 rcases hx with rfl|rfl|rfl
 .exact mC (by decide+kernel) (by decide+kernel)
 .exact mC (by decide+kernel) (by decide+kernel)
 .exact h
section
variable {P:aM}{w:bB}{K:Φ}{mg:Str->Option ag}{base:Heap}
abbrev Dz:Stmt:=top 51
abbrev Ra:List Str:=["own","what","rowers","pieces","count","rest","sides","left"]
def se:bW Ra ["own","what"] (aw Dz):={}
def N6:List (Str×NameKind):=[(".0",.local),("one",.local),("what",.free)]
def Rb:List (Str×NameKind):=[(".0",.local),("row",.local),("what",.free)]
def N8:(["one","what"]:List Str).Nodup:=by decide+kernel
def Rc:(["row","what"]:List Str).Nodup:=by decide+kernel
def ZG:(["one"]:List Str).Nodup:=by decide+kernel
def tcE (K:Φ):TT:=gw (gJ Hb (gJ (gj K) (b_ 0) (tC (.int 0))) (gJ (gj K) (b_ 1) (tC (.int 1))))
def E9 (v:Option V) (hL:H1 L=none) (h:H1 a=some (.lst us)) (pr:Paired (f_ H1) us bx) (ht:H1 t=some (.tup ts)) (h1:qA ts 1=some (.str x)) (hl:bx.length<=1000)
  (q:∀J,a_ H1 J->J L=some (.lst ((bx.filter λr=>decide (r.1=x)).map λr=>V.str r.2.1))->Q (.ref L) J):
  qg (Eh K a) (dI 0) (tcE K) (gJ (gj K) (b_ 0) (tC (.int 1))) [v,some (.ref t)] H1 Q L:=by
 have lu:=bS pr
 refine lY (n:=us.length) (f:=λi=>us.getD i .eK) (λj ys bX J=>(∃v,bX=[v,some (.ref t)])/\a_ H1 J/\ys=((bx.take j).filter λr=>decide (r.1=x)).map λr=>V.str r.2.1) hL ω ⟨⟨_,rfl⟩,bR (a_.refl _) hL,rfl⟩ (λj ys bX J hj hy ⟨_,sj,_⟩=>pL (K:=K) (cT.of (sj _ _ h)) j hj) ?_ ?_
 .rintro j ys bX J hj hy ⟨⟨v,rfl⟩,sj,rfl⟩
  have rf:j<bx.length:=ω
  obtain⟨u,eu,b,rfl,e1⟩:=eJ pr j rf
  rw[getD_some eu]
  refine iB rfl (bZ.of (sj _ _ e1)) (aT (j:=0) rfl) (iB rfl (bZ.of (sj _ _ ht)) h1 ⟨rfl,_,rfl,?_⟩)
  rw[lH,fW rf,u_]
  by_cases e:bx[j].1=x
  .refine ite_yes (by simp[e]) ?_
   refine iB rfl (bZ.of (sj _ _ e1)) (aT (j:=1) rfl) ⟨hy,⟨_,rfl⟩,bR sj hL,?_⟩
   rw[aQ (by simp[e]),bF];rfl
  .refine ite_no (by simp[e]) ?_
   refine⟨hy,⟨_,rfl⟩,sj,?_⟩
   rw[aO (by simp[e])]
 .rintro ys bX J hy ⟨_,sj,rfl⟩
  rw[lu,dj] at hy
  exact q J sj hy
def E_ {H:Hp}{p:ai}{vs:List V}{bx:List oG}(h:H p=some (.lst vs)) (pr:Paired (f_ H) vs bx) (l:bx.length<=60):
  ∃L:List (mE (Str×Str×Int)),cT K H p (L.map λe=>V.ref e.a)/\L.length<64/\(∀e∈L,US H e)/\
  ∀(l:ai) (L':List (mE (Str×Str×Int))),H l=none->L'.Perm L->(L'.Pairwise λe e'=>nM e'.key e.key=false)->a_ H (upd H l (.lst (L'.map λe=>V.ref e.a)))/\∃us,upd H l (.lst (L'.map λe=>V.ref e.a)) l=some (.lst us)/\Paired (f_ (upd H l (.lst (L'.map λe=>V.ref e.a)))) us (mX bx):=by
 obtain⟨L0,eL,kL,hL⟩:=zB pr
 have lL:L0.length=bx.length:=by rw[<-kL,aq]
 refine⟨L0,cT.of (by rw[<-eL];exact h),ω,hL,λl L1 hl p1 Qa=>?_⟩
 have z3:=aP hl (.lst (L1.map λe=>V.ref e.a))
 have pc:=av (zC λe he=>hL e (p1.mem_iff.mp he)) λ_ _ z=>z.up λb xs e=>z3 _ _ e
 rw[wZ (l:=bx) (by rw[<-kL];exact p1.map _) (lP.mpr Qa)] at pc
 exact⟨z3,_,aB,pc⟩
def Fb:Sp:=λvs H Q _=>∃(ow t ra pa pl ll:ai) (ws us:List V) (D:uL) (S:Cs) (m:Nat) (o:Out),vs=[.ref ow,.ref t]/\H ow=some (.dK (jm ra pa S.n pl ll))/\H ra=some (.lst ws)/\Paired (f_ H) ws S.bx/\H pa=some (.lst us)/\Paired (jV H) us S.rows/\kz H t D/\St S m/\m<=31/\xN S D o/\∀v H',a_ H H'->ZE H H' ra pa v o->Q v H'
def Kg (F:ji K "_law_later" "_law_later" Dz f fd) (T:Txt mg) (DR:Df P w K mg base 1 "_law_is_rower" ["thing"] (xF eW)) (DI:Df P w K mg base 3 "is_piece" ["thing"] (xF gG)):dW P w K mg base fT 4 f fd ["own","what"] Fb:=by
 exists F.ok,se
 .obtain⟨ow,t,ra,pa,pl,ll,ws,us,D,S,m,o,rfl,_⟩:=h
  rfl
 .obtain⟨ow,t,ra,pa,pl,ll,ws,us,D,S,m,o,rfl,hd,Fc,N_,xn,Rf,dA,sS,GQ,lt,hQ⟩:=h
  have hu:=bb (dY (by decide:1<=64) _) hr.units
  have Be:=hr.mono (j:=1) δ
  refine⟨_,au (MN (i:=2) (j:=3) (k:=4) rfl se.nd rfl rfl rfl δ δ δ rfl rfl rfl (ae (eM hu (pv 0) aW) (ae (eM hu (pv 0) aW) (ae (eM hu (pv 0) aW) ah))) rfl)
   (au (jE (i0:=5) (N:=["one","what"]) (g:=dI 0) (tc:=ZD K) (te:=b_ 0) se.nd rfl (Or.inl rfl) rfl (jz (pv 2)) (fz.one (v:="one") (fr:="what") (j:=1) (nm:=N6) rfl rfl rfl rfl)
    (λ_ _ _=>aZ (i:=0) N8) (λ_ _ _=>ig (bo (E7 hr.units) (bg bw (pv 0) ao) (bg bw (pv 1) ao) (bP _))) (λ_ _ _=>pv 0))
   (au (cQ (bo ie (bg bw (pv 1) ao) aW (bP _))
    (au (cQ (fO (fM (cC DR Be (ae (bg bw (pv 1) ao) ah)))) (aF (bH aW)) bN)
    (au (cQ (bo pQ (bg bw (bg bw (pv 1) ao) ao) (kE (N:=["one"]) (g:=dI 0) (tc:=qE) (te:=gJ (gj K) (b_ 0) (tC (.int 0))) rfl (jz (pv 2)) (fz.closed rfl) (λ_ _ _=>aZ (i:=0) ZG) (λ_ _ _=>iX) (λ_ _ _=>bg bw (pv 0) ao)) rfl) (aF (bH aW)) bN)
    (aF (bH (oO (bo ie (aR bO rfl T.len bC (ae (pv 2) ah)) ao (bP _)) aW
     (bQ (ae (aR pD rfl T.sorted fP (ae (bT lD (pv 2) (cX (ae (bg bw (pv 1) ao) ah))) ah)) (ae (pv 3) (ae (pv 4) (ae jg ah))))))))))
    bN)
   (au (cQ (bo pQ (bg bw (pv 1) ao) (bQ (ae aW (ae aW ah))) (by with_unfolding_all rfl))
    (au (cQ (bo ie (aR bO rfl T.len bC (ae (pv 5) ah)) (aR bO rfl T.len bC (ae (pv 2) ah)) (bP _)) (aF (bH aW)) bN)
    (au (cQ (bo ie (bg bw (pv 1) ao) aW (bP _)) (aF (bH (bQ (ae (pv 5) (ae (pv 3) (ae (pv 4) (ae jg ah))))))) bN)
    (au (ku (i:=6) se.nd (bg cV (kE (N:=["one","what"]) (g:=dI 0) (tc:=tcE K) (te:=gJ (gj K) (b_ 0) (tC (.int 1))) rfl (jz (pv 2)) (fz.one (v:="one") (fr:="what") (j:=1) (nm:=N6) rfl rfl rfl rfl)
      (λ_ _ _=>aZ (i:=0) N8) (λ_ _ _=>ig (bo ie (bg bw (pv 0) ao) (bg bw (pv 1) ao) (bP _))) (λ_ _ _=>bg bw (pv 0) ao)) ao))
    (au (cQ (fO (fM (cC DR Be (ae (bQ (ae aW (ae aW (ae (bg bw (pv 1) ao) ah)))) ah)))) (aF (bH aW)) bN)
    (aF (bH (bQ (ae (aR pD rfl T.sorted fP (ae (bT lD (pv 5) (cX (ae (bQ (ae (bg bw (pv 1) ao) (ae (pv 6) (ae (bg bw (pv 1) ao) ah)))) ah))) ah)) (ae (pv 3) (ae (pv 4) (ae jg ah)))))))))))
    bN)
   (au (cQ (bo ie (bg bw (pv 1) ao) aW (bP _))
    (au (cQ (fO (fM (cC DI hr (ae (bg bw (pv 1) ao) ah)))) (aF (bH aW)) bN)
    (au (cQ (bo ie (aR bO rfl T.len bC (ae (pv 3) ah)) ao (bP _)) (aF (bH aW)) bN)
    (aF (bH (bQ (ae (pv 2) (ae (bT lD (pv 3) (cX (ae (bQ (ae (pv 4) (ae (bg bw (pv 1) ao) ah))) ah))) (ae (bT gi (pv 4) ao) (ae (pv 4) ah)))))))))
    bN)
   (au (jE (i0:=7) (N:=["row","what"]) (g:=dI 0) (tc:=ZD K) (te:=b_ 0) se.nd rfl (Or.inl rfl) rfl (jz (pv 3)) (fz.one (v:="row") (fr:="what") (j:=1) (nm:=Rb) rfl rfl rfl rfl)
    (λ_ _ _=>aZ (i:=0) Rc) (λ_ _ _=>ig (bo (E7 hr.units) (bg bw (pv 0) ao) (bg bw (pv 1) ao) (bP _))) (λ_ _ _=>pv 0))
   (aF (bH (oO (bo ie (aR bO rfl T.len bC (ae (pv 7) ah)) (aR bO rfl T.len bC (ae (pv 3) ah)) (bP _)) aW (bQ (ae (pv 2) (ae (pv 7) (ae (pv 4) (ae jg ah))))))))))))),?_⟩
  have lw:=bS N_
  have lu:=bS Rf
  have l8:=sS.lc
  have lr:=sS.lr
  obtain⟨ts,v1,ht,k0,k1,fr,fd⟩:=dA.one lt
  have g1:=h_.k (k:=.inr "rowers") hd
  have g2:=h_.k (k:=.inr "pieces") hd
  have g3:=h_.k (k:=.inr "count") hd
  rw[zM] at g1
  rw[xb] at g2
  rw[Dy] at g3
  refine⟨_,rfl,ow,.ref ra,rfl,g1,_,rfl,ow,.ref pa,rfl,g2,_,rfl,ow,.int S.n,rfl,g3,_,_,_,rfl,?_⟩
  refine⟨_,rfl,ra,rfl,⟨_,cT.of Fc⟩,λL hL=>?_⟩
  refine Ka (R:=f_) (D0:=λr=>.str r.1) (λh k=>h.up k) Q9 none hL Fc N_ ht k1 fr ω sS.ZF fd.lay λys J sJ hJ pJ=>?_
  have ly:=bS pJ
  have Rg:=sJ _ _ Fc
  have Rh:=sJ _ _ xn
  have ZH:Paired (f_ J) ws S.bx:=av N_ λ_ _ z=>z.up λb xs e=>sJ _ _ e
  have aax:Paired (jV J) us S.rows:=av Rf λ_ _ z=>z.up λb xs e=>sJ _ _ e
  have dJ:=dA.same sJ
  have fin:∀{J2:Hp} {q qR qS:ai} {yB nW:List V} {S':Cs} {r:Option Nat},o=.st S' r->J2 q=none->a_ H J2->(qR=ra\/H qR=none)->(qS=pa\/H qS=none)->J2 qR=some (.lst yB)->Paired (f_ J2) yB S'.bx->J2 qS=some (.lst nW)->Paired (jV J2) nW S'.rows->Q (.ref q) (upd J2 q (.tup [.ref qR,.ref qS,.int S'.n,xj r])):=λ{J2 q qR qS yB nW S' r} e hq s2 a1 a2 b1 b2 b3 b4=>by
   subst e
   have sq:=aP hq (.tup [.ref qR,.ref qS,.int S'.n,xj r])
   exact hQ _ _ (s2.trans sq) ⟨q,qR,qS,yB,nW,rfl,aB,a1,a2,sq _ _ b1,av b2 λ_ _ z=>z.up λb xs e=>sq _ _ e,sq _ _ b3,av b4 λ_ _ z=>z.up λb xs e=>sq _ _ e⟩
  cases lt
  case' c1 c|c2 c n|c3 c n e8|c4 c n e7 g=>
   refine gU rfl (sJ _ _ ht) k0 ?_
  case c1=>
   obtain⟨kk,tl⟩:=(fr.same sJ).one
   refine⟨_,rfl,t,ts,1,_,rfl,rfl,bZ.of (sJ _ _ ht),k1,kk,_,_,rfl,tl,fd,λJ2 s2=>⟨_,rfl,?_⟩⟩
   rw[show eW (dat (.pI _))=false from c]
   exact ite_yes δ (hQ _ _ (sJ.trans s2) rfl)
  case' c2|c3|c4=>
   obtain⟨a,EM,ha,⟨kk,tl⟩,_⟩:=zP dJ c
   refine iB rfl (bZ.of EM) rfl ⟨kk,_,_,rfl,tl,fd,λJ2 s2=>⟨_,rfl,?_⟩⟩
   rw[c]
   refine ite_no δ ?_
   refine iB rfl (bZ.of (s2 _ _ EM)) rfl ⟨a,_,0,_,rfl,rfl,bZ.of (s2 _ _ ha),rfl,_,rfl,ra,rfl,⟨_,cT.of (s2 _ _ Rg)⟩,λL2 Ac=>?_⟩
   refine Kb none Ac (s2 _ _ Rg) (av ZH λ_ _ z=>z.up λb xs e=>s2 _ _ e) ω λJ3 s3 h3=>?_
   refine⟨L2,_,rfl,.inl (cT.of h3),rfl,mY _,_,rfl,?_⟩
   rw[rX]
   have lR:=sJ.trans (s2.trans s3)
  case c2=>
   exact ite_yes (aI n) (hQ _ _ lR rfl)
  case' c3|c4=>
   refine ite_no (by rw[bD n];decide) ?_
   refine⟨_,rfl,ra,ws,rfl,.inl (cT.of (lR _ _ Fc)),rfl,_,rfl,?_⟩
   rw[iw]
  case c3=>
   exact ite_yes (aI ω) (hQ _ _ lR rfl)
  case c4=>
   refine ite_no (λz=>by have:=aX z;omega) ?_
   refine⟨_,rfl,iB rfl (bZ.of ((s2.trans s3) _ _ EM)) rfl ⟨dP,λl1 Hg=>?_⟩⟩
   exists Hg,.lst [.ref a],J3,l1,s4,w4,J4
   have Hh:=lR.trans s4
   refine⟨ra,l1,ws,[.ref a],rfl,rfl,Hh _ _ Fc,w4,by rw[aJ];exact aA (by omega:ws.length+1<=100) δ,λp hp=>?_⟩
   exists hp,.lst (ws++ [.ref a]),J4,p,s5,w5,J5
   have xl:=Hh.trans s5
   obtain⟨L0,a1,a2,a3,a4⟩:=E_ (K:=K) (bx:=S.bx++ [_]) w5 (dU (av N_ λ_ _ z=>z.up λb xs e=>xl _ _ e) ⟨a,rfl,(s2.trans (s3.trans (s4.trans s5))) _ _ ha⟩) (by rw[aK,aJ];omega)
   refine⟨p,L0,rfl,a1,a2,a3,λl L1 hl pm sr=>?_⟩
   obtain⟨s6,nW,h6,p6⟩:=a4 l L1 hl pm sr
   try dsimp only
   generalize upd J5 l (.lst (L1.map λe=>V.ref e.a))=J6 at*
   have Ab:=xl.trans s6
   exact⟨_,rfl,_,rfl,dP,λq hq=>fin rfl hq Ab (.inr (cK xl hl)) (.inl rfl) h6 p6 (Ab _ _ xn) (av Rf λ_ _ z=>z.up λb xs e=>Ab _ _ e)⟩
  case' g1 x n|g2 x n|w1 x d n|w2 x d n pz|w3 x i n i1 i2|t1 c|t2 oc cc|s1 i h|s2 i h=>
   refine jI rfl (sJ _ _ ht) k0 rfl ?_
   refine⟨_,rfl,t,ts,0,_,rfl,rfl,bZ.of (sJ _ _ ht),k0,dP,λpt ZI=>?_⟩
   exists ZI,.tup [.str "go",.str "weigh"],J,pt,s2,w2,J2
   refine⟨pt,_,rfl,.inr (bZ.of w2),rfl,rfl,_,rfl,?_⟩
   have ju:=sJ.trans s2
  case' g1|g2|w1|w2|w3=>
   refine VE ?_
   refine⟨_,rfl,L,ys,rfl,.inl (cT.of (s2 _ _ hJ)),_,rfl,ra,ws,rfl,.inl (cT.of (s2 _ _ Rg)),rfl,_,rfl,?_⟩
   rw[iw]
  case' g1|g2=>
   have eC:(S.bx.filter λr=>!PyData.eqv (.str r.1) (dat (.go x)))=nP S.bx x:=xh S.bx x
   rw[eC] at pJ ly
   have cl:=xi S.bx x
  case g1=>
   exact ite_yes (aI (by have:=cl.mpr n;omega)) (hQ _ _ ju rfl)
  case g2=>
   refine ite_no (λz=>cl.mp (by have:=aX z;omega) n) ?_
   refine gU rfl (ju _ _ ht) k0 ?_
   exact⟨_,rfl,_,rfl,_,rfl,dP,λq hq=>fin rfl hq ju (.inr hL) (.inl rfl) (s2 _ _ hJ) (av pJ λ_ _ z=>z.up λb xs e=>s2 _ _ e) (ju _ _ xn) (av Rf λ_ _ z=>z.up λb xs e=>ju _ _ e)⟩
  case' w1|w2=>
   have eC:(S.bx.filter λr=>!PyData.eqv (.str r.1) (dat (.weigh x d)))=nP S.bx x:=xh S.bx x
   rw[eC] at pJ ly
   have cl:=xi S.bx x
  case w1=>
   exact ite_yes (aI (by have:=cl.mpr n;omega)) (hQ _ _ ju rfl)
  case w2=>
   refine ite_no (λz=>cl.mp (by have:=aX z;omega) n) ?_
   refine jI rfl (ju _ _ ht) k0 rfl ?_
   obtain⟨v2,xH,_,f2,UR,_⟩:=dA
   obtain⟨r,Sk,er⟩:∃r,r∈S.bx/\r.1=x:=by
    obtain⟨r,h1,h2⟩:=cS.mp n
    exact⟨r,h1,h2⟩
   refine⟨_,rfl,ra,rfl,⟨_,cT.of (ju _ _ Fc)⟩,λL2 Ac=>?_⟩
   refine E9 none Ac (ju _ _ Fc) (av N_ λ_ _ z=>z.up λb xs e=>ju _ _ e) (ju _ _ xH) rfl ω λJ3 s3 h3=>?_
   have lR:=ju.trans s3
   have eh:∃tl,(S.bx.filter λr=>decide (r.1=x))=r::tl:=by
    cases e:S.bx.filter λr=>decide (r.1=x) with
    |nil=>
     have:r∈S.bx.filter λr=>decide (r.1=x):=dE.mpr ⟨Sk,aI er⟩
     rw[e] at this;cases this
    |cons q tl=>
     have hq:q∈S.bx.filter λr=>decide (r.1=x):=by rw[e];exact cj
     obtain⟨q1,q2⟩:=dE.mp hq
     rw[xc sS.nd q1 Sk ((aX q2).trans er.symm)]
     exact⟨tl,rfl⟩
   obtain⟨tl0,eh⟩:=eh
   rw[eh] at h3
   refine⟨L2,_,0,.str r.2.1,rfl,rfl,cT.of h3,aT (j:=0) rfl,?_⟩
   refine iB rfl (bZ.of (lR _ _ xH)) rfl ⟨dP,λpw ZJ=>?_⟩
   exists ZJ,.tup [.str "a",.str "both",v2],J3,pw,s4,w4,J4
   have Hh:=lR.trans s4
   obtain⟨kk,tk⟩:=(fZ (ds:=[.str "a",.str "both",d]) w4 (aU (ij _) (aU (ij _) (aU (f2.same Hh) dS)))).one
   refine⟨kk,_,_,rfl,tk,Kf UR,λJ5 s5=>⟨_,rfl,?_⟩⟩
   have xl:=Hh.trans s5
   rw[Br]
   exact ite_yes (by rw[pz];rfl) (hQ _ _ xl rfl)
  case w3=>
   have eC:(S.bx.filter λr=>!PyData.eqv (.str r.1) (dat (.weigh x (.int i))))=nP S.bx x:=xh S.bx x
   rw[eC] at pJ ly
   have cl:=xi S.bx x
   refine ite_no (λz=>cl.mp (by have:=aX z;omega) n) ?_
   refine jI rfl (ju _ _ ht) k0 rfl ?_
   obtain⟨v2,xH,_,f2,UR,_⟩:=dA
   obtain⟨r,Sk,er⟩:∃r,r∈S.bx/\r.1=x:=by
    obtain⟨r,h1,h2⟩:=cS.mp n
    exact⟨r,h1,h2⟩
   refine⟨_,rfl,ra,rfl,⟨_,cT.of (ju _ _ Fc)⟩,λL2 Ac=>?_⟩
   refine E9 none Ac (ju _ _ Fc) (av N_ λ_ _ z=>z.up λb xs e=>ju _ _ e) (ju _ _ xH) rfl ω λJ3 s3 h3=>?_
   have lR:=ju.trans s3
   have eh:∃tl,(S.bx.filter λr=>decide (r.1=x))=r::tl:=by
    cases e:S.bx.filter λr=>decide (r.1=x) with
    |nil=>
     have:r∈S.bx.filter λr=>decide (r.1=x):=dE.mpr ⟨Sk,aI er⟩
     rw[e] at this;cases this
    |cons q tl=>
     have hq:q∈S.bx.filter λr=>decide (r.1=x):=by rw[e];exact cj
     obtain⟨q1,q2⟩:=dE.mp hq
     rw[xc sS.nd q1 Sk ((aX q2).trans er.symm)]
     exact⟨tl,rfl⟩
   obtain⟨tl0,eh⟩:=eh
   rw[eh] at h3
   refine⟨L2,_,0,.str r.2.1,rfl,rfl,cT.of h3,aT (j:=0) rfl,?_⟩
   refine iB rfl (bZ.of (lR _ _ xH)) rfl ⟨dP,λpw ZJ=>?_⟩
   exists ZJ,.tup [.str "a",.str "both",v2],J3,pw,s4,w4,J4
   have Hh:=lR.trans s4
   obtain⟨kk,tk⟩:=(fZ (ds:=[.str "a",.str "both",.int i]) w4 (aU (ij _) (aU (ij _) (aU (f2.same Hh) dS)))).one
   refine⟨kk,_,_,rfl,tk,Kf UR,λJ5 s5=>⟨_,rfl,?_⟩⟩
   have xl:=Hh.trans s5
   rw[Br]
   refine ite_no (by rw[(N4 i1 i2).2];decide) ?_
   obtain rfl:=Ke f2
   refine⟨_,rfl,iB rfl (bZ.of (xl _ _ xH)) rfl ⟨_,rfl,iB rfl (bZ.of (xl _ _ xH)) rfl ⟨dP,λpn ZK=>?_⟩⟩⟩
   exists ZK,.tup [.str x,.str r.2.1,.int i],J5,pn,s6,w6,J6
   refine⟨dP,λl1 Hg=>?_⟩
   exists Hg,.lst [.ref pn],J6,l1,s7,w7,J7
   have VG:=xl.trans (s6.trans s7)
   have sJ7:a_ J J7:=s2.trans (s3.trans (s4.trans (s5.trans (s6.trans s7))))
   have aay:(nP S.bx x).length<=8:=aA (eF _ _) l8
   refine⟨L,l1,ys,[.ref pn],rfl,rfl,sJ7 _ _ hJ,w7,by rw[aJ];exact aA (by omega:ys.length+1<=100) δ,λp hp=>?_⟩
   exists hp,.lst (ys++ [.ref pn]),J7,p,s8,w8,J8
   have Ri:=VG.trans s8
   obtain⟨L0,a1,a2,a3,a4⟩:=E_ (K:=K) (bx:=nP S.bx x++ [(x,r.2.1,i)]) w8 (dU (av pJ λ_ _ z=>z.up λb xs e=>(sJ7.trans s8) _ _ e) ⟨pn,rfl,(s7.trans s8) _ _ w6⟩) (by rw[aK,aJ];omega)
   refine⟨p,L0,rfl,a1,a2,a3,λl L1 hl pm sr=>?_⟩
   obtain⟨s9,nW,h9,p9⟩:=a4 l L1 hl pm sr
   try dsimp only
   generalize upd J8 l (.lst (L1.map λe=>V.ref e.a))=J9 at*
   have ZL:=Ri.trans s9
   have qO:=sS.Vz Sk i
   rw[er] at qO
   rw[qO] at p9
   exact⟨_,rfl,_,rfl,dP,λq hq=>fin rfl hq ZL (.inr (cK Ri hl)) (.inl rfl) h9 p9 (ZL _ _ xn) (av Rf λ_ _ z=>z.up λb xs e=>ZL _ _ e)⟩
  case' t1|t2|s1|s2=>
   refine VF ?_
  case' t1|t2=>
   refine gU rfl (ju _ _ ht) k0 ?_
  case t1=>
   obtain⟨kk,tl⟩:=(fr.same ju).one
   refine⟨_,rfl,t,ts,1,_,rfl,rfl,bZ.of (ju _ _ ht),k1,kk,_,_,rfl,tl,fd,λJ3 s3=>⟨_,rfl,?_⟩⟩
   rw[show gG (dat (.tell _))=false from c]
   exact ite_yes δ (hQ _ _ (ju.trans s3) rfl)
  case t2=>
   obtain⟨r,EM,Jl,⟨kk,tl⟩,_⟩:=E8 (dA.same ju) oc cc
   refine iB rfl (bZ.of EM) rfl ⟨kk,_,_,rfl,tl,fd,λJ3 s3=>⟨_,rfl,?_⟩⟩
   rw[wU oc cc]
   refine ite_no δ ?_
   have lR:=ju.trans s3
   refine⟨_,rfl,pa,us,rfl,.inl (cT.of (lR _ _ xn)),rfl,_,rfl,?_⟩
   rw[iw]
   refine ite_no (λz=>by have:=aX z;omega) ?_
   refine⟨_,rfl,_,rfl,_,rfl,iB rfl (bZ.of (s3 _ _ EM)) rfl ⟨dP,λpn ZK=>?_⟩⟩
   exists ZK,.tup [.int S.n,.ref r],J3,pn,s6,w6,J6
   refine⟨dP,λl1 Hg=>?_⟩
   exists Hg,.lst [.ref pn],J6,l1,s7,w7,J7
   have VG:=lR.trans (s6.trans s7)
   refine⟨pa,l1,us,[.ref pn],rfl,rfl,VG _ _ xn,w7,by rw[aJ];exact aA (by omega:us.length+1<=100) δ,λp hp=>?_⟩
   exists hp,.lst (us++ [.ref pn]),J7,p,s8,w8,J8
   have Ri:=VG.trans s8
   refine⟨_,rfl,_,_,rfl,rfl,_,rfl,dP,λq hq=>?_⟩
   exact fin (S':=⟨S.bx,S.rows++ [(S.n,_)],S.n+1⟩) (r:=some S.n) rfl hq Ri (.inl rfl) (.inr (cK VG hp)) (Ri _ _ Fc) (av N_ λ_ _ z=>z.up λb xs e=>Ri _ _ e) w8 (dU (av Rf λ_ _ z=>z.up λb xs e=>Ri _ _ e) ⟨pn,r,rfl,(s7.trans s8) _ _ w6,Jl.same (s3.trans (s6.trans (s7.trans s8)))⟩)
  case' s1|s2=>
   refine jI rfl (ju _ _ ht) k0 rfl ?_
   refine⟨_,rfl,pa,rfl,⟨_,cT.of (ju _ _ xn)⟩,λL2 Ac=>?_⟩
   refine Ka (R:=jV) (D0:=λr=>.int r.1) (λh k=>h.up k) Q_ none Ac (ju _ _ xn) (av Rf λ_ _ z=>z.up λb xs e=>ju _ _ e) (ju _ _ ht) k1 (fr.same ju) ω (λx hx=>rL.lay (zN (by have:=sS.num x hx;have:=sS.n;omega))) fd.lay λzs J3 s3 h3 p3=>?_
   have eC:(S.rows.filter λr=>!PyData.eqv (.int r.1) (dat (.jW i)))=uI S.rows i:=Kc S.rows i
   rw[eC] at p3
   have lz:=bS p3
   have lR:=ju.trans s3
   refine⟨_,rfl,L2,zs,rfl,.inl (cT.of h3),_,rfl,pa,us,rfl,.inl (cT.of (lR _ _ xn)),rfl,_,rfl,?_⟩
   rw[iw]
   have cl:=Kd S.rows i
  case s1=>
   exact ite_yes (aI (by have:=cl.mpr h;omega)) (hQ _ _ lR rfl)
  case s2=>
   refine ite_no (λz=>by have:=cl.mp (by have:=aX z;omega);rw[h] at this;cases this) ?_
   exact⟨_,rfl,_,rfl,_,rfl,dP,λq hq=>fin rfl hq lR (.inl rfl) (.inr (cK ju Ac)) (lR _ _ Fc) (av N_ λ_ _ z=>z.up λb xs e=>lR _ _ e) h3 p3⟩
end
def ZM (H:Hp) (v:V):Str⊕Option Nat->Prop
 | .inl s=>v=.str s
 | .inr r=>∃q,v=.ref q/\H q=some (.tup [xj r])
section
variable {P:aM}{w:bB}{K:Φ}{mg:Str->Option ag}{base:Heap}
abbrev Rj:Stmt:=top 52
abbrev ZN:List Str:=["own","what","now","here","there","later"]
def Bs:bW ZN ["own","what"] (aw Rj):={}
def put3 {Z:L2.St}{H1:Hp}{ow ra pa qR qS pl ll:ai}{n n':Int}{Q:L2.St->Hp->Prop}(d:H1 ow=some (.dK (jm ra pa n pl ll))) (q:∀H2,H2 ow=some (.dK (jm qR qS n' pl ll))->(∀z o,z≠ow->H1 z=some o->H2 z=some o)->Tk H1 H2->Q (some (.ref ow)::Z) H2):
  K6 (b_ 0) (tC (.str "rowers")) EZ (.ref qR) (some (.ref ow)::Z) H1 λbX H'=>kD (K6 (b_ 0) (tC (.str "pieces")) EZ) (kD (K6 (b_ 0) (tC (.str "count")) EZ) Al) [.ref qS,.int n'] bX H' Q:=by
 refine⟨_,rfl,ow,_,rfl,Cq.k (k:=.inr "rowers") d (by show 5<sizeLine;decide),?_⟩
 rw[QZ]
 refine⟨_,_,rfl,_,rfl,ow,_,rfl,Cq.k (k:=.inr "pieces") aB (by show 5<sizeLine;decide),?_⟩
 rw[Q0,rq]
 refine⟨_,_,rfl,_,rfl,ow,_,rfl,Cq.k (k:=.inr "count") aB (by show 5<sizeLine;decide),?_⟩
 rw[Q3,rq]
 exact⟨rfl,q _ aB (λz o n e=>by rw[aV n];exact e) (λb zs e=>by rw[aV (λz=>by rw[z,d] at e;cases e)];exact e)⟩
def Oa:Sp:=λvs H Q _=>∃(mu:List ai) (ow t ra pa pl ll:ai) (xs ys:List V) (sts:List Cs) (S:Cs) (cG:List Cs) (D:uL) (m:Nat) (o:Str⊕Option Nat) (fN:List Cs) (S':Cs) (fJ:List Cs),vs=[.ref ow,.ref t]/\mZ mu H ow ra pa pl ll xs ys sts S cG/\pl≠ll/\ow∈mu/\pl∈mu/\ll∈mu/\(∀x∈mu,∃o,H x=some o)/\(∀T∈sts,Q4 T)/\(∀T∈cG,Q4 T)/\sts.length<=800/\cG.length<=800/\kz H t D/\St S m/\m<=31/\Bp D sts S cG o fN S' fJ/\
 ∀v qR qS ZO ZP H',oH [ow,pl,ll] H H'->Tk H H'->mZ mu H' ow qR qS pl ll ZO ZP fN S' fJ->ZM H' v o->Q v H'
def Rk (F:ji K "_law_due" "_law_due" Rj f fd) (T:Txt mg) (DL:Df P w K mg base 4 "_law_later" ["own","what"] Fb):dW P w K mg base fT 5 f fd ["own","what"] Oa:=by
 exists F.ok,Bs
 .obtain⟨mu,ow,t,ra,pa,pl,ll,xs,ys,sts,S,cG,D,m,o,fN,S',fJ,rfl,_⟩:=h
  rfl
 .obtain⟨mu,ow,t,ra,pa,pl,ll,xs,ys,sts,S,cG,D,m,o,fN,S',fJ,rfl,O,Sl,m1,m2,m3,VH,Hi,Hj,l1,l2,dA,sS,GQ,sp,hQ⟩:=h
  have hu:=bb (dY (by decide:1<=64) _) hr.units
  refine⟨_,au (ku (i:=2) Bs.nd (bQ (ae (eM hu (pv 0) aW) (ae (eM hu (pv 0) aW) (ae (eM hu (pv 0) aW) ah)))))
   (au (cQ (bo pQ (bg bw (pv 1) ao) (bQ (ae aW (ae aW ah))) (by with_unfolding_all rfl))
    (au (iQ (bg cV (cX (ae (bQ (ae aW (ae aW ah))) (ae (bQ (ae aW (ae aW ah))) ah))) (fK FE rfl T.int vo (ae (jZ ie (bg bw (pv 1) ao) aW (bP _)) ah))) (gg rfl (bz (aZ (i:=3) Bs.nd) (bz (aZ (i:=4) Bs.nd) eZ))))
    (au (cQ (bo (qH hr.units) (eM hu (pv 0) (pv 3)) (cX ah) (bP _)) (aF (bH aW)) bN)
    (au (gA (ql cx eA eB gE (eM hu (pv 0) (pv 4)) (ae (pv 2) ah)))
    (au (iQ (y_ cx vq vt Cg (eM hu (pv 0) (pv 3))) (gg rfl (bz (oQ (pv 0) aW (Fp hu)) (bz (oQ (pv 0) aW (Fp hu)) (bz (oQ (pv 0) aW (Fp hu)) eZ)))))
    (aF (bH (bQ (ae jg ah))))))))
    bN)
   (au (ku (i:=5) Bs.nd (cC DL hr (ae (pv 0) (ae (pv 1) ah))))
   (au (cQ (fM (aR fL rfl T.tO aE (ae (pv 5) (ae (gQ (v:=.ty "str") rfl T.str gM rfl) ah)))) (aF (bH (pv 5))) bN)
   (au (gA (ql cx eA eB gE (eM hu (pv 0) aW) (ae (pv 2) ah)))
   (au (gA (y_ cx PySem.F.slot_list_clear PySem.F.type_list_clear HU (eM hu (pv 0) aW)))
   (au (iQ (gY zh (pv 5) jC (iJ ao)) (gg rfl (bz (oQ (pv 0) aW (Fp hu)) (bz (oQ (pv 0) aW (Fp hu)) (bz (oQ (pv 0) aW (Fp hu)) eZ)))))
   (aF (bH (bQ (ae (bg bw (pv 5) ao) ah)))))))))),?_⟩
  have lx:=bS O.pp
  have ly:=bS O.Se
  have g1:=h_.k (k:=.inr "rowers") O.d
  have g2:=h_.k (k:=.inr "pieces") O.d
  have g3:=h_.k (k:=.inr "count") O.d
  rw[zM] at g1
  rw[xb] at g2
  rw[Dy] at g3
  refine⟨_,rfl,ow,.ref ra,rfl,g1,_,rfl,ow,.ref pa,rfl,g2,_,rfl,ow,.int S.n,rfl,g3,dP,λnw hnw=>?_⟩
  exists hnw,.tup [.ref ra,.ref pa,.int S.n],H,nw,s1,w1,J1
  have O1:=O.same s1
  have nmu:nw∉mu:=λz=>by obtain⟨o,e⟩:=VH _ z;rw[hnw] at e;cases e
  have ZQ:MM mu J1 (.ref nw) S:=by
   obtain⟨qO,Ob,a1,a2,a3,a4,a5,a6⟩:=O1.now
   exact⟨nw,ra,pa,qO,Ob,rfl,nmu,a1,a2,w1,a3,a4,a5,a6⟩
  obtain⟨ts,ht,k0⟩:∃ts,H t=some (.tup ts)/\qA ts 0=some (.str (Bq D)):=by
   cases D with
   |pI d=>obtain⟨v,h1,_⟩:=dA;exact⟨_,h1,rfl⟩
   |go x=>exact⟨_,dA.1,rfl⟩
   |weigh x d=>obtain⟨v,h1,_⟩:=dA;exact⟨_,h1,rfl⟩
   |tell d=>obtain⟨v,h1,_⟩:=dA;exact⟨_,h1,rfl⟩
   |jW i=>exact⟨_,dA.1,rfl⟩
   |back=>exact⟨_,dA,rfl⟩
   |again=>exact⟨_,dA,rfl⟩
  refine⟨_,rfl,t,ts,0,_,rfl,rfl,bZ.of (s1 _ _ ht),k0,dP,λpt ZI=>?_⟩
  exists ZI,.tup [.str "back",.str "again"],J1,pt,s2,w2,J2
  refine⟨pt,_,rfl,.inr (bZ.of w2),rfl,rfl,_,rfl,?_⟩
  have O2:=O1.same s2
  have Rl:=ZQ.kp (fX s2) (eV s2)
  have n1:ow≠pl:=lI O.d O.ky
  have n2:ow≠ll:=lI O.d O.nY
  have ZR:∀{G G':Hp},oH [ow,pl,ll] G G'->oH mu G G':=λk z o n e=>k _ _ (λy=>by
   simp only[aD,aN,cy] at y
   rcases y with y|y|y
   .exact n (y▸m1)
   .exact n (y▸m2)
   .exact n (y▸m3)) e
  have Lat:∀{o1:Out},xN S D o1->HN (.str (Bq D)) [.str "back",.str "again"]=false:=λl=>by cases l<;>rfl
  have O3:=O2
  cases sp
  case' no l|st l=>
   refine ite_no (by rw[Lat l];decide) ?_
   obtain⟨qO,Ob,a1,a2,a3,a4,a5,a6⟩:=O2.now
   have ju:=s1.trans s2
   refine⟨_,rfl,_,rfl,ow,t,ra,pa,pl,ll,qO,Ob,D,S,m,_,rfl,O2.d,a3,a4,a5,a6,dA.same ju,sS,GQ,l,λv J3 s3 lv=>?_⟩
   have lR:=ju.trans s3
   have O3:=O2.same s3
  case no=>
   obtain rfl:v=.str _:=lv
   refine⟨_,rfl,0,_,_,.str _,rfl,ff.mpr rfl,.inr (.inr (.inl rfl)),_,rfl,?_⟩
   exact ite_yes rfl ⟨_,rfl,hQ _ _ _ _ _ _ (fX lR) (eV lR) O3 rfl⟩
  case st=>
   obtain⟨q,qR,qS,ws,us,rfl,hq,r1,r2,b1,b2,b3,b4⟩:=lv
   rename_i r
   have fo:rg J3 (match r with|none=>PyData.none|some n=>.int n) (xj r):=by
    cases r with
    |none=>exact rZ
    |some n=>exact eg _
   obtain⟨kk,tk⟩:=(fZ hq (aU (fe b1 (eO qQ b2)) (aU (fe b3 (eO tX b4)) (aU (eg _) (aU fo dS))))).one
   refine⟨_,rfl,kk,_,_,_,rfl,tk,.inr (.inr (.inl rfl)),_,rfl,?_⟩
   refine ite_no (λz=>Bool.noConfusion (show false=true from z)) ?_
   have gp:=h_.k (k:=.inr "past") O3.d
   rw[pH] at gp
   refine⟨_,rfl,ow,.ref pl,rfl,gp,.inl ⟨rfl,_,cT.of O3.ky⟩,_,rfl,pl,xs,.ref nw,rfl,rfl,O3.ky,dD ω,?_⟩
   have u1:∀{z:ai} {o:HO},z≠pl->J3 z=some o->upd J3 pl (.lst (xs++ [.ref nw])) z=some o:=λn e=>by rw[aV n];exact e
   have p4:upd J3 pl (.lst (xs++ [.ref nw])) pl=some (.lst (xs++ [.ref nw])):=aB
   have tk4:Tk J3 (upd J3 pl (.lst (xs++ [.ref nw]))):=λb zs e=>u1 (λz=>by rw[z,O3.ky] at e;cases e) e
   try dsimp only
   generalize upd J3 pl (.lst (xs++ [.ref nw]))=J4 at*
   have d4:=u1 n1 O3.d
   have gl:=h_.k (k:=.inr "later") d4
   rw[pZ] at gl
   have l4:=u1 (cD Sl) O3.nY
   refine⟨_,rfl,ow,.ref ll,rfl,gl,.inl ⟨rfl,_,cT.of l4⟩,ll,ys,rfl,rfl,l4,?_⟩
   have u2:∀{z:ai} {o:HO},z≠ll->J4 z=some o->upd J4 ll (.lst []) z=some o:=λn e=>by rw[aV n];exact e
   have p5:upd J4 ll (.lst []) ll=some (.lst []):=aB
   have KO:Tk J4 (upd J4 ll (.lst [])):=λb zs e=>u2 (λz=>by rw[z,l4] at e;cases e) e
   try dsimp only
   generalize upd J4 ll (.lst [])=J5 at*
   have d5:=u2 n2 d4
   have q5:=KO _ _ (tk4 _ _ hq)
   refine⟨_,rfl,_,rfl,q,_,rfl,bZ.of q5,λz=>absurd (show HT.ip 4 4 (some 3)=4 from z.2) δ,λ_ p hp=>?_⟩
   rw[show jh [V.ref qR,V.ref qS,V.int S'.n,xj r] none (some 3)=[V.ref qR,V.ref qS,V.int S'.n] from rfl]
   exists hp,.tup [V.ref qR,V.ref qS,V.int S'.n],J5,p,s6,w6,J6
   have d6:=s6 _ _ d5
   refine⟨p,_,rfl,bZ.of w6,rfl,_,_,rfl,?_⟩
   refine put3 d6 λJ7 d7 u7 Oc=>?_
   refine iB rfl (bZ.of (Oc _ _ (s6 _ _ q5))) rfl ⟨dP,λz hz=>?_⟩
   exists hz,.tup [xj r],J7,z,s8,w8,J8
   have go:∀{x:ai} {o:HO},x≠ow->x≠pl->x≠ll->J3 x=some o->J8 x=some o:=λe1 e2 e3 h=>s8 _ _ (u7 _ _ e1 (s6 _ _ (u2 e3 (u1 e2 h))))
   have km:oH [ow,pl,ll] J3 J8:=λx o n e=>by
    simp only[aD,aN,cy,ux] at n
    exact go n.1 n.2.1 n.2.2 e
   have zQ:Tk J3 J8:=λb zs e=>s8 _ _ (Oc _ _ (s6 _ _ (KO _ _ (tk4 _ _ e))))
   have BE:=ZR km
   have hm:∀{x:ai},(x=ra\/J2 x=none)->ra∉mu->x∉mu:=λh h0=>by
    rcases h with rfl|h
    .exact h0
    .intro z
     obtain⟨o,e⟩:=VH _ z
     rw[ju _ _ e] at h;cases h
   have TH:∀{x:ai},(x=pa\/J2 x=none)->pa∉mu->x∉mu:=λh h0=>by
    rcases h with rfl|h
    .exact h0
    .intro z
     obtain⟨o,e⟩:=VH _ z
     rw[ju _ _ e] at h;cases h
   have r1':=hm r1 a1
   have r2':=TH r2 a2
   refine hQ _ qR qS (xs++ [.ref nw]) [] J8 (λx o n e=>km _ _ n (lR _ _ e)) ((eV lR).trans zQ) ⟨s8 _ _ d7,⟨ws,us,r1',r2',BE _ _ r1' b1,av b2 λ_ _ z=>z.up zQ,BE _ _ r2' b3,av b4 λ_ _ z=>z.up zQ⟩,s8 _ _ (u7 _ _ (cD n1) (s6 _ _ (u2 Sl p4))),dU (av O3.pp λ_ _ z=>z.kp BE zQ) ((Rl.kp (fX s3) (eV s3)).kp BE zQ),s8 _ _ (u7 _ _ (cD n2) (s6 _ _ p5)),.nil⟩ ⟨z,rfl,w8⟩
  case' b0|b=>
   refine ite_yes (show HN (.str "back") [.str "back",.str "again"]=true by decide) ?_
   refine⟨dP,λt1 h1=>?_⟩
   exists h1,.tup [.str "past",.str "later"],J2,t1,s3,w3,J3
   refine⟨dP,λt2 h2=>?_⟩
   exists h2,.tup [.str "later",.str "past"],J3,t2,s4,w4,J4
   refine⟨dP,λt3 h3=>?_⟩
   exists h3,.lst [.ref t1,.ref t2],J4,t3,s5,w5,J5
   have DA:=s3.trans (s4.trans s5)
   have xl:=(s1.trans s2).trans DA
   refine⟨_,rfl,t,ts,0,_,rfl,rfl,bZ.of (xl _ _ ht),k0,rfl,.inr ⟨_,rfl,?_⟩⟩
   rw[lH,show decide (Bq .back="again")=false from rfl]
   refine⟨t3,_,0,_,rfl,rfl,cT.of w5,aT (j:=0) rfl,Gf (bZ.of ((s4.trans s5) _ _ w3)) ?_⟩
   have O5:=O2.same DA
   have Rm:=Rl.kp (fX DA) (eV DA)
   have gh:=h_.k (k:=.inr "past") O5.d
   rw[pH] at gh
   refine⟨_,rfl,_,rfl,ow,.ref pl,rfl,gh,dP,λe he=>?_⟩
   exists he,.lst [],J5,e,s6,w6,J6
   have O6:=O5.same s6
   have Rn:=Rm.kp (fX s6) (eV s6)
   have Ab:=xl.trans s6
   obtain⟨ka,qa⟩:=(fe O6.ky (eO J_ O6.pp)).one
   obtain⟨kb,qb⟩:=(fe w6 dS).one
   refine⟨ka,kb,_,_,qa,qb,E4 Hi,pU,_,rfl,?_⟩
   rw[E5]
  case b0=>
   exact ite_yes rfl (hQ _ _ _ _ _ _ (fX Ab) (eV Ab) O6 rfl)
  case b=>
   refine ite_no ς ?_
   obtain⟨nW,u,eu,ZS,Qv⟩:=fi O6.pp
   have hx:=O6.ky
   rw[eu] at hx
   obtain⟨tp,qR,qS,yB,ZT,rfl,c1,c2,c3,c4,c5,c6,c7,c8⟩:=Qv
   have gt:=h_.k (k:=.inr "later") O6.d
   rw[pZ] at gt
   refine⟨_,rfl,_,rfl,ow,.ref ll,rfl,gt,.inl ⟨rfl,_,cT.of O6.nY⟩,_,rfl,ll,ys,.ref nw,rfl,rfl,O6.nY,dD ω,?_⟩
   have u1:∀{z:ai} {o:HO},z≠ll->J6 z=some o->upd J6 ll (.lst (ys++ [.ref nw])) z=some o:=λn e=>by rw[aV n];exact e
   have p7:upd J6 ll (.lst (ys++ [.ref nw])) ll=some (.lst (ys++ [.ref nw])):=aB
   have Oc:Tk J6 (upd J6 ll (.lst (ys++ [.ref nw]))):=λb zs e=>u1 (λz=>by rw[z,O6.nY] at e;cases e) e
   try dsimp only
   generalize upd J6 ll (.lst (ys++ [.ref nw]))=J7 at*
   have d7:=u1 n2 O6.d
   have x7:=u1 Sl hx
   have VI:=h_.k (k:=.inr "past") d7
   rw[pH] at VI
   refine⟨_,rfl,_,rfl,ow,.ref pl,rfl,VI,.inl ⟨rfl,_,cT.of x7⟩,pl,_,.ref tp,rfl,rfl,x7,ς,?_⟩
   rw[show(nW++ [V.ref tp]).dropLast=nW by simp]
   have u2:∀{z:ai} {o:HO},z≠pl->J7 z=some o->upd J7 pl (.lst nW) z=some o:=λn e=>by rw[aV n];exact e
   have p8:upd J7 pl (.lst nW) pl=some (.lst nW):=aB
   have VJ:Tk J7 (upd J7 pl (.lst nW)):=λb zs e=>u2 (λz=>by rw[z,x7] at e;cases e) e
   try dsimp only
   generalize upd J7 pl (.lst nW)=J8 at*
   have d8:=u2 n1 d7
   refine⟨tp,_,rfl,bZ.of (VJ _ _ (Oc _ _ c4)),rfl,_,_,rfl,?_⟩
   refine put3 d8 λJ9 d9 u9 ZU=>?_
   refine⟨dP,λz hz=>?_⟩
   exists hz,.tup [V.eK],J9,z,s10,Cj,Ro
   have km:oH [ow,pl,ll] J6 Ro:=λx o n e=>by
    simp only[aD,aN,cy,ux] at n
    exact s10 _ _ (u9 _ _ n.1 (u2 n.2.1 (u1 n.2.2 e)))
   have zQ:Tk J6 Ro:=λb zs e=>s10 _ _ (ZU _ _ (VJ _ _ (Oc _ _ e)))
   have BE:=ZR km
   have vx:=s10 _ _ (u9 _ _ (cD n1) p8)
   have vy:=s10 _ _ (u9 _ _ (cD n2) (u2 (cD Sl) p7))
   refine hQ _ qR qS nW (ys++ [.ref nw]) Ro (λx o n e=>km _ _ n (Ab _ _ e)) ((eV Ab).trans zQ) ⟨s10 _ _ d9,⟨yB,ZT,c2,c3,BE _ _ c2 c5,av c6 λ_ _ z=>z.up zQ,BE _ _ c3 c7,av c8 λ_ _ z=>z.up zQ⟩,vx,av ZS λ_ _ z=>z.kp BE zQ,vy,dU (av O6.Se λ_ _ z=>z.kp BE zQ) (Rn.kp BE zQ)⟩ ⟨z,rfl,Cj⟩
  case' a0|a=>
   refine ite_yes (show HN (.str "again") [.str "back",.str "again"]=true by decide) ?_
   refine⟨dP,λt1 h1=>?_⟩
   exists h1,.tup [.str "past",.str "later"],J2,t1,s3,w3,J3
   refine⟨dP,λt2 h2=>?_⟩
   exists h2,.tup [.str "later",.str "past"],J3,t2,s4,w4,J4
   refine⟨dP,λt3 h3=>?_⟩
   exists h3,.lst [.ref t1,.ref t2],J4,t3,s5,w5,J5
   have DA:=s3.trans (s4.trans s5)
   have xl:=(s1.trans s2).trans DA
   refine⟨_,rfl,t,ts,0,_,rfl,rfl,bZ.of (xl _ _ ht),k0,rfl,.inr ⟨_,rfl,?_⟩⟩
   rw[lH,show decide (Bq .again="again")=true from rfl]
   refine⟨t3,_,1,_,rfl,rfl,cT.of w5,aT (j:=1) rfl,Gf (bZ.of (s5 _ _ w4)) ?_⟩
   have O5:=O2.same DA
   have Rm:=Rl.kp (fX DA) (eV DA)
   have gh:=h_.k (k:=.inr "later") O5.d
   rw[pZ] at gh
   refine⟨_,rfl,_,rfl,ow,.ref ll,rfl,gh,dP,λe he=>?_⟩
   exists he,.lst [],J5,e,s6,w6,J6
   have O6:=O5.same s6
   have Rn:=Rm.kp (fX s6) (eV s6)
   have Ab:=xl.trans s6
   obtain⟨ka,qa⟩:=(fe O6.nY (eO J_ O6.Se)).one
   obtain⟨kb,qb⟩:=(fe w6 dS).one
   refine⟨ka,kb,_,_,qa,qb,E4 Hj,pU,_,rfl,?_⟩
   rw[E5]
  case a0=>
   exact ite_yes rfl (hQ _ _ _ _ _ _ (fX Ab) (eV Ab) O6 rfl)
  case a=>
   refine ite_no ς ?_
   obtain⟨nW,u,eu,ZS,Qv⟩:=fi O6.Se
   have hx:=O6.nY
   rw[eu] at hx
   obtain⟨tp,qR,qS,yB,ZT,rfl,c1,c2,c3,c4,c5,c6,c7,c8⟩:=Qv
   have gt:=h_.k (k:=.inr "past") O6.d
   rw[pH] at gt
   refine⟨_,rfl,_,rfl,ow,.ref pl,rfl,gt,.inl ⟨rfl,_,cT.of O6.ky⟩,_,rfl,pl,xs,.ref nw,rfl,rfl,O6.ky,dD ω,?_⟩
   have u1:∀{z:ai} {o:HO},z≠pl->J6 z=some o->upd J6 pl (.lst (xs++ [.ref nw])) z=some o:=λn e=>by rw[aV n];exact e
   have p7:upd J6 pl (.lst (xs++ [.ref nw])) pl=some (.lst (xs++ [.ref nw])):=aB
   have Oc:Tk J6 (upd J6 pl (.lst (xs++ [.ref nw]))):=λb zs e=>u1 (λz=>by rw[z,O6.ky] at e;cases e) e
   try dsimp only
   generalize upd J6 pl (.lst (xs++ [.ref nw]))=J7 at*
   have d7:=u1 n1 O6.d
   have x7:=u1 (cD Sl) hx
   have VI:=h_.k (k:=.inr "later") d7
   rw[pZ] at VI
   refine⟨_,rfl,_,rfl,ow,.ref ll,rfl,VI,.inl ⟨rfl,_,cT.of x7⟩,ll,_,.ref tp,rfl,rfl,x7,ς,?_⟩
   rw[show(nW++ [V.ref tp]).dropLast=nW by simp]
   have u2:∀{z:ai} {o:HO},z≠ll->J7 z=some o->upd J7 ll (.lst nW) z=some o:=λn e=>by rw[aV n];exact e
   have p8:upd J7 ll (.lst nW) ll=some (.lst nW):=aB
   have VJ:Tk J7 (upd J7 ll (.lst nW)):=λb zs e=>u2 (λz=>by rw[z,x7] at e;cases e) e
   try dsimp only
   generalize upd J7 ll (.lst nW)=J8 at*
   have d8:=u2 n2 d7
   refine⟨tp,_,rfl,bZ.of (VJ _ _ (Oc _ _ c4)),rfl,_,_,rfl,?_⟩
   refine put3 d8 λJ9 d9 u9 ZU=>?_
   refine⟨dP,λz hz=>?_⟩
   exists hz,.tup [V.eK],J9,z,s10,Cj,Ro
   have km:oH [ow,pl,ll] J6 Ro:=λx o n e=>by
    simp only[aD,aN,cy,ux] at n
    exact s10 _ _ (u9 _ _ n.1 (u2 n.2.2 (u1 n.2.1 e)))
   have zQ:Tk J6 Ro:=λb zs e=>s10 _ _ (ZU _ _ (VJ _ _ (Oc _ _ e)))
   have BE:=ZR km
   have vx:=s10 _ _ (u9 _ _ (cD n2) p8)
   have vy:=s10 _ _ (u9 _ _ (cD n1) (u2 (cD (cD Sl)) p7))
   refine hQ _ qR qS (xs++ [.ref nw]) nW Ro (λx o n e=>km _ _ n (Ab _ _ e)) ((eV Ab).trans zQ) ⟨s10 _ _ d9,⟨yB,ZT,c2,c3,BE _ _ c2 c5,av c6 λ_ _ z=>z.up zQ,BE _ _ c3 c7,av c8 λ_ _ z=>z.up zQ⟩,vy,dU (av O6.pp λ_ _ z=>z.kp BE zQ) (Rn.kp BE zQ),vx,av ZS λ_ _ z=>z.kp BE zQ⟩ ⟨z,rfl,Cj⟩
def Kh (P:aM) (w:bB) (K:Φ) (mg:Str->Option ag) (base:Heap) (C:ai):Prop:=∃f fd,dW P w K mg base fT 2 f fd ["self"] (JV C)/\Binds K fd ["self"] []/\yY K C "__len__" f
def GR (D:Kh X.prog X.w X.K X.mg X.base C) (hr:eS 3 X.A):gN X (.builtin "len") (NG C (JV C)):=by
 obtain⟨f,fd,F,b,m⟩:=D
 exact Ge F hr b m
abbrev ZV:Stmt:=top 57
def ZW:bW ["own","club"] ["own","club"] (aw ZV):={}
def Ki (C:ai):Sp:=λvs H Q _=>∃(cb sl lc ow pl ll:ai) (sts:List Cs) (S:Cs) (cG:List Cs) (m:Nat),vs=[.ref ow,.ref cb]/\Wd C H cb sl lc ow pl ll sts S cG/\St S m/\m<=31/\∀H',a_ H H'->Q (.bl true) H'
def VL (F:ji K "_law_stands_right" "_law_stands_right" ZV f fd) (T:Txt mg) (DR:zv P w K mg base 1 C "rowers" ["self"] (wW C)) (DI:zv P w K mg base 1 C "pieces" ["self"] (Bg C)) (DL:Kh P w K mg base C) (DT:zv P w K mg base 5 C "trials" ["self"] (EW C)) (DO:Df P w K mg base 3 "_law_trials_of" ["pieces"] NX):dW P w K mg base fT 6 f fd ["own","club"] (Ki C):=by
 exists F.ok,ZW
 .obtain⟨cb,sl,lc,ow,pl,ll,sts,S,cG,m,rfl,_⟩:=h
  rfl
 .obtain⟨cb,sl,lc,ow,pl,ll,sts,S,cG,m,rfl,W,sS,GQ,hQ⟩:=h
  have hu:=bb (dY (by decide:1<=64) _) hr.units
  have Be:=hr.mono (j:=1) δ
  have hr3:=hr.mono (j:=3) δ
  refine⟨_,au (cQ (PW.pt (k_ (bo (qI hr.units) (pE DR Be (pv 1)) (eM hu (pv 0) aW) (bP _)) (k_ (bo mT (aR (GR DL hr3) rfl T.len bC (ae (pv 1) ah)) (aR bO rfl T.len bC (ae (eM hu (pv 0) aW) ah)) (bP _)) (mf (bo (qI hr.units) (pE DI Be (pv 1)) (eM hu (pv 0) aW) (bP _)))))) (aF (bH nS)) bN)
   (aF (bH (jZ (qH hr.units) (pE DT hr (pv 1)) (cC DO hr3 (ae (eM hu (pv 0) aW) ah)) (bP _)))),?_⟩
  have ok:=sS.ok GQ
  have l8:=sS.lc
  have lr:=sS.lr
  obtain⟨dx,_,_,c1,_⟩:=id W.cl
  obtain⟨ra,pa,vs,ws,O⟩:=W.own
  obtain⟨qO,Ob,_,_,a3,a4,a5,a6⟩:=O.now
  have lw:=bS a4
  have g1:∀{G:Hp},a_ H G->h_ G ow (kV (.inr "rowers")) (some (.ref ra)):=λz=>by
   have:=h_.k (k:=.inr "rowers") (z _ _ O.d)
   rw[zM] at this
   exact this
  have g2:∀{G:Hp},a_ H G->h_ G ow (kV (.inr "pieces")) (some (.ref pa)):=λz=>by
   have:=h_.k (k:=.inr "pieces") (z _ _ O.d)
   rw[xb] at this
   exact this
  refine⟨_,rfl,cb,dx,_,rfl,c1,rfl,cb,sl,lc,S,sts,cG,rfl,W.cl,λl1 u1 Hg p1=>?_⟩
  exists Hg,.lst u1,H,l1,s1,w1,J1
  obtain⟨k1,q1⟩:=(fe w1 (eO qQ (av p1 λ_ _ z=>z.up λb xs e=>s1 _ _ e))).one
  obtain⟨k2,q2⟩:=(fe (s1 _ _ a3) (eO qQ (av a4 λ_ _ z=>z.up λb xs e=>s1 _ _ e))).one
  refine⟨_,rfl,ow,.ref ra,rfl,g1 s1,k1,k2,_,_,q1,q2,ok.QK,ok.QK,_,rfl,?_⟩
  rw[pF zH,aI rfl]
  refine ite_no δ ?_
  refine⟨_,rfl,cb,dx,_,rfl,s1 _ _ c1,cb,sl,lc,S,sts,cG,rfl,W.cl.same s1,λJ2 s2=>⟨S.bx.length,rfl,bb l8 δ,?_⟩⟩
  have ju:=s1.trans s2
  refine⟨_,rfl,ow,.ref ra,rfl,g1 ju,ra,qO,rfl,.inl (cT.of (ju _ _ a3)),rfl,_,rfl,?_⟩
  rw[iw,lw,aI rfl]
  refine ite_no δ ?_
  refine⟨_,rfl,cb,dx,_,rfl,ju _ _ c1,rfl,cb,sl,lc,S,sts,cG,rfl,W.cl.same ju,λl3 u3 GO p3=>?_⟩
  exists GO,.lst u3,J2,l3,s3,w3,J3
  have lR:=ju.trans s3
  obtain⟨k3,q3⟩:=(fe w3 (eO tX (av p3 λ_ _ z=>z.up λb xs e=>s3 _ _ e))).one
  obtain⟨k4,q4⟩:=(fe (lR _ _ a5) (eO tX (av a6 λ_ _ z=>z.up λb xs e=>lR _ _ e))).one
  refine⟨_,rfl,ow,.ref pa,rfl,g2 lR,k3,k4,_,_,q3,q4,ok.layR,ok.layR,_,rfl,?_⟩
  rw[pF JQ,aI rfl]
  refine ite_no δ ?_
  refine⟨_,rfl,cb,dx,_,rfl,lR _ _ c1,rfl,cb,sl,lc,S.rows,S,sts,cG,rfl,W.cl.same lR,rfl,sS.rows,ω,λl5 u5 J5 hl5 s5 h5 p5=>?_⟩
  have xl:=lR.trans s5
  refine⟨_,rfl,ow,.ref pa,rfl,g2 xl,pa,Ob,S.rows,rfl,xl _ _ a5,av a6 λ_ _ z=>z.up λb xs e=>xl _ _ e,sS.rows,ω,λl6 u6 J6 hl6 s6 h6 p6=>?_⟩
  obtain⟨k5,q5⟩:=(fe (s6 _ _ h5) (eO JP (av p5 λ_ _ z=>z.up λb xs e=>s6 _ _ e))).one
  obtain⟨k6,q6⟩:=(fe h6 (eO JP p6)).one
  refine⟨k5,k6,_,_,q5,q6,ok.Vk,ok.Vk,?_⟩
  rw[pF QH,aI rfl]
  exact hQ _ (xl.trans s6)
end
structure zR (K:Φ) (mg:Str->Option ag) (CE C:ai) (nm:Str):Prop where
 kd:Vt K mg C nm
 xm:exmOne K (.ref C) (.ref CE)=some true
 en:nm∈uK
structure VM (K:Φ) (mg:Str->Option ag) (C:ai):Prop where
 at':mg "TooMany"=some (.ref C)
 hd:hasDictIn K C=true
 na:jA K C "many"
def Rp (H:Hp) (p:ai):Str⊕Option Nat->Prop
 | .inl s=>H p=some (.tup [.eK,.str s])
 | .inr r=>∃q,H q=some (.tup [xj r])/\H p=some (.tup [.ref q,.str ""])
def MS:R2:=λx y H Q=>∃i j,x=.str i/\y=.str j/\i.length+j.length<=sizeLine/\Q (.str (i++j)) H
def MT:List V->Hp->VK->Prop:=λxs H Q=>∃i,xs=[.int i]/\i.natAbs.log2<1920/\Q (.str (toString i)) H
def VN (K:Φ) (mg:Str->Option ag) (CM:ai) (a:ai):TS:=vB (sX (lV (QY K mg a) [] E0 (cA (b_ 4) fE)) (dI 3)) (xy (tB (RR (JZ K) (cA (b_ 4) (cA (tC (.ref CM)) fE)))) (sX (gJ MS (b_ 3) (RR MT (cA (NN K (b_ 4) "many") fE))) (dI 3)) Nr)
def mH {CE CM C a:ai} (N:VM K mg CM) (y:zR K mg CE C nm) (ha:H1 a=none)
  (h:(nm≠"TooMany"/\ej=none/\s=Txt.join "" [nm,"+"])\/(nm="TooMany"/\C=CM/\s="TooMany+9"/\∃d,ej=some d/\H1 d=some (.xd [("many",.int 9)])))
  (nx:∀J,a_ H1 J->D.nx [v0,v1,v2,some (.str s),some (.ref a)] J):VN K mg CM a D [v0,v1,v2,v3,some (.ref a)] (upd H1 a (tU a (.ref C) ej)):=by
 exists ha,(tU a (.ref C) ej),H1,a,s2,Gz,J
 obtain⟨C',mc',kc⟩:=y.kd.all "TooMany" (by decide+kernel)
 obtain rfl:C'=CM:=by have:=mc'.symm.trans N.at';injection this with this;injection this
 rcases h with⟨n,rfl,rfl⟩|⟨rfl,ec,rfl,d,rfl,hd⟩
 .refine⟨_,rfl,C,none,[],nm,rfl,Gz,.inl rfl,y.kd,y.en,λJ2 s3=>?_⟩
  refine⟨_,rfl,a,C,none,[],_,_,false,rfl,s3 _ _ Gz,.inl rfl,y.kd.ex,rfl,by rw[kc,bD (cD n)],_,rfl,?_⟩
  exact ite_no δ (nx _ (s2.trans s3))
 .have hd2:=s2 _ _ hd
  refine⟨_,rfl,C,some d,_,"TooMany",rfl,Gz,.inr ⟨d,rfl,hd2⟩,y.kd,y.en,λJ2 s3=>?_⟩
  subst ec
  refine⟨_,rfl,a,C,some d,_,_,_,true,rfl,s3 _ _ Gz,.inr ⟨d,rfl,s3 _ _ hd2⟩,y.kd.ex,rfl,by rw[kc];decide+kernel,true,rfl,?_⟩
  refine ite_yes rfl ?_
  refine⟨_,rfl,_,rfl,a,C,d,_,_,rfl,s3 _ _ Gz,s3 _ _ hd2,y.kd.ex,N.hd,N.na,rfl,_,rfl,by decide+kernel,_,_,rfl,rfl,by decide+kernel,?_⟩
  have e:Txt.join "" ["TooMany","+"]++toString (9:Int)=("TooMany+9":Str):=by decide+kernel
  exact e▸nx _ (s2.trans s3)
section
variable {P:aM}{w:bB}{K:Φ}{mg:Str->Option ag}{base:Heap}
abbrev DB:Stmt:=top 53
abbrev Rq:List Str:=["club","what","told","fault","e"]
def iL:bW Rq ["club","what"] (aw DB):={}
def Fd (C:ai):Sp:=λvs H Q _=>∃(cb sl lc t:ai) (sts:List Cs) (S:Cs) (cG:List Cs) (D:uL) (m:Nat) (o:Str⊕Option Nat) (fN:List Cs) (S':Cs) (fJ:List Cs),vs=[.ref cb,.ref t]/\e_ C H cb sl lc (sts++ [S]) cG/\sts.length<=800/\cG.length<=800/\kz H t D/\St S m/\m<=31/\Bp D sts S cG o fN S' fJ/\
 ∀p iY H',ET cb sl lc H H'->(iY=lc\/H iY=none)->e_ C H' cb sl iY (fN++ [S']) fJ->Rp H' p o->Q (.ref p) H'
def Kj {C CE CR CT CM CA CP CU CL:ai}(F:ji K "_law_tried" "_law_tried" DB f fd) (T:Txt mg) (mr:mg "RowError"=some (.ref CE)) (N:VM K mg CM) (yR:zR K mg CE CR "NoRower") (yT:zR K mg CE CT "Twice") (yM:zR K mg CE CM "TooMany") (yA:zR K mg CE CA "NoName") (yP:zR K mg CE CP "NoPiece") (yU:zR K mg CE CU "NoNumber") (yL:zR K mg CE CL "NothingLeft") (D1:xJ P w K mg base 4 C "come" ["self","rower"] (Du C CR CT CM)) (D2:xJ P w K mg base 2 C "go" ["self","name"] (QB C CA)) (D3:xJ P w K mg base 3 C "weigh" ["self","name","weight"] (zD C CA CR)) (D4:xJ P w K mg base 4 C "tell" ["self","piece"] (Dr C CP)) (D5:xJ P w K mg base 2 C "strike" ["self","number"] (JF C CU)) (D6:xJ P w K mg base 1 C "back" ["self"] (Ds C CL)) (D7:xJ P w K mg base 1 C "again" ["self"] (zx C CL)) (DN:YZ P w K mg base 1 "_law_name_of" ["e"] (QY K mg)):dW P w K mg base fT 5 f fd ["club","what"] (Fd C):=by
 exists F.ok,iL
 .obtain⟨cb,sl,lc,t,sts,S,cG,D,m,o,fN,S',fJ,rfl,_⟩:=h
  rfl
 .obtain⟨cb,sl,lc,t,sts,S,cG,D,m,o,fN,S',fJ,rfl,hC,l1,l2,dA,sS,GQ,sp,hQ⟩:=h
  have Be:=hr.mono (j:=1) δ
  refine⟨_,au (ku (i:=2) iL.nd jg)
   (au (ku (i:=3) iL.nd aW)
   (au (Gr (i:=4) (C:=CE) (tb:=λW=>(xy (gw (gJ Hb (gJ (gj K) (b_ 1) (tC (.int 0))) (tC (.str "come")))) (sX (oU (cA (nN C "come" (Du C CR CT CM) W (b_ 0) (cA (gJ (gj K) (b_ 1) (tC (.int 1))) fE)) fE)) (dI 2)) (xy (gw (gJ Hb (gJ (gj K) (b_ 1) (tC (.int 0))) (tC (.str "go")))) (sX (oU (cA (nN C "go" (QB C CA) W (b_ 0) (cA (gJ (gj K) (b_ 1) (tC (.int 1))) fE)) fE)) (dI 2)) (xy (gw (gJ Hb (gJ (gj K) (b_ 1) (tC (.int 0))) (tC (.str "weigh")))) (sX (oU (cA (nN C "weigh" (zD C CA CR) W (b_ 0) (cA (gJ (gj K) (b_ 1) (tC (.int 1))) (cA (gJ (gj K) (b_ 1) (tC (.int 2))) fE))) fE)) (dI 2)) (xy (gw (gJ Hb (gJ (gj K) (b_ 1) (tC (.int 0))) (tC (.str "tell")))) (sX (oU (cA (nN C "tell" (Dr C CP) W (b_ 0) (cA (gJ (gj K) (b_ 1) (tC (.int 1))) fE)) fE)) (dI 2)) (xy (gw (gJ Hb (gJ (gj K) (b_ 1) (tC (.int 0))) (tC (.str "strike")))) (sX (oU (cA (nN C "strike" (JF C CU) W (b_ 0) (cA (gJ (gj K) (b_ 1) (tC (.int 1))) fE)) fE)) (dI 2)) (xy (gw (gJ Hb (gJ (gj K) (b_ 1) (tC (.int 0))) (tC (.str "back")))) (sX (oU (cA (nN C "back" (Ds C CL) W (b_ 0) fE) fE)) (dI 2)) (sX (oU (cA (nN C "again" (zx C CL) W (b_ 0) fE) fE)) (dI 2))))))))) (ts:=λa=>VN K mg CM a) rfl rfl rfl iL.nd rfl rfl rfl mr
    (λac W=>(aF (cQ (bo ie (bg bw (pv 1) ao) aW (bP _)) (aF (ku (i:=2) iL.nd (bQ (ae (wR D1 (hr.mono δ) ph (pv 0) (ae (bg bw (pv 1) ao) ah)) ah)))) (aF (cQ (bo ie (bg bw (pv 1) ao) aW (bP _)) (aF (ku (i:=2) iL.nd (bQ (ae (wR D2 (hr.mono δ) ph (pv 0) (ae (bg bw (pv 1) ao) ah)) ah)))) (aF (cQ (bo ie (bg bw (pv 1) ao) aW (bP _)) (aF (ku (i:=2) iL.nd (bQ (ae (wR D3 (hr.mono δ) ph (pv 0) (ae (bg bw (pv 1) ao) (ae (bg bw (pv 1) ao) ah))) ah)))) (aF (cQ (bo ie (bg bw (pv 1) ao) aW (bP _)) (aF (ku (i:=2) iL.nd (bQ (ae (wR D4 (hr.mono δ) ph (pv 0) (ae (bg bw (pv 1) ao) ah)) ah)))) (aF (cQ (bo ie (bg bw (pv 1) ao) aW (bP _)) (aF (ku (i:=2) iL.nd (bQ (ae (wR D5 (hr.mono δ) ph (pv 0) (ae (bg bw (pv 1) ao) ah)) ah)))) (aF (cQ (bo ie (bg bw (pv 1) ao) aW (bP _)) (aF (ku (i:=2) iL.nd (bQ (ae (ER D6 (hr.mono δ) ph (pv 0)) ah)))) (aF (ku (i:=2) iL.nd (bQ (ae (ER D7 (hr.mono δ) ph (pv 0)) ah)))))))))))))))))
    (λa=>au (ku (i:=3) iL.nd (Qb DN (qr.of Be) (ae (pv 4) ah)))
     (aF (cQ (fM (aR fw rfl T.tO aE (ae (pv 4) (ae (fY (v:=.ref CM) rfl N.at' rfl) ah)))) (aF (ku (i:=3) iL.nd (bT B5 (pv 3) (fK yX rfl T.str gM (ae (Mb (pv 4) rfl) ah))))) bN))))
   (aF (bH (bQ (ae (pv 2) (ae (pv 3) ah))))))),?_⟩
  obtain⟨dx,vs0,qO,c1,_⟩:=id hC
  have l8:=sS.lc
  have lr:=sS.lr
  cases sp
  case no s1 l=>
   have nt:∀{G:Hp} {p:ai},a_ H G->G p=none->Q (.ref p) (upd G p (.tup [.eK,.str s1])):=λsG hp=>hQ _ lc _ (λb o _ _ _ e=>aP hp _ b o (sG b o e)) (.inl rfl) (hC.same (sG.trans (aP hp _))) aB
   cases l
   case' c1 c|t1 c=>
    obtain⟨v,ht,fr,AG,_⟩:=dA
    obtain⟨kk,tl⟩:=fr.one
   case c1=>
    refine gU rfl ht rfl ?_
    refine⟨_,rfl,cb,dx,_,rfl,c1,rfl,iB rfl (bZ.of ht) rfl ⟨cb,sl,lc,kk,_,_,S,sts,cG,rfl,hC,ω,ω,tl,AG,?_⟩⟩
    exact .inl ⟨c,λJ sJ=>⟨yR.xm,λa ha=>mH N yR ha (.inl ⟨by decide+kernel,rfl,by decide+kernel⟩) λJ2 s2=>⟨_,rfl,_,rfl,dP,λp hp=>nt (sJ.trans s2) hp⟩⟩⟩
   case t1=>
    repeat refine jI rfl ht rfl rfl ?_
    refine gU rfl ht rfl ?_
    refine⟨_,rfl,cb,dx,_,rfl,c1,rfl,iB rfl (bZ.of ht) rfl ⟨cb,sl,lc,kk,_,_,S,sts,cG,rfl,hC,ω,ω,tl,AG,?_⟩⟩
    exact .inl ⟨c,λJ sJ=>⟨yP.xm,λa ha=>mH N yP ha (.inl ⟨by decide+kernel,rfl,by decide+kernel⟩) λJ2 s2=>⟨_,rfl,_,rfl,dP,λp hp=>nt (sJ.trans s2) hp⟩⟩⟩
   case' c2 c n|c3 c n e8=>
    obtain⟨a,ht,ha,⟨kk,tl⟩,AG⟩:=zP dA c
    refine gU rfl ht rfl ?_
    refine⟨_,rfl,cb,dx,_,rfl,c1,rfl,iB rfl (bZ.of ht) rfl ⟨cb,sl,lc,kk,_,_,S,sts,cG,rfl,hC,ω,ω,tl,AG,?_⟩⟩
   case c2=>
    exact .inr (.inl ⟨a,_,rfl,rfl,c,ha,n,λJ sJ=>⟨yT.xm,λa ha=>mH N yT ha (.inl ⟨by decide+kernel,rfl,by decide+kernel⟩) λJ2 s2=>⟨_,rfl,_,rfl,dP,λp hp=>nt (sJ.trans s2) hp⟩⟩⟩)
   case c3=>
    exact .inr (.inr (.inl ⟨a,_,rfl,rfl,c,ha,n,e8,λdd J sJ _ Ya=>⟨yM.xm,λa ha=>mH N yM ha (.inr ⟨rfl,rfl,rfl,dd,rfl,Ya⟩) λJ2 s2=>⟨_,rfl,_,rfl,dP,λp hp=>nt (sJ.trans s2) hp⟩⟩⟩))
   case' g1 n|s1 h=>
    obtain⟨ht,_⟩:=dA
   case g1=>
    refine jI rfl ht rfl rfl ?_
    refine gU rfl ht rfl ?_
    refine⟨_,rfl,cb,dx,_,rfl,c1,rfl,iB rfl (bZ.of ht) rfl ⟨cb,sl,lc,_,S,sts,cG,rfl,hC,ω,ω,?_⟩⟩
    exact .inl ⟨n,λJ sJ=>⟨yA.xm,λa ha=>mH N yA ha (.inl ⟨by decide+kernel,rfl,by decide+kernel⟩) λJ2 s2=>⟨_,rfl,_,rfl,dP,λp hp=>nt (sJ.trans s2) hp⟩⟩⟩
   case s1=>
    repeat refine jI rfl ht rfl rfl ?_
    refine gU rfl ht rfl ?_
    refine⟨_,rfl,cb,dx,_,rfl,c1,rfl,iB rfl (bZ.of ht) rfl ⟨cb,sl,lc,_,S,sts,cG,rfl,hC,ω,ω,?_⟩⟩
    exact .inl ⟨h,λJ sJ=>⟨yU.xm,λa ha=>mH N yU ha (.inl ⟨by decide+kernel,rfl,by decide+kernel⟩) λJ2 s2=>⟨_,rfl,_,rfl,dP,λp hp=>nt (sJ.trans s2) hp⟩⟩⟩
   case' w1 n|w2 n pz=>
    obtain⟨v,ht,_,fr,fb,wv⟩:=dA
    obtain⟨kk,tl⟩:=fr.one
    have AG:rL _:=fb.mono δ δ
    repeat refine jI rfl ht rfl rfl ?_
    refine gU rfl ht rfl ?_
    refine⟨_,rfl,cb,dx,_,rfl,c1,rfl,iB rfl (bZ.of ht) rfl (iB rfl (bZ.of ht) rfl ⟨cb,sl,lc,kk,_,_,_,S,sts,cG,rfl,hC,ω,ω,tl,AG,?_⟩)⟩
   case w1=>
    exact .inl ⟨n,λJ sJ=>⟨yA.xm,λa ha=>mH N yA ha (.inl ⟨by decide+kernel,rfl,by decide+kernel⟩) λJ2 s2=>⟨_,rfl,_,rfl,dP,λp hp=>nt (sJ.trans s2) hp⟩⟩⟩
   case w2=>
    exact .inr (.inl ⟨n,pz,λJ sJ=>⟨yR.xm,λa ha=>mH N yR ha (.inl ⟨by decide+kernel,rfl,by decide+kernel⟩) λJ2 s2=>⟨_,rfl,_,rfl,dP,λp hp=>nt (sJ.trans s2) hp⟩⟩⟩)
  case st r1 l=>
   have yt:∀{J iY q p},ET cb sl lc H J->H iY=none->e_ C J cb sl iY _ []->J q=none->upd J q (.tup [xj r1]) p=none->Q (.ref p) (upd (upd J q (.tup [xj r1])) p (.tup [.ref q,.str ""])):=λk2 f2 g2 hq hp=>hQ _ _ _ (λb o n1 n2 n3 e=>aP hp _ b o (aP hq _ b o (k2 b o n1 n2 n3 e))) (.inr f2) ((g2.same (aP hq _)).same (aP hp _)) ⟨_,aP hp _ _ _ aB,aB⟩
   cases l with
   |c4 c n e7 g=>
    obtain⟨a,ht,ha,⟨kk,tl⟩,AG⟩:=zP dA c
    refine gU rfl ht rfl ?_
    refine⟨_,rfl,cb,dx,_,rfl,c1,rfl,iB rfl (bZ.of ht) rfl ⟨cb,sl,lc,kk,_,_,S,sts,cG,rfl,hC,ω,ω,tl,AG,?_⟩⟩
    exact .inr (.inr (.inr ⟨a,_,rfl,rfl,c,ha,n,e7,λiY J2 k2 f2 g2=>⟨dP,λq hq=>⟨_,rfl,_,rfl,dP,λp hp=>yt k2 f2 g2 hq hp⟩⟩⟩))
   |g2 n=>
    obtain⟨ht,_⟩:=dA
    refine jI rfl ht rfl rfl ?_
    refine gU rfl ht rfl ?_
    refine⟨_,rfl,cb,dx,_,rfl,c1,rfl,iB rfl (bZ.of ht) rfl ⟨cb,sl,lc,_,S,sts,cG,rfl,hC,ω,ω,?_⟩⟩
    exact .inr ⟨n,λiY J2 k2 f2 g2=>⟨dP,λq hq=>⟨_,rfl,_,rfl,dP,λp hp=>yt k2 f2 g2 hq hp⟩⟩⟩
   |w3 n i1 i2=>
    obtain⟨v,ht,_,fr,fb,wv⟩:=dA
    obtain⟨kk,tl⟩:=fr.one
    have AG:rL _:=fb.mono δ δ
    obtain rfl:=Ke fr
    repeat refine jI rfl ht rfl rfl ?_
    refine gU rfl ht rfl ?_
    refine⟨_,rfl,cb,dx,_,rfl,c1,rfl,iB rfl (bZ.of ht) rfl (iB rfl (bZ.of ht) rfl ⟨cb,sl,lc,kk,_,_,_,S,sts,cG,rfl,hC,ω,ω,tl,AG,?_⟩)⟩
    exact .inr (.inr ⟨n,(N4 i1 i2).2,_,rfl,λiY J2 k2 f2 g2=>⟨dP,λq hq=>⟨_,rfl,_,rfl,dP,λp hp=>yt k2 f2 g2 hq hp⟩⟩⟩)
   |t2 oc cc=>
    obtain⟨r,ht,Jl,⟨kk,tl⟩,AG⟩:=E8 dA oc cc
    repeat refine jI rfl ht rfl rfl ?_
    refine gU rfl ht rfl ?_
    refine⟨_,rfl,cb,dx,_,rfl,c1,rfl,iB rfl (bZ.of ht) rfl ⟨cb,sl,lc,kk,_,_,S,sts,cG,rfl,hC,ω,ω,tl,AG,?_⟩⟩
    exact .inr ⟨r,_,rfl,rfl,Jl,oc,cc,λiY J2 k2 f2 g2=>⟨dP,λq hq=>⟨_,rfl,_,rfl,dP,λp hp=>yt k2 f2 g2 hq hp⟩⟩⟩
   |s2 h=>
    obtain⟨ht,_⟩:=dA
    repeat refine jI rfl ht rfl rfl ?_
    refine gU rfl ht rfl ?_
    refine⟨_,rfl,cb,dx,_,rfl,c1,rfl,iB rfl (bZ.of ht) rfl ⟨cb,sl,lc,_,S,sts,cG,rfl,hC,ω,ω,?_⟩⟩
    exact .inr ⟨h,λiY J2 k2 f2 g2=>⟨dP,λq hq=>⟨_,rfl,_,rfl,dP,λp hp=>yt k2 f2 g2 hq hp⟩⟩⟩
  case' b0|b=>
   have ht:H t=some (.tup [.str "back"]):=dA
   repeat refine jI rfl ht rfl rfl ?_
   refine gU rfl ht rfl ?_
   refine⟨_,rfl,cb,dx,_,rfl,c1,rfl,cb,sl,lc,S,_,cG,rfl,hC,ω,ω,?_⟩
  case b0=>
   exact .inl ⟨rfl,⟨yL.xm,λa ha=>mH N yL ha (.inl ⟨by decide+kernel,rfl,by decide+kernel⟩) λJ2 s2=>⟨_,rfl,_,rfl,dP,λp hp=>hQ p lc _ (λb o _ _ _ e=>(s2.trans (aP hp _)) b o e) (.inl rfl) (hC.same (s2.trans (aP hp _))) aB⟩⟩⟩
  case b=>
   exact .inr ⟨ς,λJ2 k2 g2=>⟨dP,λq hq=>⟨_,rfl,_,rfl,dP,λp hp=>hQ p lc _ (λb o n1 n2 n3 e=>aP hp _ b o (aP hq _ b o (k2 b o n1 n2 n3 e))) (.inl rfl) ((g2.same (aP hq _)).same (aP hp _)) ⟨q,aP hp _ _ _ aB,aB⟩⟩⟩⟩
  case' a0|a=>
   have ht:H t=some (.tup [.str "again"]):=dA
   repeat refine jI rfl ht rfl rfl ?_
   refine⟨_,rfl,cb,dx,_,rfl,c1,rfl,cb,sl,lc,sts++ [S],_,rfl,hC,by rw[aK,aJ];omega,ω,?_⟩
  case a0=>
   exact .inl ⟨rfl,⟨yL.xm,λa ha=>mH N yL ha (.inl ⟨by decide+kernel,rfl,by decide+kernel⟩) λJ2 s2=>⟨_,rfl,_,rfl,dP,λp hp=>hQ p lc _ (λb o _ _ _ e=>(s2.trans (aP hp _)) b o e) (.inl rfl) (hC.same (s2.trans (aP hp _))) aB⟩⟩⟩
  case a=>
   exact .inr ⟨_,_,rfl,λJ2 k2 g2=>⟨dP,λq hq=>⟨_,rfl,_,rfl,dP,λp hp=>hQ p lc _ (λb o n1 n2 n3 e=>aP hp _ b o (aP hq _ b o (k2 b o n1 n2 n3 e))) (.inl rfl) ((g2.same (aP hq _)).same (aP hp _)) ⟨q,aP hp _ _ _ aB,aB⟩⟩⟩⟩
end
def kI (mu:List ai) (H:Hp) (t:ai) (D:uL):Prop:=∀H1,oH mu H H1->Tk H H1->kz H1 t D
def oH.mono (h:oH mu H H') (s:∀x∈mu,x∈mu'):oH mu' H H':=λx o n e=>h x o (λz=>n (s x z)) e
section
variable {C:ai}{H H' H1 H2:Hp}{cb sl lc ow pl ll:ai}{sts:List Cs}{S S':Cs}{cG:List Cs}
def Wd.Kk (W:Wd C H cb sl lc ow pl ll sts S cG):∀x∈[ow,pl,ll,cb,sl,lc],∃o,H x=some o:=by
 intro x hx
 obtain⟨ra,pa,vs,ws,O⟩:=W.own
 obtain⟨⟨_,_,a1⟩,⟨_,a2⟩,⟨_,a3⟩⟩:=W.cl.kinds
 simp only[aD,aN,cy] at hx
 rcases hx with rfl|rfl|rfl|rfl|rfl|rfl
 .exact⟨_,O.d⟩
 .exact⟨_,O.ky⟩
 .exact⟨_,O.nY⟩
 .exact⟨_,a1⟩
 .exact⟨_,a2⟩
 .exact⟨_,a3⟩
def e_.kpm (h:e_ C H cb sl lc sts cG) (k:oH mu H H') (tk:Tk H H') (n1:cb∉mu) (n2:sl∉mu) (n3:lc∉mu):e_ C H' cb sl lc sts cG:=by
 obtain⟨dx,vs,ws,c1,c2,c3,c4,c5,c6,c7,c8⟩:=h
 exact⟨dx,vs,ws,k _ _ n1 c1,c2,c3,c4,k _ _ n2 c5,k _ _ n3 c6,av c7 λ_ _ z=>z.up tk,av c8 λ_ _ z=>z.up tk⟩
end
def Bp.num (h:Bp D sts S cG (.inr (some n)) fN S' fJ):n=S.n:=by
 cases h with
 |st l=>cases l;rfl
def xk:Option Nat->PyData
 |none=>.none
 |some n=>.int n
def zS (r:Option Nat):rg H (xk r) (xj r):=by
 cases r with
 |none=>exact rZ
 |some n=>exact eg _
section
variable {P:aM}{w:bB}{K:Φ}{mg:Str->Option ag}{base:Heap}
abbrev ZX:Stmt:=top 54
def MU:bW ["own","club","what","due","told","fault"] ["own","club","what"] (aw ZX):={}
def MV (C:ai):Sp:=λvs H Q _=>∃(cb sl lc ow pl ll t:ai) (mu:List ai) (sts:List Cs) (S:Cs) (cG:List Cs) (D:uL) (m:Nat) (o:Str⊕Option Nat) (fN:List Cs) (S':Cs) (fJ:List Cs),vs=[.ref ow,.ref cb,.ref t]/\Wd C H cb sl lc ow pl ll sts S cG/\(∀T∈sts,Q4 T)/\(∀T∈cG,Q4 T)/\sts.length<=800/\cG.length<=800/\kI mu H t D/\(∀x∈[ow,pl,ll],x∈mu)/\St S m/\m<=31/\Bp D sts S cG o fN S' fJ/\
 ∀iY H',oH [ow,pl,ll,cb,sl,lc] H H'->Tk H H'->(iY=lc\/H iY=none)->Wd C H' cb sl iY ow pl ll fN S' fJ->Q (.bl true) H'
def VO (F:ji K "_law_deed_right" "_law_deed_right" ZX f fd) (T:Txt mg) (DD:Df P w K mg base 5 "_law_due" ["own","what"] Oa) (DT:Df P w K mg base 5 "_law_tried" ["club","what"] (Fd C)):dW P w K mg base fT 6 f fd ["own","club","what"] (MV C):=by
 exists F.ok,MU
 .obtain⟨cb,sl,lc,ow,pl,ll,t,mu,sts,S,cG,D,m,o,fN,S',fJ,rfl,_⟩:=h
  rfl
 .obtain⟨cb,sl,lc,ow,pl,ll,t,mu,sts,S,cG,D,m,o,fN,S',fJ,rfl,W,Hi,Hj,l1,l2,dK,VH,sS,GQ,sp,hQ⟩:=h
  refine⟨_,au (ku (i:=3) MU.nd (cC DD hr (ae (pv 0) (ae (pv 2) ah))))
   (au (iQ (cC DT hr (ae (pv 1) (ae (pv 2) ah))) (gg rfl (bz (aZ (i:=4) MU.nd) (bz (aZ (i:=5) MU.nd) eZ))))
   (au (cQ (fM (aR fL rfl T.tO aE (ae (pv 3) (ae (gQ (v:=.ty "str") rfl T.str gM rfl) ah)))) (aF (bH (jR (jZ OO (pv 4) jg (bP _)) (mh (jZ ie (pv 5) (pv 3) (bP _)))))) bN)
   (aF (bH (jR (jZ ie (pv 5) aW (bP _)) (jR (jZ (qH hr.units) (pv 4) (pv 3) (bP _)) (mh (BX (aR fL rfl T.tO aE (ae (bg bw (pv 4) ao) (ae (gQ (v:=.ty "bool") rfl T.bool uv rfl) ah))))))))))),?_⟩
  obtain⟨ra,pa,xs,ys,O⟩:=W.own
  obtain⟨⟨_,_,j1⟩,⟨_,j2⟩,⟨_,j3⟩⟩:=W.cl.kinds
  have n1:cb∉ [ow,pl,ll]:=by
   simp only[aD,aN,cy,ux]
   exact⟨λz=>(by rw[z,O.d] at j1;cases j1),va j1 O.ky,va j1 O.nY⟩
  have n2:sl∉ [ow,pl,ll]:=by
   simp only[aD,aN,cy,ux]
   exact⟨(lI O.d j2).symm,cD W.Sf,cD W.Sh⟩
  have n3:lc∉ [ow,pl,ll]:=by
   simp only[aD,aN,cy,ux]
   exact⟨(lI O.d j3).symm,cD W.Sg,cD W.Si⟩
  refine⟨_,rfl,_,rfl,[ow,pl,ll,cb,sl,lc],ow,t,ra,pa,pl,ll,xs,ys,sts,S,cG,D,m,o,fN,S',fJ,rfl,O,W.ZA,ς,ς,ς,W.Kk,Hi,Hj,l1,l2,dK H oH.refl (λ_ _ e=>e),sS,GQ,sp,λv qR qS ZO ZP H1 k1 t1 O1 du=>?_⟩
  have g1:=W.cl.kpm k1 t1 n1 n2 n3
  refine⟨_,rfl,_,rfl,cb,sl,lc,t,sts,S,cG,D,m,o,fN,S',fJ,rfl,g1,l1,l2,dK H1 (k1.mono VH) t1,sS,GQ,sp,λp iY H2 k2 f2 g2 to=>?_⟩
  have t2:=g1.nz k2
  have O2:=O1.ZC g1 k2 f2 W.Sf W.Sg W.Sh W.Si
  have f0:iY=lc\/H iY=none:=f2.imp id λz=>by
   cases e:H iY with
   |none=>rfl
   |some o1=>
    by_cases y:iY∈[ow,pl,ll]
    .simp only[aD,aN,cy] at y
     rcases y with y|y|y
     .rw[y,O1.d] at z;cases z
     .rw[y,O1.ky] at z;cases z
     .rw[y,O1.nY] at z;cases z
    .rw[k1 _ _ y e] at z;cases z
  have np:pl≠iY/\ll≠iY:=by
   rcases f2 with z|z
   .rw[z];exact⟨W.Sg,W.Si⟩
   .exact⟨λy=>(by rw[<-y,O1.ky] at z;cases z),λy=>(by rw[<-y,O1.nY] at z;cases z)⟩
  have fin:∀{J:Hp},a_ H2 J->Q (.bl true) J:=λ{J} sJ=>hQ iY J (λx o n e=>sJ _ _ (by
    have n':=n
    simp only[aD,aN,cy,ux] at n'
    exact k2 _ _ n'.2.2.2.1 n'.2.2.2.2.1 n'.2.2.2.2.2 (k1 _ _ (by simp only[aD,aN,cy,ux];exact⟨n'.1,n'.2.1,n'.2.2.1⟩) e))) (t1.trans (t2.trans (eV sJ))) f0 (Wd.same ⟨g2,⟨qR,qS,ZO,ZP,O2⟩,W.ZA,W.Sf,np.1,W.Sh,np.2⟩ sJ)
  cases o with
  |inl s=>
   obtain rfl:v=.str s:=du
   have ZY:H2 p=some (.tup [.eK,.str s]):=to
   refine Gf (bZ.of ZY) ?_
   refine⟨_,rfl,0,_,_,.str s,rfl,ff.mpr rfl,.inr (.inr (.inl rfl)),_,rfl,?_⟩
   refine ite_yes rfl ?_
   refine⟨_,rfl,rfl,_,rfl,?_⟩
   refine ite_yes δ ?_
   refine⟨_,rfl,_,rfl,rfl,?_⟩
   rw[lH,aI rfl]
   exact fin (a_.refl _)
  |inr r=>
   obtain⟨q1,rfl,AB⟩:=du
   obtain⟨q2,z_,ZY⟩:=to
   have ZZ:=t2 _ _ AB
   obtain⟨k3,e3⟩:=(fZ (ds:=[xk r]) ZZ (aU (zS r) dS)).one
   obtain⟨k4,e4⟩:=(fZ (ds:=[xk r]) z_ (aU (zS r) dS)).one
   obtain⟨k5,e5⟩:=(zS (H:=H2) r).one
   have ly:Lay (.tuple [xk r]):=by
    cases r with
    |none=>exact⟨by simp[xk,PyData.canLay0,PyData.canLayAll0],by simp[xk,PyData.depth,PyData.depthAll]⟩
    |some n=>
     have:=sp.num
     have:=sS.n
     refine(Bd.tuple (n:=1) (p:=0) (m:=1) (ds:=[.int n]) (λx hx=>?_) (ar 1)).lay δ
     rw[bV.mp hx]
     exact iS ω
   refine Gf (bZ.of ZY) ?_
   refine⟨_,rfl,k3,_,_,_,rfl,e3,.inr (.inr (.inl rfl)),_,rfl,?_⟩
   refine ite_no (λz=>Bool.noConfusion (show false=true from z)) ?_
   refine⟨_,rfl,rfl,_,rfl,?_⟩
   refine ite_yes δ ?_
   refine⟨_,rfl,_,rfl,k4,k3,_,_,e4,e3,ly,ly,_,rfl,?_⟩
   have ee:PyData.eqv (.tuple [xk r]) (.tuple [xk r])=true:=by
    cases r with
    |none=>rfl
    |some n=>simp[PyData.eqv,PyData.eqvAll,xk]
   refine ite_yes ee ?_
   refine iB rfl (bZ.of z_) rfl ⟨k5,_,_,xk r,rfl,e5,.inr (.inl rfl),_,rfl,?_⟩
   rw[show zZ (xk r) "bool"=false by cases r<;>rfl]
   exact fin (a_.refl _)
end
def MW (ra pa:ai) (n:Int) (pl ll:ai):qK [] (jm ra pa n pl ll)=jm ra pa n pl ll:=by unfold qK jm;rfl
def gW {H:Hp} (e:H x=some o) (h:H y=none):x≠y:=λz=>by rw[z,h] at e;cases e
section
variable {P:aM}{w:bB}{K:Φ}{mg:Str->Option ag}{base:Heap}
abbrev sf:Stmt:=top 49
def VP:bW [] [] (aw sf):={}
structure Z0 (H H':Hp) (ow ra pa pl ll:ai):Prop where
 s:a_ H H'
 d:H' ow=some (.dK (jm ra pa 0 pl ll))
 Fc:H' ra=some (.lst [])
 xn:H' pa=some (.lst [])
 ky:H' pl=some (.lst [])
 nY:H' ll=some (.lst [])
 no:H ow=none/\H ra=none/\H pa=none/\H pl=none/\H ll=none
 ne:pl≠ll/\ra≠pl/\ra≠ll/\pa≠pl/\pa≠ll
def Kl:Sp:=λvs H Q _=>vs=[]/\∀ow ra pa pl ll H',Z0 H H' ow ra pa pl ll->Q (.ref ow) H'
def Rr (F:ji K "_law_club" "_law_club" sf f fd):dW P w K mg base fT 1 f fd [] Kl:=by
 exists F.ok,VP
 .obtain⟨rfl,_⟩:=h
  rfl
 .obtain⟨rfl,hQ⟩:=h
  obtain⟨p1,p2,k1,k2,k3,k4,k5,u1,u2,u3,u4,u5,eb,e1,g1,e2,g2,e3,g3,e4,g4,e5,g5⟩:∃p1 p2 k1 k2 k3 k4 k5 u1 u2 u3 u4 u5,fC sf=[.Return (some (.Dict [some k1,some k2,some k3,some k4,some k5] [u1,u2,u3,u4,u5] p2)) p1]/\PE (eY fT P w K mg base [] "_law_club" (aw sf) f cdv A outer s H E).lg k1 (tC (.str "rowers"))/\PE (eY fT P w K mg base [] "_law_club" (aw sf) f cdv A outer s H E).lg u1 (xA fE)/\PE (eY fT P w K mg base [] "_law_club" (aw sf) f cdv A outer s H E).lg k2 (tC (.str "pieces"))/\PE (eY fT P w K mg base [] "_law_club" (aw sf) f cdv A outer s H E).lg u2 (xA fE)/\PE (eY fT P w K mg base [] "_law_club" (aw sf) f cdv A outer s H E).lg k3 (tC (.str "count"))/\PE (eY fT P w K mg base [] "_law_club" (aw sf) f cdv A outer s H E).lg u3 (tC (.int 0))/\PE (eY fT P w K mg base [] "_law_club" (aw sf) f cdv A outer s H E).lg k4 (tC (.str "past"))/\PE (eY fT P w K mg base [] "_law_club" (aw sf) f cdv A outer s H E).lg u4 (xA fE)/\PE (eY fT P w K mg base [] "_law_club" (aw sf) f cdv A outer s H E).lg k5 (tC (.str "later"))/\PE (eY fT P w K mg base [] "_law_club" (aw sf) f cdv A outer s H E).lg u5 (xA fE):=⟨_,_,_,_,_,_,_,_,_,_,_,_,rfl,aW,cX ah,aW,cX ah,aW,ao,aW,cX ah,aW,cX ah⟩
  rw[eb]
  refine⟨_,aF (bH (Ly (oZ e1 g1 (oZ e2 g2 (oZ e3 g3 (oZ e4 g4 (oZ e5 g5 Lx))))) rfl rfl (by intro z;cases z) (by show 5<=15;decide))),?_⟩
  intro ow how
  exists how,.dK [],H,ow,s1,w1,H1
  refine⟨dP,λa ha=>?_⟩
  exists ha,.lst [],H1,a,s2,w2,H2
  refine⟨dP,λb hb=>?_⟩
  exists hb,.lst [],H2,b,s3,w3,H3
  refine⟨dP,λpl ky=>?_⟩
  exists ky,.lst [],H3,pl,s4,w4,H4
  refine⟨dP,λll nY=>?_⟩
  exists nY,.lst [],H4,ll,s5,w5,H5
  have DA:=s2.trans (s3.trans (s4.trans s5))
  refine⟨DA _ _ w1,jm a b 0 pl ll,rfl,by show 5<=15;decide,?_⟩
  rw[MW]
  have F1:∀{x:ai} {o:HO},H x=some o->x≠ow:=λe=>gW e how
  have ow5:=DA _ _ w1
  have u:∀{x:ai} {vs:List V},H5 x=some (.lst vs)->upd H5 ow (.dK (jm a b 0 pl ll)) x=some (.lst vs):=λ{x vs} e=>by rw[aV (λz=>by rw[z,ow5] at e;cases e)];exact e
  have a4:=(s3.trans s4) _ _ w2
  have b4:=s4 _ _ w3
  have nn:∀{G:Hp} {x:ai},a_ H G->G x=none->H x=none:=λsG e=>cK sG e
  exact hQ ow a b pl ll _ ⟨λx o e=>by rw[aV (F1 e)];exact(s1.trans DA) _ _ e,aB,u (s5 _ _ a4),u (s5 _ _ b4),u (s5 _ _ w4),u w5,⟨how,nn s1 ha,nn (s1.trans s2) hb,nn (s1.trans (s2.trans s3)) ky,nn (s1.trans (s2.trans (s3.trans s4))) nY⟩,⟨gW w4 nY,gW (s3 _ _ w2) ky,gW a4 nY,gW w3 ky,gW b4 nY⟩⟩
end
def Km:eW (.tuple [a,b])=false:=rfl
def Kn:eW (.tuple [.str x,.str "Both",d])=false:=by
 show(fA (.str x)&&(gT (.str "Both")&&eQ d))=false
 rw[show gT (.str "Both")=false by decide+kernel,bj,fg]
def Ko:eW (.tuple [.str x,.str y,.int 0])=false:=by
 show(fA (.str x)&&(gT (.str y)&&eQ (.int 0)))=false
 rw[show eQ (.int 0)=false by decide+kernel,fg,fg]
def DG:eW (.tuple [.str "",.str y,d])=false:=by
 show(fA (.str "")&&(gT (.str y)&&eQ d))=false
 rw[show fA (.str "")=false by decide+kernel,bj]
def Kp:eW (.list ds)=false:=rfl
def GS:gG (.list ds)=false:=rfl
def VQ:gG (.tuple [a,b,c,d])=false:=rfl
def VR:gG (.tuple [a,b,c,d,e,f])=false:=rfl
def GU:gG (.tuple [.int i,b,c,d,e])=false:=by
 simp[gG,ke]
def GV:gG (.tuple [a,b,.int 0,d,e])=false:=by
 simp[gG,show jP (.int 0)=false by decide+kernel]
end K12
namespace L2
open PySem
def strOf:Expr->Option Str
 | .Constant (.str x) _ _=>some x
 |_=>none
def VS (ss:List Str):TA:=λ_ H Q=>Q (ss.map V.str) H
def vd:∀{es:List Expr}{ss:List Str},es.map strOf=ss.map some->PA X es (VS ss)
 | [],[],_=>ah
 |e::es,x::ss,h=>by
  rw[bK,bK,Hr] at h
  have ih:=vd (X:=X) h.2
  have h1:=h.1
  unfold strOf at h1
  split at h1
  .cases h1
   exact ae aW ih
  .cases h1
 | [],_::_,h=>by cases h
 |_::_,[],h=>by cases h
end L2
namespace K12
open PySem L2 HT PySem.W
abbrev gs:Stmt:=top 55
abbrev kf:List Str:=["deck","own","way","names","name","rower","bad","pieces","piece","numbers"]
def lS (i:Nat):Stmt:=(fC gs).getD i (.Pass ⟨0,0,0,0⟩)
def Rt:fC gs=[lS 0,lS 1,lS 2,lS 3,lS 4,lS 5,lS 6,lS 7,lS 8,lS 9]:=rfl
def lJ:bW kf ["deck","own"] (aw gs):={}
def Ru (mu:List ai) (H:Hp) (d:PyData) (v:V):Prop:=∀H1,oH mu H H1->Tk H H1->rg H1 d v
def DH (p:PyData->Bool) (mu:List ai) (H:Hp) (v:V):Prop:=∃d,Ru mu H d v/\rL d/\p d=false
def DH.up (h:DH p mu H v) (k:oH mu H H') (t:Tk H H'):DH p mu H' v:=by
 obtain⟨d,h1,h2⟩:=h
 exact⟨d,λH1 k1 t1=>h1 H1 (k.trans k1) (t.trans t1),h2⟩
def kg (h:H a=some (.tup vs)) (t:∀H1,oH mu H H1->Tk H H1->xM H1 ds vs):Ru mu H (.tuple ds) (.ref a):=λH1 k1 t1=>fZ (t1 _ _ h) (t H1 k1 t1)
def Bt (h:H a=some (.lst vs)) (n:a∉mu) (t:∀H1,oH mu H H1->Tk H H1->xM H1 ds vs):Ru mu H (.list ds) (.ref a):=λH1 k1 t1=>fe (k1 _ _ n h) (t H1 k1 t1)
def kT (dk:cN H k c) (kp:ez k H H'):Tk H H':=λb xs e=>kp _ _ (λz=>by
 obtain⟨⟨_,_,q,_⟩,_⟩:=dk;rw[z,q] at e;cases e) e
def Bu (h:k∈mu) (kp:ez k H H'):oH mu H H':=λx o n e=>kp _ _ (λz=>n (z▸h)) e
def bc (h:Bd 13 1 d) (t:∀x∈ds,Bd 13 1 x):∀x∈d::ds,Bd 13 1 x:=List.forall_mem_cons.mpr ⟨h,t⟩
def bn:∀x∈([]:List PyData),Bd 13 1 x:=λ_ h=>nomatch h
def xO (h:∀d∈ds,Bd 13 1 d) (l:Nat.ble ds.length 6=true:=by exact rfl):Bd 79 2 (.tuple ds)/\rL (.tuple ds)/\rL (.list ds):=by
 have l:=Nat.le_of_ble_eq_true l
 have a:=(Bd.tuple (n:=13) (p:=1) (m:=6) h l)
 have b:=(Bd.list (n:=13) (p:=1) (m:=6) h l)
 exact⟨a.mono δ δ,a.mono δ δ,b.mono δ δ⟩
def Sm (h:BD x):Bd 13 1 (.str x):=(mC h.1 h.2).mono δ δ
def KP (h:i.natAbs<2^200):Bd 13 1 (.int i):=(iS h).mono δ δ
def WN:xM H [.str x,.str y,.int i] [.str x,.str y,.int i]:=aU (ij _) (aU (ij _) (aU (eg _) dS))
def DJ (h:x∈mG):BD x:=⟨(p_ x h).1,(p_ x h).2.1⟩
def oH.up (h:oH mu H H1):oH (k::mu) H H1:=h.mono λ_ z=>cu _ z
def GW (h:H p=some (.tup [.str "come",v])) (b:DH eW (k::mu) H v):∃De,kI mu H p De:=by
 obtain⟨d,h1,h2,h3⟩:=b
 exact⟨.pI d,λH1 k1 t1=>⟨v,t1 _ _ h,h1 H1 k1.up t1,h2,.inl h3⟩⟩
def GX (h:H p=some (.tup [.str "come",.ref t])) (ht:H t=some (.tup [.str x,.str y,.int i])) (hx:x∈mG) (hy:y∈pK) (i1:1<=i) (i2:i<=1000000):∃De,kI mu H p De:=by
 have f:=Q8 hx hy i1 i2
 exact⟨.pI (qP (x,y,i)),λH1 k1 t1=>⟨.ref t,t1 _ _ h,qQ _ (x,y,i) ⟨t,rfl,t1 _ _ ht⟩,f.1,.inr ⟨t,(x,y,i),rfl,rfl,f.2,t1 _ _ ht,hx,hy,i1,i2⟩⟩⟩
structure D4 (k L t:ai) (c:Int) (x y:Str) (i:Int) (H1:Hp):Prop where
 dk:cN H1 k c
 hL:H1 L=some (.lst (mG.map V.str))
 nL:L≠k
 hx:x∈mG
 ht:H1 t=some (.tup [.str x,.str y,.int i])
 hy:y∈pK
 i1:1<=i
 i2:i<=1000000
section
variable {P:aM}{w:bB}{K:Φ}{mg:Str->Option ag}{base:Heap}
def dd0 (hr:eS 3 (A.deeper (Ψ "_law_deed" (aw gs) s.heap.objs.size f cdv))) (DP:Df P w K mg base 1 "_law_pick" ["deck","many"] gF) (DW:Df P w K mg base 2 "_law_weight" ["deck"] PF):∃r0 r1 r2 r3 t0 t1 t2 t3,lS 0=r0/\lS 1=r1/\lS 2=r2/\lS 3=r3/\PS ((eY fT P w K mg base kf "_law_deed" (aw gs) f cdv A outer s H E).lg) r0 t0/\PS ((eY fT P w K mg base kf "_law_deed" (aw gs) f cdv A outer s H E).lg) r1 t1/\PS ((eY fT P w K mg base kf "_law_deed" (aw gs) f cdv A outer s H E).lg) r2 t2/\PS ((eY fT P w K mg base kf "_law_deed" (aw gs) f cdv A outer s H E).lg) r3 t3/\∀(D:Ends) (u:TS) (H1:Hp) (k:ai) (v1 v2 v3 v4 v5 v6 v7 v8 v9:Option V) (c:Int),cN H1 k c->c<=5000->(∀(w:Int) L x t y i c' H2,0<=w->w<18->ez k H1 H2->c'<=c+10->H1 L=none->D4 k L t c' x y i H2->u D [some (.ref k),v1,some (.int w),some (.ref L),some (.str x),some (.ref t),v6,v7,v8,v9] H2)->vB t0 (vB t1 (vB t2 (vB t3 u))) D [some (.ref k),v1,v2,v3,v4,v5,v6,v7,v8,v9] H1:=by
 refine⟨_,_,_,_,_,_,_,_,rfl,rfl,rfl,rfl,ku (i:=2) lJ.nd (cC DP (hr.mono δ) (ae (pv 0) (ae ao ah))),ku (i:=3) lJ.nd (cX (vd (ss:=mG) rfl)),ku (i:=4) lJ.nd (bg cV (pv 3) (cC DP (hr.mono δ) (ae (pv 0) (ae ao ah)))),ku (i:=5) lJ.nd (bQ (ae (pv 4) (ae (bg cV (cX (vd (ss:=pK) rfl)) (cC DP (hr.mono δ) (ae (pv 0) (ae ao ah)))) (ae (cC DW (hr.mono δ) (ae (pv 0) ah)) ah)))),?_⟩
 intro D u H1 k v1 v2 v3 v4 v5 v6 v7 v8 v9 c dk c5 nx
 refine pk rfl dk ω δ δ λw c1 J1 k1 d1 e1 g1 l1=>?_
 refine⟨dP,λL hL=>?_⟩
 have nk:L≠k:=λz=>by obtain⟨o,ho⟩:=d1.some;rw[<-z,hL] at ho;cases ho
 exists hL,.lst (mG.map V.str),J1,L,s2,w2,J2
 refine⟨_,rfl,pk rfl (d1.keep (λo e=>s2 _ _ e)) ω δ δ λr c3 J3 k3 d3 e3 g3 l3=>?_⟩
 obtain⟨mS,Fe⟩:=tQ (xs:=mG.map V.str) g3 (by rw[aq];exact l3)
 rw[jQ] at Fe
 have hx:mG[r.toNat]'(by rw[aq] at mS;exact mS)∈mG:=cB _
 generalize mG[r.toNat]'(by rw[aq] at mS;exact mS)=x at Fe hx
 have w3:=k3 _ _ nk w2
 refine⟨L,_,r,_,rfl,rfl,cT.of w3,Fe,?_⟩
 refine⟨_,rfl,dP,λe he=>?_⟩
 have nk4:e≠k:=λz=>by obtain⟨o,ho⟩:=d3.some;rw[<-z,he] at ho;cases ho
 exists he,.lst (pK.map V.str),J3,e,s4,w4,J4
 refine pk rfl (d3.keep (λo e=>s4 _ _ e)) ω δ δ λr5 c5 J5 k5 d5 e5 g5 l5=>?_
 obtain⟨MX,Rv⟩:=tQ (xs:=pK.map V.str) g5 (by rw[aq];exact l5)
 rw[jQ] at Rv
 have hy:pK[r5.toNat]'(by rw[aq] at MX;exact MX)∈pK:=cB _
 generalize pK[r5.toNat]'(by rw[aq] at MX;exact MX)=y at Rv hy
 refine⟨e,_,r5,_,rfl,rfl,cT.of (k5 _ _ nk4 w4),Rv,?_⟩
 refine⟨_,rfl,k,c5,rfl,d5,ω,λi c6 J6 k6 d6 e6 i1 i2=>?_⟩
 refine⟨dP,λt ht=>?_⟩
 have s7:=aP ht (.tup [.str x,.str y,.int i])
 refine nx w L x t y i c6 _ g1 l1 ((((k1.trans s2.keep).trans (k3.trans s4.keep)).trans (k5.trans k6)).trans s7.keep) ω (rR k1 nk hL) ⟨d6.keep (λo e=>s7 _ _ e),s7 _ _ (k6 _ _ nk (k5 _ _ nk (s4 _ _ w3))),nk,hx,aB,hy,i1,i2⟩
def dd4 (hr:eS 3 (A.deeper (Ψ "_law_deed" (aw gs) s.heap.objs.size f cdv))) (DP:Df P w K mg base 1 "_law_pick" ["deck","many"] gF) (T:Txt mg):∃r tt,lS 4=r/\PS ((eY fT P w K mg base kf "_law_deed" (aw gs) f cdv A outer s H E).lg) r tt/\∀(D:Ends) (mu:List ai) (H1:Hp) (k L t:ai) (v1 v6 v7 v8 v9:Option V) (w c:Int) (x y:Str) (i:Int),D4 k L t c x y i H1->c<=5000->(∀x∈mu,∃o,H1 x=some o)->(4<=w->D.nx [some (.ref k),v1,some (.int w),some (.ref L),some (.str x),some (.ref t),v6,v7,v8,v9] H1)->(∀t De c' H2,ez k H1 H2->cN H2 k c'->c'<=c+200->kI mu H2 t De->D.rt (.ref t) H2)->tt D [some (.ref k),v1,some (.int w),some (.ref L),some (.str x),some (.ref t),v6,v7,v8,v9] H1:=by
 obtain⟨e0,es,b1,p0,p1,p2,p3,er,a0,a1,a7⟩:∃e0 es b1 p0 p1 p2 p3,lS 4=.If e0 [.Assign [.Name "bad" p0] (.List es p1) p2,b1] [] p3/\PT ((eY fT P w K mg base kf "_law_deed" (aw gs) f cdv A outer s H E).lg) e0 (gw (gJ (Ha λi j=>.bl (decide (i<j))) (b_ 2) (tC (.int 4))))/\PA ((eY fT P w K mg base kf "_law_deed" (aw gs) f cdv A outer s H E).lg) es (cA (tC .eK) (cA (oU (cA (b_ 4) (cA (tC (.str "both")) fE))) (cA (oU (cA (b_ 4) (cA (tC (.str "Both")) (cA (tC (.int 7)) fE)))) (cA (oU (cA (b_ 4) (cA (tC (.str "both")) (cA (tC (.int 0)) fE)))) (cA (RR (λxs H Q=>∃p ys,xs=[.ref p]/\(cT K H p ys\/bZ K H p ys)/\∀l,H l=none->Q (.ref l) (upd H l (.lst ys))) (cA (b_ 5) fE)) (cA (oU (cA (tC (.str "")) (cA (tC (.str "port")) (cA (tC (.int 7)) fE)))) fE))))))/\PS ((eY fT P w K mg base kf "_law_deed" (aw gs) f cdv A outer s H E).lg) b1 (K4 (oU (cA (tC (.str "come")) (cA (W9 (gw (gJ Hb (lV gF [] E0 (cA (b_ 0) (cA (tC (.int 10)) fE))) (tC (.int 0)))) (gJ (Le K) (b_ 6) (lV gF [] E0 (cA (b_ 0) (cA (tC (.int 6)) fE)))) (b_ 5)) fE)))):=⟨_,_,_,_,_,_,_,rfl,bo rA (pv 2) ao (bP _),(ae jg (ae (bQ (ae (pv 4) (ae aW ah))) (ae (bQ (ae (pv 4) (ae aW (ae ao ah)))) (ae (bQ (ae (pv 4) (ae aW (ae ao ah)))) (ae (fK nE rfl T.list uw (ae (pv 5) ah)) (ae (bQ (ae aW (ae aW (ae ao ah)))) ah)))))),bH (bQ (ae aW (ae (oO (bo ie (cC DP (hr.mono δ) (ae (pv 0) (ae ao ah))) ao (bP _)) (bg cV (pv 6) (cC DP (hr.mono δ) (ae (pv 0) (ae ao ah)))) (pv 5)) ah)))⟩
 refine⟨_,_,er,cQ a0 (au (ku (i:=6) lJ.nd (cX a1)) (aF a7)) bN,?_⟩
 intro D mu H1 k L t v1 v6 v7 v8 v9 w c x y i F c5 st nx fin
 refine⟨_,rfl,_,_,rfl,rfl,_,rfl,?_⟩
 refine eP (λq=>?_) (λq=>nx (by have:=iW (hW.mpr q);omega))
 refine⟨_,rfl,dP,λt1 h1=>?_⟩
 exists h1,.tup [.str x,.str "both"],H1,t1,s1,w1,M1
 refine⟨_,rfl,dP,λt2 h2=>?_⟩
 exists h2,.tup [.str x,.str "Both",.int 7],M1,t2,s2,w2,M2
 refine⟨_,rfl,dP,λt3 h3=>?_⟩
 exists h3,.tup [.str x,.str "both",.int 0],M2,t3,s3,w3,M3
 refine⟨_,rfl,t,_,rfl,.inr (bZ.of (((s1.trans s2).trans s3) _ _ F.ht)),λt4 h4=>?_⟩
 exists h4,.lst [.str x,.str y,.int i],M3,t4,s4,w4,M4
 refine⟨dP,λt5 h5=>?_⟩
 exists h5,.tup [.str "",.str "port",.int 7],M4,t5,s5,w5,M5
 refine⟨dP,λt6 h6=>?_⟩
 exists h6,.lst [.eK,.ref t1,.ref t2,.ref t3,.ref t4,.ref t5],M5,t6,s6,w6,M6
 have zz:a_ H1 M6:=(((((s1.trans s2).trans s3).trans s4).trans s5).trans s6)
 have d6:cN M6 k c:=F.dk.keep λo e=>zz _ _ e
 have n6:t6≠k:=λz=>by obtain⟨o,ho⟩:=F.dk.some;rw[<-z] at ho;rw[cK ((((s1.trans s2).trans s3).trans s4).trans s5) h6] at ho;cases ho
 have oT:=DJ F.hx
 have oY:=(xg y F.hy).1
 have si:i.natAbs<2^200:=by have:=F.i1;have:=F.i2;omega
 have ob:∀s∈(["both","Both","port",""]:List Str),Bd 13 1 (.str s):=λs h=>Sm ((show∀s∈(["both","Both","port",""]:List Str),BD s by unfold BD;decide+kernel) s h)
 have m4:t4∉k::mu:=λz=>by
  have:∃o,H1 t4=some o:=by
   rcases aD.mp z with z|z
   .rw[z];exact F.dk.some
   .exact st _ z
  obtain⟨o,ho⟩:=this
  rw[cK ((s1.trans s2).trans s3) h4] at ho;cases ho
 have bad:∀v∈[V.eK,.ref t1,.ref t2,.ref t3,.ref t4,.ref t5],DH eW (k::mu) M6 v:=λv hv=>by
  simp only[aD,aN,cy] at hv
  rcases hv with rfl|rfl|rfl|rfl|rfl|rfl
  .exact⟨.none,λ_ _ _=>rZ,zg.mono δ δ,rfl⟩
  .exact⟨_,kg (((((s2.trans s3).trans s4).trans s5).trans s6) _ _ w1) λ_ _ _=>aU (ij _) (aU (ij _) dS),(xO (bc (Sm oT) (bc (ob "both" δ) bn))).2.1,Km⟩
  .exact⟨_,kg ((((s3.trans s4).trans s5).trans s6) _ _ w2) λ_ _ _=>WN,(xO (bc (Sm oT) (bc (ob "Both" δ) (bc (KP δ) bn)))).2.1,Kn⟩
  .exact⟨_,kg (((s4.trans s5).trans s6) _ _ w3) λ_ _ _=>WN,(xO (bc (Sm oT) (bc (ob "both" δ) (bc (KP δ) bn)))).2.1,Ko⟩
  .exact⟨_,Bt ((s5.trans s6) _ _ w4) m4 λ_ _ _=>WN,(xO (bc (Sm oT) (bc (Sm oY) (bc (KP si) bn)))).2.2,Kp⟩
  .exact⟨_,kg (s6 _ _ w5) λ_ _ _=>WN,(xO (bc (ob "" δ) (bc (ob "port" δ) (bc (KP δ) bn)))).2.1,DG⟩
 refine pk rfl d6 ω δ δ λr c7 M7 k7 d7 e7 g7 l7=>?_
 refine⟨rfl,_,rfl,?_⟩
 have t07:Tk H1 M7:=(eV zz).trans (kT d6 k7)
 refine eP (λq=>?pos) (λq=>?neg)
 case pos=>
  refine⟨_,rfl,pk rfl d7 ω δ δ λr8 c8 M8 k8 d8 e8 g8 l8=>?_⟩
  obtain⟨mS,Fe⟩:=tQ (xs:=[V.eK,.ref t1,.ref t2,.ref t3,.ref t4,.ref t5]) g8 l8
  have bv:=bad _ (cB mS)
  generalize [V.eK,.ref t1,.ref t2,.ref t3,.ref t4,.ref t5][r8.toNat]=v at Fe bv
  refine⟨t6,_,r8,v,rfl,rfl,cT.of (k8 _ _ n6 (k7 _ _ n6 w6)),Fe,dP,λp hp=>?_⟩
  have s9:=aP hp (.tup [.str "come",v])
  have kk:=k7.trans (k8.trans s9.keep)
  obtain⟨De,dK⟩:=GW (mu:=mu) (aB (H:=M8) (a:=p) (o:=.tup [.str "come",v])) (bv.up (Bu (cj ..) kk) (kT d6 kk))
  exact fin p De c8 _ (zz.keep.trans kk) (d8.keep λo e=>s9 _ _ e) ω dK
 case neg=>
  refine⟨_,rfl,dP,λp hp=>?_⟩
  have s9:=aP hp (.tup [.str "come",.ref t])
  obtain⟨De,dK⟩:=GX (mu:=mu) (aB (H:=M7) (a:=p) (o:=.tup [.str "come",.ref t])) (s9 _ _ (t07 _ _ F.ht)) F.hx F.hy F.i1 F.i2
  exact fin p De c7 _ ((zz.keep.trans k7).trans s9.keep) (d7.keep λo e=>s9 _ _ e) ω dK
def dd5 (hr:eS 3 (A.deeper (Ψ "_law_deed" (aw gs) s.heap.objs.size f cdv))) (DP:Df P w K mg base 1 "_law_pick" ["deck","many"] gF) (T:Txt mg):∃r tt,lS 5=r/\PS ((eY fT P w K mg base kf "_law_deed" (aw gs) f cdv A outer s H E).lg) r tt/\∀(D:Ends) (mu:List ai) (H1:Hp) (k L t:ai) (v1 v6 v7 v8 v9:Option V) (w c:Int) (x y:Str) (i:Int),D4 k L t c x y i H1->c<=5000->(w≠4->D.nx [some (.ref k),v1,some (.int w),some (.ref L),some (.str x),some (.ref t),v6,v7,v8,v9] H1)->(∀t De c' H2,ez k H1 H2->cN H2 k c'->c'<=c+200->kI mu H2 t De->D.rt (.ref t) H2)->tt D [some (.ref k),v1,some (.int w),some (.ref L),some (.str x),some (.ref t),v6,v7,v8,v9] H1:=by
 refine⟨_,_,rfl,cQ (bo ie (pv 2) ao (bP _)) (aF (bH (bQ (ae aW (ae (bg cV (cX (ae (pv 4) (ae aW (ae aW ah)))) (aR (xT rfl) rfl T.max tW (ae ao (ae (bT mj (cC DP (hr.mono δ) (ae (pv 0) (ae ao ah))) ao) ah)))) ah))))) bN,?_⟩
 intro D mu H1 k L t v1 v6 v7 v8 v9 w c x y i F c5 nx fin
 refine⟨_,rfl,rfl,_,rfl,?_⟩
 rw[iw]
 refine eP (λq=>?_) (λq=>nx (iW (hW.mpr q)))
 refine⟨_,rfl,dP,λl hl=>?_⟩
 have nl:l≠k:=λz=>by obtain⟨o,ho⟩:=F.dk.some;rw[<-z,hl] at ho;cases ho
 exists hl,.lst [.str x,.str "nobody",.str ""],H1,l,s1,w1,M1
 refine pk rfl (F.dk.keep (λo e=>s1 _ _ e)) ω δ δ λr c2 M2 k2 d2 e2 g2 l2=>?_
 obtain⟨z,hz,oz⟩:∃z,qA [V.str x,.str "nobody",.str ""] (if r-3>0 then r-3 else 0)=some (.str z)/\BD z:=by
  by_cases h:r-3>0
  .rw[aQ h]
   rcases(by omega:r=4\/r=5) with rfl|rfl
   .exact⟨"nobody",rfl,by unfold BD;decide+kernel⟩
   .exact⟨"",rfl,by unfold BD;decide+kernel⟩
  .rw[aO h]
   exact⟨x,rfl,DJ F.hx⟩
 refine⟨_,_,rfl,rfl,_,_,rfl,l,_,_,_,rfl,rfl,cT.of (k2 _ _ nl w1),hz,dP,λp hp=>?_⟩
 have s3:=aP hp (.tup [.str "go",.str z])
 exact fin p (.go z) c2 _ ((s1.keep.trans k2).trans s3.keep) (d2.keep λo e=>s3 _ _ e) ω λH3 _ t3=>⟨t3 _ _ aB,oz⟩
def dd6 (hr:eS 3 (A.deeper (Ψ "_law_deed" (aw gs) s.heap.objs.size f cdv))) (DP:Df P w K mg base 1 "_law_pick" ["deck","many"] gF) (T:Txt mg):∃r tt,lS 6=r/\PS ((eY fT P w K mg base kf "_law_deed" (aw gs) f cdv A outer s H E).lg) r tt/\∀(D:Ends) (mu:List ai) (H1:Hp) (k L t:ai) (v1 v6 v7 v8 v9:Option V) (w c:Int) (x y:Str) (i:Int),D4 k L t c x y i H1->c<=5000->(7<=w->D.nx [some (.ref k),v1,some (.int w),some (.ref L),some (.str x),some (.ref t),v6,v7,v8,v9] H1)->(∀t De c' H2,ez k H1 H2->cN H2 k c'->c'<=c+200->kI mu H2 t De->D.rt (.ref t) H2)->tt D [some (.ref k),v1,some (.int w),some (.ref L),some (.str x),some (.ref t),v6,v7,v8,v9] H1:=by
 refine⟨_,_,rfl,cQ (bo rA (pv 2) ao (bP _)) (aF (bH (bQ (ae aW (ae (pv 4) (ae (bg cV (cX (ae (bg bw (pv 5) ao) (ae ao (ae jg (ae nS (ae (bT gi (bT mv ao ao) ao) ah)))))) (aR (xT rfl) rfl T.max tW (ae ao (ae (bT mj (cC DP (hr.mono δ) (ae (pv 0) (ae ao ah))) ao) ah)))) ah)))))) bN,?_⟩
 intro D mu H1 k L t v1 v6 v7 v8 v9 w c x y i F c5 nx fin
 refine⟨_,rfl,_,_,rfl,rfl,_,rfl,?_⟩
 refine eP (λq=>?_) (λq=>nx (by have:=iW (hW.mpr q);omega))
 refine⟨_,rfl,iB rfl (bZ.of F.ht) (aT (j:=2) rfl) ⟨_,_,rfl,rfl,⟨δ,δ,δ⟩,_,_,rfl,rfl,dP,λl hl=>?_⟩⟩
 have nl:l≠k:=λz=>by obtain⟨o,ho⟩:=F.dk.some;rw[<-z,hl] at ho;cases ho
 exists hl,.lst [.int i,.int 0,.eK,.bl true,.int (10^Int.toNat 6+1)],H1,l,s1,w1,M1
 refine pk rfl (F.dk.keep (λo e=>s1 _ _ e)) ω δ δ λr c2 M2 k2 d2 e2 g2 l2=>?_
 have i1:=F.i1
 have i2:=F.i2
 obtain⟨v,d,hv,fv,bv,wv⟩:∃v d,qA [V.int i,.int 0,.eK,.bl true,.int (10^Int.toNat 6+1)] (if r-4>0 then r-4 else 0)=some v/\(∀H,rg H d v)/\Bd 1 0 d/\WgV d v:=by
  by_cases h:r-4>0
  .rw[aQ h]
   rcases(by omega:r=5\/r=6\/r=7\/r=8) with rfl|rfl|rfl|rfl
   .exact⟨_,.int 0,rfl,λ_=>eg _,iS δ,.inl (by decide+kernel)⟩
   .exact⟨_,.none,rfl,λ_=>rZ,zg,.inl rfl⟩
   .exact⟨_,.bool true,rfl,λ_=>⟨0,λ_ _=>qF.mpr rfl⟩,Ln _,.inl rfl⟩
   .exact⟨_,.int (10^Int.toNat 6+1),rfl,λ_=>eg _,iS δ,.inl (by decide+kernel)⟩
  .rw[aO h]
   exact⟨_,.int i,rfl,λ_=>eg _,iS ω,.inr ⟨i,rfl,rfl,i1,i2⟩⟩
 refine⟨_,_,rfl,rfl,_,_,rfl,l,_,_,_,rfl,rfl,cT.of (k2 _ _ nl w1),hv,dP,λp hp=>?_⟩
 have s3:=aP hp (.tup [.str "weigh",.str x,v])
 exact fin p (.weigh x d) c2 _ ((s1.keep.trans k2).trans s3.keep) (d2.keep λo e=>s3 _ _ e) ω λH3 _ t3=>⟨v,t3 _ _ aB,DJ F.hx,fv _,bv,wv⟩
def dd9 (hr:eS 3 (A.deeper (Ψ "_law_deed" (aw gs) s.heap.objs.size f cdv))) (DP:Df P w K mg base 1 "_law_pick" ["deck","many"] gF) (T:Txt mg):∃r tt,lS 9=r/\PS ((eY fT P w K mg base kf "_law_deed" (aw gs) f cdv A outer s H E).lg) r tt/\∀(D:Ends) (mu:List ai) (H1:Hp) (k L t:ai) (v1 v6 v7 v8 v9:Option V) (w c:Int) (x y:Str) (i:Int),D4 k L t c x y i H1->c<=5000->14<=w->w<18->(∀t De c' H2,ez k H1 H2->cN H2 k c'->c'<=c+200->kI mu H2 t De->D.rt (.ref t) H2)->tt D [some (.ref k),v1,some (.int w),some (.ref L),some (.str x),some (.ref t),v6,v7,v8,v9] H1:=by
 refine⟨_,_,rfl,bH (bQ (ae (bg cV (cX (vd (ss:=["back","back","again","back"]) rfl)) (bT mj (pv 2) ao)) ah)),?_⟩
 intro D mu H1 k L t v1 v6 v7 v8 v9 w c x y i F c5 w1 w2 fin
 refine⟨dP,λl hl=>?_⟩
 obtain⟨z,De,hz,oz⟩:∃z De,qA [V.str "back",.str "back",.str "again",.str "back"] (w-14)=some z/\∀H p,H p=some (.tup [z])->kI mu H p De:=by
  rcases(by omega:w=14\/w=15\/w=16\/w=17) with rfl|rfl|rfl|rfl
  .exact⟨_,.back,rfl,λH p h H1 _ t1=>t1 _ _ h⟩
  .exact⟨_,.back,rfl,λH p h H1 _ t1=>t1 _ _ h⟩
  .exact⟨_,.again,rfl,λH p h H1 _ t1=>t1 _ _ h⟩
  .exact⟨_,.back,rfl,λH p h H1 _ t1=>t1 _ _ h⟩
 refine⟨_,rfl,_,_,rfl,rfl,l,_,_,_,rfl,rfl,cT.of aB,hz,dP,λp hp=>?_⟩
 have s1:=(aP hl (.lst [.str "back",.str "back",.str "again",.str "back"])).trans (aP hp (.tup [z]))
 exact fin p De c _ s1.keep (F.dk.keep λo e=>s1 _ _ e) ω (oz _ _ aB)
def Kq (v:Option V) (hL:H1 L=none) (h:H1 a=some (.lst us)) (pr:Paired (jV H1) us rows) (hl:rows.length<=1000) (q:∀J,a_ H1 J->J L=some (.lst (rows.map λr=>V.int r.1))->Q (.ref L) J):
  qg (Eh K a) (dI 0) qE (gJ (gj K) (b_ 0) (tC (.int 0))) [v] H1 Q L:=by
 have lu:=bS pr
 refine lE (n:=us.length) (f:=λi=>us.getD i .eK) (λj ys bX J=>(∃v,bX=[v])/\a_ H1 J/\ys=(rows.take j).map λr=>V.int r.1) hL ω ⟨⟨_,rfl⟩,bR (a_.refl _) hL,rfl⟩ (λj ys bX J hj hy ⟨_,sj,_⟩=>pL (K:=K) (cT.of (sj _ _ h)) j hj) ?_ ?_
 .rintro j ys bX J hj hy ⟨⟨v,rfl⟩,sj,rfl⟩
  have rf:j<rows.length:=ω
  obtain⟨u,eu,b,r,rfl,e1,e2⟩:=eJ pr j rf
  rw[getD_some eu]
  refine iB rfl (bZ.of (sj _ _ e1)) (aT (j:=0) rfl) ⟨hy,⟨_,rfl⟩,bR sj hL,?_⟩
  rw[fW rf,bF];rfl
 .rintro ys bX J hy ⟨_,sj,rfl⟩
  rw[lu,dj] at hy
  exact q J sj hy
def Kr (v:Option V) (hL:H1 L=none) (h:H1 a=some (.lst us)) (pr:Paired (jV H1) us rows) (hl:rows.length<=1000) (q:∀J ys,a_ H1 J->J L=some (.lst ys)->Paired (λv (x:Nat×qt)=>∃r,v=.ref r/\jU J r x.2) ys rows->Q (.ref L) J):
  qg (Eh K a) (dI 0) qE (gJ (gj K) (b_ 0) (tC (.int 1))) [v] H1 Q L:=by
 have lu:=bS pr
 refine lE (n:=us.length) (f:=λi=>us.getD i .eK) (λj ys bX J=>(∃v,bX=[v])/\a_ H1 J/\Paired (λv (x:Nat×qt)=>∃r,v=.ref r/\jU J r x.2) ys (rows.take j)) hL ω ⟨⟨_,rfl⟩,bR (a_.refl _) hL,.nil⟩ (λj ys bX J hj hy ⟨_,sj,_⟩=>pL (K:=K) (cT.of (sj _ _ h)) j hj) ?_ ?_
 .rintro j ys bX J hj hy ⟨⟨v,rfl⟩,sj,pj⟩
  have rf:j<rows.length:=ω
  obtain⟨u,eu,b,r,rfl,e1,e2⟩:=eJ pr j rf
  rw[getD_some eu]
  have Bf:∀c xs,J c=some (.tup xs)->upd J L (.lst (ys++ [.ref r])) c=some (.tup xs):=λc xs e=>by rw[aV (λz=>by rw[z,hy] at e;cases e)];exact e
  refine iB rfl (bZ.of (sj _ _ e1)) (aT (j:=1) rfl) ⟨hy,⟨_,rfl⟩,bR sj hL,?_⟩
  rw[fW rf]
  exact dU (av pj λ_ _ ⟨r,z1,z2⟩=>⟨r,z1,z2.up Bf⟩) ⟨r,rfl,(e2.same sj).up Bf⟩
 .rintro ys bX J hy ⟨_,sj,pj⟩
  rw[lu,dj] at pj
  exact q J ys sj hy pj
def VT:(["row"]:List Str).Nodup:=by decide+kernel
def dd8 (hr:eS 3 (A.deeper (Ψ "_law_deed" (aw gs) s.heap.objs.size f cdv))) (DP:Df P w K mg base 1 "_law_pick" ["deck","many"] gF) (T:Txt mg):∃r tt,lS 8=r/\PS ((eY fT P w K mg base kf "_law_deed" (aw gs) f cdv A outer s H E).lg) r tt/\∀(D:Ends) (mu:List ai) (H1:Hp) (k L t:ai) (v6 v7 v8 v9:Option V) (w c:Int) (x y:Str) (i:Int) (ow pa:ai) (us:List V) (S:Cs) (m:Nat),D4 k L t c x y i H1->c<=5000->(∀G,a_ H1 G->h_ G ow (kV (.inr "pieces")) (some (.ref pa))/\h_ G ow (kV (.inr "count")) (some (.int S.n)))->H1 pa=some (.lst us)->Paired (jV H1) us S.rows->St S m->m<=31->(14<=w->D.nx [some (.ref k),some (.ref ow),some (.int w),some (.ref L),some (.str x),some (.ref t),v6,v7,v8,v9] H1)->(∀t De c' H2,ez k H1 H2->cN H2 k c'->c'<=c+200->kI mu H2 t De->D.rt (.ref t) H2)->tt D [some (.ref k),some (.ref ow),some (.int w),some (.ref L),some (.str x),some (.ref t),v6,v7,v8,v9] H1:=by
 have hu:=bb (dY (by decide:1<=64) _) hr.units
 refine⟨_,_,rfl,cQ (bo rA (pv 2) ao (bP _)) (au (ku (i:=9) lJ.nd (bT lD (kE (N:=["row"]) (g:=dI 0) (tc:=qE) (te:=gJ (gj K) (b_ 0) (tC (.int 0))) rfl (jz (eM hu (pv 1) aW)) (fz.closed rfl) (λ_ _ _=>aZ (i:=0) VT) (λ_ _ _=>iX) (λ_ _ _=>bg bw (pv 0) ao)) (cX (ae (eM hu (pv 1) aW) (ae (qj mw ao) (ae (bT mj (eM hu (pv 1) aW) ao) ah)))))) (aF (bH (bQ (ae aW (ae (bg cV (pv 9) (cC DP (hr.mono δ) (ae (pv 0) (ae (aR bO rfl T.len bC (ae (pv 9) ah)) ah)))) ah)))))) bN,?_⟩
 intro D mu H1 k L t v6 v7 v8 v9 w c x y i ow pa us S m F c5 og xn pr sS GQ nx fin
 refine⟨_,rfl,_,_,rfl,rfl,_,rfl,?_⟩
 refine eP (λq=>?_) (λq=>nx (by have:=iW (hW.mpr q);omega))
 have lr:=sS.lr
 have ln:=sS.n
 have num:=sS.num
 refine⟨_,rfl,ow,.ref pa,rfl,(og _ (a_.refl _)).1,pa,rfl,⟨_,cT.of xn⟩,λL1 NW=>?_⟩
 refine Kq _ NW xn pr ω λJ1 s1 w1=>?_
 refine⟨_,rfl,ow,_,rfl,(og _ s1).2,_,rfl,_,rfl,ow,_,rfl,(og _ s1).2,_,_,rfl,rfl,dP,λl2 oE=>?_⟩
 exists oE,.lst [.int S.n,.int (-1),.int (S.n-1)],J1,l2,s2,w2,J2
 refine⟨L1,l2,_,_,rfl,rfl,s2 _ _ w1,w2,cR (dD (by simp only[cI,i_,aq];omega)),λl3 GO=>?_⟩
 obtain⟨ns,en,hn⟩:∃ns:List Int,(S.rows.map λr=>V.int r.1)++ [.int S.n,.int (-1),.int (S.n-1)]=ns.map V.int/\(∀i∈ns,i.natAbs<2^200):=by
  refine⟨(S.rows.map λr=>(r.1:Int))++ [(S.n:Int),-1,S.n-1],by rw[bF,oM];rfl,λi hi=>?_⟩
  rcases dq.mp hi with z|z
  .obtain⟨r,hr,rfl⟩:=cS.mp z
   have:=num r hr
   omega
  .simp only[aD,aN,cy] at z
   rcases z with rfl|rfl|rfl<;>omega
 have ll:ns.length=S.rows.length+3:=by
  have:=iD List.length en
  simpa using this.symm
 rw[en]
 exists GO,.lst (ns.map V.int),J2,l3,s3,w3,J3
 have lR:=s1.trans (s2.trans s3)
 have n3:l3≠k:=λz=>by obtain⟨o,ho⟩:=F.dk.some;rw[<-z] at ho;rw[cK (s1.trans s2) GO] at ho;cases ho
 refine⟨_,rfl,_,rfl,_,rfl,l3,_,rfl,.inl (cT.of w3),k,c,_,rfl,F.dk.keep (λo e=>lR _ _ e),ω,by rw[aq];omega,by rw[aq];omega,λr c4 J4 k4 d4 e4 g4 l4=>?_⟩
 obtain⟨mS,Fe⟩:=tQ (xs:=ns.map V.int) g4 l4
 rw[jQ] at Fe
 have hi:=hn _ (cB (by rw[aq] at mS;exact mS))
 refine⟨l3,_,r,_,rfl,rfl,cT.of (k4 _ _ n3 w3),Fe,dP,λp hp=>?_⟩
 have s5:=aP hp (.tup [.str "strike",.int (ns[r.toNat]'(by rw[aq] at mS;exact mS))])
 exact fin p (.jW _) c4 _ ((lR.keep.trans k4).trans s5.keep) (d4.keep λo e=>s5 _ _ e) ω λH5 _ t5=>⟨t5 _ _ aB,hi⟩
end
def GY (h:H p=some (.tup [.str "tell",v])) (b:DH gG (k::mu) H v):∃De,kI mu H p De:=by
 obtain⟨d,h1,h2,h3⟩:=b
 exact⟨.tell d,λH1 k1 t1=>⟨v,t1 _ _ h,h1 H1 k1.up t1,h2,.inl h3⟩⟩
def GZ (h:H p=some (.tup [.str "tell",.ref r])) (hp:jU H r pc) (o:ix pc) (c:gq pc):∃De,kI mu H p De:=
 ⟨.tell (xK pc),λH1 k1 t1=>⟨.ref r,t1 _ _ h,zG (hp.up t1),Jx o,.inr ⟨r,pc,rfl,rfl,hp.up t1,o,c⟩⟩⟩
def bdP (o:ix pc):Bd 13 1 (.tuple (ck pc.a))/\Bd 13 1 (.tuple (ck pc.b))/\Bd 13 1 (.int pc.t)/\Bd 13 1 (.int pc.o)/\Bd 13 1 (.int pc.c):=by
 have i1:=o.t1;have i2:=o.t9;have i3:=o.o1;have i4:=o.o9;have i5:=o.c1;have i6:=o.c9
 have:=o.a.l4
 have:=o.b.l4
 exact⟨mW o.a.ok ω,mW o.b.ok ω,KP ω,KP ω,KP ω⟩
def Ks (h0:0<=r) (h5:r<5):∃ns:List Str,jh (mG.map V.str) none (some (4+r))=ns.map V.str/\2<=ns.length/\ns.length<=12/\(∀n∈ns,okN n)/\ns.Nodup:=by
 have nd:mG.Nodup:=by decide+kernel
 have f:∀n:Nat,2<=n->n<=9->jh (mG.map V.str) none (some (4+r))=(mG.take n).map V.str->∃ns:List Str,jh (mG.map V.str) none (some (4+r))=ns.map V.str/\2<=ns.length/\ns.length<=12/\(∀n∈ns,okN n)/\ns.Nodup:=λn n2 n9 e=>by
  have l:(mG.take n).length=n:=by rw[fu];show min n 9=n;omega
  exact⟨_,e,ω,ω,λx hx=>p_ x (hX hx),nd.sublist (qU _ _)⟩
 rcases(by omega:r=0\/r=1\/r=2\/r=3\/r=4) with rfl|rfl|rfl|rfl|rfl
 .exact f 4 δ δ rfl
 .exact f 5 δ δ rfl
 .exact f 6 δ δ rfl
 .exact f 7 δ δ rfl
 .exact f 8 δ δ rfl
section
variable {P:aM}{w:bB}{K:Φ}{mg:Str->Option ag}{base:Heap}
def K3 (i j:Nat):Stmt:=match lS i with
 | .If _ b _ _=>b.getD j (.Pass ⟨0,0,0,0⟩)
 |_=>.Pass ⟨0,0,0,0⟩
def Z1 (hr:eS 3 (A.deeper (Ψ "_law_deed" (aw gs) s.heap.objs.size f cdv))) (DP:Df P w K mg base 1 "_law_pick" ["deck","many"] gF):∃r0 r1 t0 t1,K3 7 3=r0/\K3 7 4=r1/\PS ((eY fT P w K mg base kf "_law_deed" (aw gs) f cdv A outer s H E).lg) r0 t0/\PS ((eY fT P w K mg base kf "_law_deed" (aw gs) f cdv A outer s H E).lg) r1 t1/\∀(D:Ends) (mu:List ai) (H0 H1:Hp) (k pr:ai) (v1 v2 v3 v4 v5 v6 v7 v9:Option V) (c0 c:Int) (pc:qt),cN H1 k c->c<=6000->c<=c0+150->ez k H0 H1->(∀x∈mu,∃o,H1 x=some o)->jU H1 pr pc->ix pc->gq pc->(∀t De c' H2,ez k H0 H2->cN H2 k c'->c'<=c0+200->kI mu H2 t De->D.rt (.ref t) H2)->vB t0 t1 D [some (.ref k),v1,v2,v3,v4,v5,v6,v7,some (.ref pr),v9] H1:=by
 obtain⟨es,p0,p1,p2,er,a1⟩:∃es p0 p1 p2,K3 7 3=.Assign [.Name "bad" p0] (.List es p1) p2/\PA ((eY fT P w K mg base kf "_law_deed" (aw gs) f cdv A outer s H E).lg) es (cA (S9 (Pj K) (b_ 8) rG (Ar (tC (.int 4)))) (cA (λZ H Q=>(b_ 8) Z H λx H1=>(tUn (rU λi=>.int (-i)) (tC (.int 1))) Z H1 λy H2=>∃a xs,x=.ref a/\y=.int (-1)/\bZ K H2 a xs/\∀p,H2 p=none->Q (.ref p) (upd H2 p (.tup xs.reverse))) (cA (tC .eK) (cA (gJ (HL K) (oU (cA (gJ (gj K) (b_ 8) (tC (.int 0))) fE)) (b_ 8)) (cA (gJ (HL K) (S9 (Pj K) (b_ 8) rG (Ar (tC (.int 2)))) (oU (cA (tC (.int 0)) (cA (tC (.int 1)) (cA (tC (.int 1)) fE))))) (cA (xA (cA (b_ 8) fE)) fE)))))):=⟨_,_,_,_,rfl,(ae (gY zh (pv 8) jC (iJ ao)) (ae (Lu (pv 8) (qj mw ao) (λv key=>⟨[v,key],rfl⟩)) (ae jg (ae (bT lX (bQ (ae (bg bw (pv 8) ao) ah)) (pv 8)) (ae (bT lX (gY zh (pv 8) jC (iJ ao)) (bQ (ae ao (ae ao (ae ao ah))))) (ae (cX (ae (pv 8) ah)) ah))))))⟩
 refine⟨_,_,_,_,er,rfl,ku (i:=6) lJ.nd (cX a1),bH (bQ (ae aW (ae (oO (bo ie (cC DP (hr.mono δ) (ae (pv 0) (ae ao ah))) ao (bP _)) (bg cV (pv 6) (cC DP (hr.mono δ) (ae (pv 0) (ae ao ah)))) (pv 8)) ah))),?_⟩
 intro D mu H0 H1 k pr v1 v2 v3 v4 v5 v6 v7 v9 c0 c pc dk c6 cc kp st hP oP cP fin
 obtain⟨a,b,h1,h2,h3⟩:=id hP
 have g:∀{G:Hp} (lo hi:Option Int),jh [V.ref a,.ref b,.int pc.t,.int pc.o,.int pc.c] lo hi=jh [V.ref a,.ref b,.int pc.t,.int pc.o,.int pc.c] lo hi:=λ_ _=>rfl
 clear g
 refine⟨_,rfl,_,rfl,pr,_,rfl,bZ.of h1,λz=>absurd z.2 (by show ¬(HT.ip 5 5 (some 4)=5);decide),λ_ tA hA=>?_⟩
 rw[show jh [V.ref a,.ref b,.int pc.t,.int pc.o,.int pc.c] none (some 4)=[.ref a,.ref b,.int pc.t,.int pc.o] from rfl]
 exists hA,.tup [.ref a,.ref b,.int pc.t,.int pc.o],H1,tA,sA,wA,MA
 refine⟨_,rfl,_,rfl,pr,_,rfl,rfl,bZ.of (sA _ _ h1),λtB hB=>?_⟩
 rw[show([.ref a,.ref b,.int pc.t,.int pc.o,.int pc.c]:List V).reverse=[.int pc.c,.int pc.o,.int pc.t,.ref b,.ref a] from rfl]
 exists hB,.tup [.int pc.c,.int pc.o,.int pc.t,.ref b,.ref a],MA,tB,sB,wB,MB
 refine iB rfl (bZ.of ((sA.trans sB) _ _ h1)) (aT (j:=0) rfl) ⟨dP,λtC hC=>?_⟩
 exists hC,.tup [.ref a],MB,tC,sC,wC,MC
 refine⟨_,rfl,tC,pr,_,_,rfl,rfl,bZ.of wC,bZ.of (((sA.trans sB).trans sC) _ _ h1),List.cons_ne_nil _ _,dP,(λz=>by cases z),λ_ tD hD=>?_⟩
 rw[show([.ref a]:List V)++ [.ref a,.ref b,.int pc.t,.int pc.o,.int pc.c]=[.ref a,.ref a,.ref b,.int pc.t,.int pc.o,.int pc.c] from rfl]
 exists hD,.tup [.ref a,.ref a,.ref b,.int pc.t,.int pc.o,.int pc.c],MC,tD,sD,wD,MD
 refine⟨_,rfl,_,rfl,pr,_,rfl,bZ.of ((((sA.trans sB).trans sC).trans sD) _ _ h1),λz=>absurd z.2 (by show ¬(HT.ip 5 5 (some 2)=5);decide),λ_ tE hE=>?_⟩
 rw[show jh [V.ref a,.ref b,.int pc.t,.int pc.o,.int pc.c] none (some 2)=[.ref a,.ref b] from rfl]
 exists hE,.tup [.ref a,.ref b],MD,tE,sE,wE,ME
 refine⟨dP,λtF hF=>?_⟩
 exists hF,.tup [.int 0,.int 1,.int 1],ME,tF,sF,wF,MF
 refine⟨tE,tF,_,_,rfl,rfl,bZ.of (sF _ _ wE),bZ.of wF,List.cons_ne_nil _ _,dP,(λz=>by cases z),λ_ tG hG=>?_⟩
 rw[show([.ref a,.ref b]:List V)++ [.int 0,.int 1,.int 1]=[.ref a,.ref b,.int 0,.int 1,.int 1] from rfl]
 exists hG,.tup [.ref a,.ref b,.int 0,.int 1,.int 1],MF,tG,sG,wG,MG
 refine⟨_,rfl,dP,λtI hI=>?_⟩
 exists hI,.lst [.ref pr],MG,tI,sI,wI,MI
 refine⟨dP,λtJ hJ=>?_⟩
 exists hJ,.lst [.ref tA,.ref tB,.eK,.ref tD,.ref tG,.ref tI],MI,tJ,sJ,wJ,MJ
 have zz:a_ H1 MJ:=((((((((sA.trans sB).trans sC).trans sD).trans sE).trans sF).trans sG).trans sI).trans sJ)
 have d9:cN MJ k c:=dk.keep λo e=>zz _ _ e
 have nJ:tJ≠k:=λz=>by obtain⟨o,ho⟩:=dk.some;rw[<-z] at ho;rw[cK (((((((sA.trans sB).trans sC).trans sD).trans sE).trans sF).trans sG).trans sI) hJ] at ho;cases ho
 have mI:tI∉k::mu:=λz=>by
  have:∃o,H1 tI=some o:=by
   rcases aD.mp z with z|z
   .rw[z];exact dk.some
   .exact st _ z
  obtain⟨o,ho⟩:=this
  rw[cK ((((((sA.trans sB).trans sC).trans sD).trans sE).trans sF).trans sG) hI] at ho;cases ho
 obtain⟨b1,b2,b3,b4,b5⟩:=bdP oP
 have Pd:=zz _ _ h2
 have Zz:=zz _ _ h3
 have fa:∀H,oH (k::mu) MJ H->Tk MJ H->rg H (.tuple (ck pc.a)) (.ref a)/\rg H (.tuple (ck pc.b)) (.ref b):=λH _ t=>⟨fZ (t _ _ Pd) (nQ _),fZ (t _ _ Zz) (nQ _)⟩
 have bad:∀v∈[V.ref tA,.ref tB,.eK,.ref tD,.ref tG,.ref tI],DH gG (k::mu) MJ v:=λv hv=>by
  simp only[aD,aN,cy] at hv
  rcases hv with rfl|rfl|rfl|rfl|rfl|rfl
  .exact⟨_,kg ((((((((sB.trans sC).trans sD).trans sE).trans sF).trans sG).trans sI).trans sJ) _ _ wA) λH1 q1 q2=>aU (fa H1 q1 q2).1 (aU (fa H1 q1 q2).2 (aU (eg _) (aU (eg _) dS))),(xO (bc b1 (bc b2 (bc b3 (bc b4 bn))))).2.1,VQ⟩
  .exact⟨_,kg (((((((sC.trans sD).trans sE).trans sF).trans sG).trans sI).trans sJ) _ _ wB) λH1 q1 q2=>aU (eg _) (aU (eg _) (aU (eg _) (aU (fa H1 q1 q2).2 (aU (fa H1 q1 q2).1 dS)))),(xO (bc b5 (bc b4 (bc b3 (bc b2 (bc b1 bn)))))).2.1,GU⟩
  .exact⟨.none,λ_ _ _=>rZ,zg.mono δ δ,rfl⟩
  .exact⟨_,kg (((((sE.trans sF).trans sG).trans sI).trans sJ) _ _ wD) λH1 q1 q2=>aU (fa H1 q1 q2).1 (aU (fa H1 q1 q2).1 (aU (fa H1 q1 q2).2 (aU (eg _) (aU (eg _) (aU (eg _) dS))))),(xO (bc b1 (bc b1 (bc b2 (bc b3 (bc b4 (bc b5 bn))))))).2.1,VR⟩
  .exact⟨_,kg ((sI.trans sJ) _ _ wG) λH1 q1 q2=>aU (fa H1 q1 q2).1 (aU (fa H1 q1 q2).2 (aU (eg _) (aU (eg _) (aU (eg _) dS)))),(xO (bc b1 (bc b2 (bc (KP δ) (bc (KP δ) (bc (KP δ) bn)))))).2.1,GV⟩
  .exact⟨_,Bt (sJ _ _ wI) mI λH1 q1 q2=>aU (zG ((hP.same zz).up q2)) dS,(Bd.list (n:=79) (p:=2) (m:=1) (ds:=[xK pc]) (λd hd=>by
    rw[bV.mp hd]
    exact(xO (bc b1 (bc b2 (bc b3 (bc b4 (bc b5 bn)))))).1) (ar 1)).mono δ δ,GS⟩
 refine pk rfl d9 ω δ δ λr c7 M7 k7 d7 e7 g7 l7=>?_
 refine⟨rfl,_,rfl,?_⟩
 refine eP (λq=>?pos) (λq=>?neg)
 case pos=>
  refine⟨_,rfl,pk rfl d7 ω δ δ λr8 c8 M8 k8 d8 e8 g8 l8=>?_⟩
  obtain⟨mS,Fe⟩:=tQ (xs:=[V.ref tA,.ref tB,.eK,.ref tD,.ref tG,.ref tI]) g8 l8
  have bv:=bad _ (cB mS)
  generalize [V.ref tA,.ref tB,.eK,.ref tD,.ref tG,.ref tI][r8.toNat]=v at Fe bv
  refine⟨tJ,_,r8,v,rfl,rfl,cT.of (k8 _ _ nJ (k7 _ _ nJ wJ)),Fe,dP,λp hp=>?_⟩
  have s9:=aP hp (.tup [.str "tell",v])
  have kk:=k7.trans (k8.trans s9.keep)
  obtain⟨De,dK⟩:=GY (mu:=mu) (aB (H:=M8) (a:=p) (o:=.tup [.str "tell",v])) (bv.up (Bu (cj ..) kk) (kT d9 kk))
  exact fin p De c8 _ (kp.trans (zz.keep.trans kk)) (d8.keep λo e=>s9 _ _ e) ω dK
 case neg=>
  refine⟨_,rfl,dP,λp hp=>?_⟩
  have s9:=aP hp (.tup [.str "tell",.ref pr])
  obtain⟨De,dK⟩:=GZ (mu:=mu) (aB (H:=M7) (a:=p) (o:=.tup [.str "tell",.ref pr])) (((hP.same zz).up (kT d9 k7)).same s9) oP cP
  exact fin p De c7 _ (kp.trans ((zz.keep.trans k7).trans s9.keep)) (d7.keep λo e=>s9 _ _ e) ω dK
def dd7 (hr:eS 3 (A.deeper (Ψ "_law_deed" (aw gs) s.heap.objs.size f cdv))) (DP:Df P w K mg base 1 "_law_pick" ["deck","many"] gF) (T:Txt mg) (DC:Df P w K mg base 2 "_law_piece" ["deck","names"] PQ) (DX:Df P w K mg base 2 "_law_exchanged" ["deck","piece"] QQ):∃r tt,lS 7=r/\PS ((eY fT P w K mg base kf "_law_deed" (aw gs) f cdv A outer s H E).lg) r tt/\∀(D:Ends) (mu:List ai) (H1:Hp) (k L t:ai) (v6 v7 v8 v9:Option V) (w c:Int) (x y:Str) (i:Int) (ow pa:ai) (us:List V) (S:Cs) (m:Nat),D4 k L t c x y i H1->c<=5000->(∀x∈mu,∃o,H1 x=some o)->(∀G,a_ H1 G->h_ G ow (kV (.inr "pieces")) (some (.ref pa))/\h_ G ow (kV (.inr "count")) (some (.int S.n)))->H1 pa=some (.lst us)->Paired (jV H1) us S.rows->St S m->m<=31->(12<=w->D.nx [some (.ref k),some (.ref ow),some (.int w),some (.ref L),some (.str x),some (.ref t),v6,v7,v8,v9] H1)->(∀t De c' H2,ez k H1 H2->cN H2 k c'->c'<=c+200->kI mu H2 t De->D.rt (.ref t) H2)->tt D [some (.ref k),some (.ref ow),some (.int w),some (.ref L),some (.str x),some (.ref t),v6,v7,v8,v9] H1:=by
 have hu:=bb (dY (by decide:1<=64) _) hr.units
 obtain⟨r0,r1,t0,t1,q0,q1,p0,p1,go⟩:=Z1 (outer:=outer) (H:=H) (E:=E) hr DP
 rw[<-q0] at p0
 rw[<-q1] at p1
 refine⟨_,_,rfl,cQ (bo rA (pv 2) ao (bP _)) (au (jE (i0:=7) (N:=["row"]) (g:=dI 0) (tc:=qE) (te:=gJ (gj K) (b_ 0) (tC (.int 1))) lJ.nd rfl (Or.inl rfl) rfl (jz (eM hu (pv 1) aW)) (fz.closed rfl) (λ_ _ _=>aZ (i:=0) VT) (λ_ _ _=>iX) (λ_ _ _=>bg bw (pv 0) ao)) (au (ku (i:=8) lJ.nd (cC DC (hr.mono δ) (ae (pv 0) (ae (gY pP (pv 3) jC (iJ (bT gi ao (cC DP (hr.mono δ) (ae (pv 0) (ae ao ah)))))) ah)))) (au (cQ (PW.pt (BW (bo (qI hr.units) (pv 7) (cX ah) (bP _)) (Ef (bo xS (cC DP (hr.mono δ) (ae (pv 0) (ae ao ah))) ao (bP _))))) (aF (ku (i:=8) lJ.nd (cC DX (hr.mono δ) (ae (pv 0) (ae (bg cV (pv 7) (cC DP (hr.mono δ) (ae (pv 0) (ae (aR bO rfl T.len bC (ae (pv 7) ah)) ah)))) ah))))) bN) (au p0 (aF p1))))) bN,?_⟩
 intro D mu H1 k L t v6 v7 v8 v9 w c x y i ow pa us S m F c5 st og xn pr sS GQ nx fin
 refine⟨_,rfl,_,_,rfl,rfl,_,rfl,?_⟩
 refine eP (λq=>?_) (λq=>nx (by have:=iW (hW.mpr q);omega))
 have lr:=sS.lr
 have lu:=bS pr
 refine⟨_,rfl,ow,.ref pa,rfl,(og _ (a_.refl _)).1,pa,rfl,⟨_,cT.of xn⟩,λL1 NW=>?_⟩
 refine Kr _ NW xn pr ω λJ1 ys s1 w1 py=>?_
 have Z2:L1≠k:=λz=>by obtain⟨o,ho⟩:=F.dk.some;rw[<-z,NW] at ho;cases ho
 have ly:=bS py
 have d1:cN J1 k c:=F.dk.keep (λo e=>s1 _ _ e)
 refine⟨_,rfl,_,rfl,pk rfl d1 ω δ δ λr2 c2 J2 k2 d2 e2 g2 l2=>?_⟩
 obtain⟨ns,en,n2,Qs,Yx,nd⟩:=Ks g2 l2
 refine⟨_,_,rfl,rfl,_,rfl,L,_,rfl,cT.of (k2 _ _ F.nL (s1 _ _ F.hL)),λl3 GO=>?_⟩
 rw[en]
 exists GO,.lst (ns.map V.str),J2,l3,s3,w3,J3
 have n3:l3≠k:=λz=>by obtain⟨o,ho⟩:=d2.some;rw[<-z,GO] at ho;cases ho
 refine⟨k,c2,l3,ns,rfl,d2.keep (λo e=>s3 _ _ e),ω,n3,w3,n2,Qs,Yx,nd,λr4 pc c4 J4 k4 d4 e4 hP oP cP=>?_⟩
 have k14:ez k J1 J4:=k2.trans (s3.keep.trans k4)
 have Z3:ez k H1 J4:=s1.keep.trans k14
 have Ib:∀{G:Hp} {c':Int},cN G k c'->ez k H1 G->∀x∈mu,∃o,G x=some o:=λ{G c'} dG kG x hx=>by
  obtain⟨o,ho⟩:=st x hx
  by_cases e:x=k
  .rw[e];exact dG.some
  .exact⟨o,kG _ _ e ho⟩
 refine⟨_,rfl,dP,λl5 hl5=>?_⟩
 exists hl5,.lst [],J4,l5,s5,w5,J5
 have k15:=k14.trans s5.keep
 have t15:=kT d1 k15
 have py5:=av py λ_ _ z=>(show∃r,_/\jU J5 r _ from z.imp λr q=>⟨q.1,q.2.up t15⟩)
 have hy5:=k15 _ _ Z2 w1
 have d5:cN J5 k c4:=d4.keep λo e=>s5 _ _ e
 obtain⟨a1,q1⟩:=(fe hy5 (eO (f:=λx:Nat×qt=>xK x.2) (λv x ⟨r,z1,z2⟩=>by rw[z1];exact zG z2) py5)).one
 obtain⟨a2,q2⟩:=(fe w5 dS).one
 have lay:Lay (.list (S.rows.map λx=>xK x.2)):=(Bd.list (n:=1000) (p:=15) (m:=31) (λd hd=>by
  obtain⟨x,hx,rfl⟩:=cS.mp hd
  exact Jx (sS.rows x hx).1) (by rw[aq];omega)).lay δ
 refine⟨a1,a2,_,_,q1,q2,lay,pU,_,rfl,?_⟩
 have ee:PyData.eqv (.list (S.rows.map λx=>xK x.2)) (.list [])=S.rows.isEmpty:=by
  rw[PyData.eqv]
  cases S.rows with
  |nil=>rfl
  |cons a l=>rw[bK,PyData.eqvAll];rfl
 rw[ee]
 have qd:∀{G:Hp} {c':Int},cN G k c'->ez k J5 G->c'<=c4+1->vB t0 t1 D [some (.ref k),some (.ref ow),some (.int w),some (.ref L),some (.str x),some (.ref t),v6,some (.ref L1),some (.ref r4),v9] G:=λ{G c'} dG kG lG=>go D mu H1 G k r4 _ _ _ _ _ _ _ _ c c' pc dG ω ω (Z3.trans (s5.keep.trans kG)) (Ib dG (Z3.trans (s5.keep.trans kG))) ((hP.same s5).up (kT d5 kG)) oP cP fin
 by_cases e0:S.rows=[]
 .refine ite_no (by rw[e0];decide) ?_
  refine ite_no δ ?_
  exact qd d5 (ez.refl _ _) ω
 .have aaz:0<S.rows.length:=List.length_pos_iff.mpr e0
  refine ite_yes (by simp[e0]) ?_
  refine pk rfl d5 ω δ δ λr6 c6 J6 k6 d6 e6 g6 l6=>?_
  refine⟨_,_,rfl,rfl,_,rfl,?_⟩
  refine eP (λq=>?_) (λq=>qd d6 k6 e6)
  have hy6:=k6 _ _ Z2 hy5
  refine⟨_,rfl,_,rfl,_,rfl,_,rfl,L1,ys,rfl,.inl (cT.of hy6),k,c6,_,rfl,d6,ω,ω,ω,λr7 c7 J7 k7 d7 e7 g7 l7=>?_⟩
  have hrl:r7.toNat<S.rows.length:=ω
  obtain⟨u,eu,rp,rfl,hrp⟩:=eJ py5 r7.toNat hrl
  have Fe:qA ys r7=some (.ref rp):=by
   unfold qA KI
   rw[aQ g7,aQ ω]
   exact eu
  have t57:Tk J5 J7:=(kT d5 k6).trans (kT d6 k7)
  have ro:=sS.rows _ (cB hrl)
  refine⟨L1,ys,r7,.ref rp,rfl,rfl,cT.of (k7 _ _ Z2 hy6),Fe,k,rp,c7,_,rfl,d7,ω,hrp.up t57,ro.1,ro.2,λt8 p8 m8 y8 c8 J8 k8 d8 e8 hP8 oP8 x8=>?_⟩
  have k08:=Z3.trans (s5.keep.trans (k6.trans (k7.trans k8)))
  exact go D mu H1 J8 k t8 _ _ _ _ _ _ _ _ c c8 p8 d8 ω ω k08 (Ib d8 k08) hP8 oP8 (x8.Uh ro.2) fin
def DQ:Sp:=λvs H Q _=>∃(k ow ra pa pl ll:ai) (us:List V) (S:Cs) (m:Nat) (c:Int) (mu:List ai),vs=[.ref k,.ref ow]/\cN H k c/\c<=4000/\H ow=some (.dK (jm ra pa S.n pl ll))/\H pa=some (.lst us)/\Paired (jV H) us S.rows/\St S m/\m<=31/\k≠pa/\(∀x∈mu,∃o,H x=some o)/\
 ∀t De c' H',ez k H H'->cN H' k c'->c'<=c+300->kI mu H' t De->Q (.ref t) H'
def MY (F:ji K "_law_deed" "_law_deed" gs f fd) (T:Txt mg) (DP:Df P w K mg base 1 "_law_pick" ["deck","many"] gF) (DW:Df P w K mg base 2 "_law_weight" ["deck"] PF) (DC:Df P w K mg base 2 "_law_piece" ["deck","names"] PQ) (DX:Df P w K mg base 2 "_law_exchanged" ["deck","piece"] QQ):dW P w K mg base fT 4 f fd ["deck","own"] DQ:=by
 exists F.ok,lJ
 .obtain⟨k,ow,ra,pa,pl,ll,us,S,m,c,mu,rfl,_⟩:=h
  rfl
 .obtain⟨k,ow,ra,pa,pl,ll,us,S,m,c,mu,rfl,dk,c4,hd,xn,pr,sS,GQ,nk,st,hQ⟩:=h
  obtain⟨r0,r1,r2,r3,t0,t1,t2,t3,e0,e1,e2,e3,p0,p1,p2,p3,Z4⟩:=dd0 (outer:=outer) (s:=s) (H:=H) (E:=E) hr DP DW
  obtain⟨r4,t4,e4,p4,Z5⟩:=dd4 (outer:=outer) (s:=s) (H:=H) (E:=E) hr DP T
  obtain⟨r5,t5,e5,p5,Z6⟩:=dd5 (outer:=outer) (s:=s) (H:=H) (E:=E) hr DP T
  obtain⟨r6,t6,e6,p6,Z7⟩:=dd6 (outer:=outer) (s:=s) (H:=H) (E:=E) hr DP T
  obtain⟨r7,t7,e7,p7,go7⟩:=dd7 (outer:=outer) (s:=s) (H:=H) (E:=E) hr DP T DC DX
  obtain⟨r8,t8,e8,p8,go8⟩:=dd8 (outer:=outer) (s:=s) (H:=H) (E:=E) hr DP T
  obtain⟨r9,t9,e9,p9,go9⟩:=dd9 (outer:=outer) (s:=s) (H:=H) (E:=E) hr DP T
  have be:=Rt
  rw[e0,e1,e2,e3,e4,e5,e6,e7,e8,e9] at be
  refine⟨_,by rw[be];exact au p0 (au p1 (au p2 (au p3 (au p4 (au p5 (au p6 (au p7 (au p8 (aF p9))))))))),?_⟩
  refine Z4 _ _ H k _ _ _ _ _ _ _ _ _ c dk ω λw L x t y i c1 H1 w0 w18 k1 l1 nL F4=>?_
  have nw:ow≠k:=λz=>by
   obtain⟨⟨_,_,q,_⟩,_⟩:=dk;rw[z,q] at hd;cases hd
  have hd1:=k1 _ _ nw hd
  have Z8:=kT dk k1
  have Rh:=k1 _ _ (cD nk) xn
  have WO:=av pr λ_ _ z=>z.up Z8
  have WK:∀x∈mu,∃o,H1 x=some o:=λx hx=>by
   obtain⟨o,ho⟩:=st x hx
   by_cases e:x=k
   .rw[e];exact F4.dk.some
   .exact⟨o,k1 _ _ e ho⟩
  have og:∀G,a_ H1 G->h_ G ow (kV (.inr "pieces")) (some (.ref pa))/\h_ G ow (kV (.inr "count")) (some (.int S.n)):=λG sG=>by
   have a:=h_.k (k:=.inr "pieces") (sG _ _ hd1)
   have b:=h_.k (k:=.inr "count") (sG _ _ hd1)
   rw[xb] at a
   rw[Dy] at b
   exact⟨a,b⟩
  have fin:∀t De c' H2,ez k H1 H2->cN H2 k c'->c'<=c1+200->kI mu H2 t De->Q (.ref t) H2:=λt De c' H2 k2 d2 l2 dK=>hQ t De c' H2 (k1.trans k2) d2 ω dK
  refine Z5 _ mu H1 k L t _ _ _ _ _ w c1 x y i F4 ω WK (λw4=>?_) fin
  refine Z6 _ mu H1 k L t _ _ _ _ _ w c1 x y i F4 ω (λw5=>?_) fin
  refine Z7 _ mu H1 k L t _ _ _ _ _ w c1 x y i F4 ω (λw6=>?_) fin
  refine go7 _ mu H1 k L t _ _ _ _ w c1 x y i ow pa us S m F4 ω WK og Rh WO sS GQ (λw7=>?_) fin
  refine go8 _ mu H1 k L t _ _ _ _ w c1 x y i ow pa us S m F4 ω og Rh WO sS GQ (λw8=>?_) fin
  exact go9 _ mu H1 k L t _ _ _ _ _ w c1 x y i F4 ω w8 w18 fin
end
abbrev iM:Stmt:=top 58
abbrev sg:List Str:=["script","club","own","cell","deck","told","many","last","what"]
def jn (i:Nat):Stmt:=(fC iM).getD i (.Pass ⟨0,0,0,0⟩)
def Kt:fC iM=[jn 0,jn 1,jn 2,jn 3,jn 4,jn 5,jn 6]:=rfl
def sh:bW sg ["script"] (aw iM):={}
def md (i:Nat):Stmt:=match jn 2 with
 | .For _ _ b _ _=>b.getD i (.Pass ⟨0,0,0,0⟩)
 |_=>.Pass ⟨0,0,0,0⟩
def S0:Cs:=⟨[],[],0⟩
def Ku (x:Nat×qt):∀l:Rows,(GC x l).length<=l.length
 | []=>ar _
 |y::ys=>by
  rw[GC,aK,cI]
  have:=Ku x ys
  have:(zA x.1 y.1 (wX x.2 y.2)).length<=1:=by cases wX x.2 y.2<;>simp[zA]
  omega
def Kv:∀(l:Rows) (n:Nat),l.length<=n->(uJ l).length<=n*l.length
 | [],n,_=>by simp[uJ]
 |x::xs,n,h=>by
  rw[uJ,aK,cI,Nat.mul_succ]
  rw[cI] at h
  have:=Ku x xs
  have:=Kv xs n ω
  omega
def pM (sts:List Cs) (S:Cs) (cG:List Cs):List Cs:=sts++ [S]++cG.reverse
structure WI (n:Nat) (L:List Cs):Prop where
 all:∀T∈L,St T n
 len:L.length<=n+1
def sk (sts:List Cs) (S:Cs) (cG:List Cs):(pM sts S cG).length=sts.length+1+cG.length:=by unfold pM;simp;omega
def WI.s (h:WI n (pM sts S cG)):St S n:=h.all S (by unfold pM;simp)
def WI.ok (h:WI n (pM sts S cG)) (hn:n<=31):(∀T∈sts,Q4 T)/\(∀T∈cG,Q4 T)/\sts.length<=31/\cG.length<=31:=by
 have l:=h.len
 rw[sk] at l
 exact⟨λT hT=>(h.all T (by unfold pM;simp[hT])).sok ω,λT hT=>(h.all T (by unfold pM;simp[hT])).sok ω,ω,ω⟩
def WI.mono (h:WI n L) (l:n<=n'):WI n' L:=⟨λT hT=>(h.all T hT).mono l,by have:=h.len;omega⟩
def WI.stp (h:WI n (pM sts S cG)) (p:Bp D sts S cG o fN S' fJ):WI (n+1) (pM fN S' fJ):=by
 cases p with
 |no l=>exact h.mono (dN _)
 |st l=>
  refine⟨λT hT=>?_,?_⟩
  .unfold pM at hT
   rw[List.reverse_nil,eR] at hT
   rcases dq.mp hT with z|z
   .exact(h.all T (by unfold pM;exact jJ _ z)).mono (dN _)
   .rw[bV.mp z];exact l.ok h.s
  .have:=h.len
   rw[sk] at this⊢
   simp only[aK,aJ,i_]
   omega
 |b0=>exact h.mono (dN _)
 |a0=>exact h.mono (dN _)
 |b=>have:=h.mono (dN n);unfold pM at*;simpa using this
 |a=>have:=h.mono (dN n);unfold pM at*;simpa using this
def MZ (h:pM fN S' fJ=pM sts S cG) (l:fN.length=sts.length):fN=sts/\S'=S/\fJ=cG:=by
 unfold pM at h
 rw[hU,hU] at h
 obtain⟨h1,h2⟩:=List.append_inj h l
 rw[List.singleton_append,List.singleton_append] at h2
 obtain⟨h3,h4⟩:=List.cons.inj h2
 exact⟨h1,h3,by simpa using iD List.reverse h4⟩
def Kw (sts:List Cs) (S:Cs) (cG:List Cs):∃o fN S' fJ,Bp .back sts S cG o fN S' fJ/\pM fN S' fJ=pM sts S cG/\fN.length=sts.length-1:=by
 rcases vc sts with rfl|⟨s',T,rfl⟩
 .exact⟨_,_,_,_,.b0,rfl,rfl⟩
 .exact⟨_,_,_,_,.b,by unfold pM;simp,ς⟩
def G0 (sts:List Cs) (S:Cs) (cG:List Cs) (h:0<cG.length):∃o fN S' fJ,Bp .again sts S cG o fN S' fJ/\pM fN S' fJ=pM sts S cG/\fN.length=sts.length+1:=by
 rcases vc cG with rfl|⟨s',T,rfl⟩
 .exact absurd h δ
 .exact⟨_,_,_,_,.a,by unfold pM;simp,ς⟩
abbrev nR (ow pl ll cb sl lc:ai):List ai:=[ow,pl,ll,cb,sl,lc]
def vf {H:Hp}{cb sl lc iY ow pl ll x:ai}(h:H x=some o) (n:x∉nR ow pl ll cb sl lc) (f:iY=lc\/H iY=none):x∉nR ow pl ll cb sl iY:=λz=>by
 rcases f with e|e
 .rw[e] at z;exact n z
 .simp only[aD,aN,cy,ux] at z n
  rcases z with z|z|z|z|z|z
  .exact n.1 z
  .exact n.2.1 z
  .exact n.2.2.1 z
  .exact n.2.2.2.1 z
  .exact n.2.2.2.2.1 z
  .rw[z,e] at h;cases h
structure Lw (C:ai) (H:Hp) (cb sl lc ow pl ll:ai) (sts:List Cs) (S:Cs) (cG:List Cs) (p:ai) (xs:List V) (n:Nat):Prop where
 wd:Wd C H cb sl lc ow pl ll sts S cG
 hp:H p=some (.lst xs)
 mp:p∉nR ow pl ll cb sl lc
 wi:WI n (pM sts S cG)
section
variable {C:ai}{H H':Hp}{cb sl lc iY ow pl ll:ai}{sts fN:List Cs}{S S':Cs}{cG fJ:List Cs}{p:ai}{xs:List V}{n n':Nat}
def Lw.same (h:Lw C H cb sl lc ow pl ll sts S cG p xs n) (s:a_ H H'):Lw C H' cb sl lc ow pl ll sts S cG p xs n:=⟨h.wd.same s,s _ _ h.hp,h.mp,h.wi⟩
def Lw.step (h:Lw C H cb sl lc ow pl ll sts S cG p xs n) (kp:oH (nR ow pl ll cb sl lc) H H') (f:iY=lc\/H iY=none) (W:Wd C H' cb sl iY ow pl ll fN S' fJ) (wi:WI n' (pM fN S' fJ)):Lw C H' cb sl iY ow pl ll fN S' fJ p xs n':=⟨W,kp _ _ h.mp h.hp,vf h.hp h.mp f,wi⟩
def Wd.new (W:Wd C H cb sl lc ow pl ll sts S cG) (n:H p=none):p∉nR ow pl ll cb sl lc:=λz=>by
 obtain⟨o,e⟩:=W.Kk p z
 rw[n] at e;cases e
end
def lK (mu:List ai) (H:Hp) (tl:ai) (S:Cs):Prop:=∃ra pa,H tl=some (.tup [.ref ra,.ref pa])/\J0 mu H ra pa S
def lK.step {cb sl lc iY ow pl ll tl:ai}(h:lK (nR ow pl ll cb sl lc) H tl S) (kp:oH (nR ow pl ll cb sl lc) H H') (tk:Tk H H') (f:iY=lc\/H iY=none):lK (nR ow pl ll cb sl iY) H' tl S:=by
 obtain⟨ra,pa,h1,ws,us,m2,m3,h3,h4,h5,h6⟩:=h
 exact⟨ra,pa,tk _ _ h1,ws,us,vf h3 m2 f,vf h5 m3 f,kp _ _ m2 h3,av h4 λ_ _ z=>z.up tk,kp _ _ m3 h5,av h6 λ_ _ z=>z.up tk⟩
def Kx (S:Cs):PyData:=.tuple [.list (S.bx.map qP),.list (S.rows.map JO)]
def M_ (S:Cs):PyData.eqv (Kx S) (Kx S)=true:=by
 unfold Kx
 rw[PyData.eqv,PyData.eqvAll,PyData.eqvAll,PyData.eqvAll,pF zH,pF JQ];simp
def Ff (h:w_ S):Lay (Kx S):=by
 refine(Bd.tuple (n:=200101) (p:=17) (m:=2) (ds:=[.list (S.bx.map qP),.list (S.rows.map JO)]) (λx hx=>?_) (ar 2)).lay δ
 simp only[aD,aN,cy] at hx
 rcases hx with rfl|rfl
 .exact(zI h.bx (aA h.lc δ)).mono δ δ
 .exact zJ h.rows h.num (aA h.lr δ)
def Fg (h:lK mu H tl S):rg H (Kx S) (.ref tl):=by
 obtain⟨ra,pa,h1,ws,us,m2,m3,h3,h4,h5,h6⟩:=h
 exact fZ h1 (aU (fe h3 (eO qQ h4)) (aU (fe h5 (eO tX h6)) dS))
section
variable {P:aM}{w:bB}{K:Φ}{mg:Str->Option ag}{base:Heap}
def WQ (P:aM) (w:bB) (K:Φ) (mg:Str->Option ag) (base:Heap) (C:ai):Prop:=∃f fd,Mk K C f/\dW P w K mg base fT 1 f fd ["self"] (Dq C)/\Binds K fd ["self"] []/\mg "Club"=some (.ref C)
def Na (D:WQ X.prog X.w X.K X.mg X.base C) (hr:eS 2 X.A) (hg:Gl X "Club":=by rfl):PE X (.Call (.Name "Club" p) [] [] pos) (Nv C (Dq C) [] E0 fE):=by
 obtain⟨f,fd,M,F,b,m⟩:=D
 exact HJ M F hr hg m b .nil Aw
def Rw (D:Df X.prog X.w X.K X.mg X.base k x [] sp) (hr:eS k X.A) (hg:Gl X x:=by rfl) (qy:(x==("__debug__":Str))=false:=by decide):PE X (.Call (.Name x p) [] [] pos) (lV sp [] E0 fE):=by
 obtain⟨f,fd,F,b,kp,m⟩:=D
 exact HG F hr hg m kp b .nil Aw qy
def lw0 (hr:eS 7 (A.deeper (Ψ "law" (aw iM) s.heap.objs.size f cdv))) (DC:WQ P w K mg base C):∃r t,jn 0=r/\PS ((eY fT P w K mg base sg "law" (aw iM) f cdv A outer s H E).lg) r t/\∀(D:Ends) (H1:Hp) (v0 v1 v2 v3 v4 v5 v6 v7 v8:Option V),(∀cb sl lc H2,a_ H1 H2->e_ C H2 cb sl lc ([]++ [S0]) []->D.nx [v0,some (.ref cb),v2,v3,v4,v5,v6,v7,v8] H2)->t D [v0,v1,v2,v3,v4,v5,v6,v7,v8] H1:=by
 refine⟨_,_,rfl,ku (i:=1) sh.nd (Na DC (hr.mono δ)),?_⟩
 intro D H1 v0 v1 v2 v3 v4 v5 v6 v7 v8 nx
 intro cb dx hc hd nd
 refine⟨cb,dx,rfl,aB,λsl lc H2 k2 Wt Hg g1=>⟨rfl,?_⟩⟩
 have u:∀b o,H1 b=some o->upd (upd H1 dx (.own cb)) cb (.ins C dx []) b=some o:=λb o e=>by
  rw[aV (gW e hc),aV (gW e hd)];exact e
 exact nx cb sl lc H2 (λb o e=>k2 _ _ (gW e hc) (u _ _ e)) g1
def lw1 (hr:eS 7 (A.deeper (Ψ "law" (aw iM) s.heap.objs.size f cdv))) (DO:Df P w K mg base 1 "_law_club" [] Kl):∃r t,jn 1=r/\PS ((eY fT P w K mg base sg "law" (aw iM) f cdv A outer s H E).lg) r t/\∀(D:Ends) (H1:Hp) (v0 v2 v3 v4 v5 v6 v7 v8:Option V) (cb sl lc:ai),e_ C H1 cb sl lc ([]++ [S0]) []->(∀ow pl ll H2,a_ H1 H2->Wd C H2 cb sl lc ow pl ll [] S0 []->D.nx [v0,some (.ref cb),some (.ref ow),v3,v4,v5,v6,v7,v8] H2)->t D [v0,some (.ref cb),v2,v3,v4,v5,v6,v7,v8] H1:=by
 refine⟨_,_,rfl,ku (i:=2) sh.nd (Rw DO (hr.mono δ)),?_⟩
 intro D H1 v0 v2 v3 v4 v5 v6 v7 v8 cb sl lc cl nx
 refine⟨rfl,λow ra pa pl ll H2 N=>?_⟩
 obtain⟨⟨_,_,j1⟩,⟨_,j2⟩,⟨_,j3⟩⟩:=cl.kinds
 obtain⟨n1,n2,n3,n4,n5⟩:=N.no
 obtain⟨m1,m2,m3,m4,m5⟩:=N.ne
 have mem:∀{x:ai},H1 x=none->H2 x=some (.lst [])->x≠pl->x≠ll->x∉ [ow,pl,ll,cb,sl,lc]:=λ{x} e0 e1 e2 e3=>by
  simp only[aD,aN,cy,ux]
  exact⟨(lI N.d e1).symm,e2,e3,(gW j1 e0).symm,(gW j2 e0).symm,(gW j3 e0).symm⟩
 exact nx ow pl ll H2 N.s ⟨cl.same N.s,⟨ra,pa,[],[],N.d,⟨[],[],mem n2 N.Fc m2 m3,mem n3 N.xn m4 m5,N.Fc,.nil,N.xn,.nil⟩,N.ky,.nil,N.nY,.nil⟩,m1,(gW j2 n4).symm,(gW j3 n4).symm,(gW j2 n5).symm,(gW j3 n5).symm⟩
def lb0 {f:ai}{cdv:ag}{A:bG}{outer:List Env}{s:aj}{H:Hp}{E:XK}{C:ai}(hr:eS 7 (A.deeper (Ψ "law" (aw iM) s.heap.objs.size f cdv))) (DK:Df P w K mg base 1 "_law_deck" ["cell","turn"] C3):∃r t,md 0=r/\PS ((eY fT P w K mg base sg "law" (aw iM) f cdv A outer s H E).lg) r t/\∀(D:Ends) (H1:Hp) (v0 v1 v2 v4 v5 v6 v7 v8:Option V) (cell:Int),(∀k H2,H1 k=none->a_ H1 H2->cN H2 k 510->D.nx [v0,v1,v2,some (.int cell),some (.ref k),v5,v6,v7,v8] H2)->t D [v0,v1,v2,some (.int cell),v4,v5,v6,v7,v8] H1:=by
 refine⟨_,_,rfl,ku (i:=4) sh.nd (cC DK (hr.mono δ) (ae (pv 3) (ae ao ah))),?_⟩
 intro D H1 v0 v1 v2 v4 v5 v6 v7 v8 cell nx
 exact⟨_,rfl,cell,510,rfl,δ,λk H2 h1 h2 h3=>nx k H2 h1 h2 h3⟩
def lb1 (hr:eS 7 (A.deeper (Ψ "law" (aw iM) s.heap.objs.size f cdv))) (DE:Df P w K mg base 4 "_law_deed" ["deck","own"] DQ) (DR:Df P w K mg base 6 "_law_deed_right" ["own","club","what"] (MV C)):∃r t,md 1=r/\PS ((eY fT P w K mg base sg "law" (aw iM) f cdv A outer s H E).lg) r t/\∀(D:Ends) (H0 H1:Hp) (v0 v3 v5 v6 v7 v8:Option V) (k:ai) (cb sl lc ow pl ll p:ai) (sts:List Cs) (S:Cs) (cG:List Cs) (xs:List V) (n:Nat),Lw C H0 cb sl lc ow pl ll sts S cG p xs n->n<=30->H0 k=none->a_ H0 H1->cN H1 k 510->(∀iY fN S' fJ H2,Lw C H2 cb sl iY ow pl ll fN S' fJ p xs (n+1)->D.nx [v0,some (.ref cb),some (.ref ow),v3,some (.ref k),v5,v6,v7,v8] H2)->t D [v0,some (.ref cb),some (.ref ow),v3,some (.ref k),v5,v6,v7,v8] H1:=by
 refine⟨_,_,rfl,cQ (fO (fM (cC DR (hr.mono δ) (ae (pv 2) (ae (pv 1) (ae (cC DE (hr.mono δ) (ae (pv 4) (ae (pv 2) ah))) ah)))))) mP bN,?_⟩
 intro D H0 H1 v0 v3 v5 v6 v7 v8 k cb sl lc ow pl ll p sts S cG xs n L hn hk s1 dk nx
 obtain⟨ra,pa,vs,ws,O⟩:=L.wd.own
 obtain⟨qO,Ob,_,_,a3,a4,a5,a6⟩:=O.now
 have st0:=L.wd.Kk
 refine⟨_,rfl,_,rfl,_,rfl,_,rfl,k,ow,ra,pa,pl,ll,Ob,S,n,510,[ow,pl,ll,cb,sl,lc],rfl,dk,δ,s1 _ _ O.d,s1 _ _ a5,av a6 λ_ _ z=>z.up (eV s1),L.wi.s,ω,(gW a5 hk).symm,λx hx=>(st0 x hx).imp λo e=>s1 _ _ e,λt De c' H2 k2 d2 _ dK=>?_⟩
 have s2:a_ H0 H2:=λx o e=>k2 _ _ (gW e hk) (s1 _ _ e)
 have L2:=L.same s2
 obtain⟨o,fN,S',fJ,sp⟩:=MO (sts:=sts) (S:=S) (cG:=cG) (dK H2 oH.refl (λ_ _ e=>e)) L.wi.s.lc
 obtain⟨Hi,Hj,l1,l2⟩:=L.wi.ok ω
 refine⟨cb,sl,lc,ow,pl,ll,t,_,sts,S,cG,De,n,o,fN,S',fJ,rfl,L2.wd,Hi,Hj,ω,ω,dK,ς,L.wi.s,ω,sp,λiY H3 k3 t3 f3 W3=>⟨_,rfl,?_⟩⟩
 refine ite_no δ ?_
 exact nx iY fN S' fJ H3 (L2.step k3 f3 W3 (L.wi.stp sp))
def lb2 (hr:eS 7 (A.deeper (Ψ "law" (aw iM) s.heap.objs.size f cdv))) (DR:zv P w K mg base 1 C "rowers" ["self"] (wW C)) (DI:zv P w K mg base 1 C "pieces" ["self"] (Bg C)) (DT:zv P w K mg base 5 C "trials" ["self"] (EW C)):∃r t,md 2=r/\PS ((eY fT P w K mg base sg "law" (aw iM) f cdv A outer s H E).lg) r t/\∀(D:Ends) (H1:Hp) (v0 v2 v3 v4 v5 v6 v7 v8:Option V) (cb sl lc ow pl ll p:ai) (sts:List Cs) (S:Cs) (cG:List Cs) (xs:List V) (n:Nat),Lw C H1 cb sl lc ow pl ll sts S cG p xs n->n<=31->(∀Z9 H2,a_ H1 H2->D.nx [v0,some (.ref cb),v2,v3,v4,Z9,v6,v7,v8] H2)->t D [v0,some (.ref cb),v2,v3,v4,v5,v6,v7,v8] H1:=by
 refine⟨_,_,rfl,mi eX rfl (iq (bQ (ae (pE DR (hr.mono δ) (pv 1)) (ae (pE DI (hr.mono δ) (pv 1)) (ae (pE DT (hr.mono δ) (pv 1)) ah))))) (aZ (i:=5) sh.nd) (aF (gA (ql cx eA eB gE (pv 5) (ae jg ah)))),?_⟩
 intro D H1 v0 v2 v3 v4 v5 v6 v7 v8 cb sl lc ow pl ll p sts S cG xs n L hn nx
 have cl:=L.wd.cl
 obtain⟨dx,_,_,c1,_⟩:=id cl
 have sS:=L.wi.s
 have lr:=sS.lr
 have l8:=sS.lc
 refine⟨_,rfl,cb,dx,_,rfl,c1,rfl,cb,sl,lc,S,sts,cG,rfl,cl,λp1 u1 Jl WO=>?_⟩
 have lu1:=bS WO
 exists Jl,.lst u1,H1,p1,s2,w2,H2
 refine⟨_,rfl,cb,dx,_,rfl,s2 _ _ c1,rfl,cb,sl,lc,S,sts,cG,rfl,cl.same s2,λp2 u2 Pl pr2=>?_⟩
 have lu2:=bS pr2
 exists Pl,.lst u2,H2,p2,s3,w3,H3
 have s13:=s2.trans s3
 refine⟨_,rfl,cb,dx,_,rfl,s13 _ _ c1,rfl,cb,sl,lc,S.rows,S,sts,cG,rfl,cl.same s13,rfl,sS.rows,ω,λp3 u3 H4 WJ s4 w4 pr3=>?_⟩
 have lu3:=bS pr3
 have Jw:=s13.trans s4
 refine⟨dP,λtz htz=>?_⟩
 exists htz,.tup [.ref p1,.ref p2,.ref p3],H4,tz,s5,w5,H5
 have Z_:=Jw.trans s5
 have n2:=cK s2 Pl
 have n3:=cK s13 WJ
 have al:(uJ S.rows).length<=31*31:=aA (Kv S.rows 31 ω) (yG _ ω)
 refine⟨tz,rfl,⟨_,bZ.of w5⟩,yW (K:=K) (a:=tz) (xs:=[.ref p1,.ref p2,.ref p3]) (λi bX H'=>∃Z9,bX=[v0,some (.ref cb),v2,v3,v4,Z9,v6,v7,v8]/\a_ H1 H'/\H' tz=some (.tup [.ref p1,.ref p2,.ref p3])/\∀q∈[p1,p2,p3],∃us,H' q=some (.lst us)/\us.length<=990+i) ⟨_,rfl,Z_,w5,λq hq=>?_⟩ (λi bX H' _ h=>by obtain⟨_,_,_,e,_⟩:=h;exact bZ.of e) ?_ ?_⟩
 .simp only[aD,aN,cy] at hq
  rcases hq with rfl|rfl|rfl
  .exact⟨u1,s5 _ _ (s4 _ _ (s3 _ _ w2)),ω⟩
  .exact⟨u2,s5 _ _ (s4 _ _ w3),ω⟩
  .exact⟨u3,s5 _ _ w4,ω⟩
 .rintro i y bX H6 hi ⟨w5',rfl,s6,UO,h6⟩
  have hy:∃q,y=.ref q/\q∈[p1,p2,p3]/\H1 q=none:=by
   have:=nj hi
   simp only[aD,aN,cy] at this
   rcases this with rfl|rfl|rfl
   .exact⟨p1,rfl,ς,Jl⟩
   .exact⟨p2,rfl,ς,n2⟩
   .exact⟨p3,rfl,ς,n3⟩
  obtain⟨q,rfl,hq,nq⟩:=hy
  obtain⟨us,e6,l6⟩:=h6 q hq
  have hi3:i<3:=(br.mp hi).1
  refine⟨_,rfl,.inl ⟨rfl,_,cT.of e6⟩,q,us,.eK,rfl,rfl,e6,dD ω,?_⟩
  refine⟨_,rfl,λx o e=>by rw[aV (gW e nq)];exact s6 _ _ e,by rw[aV (λz=>by rw[z,e6] at UO;cases UO)];exact UO,λq' FH=>?_⟩
  by_cases e:q'=q
  .rw[e];exact⟨_,aB,by rw[aK,aJ];omega⟩
  .obtain⟨nW,e7,l7⟩:=h6 q' FH
   exact⟨nW,by rw[aV e];exact e7,ω⟩
 .rintro bX H6 ⟨w5',rfl,s6,_⟩
  exact nx _ H6 s6
def lb3 (hr:eS 7 (A.deeper (Ψ "law" (aw iM) s.heap.objs.size f cdv))) (DS:Df P w K mg base 6 "_law_stands_right" ["own","club"] (Ki C)):∃r t,md 3=r/\PS ((eY fT P w K mg base sg "law" (aw iM) f cdv A outer s H E).lg) r t/\∀(D:Ends) (H1:Hp) (v0 v3 v4 v5 v6 v7 v8:Option V) (cb sl lc ow pl ll p:ai) (sts:List Cs) (S:Cs) (cG:List Cs) (xs:List V) (n:Nat),Lw C H1 cb sl lc ow pl ll sts S cG p xs n->n<=31->(∀H2,a_ H1 H2->D.nx [v0,some (.ref cb),some (.ref ow),v3,v4,v5,v6,v7,v8] H2)->t D [v0,some (.ref cb),some (.ref ow),v3,v4,v5,v6,v7,v8] H1:=by
 refine⟨_,_,rfl,cQ (fO (fM (cC DS (hr.mono δ) (ae (pv 2) (ae (pv 1) ah))))) mP bN,?_⟩
 intro D H1 v0 v3 v4 v5 v6 v7 v8 cb sl lc ow pl ll p sts S cG xs n L hn nx
 refine⟨_,rfl,_,rfl,cb,sl,lc,ow,pl,ll,sts,S,cG,n,rfl,L.wd,L.wi.s,hn,λH2 s2=>⟨_,rfl,?_⟩⟩
 exact ite_no δ (nx H2 s2)
end
def wcd_mk (h:clsIn K C=some cd) (h2:cd.hasDict=true) (h3:∀self:ag,refuseLoop self "__setattr__" cd.mro=pure ()):∃cd,clsIn K C=some cd/\cd.hasDict=true/\∀self:ag,refuseLoop self "__setattr__" cd.mro=pure ():=⟨cd,h,h2,h3⟩
section
variable {P:aM}{w:bB}{K:Φ}{mg:Str->Option ag}{base:Heap}
def qT {ow ra pa pl ll:ai}{vs ws:List V} (O:mZ mu G ow ra pa pl ll vs ws sts S cG):h_ G ow (kV (.inr "rowers")) (some (.ref ra))/\h_ G ow (kV (.inr "pieces")) (some (.ref pa))/\h_ G ow (kV (.inr "past")) (some (.ref pl)):=by
 have a:=h_.k (k:=.inr "rowers") O.d
 have b:=h_.k (k:=.inr "pieces") O.d
 have c:=h_.k (k:=.inr "past") O.d
 rw[zM] at a
 rw[xb] at b
 rw[pH] at c
 exact⟨a,b,c⟩
def lw3 (hr:eS 7 (A.deeper (Ψ "law" (aw iM) s.heap.objs.size f cdv))) (T:Txt mg):∃r t,jn 3=r/\PS ((eY fT P w K mg base sg "law" (aw iM) f cdv A outer s H E).lg) r t/\∀(D:Ends) (H1:Hp) (v0 v1 v3 v4 v5 v6 v7 v8:Option V) (cb sl lc ow pl ll:ai) (sts:List Cs) (S:Cs) (cG:List Cs),Wd C H1 cb sl lc ow pl ll sts S cG->D.nx [v0,v1,some (.ref ow),v3,v4,v5,some (.int sts.length),v7,v8] H1->t D [v0,v1,some (.ref ow),v3,v4,v5,v6,v7,v8] H1:=by
 have hu:=bb (dY (by decide:1<=64) _) hr.units
 refine⟨_,_,rfl,ku (i:=6) sh.nd (aR bO rfl T.len bC (ae (eM hu (pv 2) aW) ah)),?_⟩
 intro D H1 v0 v1 v3 v4 v5 v6 v7 v8 cb sl lc ow pl ll sts S cG W nx
 obtain⟨ra,pa,vs,ws,O⟩:=W.own
 have lu:=bS O.pp
 rw[<-lu] at nx
 exact⟨_,rfl,ow,_,rfl,(qT O).2.2,pl,vs,rfl,.inl (cT.of O.ky),nx⟩
def lw4 (hr:eS 7 (A.deeper (Ψ "law" (aw iM) s.heap.objs.size f cdv))):∃r t,jn 4=r/\PS ((eY fT P w K mg base sg "law" (aw iM) f cdv A outer s H E).lg) r t/\∀(D:Ends) (H1:Hp) (v0 v1 v3 v4 v5 v6 v7 v8:Option V) (cb sl lc ow pl ll:ai) (sts:List Cs) (S:Cs) (cG:List Cs),Wd C H1 cb sl lc ow pl ll sts S cG->(∀tl H2,a_ H1 H2->lK (nR ow pl ll cb sl lc) H2 tl S->D.nx [v0,v1,some (.ref ow),v3,v4,v5,v6,some (.ref tl),v8] H2)->t D [v0,v1,some (.ref ow),v3,v4,v5,v6,v7,v8] H1:=by
 have hu:=bb (dY (by decide:1<=64) _) hr.units
 refine⟨_,_,rfl,ku (i:=7) sh.nd (bQ (ae (eM hu (pv 2) aW) (ae (eM hu (pv 2) aW) ah))),?_⟩
 intro D H1 v0 v1 v3 v4 v5 v6 v7 v8 cb sl lc ow pl ll sts S cG W nx
 obtain⟨ra,pa,vs,ws,O⟩:=W.own
 refine⟨_,rfl,ow,_,rfl,(qT O).1,_,rfl,ow,_,rfl,(qT O).2.1,dP,λtl htl=>?_⟩
 have s2:=aP htl (.tup [.ref ra,.ref pa])
 exact nx tl _ s2 ⟨ra,pa,aB,O.now.kp (fX s2) (eV s2)⟩
def kA {n a b:Nat}(hn:n<=31) (ln:a+1+b<=n+1):(-2^63<=(a:Int)+1/\(a:Int)+1<2^63/\1*((a:Int)+1).toNat<=1000)/\(-2^63<=(a:Int)/\(a:Int)<2^63/\1*(a:Int).toNat<=1000)/\a+1+a<=1000:=ω
def kB {a i:Nat}(h:i<a+1):a-i-1=if i+1<=a then a-(i+1) else i+1-(a+1):=by split<;>omega
def lw5 (hr:eS 7 (A.deeper (Ψ "law" (aw iM) s.heap.objs.size f cdv))) (DR:Df P w K mg base 6 "_law_deed_right" ["own","club","what"] (MV C)) (DS:Df P w K mg base 6 "_law_stands_right" ["own","club"] (Ki C)):∃r t,jn 5=r/\PS ((eY fT P w K mg base sg "law" (aw iM) f cdv A outer s H E).lg) r t/\∀(D:Ends) (H1:Hp) (v0 v3 v4 v5 v8:Option V) (tl:ai) (cb sl lc ow pl ll:ai) (sts:List Cs) (S:Cs) (cG:List Cs) (n:Nat),Wd C H1 cb sl lc ow pl ll sts S cG->WI n (pM sts S cG)->n<=31->lK (nR ow pl ll cb sl lc) H1 tl S->(∀VU iY fJ H2,Wd C H2 cb sl iY ow pl ll sts S fJ->lK (nR ow pl ll cb sl iY) H2 tl S->D.nx [v0,some (.ref cb),some (.ref ow),v3,v4,v5,some (.int sts.length),some (.ref tl),VU] H2)->t D [v0,some (.ref cb),some (.ref ow),v3,v4,v5,some (.int sts.length),some (.ref tl),v8] H1:=by
 have hu:=bb (dY (by decide:1<=64) _) hr.units
 refine⟨_,_,rfl,mi eX rfl (jz (bT lD (bT HW (cX (ae (bQ (ae aW ah)) ah)) (bT gi (pv 6) ao)) (bT HW (cX (ae (bQ (ae aW ah)) ah)) (pv 6)))) (aZ (i:=8) sh.nd) (au (cQ (fO (fM (cC DR (hr.mono δ) (ae (pv 2) (ae (pv 1) (ae (pv 8) ah)))))) mP bN) (aF (cQ (PW.pt (BW (bo (qH hr.units) (eM hu (pv 2) aW) (cX ah) (bP _)) (BW (bo (qH hr.units) (eM hu (pv 2) aW) (cX ah) (bP _)) (Ef (fO (fM (cC DS (hr.mono δ) (ae (pv 2) (ae (pv 1) ah))))))))) mP bN))),?_⟩
 intro D H1 v0 v3 v4 v5 v8 tl cb sl lc ow pl ll sts S cG n W wi hn LA nx
 have ln:=wi.len
 rw[sk] at ln
 refine⟨dP,λt1 h1=>?_⟩
 exists h1,.tup [.str "back"],H1,t1,s1,w1,M1
 refine⟨dP,λt2 h2=>?_⟩
 exists h2,.lst [.ref t1],M1,t2,s2,w2,M2
 refine⟨_,rfl,_,_,rfl,rfl,t2,((sts.length:Int)+1),_,rfl,rfl,w2,(kA hn ln).1.1,(kA hn ln).1.2.1,by show 1*_<=sizeLine;exact cR (dD (kA hn ln).1.2.2),λt3 h3=>?_⟩
 rw[show(((sts.length:Int)+1)).toNat=sts.length+1 from rfl,BP]
 exists h3,.lst (List.replicate (sts.length+1) (.ref t1)),M2,t3,s3,w3,M3
 refine⟨dP,λt4 h4=>?_⟩
 exists h4,.tup [.str "again"],M3,t4,s4,w4,M4
 refine⟨dP,λt5 h5=>?_⟩
 exists h5,.lst [.ref t4],M4,t5,s5,w5,M5
 refine⟨_,rfl,t5,(sts.length:Int),_,rfl,rfl,w5,(kA hn ln).2.1.1,(kA hn ln).2.1.2.1,by show 1*_<=sizeLine;exact cR (dD (kA hn ln).2.1.2.2),λt6 h6=>?_⟩
 rw[show((sts.length:Int)).toNat=sts.length from rfl,BP]
 exists h6,.lst (List.replicate sts.length (.ref t4)),M5,t6,s6,w6,M6
 refine⟨t3,t6,_,_,rfl,rfl,s6 _ _ (s5 _ _ (s4 _ _ w3)),w6,cR (dD (by rw[gL,gL];exact(kA hn ln).2.2)),λt7 h7=>?_⟩
 generalize ey:List.replicate (sts.length+1) (V.ref t1)++List.replicate sts.length (V.ref t4)=ys at*
 exists h7,.lst ys,M6,t7,s7,w7,M7
 have WR:=s1.trans (s2.trans (s3.trans (s4.trans (s5.trans s6))))
 have VW:=WR.trans s7
 have ly:ys.length=2*sts.length+1:=by rw[<-ey];simp;omega
 have b1:M7 t1=some (.tup [.str "back"]):=(s2.trans (s3.trans (s4.trans (s5.trans (s6.trans s7))))) _ _ w1
 have b4:M7 t4=some (.tup [.str "again"]):=(s5.trans (s6.trans s7)) _ _ w4
 have m7:t7∉nR ow pl ll cb sl lc:=(W.same WR).new h7
 refine⟨t7,rfl,⟨_,cT.of w7⟩,oS (K:=K) (a:=t7) (xs:=ys) (λi bX H'=>∃VU iY fN S' fJ,bX=[v0,some (.ref cb),some (.ref ow),v3,v4,v5,some (.int sts.length),some (.ref tl),VU]/\Wd C H' cb sl iY ow pl ll fN S' fJ/\pM fN S' fJ=pM sts S cG/\fN.length=(if i<=sts.length then sts.length-i else i-(sts.length+1))/\lK (nR ow pl ll cb sl iY) H' tl S/\H' t7=some (.lst ys)/\t7∉nR ow pl ll cb sl iY/\H' t1=some (.tup [.str "back"])/\H' t4=some (.tup [.str "again"])) ⟨_,lc,sts,S,cG,rfl,W.same VW,rfl,by rw[aQ (de _)];rfl,LA.step (fX VW) (eV VW) (.inl rfl),w7,m7,b1,b4⟩ (λi bX H' _ h=>by obtain⟨_,_,_,_,_,_,_,_,_,_,e,_⟩:=h;exact cT.of e) ?_ ?_⟩
 .rintro i y bX H4 hi ⟨w8',WS,DU,S4,DV,rfl,W4,et,el,LA4,hq4,m4,c1,c4⟩
  have wi4:WI n (pM DU S4 DV):=by rw[et];exact wi
  obtain⟨Hi,Hj,le1,le2⟩:=wi4.ok hn
  have aaa:=iD List.length et
  rw[sk,sk] at aaa
  obtain⟨t,De,o,Bv,S5,DY,rfl,dK,sp,et5,el5⟩:∃t De o Bv S5 DY,y=.ref t/\kI (nR ow pl ll cb sl WS) H4 t De/\Bp De DU S4 DV o Bv S5 DY/\pM Bv S5 DY=pM DU S4 DV/\Bv.length=(if i+1<=sts.length then sts.length-(i+1) else i+1-(sts.length+1)):=by
   rw[<-ey] at hi
   by_cases mS:i<sts.length+1
   .rw[Nj (by rw[gL];exact mS),sy,aQ mS] at hi
    cases hi
    obtain⟨o,a,b,c,h1,h2,h3⟩:=Kw DU S4 DV
    refine⟨t1,.back,o,a,b,c,rfl,λG _ tG=>tG _ _ c1,h1,h2,?_⟩
    rw[aQ (eG mS)] at el
    rw[h3,el]
    exact kB mS
   .rw[KR (by rw[gL];exact iV.mp mS),sy] at hi
    split at hi
    .rename_i hj
     rw[gL] at hj
     cases hi
     rw[aO λz=>mS (Nat.lt_succ_of_le z)] at el
     obtain⟨o,a,b,c,h1,h2,h3⟩:=G0 DU S4 DV ω
     refine⟨t4,.again,o,a,b,c,rfl,λG _ tG=>tG _ _ c4,h1,h2,?_⟩
     rw[h3,el,aO (show ¬i+1≤sts.length from λz=>mS (gk z))]
     exact(Nat.succ_sub (iV.mp mS)).symm
    .cases hi
  refine⟨_,rfl,_,rfl,_,rfl,cb,sl,WS,ow,pl,ll,t,_,DU,S4,DV,De,n,o,Bv,S5,DY,rfl,W4,Hi,Hj,ω,ω,dK,ς,wi4.s,hn,sp,λlc5 H5 k5 t5 f5 W5=>⟨_,rfl,?_⟩⟩
  refine ite_no δ ?_
  have wi5:WI n (pM Bv S5 DY):=by rw[et5];exact wi4
  have LA5:=LA4.step k5 t5 f5
  have hq5:=k5 _ _ m4 hq4
  have m5:=vf hq4 m4 f5
  have done:∀{G:Hp},a_ H5 G->∃VU iY fN S' fJ,[v0,some (V.ref cb),some (V.ref ow),v3,v4,v5,some (V.int sts.length),some (V.ref tl),some (V.ref t)]=[v0,some (.ref cb),some (.ref ow),v3,v4,v5,some (.int sts.length),some (.ref tl),VU]/\Wd C G cb sl iY ow pl ll fN S' fJ/\pM fN S' fJ=pM sts S cG/\fN.length=(if i+1<=sts.length then sts.length-(i+1) else i+1-(sts.length+1))/\lK (nR ow pl ll cb sl iY) G tl S/\G t7=some (.lst ys)/\t7∉nR ow pl ll cb sl iY/\G t1=some (.tup [.str "back"])/\G t4=some (.tup [.str "again"]):=λ{G} sG=>⟨_,lc5,Bv,S5,DY,rfl,W5.same sG,et5.trans et,el5,LA5.step (fX sG) (eV sG) (.inl rfl),sG _ _ hq5,m5,sG _ _ (t5 _ _ c1),sG _ _ (t5 _ _ c4)⟩
  obtain⟨ra,pa,vs,ws,O⟩:=W5.own
  have ok:=wi5.s.ok hn
  obtain⟨qO,Ob,_,_,a3,a4,a5,a6⟩:=O.now
  refine⟨_,rfl,ow,_,rfl,(qT O).1,dP,λq1 AB=>?_⟩
  exists AB,.lst [],H5,q1,z1,x1,G1
  have Z8:=eV z1
  obtain⟨k1,e1⟩:=(fe (z1 _ _ a3) (eO qQ (av a4 λ_ _ z=>z.up Z8))).one
  obtain⟨k2,e2⟩:=(fe x1 dS).one
  refine⟨k1,k2,_,_,e1,e2,ok.QK,pU,_,rfl,?_⟩
  refine eP (λ_=>?_) (λ_=>ite_no δ (done z1))
  refine⟨_,rfl,ow,_,rfl,(qT (O.same z1)).2.1,dP,λq2 z_=>?_⟩
  exists z_,.lst [],G1,q2,z2,x2,G2
  have z12:=z1.trans z2
  have YX:=eV z12
  obtain⟨k3,e3⟩:=(fe (z12 _ _ a5) (eO tX (av a6 λ_ _ z=>z.up YX))).one
  obtain⟨k4,e4⟩:=(fe x2 dS).one
  refine⟨k3,k4,_,_,e3,e4,ok.layR,pU,_,rfl,?_⟩
  refine eP (λ_=>?_) (λ_=>ite_no δ (done z12))
  refine⟨_,rfl,_,rfl,cb,sl,lc5,ow,pl,ll,Bv,S5,DY,n,rfl,W5.same z12,wi5.s,hn,λG3 z3=>⟨_,rfl,?_⟩⟩
  exact ite_no δ (done (z12.trans z3))
 .rintro bX H4 ⟨w8',WS,DU,S4,DV,rfl,W4,et,el,LA4,hq4,m4,c1,c4⟩
  rw[aO ω] at el
  obtain⟨rfl,rfl,rfl⟩:=MZ et ω
  exact nx _ WS _ H4 W4 LA4
def lw6 (hr:eS 7 (A.deeper (Ψ "law" (aw iM) s.heap.objs.size f cdv))) (DS:Df P w K mg base 6 "_law_stands_right" ["own","club"] (Ki C)):∃r t,jn 6=r/\PS ((eY fT P w K mg base sg "law" (aw iM) f cdv A outer s H E).lg) r t/\∀(D:Ends) (H1:Hp) (v0 v3 v4 v5 v6 v8:Option V) (tl:ai) (cb sl lc ow pl ll:ai) (sts:List Cs) (S:Cs) (cG:List Cs) (n:Nat),Wd C H1 cb sl lc ow pl ll sts S cG->St S n->n<=31->lK (nR ow pl ll cb sl lc) H1 tl S->(∀H2,D.rt (.bl true) H2)->t D [v0,some (.ref cb),some (.ref ow),v3,v4,v5,v6,some (.ref tl),v8] H1:=by
 have hu:=bb (dY (by decide:1<=64) _) hr.units
 refine⟨_,_,rfl,bH (jR (jZ (qH hr.units) (pv 7) (bQ (ae (eM hu (pv 2) aW) (ae (eM hu (pv 2) aW) ah))) (bP _)) (mh (cC DS (hr.mono δ) (ae (pv 2) (ae (pv 1) ah))))),?_⟩
 intro D H1 v0 v3 v4 v5 v6 v8 tl cb sl lc ow pl ll sts S cG n W sS hn LA q
 obtain⟨ra,pa,vs,ws,O⟩:=W.own
 refine⟨_,rfl,_,rfl,ow,_,rfl,(qT O).1,_,rfl,ow,_,rfl,(qT O).2.1,dP,λt2 xH=>?_⟩
 exists xH,.tup [.ref ra,.ref pa],H1,t2,s2,w2,H2
 have LB:lK (nR ow pl ll cb sl lc) H2 t2 S:=⟨ra,pa,w2,O.now.kp (fX s2) (eV s2)⟩
 have ok:=sS.ok hn
 obtain⟨k1,e1⟩:=(Fg (LA.step (fX s2) (eV s2) (.inl rfl))).one
 obtain⟨k2,e2⟩:=(Fg LB).one
 refine⟨k1,k2,_,_,e1,e2,Ff ok,Ff ok,_,rfl,?_⟩
 refine ite_yes (M_ S) ?_
 exact⟨_,rfl,_,rfl,cb,sl,lc,ow,pl,ll,sts,S,cG,n,rfl,W.same s2,sS,hn,λH3 _=>q H3⟩
def Fh (K:Φ):Sp:=λvs H Q _=>∃(a:ai) (ns:List Int),vs=[.ref a]/\cT K H a (ns.map V.int)/\ns.length<=63/\∀H',Q (.bl true) H'
def sq1 (h:t {D with nx:=u D} Z H):vB t u D Z H:=h
def Rx (h:x∈jh xs lo hi):x∈xs:=by
 unfold jh at h
 exact xu (hX h)
def VX (xs:List V):(jh xs none (some 31)).length<=31:=by
 unfold jh
 rw[fu,dF,show((31:Int))=((31:Nat):Int) from rfl,HT.lW];omega
def ior (e:Z[0]?=some (some (.ref a))) (h:cT K H a xs0) (k:∀M p xs,a_ H M->H p=none->M p=some (.lst xs)->xs.length<=31->(∀x∈xs,x∈xs0\/x=.int 0)->R (Eh K p) M):
  Hz K (Pp K (S9 (O0 K) (b_ 0) rG (Ar (tC (.int 31)))) (xA (cA (tC (.int 0)) fE))) Z H R:=by
 refine⟨_,e,_,rfl,a,_,rfl,h,λp hp=>?_⟩
 exists hp,.lst (jh xs0 none (some 31)),H,p,s1,w1,M1
 refine⟨_,.inl ⟨_,cT.of w1,rfl⟩,?_⟩
 refine eP (λ_=>?_) (λ_=>?_)
 .exact⟨p,rfl,⟨_,cT.of w1⟩,k M1 p _ s1 hp w1 (VX _) λx hx=>.inl (Rx hx)⟩
 .refine⟨dP,λp2 Pl=>?_⟩
  have s2:=aP Pl (.lst [.int 0])
  have w2:upd M1 p2 (.lst [.int 0]) p2=some (.lst [.int 0]):=aB
  exact⟨p2,rfl,⟨_,cT.of w2⟩,k _ p2 _ (s1.trans s2) (cK s1 Pl) w2 δ λx hx=>.inr (by simpa using hx)⟩
def Ry (F:ji K "law" "law" iM f fd) (T:Txt mg) (DK:Df P w K mg base 1 "_law_deck" ["cell","turn"] C3) (DO:Df P w K mg base 1 "_law_club" [] Kl) (DE:Df P w K mg base 4 "_law_deed" ["deck","own"] DQ) (DD:Df P w K mg base 6 "_law_deed_right" ["own","club","what"] (MV C)) (DS:Df P w K mg base 6 "_law_stands_right" ["own","club"] (Ki C)) (DR:zv P w K mg base 1 C "rowers" ["self"] (wW C)) (DI:zv P w K mg base 1 C "pieces" ["self"] (Bg C)) (DT:zv P w K mg base 5 C "trials" ["self"] (EW C)) (DC:WQ P w K mg base C):dW P w K mg base fT 8 f fd ["script"] (Fh K):=by
 exists F.ok,sh
 .obtain⟨a,ns,rfl,_⟩:=h
  rfl
 .obtain⟨a,ns,rfl,hS,hl,q⟩:=h
  obtain⟨r0,t0,e0,p0,Z4⟩:=lw0 (outer:=outer) (s:=s) (H:=H) (E:=E) hr DC
  obtain⟨r1,t1,e1,p1,go1⟩:=lw1 (outer:=outer) (s:=s) (H:=H) (E:=E) (C:=C) hr DO
  obtain⟨x0,y0,f0,z0,gx0⟩:=lb0 (outer:=outer) (s:=s) (H:=H) (E:=E) (C:=C) hr DK
  obtain⟨x1,y1,f1,z1,gx1⟩:=lb1 (outer:=outer) (s:=s) (H:=H) (E:=E) hr DE DD
  obtain⟨x2,y2,f2,z2,gx2⟩:=lb2 (outer:=outer) (s:=s) (H:=H) (E:=E) hr DR DI DT
  obtain⟨x3,y3,f3,z3,gx3⟩:=lb3 (outer:=outer) (s:=s) (H:=H) (E:=E) hr DS
  obtain⟨r3,t3,e3,p3,go3⟩:=lw3 (P:=P) (w:=w) (K:=K) (base:=base) (outer:=outer) (s:=s) (H:=H) (E:=E) (C:=C) hr T
  obtain⟨r4,t4,e4,p4,Z5⟩:=lw4 (P:=P) (w:=w) (K:=K) (mg:=mg) (base:=base) (outer:=outer) (s:=s) (H:=H) (E:=E) (C:=C) hr
  obtain⟨r5,t5,e5,p5,Z6⟩:=lw5 (outer:=outer) (s:=s) (H:=H) (E:=E) hr DD DS
  obtain⟨r6,t6,e6,p6,Z7⟩:=lw6 (outer:=outer) (s:=s) (H:=H) (E:=E) hr DS
  obtain⟨tg,it,ps,b,er3,hb,hPI,hPG,hFI⟩:∃tg it ps b,jn 2=.For tg it b [] ps/\b=[md 0,md 1,md 2,md 3]/\PI ((eY fT P w K mg base sg "law" (aw iM) f cdv A outer s H E).lg) tg it (Hz K (Pp K (S9 (O0 K) (b_ 0) rG (Ar (tC (.int 31)))) (xA (cA (tC (.int 0)) fE))))/\PG ((eY fT P w K mg base sg "law" (aw iM) f cdv A outer s H E).lg) tg (dI 3)/\∀x,foldedSetIterable it ((eY fT P w K mg base sg "law" (aw iM) f cdv A outer s H E).lg).env x=pure x:=
   ⟨_,_,_,_,rfl,rfl,jz (Pq (gY pP (pv 0) jC (iJ ao)) (mh (cX (ae ao ah)))),aZ (i:=3) sh.nd,λ_=>rfl⟩
  rw[f0,f1,f2,f3] at hb
  have be:=Kt
  rw[e0,e1,er3,e3,e4,e5,e6] at be
  refine⟨_,by rw[be];exact au p0 (au p1 (au (mi eX rfl hPI hPG (by rw[hb];exact au z0 (au z1 (au z2 (aF z3)))) (hs:=hFI)) (au p3 (au p4 (au p5 (aF p6)))))),?_⟩
  refine Z4 _ H _ _ _ _ _ _ _ _ _ λcb sl lc H2 sm2 cl=>?_
  refine go1 _ H2 _ _ _ _ _ _ _ _ cb sl lc cl λow pl ll H3 sm3 W0=>?_
  have sm:=sm2.trans sm3
  have hS3:cT K H3 a (ns.map V.int):=sm.seq hS
  dsimp only
  refine sq1 ?_
  unfold SQ
  refine ior (Z:=[some (.ref a),some (.ref cb),some (.ref ow),none,none,none,none,none,none]) rfl hS3 λM p xs sM hp hpM l31 hx=>?_
  have wi0:WI 0 (pM [] S0 []):=⟨λT hT=>by
   have:T=S0:=by simpa[pM] using hT
   rw[this];exact St.nil,δ⟩
  have L0:Lw C M cb sl lc ow pl ll [] S0 [] p xs 0:=⟨W0.same sM,hpM,W0.new hp,wi0⟩
  refine oS (K:=K) (a:=p) (xs:=xs) (λi bX H'=>∃(v3 v4 v5 v6 v7 v8:Option V) (lc:ai) (sts:List Cs) (S:Cs) (cG:List Cs),bX=[some (.ref a),some (.ref cb),some (.ref ow),v3,v4,v5,v6,v7,v8]/\Lw C H' cb sl lc ow pl ll sts S cG p xs i)
   ⟨_,_,_,_,_,_,lc,[],S0,[],rfl,L0⟩ (λi bX H' _ h=>by obtain⟨_,_,_,_,_,_,_,_,_,_,_,e⟩:=h;exact cT.of e.hp) ?_ ?_
  .rintro i y bX H4 hi ⟨v3,v4,v5,v6,v7,v8,iY,sts,S,cG,rfl,L⟩
   have hix:i<xs.length:=(br.mp hi).1
   have hy:∃cell:Int,y=.int cell:=by
    rcases hx y (nj hi) with z|z
    .obtain⟨c,_,rfl⟩:=cS.mp z
     exact⟨c,rfl⟩
    .exact⟨0,z⟩
   obtain⟨cell,rfl⟩:=hy
   refine gx0 _ H4 _ _ _ _ _ _ _ _ cell λk1 H5 hk1 s5 dk1=>?_
   refine gx1 _ H4 H5 _ _ _ _ _ _ k1 cb sl iY ow pl ll p sts S cG xs i L ω hk1 s5 dk1 λVY Rz S6 Ky H6 L6=>?_
   refine gx2 _ H6 _ _ _ _ _ _ _ _ cb sl VY ow pl ll p Rz S6 Ky xs (i+1) L6 ω λw5 H7 s7=>?_
   refine gx3 _ H7 _ _ _ _ _ _ _ cb sl VY ow pl ll p Rz S6 Ky xs (i+1) (L6.same s7) ω λH8 s8=>?_
   exact⟨_,_,_,_,_,_,VY,Rz,S6,Ky,rfl,(L6.same s7).same s8⟩
  .rintro bX H4 ⟨v3,v4,v5,v6,v7,v8,iY,sts,S,cG,rfl,L⟩
   refine go3 _ H4 _ _ _ _ _ _ _ _ cb sl iY ow pl ll sts S cG L.wd ?_
   refine Z5 _ H4 _ _ _ _ _ _ _ _ cb sl iY ow pl ll sts S cG L.wd λtl H5 s5 LA=>?_
   refine Z6 _ H5 _ _ _ _ _ tl cb sl iY ow pl ll sts S cG xs.length (L.wd.same s5) L.wi l31 LA λw8 VY Ky H6 W6 LA6=>?_
   exact Z7 _ H6 _ _ _ _ _ _ tl cb sl VY ow pl ll sts S Ky xs.length W6 L.wi.s l31 LA6 q
end
end K12
namespace K12
open PySem L2 PySem.W
structure fD (K:Φ) (C:ai) (x q:Str) (st:Stmt) (f:ai):Prop where
 a:findIn K (.ref C) x=some (some (.ref f))
 ex:∃(oc:ag) (od:Option ai) (kV doc pm:ag) (an:Option ai) (cdv ct:ag) (vE:Array (Option ag)),
  K.lookup f=some ⟨oc,od,.func (fnOf x q (jD st) (fC st) (aw st) .none kV doc pm an cdv ct),vE⟩/\codeIn K cdv q=true
 n:isFn K (.ref f)=true
 k:keepIn K (.ref f)=true
section
variable {P:aM}{w:bB}{K:Φ}{mg:Str->Option ag}{base:Heap}{C:ai}{x q:Str}{st:Stmt}{f:ai}{k:Nat}{ps:List Str}{sp:Sp}
def standsM {kV doc pm:ag}
  (a:findIn K (.ref C) x=some (some (.ref f))) (l:K.lookup f=some ⟨oc,od,.func (fnOf x q (jD st) (fC st) (aw st) .none kV doc pm an cdv ct),vE⟩) (c:codeIn K cdv q=true) (n:isFn K (.ref f)=true) (k:keepIn K (.ref f)=true):fD K C x q st f:=
 ⟨a,⟨oc,od,kV,doc,pm,an,cdv,ct,vE,l,c⟩,n,k⟩
def fD.fn (S:fD K C x q st f):∃fd,ji K x q st f fd:=by
 obtain⟨oc,od,kV,doc,pm,an,cdv,ct,vE,l,c⟩:=S.ex
 exact⟨_,Ci (st:=st) l c S.k⟩
def fD.RA (S:fD K C x q st f):yY K C x f:=⟨S.a,S.n,S.k⟩
abbrev VZ (x q:Str) (st:Stmt) (ps:List Str):Prop:=∀(kV doc pm:ag) (an:Option ai) (cdv ct:ag) (us:List ag),us.length=ps.length->bindArgs (fnOf x q (jD st) (fC st) (aw st) .none kV doc pm an cdv ct) ⟨us,[]⟩=pure (ps.zip us)
structure DZ (P:aM) (w:bB) (K:Φ) (mg:Str->Option ag) (base:Heap):Prop where
 ex:∃h:Heap,K.In h/\h.Ns mainGlobals mg
def DZ.at (E:DZ P w K mg base) (h:nsIn K mainGlobals x=some (some v)):mg x=some v:=by
 obtain⟨_,X,G⟩:=E.ex
 exact mg_of X G h
def DZ.no (E:DZ P w K mg base) (h:nsIn K mainGlobals x=some none):mg x=none:=by
 obtain⟨_,X,G⟩:=E.ex
 exact mg_none_of X G h
def DZ.df (E:DZ P w K mg base) (S:d_ K x st f) (hF:∀fd,ji K x x st f fd->dW P w K mg base fT k f fd ps sp) (hb:VZ x x st ps:=by intro _ _ _ _ _ _ us hl;rcases us with _|⟨a,_|⟨b,_|⟨c,_|⟨d,_|⟨e,us⟩⟩⟩⟩⟩<;>first|(simp at hl;done)|rfl):Df P w K mg base k x ps sp:=by
 obtain⟨fd,F⟩:=S.fn
 exact⟨_,fd,hF fd F,F.binds hb,S.k,E.at S.a⟩
def DZ.dg (E:DZ P w K mg base) (S:d_ K x st f) (hF:∀fd,ji K x x st f fd->dW P w K mg base (q_ P w) k f fd ps sp) (hb:VZ x x st ps:=by intro _ _ _ _ _ _ us hl;rcases us with _|⟨a,_|⟨b,_|⟨c,_|⟨d,_|⟨e,us⟩⟩⟩⟩⟩<;>first|(simp at hl;done)|rfl):Wz P w K mg base k x ps sp:=by
 obtain⟨fd,F⟩:=S.fn
 exact⟨_,fd,hF fd F,F.binds hb,S.k,E.at S.a⟩
def DZ.dh {sp:ai->Sp}(E:DZ P w K mg base) (S:d_ K x st f) (hF:∀fd,ji K x x st f fd->AO P w K mg base k f fd ps sp) (hb:VZ x x st ps:=by intro _ _ _ _ _ _ us hl;rcases us with _|⟨a,_|⟨b,_|⟨c,_|⟨d,_|⟨e,us⟩⟩⟩⟩⟩<;>first|(simp at hl;done)|rfl):YZ P w K mg base k x ps sp:=by
 obtain⟨fd,F⟩:=S.fn
 exact⟨_,fd,hF fd F,F.binds hb,S.k,E.at S.a⟩
def DZ.dm (E:DZ P w K mg base) (c:By K C) (S:fD K C x q st f) (hF:∀fd,ji K x q st f fd->dW P w K mg base fT k f fd ps sp) (hb:VZ x q st ps:=by intro _ _ _ _ _ _ us hl;rcases us with _|⟨a,_|⟨b,_|⟨c,_|⟨d,_|⟨e,us⟩⟩⟩⟩⟩<;>first|(simp at hl;done)|rfl):zv P w K mg base k C x ps sp:=by
 obtain⟨fd,F⟩:=S.fn
 exact⟨c,_,fd,hF fd F,F.binds hb,S.RA⟩
def DZ.RB (E:DZ P w K mg base) (c:By K C) (S:fD K C x q st f) (hF:∀fd,ji K x q st f fd->dW P w K mg base (q_ P w) k f fd ps sp) (hb:VZ x q st ps:=by intro _ _ _ _ _ _ us hl;rcases us with _|⟨a,_|⟨b,_|⟨c,_|⟨d,_|⟨e,us⟩⟩⟩⟩⟩<;>first|(simp at hl;done)|rfl):xJ P w K mg base k C x ps sp:=by
 obtain⟨fd,F⟩:=S.fn
 exact⟨c,_,fd,hF fd F,F.binds hb,S.RA⟩
structure Od (K:Φ) (c dr:ai):Prop where
 ga:findIn K (.ref c) "__getattribute__"=some (some (.builtin "BaseException.__getattribute__"))
 gn:findIn K (.ref c) "__getattr__"=some none
 gc:findIn K (.ref c) "__class__"=some (some (.builtin "object.__class__"))
 mo:mroIn K c (.type "object")=some true
 mb:mroIn K c (.type "BaseException")=some true
 cs:(clsIn K c).isSome=true
 ve:kitOne K (.ref c) (.type "ValueError")=some true
 xm:exmOne K (.ref c) (.ref dr)=some true
structure Nb (K:Φ) (c d0 d1 d2 d3 d4 d5 d6 d7 d8 d9 Bw:ai) (f0 f1 f2 f3 f4 f5 f6 f7 f8 f9 WT:Bool):Prop where
 k0:kitOne K (.ref c) (.ref d0)=some f0
 k1:kitOne K (.ref c) (.ref d1)=some f1
 k2:kitOne K (.ref c) (.ref d2)=some f2
 k3:kitOne K (.ref c) (.ref d3)=some f3
 k4:kitOne K (.ref c) (.ref d4)=some f4
 k5:kitOne K (.ref c) (.ref d5)=some f5
 k6:kitOne K (.ref c) (.ref d6)=some f6
 k7:kitOne K (.ref c) (.ref d7)=some f7
 k8:kitOne K (.ref c) (.ref d8)=some f8
 k9:kitOne K (.ref c) (.ref d9)=some f9
 k10:kitOne K (.ref c) (.ref Bw)=some WT
structure GsF (mg:Str->Option ag) (d0 d1 d2 d3 d4 d5 d6 d7 d8 d9 Bw:ai):Prop where
 g0:mg "NoCrew"=some (.ref d0)
 g1:mg "NoName"=some (.ref d1)
 g2:mg "NoNumber"=some (.ref d2)
 g3:mg "NoPiece"=some (.ref d3)
 g4:mg "NoRow"=some (.ref d4)
 g5:mg "NoRower"=some (.ref d5)
 g6:mg "NoText"=some (.ref d6)
 g7:mg "NothingLeft"=some (.ref d7)
 g8:mg "NoTrial"=some (.ref d8)
 g9:mg "TooMany"=some (.ref d9)
 g10:mg "Twice"=some (.ref Bw)
def Nb.y (t:Nb K c d0 d1 d2 d3 d4 d5 d6 d7 d8 d9 Bw f0 f1 f2 f3 f4 f5 f6 f7 f8 f9 WT) (X:Od K c dr) (G:GsF mg d0 d1 d2 d3 d4 d5 d6 d7 d8 d9 Bw) (hf:[f0,f1,f2,f3,f4,f5,f6,f7,f8,f9,WT]=uK.map (λx=>decide (x=nm)):=by decide+kernel) (hm:nm∈uK:=by decide+kernel):zR K mg dr c nm:=by
 refine⟨⟨⟨X.ga,X.gn,X.gc,X.mo,X.mb,X.cs⟩,λx hx=>?_,X.ve⟩,X.xm,hm⟩
 simp only[uK,bK,oK,Hr,and_true] at hf
 obtain⟨h0,h1,h2,h3,h4,h5,h6,h7,h8,h9,h10⟩:=hf
 simp only[uK,aD,aN,cy] at hx
 rcases hx with rfl|rfl|rfl|rfl|rfl|rfl|rfl|rfl|rfl|rfl|rfl
 .exact⟨_,G.g0,h0▸t.k0⟩
 .exact⟨_,G.g1,h1▸t.k1⟩
 .exact⟨_,G.g2,h2▸t.k2⟩
 .exact⟨_,G.g3,h3▸t.k3⟩
 .exact⟨_,G.g4,h4▸t.k4⟩
 .exact⟨_,G.g5,h5▸t.k5⟩
 .exact⟨_,G.g6,h6▸t.k6⟩
 .exact⟨_,G.g7,h7▸t.k7⟩
 .exact⟨_,G.g8,h8▸t.k8⟩
 .exact⟨_,G.g9,h9▸t.k9⟩
 .exact⟨_,G.g10,h10▸t.k10⟩
end
def all_mk {l:OpenLaw} (X:K.In h) (G:h.Ns mainGlobals mg) (hfa:mg "law"=some (.ref fa))
  (s0:d_ K "is_whole" CY f0)
  (s1:d_ K "is_name" IP f1)
  (s2:d_ K "is_crew" Je f2)
  (s3:d_ K "is_measure" Jf f3)
  (s4:d_ K "is_piece" C6 f4)
  (s5:d_ K "fraction" Yt f5)
  (s6:d_ K "fraction_less" YQ f6)
  (s7:d_ K "margin" Yu f7)
  (s8:d_ K "exchanged" YS f8)
  (s9:d_ K "exchanged_pair" YW f9)
  (s10:d_ K "trial_of" Y0 WT)
  (s11:d_ K "trial_or_none" Y1 f11)
  (s12:d_ K "is_weight" zk f12)
  (s13:d_ K "is_rower" CZ f13)
  (Jw:d_ K "names_of" Qz f14)
  (Z_:d_ K "_law_deck" IZ f15)
  (WR:d_ K "_law_pick" I_ f16)
  (VW:d_ K "_law_name_of" Hl f17)
  (s18:d_ K "_law_weight" Yg f18)
  (s19:d_ K "_law_fraction" QM f19)
  (s20:d_ K "_law_piece" Yv f20)
  (s21:d_ K "_law_exchanged" Zo f21)
  (s22:d_ K "_law_trial" Zl f22)
  (s23:d_ K "_law_club" sf f23)
  (s24:d_ K "_law_is_rower" zL f24)
  (DA:d_ K "_law_later" Dz f25)
  (s26:d_ K "_law_due" Rj f26)
  (s27:d_ K "_law_tried" DB f27)
  (s28:d_ K "_law_deed_right" ZX f28)
  (s29:d_ K "_law_deed" gs f29)
  (s30:d_ K "_law_trials_of" QR f30)
  (s31:d_ K "_law_stands_right" ZV f31)
  (m0S:fD K dC "__init__" "Club.__init__" Jy g0)
  (m1S:fD K dC "__len__" "Club.__len__" Qf g1)
  (m2S:fD K dC "enter" "Club.enter" Dm g2)
  (m3S:fD K dC "come" "Club.come" Jz g3)
  (m4S:fD K dC "go" "Club.go" Y3 g4)
  (m5S:fD K dC "weigh" "Club.weigh" Dn g5)
  (m6S:fD K dC "tell" "Club.tell" JA g6)
  (m7S:fD K dC "strike" "Club.strike" Qg g7)
  (m8S:fD K dC "back" "Club.back" JB g8)
  (m9S:fD K dC "again" "Club.again" Dp g9)
  (aab:fD K dC "rowers" "Club.rowers" JC g10)
  (aac:fD K dC "pieces" "Club.pieces" Qh g11)
  (aad:fD K dC "trials" "Club.trials" Qi g12)
  (V0:fD K d9 "__init__" "TooMany.__init__" Zh g13)
 {oc kV doc pm cdv ct:ag} (a:nsIn K mainGlobals "law"=some (some (.ref f32))) (lk:K.lookup f32=some ⟨oc,od,.func (fnOf "law" "law" (jD iM) (fC iM) (aw iM) .none kV doc pm an cdv ct),vE⟩) (cc:codeIn K cdv "law"=true) (kk:keepIn K (.ref f32)=true)
  (c0:nsIn K mainGlobals "LONGEST_NAME"=some (some (.int 8 t0)))
  (c1:nsIn K mainGlobals "MOST_IN_CREW"=some (some (.int 4 t1)))
  (c2:nsIn K mainGlobals "LONGEST"=some (some (.int 1000000000 t2)))
  (c3:nsIn K mainGlobals "HEAVIEST"=some (some (.int 1000000 t3)))
  (c4:nsIn K mainGlobals "MOST_ROWERS"=some (some (.int 8 t4)))
  (x0:nsIn K mainGlobals "MOST_PIECES"=some (some (.int 40 u0)))
  (z0:nsIn K mainGlobals "ValueError"=some none)
  (z1:nsIn K mainGlobals "abs"=some none)
  (z2:nsIn K mainGlobals "all"=some none)
  (z3:nsIn K mainGlobals "any"=some none)
  (z4:nsIn K mainGlobals "bool"=some none)
  (z5:nsIn K mainGlobals "enumerate"=some none)
  (z6:nsIn K mainGlobals "int"=some none)
  (z7:nsIn K mainGlobals "isinstance"=some none)
  (z8:nsIn K mainGlobals "len"=some none)
  (z9:nsIn K mainGlobals "list"=some none)
  (z10:nsIn K mainGlobals "max"=some none)
  (z11:nsIn K mainGlobals "min"=some none)
  (z12:nsIn K mainGlobals "range"=some none)
  (z13:nsIn K mainGlobals "sorted"=some none)
  (z14:nsIn K mainGlobals "str"=some none)
  (z15:nsIn K mainGlobals "sum"=some none)
  (z16:nsIn K mainGlobals "tuple"=some none)
  (z17:nsIn K mainGlobals "zip"=some none)
  (n0:nsIn K mainGlobals "NoCrew"=some (some (.ref d0)))
  (n1:nsIn K mainGlobals "NoName"=some (some (.ref d1)))
  (n2:nsIn K mainGlobals "NoNumber"=some (some (.ref d2)))
  (n3:nsIn K mainGlobals "NoPiece"=some (some (.ref d3)))
  (n4:nsIn K mainGlobals "NoRow"=some (some (.ref d4)))
  (n5:nsIn K mainGlobals "NoRower"=some (some (.ref d5)))
  (n6:nsIn K mainGlobals "NoText"=some (some (.ref d6)))
  (n7:nsIn K mainGlobals "NothingLeft"=some (some (.ref d7)))
  (n8:nsIn K mainGlobals "NoTrial"=some (some (.ref d8)))
  (n9:nsIn K mainGlobals "TooMany"=some (some (.ref d9)))
  (n10:nsIn K mainGlobals "Twice"=some (some (.ref Bw)))
  (X1:Od K d1 dr) (T1:Nb K d1 d0 d1 d2 d3 d4 d5 d6 d7 d8 d9 Bw false true false false false false false false false false false)
  (X2:Od K d2 dr) (T2:Nb K d2 d0 d1 d2 d3 d4 d5 d6 d7 d8 d9 Bw false false true false false false false false false false false)
  (X3:Od K d3 dr) (T3:Nb K d3 d0 d1 d2 d3 d4 d5 d6 d7 d8 d9 Bw false false false true false false false false false false false)
  (X5:Od K d5 dr) (T5:Nb K d5 d0 d1 d2 d3 d4 d5 d6 d7 d8 d9 Bw false false false false false true false false false false false)
  (X7:Od K d7 dr) (T7:Nb K d7 d0 d1 d2 d3 d4 d5 d6 d7 d8 d9 Bw false false false false false false false true false false false)
  (X9:Od K d9 dr) (T9:Nb K d9 d0 d1 d2 d3 d4 d5 d6 d7 d8 d9 Bw false false false false false false false false false true false)
  (X10:Od K Bw dr) (T10:Nb K Bw d0 d1 d2 d3 d4 d5 d6 d7 d8 d9 Bw false false false false false false false false false false true)
  (nr:nsIn K mainGlobals "RowError"=some (some (.ref dr)))
  (nC:nsIn K mainGlobals "Club"=some (some (.ref dC)))
  (eT:excIn K d8 L2.vR "ValueError.__new__"=true)
  (xmT:exmOne K (.ref d8) (.ref d8)=some true)
  (e1:excIn K d1 L2.vR "ValueError.__new__"=true)
  (e2:excIn K d2 L2.vR "ValueError.__new__"=true)
  (e3:excIn K d3 L2.vR "ValueError.__new__"=true)
  (e5:excIn K d5 L2.vR "ValueError.__new__"=true)
  (e7:excIn K d7 L2.vR "ValueError.__new__"=true)
  (e10:excIn K Bw L2.vR "ValueError.__new__"=true)
  (ei:Dl K d9 g13=true)
  (kpM:keepIn K (.ref d9)=true)
  (wsa:findIn K (.ref d9) "__setattr__"=some (some (.builtin "object.__setattr__")))
  (wcd:∃cd,clsIn K d9=some cd/\cd.hasDict=true/\∀self:ag,refuseLoop self "__setattr__" cd.mro=pure ())
  (nat:findIn K (.ref d9) "many"=some none)
  (hdM:hasDictIn K d9=true)
  (bga:specialIn K (.ref dr) "__getattribute__"=some (some (.builtin "type.__getattribute__")))
  (brd:readsIn K dr (.type "type")=true)
  (bfc:findCls K (.ref dr) (.type "type") "__init__"=some (.val (.builtin "ValueError.__init__")))
  (pg:plainGet K dC Str.empty=true)
  (hd:hasDictIn K dC=true)
  (po:plainOver K dC=true)
  (sa:findIn K (.ref dC) "__setattr__"=some (some (.builtin "object.__setattr__")))
  (aS:findIn K (.ref dC) "states"=some none)
  (aL2:findIn K (.ref dC) "left"=some none)
  (mk:makesIn K dC=true)
  (kp:keepIn K (.ref dC)=true)
  : ∃fd:FuncData,(∀(s:aj) (v:ag),BindsTo s fd ⟨[v],[]⟩ [("script",v)])/\∀base:Heap,K.In base->base.Ns mainGlobals mg->dW l.prog w K mg base fT 8 fa fd ["script"] (Fh K):=by
 have e:=hfa.symm.trans (mg_of X G a)
 cases e
 have FL:=Ci (st:=iM) lk cc kk
 refine⟨fnOf "law" "law" (jD iM) (fC iM) (aw iM) .none kV doc pm an cdv ct,λs v=>.of_eq rfl,λbase _ _=>?_⟩
 have E:DZ l.prog w K mg base:=⟨h,X,G⟩
 have T:Txt mg:=⟨E.no z0,E.no z1,E.no z2,E.no z3,E.no z4,E.no z5,E.no z6,E.no z7,E.no z8,E.no z9,E.no z10,E.no z11,E.no z12,E.no z13,E.no z14,E.no z15,E.no z16,E.no z17,⟨_,E.at c0⟩,⟨_,E.at c1⟩,⟨_,E.at c2⟩,⟨_,E.at c3⟩,⟨_,E.at c4⟩⟩
 have GG:GsF mg d0 d1 d2 d3 d4 d5 d6 d7 d8 d9 Bw:=⟨E.at n0,E.at n1,E.at n2,E.at n3,E.at n4,E.at n5,E.at n6,E.at n7,E.at n8,E.at n9,E.at n10⟩
 have N1:=T1.y (nm:="NoName") X1 GG
 have N2:=T2.y (nm:="NoNumber") X2 GG
 have N3:=T3.y (nm:="NoPiece") X3 GG
 have N5:=T5.y (nm:="NoRower") X5 GG
 have N7:=T7.y (nm:="NothingLeft") X7 GG
 have N9:=T9.y (nm:="TooMany") X9 GG
 have N10:=T10.y (nm:="Twice") X10 GG
 have gr:=E.at nr
 have CC:Hk K dC:=⟨⟨pg,hd,po,sa⟩,aS,aL2⟩
 obtain⟨_,GI⟩:=V0.fn
 have bI:=GI.binds (ps:=["self","many"]) (by intro _ _ _ _ _ _ us hl;rcases us with _|⟨a,_|⟨b,_|⟨c,us⟩⟩⟩<;>first|(simp at hl;done)|rfl)
 have OI:A7 K d9 g13:=⟨ei,V0.n,kpM⟩
 have FI:=Vf (P:=l.prog) (w:=w) (base:=base) (mg:=mg) GI OI ⟨wsa,X9.mo,wcd⟩ nat ⟨bga,brd,bfc⟩ gr
 have Fi:=E.df s0 λ_ F=>IQ F T
 have RC:=E.df s1 λ_ F=>EJ F T
 have Nc:Df l.prog w K mg base 2 "is_name" ["thing"] (xF fA):=E.df s1 λ_ F=>LR (EJ F T) δ
 have RD:=E.df s2 λ_ F=>LS F T RC
 have RE:=E.df s3 λ_ F=>LU F T Fi
 have Fj:=E.df s4 λ_ F=>Jg F T RD RE
 have V3:=E.df s5 λ_ F=>Ua F T
 have aae:=E.df s6 λ_ F=>UI F V3
 have aaf:=E.df s7 λ_ F=>Uc F V3
 have aag:=E.df s8 λ_ F=>UK F T
 have aah:=E.dg s9 λ_ F=>UM F ⟨GG.g8,eT⟩ aag
 have aai:=E.dg s10 λ_ F=>UQ F T aah aae aaf
 have aaj:=E.df s11 λ_ F=>UW F GG.g8 xmT aai
 have Oe:=E.df s12 λ_ F=>Gg F T Fi
 have V4:=E.df s13 λ_ F=>IT F T Nc Oe
 have Kz:=E.df Jw λ_ F=>QA F
 have RF:=E.df Z_ λ_ F=>LP F
 have zT:=E.df WR λ_ F=>LQ F
 have aak:=E.dh VW λ_ F=>Vv F T T.zip
 have aal:=E.df s18 λ_ F=>T6 F zT
 have aam:=E.df s20 λ_ F=>Uj F T zT
 have V5:=E.df s19 λ_ F=>QO F T
 have aan:=E.df s21 λ_ F=>Vs F T zT
 have aao:=E.df s22 λ_ F=>Vr F T V5
 have V6:=E.df s23 λ_ F=>Rr F
 have V7:=E.df s24 λ_ F=>GK F T
 have Nd:=E.df DA λ_ F=>Kg F T V7 Fj
 have V8:=E.df s26 λ_ F=>Rk F T Nd
 have RG:=E.df s29 λ_ F=>MY F T zT aal aam aan
 have V9:=E.df s30 λ_ F=>QS F T aao
 have su:=E.dm CC.c m2S λ_ F=>JD F T CC
 have D_:=E.dm CC.c aab λ_ F=>Mr F T CC
 have KA:=E.dm CC.c aac λ_ F=>Qq F T CC
 have Of:=E.dm CC.c aad λ_ F=>Qr F T KA aaj
 have RH:=E.RB CC.c m3S λ_ F=>Mx F T CC ⟨GG.g5,e5⟩ ⟨GG.g10,e10⟩ GG.g9 OI FI bI V4 Kz su
 have aap:=E.RB CC.c m4S λ_ F=>Vd F CC ⟨GG.g1,e1⟩ Kz su
 have Nf:=E.RB CC.c m5S λ_ F=>JM F CC ⟨GG.g1,e1⟩ ⟨GG.g5,e5⟩ Kz Oe su
 have RI:=E.RB CC.c m6S λ_ F=>Mn F T ⟨_,E.at x0⟩ CC ⟨GG.g3,e3⟩ Fj su
 have KC:=E.RB CC.c m7S λ_ F=>Qn F CC ⟨GG.g2,e2⟩ su
 have RJ:=E.RB CC.c m8S λ_ F=>Mo F T CC ⟨GG.g7,e7⟩
 have Ng:=E.RB CC.c m9S λ_ F=>JE F T CC ⟨GG.g7,e7⟩
 have DK:WQ l.prog w K mg base dC:=by
  obtain⟨_,F⟩:=m0S.fn
  exact⟨_,_,⟨mk,m0S.a,m0S.n,kp⟩,Mh F CC,F.binds (ps:=["self"]) (by intro _ _ _ _ _ _ us hl;rcases us with _|⟨a,_|⟨b,us⟩⟩<;>first|(simp at hl;done)|rfl),E.at nC⟩
 have V_:Kh l.prog w K mg base dC:=by
  obtain⟨_,F⟩:=m1S.fn
  exact⟨_,_,QL F T D_,F.binds (ps:=["self"]) (by intro _ _ _ _ _ _ us hl;rcases us with _|⟨a,_|⟨b,us⟩⟩<;>first|(simp at hl;done)|rfl),m1S.RA⟩
 have Nh:=E.df s27 λ_ F=>Kj F T gr ⟨GG.g9,hdM,nat⟩ N5 N10 N9 N1 N3 N2 N7 RH aap Nf RI KC RJ Ng aak
 have aaq:=E.df s28 λ_ F=>VO F T V8 Nh
 have aar:=E.df s31 λ_ F=>VL F T D_ KA V_ Of V9
 exact Ry FL T RF V6 RG aaq aar D_ KA Of DK
def walk {l:OpenLaw} {K:Params->Φ}(hn:l.most=some 63) (Tc:d.params.defaults=[])
  (hY:∀(w:bB) (h:Heap),YP w h->(K w.params).In h)
  (F:∀(w:bB) (mg:Str->Option ag) (fa:ai) (h:Heap),(K w.params).In h->h.Ns mainGlobals mg->mg d.name=some (.ref fa)->
   ∃fd:FuncData,(∀(s:aj) (u:ag),BindsTo s fd ⟨[u],[]⟩ [("script",u)])/\∀base:Heap,(K w.params).In base->base.Ns mainGlobals mg->dW l.prog w (K w.params) mg base fT 8 fa fd ["script"] (Fh (K w.params))):
  WalkO q loose XP YP l.row.toRowW d [] (λf vs=>PySem.call f vs):=
 L2.Li (n:=63) (k:=8) (x:="script") (CX:=λ_=>fT) (sp:=λw=>Fh (K w.params)) hn δ Tc ⟨rfl,δ,δ,rfl⟩ hY F (λ_ _ a ns hl _ hS=>⟨a,ns,rfl,hS,hl,λ_=>rfl⟩) λ_ _ _ _ _ z=>z
end K12
open PySem PySem.W PyProof.Rows
namespace PySem.W.Fast
theorem tw5596194671100379347:True:=⟨⟩
theorem tw1417208034904846937:True:=⟨⟩
theorem tw15550815146999020896:True:=⟨⟩
theorem tw5636107162273351907:True:=⟨⟩
theorem tw18253455990674731274:True:=⟨⟩
theorem tw11322536740293642626:True:=⟨⟩
theorem tw17899182837841233567:True:=⟨⟩
theorem tw8408554379818633040:True:=⟨⟩
theorem tw351207334780629927:True:=⟨⟩
theorem tw17577488137744593780:True:=⟨⟩
theorem tw3408897020463048461:True:=⟨⟩
theorem tw11111344067512493097:True:=⟨⟩
theorem tw10987564370641359304:True:=⟨⟩
theorem tw14206348185487778334:True:=⟨⟩
theorem tw473612440662827571:True:=⟨⟩
theorem tw13851478563087832919:True:=⟨⟩
theorem tw16877127062069637141:True:=⟨⟩
theorem tw9220765128086660817:True:=⟨⟩
theorem tw1832076208866550462:True:=⟨⟩
theorem tw4879050285860845918:True:=⟨⟩
theorem tw16072739443087703217:True:=⟨⟩
theorem tw5211230006765921051:True:=⟨⟩
theorem tw3648541414342626816:True:=⟨⟩
theorem tw4791542407098323590:True:=⟨⟩
theorem tw6142696362694079588:True:=⟨⟩
theorem tw4167672274742795101:True:=⟨⟩
theorem tw12930763333768527936:True:=⟨⟩
theorem tw18410867098317226883:True:=⟨⟩
theorem tw8938681460880302691:True:=⟨⟩
theorem tw11706282420968177581:True:=⟨⟩
theorem tw2136399608702403769:True:=⟨⟩
theorem tw5412818329945894345:True:=⟨⟩
theorem tw6732059088130666509:True:=⟨⟩
theorem tw17055569003022925018:True:=⟨⟩
theorem tw16972113706850851739:True:=⟨⟩
theorem tw2036196157172261290:True:=⟨⟩
theorem tw11638123073759460251:True:=⟨⟩
theorem tw8792308531106566711:True:=⟨⟩
theorem tw11325954174174340227:True:=⟨⟩
theorem tw2815844164126383189:True:=⟨⟩
theorem tw9619743483130487089:True:=⟨⟩
theorem tw10532863797415394917:True:=⟨⟩
theorem tw10415874679921311660:True:=⟨⟩
theorem tw565259324923668057:True:=⟨⟩
theorem tw10938365372063308180:True:=⟨⟩
theorem tw3784624784155951938:True:=⟨⟩
theorem tw4775113050330731693:True:=⟨⟩
theorem tw18316097027260550624:True:=⟨⟩
theorem tw1816830625785224841:True:=⟨⟩
theorem tw15081901725177172096:True:=⟨⟩
theorem tw5297894563284432332:True:=⟨⟩
theorem tw779360363178665748:True:=⟨⟩
theorem tw15292092111661928110:True:=⟨⟩
theorem tw17685878080142923190:True:=⟨⟩
theorem tw16396329365610378933:True:=⟨⟩
theorem tw8151057713060377280:True:=⟨⟩
theorem tw3608236272352528426:True:=⟨⟩
theorem tw15994795494077220544:True:=⟨⟩
theorem tw11949814830681413545:True:=⟨⟩
theorem tw7568848831939227860:True:=⟨⟩
theorem tw7088373976149283201:True:=⟨⟩
theorem tw10114854475717209140:True:=⟨⟩
theorem tw3282780473557997522:True:=⟨⟩
theorem tw1371508762983237445:True:=⟨⟩
theorem tw13983777051090458874:True:=⟨⟩
theorem tw2082659424641924965:True:=⟨⟩
theorem tw4455941349883965186:True:=⟨⟩
theorem tw4584636005256856521:True:=⟨⟩
theorem tw18359218484279273234:True:=⟨⟩
theorem tw16184757880136032773:True:=⟨⟩
theorem tw10318398889288524484:True:=⟨⟩
theorem tw12239192539741526633:True:=⟨⟩
theorem tw13548532324094086056:True:=⟨⟩
theorem tw9555061802245052336:True:=⟨⟩
theorem tw125985103872844112:True:=⟨⟩
theorem tw9451304637417998840:True:=⟨⟩
theorem tw3564958266788391734:True:=⟨⟩
theorem tw2439011567143501507:True:=⟨⟩
theorem tw5676237079999491005:True:=⟨⟩
theorem tw11496093591452058101:True:=⟨⟩
theorem tw8128369718127725827:True:=⟨⟩
theorem tw5393167639112315095:True:=⟨⟩
theorem tw12608071968471612346:True:=⟨⟩
theorem tw745778356705676341:True:=⟨⟩
theorem tw17601731762187143531:True:=⟨⟩
theorem tw12955394780706864314:True:=⟨⟩
theorem tw16901819171790160177:True:=⟨⟩
theorem tw912891858605471421:True:=⟨⟩
theorem tw14039229136591821017:True:=⟨⟩
theorem tw2191265511063290554:True:=⟨⟩
theorem tw816622695088612202:True:=⟨⟩
theorem tw2867688197660828724:True:=⟨⟩
theorem tw981252547392937198:True:=⟨⟩
theorem tw15457800739287078575:True:=⟨⟩
theorem tw13159262113827795453:True:=⟨⟩
theorem tw11673034586932816378:True:=⟨⟩
theorem tw16754388378494225023:True:=⟨⟩
theorem tw8620667454072143961:True:=⟨⟩
theorem tw586936894014497194:True:=⟨⟩
theorem tw5200028430572006862:True:=⟨⟩
theorem tw10454662281607520211:True:=⟨⟩
theorem tw5754832592007527208:True:=⟨⟩
theorem tw15717387402405831224:True:=⟨⟩
theorem tw8212475663843348204:True:=⟨⟩
theorem tw11343708813885638564:True:=⟨⟩
theorem tw6968541078459842636:True:=⟨⟩
theorem tw6865147807628321759:True:=⟨⟩
theorem tw9066822575729903034:True:=⟨⟩
theorem tw11245005140304890058:True:=⟨⟩
theorem tw10680788770494317825:True:=⟨⟩
theorem tw10145722046221486137:True:=⟨⟩
theorem tw2062910268720820423:True:=⟨⟩
theorem tw492658947741844071:True:=⟨⟩
theorem tw17117466709537721181:True:=⟨⟩
theorem tw12805521294371739756:True:=⟨⟩
theorem tw9696358823110102662:True:=⟨⟩
theorem tw7653407084443353512:True:=⟨⟩
theorem tw13669873797112169674:True:=⟨⟩
theorem tw6281388035666942988:True:=⟨⟩
theorem tw16797846648975537041:True:=⟨⟩
theorem tw13447086852311302692:True:=⟨⟩
theorem tw10058589917145858956:True:=⟨⟩
theorem tw13796592287575036992:True:=⟨⟩
theorem tw8919213476049176821:True:=⟨⟩
theorem tw4727995594058681324:True:=⟨⟩
theorem tw9256470200075403580:True:=⟨⟩
theorem tw14346566852746534546:True:=⟨⟩
theorem tw13166213906749098080:True:=⟨⟩
theorem tw2976352595432582801:True:=⟨⟩
theorem tw12632224206421435063:True:=⟨⟩
theorem tw12249298740912643337:True:=⟨⟩
theorem tw11980638421503776699:True:=⟨⟩
theorem tw13338827048459335065:True:=⟨⟩
theorem tw18140251552436662312:True:=⟨⟩
theorem tw16037232112401826164:True:=⟨⟩
theorem tw3671304496667450888:True:=⟨⟩
theorem tw1069519511760116580:True:=⟨⟩
theorem tw6716352034929831213:True:=⟨⟩
theorem tw3481263637689067211:True:=⟨⟩
theorem tw9477892257406634520:True:=⟨⟩
theorem tw12639043270955591685:True:=⟨⟩
theorem tw9759053484446939979:True:=⟨⟩
theorem tw10879862506775853935:True:=⟨⟩
theorem tw17475604902811594930:True:=⟨⟩
theorem tw2312284483231472505:True:=⟨⟩
theorem tw12323875338002139368:True:=⟨⟩
theorem tw9620071010817268620:True:=⟨⟩
theorem tw17960331755690423704:True:=⟨⟩
theorem tw6132180901867719645:True:=⟨⟩
theorem tw6788330627263374325:True:=⟨⟩
theorem tw3280562234967115211:True:=⟨⟩
theorem tw3323536490132985629:True:=⟨⟩
theorem tw5066019468481351704:True:=⟨⟩
theorem tw7605403541812897096:True:=⟨⟩
theorem tw18087645561502577428:True:=⟨⟩
theorem tw10046882861109112618:True:=⟨⟩
theorem tw8640958247924077901:True:=⟨⟩
theorem tw15829387292748066567:True:=⟨⟩
theorem tw15623434591470989690:True:=⟨⟩
theorem tw9057939357159454672:True:=⟨⟩
theorem tw1216424428171175385:True:=⟨⟩
theorem tw14163532068116028971:True:=⟨⟩
theorem tw15172393843204056028:True:=⟨⟩
theorem tw11121978539197320522:True:=⟨⟩
theorem tw866924561750348414:True:=⟨⟩
theorem tw8128845156064411430:True:=⟨⟩
theorem tw5888874563348213590:True:=⟨⟩
theorem tw10290645591220751193:True:=⟨⟩
theorem tw12862441861051757221:True:=⟨⟩
theorem tw12857165503057501305:True:=⟨⟩
theorem tw4187451691865200294:True:=⟨⟩
theorem tw13056315796640959006:True:=⟨⟩
theorem tw11386136523772151966:True:=⟨⟩
theorem tw18351763159798986097:True:=⟨⟩
theorem tw8688118937341958398:True:=⟨⟩
theorem tw7949355127623973504:True:=⟨⟩
theorem tw1627437871465545657:True:=⟨⟩
theorem tw17570788453304223125:True:=⟨⟩
theorem tw583420782995205852:True:=⟨⟩
theorem tw7918757331505522550:True:=⟨⟩
theorem tw1182123778288634168:True:=⟨⟩
theorem tw8107188610094461098:True:=⟨⟩
theorem tw665350326839226962:True:=⟨⟩
theorem tw17420022896795458982:True:=⟨⟩
theorem tw10050967644103847004:True:=⟨⟩
theorem tw1759787811966446951:True:=⟨⟩
theorem tw9807752558461837878:True:=⟨⟩
theorem tw2904609815377078463:True:=⟨⟩
theorem tw13947212676152966281:True:=⟨⟩
theorem tw17833539231790243947:True:=⟨⟩
theorem tw13264747315917479875:True:=⟨⟩
theorem tw108224943867099892:True:=⟨⟩
theorem tw10802873424651675264:True:=⟨⟩
theorem tw6897112296012018687:True:=⟨⟩
theorem tw9881486335824378511:True:=⟨⟩
theorem tw5851027526430821616:True:=⟨⟩
theorem tw424024476125166072:True:=⟨⟩
theorem tw1107131704824100543:True:=⟨⟩
theorem tw1513229805613669712:True:=⟨⟩
theorem tw8546998538319985452:True:=⟨⟩
theorem tw10192319220161907644:True:=⟨⟩
theorem tw8849654646858941067:True:=⟨⟩
theorem tw2675380018299899732:True:=⟨⟩
theorem tw18027682740517598810:True:=⟨⟩
theorem tw7056125502549453994:True:=⟨⟩
theorem tw586631811822528940:True:=⟨⟩
theorem tw866164879621266012:True:=⟨⟩
theorem tw12763972992788945781:True:=⟨⟩
theorem tw3683577607947976182:True:=⟨⟩
theorem tw13056698373548716579:True:=⟨⟩
theorem tw4329893959148009544:True:=⟨⟩
theorem tw10143737518380815804:True:=⟨⟩
theorem tw6249896930161874851:True:=⟨⟩
theorem tw11958378742615628272:True:=⟨⟩
theorem tw1806955660792575882:True:=⟨⟩
theorem tw1713123983228849257:True:=⟨⟩
theorem tw10048227397318903083:True:=⟨⟩
theorem tw14377165258783035292:True:=⟨⟩
theorem tw18359700223507074338:True:=⟨⟩
theorem tw9831541996357230090:True:=⟨⟩
theorem tw9303256980582860148:True:=⟨⟩
theorem tw12774451415546270036:True:=⟨⟩
theorem tw7567635578471305633:True:=⟨⟩
theorem tw17133861225463836241:True:=⟨⟩
theorem tw9127408629420339315:True:=⟨⟩
theorem tw5430641839065181595:True:=⟨⟩
theorem tw9281050899983655274:True:=⟨⟩
theorem tw13543992248949466318:True:=⟨⟩
theorem tw14970597440057785067:True:=⟨⟩
theorem tw17261134016439731235:True:=⟨⟩
theorem tw9358658687123268038:True:=⟨⟩
theorem tw10189225388010622983:True:=⟨⟩
theorem tw11223686868697723945:True:=⟨⟩
theorem tw4274123164905300088:True:=⟨⟩
theorem tw15112135291206814464:True:=⟨⟩
theorem tw17116225440986777869:True:=⟨⟩
theorem tw10638460240593321809:True:=⟨⟩
theorem tw10717464267168889556:True:=⟨⟩
theorem tw15821580444758406228:True:=⟨⟩
theorem tw17325830053200932635:True:=⟨⟩
theorem tw10553435985291133162:True:=⟨⟩
theorem tw15341094709108349611:True:=⟨⟩
theorem tw18215374125496426646:True:=⟨⟩
theorem tw5368435585312665073:True:=⟨⟩
theorem tw12861760275520734796:True:=⟨⟩
theorem tw10218928984987019894:True:=⟨⟩
theorem tw17180071987902305408:True:=⟨⟩
theorem tw17380403857075671354:True:=⟨⟩
theorem tw12897071212631332809:True:=⟨⟩
theorem tw14233306784741232635:True:=⟨⟩
theorem tw7774425858556510028:True:=⟨⟩
theorem tw2267164221291206268:True:=⟨⟩
theorem tw242499465973081624:True:=⟨⟩
theorem tw4595930507052212214:True:=⟨⟩
theorem tw2927792166448473221:True:=⟨⟩
theorem tw16737445758261701562:True:=⟨⟩
theorem tw8792418573807687537:True:=⟨⟩
theorem tw11866718734289042025:True:=⟨⟩
theorem tw6697720174973997925:True:=⟨⟩
theorem tw4560024992717791131:True:=⟨⟩
theorem tw4818275590511135546:True:=⟨⟩
theorem tw8078533223850428480:True:=⟨⟩
theorem tw1882298137240480674:True:=⟨⟩
theorem tw15664152797651121017:True:=⟨⟩
theorem tw3708709658214955113:True:=⟨⟩
theorem tw14177704830401160927:True:=⟨⟩
theorem tw6960540740567216299:True:=⟨⟩
theorem tw8258101944921529950:True:=⟨⟩
theorem tw14072787743724722177:True:=⟨⟩
theorem tw8022515108639653282:True:=⟨⟩
theorem tw13211824840125136201:True:=⟨⟩
theorem tw16856949246110868034:True:=⟨⟩
theorem tw1415381385962813142:True:=⟨⟩
theorem tw16167950583445967066:True:=⟨⟩
theorem tw11438444127307162049:True:=⟨⟩
theorem tw2943530930134333562:True:=⟨⟩
theorem tw9869550289781987449:True:=⟨⟩
theorem tw12199456119527539663:True:=⟨⟩
theorem tw12389151553479078325:True:=⟨⟩
theorem tw9752222764443395397:True:=⟨⟩
theorem tw12263672149590173904:True:=⟨⟩
theorem tw18421790715856891592:True:=⟨⟩
theorem tw10718470352879415689:True:=⟨⟩
theorem tw4815610881154372346:True:=⟨⟩
theorem tw443271492197441180:True:=⟨⟩
theorem tw10199539731442910711:True:=⟨⟩
theorem tw9638021956511357564:True:=⟨⟩
theorem tw12839255870047094204:True:=⟨⟩
theorem tw10816040190722198120:True:=⟨⟩
theorem tw3001533773964467104:True:=⟨⟩
theorem tw16511895102389621524:True:=⟨⟩
theorem tw13161693661033611937:True:=⟨⟩
theorem tw7233070461593347755:True:=⟨⟩
theorem tw5779749801975253292:True:=⟨⟩
theorem tw16232461071603124943:True:=⟨⟩
theorem tw10856552453130718218:True:=⟨⟩
theorem tw12700939875508197623:True:=⟨⟩
theorem tw14297303243925933183:True:=⟨⟩
theorem tw2455542476720444293:True:=⟨⟩
theorem tw4763079350125250362:True:=⟨⟩
theorem tw9443431437050025900:True:=⟨⟩
theorem tw1251277787249272345:True:=⟨⟩
theorem tw18366722575684508558:True:=⟨⟩
theorem tw1997709928777114698:True:=⟨⟩
theorem tw6758718968740709926:True:=⟨⟩
theorem tw15040274174941499481:True:=⟨⟩
theorem tw13928918717877567830:True:=⟨⟩
theorem tw13516398980278676324:True:=⟨⟩
theorem tw3188314334470648145:True:=⟨⟩
theorem tw11557625555152115398:True:=⟨⟩
theorem tw11973601894013923299:True:=⟨⟩
theorem tw9380874605428556866:True:=⟨⟩
theorem tw6539651356968790225:True:=⟨⟩
theorem tw13269398844780426447:True:=⟨⟩
theorem tw7287539929274284818:True:=⟨⟩
theorem tw2604779183903183755:True:=⟨⟩
theorem tw6797361678475787367:True:=⟨⟩
theorem tw10700669262545566203:True:=⟨⟩
theorem tw4360878618166192930:True:=⟨⟩
theorem tw3919197787423003284:True:=⟨⟩
theorem tw5982867995859333517:True:=⟨⟩
theorem tw12358911227005348713:True:=⟨⟩
theorem tw1879115259935647899:True:=⟨⟩
theorem tw14816715727237971823:True:=⟨⟩
theorem tw13672490826428745493:True:=⟨⟩
theorem tw9322467535224489959:True:=⟨⟩
theorem tw7165091800147580821:True:=⟨⟩
theorem tw6880374821652200738:True:=⟨⟩
theorem tw7747317849557517614:True:=⟨⟩
theorem tw10919576655266117341:True:=⟨⟩
theorem tw6843810346338416900:True:=⟨⟩
theorem tw8814738379808552847:True:=⟨⟩
theorem tw1256995985637284981:True:=⟨⟩
theorem tw5155222956211329630:True:=⟨⟩
theorem tw10421190433684658588:True:=⟨⟩
theorem tw7219793085753302326:True:=⟨⟩
theorem tw562536560720457897:True:=⟨⟩
theorem tw6171279056101880020:True:=⟨⟩
theorem tw18094560953265997644:True:=⟨⟩
theorem tw10906723991514327822:True:=⟨⟩
theorem tw2023961493947277308:True:=⟨⟩
theorem tw4121842445119177940:True:=⟨⟩
theorem tw12431795978148039717:True:=⟨⟩
theorem tw3375972487566827400:True:=⟨⟩
theorem tw17435055181207743565:True:=⟨⟩
theorem tw5650885073917663284:True:=⟨⟩
theorem tw8934117711019389165:True:=⟨⟩
theorem tw6040329948221671921:True:=⟨⟩
theorem tw4200944208776106874:True:=⟨⟩
theorem tw14671745254445895963:True:=⟨⟩
theorem tw4673608229280088061:True:=⟨⟩
theorem tw12864974596224894390:True:=⟨⟩
theorem tw17344131134938335202:True:=⟨⟩
theorem tw4087706572444091167:True:=⟨⟩
theorem tw8073050172757688486:True:=⟨⟩
theorem tw5200088833866559324:True:=⟨⟩
theorem tw12085928451551250859:True:=⟨⟩
theorem tw16921109962880570317:True:=⟨⟩
theorem tw15120695239841140471:True:=⟨⟩
theorem tw15746149785614635647:True:=⟨⟩
theorem tw15955067041735336931:True:=⟨⟩
theorem tw6505021142275785759:True:=⟨⟩
theorem tw17178761039058668430:True:=⟨⟩
theorem tw6196014261854797887:True:=⟨⟩
theorem tw12923242651043721606:True:=⟨⟩
theorem tw7600933919126478615:True:=⟨⟩
theorem tw4406679484781177079:True:=⟨⟩
theorem tw11259877225620449280:True:=⟨⟩
theorem tw18156177107332587868:True:=⟨⟩
theorem tw8599296382383654395:True:=⟨⟩
theorem tw7064610156523623445:True:=⟨⟩
theorem tw12980560527632489961:True:=⟨⟩
theorem tw5677685102901045595:True:=⟨⟩
theorem tw7771055691764992610:True:=⟨⟩
theorem tw12927350730830388998:True:=⟨⟩
theorem tw17380502469165866547:True:=⟨⟩
theorem tw5213661340295251932:True:=⟨⟩
theorem tw3890041830295043156:True:=⟨⟩
theorem tw4649327961555365956:True:=⟨⟩
theorem tw10736155185325417830:True:=⟨⟩
theorem tw17355594588071643602:True:=⟨⟩
theorem tw7904085828188132537:True:=⟨⟩
theorem tw13491757237986089284:True:=⟨⟩
theorem tw9586151968647224383:True:=⟨⟩
theorem tw14737959931280931415:True:=⟨⟩
theorem tw5268380563330164394:True:=⟨⟩
theorem tw14451919301330953579:True:=⟨⟩
theorem tw17971416313758221570:True:=⟨⟩
theorem tw13804640741954614957:True:=⟨⟩
theorem tw7722600160891018413:True:=⟨⟩
theorem tw3286237699147090719:True:=⟨⟩
theorem tw5189891474823808061:True:=⟨⟩
theorem tw15918654622906935948:True:=⟨⟩
theorem tw7783008498334076831:True:=⟨⟩
theorem tw6156238716877642981:True:=⟨⟩
theorem tw16505286397314341170:True:=⟨⟩
theorem tw8925120326610191346:True:=⟨⟩
theorem tw17958299052328344143:True:=⟨⟩
theorem tw5136907897287070008:True:=⟨⟩
theorem tw748831748154972599:True:=⟨⟩
theorem tw1894229170116844868:True:=⟨⟩
theorem tw3826292599396648952:True:=⟨⟩
theorem tw10298994732916471503:True:=⟨⟩
theorem tw8020819724187986358:True:=⟨⟩
theorem tw9060809223135731226:True:=⟨⟩
theorem tw11050791329260890871:True:=⟨⟩
theorem tw8417703988239814736:True:=⟨⟩
theorem tw11257383839916799741:True:=⟨⟩
theorem tw7957616630206991884:True:=⟨⟩
theorem tw13698058208549428889:True:=⟨⟩
theorem tw11767987779940505658:True:=⟨⟩
theorem tw13722671067042932569:True:=⟨⟩
theorem tw8811550062283243730:True:=⟨⟩
theorem tw879620989964216907:True:=⟨⟩
theorem tw12909370144163258511:True:=⟨⟩
theorem tw12919793139683551121:True:=⟨⟩
theorem tw1016657327588601995:True:=⟨⟩
theorem tw10432382924268339970:True:=⟨⟩
theorem tw5353865929447620017:True:=⟨⟩
theorem tw10810410510695251978:True:=⟨⟩
theorem tw8521875977848042216:True:=⟨⟩
theorem tw9208226556736566690:True:=⟨⟩
theorem tw5143640034140734453:True:=⟨⟩
theorem tw2680313283027056064:True:=⟨⟩
theorem tw6918859881934078514:True:=⟨⟩
theorem tw12057383329066380411:True:=⟨⟩
theorem tw17421705789257156173:True:=⟨⟩
theorem tw2967766218778016921:True:=⟨⟩
theorem tw1240914269760577951:True:=⟨⟩
theorem tw1126601900376540331:True:=⟨⟩
theorem tw999741066811551883:True:=⟨⟩
theorem tw17992315282186545520:True:=⟨⟩
theorem tw15042556350444029583:True:=⟨⟩
theorem tw4474964728062576088:True:=⟨⟩
theorem tw7338916281648145945:True:=⟨⟩
theorem tw5760113044970057583:True:=⟨⟩
theorem tw6282184879178643213:True:=⟨⟩
theorem tw4438119138135609015:True:=⟨⟩
theorem tw16502398166251116595:True:=⟨⟩
theorem tw18109856239119187876:True:=⟨⟩
theorem tw1846329649375149931:True:=⟨⟩
theorem tw9744370761360242140:True:=⟨⟩
theorem tw3207747049706941109:True:=⟨⟩
theorem tw7644155973809362154:True:=⟨⟩
theorem tw4142092458534323094:True:=⟨⟩
theorem tw17909173227031706073:True:=⟨⟩
theorem tw15511881735308638590:True:=⟨⟩
theorem tw5354467752971370452:True:=⟨⟩
theorem tw6227654418620356604:True:=⟨⟩
theorem tw4855010670387624443:True:=⟨⟩
theorem tw13661054166745656637:True:=⟨⟩
theorem tw7170597192302614258:True:=⟨⟩
theorem tw3612444873392842029:True:=⟨⟩
theorem tw6624501845331615726:True:=⟨⟩
theorem tw8017419505109493443:True:=⟨⟩
theorem tw4977760231798871244:True:=⟨⟩
theorem tw17048604496724637066:True:=⟨⟩
theorem tw11321368080929516111:True:=⟨⟩
theorem tw9429324092401601387:True:=⟨⟩
theorem tw7537095657855712636:True:=⟨⟩
theorem tw13437840008691507556:True:=⟨⟩
theorem tw10021629997590500059:True:=⟨⟩
theorem tw15336787616540685123:True:=⟨⟩
theorem tw3720418758619389538:True:=⟨⟩
theorem tw10175559301492580012:True:=⟨⟩
theorem tw14567677614771329359:True:=⟨⟩
theorem tw8825459950171009047:True:=⟨⟩
theorem tw16525575489885426781:True:=⟨⟩
theorem tw1010171107316732509:True:=⟨⟩
theorem tw497799725917355856:True:=⟨⟩
theorem tw7887528152438357921:True:=⟨⟩
theorem tw16881803826498466661:True:=⟨⟩
theorem tw8324461798509242153:True:=⟨⟩
theorem tw10542112887677525466:True:=⟨⟩
theorem tw14010949558279216613:True:=⟨⟩
theorem tw12811407729128828515:True:=⟨⟩
theorem tw572146226066843411:True:=⟨⟩
theorem tw2271249824317296797:True:=⟨⟩
theorem tw9419173257922898990:True:=⟨⟩
theorem tw2325464850650652593:True:=⟨⟩
theorem tw11804045834662408558:True:=⟨⟩
theorem tw11438849054757650102:True:=⟨⟩
theorem tw961515195938567993:True:=⟨⟩
theorem tw17152155532601108577:True:=⟨⟩
theorem tw10973337405946029641:True:=⟨⟩
theorem tw4593210236964102745:True:=⟨⟩
theorem tw916568725598624658:True:=⟨⟩
theorem tw12869720552485396520:True:=⟨⟩
theorem tw8061811470409297076:True:=⟨⟩
theorem tw13531531561363054848:True:=⟨⟩
end PySem.W.Fast
set_option maxRecDepth 100000 in
set_option maxHeartbeats 0 in
theorem PySem.Challenge.cw_rowtrim_k12_whole_clubs_holds : PySem.Challenge.rw_rowtrim_k12_whole_clubs.Holds := by
  w_on; (refine PySem.W.holds_law (by decide +kernel) fun said=>?_); k_head; (case hw=>w_witness2)
  k_fill
  refine K12.walk (l:=PySem.Challenge.rw_rowtrim_k12_whole_clubs) rfl rfl (fun w h Y=>PySem.W.kIn_of Y) ?F
  case F =>
    intro w mg fa h KX G hmg
    refine' K12.all_mk KX G hmg (K12.stands ?a0 ?l0 ?c0 ?k0) (K12.stands ?a1 ?l1 ?c1 ?k1) (K12.stands ?a2 ?l2 ?c2 ?k2) (K12.stands ?a3 ?l3 ?c3 ?k3) (K12.stands ?a4 ?l4 ?c4 ?k4) (K12.stands ?a5 ?l5 ?c5 ?k5) (K12.stands ?a6 ?l6 ?c6 ?k6) (K12.stands ?a7 ?l7 ?c7 ?k7) (K12.stands ?a8 ?l8 ?c8 ?k8) (K12.stands ?a9 ?l9 ?c9 ?k9) (K12.stands ?a10 ?l10 ?c10 ?k10) (K12.stands ?a11 ?l11 ?c11 ?k11) (K12.stands ?a12 ?l12 ?c12 ?k12) (K12.stands ?a13 ?l13 ?c13 ?k13) (K12.stands ?a14 ?l14 ?c14 ?k14) (K12.stands ?a15 ?l15 ?c15 ?k15) (K12.stands ?a16 ?l16 ?c16 ?k16) (K12.stands ?a17 ?l17 ?c17 ?k17) (K12.stands ?a18 ?l18 ?c18 ?k18) (K12.stands ?a19 ?l19 ?c19 ?k19) (K12.stands ?a20 ?l20 ?c20 ?k20) (K12.stands ?a21 ?l21 ?c21 ?k21) (K12.stands ?a22 ?l22 ?c22 ?k22) (K12.stands ?a23 ?l23 ?c23 ?k23) (K12.stands ?a24 ?l24 ?c24 ?k24) (K12.stands ?a25 ?l25 ?c25 ?k25) (K12.stands ?a26 ?l26 ?c26 ?k26) (K12.stands ?a27 ?l27 ?c27 ?k27) (K12.stands ?a28 ?l28 ?c28 ?k28) (K12.stands ?a29 ?l29 ?c29 ?k29) (K12.stands ?a30 ?l30 ?c30 ?k30) (K12.stands ?a31 ?l31 ?c31 ?k31) (K12.standsM ?p0 ?q0 ?r0 ?s0 ?t0) (K12.standsM ?p1 ?q1 ?r1 ?s1 ?t1) (K12.standsM ?p2 ?q2 ?r2 ?s2 ?t2) (K12.standsM ?p3 ?q3 ?r3 ?s3 ?t3) (K12.standsM ?p4 ?q4 ?r4 ?s4 ?t4) (K12.standsM ?p5 ?q5 ?r5 ?s5 ?t5) (K12.standsM ?p6 ?q6 ?r6 ?s6 ?t6) (K12.standsM ?p7 ?q7 ?r7 ?s7 ?t7) (K12.standsM ?p8 ?q8 ?r8 ?s8 ?t8) (K12.standsM ?p9 ?q9 ?r9 ?s9 ?t9) (K12.standsM ?p10 ?q10 ?r10 ?s10 ?t10) (K12.standsM ?p11 ?q11 ?r11 ?s11 ?t11) (K12.standsM ?p12 ?q12 ?r12 ?s12 ?t12) (K12.standsM ?p13 ?q13 ?r13 ?s13 ?t13) ?aL ?lL ?cL ?kL ?b0 ?b1 ?b2 ?b3 ?b4 ?x0 ?z0 ?z1 ?z2 ?z3 ?z4 ?z5 ?z6 ?z7 ?z8 ?z9 ?z10 ?z11 ?z12 ?z13 ?z14 ?z15 ?z16 ?z17 ?n0 ?n1 ?n2 ?n3 ?n4 ?n5 ?n6 ?n7 ?n8 ?n9 ?n10 ?X1 ?T1 ?X2 ?T2 ?X3 ?T3 ?X5 ?T5 ?X7 ?T7 ?X9 ?T9 ?X10 ?T10 ?h0 ?h1 ?h2 ?h3 ?h4 ?h5 ?h6 ?h7 ?h8 ?h9 ?h10 ?h11 ?h12 ?h13 ?h14 ?h15 ?h16 ?h17 ?h18 ?h19 ?h20 ?h21 ?h22 ?h23 ?h24 ?h25 ?h26
    (case a0 | l0 | c0 | k0 | a1 | l1 | c1 | k1 | a2 | l2 | c2 | k2 | a3 | l3 | c3 | k3 | a4 | l4 | c4 | k4 | a5 | l5 | c5 | k5 | a6 | l6 | c6 | k6 | a7 | l7 | c7 | k7 | a8 | l8 | c8 | k8 | a9 | l9 | c9 | k9 | a10 | l10 | c10 | k10 | a11 | l11 | c11 | k11 | a12 | l12 | c12 | k12 | a13 | l13 | c13 | k13 | a14 | l14 | c14 | k14 | a15 | l15 | c15 | k15 | a16 | l16 | c16 | k16 | a17 | l17 | c17 | k17 | a18 | l18 | c18 | k18 | a19 | l19 | c19 | k19 | a20 | l20 | c20 | k20 | a21 | l21 | c21 | k21 | a22 | l22 | c22 | k22 | a23 | l23 | c23 | k23 | a24 | l24 | c24 | k24 | a25 | l25 | c25 | k25 | a26 | l26 | c26 | k26 | a27 | l27 | c27 | k27 | a28 | l28 | c28 | k28 | a29 | l29 | c29 | k29 | a30 | l30 | c30 | k30 | a31 | l31 | c31 | k31 | n0 | n1 | n2 | n3 | n4 | n5 | n6 | n7 | n8 | n9 | n10 | h0 | h1 | p0 | q0 | r0 | s0 | t0 | p1 | q1 | r1 | s1 | t1 | p2 | q2 | r2 | s2 | t2 | p3 | q3 | r3 | s3 | t3 | p4 | q4 | r4 | s4 | t4 | p5 | q5 | r5 | s5 | t5 | p6 | q6 | r6 | s6 | t6 | p7 | q7 | r7 | s7 | t7 | p8 | q8 | r8 | s8 | t8 | p9 | q9 | r9 | s9 | t9 | p10 | q10 | r10 | s10 | t10 | p11 | q11 | r11 | s11 | t11 | p12 | q12 | r12 | s12 | t12 | p13 | q13 | r13 | s13 | t13 | x0 | aL | lL | cL | kL | b0 | b1 | b2 | b3 | b4 | z0 | z1 | z2 | z3 | z4 | z5 | z6 | z7 | z8 | z9 | z10 | z11 | z12 | z13 | z14 | z15 | z16 | z17=>k_is)
    (case X1 | X2 | X3 | X5 | X7 | X9 | X10=>constructor; k_is; k_is; k_is; k_is; k_is; (refine' Option.isSome_of_eq_some ?hh); (case hh=>k_is); kit_is; kts_exm)
    (case T1 | T2 | T3 | T5 | T7 | T9 | T10=>constructor <;> kit_is)
    (case h2 | h4 | h5 | h6 | h7 | h8 | h9=>k_exc)
    (case h3=>kts_exm)
    (case h10 | h15 | h16 | h17 | h18=>kernel_rfl)
    (case h11 | h12 | h14 | h19 | h20 | h21 | h22 | h23 | h24 | h25 | h26=>k_is)
    (case h13=>(refine' K12.wcd_mk ?w1 ?w2 ?w3); (case w1=>k_is); (case w2=>rfl); (case w3=>exact fun _=>rfl))
#print axioms PySem.Challenge.cw_rowtrim_k12_whole_clubs_holds
