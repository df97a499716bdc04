import PyProof.Rows.All
import Wide.All
import OpenK.AllK
import Wide.FinOn
import Lean
import PyProof.EqAt
import PyProof.EqKinds
import PyProof.TupleCall
import PyProof.ExcBaseAll.ValueError
import PyProof.InstNe
import PySem.Challenge.RW_rowtrim_k12_whole_clubs
import PyProof.ExcInit
import PyProof.InstStoreFacts
import PyProof.FString5
import PyProof.ListMulRoad
set_option Elab.async false
set_option linter.all false
set_option maxRecDepth 100000
set_option maxHeartbeats 4000000
def aa:=@PySem.wpAny_bind
abbrev af:=PySem.Value
def ag:=@PySem.Heap.get?_push_of_some
abbrev ah:=PySem.Addr
abbrev ai:=PySem.Shared
def ak:=@PySem.wpAny_pure
def aq:=@List.length_map
def au:=@PySem.Paired.mono
def aw:=@PySem.Heap.get?_push_size
def aA:=@PySem.Heap.lt_size
def aB:=@Nat.le_refl
def aC:=@List.mem_cons
def aD:=@PyProof.Rows.boot_isinstance
abbrev aF:=PySem.Program
def aG:=@List.length_singleton
def aH:=@List.getElem?_eq_getElem
def aI:=@List.size_toArray
def aJ:=@decide_eq_true
def aK:=@List.length_append
def aM:=@List.not_mem_nil
def aO:=@if_neg
def aP:=@if_pos
abbrev aQ:=PySem.Around
def aX:=@of_decide_eq_true
def aY:=@PySem.Heap.get?_update_other
abbrev ba:=PySem.World
def bb:=@Nat.ne_of_lt
def bf:=@List.getD_eq_getElem?_getD
def bh:=@Nat.le_trans
def bj:=@Bool.false_and
def bw:=@List.getElem?_eq_some_iff
def bA:=@Bool.false_ne_true
def bB:=@PySem.boot_len
def bC:=@decide_eq_false
def bD:=@PySem.wpAny_newObj_type
def bE:=@List.map_append
def bG:=@List.mem_append_right
def bH:=@List.map_cons
def bJ:=@PySem.wpAny_field
def bK:=@PySem.wpAny_mono
def bT:=@Nat.lt_of_lt_of_le
def bU:=@List.mem_singleton
def bX:=@List.getElem?_map
def bZ:=@PySem.Heap.size_push
def b_:=@PySem.wpAny_seqItems
def cf:=@List.mem_cons_self
def ck:=@Bool.true_and
def cm:=@List.mem_cons_of_mem
def cu:=@PyProof.Rows.boot_tuple
def cw:=@PySem.F.plainAttrs_list
def cz:=@or_false
def cA:=@List.getElem_mem
def cD:=@PyProof.Rows.slot_tuple_getitem
def cF:=@Ne.symm
def cG:=@PySem.wpAny_callSpecial?_slot
def cH:=@List.length_cons
def cI:=@Bool.and_eq_true
def cK:=@Option.some.inj
def cM:=@PySem.wpAny_holding
def cO:=@List.mem_map
def cR:=@Nat.lt_of_le_of_lt
def cT:=@List.mem_map_of_mem
def cV:=@PySem.Heap.get?_update_self
def cX:=@List.take_of_length_le
def cZ:=@List.take_length
def c_:=@List.mem_append
def dz:=@List.mem_filter
def dB:=@List.length_drop
def dE:=@Nat.le_succ
def dH:=@PySem.wpAny_call_entry
def dM:=@PySem.wpAny_truthy_bool
def dN:=@PySem.Paired.snoc
def dP:=@PySem.wpAny_setField_rec
def dZ:=@Nat.le_add_right
def d_:=@PySem.F.slot_list_append
def ef:=@PySem.F.type_list_append
def ej:=@List.length_filter_le
def eJ:=@List.append_nil
def eM:=@Nat.le_of_lt
def eR:=@PySem.PassesOwn.never
def eS:=@Nat.add_le_add_left
def eZ:=@Bool.and_false
def ff:=@PySem.W.kia_one
def fg:=@Bool.false_eq_true
def fh:=@List.length_take
def fB:=@PySem.wpAny_letGo
def fC:=@PySem.F.excAttr_ValueError
def fH:=@Nat.zero_le
def fL:=@Nat.lt_succ_self
def fV:=@PySem.wpAny_Call_Name_kw
def gg:=@Array.length_toList
def gi:=@PySem.mem_of_lookup
def gk:=@PyProof.Rows.callWith_type1
def gm:=@Nat.lt_irrefl
def gu:=@List.lookup_cons
def gv:=@PySem.codeAny_builtin
def gz:=@PySem.F.excBase_ValueError
def gA:=@PySem.W.methodCall_KW
def gC:=@List.length_replicate
def gD:=@PyProof.Rows.boot_str
def gP:=@PySem.sizeLine_eq
def gS:=@List.append_assoc
def gT:=@Nat.lt_succ_of_lt
def gU:=@PySem.Obj.data_mapFields
def gW:=@Bool.eq_false_iff
def gX:=@List.mem_of_mem_take
def g_:=@PySem.Obj.isFreed_of_fields
def hX:=@Option.isSome_iff_exists
def ij:=@List.filterMap_cons
def ik:=@PySem.F.slot_zip_next
def il:=@PySem.wpAny_pyIter_list
def ip:=@PySem.wpAny_updateSeq_pair
def iq:=@PySem.Around.under_plainId
def iB:=@PySem.wpAny_onRaise
def iC:=@PySem.W.looks_findIn
def iG:=@Nat.ne_of_gt
def iH:=@beq_iff_eq
def iI:=@PySem.W.callWith_K
def iJ:=@of_decide_eq_false
def iM:=@congrArg
def iN:=@List.nodup_cons
def iO:=@PySem.wpAny_setField
def iP:=@List.length_nil
def iQ:=@PySem.F.plain_min_loop
def iR:=@PySem.wpAny_tryCatch
def iS:=@PySem.F.plain_max_loop
def jd:=@Int.toNat_natCast
def je:=@Array.getD_eq_getD_getElem?
def jf:=@PySem.F.typeOf_object_class
def ju:=@List.mem_append_left
def jv:=@PySem.wpAny_passesOwn
def jw:=@Array.getElem?_eq_some_iff
def jx:=@PySem.wpAny_standAt
def jy:=@PySem.plainId_quiet
def jA:=@List.getElem_map
def jG:=@Classical.byContradiction
def jH:=@List.drop_eq_getElem_cons
def jK:=@List.replicate_succ
def jL:=@List.map_congr_left
def jR:=@PyProof.Rows.assignInOrder_cons
def jS:=@PySem.wpAny_rule
def jT:=@if_false
def jU:=@List.any_cons
def jV:=@PySem.F.slot_tuple_iterator_next
def jW:=@PySem.codeAny_call_builtin
def j9:=@if_true
def j_:=@List.find?_cons
def kh:=@PySem.codeAny_mono
def ki:=@PySem.Heap.size_update
def kj:=@List.filter_append
def kn:=@Int.emod_lt_of_pos
def kA:=@PySem.Heap.get?_update_ne
def kT:=@List.getElem?_set_self
def kU:=@Bool.not_eq_true'
def kW:=@List.pairwise_map
def k_:=@PySem.wpAny_updateSeq
def lJ:=@PySem.wpAny_pyIter_tuple
def md:=@List.getElem?_eq_none
def me:=@List.all_eq_true
def mE:=@List.getElem?_set_ne
def mF:=@PySem.wpAny_bindName
def mG:=@List.mem_of_getElem?
def mH:=@PySem.wpAny_loadPart_at
def nv:=@List.forIn_cons
def nz:=@PySem.W.Looks.ld
def nA:=@Int.emod_nonneg
def nG:=@beq_eq_false_iff_ne
def nI:=@PySem.W.callWith_K0
def nN:=@PySem.wpAny_call
def nO:=@List.map_nil
def nP:=@List.map_map
def oW:=@PySem.Paired.length
def pE:=@List.mem_range
def pF:=@Nat.not_lt
def qw:=@List.take_sublist
def qx:=@List.flatten_cons
def qy:=@decide_eq_true_eq
def qz:=@List.take_add_one
def qA:=@List.nodup_append
def qB:=@Int.mul_pos
def qF:=@PySem.F.args_tuple_add_2
def qG:=@PySem.wpAny_typeOf
def qH:=@PySem.W.KasT.kasWp_bind
def qI:=@Int.mul_ediv_cancel_left
def rL:=@List.getElem?_replicate
def rM:=@PySem.F.entry_tuple_add
def rN:=@PySem.call_meets
def rO:=@List.zipIdx_cons
def rP:=@PySem.slot_listiter_next
def rQ:=@List.filter_cons_of_pos
def rR:=@List.filter_cons_of_neg
def tO:=@PySem.W.cellsFrom_some
def tP:=@PySem.F.slot_tuple_add
def tQ:=@PySem.Calls.call_function_entry
def tR:=@PyProof.Rows.boot_bool
def tS:=@PyProof.Rows.boot_list
def tT:=@not_or
def ud:=@Bool.eq_iff_iff
def ue:=@List.of_mem_zip
def uf:=@PySem.Obj.cls_mapFields
def ug:=@List.zipIdx_nil
def uh:=@PySem.F.args_zip_next_1
def uE:=@Nat.le_of_ble_eq_true
def uF:=@PySem.wpAny_comprehension_free
def uG:=@PySem.wpAny_attempt
def uH:=@PySem.AutoSeq1.wpAny_loadPart'
def uI:=@PySem.F.entry_bexc_ga
def uJ:=@PyProof.Rows.boot_int
def uK:=@PyProof.Rows.boot_all
def uL:=@PySem.F.slot_list_pop
def uM:=@PySem.F.type_list_pop
def wm:=@List.forIn_nil
def wo:=@PySem.F.entry_zip_next
def wt:=@PySem.wpAny_pyIter_zip
def wu:=@List.mem_of_mem_drop
def wx:=@List.drop_drop
def xR:=@PySem.W.plainGet_of
def xS:=@PySem.Calls.callWith_builtin
def xT:=@PySem.codeAny_compStart_list
def xU:=@Nat.mul_le_mul_left
def xV:=@List.filter_sublist
def zj:=@PySem.wpAny_execs_nil
def zk:=@List.set_comm
def zm:=@List.all_cons
def zo:=@Bool.and_true
def zv:=@List.mem_filterMap
def zw:=@PyProof.Rows.vals1
def zx:=@Int.natAbs_natCast
def zy:=@List.pairwise_cons
def A2:=@PySem.Heap.get?_none_of_le
def A3:=@List.any_eq_false
def A5:=@PySem.wpAny_loadPart
def A6:=@PySem.Calls.evalArgs_plain
def A7:=@PySem.wpAny_newFunctionEnv
def A8:=@PySem.wpAny_of_eq
def A9:=@List.length_range
def A_:=@List.filter_congr
def Ba:=@List.length_filter_eq_length_iff
def Bb:=@List.flatten_replicate_singleton
def EB:=@beq_self_eq_true
def EC:=@List.ext_getElem
def ED:=@PySem.Heap.SameBut.update
def EE:=@List.filter_cons
def EF:=@PySem.W.set_dict
def Gd:=@PySem.wpAny_newList
def Ge:=@Int.neg_mul
def Gv:=@PySem.Calls.spliced_cons
def Gw:=@PySem.SeqAt.EqAt.str_str
def Gx:=@PySem.Code.quiet_builtin
def Gy:=@List.cons.injEq
def JW:=@Int.fdiv_eq_ediv_of_nonneg
def JX:=@List.getElem?_append_right
def JY:=@PySem.wpAny_sequenceKey
def JZ:=@Array.perm_iff_toList_perm
def J0:=@Int.natAbs_mul
def J_:=@List.perm_append_singleton
def Me:=@PySem.plainObj_wpAny_Assign_Attribute
def Mf:=@List.getElem?_append_left
def Mg:=@PyProof.Rows.slicePart_none
def Mh:=@PyProof.Rows.take_succ_getD
def Mi:=@Int.natAbs_ediv_le_natAbs
def Nk:=@PySem.noFill_tuple_add
def Nl:=@PySem.wpAny_isInstance
def Nm:=@PySem.F.entry_min_loop
def Np:=@PySem.F.entry_max_loop
def Nq:=@List.map_take
def Nr:=@List.map_drop
def Nt:=@List.Perm.eq_of_pairwise
def QW:=@Int.mul_ediv_mul_of_pos
def QX:=@decide_eq_false_iff_not
def Rz:=@Nat.le_of_eq
def RA:=@PySem.wpAny_loadPart'
def RB:=@PySem.F.args_tuple_iterator_next_1
def RC:=@List.any_map
def RD:=@PyProof.Rows.listUpdate_at
def RE:=@Option.map_eq_some_iff
def RF:=@Nat.gcd_comm
def RG:=@Int.mul_comm
def RH:=@List.drop_of_length_le
def RI:=@List.length_eq_one_iff
def dF {n:Nat}(h:Nat.ble n 99=true:=by exact rfl):n<=PySem.sizeLine:=bh (uE h) (by decide)
namespace L2
open PySem PySem.Spec PyProof.Rows
abbrev Key:=Sum Bool Str
def isBoolOf (b:Bool):af->Bool
 | .bool c=>b==c
 |_=>false
def uN {b:Bool}{v:af}(h:isBoolOf b v=true):v=.bool b:=by
 cases v<;>simp[isBoolOf] at h
 rw[h]
def Gz (b:Bool):Int:=if b then 1 else 0
def qJ {prog:aF}{w:ba}{A:aQ}{E:af->ai->Prop}{s:ai}{b:Bool}{Q:Int->ai->Prop}(h:Q (Gz b) {s with toks:=s.toks+1}):
  wpAny (model prog w) A (pyHash (.bool b)) Q E s:=by
 refine PySem.W.pyHash_slot (T:="bool") rfl F.slot_bool_hash entry_int_hash (args_int_hash _) (beq_builtin_none _) (.inl rfl) ?_
 have go:∀i:Int,reduceHash i=Gz b->wpAny (model prog w) A.in1 (do ret (<-mkInt i)) (fun fin s'=>∃n t,fin=.done (.ret (.int n t))/\Q (reduceHash n) s') E s:=fun i e=>aa (wpAny_mkInt (ak ⟨_,_,rfl,by rw[e];exact h⟩))
 cases b
 ·exact go 0 rfl
 ·exact go 1 rfl
def xb:Key->af->Bool
 | .inl k,v=>isBoolOf k v
 | .inr x,v=>Value.isStrOf x v
def VU (w:ba):Key->Int
 | .inl k=>Gz k
 | .inr x=>hashStr w x
def fY:∀{k:Key}{v:af},xb k v=true->(∃b,k=Sum.inl b/\v=Value.bool b)\/(∃x t,k=Sum.inr x/\v=Value.str x t)
 | .inl i,v,h=>.inl ⟨i,rfl,uN h⟩
 | .inr x,v,h=>by
  obtain⟨t,e⟩:=Value.isStrOf_shape (x:=x) (v:=v) h
  exact .inr ⟨x,t,rfl,e⟩
def Bc (b:Bool):xb (.inl b) (.bool b)=true:=by simp[xb,isBoolOf]
def EG (x:Str) (t:Tok):xb (.inr x) (.str x t)=true:=by simp[xb,Value.isStrOf]
def Nu (a b:Bool):decide ((Sum.inl a:Key)=Sum.inl b)=(a==b):=by cases a<;>cases b<;>decide
def Nv (a b:Str):decide ((Sum.inr a:Key)=Sum.inr b)=decide (a=b):=by
 by_cases e:a=b
 ·subst e;simp
 ·have h:¬(Sum.inr a:Key)=Sum.inr b:=fun q=>e (Sum.inr.inj q)
  rw[bC h,bC e]
def Nw (a:Bool) (b:Str):decide ((Sum.inl a:Key)=Sum.inr b)=false:=bC (fun q=>nomatch q)
def Nx (a:Str) (b:Bool):decide ((Sum.inr a:Key)=Sum.inl b)=false:=bC (fun q=>nomatch q)
def gq (prog:aF) (w:ba):PySem.KeyKind prog w Key where
 is:=xb
 hash:=VU w
 inj:=fun v a b ha hb=>by
  rcases fY ha with⟨i,rfl,rfl⟩|⟨x,t,rfl,rfl⟩
  ·rcases fY hb with⟨j,rfl,e⟩|⟨y,u,rfl,e⟩
   ·injection e with e1;rw[e1]
   ·exact nomatch e
  ·rcases fY hb with⟨j,rfl,e⟩|⟨y,u,rfl,e⟩
   ·exact nomatch e
   ·injection e with e1 _;rw[e1]
 byValue:=fun k v h=>by
  rcases fY h with⟨i,rfl,rfl⟩|⟨x,t,rfl,rfl⟩<;>rfl
 pyHash:=fun hv h=>by
  rcases fY hv with⟨i,rfl,rfl⟩|⟨x,t,rfl,rfl⟩
  ·exact qJ h
  ·exact wpAny_pyHash_str h
 eqBool:=fun hu hv h=>by
  rcases fY hu with⟨i,rfl,rfl⟩|⟨x,t,rfl,rfl⟩
  ·rcases fY hv with⟨j,rfl,rfl⟩|⟨y,u,rfl,rfl⟩
   ·rw[Nu] at h;exact SeqAt.EqAt.bool_bool i j _ _ _ _ h
   ·rw[Nw] at h;exact SeqAt.EqAt.bool_str i y u _ _ _ _ h
  ·rcases fY hv with⟨j,rfl,rfl⟩|⟨y,u,rfl,rfl⟩
   ·rw[Nx] at h;exact SeqAt.EqAt.str_bool x t j _ _ _ _ h
   ·rw[Nv] at h;exact wpAny_eqBool_str h
 «strs»:=fun k x t v h=>by
  rcases fY h with⟨i,rfl,e⟩|⟨y,u,rfl,e⟩
  ·exact nomatch e
  ·injection e with e1 _
   subst e1
   cases v<;>rfl
def xW (prog:aF) (w:ba) (b:Bool):(gq prog w).is (.inl b) (.bool b)=true:=Bc b
def zA (prog:aF) (w:ba) (x:Str) (t:Tok):(gq prog w).is (.inr x) (.str x t)=true:=EG x t
inductive V where
 |eA|bl (b:Bool)|int (i:Int)|str (x:Str)|C3 (b:Array UInt8)|Ny (b:UInt64)|ref (a:ah)|ty (n:String)
 deriving DecidableEq
def RelV:V->af->Prop
 | .eA,u=>u=Value.none
 | .bl b,u=>u=Value.bool b
 | .int i,u=>∃t,u=Value.int i t
 | .str x,u=>∃t,u=Value.str x t
 | .C3 b,u=>∃t,u=Value.bytes b t
 | .Ny b,u=>∃t,u=Value.float b t
 | .ref a,u=>u=Value.ref a
 | .ty n,u=>u=Value.type n
abbrev cy:List V->List af->Prop:=Paired RelV
def cy.length {xs:List V}{us:List af}(r:cy xs us):xs.length=us.length:=oW r
def cy.get:∀{xs:List V}{us:List af}{i:Nat}{x:V},cy xs us->xs[i]?=some x->∃u,us[i]?=some u/\RelV x u
 |_,_,_,_,.nil,e=>by simp at e
 |_,_,0,_,.cons r _,e=>by simp at e;subst e;exact⟨_,rfl,r⟩
 |_,_,i+1,x,.cons _ t,e=>by
  obtain⟨u,h1,h2⟩:=cy.get (i:=i) (x:=x) t (by simpa using e)
  exact⟨u,by simpa using h1,h2⟩
def cy.set {x:V}{u:af}(r:RelV x u):∀{xs:List V}{us:List af}(i:Nat),cy xs us->cy (xs.set i x) (us.set i u)
 |_,_,_,.nil=>.nil
 |_,_,0,.cons _ t=>.cons r t
 |_,_,i+1,.cons q t=>.cons q (cy.set r i t)
def cy.append:∀{xs ys:List V}{us ws:List af},cy xs us->cy ys ws->cy (xs++ys) (us++ws)
 |_,_,_,_,.nil,s=>s
 |_,_,_,_,.cons r t,s=>.cons r (cy.append t s)
def cy.take:∀{xs:List V}{us:List af}(n:Nat),cy xs us->cy (xs.take n) (us.take n)
 |_,_,0,_=>.nil
 |_,_,_+1,.nil=>.nil
 |_,_,n+1,.cons r t=>.cons r (cy.take n t)
def cy.drop:∀{xs:List V}{us:List af}(n:Nat),cy xs us->cy (xs.drop n) (us.drop n)
 |_,_,0,r=>r
 |_,_,_+1,.nil=>.nil
 |_,_,n+1,.cons _ t=>cy.drop n t
def nB:Option V->Option af->Prop
 |some v,some u=>RelV v u
 |none,none=>True
 |_,_=>False
def KV {κ:Type}:List (κ×V)->List (κ×af)->Prop:=Paired fun(p:κ×V) (q:κ×af)=>p.1=q.1/\RelV p.2 q.2
def kV:Key->V
 | .inl b=>.bl b
 | .inr x=>.str x
inductive HO where
 |lst (xs:List V)
 |tup (xs:List V)
 |dK (de:List (Key×V))|dT (de:List (List Key×V))
 |set (S:Int->Bool) (n:Nat)
 |ins (C dx:ah) (fs:List (Str×V))
 |own (x:ah)
 |xd (fs:List (Str×V))
 |met (f x:ah)
 |Vc (lo hi:Int)
 |Be (o:Obj) (u:HO)
 |Mj (ps:Array af)
 |ext (φ:Heap->Prop)
abbrev Hp:=ah->Option HO
def upd (H:Hp) (a:ah) (o:HO):Hp:=fun b=>if b=a then some o else H b
def az {H:Hp}{a:ah}{o:HO}:upd H a o a=some o:=by unfold upd;rw[aP rfl]
def aV {H:Hp}{a b:ah}{o:HO}(h:b≠a):upd H a o b=H b:=by unfold upd;rw[aO h]
def qK {H:Hp}{a:ah}{o u:HO}:upd (upd H a o) a u=upd H a u:=by
 funext b;unfold upd;split<;>rfl
def uO (h:Heap) (a:ah) (items:Array af):Prop:=∃o,h.get? a=some o/\o.cls=.type "tuple"/\o.dict=none/\∃n,o.data=.seq items n
def uO.isTup {h:Heap}{a:ah}{items:Array af}(x:uO h a items):IsTup h a items:=let⟨o,e,c,_,n,d⟩:=x;⟨o,e,c,n,d⟩
def uO.lt {h:Heap}{a:ah}{items:Array af}(x:uO h a items):a<h.objs.size:=let⟨o,e,_⟩:=x;aA e
def uO.new (h:Heap) (items:Array af):uO (h.push {cls:=.type "tuple",data:=.seq items}) h.objs.size items:=⟨_,aw _ rfl,rfl,rfl,_,rfl⟩
def xc {H:Hp}{a b:ah}{o u:HO}(h:H a=some o) (h':H b=some u) (d:o≠u):a≠b:=by
 intro e;subst e;rw[h] at h';exact d (cK h')
def dj {H:Hp}{a b:ah}{o:HO}(h:H a=some o) (h':H b=none):a≠b:=by
 intro e;subst e;rw[h] at h';cases h'
section
variable (P:aF) (w:ba)
def fP (H:Hp) (h:Heap) (a:ah):HO->Prop
 | .lst xs=>xs.length<=sizeLine/\∃(cE:List af) (n:Nat),cy xs cE/\h.get? a=some {cls:=.type "list",data:=.seq cE.toArray n}
 | .tup xs=>xs.length<=sizeLine/\∃cE:List af,cy xs cE/\uO h a cE.toArray
 | .dK de=>de.length<=sizeLine/\(a==sysModules)=false/\∃vs,KV de vs/\h.DictOf (gq P w) a vs
 | .dT de=>de.length<=sizeLine/\(a==sysModules)=false/\∃xs:List (List Key×ah×af),
   Paired (fun(p:List Key×V) (q:List Key×ah×af)=>p.1=q.1/\H q.2.1=some (.tup (p.1.map kV))/\RelV p.2 q.2.2) de xs/\
   ∃o es ep,h.get? a=some o/\o.ExactDict/\o.data=.dict es ep/\es.toList=xs.map (entryOfKey (tupleKind (gq P w)))/\(xs.map (·.1)).Nodup
 | .set S n=>h.SetOf (intKind P w) a S n
 | .ins C dx fs=>H dx=some (.own a)/\fs.length<=1000/\dx≠a/\h.get? a=some (PySem.W.instObj C dx)/\
   ∃mA,h.Ns1 dx mA/\(∀f,nB (fs.lookup f) (mA f))/\PySem.Within mA (fs.map (·.1))
 | .own _=>∃o,h.get? a=some o
 | .xd fs=>∃mA,h.Ns1 a mA/\∀f,nB (fs.lookup f) (mA f)
 | .Vc lo hi=>∃t u v,h.get? a=some {cls:=.type "range",data:=.fields #[.int lo t,.int hi u,.int 1 v]}
 | .Be o u=>h.get? a=some o/\fP H h a u
 | .Mj ps=>h.get? a=some {cls:=.none,data:=.fields ps}
 | .met f x=>h.get? a=some (PySem.W.methodObj (.ref f) (.ref x))
 | .ext φ=>φ h/\(∃o,h.get? a=some o)/\∀h1 h2:Heap,φ h1->(∀o,h1.get? a=some o->h2.get? a=some o)->φ h2
def pM (H:Hp) (h:Heap):Prop:=∀a o,H a=some o->fP P w H h a o
end
section
variable {P:aF}{w:ba}{H H':Hp}{h h':Heap}{a:ah}{o:HO}
def fP.lt (x:fP P w H h a o):a<h.objs.size:=by
 cases o with
 |lst xs=>obtain⟨_,_,_,_,e⟩:=x;exact aA e
 |tup xs=>obtain⟨_,_,_,p⟩:=x;exact p.lt
 |dK de=>obtain⟨_,_,_,_,o,_,_,e,_⟩:=x;exact aA e
 |dT de=>obtain⟨_,_,_,_,o,_,_,e,_⟩:=x;exact aA e
 |set S n=>obtain⟨o,_,_,_,e,_⟩:=x;exact aA e
 |ins C dx fs=>obtain⟨_,_,_,e,_⟩:=x;exact aA e
 |own y=>obtain⟨_,e⟩:=x;exact aA e
 |xd fs=>obtain⟨_,⟨_,_,_,e,_⟩,_⟩:=x;exact aA e
 |Vc lo hi=>obtain⟨_,_,_,e⟩:=x;exact aA e
 |Be ob u=>obtain⟨e,_⟩:=x;exact aA e
 |Mj ps=>exact aA (show h.get? a=some _ from x)
 |met f y=>exact aA (show h.get? a=some _ from x)
 |ext φ=>obtain⟨_,⟨_,e⟩,_⟩:=x;exact aA e
def Paired.Nz {α β:Type}{F G:α->β->Prop}:∀{l₁:List α}{l₂:List β},Paired F l₁ l₂->(∀a b,F a b->G a b)->Paired G l₁ l₂
 |_,_,.nil,_=>.nil
 |_,_,.cons r t,f=>.cons (f _ _ r) (Paired.Nz t f)
def fP.pG (x:fP P w H h a o) (k:∀b u,(b=a\/H b=some (.own a))->h.get? b=some u->h'.get? b=some u)
  (ho:∀b,H b=some (.own a)->H' b=some (.own a)) (ht:∀b xs,H b=some (.tup xs)->H' b=some (.tup xs)):fP P w H' h' a o:=by
 induction o with
 |lst xs=>obtain⟨z,cE,n,r,e⟩:=x;exact⟨z,cE,n,r,k _ _ (.inl rfl) e⟩
 |tup xs=>obtain⟨z,cE,r,ob,e,c⟩:=x;exact⟨z,cE,r,ob,k _ _ (.inl rfl) e,c⟩
 |dK de=>obtain⟨z,y,vs,r,ob,es,ep,e,c⟩:=x;exact⟨z,y,vs,r,ob,es,ep,k _ _ (.inl rfl) e,c⟩
 |dT de=>
  obtain⟨z,y,xs,r,ob,es,ep,e,c⟩:=x
  exact⟨z,y,xs,Paired.Nz r fun p q z=>⟨z.1,ht _ _ z.2.1,z.2.2⟩,ob,es,ep,k _ _ (.inl rfl) e,c⟩
 |set S n=>obtain⟨ob,es,ep,t,e,c⟩:=x;exact⟨ob,es,ep,t,k _ _ (.inl rfl) e,c⟩
 |ins C dx fs=>
  obtain⟨d,z,ne,e,mA,⟨od,es,ep,e2,c⟩,r⟩:=x
  exact⟨ho _ d,z,ne,k _ _ (.inl rfl) e,mA,⟨od,es,ep,k _ _ (.inr d) e2,c⟩,r⟩
 |own y=>obtain⟨ob,e⟩:=x;exact⟨ob,k _ _ (.inl rfl) e⟩
 |xd fs=>obtain⟨mA,⟨od,es,ep,e,c⟩,r⟩:=x;exact⟨mA,⟨od,es,ep,k _ _ (.inl rfl) e,c⟩,r⟩
 |Vc lo hi=>obtain⟨t,u,v,e⟩:=x;exact⟨t,u,v,k _ _ (.inl rfl) e⟩
 |Be ob u ih=>obtain⟨e,q⟩:=x;exact⟨k _ _ (.inl rfl) e,ih q⟩
 |Mj ps=>
  have e:h.get? a=some {cls:=.none,data:=.fields ps}:=x
  show h'.get? a=some {cls:=.none,data:=.fields ps}
  exact k a _ (.inl rfl) e
 |met f y=>
  have e:h.get? a=some (PySem.W.methodObj (.ref f) (.ref y)):=x
  show h'.get? a=some (PySem.W.methodObj (.ref f) (.ref y))
  exact k a _ (.inl rfl) e
 |ext φ=>obtain⟨p,⟨o,e⟩,st⟩:=x;exact⟨st _ _ p fun o q=>k _ _ (.inl rfl) q,⟨o,k _ _ (.inl rfl) e⟩,st⟩
def pM.lt (x:pM P w H h) (e:H a=some o):a<h.objs.size:=(x a o e).lt
def pM.fresh (x:pM P w H h) (e:h.objs.size<=a):H a=none:=by
 cases q:H a with
 |none=>rfl
 |some u=>exact absurd (bT (x.lt q) e) (gm _)
def pM.kept (x:pM P w H h) (k:∀b u,h.get? b=some u->h'.get? b=some u):pM P w H h':=fun a o e=>
 (x a o e).pG (fun b u _ q=>k b u q) (fun _ q=>q) fun _ _ q=>q
def pM.laid (x:pM P w H h) (k:∀b u,h.get? b=some u->h'.get? b=some u) (hp:h.objs.size<=a) (new:fP P w (upd H a o) h' a o):pM P w (upd H a o) h':=fun b u e=>by
 have hn:=x.fresh hp
 by_cases hb:b=a
 ·subst hb;rw[az] at e;cases e;exact new
 ·rw[aV hb] at e
  exact(x b u e).pG (fun c v _ q=>k c v q) (fun c q=>by rw[aV (dj q hn)];exact q) fun c xs q=>by rw[aV (dj q hn)];exact q
end
def Rd (H:Hp) (a:ah) (u:HO):Prop:=H a=some u\/∃o,H a=some (.Be o u)
def Rd.ok {P:aF}{w:ba}{H:Hp}{h:Heap}{a:ah}{u:HO}(r:Rd H a u) (x:pM P w H h):fP P w H h a u:=by
 rcases r with r|⟨o,r⟩
 ·exact x a u r
 ·obtain⟨_,q⟩:=x a _ r
  exact q
def RJ:Option HO->Prop
 |some (.lst _)=>True
 |some (.dK _)=>True
 |some (.dT _)=>True
 |some (.set _ _)=>True
 |some (.ins _ _ _)=>True
 |some (.ext _)=>True
 |_=>False
section
variable {P:aF}{w:ba}{H:Hp}{h h':Heap}{x e:ah}{o':HO}
def pM.write (ok:pM P w H h) (mu:RJ (H x)) (he:e=x\/H e=some (.own x)) (k:∀b u,b≠e->h.get? b=some u->h'.get? b=some u) (QY:∃u,h'.get? e=some u)
  (new:fP P w (upd H x o') h' x o'):pM P w (upd H x o') h':=fun b u q=>by
 have RK:∀c y,H c=some (.own y)->c≠x:=fun c y r z=>by subst z;rw[r] at mu;exact mu
 have VW:∀c xs,H c=some (.tup xs)->c≠x:=fun c xs r z=>by subst z;rw[r] at mu;exact mu
 by_cases hb:b=x
 ·subst hb;rw[az] at q;cases q;exact new
 ·rw[aV hb] at q
  by_cases NA:b=e
  ·have q':H b=some (.own x):=by
    rcases he with z|z
    ·exact absurd (NA.trans z) hb
    ·rw[NA];exact z
   rw[q] at q';cases q'
   obtain⟨v,hv⟩:=QY
   exact⟨v,by rw[NA];exact hv⟩
  ·refine(ok b u q).pG (fun c v hc r=>k c v ?_ r) (fun c r=>by rw[aV (RK c b r)];exact r) fun c xs r=>by rw[aV (VW c xs r)];exact r
   rcases hc with rfl|hc
   ·exact NA
   ·rintro rfl
    rcases he with z|z
    ·exact RK c b hc z
    ·rw[hc] at z;cases z;exact hb rfl
end
structure Un (fs ex:List ah) (H H':Hp) (h h':Heap):Prop where
 keep:∀b o,h.get? b=some o->H b=none->b∉fs->b∉ex->h'.get? b=some o
 slot:∀b o,h.get? b=some o->H b=none->b∈fs->b∉ex->∃sl,h'.get? b=some {o with slots:=sl}
 free:∀b o,h.get? b=some o->H b=none->b∉ex->H' b=none
 there:∀b o,h.get? b=some o->b∉ex->∃o',h'.get? b=some o'
 mJ:∀b xs,H b=some (.tup xs)->H' b=some (.tup xs)
 nQ:∀b o u,H b=some (.Be o u)->H' b=some (.Be o u)
 pH:∀b ps,H b=some (.Mj ps)->∃more,H' b=some (.Mj (ps++more))
section
variable {fs fs' ex ex':List ah}{H H1 H2:Hp}{h h1 h2 h':Heap}{a x e:ah}{o:HO}
def Un.any (u:Un fs ex H H1 h h1) {b:ah}{ob:Obj}(q:h.get? b=some ob) (n:H b=none) (hx:b∉ex):∃sl,h1.get? b=some {ob with slots:=sl}:=by
 by_cases hb:b∈fs
 ·exact u.slot b ob q n hb hx
 ·exact⟨ob.slots,u.keep b ob q n hb hx⟩
def Un.trans (a:Un fs ex H H1 h h1) (b:Un fs ex H1 H2 h1 h2):Un fs ex H H2 h h2 where
 keep:=fun c ob q n hc hx=>b.keep c ob (a.keep c ob q n hc hx) (a.free c ob q n hx) hc hx
 slot:=fun c ob q n hc hx=>by
  obtain⟨sl,e1⟩:=a.slot c ob q n hc hx
  obtain⟨NB,e2⟩:=b.slot c _ e1 (a.free c ob q n hx) hc hx
  exact⟨NB,e2⟩
 free:=fun c ob q n hx=>by
  obtain⟨o',e1⟩:=a.there c ob q hx
  exact b.free c o' e1 (a.free c ob q n hx) hx
 there:=fun c ob q hx=>by
  obtain⟨o',e1⟩:=a.there c ob q hx
  exact b.there c o' e1 hx
 mJ:=fun c xs q=>b.mJ c xs (a.mJ c xs q)
 nQ:=fun c ob xs q=>b.nQ c ob xs (a.nQ c ob xs q)
 pH:=fun c ps q=>by
  obtain⟨m1,e1⟩:=a.pH c ps q
  obtain⟨m2,e2⟩:=b.pH c _ e1
  exact⟨m1++m2,by rw[e2,Array.append_assoc]⟩
def Un.kept (k:∀b u,h.get? b=some u->h'.get? b=some u):Un fs ex H H h h':=
 ⟨fun b ob q _ _ _=>k b ob q,fun b ob q _ _ _=>⟨ob.slots,k b ob q⟩,fun _ _ _ n _=>n,fun b ob q _=>⟨ob,k b ob q⟩,fun _ _ q=>q,fun _ _ _ q=>q,fun _ ps q=>⟨#[],by rw[q];simp⟩⟩
def Un.refl:Un fs ex H H h h:=Un.kept fun _ _ q=>q
def Un.laid (k:∀b u,h.get? b=some u->h'.get? b=some u) (hp:h.objs.size<=a) (hn:H a=none):Un fs ex H (upd H a o) h h' where
 keep:=fun b u q _ _ _=>k b u q
 slot:=fun b u q _ _ _=>⟨u.slots,k b u q⟩
 free:=fun b u q n _=>by rw[aV (bb (bT (aA q) hp))];exact n
 there:=fun b u q _=>⟨u,k b u q⟩
 mJ:=fun b xs q=>by rw[aV (dj q hn)];exact q
 nQ:=fun b u xs q=>by rw[aV (dj q hn)];exact q
 pH:=fun b ps q=>⟨#[],by rw[aV (dj q hn),q];simp⟩
def Un.write (mu:RJ (H x)) (he:e=x\/H e=some (.own x)) (k:∀b u,b≠e->h.get? b=some u->h'.get? b=some u) (QY:∃u,h'.get? e=some u):Un fs ex H (upd H x o) h h':=by
 have hx:∀b,H b=none->b≠x:=fun b n z=>by subst z;rw[n] at mu;exact mu
 have hb:∀b,H b=none->b≠e:=fun b n z=>by
  subst z
  rcases he with r|r
  ·exact hx b n r
  ·rw[n] at r;cases r
 have hm:∀b u,H b=some u->¬RJ (some u)->b≠x:=fun b u q nm z=>by subst z;rw[q] at mu;exact nm mu
 refine⟨fun b u q n _ _=>k b u (hb b n) q,fun b u q n _ _=>⟨u.slots,k b u (hb b n) q⟩,fun b u q n _=>by rw[aV (hx b n)];exact n,fun b u q _=>?_,
  fun b xs q=>by rw[aV (hm b _ q fun z=>z)];exact q,fun b u xs q=>by rw[aV (hm b _ q fun z=>z)];exact q,fun b ps q=>⟨#[],by rw[aV (hm b _ q fun z=>z),q];simp⟩⟩
 by_cases NA:b=e
 ·subst NA;exact QY
 ·exact⟨u,k b u NA q⟩
end
def tU (h:Heap) (H:Hp):List ah:=(List.range h.objs.size).filter fun a=>(H a).isSome
def xX (h:Heap) (H:Hp):Heap:=PySem.W.hideAll h (tU h H)
def EH (h:Heap) (H:Hp):(xX h H).objs.size=h.objs.size:=PySem.W.hideAll_size _ _
def GA {h:Heap}{H:Hp}{b:ah}{o:Obj}(e:h.get? b=some o) (n:H b=none):(xX h H).get? b=some o:=
 PySem.W.hideAll_get _ e fun hm=>by
  have q:(H b).isSome=true:=(dz.mp hm).2
  rw[n] at q;simp at q
def Ka {h:Heap}{H:Hp}{b:ah}{o:Obj}(e:(xX h H).get? b=some o):h.get? b=some o/\H b=none:=by
 have e':h.get? b=some o:=PySem.W.of_hideAll (tU h H) e
 refine⟨e',?_⟩
 cases q:H b with
 |none=>rfl
 |some x=>
  have hm:b∈tU h H:=dz.mpr ⟨pE.mpr (aA e'),by simp[q]⟩
  have z:(xX h H).get? b=none:=PySem.W.hideAll_none (tU h H) hm
  rw[z] at e;cases e
def Kb (g h:Heap) (L:ah):List (ah×Obj):=(List.range h.objs.size).filterMap fun a=>if a=L\/(g.get? a).isSome=true then none else(h.get? a).map fun o=>(a,o)
def rest (g h:Heap) (L d:ah):List (ah×Obj):=(Kb g h L).filter fun p=>decide (p.1≠d)
structure Mod (K:PySem.W.Frag) (mg:Str->Option af) (base:Heap):Prop where
 pI:K.In base
 glob:base.Ns mainGlobals mg
 blt:∃mb,base.Ns builtinsNs mb/\∀x:Str,x≠"__name__"->mb x=bootBuiltins x
 nolimit:base.NoLimit
structure Cx where
 prog:aF
 w:ba
 K:PySem.W.Frag
 mg:Str->Option af
 base:Heap
 A:aQ
 N:List Str
 gG:ai
 Bf:Hp
 env:Env
 outer:List Env
 stack:List Env
 ex:List ah
 fn:Str->Bool
 calm:Bool
 pn:List (ah×Obj)
 xe:af->ai->Prop
def nE (l:List Env):List ah:=l.filterMap (·.frame)
abbrev Cx.fs (X:Cx):List ah:=nE X.outer
def Vd (sc:Scope) (x:Str):Prop:=sc.names.lookup x=some .local\/sc.names.lookup x=some .cell\/sc.names.lookup x=some .free
def Loc (sc:Scope) (x:Str):Prop:=sc.names.lookup x=some .local\/sc.names.lookup x=some .cell
def Look (env:Env) (h:Heap) (m:Str->Option af) (x:Str) (u:af):Prop:=
 (env.kindOf x=some .local/\m x=some u)\/((env.kindOf x=some .cell\/env.kindOf x=some .free)/\∃c,env.cells.lookup x=some c/\h.IsCell c (some u))
structure Cx.Ok (X:Cx):Prop where
 mod:Mod X.K X.mg X.base
 kind:X.env.scope.kind=.function
 glob:X.env.globals=mainGlobals
 blt:X.env.builtins=builtinsNs
 above:X.gG.heap.objs.size<=X.env.locals
 inj:∀x y c,X.env.cells.lookup x=some c->X.env.cells.lookup y=some c->x=y
 has:∀x,(X.env.kindOf x=some .cell\/X.env.kindOf x=some .free)->∃c,X.env.cells.lookup x=some c
 JM:∀x c,X.fn x=true->X.env.cells.lookup x=some c->X.gG.heap.objs.size<=c
 hd:X.calm=true->X.A.handled=none
 frames:X.A.frames=some X.stack
 Kc:X.stack=X.outer\/(X.stack=X.env::X.outer/\X.env.frame=some X.env.locals)
 EI:∀b∈X.ex,b≠X.env.locals/\∀x c,X.env.cells.lookup x=some c->c≠b
 bs:∀b o,X.base.get? b=some o->X.gG.heap.get? b=some o/\X.Bf b=none
 Bg:X.base.objs.size<=X.gG.heap.objs.size
 wy:∀b o,X.base.get? b=some o->b∉X.ex
 tV:∀b∈X.ex,b∉X.fs
 mf:X.gG.heap.FunFrames X.base X.outer
 C4:∀b∈X.fs,X.Bf b=none
structure Inv (X:Cx) (pins:List (ah×Obj)) (σ:List (Option V)) (H:Hp) (s:ai):Prop where
 ok:X.Ok
 os:s.os=X.gG.os
 bare:AllBare s.gens
 base:Un X.fs X.ex X.Bf H X.gG.heap s.heap
 loc:∃m,s.heap.Ns X.env.locals m/\∀(i:Nat) (x:Str) (v:V),X.N[i]?=some x->σ[i]?=some (some v)->Vd X.env.scope x->∃u,RelV v u/\Look X.env s.heap m x u
 cell:∀x c,X.env.cells.lookup x=some c->∃v,s.heap.IsCell c v
 free:H X.env.locals=none
 iZ:∀x c,X.env.cells.lookup x=some c->H c=none
 pin:∀p∈X.pn++pins,s.heap.get? p.1=some p.2/\H p.1=none/\p.1≠X.env.locals/\p.1∉X.fs/\∀v,p.2.data≠.cell v
 eE:pM X.prog X.w H s.heap
 len:σ.length=X.N.length
section
variable {X:Cx}{pins:List (ah×Obj)}{σ:List (Option V)}{H H':Hp}{s:ai}{h':Heap}
def Cx.Ok.VX (ok:X.Ok) {b:ah}{o:Obj}(e:X.base.get? b=some o):b∉X.fs:=fun hb=>by
 have:=(ok.mf.mem hb).1
 rw[e] at this;cases this
def Inv.bs (I:Inv X pins σ H s):∀b o,X.base.get? b=some o->s.heap.get? b=some o/\H b=none:=fun b o e=>
 ⟨I.base.keep b o (I.ok.bs b o e).1 (I.ok.bs b o e).2 (I.ok.VX e) (I.ok.wy b o e),I.base.free b o (I.ok.bs b o e).1 (I.ok.bs b o e).2 (I.ok.wy b o e)⟩
def Inv.bk (I:Inv X pins σ H s):∀b o,X.base.get? b=some o->s.heap.get? b=some o:=fun b o e=>(I.bs b o e).1
def Inv.mod (I:Inv X pins σ H s):Mod X.K X.mg X.base:=I.ok.mod
def Inv.kC (I:Inv X pins σ H s):X.K.In s.heap:=I.ok.mod.pI.keeps I.bk
def Inv.lt (I:Inv X pins σ H s):X.env.locals<s.heap.objs.size:=let⟨_,hn,_⟩:=I.loc;hn.lt
def Inv.sz (I:Inv X pins σ H s):X.gG.heap.objs.size<=s.heap.objs.size:=bh I.ok.above (eM I.lt)
def Inv.VY (I:Inv X pins σ H s) {a:ah}(h:s.heap.objs.size<=a):a∉X.fs:=fun hb=>by
 obtain⟨_,o,ho,_⟩:=I.ok.mf.mem hb
 exact absurd (bT (aA ho) (bh I.sz h)) (gm _)
def Inv.GB (I:Inv X pins σ H s):∀x c,X.env.cells.lookup x=some c->c≠X.env.locals:=fun x c e z=>by
 obtain⟨v,o,ho,hd⟩:=I.cell x c e
 obtain⟨m,⟨o',es,ep,zB,VZ,_⟩,_⟩:=I.loc
 rw[z,zB] at ho;cases ho;rw[VZ] at hd;cases hd
def Inv.mf (I:Inv X pins σ H s):s.heap.FunFrames X.base X.outer:=by
 have all:∀(l:List Env),(∀b∈nE l,b∈X.fs)->X.gG.heap.FunFrames X.base l->s.heap.FunFrames X.base l:=by
  intro l
  induction l with
  |nil=>intro _ _;trivial
  |cons env r ih=>
   intro hs hl
   obtain⟨hk,⟨L,o,hf,hn,ho,hd⟩,hr⟩:=hl
   have hL:L∈X.fs:=hs L (by unfold nE;rw[ij,hf];exact cf)
   obtain⟨sl,e⟩:=I.base.slot L o ho (I.ok.C4 L hL) hL fun z=>I.ok.tV L z hL
   exact⟨hk,⟨L,_,hf,hn,e,hd⟩,ih (fun b hb=>hs b (by unfold nE;rw[ij,hf];exact cm _ hb)) hr⟩
 exact all X.outer (fun _ hb=>hb) I.ok.mf
def Inv.stack (I:Inv X pins σ H s):s.heap.FunFrames X.base X.stack:=by
 rcases I.ok.Kc with e|⟨e,hf⟩
 ·rw[e];exact I.mf
 ·rw[e]
  obtain⟨m,hn,_⟩:=I.loc
  refine .cons (by rw[I.ok.kind];decide) hf hn ?_ I.mf
  exact A2 (bh I.ok.Bg I.ok.above)
def Inv.rS (I:Inv X pins σ H s):∀b∈nE X.stack,b∈X.env.locals::X.fs:=fun b hb=>by
 rcases I.ok.Kc with e|⟨e,hf⟩
 ·rw[e] at hb;exact cm _ hb
 ·rw[e] at hb
  unfold nE at hb
  rw[ij,hf] at hb
  exact hb
def Inv.xY (I:Inv X pins σ H s):∀b∈nE X.stack,H b=none:=fun b hb=>by
 rcases aC.mp (I.rS b hb) with e|hb
 ·rw[e];exact I.free
 ·obtain⟨_,o,ho,_⟩:=I.ok.mf.mem hb
  exact I.base.free b o ho (I.ok.C4 b hb) fun z=>I.ok.tV b z hb
def Inv.step {g':Array GenState}{t':Nat}{d':Drawn}{ch:List ah}(I:Inv X pins σ H s)
  (JN:∀b∈ch,(b∈X.ex\/X.gG.heap.objs.size<=b)/\b≠X.env.locals/\(∀x c,X.env.cells.lookup x=some c->c≠b)/\∀p∈X.pn++pins,p.1≠b)
  (keep:∀b o,b≠X.env.locals->b∉X.fs->b∉ch->s.heap.get? b=some o->H b=none->h'.get? b=some o)
  (slot:∀b o,b≠X.env.locals->b∈X.fs->b∉ch->s.heap.get? b=some o->H b=none->∃sl,h'.get? b=some {o with slots:=sl}) (free:∀b o,b∉ch->s.heap.get? b=some o->H b=none->H' b=none)
  (there:∀b o,b∉ch->s.heap.get? b=some o->∃o',h'.get? b=some o')
  (mJ:∀b xs,H b=some (.tup xs)->H' b=some (.tup xs)) (nQ:∀b o u,H b=some (.Be o u)->H' b=some (.Be o u)) (pH:∀b ps,H b=some (.Mj ps)->∃more,H' b=some (.Mj (ps++more)))
  (ns:∀m,s.heap.Ns X.env.locals m->h'.Ns X.env.locals m) (eE:pM X.prog X.w H' h') (hg:AllBare g'):
  Inv X pins σ H' {s with heap:=h',gens:=g',drawn:=d',toks:=t'}:=by
 have ZE:∀b o,X.gG.heap.get? b=some o->b≠X.env.locals:=fun b o e=>bb (bT (aA e) I.ok.above)
 have Ve:∀b o,X.gG.heap.get? b=some o->b∉X.ex->b∉ch:=fun b o e hx hb=>by
  rcases(JN b hb).1 with z|z
  ·exact hx z
  ·exact absurd (bT (aA e) z) (gm _)
 have cellK:∀x c,X.env.cells.lookup x=some c->∀v,s.heap.IsCell c v->h'.IsCell c v:=fun x c e v ⟨o,ho,hd⟩=>by
  have RL:c∉ch:=fun z=>(JN c z).2.2.1 x c e rfl
  by_cases hc:c∈X.fs
  ·obtain⟨sl,q⟩:=slot c o (I.GB x c e) hc RL ho (I.iZ x c e)
   exact⟨_,q,hd⟩
  ·exact⟨o,keep c o (I.GB x c e) hc RL ho (I.iZ x c e),hd⟩
 refine⟨I.ok,I.os,hg,⟨fun b o e n hb hx=>?_,fun b o e n hb hx=>?_,fun b o e n hx=>?_,fun b o e hx=>?_,fun b xs e=>mJ b xs (I.base.mJ b xs e),fun b o xs e=>nQ b o xs (I.base.nQ b o xs e),fun b ps e=>?_⟩,?_,fun x c e=>?_,?_,fun x c e=>?_,fun p hp=>?_,eE,I.len⟩
 ·exact keep b o (ZE b o e) hb (Ve b o e hx) (I.base.keep b o e n hb hx) (I.base.free b o e n hx)
 ·obtain⟨sl,e1⟩:=I.base.slot b o e n hb hx
  obtain⟨NB,e2⟩:=slot b _ (ZE b o e) hb (Ve b o e hx) e1 (I.base.free b o e n hx)
  exact⟨NB,e2⟩
 ·obtain⟨o',e1⟩:=I.base.there b o e hx
  exact free b o' (Ve b o e hx) e1 (I.base.free b o e n hx)
 ·obtain⟨o',e1⟩:=I.base.there b o e hx
  exact there b o' (Ve b o e hx) e1
 ·obtain⟨m1,e1⟩:=I.base.pH b ps e
  obtain⟨m2,e2⟩:=pH b _ e1
  exact⟨m1++m2,by rw[e2,Array.append_assoc]⟩
 ·obtain⟨m,hn,hl⟩:=I.loc
  refine⟨m,ns m hn,fun i x v e1 e2 e3=>?_⟩
  obtain⟨u,r,l⟩:=hl i x v e1 e2 e3
  refine⟨u,r,?_⟩
  rcases l with l|⟨k,c,e,z⟩
  ·exact .inl l
  ·exact .inr ⟨k,c,e,cellK x c e _ z⟩
 ·obtain⟨v,z⟩:=I.cell x c e
  exact⟨v,cellK x c e v z⟩
 ·obtain⟨m,⟨o,_,_,ho,_⟩,_⟩:=I.loc
  exact free _ o (fun z=>(JN _ z).2.1 rfl) ho I.free
 ·obtain⟨v,o,ho,hd⟩:=I.cell x c e
  exact free c o (fun z=>(JN c z).2.2.1 x c e rfl) ho (I.iZ x c e)
 ·obtain⟨e,n,ne,nf,d⟩:=I.pin p hp
  have RL:p.1∉ch:=fun z=>(JN p.1 z).2.2.2 p hp rfl
  exact⟨keep p.1 p.2 ne nf RL e n,free p.1 p.2 RL e n,ne,nf,d⟩
def Inv.un {t':Nat}(I:Inv X pins σ H s) (u:Un X.fs [] H H' s.heap h') (eE:pM X.prog X.w H' h'):Inv X pins σ H' {s with heap:=h',toks:=t'}:=by
 obtain⟨m,⟨o,es,ep,ho,r⟩,_⟩:=id I.loc
 obtain⟨sl,hL⟩:=u.any ho I.free (by simp)
 exact I.step (g':=s.gens) (d':=s.drawn) (ch:=[]) (fun _ z=>nomatch z) (fun b o _ hb _ e n=>u.keep b o e n hb (by simp)) (fun b o _ hb _ e n=>u.slot b o e n hb (by simp)) (fun b o _ e n=>u.free b o e n (by simp)) (fun b o _ e=>u.there b o e (by simp)) u.mJ u.nQ u.pH (fun m' hm=>by
  obtain⟨o',Vf,V0,zB,r'⟩:=hm
  rw[ho] at zB;cases zB
  exact⟨_,Vf,V0,hL,r'⟩) eE I.bare
def Inv.call {g':Array GenState}{t':Nat}{d':Drawn}{ch:List ah}(I:Inv X pins σ H s) (u:Un (nE X.stack) ch H H' s.heap h') (eE:pM X.prog X.w H' h') (hg:AllBare g')
  (JN:∀b∈ch,(b∈X.ex\/X.gG.heap.objs.size<=b)/\b≠X.env.locals/\(∀x c,X.env.cells.lookup x=some c->c≠b)/\∀p∈X.pn++pins,p.1≠b):
  Inv X pins σ H' {s with heap:=h',gens:=g',drawn:=d',toks:=t'}:=by
 obtain⟨m,⟨o,es,ep,ho,r⟩,_⟩:=id I.loc
 obtain⟨sl,hL⟩:=u.any ho I.free fun z=>(JN _ z).2.1 rfl
 exact I.step (ch:=ch) JN (fun b o hL hb hc e n=>u.keep b o e n (fun z=>(aC.mp (I.rS b z)).elim hL hb) hc) (fun b o _ _ hc e n=>u.any e n hc) (fun b o hc e n=>u.free b o e n hc) (fun b o hc e=>u.there b o e hc) u.mJ u.nQ u.pH (fun m' hm=>by
  obtain⟨o',Vf,V0,zB,r'⟩:=hm
  rw[ho] at zB;cases zB
  exact⟨_,Vf,V0,hL,r'⟩) eE hg
def Inv.turned {t':Nat}{it:ah}(I:Inv X pins σ H s) (k:∀b o,b≠it->s.heap.get? b=some o->h'.get? b=some o) (hn:H it=none) (hL:it≠X.env.locals)
  (h1:it∈X.ex\/X.gG.heap.objs.size<=it) (h2:∀x c,X.env.cells.lookup x=some c->c≠it) (h3:∀p∈X.pn++pins,p.1≠it):Inv X pins σ H {s with heap:=h',toks:=t'}:=by
 have QZ:∀b u,H b=some u->b≠it:=fun b u e z=>by rw[z,hn] at e;cases e
 refine I.step (g':=s.gens) (d':=s.drawn) (ch:=[it]) (fun b hb=>?_) (fun b o _ _ hc e _=>k b o (fun z=>hc (by simp[z])) e) (fun b o _ _ hc e _=>⟨o.slots,k b o (fun z=>hc (by simp[z])) e⟩) (fun _ _ _ _ n=>n)
  (fun b o hc e=>⟨o,k b o (fun z=>hc (by simp[z])) e⟩) (fun _ _ e=>e) (fun _ _ _ e=>e) (fun b ps e=>⟨#[],by rw[e];simp⟩) (fun m hm=>?_) (fun b u e=>?_) I.bare
 ·have e:b=it:=by simpa using hb
  subst e
  exact⟨h1,hL,h2,h3⟩
 ·obtain⟨o,es,ep,ho,r⟩:=hm
  exact⟨o,es,ep,k _ o (cF hL) ho,r⟩
 ·refine(I.eE b u e).pG (fun c v hc q=>k c v ?_ q) (fun _ q=>q) fun _ _ q=>q
  rcases hc with z|z
  ·rw[z];exact QZ b u e
  ·exact QZ c _ z
def Inv.tok (I:Inv X pins σ H s) (t:Nat):Inv X pins σ H {s with toks:=t}:=I.un (h':=s.heap) (t':=t) Un.refl I.eE
def Inv.kept {t':Nat}(I:Inv X pins σ H s) (k:∀b u,s.heap.get? b=some u->h'.get? b=some u):Inv X pins σ H {s with heap:=h',toks:=t'}:=I.un (Un.kept k) (I.eE.kept k)
def Inv.laid {a:ah}{o:HO}{t':Nat}(I:Inv X pins σ H s) (k:∀b u,s.heap.get? b=some u->h'.get? b=some u) (hp:s.heap.objs.size<=a) (new:fP X.prog X.w (upd H a o) h' a o):
  Inv X pins σ (upd H a o) {s with heap:=h',toks:=t'}:=I.un (Un.laid k hp (I.eE.fresh hp)) (I.eE.laid k hp new)
def Inv.write {x e:ah}{o:HO}{t':Nat}(I:Inv X pins σ H s) (mu:RJ (H x)) (he:e=x\/H e=some (.own x)) (k:∀b u,b≠e->s.heap.get? b=some u->h'.get? b=some u) (QY:∃u,h'.get? e=some u)
  (new:fP X.prog X.w (upd H x o) h' x o):Inv X pins σ (upd H x o) {s with heap:=h',toks:=t'}:=I.un (Un.write mu he k QY) (I.eE.write mu he k QY new)
def Inv.C5 {uP:List (ah×Obj)}(I:Inv X pins σ H s) (h:∀p∈uP,s.heap.get? p.1=some p.2/\H p.1=none/\p.1≠X.env.locals/\p.1∉X.fs/\∀v,p.2.data≠.cell v):Inv X uP σ H s:=
 ⟨I.ok,I.os,I.bare,I.base,I.loc,I.cell,I.free,I.iZ,fun p hp=>(c_.mp hp).elim (fun z=>I.pin p (ju _ z)) (h p),I.eE,I.len⟩
def uQ {N:List Str}(hN:N.Nodup) {i j:Nat}{x:Str}(a:N[i]?=some x) (b:N[j]?=some x):i=j:=by
 obtain⟨h1,e1⟩:=bw.mp a
 obtain⟨h2,e2⟩:=bw.mp b
 exact(List.getElem_inj hN).mp (e1.trans e2.symm)
def oX {M:Model}{A:aQ}{E:af->ai->Prop}{i:Nat}{x:Str}{v:V}{u:af}{Q:Unit->ai->Prop}(I:Inv X pins σ H s) (hN:X.N.Nodup) (hi:X.N[i]?=some x) (hx:Loc X.env.scope x) (r:RelV v u)
  (h:∀s',Inv X pins (σ.set i (some v)) H s'->(∃a,Heap.SameBut a s.heap s'.heap/\(a=X.env.locals\/X.env.cells.lookup x=some a))->Q () s') (hf:X.fn x=true\/X.env.scope.names.lookup x=some .local:=by first|exact .inl rfl|exact .inr rfl|assumption):wpAny M A (storeName X.env x u) Q E s:=by
 obtain⟨m,hn,hl⟩:=id I.loc
 have NC:(X.env.scope.kind== .class||(X.env.scope.kind== .module&&X.env.locals !=X.env.globals))=false:=by rw[I.ok.kind];rfl
 have EJ:i<σ.length:=by rw[I.len];exact(bw.mp hi).1
 have GB:=I.GB
 have tracked:∀{a:ah} {h':Heap},(∃o,s.heap.get? a=some o/\H a=none)->Heap.SameBut a s.heap h'->pM X.prog X.w H h':=fun{a h'} ha hs b ob e=>by
  obtain⟨_,_,C6⟩:=ha
  refine(I.eE b ob e).pG (fun c w' hc q=>(hs.2 c ?_).trans q) (fun _ q=>q) fun _ _ q=>q
  rintro rfl
  rcases hc with rfl|hc
  ·rw[C6] at e;cases e
  ·rw[C6] at hc;cases hc
 rcases hx with hk|hk
 ·refine wpAny_storeName_local hk hn (fun h' Vg hs=>?_) NC
  obtain⟨oL,_,_,ZF,_⟩:=id hn
  refine h _ ⟨I.ok,I.os,I.bare,⟨fun b o e n hb hx=>?_,fun b o e n hb hx=>?_,I.base.free,fun b o e hx=>?_,I.base.mJ,I.base.nQ,I.base.pH⟩,⟨_,Vg,fun j y v' e1 e2 e3=>?_⟩,fun y c e=>?_,I.free,I.iZ,fun p hp=>?_,tracked ⟨oL,ZF,I.free⟩ hs,by simpa using I.len⟩ ⟨_,hs,.inl rfl⟩
  ·exact(hs.2 b (bb (bT (aA e) I.ok.above))).trans (I.base.keep b o e n hb hx)
  ·obtain⟨sl,e1⟩:=I.base.slot b o e n hb hx
   exact⟨sl,(hs.2 b (bb (bT (aA e) I.ok.above))).trans e1⟩
  ·obtain⟨o',e1⟩:=I.base.there b o e hx
   exact⟨o',(hs.2 b (bb (bT (aA e) I.ok.above))).trans e1⟩
  ·by_cases hj:j=i
   ·subst hj
    rw[hi] at e1;cases e1
    rw[kT EJ] at e2
    cases e2
    exact⟨u,r,.inl ⟨hk,by simp⟩⟩
   ·rw[mE (cF hj)] at e2
    obtain⟨u',r',q⟩:=hl j y v' e1 e2 e3
    refine⟨u',r',?_⟩
    rcases q with⟨k,e⟩|⟨k,c,e,z⟩
    ·refine .inl ⟨k,?_⟩
     have:y≠x:=fun e=>hj (uQ hN e1 (e▸hi))
     simp[this,e]
    ·exact .inr ⟨k,c,e,z.sameBut hs (GB y c e)⟩
  ·obtain⟨w',z⟩:=I.cell y c e
   exact⟨w',z.sameBut hs (GB y c e)⟩
  ·obtain⟨e,n,ne,nf,d⟩:=I.pin p hp
   exact⟨(hs.2 p.1 ne).trans e,n,ne,nf,d⟩
 ·have ND:X.fn x=true:=by
   rcases hf with z|z
   ·exact z
   ·rw[z] at hk;cases hk
  obtain⟨c,hc⟩:=I.ok.has x (.inl hk)
  obtain⟨w',z⟩:=I.cell x c hc
  refine wpAny_storeName_cell I.ok.kind hk hc z (fun h' C7 hs=>?_)
  obtain⟨oc,RM,V3⟩:=id z
  refine h {s with heap:=h'} ⟨I.ok,I.os,I.bare,⟨fun b o e n hb hx=>?_,fun b o e n hb hx=>?_,I.base.free,fun b o e hx=>?_,I.base.mJ,I.base.nQ,I.base.pH⟩,⟨m,hn.sameBut hs (cF (GB x c hc)),fun j y v' e1 e2 e3=>?_⟩,fun y c' e=>?_,I.free,I.iZ,fun p hp=>?_,tracked ⟨oc,RM,I.iZ x c hc⟩ hs,by simpa using I.len⟩ ⟨c,hs,.inr hc⟩
  ·exact(hs.2 b (bb (bT (aA e) (I.ok.JM x c ND hc)))).trans (I.base.keep b o e n hb hx)
  ·obtain⟨sl,e1⟩:=I.base.slot b o e n hb hx
   exact⟨sl,(hs.2 b (bb (bT (aA e) (I.ok.JM x c ND hc)))).trans e1⟩
  ·obtain⟨o',e1⟩:=I.base.there b o e hx
   exact⟨o',(hs.2 b (bb (bT (aA e) (I.ok.JM x c ND hc)))).trans e1⟩
  ·by_cases hj:j=i
   ·subst hj
    rw[hi] at e1;cases e1
    rw[kT EJ] at e2
    cases e2
    exact⟨u,r,.inr ⟨.inl hk,c,hc,C7⟩⟩
   ·rw[mE (cF hj)] at e2
    obtain⟨u',r',q⟩:=hl j y v' e1 e2 e3
    refine⟨u',r',?_⟩
    rcases q with q|⟨k,c',e,z'⟩
    ·exact .inl q
    ·refine .inr ⟨k,c',e,z'.sameBut hs ?_⟩
     rintro rfl
     exact hj (uQ hN e1 (I.ok.inj _ _ _ e hc▸hi))
  ·by_cases ZG:c'=c
   ·subst ZG;exact⟨_,C7⟩
   ·obtain⟨w2,z2⟩:=I.cell y c' e
    exact⟨w2,z2.sameBut hs ZG⟩
  ·obtain⟨e,n,ne,nf,d⟩:=I.pin p hp
   refine⟨(hs.2 p.1 ?_).trans e,n,ne,nf,d⟩
   intro q
   rw[q,RM] at e
   have q':oc=p.2:=cK e
   exact d w' (by rw[<-q'];exact V3)
def kD {M:Model}{A:aQ}{E:af->ai->Prop}{i:Nat}{x:Str}{v:V}{u:af}{Q:Unit->ai->Prop}(I:Inv X pins σ H s) (hN:X.N.Nodup) (hi:X.N[i]?=some x) (hx:Loc X.env.scope x) (r:RelV v u)
  (h:∀s',Inv X pins (σ.set i (some v)) H s'->Q () s') (hf:X.fn x=true\/X.env.scope.names.lookup x=some .local:=by first|exact .inl rfl|exact .inr rfl|assumption):wpAny M A (storeName X.env x u) Q E s:=
 oX I hN hi hx r (fun s' I' _=>h s' I') hf
def Inv.GC {s':ai}{ch:List ah}(I:Inv X pins σ H s) (ho:s'.os=s.os) (u:Un (nE X.stack) ch H H' s.heap s'.heap) (eE:pM X.prog X.w H' s'.heap) (hg:AllBare s'.gens)
  (JN:∀b∈ch,(b∈X.ex\/X.gG.heap.objs.size<=b)/\b≠X.env.locals/\(∀x c,X.env.cells.lookup x=some c->c≠b)/\∀p∈X.pn++pins,p.1≠b):Inv X pins σ H' s':=by
 obtain⟨h',g',d',t',o'⟩:=s'
 have e:o'=s.os:=ho
 subst e
 exact I.call (g':=g') (t':=t') (d':=d') u eE hg JN
end
abbrev XK:=af->Option ah->Hp->Prop
abbrev St:=List (Option V)
abbrev VK:=V->Hp->Prop
abbrev TE:=St->Hp->VK->Prop
abbrev TT:=St->Hp->(Bool->Hp->Prop)->Prop
abbrev TA:=St->Hp->(List V->Hp->Prop)->Prop
structure Ends where
 nx:St->Hp->Prop
 rt:VK
 bk:St->Hp->Prop:=fun _ _=>False
 ct:St->Hp->Prop:=fun _ _=>False
abbrev TS:=Ends->St->Hp->Prop
def EP (X:Cx) (pins:List (ah×Obj)) (σ:St) (Q:VK) (u:af) (s':ai):Prop:=∃v H',Inv X pins σ H' s'/\RelV v u/\Q v H'
def TP (X:Cx) (pins:List (ah×Obj)) (σ:St) (Q:Bool->Hp->Prop) (b:Bool) (s':ai):Prop:=∃H',Inv X pins σ H' s'/\Q b H'
def AP (X:Cx) (pins:List (ah×Obj)) (σ:St) (Q:List V->Hp->Prop) (us:List af) (s':ai):Prop:=∃vs H',Inv X pins σ H' s'/\cy vs us/\Q vs H'
def SP (X:Cx) (pins:List (ah×Obj)) (D:Ends) (f:Flow) (s':ai):Prop:=
 match f with
 | .next=>∃bW H',Inv X pins bW H' s'/\D.nx bW H'
 | .brk=>∃bW H',Inv X pins bW H' s'/\D.bk bW H'
 | .cont=>∃bW H',Inv X pins bW H' s'/\D.ct bW H'
 | .ret u=>∃v bW H',Inv X pins bW H' s'/\RelV v u/\D.rt v H'
def PE (X:Cx) (e:Expr) (t:TE):Prop:=
 ∀(pins:List (ah×Obj)) (s:ai) (σ:St) (H:Hp) (Q:VK),Inv X pins σ H s->t σ H Q->wpAny (model X.prog X.w) X.A (eval e X.env) (EP X pins σ Q) X.xe s
def PT (X:Cx) (e:Expr) (t:TT):Prop:=
 ∀(pins:List (ah×Obj)) (s:ai) (σ:St) (H:Hp) (Q:Bool->Hp->Prop),Inv X pins σ H s->t σ H Q->wpAny (model X.prog X.w) X.A (isTrue e X.env (eval e X.env)) (TP X pins σ Q) X.xe s
def PW (X:Cx) (e:Expr) (t:TT):Prop:=
 ∀(whole:Sem af) (pins:List (ah×Obj)) (s:ai) (σ:St) (H:Hp) (Q:Bool->Hp->Prop),Inv X pins σ H s->t σ H Q->wpAny (model X.prog X.w) X.A (isTrue e X.env whole) (TP X pins σ Q) X.xe s
def PW.pt {X:Cx}{e:Expr}{t:TT}(h:PW X e t):PT X e t:=h _
def PA (X:Cx) (es:List Expr) (t:TA):Prop:=
 ∀(pos:Pos) (pins:List (ah×Obj)) (s:ai) (σ:St) (H:Hp) (Q:List V->Hp->Prop),Inv X pins σ H s->t σ H Q->wpAny (model X.prog X.w) X.A (spliced (backTo pos (starEach es X.env))) (AP X pins σ Q) X.xe s
def PS (X:Cx) (st:Stmt) (t:TS):Prop:=
 ∀(pins:List (ah×Obj)) (s:ai) (σ:St) (H:Hp) (D:Ends),Inv X pins σ H s->t D σ H->wpAny (model X.prog X.w) X.A (exec st X.env) (SP X pins D) X.xe s
def wz (X:Cx) (st:List Stmt) (t:TS):Prop:=
 ∀(pins:List (ah×Obj)) (s:ai) (σ:St) (H:Hp) (D:Ends),Inv X pins σ H s->t D σ H->wpAny (model X.prog X.w) X.A (execs st X.env) (SP X pins D) X.xe s
def e_ {α:Type}{t:Sem α}{Q Q':α->ai->Prop}{M:Model}{A:aQ}{E:af->ai->Prop}{s:ai}(h:wpAny M A t Q E s) (hQ:∀a s,Q a s->Q' a s):wpAny M A t Q' E s:=bK h hQ fun _ _ x=>x
section
variable {X:Cx}
def bin {a b:Expr}{ta tb:TE}(ha:PE X a ta) (hb:PE X b tb) {pins:List (ah×Obj)}{s:ai}{σ:St}{H:Hp}{R:V->V->Hp->Prop}(I:Inv X pins σ H s) (h:ta σ H fun x H1=>tb σ H1 fun y H2=>R x y H2)
  {α:Type} {Q:α->ai->Prop} {f:af->af->Sem α}
  (hf:∀v u s2 x y H2,Inv X pins σ H2 s2->RelV x v->RelV y u->R x y H2->wpAny (model X.prog X.w) X.A (f v u) Q X.xe s2):
  wpAny (model X.prog X.w) X.A (eval a X.env) (fun v eN=>wpAny (model X.prog X.w) X.A (eval b X.env) (fun u nR=>wpAny (model X.prog X.w) X.A (f v u) Q X.xe nR) X.xe eN) X.xe s:=by
 refine e_ (ha pins s σ H _ I h) fun v s1 ⟨x,H1,I1,r1,q1⟩=>?_
 refine e_ (hb pins s1 σ H1 _ I1 q1) fun u s2 ⟨y,H2,I2,r2,q2⟩=>?_
 exact hf v u s2 x y H2 I2 r1 r2 q2
def cg (i:Nat):TE:=fun σ H Q=>∃v,σ[i]?=some (some v)/\Q v H
def tC (v:V):TE:=fun _ H Q=>Q v H
def NF {i:Nat}{x:Str}{pos:Pos}(hN:X.N[i]?=some x) (hv:Vd X.env.scope x) (hd:(x==("__debug__":Str))=false:=by decide) (Bh:(x==("__classdict__":Str))=false:=by decide):PE X (.Name x pos) (cg i):=by
 intro pins s σ H Q I h
 obtain⟨v,e,h⟩:=h
 obtain⟨m,hn,hl⟩:=I.loc
 obtain⟨u,r,l⟩:=hl i x v hN e hv
 have fin:EP X pins σ Q u s:=⟨v,H,I,r,h⟩
 rcases l with⟨hk,hm⟩|⟨hk,c,hc,Ml⟩
 ·exact wpAny_Name (wpAny_loadName_local I.ok.kind hk hn hm fin) hd
 ·rcases hk with hk|hk
  ·exact wpAny_Name (wpAny_loadName_cell I.ok.kind hk hc Ml fin) hd
  ·exact wpAny_Name (wpAny_loadName_free I.ok.kind hk hc Ml fin Bh) hd
def ao {i j pos}:PE X (.Constant (.int i) j pos) (tC (.int i)):=fun _ _ _ H _ I h=>wpAny_Constant_int ⟨.int i,H,I.tok _,⟨_,rfl⟩,h⟩
def mY {b j pos}:PE X (.Constant (.bool b) j pos) (tC (.bl b)):=fun _ _ _ H _ I h=>Constant_bool ⟨.bl b,H,I,rfl,h⟩
def iT {j pos}:PE X (.Constant .none j pos) (tC .eA):=fun _ _ _ H _ I h=>Constant_none ⟨.eA,H,I,rfl,h⟩
def aW {x j pos}:PE X (.Constant (.str x) j pos) (tC (.str x)):=fun _ _ _ H _ I h=>Calls.Constant_str ⟨.str x,H,I.tok _,⟨_,rfl⟩,h⟩
def Gl (X:Cx) (x:Str):Prop:=X.env.kindOf x=some .globalImplicit
def jg {E:af->ai->Prop}{pins:List (ah×Obj)}{s:ai}{σ:St}{H:Hp}{x:Str}{u:af}{pos:Pos}{Q:af->ai->Prop}(I:Inv X pins σ H s) (hg:Gl X x) (hm:X.mg x=some u) (h:Q u s)
  (hd:(x==("__debug__":Str))=false:=by decide):wpAny (model X.prog X.w) X.A (eval (.Name x pos) X.env) Q E s:=
 Calls.Name_function_global I.ok.kind hg (Calls.loadGlobal_global (by rw[I.ok.glob];exact I.mod.glob.keeps I.bk) hm h) hd
def pU {E:af->ai->Prop}{pins:List (ah×Obj)}{s:ai}{σ:St}{H:Hp}{x:Str}{u:af}{pos:Pos}{Q:af->ai->Prop}(I:Inv X pins σ H s) (hg:Gl X x) (hm:X.mg x=none) (hv:bootBuiltins x=some u) (h:Q u s)
  (hn:x≠"__name__":=by decide) (hd:(x==("__debug__":Str))=false:=by decide):wpAny (model X.prog X.w) X.A (eval (.Name x pos) X.env) Q E s:=by
 obtain⟨mb,h1,h2⟩:=I.mod.blt
 exact Calls.Name_function_global I.ok.kind hg (Calls.loadGlobal_builtin (by rw[I.ok.glob];exact I.mod.glob.keeps I.bk) hm (by rw[I.ok.blt];exact h1.keeps I.bk) ((h2 x hn).trans hv) h) hd
def fS {x:Str}{v:V}{u:af}{pos:Pos}(hg:Gl X x) (hm:X.mg x=some u) (r:RelV v u) (hd:(x==("__debug__":Str))=false:=by decide):PE X (.Name x pos) (tC v):=
 fun _ _ _ H _ I h=>jg I hg hm ⟨v,H,I,r,h⟩ hd
def gH {x:Str}{v:V}{u:af}{pos:Pos}(hg:Gl X x) (hm:X.mg x=none) (hv:bootBuiltins x=some u) (r:RelV v u) (hn:x≠"__name__":=by decide) (hd:(x==("__debug__":Str))=false:=by decide):PE X (.Name x pos) (tC v):=
 fun _ _ _ H _ I h=>pU I hg hm hv ⟨v,H,I,r,h⟩ hn hd
def t2I (ta tb:TE) (k:Int->Int->Hp->Prop):St->Hp->Prop:=fun σ H=>ta σ H fun x H1=>tb σ H1 fun y H2=>∃i j,x=.int i/\y=.int j/\k i j H2
def Kd (ta tb:TE):TE:=fun σ H Q=>t2I ta tb (fun i j H2=>Q (.int (i-j)) H2) σ H
variable {a b:Expr}{ta tb:TE}{pos:Pos}
def PC (X:Cx) (op:CmpOp) (a b:Expr) (t:TE):Prop:=
 ∀(pins:List (ah×Obj)) (s:ai) (σ:St) (H:Hp) (Q:VK),Inv X pins σ H s->t σ H Q->
  wpAny (model X.prog X.w) X.A (eval a X.env) (fun v eN=>wpAny (model X.prog X.w) X.A (eval b X.env) (fun u nR=>wpAny (model X.prog X.w) X.A (compareOp op v u) (EP X pins σ Q) X.xe nR) X.xe eN) X.xe s
def GD (b:Expr) {op:CmpOp}(h:op≠.In) (h2:op≠.NotIn):behindInMarks op b=false:=by
 have e1:(op==CmpOp.In)=false:=by cases op<;>first|rfl|exact absurd rfl h
 have e2:(op==CmpOp.NotIn)=false:=by cases op<;>first|rfl|exact absurd rfl h2
 cases b<;>simp[behindInMarks,e1,e2]
def tB (t:TE):TT:=fun σ H Q=>t σ H fun x H1=>∃c,x=.bl c/\Q c H1
def V4 {op:CmpOp}{t:TE}(h:PC X op a b t) (h1:behindInMarks op b=false:=by first|exact GD _ (by decide) (by decide)|rfl):PT X (.Compare a [op] [b] pos) (tB t):=by
 intro pins s σ H Q I hw
 refine wpAny_isTrue_Compare1 (e_ (h pins s σ H _ I hw) fun v s1 h1=>e_ h1 fun u s2 h2=>e_ h2 fun c s3 ⟨x,H1,I1,r1,q1⟩=>?_) h1
 obtain⟨d,rfl,q⟩:=q1
 cases r1
 exact dM ⟨H1,I1,q⟩
def fG {e:Expr}{t:TE}(h:PE X e t) (he:∀whole,isTrue e X.env whole=(do let v<-whole;standAt e.pos;holding [v] (truthy v)):=by intro _;rfl):PT X e (tB t):=by
 intro pins s σ H Q I hw
 refine isTrue_plain (e_ (h pins s σ H _ I hw) fun v s1 ⟨x,H1,I1,r1,q1⟩=>?_) (he _)
 obtain⟨d,rfl,q⟩:=q1
 cases r1
 exact dM ⟨H1,I1,q⟩
variable {tA Vh:TT}{rest:List Expr}
def V5 (t u:TT):TT:=fun σ H Q=>t σ H fun c H1=>if c=true then u σ H1 Q else Q false H1
def tOr (t u:TT):TT:=fun σ H Q=>t σ H fun c H1=>if c=true then Q true H1 else u σ H1 Q
def V6 (t:TT):TT:=fun σ H Q=>t σ H fun c H1=>Q (!c) H1
def C8 (ha:PT X a tA):PW X (.BoolOp .And [a] pos) tA:=by
 intro wh pins s σ H Q I h
 refine isTrue_and (e_ (ha pins s σ H Q I h) fun c s1 e=>?_)
 cases c with
 |true=>exact isTrue_and_nil e
 |false=>exact e
def lK (ha:PT X a tA):PW X (.BoolOp .Or [a] pos) tA:=by
 intro wh pins s σ H Q I h
 refine isTrue_or (e_ (ha pins s σ H Q I h) fun c s1 e=>?_)
 cases c with
 |false=>exact isTrue_or_nil e
 |true=>exact e
def Bi (ha:PT X a tA) (hb:PW X (.BoolOp .And (b::rest) pos) Vh):PW X (.BoolOp .And (a::b::rest) pos) (V5 tA Vh):=by
 intro wh pins s σ H Q I h
 refine isTrue_and (e_ (ha pins s σ H _ I h) fun c s1 ⟨H1,I1,q1⟩=>?_)
 cases c with
 |true=>exact hb wh pins s1 σ H1 Q I1 q1
 |false=>exact⟨H1,I1,q1⟩
def kE (ha:PT X a tA) (hb:PW X (.BoolOp .Or (b::rest) pos) Vh):PW X (.BoolOp .Or (a::b::rest) pos) (tOr tA Vh):=by
 intro wh pins s σ H Q I h
 refine isTrue_or (e_ (ha pins s σ H _ I h) fun c s1 ⟨H1,I1,q1⟩=>?_)
 cases c with
 |true=>exact⟨H1,I1,q1⟩
 |false=>exact hb wh pins s1 σ H1 Q I1 q1
def fJ (ha:PT X a tA):PT X (.UnaryOp .Not a pos) (V6 tA):=by
 intro pins s σ H Q I h
 exact isTrue_not (ha pins s σ H (fun c H1=>Q (!c) H1) I h)
def RN (ta tb:TE):TE:=fun σ H Q=>ta σ H fun x H1=>∃c,x=.bl c/\if c=true then tb σ H1 Q else Q (.bl false) H1
def RO (ta:TE):TE:=fun σ H Q=>ta σ H fun x H1=>∃c,x=.bl c/\Q (.bl (!c)) H1
def lM {op}{t:TE}(h:PE X a t):PE X (.BoolOp op [a] pos) t:=fun pins s σ H Q I hw=>BoolOp_one (h pins s σ H Q I hw)
def jB (ha:PE X a ta) (hb:PE X (.BoolOp .And (b::rest) pos) tb):PE X (.BoolOp .And (a::b::rest) pos) (RN ta tb):=by
 intro pins s σ H Q I h
 refine BoolOp_and (e_ (ha pins s σ H _ I h) fun v s1 ⟨x,H1,I1,r1,q1⟩=>?_)
 obtain⟨c,rfl,q1⟩:=q1
 cases r1
 refine dM ?_
 cases c with
 |true=>exact hb pins s1 σ H1 Q I1 q1
 |false=>exact⟨.bl false,H1,I1,rfl,q1⟩
def Bj (ha:PE X a ta):PE X (.UnaryOp .Not a pos) (RO ta):=by
 intro pins s σ H Q I h
 refine UnaryOp_ (e_ (ha pins s σ H _ I h) fun v s1 ⟨x,H1,I1,r1,q1⟩=>?_)
 obtain⟨c,rfl,q1⟩:=q1
 cases r1
 exact not_of (dM ⟨.bl (!c),H1,I1,rfl,q1⟩)
def V7 (t:TT) (ta tb:TE):TE:=fun σ H Q=>t σ H fun c H1=>if c=true then ta σ H1 Q else tb σ H1 Q
def nS {c:Expr}(hc:PT X c tA) (ha:PE X a ta) (hb:PE X b tb):PE X (.IfExp c a b pos) (V7 tA ta tb):=by
 intro pins s σ H Q I h
 refine wpAny_IfExp (e_ (hc pins s σ H _ I h) fun d s1 ⟨H1,I1,q1⟩=>?_)
 cases d with
 |true=>exact ha pins s1 σ H1 Q I1 q1
 |false=>exact hb pins s1 σ H1 Q I1 q1
end
def cS (K:PySem.W.Frag) (H:Hp) (a:ah) (xs:List V):Prop:=
 Rd H a (.lst xs)\/
  ∃(o:Obj) (cE:Array af) (n:Nat),K.lookup a=some o/\o.cls=.type "list"/\o.dict=none/\o.data=.seq cE n/\cE.size<=sizeLine/\cy xs cE.toList
def bY (K:PySem.W.Frag) (H:Hp) (a:ah) (xs:List V):Prop:=
 Rd H a (.tup xs)\/
  ∃(o:Obj) (cE:Array af) (n:Nat),K.lookup a=some o/\o.cls=.type "tuple"/\o.data=.seq cE n/\cE.size<=sizeLine/\cy xs cE.toList
def V8:af->Option V
 | .none=>some .eA
 | .bool b=>some (.bl b)
 | .int i _=>some (.int i)
 | .str x _=>some (.str x)
 | .bytes b _=>some (.C3 b)
 | .float b _=>some (.Ny b)
 | .ref a=>some (.ref a)
 | .type n=>some (.ty n)
 |_=>none
def RelV.abs {x:V}{u:af}(r:RelV x u):V8 u=some x:=by
 cases x with
 |eA=>cases r;rfl
 |bl _=>cases r;rfl
 |int _=>obtain⟨t,rfl⟩:=r;rfl
 |str _=>obtain⟨t,rfl⟩:=r;rfl
 |C3 _=>obtain⟨t,rfl⟩:=r;rfl
 |Ny _=>obtain⟨t,rfl⟩:=r;rfl
 |ref _=>cases r;rfl
 |ty _=>cases r;rfl
def RelV.inj {x y:V}{u:af}(r:RelV x u) (q:RelV y u):x=y:=cK (r.abs.symm.trans q.abs)
def cy.inj:∀{xs ys:List V}{us:List af},cy xs us->cy ys us->xs=ys
 |_,_,_,.nil,.nil=>rfl
 |_,_,_,.cons r t,.cons r' t'=>by rw[r.inj r',cy.inj t t']
section
variable {X:Cx}{pins:List (ah×Obj)}{σ:St}{H:Hp}{s:ai}{a:ah}{xs ys:List V}
def cS.of {K:PySem.W.Frag}(h:H a=some (.lst xs)):cS K H a xs:=.inl (.inl h)
def bY.of {K:PySem.W.Frag}(h:H a=some (.tup xs)):bY K H a xs:=.inl (.inl h)
def Inv.list (I:Inv X pins σ H s) (h:cS X.K H a xs):∃cE:List af,cy xs cE/\PlainL s.heap a cE.toArray/\xs.length<=sizeLine:=by
 rcases h with h|⟨o,cE,n,hk,hc,hd,hs,hz,r⟩
 ·obtain⟨z,cE,n,r,e⟩:=h.ok I.eE
  exact⟨cE,r,⟨_,n,e,rfl,rfl,rfl⟩,z⟩
 ·refine⟨cE.toList,r,⟨o,n,I.kC a o hk,hc,hd,by simpa using hs⟩,?_⟩
  have e:=r.length
  simp only[gg] at e
  omega
def Inv.tuple (I:Inv X pins σ H s) (h:bY X.K H a xs):∃cE:List af,cy xs cE/\IsTup s.heap a cE.toArray/\xs.length<=sizeLine:=by
 rcases h with h|⟨o,cE,n,hk,hc,hs,hz,r⟩
 ·obtain⟨z,cE,r,p⟩:=h.ok I.eE
  exact⟨cE,r,p.isTup,z⟩
 ·refine⟨cE.toList,r,⟨o,I.kC a o hk,hc,n,by simpa using hs⟩,?_⟩
  have e:=r.length
  simp only[gg] at e
  omega
def Inv.qL (I:Inv X pins σ H s) (h:cS X.K H a xs) (h':cS X.K H a ys):xs=ys:=by
 obtain⟨cE,r,⟨o,n,e,_,_,d⟩,_⟩:=I.list h
 obtain⟨its',r',⟨o',n',e',_,_,d'⟩,_⟩:=I.list h'
 rw[e] at e';cases e'
 rw[d] at d'
 injection d' with d1 _
 have:cE=its':=by simpa using iM Array.toList d1
 subst this
 exact r.inj r'
def Inv.rT (I:Inv X pins σ H s) (h:bY X.K H a xs) (h':bY X.K H a ys):xs=ys:=by
 obtain⟨cE,r,⟨o,e,_,n,d⟩,_⟩:=I.tuple h
 obtain⟨its',r',⟨o',e',_,n',d'⟩,_⟩:=I.tuple h'
 rw[e] at e';cases e'
 rw[d] at d'
 injection d' with d1 _
 have:cE=its':=by simpa using iM Array.toList d1
 subst this
 exact r.inj r'
end
abbrev Cx.uR (X:Cx) (E:af->ai->Prop):Cx:={X with xe:=E}
abbrev Cx.kF (X:Cx):Cx:=X.uR fun _ _=>False
def Cx.Ok.uR {X:Cx}(ok:X.Ok) (E:af->ai->Prop):(X.uR E).Ok:=
 ⟨ok.mod,ok.kind,ok.glob,ok.blt,ok.above,ok.inj,ok.has,ok.JM,ok.hd,ok.frames,ok.Kc,ok.EI,ok.bs,ok.Bg,ok.wy,ok.tV,ok.mf,ok.C4⟩
def Cx.Ok.mK {X:Cx}{E:af->ai->Prop}(ok:(X.uR E).Ok):X.Ok:=
 ⟨ok.mod,ok.kind,ok.glob,ok.blt,ok.above,ok.inj,ok.has,ok.JM,ok.hd,ok.frames,ok.Kc,ok.EI,ok.bs,ok.Bg,ok.wy,ok.tV,ok.mf,ok.C4⟩
section
variable {X:Cx}{pins:List (ah×Obj)}{σ:St}{H:Hp}{s:ai}{E:af->ai->Prop}
def Inv.uR (I:Inv X pins σ H s) (E:af->ai->Prop):Inv (X.uR E) pins σ H s:=⟨I.ok.uR E,I.os,I.bare,I.base,I.loc,I.cell,I.free,I.iZ,I.pin,I.eE,I.len⟩
def Inv.mK (I:Inv (X.uR E) pins σ H s):Inv X pins σ H s:=⟨I.ok.mK,I.os,I.bare,I.base,I.loc,I.cell,I.free,I.iZ,I.pin,I.eE,I.len⟩
def SP.mK {D:Ends}{f:Flow}{s':ai}(h:SP (X.uR E) pins D f s'):SP X pins D f s':=by
 cases f with
 |next=>obtain⟨bW,H',I,q⟩:=h;exact⟨bW,H',I.mK,q⟩
 |brk=>obtain⟨bW,H',I,q⟩:=h;exact⟨bW,H',I.mK,q⟩
 |cont=>obtain⟨bW,H',I,q⟩:=h;exact⟨bW,H',I.mK,q⟩
 |ret u=>obtain⟨v,bW,H',I,r,q⟩:=h;exact⟨v,bW,H',I.mK,r,q⟩
def wz.kF {st:List Stmt}{t:TS}(h:wz X.kF st t):wz X st t:=fun pins s σ H D I hw=>
 bK (h pins s σ H D (I.uR _) hw) (fun _ _ q=>q.mK) fun _ _ z=>False.elim z
end
section
variable {X:Cx}{st:Stmt}{rest:List Stmt}{t u:TS}{e:Expr}{te:TE}{pos:Pos}
def Mn:TS:=fun D σ H=>D.nx σ H
def wH (t u:TS):TS:=fun D σ H=>t {D with nx:=u D} σ H
def bL:wz X [] Mn:=fun _ _ σ H _ I h=>zj ⟨σ,H,I,h⟩
def ar (h1:PS X st t) (h2:wz X rest u):wz X (st::rest) (wH t u):=by
 intro pins s σ H D I h
 refine wpAny_execs_cons (e_ (h1 pins s σ H {D with nx:=u D} I h) fun f s1 q=>?_)
 cases f with
 |next=>
  obtain⟨bW,H',I',q⟩:=q
  exact h2 pins s1 bW H' D I' q
 |ret v=>exact q
 |brk=>exact q
 |cont=>exact q
def aE (h1:PS X st t):wz X [st] t:=by
 intro pins s σ H D I h
 refine wpAny_execs_cons (e_ (h1 pins s σ H D I h) fun f s1 q=>?_)
 cases f with
 |next=>exact zj q
 |ret v=>exact q
 |brk=>exact q
 |cont=>exact q
def Inv.quiet {pins:List (ah×Obj)}{σ:St}{H:Hp}{s:ai}(I:Inv X pins σ H s):interactive X.env=false:=by simp[interactive,I.ok.kind]
def RP (te:TE):TS:=fun D σ H=>te σ H fun _ H1=>D.nx σ H1
def gs (he:PE X e te) (hs:swapsWith e none pos.line X.env=pure false:=by rfl):PS X (.Expr e pos) (RP te):=by
 intro pins s σ H D I h
 exact wpAny_Expr_any (e_ (he pins s σ H _ I h) fun v s1 ⟨x,H1,I1,r1,q1⟩=>⟨σ,H1,I1,q1⟩) I.quiet hs
def Ke (te:TE):TS:=fun D σ H=>te σ H D.rt
def bF (he:PE X e te):PS X (.Return (some e) pos) (Ke te):=by
 intro pins s σ H D I h
 exact wpAny_Return_some (e_ (he pins s σ H _ I h) fun v s1 ⟨x,H1,I1,r1,q1⟩=>⟨x,σ,H1,I1,r1,q1⟩)
def wK (c:TT) (t u:TS):TS:=fun D σ H=>c σ H fun b H1=>if b=true then t D σ H1 else u D σ H1
def cN {c:Expr}{a b:List Stmt}{tc:TT}(hc:PT X c tc) (ha:wz X a t) (hb:wz X b u):PS X (.If c a b pos) (wK tc t u):=by
 intro pins s σ H D I h
 refine wpAny_If (e_ (hc pins s σ H _ I h) fun d s1 ⟨H1,I1,q1⟩=>?_)
 cases d with
 |true=>exact ha pins s1 σ H1 D I1 q1
 |false=>exact hb pins s1 σ H1 D I1 q1
def NG:TS:=fun _ _ _=>False
def mh {sts:List Stmt}:wz X sts NG:=fun _ _ _ _ _ _ h=>h.elim
end
abbrev TG:=V->St->Hp->(St->Hp->Prop)->Prop
abbrev Kf:=List V->St->Hp->(St->Hp->Prop)->Prop
def PG (X:Cx) (target:Expr) (t:TG):Prop:=
 ∀(pins:List (ah×Obj)) (s:ai) (σ:St) (H:Hp) (v:V) (u:af) (Q:St->Hp->Prop),Inv X pins σ H s->RelV v u->t v σ H Q->
  wpAny (model X.prog X.w) X.A (assign target X.env u) (fun _ s'=>∃bW H',Inv X pins bW H' s'/\Q bW H') X.xe s
def RQ (X:Cx) (ts:List Expr) (t:Kf):Prop:=
 ∀(pins:List (ah×Obj)) (s:ai) (σ:St) (H:Hp) (vs:List V) (us:List af) (Q:St->Hp->Prop),Inv X pins σ H s->cy vs us->t vs σ H Q->
  wpAny (model X.prog X.w) X.A (assignInOrder ((assignEach ts X.env).map (·.2)) us) (fun _ s'=>∃bW H',Inv X pins bW H' s'/\Q bW H') X.xe s
abbrev Kg:=V->V->V->Hp->(Hp->Prop)->Prop
def NH (X:Cx) (t:Kg):Prop:=
 ∀(pins:List (ah×Obj)) (s:ai) (σ:St) (H:Hp) (o i v:V) (ov iv u:af) (Q:Hp->Prop),Inv X pins σ H s->RelV o ov->RelV i iv->RelV v u->t o i v H Q->
  wpAny (model X.prog X.w) X.A (setItem ov iv u) (fun _ s'=>∃H',Inv X pins σ H' s'/\Q H') X.xe s
section
variable {X:Cx}{pos:Pos}
def dU (i:Nat):TG:=fun v σ H Q=>Q (σ.set i (some v)) H
def aZ {i:Nat}{x:Str}(hN:X.N.Nodup) (hi:X.N[i]?=some x:=by rfl) (hx:Loc X.env.scope x:=by exact Or.inl rfl) (hf:X.fn x=true\/X.env.scope.names.lookup x=some .local:=by first|exact .inl rfl|exact .inr rfl|assumption):PG X (.Name x pos) (dU i):=by
 intro pins s σ H v u Q I r h
 exact wpAny_assign_Name (kD I hN hi hx r (fun s' I'=>⟨_,H,I',h⟩) hf)
def EK:Kf:=fun vs σ H Q=>vs=[]/\Q σ H
def nU (t:TG) (u:Kf):Kf:=fun vs σ H Q=>∃v r,vs=v::r/\t v σ H fun bW H'=>u r bW H' Q
def eV:RQ X [] EK:=by
 intro pins s σ H vs us Q I r h
 obtain⟨e,h⟩:=h
 subst e
 cases r
 exact assignInOrder_nil ⟨σ,H,I,h⟩
def bz {e:Expr}{es:List Expr}{t:TG}{u:Kf}(h1:PG X e t) (h2:RQ X es u)
  (hs:(assignEach (e::es) X.env).map (·.2)=assign e X.env::(assignEach es X.env).map (·.2):=by rfl):RQ X (e::es) (nU t u):=by
 intro pins s σ H vs us Q I r h
 obtain⟨v,vr,e1,h⟩:=h
 subst e1
 cases r with
 |cons r rr=>
  rw[hs]
  refine jR (e_ (h1 pins s σ H _ _ _ I r h) fun _ s1 ⟨Q0,H1,I1,q1⟩=>?_)
  exact h2 pins s1 Q0 H1 _ _ Q I1 rr q1
def Kh (K:PySem.W.Frag) (n:Nat) (t:Kf):TG:=fun v σ H Q=>∃a xs,v=.ref a/\bY K H a xs/\xs.length=n/\t xs σ H Q
def fW {es:List Expr}{k:Nat}{t:Kf}{n:Nat}(hc:X.calm=true) (h:RQ X es t)
  (hn:(assignEach es X.env).length=n:=by rfl) (EL:(assignEach es X.env).findIdx? (·.1)=none:=by rfl):PG X (.Tuple es k pos) (Kh X.K n t):=by
 intro pins s σ H v u Q I r hw
 obtain⟨a,xs,e1,hq,hl,hw⟩:=hw
 subst e1
 cases r
 obtain⟨cE,rv,ht,hz⟩:=I.tuple hq
 refine assign_Tuple_tuple (I.ok.hd hc) ht (by simp[hn,<-hl,rv.length]) EL fun h' hx=>?_
 have I1:Inv X pins σ H {s with heap:=h'}:=I.kept (t':=s.toks) fun b o e=>hx b o (bb (aA e)) e
 exact h pins _ σ H xs _ Q I1 (by simpa using rv) hw
def Ki (to ti:TE) (t:Kg):TG:=fun v σ H Q=>to σ H fun o H1=>ti σ H1 fun i H2=>t o i v H2 fun H3=>Q σ H3
def nV {o i:Expr}{to ti:TE}{t:Kg}(ho:PE X o to) (hi:PE X i ti) (hs:NH X t)
  (ha:∀v,assign (.Subscript o i pos) X.env v=(do
   let ov<-holding [v] (eval o X.env)
   let iv<-holding [v,ov] (eval i X.env)
   standAt pos
   holding [v,ov,iv] (setItem ov iv v)
   release [v,ov,iv] []):=by intro _;rfl):PG X (.Subscript o i pos) (Ki to ti t):=by
 intro pins s σ H v u Q I r h
 rw[ha]
 refine aa (cM (e_ (ho pins s σ H _ I h) fun ov s1 ⟨x,H1,I1,r1,q1⟩=>?_))
 refine aa (cM (e_ (hi pins s1 σ H1 _ I1 q1) fun iv s2 ⟨y,H2,I2,r2,q2⟩=>?_))
 refine aa (jx (aa (cM (e_ (hs pins s2 σ H2 x y v ov iv u _ I2 r1 r2 r q2) fun _ s3 ⟨H3,I3,q3⟩=>?_))))
 exact wpAny_release ⟨σ,H3,I3,q3⟩
def rV (te:TE) (g:TG):TS:=fun D σ H=>te σ H fun x H1=>g x σ H1 D.nx
def iD {tg e:Expr}{te:TE}{g:TG}(he:PE X e te) (hg:PG X tg g) (hs:swapsWithSole [tg] e pos.line X.env=pure false:=by rfl) (hw:swappedStores [tg] e X.env=pure none:=by rfl)
  (h1:(assignEach [tg] X.env).map (·.2)=[assign tg X.env]:=by rfl):PS X (.Assign [tg] e pos) (rV te g):=by
 intro pins s σ H D I h
 refine wpAny_Assign_stores (e_ (he pins s σ H _ I h) fun v s1 ⟨x,H1,I1,r1,q1⟩=>?_) hs hw
 rw[h1]
 exact e_ (hg pins s1 σ H1 x v _ I1 r1 q1) fun _ s2 q=>q
def xZ {i:Nat}{x:Str}{e:Expr}{te:TE}{pos':Pos}(hN:X.N.Nodup) (hi:X.N[i]?=some x) (hx:Loc X.env.scope x) (he:PE X e te) (hs:swapsWith e (some (.Name x pos')) pos.line X.env=pure false:=by rfl) (hf:X.fn x=true\/X.env.scope.names.lookup x=some .local:=by first|exact .inl rfl|exact .inr rfl|assumption):
  PS X (.Assign [.Name x pos'] e pos) (rV te (dU i)):=by
 intro pins s σ H D I h
 refine wpAny_Assign_Name (e_ (he pins s σ H _ I h) fun v s1 ⟨y,H1,I1,r1,q1⟩=>?_) hs
 exact kD I1 hN hi hx r1 (fun s2 I2=>⟨_,H1,I2,q1⟩) hf
def V9 (i j:Nat) (ta:TA):TS:=fun D σ H=>ta σ H fun vs H1=>∃v w,vs=[v,w]/\D.nx ((σ.set i (some v)).set j (some w)) H1
def jX {i:Nat}{x:Str}{e:Expr}{te:TE}{pos':Pos}(hN:X.N.Nodup) (he:PE X e te) (hi:X.N[i]?=some x:=by rfl) (hx:Loc X.env.scope x:=by exact Or.inl rfl) (hs:swapsWith e (some (.Name x pos')) pos.line X.env=pure false:=by rfl) (hf:X.fn x=true\/X.env.scope.names.lookup x=some .local:=by first|exact .inl rfl|exact .inr rfl|assumption):PS X (.Assign [.Name x pos'] e pos) (rV te (dU i)):=xZ hN hi hx he hs hf
def x6 {i j:Nat}{x y:Str}{a b:Expr}{ta:TA}{px py pt:Pos} {kt k2 NI}(hc:X.calm=true) (hN:X.N.Nodup) (hi:X.N[i]?=some x) (hj:X.N[j]?=some y) (x9:i≠j)
  (hx:X.env.scope.names.lookup x=some .local) (hy:X.env.scope.names.lookup y=some .local) (ha:PA X [a,b] ta)
  (hw:swappedStores [.Tuple [.Name x px,.Name y py] kt pt] (.Tuple [a,b] k2 NI) X.env=pure (some [x,y]))
  (hs:swapsWithSole [.Tuple [.Name x px,.Name y py] kt pt] (.Tuple [a,b] k2 NI) pos.line X.env=pure false:=by rfl):
  PS X (.Assign [.Tuple [.Name x px,.Name y py] kt pt] (.Tuple [a,b] k2 NI) pos) (V9 i j ta):=by
 intro pins s σ H D I h
 rw[exec_Assign_arm]
 refine aa (jx ?_)
 rw[hs]
 refine aa (ak ?_)
 rw[aO (by decide)]
 refine aa (Tuple_ (e_ (ha _ pins s σ H _ I h) fun us s1 ⟨vs,H1,I1,r1,q1⟩=>?_))
 obtain⟨v,w,e1,q1⟩:=q1
 subst e1
 obtain⟨u1,u2,rfl,rv,EM⟩:∃u1 u2,us=[u1,u2]/\RelV v u1/\RelV w u2:=by
  cases r1 with
  |cons p q=>
   cases q with
   |cons p' q'=>
    cases q'
    exact⟨_,_,rfl,p,p'⟩
 refine bD ?_ (dF)
 have I2:Inv X pins σ H1 {s1 with heap:=s1.heap.push {cls:=.type "tuple",data:=.seq [u1,u2].toArray}}:=I1.kept (t':=s1.toks) fun b o e=>ag _ e
 rw[hw]
 refine aa (ak ?_)
 show wpAny (model X.prog X.w) X.A (do rule "assign.swapped-stores";let items<-unpackItems (.ref s1.heap.objs.size) 2 none;assignInOrder [fun v=>bindName X.env y v,fun v=>bindName X.env x v] items.reverse;pure Flow.next) _ _ _
 refine aa (jS (aa (unpackItems_tuple (items:=#[u1,u2]) (I.ok.hd hc) (IsTup.new s1.heap _) fun h' RR=>?_)))
 have I3:=I2.kept (h':=h') (t':=s1.toks) fun b o e=>RR b o (bb (aA e)) e
 show wpAny _ _ (assignInOrder [fun v=>bindName X.env y v,fun v=>bindName X.env x v] [u2,u1]>>=fun _=>pure Flow.next) _ _ _
 refine aa (jR (mF (kD I3 hN hj (.inl hy) EM (fun s2 I4=>?_) (.inr hy))))
 refine jR (mF (kD I4 hN hi (.inl hx) rv (fun s3 I5=>assignInOrder_nil (ak ?_)) (.inr hx)))
 rw[zk _ _ (cF x9)] at I5
 exact⟨_,H1,I5,q1⟩
end
section
variable {X:Cx}{pos:Pos}
def GF (c:TT) (tb:TS):TS:=fun D σ H=>∃W:Nat->St->Hp->Prop,(∃m,W m σ H)/\∀m σ H,W m σ H->
 c σ H fun b H1=>if b=true then∃N:St->Hp->Prop,(∀bW H',N bW H'->∃m',m'<m/\W m' bW H')/\tb {D with nx:=N,ct:=N,bk:=D.nx} σ H1 else D.nx σ H1
def zC {c:Expr}{body:List Stmt}{tc:TT}{tb:TS}(hp:PassesOwn (model X.prog X.w) X.A X.env X.xe) (hc:PT X c tc) (hb:wz X body tb):PS X (.While c body [] pos) (GF tc tb):=by
 intro pins s σ H D I h
 obtain⟨W,⟨m0,w0⟩,turn⟩:=h
 refine wpAny_While (codeAny_whileLoop (fun n s'=>∃bW H',Inv X pins bW H' s'/\W n bW H') ?_ m0 ⟨σ,H,I,w0⟩)
 rintro n s1 ⟨Q0,H1,I1,w1⟩
 refine jv hp (e_ (hc pins s1 Q0 H1 _ I1 (turn n Q0 H1 w1)) fun b s2 ⟨H2,I2,q2⟩=>?_)
 cases b with
 |true=>
  obtain⟨N,hN,q2⟩:=q2
  rw[aP rfl]
  refine jv hp (e_ (hb pins s2 Q0 H2 _ I2 q2) fun f s3 q3=>?_)
  cases f with
  |next=>
   obtain⟨GH,H3,I3,n3⟩:=q3
   obtain⟨m',hm,w3⟩:=hN GH H3 n3
   exact⟨m',hm,GH,H3,I3,w3⟩
  |cont=>
   obtain⟨GH,H3,I3,n3⟩:=q3
   obtain⟨m',hm,w3⟩:=hN GH H3 n3
   exact⟨m',hm,GH,H3,I3,w3⟩
  |brk=>exact q3
  |ret v=>exact q3
 |false=>
  rw[aO bA]
  exact zj ⟨Q0,H2,I2,q2⟩
end
structure It where
 go:Nat->Hp->Prop
 Bk:Nat->Hp->V->Hp->Prop
 stop:Nat->Hp->Prop
def mi (X:Cx) (pins:List (ah×Obj)) (H:Hp) (b:ah):Prop:=
 H b=none/\b≠X.env.locals/\b∉X.fs/\(b∈X.ex\/X.gG.heap.objs.size<=b)/\(∀x c,X.env.cells.lookup x=some c->c≠b)/\∀p∈X.pn++pins,p.1≠b
def Inv.x_ {X:Cx}{pins:List (ah×Obj)}{σ:St}{H H':Hp}{s:ai}{b:ah}(I:Inv X pins σ H s) (hb:s.heap.objs.size<=b) (hn:H' b=none):mi X pins H' b:=by
 refine⟨hn,iG (bT I.lt hb),I.VY hb,.inr (bh I.sz hb),fun x c e z=>?_,fun p hp z=>?_⟩
 ·obtain⟨v,q⟩:=I.cell x c e
  exact absurd (bT q.lt (by rw[z];exact hb)) (gm _)
 ·exact absurd (bT (aA (I.pin p hp).1) (by rw[z];exact hb)) (gm _)
structure Turn (P:aF) (w:ba) (K:PySem.W.Frag) (tg:Expr) (J:It) (fp:List ah) (it:ah) (tn:Nat->Heap->Prop):Prop where
 mem:it∈fp
 obj:∀i h,tn i h->∀b∈fp,∃o,h.get? b=some o/\∀v,o.data≠.cell v
 keep:∀i h h',tn i h->(∀b∈fp,∀o,h.get? b=some o->h'.get? b=some o)->tn i h'
 item:∀(X:Cx),X.prog=P->X.w=w->X.K=K->X.calm=true->∀(i:Nat) (pins:List (ah×Obj)) (s:ai) (σ:St) (H:Hp) (E:af->ai->Prop),Inv X pins σ H s->(∀b∈fp,mi X pins H b)->tn i s.heap->J.go i H->
  wpAny (model P w) X.A (pyNext (.ref it)) (fun r s1=>∃u,r=some u/\
   wpAny (model P w) X.A (letOwnedTupleGo tg (.ref it) u) (fun _ s2=>∃x H',Inv X pins σ H' s2/\RelV x u/\J.Bk i H x H'/\tn (i+1) s2.heap/\∀b∈fp,H' b=none) E s1) E s
 done:∀(X:Cx),X.prog=P->X.w=w->X.K=K->X.calm=true->∀(i:Nat) (pins:List (ah×Obj)) (s:ai) (σ:St) (H:Hp) (E:af->ai->Prop),Inv X pins σ H s->(∀b∈fp,mi X pins H b)->tn i s.heap->J.stop i H->
  wpAny (model P w) X.A (pyNext (.ref it)) (fun r s1=>r=none/\Inv X pins σ H s1) E s
 self:∀(A:aQ) (i:Nat) (s:ai) (Q:af->ai->Prop) (E:af->ai->Prop),tn i s.heap->Q (.ref it) s->wpAny (model P w) A (pyIter (.ref it)) Q E s
abbrev TI:=St->Hp->(It->Hp->Prop)->Prop
def V_ (X:Cx) (pins:List (ah×Obj)) (σ:St) (tg:Expr) (R:It->Hp->Prop) (NJ:af) (s2:ai):Prop:=
 ∃(it:ah) (fp:List ah) (tn:Nat->Heap->Prop) (J:It) (H':Hp),NJ=.ref it/\Inv X pins σ H' s2/\Turn X.prog X.w X.K tg J fp it tn/\tn 0 s2.heap/\(∀b∈fp,mi X pins H' b)/\R J H'
def PI (X:Cx) (tg iter:Expr) (wi:TI):Prop:=
 ∀(pins:List (ah×Obj)) (s:ai) (σ:St) (H:Hp) (R:It->Hp->Prop),Inv X pins σ H s->wi σ H R->
  wpAny (model X.prog X.w) X.A (eval iter X.env) (fun v s1=>wpAny (model X.prog X.w) X.A (pyIter v) (V_ X pins σ tg R) X.xe s1) X.xe s
def C9 {M:Model}{A:aQ}{E:af->ai->Prop}{s:ai}{tg:Expr}{it:ah}{u:af}{o:Obj}{n:String}{vs:Array af}{Q:Unit->ai->Prop}(ho:s.heap.get? it=some o) (hc:o.cls=.type n) (hd:o.data=.fields vs)
  (hn:["enumerate","zip","dict_itemiterator","dict_reverseitemiterator","odict_iterator","itertools.zip_longest","itertools.pairwise"].contains n=false) (hQ:Q () s):wpAny M A (letOwnedTupleGo tg (.ref it) u) Q E s:=by
 unfold letOwnedTupleGo
 cases tg<;>first
  |exact ak hQ
  |(cases u<;>first
   |exact ak hQ
   |(refine aa (wpAny_load ho ?_)
     rw[hc,hd]
     show wpAny M A (if(["enumerate","zip","dict_itemiterator","dict_reverseitemiterator","odict_iterator","itertools.zip_longest","itertools.pairwise"].contains n&&vs[0]?==some (rawInt _))=true then _ else _) Q E s
     rw[aO (by intro h;rw[hn,bj] at h;cases h)]
     exact ak hQ))
def C_ (K:PySem.W.Frag) (a:ah):It:=
 ⟨fun i H=>∃xs x,cS K H a xs/\xs[i]?=some x,fun i H x H'=>H'=H/\∀xs,cS K H a xs->xs[i]?=some x,fun i H=>∃xs,cS K H a xs/\xs.length<=i⟩
def Dc (K:PySem.W.Frag) (a:ah):It:=
 ⟨fun i H=>∃xs x,bY K H a xs/\xs[i]?=some x,fun i H x H'=>H'=H/\∀xs,bY K H a xs->xs[i]?=some x,fun i H=>∃xs,bY K H a xs/\xs.length<=i⟩
def Mo (lo:Int) (n:Nat):It:=⟨fun i _=>i<n,fun i H x H'=>H'=H/\x=.int (lo+i),fun i _=>n<=i⟩
def EN {P:aF}{w:ba}{K:PySem.W.Frag}{tg:Expr}(a it:ah):Turn P w K tg (C_ K a) [it] it (fun i h=>h.IsListIter it a i) where
 mem:=by simp
 obj:=fun i h st b hb=>by
  have e:b=it:=by simpa using hb
  subst e
  obtain⟨o,e,c,d⟩:=st
  exact⟨o,e,fun v z=>by rw[d] at z;cases z⟩
 keep:=fun i h h' st k=>st.at fun o e=>k it (by simp) o e
 item:=by
  intro X hP hw hK hc i pins s σ H E I hf st hg
  subst hP hw hK
  obtain⟨xs,x,hq,hx⟩:=hg
  obtain⟨cE,rv,p,hz⟩:=I.list hq
  obtain⟨u,hu,ru⟩:=rv.get hx
  obtain⟨f0,f1,f2,f3,f4,f5⟩:=hf it (by simp)
  refine wpAny_pyNext_list_item st p.isList (x:=u) (by simpa using hu) fun h' sV sb=>?_
  have I1:Inv X pins σ H {s with heap:=h'}:=I.turned (t':=s.toks) (fun b o hb e=>(sb.2 b hb).trans e) f0 f1 f3 f4 f5
  obtain⟨o,e,c,d⟩:=id sV
  exact⟨u,rfl,C9 (s:={s with heap:=h'}) e c d (by decide) ⟨x,H,I1,ru,⟨rfl,fun ys hy=>by rw[I.qL hy hq];exact hx⟩,sV,fun b hb=>(hf b hb).1⟩⟩
 done:=by
  intro X hP hw hK hc i pins s σ H E I hf st hg
  subst hP hw hK
  obtain⟨xs,hq,hx⟩:=hg
  obtain⟨cE,rv,p,hz⟩:=I.list hq
  obtain⟨f0,f1,f2,f3,f4,f5⟩:=hf it (by simp)
  have hl:=rv.length
  exact wpAny_pyNext_list_end (I.ok.hd hc) st p.isList (by simp;omega) fun h' eb=>⟨rfl,I.turned (t':=s.toks) (fun b o hb e=>eb b o hb e) f0 f1 f3 f4 f5⟩
 self:=fun _ _ _ _ _ st h=>wpAny_pyIter_listiter st h
def Bl {P:aF}{w:ba}{K:PySem.W.Frag}{tg:Expr}(a it:ah):Turn P w K tg (Dc K a) [it] it (fun i h=>h.IsTupleIter it a i) where
 mem:=by simp
 obj:=fun i h st b hb=>by
  have e:b=it:=by simpa using hb
  subst e
  obtain⟨o,e,c,d⟩:=st
  exact⟨o,e,fun v z=>by rw[d] at z;cases z⟩
 keep:=fun i h h' st k=>st.at fun o e=>k it (by simp) o e
 item:=by
  intro X hP hw hK hc i pins s σ H E I hf st hg
  subst hP hw hK
  obtain⟨xs,x,hq,hx⟩:=hg
  obtain⟨cE,rv,p,hz⟩:=I.tuple hq
  obtain⟨u,hu,ru⟩:=rv.get hx
  obtain⟨f0,f1,f2,f3,f4,f5⟩:=hf it (by simp)
  refine wpAny_pyNext_tuple_item st (show s.heap.IsTuple a cE.toArray from p) (x:=u) (by simpa using hu) fun h' sV sb=>?_
  have I1:Inv X pins σ H {s with heap:=h'}:=I.turned (t':=s.toks) (fun b o hb e=>(sb.2 b hb).trans e) f0 f1 f3 f4 f5
  obtain⟨o,e,c,d⟩:=id sV
  exact⟨u,rfl,C9 (s:={s with heap:=h'}) e c d (by decide) ⟨x,H,I1,ru,⟨rfl,fun ys hy=>by rw[I.rT hy hq];exact hx⟩,sV,fun b hb=>(hf b hb).1⟩⟩
 done:=by
  intro X hP hw hK hc i pins s σ H E I hf st hg
  subst hP hw hK
  obtain⟨xs,hq,hx⟩:=hg
  obtain⟨cE,rv,p,hz⟩:=I.tuple hq
  obtain⟨f0,f1,f2,f3,f4,f5⟩:=hf it (by simp)
  have hl:=rv.length
  exact wpAny_pyNext_tuple_end (I.ok.hd hc) st (show s.heap.IsTuple a cE.toArray from p) (by simp;omega) fun h' eb=>⟨rfl,I.turned (t':=s.toks) (fun b o hb e=>eb b o hb e) f0 f1 f3 f4 f5⟩
 self:=fun _ _ _ _ _ st h=>wpAny_pyIter_tupleiter st h
def Bm {P:aF}{w:ba}{K:PySem.W.Frag}{tg:Expr}(it:ah) (lo:Int) (n:Nat):Turn P w K tg (Mo lo n) [it] it (fun i h=>IsRangeIter h it (lo+(i:Nat)*1) ((n:Int)-(i:Nat)) 1) where
 mem:=by simp
 obj:=fun i h st b hb=>by
  have e:b=it:=by simpa using hb
  subst e
  exact⟨_,st,fun v z=>by
   have z':Data.fields _=Data.cell v:=z
   cases z'⟩
 keep:=fun i h h' st k=>k it (by simp) _ st
 item:=by
  intro X hP hw hK hc i pins s σ H E I hf st hg
  subst hP hw hK
  obtain⟨f0,f1,f2,f3,f4,f5⟩:=hf it (by simp)
  have W:=Walks.range (prog:=X.prog) (w:=X.w) (I.ok.hd hc) it lo 1 n
  refine W.item i s _ _ hg st fun v h' tk hv sV kk=>?_
  obtain⟨t,rfl⟩:=hv
  have I1:Inv X pins σ H {s with heap:=h',toks:=tk}:=I.turned (fun b o hb e=>kk b o (by simpa using hb) e) f0 f1 f3 f4 f5
  refine⟨_,rfl,C9 (s:={s with heap:=h',toks:=tk}) (n:="range_iterator") sV rfl rfl (by decide) ⟨.int (lo+i),H,I1,⟨t,?_⟩,⟨rfl,rfl⟩,sV,fun b hb=>(hf b hb).1⟩⟩
  rw[Int.mul_one]
 done:=by
  intro X hP hw hK hc i pins s σ H E I hf st hg
  subst hP hw hK
  obtain⟨f0,f1,f2,f3,f4,f5⟩:=hf it (by simp)
  exact wpAny_pyNext_range_end (I.ok.hd hc) st (by have:n<=i:=hg;omega) fun h' eb=>⟨rfl,I.turned (t':=s.toks) (fun b o hb e=>eb b o hb e) f0 f1 f3 f4 f5⟩
 self:=fun _ _ _ _ _ st h=>wpAny_pyIter_rangeiter st h
section
variable {X:Cx}{tg:Expr}
def GJ (K:PySem.W.Frag) (tl:TE):TI:=fun σ H R=>tl σ H fun x H1=>∃a,x=.ref a/\(∃xs,cS K H1 a xs)/\R (C_ K a) H1
def Wa (K:PySem.W.Frag) (tl:TE):TI:=fun σ H R=>tl σ H fun x H1=>∃a,x=.ref a/\(∃xs,bY K H1 a xs)/\R (Dc K a) H1
def jh {l:Expr}{tl:TE}(hl:PE X l tl):PI X tg l (GJ X.K tl):=by
 intro pins s σ H R I h
 refine e_ (hl pins s σ H _ I h) fun v s1 ⟨x,H1,I1,r1,q1⟩=>?_
 obtain⟨a,e,⟨xs,hq⟩,q⟩:=q1
 subst e
 cases r1
 obtain⟨cE,rv,p,hz⟩:=I1.list hq
 refine il p.isList ?_
 refine⟨s1.heap.objs.size,[s1.heap.objs.size],_,_,H1,rfl,I1.kept (t':=s1.toks) fun b o e=>ag _ e,EN a _,⟨_,aw _ rfl,rfl,rfl⟩,fun b hb=>?_,q⟩
 have e:b=s1.heap.objs.size:=by simpa using hb
 subst e
 exact I1.x_ (aB _) (I1.eE.fresh (aB _))
def h_ {l:Expr}{tl:TE}(hl:PE X l tl):PI X tg l (Wa X.K tl):=by
 intro pins s σ H R I h
 refine e_ (hl pins s σ H _ I h) fun v s1 ⟨x,H1,I1,r1,q1⟩=>?_
 obtain⟨a,e,⟨xs,hq⟩,q⟩:=q1
 subst e
 cases r1
 obtain⟨cE,rv,p,hz⟩:=I1.tuple hq
 refine lJ (show s1.heap.IsTuple a cE.toArray from p) ?_
 refine⟨s1.heap.objs.size,[s1.heap.objs.size],_,_,H1,rfl,I1.kept (t':=s1.toks) fun b o e=>ag _ e,Bl a _,⟨_,aw _ rfl,rfl,rfl⟩,fun b hb=>?_,q⟩
 have e:b=s1.heap.objs.size:=by simpa using hb
 subst e
 exact I1.x_ (aB _) (I1.eE.fresh (aB _))
def GK {pins:List (ah×Obj)}{σ:St}{H:Hp}{s:ai}{R:It->Hp->Prop}{E:af->ai->Prop}{lo hi:Int}{t u v:Tok}{tk:Nat}(I:Inv X pins σ H s) (h1:-(2^62)<=lo) (h2:lo<2^62) (h3:-(2^62)<=hi) (h4:hi<2^62)
  (q:R (Mo lo (hi-lo).toNat) H):wpAny (model X.prog X.w) X.A (pyIter (.ref s.heap.objs.size)) (V_ X pins σ tg R) E {s with heap:=s.heap.push {cls:=.type "range",data:=.fields #[.int lo t,.int hi u,.int 1 v]},toks:=tk}:=by
 refine wpAny_pyIter_range (IsRange.new ..) (small_one h1 h2 h3 h4) ?_
 have I1:Inv X pins σ H {s with heap:=s.heap.push {cls:=.type "range",data:=.fields #[.int lo t,.int hi u,.int 1 v]},toks:=tk}:=I.kept fun b o e=>ag _ e
 refine⟨(s.heap.push {cls:=.type "range",data:=.fields #[.int lo t,.int hi u,.int 1 v]}).objs.size,[(s.heap.push {cls:=.type "range",data:=.fields #[.int lo t,.int hi u,.int 1 v]}).objs.size],_,_,H,rfl,
  I1.kept (t':=tk) fun b o e=>ag _ e,Bm _ lo (hi-lo).toNat,?_,fun b hb=>?_,q⟩
 ·have e1:lo+((0:Nat):Int)*1=lo:=by simp
  have e2:(((hi-lo).toNat:Nat):Int)-((0:Nat):Int)=Builtin.Range.rangeSize lo hi 1:=by rw[rangeSize_one];split<;>omega
  show IsRangeIter _ _ (lo+((0:Nat):Int)*1) ((((hi-lo).toNat:Nat):Int)-((0:Nat):Int)) 1
  rw[e1,e2]
  exact aw _ rfl
 ·have e:b=(s.heap.push {cls:=.type "range",data:=.fields #[.int lo t,.int hi u,.int 1 v]}).objs.size:=by simpa using hb
  subst e
  exact I1.x_ (aB _) (I1.eE.fresh (aB _))
def RS (ta:TA):TI:=fun σ H R=>ta σ H fun vs H1=>∃j:Int,vs=[.int j]/\-(2^62)<=j/\j<2^62/\R (Mo 0 j.toNat) H1
def xf {a:Expr}{ta:TA}{p pos:Pos}(hg:Gl X "range") (hm:X.mg "range"=none) (ha:PA X [a] ta) (hs:starEach [a] X.env=[(false,eval a X.env)]:=by rfl):PI X tg (.Call (.Name "range" p) [a] [] pos) (RS ta):=by
 intro pins s σ H R I h
 refine Call_ (pU I hg hm boot_range (gk (e_ (ha pos pins s σ H _ I h) fun us s1 ⟨vs,H1,I1,r1,q1⟩=>?_) hs rfl))
 obtain⟨j,e,q1,q2,q⟩:=q1
 subst e
 cases r1 with
 |cons r rr=>
  cases rr
  obtain⟨t,rfl⟩:=r
  exact call_range_1 (GK I1 (by omega) (by omega) q1 q2 (by simpa using q))
def RT (wi:TI) (g:TG) (tb:TS):TS:=fun D σ H=>wi σ H fun J H1=>∃W:Nat->Nat->St->Hp->Prop,(∃m,W 0 m σ H1)/\∀i m σ H,W i m σ H->
 (J.stop i H/\D.nx σ H)\/(J.go i H/\∃N:St->Hp->Prop,(∀bW H',N bW H'->∃m',m'<m/\W (i+1) m' bW H')/\∀x H',J.Bk i H x H'->g x σ H' fun iE H2=>tb {D with nx:=N,ct:=N,bk:=D.nx} iE H2)
def pV (fp:List ah) (h:Heap):List (ah×Obj):=fp.filterMap fun b=>(h.get? b).map fun o=>(b,o)
def ib {fp:List ah}{h:Heap}{b:ah}{o:Obj}(hb:b∈fp) (e:h.get? b=some o):(b,o)∈pV fp h:=zv.mpr ⟨b,hb,by rw[e];rfl⟩
def EO {fp:List ah}{h:Heap}{p:ah×Obj}(hp:p∈pV fp h):p.1∈fp/\h.get? p.1=some p.2:=by
 obtain⟨b,hb,e⟩:=zv.mp hp
 cases q:h.get? b with
 |none=>rw[q] at e;cases e
 |some o=>
  rw[q] at e
  have e':(b,o)=p:=cK e
  subst e'
  exact⟨hb,q⟩
def Inv.pinned {pins:List (ah×Obj)}{σ:St}{H:Hp}{s:ai}{fp:List ah}(I:Inv X pins σ H s) (hf:∀b∈fp,mi X pins H b) (ho:∀b∈fp,∃o,s.heap.get? b=some o/\∀v,o.data≠.cell v):Inv X (pins++pV fp s.heap) σ H s:=
 I.C5 fun p hp=>(c_.mp hp).elim (fun z=>I.pin p (bG _ z)) fun z=>by
  obtain⟨hb,e⟩:=EO z
  obtain⟨f0,f1,f2,_⟩:=hf p.1 hb
  obtain⟨o,e',d⟩:=ho p.1 hb
  rw[e] at e';cases e'
  exact⟨e,f0,f1,f2,d⟩
def Inv.mj {pins pl:List (ah×Obj)}{σ:St}{H:Hp}{s:ai}(I:Inv X (pins++pl) σ H s):Inv X pins σ H s:=I.C5 fun p hp=>I.pin p (bG _ (ju _ hp))
def lN {iter:Expr}{body:List Stmt}{wi:TI}{g:TG}{tb:TS}{pos:Pos}(hp:PassesOwn (model X.prog X.w) X.A X.env X.xe) (hc:X.calm=true) (hi:PI X tg iter wi) (hg:PG X tg g) (hb:wz X body tb)
  (hs:∀x,foldedSetIterable iter X.env x=pure x:=by intro _;rfl):PS X (.For tg iter body [] pos) (RT wi g tb):=by
 intro pins s σ H D I h
 refine wpAny_For (e_ (hi pins s σ H _ I h) fun v s1 h1=>e_ h1 fun NJ s2 h2=>?_) hs
 obtain⟨it,fp,tn,J,H2,e,I2,T,AU,f2,W,⟨m0,w0⟩,turn⟩:=h2
 subst e
 --aaa stays true of Vi NK objects through Vi loop
 have pW:∀{H':Hp},(∀b∈fp,H' b=none)->∀b∈fp,mi X pins H' b:=fun hn b hb=>⟨hn b hb,(f2 b hb).2⟩
 refine codeAny_forLoop_any (fun n s'=>∃i bW H',Inv X pins bW H' s'/\tn i s'.heap/\(∀b∈fp,H' b=none)/\W i n bW H') ?_ m0 ⟨0,σ,H2,I2,AU,fun b hb=>(f2 b hb).1,w0⟩
 rintro n s3 ⟨i,GH,H3,I3,ZH,ZI,w3⟩
 rcases turn i n GH H3 w3 with⟨stop,qn⟩|⟨go,N,hN,step⟩
 ·refine jv hp (e_ (T.done X rfl rfl rfl hc i pins s3 GH H3 X.xe I3 (pW ZI) ZH stop) fun r s4 ⟨hr,I4⟩=>?_)
  subst hr
  exact zj ⟨GH,H3,I4,qn⟩
 ·refine jv hp (e_ (T.item X rfl rfl rfl hc i pins s3 GH H3 X.xe I3 (pW ZI) ZH go) fun r s4 ⟨u,hr,h4⟩=>?_)
  subst hr
  refine jv hp (e_ h4 fun _ s5 ⟨x,H5,I5,r5,y5,Gf,JO⟩=>?_)
  have I5':=I5.pinned (pW JO) (T.obj _ _ Gf)
  refine jv hp (e_ (hg _ s5 GH H5 x u _ I5' r5 (step x H5 y5)) fun _ s6 ⟨σ6,H6,I6,q6⟩=>?_)
  refine jv hp (e_ (hb _ s6 σ6 H6 _ I6 q6) fun f s7 q7=>?_)
  have again:∀{tW:St} {H7:Hp},Inv X (pins++pV fp s5.heap) tW H7 s7->N tW H7->∃m,m<n/\∃i bW H',Inv X pins bW H' s7/\tn i s7.heap/\(∀b∈fp,H' b=none)/\W i m bW H':=fun{tW H7} I7 n7=>by
   obtain⟨m',hm,w7⟩:=hN tW H7 n7
   refine⟨m',hm,i+1,tW,H7,I7.mj,T.keep _ _ _ Gf fun b hb o e=>(I7.pin (b,o) (bG _ (bG _ (ib hb e)))).1,fun b hb=>?_,w7⟩
   obtain⟨o,e,d⟩:=T.obj _ _ Gf b hb
   exact(I7.pin (b,o) (bG _ (bG _ (ib hb e)))).2.1
  cases f with
  |next=>obtain⟨tW,H7,I7,n7⟩:=q7;exact again I7 n7
  |cont=>obtain⟨tW,H7,I7,n7⟩:=q7;exact again I7 n7
  |brk=>obtain⟨tW,H7,I7,q7⟩:=q7;exact⟨tW,H7,I7.mj,q7⟩
  |ret v=>obtain⟨x7,tW,H7,I7,r7,q7⟩:=q7;exact⟨x7,tW,H7,I7.mj,r7,q7⟩
end
def nW {K:PySem.W.Frag}{a:ah}{xs:List V}{g:TG}{tb:TS}{D:Ends}{σ:St}{H:Hp}(Pv:Nat->St->Hp->Prop) (h0:Pv 0 σ H) (hl:∀i σ H,i<=xs.length->Pv i σ H->cS K H a xs)
  (hs:∀i x σ H,xs[i]?=some x->Pv i σ H->g x σ H fun iE H2=>tb {D with nx:=Pv (i+1),ct:=Pv (i+1),bk:=D.nx} iE H2) (hd:∀σ H,Pv xs.length σ H->D.nx σ H):
  ∃W:Nat->Nat->St->Hp->Prop,(∃m,W 0 m σ H)/\∀i m σ H,W i m σ H->
   ((C_ K a).stop i H/\D.nx σ H)\/((C_ K a).go i H/\∃N:St->Hp->Prop,(∀bW H',N bW H'->∃m',m'<m/\W (i+1) m' bW H')/\∀x H',(C_ K a).Bk i H x H'->g x σ H' fun iE H2=>tb {D with nx:=N,ct:=N,bk:=D.nx} iE H2):=by
 refine⟨fun i m σ H=>m=xs.length-i/\i<=xs.length/\Pv i σ H,⟨xs.length,by simp,fH _,h0⟩,?_⟩
 rintro i m σ H ⟨rfl,hi,p⟩
 have q:=hl i σ H hi p
 by_cases nX:i<xs.length
 ·refine .inr ⟨⟨xs,xs[i],q,by simp[nX]⟩,Pv (i+1),fun bW H' p'=>⟨xs.length-(i+1),by omega,rfl,nX,p'⟩,fun x H' y=>?_⟩
  obtain⟨e,y⟩:=y
  subst e
  exact hs i x σ _ (y xs q) p
 ·have e:i=xs.length:=by omega
  subst e
  exact .inl ⟨⟨xs,q,aB _⟩,hd σ H p⟩
def ya {K:PySem.W.Frag}{a:ah}{xs:List V}{g:TG}{tb:TS}{D:Ends}{σ:St}{H:Hp}(Pv:Nat->St->Hp->Prop) (h0:Pv 0 σ H) (hl:∀i σ H,i<=xs.length->Pv i σ H->bY K H a xs)
  (hs:∀i x σ H,xs[i]?=some x->Pv i σ H->g x σ H fun iE H2=>tb {D with nx:=Pv (i+1),ct:=Pv (i+1),bk:=D.nx} iE H2) (hd:∀σ H,Pv xs.length σ H->D.nx σ H):
  ∃W:Nat->Nat->St->Hp->Prop,(∃m,W 0 m σ H)/\∀i m σ H,W i m σ H->
   ((Dc K a).stop i H/\D.nx σ H)\/((Dc K a).go i H/\∃N:St->Hp->Prop,(∀bW H',N bW H'->∃m',m'<m/\W (i+1) m' bW H')/\∀x H',(Dc K a).Bk i H x H'->g x σ H' fun iE H2=>tb {D with nx:=N,ct:=N,bk:=D.nx} iE H2):=by
 refine⟨fun i m σ H=>m=xs.length-i/\i<=xs.length/\Pv i σ H,⟨xs.length,by simp,fH _,h0⟩,?_⟩
 rintro i m σ H ⟨rfl,hi,p⟩
 have q:=hl i σ H hi p
 by_cases nX:i<xs.length
 ·refine .inr ⟨⟨xs,xs[i],q,by simp[nX]⟩,Pv (i+1),fun bW H' p'=>⟨xs.length-(i+1),by omega,rfl,nX,p'⟩,fun x H' y=>?_⟩
  obtain⟨e,y⟩:=y
  subst e
  exact hs i x σ _ (y xs q) p
 ·have e:i=xs.length:=by omega
  subst e
  exact .inl ⟨⟨xs,q,aB _⟩,hd σ H p⟩
def zD {c:TT}{tb:TS}{D:Ends}{σ:St}{H:Hp}(Pv:St->Hp->Prop) (μ:St->Hp->Nat) (h0:Pv σ H)
  (hs:∀σ H,Pv σ H->c σ H fun b H1=>if b=true then tb {D with nx:=fun bW H'=>Pv bW H'/\μ bW H'<μ σ H,ct:=fun bW H'=>Pv bW H'/\μ bW H'<μ σ H,bk:=D.nx} σ H1 else D.nx σ H1)
  (mono:∀σ H Q Q',(∀b H1,Q b H1->Q' b H1)->c σ H Q->c σ H Q'):GF c tb D σ H:=by
 refine⟨fun m σ H=>m=μ σ H/\Pv σ H,⟨_,rfl,h0⟩,?_⟩
 rintro m σ H ⟨rfl,p⟩
 refine mono σ H _ _ (fun b H1 q=>?_) (hs σ H p)
 cases b with
 |true=>exact⟨_,fun bW H' ⟨p',l⟩=>⟨_,l,rfl,p'⟩,q⟩
 |false=>exact q
abbrev R2:=V->V->Hp->VK->Prop
def lg (X:Cx) (f:af->af->Sem af) (r:R2):Prop:=
 ∀(pins:List (ah×Obj)) (s:ai) (σ:St) (H:Hp) (x y:V) (v u:af) (Q:VK),Inv X pins σ H s->RelV x v->RelV y u->r x y H Q->
  wpAny (model X.prog X.w) X.A (f v u) (EP X pins σ Q) X.xe s
def Wb (X:Cx) (f:af->Sem af) (r:V->Hp->VK->Prop):Prop:=
 ∀(pins:List (ah×Obj)) (s:ai) (σ:St) (H:Hp) (x:V) (v:af) (Q:VK),Inv X pins σ H s->RelV x v->r x H Q->
  wpAny (model X.prog X.w) X.A (f v) (EP X pins σ Q) X.xe s
def gE (X:Cx) (f:af) (r:List V->Hp->VK->Prop):Prop:=
 ∀(pins:List (ah×Obj)) (s:ai) (σ:St) (H:Hp) (xs:List V) (us:List af) (Q:VK),Inv X pins σ H s->cy xs us->r xs H Q->
  wpAny (model X.prog X.w) X.A (call f us) (EP X pins σ Q) X.xe s
def Wc (X:Cx) (r:V->Hp->(Bool->Hp->Prop)->Prop):Prop:=
 ∀(pins:List (ah×Obj)) (s:ai) (σ:St) (H:Hp) (x:V) (v:af) (Q:Bool->Hp->Prop),Inv X pins σ H s->RelV x v->r x H Q->
  wpAny (model X.prog X.w) X.A (truthy v) (TP X pins σ Q) X.xe s
def gI (r:R2) (ta tb:TE):TE:=fun σ H Q=>ta σ H fun x H1=>tb σ H1 fun y H2=>r x y H2 Q
def ZJ (r:V->Hp->VK->Prop) (ta:TE):TE:=fun σ H Q=>ta σ H fun x H1=>r x H1 Q
def rI (C:Int->Int->Prop) (g:Int->Int->V):R2:=fun x y H Q=>∃i j,x=.int i/\y=.int j/\C i j/\Q (g i j) H
def Gg (g:Int->Int->V):R2:=fun x y H Q=>∃i j,x=.int i/\y=.int j/\Q (g i j) H
def rU (g:Int->V):V->Hp->VK->Prop:=fun x H Q=>∃i,x=.int i/\Q (g i) H
section
variable {X:Cx}{a b c:Expr}{ta tb tc:TE}{pos:Pos}
def NL (ha:PE X a ta) (hb:PE X b tb) {pins:List (ah×Obj)}{s:ai}{σ:St}{H:Hp}{R:V->V->Hp->Prop}(I:Inv X pins σ H s)
  (h:ta σ H fun x H1=>tb σ H1 fun y H2=>R x y H2) {Q:af->ai->Prop} {f:af->af->Sem af}
  (hf:∀v u s2 x y H2,Inv X pins σ H2 s2->RelV x v->RelV y u->R x y H2->wpAny (model X.prog X.w) X.A (f v u) Q X.xe s2):
  wpAny (model X.prog X.w) X.A (eval a X.env) (fun v eN=>wpAny (model X.prog X.w) X.A (eval b X.env) (fun u nR=>wpAny (model X.prog X.w) X.A (f v u) Q X.xe nR) X.xe eN) X.xe s:=by
 refine e_ (ha pins s σ H _ I h) fun v s1 ⟨x,H1,I1,r1,q1⟩=>?_
 refine e_ (hb pins s1 σ H1 _ I1 q1) fun u s2 ⟨y,H2,I2,r2,q2⟩=>?_
 exact hf v u s2 x y H2 I2 r1 r2 q2
def bR {op:Operator}{r:R2}(ho:lg X (binaryOp op) r) (ha:PE X a ta) (hb:PE X b tb):PE X (.BinOp a op b pos) (gI r ta tb):=by
 intro pins s σ H Q I h
 exact wpAny_BinOp (NL ha hb I h fun v u s2 x y H2 I2 rx ry q=>ho pins s2 σ H2 x y v u Q I2 rx ry q)
def pN {op:UnaryOp}{r:V->Hp->VK->Prop}(ho:Wb X (unaryOp op) r) (ha:PE X a ta):PE X (.UnaryOp op a pos) (ZJ r ta):=by
 intro pins s σ H Q I h
 exact UnaryOp_ (e_ (ha pins s σ H _ I h) fun v s1 ⟨x,H1,I1,r1,q1⟩=>ho pins s1 σ H1 x v Q I1 r1 q1)
def RU {f:af->af->Sem af}{C:Int->Int->Prop}{g:Int->Int->Int}
  (rule:∀(i j:Int) (t u:Tok) (s:ai) (Q:af->ai->Prop) (E:af->ai->Prop),C i j->Q (.int (g i j) s.toks) {s with toks:=s.toks+1}->wpAny (model X.prog X.w) X.A (f (.int i t) (.int j u)) Q E s):
  lg X f (rI C fun i j=>.int (g i j)):=by
 intro pins s σ H x y v u Q I rx ry h
 obtain⟨i,j,rfl,rfl,hc,q⟩:=h
 obtain⟨t,rfl⟩:=rx
 obtain⟨t',rfl⟩:=ry
 exact rule i j t t' s _ _ hc ⟨.int (g i j),H,I.tok _,⟨_,rfl⟩,q⟩
def RV {f:af->af->Sem af}{g:Int->Int->Int}
  (rule:∀(i j:Int) (t u:Tok) (s:ai) (Q:af->ai->Prop) (E:af->ai->Prop),Q (.int (g i j) s.toks) {s with toks:=s.toks+1}->wpAny (model X.prog X.w) X.A (f (.int i t) (.int j u)) Q E s):
  lg X f (Gg fun i j=>.int (g i j)):=by
 intro pins s σ H x y v u Q I rx ry h
 obtain⟨i,j,rfl,rfl,q⟩:=h
 obtain⟨t,rfl⟩:=rx
 obtain⟨t',rfl⟩:=ry
 exact rule i j t t' s _ _ ⟨.int (g i j),H,I.tok _,⟨_,rfl⟩,q⟩
def Kj {f:af->af->Sem af}{g:Int->Int->Bool}
  (rule:∀(i j:Int) (t u:Tok) (s:ai) (Q:af->ai->Prop) (E:af->ai->Prop),Q (.bool (g i j)) s->wpAny (model X.prog X.w) X.A (f (.int i t) (.int j u)) Q E s):
  lg X f (Gg fun i j=>.bl (g i j)):=by
 intro pins s σ H x y v u Q I rx ry h
 obtain⟨i,j,rfl,rfl,q⟩:=h
 obtain⟨t,rfl⟩:=rx
 obtain⟨t',rfl⟩:=ry
 exact rule i j t t' s _ _ ⟨.bl (g i j),H,I,rfl,q⟩
def We (i j:Int):Prop:=0<j/\j<1073741824
def RW (i j:Int):Prop:=0<=j/\j<=1000000/\i.natAbs<2^64
def ER (i j:Int):Prop:=(-(2^64)<i/\i<2^64)\/(-(2^64)<j/\j<2^64)
def ER.ok {i j:Int}(h:ER i j):IntMulOk i j:=by
 rcases h with⟨h1,h2⟩|⟨h1,h2⟩
 ·exact .of_left (intBits_le_64 h1 h2)
 ·exact .of_right (intBits_le_64 h1 h2)
def fX:lg X (binaryOp .Add) (Gg fun i j=>.int (i+j)):=RV fun _ _ _ _ _ _ _ q=>add_int q
def lO:lg X (binaryOp .Sub) (Gg fun i j=>.int (i-j)):=RV fun _ _ _ _ _ _ _ q=>sub_int q
def lP:lg X (binaryOp .Mult) (rI ER fun i j=>.int (i*j)):=RU fun _ _ _ _ _ _ _ hc q=>mul_int q hc.ok
def Dd:lg X (binaryOp .FloorDiv) (rI We fun i j=>.int (i/j)):=RU fun i j _ _ _ _ _ hc q=>by
 have h1:(0:Int)<j:=hc.1
 have h2:j<1073741824:=hc.2
 exact floordiv_int (by omega) (by rw[JW i (by omega)];exact q) (.inl (PyProof.noPylong_small (by omega)))
def mL:lg X (binaryOp .Mod) (rI (fun _ j=>0<j) fun i j=>.int (i %j)):=RU fun i j _ _ _ _ _ hc q=>by
 have h1:(0:Int)<j:=hc
 exact mod_int' (by omega) (by rw[Int.fmod_eq_emod_of_nonneg i (by omega)];exact q)
def lQ:lg X (binaryOp .Pow) (rI RW fun i j=>.int (i^j.toNat)):=RU fun _ _ _ _ _ _ _ hc q=>pow_int_small hc.1 hc.2.1 hc.2.2 q
def unI {f:af->Sem af}{g:Int->Int}
  (rule:∀(i:Int) (t:Tok) (s:ai) (Q:af->ai->Prop) (E:af->ai->Prop),Q (.int (g i) s.toks) {s with toks:=s.toks+1}->wpAny (model X.prog X.w) X.A (f (.int i t)) Q E s):
  Wb X f (rU fun i=>.int (g i)):=by
 intro pins s σ H x v Q I rx h
 obtain⟨i,rfl,q⟩:=h
 obtain⟨t,rfl⟩:=rx
 exact rule i t s _ _ ⟨.int (g i),H,I.tok _,⟨_,rfl⟩,q⟩
def lR:Wb X (unaryOp .USub) (rU fun i=>.int (-i)):=unI fun _ _ _ _ _ q=>neg_int q
end
def RX:V->V->Bool
 | .eA,.eA=>true| .eA,.int _=>true| .int _,.eA=>true| .eA,.bl _=>true| .bl _,.eA=>true| .eA,.str _=>true| .str _,.eA=>true
 | .int _,.int _=>true| .bl _,.bl _=>true| .str _,.str _=>true| .C3 _,.C3 _=>true
 | .int _,.str _=>true| .str _,.int _=>true| .bl _,.str _=>true| .str _,.bl _=>true
 |_,_=>false
def Gh:R2:=fun x y H Q=>RX x y=true/\Q (.bl (decide (x=y))) H
def Kk:R2:=fun x y H Q=>RX x y=true/\Q (.bl (!decide (x=y))) H
def Dg {i j:Int}:decide (V.int i=V.int j)=(i==j):=by
 rw[ud]
 simp
def GL {i j:Bool}:decide (V.bl i=V.bl j)=(i==j):=by
 rw[ud]
 simp
def Dh {i j:Str}:decide (V.str i=V.str j)=(i==j):=by
 rw[ud]
 simp
def Di {i j:Array UInt8}:decide (V.C3 i=V.C3 j)=(i.toList==j.toList):=by
 rw[ud]
 cases i
 cases j
 simp
section
variable {X:Cx}{a b c:Expr}{ta tb tc:TE}{pos:Pos}
def ek {pins:List (ah×Obj)}{σ:St}{H:Hp}{s:ai}{Q:VK}{k k':Bool}(I:Inv X pins σ H s) (q:Q (.bl k) H) (e:k=k'):EP X pins σ Q (.bool k') s:=by
 subst e
 exact⟨.bl k,H,I,rfl,q⟩
def hU:lg X (compareOp .Eq) Gh:=by
 intro pins s σ H x y v u Q I rx ry h
 obtain⟨hs,q⟩:=h
 cases x with
 |eA=>
  cases rx
  cases y with
  |eA=>cases ry;exact PySem.EqNone.eq_none_none (ek I q (by simp))
  |bl j=>cases ry;exact PySem.EqNone.eq_none_bool (ek I q (by simp))
  |int j=>obtain⟨t',rfl⟩:=ry;exact PySem.EqNone.eq_none_int (ek I q (by simp))
  |str j=>obtain⟨t',rfl⟩:=ry;exact PySem.EqNone.eq_none_str (ek I q (by simp))
  |_=>exact absurd (show false=true from hs) bA
 |bl i=>
  cases rx
  cases y with
  |eA=>cases ry;exact PySem.EqNone.eq_bool_none (ek I q (by simp))
  |bl j=>cases ry;exact eq_bool (ek I q GL)
  |str j=>obtain⟨t',rfl⟩:=ry;exact PySem.EqMixed.eq_bool_str (ek I q (by simp))
  |_=>exact absurd (show false=true from hs) bA
 |int i=>
  obtain⟨t,rfl⟩:=rx
  cases y with
  |eA=>cases ry;exact PySem.EqNone.eq_int_none (ek I q (by simp))
  |int j=>obtain⟨t',rfl⟩:=ry;exact eq_int (ek I q Dg)
  |str j=>obtain⟨t',rfl⟩:=ry;exact PySem.EqMixed.eq_int_str (ek I q (by simp))
  |_=>exact absurd (show false=true from hs) bA
 |str i=>
  obtain⟨t,rfl⟩:=rx
  cases y with
  |eA=>cases ry;exact PySem.EqNone.eq_str_none (ek I q (by simp))
  |bl j=>cases ry;exact PySem.EqMixed.eq_str_bool (ek I q (by simp))
  |int j=>obtain⟨t',rfl⟩:=ry;exact PySem.EqMixed.eq_str_int (ek I q (by simp))
  |str j=>obtain⟨t',rfl⟩:=ry;exact eq_str (ek I q Dh)
  |_=>exact absurd (show false=true from hs) bA
 |C3 i=>
  obtain⟨t,rfl⟩:=rx
  cases y with
  |C3 j=>obtain⟨t',rfl⟩:=ry;exact PySem.W.eq_bytes (ek I q Di)
  |_=>exact absurd (show false=true from hs) bA
 |_=>cases y<;>exact absurd (show false=true from hs) bA
def ml:lg X (compareOp .NotEq) Kk:=by
 intro pins s σ H x y v u Q I rx ry h
 obtain⟨hs,q⟩:=h
 cases x with
 |eA=>
  cases rx
  cases y with
  |eA=>cases ry;exact PySem.EqNone.ne_none_none (ek I q (by simp))
  |bl j=>cases ry;exact PySem.EqNone.ne_none_bool (ek I q (by simp))
  |int j=>obtain⟨t',rfl⟩:=ry;exact PySem.EqNone.ne_none_int (ek I q (by simp))
  |str j=>obtain⟨t',rfl⟩:=ry;exact PySem.EqNone.ne_none_str (ek I q (by simp))
  |_=>exact absurd (show false=true from hs) bA
 |bl i=>
  cases rx
  cases y with
  |eA=>cases ry;exact PySem.EqNone.ne_bool_none (ek I q (by simp))
  |bl j=>cases ry;exact ne_bool (ek I q (iM not GL))
  |str j=>obtain⟨t',rfl⟩:=ry;exact PySem.EqMixed.ne_bool_str (ek I q (by simp))
  |_=>exact absurd (show false=true from hs) bA
 |int i=>
  obtain⟨t,rfl⟩:=rx
  cases y with
  |eA=>cases ry;exact PySem.EqNone.ne_int_none (ek I q (by simp))
  |int j=>obtain⟨t',rfl⟩:=ry;exact ne_int (ek I q (iM not Dg))
  |str j=>obtain⟨t',rfl⟩:=ry;exact PySem.EqMixed.ne_int_str (ek I q (by simp))
  |_=>exact absurd (show false=true from hs) bA
 |str i=>
  obtain⟨t,rfl⟩:=rx
  cases y with
  |eA=>cases ry;exact PySem.EqNone.ne_str_none (ek I q (by simp))
  |bl j=>cases ry;exact PySem.EqMixed.ne_str_bool (ek I q (by simp))
  |int j=>obtain⟨t',rfl⟩:=ry;exact PySem.EqMixed.ne_str_int (ek I q (by simp))
  |str j=>obtain⟨t',rfl⟩:=ry;exact ne_str (ek I q (iM not Dh))
  |_=>exact absurd (show false=true from hs) bA
 |C3 i=>
  obtain⟨t,rfl⟩:=rx
  cases y with
  |C3 j=>obtain⟨t',rfl⟩:=ry;exact PySem.W.ne_bytes (ek I q (iM not Di))
  |_=>exact absurd (show false=true from hs) bA
 |_=>cases y<;>exact absurd (show false=true from hs) bA
def qM:lg X (compareOp .Lt) (Gg fun i j=>.bl (decide (i<j))):=Kj fun _ _ _ _ _ _ _ q=>lt_int q
def qN:lg X (compareOp .LtE) (Gg fun i j=>.bl (decide (i<=j))):=Kj fun _ _ _ _ _ _ _ q=>le_int q
def xg:lg X (compareOp .Gt) (Gg fun i j=>.bl (decide (j<i))):=Kj fun _ _ _ _ _ _ _ q=>gt_int q
def GN:lg X (compareOp .GtE) (Gg fun i j=>.bl (decide (j<=i))):=Kj fun _ _ _ _ _ _ _ q=>ge_int q
def ES:lg X (compareOp .Lt) (fun x y H Q=>∃i j,x=.str i/\y=.str j/\Q (.bl (decide (i.cps.toList<j.cps.toList))) H):=by
 intro pins s σ H x y v u Q I rx ry h
 obtain⟨i,j,rfl,rfl,q⟩:=h
 obtain⟨t,rfl⟩:=rx
 obtain⟨t',rfl⟩:=ry
 exact lt_str (ek I q rfl)
def NM:lg X (compareOp .Is) (fun x y H Q=>y=.eA/\Q (.bl (decide (x=.eA))) H):=by
 intro pins s σ H x y v u Q I rx ry h
 obtain⟨rfl,q⟩:=h
 cases ry
 refine is_none_gen (ek I q ?_)
 cases x<;>first
  |(cases rx;rfl)
  |(obtain⟨t,rfl⟩:=rx;rfl)
def Dj:lg X (compareOp .IsNot) (fun x y H Q=>y=.eA/\Q (.bl (!decide (x=.eA))) H):=by
 intro pins s σ H x y v u Q I rx ry h
 obtain⟨rfl,q⟩:=h
 cases ry
 refine isnot_none_gen (ek I q ?_)
 cases x<;>first
  |(cases rx;rfl)
  |(obtain⟨t,rfl⟩:=rx;rfl)
def bN (b:Expr) {op:CmpOp}(h:op≠.In:=by decide) (h2:op≠.NotIn:=by decide):behindInMarks op b=false:=by
 have e1:(op==CmpOp.In)=false:=by cases op<;>first|rfl|exact absurd rfl h
 have e2:(op==CmpOp.NotIn)=false:=by cases op<;>first|rfl|exact absurd rfl h2
 cases b<;>simp[behindInMarks,e1,e2]
def jI {op:CmpOp}{r:R2}(ho:lg X (compareOp op) r) (ha:PE X a ta) (hb:PE X b tb) (hm:behindInMarks op b=false):PE X (.Compare a [op] [b] pos) (gI r ta tb):=by
 intro pins s σ H Q I h
 exact wpAny_Compare1 (NL ha hb I h fun v u s2 x y H2 I2 rx ry q=>ho pins s2 σ H2 x y v u Q I2 rx ry q) hm
def gj (t:TE):TT:=fun σ H Q=>t σ H fun x H'=>∃k,x=.bl k/\Q k H'
def br {op:CmpOp}{r:R2}(ho:lg X (compareOp op) r) (ha:PE X a ta) (hb:PE X b tb) (hm:behindInMarks op b=false):PT X (.Compare a [op] [b] pos) (gj (gI r ta tb)):=by
 intro pins s σ H Q I h
 refine wpAny_isTrue_Compare1 (e_ (ha pins s σ H _ I h) fun v s1 ⟨x,H1,I1,r1,q1⟩=>e_ (hb pins s1 σ H1 _ I1 q1) fun u s2 ⟨y,H2,I2,r2,q2⟩=>
  e_ (ho pins s2 σ H2 x y v u _ I2 r1 r2 q2) fun c s3 ⟨z,H3,I3,r3,k,e,q3⟩=>?_) hm
 subst e
 cases r3
 exact dM ⟨H3,I3,q3⟩
def GO (r r':R2) (ta tb tc:TE):TE:=fun σ H Q=>ta σ H fun x H1=>tb σ H1 fun y H2=>r x y H2 fun z H3=>∃k,z=.bl k/\
 (if k=true then tc σ H3 fun w' H4=>r' y w' H4 Q else Q (.bl false) H3)
def qO {op NN:CmpOp}{r r':R2}(ho:lg X (compareOp op) r) (zB:lg X (compareOp NN) r') (ha:PE X a ta) (hb:PE X b tb) (hc:PE X c tc)
  (hm:lastMarks [op,NN] [b,c]=false:=by with_unfolding_all rfl):PE X (.Compare a [op,NN] [b,c] pos) (GO r r' ta tb tc):=by
 intro pins s σ H Q I h
 refine Compare_chain (e_ (ha pins s σ H _ I h) fun v s1 ⟨x,H1,I1,r1,q1⟩=>chain_link (e_ (hb pins s1 σ H1 _ I1 q1) fun u s2 ⟨y,H2,I2,r2,q2⟩=>
  e_ (ho pins s2 σ H2 x y v u _ I2 r1 r2 q2) fun d s3 ⟨z,H3,I3,r3,k,e,q3⟩=>?_)) hm
 subst e
 cases r3
 refine dM ?_
 cases k with
 |false=>exact ite_ff ⟨.bl false,H3,I3,rfl,q3⟩
 |true=>exact ite_tt (chain_last (e_ (hc pins s3 σ H3 _ I3 q3) fun w' s4 ⟨z',H4,I4,r4,q4⟩=>zB pins s4 σ H4 y z' u w' Q I4 r2 r4 q4))
def qP {op NN:CmpOp}{r r':R2}(ho:lg X (compareOp op) r) (zB:lg X (compareOp NN) r') (ha:PE X a ta) (hb:PE X b tb) (hc:PE X c tc)
  (hm:lastMarks [op,NN] [b,c]=false:=by with_unfolding_all rfl):PT X (.Compare a [op,NN] [b,c] pos) (gj (GO r r' ta tb tc)):=by
 intro pins s σ H Q I h
 refine isTrue_chain (e_ (ha pins s σ H _ I h) fun v s1 ⟨x,H1,I1,r1,q1⟩=>test_link (e_ (hb pins s1 σ H1 _ I1 q1) fun u s2 ⟨y,H2,I2,r2,q2⟩=>
  e_ (ho pins s2 σ H2 x y v u _ I2 r1 r2 q2) fun d s3 ⟨z,H3,I3,r3,k,e,q3⟩=>?_)) hm
 subst e
 cases r3
 refine dM ?_
 cases k with
 |false=>
  obtain⟨k',e',q'⟩:=q3
  cases e'
  exact ite_ff ⟨H3,I3,q'⟩
 |true=>
  refine ite_tt (test_last (e_ (hc pins s3 σ H3 _ I3 q3) fun w' s4 ⟨z',H4,I4,r4,q4⟩=>e_ (zB pins s4 σ H4 y z' u w' _ I4 r2 r4 q4) fun d' s5 ⟨z2,H5,I5,r5,k2,e2,q5⟩=>?_))
  subst e2
  cases r5
  exact dM ⟨H5,I5,q5⟩
def RY (K:PySem.W.Frag) (x:V) (H:Hp) (k:Bool):Prop:=
 match x with
 | .eA=>k=false
 | .bl b=>k=b
 | .int i=>k=(i !=0)
 | .str y=>y.length<=sizeLine/\k=((y.length:Int) !=0)
 | .C3 y=>y.size<=sizeLine/\k=((y.size:Int) !=0)
 | .ref p=>(∃xs,cS K H p xs/\k= !xs.isEmpty)\/(∃xs,bY K H p xs/\k= !xs.isEmpty)\/∃de,H p=some (.dK de)/\k= !de.isEmpty
 |_=>False
def Bn {κ:Type}{de:List (κ×V)}{vs:List (κ×af)}(r:KV de vs):(!vs.isEmpty)= !de.isEmpty:=by
 cases r<;>rfl
def uS {xs:List V}{cE:List af}(r:cy xs cE):(!cE.toArray.isEmpty)= !xs.isEmpty:=by
 cases r<;>simp
def rW:(sizeLine:Nat)<2^63:=by rw[gP];decide
def NO:Wc X (fun x H Q=>∃k,RY X.K x H k/\Q k H):=by
 intro pins s σ H x v Q I rx h
 obtain⟨k,e,q⟩:=h
 have hl:=rW
 have hs:sizeLine=16777216:=gP
 cases x with
 |eA=>
  cases rx
  have e':k=false:=e
  subst e'
  exact truthy_none ⟨H,I,q⟩
 |bl b=>
  cases rx
  have e':k=b:=e
  subst e'
  exact dM ⟨H,I,q⟩
 |int i=>
  obtain⟨t,rfl⟩:=rx
  have e':k=(i !=0):=e
  subst e'
  exact PySem.P.truthy_int ⟨H,I,q⟩
 |str y=>
  obtain⟨t,rfl⟩:=rx
  obtain⟨hy,e'⟩:y.length<=sizeLine/\k=((y.length:Int) !=0):=e
  subst e'
  exact PySem.P.truthy_str (by omega) ⟨H,I.tok _,q⟩
 |C3 y=>
  obtain⟨t,rfl⟩:=rx
  obtain⟨hy,e'⟩:y.size<=sizeLine/\k=((y.size:Int) !=0):=e
  subst e'
  exact PySem.W.truthy_bytes (by omega) ⟨H,I.tok _,q⟩
 |ref p=>
  cases rx
  have e':(∃xs,cS X.K H p xs/\k= !xs.isEmpty)\/(∃xs,bY X.K H p xs/\k= !xs.isEmpty)\/∃de,H p=some (.dK de)/\k= !de.isEmpty:=e
  rcases e' with⟨xs,hx,e'⟩|⟨xs,hx,e'⟩|⟨de,hx,e'⟩
  ·subst e'
   obtain⟨cE,r,pl,hz⟩:=I.list hx
   have hlen:=r.length
   exact wpAny_truthy_list pl.isList (by simp only[aI];omega) ⟨H,I.tok _,by rw[uS r];exact q⟩
  ·subst e'
   obtain⟨cE,r,pl,hz⟩:=I.tuple hx
   have hlen:=r.length
   exact truthy_tuple pl (by simp only[aI];omega) ⟨H,I.tok _,by rw[uS r];exact q⟩
  ·subst e'
   obtain⟨hz,hS,vs,r,m⟩:de.length<=sizeLine/\(p==sysModules)=false/\∃vs,KV de vs/\s.heap.DictOf (gq X.prog X.w) p vs:=I.eE p _ hx
   have hlen:de.length=vs.length:=oW r
   exact wpAny_truthy_dict hS m (by omega) ⟨H,I.tok _,by rw[Bn r];exact q⟩
 |_=>exact(show False from e).elim
def Bo:lg X (binaryOp .Add) (fun x y H Q=>∃i j,x=.str i/\y=.str j/\i.length+j.length<=sizeLine/\Q (.str (i++j)) H):=by
 intro pins s σ H x y v u Q I rx ry h
 obtain⟨i,j,rfl,rfl,hz,q⟩:=h
 obtain⟨t,rfl⟩:=rx
 obtain⟨t',rfl⟩:=ry
 exact add_str (fun t' tk=>⟨.str (i++j),H,I.tok _,⟨_,rfl⟩,q⟩) hz
def zw {x:V}{us:List af}(r:cy [x] us):∃u,us=[u]/\RelV x u:=by
 cases r with
 |cons r1 r2=>cases r2;exact⟨_,rfl,r1⟩
def vals2 {x y:V}{us:List af}(r:cy [x,y] us):∃u w',us=[u,w']/\RelV x u/\RelV y w':=by
 cases r with
 |cons r1 r2=>
  cases r2 with
  |cons r3 r4=>cases r4;exact⟨_,_,rfl,r1,r3⟩
def uT:gE X (.builtin "abs") (fun xs H Q=>∃i,xs=[.int i]/\Q (.int (if i<0 then-i else i)) H):=by
 intro pins s σ H xs us Q I r h
 obtain⟨i,rfl,q⟩:=h
 obtain⟨u,rfl,t,rfl⟩:=zw r
 exact call_abs_int fun u tk=>⟨.int (if i<0 then-i else i),H,I.tok _,⟨_,rfl⟩,q⟩
def xh (hc:X.calm=true):gE X (.builtin "max") (fun xs H Q=>∃i j,xs=[.int i,.int j]/\Q (.int (if j>i then j else i)) H):=by
 intro pins s σ H xs us Q I r h
 obtain⟨i,j,rfl,q⟩:=h
 obtain⟨u,w',rfl,⟨t,rfl⟩,⟨t',rfl⟩⟩:=vals2 r
 refine max_two_ints (I.ok.hd hc) fun h' tk k=>⟨_,H,I.kept k,?_,q⟩
 by_cases hj:j>i
 ·rw[aP hj,aP hj];exact⟨_,rfl⟩
 ·rw[aO hj,aO hj];exact⟨_,rfl⟩
def ET (hc:X.calm=true):gE X (.builtin "min") (fun xs H Q=>∃i j,xs=[.int i,.int j]/\Q (.int (if j<i then j else i)) H):=by
 intro pins s σ H xs us Q I r h
 obtain⟨i,j,rfl,q⟩:=h
 obtain⟨u,w',rfl,⟨t,rfl⟩,⟨t',rfl⟩⟩:=vals2 r
 refine min_two_ints (I.ok.hd hc) fun h' tk k=>⟨_,H,I.kept k,?_,q⟩
 by_cases hj:j<i
 ·rw[aP hj,aP hj];exact⟨_,rfl⟩
 ·rw[aO hj,aO hj];exact⟨_,rfl⟩
def EU:gE X (.type "int") (fun xs H Q=>(∃i,xs=[.int i]/\Q (.int i) H)\/∃k,xs=[.bl k]/\Q (.int (if k then 1 else 0)) H):=by
 intro pins s σ H xs us Q I r h
 rcases h with⟨i,rfl,q⟩|⟨k,rfl,q⟩
 ·obtain⟨u,rfl,t,rfl⟩:=zw r
  exact call_int_int ⟨.int i,H,I,⟨_,rfl⟩,q⟩
 ·obtain⟨u,rfl,r1⟩:=zw r
  cases r1
  exact call_int_bool ⟨.int (if k then 1 else 0),H,I.tok _,⟨_,rfl⟩,q⟩
def yb:gE X (.type "str") (fun xs H Q=>∃i,xs=[.int i]/\i.natAbs.log2<1920/\Q (.str (toString i)) H):=by
 intro pins s σ H xs us Q I r h
 obtain⟨i,rfl,hz,q⟩:=h
 obtain⟨u,rfl,t,rfl⟩:=zw r
 exact PySem.P.str_of_int hz ⟨.str _,H,I.tok _,⟨_,rfl⟩,q⟩
end
structure Bp (h:Heap) (x dx C:ah) (mA:Str->Option af):Prop where
 obj:h.get? x=some (PySem.W.instObj C dx)
 ns:h.Ns1 dx mA
 ne:dx≠x
def xi {h:Heap}{dx:ah}{mA:Str->Option af}(n:h.Ns1 dx mA):∃od,h.get? dx=some od/\∀name,PySem.W.lookIn name od=some (mA name):=by
 obtain⟨o,es,ep,ho,hd,hk,_,hm⟩:=n
 refine⟨o,ho,fun name=>?_⟩
 have e:=hm name
 unfold nsFind findBy at e
 rw[<-Array.find?_toList] at e
 unfold PySem.W.lookIn
 rw[hd]
 dsimp only
 split
 ·rename_i y q
  rw[q] at e
  exact iM some e
 ·rename_i q
  rw[q] at e
  have a:es.toList.any (·.refKey)=false:=by
   rw[A3]
   intro y hy
   obtain⟨z,t,Wf⟩:=hk y (Array.mem_toList_iff.mp hy)
   simp[DictEntry.refKey,Wf]
  have a':¬es.toList.any (·.refKey)=true:=by rw[a];exact bA
  rw[aO a']
  exact iM some e
def Bp.look {h:Heap}{x dx C:ah}{mA:Str->Option af}(I:Bp h x dx C mA):∃od,PySem.W.InstAt h x (PySem.W.instObj C dx) C (some od)/\∀name,PySem.W.lookIn name od=some (mA name):=
 let⟨od,ho,hl⟩:=xi I.ns
 ⟨od,⟨I.obj,rfl,rfl,ho⟩,hl⟩
section
variable {prog:aF}{w:ba}{A:aQ}{E:af->ai->Prop}{s:ai}{K:PySem.W.Frag}{x dx C f:ah}{mA:Str->Option af}{name:Str}{v:af}
def get_map {expr:Bool}{Q:af->ai->Prop}(X:K.In s.heap) (I:Bp s.heap x dx C mA) (hg:PySem.W.plainGet K C name=true) (hh:PySem.W.hasDictIn K C=true)
  (ha:PySem.W.findIn K (.ref C) name=some none) (hv:mA name=some v) (hv':PySem.W.handedIn v=true) (h:Q v {s with toks:=s.toks+1}):
  wpAny (model prog w) A (getAttr (.ref x) name expr) Q E s:=by
 obtain⟨od,J,hl⟩:=I.look
 exact PySem.W.get_value X J (xR hg).1 (PySem.W.findObj_own hh ha rfl (by rw[hl,hv])) hv' h
def GP {pl:Sem Bool}{Q:af×List af->ai->Prop}(X:K.In s.heap) (I:Bp s.heap x dx C mA) (hg:PySem.W.plainGet K C name=true)
  (hf:PySem.W.findIn K (.ref C) name=some (some (.ref f))) (ht:PySem.W.isFn K (.ref f)=true) (hv:mA name=none) (h:Q (.ref f,[.ref x]) s):
  wpAny (model prog w) A (getMethod (.ref x) name pl) Q E s:=by
 obtain⟨od,J,hl⟩:=I.look
 exact PySem.W.method_fn X J (xR hg).1 (xR hg).2 hf (iH.mp ht) (by show(PySem.W.lookIn name od).map (·.isSome)=some false;rw[hl,hv];rfl) h
def Kl {ns:List Str}{Q:Unit->ai->Prop}(X:K.In s.heap) (I:Bp s.heap x dx C mA)
  (hs:PySem.W.findIn K (.ref C) "__setattr__"=some (some (.builtin "object.__setattr__"))) (hp:PySem.W.plainOver K C=true) (ht:PySem.W.takerIn K C name=some none) (hh:PySem.W.hasDictIn K C=true)
  (hw:PySem.Within mA ns) (hsz:ns.length<=sizeLine)
  (h:∀h',Bp h' x dx C (fun y=>if y=name then some v else mA y)->Heap.SameBut dx s.heap h'->Q () {s with heap:=h',toks:=s.toks+2}):
  wpAny (model prog w) A (setAttr (.ref x) name v) Q E s:=by
 obtain⟨od,J,hl⟩:=I.look
 refine PySem.W.set_plain X J hs (PySem.W.osa_open (s:={s with toks:=s.toks+1}) (r:=none) X J hp ht fun b=>?_)
 obtain⟨cd,hc,VZ⟩:=PySem.W.any_some hh
 have hx:s.heap.get? x=some ⟨.ref C,some dx,.plain,#[]⟩:=I.obj
 refine aa (ak (aa (aa (A5 hx (aa (PySem.W.Looks.here (s:={s with toks:=s.toks+1}) (PySem.W.looks_clsIn X hc) ?_))))))
 rw[VZ]
 refine ak (a:=some dx) (aa (ak (aa ?_)))
 refine wpAny_nsSet1 (s:={s with toks:=s.toks+1}) I.ns fun h' JP GQ=>?_
 obtain⟨oD,esD,epD,Wg,Wh,Wi⟩:=JP.count (PySem.Within.cons name v hw)
 refine aa (wpAny_lookBehind Wg (by rw[Wh];exact pastItsLine_dict (bh Wi (by rw[cH];omega))) ?_)
 exact ak (h _ ⟨(GQ.2 _ (cF I.ne)).trans I.obj,JP,I.ne⟩ GQ)
def GR {R:Result->ai->Prop}{vs:List af}{kw:List (Str×af)}(X:K.In s.heap) (hm:PySem.W.makesIn K C=true)
  (hi:PySem.W.findIn K (.ref C) "__init__"=some (some (.ref f))) (hf:PySem.W.typeIn K (.ref f)=some (.type "function"))
  (h:codeAny (model prog w) (A.under (.builtin "type.__call__" ⟨.ref C::vs,kw⟩)) (.call (.ref f) ⟨.ref (s.heap.objs.size+1)::vs,kw⟩) (PySem.W.InitBack (s.heap.objs.size+1) R)
   {s with heap:=(s.heap.push PySem.W.emptyDict).push (PySem.W.instObj C s.heap.objs.size)}):
  codeAny (model prog w) A (.call (.ref C) ⟨vs,kw⟩) R s:=by
 obtain⟨hh,g,d,t,os⟩:=s
 exact PySem.W.make_core (PySem.W.makes_of X hm) (PySem.W.looks_findIn X hi) (fun self=>PySem.W.bind_fn X self hf) (.inl rfl) h
end
def jY (f:Str) (v:V):List (Str×V)->List (Str×V)
 | []=>[(f,v)]
 |(g,x)::r=>if g=f then(g,v)::r else(g,x)::jY f v r
def sW (f g:Str) (v:V):∀fs:List (Str×V),(jY f v fs).lookup g=if g=f then some v else fs.lookup g
 | []=>by
  show List.lookup g [(f,v)]=_
  by_cases h:g=f
  ·have hb:(g==f)=true:=iH.mpr h
   simp only[List.lookup,hb,aP h]
  ·have hb:(g==f)=false:=nG.mpr h
   simp only[List.lookup,hb,aO h]
 |(k,x)::r=>by
  have ih:=sW f g v r
  rw[show jY f v ((k,x)::r)=(if k=f then(k,v)::r else(k,x)::jY f v r) from rfl]
  by_cases hk:k=f
  ·rw[aP hk]
   by_cases h:g=k
   ·have hb:(g==k)=true:=iH.mpr h
    simp only[List.lookup,hb,aP (h.trans hk)]
   ·have hb:(g==k)=false:=nG.mpr h
    simp only[List.lookup,hb,aO (fun e:g=f=>h (e.trans hk.symm))]
  ·rw[aO hk]
   by_cases h:g=k
   ·have hb:(g==k)=true:=iH.mpr h
    simp only[List.lookup,hb,aO (fun e:g=f=>hk (h.symm.trans e))]
   ·have hb:(g==k)=false:=nG.mpr h
    simp only[List.lookup,hb]
    exact ih
def rX (f:Str) (v:V):∀fs:List (Str×V),f∈(jY f v fs).map (·.1)/\∀g,g∈fs.map (·.1)->g∈(jY f v fs).map (·.1)
 | []=>⟨by simp[jY],fun g h=>by simp at h⟩
 |(k,x)::r=>by
  obtain⟨i1,i2⟩:=rX f v r
  rw[show jY f v ((k,x)::r)=(if k=f then(k,v)::r else(k,x)::jY f v r) from rfl]
  by_cases hk:k=f
  ·rw[aP hk]
   subst hk
   exact⟨by simp,fun g h=>by simpa using h⟩
  ·rw[aO hk]
   refine⟨?_,fun g h=>?_⟩
   ·rw[bH]
    exact cm _ i1
   ·rw[bH] at h⊢
    rcases aC.mp h with e|e
    ·exact aC.mpr (.inl e)
    ·exact cm _ (i2 g e)
def sX (f:Str) (v:V):∀fs:List (Str×V),(jY f v fs).length<=fs.length+1
 | []=>by simp[jY]
 |(k,x)::r=>by
  have ih:=sX f v r
  rw[show jY f v ((k,x)::r)=(if k=f then(k,v)::r else(k,x)::jY f v r) from rfl]
  by_cases hk:k=f
  ·rw[aP hk,cH,cH];omega
  ·rw[aO hk,cH,cH];omega
def nB.some_of {v:V}{o:Option af}(r:nB (some v) o):∃u,o=some u/\RelV v u:=by
 cases o with
 |none=>exact(show False from r).elim
 |some u=>exact⟨u,rfl,r⟩
def nB.none_of {o:Option af}(r:nB none o):o=none:=by
 cases o with
 |none=>rfl
 |some u=>exact(show False from r).elim
def xj {v:V}{u:af}(r:RelV v u):PySem.W.handedIn u=true:=by
 cases v with
 |eA=>cases(show u=Value.none from r);rfl
 |bl b=>cases(show u=Value.bool b from r);rfl
 |int i=>obtain⟨t,e⟩:=(show∃t,u=Value.int i t from r);cases e;rfl
 |str x=>obtain⟨t,e⟩:=(show∃t,u=Value.str x t from r);cases e;rfl
 |C3 b=>obtain⟨t,e⟩:=(show∃t,u=Value.bytes b t from r);cases e;rfl
 |Ny b=>obtain⟨t,e⟩:=(show∃t,u=Value.float b t from r);cases e;rfl
 |ref a=>cases(show u=Value.ref a from r);rfl
 |ty n=>cases(show u=Value.type n from r);rfl
section
variable {P:aF}{w:ba}{H H':Hp}{h h':Heap}{a C dx:ah}{fs fs':List (Str×V)}
def uj (eE:pM P w H h) (e:H a=some (.ins C dx fs)):∃mA,Bp h a dx C mA/\(∀f,nB (fs.lookup f) (mA f))/\PySem.Within mA (fs.map (·.1))/\fs.length<=1000/\H dx=some (.own a):=by
 obtain⟨d,z,ne,ob,mA,n,r,q⟩:=(show fP P w H h a (.ins C dx fs) from eE a _ e)
 exact⟨mA,⟨ob,n,ne⟩,r,q,z,d⟩
end
structure AV (K:PySem.W.Frag) (C:ah):Prop where
 pg:PySem.W.plainGet K C Str.empty=true
 hd:PySem.W.hasDictIn K C=true
 po:PySem.W.plainOver K C=true
 sa:PySem.W.findIn K (.ref C) "__setattr__"=some (some (.builtin "object.__setattr__"))
def AV.get {K:PySem.W.Frag}{C:ah}(c:AV K C) (f:Str):PySem.W.plainGet K C f=true:=c.pg
def ji (K:PySem.W.Frag) (C:ah) (f:Str):Prop:=PySem.W.findIn K (.ref C) f=some none
def ji.RZ {K:PySem.W.Frag}{C:ah}{f:Str}(n:ji K C f):PySem.W.takerIn K C f=some none:=by
 unfold PySem.W.takerIn
 rw[show PySem.W.findIn K (.ref C) f=some none from n]
 rfl
structure yd (K:PySem.W.Frag) (C:ah) (m:Str) (f:ah):Prop where
 at_:PySem.W.findIn K (.ref C) m=some (some (.ref f))
 fn:PySem.W.isFn K (.ref f)=true
 kp:PySem.W.keepIn K (.ref f)=true
section
variable {X:Cx}{pins:List (ah×Obj)}{σ:St}{H:Hp}{s:ai}{a C dx:ah}{fs:List (Str×V)}{f:Str}{v:V}{A:aQ}{E:af->ai->Prop}
def Bq {b:Bool}{Q:af->ai->Prop}(I:Inv X pins σ H s) (e:H a=some (.ins C dx fs)) (c:AV X.K C) (n:ji X.K C f) (l:fs.lookup f=some v)
  (h:∀u s',Inv X pins σ H s'->RelV v u->Q u s'):wpAny (model X.prog X.w) A (getAttr (.ref a) f b) Q E s:=by
 obtain⟨mA,O,r,_,_,_⟩:=uj I.eE e
 obtain⟨u,hu,ru⟩:=nB.some_of (v:=v) (o:=mA f) (by rw[<-l];exact r f)
 exact get_map I.kC O (c.get f) c.hd n hu (xj ru) (h u _ (I.tok _) ru)
def kI {m:Str}{g:ah}{pl:Sem Bool}{Q:af×List af->ai->Prop}(I:Inv X pins σ H s) (e:H a=some (.ins C dx fs)) (c:AV X.K C) (k:yd X.K C m g) (l:fs.lookup m=none)
  (h:Q (.ref g,[.ref a]) s):wpAny (model X.prog X.w) A (getMethod (.ref a) m pl) Q E s:=by
 obtain⟨mA,O,r,_,_,_⟩:=uj I.eE e
 have hn:mA m=none:=nB.none_of (by rw[<-l];exact r m)
 exact GP I.kC O (c.get m) k.at_ k.fn hn h
def Br {y:V}{u:af}{Q:Unit->ai->Prop}(I:Inv X pins σ H s) (e:H a=some (.ins C dx fs)) (c:AV X.K C) (n:ji X.K C f) (hl:fs.length<1000) (ry:RelV y u)
  (h:∀s',Inv X pins σ (upd H a (.ins C dx (jY f y fs))) s'->Q () s'):wpAny (model X.prog X.w) A (setAttr (.ref a) f u) Q E s:=by
 obtain⟨mA,O,r,wi,_,ho⟩:=uj I.eE e
 have hz:(fs.map (·.1)).length<=sizeLine:=by rw[aq,gP];omega
 refine Kl I.kC O c.sa c.po n.RZ c.hd wi hz fun h' O' sb=>h _ ?_
 have hd:∃o,h'.get? dx=some o:=let⟨o,_,_,e',_⟩:=O'.ns;⟨o,e'⟩
 refine I.write (x:=a) (e:=dx) (by rw[e];exact True.intro) (.inr ho) (fun b q hb z=>(sb.2 b hb).trans z) hd ?_
 refine⟨by rw[aV O.ne];exact ho,?_,O.ne,O'.obj,_,O'.ns,fun g=>?_,fun g hg=>?_⟩
 ·have:=sX f y fs;omega
 ·show nB ((jY f y fs).lookup g) (if g=f then some u else mA g)
  rw[sW]
  by_cases q:g=f
  ·rw[aP q,aP q];exact ry
  ·rw[aO q,aO q];exact r g
 ·by_cases q:g=f
  ·rw[q];exact(rX f y fs).1
  ·refine(rX f y fs).2 g (wi g fun z=>hg ?_)
   show(if g=f then some u else mA g)=none
   rw[aO q];exact z
def Inv.made (I:Inv X pins σ H s):Inv X pins σ (upd (upd H s.heap.objs.size (.own (s.heap.objs.size+1))) (s.heap.objs.size+1) (.ins C s.heap.objs.size []))
  {s with heap:=(s.heap.push PySem.W.emptyDict).push (PySem.W.instObj C s.heap.objs.size)}:=by
 have e1:(s.heap.push PySem.W.emptyDict).get? s.heap.objs.size=some PySem.W.emptyDict:=aw s.heap rfl
 have e2:((s.heap.push PySem.W.emptyDict).push (PySem.W.instObj C s.heap.objs.size)).get? (s.heap.objs.size+1)=some (PySem.W.instObj C s.heap.objs.size):=by
  have:=aw (s.heap.push PySem.W.emptyDict) (o:=PySem.W.instObj C s.heap.objs.size) rfl
  rwa[bZ] at this
 have e3:(s.heap.push PySem.W.emptyDict).Ns s.heap.objs.size (fun _=>none):=⟨PySem.W.emptyDict,#[],_,e1,rfl,(fun e he=>absurd he (by simp)),fun _=>rfl⟩
 have I1:=I.laid (a:=s.heap.objs.size) (o:=.own (s.heap.objs.size+1)) (h':=s.heap.push PySem.W.emptyDict) (t':=s.toks) (fun b u q=>ag _ q) (aB _) ⟨_,e1⟩
 refine I1.laid (a:=s.heap.objs.size+1) (o:=.ins C s.heap.objs.size []) (t':=s.toks) (fun b u q=>ag _ q) (Rz (bZ _ _)) ?_
 have ne:s.heap.objs.size≠s.heap.objs.size+1:=bb (fL _)
 refine⟨by rw[aV ne,az],fH _,ne,e2,fun _=>none,(Heap.Ns1.of_empty e3).at fun o q=>ag _ q,fun _=>True.intro,fun y hy=>absurd rfl hy⟩
def Dk {prog:aF}{w:ba}{env:Env}{e:Expr}{f:Str}{pos:Pos}{s:ai}{Q:af->ai->Prop}(hb:attributeBase e f env (eval e env)=eval e env)
  (h:wpAny (model prog w) A (eval e env) (fun o eN=>wpAny (model prog w) A (getAttr o f true) Q E eN) E s):wpAny (model prog w) A (eval (.Attribute e f pos) env) Q E s:=
 Attribute_any_ h (by rw[arm_eval_Attribute,hb])
end
def Wj (K:PySem.W.Frag) (ta:TE) (f:Str):TE:=fun σ H Q=>ta σ H fun x H1=>∃a C dx fs v,x=.ref a/\H1 a=some (.ins C dx fs)/\AV K C/\ji K C f/\fs.lookup f=some v/\Q v H1
def Wk (K:PySem.W.Frag) (ta tv:TE) (f:Str):TS:=fun D σ H=>tv σ H fun y H1=>ta σ H1 fun x H2=>∃a C dx fs,x=.ref a/\H2 a=some (.ins C dx fs)/\AV K C/\ji K C f/\fs.length<1000/\
 D.nx σ (upd H2 a (.ins C dx (jY f y fs)))
section
variable {X:Cx}{o e value:Expr}{f:Str}{pos pos' Wl:Pos}{ta tv:TE}
def jj (he:PE X e ta) (hb:attributeBase e f X.env (eval e X.env)=eval e X.env):PE X (.Attribute e f pos) (Wj X.K ta f):=by
 intro pins s σ H Q I h
 refine Dk hb (e_ (he pins s σ H _ I h) fun u s1 ⟨x,H1,I1,rx,a,C,dx,fs,v,ex,ea,c,n,l,q⟩=>?_)
 subst ex
 obtain rfl:u=Value.ref a:=rx
 exact Bq I1 ea c n l fun u' s2 I2 ru=>⟨v,H1,I2,ru,q⟩
def Bs (ha:PE X o ta) (hv:PE X value tv) (hs:swapsWith value (some (.Attribute o f pos')) pos.line X.env=pure false):PS X (.Assign [.Attribute o f pos'] value pos) (Wk X.K ta tv f):=by
 intro pins s σ H D I h
 refine Me (e_ (hv pins s σ H _ I h) fun u s1 ⟨y,H1,I1,ry,q⟩=>e_ (ha pins s1 σ H1 _ I1 q) fun ov s2 ⟨x,H2,I2,rx,a,C,dx,fs,ex,ea,c,n,l,q2⟩=>?_) hs
 subst ex
 obtain rfl:ov=Value.ref a:=rx
 exact Br I2 ea c n l ry fun s3 I3=>⟨σ,_,I3,q2⟩
def Mp {pl:Sem Bool}{m:Str}{apos:Pos}{args:List Expr}{pins:List (ah×Obj)}{s:ai}{σ:St}{H:Hp}{Q:af->ai->Prop}{te:TE}(he:PE X e te) (I:Inv X pins σ H s)
  (h:te σ H fun x H1=>∃a C dx fs g,x=.ref a/\H1 a=some (.ins C dx fs)/\AV X.K C/\yd X.K C m g/\fs.lookup m=none/\
   ∀s1,Inv X pins σ H1 s1->wpAny (model X.prog X.w) X.A (callWith pos (.ref g) [.ref a] (backTo pos (starEach args X.env)) (backToKw pos (keywordEach [] X.env))) Q X.xe s1)
  (ht:eval (.Call (.Attribute e m apos) args [] pos) X.env=(do
   let ov<-eval e X.env
   standAt apos.atName
   let(f,first)<-holding [ov] (getMethod ov m pl)
   callWith pos f first (backTo pos (starEach args X.env)) (backToKw pos (keywordEach [] X.env)))):
  wpAny (model X.prog X.w) X.A (eval (.Call (.Attribute e m apos) args [] pos) X.env) Q X.xe s:=by
 refine gA (pl:=pl) (e_ (he pins s σ H _ I h) fun u s1 ⟨x,H1,I1,rx,a,C,dx,fs,g,ex,ea,c,k,l,q⟩=>?_) ht
 subst ex
 obtain rfl:u=Value.ref a:=rx
 exact kI I1 ea c k l (q s1 I1)
end
section
variable {X:Cx}{pins:List (ah×Obj)}{σ:St}{H:Hp}{s:ai}{A:aQ}{E:af->ai->Prop}{Q:af->ai->Prop}{c:af}{b:Bool}
inductive rY (K:PySem.W.Frag) (H:Hp):V->af->Prop where
 |eA:rY K H .eA (.type "NoneType")
 |bl (x:Bool):rY K H (.bl x) (.type "bool")
 |int (i:Int):rY K H (.int i) (.type "int")
 |str (x:Str):rY K H (.str x) (.type "str")
 |Ny (x:UInt64):rY K H (.Ny x) (.type "float")
 |lst {a:ah} {xs:List V} (e:H a=some (.lst xs)):rY K H (.ref a) (.type "list")
 |Be {a:ah} {o:Obj} {xs:List V} (e:H a=some (.Be o (.lst xs))):rY K H (.ref a) (.type "list")
 |tup {a:ah} {xs:List V} (e:H a=some (.tup xs)):rY K H (.ref a) (.type "tuple")
 |dK {a:ah} {de:List (Key×V)} (e:H a=some (.dK de)):rY K H (.ref a) (.type "dict")
 |dT {a:ah} {de:List (List Key×V)} (e:H a=some (.dT de)):rY K H (.ref a) (.type "dict")
 |ins {a C dx:ah} {fs:List (Str×V)} (e:H a=some (.ins C dx fs)) (cl:AV K C) (ha:PySem.W.findIn K (.ref C) "__class__"=some (some (.builtin "object.__class__")))
  (hn:PySem.W.specialIn K (.builtin "object.__class__") "__get__"=some (some (.builtin "getset_descriptor.__get__"))) (ZK:PySem.W.takesIn K (.builtin "object.__class__")=some true)
  (hm:PySem.W.mroIn K C (.type "object")=some true):rY K H (.ref a) (.ref C)
def EV {x:V}{u t:af}(I:Inv X pins σ H s) (rx:RelV x u) (ty:rY X.K H x t) (e:PySem.W.kitOne X.K t c=some b) (h:∀tk,Q (.bool b) {s with toks:=tk}):
  wpAny (model X.prog X.w) A (call (.builtin "isinstance") [u,c]) Q E s:=by
 cases ty with
 |eA=>cases(show u=Value.none from rx);exact ff PySem.W.kitx_none I.kC True.intro e (fun z=>nomatch z) h
 |bl y=>cases(show u=Value.bool y from rx);exact ff PySem.W.kitx_bool I.kC True.intro e (fun z=>nomatch z) h
 |int i=>obtain⟨t,q⟩:=(show∃t,u=Value.int i t from rx);cases q;exact ff PySem.W.kitx_int I.kC True.intro e (fun z=>nomatch z) h
 |str y=>obtain⟨t,q⟩:=(show∃t,u=Value.str y t from rx);cases q;exact ff PySem.W.kitx_str I.kC True.intro e (fun z=>nomatch z) h
 |Ny y=>obtain⟨t,q⟩:=(show∃t,u=Value.float y t from rx);cases q;exact ff PySem.W.kitx_float I.kC True.intro e (fun z=>nomatch z) h
 | @lst a xs ea=>
  cases(show u=Value.ref a from rx)
  obtain⟨_,_,n,_,h1⟩:=(show fP X.prog X.w H s.heap a (.lst xs) from I.eE a _ ea)
  exact ff PySem.W.kitx_list I.kC ⟨_,h1,rfl⟩ e (fun z=>nomatch z) h
 | @Be a ob xs ea=>
  cases(show u=Value.ref a from rx)
  obtain⟨_,_,_,n,_,h1⟩:=(show fP X.prog X.w H s.heap a (.Be ob (.lst xs)) from I.eE a _ ea)
  exact ff PySem.W.kitx_list I.kC ⟨_,h1,rfl⟩ e (fun z=>nomatch z) h
 | @tup a xs ea=>
  cases(show u=Value.ref a from rx)
  obtain⟨_,_,_,p⟩:=(show fP X.prog X.w H s.heap a (.tup xs) from I.eE a _ ea)
  obtain⟨o,h1,h2,_⟩:=p
  exact ff PySem.W.kitx_tuple I.kC ⟨o,h1,h2⟩ e (fun z=>nomatch z) h
 | @dK a de ea=>
  cases(show u=Value.ref a from rx)
  obtain⟨_,_,vs,_,p⟩:=(show fP X.prog X.w H s.heap a (.dK de) from I.eE a _ ea)
  obtain⟨o,es,ep,h1,h2,_⟩:=p
  exact ff PySem.W.kitx_dict I.kC ⟨o,h1,h2.1⟩ e (fun z=>nomatch z) h
 | @dT a de ea=>
  cases(show u=Value.ref a from rx)
  obtain⟨_,_,xs,_,o,es,ep,h1,h2,_⟩:=(show fP X.prog X.w H s.heap a (.dT de) from I.eE a _ ea)
  exact ff PySem.W.kitx_dict I.kC ⟨o,h1,h2.1⟩ e (fun z=>nomatch z) h
 | @ins a C dx fs ea cl ha hn ZK hm=>
  cases(show u=Value.ref a from rx)
  obtain⟨mA,O,_⟩:=uj I.eE ea
  obtain⟨od,J,_⟩:=O.look
  exact ff (PySem.W.kitx_own (cl.get _) cl.hd ha hn ZK hm) I.kC J e (fun z=>nomatch z) h
end
structure eK (k:Nat) (A:aQ):Prop where
 hd:A.handled=none
 dp:A.depth+3*k+5<recursionLimit
 un:A.units+16*k+200<cLine
 gd:A.guards=some []
def eK.mono {j k:Nat}{A:aQ}(r:eK k A) (h:j<=k):eK j A:=⟨r.hd,by have:=r.dp;omega,by have:=r.un;omega,r.gd⟩
def eK.deeper {k:Nat}{A:aQ}(r:eK (k+1) A) (env:Env):eK k (A.deeper env):=
 ⟨r.hd,by have:=r.dp;show A.depth+1+3*k+5<_;omega,by have:=r.un;show A.units+3+16*k+200<_;omega,r.gd⟩
def eK.in1 {k:Nat}{A:aQ}(r:eK (k+1) A):eK k A.in1:=
 ⟨r.hd,by have:=r.dp;show A.depth+3*k+5<_;omega,by have:=r.un;show A.units+1+16*k+200<_;omega,r.gd⟩
def Bt {A:aQ}{C:ah}{us:List af}{kw:List (Str×af)}:(A.under (.builtin "type.__call__" ⟨.ref C::us,kw⟩)).depth=A.depth+1:=by
 first|rfl|simp[Around.under,Code.weight,Code.isCreation,Code.isGuard,Code.isCaller,Code.frames,Code.isFrame,guardIds]
def Bu {A:aQ}{C:ah}{us:List af}{kw:List (Str×af)}:(A.under (.builtin "type.__call__" ⟨.ref C::us,kw⟩)).units=A.units+1:=by
 first|rfl|simp[Around.under,Code.cUnits,Code.frames,Code.isFrame]
def zE {A:aQ}{C:ah}{us:List af}{kw:List (Str×af)}(h:A.guards=some []):(A.under (.builtin "type.__call__" ⟨.ref C::us,kw⟩)).guards=some []:=by
 first|exact h|simp[Around.under,Code.guards,Code.isGuard,guardIds,pushGuards,h]
def eK.make {k:Nat}{A:aQ}(r:eK (k+1) A) (C:ah) (us:List af) (kw:List (Str×af)):eK k (A.under (.builtin "type.__call__" ⟨.ref C::us,kw⟩)):=
 ⟨r.hd,by have:=r.dp;rw[Bt];omega,by have:=r.un;rw[Bu];omega,zE r.gd⟩
def eK.depth {k:Nat}{A:aQ}(r:eK k A):A.depth<recursionLimit:=by have:=r.dp;omega
def eK.units {k:Nat}{A:aQ}(r:eK k A):A.units+64<cLine:=by have:=r.un;omega
def fD:TA:=fun _ H Q=>Q [] H
def cC (ta:TE) (tr:TA):TA:=fun σ H Q=>ta σ H fun x H1=>tr σ H1 fun xs H2=>Q (x::xs) H2
section
variable {X:Cx}{e:Expr}{es:List Expr}{te:TE}{t:TA}{pos:Pos}
def aj:PA X [] fD:=fun _ _ _ _ H Q I h=>Calls.spliced_nil ⟨[],H,I,.nil,h⟩
def ae (ha:PE X e te) (hr:PA X es t) (hs:starEach (e::es) X.env=(false,eval e X.env)::starEach es X.env:=by rfl):PA X (e::es) (cC te t):=by
 intro pos pins s σ H Q I h
 rw[hs]
 show wpAny _ _ (spliced ((false,eval e X.env)::backTo pos (starEach es X.env))) _ _ s
 refine Gv (e_ (ha pins s σ H _ I h) fun u s1 ⟨x,H1,I1,r1,q1⟩=>?_)
 exact e_ (hr pos pins s1 σ H1 _ I1 q1) fun us s2 ⟨xs,H2,I2,r2,q2⟩=>⟨x::xs,H2,I2,.cons r1 r2,q2⟩
def nY (t:TA):TE:=fun σ H Q=>t σ H fun xs H1=>xs.length<=sizeLine/\∀p,H1 p=none->Q (.ref p) (upd H1 p (.tup xs))
def wL (t:TA):TE:=fun σ H Q=>t σ H fun xs H1=>xs.length<=sizeLine/\∀p,H1 p=none->Q (.ref p) (upd H1 p (.lst xs))
def bO {x1}(h:PA X es t):PE X (.Tuple es x1 pos) (nY t):=by
 intro pins s σ H Q I hq
 refine wpAny_Tuple_spliced (e_ (h pos pins s σ H _ I hq) fun us s1 ⟨xs,H1,I1,r,z,q⟩=>⟨by rw[<-r.length];exact z,?_⟩)
 have hf:H1 s1.heap.objs.size=none:=I1.eE.fresh (aB _)
 refine⟨.ref s1.heap.objs.size,upd H1 s1.heap.objs.size (.tup xs),I1.laid (t':=s1.toks) (fun b u e=>ag _ e) (aB _) ?_,rfl,q _ hf⟩
 exact⟨z,us,r,⟨_,aw _ rfl,rfl,rfl,_,rfl⟩⟩
def cW (h:PA X es t):PE X (.List es pos) (wL t):=by
 intro pins s σ H Q I hq
 refine wpAny_List_spliced (e_ (h pos pins s σ H _ I hq) fun us s1 ⟨xs,H1,I1,r,z,q⟩=>⟨by rw[<-r.length];exact z,?_⟩)
 have hf:H1 s1.heap.objs.size=none:=I1.eE.fresh (aB _)
 refine⟨.ref s1.heap.objs.size,upd H1 s1.heap.objs.size (.lst xs),I1.laid (t':=s1.toks) (fun b u e=>ag _ e) (aB _) ?_,rfl,q _ hf⟩
 exact⟨z,us,0,r,aw _ rfl⟩
end
abbrev Sp:=List V->Hp->VK->XK->Prop
abbrev EW:=List Env->Hp->ai->XK->af->ai->Prop
structure tX (P:aF) (w:ba) (K:PySem.W.Frag) (mg:Str->Option af) (base:Heap) (A:aQ) (outer:List Env) (s:ai) (H:Hp):Prop where
 frames:A.frames=some outer
 mod:Mod K mg base
 bs:∀b o,base.get? b=some o->s.heap.get? b=some o/\H b=none
 Bg:base.objs.size<=s.heap.objs.size
 mf:s.heap.FunFrames base outer
 C4:∀b∈nE outer,H b=none
 eE:pM P w H s.heap
 bare:AllBare s.gens
def CE (outer:List Env) (P:aF) (w:ba) (H:Hp) (s:ai) (Q:VK) (u:af) (s':ai):Prop:=
 ∃v H',s'.os=s.os/\AllBare s'.gens/\Un (nE outer) [] H H' s.heap s'.heap/\pM P w H' s'.heap/\RelV v u/\Q v H'
def CR (CX:EW) (outer:List Env) (P:aF) (w:ba) (H:Hp) (s:ai) (Q:VK) (E:XK) (r:Result) (s':ai):Prop:=
 match r with
 | .ok (.ret u)=>CE outer P w H s Q u s'
 | .ok _=>False
 | .error e=>CX outer H s E e s'
structure dO (P:aF) (w:ba) (K:PySem.W.Frag) (mg:Str->Option af) (base:Heap) (CX:EW) (k:Nat) (f:ah) (fd:FuncData) (ps:List Str) (sp:Sp):Prop where
 len:∀vs H Q E,sp vs H Q E->vs.length=ps.length
 run:∀(A:aQ) (outer:List Env) (s:ai) (H:Hp) (args:Args) (us:List af) (vs:List V) (Q:VK) (E:XK),eK k A->tX P w K mg base A outer s H->BindsTo s fd args (ps.zip us)->cy vs us->sp vs H Q E->
  codeAny (model P w) A (.call (.ref f) args) (CR CX outer P w H s Q E) s
def tX.make {P:aF}{w:ba}{K:PySem.W.Frag}{mg:Str->Option af}{base:Heap}{A:aQ}{outer:List Env}{s:ai}{H:Hp}(e:tX P w K mg base A outer s H) (C:ah) (us:List af) (kw:List (Str×af)):
  tX P w K mg base (A.under (.builtin "type.__call__" ⟨.ref C::us,kw⟩)) outer s H:=⟨by first|exact e.frames|(simpa[Around.under,Code.envs,Code.isFrame,pushEnvs] using e.frames),e.mod,e.bs,e.Bg,e.mf,e.C4,e.eE,e.bare⟩
def tX.in1 {P:aF}{w:ba}{K:PySem.W.Frag}{mg:Str->Option af}{base:Heap}{A:aQ}{outer:List Env}{s:ai}{H:Hp}(e:tX P w K mg base A outer s H):
  tX P w K mg base A.in1 outer s H:=⟨e.frames,e.mod,e.bs,e.Bg,e.mf,e.C4,e.eE,e.bare⟩
section
variable {X:Cx}{pins:List (ah×Obj)}{σ:St}{H:Hp}{s s':ai}
def Inv.EX (I:Inv X pins σ H s):tX X.prog X.w X.K X.mg X.base X.A X.stack s H:=
 ⟨I.ok.frames,I.ok.mod,I.bs,bh I.ok.Bg I.sz,I.stack,I.xY,I.eE,I.bare⟩
def Inv.after {Q:VK}{u:af}(I:Inv X pins σ H s) (h:CE X.stack X.prog X.w H s Q u s'):EP X pins σ Q u s':=by
 obtain⟨v,H',os,bare,un,eE,r,q⟩:=h
 obtain⟨hh,g,d,t,os'⟩:=s'
 obtain rfl:os'=s.os:=os
 exact⟨v,H',I.call (h':=hh) (g':=g) (d':=d) (t':=t) (ch:=[]) un eE bare (fun b z=>absurd z (by simp)),r,q⟩
end
def mq (sp:Sp) (lS:List V) (E:XK) (t:TA):TE:=fun σ H Q=>t σ H fun vs H1=>sp (vs++lS) H1 Q E
def Dl (C:ah) (m:Str) (sp:Sp) (lS:List V) (E:XK) (ta:TE) (t:TA):TE:=fun σ H Q=>ta σ H fun x H1=>∃a dx fs,x=.ref a/\H1 a=some (.ins C dx fs)/\fs.lookup m=none/\
 t σ H1 fun vs H2=>sp (x::(vs++lS)) H2 Q E
def Mq (C:ah) (sp:Sp) (lS:List V) (E:XK) (t:TA):TE:=fun σ H Q=>t σ H fun vs H1=>∀x dx,H1 x=none->H1 dx=none->dx≠x->
 sp (.ref x::(vs++lS)) (upd (upd H1 dx (.own x)) x (.ins C dx [])) (fun v H2=>v=.eA/\Q (.ref x) H2) E
def Binds (K:PySem.W.Frag) (fd:FuncData) (ps:List Str) (ds:List af):Prop:=
 ∀(s:ai) (us:List af),K.In s.heap->(us++ds).length=ps.length->BindsTo s fd ⟨us,[]⟩ (ps.zip (us++ds))
def Binds.all {K:PySem.W.Frag}{fd:FuncData}{ps:List Str}(h:∀us:List af,us.length=ps.length->bindArgs fd ⟨us,[]⟩=pure (ps.zip us)):Binds K fd ps []:=fun s us _ hl=>by
 rw[eJ] at hl⊢
 exact .of_eq (h us hl)
def lT (CX:EW) (X:Cx) (E:XK):Prop:=∀(pins:List (ah×Obj)) (σ:St) (H:Hp) (s:ai) (e:af) (s':ai),Inv X pins σ H s->CX X.stack H s E e s'->X.xe e s'
section
variable {X:Cx}{CX:EW}{k:Nat}{f C:ah}{fd:FuncData}{ps:List Str}{sp:Sp}{lS:List V}{ds:List af}{E:XK}{x m:Str}{p pos apos:Pos}{e o:Expr}{es:List Expr}{ta:TE}{t:TA}
def ye {pins:List (ah×Obj)}{σ:St}{H:Hp}{s:ai}{Q:VK}{us:List af}{vs:List V}(F:dO X.prog X.w X.K X.mg X.base CX k f fd ps sp) (hr:eK k X.A) (hb:Binds X.K fd ps ds) (hd:cy lS ds) (hx:lT CX X E)
  (I:Inv X pins σ H s) (r:cy vs us) (h:sp (vs++lS) H Q E):wpAny (model X.prog X.w) X.A (call (.ref f) us) (EP X pins σ Q) X.xe s:=by
 have r2:cy (vs++lS) (us++ds):=r.append hd
 have hl:(us++ds).length=ps.length:=by rw[<-r2.length];exact F.len _ _ _ _ h
 refine nN (kh (F.run X.A X.stack s H ⟨us,[]⟩ (us++ds) (vs++lS) Q E hr I.EX (hb s us I.kC hl) r2 h) fun r s' hq=>?_)
 cases r with
 |error e=>exact hx pins σ H s e s' I hq
 |ok fl=>
  cases fl with
  |ret u=>exact I.after hq
  |next=>exact False.elim hq
  |brk=>exact False.elim hq
  |cont=>exact False.elim hq
def Km (F:dO X.prog X.w X.K X.mg X.base CX k f fd ps sp) (hr:eK k X.A) (hg:Gl X x) (hm:X.mg x=some (.ref f)) (hk:PySem.W.keepIn X.K (.ref f)=true) (hb:Binds X.K fd ps ds) (hd:cy lS ds) (hx:lT CX X E)
  (ha:PA X (e::es) t) (pX:(x==("__debug__":Str))=false:=by decide) (he:starEach (e::es) X.env=(false,eval e X.env)::starEach es X.env:=by rfl) (jZ:(backTo pos (starEach es X.env)).any (·.1)=false:=by rfl):
  PE X (.Call (.Name x p) (e::es) [] pos) (mq sp lS E t):=by
 intro pins s σ H Q I h
 refine fV (jg I hg hm ?_ pX)
 refine iI (h₀:=X.base) I.ok.mod.pI hk (e_ (ha pos pins s σ H _ I h) fun us s1 ⟨vs,H1,I1,r,q⟩=>⟨I1.kC,?_⟩) he jZ
 exact ye F hr hb hd hx I1 r q
def GS (F:dO X.prog X.w X.K X.mg X.base CX k f fd ps sp) (hr:eK k X.A) (hg:Gl X x) (hm:X.mg x=some (.ref f)) (hk:PySem.W.keepIn X.K (.ref f)=true) (hb:Binds X.K fd ps ds) (hd:cy lS ds) (hx:lT CX X E)
  (pX:(x==("__debug__":Str))=false:=by decide):PE X (.Call (.Name x p) [] [] pos) (mq sp lS E fD):=by
 intro pins s σ H Q I h
 refine fV (jg I hg hm ?_ pX)
 exact nI I.kC hk (ye (us:=[]) F hr hb hd hx I .nil h)
def Kn {pl:Sem Bool}(he:PE X o ta) (c:AV X.K C) (hm:yd X.K C m f) (F:dO X.prog X.w X.K X.mg X.base CX k f fd ps sp) (hr:eK k X.A) (hb:Binds X.K fd ps ds) (hd:cy lS ds) (hx:lT CX X E) (ha:PA X (e::es) t)
  (EL:starEach (e::es) X.env=(false,eval e X.env)::starEach es X.env:=by rfl) (jZ:(backTo pos (starEach es X.env)).any (·.1)=false:=by rfl)
  (ht:eval (.Call (.Attribute o m apos) (e::es) [] pos) X.env=(do
   let ov<-eval o X.env
   standAt apos.atName
   let(f,first)<-holding [ov] (getMethod ov m pl)
   callWith pos f first (backTo pos (starEach (e::es) X.env)) (backToKw pos (keywordEach [] X.env))):=by rfl):
  PE X (.Call (.Attribute o m apos) (e::es) [] pos) (Dl C m sp lS E ta t):=by
 intro pins s σ H Q I h
 refine gA (pl:=pl) (e_ (he pins s σ H _ I h) fun u s1 ⟨x,H1,I1,rx,a,dx,fs,ex,ea,l,q⟩=>?_) ht
 subst ex
 obtain rfl:u=Value.ref a:=rx
 refine kI I1 ea c hm l ?_
 refine iI (first:=[.ref a]) (h₀:=X.base) I.ok.mod.pI hm.kp (e_ (ha pos pins s1 σ H1 _ I1 q) fun us s2 ⟨vs,H2,I2,r,q2⟩=>⟨I2.kC,?_⟩) EL jZ
 exact ye (us:=.ref a::us) (vs:=.ref a::vs) F hr hb hd hx I2 (.cons rfl r) q2
def GU {pl:Sem Bool}(he:PE X o ta) (c:AV X.K C) (hm:yd X.K C m f) (F:dO X.prog X.w X.K X.mg X.base CX k f fd ps sp) (hr:eK k X.A) (hb:Binds X.K fd ps ds) (hd:cy lS ds) (hx:lT CX X E)
  (ht:eval (.Call (.Attribute o m apos) [] [] pos) X.env=(do
   let ov<-eval o X.env
   standAt apos.atName
   let(f,first)<-holding [ov] (getMethod ov m pl)
   callWith pos f first (backTo pos (starEach [] X.env)) (backToKw pos (keywordEach [] X.env))):=by rfl):
  PE X (.Call (.Attribute o m apos) [] [] pos) (Dl C m sp lS E ta fD):=by
 intro pins s σ H Q I h
 refine gA (pl:=pl) (e_ (he pins s σ H _ I h) fun u s1 ⟨x,H1,I1,rx,a,dx,fs,ex,ea,l,q⟩=>?_) ht
 subst ex
 obtain rfl:u=Value.ref a:=rx
 refine kI I1 ea c hm l ?_
 exact nI (first:=[.ref a]) I1.kC hm.kp (ye (us:=[.ref a]) (vs:=[.ref a]) F hr hb hd hx I1 (.cons rfl .nil) q)
structure Mk (K:PySem.W.Frag) (C f:ah):Prop where
 makes:PySem.W.makesIn K C=true
 init:PySem.W.findIn K (.ref C) "__init__"=some (some (.ref f))
 fn:PySem.W.isFn K (.ref f)=true
 kp:PySem.W.keepIn K (.ref C)=true
def GV {pins:List (ah×Obj)}{σ:St}{H:Hp}{s:ai}{Q:VK}{us:List af}{vs:List V}(M:Mk X.K C f) (F:dO X.prog X.w X.K X.mg X.base CX k f fd ps sp) (hr:eK (k+1) X.A) (hb:Binds X.K fd ps ds) (hd:cy lS ds)
  (hx:lT CX X E) (I:Inv X pins σ H s) (r:cy vs us)
  (h:∀x dx,H x=none->H dx=none->dx≠x->sp (.ref x::(vs++lS)) (upd (upd H dx (.own x)) x (.ins C dx [])) (fun v H2=>v=.eA/\Q (.ref x) H2) E):
  wpAny (model X.prog X.w) X.A (call (.ref C) us) (EP X pins σ Q) X.xe s:=by
 have hq:=h (s.heap.objs.size+1) s.heap.objs.size (I.eE.fresh (dE _)) (I.eE.fresh (aB _)) (bb (fL _))
 have I2:=Inv.made (C:=C) I
 have r2:cy (V.ref (s.heap.objs.size+1)::(vs++lS)) (Value.ref (s.heap.objs.size+1)::(us++ds)):=.cons rfl (r.append hd)
 have hl:(Value.ref (s.heap.objs.size+1)::us++ds).length=ps.length:=by
  have e:=r2.length
  rw[F.len _ _ _ _ hq] at e
  exact e.symm
 refine nN (GR (f:=f) I.kC M.makes M.init (iH.mp M.fn) (kh (F.run _ X.stack _ _ ⟨Value.ref (s.heap.objs.size+1)::us,[]⟩ (Value.ref (s.heap.objs.size+1)::(us++ds)) _ _ E (hr.make C us [])
  (I2.EX.make C us []) (hb _ (Value.ref (s.heap.objs.size+1)::us) I2.kC hl) r2 hq) fun r s' EY=>?_))
 cases r with
 |error e=>exact hx pins σ _ _ e s' I2 EY
 |ok fl=>
  cases fl with
  |ret u=>
   obtain⟨v,H',I3,rv,ev,q3⟩:=I2.after EY
   subst ev
   exact⟨rv,⟨V.ref (s.heap.objs.size+1),H',I3,rfl,q3⟩⟩
  |next=>exact False.elim EY
  |brk=>exact False.elim EY
  |cont=>exact False.elim EY
def GW (M:Mk X.K C f) (F:dO X.prog X.w X.K X.mg X.base CX k f fd ps sp) (hr:eK (k+1) X.A) (hg:Gl X x) (hm:X.mg x=some (.ref C)) (hb:Binds X.K fd ps ds) (hd:cy lS ds) (hx:lT CX X E)
  (pX:(x==("__debug__":Str))=false:=by decide):PE X (.Call (.Name x p) [] [] pos) (Mq C sp lS E fD):=by
 intro pins s σ H Q I h
 refine fV (jg I hg hm ?_ pX)
 exact nI I.kC M.kp (GV (us:=[]) M F hr hb hd hx I .nil h)
end
section
variable {X:Cx}{CX:EW}{k:Nat}{f C:ah}{fd:FuncData}{ps ks:List Str}{sp:Sp}{E:XK}{x m:Str}{p pos apos aab:Pos}{e o:Expr}{es:List Expr}{kws:List Keyword}{te ta:TE}{t tk:TA}{nm:Option Str}
variable {g:List af->List af->List af}{gV:List V->List V->List V}
end
structure bV (N P:List Str) (sc:Scope):Prop where
 kind:sc.kind=.function:=by rfl
 co:sc.isCoroutine=false:=by rfl
 gen:sc.isGenerator=false:=by rfl
 nd:N.Nodup:=by decide+kernel
 pre:N.take P.length=P:=by rfl
 par:∀x∈P,sc.names.lookup x=some .local\/sc.names.lookup x=some .cell:=by decide+kernel
 NP:∀y∈sc.names,y.2≠.free:=by decide+kernel
def xk {kindOf:Str->Option NameKind}{x:Str}:∀{binds:List (Str×af)}{m:Str->Option af},(∀v,(x,v)∉binds)->bindL kindOf binds m x=m x
 | [],_,_=>rfl
 |(n,v)::r,m,h=>by
  unfold bindL
  rw[xk fun w hw=>h w (cm _ hw)]
  split
  ·have:x≠n:=by rintro rfl;exact h v cf
   simp[this]
  ·rfl
def xl {kindOf:Str->Option NameKind}{x:Str}:∀{binds:List (Str×af)}{m:Str->Option af},(∀v,(x,v)∉binds)->bindC kindOf binds m x=m x
 | [],_,_=>rfl
 |(n,v)::r,m,h=>by
  unfold bindC
  rw[xl fun w hw=>h w (cm _ hw)]
  split
  ·rfl
  ·have:x≠n:=by rintro rfl;exact h v cf
   simp[this]
def xn {kindOf:Str->Option NameKind}{x:Str}{v:af}:∀{P:List Str}{vs:List af}{i:Nat}{m:Str->Option af},P.Nodup->P[i]?=some x->vs[i]?=some v->kindOf x=some .local->
  bindL kindOf (P.zip vs) m x=some v
 | [],_,_,_,_,h,_,_=>by simp at h
 |_::_,[],_,_,_,_,h,_=>by simp at h
 |p::P,w::vs,0,m,nd,h1,h2,hk=>by
  simp at h1 h2;subst h1;subst h2
  show bindL kindOf ((p,w)::P.zip vs) m p=_
  unfold bindL
  rw[xk fun v hv=>(iN.mp nd).1 (ue hv).1,aP hk]
  simp
 |p::P,w::vs,i+1,m,nd,h1,h2,hk=>by
  show bindL kindOf ((p,w)::P.zip vs) m x=_
  unfold bindL
  exact xn (i:=i) (iN.mp nd).2 (by simpa using h1) (by simpa using h2) hk
def xo {kindOf:Str->Option NameKind}{x:Str}{v:af}:∀{P:List Str}{vs:List af}{i:Nat}{m:Str->Option af},P.Nodup->P[i]?=some x->vs[i]?=some v->kindOf x≠some .local->
  bindC kindOf (P.zip vs) m x=some v
 | [],_,_,_,_,h,_,_=>by simp at h
 |_::_,[],_,_,_,_,h,_=>by simp at h
 |p::P,w::vs,0,m,nd,h1,h2,hk=>by
  simp at h1 h2;subst h1;subst h2
  show bindC kindOf ((p,w)::P.zip vs) m p=_
  unfold bindC
  rw[xl fun v hv=>(iN.mp nd).1 (ue hv).1,aO hk]
  simp
 |p::P,w::vs,i+1,m,nd,h1,h2,hk=>by
  show bindC kindOf ((p,w)::P.zip vs) m x=_
  unfold bindC
  exact xo (i:=i) (iN.mp nd).2 (by simpa using h1) (by simpa using h2) hk
def start (N:List Str) (vs:List V):St:=vs.map some++List.replicate (N.length-vs.length) none
def eU (CX:EW) (P:aF) (w:ba) (K:PySem.W.Frag) (mg:Str->Option af) (base:Heap) (N:List Str) (qual:Str) (scope:Scope) (f:ah) (cd:af) (A:aQ) (outer:List Env) (s:ai) (H:Hp) (E:XK):Cx where
 prog:=P
 w:=w
 K:=K
 mg:=mg
 base:=base
 A:=A.deeper (envOfC qual scope s.heap.objs.size f cd)
 N:=N
 gG:=s
 Bf:=H
 env:=envOfC qual scope s.heap.objs.size f cd
 outer:=outer
 stack:=envOfC qual scope s.heap.objs.size f cd::outer
 ex:=[]
 calm:=true
 fn:=fun _=>true
 pn:=[]
 xe:=fun e s'=>wpAny (model P w) (A.deeper (envOfC qual scope s.heap.objs.size f cd)) (leaving (envOfC qual scope s.heap.objs.size f cd) e) (fun _ Wm=>CX outer H s E e Wm) (fun e' Wm=>CX outer H s E e' Wm) s'
def zF {sc:Scope}{n:Nat}{x:Str}(h:sc.names.lookup x=some .cell):∃c,(cellsFrom n sc.names []).lookup x=some c:=by
 have q:=tO sc.names n [] (.inl h)
 exact hX.mp q
def xq {CX:EW}{P:aF}{w:ba}{K:PySem.W.Frag}{mg:Str->Option af}{base:Heap}{N ps:List Str}{qual:Str}{scope:Scope}{f:ah}{cd:af}{A:aQ}{outer:List Env}{s s1:ai}{H:Hp}{E:XK}{us:List af}{vs:List V}
  (S:bV N ps scope) (hd:A.handled=none) (e0:tX P w K mg base A outer s H) (hl:vs.length=ps.length) (r:cy vs us)
  (x:InCallC s s.heap.objs.size (bindL (envOfC qual scope s.heap.objs.size f cd).kindOf (ps.zip us) fun _=>none) (cellsFrom (s.heap.objs.size+1) scope.names []) (bindC (envOfC qual scope s.heap.objs.size f cd).kindOf (ps.zip us) fun _=>none) s1):
  Inv (eU CX P w K mg base N qual scope f cd A outer s H E) [] (start N vs) H s1:=by
 have jZ:ps.length<=N.length:=by have:=iM List.length S.pre;rw[fh] at this;omega
 obtain⟨h1,tk,rfl,hk⟩:=x.done
 have R0:∀b:ah,b∉(eU CX P w K mg base N qual scope f cd A outer s H E).ex:=fun b z=>absurd (show b∈([]:List ah) from z) (by simp)
 refine⟨⟨e0.mod,S.kind,rfl,rfl,aB _,fun y z c h1 h2=>?_,fun y hy=>?_,fun y c _ h=>?_,fun _=>hd,Around.frames_deeper e0.frames,.inr ⟨rfl,rfl⟩,fun b z=>absurd z (R0 b),e0.bs,e0.Bg,fun b _ _=>R0 b,fun b z=>absurd z (R0 b),e0.mf,e0.C4⟩,
  rfl,e0.bare,Un.kept hk,⟨_,x.toInCall.ns,fun i y v h1 h2 h3=>?_⟩,fun y c h=>⟨_,x.cell y c h⟩,e0.eE.fresh (aB _),fun y c h=>?_,fun p hp=>absurd (show p∈([]:List (ah×Obj)) from hp) (by simp),e0.eE.kept hk,?_⟩
 ·exact name_of_addr x.apart (gi h1) (gi h2)
 ·have hy:scope.names.lookup y=some .cell\/scope.names.lookup y=some .free:=hy
  rcases hy with hy|hy
  ·exact zF hy
  ·exact absurd rfl (S.NP _ (gi hy))
 ·exact eM (x.above y c (gi h))
 ·have hi:i<vs.length:=by
   unfold start at h2
   by_cases hi:i<vs.length
   ·exact hi
   ·rw[JX (by simpa using hi)] at h2
    rw[rL] at h2
    split at h2<;>cases h2
  have ha:vs[i]?=some v:=by
   unfold start at h2
   rw[Mf (by simpa using hi),bX] at h2
   cases e:vs[i]? with
   |none=>rw[e] at h2;cases h2
   |some a=>rw[e] at h2;cases h2;rfl
  obtain⟨u,hu,rv⟩:=r.get ha
  have hp:ps[i]?=some y:=by
   rw[<-S.pre,List.getElem?_take_of_lt (by omega)];exact h1
  have ZL:ps.Nodup:=by rw[<-S.pre];exact S.nd.sublist (qw _ _)
  refine⟨u,rv,?_⟩
  rcases S.par y (mG hp) with k|k
  ·exact .inl ⟨k,xn ZL hp hu k⟩
  ·obtain⟨c,e⟩:=zF (n:=s.heap.objs.size+1) k
   refine .inr ⟨.inl k,c,e,?_⟩
   have q:=x.cell y c e
   rw[xo ZL hp hu (by show scope.names.lookup y≠_;rw[k];decide)] at q
   exact q
 ·exact e0.eE.fresh (eM (x.above y c (gi h)))
 ·unfold start
  show _=N.length
  rw[aK,aq,gC]
  omega
def Mr {CX:EW}{P:aF}{w:ba}{K:PySem.W.Frag}{mg:Str->Option af}{base:Heap}{k:Nat}{f:ah}{name qual:Str}{params:Arguments}{body:List Stmt}{scope:Scope}{dV kV doc pm cdv ct oc:af}{an od:Option ah}
  {rZ:Array (Option af)} {N ps:List Str} {sp:Sp} (lk:K.lookup f=some ⟨oc,od,.func (PySem.W.fnOf name qual params body scope dV kV doc pm an cdv ct),rZ⟩) (Bh:PySem.W.codeIn K cdv qual=true) (S:bV N ps scope)
  (len:∀vs H Q E,sp vs H Q E->vs.length=ps.length)
  (uU:∀(A:aQ) (outer:List Env) (s:ai) (H:Hp) (vs:List V) (Q:VK) (E:XK),eK k (A.deeper (envOfC qual scope s.heap.objs.size f cdv))->sp vs H Q E->
   ∃t,wz (eU CX P w K mg base N qual scope f cdv A outer s H E) body t/\t {nx:=fun _ H'=>Q .eA H',rt:=Q} (start N vs) H):
  dO P w K mg base CX (k+1) f (PySem.W.fnOf name qual params body scope dV kV doc pm an cdv ct) ps sp:=by
 refine⟨len,fun A outer s H args us vs Q E hr e0 hb r EZ=>?_⟩
 have hl:=len _ _ _ _ EZ
 have KX:K.In s.heap:=e0.mod.pI.keeps fun b o e=>(e0.bs b o e).1
 have lim:s.heap.NoLimit:=e0.mod.nolimit.keeps fun b o e=>(e0.bs b o e).1
 have R1:∀y∈ps.zip us,scope.names.lookup y.1=some .local\/(scope.names.lookup y.1=some .cell/\((cellsFrom (s.heap.objs.size+1) scope.names []).lookup y.1).isSome=true):=fun⟨n,v⟩ hy=>by
  rcases S.par n (ue hy).1 with q|q
  ·exact .inl q
  ·exact .inr ⟨q,tO _ _ _ (.inl q)⟩
 refine codeAny_call_function hr.depth (KX _ _ lk) rfl S.co S.gen rfl (PySem.W.codeRec_of KX Bh) (hb _ _ _ _ ?_)
 refine wpAny_newFunctionEnv_cells S.kind R1 fun env he s1 x=>?_
 subst he
 refine⟨lim.keeps x.toInCall.keep,codeAny_func ?_⟩
 obtain⟨t,ht,hq⟩:=uU A outer s H vs Q E (hr.deeper _) EZ
 have I:Inv (eU CX P w K mg base N qual scope f cdv A outer s H E) [] (start N vs) H s1:=xq S hr.hd e0 hl r x
 refine bK (ht [] s1 (start N vs) H _ I hq) (fun fl s' hs=>?_) fun e s' hs=>hs
 have fin:∀{bW:St} {H':Hp} {v:V} {u:af},Inv (eU CX P w K mg base N qual scope f cdv A outer s H E) [] bW H' s'->RelV v u->Q v H'->CE outer P w H s Q u s':=
  fun{bW H' v u} J rv q=>⟨v,H',J.os,J.bare,J.base,J.eE,rv,q⟩
 cases fl with
 |ret u=>
  obtain⟨v,bW,H',J,rv,q⟩:=hs
  exact fin J rv q
 |next=>
  obtain⟨bW,H',J,q⟩:=hs
  exact fin (v:=V.eA) (u:=Value.none) J rfl q
 |brk=>
  obtain⟨_,_,_,q⟩:=hs
  exact False.elim q
 |cont=>
  obtain⟨_,_,_,q⟩:=hs
  exact False.elim q
section
variable {X:Cx}{x:Str}{p pos:Pos}{e:Expr}{es:List Expr}{t:TA}{id T:String}{r:List V->Hp->VK->Prop}
def Q3 (r:List V->Hp->VK->Prop) (t:TA):TE:=fun σ H Q=>t σ H fun vs H1=>r vs H1 Q
def aR (hc:gE X (.builtin id) r) (hg:Gl X x) (hm:X.mg x=none) (hv:bootBuiltins x=some (.builtin id)) (ha:PA X (e::es) t) (hn:x≠"__name__":=by decide) (pX:(x==("__debug__":Str))=false:=by decide)
  (he:starEach (e::es) X.env=(false,eval e X.env)::starEach es X.env:=by rfl) (jZ:(backTo pos (starEach es X.env)).any (·.1)=false:=by rfl):PE X (.Call (.Name x p) (e::es) [] pos) (Q3 r t):=by
 intro pins s σ H Q I h
 refine fV (pU I hg hm hv ?_ hn pX)
 exact PyProof.Rows.callWith_builtin1 (e_ (ha pos pins s σ H _ I h) fun us s1 ⟨vs,H1,I1,r1,q1⟩=>hc pins s1 σ H1 vs us Q I1 r1 q1) he jZ
def fE (hc:gE X (.type T) r) (hg:Gl X x) (hm:X.mg x=none) (hv:bootBuiltins x=some (.type T)) (ha:PA X (e::es) t) (hn:x≠"__name__":=by decide) (pX:(x==("__debug__":Str))=false:=by decide)
  (he:starEach (e::es) X.env=(false,eval e X.env)::starEach es X.env:=by rfl) (jZ:(backTo pos (starEach es X.env)).any (·.1)=false:=by rfl):PE X (.Call (.Name x p) (e::es) [] pos) (Q3 r t):=by
 intro pins s σ H Q I h
 refine fV (pU I hg hm hv ?_ hn pX)
 exact gk (e_ (ha pos pins s σ H _ I h) fun us s1 ⟨vs,H1,I1,r1,q1⟩=>hc pins s1 σ H1 vs us Q I1 r1 q1) he jZ
end
end L2
namespace HT
open PySem PyProof.Rows
section
open PySem.SeqAt
open PySem.AutoSeq1 (wpAny_loadPart')
open PySem.MeetsSeq PySem.MeetsSeq2 PySem.MeetsSeq3
end
section
variable {prog:aF}{w:ba}{A:aQ}{E:af->ai->Prop}{s:ai}
def Ko {t b:ah}{vs ws:List af}{Q:af->ai->Prop}(ht:IsTup s.heap t vs.toArray) (hb:IsTup s.heap b ws.toArray) (hv:vs≠[])
  (h1:ws=[]->Q (.ref t) s) (h2:ws≠[]->Q (.ref s.heap.objs.size) {s with heap:=s.heap.push {cls:=.type "tuple",data:=.seq (vs++ws).toArray}})
  (hsz:vs.length+ws.length<=sizeLine):wpAny (model prog w) A (binaryOp .Add (.ref t) (.ref b)) Q E s:=by
 obtain⟨⟨cls,dd,data,sl⟩,ho,hc,n,hd⟩:=id ht
 obtain⟨⟨Wn,Vj,data2,Q4⟩,Kp,Kq,n2,hd2⟩:=id hb
 simp only at hc hd Kq hd2
 subst hc hd Kq hd2
 have e:vs.toArray++ws.toArray=(vs++ws).toArray:=by simp
 by_cases hw:ws=[]
 ·exact concat_meets ⟨_,ho,rfl⟩ ⟨_,Kp,rfl⟩ Nk seq_tuple_add tP rM (qF _ _)
   (tuple_addW1 t b vs.toArray ws.toArray n n2 dd Vj sl Q4 (by simpa using hv) (by simp[hw])) ⟨ho,Kp,h1 hw⟩
 ·refine concat_meets ⟨_,ho,rfl⟩ ⟨_,Kp,rfl⟩ Nk seq_tuple_add tP rM (qF _ _)
   (tuple_addW2 t b vs.toArray ws.toArray n n2 dd Vj sl Q4 (by simpa using hv) (by simpa using hw) (by rw[aI,aI];exact hsz)) ⟨ho,Kp,?_⟩
  rw[e]
  exact h2 hw
def hZ (n d:Nat):Option Int->Nat
 |none=>d
 |some v=>if v<0 then(v+(n:Int)).toNat else min v.toNat n
def qQ (n d:Nat):hZ n d none=d:=rfl
def lh (n d k:Nat):hZ n d (some (k:Int))=min k n:=by
 show(if(k:Int)<0 then((k:Int)+(n:Int)).toNat else min (k:Int).toNat n)=min k n
 rw[aO (by omega),jd]
def NQ (n d:Nat) (hd:d<=n) (o:Option Int):hZ n d o<=n:=by
 cases o with
 |none=>exact hd
 |some v=>
  show(if v<0 then(v+(n:Int)).toNat else min v.toNat n)<=n
  by_cases hv:v<0
  ·rw[aP hv];omega
  ·rw[aO hv];exact Nat.min_le_right _ _
def Dm (v:Int) (n d:Nat):(if v<0 then max (v+(n:Int)) 0 else min v (n:Int))=((hZ n d (some v):Nat):Int):=by
 show(if v<0 then max (v+(n:Int)) 0 else min v (n:Int))=(((if v<0 then(v+(n:Int)).toNat else min v.toNat n):Nat):Int)
 by_cases hv:v<0
 ·simp only[aP hv];omega
 ·simp only[aO hv];omega
def Bv (lo hi:Option Int) (n:Nat):Builtin.Slice.sliceAdjust lo hi 1 (n:Int)=(((hZ n 0 lo:Nat):Int),((hZ n n hi:Nat):Int)):=by
 have h1:¬((1:Int)<0):=by omega
 unfold Builtin.Slice.sliceAdjust
 simp only[h1,jT]
 refine Prod.ext ?_ ?_
 ·cases lo with
  |none=>rfl
  |some v=>exact Dm v n 0
 ·cases hi with
  |none=>rfl
  |some v=>exact Dm v n n
def Bw (i j:Nat):Builtin.Slice.slicePlaces (i:Int) (j:Int) 1=j-i:=by
 unfold Builtin.Slice.slicePlaces
 have h1:(1:Int)>0:=by omega
 simp only[h1,j9,Int.ediv_one]
 split<;>omega
def pY {v:af}{o:Option Int}{Q:Option Int->ai->Prop}(p:IsPart v o) (h:Q o s):wpAny (model prog w) A (Builtin.Slice.slicePartIndex v) Q E s:=by
 cases p with
 |none=>exact Mg h
 |int i t=>exact slicePart_int h
def mv {sl:ah}{vl vu:af}{lo hi:Option Int}{n:Nat}{Q:Int×Int×Nat->ai->Prop}(hs:s.heap.IsSliceOf sl vl vu .none) (pl:IsPart vl lo) (pu:IsPart vu hi)
  (h:Q (((hZ n 0 lo:Nat):Int),1,hZ n n hi-hZ n 0 lo) s):wpAny (model prog w) A (Builtin.Slice.sliceApplied (.ref sl) (pure (n:Int))) Q E s:=by
 obtain⟨os,NR,Vk,R3⟩:=id hs
 unfold Builtin.Slice.sliceApplied Builtin.Slice.sliceFields
 refine aa (aa (bJ NR R3 (x:=vl) rfl (aa (bJ NR R3 (x:=vu) rfl (aa (bJ NR R3 (x:=.none) rfl (ak ?_)))))))
 refine aa (Mg ?_)
 show wpAny _ _ (if((1:Int)==0)=true then _ else _) _ _ s
 rw[aO (by decide)]
 refine aa (pY pl (aa (pY pu (aa (ak ?_)))))
 show wpAny _ _ (match Builtin.Slice.sliceAdjust lo hi 1 (n:Int) with|(lo,hi)=>pure (lo,(1:Int),Builtin.Slice.slicePlaces lo hi 1)) _ _ s
 rw[Bv lo hi n]
 show wpAny _ _ (pure (((hZ n 0 lo:Nat):Int),(1:Int),Builtin.Slice.slicePlaces ((hZ n 0 lo:Nat):Int) ((hZ n n hi:Nat):Int) 1)) _ _ s
 rw[Bw]
 exact ak h
def GX (xs:Array af) (i k:Nat):((List.range k).filterMap fun(m:Nat)=>xs[((i:Int)+(m:Int)*1).toNat]?).toArray=((xs.toList.drop i).take k).toArray:=by
 have e:(fun(m:Nat)=>xs[((i:Int)+(m:Int)*1).toNat]?)=fun m=>xs[i+m]?:=by
  funext m
  have:((i:Int)+(m:Int)*1).toNat=i+m:=by omega
  rw[this]
 rw[e]
 have:=pick_run xs i k
 rw[List.filterMap_map] at this
 have e2:((fun x=>xs[x]?)∘fun x=>i+x)=fun m=>xs[i+m]?:=rfl
 rw[e2] at this
 rw[this]
def qR {t sl:ah}{items:Array af}{vl vu:af}{lo hi:Option Int}{Q:af->ai->Prop}(ht:IsTup s.heap t items) (hs:s.heap.IsSliceOf sl vl vu .none) (pl:IsPart vl lo) (pu:IsPart vu hi)
  (hw:¬(hZ items.size 0 lo=0/\hZ items.size items.size hi=items.size))
  (h:Q (.ref s.heap.objs.size) {s with heap:=s.heap.push {cls:=.type "tuple",data:=.seq ((items.toList.drop (hZ items.size 0 lo)).take (hZ items.size items.size hi-hZ items.size 0 lo)).toArray}})
  (hsz:items.size<=sizeLine):wpAny (model prog w) A (getItem (.ref t) (.ref sl)) Q E s:=by
 have Dn:sizeOk (.seq ((items.toList.drop (hZ items.size 0 lo)).take (hZ items.size items.size hi-hZ items.size 0 lo)).toArray):=by
  show((items.toList.drop (hZ items.size 0 lo)).take (hZ items.size items.size hi-hZ items.size 0 lo)).toArray.size<=sizeLine
  rw[aI,fh,dB,gg]
  omega
 have hj:hZ items.size items.size hi<=items.size:=NQ _ _ (aB _) hi
 obtain⟨os,NR,Vk,R3⟩:=id hs
 have Wo:s.TypeIs (.ref sl) "slice":=⟨os,NR,Vk⟩
 unfold getItem
 try with_reducible refine cM ?_
 first|refine aa (ak ?_)|skip
 refine aa (JY ht.typeIs (by decide) ?_)
 refine aa (cG (name:=Str.ofString "__getitem__") ht.typeIs cD
  (dH cD ht.typeIs entry_tuple_getitem ?_ (args_tuple_getitem _ _)))
 show wpAny _ _ (Builtin.Tuple.tupleItemsOf (.ref t)>>=_) _ _ s
 refine aa (tupleItemsOf_ ht ?_)
 refine aa (qG Wo ?_)
 rw[aP (by decide)]
 refine aa (mv hs pl pu ?_)
 have NS:¬((((hZ items.size 0 lo:Nat):Int)==0&&(1:Int)==1&&(hZ items.size items.size hi-hZ items.size 0 lo)==items.size)=true):=by
  intro q
  rw[cI,cI] at q
  have q1:((hZ items.size 0 lo:Nat):Int)=0:=eq_of_beq q.1.1
  have q2:hZ items.size items.size hi-hZ items.size 0 lo=items.size:=eq_of_beq q.2
  exact hw ⟨by omega,by omega⟩
 show wpAny _ _ (if(((hZ items.size 0 lo:Nat):Int)==0&&(1:Int)==1&&(hZ items.size items.size hi-hZ items.size 0 lo)==items.size)=true then _ else _) _ _ s
 rw[aO NS,GX]
 first
  |exact aa (m:=Builtin.Tuple.tupleExact _) (bD (ak ⟨_,rfl,ak h⟩) Dn)
  |exact aa (m:=Builtin.Tuple.tupleExact _) (bD (aa (ak (ak ⟨_,rfl,ak h⟩))) Dn)
  |exact aa (aa (m:=Builtin.Tuple.tupleExact _) (bD (ak (ak ⟨_,rfl,ak h⟩)) Dn))
  |exact aa (aa (m:=Builtin.Tuple.tupleExact _) (bD (ak ⟨_,rfl,ak h⟩) Dn))
end
end HT
namespace L2
open PySem PySem.Spec PyProof.Rows
abbrev TO:=St->Hp->(Option Int->Hp->Prop)->Prop
def PO (X:Cx) (e:Option Expr) (t:TO):Prop:=
 ∀(pins:List (ah×Obj)) (s:ai) (σ:St) (H:Hp) (Q:Option Int->Hp->Prop),Inv X pins σ H s->t σ H Q->
  wpAny (model X.prog X.w) X.A (evalPart e X.env) (fun u s'=>∃o H',Inv X pins σ H' s'/\IsPart u o/\Q o H') X.xe s
def qS:TO:=fun _ H Q=>Q none H
def zG (t:TE):TO:=fun σ H Q=>t σ H fun x H1=>∃i,x=.int i/\Q (some i) H1
section
variable {X:Cx}{e:Expr}{te:TE}{lo hi:Option Expr}{tl th:TO}{pos p2:Pos}
def jk:PO X none qS:=by
 intro pins s σ H Q I h
 rw[evalPart_none]
 exact ak ⟨none,H,I,.none,h⟩
def iu (h:PE X e te):PO X (some e) (zG te):=by
 intro pins s σ H Q I hw
 rw[evalPart_some]
 refine e_ (h pins s σ H _ I hw) fun u s1 ⟨x,H1,I1,r1,q1⟩=>?_
 obtain⟨i,rfl,q⟩:=q1
 obtain⟨t,rfl⟩:=r1
 exact⟨some i,H1,I1,.int i t,q⟩
def Vl (X:Cx) (r:V->Option Int->Option Int->Hp->VK->Prop):Prop:=
 ∀(pins:List (ah×Obj)) (s:ai) (σ:St) (H:Hp) (x:V) (v vl vu:af) (lo hi:Option Int) (sl:ah) (Q:VK),Inv X pins σ H s->RelV x v->s.heap.IsSliceOf sl vl vu .none->IsPart vl lo->IsPart vu hi->r x lo hi H Q->
  ∃T id,typeLookup (.type T) "__getitem__"=pure (some (.builtin id))/\s.TypeIs v T/\wpAny (model X.prog X.w) X.A (getItem v (.ref sl)) (EP X pins σ Q) X.xe s
def R4 (r:V->Option Int->Option Int->Hp->VK->Prop) (te:TE) (tl th:TO):TE:=fun σ H Q=>te σ H fun x H1=>tl σ H1 fun l H2=>th σ H2 fun u H3=>r x l u H3 Q
def gQ {r:V->Option Int->Option Int->Hp->VK->Prop}(hr:Vl X r) (he:PE X e te) (hl:PO X lo tl) (hu:PO X hi th):PE X (.Subscript e (.Slice lo hi none p2) pos) (R4 r te tl th):=by
 intro pins s σ H Q I h
 refine Subscript_ (e_ (he pins s σ H _ I h) fun v s1 ⟨x,H1,I1,r1,q1⟩=>?_)
 refine wpAny_Slice (e_ (hl pins s1 σ H1 _ I1 q1) fun vl s2 ⟨l,H2,I2,pl,q2⟩=>e_ (hu pins s2 σ H2 _ I2 q2) fun vu s3 ⟨u,H3,I3,pu,q3⟩=>?_)
 rw[evalPart_none]
 refine ak ?_
 have I4:Inv X pins σ H3 {s3 with heap:=s3.heap.push {cls:=.type "slice",data:=.fields #[vl,vu,.none]}}:=I3.kept (t':=s3.toks) fun b ob q=>ag _ q
 obtain⟨T,id,hT,ht,hg⟩:=hr pins {s3 with heap:=s3.heap.push {cls:=.type "slice",data:=.fields #[vl,vu,.none]}} σ H3 x v vl vu l u s3.heap.objs.size Q I4 r1 (Heap.IsSliceOf.new ..) pl pu q3
 show wpAny (model X.prog X.w) X.A (subscriptTail e (.Slice lo hi none p2) v (.ref s3.heap.objs.size)) (EP X pins σ Q) X.xe {s3 with heap:=s3.heap.push {cls:=.type "slice",data:=.fields #[vl,vu,.none]}}
 exact tail_any (ops:=[.ref s3.heap.objs.size,v]) ht hT hg (by with_unfolding_all rfl)
def iU (xs:List V) (lo hi:Option Int):List V:=(xs.drop (HT.hZ xs.length 0 lo)).take (HT.hZ xs.length xs.length hi-HT.hZ xs.length 0 lo)
def sY (xs:List V) (lo hi:Option Int):(iU xs lo hi).length<=xs.length:=by
 unfold iU
 rw[fh,dB]
 omega
def Wp (K:PySem.W.Frag):V->Option Int->Option Int->Hp->VK->Prop:=fun x lo hi H Q=>∃a xs,x=.ref a/\bY K H a xs/\
 ¬(HT.hZ xs.length 0 lo=0/\HT.hZ xs.length xs.length hi=xs.length)/\∀p,H p=none->Q (.ref p) (upd H p (.tup (iU xs lo hi)))
def yf:Vl X (Wp X.K):=by
 intro pins s σ H x v vl vu lo hi sl Q I rx hs pl pu h
 obtain⟨a,xs,rfl,hx,hw,q⟩:=h
 cases rx
 obtain⟨cE,r,ht,hz⟩:=I.tuple hx
 have hlen:cE.toArray.size=xs.length:=by rw[aI];exact r.length.symm
 refine⟨"tuple",_,cD.lookup,ht.typeIs,?_⟩
 refine HT.qR ht hs pl pu (by rw[hlen];exact hw) ?_ (by rw[hlen];exact hz)
 rw[hlen]
 refine⟨.ref s.heap.objs.size,_,I.laid (t':=s.toks) (o:=.tup (iU xs lo hi)) (fun b ob q=>ag _ q) (aB _) ?_,rfl,q _ (I.eE.fresh (aB _))⟩
 exact⟨bh (sY xs lo hi) hz,_,(r.drop (HT.hZ xs.length 0 lo)).take (HT.hZ xs.length xs.length hi-HT.hZ xs.length 0 lo),uO.new _ _⟩
def GY (K:PySem.W.Frag):R2:=fun x y H Q=>∃a b xs ys,x=.ref a/\y=.ref b/\bY K H a xs/\bY K H b ys/\xs≠[]/\xs.length+ys.length<=sizeLine/\
 (ys=[]->Q (.ref a) H)/\(ys≠[]->∀p,H p=none->Q (.ref p) (upd H p (.tup (xs++ys))))
def cy.yg {xs:List V}{us:List af}(r:cy xs us):us=[]↔xs=[]:=by
 cases r with
 |nil=>simp
 |cons _ _=>simp
def lj:lg X (binaryOp .Add) (GY X.K):=by
 intro pins s σ H x y v u Q I rx ry h
 obtain⟨a,b,xs,ys,rfl,rfl,ha,hb,hx,hz,q1,q2⟩:=h
 cases rx
 cases ry
 obtain⟨cE,r1,p1,_⟩:=I.tuple ha
 obtain⟨kX,r2,p2,_⟩:=I.tuple hb
 refine HT.Ko p1 p2 (fun z=>hx (r1.yg.mp z)) (fun z=>⟨.ref a,H,I,rfl,q1 (r2.yg.mp z)⟩) (fun z=>?_) (by rw[<-r1.length,<-r2.length];exact hz)
 refine⟨.ref s.heap.objs.size,_,I.laid (t':=s.toks) (o:=.tup (xs++ys)) (fun b ob q=>ag _ q) (aB _) ?_,rfl,q2 (fun w=>z (r2.yg.mpr w)) _ (I.eE.fresh (aB _))⟩
 exact⟨by rw[aK];exact hz,_,r1.append r2,uO.new _ _⟩
end
def JQ (n:Nat) (i:Int):Option Nat:=if 0<=i then(if i<n then some i.toNat else none) else if-(n:Int)<=i then some (i+n).toNat else none
def qT {α:Type}(xs:List α) (i:Int):Option α:=(JQ xs.length i).bind fun j=>xs[j]?
def Dp {n:Nat}{i:Int}{j:Nat}(h:JQ n i=some j):seqIndex? i n=some j/\j<n/\-(n:Int)<=i/\i<n:=by
 unfold JQ at h
 by_cases h0:0<=i
 ·rw[aP h0] at h
  by_cases h1:i<n
  ·rw[aP h1] at h
   have e:i.toNat=j:=cK h
   exact⟨by rw[seqIndex_of h0 h1,e],by omega,by omega,h1⟩
  ·rw[aO h1] at h;cases h
 ·rw[aO h0] at h
  by_cases h1:-(n:Int)<=i
  ·rw[aP h1] at h
   have e:(i+n).toNat=j:=cK h
   exact⟨by rw[seqIndex_neg (by omega) h1,e],by omega,h1,by omega⟩
  ·rw[aO h1] at h;cases h
def Dq {α:Type}{xs:List α}{i:Int}{v:α}(h:qT xs i=some v):∃j,seqIndex? i xs.length=some j/\xs[j]?=some v/\j<xs.length/\-(xs.length:Int)<=i/\i<xs.length:=by
 unfold qT at h
 cases e:JQ xs.length i with
 |none=>rw[e] at h;cases h
 |some j=>
  rw[e] at h
  obtain⟨h1,h2,h3,h4⟩:=Dp e
  exact⟨j,h1,h,h2,h3,h4⟩
def aT {α:Type}{xs:List α}{j:Nat}{v:α}(h:xs[j]?=some v):qT xs (j:Int)=some v:=by
 have hj:j<xs.length:=(bw.mp h).1
 have e:JQ xs.length (j:Int)=some j:=by
  unfold JQ
  rw[aP (by omega),aP (by omega)];simp
 unfold qT;rw[e];exact h
def kK {α:Type}(xs:List α) (v:α):qT (xs++ [v]) (-1)=some v:=by
 have hl:(xs++ [v]).length=xs.length+1:=by simp
 have e:JQ (xs++ [v]).length (-1)=some xs.length:=by
  unfold JQ
  rw[hl,aO (by decide),aP (by omega)]
  congr 1
  omega
 unfold qT
 rw[e]
 show(xs++ [v])[xs.length]?=some v
 simp
def Kr (b:Expr):Prop:=∀o i,subscripted b false o i=operate [o,i] (getItem o i)
def Wq (X:Cx) (r:R2):Prop:=
 ∀(value slice:Expr) (pins:List (ah×Obj)) (s:ai) (σ:St) (H:Hp) (x y:V) (v u:af) (Q:VK),Inv X pins σ H s->RelV x v->RelV y u->r x y H Q->
  subscripted slice false v u=operate [v,u] (getItem v u)->wpAny (model X.prog X.w) X.A (subscriptTail value slice v u) (EP X pins σ Q) X.xe s
def Wr (X:Cx) (id:String) (r:V->List V->Hp->VK->Prop):Prop:=
 ∀(pins:List (ah×Obj)) (s:ai) (σ:St) (H:Hp) (x:V) (xs:List V) (v:af) (us:List af) (Q:VK),Inv X pins σ H s->RelV x v->cy xs us->r x xs H Q->
  wpAny (model X.prog X.w) X.A (call (.builtin id) (v::us)) (EP X pins σ Q) X.xe s
section
variable {X:Cx}{a b:Expr}{ta tb:TE}{pos:Pos}
def bg {r:R2}(hr:Wq X r) (ha:PE X a ta) (hb:PE X b tb) (hs:Kr b:=by intro _ _;rfl):PE X (.Subscript a b pos) (gI r ta tb):=by
 intro pins s σ H Q I h
 exact Subscript_ (NL ha hb I h fun v u s2 x y H2 I2 rx ry q=>hr a b pins s2 σ H2 x y v u Q I2 rx ry q (hs _ _))
def NT (K:PySem.W.Frag):R2:=fun x y H Q=>∃p xs i v,x=.ref p/\y=.int i/\cS K H p xs/\qT xs i=some v/\Q v H
def fZ (K:PySem.W.Frag):R2:=fun x y H Q=>∃p xs i v,x=.ref p/\y=.int i/\bY K H p xs/\qT xs i=some v/\Q v H
def cU:Wq X (NT X.K):=by
 intro value slice pins s σ H x y v u Q I rx ry h hs
 obtain⟨p,xs,i,z,rfl,rfl,hq,he,q⟩:=h
 cases rx
 obtain⟨t,rfl⟩:=ry
 obtain⟨cE,r,pl,hz⟩:=I.list hq
 obtain⟨j,h1,h2,h3,h4,h5⟩:=Dq he
 obtain⟨w,ew,EM⟩:=r.get h2
 have hl:=r.length
 have hn:=rW
 have fin:EP X pins σ Q w s:=⟨z,H,I,EM,q⟩
 by_cases h0:0<=i
 ·have hj:i.toNat=j:=by
   rw[seqIndex_of h0 h5] at h1
   exact cK h1
  exact item_listR pl.isList h0 (by omega) (by rw[hj];simpa using ew) fin hs
 ·have hj:(i+(cE.toArray.size:Int)).toNat=j:=by
   rw[seqIndex_neg (by omega) h4] at h1
   rw[aI,<-hl]
   exact cK h1
  exact subscriptTail_builtinR (x:=w) pl.isList.typeIs slot_list_getitem.lookup
   (wpAny_getItem_list_neg (Q:=fun r s'=>r=w/\EP X pins σ Q r s') pl.isList (by omega) (by rw[aI]<;>omega) (by omega) (by rw[hj];simpa using ew) ⟨rfl,fin⟩) hs
def bx:Wq X (fZ X.K):=by
 intro value slice pins s σ H x y v u Q I rx ry h hs
 obtain⟨p,xs,i,z,rfl,rfl,hq,he,q⟩:=h
 cases rx
 obtain⟨t,rfl⟩:=ry
 obtain⟨cE,r,pl,hz⟩:=I.tuple hq
 obtain⟨j,h1,h2,h3,h4,h5⟩:=Dq he
 obtain⟨w,ew,EM⟩:=r.get h2
 have hl:=r.length
 have hn:=rW
 have fin:EP X pins σ Q w s:=⟨z,H,I,EM,q⟩
 exact subscriptTail_builtinR (x:=w) pl.typeIs slot_tuple_getitem.lookup
  (getItem_tuple (j:=j) (Q:=fun r s'=>r=w/\EP X pins σ Q r s') pl (by omega) (by omega) (by rw[aI,<-hl];exact h1) (by simpa using ew) ⟨rfl,fin⟩) hs
def Bx (cE:List af) (n j:Nat) (u:af):Obj.mapSeq (·.setIfInBounds j u) {cls:=.type "list",data:=.seq cE.toArray n}={cls:=.type "list",data:=.seq (cE.set j u).toArray n}:=by
 simp[Obj.mapSeq]
def Inv.lst {pins:List (ah×Obj)}{σ:St}{H:Hp}{s:ai}{p:ah}{xs:List V}(I:Inv X pins σ H s) (h:H p=some (.lst xs)):
  ∃(cE:List af) (n:Nat),cy xs cE/\s.heap.get? p=some {cls:=.type "list",data:=.seq cE.toArray n}/\xs.length<=sizeLine:=by
 obtain⟨z,cE,n,r,e⟩:=I.eE p _ h
 exact⟨cE,n,r,e,z⟩
def Inv.NU {pins:List (ah×Obj)}{σ:St}{H:Hp}{s:ai}{p:ah}{xs ys:List V}{cE its':List af}{n n':Nat}{f:Obj->Obj}(I:Inv X pins σ H s) (h:H p=some (.lst xs))
  (ho:s.heap.get? p=some {cls:=.type "list",data:=.seq cE.toArray n}) (hf:f {cls:=.type "list",data:=.seq cE.toArray n}={cls:=.type "list",data:=.seq its'.toArray n'}) (r:cy ys its') (hz:ys.length<=sizeLine) (t:Nat):
  Inv X pins σ (upd H p (.lst ys)) {s with heap:=s.heap.update p f,toks:=t}:=by
 have e:(s.heap.update p f).get? p=some {cls:=.type "list",data:=.seq its'.toArray n'}:=by
  rw[cV f ho (by rw[hf]<;>rfl),hf]
 refine I.write (x:=p) (e:=p) (by rw[h];trivial) (.inl rfl) (fun b u hb q=>(aY _ _ (cF hb)).trans q) ⟨_,e⟩ ?_
 exact⟨hz,its',n',r,e⟩
def R5:V->V->V->Hp->(Hp->Prop)->Prop:=fun o i v H Q=>∃p xs k j,o=.ref p/\i=.int k/\H p=some (.lst xs)/\JQ xs.length k=some j/\Q (upd H p (.lst (xs.set j v)))
def set_list:NH X R5:=by
 intro pins s σ H o i v ov iv u Q I ro ri rv h
 obtain⟨p,xs,k,j,rfl,rfl,hp,hj,q⟩:=h
 cases ro
 obtain⟨t,rfl⟩:=ri
 obtain⟨cE,n,r,ho,hz⟩:=I.lst hp
 obtain⟨h1,h2,h3,h4⟩:=Dp hj
 have hl:=r.length
 have hn:=rW
 have I':Inv X pins σ (upd H p (.lst (xs.set j v))) {s with heap:=s.heap.update p (Obj.mapSeq (·.setIfInBounds j u))}:=
  I.NU hp ho (Bx cE n j u) (r.set rv j) (by rw[List.length_set];exact hz) s.toks
 by_cases h0:0<=k
 ·have hk:k.toNat=j:=by
   rw[seqIndex_of h0 h4] at h1
   exact cK h1
  exact PySem.W.ki_setAt ho h0 (by omega) (by rw[aI,<-hl];exact h4) (by rw[hk];exact⟨_,I',q⟩)
 ·have hk:(k+(cE.toArray.size:Int)).toNat=j:=by
   rw[seqIndex_neg (by omega) h3] at h1
   rw[aI,<-hl]
   exact cK h1
  exact PySem.W.ki_setBack ho (by omega) (by rw[aI,<-hl];exact h3) (by omega) (by rw[hk];exact⟨_,I',q⟩)
def yh (lo hi:Option Int) (n:Nat):(sliceBounds lo hi none n).1=((HT.hZ n 0 lo:Nat):Int)/\(sliceBounds lo hi none n).2.1=((HT.hZ n n hi:Nat):Int)/\(sliceBounds lo hi none n).2.2=1:=by
 refine⟨?_,?_,rfl⟩
 ·cases lo with
  |none=>simp[sliceBounds,HT.hZ]
  |some i=>
   simp only[sliceBounds,HT.hZ,Option.getD_none,show(1:Int)>0 by decide,j9]
   by_cases h:i<0
   ·simp only[h,j9]<;>omega
   ·simp only[h,jT]<;>omega
 ·cases hi with
  |none=>simp[sliceBounds,HT.hZ]
  |some i=>
   simp only[sliceBounds,HT.hZ,Option.getD_none,show(1:Int)>0 by decide,j9]
   by_cases h:i<0
   ·simp only[h,j9]<;>omega
   ·simp only[h,jT]<;>omega
def wM (cE:List af) (lo hi:Option Int):slicePick cE.toArray lo hi none=((cE.drop (HT.hZ cE.length 0 lo)).take (HT.hZ cE.length cE.length hi-HT.hZ cE.length 0 lo)).toArray:=by
 obtain⟨h1,h2,h3⟩:=yh lo hi cE.toArray.size
 unfold slicePick
 rw[h1,h2,h3]
 simp only[sliceRange_one,pick_run,aI]<;>rfl
def NV (K:PySem.W.Frag):V->Option Int->Option Int->Hp->VK->Prop:=fun x lo hi H Q=>∃a xs,x=.ref a/\cS K H a xs/\∀p,H p=none->Q (.ref p) (upd H p (.lst (iU xs lo hi)))
def oZ:Vl X (NV X.K):=by
 intro pins s σ H x v vl vu lo hi sl Q I rx hs pl pu h
 obtain⟨a,xs,rfl,hx,q⟩:=h
 cases rx
 obtain⟨cE,r,ht,hz⟩:=I.list hx
 have hlen:=r.length
 refine⟨"list",_,slot_list_getitem.lookup,ht.isList.typeIs,?_⟩
 refine wpAny_getItem_list_slice ht.isList hs pl pu .none (by simp) ?_ (by rw[aI]<;>omega)
 rw[wM,<-hlen]
 refine⟨.ref s.heap.objs.size,_,I.laid (t':=s.toks) (o:=.lst (iU xs lo hi)) (fun b ob q=>ag _ q) (aB _) ?_,rfl,q _ (I.eE.fresh (aB _))⟩
 exact⟨bh (sY xs lo hi) hz,_,0,(r.drop (HT.hZ xs.length 0 lo)).take (HT.hZ xs.length xs.length hi-HT.hZ xs.length 0 lo),aw _ rfl⟩
def pO:V->Bool
 | .eA=>true
 | .bl _=>true
 | .int _=>true
 | .str _=>true
 |_=>false
def JR:V->V->Bool
 | .eA,.eA=>true
 | .bl a,.bl b=>a==b
 | .bl a,.int b=>(if a then 1 else 0)==b
 | .int a,.bl b=>a==(if b then 1 else 0)
 | .int a,.int b=>a==b
 | .str a,.str b=>a==b
 |_,_=>false
def NW {A:aQ}{s:ai}{y x:V}{u v:af}(ry:RelV y u) (rx:RelV x v) (fy:pO y=true) (fx:pO x=true):SeqAt.EqAt A s u v (JR y x):=by
 cases y with
 |eA=>
  cases ry
  cases x with
  |eA=>cases rx;exact SeqAt.EqAt.same _
  |bl b=>cases rx;exact SeqAt.EqAt.none_bool b
  |int b=>obtain⟨t,rfl⟩:=rx;exact SeqAt.EqAt.none_int b t
  |str b=>obtain⟨t,rfl⟩:=rx;exact SeqAt.EqAt.none_str b t
  |_=>exact absurd (show false=true from fx) bA
 |bl a=>
  cases ry
  cases x with
  |eA=>cases rx;exact SeqAt.EqAt.bool_none a
  |bl b=>cases rx;exact SeqAt.EqAt.bool_bool a b
  |int b=>obtain⟨t,rfl⟩:=rx;exact SeqAt.EqAt.bool_int a b t
  |str b=>obtain⟨t,rfl⟩:=rx;exact SeqAt.EqAt.bool_str a b t
  |_=>exact absurd (show false=true from fx) bA
 |int a=>
  obtain⟨t',rfl⟩:=ry
  cases x with
  |eA=>cases rx;exact SeqAt.EqAt.int_none a t'
  |bl b=>cases rx;exact SeqAt.EqAt.int_bool a t' b
  |int b=>obtain⟨t,rfl⟩:=rx;exact SeqAt.EqAt.int_int a t' b t
  |str b=>obtain⟨t,rfl⟩:=rx;exact SeqAt.EqAt.int_str a t' b t
  |_=>exact absurd (show false=true from fx) bA
 |str a=>
  obtain⟨t',rfl⟩:=ry
  cases x with
  |eA=>cases rx;exact SeqAt.EqAt.str_none a t'
  |bl b=>cases rx;exact SeqAt.EqAt.str_bool a t' b
  |int b=>obtain⟨t,rfl⟩:=rx;exact SeqAt.EqAt.str_int a t' b t
  |str b=>obtain⟨t,rfl⟩:=rx;exact Gw a t' b t
  |_=>exact absurd (show false=true from fx) bA
 |_=>exact absurd (show false=true from fy) bA
def By (x:V) (u:af):Bool:=match u with
 | .none=>JR .eA x
 | .bool b=>JR (.bl b) x
 | .int i _=>JR (.int i) x
 | .str z _=>JR (.str z) x
 |_=>false
def GZ {x y:V}{u:af}(r:RelV y u) (f:pO y=true):By x u=JR y x:=by
 cases y with
 |eA=>cases r;rfl
 |bl b=>cases r;rfl
 |int i=>obtain⟨t,rfl⟩:=r;rfl
 |str z=>obtain⟨t,rfl⟩:=r;rfl
 |_=>exact absurd (show false=true from f) bA
def qU {x:V}:∀{xs:List V}{us:List af},cy xs us->xs.all pO=true->us.any (By x)=xs.any fun y=>JR y x
 |_,_,.nil,_=>rfl
 |y::xs,u::us,.cons r t,f=>by
  rw[zm,cI] at f
  rw[jU,jU,GZ r f.1,qU t f.2]
def nZ {A:aQ}{s:ai}{x:V}{v:af}(rx:RelV x v) (fx:pO x=true):∀{xs:List V}{us:List af},cy xs us->xs.all pO=true->∀u∈us,SeqAt.EqAt A s u v (By x u)
 |_,_,.nil,_=>fun u hu=>by cases hu
 |y::xs,u::us,.cons r t,f=>fun u' hu=>by
  rw[zm,cI] at f
  rcases aC.mp hu with rfl|hu
  ·rw[GZ r f.1];exact NW r rx f.1 fx
  ·exact nZ rx fx t f.2 u' hu
def G0 (x:V) (xs:List V):Bool:=xs.any fun y=>JR y x
def NX (K:PySem.W.Frag) (neg:Bool):R2:=fun x y H Q=>∃p xs,y=.ref p/\(cS K H p xs\/bY K H p xs)/\pO x=true/\xs.all pO=true/\Q (.bl (if neg then !G0 x xs else G0 x xs)) H
def o6:lg X (compareOp .In) (NX X.K false):=by
 intro pins s σ H x y v u Q I rx ry h
 obtain⟨p,xs,rfl,hq,fx,fs,q⟩:=h
 cases ry
 rcases hq with hq|hq
 ·obtain⟨cE,r,pl,hz⟩:=I.list hq
  refine SeqAt.in_listAt (By x) pl.isList (fun w hw=>nZ rx fx r fs w (by simpa using hw)) ⟨.bl _,H,I,rfl,?_⟩
  rw[show cE.toArray.any (By x)=cE.any (By x) by simp,qU r fs]
  exact q
 ·obtain⟨cE,r,pl,hz⟩:=I.tuple hq
  refine SeqAt.in_tupleAt (By x) pl (fun w hw=>nZ rx fx r fs w (by simpa using hw)) ⟨.bl _,H,I,rfl,?_⟩
  rw[show cE.toArray.any (By x)=cE.any (By x) by simp,qU r fs]
  exact q
def gJ:lg X (compareOp .NotIn) (NX X.K true):=by
 intro pins s σ H x y v u Q I rx ry h
 obtain⟨p,xs,rfl,hq,fx,fs,q⟩:=h
 cases ry
 rcases hq with hq|hq
 ·obtain⟨cE,r,pl,hz⟩:=I.list hq
  refine SeqAt.notIn_listAt (By x) pl.isList (fun w hw=>nZ rx fx r fs w (by simpa using hw)) ⟨.bl _,H,I,rfl,?_⟩
  rw[show cE.toArray.any (By x)=cE.any (By x) by simp,qU r fs]
  exact q
 ·obtain⟨cE,r,pl,hz⟩:=I.tuple hq
  refine SeqAt.notIn_tupleAt (By x) pl (fun w hw=>nZ rx fx r fs w (by simpa using hw)) ⟨.bl _,H,I,rfl,?_⟩
  rw[show cE.toArray.any (By x)=cE.any (By x) by simp,qU r fs]
  exact q
def bM:gE X (.builtin "len") (fun xs H Q=>∃p ys,xs=[.ref p]/\(cS X.K H p ys\/bY X.K H p ys)/\Q (.int ys.length) H):=by
 intro pins s σ H xs us Q I r h
 obtain⟨p,ys,rfl,hq,q⟩:=h
 obtain⟨u,rfl,rx⟩:=zw r
 cases rx
 have hn:=rW
 rcases hq with hq|hq
 ·obtain⟨cE,r',pl,hz⟩:=I.list hq
  have hlen:=r'.length
  exact Calls.call_len_list pl.isList (by simp only[aI]<;>omega) ⟨.int ys.length,H,I.tok _,⟨s.toks+1,by rw[aI,hlen]⟩,q⟩
 ·obtain⟨cE,r',pl,hz⟩:=I.tuple hq
  have hlen:=r'.length
  exact len_tuple pl (by simp only[aI]<;>omega) ⟨.int ys.length,H,I.tok _,⟨s.toks+1,by rw[aI,hlen]⟩,q⟩
def qV:gE X (.builtin "len") (fun xs H Q=>∃z,xs=[.str z]/\z.length<=sizeLine/\Q (.int z.length) H):=by
 intro pins s σ H xs us Q I r h
 obtain⟨z,rfl,hz,q⟩:=h
 obtain⟨u,rfl,t,rfl⟩:=zw r
 have hn:=rW
 exact len_str (by omega) ⟨.int z.length,H,I.tok _,⟨_,rfl⟩,q⟩
def mM:gE X (.type "list") (fun xs H Q=>∃p ys,xs=[.ref p]/\(cS X.K H p ys\/bY X.K H p ys)/\∀l,H l=none->Q (.ref l) (upd H l (.lst ys))):=by
 intro pins s σ H xs us Q I r h
 obtain⟨p,ys,rfl,hq,q⟩:=h
 obtain⟨u,rfl,rx⟩:=zw r
 cases rx
 have fin:∀(cE:List af),cy ys cE->ys.length<=sizeLine->∀(h':Heap) (c':Nat),(∀b o',s.heap.get? b=some o'->h'.get? b=some o')->
   h'.get? s.heap.objs.size=some {cls:=.type "list",dict:=none,data:=.seq cE.toArray c',slots:=#[]}->EP X pins σ Q (.ref s.heap.objs.size) {s with heap:=h'}:=fun cE r' hz h' c' kp e=>
  ⟨.ref s.heap.objs.size,_,I.laid (t':=s.toks) kp (aB _) (show fP X.prog X.w _ h' _ (.lst ys) from⟨hz,cE,c',r',e⟩),rfl,q _ (I.eE.fresh (aB _))⟩
 rcases hq with hq|hq
 ·obtain⟨cE,r',pl,hz⟩:=I.list hq
  have hlen:=r'.length
  obtain⟨o,ho,hc,n,hd⟩:=pl.isList
  exact call_list_seq p (.inl rfl) ho hc hd (fun h' c' kp e=>fin cE r' hz h' c' kp e) (by simp only[aI]<;>omega)
 ·obtain⟨cE,r',pl,hz⟩:=I.tuple hq
  have hlen:=r'.length
  obtain⟨o,ho,hc,n,hd⟩:=pl
  exact call_list_seq p (.inr rfl) ho hc hd (fun h' c' kp e=>fin cE r' hz h' c' kp e) (by simp only[aI]<;>omega)
def fq:gE X (.type "tuple") (fun xs H Q=>∃p ys,xs=[.ref p]/\((cS X.K H p ys/\∀l,H l=none->Q (.ref l) (upd H l (.tup ys)))\/(bY X.K H p ys/\Q (.ref p) H))):=by
 intro pins s σ H xs us Q I r h
 obtain⟨p,ys,rfl,h⟩:=h
 obtain⟨u,rfl,rx⟩:=zw r
 cases rx
 rcases h with⟨hq,q⟩|⟨hq,q⟩
 ·obtain⟨cE,r',pl,hz⟩:=I.list hq
  have hlen:=r'.length
  refine call_tuple_list pl.isList (fun h' kp=>?_) (by simp only[aI]<;>omega)
  have I1:Inv X pins σ H {s with heap:=h'}:=I.kept (t':=s.toks) kp
  have I2:Inv X pins σ (upd H h'.objs.size (.tup ys)) {s with heap:=h'.push {cls:=.type "tuple",data:=.seq cE.toArray}}:=
   I1.laid (t':=s.toks) (fun b o e=>ag _ e) (aB _) (show fP X.prog X.w _ _ _ (.tup ys) from⟨hz,cE,r',uO.new _ _⟩)
  exact⟨.ref h'.objs.size,_,I2,rfl,q _ (I1.eE.fresh (aB _))⟩
 ·obtain⟨cE,r',pl,hz⟩:=I.tuple hq
  exact call_tuple_same pl ⟨.ref p,H,I,rfl,q⟩
def Ws (K:PySem.W.Frag) (T:String) (x:V) (H:Hp):Prop:=match x with
 | .str _=>T="str"
 | .int _=>T="int"
 | .ref p=>(T="list"/\∃xs,cS K H p xs)\/(T="tuple"/\∃o,K.lookup p=some o/\o.cls=.type "tuple"/\o.dict=none)\/
   (T="dict"/\((∃de,H p=some (.dK de))\/∃de,H p=some (.dT de)))\/(T="set"/\∃S n,H p=some (.set S n))
 |_=>False
def G8 {pins:List (ah×Obj)}{σ:St}{H:Hp}{s:ai}{T:String}{x:V}{v:af}(I:Inv X pins σ H s) (r:RelV x v) (ty:Ws X.K T x H):
  s.TypeIs v T/\∀a,v=.ref a->∃ob,s.heap.get? a=some ob/\ob.dict=none:=by
 cases x with
 |str z=>
  obtain⟨t,rfl⟩:=r
  cases(show T="str" from ty)
  exact⟨typeIs_str s z t,fun _ e=>nomatch e⟩
 |int i=>
  obtain⟨t,rfl⟩:=r
  cases(show T="int" from ty)
  exact⟨typeIs_int s i t,fun _ e=>nomatch e⟩
 |ref p=>
  cases r
  rcases ty with⟨rfl,xs,hq⟩|⟨rfl,o,hk,hc,hd⟩|⟨rfl,hk⟩|⟨rfl,S,n,hk⟩
  ·obtain⟨cE,_,pl,_⟩:=I.list hq
   refine⟨pl.isList.typeIs,fun a e=>?_⟩
   cases e
   obtain⟨o,n,e,c,hd,_⟩:=pl
   exact⟨o,e,hd⟩
  ·refine⟨⟨o,I.kC p o hk,hc⟩,fun a e=>?_⟩
   cases e
   exact⟨o,I.kC _ o hk,hd⟩
  ·have z:∃o,s.heap.get? p=some o/\o.ExactDict:=by
    rcases hk with⟨de,hk⟩|⟨de,hk⟩
    ·obtain⟨_,_,_,_,o,_,_,e,ex,_⟩:=I.eE p _ hk
     exact⟨o,e,ex⟩
    ·obtain⟨_,_,_,_,o,_,_,e,ex,_⟩:=I.eE p _ hk
     exact⟨o,e,ex⟩
   obtain⟨o,e,ex⟩:=z
   refine⟨⟨o,e,ex.1⟩,fun a e2=>?_⟩
   cases e2
   exact⟨o,e,ex.2.1⟩
  ·obtain⟨o,_,_,_,e,ex,_⟩:=I.eE p _ hk
   refine⟨⟨o,e,ex.1⟩,fun a e2=>?_⟩
   cases e2
   exact⟨o,e,ex.2.1⟩
 |_=>exact False.elim ty
def Wt (K:PySem.W.Frag) (T:String) (r:V->List V->Hp->VK->Prop) (to:TE):TE:=fun σ H Q=>to σ H fun x H1=>Ws K T x H1/\r x [] H1 Q
def tBM (K:PySem.W.Frag) (T:String) (r:V->List V->Hp->VK->Prop) (to:TE) (t:TA):TE:=fun σ H Q=>to σ H fun x H1=>Ws K T x H1/\t σ H1 fun xs H2=>r x xs H2 Q
variable {o e:Expr}{es:List Expr}{to:TE}{t:TA}{name:Str}{apos jl:Pos}{T id:String}{r:V->List V->Hp->VK->Prop}
def yi (pa:PlainAttrs T) (slot:Slot T name id) (Wu:typeOf (.builtin id)=pure (.type "method_descriptor")) (hm:Wr X id r) (ho:PE X o to)
  (zH:attributeBase o name X.env (eval o X.env)=eval o X.env:=by rfl) (G9:(apos.endLine==jl.line)=true:=by rfl):PE X (.Call (.Attribute o name apos) [] [] jl) (Wt X.K T r to):=by
 intro pins s σ H Q I h
 refine wpAny_Call_method0_late zH G9 (e_ (ho pins s σ H _ I h) fun v s1 ⟨x,H1,I1,r1,ty,q1⟩=>?_)
 obtain⟨h1,h2⟩:=G8 I1 r1 ty
 exact⟨T,id,pa,slot,Wu,h1,h2,xS rfl (PySem.evalArgs_none (hm pins s1 σ H1 x [] v [] Q I1 r1 .nil q1))⟩
def pP (pa:PlainAttrs T) (slot:Slot T name id) (Wu:typeOf (.builtin id)=pure (.type "method_descriptor")) (hm:Wr X id r) (ho:PE X o to) (ha:PA X (e::es) t)
  (zH:attributeBase o name X.env (eval o X.env)=eval o X.env:=by rfl)
  (Wv:((backTo jl (starEach (e::es) X.env)).all (fun x=>!x.1)&&(backToKw jl (keywordEach [] X.env)).all (fun x=>x.1.isSome)
   &&decide ((e::es).length+([]:List Keyword).length+(if([]:List Keyword).isEmpty then 0 else 1)<30))=true:=by rfl)
  (G9:(apos.endLine==jl.line)=true:=by rfl) (hs:starEach (e::es) X.env=(false,eval e X.env)::starEach es X.env:=by rfl) (NY:(backTo jl (starEach es X.env)).any (·.1)=false:=by rfl):
  PE X (.Call (.Attribute o name apos) (e::es) [] jl) (tBM X.K T r to t):=by
 intro pins s σ H Q I h
 refine wpAny_Call_method_late zH Wv G9 rfl (e_ (ho pins s σ H _ I h) fun v s1 ⟨x,H1,I1,r1,ty,q1⟩=>?_)
 obtain⟨h1,h2⟩:=G8 I1 r1 ty
 refine⟨T,id,pa,slot,Wu,h1,h2,?_⟩
 have hA:=ha jl pins s1 σ H1 _ I1 q1
 rw[hs] at hA⊢
 refine xS (by show(false||(backTo jl (starEach es X.env)).any (·.1))=false;rw[NY]<;>rfl) (A6 ?_)
 exact e_ hA fun us s2 ⟨vs,H2,I2,r2,q2⟩=>hm pins s2 σ H2 x vs v us Q I2 r1 r2 q2
end
def R6 (X:Cx) (id:String) (r:V->List V->Hp->VK->Prop):Prop:=
 ∀(pins:List (ah×Obj)) (s:ai) (σ:St) (H:Hp) (x:V) (xs:List V) (v:af) (us:List af) (Q:VK),Inv X pins σ H s->RelV x v->cy xs us->r x xs H Q->
  wpAny (model X.prog X.w) X.A (call (.builtin id) (v::us)) (EP X pins σ Q) X.xe s
def cy.one:∀{x:V}{us:List af},cy [x] us->∃u,us=[u]/\RelV x u
 |_,_,.cons r .nil=>⟨_,rfl,r⟩
def cy.two:∀{x y:V}{us:List af},cy [x,y] us->∃u v,us=[u,v]/\RelV x u/\RelV y v
 |_,_,_,.cons r (.cons q .nil)=>⟨_,_,rfl,r,q⟩
def cy.zero:∀{us:List af},cy [] us->us=[]
 |_,.nil=>rfl
def cy.dropLast {xs:List V}{us:List af}(h:cy xs us):cy xs.dropLast us.dropLast:=by
 induction h with
 |nil=>exact .nil
 |cons r t ih=>
  cases t with
  |nil=>exact .nil
  |cons q t'=>exact .cons r ih
def cy.rep {xs:List V}{us:List af}(h:cy xs us):∀k:Nat,cy (List.replicate k xs).flatten (List.replicate k us).flatten
 |0=>.nil
 |k+1=>by
  rw[jK,jK,qx,qx]
  exact cy.append h (cy.rep h k)
def Bz {α:Type}(l:List α):l.eraseIdx (l.length-1)=l.dropLast:=by
 induction l with
 |nil=>rfl
 |cons a r ih=>
  cases r with
  |nil=>rfl
  |cons b r=>
   have e:(a::b::r).length-1=((b::r).length-1)+1:=by
    have h1:(a::b::r).length=r.length+2:=rfl
    have h2:(b::r).length=r.length+1:=rfl
    omega
   rw[e,List.eraseIdx_cons_succ,ih]
   all_goals rfl
def foldl_rep (cE:List af):∀(k:Nat) (acc:List af),
  List.foldl (fun x1 x2=>x1++x2) acc.toArray (List.replicate k cE.toArray)=(acc++(List.replicate k cE).flatten).toArray
 |0,acc=>by simp
 |k+1,acc=>by
  have e:acc.toArray++cE.toArray=(acc++cE).toArray:=by simp
  have e2:(acc++cE)++(List.replicate k cE).flatten=acc++(List.replicate (k+1) cE).flatten:=by
   rw[jK,qx,gS]
  rw[<-e2,<-foldl_rep cE k (acc++cE),<-e,jK,List.foldl_cons]
section
variable {X:Cx}{pins:List (ah×Obj)}{σ:St}{H:Hp}{s:ai}{l b:ah}{xs ys zs:List V}
def Inv.G_ {cE its':List af}{n:Nat}{f:Array af->Array af}{t':Nat}(I:Inv X pins σ H s) (hH:H l=some (.lst xs))
  (e:s.heap.get? l=some {cls:=.type "list",data:=.seq cE.toArray n}) (hf:f cE.toArray=its'.toArray) (hv:cy ys its') (hz:ys.length<=sizeLine):
  Inv X pins σ (upd H l (.lst ys)) {s with heap:=s.heap.update l (Obj.mapSeq f),toks:=t'}:=by
 have q:=PySem.IsL.update e f
 rw[hf] at q
 refine I.write (x:=l) (e:=l) (by rw[hH];exact trivial) (.inl rfl) (fun b' u hb hu=>(aY s.heap (Obj.mapSeq f) (cF hb)).trans hu) ⟨_,q⟩ ?_
 exact⟨hz,its',_,hv,q⟩
def Inv.R7 {cE:List af}{t':Nat}(I:Inv X pins σ H s) (hv:cy ys cE) (hz:ys.length<=sizeLine):
  Inv X pins σ (upd H s.heap.objs.size (.lst ys)) {s with heap:=s.heap.push {cls:=.type "list",data:=.seq cE.toArray},toks:=t'}:=
 I.laid (fun _ _ q=>ag _ q) (aB _) ⟨hz,cE,0,hv,aw _ rfl⟩
def Inv.fresh (I:Inv X pins σ H s):H s.heap.objs.size=none:=I.eE.fresh (aB _)
def Inv.yj (I:Inv X pins σ H s) (hH:H l=some (.lst xs)):xs.length<=sizeLine/\∃(cE:List af) (n:Nat),cy xs cE/\xs.length=cE.length/\s.heap.get? l=some {cls:=.type "list",data:=.seq cE.toArray n}:=by
 obtain⟨z,cE,n,r,e⟩:=I.eE l _ hH
 exact⟨z,cE,n,r,r.length,e⟩
def zI {n:Nat}(h:n<=sizeLine):Builtin.List.listTooLong n=false:=by
 unfold Builtin.List.listTooLong
 exact bC (by omega)
end
section
variable {X:Cx}
def Ks:V->List V->Hp->VK->Prop:=fun x vs H Q=>∃l xs y,x=.ref l/\vs=[y]/\H l=some (.lst xs)/\xs.length<sizeLine/\Q .eA (upd H l (.lst (xs++ [y])))
def gw:R6 X "list.append" Ks:=by
 intro pins s σ H x vs v us Q I rx rv h
 obtain⟨l,xs,y,rfl,rfl,hH,hz,q⟩:=h
 cases rx
 obtain⟨u,rfl,ru⟩:=rv.one
 obtain⟨z,cE,n,r,hl,e⟩:=I.yj hH
 refine rN F.slot_list_append ⟨_,e,rfl⟩ F.entry_list_append (F.args_list_append_2 _ _) (PySem.list_append l cE.toArray n u (by rw[aI];omega)) ⟨e,?_⟩
 refine⟨.eA,_,I.G_ (its':=cE++ [u]) hH e (by simp) (r.append (.cons ru .nil)) ?_,rfl,q⟩
 rw[aK,aG]
 omega
def Kt:V->List V->Hp->VK->Prop:=fun x vs H Q=>∃l b xs zs,x=.ref l/\vs=[.ref b]/\H l=some (.lst xs)/\H b=some (.lst zs)/\xs.length+zs.length<=sizeLine/\Q .eA (upd H l (.lst (xs++zs)))
def Q5:R6 X "list.extend" Kt:=by
 intro pins s σ H x vs v us Q I rx rv h
 obtain⟨l,b,xs,zs,rfl,rfl,hH,hB,hz,q⟩:=h
 cases rx
 obtain⟨u,rfl,ru⟩:=rv.one
 cases ru
 obtain⟨z,cE,n,r,hl,e⟩:=I.yj hH
 obtain⟨z2,kX,n2,r2,nK,e2⟩:=I.yj hB
 have hsz:cE.toArray.size+kX.toArray.size<=sizeLine:=by rw[aI,aI];omega
 have Ha:¬(!cE.toArray.isEmpty&&Builtin.List.listTooLong (cE.toArray.size+kX.toArray.size))=true:=by
  rw[zI hsz,eZ]
  exact bA
 refine rN F.slot_list_extend ⟨_,e,rfl⟩ F.entry_list_extend (F.args_list_extend_2 _ _)
  (AutoSeq1.list_extend_list_list_0 l cE.toArray n b kX.toArray n2 Ha (by rw[aI];omega) (by omega)) ⟨e,e2,?_⟩
 refine⟨.eA,_,I.G_ (its':=cE++kX) hH e (by simp) (r.append r2) ?_,rfl,q⟩
 rw[aK]
 omega
def Ww:V->List V->Hp->VK->Prop:=fun x vs H Q=>∃l xs y,x=.ref l/\vs=[]/\H l=some (.lst xs)/\xs[xs.length-1]?=some y/\Q y (upd H l (.lst xs.dropLast))
def BA:R6 X "list.pop" Ww:=by
 intro pins s σ H x vs v us Q I rx rv h
 obtain⟨l,xs,y,rfl,rfl,hH,hy,q⟩:=h
 cases rx
 have Wx:=rv.zero
 subst Wx
 obtain⟨z,cE,n,r,hl,e⟩:=I.yj hH
 obtain⟨u,hu,ru⟩:=r.get hy
 have Wy:cE.toArray[cE.toArray.size-1]?=some u:=by
  show cE.toArray[cE.length-1]?=some u
  rw[<-Array.getElem?_toList,<-hl]
  exact hu
 refine rN F.slot_list_pop ⟨_,e,rfl⟩ F.entry_list_pop (F.args_list_pop_1 _) (MeetsSeq.list_pop_last l cE.toArray n u Wy (by rw[aI];omega)) ⟨e,?_⟩
 refine⟨y,_,I.G_ (its':=cE.dropLast) hH e ?_ r.dropLast ?_,ru,q⟩
 ·show cE.toArray.eraseIdxIfInBounds (cE.toArray.size-1)=cE.dropLast.toArray
  rw[aI,List.eraseIdxIfInBounds_toArray,Bz]
 ·rw[List.length_dropLast]
  omega
def NZ:V->List V->Hp->VK->Prop:=fun x vs H Q=>∃l xs,x=.ref l/\vs=[]/\H l=some (.lst xs)/\Q .eA (upd H l (.lst []))
def Hb:R6 X "list.clear" NZ:=by
 intro pins s σ H x vs v us Q I rx rv h
 obtain⟨l,xs,rfl,rfl,hH,q⟩:=h
 cases rx
 have Wx:=rv.zero
 subst Wx
 obtain⟨z,cE,n,r,hl,e⟩:=I.yj hH
 refine rN F.slot_list_clear ⟨_,e,rfl⟩ F.entry_list_clear (F.args_list_clear_1 _) (AutoSeq1.list_clear_list_0 l cE.toArray n (by rw[aI];omega)) ⟨e,?_⟩
 exact⟨.eA,_,I.G_ (its':=[]) (ys:=[]) hH e rfl .nil (fH _),rfl,q⟩
def Wz:R2:=fun x y H Q=>∃l b xs zs,x=.ref l/\y=.ref b/\H l=some (.lst xs)/\H b=some (.lst zs)/\xs.length+zs.length<=sizeLine/\∀p,H p=none->Q (.ref p) (upd H p (.lst (xs++zs)))
def kN:lg X (binaryOp .Add) Wz:=by
 intro pins s σ H x y v u Q I rx ry h
 obtain⟨l,b,xs,zs,rfl,rfl,hH,hB,hz,q⟩:=h
 cases rx
 cases ry
 obtain⟨z,cE,n,r,hl,e⟩:=I.yj hH
 obtain⟨z2,kX,n2,r2,nK,e2⟩:=I.yj hB
 refine PySem.P.add_list e e2 ?_ (by rw[aI,aI];omega)
 have ea:cE.toArray++kX.toArray=(cE++kX).toArray:=by simp
 rw[ea]
 exact⟨.ref _,_,I.R7 (t':=s.toks) (r.append r2) (by rw[aK];omega),rfl,q _ I.fresh⟩
def WA:R2:=fun x y H Q=>∃l k xs,x=.ref l/\y=.int k/\H l=some (.lst xs)/\-(2^63)<=k/\k<2^63/\xs.length*k.toNat<=sizeLine/\
 ∀p,H p=none->Q (.ref p) (upd H p (.lst (List.replicate k.toNat xs).flatten))
def len_rep {α:Type}(xs:List α) (k:Nat):(List.replicate k xs).flatten.length=k*xs.length:=by
 induction k with
 |zero=>simp
 |succ k ih=>rw[jK,qx,aK,ih,Nat.succ_mul,Nat.add_comm]
def Hc:lg X (binaryOp .Mult) WA:=by
 intro pins s σ H x y v u Q I rx ry h
 obtain⟨l,k,xs,rfl,rfl,hH,h1,h2,hz,q⟩:=h
 cases rx
 obtain⟨t,rfl⟩:=ry
 obtain⟨z,cE,n,r,hl,e⟩:=I.yj hH
 have hlen:cE.toArray.size*k.toNat<=sizeLine:=by rw[aI,<-hl];exact hz
 have WB:¬cE.toArray.size*k.toNat>(2^63-1)/8:=by
  have:(sizeLine:Nat)<=(2^63-1)/8:=by decide
  omega
 have WC:¬(!Builtin.List.listFitsIndex k)=true:=by
  rw[fitsIndex_both h1 h2]
  exact bA
 have Ha:¬Builtin.List.listTooLong (cE.toArray.size*k.toNat)=true:=by
  rw[zI hlen]
  exact bA
 have WD:List.foldl (fun x1 x2=>x1++x2) #[] (List.replicate (if cE.toArray.isEmpty=true then 0 else k.toNat) cE.toArray)=(List.replicate k.toNat cE).flatten.toArray:=by
  have f0:∀m:Nat,List.foldl (fun x1 x2=>x1++x2) #[] (List.replicate m cE.toArray)=(List.replicate m cE).flatten.toArray:=fun m=>by
   have:=foldl_rep cE m []
   rw[List.nil_append] at this
   exact this
  rw[f0]
  cases cE with
  |nil=>simp
  |cons a r'=>rw[aO (by simp)]
 refine wpAny_binaryOp_repeat_ref (T:="list") (U:="int") (by decide) ⟨_,e,rfl⟩ (fun s'=>typeIs_int s' k t) noFill_list_mul F.fills_int_mul F.slot_int_rmul repeat_list F.slot_int_index.lookup
  (rN F.slot_int_rmul (typeIs_int s k t) F.entry_int_rmul (F.args_int_rmul_2 _ _) (int___rmul___int_list k t l cE.toArray n)
   ⟨e,rfl,⟨_,e,rfl⟩,rN F.slot_list_mul ⟨_,e,rfl⟩ F.entry_list_mul (F.args_list_mul_2 _ _) (AutoListH.list___mul___list_int_3 l cE.toArray n k t WC WB Ha) ⟨e,?_⟩⟩)
 rw[WD]
 exact⟨.ref _,_,I.R7 (t':=s.toks) (r.rep k.toNat) (by rw[len_rep,Nat.mul_comm];exact hz),rfl,q _ I.fresh⟩
end
section
variable {prog:aF}{w:ba}{A:aQ}{E:af->ai->Prop}{s:ai}
end
section
variable {X:Cx}
end
end L2
namespace ZM
open PySem PySem.W PySem.Calls PyProof.Rows
def tY {P:Params}{h:Heap}:∀(ns:List Int) (vs:List af),WellAll P h vs (ns.map WData.int)->IntsAre vs ns:=by
 intro ns
 induction ns with
 |nil=>
  intro vs w
  rw[nO] at w
  cases w
  exact .nil
 |cons n ns ih=>
  intro vs w
  rw[bH] at w
  cases w with
  |cons a b=>
   cases a
   exact .cons _ _ (ih _ b)
def E4 {l:OpenLaw}{n:Nat}(hn:l.most=some n) {P:Params}{h:Heap}{args:List WData}{vals:List af}
  (Ku:l.row.toRowW.claim.pre args=true) (WE:WellAll P h vals args):
  ∃a vs ns,vals=[Value.ref a]/\args=[WData.list (ns.map WData.int)]/\h.get? a=some {cls:=.type "list",data:=.seq vs.toArray}/\IntsAre vs ns/\ns.length<=n:=by
 have hsh:WShape.hasAll [] args [.list .int]=true:=(pre_splitW Ku).1
 have hc:l.pre.holds [] {args:=args}=true:=(pre_splitW Ku).2
 obtain⟨d,r,rfl,h1,h2⟩:=hasAllW_cons hsh
 obtain rfl:=hasAllW_nil h2
 obtain⟨xs,rfl,h3⟩:=hasW_list h1
 obtain⟨ns,rfl⟩:=items_int h3
 have hlen:ns.length<=n:=by
  unfold OpenLaw.pre at hc
  have h4:(WTm.not (.lt (.lit (.int (n:Int))) (.len (.arg 0)))).holds [] {args:=[.list (ns.map .int)]}=true:=by
   have h4:=(holds_andW hc).1
   rw[hn] at h4
   exact h4
  have h5:=condW_of h4 (w_not (w_lt w_lit (w_len_list (w_arg rfl))))
  rw[aq] at h5
  refine Nat.le_of_not_lt fun q=>?_
  have q':(n:Int)<((ns.length:Nat):Int):=by omega
  first
   |(rw[aJ q'] at h5;exact absurd h5 (by decide))
   |(simp at h5;omega)
 cases WE with
 |cons w1 w2=>
  cases w2
  cases w1 with
  |list ho N0=>exact⟨_,_,ns,rfl,rfl,ho,tY ns _ N0,hlen⟩
def E5 (l:OpenLaw) (args:List WData):l.row.toRowW.claim.post args (.bool true) args=true:=
 postW_of (r:=l.row.toRowW) (X:=(true==true))
  (show WShape.has [] (.bool true) .bool=true by first|rfl|decide|simp[WShape.has,WShape.arms,WShape.armsAll])
  (show(WTm.eq .res (.lit (.bool true))).value [] {args:=args,res:=some (.bool true),after:=args}=some (.bool (true==true)) from w_eq_bool (w_res rfl) w_lit) rfl
def zJ {l:OpenLaw}{n:Nat}{q:aF}{loose:List Str}{XP:(Str->Option af)->Heap->Prop}{YP:ba->Heap->Prop}{d:DefRec}
  (hn:l.most=some n) (R8:d.params.defaults=[])
  (call:∀(w:ba) (gG eN:ai) (mg mb:Str->Option af) (fa:ah) (o:Obj) (pm cd doc:af) (a:ah) (vs:List af) (ns:List Int),
   Ground q loose [] XP w gG mg mb eN.heap->YP w eN.heap->
   eN.heap.get? fa=some o->o.data=.func (docDef d.name d.params d.body d.scope pm cd doc)->eN.heap.CodeRec cd d.name->mg d.name=some (.ref fa)->
   eN.heap.get? a=some {cls:=.type "list",data:=.seq vs.toArray}->IntsAre vs ns->ns.length<=n->eN.gens=#[]->
   codeAny (model l.prog w) callerA (.call (.ref fa) ⟨[.ref a],[]⟩) (fun r s'=>r=.ok (.ret (.bool true))/\OldK eN.heap s'.heap/\s'.os=eN.os/\AllBare s'.gens) eN):
  WalkO q loose XP YP l.row.toRowW d [] (fun f vs=>PySem.call f vs):=by
 intro w gG eN mg mb G Y fa o pm cd doc dV kV ho hd Bh hD hmg hg args vals as Ku aac hrd WE hlo
 obtain rfl:dV=.none:=Dflts.none hD R8
 obtain rfl:kV=.none:=Dflts.noKw hD
 obtain⟨a,vs,ns,rfl,rfl,N4,hints,hlen⟩:=E4 hn Ku WE
 refine enter_call (kh (call w gG eN mg mb fa o pm cd doc a vs ns G Y ho (fd_plain hd) Bh hmg N4 hints hlen hg) fun r s' hq=>?_)
 obtain⟨rfl,h2,h3,h4⟩:=hq
 exact⟨.inl ⟨.bool true,.bool true,[],rfl,fun _=>rfl,.bool true,E5 l _,fun _=>⟨List.Pairwise.nil,fun _ hm=>(nomatch hm)⟩⟩,h2,h3,h4⟩
section
variable {prog:aF}{w:ba}{A:aQ}{E:af->ai->Prop}{s:ai}{K:Frag}
def ledger (h:Heap) (L d:ah):List (ah×Obj):=(List.range h.objs.size).filterMap fun a=>if a=L\/a=d then none else(h.get? a).map fun o=>(a,o)
end
end ZM
namespace L2
open PySem PySem.Spec PyProof.Rows
def xr:∀{vs:List af}{ns:List Int},IntsAre vs ns->cy (ns.map V.int) vs
 |_,_,.nil=>.nil
 |_,_,.cons n t h=>.cons ⟨t,rfl⟩ (xr h)
def N6 (H:Hp):Prop:=∀b,H b=none\/∃o xs,H b=some (.Be o (.lst xs))
def Hd {P:aF}{w:ba}{K:PySem.W.Frag}{mg mb:Str->Option af}{CX:EW}{k:Nat}{fa a:ah}{fd:FuncData}{x:Str}{sp:Sp}{eN:ai}{vs:List af}{ns:List Int}
  (KX:K.In eN.heap) (Q6:eN.heap.Ns mainGlobals mg) (hb:eN.heap.Ns builtinsNs mb) (hbb:∀x:Str,x≠"__name__"->mb x=bootBuiltins x) (WG:eN.heap.NoLimit) (hg:eN.gens=#[])
  (ha:eN.heap.get? a=some {cls:=.type "list",data:=.seq vs.toArray}) (hi:IntsAre vs ns) (hl:ns.length<=sizeLine) (hr:eK k callerA)
  (F:∀base:Heap,K.In base->base.Ns mainGlobals mg->dO P w K mg base CX k fa fd [x] sp) (hbind:∀(s:ai) (u:af),BindsTo s fd ⟨[u],[]⟩ [(x,u)])
  (EZ:∀H:Hp,N6 H->cS K H a (ns.map V.int)->sp [.ref a] H (fun v _=>v=.bl true) fun _ _ _=>False)
  (hCX:∀H e s',CX [] H eN (fun _ _ _=>False) e s'->False):
  codeAny (model P w) callerA (.call (.ref fa) ⟨[.ref a],[]⟩) (fun r s'=>r=.ok (.ret (.bool true))/\OldK eN.heap s'.heap/\s'.os=eN.os/\AllBare s'.gens) eN:=by
 have rv:=xr hi
 have WH:=hi.length
 --from an abstract heap in ZN nothing but Vi N8 may be tracked
 have core:∀H:Hp,N6 H->cS K H a (ns.map V.int)->pM P w H eN.heap->(∀b,H b≠none->b=a)->(H a≠none->K.lookup a=none)->
   codeAny (model P w) callerA (.call (.ref fa) ⟨[.ref a],[]⟩) (fun r s'=>r=.ok (.ret (.bool true))/\OldK eN.heap s'.heap/\s'.os=eN.os/\AllBare s'.gens) eN:=by
  intro H hO hS eE hA hK
  have Dr:∀{b:ah} {o:Obj},eN.heap.get? b=some o->H b=none->(xX eN.heap H).get? b=some o:=fun e n=>GA e n
  have R0:∀{b:ah} {o:Obj} {es:Array DictEntry} {ep:Nat},eN.heap.get? b=some o->o.data=.dict es ep->H b=none:=fun{b o es ep} e d=>by
   cases q:H b with
   |none=>rfl
   |some u=>
    have e':b=a:=hA b (by rw[q];simp)
    subst e'
    rw[ha] at e;cases e
    have d':Data.seq vs.toArray _=Data.dict es ep:=d
    cases d'
  have Vm:∀{b:ah} {m:Str->Option af},eN.heap.Ns b m->(xX eN.heap H).Ns b m:=fun{b m} ⟨o,es,ep,e,d,r⟩=>⟨o,es,ep,Dr e (R0 e d),d,r⟩
  have ZO:K.In (xX eN.heap H):=fun b o e=>Dr (KX b o e) (by
   cases q:H b with
   |none=>rfl
   |some u=>
    have e':b=a:=hA b (by rw[q];simp)
    subst e'
    rw[hK (by rw[q];simp)] at e;cases e)
  have hM:Mod K mg (xX eN.heap H):=⟨ZO,Vm Q6,⟨mb,Vm hb,hbb⟩,let⟨mc,h1,h2⟩:=WG;⟨mc,Vm h1,h2⟩⟩
  have e0:tX P w K mg (xX eN.heap H) callerA [] eN H:=⟨rfl,hM,fun b o e=>Ka e,Rz (EH _ _),trivial,fun b hb=>absurd (show b∈([]:List ah) from hb) (by simp),eE,.of_eq hg⟩
  refine kh ((F _ ZO (Vm Q6)).run callerA [] eN H ⟨[.ref a],[]⟩ [.ref a] [.ref a] _ _ hr e0 (hbind eN (.ref a)) (.cons rfl .nil) (EZ H hO hS)) fun r s' h=>?_
  cases r with
  |error e=>exact(hCX H e s' h).elim
  |ok fl=>
   cases fl with
   |next=>exact False.elim h
   |brk=>exact False.elim h
   |cont=>exact False.elim h
   |ret u=>
    obtain⟨v,H',os,bare,un,WJ,r',q⟩:=h
    have q':v=.bl true:=q
    subst q'
    obtain rfl:u=Value.bool true:=r'
    refine⟨rfl,OldK.of_keep fun b o e=>?_,os,bare⟩
    cases q:H b with
    |none=>exact un.keep b o e q (by intro z;exact absurd (show b∈([]:List ah) from z) (by simp)) (by simp)
    |some u=>
     rcases hO b with z|⟨ob,xs,z⟩
     ·rw[q] at z;cases z
     ·have z2:=un.nQ b ob _ z
      obtain⟨e1,_⟩:=eE b _ z
      obtain⟨e2,_⟩:=WJ b _ z2
      rw[e] at e1;cases e1
      exact e2
 cases hk:K.lookup a with
 |some o=>
  --Vi N8 is one of Vi R9 own objects
  have e:=KX a o hk
  rw[ha] at e
  cases e
  refine core (fun _=>none) (fun _=>.inl rfl) (.inr ⟨_,vs.toArray,_,hk,rfl,rfl,rfl,by rw[aI,WH];exact hl,by simpa using rv⟩) (fun b u z=>by have z':(none:Option HO)=some u:=z;cases z') (fun b z=>absurd rfl z) fun z=>absurd rfl z
 |none=>
  refine core (fun b=>if b=a then some (.Be {cls:=.type "list",data:=.seq vs.toArray} (.lst (ns.map V.int))) else none) (fun b=>?_) (.inl (.inr ⟨{cls:=.type "list",data:=.seq vs.toArray},aP rfl⟩)) (fun b u z=>?_) (fun b z=>?_) fun _=>hk
  ·by_cases hb:b=a
   ·exact .inr ⟨_,_,aP hb⟩
   ·exact .inl (aO hb)
  ·by_cases hb:b=a
   ·have z':=(aP hb).symm.trans z
    cases z'
    subst hb
    exact⟨ha,by rw[aq];exact hl,vs,_,rv,ha⟩
   ·have z':=(aO hb).symm.trans z
    cases z'
  ·by_cases hb:b=a
   ·exact hb
   ·exact absurd (aO hb) z
def Kv {l:PySem.W.OpenLaw}{n k:Nat}{q:aF}{loose:List Str}{XP:(Str->Option af)->Heap->Prop}{YP:ba->Heap->Prop}{d:DefRec}{K:Params->PySem.W.Frag}{CX:ba->EW}{sp:ba->Sp}{x:Str}
  (hn:l.most=some n) (JP:n<=sizeLine) (R8:d.params.defaults=[]) (hr:eK k callerA)
  (hY:∀(w:ba) (h:Heap),YP w h->(K w.params).In h)
  (F:∀(w:ba) (mg:Str->Option af) (fa:ah) (h:Heap),(K w.params).In h->h.Ns mainGlobals mg->mg d.name=some (.ref fa)->
   ∃fd:FuncData,(∀(s:ai) (u:af),BindsTo s fd ⟨[u],[]⟩ [(x,u)])/\
    ∀base:Heap,(K w.params).In base->base.Ns mainGlobals mg->dO l.prog w (K w.params) mg base (CX w) k fa fd [x] (sp w))
  (EZ:∀(w:ba) (H:Hp) (a:ah) (ns:List Int),ns.length<=n->N6 H->cS (K w.params) H a (ns.map V.int)->sp w [.ref a] H (fun v _=>v=.bl true) fun _ _ _=>False)
  (hCX:∀(w:ba) (H:Hp) (s:ai) (e:af) (s':ai),CX w [] H s (fun _ _ _=>False) e s'->False):
  PySem.W.WalkO q loose XP YP l.row.toRowW d [] (fun f vs=>PySem.call f vs):=by
 refine ZM.zJ hn R8 fun w gG eN mg mb fa o pm cd doc a vs ns G Y ho hd Bh hmg N4 hints hlen hg=>?_
 have KX:=hY w _ Y
 obtain⟨fd,hb,hF⟩:=F w mg fa _ KX G.T.g hmg
 exact Hd KX G.T.g G.T.b G.T.builtins G.T.nolimit hg N4 hints (bh hlen JP) hr hF hb (fun H hO hS=>EZ w H a ns hlen hO hS) fun H e s'=>hCX w H eN e s'
end L2
namespace L2
open PySem PySem.Spec PyProof.Rows
def jm (s:Stmt):Arguments:=match s with
 | .FunctionDef _ a _ _ _ _ _ _ _ _=>a
 |_=>{posonlyargs:=[],args:=[],vararg:=none,kwonlyargs:=[],kw_defaults:=[],kwarg:=none,defaults:=[]}
def fu (s:Stmt):List Stmt:=match s with
 | .FunctionDef _ _ b _ _ _ _ _ _ _=>b
 |_=>[]
def av (s:Stmt):Scope:=match s with
 | .FunctionDef _ _ _ _ _ _ sc _ _ _=>sc
 |_=>{kind:=.function,names:=[],isGenerator:=false,isCoroutine:=false}
abbrev fO:EW:=fun _ _ _ _ _ _=>False
abbrev E0:XK:=fun _ _ _=>False
def zK {X:Cx}:lT fO X E0:=fun _ _ _ _ _ _ _ h=>h.elim
structure iV (K:PySem.W.Frag) (x qual:Str) (st:Stmt) (f:ah) (fd:FuncData):Prop where
 ex:∃(oc:af) (od:Option ah) (kV doc pm:af) (an:Option ah) (cdv ct:af) (rZ:Array (Option af)),
  fd=PySem.W.fnOf x qual (jm st) (fu st) (av st) .none kV doc pm an cdv ct/\K.lookup f=some ⟨oc,od,.func fd,rZ⟩/\PySem.W.codeIn K cdv qual=true
 kp:PySem.W.keepIn K (.ref f)=true
section
variable {P:aF}{w:ba}{K:PySem.W.Frag}{mg:Str->Option af}{base:Heap}
def iV.ok {x qual:Str}{st:Stmt}{f:ah}{fd:FuncData}{N ps:List Str}{k:Nat}{sp:Sp}(F:iV K x qual st f fd) (S:bV N ps (av st)) (len:∀vs H Q E,sp vs H Q E->vs.length=ps.length)
  (uU:∀(cdv:af) (A:aQ) (outer:List Env) (s:ai) (H:Hp) (vs:List V) (Q:VK) (E:XK),eK k (A.deeper (envOfC qual (av st) s.heap.objs.size f cdv))->sp vs H Q E->
   ∃t,wz (eU fO P w K mg base N qual (av st) f cdv A outer s H E).kF (fu st) t/\t {nx:=fun _ H'=>Q .eA H',rt:=Q} (start N vs) H):dO P w K mg base fO (k+1) f fd ps sp:=by
 obtain⟨oc,od,kV,doc,pm,an,cdv,ct,rZ,rfl,lk,Bh⟩:=F.ex
 refine Mr lk Bh S len fun A outer s H vs Q E hr EZ=>?_
 obtain⟨t,h,q⟩:=uU cdv A outer s H vs Q E hr EZ
 exact⟨t,h.kF,q⟩
def iV.binds {x qual:Str}{st:Stmt}{f:ah}{fd:FuncData}{ps:List Str}(F:iV K x qual st f fd)
  (h:∀(kV doc pm:af) (an:Option ah) (cdv ct:af) (us:List af),us.length=ps.length->bindArgs (PySem.W.fnOf x qual (jm st) (fu st) (av st) .none kV doc pm an cdv ct) ⟨us,[]⟩=pure (ps.zip us)):Binds K fd ps []:=by
 obtain⟨oc,od,kV,doc,pm,an,cdv,ct,rZ,rfl,lk,Bh⟩:=F.ex
 exact .all (h kV doc pm an cdv ct)
def BB {x qual:Str}{st:Stmt}{f:ah}{oc:af}{od an:Option ah}{rZ:Array (Option af)}{kV doc pm cdv ct:af}(l:K.lookup f=some ⟨oc,od,.func (PySem.W.fnOf x qual (jm st) (fu st) (av st) .none kV doc pm an cdv ct),rZ⟩)
  (c:PySem.W.codeIn K cdv qual=true) (k:PySem.W.keepIn K (.ref f)=true):iV K x qual st f (PySem.W.fnOf x qual (jm st) (fu st) (av st) .none kV doc pm an cdv ct):=⟨⟨oc,od,kV,doc,pm,an,cdv,ct,rZ,rfl,l,c⟩,k⟩
end
def dq {n:Nat}(h:n<=1000):n<sizeLine:=cR h (by decide)
section
variable {X:Cx}
def pv (i:Nat) {x:Str}{pos:Pos}(hN:X.N[i]?=some x:=by rfl) (hv:Vd X.env.scope x:=by first|exact Or.inl rfl|exact Or.inr (Or.inl rfl)|exact Or.inr (Or.inr rfl)) (hd:(x==("__debug__":Str))=false:=by decide)
  (Bh:(x==("__classdict__":Str))=false:=by decide):PE X (.Name x pos) (cg i):=NF hN hv hd Bh
end
def pZ {A B:Prop}(h:A):if true=true then A else B:=by
 rw[aP rfl]
 exact h
def eG {c A B:Prop} [Decidable c] (h1:c->A) (h2:¬c->B):if c then A else B:=by
 by_cases h:c
 ·rw[aP h]
  exact h1 h
 ·rw[aO h]
  exact h2 h
def a_ (H H':Hp):Prop:=∀b o,H b=some o->H' b=some o
def a_.refl (H:Hp):a_ H H:=fun _ _ h=>h
def a_.trans {H H1 H2:Hp}(a:a_ H H1) (b:a_ H1 H2):a_ H H2:=fun c o h=>b c o (a c o h)
def a_.seq {K:PySem.W.Frag}{H H':Hp}{a:ah}{xs:List V}(e:a_ H H') (h:cS K H a xs):cS K H' a xs:=by
 rcases h with(h|⟨o,h⟩)|h
 ·exact .inl (.inl (e _ _ h))
 ·exact .inl (.inr ⟨o,e _ _ h⟩)
 ·exact .inr h
def jJ (env:Env):List (Str×NameKind)->List (Str×ah)->List (Str×ah)
 | [],acc=>acc
 |(n,k)::r,acc=>jJ env r (if k== .free then(match env.cells.lookup n with|some c=>(n,c)::acc|none=>acc) else acc)
abbrev mO (scope:Scope) (env:Env):List (Str×ah):=jJ env scope.names []
def p_ {env:Env}{g:Str×NameKind->List (Str×ah)->Sem (ForInStep (List (Str×ah)))}
  (hg:∀n k cs,g (n,k) cs=if(k==NameKind.free)=true then(cellOf env n>>=fun c=>pure (ForInStep.yield ((n,c)::cs))) else pure (ForInStep.yield cs)):
  ∀(names:List (Str×NameKind)) (acc:List (Str×ah)),(∀y∈names,y.2=.free->∃c,env.cells.lookup y.1=some c)->forIn names acc g=pure (jJ env names acc)
 | [],acc,_=>rfl
 |(n,k)::r,acc,h=>by
  rw[nv,hg]
  have hr:∀y∈r,y.2=.free->∃c,env.cells.lookup y.1=some c:=fun y hy=>h y (cm _ hy)
  unfold jJ
  by_cases hk:(k==NameKind.free)=true
  ·rw[aP hk,aP hk]
   obtain⟨c,hc⟩:=h (n,k) cf (by simpa using hk)
   have C7:env.cells.lookup n=some c:=hc
   have e:cellOf env n=pure c:=by unfold cellOf;rw[C7]
   rw[e,pure_bind,pure_bind,C7]
   exact p_ hg r _ hr
  ·rw[aO hk,aO hk,pure_bind]
   exact p_ hg r _ hr
def lU {scope:Scope}{env:Env}(h:∀y∈scope.names,y.2=.free->∃c,env.cells.lookup y.1=some c):closureFor scope env=pure (mO scope env):=by
 unfold closureFor
 dsimp only
 rw[p_ (env:=env) (fun n k cs=>by
  show(if(k==NameKind.free)=true then _ else _)=_
  split
  ·rfl
  ·rfl) scope.names [] h]
 rfl
def zL {env:Env}{x:Str}{c:ah}:∀(names:List (Str×NameKind)) (acc:List (Str×ah)),(∀y c,acc.lookup y=some c->env.cells.lookup y=some c)->(jJ env names acc).lookup x=some c->env.cells.lookup x=some c
 | [],acc,h,e=>h _ _ e
 |(n,k)::r,acc,h,e=>by
  unfold jJ at e
  refine zL r _ ?_ e
  intro y d z
  split at z
  ·split at z
   ·rename_i c' C7
    rw[gu] at z
    cases hy:y==n with
    |true=>
     rw[hy] at z
     have z':c'=d:=cK z
     subst z'
     have:y=n:=by simpa using hy
     rw[this];exact C7
    |false=>rw[hy] at z;exact h _ _ z
   ·exact h _ _ z
  ·exact h _ _ z
def xt {env:Env}{x:Str}:∀(names:List (Str×NameKind)) (acc:List (Str×ah)),(∃c,acc.lookup x=some c)->∃c,(jJ env names acc).lookup x=some c
 | [],acc,h=>h
 |(n,k)::r,acc,h=>by
  unfold jJ
  refine xt r _ ?_
  split
  ·split
   ·rw[gu]
    cases x==n with
    |true=>exact⟨_,rfl⟩
    |false=>exact h
   ·exact h
  ·exact h
def uV {env:Env}{x:Str}:∀(names:List (Str×NameKind)) (acc:List (Str×ah)),(x,NameKind.free)∈names->(∃c,env.cells.lookup x=some c)->∃c,(jJ env names acc).lookup x=some c
 | [],acc,h,_=>nomatch h
 |(n,k)::r,acc,h,hx=>by
  unfold jJ
  rcases aC.mp h with e|e
  ·cases e
   refine xt r _ ?_
   obtain⟨c,hc⟩:=hx
   rw[aP (by decide),hc]
   exact⟨c,by rw[gu,EB]⟩
  ·exact uV r _ e hx
@[reducible] def Cx.xu (X:Cx) (N:List Str) (scope:Scope) (s:ai) (H:Hp) (fp:List ah):Cx:=
 {X with N:=N,gG:=s,Bf:=H,env:=compEnvC scope (mO scope X.env) s.heap.objs.size X.env,outer:=X.stack,stack:=X.stack,ex:=fp,fn:=fun _=>false,pn:=[],xe:=fun _ _=>False}
def pick (σ:St):Option Nat->Option V
 |none=>none
 |some j=>(σ[j]?).join
structure fk (X:Cx) (scope:Scope) (N:List Str) (r:List (Option Nat)):Prop where
 kind:scope.kind=.function
 qc:∀y∈scope.names,y.2≠.cell
 own:∀y∈scope.names,y.2=.local->scope.names.lookup y.1=some .local
 out:∀y∈scope.names,y.2=.free->X.env.scope.names.lookup y.1=some .cell\/X.env.scope.names.lookup y.1=some .free
 len:r.length=N.length
 free:∀(i j:Nat) (x:Str),r[i]?=some (some j)->N[i]?=some x->X.N[j]?=some x/\(x,NameKind.free)∈scope.names/\scope.names.lookup x=some .free
def mZ {f:Str×NameKind->Str×NameKind}(hf:∀y,(f y).1=y.1):∀{names:List (Str×NameKind)}{x:Str}{k:NameKind},(names.map f).lookup x=some k->∃k',names.lookup x=some k'/\(f (x,k')).2=k
 | [],_,_,h=>by simp at h
 |(n,k0)::r,x,k,h=>by
  rw[bH] at h
  have e1:(f (n,k0)).1=n:=hf _
  have e2:f (n,k0)=(n,(f (n,k0)).2):=Prod.ext e1 rfl
  rw[e2,gu] at h
  cases hx:x==n with
  |true=>
   rw[hx] at h
   have WK:x=n:=by simpa using hx
   subst WK
   exact⟨k0,by rw[gu,EB],cK h⟩
  |false=>
   rw[hx] at h
   obtain⟨k',h1,h2⟩:=mZ hf h
   exact⟨k',by rw[gu,hx];exact h1,h2⟩
def m_ {f:Str×NameKind->Str×NameKind}(hf:∀y,(f y).1=y.1):∀{names:List (Str×NameKind)}{x:Str}{k:NameKind},names.lookup x=some k->(names.map f).lookup x=some (f (x,k)).2
 | [],_,_,h=>by simp at h
 |(n,k0)::r,x,k,h=>by
  rw[bH]
  have e1:(f (n,k0)).1=n:=hf _
  have e2:f (n,k0)=(n,(f (n,k0)).2):=Prod.ext e1 rfl
  rw[e2,gu]
  rw[gu] at h
  cases hx:x==n with
  |true=>
   rw[hx] at h
   have WK:x=n:=by simpa using hx
   subst WK
   have:k0=k:=cK h
   subst this
   rfl
  |false=>
   rw[hx] at h
   exact m_ hf h
def qW {scope:Scope}{env:Env}{x:Str}{k:NameKind}(hc:∀y∈scope.names,y.2≠.cell) (h:(relabel scope env).names.lookup x=some k) (hk:k=.cell\/k=.free):scope.names.lookup x=some .free:=by
 have h':(scope.names.map fun(y:Str×NameKind)=>if(y.2==NameKind.free&&env.scope.kind== .function&&env.kindOf y.1==some .cell)=true then(y.1,NameKind.cell) else y).lookup x=some k:=h
 obtain⟨k',h1,h2⟩:=mZ (f:=fun y=>if(y.2==NameKind.free&&env.scope.kind== .function&&env.kindOf y.1==some .cell)=true then(y.1,NameKind.cell) else y) (fun y=>by split<;>rfl) h'
 dsimp only at h2
 split at h2
 ·rename_i z
  have z1:(k'==NameKind.free)=true:=by
   simp only[cI] at z
   exact z.1.1
  have:k'=.free:=by simpa using z1
  rw[this] at h1;exact h1
 ·have N_:k'=k:=h2
  subst N_
  rcases hk with rfl|rfl
  ·exact absurd rfl (hc _ (gi h1))
  ·exact h1
def yk {scope:Scope}{env:Env}{x:Str}(h:scope.names.lookup x=some .free):(relabel scope env).names.lookup x=some .cell\/(relabel scope env).names.lookup x=some .free:=by
 have q:=m_ (f:=fun(y:Str×NameKind)=>if(y.2==NameKind.free&&env.scope.kind== .function&&env.kindOf y.1==some .cell)=true then(y.1,NameKind.cell) else y) (fun y=>by split<;>rfl) h
 have q':(relabel scope env).names.lookup x=_:=q
 rw[q']
 dsimp only
 split
 ·exact .inl rfl
 ·exact .inr rfl
section
variable {X:Cx}
def Ms (X:Cx) (ifs:List Expr) (t:TT):Prop:=
 ∀(pins:List (ah×Obj)) (s:ai) (σ:St) (H:Hp) (Q:Bool->Hp->Prop),Inv X pins σ H s->t σ H Q->
  wpAny (model X.prog X.w) X.A (forIn ifs true fun c r=>if r=true then do let ok<-isTrue c X.env (eval c X.env);pure (ForInStep.yield ok) else pure (ForInStep.yield r)) (TP X pins σ Q) X.xe s
def qd:TT:=fun _ H Q=>Q true H
def iK:Ms X [] qd:=fun pins s σ H Q I h=>wpAny_tests_nil ⟨H,I,h⟩
def hV {c:Expr}{t:TT}(hc:PT X c t):Ms X [c] t:=fun pins s σ H Q I h=>wpAny_tests_one (hc pins s σ H Q I h)
def n_ {prog:aF}{w:ba}{A:aQ}{R:Result->ai->Prop}{s:ai}{elt target iter:Expr}{ifs:List Expr}{scope:Scope}{pos:Pos}{it acc:af}{env:Env}(I:Nat->ai->Prop)
  (turn:∀n s,I n s->wpAny (model prog w) A (pyNext it) (fun r eN=>match r with
   |none=>R (.ok .next) eN
   |some v=>wpAny (model prog w) A (letOwnedTupleGo target it v) (fun _ eN=>wpAny (model prog w) A (assign target env v) (fun _ nR=>
    wpAny (model prog w) A (forIn ifs true fun c r=>if r=true then do let ok<-isTrue c env (eval c env);pure (ForInStep.yield ok) else pure (ForInStep.yield r)) (fun ok E6=>
     if ok=true then wpAny (model prog w) A (eval elt env) (fun x R_=>
      wpAny (model prog w) A (call (.builtin "list.append") [acc,x]) (fun _ Sa=>∃m,m<n/\I m Sa) (notedBy (model prog w) A env fun e s'=>R (.error e) s') R_) (notedBy (model prog w) A env fun e s'=>R (.error e) s') E6
     else∃m,m<n/\I m E6) (notedBy (model prog w) A env fun e s'=>R (.error e) s') nR) (notedBy (model prog w) A env fun e s'=>R (.error e) s') eN)
    (notedBy (model prog w) A env fun e s'=>R (.error e) s') eN) (notedBy (model prog w) A env fun e s'=>R (.error e) s') s)
  (n:Nat) (h:I n s):
  codeAny (model prog w) A (.compLoop (.ListComp elt [⟨target,iter,ifs,0⟩] scope pos) 0 it acc env) R s:=by
 refine codeAny_loop rfl I (fun n s hI=>?_) n h
 show wpAny _ A ((compTurn (.ListComp elt [⟨target,iter,ifs,0⟩] scope pos) 0 it acc env).onRaise (fun x=>do noteFrame x env;theTreesLotGoes x)) _ _ s
 refine wpAny_noted ?_
 rw[compTurn_list]
 refine aa (jx (aa (bK (turn n s hI) (fun r eN E7=>?_) fun _ _ h'=>h')))
 cases r with
 |none=>exact ak E7
 |some v=>
  refine aa (bK E7 (fun _ ZP Sb=>?_) fun _ _ h'=>h')
  refine aa (bK Sb (fun _ nR He=>aa (bK He (fun ok E6 Kw=>?_) fun _ _ h'=>h')) fun _ _ h'=>h')
  cases ok with
  |false=>exact ak ⟨rfl,Kw⟩
  |true=>
   exact aa (aa (bK Kw (fun x R_ WL=>aa (bK WL (fun _ Sa WM=>ak (ak ⟨rfl,WM⟩)) fun _ _ h'=>h')) fun _ _ h'=>h'))
def r_ {N:List Str}{scope:Scope}{r:List (Option Nat)}{pins:List (ah×Obj)}{σ:St}{H:Hp}{s:ai}{h4:Heap}{tk:Nat}{fp:List ah}(S:fk X scope N r) (I:Inv X pins σ H s) (hf:∀b∈fp,mi X pins H b) (nX:∀b∈fp,b<s.heap.objs.size)
  (Q6:h4.Ns s.heap.objs.size (fun x=>([]:List (Str×af)).reverse.lookup x)) (hk:∀b o,s.heap.get? b=some o->h4.get? b=some o):
  Inv (X.xu N scope s H fp) [] (r.map (pick σ)) H {s with heap:=h4,toks:=tk}:=by
 have E8:∀x c,(mO scope X.env).lookup x=some c->X.env.cells.lookup x=some c:=fun x c e=>zL scope.names [] (fun _ _ z=>by simp at z) e
 have xv:∀b∈fp,b∉nE X.stack:=fun b hb z=>by
  obtain⟨_,f1,f2,_⟩:=hf b hb
  rcases aC.mp (I.rS b z) with e|e
  ·exact f1 e
  ·exact f2 e
 refine⟨⟨I.ok.mod,S.kind,I.ok.glob,I.ok.blt,aB _,fun x y c h1 h2=>I.ok.inj x y c (E8 x c h1) (E8 y c h2),fun x hx=>?_,fun x c z=>absurd z (by simp),I.ok.hd,I.ok.frames,.inl rfl,
   fun b hb=>⟨bb (nX b hb),fun x c e=>(hf b hb).2.2.2.2.1 x c (E8 x c e)⟩,I.bs,bh I.ok.Bg I.sz,fun b o e hb=>?_,xv,I.stack,I.xY⟩,
  rfl,I.bare,Un.kept hk,⟨_,Q6,fun i x v e1 e2 e3=>?_⟩,fun x c e=>?_,I.eE.fresh (aB _),fun x c e=>I.iZ x c (E8 x c e),fun p hp=>absurd (show p∈([]:List (ah×Obj)) from hp) (by simp),I.eE.kept hk,?_⟩
 ·have RR:(relabel scope X.env).names.lookup x=some .cell\/(relabel scope X.env).names.lookup x=some .free:=hx
  have C6:scope.names.lookup x=some .free:=by
   rcases RR with z|z
   ·exact qW S.qc z (.inl rfl)
   ·exact qW S.qc z (.inr rfl)
  have hm:=gi C6
  exact uV scope.names [] hm (I.ok.has x (S.out _ hm rfl))
 ·obtain⟨_,_,_,f3,_⟩:=hf b hb
  rcases f3 with z|z
  ·exact I.ok.wy b o e z
  ·exact absurd (bT (aA (I.ok.bs b o e).1) z) (gm _)
 ·rw[bX] at e2
  cases hr:r[i]? with
  |none=>rw[hr] at e2;cases e2
  |some oj=>
   rw[hr] at e2
   cases oj with
   |none=>cases e2
   |some j=>
    have uW:pick σ (some j)=some v:=cK e2
    obtain⟨k1,k2,k3⟩:=S.free i j x hr e1
    have e4:σ[j]?=some (some v):=by
     have uW:(σ[j]?).join=some v:=uW
     cases hj:σ[j]? with
     |none=>rw[hj] at uW;cases uW
     |some o=>rw[hj] at uW;rw[show o=some v from uW]
    obtain⟨m,hn,hl⟩:=I.loc
    have vis:Vd X.env.scope x:=by
     rcases S.out _ k2 rfl with z|z
     ·exact .inr (.inl z)
     ·exact .inr (.inr z)
    obtain⟨u,ru,lk⟩:=hl j x v k1 e4 vis
    refine⟨u,ru,.inr ⟨yk k3,?_⟩⟩
    rcases lk with⟨z,_⟩|⟨_,c,ec,ic⟩
    ·have z':X.env.scope.names.lookup x=some .local:=z
     rcases S.out _ k2 rfl with y|y
     ·rw[y] at z';cases z'
     ·rw[y] at z';cases z'
    ·obtain⟨c',ZQ⟩:=uV scope.names [] k2 ⟨c,ec⟩
     have:c'=c:=cK ((E8 x c' ZQ).symm.trans ec)
     subst this
     exact⟨c',ZQ,ic.keeps hk⟩
 ·obtain⟨v,z⟩:=I.cell x c (E8 x c e)
  exact⟨v,z.keeps hk⟩
 ·rw[aq];exact S.len
def ym {N:List Str}{scope:Scope}{pins:List (ah×Obj)}{σ bW:St}{H H0 H':Hp}{s s0 s':ai}{h':Heap}{fp:List ah}(I:Inv X pins σ H s) (hf:∀b∈fp,mi X pins H b)
  (u0:Un (nE X.stack) fp H H0 s.heap s0.heap) (hsz:s.heap.objs.size<=s0.heap.objs.size) (ho:s0.os=s.os) (J:Inv (X.xu N scope s0 H0 fp) [] bW H' s') (hs:Heap.SameBut s0.heap.objs.size s'.heap h'):Inv X pins σ H' {s' with heap:=h'}:=by
 have u:Un (nE X.stack) fp H H' s.heap s'.heap:=u0.trans J.base
 have ne:∀b o,s.heap.get? b=some o->b≠s0.heap.objs.size:=fun b o e=>bb (bT (aA e) hsz)
 have hC:H' s0.heap.objs.size=none:=J.free
 refine I.GC (s':={s' with heap:=h'}) (ch:=fp) (J.os.trans ho) ⟨fun b o e n hb hx=>(hs.2 b (ne b o e)).trans (u.keep b o e n hb hx),fun b o e n hb hx=>?_,u.free,fun b o e hx=>?_,u.mJ,u.nQ,u.pH⟩ (fun b ob e=>?_) J.bare fun b hb=>⟨(hf b hb).2.2.2.1,(hf b hb).2.1,(hf b hb).2.2.2.2.1,(hf b hb).2.2.2.2.2⟩
 ·obtain⟨sl,e1⟩:=u.slot b o e n hb hx
  exact⟨sl,(hs.2 b (ne b o e)).trans e1⟩
 ·obtain⟨o',e1⟩:=u.there b o e hx
  exact⟨o',(hs.2 b (ne b o e)).trans e1⟩
 ·refine(J.eE b ob e).pG (fun c w' hc q=>(hs.2 c ?_).trans q) (fun _ q=>q) fun _ _ q=>q
  rintro rfl
  rcases hc with rfl|hc
  ·rw[hC] at e;cases e
  ·rw[hC] at hc;cases hc
def pK (J:It) (g:TG) (tc:TT) (te:TE) (E9:St) (H1:Hp) (Q:VK) (D:ah):Prop:=
 ∃W:Nat->Nat->St->Hp->Prop,(∃m,W 0 m E9 (upd H1 D (.lst [])))/\∀i m bW H',W i m bW H'->
  (J.stop i H'/\Q (.ref D) H')\/(J.go i H'/\∃(N:St->Hp->Prop) (M:V->St->Hp->Prop),(∀iE H4,N iE H4->∃m',m'<m/\W (i+1) m' iE H4)/\
   (∀y iE H5,M y iE H5->∃xs m',H5 D=some (.lst xs)/\xs.length<sizeLine/\m'<m/\W (i+1) m' iE (upd H5 D (.lst (xs++ [y]))))/\
   ∀x H2,J.Bk i H' x H2->g x bW H2 fun iE H3=>tc iE H3 fun b H4=>if b=true then te iE H4 fun y H5=>M y iE H5 else N iE H4)
def WN (wi:TI) (r:List (Option Nat)) (g:TG) (tc:TT) (te:TE):TE:=fun σ H Q=>wi σ H fun J H1=>∀D,H1 D=none->pK J g tc te (r.map (pick σ)) H1 Q D
def ke {elt tg iter:Expr}{ifs:List Expr}{scope:Scope}{pos:Pos}{wi:TI}{N:List Str}{r:List (Option Nat)}{g:TG}{tc:TT}{te:TE}(hc:X.calm=true) (hi:PI X tg iter wi) (S:fk X scope N r)
  (hg:∀s H fp,PG (X.xu N scope s H fp) tg g) (ht:∀s H fp,Ms (X.xu N scope s H fp) ifs tc) (he:∀s H fp,PE (X.xu N scope s H fp) elt te)
  (hs:∀x,foldedSetIterable iter X.env x=pure x:=by intro _;rfl):PE X (.ListComp elt [⟨tg,iter,ifs,0⟩] scope pos) (WN wi r g tc te):=by
 intro pins s σ H Q I h
 rw[eval_ListComp]
 have Hf:closureFor scope X.env=pure (mO scope X.env):=lU fun y hy hk=>I.ok.has y.1 (S.out y hy hk)
 refine uF (use:=none) rfl hs Hf S.kind S.own ?_
 show wpAny _ _ (eval iter X.env) _ _ s
 refine e_ (hi pins s σ H _ I h) fun v s1 h1=>e_ h1 fun NJ s2 h2=>?_
 obtain⟨it,fp,tn,J,H2,e,I2,T,AU,f2,q2⟩:=h2
 subst e
 have hD:H2 s2.heap.objs.size=none:=I2.eE.fresh (aB _)
 obtain⟨W,⟨m0,w0⟩,turn⟩:=q2 _ hD
 have zM:∀b∈fp,b<s2.heap.objs.size:=fun b hb=>by
  obtain⟨o,e,_⟩:=T.obj _ _ AU b hb
  exact aA e
 refine bD ?_
 generalize AW:({s2 with heap:=s2.heap.push {cls:=.type "list",dict:=none,data:=.seq ([]:List af).toArray}}:ai)=s3
 have k3:∀b o,s2.heap.get? b=some o->s3.heap.get? b=some o:=fun b o e=>by rw[<-AW];exact ag _ e
 have z3:s3.heap.objs.size=s2.heap.objs.size+1:=by rw[<-AW];exact bZ ..
 have u3:Un (nE X.stack) fp H2 (upd H2 s2.heap.objs.size (.lst [])) s2.heap s3.heap:=Un.laid k3 (aB _) hD
 have o3:s3.os=s2.os:=by rw[<-AW]
 have I3:Inv X pins σ (upd H2 s2.heap.objs.size (.lst [])) s3:=by
  rw[<-AW]
  exact I2.laid (t':=s2.toks) (fun b u e=>ag _ e) (aB _) ⟨fH _,[],0,.nil,aw _ rfl⟩
 have f3:∀b∈fp,mi X pins (upd H2 s2.heap.objs.size (.lst [])) b:=fun b hb=>⟨by rw[aV (bb (zM b hb))];exact(f2 b hb).1,(f2 b hb).2⟩
 refine A7 S.qc (by intro y hy;simp at hy) (fun h4 Hg Hh=>?_) S.kind
 have k4:∀b o,s3.heap.get? b=some o->h4.get? b=some o:=fun b o e=>Hh.extBut b o (bb (aA e)) (ag _ e)
 have J4:Inv (X.xu N scope s3 (upd H2 s2.heap.objs.size (.lst [])) fp) [] (r.map (pick σ)) (upd H2 s2.heap.objs.size (.lst [])) {s3 with heap:=h4,toks:=s3.toks+([]:List (Str×af)).length}:=
  r_ S I3 f3 (fun b hb=>by rw[z3];exact gT (zM b hb)) Hg k4
 have Hi:tn 0 h4:=T.keep _ _ _ AU fun b _ o e=>k4 b o (k3 b o e)
 have pW:∀{H':Hp},(∀b∈fp,H' b=none)->∀b∈fp,mi (X.xu N scope s3 (upd H2 s2.heap.objs.size (.lst [])) fp) [] H' b:=fun hn b hb=>
  ⟨hn b hb,(J4.ok.EI b hb).1,J4.ok.tV b hb,.inl hb,(J4.ok.EI b hb).2,fun p hp=>absurd (show p∈([]:List (ah×Obj)) from hp) (by simp)⟩
 generalize hY:X.xu N scope s3 (upd H2 s2.heap.objs.size (.lst [])) fp=Y at*
 have loop:∀s4:ai,s4={s3 with heap:=h4,toks:=s3.toks+([]:List (Str×af)).length}->
   codeAny (model X.prog X.w) X.A (.compLoop (.ListComp elt [⟨tg,iter,ifs,0⟩] scope pos) 0 (.ref it) (.ref s2.heap.objs.size) Y.env) (compPost (model X.prog X.w) X.A X.xe none (EP X pins σ Q) (.ref s2.heap.objs.size) s3.heap.objs.size) s4:=by
  rintro s4 rfl
  have yp:Y.prog=X.prog:=by rw[<-hY]
  have yw:Y.w=X.w:=by rw[<-hY]
  have yK:Y.K=X.K:=by rw[<-hY]
  have yA:Y.A=X.A:=by rw[<-hY]
  have yc:Y.calm=true:=by rw[<-hY];exact hc
  have Sd:PG Y tg g:=by rw[<-hY];exact hg _ _ _
  have Se:Ms Y ifs tc:=by rw[<-hY];exact ht _ _ _
  have Sf:PE Y elt te:=by rw[<-hY];exact he _ _ _
  have yx:∀e s',¬Y.xe e s':=fun e s' z=>by rw[<-hY] at z;exact z
  refine n_ (fun n s'=>∃i bW H',Inv Y [] bW H' s'/\tn i s'.heap/\(∀b∈fp,H' b=none)/\W i n bW H') ?_ m0 ⟨0,_,_,J4,Hi,fun b hb=>(f3 b hb).1,w0⟩
  rintro n s5 ⟨i,Ds,H5,I5,Gf,JO,w5⟩
  rcases turn i n Ds H5 w5 with⟨stop,qn⟩|⟨go,Nn,Mm,Sg,Sh,step⟩
  ·have d:=T.done Y yp yw yK yc i [] s5 Ds H5 (notedBy (model X.prog X.w) X.A Y.env fun e s'=>compPost (model X.prog X.w) X.A X.xe none (EP X pins σ Q) (.ref s2.heap.objs.size) s3.heap.objs.size (.error e) s') I5 (pW JO) Gf stop
   rw[yA] at d
   refine e_ d fun rr s6 ⟨hr,I6⟩=>?_
   subst hr
   obtain⟨m,hn,_⟩:=id I6.loc
   refine⟨m,by rw[<-hY] at hn;exact hn,fun h' Si=>⟨.ref s2.heap.objs.size,H5,?_,rfl,qn⟩⟩
   rw[<-hY] at I6
   exact ym I2 f2 u3 (by rw[z3];exact dE _) o3 I6 Si
  ·have d:=T.item Y yp yw yK yc i [] s5 Ds H5 (notedBy (model X.prog X.w) X.A Y.env fun e s'=>compPost (model X.prog X.w) X.A X.xe none (EP X pins σ Q) (.ref s2.heap.objs.size) s3.heap.objs.size (.error e) s') I5 (pW JO) Gf go
   rw[yA] at d
   refine e_ d fun rr s6 ⟨u,hr,h6⟩=>?_
   subst hr
   refine e_ h6 fun _ s7 ⟨x,H7,I7,r7,y7,Hj,Sj⟩=>?_
   have Sk:=I7.pinned (pW Sj) (T.obj _ _ Hj)
   have g7:=Sd _ s7 Ds H7 x u _ Sk r7 (step x H7 y7)
   rw[yp,yw,yA] at g7
   refine bK g7 (fun _ s8 ⟨xw,H8,I8,q8⟩=>?_) fun e s' z=>(yx e s' z).elim
   have t8:=Se _ s8 xw H8 _ I8 q8
   rw[yp,yw,yA] at t8
   refine bK t8 (fun ok s9 ⟨H9,I9,q9⟩=>?_) fun e s' z=>(yx e s' z).elim
   have again:∀{s10:ai} {uX:Hp} {m':Nat},Inv Y ([]++pV fp s7.heap) xw uX s10->m'<n->W (i+1) m' xw uX->∃m,m<n/\∃i bW H',Inv Y [] bW H' s10/\tn i s10.heap/\(∀b∈fp,H' b=none)/\W i m bW H':=fun{s10 uX m'} zN hm BC=>by
    refine⟨m',hm,i+1,xw,uX,zN.mj,T.keep _ _ _ Hj fun b hb o e=>(zN.pin (b,o) (bG _ (bG _ (ib hb e)))).1,fun b hb=>?_,BC⟩
    obtain⟨o,e,d⟩:=T.obj _ _ Hj b hb
    exact(zN.pin (b,o) (bG _ (bG _ (ib hb e)))).2.1
   cases ok with
   |false=>
    rw[aO (by simp)] at q9⊢
    obtain⟨m',hm,w9⟩:=Sg _ _ q9
    exact again I9 hm w9
   |true=>
    rw[aP rfl] at q9⊢
    have e9:=Sf _ s9 xw H9 _ I9 q9
    rw[yp,yw,yA] at e9
    refine bK e9 (fun uu s10 ⟨y,uX,zN,r10,hM⟩=>?_) fun e s' z=>(yx e s' z).elim
    obtain⟨xs,m',Hk,hz,hm,BC⟩:=Sh _ _ _ hM
    have a10:=gw _ s10 xw uX (.ref s2.heap.objs.size) [y] (.ref s2.heap.objs.size) [uu] (fun v Hq=>v=.eA/\Hq=upd uX s2.heap.objs.size (.lst (xs++ [y]))) zN rfl (.cons r10 .nil) ⟨_,xs,y,rfl,rfl,Hk,hz,rfl,rfl⟩
    rw[yp,yw,yA] at a10
    refine bK a10 (fun _ s11 ⟨_,ZR,Sl,_,_,Sm⟩=>?_) fun e s' z=>(yx e s' z).elim
    subst Sm
    exact again Sl hm BC
 have Sn:Y.env={scope:=relabel scope X.env,locals:=s3.heap.objs.size,globals:=X.env.globals,cells:=mO scope X.env,qual:=X.env.qual,func:=none,code:=X.env.code,frame:=X.env.frame,builtins:=X.env.builtins}:=by rw[<-hY];rfl
 rw[Sn] at loop
 exact xT (loop _ rfl) (T.self _ 0 _ _ _ Hi (loop _ rfl))
def lD {J:It}{n:Nat}{f:Nat->V}{g:TG}{tc:TT}{te:TE}{E9:St}{H1:Hp}{Q:VK}{D:ah}(Iv:Nat->List V->St->Hp->Prop) (hD:H1 D=none) (hn:n<=1000)
  (h0:Iv 0 [] E9 (upd H1 D (.lst [])))
  (hj:∀i ys σ H,i<=n->H D=some (.lst ys)->Iv i ys σ H->(i=n->J.stop i H)/\(i<n->J.go i H/\∀x H',J.Bk i H x H'->H'=H/\x=f i))
  (hs:∀i ys σ H,i<n->H D=some (.lst ys)->Iv i ys σ H->g (f i) σ H fun iE H3=>tc iE H3 fun b H4=>
   if b=true then te iE H4 fun y H5=>H5 D=some (.lst ys)/\Iv (i+1) (ys++ [y]) iE (upd H5 D (.lst (ys++ [y]))) else H4 D=some (.lst ys)/\Iv (i+1) ys iE H4)
  (hd:∀ys σ H,H D=some (.lst ys)->Iv n ys σ H->Q (.ref D) H):pK J g tc te E9 H1 Q D:=by
 refine⟨fun i m σ H=>m=n-i/\i<=n/\∃ys,H D=some (.lst ys)/\ys.length<=i/\Iv i ys σ H,⟨n,rfl,fH _,[],az,aB _,h0⟩,?_⟩
 rintro i m σ H ⟨rfl,hi,ys,hy,hl,iv⟩
 obtain⟨j1,j2⟩:=hj i ys σ H hi hy iv
 by_cases nX:i<n
 ·obtain⟨go,yl⟩:=j2 nX
  refine .inr ⟨go,fun iE H4=>H4 D=some (.lst ys)/\Iv (i+1) ys iE H4,fun y iE H5=>H5 D=some (.lst ys)/\Iv (i+1) (ys++ [y]) iE (upd H5 D (.lst (ys++ [y]))),fun iE H4 q=>?_,fun y iE H5 q=>?_,fun x H2 q=>?_⟩
  ·exact⟨n-(i+1),by omega,rfl,nX,ys,q.1,by omega,q.2⟩
  ·exact⟨ys,n-(i+1),q.1,dq (by omega),by omega,rfl,nX,ys++ [y],az,by rw[aK,aG];omega,q.2⟩
  ·obtain⟨rfl,rfl⟩:=yl x H2 q
   exact hs i ys σ _ nX hy iv
 ·have e:i=n:=by omega
  subst e
  exact .inl ⟨j1 rfl,hd ys σ H hy iv⟩
end
mutual
def Tells (H:Hp) (k:ah):PyData->V->Prop
 | .none,v=>v=.eA
 | .bool b,v=>v=.bl b
 | .int i,v=>v=.int i
 | .str x,v=>v=.str x
 | .list ds,v=>∃a vs,v=.ref a/\a≠k/\H a=some (.lst vs)/\cY H k ds vs
 | .tuple ds,v=>∃a vs,v=.ref a/\a≠k/\H a=some (.tup vs)/\cY H k ds vs
 | .dict _,_=>False
def cY (H:Hp) (k:ah):List PyData->List V->Prop
 | [],vs=>vs=[]
 |d::ds,vs=>∃v r,vs=v::r/\Tells H k d v/\cY H k ds r
end
def dY (k:ah) (H H':Hp):Prop:=∀b o,b≠k->H b=some o->H' b=some o
def dY.refl (k:ah) (H:Hp):dY k H H:=fun _ _ _ e=>e
def dY.trans {k:ah}{H H1 H2:Hp}(a:dY k H H1) (b:dY k H1 H2):dY k H H2:=fun c o n e=>b c o n (a c o n e)
def a_.keep {k:ah}{H H':Hp}(a:a_ H H'):dY k H H':=fun c o _ e=>a c o e
def aN {H:Hp}{p:ah}(h:H p=none) (o:HO):a_ H (upd H p o):=fun b u q=>by rw[aV (dj q h)];exact q
def dY.new {k:ah}{H:Hp}{p:ah}(h:H p=none) (o:HO):dY k H (upd H p o):=(aN h o).keep
def dY.at {k:ah}{H:Hp}(o:HO):dY k H (upd H k o):=fun b u n e=>by rw[aV n];exact e
mutual
def Tells.keep {H H':Hp}{k:ah}(K:dY k H H'):∀{d:PyData}{v:V},Tells H k d v->Tells H' k d v
 | .none,_,h=>by unfold Tells at h⊢;exact h
 | .bool _,_,h=>by unfold Tells at h⊢;exact h
 | .int _,_,h=>by unfold Tells at h⊢;exact h
 | .str _,_,h=>by unfold Tells at h⊢;exact h
 | .list ds,v,h=>by
  unfold Tells at h⊢
  obtain⟨a,vs,e,n,q,r⟩:=h
  exact⟨a,vs,e,n,K a _ n q,cY.keep K r⟩
 | .tuple ds,v,h=>by
  unfold Tells at h⊢
  obtain⟨a,vs,e,n,q,r⟩:=h
  exact⟨a,vs,e,n,K a _ n q,cY.keep K r⟩
 | .dict _,_,h=>by unfold Tells at h;exact h.elim
def cY.keep {H H':Hp}{k:ah}(K:dY k H H'):∀{ds:List PyData}{vs:List V},cY H k ds vs->cY H' k ds vs
 | [],_,h=>by unfold cY at h⊢;exact h
 |d::ds,vs,h=>by
  unfold cY at h⊢
  obtain⟨v,r,e,q,qs⟩:=h
  exact⟨v,r,e,Tells.keep K q,cY.keep K qs⟩
end
def jC {H:Hp}{k:ah}{ds:List PyData}{v:V}:Tells H k (.list ds) v↔∃a vs,v=.ref a/\a≠k/\H a=some (.lst vs)/\cY H k ds vs:=by
 rw[Tells]
def eO {H:Hp}{k:ah}{ds:List PyData}{v:V}:Tells H k (.tuple ds) v↔∃a vs,v=.ref a/\a≠k/\H a=some (.tup vs)/\cY H k ds vs:=by
 rw[Tells]
def eY {H:Hp}{k:ah}{x:Str}{v:V}:Tells H k (.str x) v↔v=.str x:=by rw[Tells]
def i9 {H:Hp}{k:ah}{i:Int}{v:V}:Tells H k (.int i) v↔v=.int i:=by rw[Tells]
def qe {H:Hp}{k:ah}{b:Bool}{v:V}:Tells H k (.bool b) v↔v=.bl b:=by rw[Tells]
def qf {H:Hp}{k:ah}{v:V}:Tells H k .none v↔v=.eA:=by rw[Tells]
def eg {H:Hp}{k:ah}{vs:List V}:cY H k [] vs↔vs=[]:=by rw[cY]
def bS {H:Hp}{k:ah}{d:PyData}{ds:List PyData}{vs:List V}:cY H k (d::ds) vs↔∃v r,vs=v::r/\Tells H k d v/\cY H k ds r:=by rw[cY]
def gK {H:Hp}{k:ah}:∀{ds:List PyData}{vs:List V},cY H k ds vs->vs.length=ds.length
 | [],_,h=>by rw[eg.mp h];rfl
 |d::ds,_,h=>by
  obtain⟨v,r,rfl,_,q⟩:=bS.mp h
  simp[gK q]
def mP {H:Hp}{k:ah}:∀{ds:List PyData}{vs:List V}{i:Nat}{v:V},cY H k ds vs->vs[i]?=some v->∃d,ds[i]?=some d/\Tells H k d v
 | [],_,i,v,h,e=>by rw[eg.mp h] at e;simp at e
 |d::ds,_,0,v,h,e=>by
  obtain⟨w,r,rfl,q,_⟩:=bS.mp h
  simp at e;subst e
  exact⟨d,rfl,q⟩
 |d::ds,_,i+1,v,h,e=>by
  obtain⟨w,r,rfl,_,q⟩:=bS.mp h
  exact mP (i:=i) q (by simpa using e)
def yn {H:Hp}{k:ah}{d:PyData}{v:V}(h:Tells H k d v):cY H k [d] [v]:=bS.mpr ⟨v,[],rfl,h,eg.mpr rfl⟩
section
variable {X:Cx}{pins:List (ah×Obj)}{σ:St}{H:Hp}{s:ai}
mutual
def Tells.reads (I:Inv X pins σ H s) {k:ah}:∀{d:PyData}{v:V}{u:af},Tells H k d v->RelV v u->∃as,Reads s.heap u d as
 | .none,v,u,h,r=>by
  rw[qf] at h;subst h
  cases(show u=Value.none from r)
  exact⟨_,.none⟩
 | .bool b,v,u,h,r=>by
  rw[qe] at h;subst h
  cases(show u=Value.bool b from r)
  exact⟨_,.bool b⟩
 | .int i,v,u,h,r=>by
  rw[i9] at h;subst h
  obtain⟨t,rfl⟩:=(show∃t,u=Value.int i t from r)
  exact⟨_,.int i t⟩
 | .str x,v,u,h,r=>by
  rw[eY] at h;subst h
  obtain⟨t,rfl⟩:=(show∃t,u=Value.str x t from r)
  exact⟨_,.str x t⟩
 | .list ds,v,u,h,r=>by
  obtain⟨a,vs,rfl,_,e,q⟩:=jC.mp h
  cases(show u=Value.ref a from r)
  obtain⟨_,cE,n,rv,g⟩:=I.eE a _ e
  obtain⟨as,ra⟩:=cY.reads I q rv
  exact⟨_,.list g rfl rfl (by simpa using ra)⟩
 | .tuple ds,v,u,h,r=>by
  obtain⟨a,vs,rfl,_,e,q⟩:=eO.mp h
  cases(show u=Value.ref a from r)
  obtain⟨_,cE,rv,o,g,c,_,n,dt⟩:=I.eE a _ e
  obtain⟨as,ra⟩:=cY.reads I q rv
  exact⟨_,.tuple g c dt (by simpa using ra)⟩
 | .dict _,_,_,h,_=>by unfold Tells at h;exact h.elim
def cY.reads (I:Inv X pins σ H s) {k:ah}:∀{ds:List PyData}{vs:List V}{us:List af},cY H k ds vs->cy vs us->∃as,ReadsAll s.heap us ds as
 | [],_,us,h,r=>by
  rw[eg] at h;subst h
  cases r
  exact⟨_,.nil⟩
 |d::ds,_,us,h,r=>by
  obtain⟨w,rr,rfl,q1,q2⟩:=bS.mp h
  cases r with
  |cons r1 r2=>
   obtain⟨as,a1⟩:=Tells.reads I q1 r1
   obtain⟨bs,a2⟩:=cY.reads I q2 r2
   exact⟨_,.cons a1 a2⟩
end
end
def tyName:PyData->String
 | .none=>"NoneType"
 | .bool _=>"bool"
 | .int _=>"int"
 | .str _=>"str"
 | .list _=>"list"
 | .tuple _=>"tuple"
 | .dict _=>"dict"
def Tells.ty {H:Hp}{k:ah}{K:PySem.W.Frag}:∀{d:PyData}{v:V},Tells H k d v->rY K H v (.type (tyName d))
 | .none,v,h=>by rw[qf] at h;subst h;exact .eA
 | .bool b,v,h=>by rw[qe] at h;subst h;exact .bl b
 | .int i,v,h=>by rw[i9] at h;subst h;exact .int i
 | .str x,v,h=>by rw[eY] at h;subst h;exact .str x
 | .list ds,v,h=>by obtain⟨a,vs,rfl,_,e,q⟩:=jC.mp h;exact .lst e
 | .tuple ds,v,h=>by obtain⟨a,vs,rfl,_,e,q⟩:=eO.mp h;exact .tup e
 | .dict _,_,h=>by unfold Tells at h;exact h.elim
def zp:PyData->String->Bool
 | .bool _,n=>n=="bool"||n=="int"
 |d,n=>n==tyName d
def Kx (K:PySem.W.Frag) (d:PyData) (n:String) (hd:∀de,d≠.dict de) (hn:n="int"\/n="bool"\/n="str"\/n="tuple"\/n="list"):PySem.W.kitOne K (.type (tyName d)) (.type n)=some (zp d n):=by
 rcases hn with rfl|rfl|rfl|rfl|rfl<;>cases d<;>first|exact absurd rfl (hd _)|rfl|decide+kernel
section
variable {X:Cx}
def So:List V->Hp->VK->Prop:=fun xs H Q=>∃k x n d,xs=[x,.ty n]/\Tells H k d x/\(n="int"\/n="bool"\/n="str"\/n="tuple"\/n="list")/\Q (.bl (zp d n)) H
def fF:gE X (.builtin "isinstance") So:=by
 intro pins s σ H xs us Q I r h
 obtain⟨k,x,n,d,rfl,t,hn,q⟩:=h
 obtain⟨u,u',rfl,r1,r2⟩:=vals2 r
 cases(show u'=Value.type n from r2)
 refine EV I r1 t.ty (Kx _ d n (fun de e=>?_) hn) fun tk=>⟨.bl _,H,I.tok tk,rfl,q⟩
 subst e
 unfold Tells at t
 exact t
def Lay (d:PyData):Prop:=d.canLay0=true/\d.depth<=20
def qg (hu:X.A.units+64<cLine):lg X (compareOp .Eq) (fun x y H Q=>∃k k' dx dy,Tells H k dx x/\Tells H k' dy y/\Lay dx/\Lay dy/\Q (.bl (PyData.eqv dx dy)) H):=by
 intro pins s σ H x y v u Q I rx ry h
 obtain⟨k,k',dx,dy,tx,ty,lx,ly,q⟩:=h
 obtain⟨as,ax⟩:=tx.reads I rx
 obtain⟨bs,ay⟩:=ty.reads I ry
 refine SeqAt.compareEq_reads ax ay lx.1 ly.1 ?_ ⟨.bl _,H,I,rfl,q⟩
 have:=lx.2;have:min dx.depth dy.depth<=dx.depth:=Nat.min_le_left _ _
 omega
def qh (hu:X.A.units+64<cLine):lg X (compareOp .NotEq) (fun x y H Q=>∃k k' dx dy,Tells H k dx x/\Tells H k' dy y/\Lay dx/\Lay dy/\Q (.bl (!PyData.eqv dx dy)) H):=by
 intro pins s σ H x y v u Q I rx ry h
 obtain⟨k,k',dx,dy,tx,ty,lx,ly,q⟩:=h
 obtain⟨as,ax⟩:=tx.reads I rx
 obtain⟨bs,ay⟩:=ty.reads I ry
 refine SeqAt.compareNe_reads ax ay lx.1 ly.1 ?_ ⟨.bl _,H,I,rfl,q⟩
 have:=lx.2;have:min dx.depth dy.depth<=dx.depth:=Nat.min_le_left _ _
 omega
def room_in {u a b:Nat}(h:u+64<cLine) (hb:b<=20):u+1+min a b<cLine:=by
 have:min a b<=b:=Nat.min_le_right _ _
 omega
def Sq (neg:Bool):R2:=fun x y H Q=>∃k k' d ds,Tells H k d x/\(Tells H k' (.tuple ds) y\/Tells H k' (.list ds) y)/\Lay d/\PyData.canLayAll0 ds=true/\Q (.bl (if neg then !(ds.any fun z=>PyData.eqv z d) else ds.any fun z=>PyData.eqv z d)) H
def Hl (hu:X.A.units+64<cLine):lg X (compareOp .In) (Sq false):=by
 intro pins s σ H x y v u Q I rx ry h
 obtain⟨k,k',d,ds,tx,ty,l,ls,q⟩:=h
 obtain⟨as,ax⟩:=tx.reads I rx
 rcases ty with ty|ty
 ·obtain⟨bs,ay⟩:=ty.reads I ry
  exact SeqAt.in_tuple_reads ay ax ls l.1 (room_in hu l.2) ⟨.bl _,H,I,rfl,q⟩
 ·obtain⟨bs,ay⟩:=ty.reads I ry
  exact SeqAt.in_list_reads ay ax ls l.1 (room_in hu l.2) ⟨.bl _,H,I,rfl,q⟩
def E_ (hu:X.A.units+64<cLine):lg X (compareOp .NotIn) (Sq true):=by
 intro pins s σ H x y v u Q I rx ry h
 obtain⟨k,k',d,ds,tx,ty,l,ls,q⟩:=h
 obtain⟨as,ax⟩:=tx.reads I rx
 rcases ty with ty|ty
 ·obtain⟨bs,ay⟩:=ty.reads I ry
  exact SeqAt.notIn_tuple_reads ay ax ls l.1 (room_in hu l.2) ⟨.bl _,H,I,rfl,q⟩
 ·obtain⟨bs,ay⟩:=ty.reads I ry
  exact SeqAt.notIn_list_reads ay ax ls l.1 (room_in hu l.2) ⟨.bl _,H,I,rfl,q⟩
end
section
variable {X:Cx}{tg:Expr}
def Mt (x:Str):It:=⟨fun i _=>i<x.cps.size,fun i H y H'=>H'=H/\∃c,x.cps[i]?=some c/\y=.str ⟨#[c]⟩,fun i _=>i=x.cps.size⟩
def xx {P:aF}{w:ba}{K:PySem.W.Frag}{x:Str}{it:ah}{St:Nat->Heap->Prop}{n:String}(hn:["enumerate","zip","dict_itemiterator","dict_reverseitemiterator","odict_iterator","itertools.zip_longest","itertools.pairwise"].contains n=false)
  (hw:∀A':aQ,A'.handled=none->Walks P w A' it [it] [it] x.cps.size (SignAt x) St) (hs:∀i h,St i h->∃o vs,h.get? it=some o/\o.cls=.type n/\o.data=.fields vs)
  (Sr:∀(A:aQ) (i:Nat) (s:ai) (Q:af->ai->Prop) (E:af->ai->Prop),St i s.heap->Q (.ref it) s->wpAny (model P w) A (pyIter (.ref it)) Q E s):Turn P w K tg (Mt x) [it] it St where
 mem:=by simp
 obj:=fun i h st b hb=>by
  have e:b=it:=by simpa using hb
  subst e
  obtain⟨o,vs,e,c,d⟩:=hs i h st
  exact⟨o,e,fun v z=>by rw[d] at z;cases z⟩
 keep:=fun i h h' st k=>(hw {} rfl).frame i h h' st k
 item:=by
  intro X hP WO hK hc i pins s σ H E I hf st hg
  subst hP WO hK
  obtain⟨f0,f1,f2,f3,f4,f5⟩:=hf it (by simp)
  refine(hw X.A (I.ok.hd hc)).item i s _ _ hg st fun v h' tk hv sV kk=>?_
  obtain⟨c,u,C7,rfl⟩:=hv
  have I1:Inv X pins σ H {s with heap:=h',toks:=tk}:=I.turned (fun b o hb e=>kk b o (by simpa using hb) e) f0 f1 f3 f4 f5
  obtain⟨o,vs,e,c2,d⟩:=hs _ _ sV
  exact⟨_,rfl,C9 (s:={s with heap:=h',toks:=tk}) e c2 d hn ⟨.str ⟨#[c]⟩,H,I1,⟨u,rfl⟩,⟨rfl,c,C7,rfl⟩,sV,fun b hb=>(hf b hb).1⟩⟩
 done:=by
  intro X hP WO hK hc i pins s σ H E I hf st hg
  subst hP WO hK
  obtain⟨f0,f1,f2,f3,f4,f5⟩:=hf it (by simp)
  have hg':i=x.cps.size:=hg
  subst hg'
  exact(hw X.A (I.ok.hd hc)).done s _ _ st fun h' tk kk=>⟨rfl,I.turned (fun b o hb e=>kk b o (by simpa using hb) e) f0 f1 f3 f4 f5⟩
 self:=Sr
def WQ (tl:TE):TI:=fun σ H R=>tl σ H fun x H1=>∃y,x=.str y/\R (Mt y) H1
def Hm {l:Expr}{tl:TE}(hl:PE X l tl):PI X tg l (WQ tl):=by
 intro pins s σ H R I h
 refine e_ (hl pins s σ H _ I h) fun v s1 ⟨x,H1,I1,r1,q1⟩=>?_
 obtain⟨y,e,q⟩:=q1
 subst e
 obtain⟨t,rfl⟩:=r1
 have fin:∀(o:Obj) (St:Nat->Heap->Prop),Turn X.prog X.w X.K tg (Mt y) [s1.heap.objs.size] s1.heap.objs.size St->St 0 (s1.heap.push o)->V_ X pins σ tg R (.ref s1.heap.objs.size) {s1 with heap:=s1.heap.push o}:=fun o St T st=>by
  refine⟨s1.heap.objs.size,[s1.heap.objs.size],St,_,H1,rfl,I1.kept (t':=s1.toks) fun b o e=>ag _ e,T,st,fun b hb=>?_,q⟩
  have e:b=s1.heap.objs.size:=by simpa using hb
  subst e
  exact I1.x_ (aB _) (I1.eE.fresh (aB _))
 cases ha:y.cps.all (· <128)
 ·exact wpAny_pyIter_wide ha (fin _ _ (xx (n:="str_iterator") (by decide) (fun A' hA=>Walks.strWide hA _ y t) (fun i h ⟨o,e,c,d⟩=>⟨o,_,e,c,d⟩) fun _ _ _ _ _ st hQ=>wpAny_pyIter_striter_wide st hQ) ⟨_,aw _ rfl,rfl,rfl⟩)
 ·exact wpAny_pyIter_ascii ha (fin _ _ (xx (n:="str_ascii_iterator") (by decide) (fun A' hA=>Walks.strAscii hA _ y t) (fun i h ⟨o,e,c,d⟩=>⟨o,_,e,c,d⟩) fun _ _ _ _ _ st hQ=>wpAny_pyIter_striter_ascii st hQ) ⟨_,aw _ rfl,rfl,rfl⟩)
def o7:lg X (compareOp .LtE) (fun x y H Q=>∃i j,x=.str i/\y=.str j/\Q (.bl (!decide (j.cps.toList<i.cps.toList))) H):=by
 intro pins s σ H x y v u Q I rx ry h
 obtain⟨i,j,rfl,rfl,q⟩:=h
 obtain⟨t,rfl⟩:=rx
 obtain⟨t',rfl⟩:=ry
 exact PySem.P.le_str ⟨.bl _,H,I,rfl,q⟩
def uY (hc:X.calm=true):gE X (.builtin "all") (fun xs H Q=>∃(p:ah) (bs:List Bool),xs=[.ref p]/\cS X.K H p (bs.map V.bl)/\Q (.bl (bs.all id)) H):=by
 intro pins s σ H xs us Q I r h
 obtain⟨p,bs,rfl,hq,q⟩:=h
 obtain⟨u,rfl,rx⟩:=zw r
 cases(show u=Value.ref p from rx)
 obtain⟨cE,rv,pl,hz⟩:=I.list hq
 have nX:p<s.heap.objs.size:=by obtain⟨o,e,_⟩:=pl.isList;exact aA e
 refine call_all_walk (il pl.isList ?_)
 refine⟨s.heap.objs.size,_,_,cE.toArray.size,_,_,fun i=>bs.getD i false,rfl,Walks.list (prog:=X.prog) (w:=X.w) (A:=X.A.in1) (I.ok.hd hc) s.heap.objs.size p (bb nX) cE.toArray,⟨⟨_,aw _ rfl,rfl,rfl⟩,pl.isList.at fun o e=>ag _ e⟩,?_,fun h' tk hk=>?_⟩
 ·intro i v s' Q' E' hP hQ
  have se:cE[i]?=some v:=by simpa using hP
  have hl:=rv.length
  rw[aq] at hl
  have hi:i<cE.length:=(bw.mp se).1
  obtain⟨u,hu,ru⟩:=rv.get (i:=i) (x:=V.bl (bs.getD i false)) (by rw[bX,aH (by omega)];simp[List.getD,aH (show i<bs.length by omega)])
  rw[se] at hu;cases hu
  cases(show v=Value.bool _ from ru)
  exact dM hQ
 ·refine⟨.bl _,H,I.kept fun b o e=>hk b o (by simpa using bb (aA e)) (ag _ e),rfl,?_⟩
  have hl:=rv.length
  rw[aq] at hl
  have e:(List.range cE.toArray.size).all (fun i=>bs.getD i false)=bs.all id:=by
   rw[aI,<-hl]
   have:(List.range bs.length).map (fun i=>bs.getD i false)=bs:=by
    apply EC
    ·simp
    ·intro i h1 h2;simp[List.getD,aH h2]
   conv=>rhs;rw[<-this]
   rw[List.all_map];rfl
  rw[e];exact q
def cy.insertAt {xs:List V}{us:List af}{y:V}{u:af}(r:cy xs us) (ry:RelV y u) (k:Nat):cy (xs.take k++y::xs.drop k) (us.take k++u::us.drop k):=(r.take k).append (.cons ry (r.drop k))
def Fb:R6 X "list.insert" (fun x vs H Q=>∃l xs i y,x=.ref l/\vs=[.int i,y]/\H l=some (.lst xs)/\xs.length<sizeLine/\0<=i/\i<=xs.length/\Q .eA (upd H l (.lst (xs.take i.toNat++y::xs.drop i.toNat)))):=by
 intro pins s σ H x vs v us Q I rx rv h
 obtain⟨l,xs,i,y,rfl,rfl,hH,hz,h0,h1,q⟩:=h
 cases rx
 obtain⟨ui,u,rfl,ri,ru⟩:=rv.two
 obtain⟨t,rfl⟩:=ri
 obtain⟨z,cE,n,r,hl,e⟩:=I.yj hH
 have hs:sizeLine=16777216:=gP
 have hf:Builtin.List.listFitsIndex i=true:=fitsIndex_both (by omega) (by omega)
 refine rN F.slot_list_insert ⟨_,e,rfl⟩ F.entry_list_insert (F.args_list_insert_3 _ _ _) (AutoSeq1.list_insert_list_int_val_1 l cE.toArray n i t u (by rw[hf];simp) (by rw[aI];omega)) ⟨e,?_⟩
 refine⟨.eA,_,I.G_ (its':=cE.take i.toNat++u::cE.drop i.toNat) hH e ?_ (cy.insertAt r ru i.toNat) ?_,rfl,q⟩
 ·dsimp only
  rw[aO (by omega)]
  have e1:min i.toNat cE.toArray.size=i.toNat:=by rw[aI];omega
  rw[e1]
  apply Array.ext'
  simp
  exact cX (by simp)
 ·simp only[aK,fh,cH,dB]
  omega
end
end L2
namespace L2
open PySem
mutual
def Dt:PyData->Nat
 | .list ds=>1+lV ds
 | .tuple ds=>1+lV ds
 | .none| .bool _| .int _| .str _| .dict _=>1
def lV:List PyData->Nat
 | []=>0
 |d::ds=>Dt d+lV ds
end
mutual
def gY:PyData->Bool
 | .none| .bool _=>true
 | .int i=>decide (i.natAbs<2^200)
 | .str x=>decide (x.length<=100)&&PyData.strOk x
 | .list ds=>i_ ds
 | .tuple ds=>i_ ds
 | .dict _=>false
def i_:List PyData->Bool
 | []=>true
 |d::ds=>gY d&&i_ ds
end
mutual
def zO:∀d:PyData,gY d=true->d.canLay0=true
 | .none,_=>by simp only[PyData.canLay0]
 | .bool _,_=>by simp only[PyData.canLay0]
 | .int _,_=>by simp only[PyData.canLay0]
 | .str x,h=>by
  rw[gY,cI] at h
  simp only[PyData.canLay0];exact h.2
 | .list ds,h=>by rw[gY] at h;simp only[PyData.canLay0];exact lE ds h
 | .tuple ds,h=>by rw[gY] at h;simp only[PyData.canLay0];exact lE ds h
 | .dict _,h=>by rw[gY] at h;cases h
def lE:∀ds:List PyData,i_ ds=true->PyData.canLayAll0 ds=true
 | [],_=>by simp only[PyData.canLayAll0]
 |d::ds,h=>by
  rw[i_,cI] at h
  rw[PyData.canLayAll0,cI]
  exact⟨zO d h.1,lE ds h.2⟩
end
def Ky {i:Int}(h:i.natAbs<2^200):i.natAbs.log2<200:=by
 by_cases h0:i.natAbs=0
 ·rw[h0];decide+kernel
 ·exact(Nat.log2_lt h0).mpr h
structure Bd (n p:Nat) (d:PyData):Prop where
 leaf:gY d=true
 w:Dt d<=n
 dp:d.depth<=p
abbrev qX (d:PyData):Prop:=Bd 1000 15 d
def Bd.mono {n p m q:Nat}{d:PyData}(h:Bd n p d) (h1:n<=m) (h2:p<=q):Bd m q d:=⟨h.leaf,bh h.w h1,bh h.dp h2⟩
def Bd.lay {n p:Nat}{d:PyData}(h:Bd n p d) (hp:p<=20):Lay d:=⟨zO d h.leaf,bh h.dp hp⟩
def qX.lay {d:PyData}(h:qX d):Lay d:=Bd.lay h (by decide)
def jb:∀{ds:List PyData},i_ ds=true↔∀d∈ds,gY d=true
 | []=>by simp[i_]
 |d::ds=>by rw[i_,cI,jb];simp
def Kz (d:PyData):1<=Dt d:=by cases d<;>simp[Dt]
def yo:∀{ds:List PyData}{d:PyData},d∈ds->Dt d<=lV ds
 |e::ds,d,h=>by
  rw[lV]
  rcases aC.mp h with rfl|h
  ·omega
  ·have:=yo h;omega
def yq:∀ds:List PyData,ds.length<=lV ds
 | []=>fH _
 |d::ds=>by rw[lV,cH];have:=Kz d;have:=yq ds;omega
def sf:∀{ds:List PyData}{d:PyData},d∈ds->d.depth<=PyData.depthAll ds
 |e::ds,d,h=>by
  rw[PyData.depthAll]
  rcases aC.mp h with rfl|h
  ·omega
  ·have:=sf h;omega
def uZ {n:Nat}:∀{ds:List PyData},(∀d∈ds,Dt d<=n)->lV ds<=n*ds.length
 | [],_=>by simp[lV]
 |d::ds,h=>by
  rw[lV,cH,Nat.mul_succ]
  have h1:=h d cf
  have h2:=uZ fun e he=>h e (cm _ he)
  omega
def mQ {p:Nat}:∀{ds:List PyData},(∀d∈ds,d.depth<=p)->PyData.depthAll ds<=p
 | [],_=>by simp[PyData.depthAll]
 |d::ds,h=>by
  rw[PyData.depthAll]
  have h1:=h d cf
  have h2:=mQ fun e he=>h e (cm _ he)
  omega
def Bd.list {n p m:Nat}{ds:List PyData}(h:∀d∈ds,Bd n p d) (hl:ds.length<=m):Bd (1+n*m) (p+1) (.list ds):=by
 refine⟨by rw[gY];exact jb.mpr fun d hd=>(h d hd).leaf,?_,?_⟩
 ·rw[Dt]
  have:=uZ fun d hd=>(h d hd).w
  have:=xU n hl
  omega
 ·rw[PyData.depth]
  have:=mQ fun d hd=>(h d hd).dp
  omega
def Bd.tuple {n p m:Nat}{ds:List PyData}(h:∀d∈ds,Bd n p d) (hl:ds.length<=m):Bd (1+n*m) (p+1) (.tuple ds):=by
 refine⟨by rw[gY];exact jb.mpr fun d hd=>(h d hd).leaf,?_,?_⟩
 ·rw[Dt]
  have:=uZ fun d hd=>(h d hd).w
  have:=xU n hl
  omega
 ·rw[PyData.depth]
  have:=mQ fun d hd=>(h d hd).dp
  omega
def Bd.WR {n p:Nat}{ds:List PyData}(h:Bd n p (.list ds)):(∀d∈ds,Bd n p d)/\ds.length<=n:=by
 have h1:=h.leaf;have h2:=h.w;have h3:=h.dp
 rw[gY] at h1;rw[Dt] at h2;rw[PyData.depth] at h3
 refine⟨fun d hd=>⟨jb.mp h1 d hd,?_,?_⟩,?_⟩
 ·have:=yo hd;omega
 ·have:=sf hd;omega
 ·have:=yq ds;omega
def Bd.o8 {n p:Nat}{ds:List PyData}(h:Bd n p (.tuple ds)):(∀d∈ds,Bd n p d)/\ds.length<=n:=by
 have h1:=h.leaf;have h2:=h.w;have h3:=h.dp
 rw[gY] at h1;rw[Dt] at h2;rw[PyData.depth] at h3
 refine⟨fun d hd=>⟨jb.mp h1 d hd,?_,?_⟩,?_⟩
 ·have:=yo hd;omega
 ·have:=sf hd;omega
 ·have:=yq ds;omega
def Bd.Hn {n p:Nat}{x:Str}(h:Bd n p (.str x)):x.length<=100:=by
 have h1:=h.leaf
 rw[gY,cI,qy] at h1
 exact h1.1
def Fc {ds:List PyData}{n p:Nat}(h:∀d∈ds,Bd n p d):PyData.canLayAll0 ds=true:=lE ds (jb.mpr fun d hd=>(h d hd).leaf)
def lW {x:Str}(h1:x.length<=100) (h2:PyData.strOk x=true):Bd 1 0 (.str x):=⟨by rw[gY,h2,aJ h1];rfl,by simp[Dt],by simp[PyData.depth]⟩
def iF {i:Int}(h:i.natAbs<2^200):Bd 1 0 (.int i):=⟨by rw[gY];exact aJ h,by simp[Dt],by simp[PyData.depth]⟩
def KA (b:Bool):Bd 1 0 (.bool b):=⟨by simp[gY],by simp[Dt],by simp[PyData.depth]⟩
def yr:Bd 1 0 .none:=⟨by simp[gY],by simp[Dt],by simp[PyData.depth]⟩
def kO {J:It}{n:Nat}{f:Nat->V}{g:TG}{te:TE}{E9:St}{H1:Hp}{Q:VK}{D:ah}(Iv:Nat->List V->St->Hp->Prop) (hD:H1 D=none) (hn:n<=1000)
  (h0:Iv 0 [] E9 (upd H1 D (.lst [])))
  (hj:∀i ys σ H,i<=n->H D=some (.lst ys)->Iv i ys σ H->(i=n->J.stop i H)/\(i<n->J.go i H/\∀x H',J.Bk i H x H'->H'=H/\x=f i))
  (hs:∀i ys σ H,i<n->H D=some (.lst ys)->Iv i ys σ H->g (f i) σ H fun iE H3=>te iE H3 fun y H5=>H5 D=some (.lst ys)/\Iv (i+1) (ys++ [y]) iE (upd H5 D (.lst (ys++ [y]))))
  (hd:∀ys σ H,H D=some (.lst ys)->Iv n ys σ H->Q (.ref D) H):pK J g qd te E9 H1 Q D:=
 lD Iv hD hn h0 hj (fun i ys σ H h1 h2 h3=>hs i ys σ H h1 h2 h3) hd
end L2
namespace L2
open PySem PySem.Spec PyProof.Rows
section
variable {X:Cx}
def jn {i0:Nat}{x0:Str}{pos' Ss:Pos}{elt tg iter:Expr}{ifs:List Expr}{scope:Scope}{pos:Pos}{wi:TI}{N:List Str}{r:List (Option Nat)}{g:TG}{tc:TT}{te:TE}(hN:X.N.Nodup) (hi0:X.N[i0]?=some x0) (hx:Loc X.env.scope x0) (hc:X.calm=true) (hi:PI X tg iter wi) (S:fk X scope N r)
  (hg:∀s H fp,PG (X.xu N scope s H fp) tg g) (ht:∀s H fp,Ms (X.xu N scope s H fp) ifs tc) (he:∀s H fp,PE (X.xu N scope s H fp) elt te)
  (hsw:swapsWith (.ListComp elt [⟨tg,iter,ifs,0⟩] scope pos) (some (.Name x0 pos')) Ss.line X.env=pure true:=by rfl)
  (hs:∀x,foldedSetIterable iter X.env x=pure x:=by intro _;rfl) (hf:X.fn x0=true\/X.env.scope.names.lookup x0=some .local:=by first|exact .inl rfl|exact .inr rfl|assumption):
  PS X (.Assign [.Name x0 pos'] (.ListComp elt [⟨tg,iter,ifs,0⟩] scope pos) Ss) (rV (WN wi r g tc te) (dU i0)):=by
 intro pins s σ H DD I h
 rw[exec_Assign_Name_used _ _ _ _ hsw]
 refine aa (jx (aa ?_))
 show wpAny _ X.A (do let _<-comprehension (.ListComp elt [⟨tg,iter,ifs,0⟩] scope pos) scope X.env _ (newList []) false (eval iter X.env) (some (assign (.Name x0 pos') X.env))) _ _ s
 refine aa (bK (?_:wpAny _ X.A _ (fun _ s'=>SP X pins DD .next s') _ s) (fun _ s' hq=>ak (ak hq)) fun _ _ e=>e)
 have Hf:closureFor scope X.env=pure (mO scope X.env):=lU fun y hy hk=>I.ok.has y.1 (S.out y hy hk)
 refine uF (use:=some (assign (.Name x0 pos') X.env)) rfl hs Hf S.kind S.own ?_
 show wpAny _ _ (eval iter X.env) _ _ s
 refine e_ (hi pins s σ H _ I h) fun v s1 h1=>e_ h1 fun NJ s2 h2=>?_
 obtain⟨it,fp,tn,J,H2,e,I2,T,AU,f2,q2⟩:=h2
 subst e
 have hD:H2 s2.heap.objs.size=none:=I2.eE.fresh (aB _)
 obtain⟨W,⟨m0,w0⟩,turn⟩:=q2 _ hD
 have zM:∀b∈fp,b<s2.heap.objs.size:=fun b hb=>by
  obtain⟨o,e,_⟩:=T.obj _ _ AU b hb
  exact aA e
 refine bD ?_
 generalize AW:({s2 with heap:=s2.heap.push {cls:=.type "list",dict:=none,data:=.seq ([]:List af).toArray}}:ai)=s3
 have k3:∀b o,s2.heap.get? b=some o->s3.heap.get? b=some o:=fun b o e=>by rw[<-AW];exact ag _ e
 have z3:s3.heap.objs.size=s2.heap.objs.size+1:=by rw[<-AW];exact bZ ..
 have u3:Un (nE X.stack) fp H2 (upd H2 s2.heap.objs.size (.lst [])) s2.heap s3.heap:=Un.laid k3 (aB _) hD
 have o3:s3.os=s2.os:=by rw[<-AW]
 have I3:Inv X pins σ (upd H2 s2.heap.objs.size (.lst [])) s3:=by
  rw[<-AW]
  exact I2.laid (t':=s2.toks) (fun b u e=>ag _ e) (aB _) ⟨fH _,[],0,.nil,aw _ rfl⟩
 have f3:∀b∈fp,mi X pins (upd H2 s2.heap.objs.size (.lst [])) b:=fun b hb=>⟨by rw[aV (bb (zM b hb))];exact(f2 b hb).1,(f2 b hb).2⟩
 refine A7 S.qc (by intro y hy;simp at hy) (fun h4 Hg Hh=>?_) S.kind
 have k4:∀b o,s3.heap.get? b=some o->h4.get? b=some o:=fun b o e=>Hh.extBut b o (bb (aA e)) (ag _ e)
 have J4:Inv (X.xu N scope s3 (upd H2 s2.heap.objs.size (.lst [])) fp) [] (r.map (pick σ)) (upd H2 s2.heap.objs.size (.lst [])) {s3 with heap:=h4,toks:=s3.toks+([]:List (Str×af)).length}:=
  r_ S I3 f3 (fun b hb=>by rw[z3];exact gT (zM b hb)) Hg k4
 have Hi:tn 0 h4:=T.keep _ _ _ AU fun b _ o e=>k4 b o (k3 b o e)
 have pW:∀{H':Hp},(∀b∈fp,H' b=none)->∀b∈fp,mi (X.xu N scope s3 (upd H2 s2.heap.objs.size (.lst [])) fp) [] H' b:=fun hn b hb=>
  ⟨hn b hb,(J4.ok.EI b hb).1,J4.ok.tV b hb,.inl hb,(J4.ok.EI b hb).2,fun p hp=>absurd (show p∈([]:List (ah×Obj)) from hp) (by simp)⟩
 generalize hY:X.xu N scope s3 (upd H2 s2.heap.objs.size (.lst [])) fp=Y at*
 have loop:∀s4:ai,s4={s3 with heap:=h4,toks:=s3.toks+([]:List (Str×af)).length}->
   codeAny (model X.prog X.w) X.A (.compLoop (.ListComp elt [⟨tg,iter,ifs,0⟩] scope pos) 0 (.ref it) (.ref s2.heap.objs.size) Y.env) (compPost (model X.prog X.w) X.A X.xe (some (assign (.Name x0 pos') X.env)) (fun _ s'=>SP X pins DD .next s') (.ref s2.heap.objs.size) s3.heap.objs.size) s4:=by
  rintro s4 rfl
  have yp:Y.prog=X.prog:=by rw[<-hY]
  have yw:Y.w=X.w:=by rw[<-hY]
  have yK:Y.K=X.K:=by rw[<-hY]
  have yA:Y.A=X.A:=by rw[<-hY]
  have yc:Y.calm=true:=by rw[<-hY];exact hc
  have Sd:PG Y tg g:=by rw[<-hY];exact hg _ _ _
  have Se:Ms Y ifs tc:=by rw[<-hY];exact ht _ _ _
  have Sf:PE Y elt te:=by rw[<-hY];exact he _ _ _
  have yx:∀e s',¬Y.xe e s':=fun e s' z=>by rw[<-hY] at z;exact z
  refine n_ (fun n s'=>∃i bW H',Inv Y [] bW H' s'/\tn i s'.heap/\(∀b∈fp,H' b=none)/\W i n bW H') ?_ m0 ⟨0,_,_,J4,Hi,fun b hb=>(f3 b hb).1,w0⟩
  rintro n s5 ⟨i,Ds,H5,I5,Gf,JO,w5⟩
  rcases turn i n Ds H5 w5 with⟨stop,qn⟩|⟨go,Nn,Mm,Sg,Sh,step⟩
  ·have d:=T.done Y yp yw yK yc i [] s5 Ds H5 (notedBy (model X.prog X.w) X.A Y.env fun e s'=>compPost (model X.prog X.w) X.A X.xe (some (assign (.Name x0 pos') X.env)) (fun _ s'=>SP X pins DD .next s') (.ref s2.heap.objs.size) s3.heap.objs.size (.error e) s') I5 (pW JO) Gf stop
   rw[yA] at d
   refine e_ d fun rr s6 ⟨hr,I6⟩=>?_
   subst hr
   obtain⟨m,hn,_⟩:=id I6.loc
   rw[<-hY] at I6 hn
   have IX:Inv X pins σ H5 s6:=ym I2 f2 u3 (by rw[z3];exact dE _) o3 I6 (Heap.SameBut.refl _ _)
   have hC:H5 s3.heap.objs.size=none:=I6.free
   obtain⟨f0,f1,f2',f3',f4,f5⟩:=I3.x_ (aB _) hC
   refine wpAny_assign_Name (oX IX hN hi0 hx (show RelV (V.ref s2.heap.objs.size) _ from rfl) (fun s7 I7 ⟨a,WS,ha⟩=>?_) hf)
   have hCa:s3.heap.objs.size≠a:=by
    rcases ha with rfl|ha
    ·exact f1
    ·exact fun z=>f4 _ _ ha z.symm
   refine⟨m,Heap.Ns.sameBut hn WS hCa,fun h' Si=>⟨_,H5,I7.turned (t':=s7.toks) (it:=s3.heap.objs.size) (fun b o hb e=>Si.extBut b o hb e) hC f1 f3' f4 f5,qn⟩⟩
  ·have d:=T.item Y yp yw yK yc i [] s5 Ds H5 (notedBy (model X.prog X.w) X.A Y.env fun e s'=>compPost (model X.prog X.w) X.A X.xe (some (assign (.Name x0 pos') X.env)) (fun _ s'=>SP X pins DD .next s') (.ref s2.heap.objs.size) s3.heap.objs.size (.error e) s') I5 (pW JO) Gf go
   rw[yA] at d
   refine e_ d fun rr s6 ⟨u,hr,h6⟩=>?_
   subst hr
   refine e_ h6 fun _ s7 ⟨x,H7,I7,r7,y7,Hj,Sj⟩=>?_
   have Sk:=I7.pinned (pW Sj) (T.obj _ _ Hj)
   have g7:=Sd _ s7 Ds H7 x u _ Sk r7 (step x H7 y7)
   rw[yp,yw,yA] at g7
   refine bK g7 (fun _ s8 ⟨xw,H8,I8,q8⟩=>?_) fun e s' z=>(yx e s' z).elim
   have t8:=Se _ s8 xw H8 _ I8 q8
   rw[yp,yw,yA] at t8
   refine bK t8 (fun ok s9 ⟨H9,I9,q9⟩=>?_) fun e s' z=>(yx e s' z).elim
   have again:∀{s10:ai} {uX:Hp} {m':Nat},Inv Y ([]++pV fp s7.heap) xw uX s10->m'<n->W (i+1) m' xw uX->∃m,m<n/\∃i bW H',Inv Y [] bW H' s10/\tn i s10.heap/\(∀b∈fp,H' b=none)/\W i m bW H':=fun{s10 uX m'} zN hm BC=>by
    refine⟨m',hm,i+1,xw,uX,zN.mj,T.keep _ _ _ Hj fun b hb o e=>(zN.pin (b,o) (bG _ (bG _ (ib hb e)))).1,fun b hb=>?_,BC⟩
    obtain⟨o,e,d⟩:=T.obj _ _ Hj b hb
    exact(zN.pin (b,o) (bG _ (bG _ (ib hb e)))).2.1
   cases ok with
   |false=>
    rw[aO (by simp)] at q9⊢
    obtain⟨m',hm,w9⟩:=Sg _ _ q9
    exact again I9 hm w9
   |true=>
    rw[aP rfl] at q9⊢
    have e9:=Sf _ s9 xw H9 _ I9 q9
    rw[yp,yw,yA] at e9
    refine bK e9 (fun uu s10 ⟨y,uX,zN,r10,hM⟩=>?_) fun e s' z=>(yx e s' z).elim
    obtain⟨xs,m',Hk,hz,hm,BC⟩:=Sh _ _ _ hM
    have a10:=gw _ s10 xw uX (.ref s2.heap.objs.size) [y] (.ref s2.heap.objs.size) [uu] (fun v Hq=>v=.eA/\Hq=upd uX s2.heap.objs.size (.lst (xs++ [y]))) zN rfl (.cons r10 .nil) ⟨_,xs,y,rfl,rfl,Hk,hz,rfl,rfl⟩
    rw[yp,yw,yA] at a10
    refine bK a10 (fun _ s11 ⟨_,ZR,Sl,_,_,Sm⟩=>?_) fun e s' z=>(yx e s' z).elim
    subst Sm
    exact again Sl hm BC
 have Sn:Y.env={scope:=relabel scope X.env,locals:=s3.heap.objs.size,globals:=X.env.globals,cells:=mO scope X.env,qual:=X.env.qual,func:=none,code:=X.env.code,frame:=X.env.frame,builtins:=X.env.builtins}:=by rw[<-hY];rfl
 rw[Sn] at loop
 exact xT (loop _ rfl) (T.self _ 0 _ _ _ Hi (loop _ rfl))
end
section
variable {X:Cx}{pins:List (ah×Obj)}{σ:St}{H:Hp}{s:ai}
def Inv.uk {h':Heap}{t':Nat}{fp:List ah}(I:Inv X pins σ H s) (hf:∀b∈fp,mi X pins H b) (k:∀b o,b∉fp->s.heap.get? b=some o->h'.get? b=some o):Inv X pins σ H {s with heap:=h',toks:=t'}:=by
 have away:∀b u,H b=some u->b∉fp:=fun b u e z=>by
  rw[(hf b z).1] at e
  cases e
 refine I.step (g':=s.gens) (d':=s.drawn) (ch:=fp) (fun b hb=>⟨(hf b hb).2.2.2.1,(hf b hb).2.1,(hf b hb).2.2.2.2.1,(hf b hb).2.2.2.2.2⟩) (fun b o _ _ hc e _=>k b o hc e)
  (fun b o _ _ hc e _=>⟨o.slots,k b o hc e⟩) (fun _ _ _ _ n=>n) (fun b o hc e=>⟨o,k b o hc e⟩) (fun _ _ e=>e) (fun _ _ _ e=>e) (fun b ps e=>⟨#[],by rw[e];simp⟩) (fun m hm=>?_) (fun b u e=>?_) I.bare
 ·obtain⟨o,es,ep,pQ,rest⟩:=hm
  exact⟨o,es,ep,k _ o (fun z=>(hf _ z).2.1 rfl) pQ,rest⟩
 ·refine(I.eE b u e).pG (fun c v hc q=>k c v ?_ q) (fun _ q=>q) fun _ _ q=>q
  rcases hc with z|z
  ·rw[z];exact away b u e
  ·exact away c _ z
def Inv.out {h':Heap}{t':Nat}{fp:List ah}{xs:List V}{us:List af}(I:Inv X pins σ H s) (hf:∀b∈fp,mi X pins H b) (lt:∀b∈fp,b<s.heap.objs.size) (r:cy xs us) (hz:xs.length<=sizeLine)
  (k:∀b o,b∉fp->s.heap.get? b=some o->h'.get? b=some o) (hT:h'.get? s.heap.objs.size=some {cls:=.type "tuple",data:=.seq us.toArray}):
  H s.heap.objs.size=none/\Inv X pins σ (upd H s.heap.objs.size (.tup xs)) {s with heap:=h',toks:=t'}/\∀b∈fp,(upd H s.heap.objs.size (.tup xs)) b=none:=by
 have fresh:H s.heap.objs.size=none:=I.eE.fresh (aB _)
 have I1:Inv X pins σ (upd H s.heap.objs.size (.tup xs)) {s with heap:=s.heap.push {cls:=.type "tuple",data:=.seq us.toArray},toks:=s.toks}:=
  I.laid (fun b u e=>ag _ e) (aB _) ⟨hz,us,r,⟨_,aw _ rfl,rfl,rfl,_,rfl⟩⟩
 have ZS:∀b∈fp,mi X pins (upd H s.heap.objs.size (.tup xs)) b:=fun b hb=>⟨by rw[aV (bb (lt b hb))];exact(hf b hb).1,(hf b hb).2⟩
 refine⟨fresh,I1.uk ZS fun b o hb e=>?_,fun b hb=>(ZS b hb).1⟩
 by_cases z:b=s.heap.objs.size
 ·subst z
  have e':some ({cls:=.type "tuple",data:=.seq us.toArray}:Obj)=some o:=(aw s.heap (o:={cls:=.type "tuple",data:=.seq us.toArray}) rfl).symm.trans e
  rw[hT,e']
 ·refine k b o hb ?_
  have ZT:b<(s.heap.push {cls:=.type "tuple",data:=.seq us.toArray}).objs.size:=aA e
  rw[bZ] at ZT
  have ZU:b<s.heap.objs.size:=Nat.lt_of_le_of_ne (Nat.le_of_lt_succ ZT) z
  cases q:s.heap.get? b with
  |some o'=>
   have:=ag ({cls:=.type "tuple",data:=.seq us.toArray}:Obj) q
   rw[this] at e
   exact e
  |none=>
   exfalso
   have e2:(s.heap.push {cls:=.type "tuple",data:=.seq us.toArray}).get? b=none:=by
    first|exact Heap.Du _ q ZU|simp[Heap.get?,Heap.push,Array.getElem?_push,bb ZU] at q⊢;exact q
   rw[e2] at e
   cases e
end
section
variable {prog:aF}{w:ba}{A:aQ}{E:af->ai->Prop}{s:ai}
def qi {J t:ah}{n:Nat}{vs:Array af}{y:af}{Q:af->ai->Prop}(a1:s.heap.IsTupleIter J t n) (a2:s.heap.IsTuple t vs) (a3:vs[n]?=some y)
  (q:∀h',h'.IsTupleIter J t (n+1)->Heap.SameBut J s.heap h'->Q y {s with heap:=h'}):wpAny (model prog w) A (Builtin.SmallTypes.nextOf (.ref J)) Q E s:=by
 obtain⟨jo,j1,j2,j3⟩:=id a1
 obtain⟨to,t1,_,tn,t2⟩:=a2
 unfold Builtin.SmallTypes.nextOf
 refine aa (cG (name:=Str.ofString "__next__") a1.typeIs jV (dH jV a1.typeIs F.entry_tuple_iterator_next ?_ (RB _)))
 refine(aa (bJ j1 j3 (x:=.ref t) rfl ?_):wpAny _ _ (field (.ref J) 0>>=_) _ _ s)
 refine(?_:wpAny _ _ (if(Value.ref t==Value.none)=true then _ else _) _ _ s)
 rw[aO (by simp)]
 refine(aa (bJ j1 j3 (x:=.int n 0) rfl ?_):wpAny _ _ (field (.ref J) 1>>=_) _ _ s)
 refine(aa (b_ t1 t2 ?_):wpAny _ _ (seqItems? (.ref t)>>=_) _ _ s)
 simp only[a3,jd]
 exact aa (iO j1 j3 (by simp) (ak ⟨y,rfl,ak (q _ ⟨_,cV _ j1 (g_ (gU j3 _)),(uf ..).trans j2,by rw[gU j3];simp[rawInt]⟩ (ED ..))⟩))
def xy {J t:ah}{n:Nat}{vs:Array af}{Q:af->ai->Prop}(free:A.handled=none) (a1:s.heap.IsTupleIter J t n) (a2:s.heap.IsTuple t vs) (a3:vs[n]?=none)
  (q:∀h' x,Heap.ExtBut J s.heap h'->(∃o,h'.get? x=some o/\o.cls=.type "StopIteration")->E (.ref x) {s with heap:=h'}):wpAny (model prog w) A (Builtin.SmallTypes.nextOf (.ref J)) Q E s:=by
 obtain⟨jo,j1,j2,j3⟩:=id a1
 obtain⟨to,t1,_,tn,t2⟩:=a2
 unfold Builtin.SmallTypes.nextOf
 refine aa (cG (name:=Str.ofString "__next__") a1.typeIs jV (dH jV a1.typeIs F.entry_tuple_iterator_next ?_ (RB _)))
 refine(aa (bJ j1 j3 (x:=.ref t) rfl ?_):wpAny _ _ (field (.ref J) 0>>=_) _ _ s)
 refine(?_:wpAny _ _ (if(Value.ref t==Value.none)=true then _ else _) _ _ s)
 rw[aO (by simp)]
 refine(aa (bJ j1 j3 (x:=.int n 0) rfl ?_):wpAny _ _ (field (.ref J) 1>>=_) _ _ s)
 refine(aa (b_ t1 t2 ?_):wpAny _ _ (seqItems? (.ref t)>>=_) _ _ s)
 simp only[a3,jd]
 refine aa (jS (aa (iO j1 j3 (by simp) ?_)))
 refine(aa ?_:wpAny _ _ (newExc (.type "StopIteration") []>>=_) _ _ _)
 simp only[newTuple,newExc]
 refine aa (bD (aa (m:=firstArgMember _ _) (A8 (a:=Value.none) (by first|rfl|(simp only[firstArgMember];rfl)) (bD ?_ (by size_fits)))) (by size_fits))
 simp only[raiseNew]
 refine aa (wpAny_handled ?_)
 first|rw[show A.in1.handled=none from free]|rw[free]
 exact aa (ak (wpAny_throw (q _ _ (((ED ..).extBut.push _).push _) ⟨_,aw _ rfl,rfl⟩)))
end
section
variable {prog:aF}{w:ba}{A:aQ}{E:af->ai->Prop}{s:ai}
end
def BD:bootBuiltins "enumerate"=some (.type "enumerate"):=by decide+kernel
section
variable {prog:aF}{w:ba}{A:aQ}{E:af->ai->Prop}{s:ai}
def fM {h h':Heap}{a b t:ah}{i:Nat}(x:h.IsTupleIter a t i) (sb:Heap.SameBut b h h') (n:a≠b):h'.IsTupleIter a t i:=x.extBut sb.extBut n
def jq {h h':Heap}{a b:ah}{vs:Array af}(x:h.IsTuple a vs) (sb:Heap.SameBut b h h') (n:a≠b):h'.IsTuple a vs:=x.extBut sb.extBut n
def Fd {z TI TO i1 i2 t1 t2:ah}{n1 n2:Nat}{xs ys:Array af}{x y a b:af}{Q:af->ai->Prop}(D:ZipApart z TI TO i1 i2 t1 t2) (c1:IsZip s.heap z TI TO .none) (c2:IsPair s.heap TI (.ref i1) (.ref i2)) (c3:IsPair s.heap TO a b)
  (c4:s.heap.IsTupleIter i1 t1 n1) (c5:s.heap.IsTupleIter i2 t2 n2) (c6:s.heap.IsTuple t1 xs) (c7:s.heap.IsTuple t2 ys) (c8:xs[n1]?=some x) (c9:ys[n2]?=some y)
  (q:∀h',IsZip h' z TI TO (rawInt s.heap.objs.size)->IsPair h' TO x y->h'.IsTupleIter i1 t1 (n1+1)->h'.IsTupleIter i2 t2 (n2+1)->IsPair h' s.heap.objs.size x y->(∀c o,c≠z->c≠TO->c≠i1->c≠i2->s.heap.get? c=some o->h'.get? c=some o)->Q (.ref s.heap.objs.size) {s with heap:=h'}):
  wpAny (model prog w) A (Builtin.«zip.__next__» ⟨[.ref z],[]⟩) (fun fin s'=>∃v,fin=.done (.ret v)/\Q v s') E s:=by
 refine(aa (bJ c1 rfl (x:=.bool false) rfl ?_):wpAny _ _ (field (.ref z) 2>>=_) _ _ _)
 refine(aa (bJ c1 rfl (x:=.ref TI) rfl ?_):wpAny _ _ (field (.ref z) 3>>=_) _ _ _);refine aa (b_ c2 rfl ?_)
 refine(aa ?_:wpAny _ _ (Builtin.SmallTypes.ownedTupleIsFree (.ref z)>>=_) _ _ _)
 unfold Builtin.SmallTypes.ownedTupleIsFree
 refine aa (bJ c1 rfl (x:=.none) rfl (ak ?_))
 simp only[j9]
 refine aa (jS ?_);refine aa (bJ c1 rfl (x:=.ref TO) rfl ?_);refine aa (dP c1 (by simp) fun g1 k1 s1=>?_)
 have k1:IsZip g1 z TI TO .ellipsis:=k1
 refine aa ?_
 simp only[nv,wm,rO,ug]
 refine aa (aa (iB ?_))
 show wpAny _ _ (Builtin.SmallTypes.nextOf (.ref i1)>>=_) _ _ _;refine aa (qi (fM c4 s1 D.i1z) (jq c6 s1 D.l1z) c8 fun g2 k2 s2=>ak ?_)
 have o2:IsPair g2 TO a b:=s2.extBut _ _ D.TOi1 (s1.extBut _ _ D.TOz c3)
 refine aa (b_ o2 rfl ?_);refine aa (ip o2 fun g3 o3 s3=>?_);refine aa (fB (ak ?_))
 have o3:IsPair g3 TO x b:=o3
 refine aa (aa (iB ?_))
 show wpAny _ _ (Builtin.SmallTypes.nextOf (.ref i2)>>=_) _ _ _;refine aa (qi (fM (fM (fM c5 s1 D.i2z) s2 D.i12.symm) s3 D.TOi2.symm) (jq (jq (jq c7 s1 D.l2z) s2 D.l2i1) s3 D.l2TO) c9 fun g4 k4 s4=>ak ?_)
 have o4:IsPair g4 TO x b:=s4.extBut _ _ D.TOi2 o3
 refine aa (b_ o4 rfl ?_);refine aa (ip o4 fun g5 o5 s5=>?_);refine aa (fB (ak (ak ?_)))
 have o5:IsPair g5 TO x y:=o5
 refine aa (b_ o5 rfl ?_);refine aa (wpAny_newTuple ?_)
 have sz:g5.objs.size=s.heap.objs.size:=by rw[s5.1,s4.1,s3.1,s2.1,s1.1]
 have z5:IsZip g5 z TI TO .ellipsis:=s5.extBut _ _ D.TOz.symm (s4.extBut _ _ D.i2z.symm (s3.extBut _ _ D.TOz.symm (s2.extBut _ _ D.i1z.symm k1)))
 have j1:g5.IsTupleIter i1 t1 (n1+1):=fM (fM (fM k2 s3 D.TOi1.symm) s4 D.i12) s5 D.TOi1.symm
 have j2:g5.IsTupleIter i2 t2 (n2+1):=fM k4 s5 D.TOi2.symm
 have zl:z<g5.objs.size:=aA z5
 refine(aa ?_:wpAny _ _ (Builtin.SmallTypes.ownedTupleHandOut (.ref z) (.ref g5.objs.size)>>=_) _ _ _)
 unfold Builtin.SmallTypes.ownedTupleHandOut
 refine aa (dP (ag _ z5) (by simp) fun g7 z7 s7=>?_)
 have z7:IsZip g7 z TI TO (rawInt g5.objs.size):=z7
 refine dP z7 (by simp) fun g8 z8 s8=>ak ⟨_,rfl,?_⟩
 have z8:IsZip g8 z TI TO (rawInt g5.objs.size):=z8
 have up:∀c o,c≠z->g5.get? c=some o->g8.get? c=some o:=fun c o n e=>s8.extBut _ _ n (s7.extBut _ _ n (ag _ e))
 have T8:IsPair g8 g5.objs.size x y:=s8.extBut _ _ (iG zl) (s7.extBut _ _ (iG zl) (aw _ rfl))
 rw[sz] at z8 T8
 refine(?_:Q (.ref g5.objs.size) _)
 rw[sz]
 obtain⟨v1,v2,v3⟩:=j1
 obtain⟨w1,w2,w3⟩:=j2
 exact q g8 z8 (up _ _ D.TOz o5) ⟨v1,up _ _ D.i1z v2,v3⟩ ⟨w1,up _ _ D.i2z w2,w3⟩ T8 fun c o n1 n2 n3 n4 e=>up c o n1 (s5.extBut _ _ n2 (s4.extBut _ _ n4 (s3.extBut _ _ n2 (s2.extBut _ _ n3 (s1.extBut _ _ n1 e)))))
def Ho {z TI TO i1 i2 t1 t2:ah}{n1 n2:Nat}{xs ys:Array af}{a b:af}{Q:Fin->ai->Prop}(free:A.handled=none) (D:ZipApart z TI TO i1 i2 t1 t2) (c1:IsZip s.heap z TI TO .none) (c2:IsPair s.heap TI (.ref i1) (.ref i2)) (c3:IsPair s.heap TO a b)
  (c4:s.heap.IsTupleIter i1 t1 n1) (c5:s.heap.IsTupleIter i2 t2 n2) (c6:s.heap.IsTuple t1 xs) (c7:s.heap.IsTuple t2 ys) (c8:xs[n1]?=none\/ys[n2]?=none)
  (q:∀h' x,(∀c o,c≠z->c≠TO->c≠i1->c≠i2->s.heap.get? c=some o->h'.get? c=some o)->(∃o,h'.get? x=some o/\o.cls=.type "StopIteration")->E (.ref x) {s with heap:=h'}):
  wpAny (model prog w) A (Builtin.«zip.__next__» ⟨[.ref z],[]⟩) Q E s:=by
 have u_:∀{g:Heap} {x:ah} {o:Obj},IsZip g z TI TO .ellipsis->g.get? x=some o->o.cls=.type "StopIteration"->x≠z:=fun{g x o} k1 k2 k3 e=>by
  rw[e,k1] at k2
  cases k2
  exact absurd (show Value.type "zip"=Value.type "StopIteration" from k3) (by decide)
 refine(aa (bJ c1 rfl (x:=.bool false) rfl ?_):wpAny _ _ (field (.ref z) 2>>=_) _ _ _)
 refine(aa (bJ c1 rfl (x:=.ref TI) rfl ?_):wpAny _ _ (field (.ref z) 3>>=_) _ _ _);refine aa (b_ c2 rfl ?_)
 refine(aa ?_:wpAny _ _ (Builtin.SmallTypes.ownedTupleIsFree (.ref z)>>=_) _ _ _)
 unfold Builtin.SmallTypes.ownedTupleIsFree
 refine aa (bJ c1 rfl (x:=.none) rfl (ak ?_))
 simp only[j9]
 refine aa (jS ?_);refine aa (bJ c1 rfl (x:=.ref TO) rfl ?_);refine aa (dP c1 (by simp) fun g1 k1 s1=>?_)
 have k1:IsZip g1 z TI TO .ellipsis:=k1
 refine aa ?_
 simp only[nv,wm,rO,ug]
 refine aa (aa (iB ?_))
 cases hx:xs[n1]? with
 |none=>
  show wpAny _ _ (Builtin.SmallTypes.nextOf (.ref i1)>>=_) _ _ _;refine aa (xy free (fM c4 s1 D.i1z) (jq c6 s1 D.l1z) hx fun g2 x s2 ⟨o,o1,o2⟩=>?_)
  have z2:IsZip g2 z TI TO .ellipsis:=s2 _ _ D.i1z.symm k1
  exact dP z2 (by simp) fun g3 _ s3=>q g3 x (fun c u n1 _ n3 _ e=>s3.extBut _ _ n1 (s2 _ _ n3 (s1.extBut _ _ n1 e))) ⟨o,s3.extBut _ _ (u_ z2 o1 o2) o1,o2⟩
 |some x1=>
  have hy:ys[n2]?=none:=by
   rcases c8 with e|e
   ·rw[hx] at e;cases e
   ·exact e
  show wpAny _ _ (Builtin.SmallTypes.nextOf (.ref i1)>>=_) _ _ _;refine aa (qi (fM c4 s1 D.i1z) (jq c6 s1 D.l1z) hx fun g2 k2 s2=>ak ?_)
  have o2:IsPair g2 TO a b:=s2.extBut _ _ D.TOi1 (s1.extBut _ _ D.TOz c3)
  refine aa (b_ o2 rfl ?_);refine aa (ip o2 fun g3 o3 s3=>?_);refine aa (fB (ak ?_))
  refine aa (aa (iB ?_))
  show wpAny _ _ (Builtin.SmallTypes.nextOf (.ref i2)>>=_) _ _ _;refine aa (xy free (fM (fM (fM c5 s1 D.i2z) s2 D.i12.symm) s3 D.TOi2.symm) (jq (jq (jq c7 s1 D.l2z) s2 D.l2i1) s3 D.l2TO) hy fun g4 x s4 ⟨o,o1,Su⟩=>?_)
  have z4:IsZip g4 z TI TO .ellipsis:=s4 _ _ D.i2z.symm (s3.extBut _ _ D.TOz.symm (s2.extBut _ _ D.i1z.symm k1))
  exact dP z4 (by simp) fun g5 _ s5=>q g5 x (fun c u n1 n2 n3 n4 e=>s5.extBut _ _ n1 (s4 _ _ n4 (s3.extBut _ _ n2 (s2.extBut _ _ n3 (s1.extBut _ _ n1 e))))) ⟨o,s5.extBut _ _ (u_ z4 o1 Su) o1,Su⟩
def BE (t1 t2:ah) (xs ys:Array af):Meets (Builtin.«zip.__new__» ⟨[.type "zip",.ref t1,.ref t2],[]⟩) (fun _ R s=>s.heap.IsTuple t1 xs/\s.heap.IsTuple t2 ys/\∀h1 h2 h3 h4 h5:Heap,
   h1=s.heap.push {cls:=.type "tuple_iterator",data:=.fields #[.ref t1,.int 0 0]}->h2=h1.push {cls:=.type "tuple_iterator",data:=.fields #[.ref t2,.int 0 0]}->h3=h2.push {cls:=.type "tuple",data:=.seq #[.ref s.heap.objs.size,.ref h1.objs.size]}->
   h4=h3.push {cls:=.type "tuple",data:=.seq #[.none,.none]}->h5=h4.push {cls:=.type "zip",data:=.fields #[.none,.bool false,.bool false,.ref h2.objs.size,.ref h3.objs.size]}->R (.ok (.ret (.ref h4.objs.size))) {s with heap:=h5}):=
 .of_wp fun prog w A R s h=>by
  obtain⟨hp,g,d,tk,os⟩:=s
  obtain⟨p1,p2,h⟩:=h
  have KC:=sub_zip
  have q1:Heap.IsTuple (Shared.heap ⟨hp,g,d,tk,os⟩) t1 xs:=p1
  have q2:Heap.IsTuple (Shared.heap ⟨hp.push {cls:=.type "tuple_iterator",data:=.fields #[.ref t1,.int 0 0]},g,d,tk,os⟩) t2 ys:=Heap.IsTuple.push p2 _
  wp_walk using lJ q1,lJ q2
  exact⟨_,rfl,h _ _ _ _ _ rfl rfl rfl rfl rfl⟩
def Fe {t1 t2:ah}{xs ys:Array af}{Q:af->ai->Prop}(p1:s.heap.IsTuple t1 xs) (p2:s.heap.IsTuple t2 ys)
  (q:∀h',IsZip h' (s.heap.objs.size+4) (s.heap.objs.size+2) (s.heap.objs.size+3) .none->IsPair h' (s.heap.objs.size+2) (.ref s.heap.objs.size) (.ref (s.heap.objs.size+1))->IsPair h' (s.heap.objs.size+3) .none .none->
   h'.IsTupleIter s.heap.objs.size t1 0->h'.IsTupleIter (s.heap.objs.size+1) t2 0->(∀c o,s.heap.get? c=some o->h'.get? c=some o)->Q (.ref (s.heap.objs.size+4)) {s with heap:=h'}):
  wpAny (model prog w) A (call (.type "zip") [.ref t1,.ref t2]) Q E s:=by
 refine callType_new F.called_zip (by decide) (F.typeCall_zip_2 _ _) (F.newCall_zip_2 _ _) (fun obj=>F.args_object_init_3 obj _ _) F.entry_zip_new (BE t1 t2 xs ys) ⟨p1,p2,fun h1 h2 h3 h4 h5 e1 e2 e3 e4 e5=>?_⟩
 have m1:h1.objs.size=s.heap.objs.size+1:=by rw[e1];exact bZ ..
 have m2:h2.objs.size=s.heap.objs.size+2:=by rw[e2,bZ,m1]
 have m3:h3.objs.size=s.heap.objs.size+3:=by rw[e3,bZ,m2]
 have m4:h4.objs.size=s.heap.objs.size+4:=by rw[e4,bZ,m3]
 have u5:∀c o,h4.get? c=some o->h5.get? c=some o:=fun c o e=>by rw[e5];exact ag _ e
 have u4:∀c o,h3.get? c=some o->h4.get? c=some o:=fun c o e=>by rw[e4];exact ag _ e
 have u3:∀c o,h2.get? c=some o->h3.get? c=some o:=fun c o e=>by rw[e3];exact ag _ e
 have u2:∀c o,h1.get? c=some o->h2.get? c=some o:=fun c o e=>by rw[e2];exact ag _ e
 have u1:∀c o,s.heap.get? c=some o->h1.get? c=some o:=fun c o e=>by rw[e1];exact ag _ e
 have f5:IsZip h5 (s.heap.objs.size+4) (s.heap.objs.size+2) (s.heap.objs.size+3) .none:=by
  rw[<-m4,<-m3,<-m2,e5];exact aw _ rfl
 have f4:IsPair h4 (s.heap.objs.size+3) .none .none:=by rw[<-m3,e4];exact aw _ rfl
 have f3:IsPair h3 (s.heap.objs.size+2) (.ref s.heap.objs.size) (.ref (s.heap.objs.size+1)):=by rw[<-m2,<-m1,e3];exact aw _ rfl
 have f2:h2.IsTupleIter (s.heap.objs.size+1) t2 0:=⟨_,by rw[<-m1,e2];exact aw _ rfl,rfl,rfl⟩
 have f1:h1.IsTupleIter s.heap.objs.size t1 0:=⟨_,by rw[e1];exact aw _ rfl,rfl,rfl⟩
 rw[m4]
 obtain⟨v1,v2,v3⟩:=f1
 obtain⟨w1,w2,w3⟩:=f2
 exact⟨⟨_,f5,rfl⟩,q h5 f5 (u5 _ _ (u4 _ _ f3)) (u5 _ _ f4) ⟨v1,u5 _ _ (u4 _ _ (u3 _ _ (u2 _ _ v2))),v3⟩ ⟨w1,u5 _ _ (u4 _ _ (u3 _ _ w2)),w3⟩ fun c o e=>u5 _ _ (u4 _ _ (u3 _ _ (u2 _ _ (u1 _ _ e))))⟩
end
def ZV (K:PySem.W.Frag) (a b:ah):It:=⟨fun i H=>∃xs ys x y,bY K H a xs/\bY K H b ys/\xs[i]?=some x/\ys[i]?=some y,
 fun i H v H'=>∃T x y,H T=none/\v=.ref T/\H'=upd H T (.tup [x,y])/\(∀xs,bY K H a xs->xs[i]?=some x)/\∀ys,bY K H b ys->ys[i]?=some y,fun i H=>∃xs ys,bY K H a xs/\bY K H b ys/\(xs.length<=i\/ys.length<=i)⟩
def Sv (z TI TO i1 i2 a b:ah) (i:Nat) (h:Heap):Prop:=IsZip h z TI TO .none/\IsPair h TI (.ref i1) (.ref i2)/\(∃x y,IsPair h TO x y)/\h.IsTupleIter i1 a i/\h.IsTupleIter i2 b i
def Ff {P:aF}{w:ba}{K:PySem.W.Frag}{elts:List Expr}{kk:Nat}{tp:Pos}(z TI TO i1 i2 a b:ah) (D:ZipApart z TI TO i1 i2 a b):Turn P w K (.Tuple elts kk tp) (ZV K a b) [z,TI,TO,i1,i2] z (Sv z TI TO i1 i2 a b) where
 mem:=by simp
 obj:=fun i h st c hc=>by
  obtain⟨z1,z2,⟨x,y,z3⟩,⟨o,o1,o2,o3⟩,⟨u,u1,u2,u3⟩⟩:=st
  simp only[aC,aM,cz] at hc
  rcases hc with rfl|rfl|rfl|rfl|rfl
  ·exact⟨_,z1,fun v e=>by cases(show Data.fields _=Data.cell v from e)⟩
  ·exact⟨_,z2,fun v e=>by cases(show Data.seq _ _=Data.cell v from e)⟩
  ·exact⟨_,z3,fun v e=>by cases(show Data.seq _ _=Data.cell v from e)⟩
  ·exact⟨o,o1,fun v e=>by rw[o3] at e;cases e⟩
  ·exact⟨u,u1,fun v e=>by rw[u3] at e;cases e⟩
 keep:=fun i h h' st kp=>by
  obtain⟨z1,z2,⟨x,y,z3⟩,⟨o,o1,o2⟩,⟨u,u1,u2⟩⟩:=st
  exact⟨kp z (by simp) _ z1,kp TI (by simp) _ z2,⟨x,y,kp TO (by simp) _ z3⟩,⟨o,kp i1 (by simp) o o1,o2⟩,⟨u,kp i2 (by simp) u u1,u2⟩⟩
 item:=by
  intro X hP hw hK hc i pins s σ H E I hf st hg
  subst hP hw hK
  obtain⟨xs,ys,x,y,zP,zq,hx,hy⟩:=hg
  obtain⟨va,KD,p1,_⟩:=I.tuple zP
  obtain⟨kX,KE,p2,_⟩:=I.tuple zq
  obtain⟨u1,WT,Oa⟩:=KD.get hx
  obtain⟨u2,Ob,Oc⟩:=KE.get hy
  obtain⟨z1,z2,⟨oa,ob,z3⟩,j1,j2⟩:=st
  have Hr:s.TypeIs (.ref z) "zip":=⟨_,z1,rfl⟩
  have lt:∀c∈[z,TI,TO,i1,i2],c<s.heap.objs.size:=fun c hc=>by
   obtain⟨_,w1,_⟩:=id j1
   obtain⟨_,w2,_⟩:=id j2
   simp only[aC,aM,cz] at hc
   rcases hc with rfl|rfl|rfl|rfl|rfl
   ·exact aA z1
   ·exact aA z2
   ·exact aA z3
   ·exact aA w1
   ·exact aA w2
  unfold pyNext
  refine aa (uG (cG (name:=Str.ofString "__next__") Hr ik (dH ik Hr wo
   (Fd D z1 z2 z3 j1 j2 (show s.heap.IsTuple a va.toArray from p1) (show s.heap.IsTuple b kX.toArray from p2) (x:=u1) (y:=u2) (by simpa using WT) (by simpa using Ob) fun h' a1 a2 a3 a4 a5 a7=>ak ?_) (uh _))))
  refine⟨_,rfl,wpAny_letOwnedTupleGo_zip a1 fun h2 b1 KG=>?_⟩
  have nT:s.heap.objs.size≠z:=iG (lt z (by simp))
  have Fg:∀c o,c≠z->h'.get? c=some o->h2.get? c=some o:=fun c o n e=>(KG.2 c n).trans e
  obtain⟨f1,f2,f3⟩:=I.out (h':=h2) (t':=s.toks) (xs:=[x,y]) (us:=[u1,u2]) hf lt (.cons Oa (.cons Oc .nil)) (dF)
   (fun c o hc q=>Fg c o (fun e=>hc (by simp[e])) (a7 c o (fun e=>hc (by simp[e])) (fun e=>hc (by simp[e])) (fun e=>hc (by simp[e])) (fun e=>hc (by simp[e])) q)) (Fg _ _ nT a5)
  obtain⟨v1,v2,v3⟩:=a3
  obtain⟨w1,w2,w3⟩:=a4
  exact⟨.ref s.heap.objs.size,_,f2,rfl,⟨_,x,y,f1,rfl,rfl,fun zs Od=>by rw[I.rT Od zP];exact hx,fun zs Od=>by rw[I.rT Od zq];exact hy⟩,
   ⟨b1,Fg _ _ D.TIz (a7 _ _ D.TIz D.TITO D.TIi1 D.TIi2 z2),⟨_,_,Fg _ _ D.TOz a2⟩,⟨v1,Fg _ _ D.i1z v2,v3⟩,⟨w1,Fg _ _ D.i2z w2,w3⟩⟩,f3⟩
 done:=by
  intro X hP hw hK hc i pins s σ H E I hf st hg
  subst hP hw hK
  obtain⟨xs,ys,zP,zq,WU⟩:=hg
  obtain⟨va,KD,p1,_⟩:=I.tuple zP
  obtain⟨kX,KE,p2,_⟩:=I.tuple zq
  obtain⟨z1,z2,⟨oa,ob,z3⟩,j1,j2⟩:=st
  have Hr:s.TypeIs (.ref z) "zip":=⟨_,z1,rfl⟩
  have l1:=KD.length
  have l2:=KE.length
  have ends:va.toArray[i]?=none\/kX.toArray[i]?=none:=by
   rcases WU with e|e
   ·left;simp;omega
   ·right;simp;omega
  unfold pyNext
  refine aa (uG (cG (name:=Str.ofString "__next__") Hr ik (dH ik Hr wo
   (Ho (I.ok.hd hc) D z1 z2 z3 j1 j2 (show s.heap.IsTuple a va.toArray from p1) (show s.heap.IsTuple b kX.toArray from p2) ends fun h' x kp ⟨o,o1,o2⟩=>?_) (uh _))))
  refine aa (Nl (T:="StopIteration") (b:=true) ⟨o,o1,o2⟩ isSubtype_stop (ak ⟨rfl,?_⟩))
  exact I.uk (t':=s.toks) hf fun c o hc q=>kp c o (fun e=>hc (by simp[e])) (fun e=>hc (by simp[e])) (fun e=>hc (by simp[e])) (fun e=>hc (by simp[e])) q
 self:=fun _ _ _ _ _ st q=>wt st.1 q
def xA:bootBuiltins "zip"=some (.type "zip"):=by decide+kernel
def Sw (K:PySem.W.Frag) (ta:TA):TI:=fun σ H R=>ta σ H fun vs H1=>∃a b,vs=[.ref a,.ref b]/\(∃xs,bY K H1 a xs)/\(∃ys,bY K H1 b ys)/\R (ZV K a b) H1
def KH {X:Cx}{elts:List Expr}{kk:Nat}{tp:Pos}{e1 e2:Expr}{ta:TA}{p pos:Pos}(hg:Gl X "zip") (hm:X.mg "zip"=none) (ha:PA X [e1,e2] ta) (hs:starEach [e1,e2] X.env=[(false,eval e1 X.env),(false,eval e2 X.env)]:=by rfl) (GQ:starEach [e2] X.env=[(false,eval e2 X.env)]:=by rfl):
  PI X (.Tuple elts kk tp) (.Call (.Name "zip" p) [e1,e2] [] pos) (Sw X.K ta):=by
 intro pins s σ H R I h
 refine Call_ (pU I hg hm xA (gk (e_ (ha pos pins s σ H _ I h) fun us s1 ⟨vs,H1,I1,r1,q1⟩=>?_) (by rw[hs,GQ]) (by rw[GQ];rfl)))
 obtain⟨a,b,e,⟨xs,zP⟩,⟨ys,zq⟩,q⟩:=q1
 subst e
 obtain⟨u1,u2,rfl,Oa,Oc⟩:=vals2 r1
 cases(show u1=Value.ref a from Oa)
 cases(show u2=Value.ref b from Oc)
 obtain⟨va,KD,p1,_⟩:=I1.tuple zP
 obtain⟨kX,KE,p2,_⟩:=I1.tuple zq
 have la:a<s1.heap.objs.size:=by obtain⟨o,e,_⟩:=(show s1.heap.IsTuple a va.toArray from p1);exact aA e
 have lb:b<s1.heap.objs.size:=by obtain⟨o,e,_⟩:=(show s1.heap.IsTuple b kX.toArray from p2);exact aA e
 refine Fe (show s1.heap.IsTuple a va.toArray from p1) (show s1.heap.IsTuple b kX.toArray from p2) fun h' a1 a2 a3 a4 a5 kp=>wt a1 ?_
 refine⟨_,[s1.heap.objs.size+4,s1.heap.objs.size+2,s1.heap.objs.size+3,s1.heap.objs.size,s1.heap.objs.size+1],_,_,H1,rfl,I1.kept (t':=s1.toks) kp,Ff _ _ _ _ _ a b (zipApart_new la lb),⟨a1,a2,⟨_,_,a3⟩,a4,a5⟩,fun c hc=>?_,q⟩
 have ge:s1.heap.objs.size<=c:=by
  simp only[aC,aM,cz] at hc
  rcases hc with rfl|rfl|rfl|rfl|rfl
  ·exact dZ _ _
  ·exact dZ _ _
  ·exact dZ _ _
  ·exact aB _
  ·exact dZ _ _
 exact I1.x_ ge (I1.eE.fresh ge)
def zQ {J:It}{n:Nat}{u v:Nat->V}{g:TG}{tc:TT}{te:TE}{E9:St}{H1:Hp}{Q:VK}{D:ah}(Iv:Nat->List V->St->Hp->Prop) (hD:H1 D=none) (hn:n<=1000)
  (h0:Iv 0 [] E9 (upd H1 D (.lst [])))
  (hj:∀i ys σ H,i<=n->H D=some (.lst ys)->Iv i ys σ H->(i=n->J.stop i H)/\(i<n->J.go i H/\∀x H',J.Bk i H x H'->∃T,H T=none/\x=.ref T/\H'=upd H T (.tup [u i,v i])))
  (hs:∀i ys σ H T,i<n->H D=some (.lst ys)->Iv i ys σ H->H T=none->g (.ref T) σ (upd H T (.tup [u i,v i])) fun iE H3=>tc iE H3 fun b H4=>
   if b=true then te iE H4 fun y H5=>H5 D=some (.lst ys)/\Iv (i+1) (ys++ [y]) iE (upd H5 D (.lst (ys++ [y]))) else H4 D=some (.lst ys)/\Iv (i+1) ys iE H4)
  (hd:∀ys σ H,H D=some (.lst ys)->Iv n ys σ H->Q (.ref D) H):pK J g tc te E9 H1 Q D:=by
 refine⟨fun i m σ H=>m=n-i/\i<=n/\∃ys,H D=some (.lst ys)/\ys.length<=i/\Iv i ys σ H,⟨n,rfl,fH _,[],az,aB _,h0⟩,?_⟩
 rintro i m σ H ⟨rfl,hi,ys,hy,hl,iv⟩
 obtain⟨j1,j2⟩:=hj i ys σ H hi hy iv
 rcases Nat.lt_or_ge i n with lt|ge
 ·obtain⟨go,yl⟩:=j2 lt
  refine .inr ⟨go,fun iE H4=>H4 D=some (.lst ys)/\Iv (i+1) ys iE H4,fun y iE H5=>H5 D=some (.lst ys)/\Iv (i+1) (ys++ [y]) iE (upd H5 D (.lst (ys++ [y]))),fun iE H4 q=>?_,fun y iE H5 q=>?_,fun x H2 q=>?_⟩
  ·exact⟨n-(i+1),by omega,rfl,lt,ys,q.1,by omega,q.2⟩
  ·exact⟨ys,n-(i+1),q.1,dq (by omega),by omega,rfl,lt,ys++ [y],az,by rw[aK,aG];omega,q.2⟩
  ·obtain⟨T,f1,rfl,rfl⟩:=yl x H2 q
   exact hs i ys σ H T lt hy iv f1
 ·have e:i=n:=by omega
  subst e
  exact .inl ⟨j1 rfl,hd ys σ H hy iv⟩
section
variable {X:Cx}{tg:Expr}
def Ht (hc:X.calm=true):gE X (.builtin "any") (fun xs H Q=>∃(p:ah) (bs:List Bool),xs=[.ref p]/\cS X.K H p (bs.map V.bl)/\Q (.bl (bs.any id)) H):=by
 intro pins s σ H xs us Q I r h
 obtain⟨p,bs,rfl,hq,q⟩:=h
 obtain⟨u,rfl,rx⟩:=zw r
 cases(show u=Value.ref p from rx)
 obtain⟨cE,rv,pl,hz⟩:=I.list hq
 have nX:p<s.heap.objs.size:=by obtain⟨o,e,_⟩:=pl.isList;exact aA e
 refine call_any_walk (il pl.isList ?_)
 refine⟨s.heap.objs.size,_,_,cE.toArray.size,_,_,fun i=>bs.getD i false,rfl,Walks.list (prog:=X.prog) (w:=X.w) (A:=X.A.in1) (I.ok.hd hc) s.heap.objs.size p (bb nX) cE.toArray,⟨⟨_,aw _ rfl,rfl,rfl⟩,pl.isList.at fun o e=>ag _ e⟩,?_,fun h' tk hk=>?_⟩
 ·intro i v s' Q' E' hP hQ
  have se:cE[i]?=some v:=by simpa using hP
  have hl:=rv.length
  rw[aq] at hl
  have hi:i<cE.length:=(bw.mp se).1
  obtain⟨u,hu,ru⟩:=rv.get (i:=i) (x:=V.bl (bs.getD i false)) (by rw[bX,aH (by omega)];simp[List.getD,aH (show i<bs.length by omega)])
  rw[se] at hu;cases hu
  cases(show v=Value.bool _ from ru)
  exact dM hQ
 ·refine⟨.bl _,H,I.kept fun b o e=>hk b o (by simpa using bb (aA e)) (ag _ e),rfl,?_⟩
  have hl:=rv.length
  rw[aq] at hl
  have e:(List.range cE.toArray.size).any (fun i=>bs.getD i false)=bs.any id:=by
   rw[aI,<-hl]
   have:(List.range bs.length).map (fun i=>bs.getD i false)=bs:=by
    apply EC
    ·simp
    ·intro i h1 h2;simp[List.getD,aH h2]
   conv=>rhs;rw[<-this]
   rw[RC];rfl
  rw[e];exact q
end
def Hu {xs:List V}(h:1<=xs.length):iU xs (some 1) none=xs.drop 1:=by
 unfold iU
 have e1:HT.hZ xs.length 0 (some 1)=1:=by
  have:=HT.lh xs.length 0 1
  rw[show((1:Nat):Int)=1 from rfl] at this
  rw[this];omega
 rw[e1,HT.qQ,cX (by rw[dB];exact aB _)]
def Fh {J:It}{n:Nat}{u v:Nat->V}{g:TG}{te:TE}{E9:St}{H1:Hp}{Q:VK}{D:ah}(Iv:Nat->List V->St->Hp->Prop) (hD:H1 D=none) (hn:n<=1000)
  (h0:Iv 0 [] E9 (upd H1 D (.lst [])))
  (hj:∀i ys σ H,i<=n->H D=some (.lst ys)->Iv i ys σ H->(i=n->J.stop i H)/\(i<n->J.go i H/\∀x H',J.Bk i H x H'->∃T,H T=none/\x=.ref T/\H'=upd H T (.tup [u i,v i])))
  (hs:∀i ys σ H T,i<n->H D=some (.lst ys)->Iv i ys σ H->H T=none->g (.ref T) σ (upd H T (.tup [u i,v i])) fun iE H3=>te iE H3 fun y H5=>H5 D=some (.lst ys)/\Iv (i+1) (ys++ [y]) iE (upd H5 D (.lst (ys++ [y]))))
  (hd:∀ys σ H,H D=some (.lst ys)->Iv n ys σ H->Q (.ref D) H):pK J g qd te E9 H1 Q D:=
 zQ Iv hD hn h0 hj (fun i ys σ H T h1 h2 h3 h4=>hs i ys σ H T h1 h2 h3 h4) hd
def xB:∀{ss:List Str}{us:List af},cy (ss.map V.str) us->StrsAre us ss
 | [],_,r=>by cases r;exact .nil
 |x::ss,_,r=>by
  cases r with
  |cons r1 r2=>
   obtain⟨t,rfl⟩:=r1
   exact .cons x t (xB r2)
def xC:∀{us:List af}{ss:List Str},StrsAre us ss->cy (ss.map V.str) us
 |_,_,.nil=>.nil
 |_,_,.cons x t h=>.cons ⟨t,rfl⟩ (xC h)
section
variable {X:Cx}
def iw:gE X (.builtin "sorted") (fun xs H Q=>∃(p:ah) (ss:List Str),xs=[.ref p]/\cS X.K H p (ss.map V.str)/\ss.length<64/\∀(l:ah) (Q7:List Str),H l=none->Q7.Perm ss->sortedS Q7=true->Q (.ref l) (upd H l (.lst (Q7.map V.str)))):=by
 intro pins s σ H xs us Q I r h
 obtain⟨p,ss,rfl,hq,Gi,q⟩:=h
 obtain⟨u,rfl,rx⟩:=zw r
 cases(show u=Value.ref p from rx)
 obtain⟨cE,rv,pl,hz⟩:=I.list hq
 have hl:=rv.length
 rw[aq] at hl
 refine sorted_strs pl.isList (xB rv) (by omega) fun out Q7 a1 a2 a3=>?_
 obtain⟨e,he⟩:=sortedAll_at s.heap cE out
 have fresh:H (s.heap.objs.size+1)=none:=I.eE.fresh (dE _)
 have nK:=a2.length_eq
 refine⟨.ref (s.heap.objs.size+1),upd H (s.heap.objs.size+1) (.lst (Q7.map V.str)),I.laid (t':=s.toks) (fun b o eb=>sortedAll_old eb) (dE _) ⟨?_,out.toList,e,xC a1,?_⟩,rfl,q _ Q7 fresh a2 a3⟩
 ·rw[aq];exact eM (dq (by omega))
 ·rw[he]
end
end L2
namespace HT
open PySem PyProof.Rows
section
variable {prog:aF}{w:ba}{A:aQ}{E:af->ai->Prop}{s:ai}
def qY {t sl:ah}{items:Array af}{vl vu:af}{lo hi:Option Int}{Q:af->ai->Prop}(ht:IsTup s.heap t items) (hs:s.heap.IsSliceOf sl vl vu .none) (pl:IsPart vl lo) (pu:IsPart vu hi)
  (hw:hZ items.size 0 lo=0/\hZ items.size items.size hi=items.size) (h:Q (.ref t) s):wpAny (model prog w) A (getItem (.ref t) (.ref sl)) Q E s:=by
 obtain⟨os,NR,Vk,R3⟩:=id hs
 have Wo:s.TypeIs (.ref sl) "slice":=⟨os,NR,Vk⟩
 unfold getItem
 try with_reducible refine cM ?_
 first|refine aa (ak ?_)|skip
 refine aa (JY ht.typeIs (by decide) ?_)
 refine aa (cG (name:=Str.ofString "__getitem__") ht.typeIs cD
  (dH cD ht.typeIs entry_tuple_getitem ?_ (args_tuple_getitem _ _)))
 show wpAny _ _ (Builtin.Tuple.tupleItemsOf (.ref t)>>=_) _ _ s
 refine aa (tupleItemsOf_ ht ?_)
 refine aa (qG Wo ?_)
 rw[aP (by decide)]
 refine aa (mv hs pl pu ?_)
 show wpAny _ _ (if(((hZ items.size 0 lo:Nat):Int)==0&&(1:Int)==1&&(hZ items.size items.size hi-hZ items.size 0 lo)==items.size)=true then _ else _) _ _ s
 rw[hw.1,hw.2,aP (by simp)]
 unfold Builtin.Tuple.tupleIsExact
 refine aa (aa (qG ht.typeIs (ak ?_)))
 rw[aP (by decide)]
 refine aa (jS ?_)
 exact ak ⟨_,rfl,ak h⟩
end
end HT
namespace L2
open PySem PySem.Spec PyProof.Rows
section
variable {X:Cx}
def Oe (K:PySem.W.Frag):V->Option Int->Option Int->Hp->VK->Prop:=fun x lo hi H Q=>∃a xs,x=.ref a/\bY K H a xs/\
 ((HT.hZ xs.length 0 lo=0/\HT.hZ xs.length xs.length hi=xs.length)->Q (.ref a) H)/\(¬(HT.hZ xs.length 0 lo=0/\HT.hZ xs.length xs.length hi=xs.length)->∀p,H p=none->Q (.ref p) (upd H p (.tup (iU xs lo hi))))
def yu:Vl X (Oe X.K):=by
 intro pins s σ H x v vl vu lo hi sl Q I rx hs pl pu h
 obtain⟨a,xs,e,hx,q1,q2⟩:=h
 by_cases hw:HT.hZ xs.length 0 lo=0/\HT.hZ xs.length xs.length hi=xs.length
 ·subst e
  cases rx
  obtain⟨cE,r,ht,hz⟩:=I.tuple hx
  have hlen:cE.toArray.size=xs.length:=by rw[aI];exact r.length.symm
  refine⟨"tuple",_,cD.lookup,ht.typeIs,?_⟩
  exact HT.qY ht hs pl pu (by rw[hlen];exact hw) ⟨.ref a,H,I,rfl,q1 hw⟩
 ·exact yf pins s σ H x v vl vu lo hi sl Q I rx hs pl pu ⟨a,xs,e,hx,hw,q2 hw⟩
end
end L2
namespace HT
open PySem PyProof.Rows
def BF (n:Nat):Builtin.Slice.sliceAdjust none none (-1) (n:Int)=((n:Int)-1,-1):=by
 unfold Builtin.Slice.sliceAdjust
 simp
def BG (n:Nat):Builtin.Slice.slicePlaces ((n:Int)-1) (-1) (-1)=n:=by
 unfold Builtin.Slice.slicePlaces
 simp
 omega
def filterMap_some {α β:Type}{f:α->Option β}{g:α->β}:∀{l:List α},(∀a∈l,f a=some (g a))->l.filterMap f=l.map g
 | [],_=>rfl
 |a::l,h=>by
  rw[ij,h a cf,bH,filterMap_some fun b hb=>h b (cm _ hb)]
def Hv (xs:Array af):((List.range xs.size).filterMap fun(m:Nat)=>xs[(((xs.size:Nat):Int)-1+(m:Int)*(-1)).toNat]?).toArray=xs.toList.reverse.toArray:=by
 congr 1
 have:∀m∈List.range xs.size,(fun(m:Nat)=>xs[(((xs.size:Nat):Int)-1+(m:Int)*(-1)).toNat]?) m=some (xs.toList.reverse.getD m .none):=fun m hm=>by
  have Sx:=pE.mp hm
  have e:((((xs.size:Nat):Int)-1+(m:Int)*(-1)).toNat)=xs.size-1-m:=by omega
  show xs[(((xs.size:Nat):Int)-1+(m:Int)*(-1)).toNat]?=_
  rw[e,Array.getElem?_eq_getElem (by omega)]
  simp[List.getD,Sx]
 rw[filterMap_some (g:=fun m=>xs.toList.reverse.getD m .none) this]
 apply EC
 ·simp
 ·intro i h1 h2
  have N_:i<xs.size:=by simpa using h2
  simp[List.getD,N_]
section
variable {prog:aF}{w:ba}{A:aQ}{E:af->ai->Prop}{s:ai}
def zR {sl:ah}{vk:af}{n:Nat}{Q:Int×Int×Nat->ai->Prop}(hs:s.heap.IsSliceOf sl .none .none vk) (pk:IsPart vk (some (-1))) (h:Q ((n:Int)-1,-1,n) s):wpAny (model prog w) A (Builtin.Slice.sliceApplied (.ref sl) (pure (n:Int))) Q E s:=by
 obtain⟨os,o1,o2,o3⟩:=id hs
 unfold Builtin.Slice.sliceApplied Builtin.Slice.sliceFields
 refine aa (aa (bJ o1 o3 (x:=.none) rfl (aa (bJ o1 o3 (x:=.none) rfl (aa (bJ o1 o3 (x:=vk) rfl (ak ?_)))))))
 refine aa (pY pk ?_)
 refine(?_:wpAny _ _ (if((-1:Int)==0)=true then _ else _) _ _ s)
 rw[aO (by decide)]
 refine aa (Mg (aa (Mg (aa (ak ?_)))))
 refine(?_:wpAny _ _ (match Builtin.Slice.sliceAdjust none none (-1) (n:Int) with|(lo,hi)=>pure (lo,(-1:Int),Builtin.Slice.slicePlaces lo hi (-1))) _ _ s)
 rw[BF]
 refine(?_:wpAny _ _ (pure ((n:Int)-1,(-1:Int),Builtin.Slice.slicePlaces ((n:Int)-1) (-1) (-1))) _ _ s)
 rw[BG]
 exact ak h
def qZ {t sl:ah}{items:Array af}{vk:af}{Q:af->ai->Prop}(ht:IsTup s.heap t items) (hs:s.heap.IsSliceOf sl .none .none vk) (pk:IsPart vk (some (-1)))
  (h:Q (.ref s.heap.objs.size) {s with heap:=s.heap.push {cls:=.type "tuple",data:=.seq items.toList.reverse.toArray}}) (hsz:items.size<=sizeLine):wpAny (model prog w) A (getItem (.ref t) (.ref sl)) Q E s:=by
 obtain⟨os,o1,o2,o3⟩:=id hs
 have Q8:s.TypeIs (.ref sl) "slice":=⟨os,o1,o2⟩
 have fits:sizeOk (.seq items.toList.reverse.toArray):=by
  show items.toList.reverse.toArray.size<=sizeLine
  simpa using hsz
 unfold getItem
 try with_reducible refine cM ?_
 first|refine aa (ak ?_)|skip
 refine aa (JY ht.typeIs (by decide) ?_)
 refine aa (cG (name:=Str.ofString "__getitem__") ht.typeIs cD
  (dH cD ht.typeIs entry_tuple_getitem ?_ (args_tuple_getitem _ _)))
 show wpAny _ _ (Builtin.Tuple.tupleItemsOf (.ref t)>>=_) _ _ s
 refine aa (tupleItemsOf_ ht ?_)
 refine aa (qG Q8 ?_)
 rw[aP (by decide)]
 refine aa (zR hs pk ?_)
 show wpAny _ _ (if(((items.size:Int)-1)==0&&(-1:Int)==1&&items.size==items.size)=true then _ else _) _ _ s
 rw[aO (by simp),Hv]
 first
  |exact aa (m:=Builtin.Tuple.tupleExact _) (bD (ak ⟨_,rfl,ak h⟩) fits)
  |exact aa (m:=Builtin.Tuple.tupleExact _) (bD (aa (ak (ak ⟨_,rfl,ak h⟩))) fits)
  |exact aa (aa (m:=Builtin.Tuple.tupleExact _) (bD (ak (ak ⟨_,rfl,ak h⟩)) fits))
  |exact aa (aa (m:=Builtin.Tuple.tupleExact _) (bD (ak ⟨_,rfl,ak h⟩) fits))
end
end HT
namespace L2
open PySem PySem.Spec PyProof.Rows
section
variable {X:Cx}
def cy.zS:∀{xs:List V}{us:List af},cy xs us->cy xs.reverse us.reverse
 |_,_,.nil=>.nil
 |_,_,.cons r rs=>by
  rw[List.reverse_cons,List.reverse_cons]
  exact(cy.zS rs).append (.cons r .nil)
def KI {e st:Expr}{te ts:TE}{p2 pos:Pos}(he:PE X e te) (EL:PE X st ts) (KC:∀v key:af,∃ops,subscripted (.Slice none none (some st) p2) false v key=operate ops (getItem v key)):
  PE X (.Subscript e (.Slice none none (some st) p2) pos) (fun σ H Q=>te σ H fun x H1=>ts σ H1 fun y H2=>∃a xs,x=.ref a/\y=.int (-1)/\bY X.K H2 a xs/\∀p,H2 p=none->Q (.ref p) (upd H2 p (.tup xs.reverse))):=by
 intro pins s σ H Q I h
 refine Subscript_ (e_ (he pins s σ H _ I h) fun v s1 ⟨x,H1,I1,r1,q1⟩=>?_)
 refine wpAny_Slice ?_
 rw[evalPart_none,evalPart_some]
 refine ak (ak (e_ (EL pins s1 σ H1 _ I1 q1) fun vk s2 ⟨y,H2,I2,r2,q2⟩=>?_))
 obtain⟨a,xs,rfl,rfl,hx,q⟩:=q2
 obtain⟨tk,rfl⟩:=(show∃t,vk=Value.int (-1) t from r2)
 cases(show v=Value.ref a from r1)
 have I3:Inv X pins σ H2 {s2 with heap:=s2.heap.push {cls:=.type "slice",data:=.fields #[.none,.none,.int (-1) tk]}}:=I2.kept (t':=s2.toks) fun b ob q=>ag _ q
 obtain⟨cE,r,ht,hz⟩:=I3.tuple hx
 have hlen:=r.length
 show wpAny (model X.prog X.w) X.A (subscriptTail e (.Slice none none (some st) p2) (.ref a) (.ref s2.heap.objs.size)) (EP X pins σ Q) X.xe {s2 with heap:=s2.heap.push {cls:=.type "slice",data:=.fields #[.none,.none,.int (-1) tk]}}
 obtain⟨ops,WV⟩:=KC (.ref a) (.ref s2.heap.objs.size)
 refine tail_any (ops:=ops) ht.typeIs cD.lookup (HT.qZ ht (Heap.IsSliceOf.new ..) (.int _ _) ?_ (by rw[aI];omega)) WV
 refine⟨.ref _,_,I3.laid (t':=s2.toks) (o:=.tup xs.reverse) (fun b ob q=>ag _ q) (aB _) ?_,rfl,q _ (I3.eE.fresh (aB _))⟩
 exact⟨by rw[List.length_reverse];exact hz,_,cy.zS r,uO.new _ _⟩
end
section
variable {prog:aF}{w:ba}{A:aQ}{E:af->ai->Prop}{s:ai}
def Hw {t:ah}{vs:List af}{Q:List af->ai->Prop}(zp:s.heap.IsTuple t vs.toArray) (q:Q vs {s with heap:=(s.heap.push (seqObj "list" #[] 0)).update s.heap.objs.size (Obj.mapSeq (· ++vs.toArray))}) (zT:vs.length<=sizeLine):
  wpAny (model prog w) A (collect (.ref t)) Q E s:=by
 obtain⟨o,o1,o2,n,o3⟩:=id zp
 unfold collect
 refine aa (wpAny_runValue (gv entry_proto_collect' ?_));show wpAny _ _ (do again (.builtin "list.__iadd__" ⟨[<-newList [],.ref t],[]⟩)) _ _ s
 refine aa (Gd (ak ⟨Gx _ (by decide+kernel),gv entry_list_iadd' ?_⟩));show wpAny _ _ (Builtin.List.listExtendWith (.ref s.heap.objs.size) (.ref t) (.ref s.heap.objs.size)) _ _ {s with heap:=s.heap.push (seqObj "list" #[] 0)}
 unfold Builtin.List.listExtendWith
 have u1:(s.heap.push (seqObj "list" #[] 0)).get? t=some o:=ag _ o1
 refine aa (qG (T:="tuple") ⟨o,u1,o2⟩ ?_);rw[aP (by simp)]
 refine aa (listItems_at u1 o3 ?_);refine aa (listItems_at (xs:=#[]) (n:=0) (aw _ rfl) rfl ?_)
 rw[aO (by simp)];refine aa (RD (xs:=#[]) (n:=0) (aw _ rfl) rfl (ak ?_) (fH _) (by show(#[]++vs.toArray).size<=sizeLine+1;simp only[Array.size_append,aI,iP];omega))
 refine(?_:wpAny (model prog w) A (load s.heap.objs.size>>=_) Q E {s with heap:=(s.heap.push (seqObj "list" #[] 0)).update s.heap.objs.size (Obj.mapSeq (· ++vs.toArray))});refine aa (wpAny_load (get?_update_seq (aw _ rfl) _) ?_)
 refine(?_:wpAny _ _ (pure ((#[]:Array af)++vs.toArray).toList) Q E _)
 rw[show((#[]:Array af)++vs.toArray).toList=vs by simp];exact ak q
end
section
variable {X:Cx}
end
section
variable {κ:Type} [DecidableEq κ]
def lX (de:List (κ×V)) (k:κ):Option V:=(de.find? fun kv=>decide (kv.1=k)).map (·.2)
def putK (de:List (κ×V)) (k:κ) (v:V):List (κ×V):=
 if(de.any fun kv=>decide (kv.1=k))=true then de.map (fun kv=>if kv.1=k then(kv.1,v) else kv) else de++ [(k,v)]
def vc {p:κ×V}{r:List (κ×V)}{k:κ}(e:p.1=k):lX (p::r) k=some p.2:=by simp[lX,j_,e]
def vd {p:κ×V}{r:List (κ×V)}{k:κ}(e:¬p.1=k):lX (p::r) k=lX r k:=by simp[lX,j_,e]
def zU (k:κ):∀de:List (κ×V),(de.any fun kv=>decide (kv.1=k))=(lX de k).isSome
 | []=>rfl
 |p::r=>by
  rw[jU]
  by_cases e:p.1=k
  ·simp only[vc e,aJ e,Bool.true_or,Option.isSome_some]
  ·rw[vd e,bC e,Bool.false_or];exact zU k r
def oh (de:List (κ×V)) (k:κ) (v:V):(putK de k v).length<=de.length+1:=by
 unfold putK
 split
 ·rw[aq];omega
 ·rw[aK,cH,iP];omega
def nB.Fi {o:Option V}{u:Option af}(r:nB o u):o.isSome=u.isSome:=by
 cases o with
 |none=>cases u with
  |none=>rfl
  |some _=>exact(show False from r).elim
 |some _=>cases u with
  |none=>exact(show False from r).elim
  |some _=>rfl
def KV.val {de:List (κ×V)}{vs:List (κ×af)}(r:KV de vs) (k:κ):nB (lX de k) (valueAt vs k):=by
 unfold KV at r
 induction r with
 |nil=>exact True.intro
 | @cons p q ps qs h t ih=>
  obtain⟨h1,h2⟩:=h
  by_cases e:p.1=k
  ·have e':q.1=k:=h1.symm.trans e
   have b:valueAt (q::qs) k=some q.2:=by simp[valueAt,j_,e']
   rw[vc e,b];exact h2
  ·have e':¬q.1=k:=fun z=>e (h1.trans z)
   have b:valueAt (q::qs) k=valueAt qs k:=by simp[valueAt,j_,e']
   rw[vd e,b];exact ih
def KV.any {de:List (κ×V)}{vs:List (κ×af)}(r:KV de vs) (k:κ):(de.any fun kv=>decide (kv.1=k))=vs.any fun kv=>decide (kv.1=k):=by
 unfold KV at r
 induction r with
 |nil=>rfl
 |cons h t ih=>rw[jU,jU,ih,h.1]
def KV.Of {de:List (κ×V)}{vs:List (κ×af)}(r:KV de vs) (k:κ) {y:V}{u:af}(ry:RelV y u):
  KV (de.map fun kv=>if kv.1=k then(kv.1,y) else kv) (vs.map fun kv=>if kv.1=k then(kv.1,u) else kv):=by
 unfold KV at r⊢
 induction r with
 |nil=>exact .nil
 | @cons p q ps qs h t ih=>
  rw[bH,bH]
  refine .cons ?_ ih
  obtain⟨h1,h2⟩:=h
  by_cases e:p.1=k
  ·rw[aP e,aP (h1.symm.trans e)];exact⟨h1,ry⟩
  ·rw[aO e,aO (fun z=>e (h1.trans z))];exact⟨h1,h2⟩
def KV.put {de:List (κ×V)}{vs:List (κ×af)}(r:KV de vs) (k:κ) {y:V}{u:af}(ry:RelV y u):KV (putK de k y) (stored vs k u):=by
 unfold putK stored
 rw[r.any k]
 by_cases e:(vs.any fun kv=>decide (kv.1=k))=true
 ·rw[aP e,aP e];exact r.Of k ry
 ·rw[aO e,aO e];exact dN r ⟨rfl,ry⟩
def KV.length {de:List (κ×V)}{vs:List (κ×af)}(r:KV de vs):de.length=vs.length:=oW r
end
def Dv {P:aF}{w:ba}{k:Key}{u:af}(r:RelV (kV k) u):(gq P w).is k u=true:=by
 cases k with
 |inl i=>obtain rfl:=(show u=Value.bool i from r);exact xW P w i
 |inr x=>obtain⟨t,e⟩:=(show∃t,u=Value.str x t from r);subst e;exact zA P w x t
def xD {P:aF}{w:ba}:∀{ks:List Key}{us:List af},cy (ks.map kV) us->ItemsAre (gq P w) ks us
 | [],_,r=>by rw[nO] at r;cases r;exact .nil
 |k::ks,_,r=>by
  rw[bH] at r
  cases r with
  |cons h t=>exact .cons (Dv h) (xD t)
abbrev KT (H:Hp):List (List Key×V)->List (List Key×ah×af)->Prop:=Paired fun p q=>p.1=q.1/\H q.2.1=some (.tup (p.1.map kV))/\RelV p.2 q.2.2
def KT.val {H:Hp}{de:List (List Key×V)}{xs:List (List Key×ah×af)}(r:KT H de xs) (k:List Key):nB (lX de k) ((atKey xs k).map (·.2)):=by
 induction r with
 |nil=>exact True.intro
 | @cons p q ps qs h t ih=>
  obtain⟨h1,_,h2⟩:=h
  by_cases e:p.1=k
  ·have e':q.1=k:=h1.symm.trans e
   have b:atKey (q::qs) k=some q.2:=by simp[atKey,j_,e']
   rw[vc e,b];exact h2
  ·have e':¬q.1=k:=fun z=>e (h1.trans z)
   have b:atKey (q::qs) k=atKey qs k:=by simp[atKey,j_,e']
   rw[vd e,b];exact ih
def KT.Of {H:Hp}{de:List (List Key×V)}{xs:List (List Key×ah×af)}(r:KT H de xs) (k:List Key) {y:V}{u:af}(ry:RelV y u):
  KT H (de.map fun kv=>if kv.1=k then(kv.1,y) else kv) (xs.map (putAt k u)):=by
 induction r with
 |nil=>exact .nil
 | @cons p q ps qs h t ih=>
  rw[bH,bH]
  refine .cons ?_ ih
  obtain⟨h1,h2,h3⟩:=h
  unfold putAt
  by_cases e:p.1=k
  ·rw[aP e,aP (h1.symm.trans e)];exact⟨h1,h2,ry⟩
  ·rw[aO e,aO (fun z=>e (h1.trans z))];exact⟨h1,h2,h3⟩
def KT.put {H:Hp}{de:List (List Key×V)}{xs:List (List Key×ah×af)}(r:KT H de xs) (k:List Key) {b:ah}{y:V}{u:af}(hb:H b=some (.tup (k.map kV))) (ry:RelV y u):
  KT H (putK de k y) (storedH xs k b u):=by
 have e:(de.any fun kv=>decide (kv.1=k))=(atKey xs k).isSome:=by
  rw[zU,(r.val k).Fi,Option.isSome_map]
 unfold putK storedH
 rw[e]
 by_cases q:(atKey xs k).isSome=true
 ·rw[aP q,aP q];exact r.Of k ry
 ·rw[aO q,aO q];exact dN r ⟨rfl,hb,ry⟩
def KT.keeps {H H':Hp}{de:List (List Key×V)}{xs:List (List Key×ah×af)}(r:KT H de xs) (ht:∀b ys,H b=some (.tup ys)->H' b=some (.tup ys)):KT H' de xs:=
 Paired.Nz r fun _ _ z=>⟨z.1,ht _ _ z.2.1,z.2.2⟩
section
variable {P:aF}{w:ba}{H:Hp}{h:Heap}{a:ah}
def Mu {u:HO}(ok:pM P w H h) (e:Rd H a u):fP P w H h a u:=e.ok ok
def Hx {de:List (Key×V)}(ok:pM P w H h) (e:Rd H a (.dK de)):de.length<=sizeLine/\(a==sysModules)=false/\∃vs,KV de vs/\h.DictOf (gq P w) a vs:=
 show fP P w H h a (.dK de) from Mu ok e
def Mv {de:List (Key×V)}(ok:pM P w H h) (e:H a=some (.dK de)):de.length<=sizeLine/\(a==sysModules)=false/\∃vs,KV de vs/\h.DictOf (gq P w) a vs:=Hx ok (.inl e)
def BH {ks:List Key}(ok:pM P w H h) (e:H a=some (.tup (ks.map kV))):(tupleKind (gq P w)).is h ks a:=by
 obtain⟨_,cE,r,o,h1,h2,_,n,h3⟩:=(show fP P w H h a (.tup (ks.map kV)) from ok a _ e)
 exact⟨o,cE.toArray,n,h1,h2,h3,by simpa using xD r⟩
def Hy {de:List (List Key×V)}(ok:pM P w H h) (e:Rd H a (.dT de)):de.length<=sizeLine/\(a==sysModules)=false/\
  ∃xs,KT H de xs/\h.DictOfH (tupleKind (gq P w)) a xs:=by
 obtain⟨z,y,xs,r,o,es,ep,h1,h2,h3,h4,h5⟩:=(show fP P w H h a (.dT de) from Mu ok e)
 refine⟨z,y,xs,r,o,es,ep,h1,h2,h3,h4,fun x hx=>?_,h5⟩
 have all:∀{l:List (List Key×V)} {m:List (List Key×ah×af)},KT H l m->∀x∈m,(tupleKind (gq P w)).is h x.1 x.2.1:=by
  intro l m q
  induction q with
  |nil=>intro x hx;exact nomatch hx
  | @cons p q ps qs hq t ih=>
   intro x hx
   rcases aC.mp hx with e|hx
   ·subst e
    exact BH ok (by rw[<-hq.1];exact hq.2.1)
   ·exact ih x hx
 exact all r x hx
def Sy {de:List (List Key×V)}(ok:pM P w H h) (e:H a=some (.dT de)):de.length<=sizeLine/\(a==sysModules)=false/\
  ∃xs,KT H de xs/\h.DictOfH (tupleKind (gq P w)) a xs:=Hy ok (.inl e)
end
def gZ (H:Hp) (a:ah) (y:V) (r:Option V):Prop:=
 (∃de k,Rd H a (.dK de)/\y=kV k/\r=lX de k)\/∃de k b,Rd H a (.dT de)/\y=.ref b/\H b=some (.tup (k.map kV))/\r=lX de k
def BI (H:Hp) (a:ah) (y v:V) (H':Hp):Prop:=
 (∃de k,H a=some (.dK de)/\y=kV k/\de.length<sizeLine/\H'=upd H a (.dK (putK de k v)))\/
 ∃de k b,H a=some (.dT de)/\y=.ref b/\H b=some (.tup (k.map kV))/\de.length<sizeLine/\H'=upd H a (.dT (putK de k v))
def gZ.k {H:Hp}{a:ah}{de:List (Key×V)}{k:Key}(e:H a=some (.dK de)):gZ H a (kV k) (lX de k):=.inl ⟨de,k,.inl e,rfl,rfl⟩
def BI.k {H:Hp}{a:ah}{de:List (Key×V)}{k:Key}{v:V}(e:H a=some (.dK de)) (hl:de.length<sizeLine):BI H a (kV k) v (upd H a (.dK (putK de k v))):=.inl ⟨de,k,e,rfl,hl,rfl⟩
section
variable {X:Cx}{pins:List (ah×Obj)}{σ:St}{H:Hp}{s:ai}{a:ah}{y v:V}{u r:af}{o:Option V}{A:aQ}{E:af->ai->Prop}
def Inv.big (I:Inv X pins σ H s):sysModules<s.heap.objs.size:=by
 have h:mainGlobals<s.heap.objs.size:=(I.mod.glob.keeps I.bk).lt
 exact Nat.lt_trans (by decide) h
def Fj {Q:af->ai->Prop}(hu:A.units+1<cLine) (I:Inv X pins σ H s) (g:gZ H a y (some v)) (ry:RelV y u) (h:∀w' s',Inv X pins σ H s'->RelV v w'->Q w' s'):
  wpAny (model X.prog X.w) A (getItem (.ref a) u) Q E s:=by
 rcases g with⟨de,k,e,ey,l⟩|⟨de,k,b,e,ey,eb,l⟩
 ·subst ey
  obtain⟨z,hd,vs,rel,dd⟩:=Hx I.eE e
  obtain⟨w',hw,EM⟩:=nB.some_of (v:=v) (o:=valueAt vs k) (by rw[l];exact rel.val k)
  exact wpAny_getItem_of (Dv ry) dd.mapOf hw (h w' _ (I.tok _) EM)
 ·subst ey
  cases(show u=Value.ref b from ry)
  obtain⟨z,hd,xs,rel,dd⟩:=Hy I.eE e
  obtain⟨w',hw,EM⟩:=nB.some_of (v:=v) (o:=(atKey xs k).map (·.2)) (by rw[l];exact rel.val k)
  obtain⟨p,hp,Og⟩:=RE.mp hw
  refine wpAny_getItem_heap (tupleKind_room_in1 hu) (BH I.eE eb) dd hp ?_
  rw[Og]
  exact h w' _ (I.tok _) EM
def yv {h':Heap}{t':Nat}{ob:HO}(I:Inv X pins σ H s) (mu:RJ (H a)) (hs:Heap.SameBut a s.heap h') (he:∃q,h'.get? a=some q) (new:fP X.prog X.w (upd H a ob) h' a ob):
  Inv X pins σ (upd H a ob) {s with heap:=h',toks:=t'}:=
 I.write (x:=a) (e:=a) mu (.inl rfl) (fun b q hb z=>(hs.2 b hb).trans z) he new
def Hz {P:aF}{w:ba}{H':Hp}{h':Heap}{de:List (Key×V)}{vs:List (Key×af)}(z:de.length<=sizeLine) (hd:(a==sysModules)=false) (rel:KV de vs) (dd:h'.DictOf (gq P w) a vs):
  fP P w H' h' a (.dK de):=⟨z,hd,vs,rel,dd⟩
def Fk {H':Hp}{Q:Unit->ai->Prop}(hu:A.units+1<cLine) (I:Inv X pins σ H s) (g:BI H a y v H') (ry:RelV y u) (rv:RelV v r) (h:∀s',Inv X pins σ H' s'->Q () s'):
  wpAny (model X.prog X.w) A (setItem (.ref a) u r) Q E s:=by
 rcases g with⟨de,k,e,ey,l,eH⟩|⟨de,k,b,e,ey,eb,l,eH⟩
 ·subst ey eH
  obtain⟨z,hd,vs,rel,dd⟩:=Mv I.eE e
  have hz:vs.length<=sizeLine:=by rw[<-rel.length];exact z
  have hl:(putK de k v).length<=sizeLine:=by have:=oh de k v;omega
  refine wpAny_setItem_pairs (hsz:=hz) (Dv ry) dd fun h' Oh hs=>h _ ?_
  have he:∃q,h'.get? a=some q:=let⟨q,_,_,hq,_⟩:=Oh;⟨q,hq⟩
  exact yv I (by rw[e];exact True.intro) hs he (Hz hl hd (rel.put k rv) Oh)
 ·subst ey eH
  cases(show u=Value.ref b from ry)
  obtain⟨z,hd,xs,rel,dd⟩:=Sy I.eE e
  have hz:xs.length<=sizeLine:=by rw[<-oW rel];exact z
  have hl:(putK de k v).length<=sizeLine:=by have:=oh de k v;omega
  refine wpAny_setItem_heap (hsz:=hz) (tupleKind_room_in1 hu) (BH I.eE eb) dd fun h' Oh hs=>h _ ?_
  obtain⟨q,es,ep,hq,h2,h3,h4,_,h5⟩:=Oh
  refine yv I (by rw[e];exact True.intro) hs ⟨q,hq⟩ ⟨hl,hd,_,(rel.put k eb rv).keeps fun c ys ec=>?_,q,es,ep,hq,h2,h3,h4,h5⟩
  rw[aV (xc ec e (fun z=>nomatch z))]
  exact ec
end
section
variable {X:Cx}{pins:List (ah×Obj)}{σ:St}{H:Hp}{s:ai}{a:ah}{de:List (Key×V)}{k:Key}{u:af}{A:aQ}{E:af->ai->Prop}
end
def Sz (i:Expr):Prop:=∀ov iv,subscripted i false ov iv=operate [ov,iv] (getItem ov iv)
def KJ {prog:aF}{w:ba}{A:aQ}{E:af->ai->Prop}{s:ai}{env:Env}{value slice:Expr}{pos:Pos}{T id:String}{Q:af->ai->Prop}
  (hl:typeLookup (.type T) "__getitem__"=pure (some (.builtin id))) (hs:Sz slice)
  (h:wpAny (model prog w) A (eval value env) (fun o eN=>wpAny (model prog w) A (eval slice env) (fun i nR=>nR.TypeIs o T/\wpAny (model prog w) A (getItem o i) Q E nR) E eN) E s):
  wpAny (model prog w) A (eval (.Subscript value slice pos) env) Q E s:=by
 refine Subscript_ (bK h (fun o eN E7=>bK E7 (fun i nR He=>?_) fun _ _ x=>x) fun _ _ x=>x)
 obtain⟨hT,He⟩:=He
 unfold subscriptTail
 refine aa ?_
 rw[getitemInPython_of_ne hT.not_modules]
 refine aa (wpAny_specialOf hT hl ?_)
 have fin:wpAny (model prog w) A (subscripted slice false o i) (fun r E6=>wpAny (model prog w) A (letTemporaryGo value o r>>=fun _=>pure r) Q E E6) E nR:=by
  rw[hs o i]
  exact wpAny_operating (bK He (fun r E6 Kw=>aa (wpAny_letTemporaryGo (ak Kw))) fun _ _ x=>x)
 first
  |exact ak (aa fin)
  |exact aa (ak (aa fin))
  |exact aa fin
def zV {X:Cx}{pins:List (ah×Obj)}{σ:St}{H:Hp}{s:ai}{a:ah}{y:V}{o:Option V}(I:Inv X pins σ H s) (g:gZ H a y o):s.TypeIs (.ref a) "dict":=by
 rcases g with⟨de,k,e,_,_⟩|⟨de,k,b,e,_,_,_⟩
 ·obtain⟨_,_,vs,_,dd⟩:=Hx I.eE e
  exact dd.typeIs
 ·obtain⟨_,_,xs,_,dd⟩:=Hy I.eE e
  exact dd.typeIs
def SA (td ty:TE):TE:=fun σ H Q=>td σ H fun x H1=>ty σ H1 fun y H2=>∃a v,x=.ref a/\gZ H2 a y (some v)/\Q v H2
section
variable {X:Cx}{o i e value:Expr}{pos pos' Wl:Pos}{td ty tv:TE}
def eB (hu:X.A.units+1<cLine) (ho:PE X o td) (hi:PE X i ty) (hs:Sz i:=by intro _ _;rfl):PE X (.Subscript o i pos) (SA td ty):=by
 intro pins s σ H Q I h
 refine KJ PySem.F.slot_dict_getitem.lookup hs (e_ (ho pins s σ H _ I h) fun u s1 ⟨x,H1,I1,rx,q1⟩=>e_ (hi pins s1 σ H1 _ I1 q1) fun iv s2 ⟨y,H2,I2,ry,a,v,ex,g,q2⟩=>?_)
 subst ex
 obtain rfl:u=Value.ref a:=rx
 exact⟨zV I2 g,Fj hu I2 g ry fun w' s3 I3 EM=>⟨v,H2,I3,EM,q2⟩⟩
end
def HA {P:aF}{w:ba}{H:Hp}(h:Heap) (hb:sysModules<h.objs.size):fP P w H (h.push {cls:=.type "dict",data:=.dict #[]}) h.objs.size (.dK []):=
 ⟨fH _,nG.mpr (cF (bb hb)),[],.nil,Heap.DictOf.new h⟩
section
variable {X:Cx}{pos:Pos}
end
def BJ:List (TE×TE)->St->Hp->(List (V×V)->Hp->Prop)->Prop
 | [],_,H,Q=>Q [] H
 |(tk,tv)::r,σ,H,Q=>tk σ H fun x H1=>tv σ H1 fun y H2=>BJ r σ H2 fun ps H3=>Q ((x,y)::ps) H3
abbrev VV:List (V×V)->List (af×af)->Prop:=Paired fun p q=>RelV p.1 q.1/\RelV p.2 q.2
def Vn (X:Cx) (pos:Pos) (keys:List (Option Expr)) (values:List Expr) (KL:List (TE×TE)):Prop:=
 ∀(pins:List (ah×Obj)) (s:ai) (σ:St) (H:Hp) (Q:List (V×V)->Hp->Prop),Inv X pins σ H s->BJ KL σ H Q->
  wpAny (model X.prog X.w) X.A (evalPairs (pairTrees keys values X.env pos)) (fun vs s'=>∃ps H',Inv X pins σ H' s'/\VV ps vs/\Q ps H') X.xe s
def KN {X:Cx}{pos:Pos}:Vn X pos [] [] []:=fun pins s σ H Q I h=>pairTrees_nil_walk ⟨[],H,I,.nil,h⟩
def oi {X:Cx}{pos:Pos}{k v:Expr}{ks:List (Option Expr)}{vs:List Expr}{tk tv:TE}{KL:List (TE×TE)}(hk:PE X k tk) (hv:PE X v tv) (hr:Vn X pos ks vs KL):
  Vn X pos (some k::ks) (v::vs) ((tk,tv)::KL):=fun pins s σ H Q I h=>
 pairTrees_cons_walk (e_ (hk pins s σ H _ I h) fun u s1 ⟨x,H1,I1,rx,q1⟩=>e_ (hv pins s1 σ H1 _ I1 q1) fun w2 s2 ⟨y,H2,I2,ry,q2⟩=>
  e_ (hr pins s2 σ H2 _ I2 q2) fun ws s3 ⟨ps,H3,I3,rel,q3⟩=>⟨(x,y)::ps,H3,I3,.cons ⟨rx,ry⟩ rel,q3⟩)
def qj (de more:List (Key×V)):List (Key×V):=more.foldl (fun acc kv=>putK acc kv.1 kv.2) de
def KV.merge:∀{more:List (Key×V)}{rs:List (Key×af)}{de:List (Key×V)}{vs:List (Key×af)},KV more rs->KV de vs->KV (qj de more) (merged vs rs):=by
 intro more rs de vs r
 unfold KV at r
 induction r generalizing de vs with
 |nil=>intro q;exact q
 | @cons p q ps qs h t ih=>
  intro r0
  have e:KV (putK de p.1 p.2) (stored vs q.1 q.2):=by
   have:=r0.put p.1 h.2
   rw[<-h.1];exact this
  exact ih e
def pR:∀(more de:List (Key×V)),(qj de more).length<=de.length+more.length
 | [],de=>by show de.length<=de.length+0;omega
 |p::r,de=>by
  have h1:=pR r (putK de p.1 p.2)
  have h2:=oh de p.1 p.2
  show(qj (putK de p.1 p.2) r).length<=_
  rw[cH];omega
def vf {P:aF}{w:ba}:∀{de:List (Key×V)}{ws:List (af×af)},VV (de.map fun kv=>(kV kv.1,kv.2)) ws->∃rs,Carries (gq P w) ws rs/\KV de rs
 | [],_,r=>by rw[nO] at r;cases r;exact⟨[],True.intro,.nil⟩
 |p::de,_,r=>by
  rw[bH] at r
  cases r with
  | @cons a b as bs h t=>
   obtain⟨rs,c,q⟩:=vf (P:=P) (w:=w) t
   obtain⟨b1,b2⟩:=b
   exact⟨(p.1,b2)::rs,⟨Dv h.1,rfl,c⟩,.cons ⟨rfl,h.2⟩ q⟩
def SD (KL:List (TE×TE)):TE:=fun σ H Q=>∀p,H p=none->BJ KL σ (upd H p (.dK [])) fun ps H2=>H2 p=some (.dK [])/\∃de:List (Key×V),ps=de.map (fun kv=>(kV kv.1,kv.2))/\de.length<=15/\Q (.ref p) (upd H2 p (.dK (qj [] de)))
def KO {X:Cx}{pos:Pos}{keys:List (Option Expr)}{values:List Expr}{KL:List (TE×TE)}(h:Vn X pos keys values KL) (N0:keys.all (·.isSome)=true) (hl:keys.length=values.length) (h0:keys≠[])
  (h15:keys.length<=15):PE X (.Dict keys values pos) (SD KL):=by
 intro pins s σ H Q I q
 have hn:=I.eE.fresh (aB s.heap.objs.size)
 have I1:=I.laid (a:=s.heap.objs.size) (o:=.dK []) (h':=s.heap.push {cls:=.type "dict",data:=.dict #[]}) (t':=s.toks) (fun _ _ q=>ag _ q) (aB _) (HA s.heap I.big)
 refine wpAny_Dict_walk (knd:=gq X.prog X.w) N0 hl h0 h15 (e_ (h pins _ σ _ _ I1 (q _ hn)) fun ws s2 ⟨ps,H2,I2,rel,e,de,ep,lk,q2⟩=>?_)
 subst ep
 obtain⟨rs,c,rk⟩:=vf (P:=X.prog) (w:=X.w) rel
 obtain⟨z,hd,ZW,r0,dd⟩:=Mv I2.eE e
 cases r0
 refine⟨rs,c,dd,fun h' Oh hs=>⟨.ref s.heap.objs.size,_,?_,rfl,q2⟩⟩
 have hz:(qj [] de).length<=sizeLine:=by
  have h1:=pR de []
  rw[iP] at h1
  rw[gP];omega
 have he:∃q,h'.get? s.heap.objs.size=some q:=let⟨q,_,_,hq,_⟩:=Oh;⟨q,hq⟩
 exact yv I2 (by rw[e];exact True.intro) hs he (Hz hz hd (rk.merge .nil) Oh)
structure M1 (X:Cx) (o:Expr) (m:Str) (apos:Pos) (e:Expr) (jl:Pos):Prop where
 base:attributeBase o m X.env (eval o X.env)=eval o X.env
 few:((backTo jl (starEach [e] X.env)).all (fun x=>!x.1)&&(backToKw jl (keywordEach [] X.env)).all (fun x=>x.1.isSome)
  &&decide (([e]:List Expr).length+([]:List Keyword).length+(if([]:List Keyword).isEmpty then 0 else 1)<30))=true
 line:(apos.endLine==jl.line)=true
 trees:backTo jl (starEach [e] X.env)=[(false,eval e X.env)]
structure M2 (X:Cx) (o:Expr) (m:Str) (apos:Pos) (e f:Expr) (jl:Pos):Prop where
 base:attributeBase o m X.env (eval o X.env)=eval o X.env
 few:((backTo jl (starEach [e,f] X.env)).all (fun x=>!x.1)&&(backToKw jl (keywordEach [] X.env)).all (fun x=>x.1.isSome)
  &&decide (([e,f]:List Expr).length+([]:List Keyword).length+(if([]:List Keyword).isEmpty then 0 else 1)<30))=true
 line:(apos.endLine==jl.line)=true
 trees:backTo jl (starEach [e,f] X.env)=[(false,eval e X.env),(false,eval f X.env)]
section
variable {X:Cx}{pins:List (ah×Obj)}{σ:St}{H:Hp}{s:ai}{a:ah}{y d:V}{u r:af}{o:Option V}{A:aQ}{E:af->ai->Prop}
end
section
variable {X:Cx}{o e f:Expr}{apos jl:Pos}{td ty tx:TE}
end
section
variable {X:Cx}{pins:List (ah×Obj)}{σ:St}{H:Hp}{s:ai}{a:ah}{de:List (Key×V)}{A:aQ}{E:af->ai->Prop}
end
section
variable {X:Cx}{pins:List (ah×Obj)}{σ:St}{H:Hp}{s:ai}{a:ah}{y:V}{u:af}{A:aQ}{E:af->ai->Prop}
end
end L2
namespace HT
open PySem PySem.Spec PyProof.Rows
section
variable {prog:aF}{w:ba}{A:aQ}{E:af->ai->Prop}{s:ai}{d c:ah}{es:Array DictEntry}{ep i:Nat}
end
end HT
namespace L2
open PySem PySem.Spec PyProof.Rows
section
variable {X:Cx}{pins:List (ah×Obj)}{σ:St}{H:Hp}{s:ai}
end
section
variable {X:Cx}
end
section
variable {prog:aF}{w:ba}{A:aQ}{E:af->ai->Prop}{s:ai}
def zW (t:ah) (o:Obj) (vs:Array af) (n:Nat) (hc:o.cls=.type "list") (hd:o.data=.seq vs n):
  Meets (Builtin.«enumerate.__new__» ⟨[.type "enumerate",.ref t],[]⟩) (fun _ R s=>s.heap.get? t=some o/\
   R (.ok (.ret (.ref (s.heap.push {cls:=.type "list_iterator",data:=.fields #[.ref t,.int 0 0]}).objs.size)))
    {s with heap:=(s.heap.push {cls:=.type "list_iterator",data:=.fields #[.ref t,.int 0 0]}).push {cls:=.type "enumerate",data:=.fields #[.none,.bool false,.ref s.heap.objs.size,rawInt 0,.none,.none]}}):=
 .of_wp fun prog w A R s h=>by
  obtain⟨hp,g,d,tk,os⟩:=s
  obtain⟨pQ,h⟩:=h
  have KC:=sub_enumerate
  have zp:Heap.IsList (Shared.heap ⟨hp,g,d,tk,os⟩) t vs:=⟨_,pQ,hc,n,hd⟩
  obtain⟨oc,od,SE,rZ⟩:=o
  cases(show oc=Value.type "list" from hc)
  cases(show SE=Data.seq vs n from hd)
  wp_walk using uH pQ
  refine wpAny_stack_any fun st=>ak ?_
  split
  ·rename_i c _ _ _ _ _
   cases(c==Value.type "enumerate")<;>(wp_walk using uH pQ,il zp;exact⟨_,rfl,h⟩)
  ·wp_walk using uH pQ,il zp
   exact⟨_,rfl,h⟩
def BK {t:ah}{vs:Array af}{Q:af->ai->Prop}(zp:s.heap.IsList t vs)
  (q:∀h',IsEnum h' (s.heap.objs.size+1) s.heap.objs.size 0 .none->h'.IsListIter s.heap.objs.size t 0->(∀b o,s.heap.get? b=some o->h'.get? b=some o)->Q (.ref (s.heap.objs.size+1)) {s with heap:=h'}):
  wpAny (model prog w) A (call (.type "enumerate") [.ref t]) Q E s:=by
 obtain⟨o,pQ,hc,n,hd⟩:=zp
 refine callType_new F.called_enumerate (by decide) (F.typeCall_enumerate_1 _) (F.newCall_enumerate_1 _) (fun obj=>F.args_object_init_2 obj _) F.entry_enumerate_new (zW t o vs n hc hd) ⟨pQ,?_⟩
 have sz:(s.heap.push {cls:=.type "list_iterator",data:=.fields #[.ref t,.int 0 0]}).objs.size=s.heap.objs.size+1:=bZ ..
 refine(?_:_/\_)
 rw[sz]
 have SG:IsEnum ((s.heap.push {cls:=.type "list_iterator",data:=.fields #[.ref t,.int 0 0]}).push {cls:=.type "enumerate",data:=.fields #[.none,.bool false,.ref s.heap.objs.size,rawInt 0,.none,.none]}) (s.heap.objs.size+1) s.heap.objs.size 0 .none:=by
  rw[<-sz]
  exact aw _ rfl
 exact⟨⟨_,SG,rfl⟩,q _ SG ⟨_,ag _ (aw _ rfl),rfl,rfl⟩ fun b o e=>ag _ (ag _ e)⟩
end
def SH (K:PySem.W.Frag) (a:ah):It:=⟨fun i H=>∃xs x,cS K H a xs/\xs[i]?=some x,fun i H y H'=>∃T x,H T=none/\y=.ref T/\H'=upd H T (.tup [.int i,x])/\∀xs,cS K H a xs->xs[i]?=some x,fun i H=>∃xs,cS K H a xs/\i=xs.length⟩
def BL {P:aF}{w:ba}{K:PySem.W.Frag}{elts:List Expr}{kk:Nat}{tp:Pos}(a e it:ah) (WW:e≠it):Turn P w K (.Tuple elts kk tp) (SH K a) [e,it] e (fun i h=>(∃old,IsEnum h e it i old)/\h.IsListIter it a i) where
 mem:=by simp
 obj:=fun i h st b hb=>by
  obtain⟨⟨old,e1⟩,⟨o,o1,o2,o3⟩⟩:=st
  simp only[aC,aM,cz] at hb
  rcases hb with rfl|rfl
  ·exact⟨_,e1,fun v z=>by
    have z':Data.fields _=Data.cell v:=z
    cases z'⟩
  ·exact⟨o,o1,fun v z=>by rw[o3] at z;cases z⟩
 keep:=fun i h h' st kp=>by
  obtain⟨⟨old,e1⟩,⟨o,o1,o2⟩⟩:=st
  exact⟨⟨old,kp e (by simp) _ e1⟩,⟨o,kp it (by simp) o o1,o2⟩⟩
 item:=by
  intro X hP hw hK hc i pins s σ H E I hf st hg
  subst hP hw hK
  obtain⟨xs,x,hq,hx⟩:=hg
  obtain⟨cE,rv,p,hz⟩:=I.list hq
  obtain⟨u,hu,ru⟩:=rv.get hx
  obtain⟨⟨old,e1⟩,AU⟩:=st
  obtain⟨jo,j1,j2,j3⟩:=id AU
  have p':s.heap.IsList a cE.toArray:=p.isList
  obtain⟨to,t1,t2,_⟩:=id p'
  have QZ:a≠it:=fun z=>by
   rw[z,j1] at t1;cases t1
   rw[j2] at t2
   exact absurd t2 (by decide)
  have nea:e≠a:=fun z=>by
   rw[<-z,e1] at t1;cases t1
   exact absurd (show Value.type "enumerate"=Value.type "list" from t2) (by decide)
  have lt:∀b∈[e,it],b<s.heap.objs.size:=fun b hb=>by
   simp only[aC,aM,cz] at hb
   rcases hb with rfl|rfl
   ·exact aA e1
   ·exact aA j1
  have SI:i<cE.length:=(bw.mp hu).1
  refine wpAny_pyNext_enum_itemD (Draws.list (A:=X.A.in1) (I.ok.hd hc) it a QZ cE.toArray) e1 ⟨AU,p'⟩ (by simpa using SI) WW (by simp[WW,nea]) fun x' h' tk hP ho hs' hT hsz hk=>?_
  have ex:x'=u:=by
   have:cE[i]?=some x':=by simpa using hP
   rw[hu] at this;exact(cK this).symm
  subst ex
  refine⟨_,rfl,wpAny_letOwnedTupleGo_enum ho fun h2 WX KG=>?_⟩
  have nT:s.heap.objs.size≠e:=iG (lt e (by simp))
  obtain⟨f1,f2,f3⟩:=I.out (h':=h2) (t':=tk+1) (xs:=[.int i,x]) (us:=[.int i tk,x']) hf lt (.cons ⟨tk,rfl⟩ (.cons ru .nil)) (dF)
   (fun b o hb q=>(KG.2 b (fun z=>hb (by simp[z]))).trans (hk b o (fun z=>hb (by simp[z])) (fun z=>hb (by simp[z])) q)) ((KG.2 _ nT).trans hT)
  obtain⟨⟨io,i1,i2⟩,_⟩:=hs'
  exact⟨.ref s.heap.objs.size,_,f2,rfl,⟨_,x,f1,rfl,rfl,fun ys hy=>by rw[I.qL hy hq];exact hx⟩,⟨⟨x',by simpa using WX⟩,⟨io,(KG.2 it WW.symm).trans i1,i2⟩⟩,f3⟩
 done:=by
  intro X hP hw hK hc i pins s σ H E I hf st hg
  subst hP hw hK
  obtain⟨xs,hq,hx⟩:=hg
  obtain⟨cE,rv,p,hz⟩:=I.list hq
  obtain⟨⟨old,e1⟩,AU⟩:=st
  obtain⟨jo,j1,j2,j3⟩:=id AU
  have p':s.heap.IsList a cE.toArray:=p.isList
  obtain⟨to,t1,t2,_⟩:=id p'
  have QZ:a≠it:=fun z=>by
   rw[z,j1] at t1;cases t1
   rw[j2] at t2
   exact absurd t2 (by decide)
  have hl:=rv.length
  have ei:i=cE.toArray.size:=by rw[aI];omega
  refine wpAny_pyNext_enum_endD (Draws.list (A:=X.A.in1) (I.ok.hd hc) it a QZ cE.toArray) e1 (by rw[<-ei];exact⟨AU,p'⟩) fun h' eb=>⟨rfl,I.uk (t':=s.toks) hf fun b o hb q=>eb b o (fun z=>hb (by simp[z])) q⟩
 self:=fun _ _ _ _ _ st q=>by
  obtain⟨⟨old,e1⟩,_⟩:=st
  exact wpAny_pyIter_enum e1 q
def Oi (K:PySem.W.Frag) (ta:TA):TI:=fun σ H R=>ta σ H fun vs H1=>∃a,vs=[.ref a]/\(∃xs,cS K H1 a xs)/\R (SH K a) H1
def zX {X:Cx}{elts:List Expr}{kk:Nat}{tp:Pos}{a:Expr}{ta:TA}{p pos:Pos}(hg:Gl X "enumerate") (hm:X.mg "enumerate"=none) (ha:PA X [a] ta) (hs:starEach [a] X.env=[(false,eval a X.env)]:=by rfl):
  PI X (.Tuple elts kk tp) (.Call (.Name "enumerate" p) [a] [] pos) (Oi X.K ta):=by
 intro pins s σ H R I h
 refine Call_ (pU I hg hm BD (gk (e_ (ha pos pins s σ H _ I h) fun us s1 ⟨vs,H1,I1,r1,q1⟩=>?_) hs rfl))
 obtain⟨ad,e,⟨xs,hq⟩,q⟩:=q1
 subst e
 obtain⟨u,rfl,ru⟩:=zw r1
 cases(show u=Value.ref ad from ru)
 obtain⟨cE,rv,tp',hz⟩:=I1.list hq
 refine BK (show s1.heap.IsList ad cE.toArray from tp'.isList) fun h' SG isI kp=>wpAny_pyIter_enum SG ?_
 refine⟨_,[s1.heap.objs.size+1,s1.heap.objs.size],_,_,H1,rfl,I1.kept (t':=s1.toks) kp,BL ad _ _ (Nat.succ_ne_self _),⟨⟨_,SG⟩,isI⟩,fun b hb=>?_,q⟩
 simp only[aC,aM,cz] at hb
 rcases hb with rfl|rfl
 ·exact I1.x_ (dE _) (I1.eE.fresh (dE _))
 ·exact I1.x_ (aB _) (I1.eE.fresh (aB _))
def xE {K:PySem.W.Frag}{a:ah}{xs:List V}{g:TG}{tb:TS}{D:Ends}{σ:St}{H:Hp}(Pv:Nat->St->Hp->Prop) (h0:Pv 0 σ H) (hl:∀i σ H,i<=xs.length->Pv i σ H->cS K H a xs)
  (hs:∀i x σ H T,xs[i]?=some x->Pv i σ H->H T=none->g (.ref T) σ (upd H T (.tup [.int i,x])) fun iE H2=>tb {D with nx:=Pv (i+1),ct:=Pv (i+1),bk:=D.nx} iE H2) (hd:∀σ H,Pv xs.length σ H->D.nx σ H):
  ∃W:Nat->Nat->St->Hp->Prop,(∃m,W 0 m σ H)/\∀i m σ H,W i m σ H->
   ((SH K a).stop i H/\D.nx σ H)\/((SH K a).go i H/\∃N:St->Hp->Prop,(∀bW H',N bW H'->∃m',m'<m/\W (i+1) m' bW H')/\∀x H',(SH K a).Bk i H x H'->g x σ H' fun iE H2=>tb {D with nx:=N,ct:=N,bk:=D.nx} iE H2):=by
 refine⟨fun i m σ H=>m=xs.length-i/\i<=xs.length/\Pv i σ H,⟨xs.length,by simp,fH _,h0⟩,?_⟩
 rintro i m σ H ⟨rfl,hi,iv⟩
 have sq:=hl i σ H hi iv
 rcases Nat.lt_or_ge i xs.length with lt|ge
 ·refine .inr ⟨⟨xs,xs[i],sq,by simp[lt]⟩,Pv (i+1),fun bW H' p'=>⟨xs.length-(i+1),by omega,rfl,lt,p'⟩,fun x H' y=>?_⟩
  obtain⟨T,z,f1,rfl,rfl,f2⟩:=y
  exact hs i z σ H T (f2 xs sq) iv f1
 ·have e:i=xs.length:=by omega
  subst e
  exact .inl ⟨⟨xs,sq,rfl⟩,hd σ H iv⟩
end L2
namespace HT
open PySem PySem.Spec PyProof.Rows
section
variable {prog:aF}{w:ba}{A:aQ}{E:af->ai->Prop}{s:ai}
end
section
variable {prog:aF}{w:ba}{A:aQ}{R:Result->ai->Prop}{I:ah}{fp wr:List ah}{n:Nat}{P:Nat->af->Prop}{St:Nat->Heap->Prop}
end
end HT
namespace L2
open PySem PySem.Spec PyProof.Rows
section
variable {X:Cx}{pins:List (ah×Obj)}{σ:St}{H:Hp}{s:ai}
end
section
variable {X:Cx}
end
end L2
namespace HT
open PySem PySem.Spec PyProof.Rows L2
section
variable {prog:aF}{w:ba}{A:aQ}{R:Result->ai->Prop}{I:ah}{fp wr:List ah}{G:Array GenState->Array GenState->Prop}{n:Nat}{P:Nat->af->Prop}{St:Nat->ai->Prop}
end
section
variable {prog:aF}{w:ba}{A:aQ}{E:af->ai->Prop}{s:ai}
end
end HT
namespace L2
open PySem PySem.Spec PyProof.Rows HT
section
variable {X:Cx}
end
end L2
namespace L2
open PySem PySem.Spec PyProof.Rows
section
variable {X:Cx}{pins:List (ah×Obj)}{σ:St}{H:Hp}{s:ai}
end
section
variable {X:Cx}{a b:Expr}{ta tb:TE}{pos:Pos}{rest:List Expr}
def Oj (K:PySem.W.Frag) (ta tb:TE):TE:=fun σ H Q=>ta σ H fun x H1=>∃k,RY K x H1 k/\if k=true then Q x H1 else tb σ H1 Q
def Ol (ha:PE X a ta) (hb:PE X (.BoolOp .Or (b::rest) pos) tb):PE X (.BoolOp .Or (a::b::rest) pos) (Oj X.K ta tb):=by
 intro pins s σ H Q I h
 refine BoolOp_or (e_ (ha pins s σ H _ I h) fun v s1 ⟨x,H1,I1,r1,k,tr,q1⟩=>?_)
 refine e_ (NO pins s1 σ H1 x v (fun b H'=>b=k/\H'=H1) I1 r1 ⟨k,tr,rfl,rfl⟩) fun c s2 ⟨H2,I2,e1,e2⟩=>?_
 subst e1 e2
 cases c with
 |false=>exact hb pins s2 σ H2 Q I2 q1
 |true=>exact⟨x,H2,I2,r1,q1⟩
end
section
variable {X:Cx}
end
end L2
namespace HT
open PySem PySem.Spec PyProof.Rows L2
def BM (A:aQ) (s:ai) (y x:af) (b:Bool):Prop:=
 ∀(prog:aF) (w:ba) (E:af->ai->Prop) (Q:af->ai->Prop),Q (.bool b) s->wpAny (model prog w) A (richCompare .Lt y x) Q E s
inductive Lex (A:aQ) (s:ai):List af->List af->Bool->Prop
 |nn:Lex A s [] [] false
 |nc {y:af} {ys:List af}:Lex A s [] (y::ys) true
 |cn {x:af} {xs:List af}:Lex A s (x::xs) [] false
 |eq {x y:af} {xs ys:List af} {r:Bool}:SeqAt.EqAt A s x y true->Lex A s xs ys r->Lex A s (x::xs) (y::ys) r
 |lt {x y:af} {xs ys:List af} {r:Bool}:SeqAt.EqAt A s x y false->BM A s x y r->Lex A s (x::xs) (y::ys) r
section
open PySem.SeqAt
open PySem.AutoSeq1 (wpAny_loadPart')
open PySem.MeetsSeq PySem.MeetsSeq2 PySem.MeetsSeq3
end
section
variable {A:aQ}{s:ai}
def BM.int (a:Int) (t:Tok) (c:Int) (u:Tok):BM A s (.int a t) (.int c u) (decide (a<c)):=fun prog w E Q h=>(lt_int h:wpAny (model prog w) A (compareOp .Lt (.int a t) (.int c u)) Q E s)
def BM.str (a:Str) (t:Tok) (c:Str) (u:Tok):BM A s (.str a t) (.str c u) (decide (a.cps.toList<c.cps.toList)):=fun prog w E Q h=>(lt_str h:wpAny (model prog w) A (compareOp .Lt (.str a t) (.str c u)) Q E s)
def dQ (a b:Str):Bool:=decide (a.cps.toList<b.cps.toList)
end
def Om (prog:aF) (w:ba) (A:aQ) (P:Nat->af->Prop) (St:Nat->Heap->Prop) (bt:Nat->Nat->Bool):Prop:=
 ∀i j vi vj k (s:ai) (Q:af->ai->Prop) (E:af->ai->Prop),St k s.heap->P i vi->P j vj->Q (.bool (bt i j)) s->wpAny (model prog w) A (richCompare .Lt vi vj) Q E s
section
variable {prog:aF}{w:ba}{A:aQ}{R:Result->ai->Prop}{I:ah}{fp wr:List ah}{n:Nat}{P:Nat->af->Prop}{St:Nat->Heap->Prop}
def Fl (W:Walks prog w A.in1 I fp wr n P St) (bt:Nat->Nat->Bool) (cmp:Om prog w A.in1 P St bt) (S:ah) (out:S∉fp) (kw:List (Str×af)):
  ∀(k j:Nat) (s:ai) (vb:af) (c:Nat),n-(j+1)=k->j+1<=n->St (j+1) s.heap->P (argBest bt j) vb->s.heap.get? S=some {cls:=.type "list",dict:=none,data:=.seq #[vb,vb] c,slots:=#[]}->
  (∀v h' tk,P (argBest bt (n-1)) v->(∀b o,b∉wr->b≠S->s.heap.get? b=some o->h'.get? b=some o)->R (.ok (.ret v)) {s with heap:=h',toks:=tk})->
  codeAny (model prog w) A (.builtin "min.loop" ⟨[.ref I,.none,.ref S],kw⟩) R s:=by
 have away:S∉wr:=fun h=>out (W.sub _ h)
 have nm:(toString "min"++toString ".loop":String)="min.loop":=by decide
 intro k
 induction k with
 |zero=>
  intro j s vb c hk hj st hb pQ q
  have en:j+1=n:=by omega
  refine gv Nm ?_;rw[iq iQ _]
  show wpAny _ A.in1 (seqItems? (.ref S)>>=_) _ _ s;refine aa (b_ pQ rfl ?_);show wpAny _ A.in1 (tryCatch (pyNext (.ref I)) _>>=_) _ _ s;refine aa (iR (W.done s _ _ (en▸st) fun h' tk kp=>?_))
  show wpAny _ A.in1 (updateSeq S (fun _=>#[])>>=_) _ _ _;refine aa ?_;refine k_ (kp S _ away pQ) rfl (aa (fB (ak ?_)))
  exact q vb _ tk (by rw[<-en];exact hb) fun b o h1 h2 e=>(aY _ _ (cF h2)).trans (kp b o h1 e)
 |succ k ih=>
  intro j s vb c hk hj st hb pQ q
  have lt:j+1<n:=by omega
  refine gv Nm ?_;rw[iq iQ _]
  show wpAny _ A.in1 (seqItems? (.ref S)>>=_) _ _ s;refine aa (b_ pQ rfl ?_);show wpAny _ A.in1 (tryCatch (pyNext (.ref I)) _>>=_) _ _ s;refine aa (iR (W.item (j+1) s _ _ lt st fun v h' tk hP sV kp=>?_))
  have at2:=kp S _ away pQ
  show wpAny _ A.in1 (tryCatch (holding [v,v] (richCompare .Lt v vb>>=_)) _>>=_) _ _ _;refine aa (iR (cM (aa (cmp (j+1) (argBest bt j) v vb _ _ _ _ sV hP hb ?_))))
  refine aa (cM (dM ?_));refine aa (fB (ak ?_))
  cases better:bt (j+1) (argBest bt j) with
  |true=>
   simp only[j9]
   refine aa ?_;refine k_ at2 rfl (aa (fB ?_))
   rw[nm]
   refine ak ⟨jy iQ _,ih (j+1) _ v _ (by omega) lt (W.frame _ _ _ sV fun b hf o e=>(aY _ _ (fun h:S=b=>out (by rw[h];exact hf))).trans e) (by simp only[argBest,better,j9];exact hP) (cV _ at2 rfl) fun v' HB vg se BN=>?_⟩
   exact q v' HB vg se fun b o h1 h2 e=>BN b o h1 h2 ((aY _ _ (cF h2)).trans (kp b o h1 e))
  |false=>
   simp only[fg,jT]
   refine aa (fB ?_)
   rw[nm]
   refine ak ⟨jy iQ _,ih (j+1) _ vb c (by omega) lt sV (by simp only[argBest,better,fg,jT];exact hb) at2 fun v' HB vg se BN=>?_⟩
   exact q v' HB vg se fun b o h1 h2 e=>BN b o h1 h2 (kp b o h1 e)
def BO (W:Walks prog w A.in1 I fp wr n P St) (bt:Nat->Nat->Bool) (cmp:Om prog w A.in1 P St bt) (S:ah) (out:S∉fp) (pos:0<n) {s:ai}{c:Nat}(st:St 0 s.heap)
  (pQ:s.heap.get? S=some {cls:=.type "list",dict:=none,data:=.seq #[] c,slots:=#[]})
  (q:∀v h' tk,P (argBest bt (n-1)) v->(∀b o,b∉wr->b≠S->s.heap.get? b=some o->h'.get? b=some o)->R (.ok (.ret v)) {s with heap:=h',toks:=tk}):
  codeAny (model prog w) A (.builtin "min.loop" ⟨[.ref I,.none,.ref S],[]⟩) R s:=by
 have away:S∉wr:=fun h=>out (W.sub _ h)
 have nm:(toString "min"++toString ".loop":String)="min.loop":=by decide
 refine gv Nm ?_;rw[iq iQ _]
 show wpAny _ A.in1 (seqItems? (.ref S)>>=_) _ _ s;refine aa (b_ pQ rfl ?_);show wpAny _ A.in1 (tryCatch (pyNext (.ref I)) _>>=_) _ _ s;refine aa (iR (W.item 0 s _ _ pos st fun v h' tk hP sV kp=>?_))
 have at2:=kp S _ away pQ
 show wpAny _ A.in1 (updateSeq S (fun _=>#[v,v])>>=_) _ _ _;refine aa ?_;refine k_ at2 rfl ?_;rw[nm]
 refine ak ⟨jy iQ _,Fl W bt cmp S out _ _ 0 _ v _ rfl pos (W.frame _ _ _ sV fun b hf o e=>(aY _ _ (fun h:S=b=>out (by rw[h];exact hf))).trans e) hP (cV _ at2 rfl) fun v' HB vg se BN=>?_⟩
 exact q v' HB vg se fun b o h1 h2 e=>BN b o h1 h2 ((aY _ _ (cF h2)).trans (kp b o h1 e))
end
section
variable {prog:aF}{w:ba}{A:aQ}{E:af->ai->Prop}{s:ai}
end
def yy (a:Str):dQ a a=false:=bC (List.lt_irrefl _)
def sg {a b c:Str}(h1:dQ a b=true) (h2:dQ b c=true):dQ a c=true:=aJ (List.lt_trans (aX h1) (aX h2))
def um {a b:Str}(h:a≠b):dQ a b=true\/dQ b a=true:=by
 by_cases h1:a.cps.toList<b.cps.toList
 ·exact .inl (aJ h1)
 ·by_cases h2:b.cps.toList<a.cps.toList
  ·exact .inr (aJ h2)
  ·exfalso
   apply h
   have e:a.cps.toList=b.cps.toList:=List.le_antisymm (List.not_lt.mp h2) (List.not_lt.mp h1)
   obtain⟨x⟩:=a
   obtain⟨y⟩:=b
   have:x=y:=Array.toList_inj.mp e
   rw[this]
end HT
namespace L2
open PySem PySem.Spec PyProof.Rows HT
section
variable {X:Cx}
end
end L2
namespace L2
open PySem PySem.Spec PyProof.Rows
section
variable {X:Cx}
def SJ (K:PySem.W.Frag):R2:=fun x y H Q=>∃a b xs ys,x=.ref a/\y=.ref b/\bY K H a xs/\bY K H b ys/\ys≠[]/\xs.length+ys.length<=sizeLine/\
 (xs=[]->Q (.ref b) H)/\(xs≠[]->∀p,H p=none->Q (.ref p) (upd H p (.tup (xs++ys))))
def Dw:lg X (binaryOp .Add) (SJ X.K):=by
 intro pins s σ H x y v u Q I rx ry h
 obtain⟨a,b,xs,ys,rfl,rfl,ha,hb,hy,hz,q1,q2⟩:=h
 by_cases hx:xs=[]
 ·cases rx
  cases ry
  obtain⟨cE,r1,p1,_⟩:=I.tuple ha
  obtain⟨kX,r2,p2,_⟩:=I.tuple hb
  obtain⟨⟨cls,dd,data,sl⟩,ho,hc,n,hd⟩:=id p1
  obtain⟨⟨Wn,Vj,data2,Q4⟩,Kp,Kq,n2,hd2⟩:=id p2
  simp only at hc hd Kq hd2
  subst hc hd Kq hd2
  have e0:cE=[]:=by rw[hx] at r1;cases r1;rfl
  exact concat_meets ⟨_,ho,rfl⟩ ⟨_,Kp,rfl⟩ Nk seq_tuple_add tP rM (qF _ _)
   (tuple_addW0 a b cE.toArray kX.toArray n n2 dd Vj sl Q4 (by rw[e0];rfl)) ⟨ho,Kp,⟨.ref b,H,I,rfl,q1 hx⟩⟩
 ·exact lj pins s σ H (.ref a) (.ref b) v u Q I rx ry ⟨a,b,xs,ys,rfl,rfl,ha,hb,hx,hz,fun e=>absurd e hy,fun _=>q2 hx⟩
end
end L2
namespace L2
open PySem PySem.Spec PyProof.Rows HT
section
variable {X:Cx}
end
end L2
namespace L2
open PySem PySem.Spec PyProof.Rows
section
variable {X:Cx}
end
end L2
namespace L2
open PySem PySem.Spec PyProof.Rows HT
section
variable {X:Cx}{tg:Expr}
end
section
variable {prog:aF}{w:ba}{K:Type} [DecidableEq K] {knd:HeapKind prog w K}{a b:ah}
end
section
variable {X:Cx}
end
end L2
namespace L2
open PySem PySem.Spec PyProof.Rows
section
variable {prog:aF}{w:ba}{A:aQ}{R:Result->ai->Prop}{s:ai}
abbrev two (elt tg iter:Expr) (ifs:List Expr) (tg2 SK:Expr) (WY:List Expr) (scope:Scope) (pos:Pos):Expr:=.ListComp elt [⟨tg,iter,ifs,0⟩,⟨tg2,SK,WY,0⟩] scope pos
end
section
variable {X:Cx}
end
end L2
namespace L2
open PySem PySem.Spec PyProof.Rows HT
section
variable {X:Cx}
end
end L2
namespace L2
open PySem PySem.Spec PyProof.Rows
section
variable {X:Cx}
end
section
variable {prog:aF}{w:ba}{A:aQ}{E:af->ai->Prop}{R:Result->ai->Prop}{s:ai}
end
section
variable {X:Cx}
end
end L2
namespace L2
open PySem PySem.Spec PyProof.Rows HT
section
variable {X:Cx}
end
end L2
namespace L2
open PySem PySem.Spec PyProof.Rows
section
variable {X:Cx}
end
end L2
namespace L2
open PySem PySem.Spec PyProof.Rows HT
section
variable {prog:aF}{w:ba}{A:aQ}{E:af->ai->Prop}{s:ai}
def BP {a b:af}{Q:af->ai->Prop}
  (h:wpAny (model prog w) A.in1 (pyIter (.ref s.heap.objs.size)) (fun it s2=>∃I fp wr n P St bt,it=.ref I/\Walks prog w A.in1 I fp wr n P St/\St 0 s2.heap/\(∀b∈fp,b<s2.heap.objs.size)/\0<n/\Om prog w A.in1 P St bt/\
   ∀v h' tk,P (argBest bt (n-1)) v->(∀b o,b∉wr->s2.heap.get? b=some o->h'.get? b=some o)->Q v {s2 with heap:=h',toks:=tk}) E {s with heap:=s.heap.push {cls:=.type "tuple",data:=.seq #[a,b]}}):
  wpAny (model prog w) A (call (.builtin "min") [a,b]) Q E s:=by
 have nm:(toString "min"++toString ".loop":String)="min.loop":=by decide
 refine call_function_tree F.kind_min F.plain_min F.entry_min (F.args_min2 _ _) ?_;show wpAny _ A.in1 (Builtin.Builtins.bindParams "min" ["key","default"] 0 ⟨[],[]⟩>>=_) _ _ s
 refine aa (A8 (show Builtin.Builtins.bindParams "min" ["key","default"] 0 ⟨[],[]⟩=pure [none,none] from rfl) ?_)
 show wpAny _ A.in1 (newTuple [a,b]>>=_) _ _ s
 refine aa (bD (aa (bK h (fun it s2 h2=>?_) fun _ _ e=>e)))
 obtain⟨I,fp,wr,n,P,St,bt,rfl,W,st,below,pos,cmp,q⟩:=h2
 refine aa (bD ?_);rw[nm]
 have out:s2.heap.objs.size∉fp:=fun hm=>gm _ (below _ hm)
 refine ak ⟨jy iQ _,BO W bt cmp s2.heap.objs.size out pos (W.frame _ _ _ st fun b _ o e=>ag _ e) (aw _ rfl) fun v h' tk hP hk=>?_⟩
 exact q v h' tk hP fun b o WZ e=>hk b o WZ (bb (aA e)) (ag _ e)
end
section
variable {X:Cx}
def xF:∀{ts:List Str}{us:List af},cy (ts.map V.str) us->∃l:List (Str×Tok),us=strValues l/\l.map (·.1)=ts
 | [],_,r=>by cases r;exact⟨[],rfl,rfl⟩
 |x::ts,_,r=>by
  cases r with
  |cons r1 r2=>
   obtain⟨t,rfl⟩:=r1
   obtain⟨l,e1,e2⟩:=xF r2
   exact⟨(x,t)::l,by rw[e1];rfl,by rw[bH,e2]⟩
def KP:Wr X "str.join" (fun x vs H Q=>∃(sep:Str) (p:ah) (ts:List Str),x=.str sep/\vs=[.ref p]/\cS X.K H p (ts.map V.str)/\JoinOk sep ts=true/\Q (.str (Txt.join sep ts)) H):=by
 intro pins s σ H x vs v us Q I rx rv h
 obtain⟨sep,p,ts,rfl,rfl,hp,ok,q⟩:=h
 obtain⟨t,rfl⟩:=(show∃t,v=Value.str sep t from rx)
 obtain⟨u,rfl,ru⟩:=zw rv
 cases(show u=Value.ref p from ru)
 obtain⟨cE,r1,pl,_⟩:=I.list hp
 obtain⟨l,rfl,el⟩:=xF r1
 exact SC.join pl.isList el ok fun t' k=>⟨.str _,H,I.tok k,⟨t',rfl⟩,q⟩
end
end L2
namespace HT
open PySem PySem.Spec PyProof.Rows L2
def Oo (prog:aF) (w:ba) (A:aQ) (P:Nat->af->Prop) (St:Nat->Heap->Prop) (bt:Nat->Nat->Bool):Prop:=
 ∀i j vi vj k (s:ai) (Q:af->ai->Prop) (E:af->ai->Prop),St k s.heap->P i vi->P j vj->Q (.bool (bt i j)) s->wpAny (model prog w) A (richCompare .Gt vi vj) Q E s
section
variable {prog:aF}{w:ba}{A:aQ}{R:Result->ai->Prop}{I:ah}{fp wr:List ah}{n:Nat}{P:Nat->af->Prop}{St:Nat->Heap->Prop}
def Fm (W:Walks prog w A.in1 I fp wr n P St) (bt:Nat->Nat->Bool) (cmp:Oo prog w A.in1 P St bt) (S:ah) (out:S∉fp) (kw:List (Str×af)):
  ∀(k j:Nat) (s:ai) (vb:af) (c:Nat),n-(j+1)=k->j+1<=n->St (j+1) s.heap->P (argBest bt j) vb->s.heap.get? S=some {cls:=.type "list",dict:=none,data:=.seq #[vb,vb] c,slots:=#[]}->
  (∀v h' tk,P (argBest bt (n-1)) v->(∀b o,b∉wr->b≠S->s.heap.get? b=some o->h'.get? b=some o)->R (.ok (.ret v)) {s with heap:=h',toks:=tk})->
  codeAny (model prog w) A (.builtin "max.loop" ⟨[.ref I,.none,.ref S],kw⟩) R s:=by
 have away:S∉wr:=fun h=>out (W.sub _ h)
 have nm:(toString "max"++toString ".loop":String)="max.loop":=by decide
 intro k
 induction k with
 |zero=>
  intro j s vb c hk hj st hb pQ q
  have en:j+1=n:=by omega
  refine gv Np ?_;rw[iq iS _]
  show wpAny _ A.in1 (seqItems? (.ref S)>>=_) _ _ s;refine aa (b_ pQ rfl ?_);show wpAny _ A.in1 (tryCatch (pyNext (.ref I)) _>>=_) _ _ s;refine aa (iR (W.done s _ _ (en▸st) fun h' tk kp=>?_))
  show wpAny _ A.in1 (updateSeq S (fun _=>#[])>>=_) _ _ _;refine aa ?_;refine k_ (kp S _ away pQ) rfl (aa (fB (ak ?_)))
  exact q vb _ tk (by rw[<-en];exact hb) fun b o h1 h2 e=>(aY _ _ (cF h2)).trans (kp b o h1 e)
 |succ k ih=>
  intro j s vb c hk hj st hb pQ q
  have lt:j+1<n:=by omega
  refine gv Np ?_;rw[iq iS _]
  show wpAny _ A.in1 (seqItems? (.ref S)>>=_) _ _ s;refine aa (b_ pQ rfl ?_);show wpAny _ A.in1 (tryCatch (pyNext (.ref I)) _>>=_) _ _ s;refine aa (iR (W.item (j+1) s _ _ lt st fun v h' tk hP sV kp=>?_))
  have at2:=kp S _ away pQ
  show wpAny _ A.in1 (tryCatch (holding [v,v] (richCompare .Gt v vb>>=_)) _>>=_) _ _ _;refine aa (iR (cM (aa (cmp (j+1) (argBest bt j) v vb _ _ _ _ sV hP hb ?_))))
  refine aa (cM (dM ?_));refine aa (fB (ak ?_))
  cases better:bt (j+1) (argBest bt j) with
  |true=>
   simp only[j9]
   refine aa ?_;refine k_ at2 rfl (aa (fB ?_))
   rw[nm]
   refine ak ⟨jy iS _,ih (j+1) _ v _ (by omega) lt (W.frame _ _ _ sV fun b hf o e=>(aY _ _ (fun h:S=b=>out (by rw[h];exact hf))).trans e) (by simp only[argBest,better,j9];exact hP) (cV _ at2 rfl) fun v' HB vg se BN=>?_⟩
   exact q v' HB vg se fun b o h1 h2 e=>BN b o h1 h2 ((aY _ _ (cF h2)).trans (kp b o h1 e))
  |false=>
   simp only[fg,jT]
   refine aa (fB ?_)
   rw[nm]
   refine ak ⟨jy iS _,ih (j+1) _ vb c (by omega) lt sV (by simp only[argBest,better,fg,jT];exact hb) at2 fun v' HB vg se BN=>?_⟩
   exact q v' HB vg se fun b o h1 h2 e=>BN b o h1 h2 (kp b o h1 e)
def BQ (W:Walks prog w A.in1 I fp wr n P St) (bt:Nat->Nat->Bool) (cmp:Oo prog w A.in1 P St bt) (S:ah) (out:S∉fp) (pos:0<n) {s:ai}{c:Nat}(st:St 0 s.heap)
  (pQ:s.heap.get? S=some {cls:=.type "list",dict:=none,data:=.seq #[] c,slots:=#[]})
  (q:∀v h' tk,P (argBest bt (n-1)) v->(∀b o,b∉wr->b≠S->s.heap.get? b=some o->h'.get? b=some o)->R (.ok (.ret v)) {s with heap:=h',toks:=tk}):
  codeAny (model prog w) A (.builtin "max.loop" ⟨[.ref I,.none,.ref S],[]⟩) R s:=by
 have away:S∉wr:=fun h=>out (W.sub _ h)
 have nm:(toString "max"++toString ".loop":String)="max.loop":=by decide
 refine gv Np ?_;rw[iq iS _]
 show wpAny _ A.in1 (seqItems? (.ref S)>>=_) _ _ s;refine aa (b_ pQ rfl ?_);show wpAny _ A.in1 (tryCatch (pyNext (.ref I)) _>>=_) _ _ s;refine aa (iR (W.item 0 s _ _ pos st fun v h' tk hP sV kp=>?_))
 have at2:=kp S _ away pQ
 show wpAny _ A.in1 (updateSeq S (fun _=>#[v,v])>>=_) _ _ _;refine aa ?_;refine k_ at2 rfl ?_;rw[nm]
 refine ak ⟨jy iS _,Fm W bt cmp S out _ _ 0 _ v _ rfl pos (W.frame _ _ _ sV fun b hf o e=>(aY _ _ (fun h:S=b=>out (by rw[h];exact hf))).trans e) hP (cV _ at2 rfl) fun v' HB vg se BN=>?_⟩
 exact q v' HB vg se fun b o h1 h2 e=>BN b o h1 h2 ((aY _ _ (cF h2)).trans (kp b o h1 e))
end
end HT
namespace L2
open PySem PySem.Spec PyProof.Rows HT
section
variable {prog:aF}{w:ba}{A:aQ}{E:af->ai->Prop}{s:ai}
def BR {a b:af}{Q:af->ai->Prop}
  (h:wpAny (model prog w) A.in1 (pyIter (.ref s.heap.objs.size)) (fun it s2=>∃I fp wr n P St bt,it=.ref I/\Walks prog w A.in1 I fp wr n P St/\St 0 s2.heap/\(∀b∈fp,b<s2.heap.objs.size)/\0<n/\Oo prog w A.in1 P St bt/\
   ∀v h' tk,P (argBest bt (n-1)) v->(∀b o,b∉wr->s2.heap.get? b=some o->h'.get? b=some o)->Q v {s2 with heap:=h',toks:=tk}) E {s with heap:=s.heap.push {cls:=.type "tuple",data:=.seq #[a,b]}}):
  wpAny (model prog w) A (call (.builtin "max") [a,b]) Q E s:=by
 have nm:(toString "max"++toString ".loop":String)="max.loop":=by decide
 refine call_function_tree F.kind_max F.plain_max F.entry_max (F.args_max2 _ _) ?_;show wpAny _ A.in1 (Builtin.Builtins.bindParams "max" ["key","default"] 0 ⟨[],[]⟩>>=_) _ _ s
 refine aa (A8 (show Builtin.Builtins.bindParams "max" ["key","default"] 0 ⟨[],[]⟩=pure [none,none] from rfl) ?_)
 show wpAny _ A.in1 (newTuple [a,b]>>=_) _ _ s
 refine aa (bD (aa (bK h (fun it s2 h2=>?_) fun _ _ e=>e)))
 obtain⟨I,fp,wr,n,P,St,bt,rfl,W,st,below,pos,cmp,q⟩:=h2
 refine aa (bD ?_);rw[nm]
 have out:s2.heap.objs.size∉fp:=fun hm=>gm _ (below _ hm)
 refine ak ⟨jy iS _,BQ W bt cmp s2.heap.objs.size out pos (W.frame _ _ _ st fun b _ o e=>ag _ e) (aw _ rfl) fun v h' tk hP hk=>?_⟩
 exact q v h' tk hP fun b o WZ e=>hk b o WZ (bb (aA e)) (ag _ e)
end
section
variable {X:Cx}
def BS (hc:X.calm=true):gE X (.builtin "min") (fun xs H Q=>∃x y:Str,xs=[.str x,.str y]/\Q (.str (if dQ y x=true then y else x)) H):=by
 intro pins s σ H xs us Q I r h
 obtain⟨x,y,rfl,q⟩:=h
 obtain⟨u,u',rfl,⟨t,rfl⟩,⟨t',rfl⟩⟩:=vals2 r
 have hT:(s.heap.push {cls:=.type "tuple",data:=.seq #[.str x t,.str y t']}).IsTuple s.heap.objs.size #[.str x t,.str y t']:=⟨_,aw _ rfl,rfl,0,rfl⟩
 refine BP (lJ hT ?_)
 have z1:(s.heap.push {cls:=.type "tuple",data:=.seq #[.str x t,.str y t']}).objs.size=s.heap.objs.size+1:=bZ ..
 have W:=Walks.tuple (prog:=X.prog) (w:=X.w) (A:=X.A.in1) (I.ok.hd hc) (s.heap.objs.size+1) s.heap.objs.size (bb (fL _)) #[.str x t,.str y t']
 rw[z1]
 refine⟨s.heap.objs.size+1,_,_,2,_,_,fun i j=>dQ ([x,y].getD i x) ([x,y].getD j x),rfl,W,⟨⟨_,by rw[<-z1];exact aw _ rfl,rfl,rfl⟩,hT.push _⟩,?_,by decide,?_,fun v h' tk hP hk=>?_⟩
 ·intro b hb
  show b<((s.heap.push _).push _).objs.size
  rw[bZ,z1]
  simp only[aC,aM,cz] at hb
  rcases hb with e|e
  ·rw[e];exact fL _
  ·rw[e];exact gT (fL _)
 ·intro i j vi vj k s' Q' E' st hi hj hQ
  have two:∀(i:Nat) (v:af),(#[Value.str x t,.str y t']:Array af)[i]?=some v->∃t,v=.str ([x,y].getD i x) t:=fun i v e=>by
   match i,e with
   |0,e=>cases e;exact⟨_,rfl⟩
   |1,e=>cases e;exact⟨_,rfl⟩
   |n+2,e=>simp at e
  obtain⟨t1,rfl⟩:=two i vi hi
  obtain⟨t2,rfl⟩:=two j vj hj
  exact(lt_str hQ:wpAny _ _ (compareOp .Lt _ _) _ _ _)
 ·have se:(#[Value.str x t,.str y t']:Array af)[argBest (fun i j=>dQ ([x,y].getD i x) ([x,y].getD j x)) 1]?=some v:=hP
  refine⟨.str (if dQ y x=true then y else x),H,I.kept (t':=tk) fun b o e=>hk b o (fun z=>?_) (ag _ (ag _ e)),?_,q⟩
  ·have:=aA e
   rw[bU.mp z] at this
   exact absurd this (pF.mpr (dE _))
  ·by_cases hb:dQ y x=true
   ·have e:argBest (fun i j=>dQ ([x,y].getD i x) ([x,y].getD j x)) 1=1:=by simp[argBest,hb]
    rw[e] at se
    rw[aP hb]
    cases se
    exact⟨_,rfl⟩
   ·have e:argBest (fun i j=>dQ ([x,y].getD i x) ([x,y].getD j x)) 1=0:=by simp[argBest,hb]
    rw[e] at se
    rw[aO hb]
    cases se
    exact⟨_,rfl⟩
def BU (hc:X.calm=true):gE X (.builtin "max") (fun xs H Q=>∃x y:Str,xs=[.str x,.str y]/\Q (.str (if dQ x y=true then y else x)) H):=by
 intro pins s σ H xs us Q I r h
 obtain⟨x,y,rfl,q⟩:=h
 obtain⟨u,u',rfl,⟨t,rfl⟩,⟨t',rfl⟩⟩:=vals2 r
 have hT:(s.heap.push {cls:=.type "tuple",data:=.seq #[.str x t,.str y t']}).IsTuple s.heap.objs.size #[.str x t,.str y t']:=⟨_,aw _ rfl,rfl,0,rfl⟩
 refine BR (lJ hT ?_)
 have z1:(s.heap.push {cls:=.type "tuple",data:=.seq #[.str x t,.str y t']}).objs.size=s.heap.objs.size+1:=bZ ..
 have W:=Walks.tuple (prog:=X.prog) (w:=X.w) (A:=X.A.in1) (I.ok.hd hc) (s.heap.objs.size+1) s.heap.objs.size (bb (fL _)) #[.str x t,.str y t']
 rw[z1]
 refine⟨s.heap.objs.size+1,_,_,2,_,_,fun i j=>dQ ([x,y].getD j x) ([x,y].getD i x),rfl,W,⟨⟨_,by rw[<-z1];exact aw _ rfl,rfl,rfl⟩,hT.push _⟩,?_,by decide,?_,fun v h' tk hP hk=>?_⟩
 ·intro b hb
  show b<((s.heap.push _).push _).objs.size
  rw[bZ,z1]
  simp only[aC,aM,cz] at hb
  rcases hb with e|e
  ·rw[e];exact fL _
  ·rw[e];exact gT (fL _)
 ·intro i j vi vj k s' Q' E' st hi hj hQ
  have two:∀(i:Nat) (v:af),(#[Value.str x t,.str y t']:Array af)[i]?=some v->∃t,v=.str ([x,y].getD i x) t:=fun i v e=>by
   match i,e with
   |0,e=>cases e;exact⟨_,rfl⟩
   |1,e=>cases e;exact⟨_,rfl⟩
   |n+2,e=>simp at e
  obtain⟨t1,rfl⟩:=two i vi hi
  obtain⟨t2,rfl⟩:=two j vj hj
  exact(PySem.P.gt_str hQ:wpAny _ _ (compareOp .Gt _ _) _ _ _)
 ·have se:(#[Value.str x t,.str y t']:Array af)[argBest (fun i j=>dQ ([x,y].getD j x) ([x,y].getD i x)) 1]?=some v:=hP
  refine⟨.str (if dQ x y=true then y else x),H,I.kept (t':=tk) fun b o e=>hk b o (fun z=>?_) (ag _ (ag _ e)),?_,q⟩
  ·have:=aA e
   rw[bU.mp z] at this
   exact absurd this (pF.mpr (dE _))
  ·by_cases hb:dQ x y=true
   ·have e:argBest (fun i j=>dQ ([x,y].getD j x) ([x,y].getD i x)) 1=1:=by simp[argBest,hb]
    rw[e] at se
    rw[aP hb]
    cases se
    exact⟨_,rfl⟩
   ·have e:argBest (fun i j=>dQ ([x,y].getD j x) ([x,y].getD i x)) 1=0:=by simp[argBest,hb]
    rw[e] at se
    rw[aO hb]
    cases se
    exact⟨_,rfl⟩
end
section
variable {X:Cx}{pins:List (ah×Obj)}{σ:St}{H:Hp}{s:ai}
end
end L2
namespace L2
open PySem PySem.Spec PyProof.Rows PySem.W
section
variable {M:Model}{A:aQ}{E:af->ai->Prop}{s:ai}{B:Heap}{env:Env}{outer:List Env}{L e:ah}{cls fl:af}{Q:Unit->ai->Prop}
end
def lF {P:aF}{w:ba}{H:Hp}{h:Heap}{a:ah}{o:HO}(x:fP P w H h a o):∃u,h.get? a=some u:=by
 induction o with
 |lst xs=>obtain⟨_,cE,n,_,e⟩:=x;exact⟨_,e⟩
 |tup xs=>obtain⟨_,cE,_,ob,e,_⟩:=x;exact⟨_,e⟩
 |dK de=>obtain⟨_,_,vs,_,ob,es,ep,e,_⟩:=x;exact⟨_,e⟩
 |dT de=>obtain⟨_,_,xs,_,ob,es,ep,e,_⟩:=x;exact⟨_,e⟩
 |set S n=>obtain⟨ob,es,ep,t,e,_⟩:=x;exact⟨_,e⟩
 |ins C dx fs=>obtain⟨_,_,_,e,_⟩:=x;exact⟨_,e⟩
 |own y=>exact x
 |xd fs=>obtain⟨mA,⟨od,es,ep,e,_⟩,_⟩:=x;exact⟨_,e⟩
 |Vc lo hi=>obtain⟨t,u,v,e⟩:=x;exact⟨_,e⟩
 |Be ob u ih=>exact⟨_,x.1⟩
 |Mj ps=>exact⟨_,(show h.get? a=some _ from x)⟩
 |met f y=>exact⟨_,(show h.get? a=some _ from x)⟩
 |ext φ=>exact x.2.1
section
variable {X:Cx}{pins:List (ah×Obj)}{σ:St}{H:Hp}{s:ai}
def Inv.sZ {B h':Heap}(I:Inv X pins σ H s) (kB:B.StaysIn s.heap) (Vo:B.StaysIn h') (ups:s.heap.UpToSlots h') (tU:∀b u,H b=some u->∃o,B.get? b=some o)
  (hp:∀p∈X.pn++pins,B.get? p.1=some p.2) (o1:∀b o,X.gG.heap.get? b=some o->X.Bf b=none->b∉X.fs->b∉X.ex->B.get? b=some o) (o2:∀b o,X.gG.heap.get? b=some o->b∉X.fs->b∉X.ex->∃o',B.get? b=some o'):
  Inv X pins σ H {s with heap:=h'}:=by
 have fr:∀b,b∈X.fs->∃o,s.heap.get? b=some o/\∃sl,h'.get? b=some {o with slots:=sl}:=fun b hb=>by
  obtain⟨_,o,ho,hnf⟩:=I.mf.mem hb
  exact⟨o,ho,ups b o ho hnf⟩
 refine⟨I.ok,I.os,I.bare,⟨fun b o q n hb hx=>Vo b o (o1 b o q n hb hx),fun b o q n hb hx=>?_,I.base.free,fun b o q hx=>?_,I.base.mJ,I.base.nQ,I.base.pH⟩,?_,fun x c e=>?_,I.free,I.iZ,fun p hq=>?_,fun a o e=>?_,I.len⟩
 ·obtain⟨sl,e1⟩:=I.base.slot b o q n hb hx
  obtain⟨o',e2,Q4,e3⟩:=fr b hb
  rw[e1] at e2;cases e2
  exact⟨Q4,e3⟩
 ·by_cases hb:b∈X.fs
  ·obtain⟨o',_,sl,e⟩:=fr b hb
   exact⟨_,e⟩
  ·obtain⟨o',e⟩:=o2 b o q hb hx
   exact⟨o',Vo _ _ e⟩
 ·obtain⟨m,hn,hl⟩:=I.loc
  refine⟨m,ups.ns hn,fun i x v e1 e2 e3=>?_⟩
  obtain⟨u,r,lk⟩:=hl i x v e1 e2 e3
  refine⟨u,r,?_⟩
  rcases lk with lk|⟨lk,c,ec,oc,hc,hd⟩
  ·exact .inl lk
  ·obtain⟨sl,es⟩:=ups c oc hc fun vs z=>by rw[hd] at z;cases z
   exact .inr ⟨lk,c,ec,_,es,hd⟩
 ·obtain⟨v,oc,hc,hd⟩:=I.cell x c e
  obtain⟨sl,es⟩:=ups c oc hc fun vs z=>by rw[hd] at z;cases z
  exact⟨v,_,es,hd⟩
 ·obtain⟨_,p2⟩:=I.pin p hq
  exact⟨Vo _ _ (hp p hq),p2⟩
 ·refine(I.eE a o e).pG (fun b u hb eu=>?_) (fun _ z=>z) (fun _ _ z=>z)
  have ht:∃u',H b=some u':=by
   rcases hb with rfl|hb
   ·exact⟨_,e⟩
   ·exact⟨_,hb⟩
  obtain⟨u',ht⟩:=ht
  obtain⟨o',zB⟩:=tU b u' ht
  have:=kB _ _ zB
  rw[eu] at this;cases this
  exact Vo _ _ zB
def Inv.xv (I:Inv X pins σ H s) {b:ah}{o:Obj}(q:X.gG.heap.get? b=some o) (hb:b∉X.fs):b∉nE X.stack:=fun z=>by
 rcases aC.mp (I.rS b z) with e|e
 ·have h1:=aA q
  rw[e] at h1
  exact absurd h1 (pF.mpr I.ok.above)
 ·exact hb e
end
section
variable {P:aF}{w:ba}{K:PySem.W.Frag}{mg:Str->Option af}{base:Heap}{N:List Str}{qual:Str}{scope:Scope}{f:ah}{cd:af}{A:aQ}{outer:List Env}{s:ai}{H:Hp}{E:XK}
end
abbrev vh:List af:=[.type "ValueError",.type "Exception",.type "BaseException",.type "object"]
structure sh (K:Frag) (mg:Str->Option af) (x:Str) (C:ah):Prop where
 at':mg x=some (.ref C)
 is:excIn K C vh "ValueError.__new__"=true
def sh.own {K:Frag}{mg:Str->Option af}{x:Str}{C:ah}{h:Heap}(O:sh K mg x C) (pI:K.In h):OwnCls x C vh "ValueError.__new__" mg h:=by
 have q:=O.is
 refine⟨O.at',?_⟩
 unfold excIn at q
 split at q
 case h_2=>exact absurd q (by decide)
 case h_1 d0 c0 s0 look=>
  split at q
  case h_2=>exact absurd q (by decide)
  case h_1 C1 tl a0 a1 a2 a3 nw a5 em es=>
   rcases c0 with⟨c1,c2,c3,c4,c5,c6,c7,c8,c9,c10,c11⟩
   rcases s0 with⟨sl⟩
   simp only[cI,iH,kU] at q
   obtain⟨⟨⟨⟨⟨g1,g2⟩,g3⟩,g4⟩,g5⟩,g6⟩:=q
   dsimp only at em es g3 g5 g6
   subst g1 g2 g3 em es
   exact⟨tl,c4,c1,c5,c2,c6,c7,c8,c9,c10,d0,a0,a1,a2,a3,a5,h.nsMap c4,pI _ _ look,.of_isNs (isNs_of_in pI g5),nsMap_none_of_in pI g5 g6,tail_of_in pI g4⟩
section
variable {X:Cx}{W:af->St->Hp->Prop}
def PS.kF {st:Stmt}{t:TS}(h:PS X.kF st t):PS X st t:=fun pins s σ H D I hw=>
 bK (h pins s σ H D (I.uR _) hw) (fun _ _ q=>q.mK) fun _ _ z=>False.elim z
end
abbrev Cx.zr (X:Cx) (a:ah):Cx:={X with A:=X.A.mark (some (.ref a)),calm:=false,xe:=fun _ _=>False}
def W2 (a:ah) (cls:af):HO:=.ext fun h=>∃oe vs,h.get? a=some oe/\oe.cls=cls/\oe.dict=none/\oe.data=.fields vs/\vs[2]?=some .none
section
variable {X:Cx}{pins:List (ah×Obj)}{σ:St}{H:Hp}{s:ai}{W:af->St->Hp->Prop}
def Inv.zr (I:Inv X pins σ H s) (a:ah):Inv (X.zr a) pins σ H s:=
 ⟨⟨I.ok.mod,I.ok.kind,I.ok.glob,I.ok.blt,I.ok.above,I.ok.inj,I.ok.has,I.ok.JM,(fun z=>nomatch z),I.ok.frames,I.ok.Kc,I.ok.EI,I.ok.bs,I.ok.Bg,I.ok.wy,I.ok.tV,I.ok.mf,I.ok.C4⟩,I.os,I.bare,I.base,I.loc,I.cell,I.free,I.iZ,I.pin,I.eE,I.len⟩
def Inv.Mw (c:X.calm=true->X.A.handled=none) (f:X.A.frames=some X.stack) {a:ah}(I:Inv (X.zr a) pins σ H s):Inv X pins σ H s:=
 ⟨⟨I.ok.mod,I.ok.kind,I.ok.glob,I.ok.blt,I.ok.above,I.ok.inj,I.ok.has,I.ok.JM,c,f,I.ok.Kc,I.ok.EI,I.ok.bs,I.ok.Bg,I.ok.wy,I.ok.tV,I.ok.mf,I.ok.C4⟩,I.os,I.bare,I.base,I.loc,I.cell,I.free,I.iZ,I.pin,I.eE,I.len⟩
def Inv.Mx {a:ah}{o:HO}(I:Inv X pins σ H s) (n:H a=none) (n0:X.gG.heap.get? a=none) (nl:a≠X.env.locals) (nc:∀x c,X.env.cells.lookup x=some c->c≠a) (np:∀p∈X.pn++pins,p.1≠a) (ok:fP X.prog X.w (upd H a o) s.heap a o):Inv X pins σ (upd H a o) s:=by
 refine⟨I.ok,I.os,I.bare,⟨I.base.keep,I.base.slot,fun b u q m hx=>?_,I.base.there,fun b xs e=>?_,fun b u v e=>?_,fun b ps e=>?_⟩,I.loc,I.cell,?_,fun x c e=>?_,fun p hp=>?_,fun b u e=>?_,I.len⟩
 ·rw[aV (fun z=>by rw[z,n0] at q;cases q)]
  exact I.base.free b u q m hx
 ·have:=I.base.mJ b xs e
  rw[aV (dj this n)];exact this
 ·have:=I.base.nQ b u v e
  rw[aV (dj this n)];exact this
 ·obtain⟨m,this⟩:=I.base.pH b ps e
  exact⟨m,by rw[aV (dj this n)];exact this⟩
 ·rw[aV nl.symm];exact I.free
 ·rw[aV (nc x c e)];exact I.iZ x c e
 ·obtain⟨p1,p2,p3⟩:=I.pin p hp
  exact⟨p1,by rw[aV (np p hp)];exact p2,p3⟩
 ·by_cases eb:b=a
  ·subst eb
   rw[az] at e
   cases e
   exact ok
  ·rw[aV eb] at e
   refine(I.eE b u e).pG (fun _ _ _ z=>z) (fun c z=>?_) (fun c xs z=>?_)
   ·rw[aV (dj z n)];exact z
   ·rw[aV (dj z n)];exact z
def uo {M:Model}{A:aQ}{E:af->ai->Prop}{i:Nat}{n:Str}{pos:Pos}{Q:Unit->ai->Prop}(I:Inv X pins σ H s) (hN:X.N.Nodup) (hi:X.N[i]?=some n) (hk:X.env.scope.names.lookup n=some .local)
  (q:∀s',Inv X pins (σ.set i none) H s'->Q () s'):wpAny M A (do bindName X.env n .none;unbindBehindTheSuite X.env n pos) Q E s:=by
 have NC:(X.env.scope.kind== .class||(X.env.scope.kind== .module&&X.env.locals !=X.env.globals))=false:=by rw[I.ok.kind];rfl
 refine aa (mF (oX I hN hi (.inl hk) (show RelV V.eA Value.none from rfl) (fun s1 I1 _=>?_) (.inr hk)))
 obtain⟨m,hn,hl⟩:=id I1.loc
 have kl:X.env.kindOf n=some .local:=hk
 unfold unbindBehindTheSuite
 refine iB ?_
 unfold unbindName
 refine aa (wpAny_point (aa ?_))
 unfold deleteName
 simp only[kl,NC]
 rw[aO (by decide)]
 refine aa (wpAny_nsDel_keeps hn fun h2 v JP sb=>?_)
 have hmn:(m n).isSome=true:=by
  have EJ:i<σ.length:=by rw[I.len];exact(bw.mp hi).1
  obtain⟨u,r,lk⟩:=hl i n .eA hi (kT EJ) (.inl hk)
  rcases lk with⟨_,e⟩|⟨k,_⟩
  ·rw[e];rfl
  ·rw[kl] at k;rcases k with k|k<;>cases k
 rw[hmn]
 simp only[Bool.not_true,fg,jT]
 refine ak (wpAny_point (q _ ?_))
 have GB:=I1.GB
 obtain⟨oL,_,_,ZF,_⟩:=id hn
 have old:∀{b:ah} {o:Obj},X.gG.heap.get? b=some o->b≠X.env.locals:=fun{b o} e=>bb (bT (aA e) I1.ok.above)
 have EJ:i<σ.length:=by rw[I.len];exact(bw.mp hi).1
 refine⟨I1.ok,I1.os,I1.bare,⟨fun b o e n' hb hx=>?_,fun b o e n' hb hx=>?_,I1.base.free,fun b o e hx=>?_,I1.base.mJ,I1.base.nQ,I1.base.pH⟩,⟨_,JP,fun j y v' e1 e2 e3=>?_⟩,fun y c e=>?_,I1.free,I1.iZ,fun p hp=>?_,fun b ob e=>?_,by simpa using I.len⟩
 ·rw[sb.2 b (old e)];exact I1.base.keep b o e n' hb hx
 ·obtain⟨sl,e1⟩:=I1.base.slot b o e n' hb hx
  exact⟨sl,by rw[sb.2 b (old e)];exact e1⟩
 ·obtain⟨o',e1⟩:=I1.base.there b o e hx
  exact⟨o',by rw[sb.2 b (old e)];exact e1⟩
 ·by_cases hj:j=i
  ·subst hj
   rw[kT EJ] at e2
   cases e2
  ·rw[mE (cF hj)] at e2
   obtain⟨u',r',lk⟩:=hl j y v' e1 (by rw[mE (cF hj)];exact e2) e3
   refine⟨u',r',?_⟩
   have ny:y≠n:=fun z=>hj (uQ hN e1 (z▸hi))
   rcases lk with⟨k,e⟩|⟨k,c,e,z⟩
   ·exact .inl ⟨k,by simp[ny,e]⟩
   ·exact .inr ⟨k,c,e,z.sameBut sb (GB y c e)⟩
 ·obtain⟨w',z⟩:=I1.cell y c e
  exact⟨w',z.sameBut sb (GB y c e)⟩
 ·obtain⟨p1,p2,p3,p4⟩:=I1.pin p hp
  exact⟨by rw[sb.2 _ p3];exact p1,p2,p3,p4⟩
 ·refine(I1.eE b ob e).pG (fun c w' hc z=>?_) (fun _ z=>z) (fun _ _ z=>z)
  rw[sb.2 c ?_]
  ·exact z
  ·rintro rfl
   have fr:=I1.free
   rcases hc with rfl|hc
   ·rw[fr] at e;cases e
   ·rw[fr] at hc;cases hc
end
def wN:entryFor table "proto.unchain"=some Builtin.«proto.unchain»:=entryFor_of_tree (by kernel_rfl)
def HC (A:aQ) (h:Heap):Prop:=∃a oa ws,A.handled=some (.ref a)/\h.get? a=some oa/\oa.data=.fields ws/\ws[2]?=some .none
section
variable {prog:aF}{w:ba}{A:aQ}{E:af->ai->Prop}{s:ai}
def vm {e:ah}{oe:Obj}{vs:Array af}{α:Type}{Q:α->ai->Prop}(hn:HC A s.heap) (he:s.heap.get? e=some oe) (hd:oe.data=.fields vs) (h2:2<vs.size) (ne:∀a,A.handled=some (.ref a)->a≠e)
  (q:∀h',(∀b o,b≠e->s.heap.get? b=some o->h'.get? b=some o)->(∃o,h'.get? e=some o/\o.cls=oe.cls)->E (.ref e) {s with heap:=h'}):wpAny (model prog w) A (raiseNew (.ref e):Sem α) Q E s:=by
 obtain⟨a,oa,ws,hh,ha,Vp,w2⟩:=hn
 have nae:=ne a hh
 unfold raiseNew
 refine aa (wpAny_handled ?_)
 rw[hh]
 dsimp only
 rw[aP (by simpa using nae)]
 refine aa (cM (wpAny_runValue (gv wN ?_)))
 refine(aa (bJ ha Vp w2 ?_):wpAny _ _ (field (.ref a) 2>>=_) _ _ s)
 rw[aP (by decide)]
 refine ak ?_
 show wpAny _ A (updateField e 2 (.ref a)>>=fun _=>_) _ _ s
 unfold updateField
 refine aa (aa (wpAny_load he ?_))
 rw[hd]
 dsimp only
 rw[aP h2]
 refine wpAny_update he ?_
 have d1:=gU hd (·.setIfInBounds 2 (Value.ref a))
 exact wpAny_throw (q _ (fun b o nb hb=>by rw[aY _ _ (cF nb)];exact hb) ⟨_,cV _ he (g_ d1),uf _ _⟩)
end
section
variable {prog:aF}{w:ba}{A:aQ}{R:Result->ai->Prop}
end
section
variable {prog:aF}{w:ba}{A:aQ}{s:ai}{R:Result->ai->Prop}
end
section
variable {prog:aF}{w:ba}{A:aQ}{E:af->ai->Prop}{s:ai}
end
section
variable {X:Cx}{pins:List (ah×Obj)}{σ:St}{H H':Hp}{s:ai}{h':Heap}
end
end L2
namespace L2
open PySem PySem.W PyProof.Rows
structure om (lt:Nat->Nat->Bool):Prop where
 as:∀a b,lt a b=true->lt b a=false
 tr:∀a b c,lt b a=false->lt c b=false->lt c a=false
def om.ir {lt:Nat->Nat->Bool}(O:om lt) (a:Nat):lt a a=false:=by
 cases e:lt a a with
 |false=>rfl
 |true=>have:=O.as a a e;rw[e] at this;cases this
def pat (p:Array Nat) (k:Nat):Nat:=p.getD k 0
def q_ {p q:Array Nat}{i j:Nat}(h:p[i]?=q[j]?):pat p i=pat q j:=by
 unfold pat
 rw[je,je,h]
def mR {p:Array Nat}{i j:Nat}(hj:j<=p.size) (k:Nat):pat (kas_rev p i j) k=if i<=k/\k<j then pat p (i+j-1-k) else pat p k:=by
 have e:=getElem?_mirror_all (i:=i) hj k
 by_cases h:i<=k/\k<j
 ·rw[aP h] at e⊢;exact q_ e
 ·rw[aO h] at e⊢;exact q_ e
def KQ {p:Array Nat}{src d:Nat}(hs:src<p.size) (hd:d<=src) (k:Nat):pat (bubble p src d) k=if k=src-d then pat p src else if src-d<k/\k<=src then pat p (k-1) else pat p k:=by
 have e:=getElem?_bubble hs d hd k
 by_cases h1:k=src-d
 ·rw[aP h1] at e⊢;exact q_ e
 ·rw[aO h1] at e⊢
  by_cases h2:src-d<k/\k<=src
  ·rw[aP h2] at e⊢;exact q_ e
  ·rw[aO h2] at e⊢;exact q_ e
def rJ (n:Nat) (p:Array Nat):Prop:=p.toList.Perm (List.range n)
def rJ.size {n:Nat}{p:Array Nat}(h:rJ n p):p.size=n:=by
 have:=h.length_eq
 rwa[A9,gg] at this
def rJ.lt {n k:Nat}{p:Array Nat}(h:rJ n p) (hk:k<n):pat p k<n:=by
 have ZX:k<p.size:=by rw[h.size];exact hk
 have e:pat p k=p[k]:=by unfold pat;rw[je,getElem?_pos p k ZX];rfl
 rw[e]
 exact pE.mp (h.mem_iff.mp (Array.mem_toList_iff.mpr (Array.getElem_mem ZX)))
def rJ.rev {n:Nat}{p:Array Nat}(h:rJ n p) (i j:Nat):rJ n (kas_rev p i j):=(JZ.mp (mirror_perm p i j _)).trans h
def rJ.bub {n:Nat}{p:Array Nat}(h:rJ n p) (i d:Nat):rJ n (bubble p i d):=(JZ.mp (bubble_perm p i d)).trans h
section
variable {n:Nat}{lt:Nat->Nat->Bool}{cmp:Nat->Nat->(Bool->ai->Prop)->ai->Prop}{I:ai->Prop}
def AX (lt:Nat->Nat->Bool) (p:Array Nat) (k:Nat):Prop:=∀i j,i<=j->j<k->lt (pat p j) (pat p i)=false
def JS (lt:Nat->Nat->Bool) (p:Array Nat) (k:Nat):Prop:=∀i j,i<=j->j<k->lt (pat p i) (pat p j)=false
def SM (lt:Nat->Nat->Bool) (p:Array Nat) (a b:Nat):Prop:=∀i j,a<=i->i<b->a<=j->j<b->lt (pat p i) (pat p j)=false
def KR (n:Nat) (lt:Nat->Nat->Bool) (cmp:Nat->Nat->(Bool->ai->Prop)->ai->Prop) (I:ai->Prop):Prop:=
 ∀i j,i<n->j<n->∀(C:Bool->ai->Prop) s,I s->(∀s',I s'->C (lt i j) s')->cmp i j C s
def KS (O:om lt) {p:Array Nat}{k:Nat}(h1:1<=k) (h:AX lt p k) (hk:lt (pat p k) (pat p (k-1))=false):AX lt p (k+1):=by
 intro i j x9 hj
 by_cases e:j=k
 ·subst e
  by_cases e2:i=j
  ·subst e2;exact O.ir _
  ·exact O.tr _ (pat p (j-1)) _ (h i (j-1) (by omega) (by omega)) hk
 ·exact h i j x9 (by omega)
def rf (O:om lt) {p:Array Nat}{k:Nat}(h1:1<=k) (h:JS lt p k) (hk:lt (pat p (k-1)) (pat p k)=false):JS lt p (k+1):=by
 intro i j x9 hj
 by_cases e:j=k
 ·subst e
  by_cases e2:i=j
  ·subst e2;exact O.ir _
  ·exact O.tr _ (pat p (j-1)) _ hk (h i (j-1) (by omega) (by omega))
 ·exact h i j x9 (by omega)
def BV (O:om lt) (hc:KR n lt cmp I) {p:Array Nat}(hp:rJ n p):∀(f a:Nat) {Q:Nat->ai->Prop}{s:ai},1<=a->a+f<=n->AX lt p a->I s->
  (∀m s',I s'->a<=m->m<=a+f->AX lt p m->(m<a+f->lt (pat p m) (pat p (m-1))=true)->Q m s')->(kas_asc p f a).kasWp cmp Q s
 |0,a,Q,s,h1,ha,so,hi,q=>q a s hi (by omega) (by omega) so (fun h=>by omega)
 |f+1,a,Q,s,h1,ha,so,hi,q=>by
  show cmp (pat p a) (pat p (a-1)) _ s
  refine hc _ _ (hp.lt (by omega)) (hp.lt (by omega)) _ s hi fun s' AY=>?_
  cases e:lt (pat p a) (pat p (a-1)) with
  |true=>exact q a s' AY (by omega) (by omega) so (fun _=>e)
  |false=>exact BV O hc hp f (a+1) (by omega) (by omega) (KS O h1 so e) AY fun m s2 i2 l1 l2 s3 l3=>q m s2 i2 (by omega) (by omega) s3 (fun h=>l3 (by omega))
def BW (O:om lt) {p:Array Nat}(k a b:Nat) (hb:b<=p.size) (w:JS lt p k) (e:SM lt p a b) (hbk:b<=k):JS lt (kas_rev p a b) k:=by
 intro i j x9 hj
 rw[mR hb,mR hb]
 by_cases h1:a<=i/\i<b
 ·rw[aP h1]
  by_cases h2:a<=j/\j<b
  ·rw[aP h2];exact e _ _ (by omega) (by omega) (by omega) (by omega)
  ·rw[aO h2];exact w _ _ (by omega) hj
 ·rw[aO h1]
  by_cases h2:a<=j/\j<b
  ·rw[aP h2];exact w _ _ (by omega) (by omega)
  ·rw[aO h2];exact w _ _ x9 hj
def s_ {p:Array Nat}{a b k:Nat}(hb:b<=p.size) (h:b<=k):pat (kas_rev p a b) k=pat p k:=by
 rw[mR hb,aO (by omega)]
def uq (O:om lt) (hc:KR n lt cmp I):∀(f:Nat) (p:Array Nat) (a q:Nat) {Q:Array Nat×Nat×Nat->ai->Prop}{s:ai},rJ n p->q+1<=a->a+f<=n->JS lt p a->SM lt p (a-(q+1)) a->I s->
  (∀p' m q' s',I s'->rJ n p'->a<=m->m<=a+f->q'+1<=m->JS lt p' m->SM lt p' (m-(q'+1)) m->Q (p',m,q') s')->(kas_desc f p a q).kasWp cmp Q s
 |0,p,a,q,Q,s,hp,h1,ha,wd,eq,hi,k=>k p a q s hi hp (by omega) (by omega) h1 wd eq
 |f+1,p,a,q,Q,s,hp,h1,ha,wd,eq,hi,k=>by
  have hz:=hp.size
  show cmp (pat p a) (pat p (a-1)) _ s
  refine hc _ _ (hp.lt (by omega)) (hp.lt (by omega)) _ s hi fun s' AY=>?_
  have one:∀p':Array Nat,SM lt p' (a+1-(0+1)) (a+1):=fun p' i j h1 h2 h3 h4=>by
   have:i=j:=by omega
   subst this;exact O.ir _
  cases e:lt (pat p a) (pat p (a-1)) with
  |true=>
   show KasT.kasWp cmp (if q>0 then _ else _) Q s'
   by_cases hq:q>0
   ·rw[aP hq]
    have w2:=BW O a _ a (by omega) wd eq (aB _)
    refine uq O hc f _ (a+1) 0 (hp.rev _ _) (by omega) (by omega) (rf O (by omega) w2 ?_) (one _) AY fun p' m q' s2 i2 p2 l1 l2 l3 w3 e3=>k p' m q' s2 i2 p2 (by omega) (by omega) l3 w3 e3
    rw[s_ (by omega) (aB _),mR (by omega),aP (by omega)]
    refine O.tr _ (pat p (a-1)) _ (O.as _ _ e) ?_
    exact eq _ _ (by omega) (by omega) (by omega) (by omega)
   ·rw[aO hq]
    exact uq O hc f _ (a+1) 0 hp (by omega) (by omega) (rf O (by omega) wd (O.as _ _ e)) (one _) AY fun p' m q' s2 i2 p2 l1 l2 l3 w3 e3=>k p' m q' s2 i2 p2 (by omega) (by omega) l3 w3 e3
  |false=>
   show cmp (pat p (a-1)) (pat p a) _ s'
   refine hc _ _ (hp.lt (by omega)) (hp.lt (by omega)) _ s' AY fun s2 ZY=>?_
   cases e2:lt (pat p (a-1)) (pat p a) with
   |true=>exact k p a q s2 ZY hp (by omega) (by omega) h1 wd eq
   |false=>
    refine uq O hc f p (a+1) (q+1) hp (by omega) (by omega) (rf O (by omega) wd e2) (fun i j i1 i2 j1 j2=>?_) ZY fun p' m q' s2 i2 p2 l1 l2 l3 w3 e3=>k p' m q' s2 i2 p2 (by omega) (by omega) l3 w3 e3
    by_cases ia:i=a
    ·by_cases ja:j=a
     ·subst ia;subst ja;exact O.ir _
     ·subst ia;exact O.tr _ (pat p (i-1)) _ (eq _ _ (by omega) (by omega) (by omega) (by omega)) e
    ·by_cases ja:j=a
     ·subst ja;exact O.tr _ (pat p (j-1)) _ e2 (eq _ _ (by omega) (by omega) (by omega) (by omega))
     ·exact eq _ _ (by omega) (by omega) (by omega) (by omega)
def HD {p:Array Nat}{k:Nat}(hk:k<=p.size) (w:JS lt p k):AX lt (kas_rev p 0 k) k:=by
 intro i j x9 hj
 rw[mR hk,mR hk,aP (by omega),aP (by omega)]
 exact w _ _ (by omega) (by omega)
abbrev BX (n:Nat) (lt:Nat->Nat->Bool) (I:ai->Prop) (Q:Nat×Array Nat->ai->Prop):Prop:=∀m p' s',I s'->rJ n p'->1<=m->m<=n->AX lt p' m->Q (m,p') s'
def zY (O:om lt) (hc:KR n lt cmp I) {p:Array Nat}{a:Nat}{Q:Nat×Array Nat->ai->Prop}{s:ai}(hp:rJ n p) (h1:1<=a) (ha:a<=n) (w:JS lt p a) (hi:I s) (q:BX n lt I Q):(kas_tail3 a n p).kasWp cmp Q s:=by
 unfold kas_tail3
 rw[qH]
 exact BV O hc (hp.rev 0 a) (n-a) a h1 (by omega) (HD (by rw[hp.size];exact ha) w) hi fun m s' i' l1 l2 so _=>q m _ s' i' (hp.rev 0 a) (by omega) (by omega) so
def tj (O:om lt) (hc:KR n lt cmp I) {p:Array Nat}{a:Nat}{Q:Nat×Array Nat->ai->Prop}{s:ai}(hp:rJ n p) (h1:1<=a) (ha:a+1<=n) (w:JS lt p (a+1)) (hi:I s) (q:BX n lt I Q):(kas_descPart a n p).kasWp cmp Q s:=by
 unfold kas_descPart
 rw[qH]
 refine uq O hc (n-(a+1)) p (a+1) 0 hp (by omega) (by omega) w (fun i j i1 i2 j1 j2=>?_) hi fun p' m q' s' i' p2 l1 l2 l3 w3 e3=>?_
 ·have:i=j:=by omega
  subst this;exact O.ir _
 ·have hz:=p2.size
  dsimp only
  by_cases hq:q'>0
  ·rw[aP hq]
   exact zY O hc (p2.rev _ _) (by omega) (by omega) (BW O m _ m (by omega) w3 e3 (aB _)) i' q
  ·rw[aO hq]
   exact zY O hc p2 (by omega) (by omega) w3 i' q
def HE (O:om lt) (hc:KR n lt cmp I) {p:Array Nat}{Q:Nat×Array Nat->ai->Prop}{s:ai}(hp:rJ n p) (hn:2<=n) (hi:I s) (q:BX n lt I Q):(kas_count n p).kasWp cmp Q s:=by
 unfold kas_count
 rw[qH]
 have hz:=hp.size
 refine BV O hc hp (n-1) 1 (aB _) (by omega) (fun i j x9 hj=>?_) hi fun m s' i' l1 l2 so st=>?_
 ·have:i=j:=by omega
  subst this;exact O.ir _
 ·by_cases hm:m=n
  ·rw[aP (by simp[hm])]
   exact q m p s' i' hp (by omega) (by omega) so
  ·rw[aO (by simp[hm])]
   have sV:=st (by omega)
   by_cases h1:m>1
   ·rw[aP h1]
    show cmp (pat p 0) (pat p (m-1)) _ s'
    refine hc _ _ (hp.lt (by omega)) (hp.lt (by omega)) _ s' i' fun s2 i2=>?_
    cases e:lt (pat p 0) (pat p (m-1)) with
    |true=>exact q m p s2 i2 hp (by omega) (by omega) so
    |false=>
     have eq:SM lt p 0 m:=fun i j _ AY _ hj'=>by
      by_cases x9:j<=i
      ·exact so j i x9 AY
      ·refine O.tr _ (pat p (m-1)) _ ?_ (O.tr _ (pat p 0) _ e ?_)
       ·exact so j (m-1) (by omega) (by omega)
       ·exact so 0 i (by omega) AY
     have wd:JS lt (kas_rev p 0 m) m:=BW O m 0 m (by omega) (fun i j x9 hj=>eq i j (by omega) (by omega) (by omega) hj) eq (aB _)
     refine tj O hc (hp.rev 0 m) (by omega) (by omega) (rf O (by omega) wd ?_) i2 q
     rw[s_ (by omega) (aB _),mR (by omega),aP (by omega)]
     exact O.tr _ (pat p (m-1)) _ (O.as _ _ sV) (eq _ _ (by omega) (by omega) (by omega) (by omega))
   ·rw[aO h1]
    have:m=1:=by omega
    subst this
    refine tj O hc hp (by omega) (by omega) (rf O (aB _) (fun i j x9 hj=>?_) (O.as _ _ sV)) i' q
    have:i=j:=by omega
    subst this;exact O.ir _
def vn (O:om lt) (hc:KR n lt cmp I) {p:Array Nat}(hp:rJ n p) {k:Nat}(hk:k<n) (so:AX lt p k):∀(f l r:Nat) {Q:Nat->ai->Prop}{s:ai},l<=r->r<=k->r-l<=f->(∀i,i<l->lt (pat p k) (pat p i)=false)->(∀i,r<=i->i<k->lt (pat p i) (pat p k)=false)->I s->
  (∀m s',I s'->m<=k->(∀i,i<m->lt (pat p k) (pat p i)=false)->(∀i,m<=i->i<k->lt (pat p i) (pat p k)=false)->Q m s')->(kas_place p k f l r).kasWp cmp Q s
 |0,l,r,Q,s,h1,h2,h3,a,b,hi,q=>q l s hi (by omega) a (fun i h4 h5=>b i (by omega) h5)
 |f+1,l,r,Q,s,h1,h2,h3,a,b,hi,q=>by
  unfold kas_place
  by_cases h:l>=r
  ·rw[aP h]
   exact q l s hi (by omega) a (fun i h4 h5=>b i (by omega) h5)
  ·rw[aO h]
   show cmp (pat p k) (pat p ((l+r)/2)) _ s
   refine hc _ _ (hp.lt hk) (hp.lt (by omega)) _ s hi fun s' AY=>?_
   cases e:lt (pat p k) (pat p ((l+r)/2)) with
   |true=>
    refine vn O hc hp hk so f l ((l+r)/2) (by omega) (by omega) (by omega) a (fun i h4 h5=>?_) AY q
    exact O.tr _ (pat p ((l+r)/2)) _ (O.as _ _ e) (so _ _ h4 h5)
   |false=>
    refine vn O hc hp hk so f ((l+r)/2+1) r (by omega) (by omega) (by omega) (fun i h4=>?_) b AY q
    exact O.tr _ (pat p ((l+r)/2)) _ (so _ _ (by omega) (by omega)) e
def HF (O:om lt) (hc:KR n lt cmp I):∀(f:Nat) (p:Array Nat) (k:Nat) {Q:Array Nat->ai->Prop}{s:ai},rJ n p->k+f=n->AX lt p k->I s->(∀p' s',I s'->rJ n p'->AX lt p' n->Q p' s')->(kas_bin f p k).kasWp cmp Q s
 |0,p,k,Q,s,hp,hk,so,hi,q=>q p s hi hp (by rw[show n=k by omega];exact so)
 |f+1,p,k,Q,s,hp,hk,so,hi,q=>by
  unfold kas_bin
  rw[qH]
  have hz:=hp.size
  refine vn O hc hp (by omega) so k 0 k (by omega) (aB _) (by omega) (fun i h=>by omega) (fun i h1 h2=>by omega) hi fun m s' i' l1 a b=>?_
  refine HF O hc f _ (k+1) (hp.bub _ _) (by omega) (fun i j x9 hj=>?_) i' q
  have bu:=KQ (p:=p) (src:=k) (d:=k-m) (by omega) (by omega)
  rw[bu,bu]
  have e:k-(k-m)=m:=by omega
  rw[e]
  by_cases i1:i=m
  ·rw[aP i1]
   by_cases j1:j=m
   ·rw[aP j1];exact O.ir _
   ·rw[aO j1,aP (by omega)];exact b _ (by omega) (by omega)
  ·rw[aO i1]
   by_cases i2:m<i/\i<=k
   ·rw[aP i2,aO (by omega),aP (by omega)];exact so _ _ (by omega) (by omega)
   ·rw[aO i2]
    by_cases j1:j=m
    ·rw[aP j1];exact a _ (by omega)
    ·rw[aO j1]
     by_cases j2:m<j/\j<=k
     ·rw[aP j2];exact so _ _ (by omega) (by omega)
     ·rw[aO j2];exact so _ _ x9 (by omega)
def KU (O:om lt) (hc:KR n lt cmp I) (hn:2<=n) {Q:Array Nat->ai->Prop}{s:ai}(hi:I s) (q:∀p' s',I s'->rJ n p'->AX lt p' n->Q p' s'):(kas_sort n).kasWp cmp Q s:=by
 unfold kas_sort
 rw[qH]
 refine HE O hc (show rJ n (List.toArray (List.range n)) from List.Perm.refl _) hn hi fun m p' s' i' p2 l1 l2 so=>?_
 dsimp only
 by_cases h:m<n
 ·rw[aP h]
  have e:max m 1=m:=by omega
  rw[e]
  exact HF O hc (n-m) p' m p2 (by omega) so i' q
 ·rw[aO h]
  exact q p' s' i' p2 (by rw[show n=m by omega];exact so)
end
end L2
namespace HT
open PySem PySem.Spec PySem.W PyProof.Rows L2
section
variable {prog:aF}{w:ba}{A:aQ}{E:af->ai->Prop}{s:ai}
def Dx (h h':Heap):Prop:=∀b o,h.get? b=some o->h'.get? b=some o
def KW (prog:aF) (w:ba) (A:aQ) (vs:List af) (lt:Nat->Nat->Bool) (s:ai):Prop:=
 ∃κ:SortKind,(∀Q:SortKind->ai->Prop,Q κ s->wpAny (model prog w) A (keyKind' vs.toArray) Q (fun _ _=>False) s)/\KR vs.length lt (kas_ask prog w A κ vs) (fun s'=>s'=s)
def inOrder (vs:List af) (p:Array Nat):Array af:=(p.toList.map fun i=>vs.getD i Value.none).toArray
def wO (vs:List af):inOrder vs (List.toArray (List.range vs.length))=vs.toArray:=by
 unfold inOrder
 congr 1
 refine List.ext_getElem? fun i=>?_
 rw[bX]
 show Option.map _ (List.range vs.length)[i]?=vs[i]?
 by_cases h:i<vs.length
 ·rw[List.getElem?_range h,aH h]
  show some (vs.getD i Value.none)=_
  rw[bf,aH h];rfl
 ·rw[md (by rw[A9];omega),md (by omega)];rfl
def pS {a:ah}{vs:List af}{n:Nat}{lt:Nat->Nat->Bool}{P:PySem.Fin->ai->Prop}(here:s.heap.get? a=some (seqObj "list" vs.toArray n)) (O:om lt) (Gi:vs.length<64)
  (ask:2<=vs.length->∀h',(∀b o,b≠a->s.heap.get? b=some o->h'.get? b=some o)->KW prog w A vs lt {s with heap:=h'})
  (fin:∀p:Array Nat,rJ vs.length p->AX lt p vs.length->P (.done (.ret .none)) {s with heap:=sortedHeap s.heap a vs (inOrder vs p)}):
  wpAny (model prog w) A (Builtin.«list.sort» ⟨[.ref a],[]⟩) P E s:=by
 have low:a<s.heap.objs.size:=aA here
 have len:vs.toArray.size=vs.length:=aI ..
 obtain⟨c,emptied⟩:∃c,(s.heap.update a (Obj.mapSeq fun _=>#[])).get? a=some (seqObj "list" #[] c):=⟨_,get?_update_seq here (fun _=>#[])⟩
 have others:∀b o,b≠a->s.heap.get? b=some o->(((s.heap.update a (Obj.mapSeq fun _=>#[])).push (seqObj "tuple" vs.toArray 0)).push (seqObj "list" #[] 0)).get? b=some o:=fun b o ne e=>by
  refine ag _ (ag _ ?_)
  rw[kA _ _ _ _ ne];exact e
 have Dy:(((s.heap.update a (Obj.mapSeq fun _=>#[])).push (seqObj "tuple" vs.toArray 0)).push (seqObj "list" #[] 0)).get? a=some (seqObj "list" #[] c):=ag _ (ag _ emptied)
 rw[list_sort_plain]
 refine aa (listItems_at here rfl (aa (RD here rfl ?_)))
 refine aa (seqEpoch_at emptied rfl (aa (wpAny_newTuple (aa (Gd (cM ?_))))))
 show wpAny (model prog w) A _ P E {s with heap:=((s.heap.update a (Obj.mapSeq fun _=>#[])).push (seqObj "tuple" vs.toArray 0)).push (seqObj "list" #[] 0)}
 dsimp only
 by_cases h2:vs.toArray.size<2
 ·rw[aP h2,aP h2]
  refine aa (ak ?_)
  rw[StateT.run_pure]
  refine aa (ak ?_)
  dsimp only
  refine aa (seqEpoch_at Dy rfl ?_)
  refine aa (RD Dy rfl ?_ (hsz2:=by rw[Array.size_map];show(pairsOf vs).size<=_;rw[pairsOf_size,gP];omega))
  simp only[bne_self_eq_false,fg,jT]
  have e:=fin (List.toArray (List.range vs.length)) (List.Perm.refl _) (fun i j x9 hj=>by
   have:i=j:=by omega
   subst this;exact O.ir _)
  rw[wO] at e
  refine ak ?_
  have e2:Array.map (·.2) (vs.toArray.zip vs.toArray)=vs.toArray:=by
   apply Array.toList_inj.mp
   rw[Array.toList_map,Array.toList_zip]
   exact List.map_snd_zip (aB _)
  show P _ {s with heap:=Heap.update _ a (Obj.mapSeq fun _=>Array.map (·.2) (vs.toArray.zip vs.toArray))}
  rw[e2]
  exact e
 ·rw[aO h2,aO h2]
  obtain⟨κ,hk,ans⟩:=ask (by omega) _ others
  refine aa (bK (hk (fun k s'=>k=κ/\s'=_) ⟨rfl,rfl⟩) ?_ fun _ _ z=>z.elim)
  rintro _ _ ⟨rfl,rfl⟩
  refine aa (bK (kat_run (ks:=vs) (vs:=vs) (G:=fun p s'=>s'=_/\rJ vs.length p/\AX lt p vs.length) (Q:=fun st s'=>∃p,arrOf st=p.map (kas_item (vs.toArray.zip vs.toArray))/\failedOf st=none/\s'=_/\rJ vs.length p/\AX lt p vs.length) rfl (by omega) Gi
   (fun p st s' _ e1 e2 g=>⟨p,e1,e2,g⟩) (KU O ans (by omega) rfl fun p s' e1 e2 e3=>⟨e1,e2,e3⟩)) ?_ fun _ _ z=>z)
  rintro⟨⟨⟩,st⟩ s' ⟨p,e1,e2,rfl,pm,so⟩
  have e3:(arrOf st).map (·.2)=inOrder vs p:=kat_snds rfl e1
  have z:(inOrder vs p).size=vs.length:=by
   show((p.toList.map fun i=>vs.getD i Value.none).toArray).size=_
   rw[aI,aq,gg,pm.size]
  dsimp only at e2 e3⊢
  refine aa (seqEpoch_at Dy rfl ?_)
  refine aa (RD Dy rfl ?_ (hsz2:=by rw[e3,z,gP];omega))
  rw[e2,e3]
  simp only[bne_self_eq_false,fg,jT]
  exact ak (fin p pm so)
def BY {l:ah}{vs:List af}{lt:Nat->Nat->Bool}{Q:af->ai->Prop}(hl:s.heap.IsList l vs.toArray) (O:om lt) (Gi:vs.length<64)
  (ask:2<=vs.length->∀h',Dx s.heap h'->KW prog w A.in1.in1 vs lt {s with heap:=h'})
  (fin:∀p:Array Nat,rJ vs.length p->AX lt p vs.length->Q (.ref (s.heap.objs.size+1)) {s with heap:=sortedAll s.heap vs (inOrder vs p)}):
  wpAny (model prog w) A (call (.builtin "sorted") [.ref l]) Q E s:=by
 refine tQ kind_sorted plain_sorted entry_sorted (args_sorted1 _) ?_
 unfold Builtin.«sorted»
 refine aa (m:=checkCount "sorted" 1 1 _) (ak (aa (collect_list hl (aa (Gd ?_)))))
 have z:((s.heap.push (seqObj "list" #[] 0)).update s.heap.objs.size (Obj.mapSeq (· ++vs.toArray))).objs.size=s.heap.objs.size+1:=by rw[ki,size_push']
 have pQ:(((s.heap.push (seqObj "list" #[] 0)).update s.heap.objs.size (Obj.mapSeq (· ++vs.toArray))).push (seqObj "list" vs.toArray 0)).get? (s.heap.objs.size+1)=some (seqObj "list" vs.toArray 0):=z▸aw _ rfl
 have old:∀b o,s.heap.get? b=some o->b<s.heap.objs.size/\(((s.heap.push (seqObj "list" #[] 0)).update s.heap.objs.size (Obj.mapSeq (· ++vs.toArray))).push (seqObj "list" vs.toArray 0)).get? b=some o:=fun b o e=>by
  have lo:b<s.heap.objs.size:=aA e
  refine⟨lo,ag _ ?_⟩
  rw[kA _ _ _ _ (bb lo)]
  exact ag _ e
 show wpAny _ _ _ _ _ {s with heap:=((s.heap.push (seqObj "list" #[] 0)).update s.heap.objs.size (Obj.mapSeq (· ++vs.toArray))).push (seqObj "list" vs.toArray 0)}
 rw[z]
 refine aa (cM (dH slot_list_sort ⟨_,pQ,rfl⟩ entry_list_sort ?_ (args_list_sort _)))
 refine pS pQ O Gi (fun h2 h' k=>?_) fun p pm so=>⟨_,rfl,ak ⟨_,rfl,fin p pm so⟩⟩
 exact ask h2 h' fun b o e=>k b o (bb (gT (old b o e).1)) (old b o e).2
def tu {b fin:Bool}{Q:Bool->ai->Prop}:∀{vs ws:List af}{r:Bool}(i:Nat),Lex A s vs ws r->fin=decide (vs.length<ws.length)->Q r s->KatLex prog w A b fin Q (vs.zip ws) (i+1) s
 |_,_,_,i,.nn,e,q=>by rw[e];exact q
 |_,_,_,i,.nc,e,q=>by
  show Q _ _
  rw[e,aJ (by simp)];exact q
 |_,_,_,i,.cn,e,q=>by
  show Q _ _
  rw[e,bC (by simp)];exact q
 |_,_,_,i,.eq h1 h2,e,q=>by
  refine kat_cons (h1 _ _ _ _ (kat_yes (tu (i+1) h2 ?_ q)))
  rw[e];simp
 |_,_,_,i,.lt (r:=r) h1 h2,e,q=>by
  refine kat_cons (h1 _ _ _ _ (kat_no ?_))
  rw[show(b&&(i+1==0))=false by simp]
  exact kat_one _ _ (h2 _ _ _ _ q)
def BZ {a c:Str}{t u:Tok}{vs ws:List af}{r:Bool}{Q:Bool->ai->Prop}(h:Lex A s vs ws r) (q:Q (if a=c then r else dQ a c) s):
  KatLex prog w A true (decide ((Value.str a t::vs).length<(Value.str c u::ws).length)) Q ((Value.str a t::vs).zip (Value.str c u::ws)) 0 s:=by
 have he:=Gw (A:=A) (s:=s) a t c u
 rw[List.zip_cons_cons]
 by_cases e:a=c
 ·rw[aP e] at q
  rw[show(a==c)=true by simpa using e] at he
  exact kat_cons (he _ _ _ _ (kat_yes (tu 0 h (by simp) q)))
 ·rw[aO e] at q
  rw[show(a==c)=false by simpa using e] at he
  exact kat_cons (he _ _ _ _ (kat_no (oneLt_str q)))
def Fn {M:Model}{h:Heap}(a:Str) (t:Tok):Looks M h (typeOf (.str a t)) (.type "str"):=Looks.of_pure rfl
def HG (h:Heap) (vs:List af) (hd:Nat->Str) (rs:Nat->List af):Prop:=∀i,i<vs.length->∃(a:ah) (t:Tok),vs[i]?=some (.ref a)/\IsTup h a (Value.str (hd i) t::rs i).toArray
def zZ {h:Heap}:∀{vs:List af}{hd:Nat->Str}{rs:Nat->List af},HG h vs hd rs->∃fs:List af,KatTups h vs fs/\fs.length=vs.length/\∀v∈fs,∃a t,v=Value.str a t
 | [],_,_,_=>⟨[],.nil,rfl,fun v hv=>by cases hv⟩
 |v::vs,hd,rs,x=>by
  obtain⟨fs,k,l,al⟩:=zZ (vs:=vs) (hd:=fun i=>hd (i+1)) (rs:=fun i=>rs (i+1)) fun i hi=>by
   obtain⟨a,t,e,p⟩:=x (i+1) (by simp;omega)
   exact⟨a,t,by simpa using e,p⟩
  obtain⟨a,t,e,o,ho,hc,n,W7⟩:=x 0 (by simp)
  cases(show v=Value.ref a by simpa using e)
  refine⟨.str (hd 0) t::fs,KatTups.cons ho hc W7 (by simp) k,by simp[l],fun z hz=>?_⟩
  rcases aC.mp hz with rfl|hz
  ·exact⟨_,_,rfl⟩
  ·exact al z hz
def xG {vs:List af}{hd:Nat->Str}{rs:Nat->List af}{lt r:Nat->Nat->Bool}(h2:2<=vs.length) (x:HG s.heap vs hd rs) (hx:∀i j,i<vs.length->j<vs.length->Lex A s (rs i) (rs j) (r i j))
  (nX:∀i j,i<vs.length->j<vs.length->lt i j=if hd i=hd j then r i j else dQ (hd i) (hd j)):KW prog w A vs lt s:=by
 obtain⟨fs,k,l,al⟩:=zZ x
 refine⟨tuples' true,fun Q q=>kat_kind (T:=.type "str") k (by omega) (fun v hv=>?_) (by decide) q,fun i j hi hj C s' e q=>?_⟩
 ·obtain⟨a,t,rfl⟩:=al v hv
  exact Fn a t
 ·subst e
  have q':=q _ rfl
  rw[nX i j hi hj] at q'
  obtain⟨a,t,e1,o1,ho1,_,n1,d1⟩:=x i hi
  obtain⟨b,u,e2,o2,Kp,_,n2,d2⟩:=x j hj
  show wpAny _ _ (keyLt' _ (vs.getD i Value.none) (vs.getD j Value.none)) C _ _
  rw[bf,bf,e1,e2]
  refine kat_lt ho1 d1 Kp d2 ?_
  exact BZ (hx i j hi hj) q'
end
end HT
namespace HT
open PySem PySem.Spec PySem.W PyProof.Rows L2
structure HH {κ:Type}(lt:κ->κ->Bool):Prop where
 Q9:∀a,lt a a=false
 trans:∀a b c,lt a b=true->lt b c=true->lt a c=true
 Oq:∀a b,a≠b->lt a b=true\/lt b a=true
def HH.ok {κ:Type} [DecidableEq κ] {lt:κ->κ->Bool}(S:HH lt) (f:Nat->κ):om fun i j=>lt (f i) (f j):=by
 have as:∀a b,lt a b=true->lt b a=false:=fun a b h=>by
  cases e:lt b a with
  |false=>rfl
  |true=>have:=S.trans _ _ _ h e;rw[S.Q9] at this;cases this
 refine⟨fun a b h=>as _ _ h,fun a b c h1 h2=>?_⟩
 cases e:lt (f c) (f a) with
 |false=>rfl
 |true=>
  exfalso
  by_cases ab:f a=f b
  ·rw[<-ab,e] at h2;cases h2
  ·rcases S.Oq _ _ ab with h|h
   ·rw[S.trans _ _ _ e h] at h2;cases h2
   ·rw[h] at h1;cases h1
def ltI (a b:Int):Bool:=decide (a<b)
def Ot:HH ltI:=⟨fun a=>bC (by omega),fun a b c h1 h2=>aJ (by have:=aX h1;have:=aX h2;omega),fun a b h=>by
 by_cases e:a<b
 ·exact .inl (aJ e)
 ·exact .inr (aJ (by omega))⟩
def Ou:HH dQ:=⟨yy,fun _ _ _=>sg,fun _ _=>um⟩
def wQ {α β:Type} [DecidableEq α] (f:α->α->Bool) (g:β->β->Bool) (x y:α×β):Bool:=if x.1=y.1 then g x.2 y.2 else f x.1 y.1
def HH.lex {α β:Type} [DecidableEq α] {f:α->α->Bool}{g:β->β->Bool}(F:HH f) (G:HH g):HH (wQ f g):=by
 refine⟨fun a=>by unfold wQ;rw[aP rfl];exact G.Q9 _,fun a b c h1 h2=>?_,fun a b h=>?_⟩
 ·unfold wQ at*
  by_cases e1:a.1=b.1
  ·rw[aP e1] at h1
   by_cases e2:b.1=c.1
   ·rw[aP e2] at h2;rw[aP (e1.trans e2)];exact G.trans _ _ _ h1 h2
   ·rw[aO e2] at h2;rw[aO (by rw[e1];exact e2),e1];exact h2
  ·rw[aO e1] at h1
   by_cases e2:b.1=c.1
   ·rw[aO (by rw[<-e2];exact e1),<-e2];exact h1
   ·rw[aO e2] at h2
    have h3:=F.trans _ _ _ h1 h2
    rw[aO (fun z=>by rw[z,F.Q9] at h3;cases h3)];exact h3
 ·unfold wQ
  by_cases e:a.1=b.1
  ·rw[aP e,aP e.symm]
   exact G.Oq _ _ fun z=>h (Prod.ext e z)
  ·rw[aO e,aO (fun z=>e z.symm)]
   exact F.Oq _ _ e
def mS:Str×Str×Int->Str×Str×Int->Bool:=wQ dQ (wQ dQ ltI)
def tw:HH mS:=Ou.lex (Ou.lex Ot)
section
variable {A:aQ}{s:ai}
def Dz (a:Int) (t:Tok) (c:Int) (u:Tok) {vs ws:List af}{r:Bool}(h:Lex A s vs ws r):Lex A s (.int a t::vs) (.int c u::ws) (if a=c then r else ltI a c):=by
 have he:=SeqAt.EqAt.int_int (A:=A) (s:=s) a t c u
 by_cases e:a=c
 ·rw[aP e]
  rw[show(a==c)=true by simpa using e] at he
  exact .eq he h
 ·rw[aO e]
  rw[show(a==c)=false by simpa using e] at he
  exact .lt he (BM.int a t c u)
def DA (a:Str) (t:Tok) (c:Str) (u:Tok) {vs ws:List af}{r:Bool}(h:Lex A s vs ws r):Lex A s (.str a t::vs) (.str c u::ws) (if a=c then r else dQ a c):=by
 have he:=Gw (A:=A) (s:=s) a t c u
 by_cases e:a=c
 ·rw[aP e]
  rw[show(a==c)=true by simpa using e] at he
  exact .eq he h
 ·rw[aO e]
  rw[show(a==c)=false by simpa using e] at he
  exact .lt he (BM.str a t c u)
end
end HT
namespace L2
open PySem PySem.Spec PySem.W PyProof.Rows HT
def xH {α:Type}(L:List α) (d:α) {p:List Nat}(h:p.Perm (List.range L.length)):(p.map fun i=>L.getD i d).Perm L:=by
 have h1:=h.map fun i=>L.getD i d
 have e:(List.range L.length).map (fun i=>L.getD i d)=L:=by
  refine List.ext_getElem? fun i=>?_
  rw[bX]
  by_cases hi:i<L.length
  ·rw[List.getElem?_range hi,aH hi]
   show some (L.getD i d)=_
   rw[bf,aH hi];rfl
  ·rw[md (by rw[A9];omega),md (by omega)];rfl
 rwa[e] at h1
def tH {α:Type}{L:List α}{d:α}{lt:α->α->Bool}{p:Array Nat}(pm:rJ L.length p) (so:AX (fun i j=>lt (L.getD i d) (L.getD j d)) p L.length):(p.toList.map fun i=>L.getD i d).Pairwise fun e e'=>lt e' e=false:=by
 rw[List.pairwise_iff_getElem]
 intro i j hi hj x9
 rw[aq,gg] at hi hj
 have hz:=pm.size
 have at_:∀k (hk:k<p.size),pat p k=p.toList[k]'(by rw[gg];exact hk):=fun k hk=>by
  unfold pat
  rw[je,getElem?_pos p k hk,Array.getElem_toList];rfl
 have:=so i j (by omega) (by omega)
 rw[at_ i hi,at_ j hj] at this
 rw[jA,jA]
 exact this
structure lY (κ:Type) where
 a:ah
 x:Str
 rest:List V
 key:κ
section
variable {X:Cx}{κ:Type}
def sk:∀{L:List (lY κ)}{us:List af},cy (L.map fun e=>V.ref e.a) us->us=L.map fun e=>Value.ref e.a
 | [],_,r=>by cases r;rfl
 |e::L,_,r=>by
  cases r with
  |cons r1 r2=>
   rw[bH,sk r2,show _=Value.ref e.a from r1]
def su:∀(L:List (lY κ)),cy (L.map fun e=>V.ref e.a) (L.map fun e=>Value.ref e.a)
 | []=>.nil
 |e::L=>.cons rfl (su L)
def vo [DecidableEq κ] {lt:κ->κ->Bool}(S:HH lt) (dk:κ):gE X (.builtin "sorted") (fun xs H Q=>∃(p:ah) (L:List (lY κ)) (R:lY κ->lY κ->Bool),xs=[.ref p]/\cS X.K H p (L.map fun e=>V.ref e.a)/\L.length<64/\(∀e∈L,bY X.K H e.a (.str e.x::e.rest))/\
  (∀(pins:List (ah×Obj)) (σ:St) (s:ai),Inv X pins σ H s->∀e∈L,∀e'∈L,∀us ng:List af,cy e.rest us->cy e'.rest ng->∀h',Dx s.heap h'->Lex X.A.in1.in1 {s with heap:=h'} us ng (R e e'))/\
  (∀e∈L,∀e'∈L,lt e.key e'.key=if e.x=e'.x then R e e' else dQ e.x e'.x)/\
  ∀(l:ah) (L':List (lY κ)),H l=none->L'.Perm L->(L'.Pairwise fun e e'=>lt e'.key e.key=false)->Q (.ref l) (upd H l (.lst (L'.map fun e=>V.ref e.a)))):=by
 intro pins s σ H xs us Q I r h
 obtain⟨p,L,R,rfl,hq,Gi,hT,hR,hK,q⟩:=h
 obtain⟨u,rfl,rx⟩:=zw r
 cases(show u=Value.ref p from rx)
 obtain⟨cE,rv,pl,hz⟩:=I.list hq
 cases sk rv
 have d:lY κ:=⟨0,"",[],dk⟩
 have gt:∀i,i<L.length->L.getD i d∈L:=fun i hi=>by
  rw[bf,aH hi];exact cA hi
 have lz:(L.map fun e=>Value.ref e.a).length=L.length:=aq _
 have ex:∀i,∃us:List af,i<L.length->∃t,cy (L.getD i d).rest us/\IsTup s.heap (L.getD i d).a (Value.str (L.getD i d).x t::us).toArray:=fun i=>by
  by_cases hi:i<L.length
  ·obtain⟨cE,r,tp,_⟩:=I.tuple (hT _ (gt i hi))
   cases r with
   |cons r1 r2=>
    obtain⟨t,rfl⟩:=r1
    exact⟨_,fun _=>⟨t,r2,tp⟩⟩
  ·exact⟨[],fun h=>absurd h hi⟩
 obtain⟨rs,Ov⟩:=Classical.skolem.mp ex
 refine BY pl.isList (S.ok fun i=>(L.getD i d).key) (by omega) (fun h2 h' g=>?_) fun pp pm so=>?_
 ·refine xG (s:={s with heap:=h'}) (hd:=fun i=>(L.getD i d).x) (rs:=rs) (r:=fun i j=>R (L.getD i d) (L.getD j d)) h2 (fun i hi=>?_) (fun i j hi hj=>?_) (fun i j hi hj=>?_)
  ·rw[lz] at hi
   obtain⟨t,_,tp⟩:=Ov i hi
   refine⟨(L.getD i d).a,t,?_,tp.keeps g⟩
   rw[bX,bf,aH hi];rfl
  ·rw[lz] at hi hj
   obtain⟨_,v1,_⟩:=Ov i hi
   obtain⟨_,v2,_⟩:=Ov j hj
   exact hR pins σ s I _ (gt i hi) _ (gt j hj) _ _ v1 v2 h' g
  ·rw[lz] at hi hj
   exact hK _ (gt i hi) _ (gt j hj)
 ·rw[lz] at pm so
  have e1:inOrder (L.map fun e=>Value.ref e.a) pp=((pp.toList.map fun i=>L.getD i d).map fun e=>Value.ref e.a).toArray:=by
   unfold inOrder
   congr 1
   rw[nP]
   refine jL fun i hi=>?_
   have AY:i<L.length:=pE.mp (pm.mem_iff.mp hi)
   show(L.map fun e=>Value.ref e.a).getD i Value.none=Value.ref (L.getD i d).a
   rw[bf,bX,bf,aH AY];rfl
  rw[e1]
  have p1:=xH L d pm
  have p2:=tH (lt:=fun e e'=>lt e.key e'.key) pm so
  generalize pp.toList.map (fun i=>L.getD i d)=L' at p1 p2
  obtain⟨e,he⟩:=sortedAll_at s.heap (L.map fun e=>Value.ref e.a) (L'.map fun e=>Value.ref e.a).toArray
  have fresh:H (s.heap.objs.size+1)=none:=I.eE.fresh (dE _)
  have nK:=p1.length_eq
  refine⟨.ref (s.heap.objs.size+1),upd H (s.heap.objs.size+1) (.lst (L'.map fun e=>V.ref e.a)),I.laid (t':=s.toks) (fun b o eb=>sortedAll_old eb) (dE _) ⟨?_,L'.map fun e=>Value.ref e.a,e,su L',?_⟩,rfl,q _ L' fresh p1 p2⟩
  ·rw[aq];exact eM (dq (by omega))
  ·rw[he]
end
section
variable {X:Cx}
end
end L2
namespace L2
open PySem PySem.Spec PyProof.Rows PySem.W
def HC.ext {A:aQ}{h h':Heap}(x:HC A h) (k:∀a,A.handled=some (.ref a)->∀o,h.get? a=some o->h'.get? a=some o):HC A h':=by
 obtain⟨a,oa,ws,e,ha,r⟩:=x
 exact⟨a,oa,ws,e,k a e _ ha,r⟩
section
variable {prog:aF}{w:ba}{A:aQ}{E:af->ai->Prop}{s:ai}
def fN {h h':Heap}{a b t:ah}{i:Nat}(x:h.IsListIter a t i) (sb:Heap.SameBut b h h') (n:a≠b):h'.IsListIter a t i:=x.extBut sb.extBut n
def jr {h h':Heap}{a b:ah}{vs:Array af}(x:h.IsList a vs) (sb:Heap.SameBut b h h') (n:a≠b):h'.IsList a vs:=x.extBut sb.extBut n
def qk {J t:ah}{n:Nat}{vs:Array af}{y:af}{Q:af->ai->Prop}(a1:s.heap.IsListIter J t n) (a2:s.heap.IsList t vs) (a3:vs[n]?=some y)
  (q:∀h',h'.IsListIter J t (n+1)->Heap.SameBut J s.heap h'->Q y {s with heap:=h'}):wpAny (model prog w) A (Builtin.SmallTypes.nextOf (.ref J)) Q E s:=by
 obtain⟨jo,j1,j2,j3⟩:=id a1
 obtain⟨to,t1,_,tn,t2⟩:=a2
 unfold Builtin.SmallTypes.nextOf
 refine aa (cG (name:=Str.ofString "__next__") a1.typeIs rP (dH rP a1.typeIs entry_listiter_next ?_ (args_listiter_next _)))
 refine(aa (bJ j1 j3 (x:=.ref t) rfl ?_):wpAny _ _ (field (.ref J) 0>>=_) _ _ s)
 refine(?_:wpAny _ _ (if(Value.ref t==Value.none)=true then _ else _) _ _ s)
 rw[aO (by simp)]
 refine(aa (bJ j1 j3 (x:=.int n 0) rfl ?_):wpAny _ _ (field (.ref J) 1>>=_) _ _ s)
 refine(aa (b_ t1 t2 ?_):wpAny _ _ (seqItems? (.ref t)>>=_) _ _ s)
 simp only[a3,jd]
 exact aa (iO j1 j3 (by simp) (ak ⟨y,rfl,ak (q _ ⟨_,cV _ j1 (g_ (gU j3 _)),(uf ..).trans j2,by rw[gU j3];simp[rawInt]⟩ (ED ..))⟩))
def vp {J t:ah}{n:Nat}{vs:Array af}{Q:af->ai->Prop}(hn:HC A s.heap) (na:∀a,A.handled=some (.ref a)->a≠J) (a1:s.heap.IsListIter J t n) (a2:s.heap.IsList t vs) (a3:vs[n]?=none)
  (q:∀h' x,Heap.ExtBut J s.heap h'->(∃o,h'.get? x=some o/\o.cls=.type "StopIteration")->E (.ref x) {s with heap:=h'}):wpAny (model prog w) A (Builtin.SmallTypes.nextOf (.ref J)) Q E s:=by
 obtain⟨jo,j1,j2,j3⟩:=id a1
 obtain⟨to,t1,_,tn,t2⟩:=a2
 unfold Builtin.SmallTypes.nextOf
 refine aa (cG (name:=Str.ofString "__next__") a1.typeIs rP (dH rP a1.typeIs entry_listiter_next ?_ (args_listiter_next _)))
 refine(aa (bJ j1 j3 (x:=.ref t) rfl ?_):wpAny _ _ (field (.ref J) 0>>=_) _ _ s)
 refine(?_:wpAny _ _ (if(Value.ref t==Value.none)=true then _ else _) _ _ s)
 rw[aO (by simp)]
 refine(aa (bJ j1 j3 (x:=.int n 0) rfl ?_):wpAny _ _ (field (.ref J) 1>>=_) _ _ s)
 refine(aa (b_ t1 t2 ?_):wpAny _ _ (seqItems? (.ref t)>>=_) _ _ s)
 simp only[a3,jd]
 refine aa (jS (aa (iO j1 j3 (by simp) ?_)))
 refine(aa ?_:wpAny _ _ (newExc (.type "StopIteration") []>>=_) _ _ _)
 simp only[newTuple,newExc]
 refine aa (bD (aa (m:=firstArgMember _ _) (A8 (a:=Value.none) (by first|rfl|(simp only[firstArgMember];rfl)) (bD ?_ (by size_fits)))) (by size_fits))
 have JP:HC A.in1 s.heap:=hn
 refine vm (JP.ext fun a ha o ho=>ag _ (ag _ ((aY _ _ (cF (na a ha))).trans ho))) (aw _ rfl) rfl (by simp;omega) (fun a ha z=>?_) fun h' kp ⟨o,o1,o2⟩=>q _ _ (fun b u nb hb=>kp b u (fun z=>?_) (ag _ (ag _ ((aY _ _ (cF nb)).trans hb)))) ⟨o,o1,o2⟩
 ·obtain⟨a',oa,ws,e,ho,_⟩:=hn
  have ea:a'=a:=by have:=e.symm.trans ha;injection this with this;injection this
  rw[ea] at ho
  have l1:=aA ho
  rw[z,bZ] at l1
  rw[ki] at l1
  exact absurd l1 (pF.mpr (dZ _ _))
 ·have l1:=aA hb
  rw[z,bZ] at l1
  rw[ki] at l1
  exact absurd l1 (pF.mpr (dZ _ _))
def Fo {z TI TO i1 i2 t1 t2:ah}{n1 n2:Nat}{xs ys:Array af}{x y a b:af}{Q:af->ai->Prop}(D:ZipApart z TI TO i1 i2 t1 t2) (c1:IsZip s.heap z TI TO .none) (c2:IsPair s.heap TI (.ref i1) (.ref i2)) (c3:IsPair s.heap TO a b)
  (c4:s.heap.IsListIter i1 t1 n1) (c5:s.heap.IsListIter i2 t2 n2) (c6:s.heap.IsList t1 xs) (c7:s.heap.IsList t2 ys) (c8:xs[n1]?=some x) (c9:ys[n2]?=some y)
  (q:∀h',IsZip h' z TI TO (rawInt s.heap.objs.size)->IsPair h' TO x y->h'.IsListIter i1 t1 (n1+1)->h'.IsListIter i2 t2 (n2+1)->IsPair h' s.heap.objs.size x y->(∀c o,c≠z->c≠TO->c≠i1->c≠i2->s.heap.get? c=some o->h'.get? c=some o)->Q (.ref s.heap.objs.size) {s with heap:=h'}):
  wpAny (model prog w) A (Builtin.«zip.__next__» ⟨[.ref z],[]⟩) (fun fin s'=>∃v,fin=.done (.ret v)/\Q v s') E s:=by
 refine(aa (bJ c1 rfl (x:=.bool false) rfl ?_):wpAny _ _ (field (.ref z) 2>>=_) _ _ _)
 refine(aa (bJ c1 rfl (x:=.ref TI) rfl ?_):wpAny _ _ (field (.ref z) 3>>=_) _ _ _);refine aa (b_ c2 rfl ?_)
 refine(aa ?_:wpAny _ _ (Builtin.SmallTypes.ownedTupleIsFree (.ref z)>>=_) _ _ _)
 unfold Builtin.SmallTypes.ownedTupleIsFree
 refine aa (bJ c1 rfl (x:=.none) rfl (ak ?_))
 simp only[j9]
 refine aa (jS ?_);refine aa (bJ c1 rfl (x:=.ref TO) rfl ?_);refine aa (dP c1 (by simp) fun g1 k1 s1=>?_)
 have k1:IsZip g1 z TI TO .ellipsis:=k1
 refine aa ?_
 simp only[nv,wm,rO,ug]
 refine aa (aa (iB ?_))
 show wpAny _ _ (Builtin.SmallTypes.nextOf (.ref i1)>>=_) _ _ _;refine aa (qk (fN c4 s1 D.i1z) (jr c6 s1 D.l1z) c8 fun g2 k2 s2=>ak ?_)
 have o2:IsPair g2 TO a b:=s2.extBut _ _ D.TOi1 (s1.extBut _ _ D.TOz c3)
 refine aa (b_ o2 rfl ?_);refine aa (ip o2 fun g3 o3 s3=>?_);refine aa (fB (ak ?_))
 have o3:IsPair g3 TO x b:=o3
 refine aa (aa (iB ?_))
 show wpAny _ _ (Builtin.SmallTypes.nextOf (.ref i2)>>=_) _ _ _;refine aa (qk (fN (fN (fN c5 s1 D.i2z) s2 D.i12.symm) s3 D.TOi2.symm) (jr (jr (jr c7 s1 D.l2z) s2 D.l2i1) s3 D.l2TO) c9 fun g4 k4 s4=>ak ?_)
 have o4:IsPair g4 TO x b:=s4.extBut _ _ D.TOi2 o3
 refine aa (b_ o4 rfl ?_);refine aa (ip o4 fun g5 o5 s5=>?_);refine aa (fB (ak (ak ?_)))
 have o5:IsPair g5 TO x y:=o5
 refine aa (b_ o5 rfl ?_);refine aa (wpAny_newTuple ?_)
 have sz:g5.objs.size=s.heap.objs.size:=by rw[s5.1,s4.1,s3.1,s2.1,s1.1]
 have z5:IsZip g5 z TI TO .ellipsis:=s5.extBut _ _ D.TOz.symm (s4.extBut _ _ D.i2z.symm (s3.extBut _ _ D.TOz.symm (s2.extBut _ _ D.i1z.symm k1)))
 have j1:g5.IsListIter i1 t1 (n1+1):=fN (fN (fN k2 s3 D.TOi1.symm) s4 D.i12) s5 D.TOi1.symm
 have j2:g5.IsListIter i2 t2 (n2+1):=fN k4 s5 D.TOi2.symm
 have zl:z<g5.objs.size:=aA z5
 refine(aa ?_:wpAny _ _ (Builtin.SmallTypes.ownedTupleHandOut (.ref z) (.ref g5.objs.size)>>=_) _ _ _)
 unfold Builtin.SmallTypes.ownedTupleHandOut
 refine aa (dP (ag _ z5) (by simp) fun g7 z7 s7=>?_)
 have z7:IsZip g7 z TI TO (rawInt g5.objs.size):=z7
 refine dP z7 (by simp) fun g8 z8 s8=>ak ⟨_,rfl,?_⟩
 have z8:IsZip g8 z TI TO (rawInt g5.objs.size):=z8
 have up:∀c o,c≠z->g5.get? c=some o->g8.get? c=some o:=fun c o n e=>s8.extBut _ _ n (s7.extBut _ _ n (ag _ e))
 have T8:IsPair g8 g5.objs.size x y:=s8.extBut _ _ (iG zl) (s7.extBut _ _ (iG zl) (aw _ rfl))
 rw[sz] at z8 T8
 refine(?_:Q (.ref g5.objs.size) _)
 rw[sz]
 obtain⟨v1,v2,v3⟩:=j1
 obtain⟨w1,w2,w3⟩:=j2
 exact q g8 z8 (up _ _ D.TOz o5) ⟨v1,up _ _ D.i1z v2,v3⟩ ⟨w1,up _ _ D.i2z w2,w3⟩ T8 fun c o n1 n2 n3 n4 e=>up c o n1 (s5.extBut _ _ n2 (s4.extBut _ _ n4 (s3.extBut _ _ n2 (s2.extBut _ _ n3 (s1.extBut _ _ n1 e)))))
def Fp {z TI TO i1 i2 t1 t2:ah}{n1 n2:Nat}{xs ys:Array af}{a b:af}{Q:Fin->ai->Prop}(hn:HC A s.heap) (na:∀a,A.handled=some (.ref a)->a≠z/\a≠TO/\a≠i1/\a≠i2) (D:ZipApart z TI TO i1 i2 t1 t2) (c1:IsZip s.heap z TI TO .none) (c2:IsPair s.heap TI (.ref i1) (.ref i2)) (c3:IsPair s.heap TO a b)
  (c4:s.heap.IsListIter i1 t1 n1) (c5:s.heap.IsListIter i2 t2 n2) (c6:s.heap.IsList t1 xs) (c7:s.heap.IsList t2 ys) (c8:xs[n1]?=none\/ys[n2]?=none)
  (q:∀h' x,(∀c o,c≠z->c≠TO->c≠i1->c≠i2->s.heap.get? c=some o->h'.get? c=some o)->(∃o,h'.get? x=some o/\o.cls=.type "StopIteration")->E (.ref x) {s with heap:=h'}):
  wpAny (model prog w) A (Builtin.«zip.__next__» ⟨[.ref z],[]⟩) Q E s:=by
 have u_:∀{g:Heap} {x:ah} {o:Obj},IsZip g z TI TO .ellipsis->g.get? x=some o->o.cls=.type "StopIteration"->x≠z:=fun{g x o} k1 k2 k3 e=>by
  rw[e,k1] at k2
  cases k2
  exact absurd (show Value.type "zip"=Value.type "StopIteration" from k3) (by decide)
 refine(aa (bJ c1 rfl (x:=.bool false) rfl ?_):wpAny _ _ (field (.ref z) 2>>=_) _ _ _)
 refine(aa (bJ c1 rfl (x:=.ref TI) rfl ?_):wpAny _ _ (field (.ref z) 3>>=_) _ _ _);refine aa (b_ c2 rfl ?_)
 refine(aa ?_:wpAny _ _ (Builtin.SmallTypes.ownedTupleIsFree (.ref z)>>=_) _ _ _)
 unfold Builtin.SmallTypes.ownedTupleIsFree
 refine aa (bJ c1 rfl (x:=.none) rfl (ak ?_))
 simp only[j9]
 refine aa (jS ?_);refine aa (bJ c1 rfl (x:=.ref TO) rfl ?_);refine aa (dP c1 (by simp) fun g1 k1 s1=>?_)
 have k1:IsZip g1 z TI TO .ellipsis:=k1
 refine aa ?_
 simp only[nv,wm,rO,ug]
 refine aa (aa (iB ?_))
 cases hx:xs[n1]? with
 |none=>
  show wpAny _ _ (Builtin.SmallTypes.nextOf (.ref i1)>>=_) _ _ _;refine aa (vp (hn.ext fun a ha o ho=>s1.extBut _ _ (na a ha).1 ho) (fun a ha=>(na a ha).2.2.1) (fN c4 s1 D.i1z) (jr c6 s1 D.l1z) hx fun g2 x s2 ⟨o,o1,o2⟩=>?_)
  have z2:IsZip g2 z TI TO .ellipsis:=s2 _ _ D.i1z.symm k1
  exact dP z2 (by simp) fun g3 _ s3=>q g3 x (fun c u n1 _ n3 _ e=>s3.extBut _ _ n1 (s2 _ _ n3 (s1.extBut _ _ n1 e))) ⟨o,s3.extBut _ _ (u_ z2 o1 o2) o1,o2⟩
 |some x1=>
  have hy:ys[n2]?=none:=by
   rcases c8 with e|e
   ·rw[hx] at e;cases e
   ·exact e
  show wpAny _ _ (Builtin.SmallTypes.nextOf (.ref i1)>>=_) _ _ _;refine aa (qk (fN c4 s1 D.i1z) (jr c6 s1 D.l1z) hx fun g2 k2 s2=>ak ?_)
  have o2:IsPair g2 TO a b:=s2.extBut _ _ D.TOi1 (s1.extBut _ _ D.TOz c3)
  refine aa (b_ o2 rfl ?_);refine aa (ip o2 fun g3 o3 s3=>?_);refine aa (fB (ak ?_))
  refine aa (aa (iB ?_))
  show wpAny _ _ (Builtin.SmallTypes.nextOf (.ref i2)>>=_) _ _ _;refine aa (vp (hn.ext fun a ha o ho=>s3.extBut _ _ (na a ha).2.1 (s2.extBut _ _ (na a ha).2.2.1 (s1.extBut _ _ (na a ha).1 ho))) (fun a ha=>(na a ha).2.2.2) (fN (fN (fN c5 s1 D.i2z) s2 D.i12.symm) s3 D.TOi2.symm) (jr (jr (jr c7 s1 D.l2z) s2 D.l2i1) s3 D.l2TO) hy fun g4 x s4 ⟨o,o1,Su⟩=>?_)
  have z4:IsZip g4 z TI TO .ellipsis:=s4 _ _ D.i2z.symm (s3.extBut _ _ D.TOz.symm (s2.extBut _ _ D.i1z.symm k1))
  exact dP z4 (by simp) fun g5 _ s5=>q g5 x (fun c u n1 n2 n3 n4 e=>s5.extBut _ _ n1 (s4 _ _ n4 (s3.extBut _ _ n2 (s2.extBut _ _ n3 (s1.extBut _ _ n1 e))))) ⟨o,s5.extBut _ _ (u_ z4 o1 Su) o1,Su⟩
def SN {h:Heap}{a:ah}{vs:Array af}(x:h.IsList a vs) (o:Obj):(h.push o).IsList a vs:=x.at fun u e=>ag _ e
def B0 (t1 t2:ah) (xs ys:Array af):Meets (Builtin.«zip.__new__» ⟨[.type "zip",.ref t1,.ref t2],[]⟩) (fun _ R s=>s.heap.IsList t1 xs/\s.heap.IsList t2 ys/\∀h1 h2 h3 h4 h5:Heap,
   h1=s.heap.push {cls:=.type "list_iterator",data:=.fields #[.ref t1,.int 0 0]}->h2=h1.push {cls:=.type "list_iterator",data:=.fields #[.ref t2,.int 0 0]}->h3=h2.push {cls:=.type "tuple",data:=.seq #[.ref s.heap.objs.size,.ref h1.objs.size]}->
   h4=h3.push {cls:=.type "tuple",data:=.seq #[.none,.none]}->h5=h4.push {cls:=.type "zip",data:=.fields #[.none,.bool false,.bool false,.ref h2.objs.size,.ref h3.objs.size]}->R (.ok (.ret (.ref h4.objs.size))) {s with heap:=h5}):=
 .of_wp fun prog w A R s h=>by
  obtain⟨hp,g,d,tk,os⟩:=s
  obtain⟨p1,p2,h⟩:=h
  have KC:=sub_zip
  have q1:Heap.IsList (Shared.heap ⟨hp,g,d,tk,os⟩) t1 xs:=p1
  have q2:Heap.IsList (Shared.heap ⟨hp.push {cls:=.type "list_iterator",data:=.fields #[.ref t1,.int 0 0]},g,d,tk,os⟩) t2 ys:=SN p2 _
  wp_walk using il q1,il q2
  exact⟨_,rfl,h _ _ _ _ _ rfl rfl rfl rfl rfl⟩
def Fq {t1 t2:ah}{xs ys:Array af}{Q:af->ai->Prop}(p1:s.heap.IsList t1 xs) (p2:s.heap.IsList t2 ys)
  (q:∀h',IsZip h' (s.heap.objs.size+4) (s.heap.objs.size+2) (s.heap.objs.size+3) .none->IsPair h' (s.heap.objs.size+2) (.ref s.heap.objs.size) (.ref (s.heap.objs.size+1))->IsPair h' (s.heap.objs.size+3) .none .none->
   h'.IsListIter s.heap.objs.size t1 0->h'.IsListIter (s.heap.objs.size+1) t2 0->(∀c o,s.heap.get? c=some o->h'.get? c=some o)->Q (.ref (s.heap.objs.size+4)) {s with heap:=h'}):
  wpAny (model prog w) A (call (.type "zip") [.ref t1,.ref t2]) Q E s:=by
 refine callType_new F.called_zip (by decide) (F.typeCall_zip_2 _ _) (F.newCall_zip_2 _ _) (fun obj=>F.args_object_init_3 obj _ _) F.entry_zip_new (B0 t1 t2 xs ys) ⟨p1,p2,fun h1 h2 h3 h4 h5 e1 e2 e3 e4 e5=>?_⟩
 have m1:h1.objs.size=s.heap.objs.size+1:=by rw[e1];exact bZ ..
 have m2:h2.objs.size=s.heap.objs.size+2:=by rw[e2,bZ,m1]
 have m3:h3.objs.size=s.heap.objs.size+3:=by rw[e3,bZ,m2]
 have m4:h4.objs.size=s.heap.objs.size+4:=by rw[e4,bZ,m3]
 have u5:∀c o,h4.get? c=some o->h5.get? c=some o:=fun c o e=>by rw[e5];exact ag _ e
 have u4:∀c o,h3.get? c=some o->h4.get? c=some o:=fun c o e=>by rw[e4];exact ag _ e
 have u3:∀c o,h2.get? c=some o->h3.get? c=some o:=fun c o e=>by rw[e3];exact ag _ e
 have u2:∀c o,h1.get? c=some o->h2.get? c=some o:=fun c o e=>by rw[e2];exact ag _ e
 have u1:∀c o,s.heap.get? c=some o->h1.get? c=some o:=fun c o e=>by rw[e1];exact ag _ e
 have f5:IsZip h5 (s.heap.objs.size+4) (s.heap.objs.size+2) (s.heap.objs.size+3) .none:=by
  rw[<-m4,<-m3,<-m2,e5];exact aw _ rfl
 have f4:IsPair h4 (s.heap.objs.size+3) .none .none:=by rw[<-m3,e4];exact aw _ rfl
 have f3:IsPair h3 (s.heap.objs.size+2) (.ref s.heap.objs.size) (.ref (s.heap.objs.size+1)):=by rw[<-m2,<-m1,e3];exact aw _ rfl
 have f2:h2.IsListIter (s.heap.objs.size+1) t2 0:=⟨_,by rw[<-m1,e2];exact aw _ rfl,rfl,rfl⟩
 have f1:h1.IsListIter s.heap.objs.size t1 0:=⟨_,by rw[e1];exact aw _ rfl,rfl,rfl⟩
 rw[m4]
 obtain⟨v1,v2,v3⟩:=f1
 obtain⟨w1,w2,w3⟩:=f2
 exact⟨⟨_,f5,rfl⟩,q h5 f5 (u5 _ _ (u4 _ _ f3)) (u5 _ _ f4) ⟨v1,u5 _ _ (u4 _ _ (u3 _ _ (u2 _ _ v2))),v3⟩ ⟨w1,u5 _ _ (u4 _ _ (u3 _ _ w2)),w3⟩ fun c o e=>u5 _ _ (u4 _ _ (u3 _ _ (u2 _ _ (u1 _ _ e))))⟩
end
section
variable {prog:aF}{w:ba}{A:aQ}{E:af->ai->Prop}{s:ai}
def HI {J t:ah}{n:Nat}{xs:Array af}{Q:Option af->ai->Prop}(hn:HC A s.heap) (na:∀a,A.handled=some (.ref a)->a≠J) (a1:IsTupIter s.heap J t n) (a2:IsTup s.heap t xs) (a3:xs[n]?=none)
  (q:∀h',Heap.ExtBut J s.heap h'->Q none {s with heap:=h'}):wpAny (model prog w) A (pyNext (.ref J)) Q E s:=by
 obtain⟨jo,j1,j2,j3⟩:=id a1
 obtain⟨to,t1,_,tn,t2⟩:=a2
 unfold pyNext
 refine aa (uG (cG (name:=Str.ofString "__next__") a1.typeIs slot_tupleiter_next (dH slot_tupleiter_next a1.typeIs entry_tupleiter_next ?_ (args_tupleiter_next _))))
 refine(aa (bJ j1 j3 (x:=.ref t) rfl ?_):wpAny _ _ (field (.ref J) 0>>=_) _ _ s)
 refine(?_:wpAny _ _ (if(Value.ref t==Value.none)=true then _ else _) _ _ s)
 rw[aO (by simp)]
 refine(aa (bJ j1 j3 (x:=.int n 0) rfl ?_):wpAny _ _ (field (.ref J) 1>>=_) _ _ s)
 refine(aa (b_ t1 t2 ?_):wpAny _ _ (seqItems? (.ref t)>>=_) _ _ s)
 simp only[a3,jd]
 refine aa (jS (aa (iO j1 j3 (by simp) ?_)))
 refine(aa ?_:wpAny _ _ (newExc (.type "StopIteration") []>>=_) _ _ _)
 simp only[newTuple,newExc]
 refine aa (bD (aa (m:=firstArgMember _ _) (A8 (a:=Value.none) (by first|rfl|(simp only[firstArgMember];rfl)) (bD ?_ (by size_fits)))) (by size_fits))
 have JP:HC A.in1 s.heap:=hn
 refine vm (JP.ext fun a ha o ho=>ag _ (ag _ ((aY _ _ (cF (na a ha))).trans ho))) (aw _ rfl) rfl (by simp;omega) (fun a ha z=>?_) fun h' kp ⟨o,o1,o2⟩=>?_
 ·obtain⟨a',oa,ws,e,ho,_⟩:=hn
  have ea:a'=a:=by have:=e.symm.trans ha;injection this with this;injection this
  rw[ea] at ho
  have l1:=aA ho
  rw[z,bZ] at l1
  rw[ki] at l1
  exact absurd l1 (pF.mpr (dZ _ _))
 ·refine aa (Nl (T:="StopIteration") (b:=true) ⟨o,o1,o2⟩ isSubtype_stop (ak (q _ fun b u nb hb=>kp b u (fun z=>?_) (ag _ (ag _ ((aY _ _ (cF nb)).trans hb))))))
  have l1:=aA hb
  rw[z,bZ] at l1
  rw[ki] at l1
  exact absurd l1 (pF.mpr (dZ _ _))
def z_ {env:Env}{elts:List Expr} {kk}{pos:Pos}{t:ah}{xs:Array af}{Q:Unit->ai->Prop}(hn:HC A s.heap) (a2:IsTup s.heap t xs) (hl:(assignEach elts env).length=xs.size) (EL:(assignEach elts env).findIdx? (·.1)=none)
  (q:∀h',Heap.ExtBut s.heap.objs.size s.heap h'->wpAny (model prog w) A (assignInOrder ((assignEach elts env).map (·.2)) xs.toList) Q E {s with heap:=h'}):wpAny (model prog w) A (assign (.Tuple elts kk pos) env (.ref t)) Q E s:=by
 have ne:t≠s.heap.objs.size:=by
  obtain⟨o,e,_⟩:=a2
  exact bb (aA e)
 rw[assign_Tuple]
 refine aa (jx ?_)
 unfold unpack
 rw[hl,EL]
 refine aa (cM ?_)
 unfold unpackItems
 refine aa ?_
 unfold notIterableAtAll
 refine aa (wpAny_specialOf a2.typeIs slot_tuple_iter.lookup (ak ?_))
 simp only[fg,jT]
 refine aa (cM (iter_tuple a2 ?_))
 refine aa (cM (draw_tuple ne xs.size 0 _ _ ⟨_,aw _ rfl,rfl,rfl⟩ (a2.push _) (by omega) fun g b1 b2=>?_))
 have all:List.take xs.size (List.drop 0 xs.toList)=xs.toList:=cX (Rz (by simp))
 rw[all,aO (by simp)]
 have old:∀{b:ah} {o:Obj},s.heap.get? b=some o->g.get? b=some o:=fun{b o} e=>b2.extBut b o (bb (aA e)) (ag _ e)
 refine aa (cM (HI (hn.ext fun a ha o ho=>old ho) (fun a ha z=>?_) b1 ((a2.push _).extBut b2.extBut ne) (by simp) fun h2 e2=>?_))
 ·obtain⟨a',oa,ws,e,ho,_⟩:=hn
  have ea:a'=a:=by have:=e.symm.trans ha;injection this with this;injection this
  rw[ea,z] at ho
  exact absurd (aA ho) (gm _)
 ·simp only[Option.isSome_none,fg,jT]
  exact ak (q h2 fun b o nb e=>e2 b o nb (b2.extBut b o nb (ag _ e)))
end
section
variable {X:Cx}
end
structure oo (K:Frag) (C:ah):Prop where
 ga:findIn K (.ref C) "__getattribute__"=some (some (.builtin "BaseException.__getattribute__"))
 no:findIn K (.ref C) "__getattr__"=some none
 cl:findIn K (.ref C) "__class__"=some (some (.builtin "object.__class__"))
 ob:mroIn K C (.type "object")=some true
 be:mroIn K C (.type "BaseException")=some true
 cs:(clsIn K C).isSome=true
def ExcAt (a C:ah) (h:Heap):Prop:=∃oe vs,h.get? a=some oe/\oe.cls=.ref C/\oe.dict=none/\oe.data=.fields vs
section
variable {prog:aF}{w:ba}{A:aQ}{E:af->ai->Prop}{K:Frag}{h:Heap}{g:Array GenState}{d:Drawn}{t:Nat}{os:OsState}{a C:ah}
def DB {oe:Obj}{vs:Array af}(h1:h.get? a=some oe) (h2:oe.cls=.ref C) (h3:oe.dict=none) (h4:oe.data=.fields vs):InstAt h a oe C none:=by
 refine⟨h1,h2,?_,?_⟩
 ·obtain⟨_,_,dt,_⟩:=oe
  have:dt=.fields vs:=h4
  subst this
  rfl
 ·rw[h3];trivial
def Fs {Aa:af}{Q:Unit->ai->Prop}(X:K.In h) (F:oo K C) (p:ExcAt a C h) (q:Q () ⟨h,g,d,t,os⟩):wpAny (model prog w) A (checkBuiltinCall "BaseException.__getattribute__" ⟨[.ref a,Aa],[]⟩) Q E ⟨h,g,d,t,os⟩:=by
 obtain⟨oe,vs,h1,h2,h3,h4⟩:=p
 have L0:Looks (model prog w) h (typeOf (.ref a)) (.ref C):=h2▸(nz h1).andThen .now
 have L1:=looks_mroIn (M:=model prog w) X F.be
 have hk:builtinKind "BaseException.__getattribute__"=some .slot:=by decide+kernel
 have hs:splitId "BaseException.__getattribute__"=some ("BaseException","__getattribute__"):=by decide+kernel
 have ha:=PySem.F.args_bexc_ga (.ref a) Aa
 simp only[checkBuiltinCall,hk,hs]
 refine aa ?_
 unfold isInstance
 repeat (first|with_reducible refine L0.at ?_|with_reducible refine L1.at ?_|wp_step)
 exact q
def Ft {tk:Tok}{Q:Fin->ai->Prop}(X:K.In h) (F:oo K C) (p:ExcAt a C h) (q:Q (.done (.ret (.ref C))) ⟨h,g,d,t,os⟩):
  wpAny (model prog w) A (Builtin.«object.__getattribute__» ⟨[.ref a,.str "__class__" tk],[]⟩) Q E ⟨h,g,d,t,os⟩:=by
 obtain⟨oe,vs,h1,h2,h3,h4⟩:=p
 have L0:Looks (model prog w) h (typeOf (.ref a)) (.ref C):=h2▸(nz h1).andThen .now
 have L2:=iC (M:=model prog w) X F.cl
 have hT5:(⟨h,g,d,t,os⟩:ai).TypeIs (.builtin "object.__class__") "getset_descriptor":=jf
 have f5:=jf
 have f6:=PySem.F.slot_gs_get.lookup
 have f7:=PySem.F.slot_gs_set.lookup
 repeat (any_goals (first|assumption|with_reducible refine L0.at ?_|with_reducible refine L2.at ?_|wp_step))
 refine class_get (s:=⟨h,g,d,t,os⟩) X (DB h1 h2 h3 h4) F.ob ?_
 repeat (any_goals (first|assumption|wp_step))
def Ow {tk:Tok}{Q:af->ai->Prop}(X:K.In h) (F:oo K C) (p:ExcAt a C h) (q:Q (.ref C) ⟨h,g,d,t,os⟩):
  wpAny (model prog w) A (getAttrBy (.ref a) (.str "__class__" tk) false) Q E ⟨h,g,d,t,os⟩:=by
 have p':=p
 obtain⟨oe,vs,h1,h2,h3,h4⟩:=p
 have L0:Looks (model prog w) h (typeOf (.ref a)) (.ref C):=h2▸(nz h1).andThen .now
 have L1:=iC (M:=model prog w) X F.ga
 have L2:=iC (M:=model prog w) X F.no
 have b0:=fC.ga.bind (.ref a)
 have n0:(onTheHeap (Value.ref C)&&Value.builtin "BaseException.__getattribute__"==Value.builtin "object.__getattribute__")=false:=by
  have n1:(Value.builtin "BaseException.__getattribute__"==Value.builtin "object.__getattribute__")=false:=by decide+kernel
  rw[n1];rfl
 repeat (any_goals (first|assumption|with_reducible refine L0.at ?_|with_reducible refine L1.at ?_|with_reducible refine L2.at ?_|wp_step))
 refine jW fC.ga.plain uI (Fs X F p' (Ft X F p' ?_))
 repeat (any_goals (first|assumption|wp_step))
def HJ {Q:Option af->ai->Prop}(X:K.In h) (F:oo K C) (p:ExcAt a C h) (q:Q (some (.ref C)) ⟨h,g,d,t+1,os⟩):wpAny (model prog w) A (getAttr? (.ref a) "__class__") Q E ⟨h,g,d,t,os⟩:=by
 unfold getAttr? getAttrBy?
 repeat (any_goals (first|assumption|with_reducible apply Ow X F p|wp_step))
end
def HK {K:Frag}{a C:ah}(F:oo K C):KitX K (.ref a) (.ref C) (ExcAt a C) where
 ty:=fun M h _ p=>by
  obtain⟨oe,vs,h1,h2,_⟩:=p
  exact h2▸(nz h1).andThen .now
 it:=fun _ _ X _=>by
  obtain⟨cd,hc⟩:=hX.mp F.cs
  unfold clsIn at hc
  split at hc
  ·rename_i c' d' W8 NB ho
   intro A' Q' E' s' k q
   unfold isType loadHead
   exact aa (A5 (k _ _ (X _ _ ho)) (ak q))
  ·cases hc
 ne:=fun h tp dd cE n sl X W9=>by
  obtain⟨cd,hc⟩:=hX.mp F.cs
  refine gW.mpr fun q=>?_
  have e:C=tp:=Value.ref.inj (iH.mp q)
  subst e
  unfold clsIn at hc
  split at hc
  ·rename_i c' d' W8 NB ho
   have z:=(X _ _ ho).symm.trans W9
   cases z
  ·cases hc
 ca:=fun{_ _ _ _ _ s} X p k=>by
  obtain⟨h,g,d,t,os⟩:=s
  exact HJ X F p k
structure pT (k:Nat) (a:ah) (A:aQ):Prop where
 hd:A.handled=some (.ref a)
 dp:A.depth+3*k+5<recursionLimit
 un:A.units+16*k+200<cLine
 gd:A.guards=some []
def pT.of {k:Nat}{a:ah}{A:aQ}(r:eK k A):pT k a (A.mark (some (.ref a))):=⟨rfl,r.dp,r.un,r.gd⟩
def pT.deeper {k:Nat}{a:ah}{A:aQ}(r:pT (k+1) a A) (env:Env):pT k a (A.deeper env):=
 ⟨r.hd,by have:=r.dp;show A.depth+1+3*k+5<_;omega,by have:=r.un;show A.units+3+16*k+200<_;omega,r.gd⟩
abbrev Cx.Vq (X:Cx) (A:aQ):Cx:={X with A:=A,calm:=false,xe:=fun _ _=>False}
def Inv.Vq {X:Cx}{pins:List (ah×Obj)}{σ:St}{H:Hp}{s:ai}(I:Inv X pins σ H s) {A:aQ}(f:A.frames=some X.stack):Inv (X.Vq A) pins σ H s:=
 ⟨⟨I.ok.mod,I.ok.kind,I.ok.glob,I.ok.blt,I.ok.above,I.ok.inj,I.ok.has,I.ok.JM,(fun z=>nomatch z),f,I.ok.Kc,I.ok.EI,I.ok.bs,I.ok.Bg,I.ok.wy,I.ok.tV,I.ok.mf,I.ok.C4⟩,I.os,I.bare,I.base,I.loc,I.cell,I.free,I.iZ,I.pin,I.eE,I.len⟩
structure Ab (P:aF) (w:ba) (K:PySem.W.Frag) (mg:Str->Option af) (base:Heap) (k:Nat) (f:ah) (fd:FuncData) (ps:List Str) (sp:ah->Sp):Prop where
 len:∀a vs H Q E,sp a vs H Q E->vs.length=ps.length
 run:∀(a:ah) (A:aQ) (outer:List Env) (s:ai) (H:Hp) (args:Args) (us:List af) (vs:List V) (Q:VK),pT k a A->tX P w K mg base A outer s H->BindsTo s fd args (ps.zip us)->cy vs us->sp a vs H Q E0->
  codeAny (model P w) A (.call (.ref f) args) (CR fO outer P w H s Q E0) s
abbrev vq (P:aF) (w:ba) (K:PySem.W.Frag) (mg:Str->Option af) (base:Heap) (N:List Str) (qual:Str) (scope:Scope) (f:ah) (cd:af) (A:aQ) (outer:List Env) (s:ai) (H:Hp):Cx:=
 (eU fO P w K mg base N qual scope f cd {A with handled:=none} outer s H E0).Vq (A.deeper (envOfC qual scope s.heap.objs.size f cd))
def iV.okH {P:aF}{w:ba}{K:PySem.W.Frag}{mg:Str->Option af}{base:Heap}{x qual:Str}{st:Stmt}{f:ah}{fd:FuncData}{N ps:List Str}{k:Nat}{sp:ah->Sp}(F:iV K x qual st f fd) (S:bV N ps (av st)) (len:∀a vs H Q E,sp a vs H Q E->vs.length=ps.length)
  (uU:∀(a:ah) (cdv:af) (A:aQ) (outer:List Env) (s:ai) (H:Hp) (vs:List V) (Q:VK),pT k a (A.deeper (envOfC qual (av st) s.heap.objs.size f cdv))->sp a vs H Q E0->
   ∃t,wz (vq P w K mg base N qual (av st) f cdv A outer s H) (fu st) t/\t {nx:=fun _ H'=>Q .eA H',rt:=Q} (start N vs) H):Ab P w K mg base (k+1) f fd ps sp:=by
 obtain⟨oc,od,kV,doc,pm,an,cdv,ct,rZ,rfl,lk,Bh⟩:=F.ex
 refine⟨len,fun a A outer s H args us vs Q hr e0 hb r EZ=>?_⟩
 have hl:=len _ _ _ _ _ EZ
 have pI:K.In s.heap:=e0.mod.pI.keeps fun b o e=>(e0.bs b o e).1
 have lim:s.heap.NoLimit:=e0.mod.nolimit.keeps fun b o e=>(e0.bs b o e).1
 have kinds:∀y∈ps.zip us,(av st).names.lookup y.1=some .local\/((av st).names.lookup y.1=some .cell/\((cellsFrom (s.heap.objs.size+1) (av st).names []).lookup y.1).isSome=true):=by
  rintro⟨n,v⟩ hy
  rcases S.par n (ue hy).1 with z|z
  ·exact .inl z
  ·exact .inr ⟨z,tO _ _ _ (.inl z)⟩
 refine codeAny_call_function (by have:=hr.dp;omega) (pI _ _ lk) rfl S.co S.gen rfl (PySem.W.codeRec_of pI Bh) (hb _ _ _ _ ?_)
 refine wpAny_newFunctionEnv_cells S.kind kinds fun env he s1 x=>?_
 subst he
 refine⟨lim.keeps x.toInCall.keep,codeAny_func ?_⟩
 obtain⟨t,ht,hq⟩:=uU a cdv A outer s H vs Q (hr.deeper _) EZ
 have e1:tX P w K mg base {A with handled:=none} outer s H:=⟨e0.frames,e0.mod,e0.bs,e0.Bg,e0.mf,e0.C4,e0.eE,e0.bare⟩
 have I0:Inv (eU fO P w K mg base N qual (av st) f cdv {A with handled:=none} outer s H E0) [] (start N vs) H s1:=xq S rfl e1 hl r x
 have I:=I0.Vq (A:=A.deeper (envOfC qual (av st) s.heap.objs.size f cdv)) (Around.frames_deeper e0.frames)
 refine bK (ht [] s1 (start N vs) H _ I hq) (fun fl s' hs=>?_) fun e s' hs=>False.elim hs
 cases fl with
 |ret u=>
  obtain⟨v,bW,H',J,rv,q⟩:=hs
  exact⟨v,H',J.os,J.bare,J.base,J.eE,rv,q⟩
 |next=>
  obtain⟨bW,H',J,q⟩:=hs
  exact⟨V.eA,H',J.os,J.bare,J.base,J.eE,rfl,q⟩
 |brk=>
  obtain⟨_,_,_,q⟩:=hs
  exact False.elim q
 |cont=>
  obtain⟨_,_,_,q⟩:=hs
  exact False.elim q
def HL {X:Cx}{a:ah}{k:Nat}{f:ah}{fd:FuncData}{x:Str}{ps:List Str}{sp:ah->Sp}{e:Expr}{es:List Expr}{t:TA}{p pos:Pos}(F:Ab X.prog X.w X.K X.mg X.base k f fd ps sp) (hr:pT k a X.A) (hg:Gl X x) (hm:X.mg x=some (.ref f)) (hk:PySem.W.keepIn X.K (.ref f)=true) (hb:Binds X.K fd ps [])
  (ha:PA X (e::es) t) (pX:(x==("__debug__":Str))=false:=by decide) (he:starEach (e::es) X.env=(false,eval e X.env)::starEach es X.env:=by rfl) (jZ:(backTo pos (starEach es X.env)).any (·.1)=false:=by rfl):
  PE X (.Call (.Name x p) (e::es) [] pos) (mq (sp a) [] E0 t):=by
 intro pins s σ H Q I h
 refine fV (jg I hg hm ?_ pX)
 refine iI (h₀:=X.base) I.ok.mod.pI hk (e_ (ha pos pins s σ H _ I h) fun us s1 ⟨vs,H1,I1,r,q⟩=>⟨I1.kC,?_⟩) he jZ
 have r2:cy (vs++ []) (us++ []):=r.append .nil
 have hl:(us++ []).length=ps.length:=by rw[<-r2.length];exact F.len _ _ _ _ _ q
 refine nN (kh (F.run a X.A X.stack s1 H1 ⟨us,[]⟩ (us++ []) (vs++ []) Q hr I1.EX (hb s1 us I1.kC hl) r2 q) fun r s' hq=>?_)
 cases r with
 |error e=>exact False.elim hq
 |ok fl=>
  cases fl with
  |ret u=>exact I1.after hq
  |next=>exact False.elim hq
  |brk=>exact False.elim hq
  |cont=>exact False.elim hq
def HM:V->Option af
 | .ref D=>some (.ref D)
 | .ty n=>some (.type n)
 |_=>none
def Ox (K:Frag):List V->Hp->VK->Prop:=fun xs H Q=>∃a C c cv b,xs=[.ref a,c]/\H a=some (W2 a (.ref C))/\oo K C/\HM c=some cv/\kitOne K (.ref C) cv=some b/\Q (.bl b) H
def B3 {X:Cx}:gE X (.builtin "isinstance") (Ox X.K):=by
 intro pins s σ H xs us Q I r h
 obtain⟨a,C,c,cv,b,rfl,ha,F,hc,e,q⟩:=h
 obtain⟨u,u',rfl,r1,r2⟩:=vals2 r
 cases(show u=Value.ref a from r1)
 have hu:u'=cv:=by
  cases c<;>simp only[HM,Option.some.injEq,reduceCtorEq] at hc
  ·subst hc;exact r2
  ·subst hc;exact r2
 subst hu
 obtain⟨⟨oe,vs,h1,h2,h3,h4,_⟩,_⟩:=I.eE a _ ha
 exact kia_one (HK F) I.kC ⟨oe,vs,h1,h2,h3,h4⟩ e (fun z=>nomatch z) fun tk=>⟨.bl b,H,I.tok tk,rfl,q⟩
section
variable {M:Model}{A:aQ}{E:af->ai->Prop}{s:ai}{K:Frag}{x C f:ah}{o:Obj}{name:Str}
def HN {r:Option af}{Q:Option af->ai->Prop}(pI:K.In s.heap) (hx:s.heap.get? x=some o) (hc:o.cls=.ref C) (hf:findIn K (.ref C) name=some r) (q:Q r s):wpAny M A (specialOf (.ref x) name) Q E s:=by
 unfold specialOf
 refine aa (wpAny_typeOf_ref hx ?_)
 rw[hc]
 exact(iC pI hf).here q
def B5 {args:List af}{Q:Option af->ai->Prop}(pI:K.In s.heap) (hx:s.heap.get? x=some o) (hc:o.cls=.ref C) (hf:findIn K (.ref C) name=some (some (.ref f))) (ND:isFn K (.ref f)=true)
  (HP:wpAny M A (call (.ref f) (.ref x::args)) (fun v=>Q (some v)) E s):wpAny M A (callSpecial? (.ref x) name args) Q E s:=by
 unfold callSpecial?
 refine aa (HN pI hx hc hf ?_)
 refine cM (aa ((bind_fn pI (.ref x) (iH.mp ND)).here ?_))
 exact aa (bK HP (fun v s' h'=>ak h') fun _ _ h'=>h')
end
section
variable {prog:aF}{w:ba}{A:aQ}{E:af->ai->Prop}{s:ai}{K:Frag}{x y C f:ah}{o oy:Obj}
def Oy {Q:af->ai->Prop}(pI:K.In s.heap) (hx:s.heap.get? x=some o) (hc:o.cls=.ref C) (hf:findIn K (.ref C) "__len__"=some (some (.ref f))) (ND:isFn K (.ref f)=true)
  (HP:wpAny (model prog w) A.in1 (call (.ref f) [.ref x]) (fun r s'=>∃n u,r=.int n u/\0<=n/\n<2^63/\Q (.int n s'.toks) {s' with toks:=s'.toks+1}) E s):
  wpAny (model prog w) A (call (.builtin "len") [.ref x]) Q E s:=by
 refine tQ kind_len plain_len entry_len (args_len1 _) ?_
 unfold Builtin.«len»
 refine aa (m:=oneArg "len" _) (ak ?_)
 refine aa (m:=callSpecial? (.ref x) (Str.ofString "__len__")) (B5 pI hx hc hf ND (bK HP (fun r s' hr=>?_) fun _ _ y=>y))
 obtain⟨n,u,rfl,h0,h1,hq⟩:=hr
 refine aa (cM (ak ?_))
 refine aa (fB ?_)
 show wpAny _ _ (if n<0 then _ else _) _ _ _
 rw[aO (by omega)]
 show wpAny _ _ (if n>=2^63 then _ else _) _ _ _
 rw[aO (by omega)]
 exact aa (wpAny_mkInt (ak ⟨_,rfl,hq⟩))
end
section
variable {X:Cx}{k:Nat}{f C:ah}{fd:FuncData}{ps:List Str}{sp:Sp}
def KY {pins:List (ah×Obj)}{σ:St}{H:Hp}{s:ai}{Q:VK}{R:af->ai->Prop}{us:List af}{vs:List V}(F:dO X.prog X.w X.K X.mg X.base fO k f fd ps sp) (hr:eK (k+1) X.A) (hb:Binds X.K fd ps [])
  (I:Inv X pins σ H s) (r:cy vs us) (h:sp vs H Q E0) (hR:∀u s',EP X pins σ Q u s'->R u s'):wpAny (model X.prog X.w) X.A.in1 (call (.ref f) us) R X.xe s:=by
 have hl:(us++ []).length=ps.length:=by rw[eJ,<-r.length];exact F.len _ _ _ _ h
 refine nN (kh (F.run X.A.in1 X.stack s H ⟨us,[]⟩ (us++ []) vs Q E0 hr.in1 I.EX.in1 (hb s us I.kC hl) (by rw[eJ];exact r) h) fun r s' hq=>?_)
 cases r with
 |error e=>exact False.elim hq
 |ok fl=>
  cases fl with
  |ret u=>exact hR _ _ (I.after hq)
  |next=>exact False.elim hq
  |brk=>exact False.elim hq
  |cont=>exact False.elim hq
def KZ {P:aF}{w:ba}{H:Hp}{h:Heap}{a dx:ah}{fs:List (Str×V)}(eE:pM P w H h) (e:H a=some (.ins C dx fs)):∃o,h.get? a=some o/\o.cls=.ref C:=by
 obtain⟨d,z,ne,ob,_⟩:=(show fP P w H h a (.ins C dx fs) from eE a _ e)
 exact⟨_,ob,rfl⟩
def My (C:ah) (sp:Sp):List V->Hp->VK->Prop:=fun xs H Q=>∃a dx fs,xs=[.ref a]/\H a=some (.ins C dx fs)/\sp [.ref a] H (fun v H'=>∃n:Nat,v=.int n/\n<2^62/\Q (.int n) H') E0
def Fu (F:dO X.prog X.w X.K X.mg X.base fO k f fd ps sp) (hr:eK (k+1) X.A) (hb:Binds X.K fd ps []) (hm:yd X.K C "__len__" f):gE X (.builtin "len") (My C sp):=by
 rintro pins s σ H xs us Q I r ⟨a,dx,fs,rfl,ea,h⟩
 obtain⟨u,ng,rfl,ru,rr⟩:∃u ng,us=u::ng/\RelV (.ref a) u/\cy [] ng:=by cases r with|cons q t=>exact⟨_,_,rfl,q,t⟩
 cases rr
 obtain rfl:u=Value.ref a:=ru
 obtain⟨o,ho,hc⟩:=KZ I.eE ea
 refine Oy I.kC ho hc hm.at_ hm.fn (KY (vs:=[.ref a]) F hr hb I (.cons rfl .nil) h ?_)
 rintro u s' ⟨v,H',I',rv,n,rfl,hn,q⟩
 obtain⟨t,rfl⟩:=rv
 exact⟨n,t,rfl,by omega,by omega,.int n,H',I'.tok _,⟨_,rfl⟩,q⟩
end
end L2
namespace K12
open PySem L2
section
variable {P:aF}{w:ba}{K:PySem.W.Frag}{mg:Str->Option af}{base:Heap}
def top (i:Nat):Stmt:=PySem.Challenge.pw_rowtrim_k12_whole_clubs.main.body.getD i (.Pass ⟨0,0,0,0⟩)
abbrev B6:Stmt:=top 16
abbrev HQ:Stmt:=top 17
abbrev yz:Stmt:=top 33
abbrev B7:Stmt:=top 34
structure Txt (mg:Str->Option af):Prop where
 ValueError:mg "ValueError"=none
 abs:mg "abs"=none
 all:mg "all"=none
 any:mg "any"=none
 bool:mg "bool"=none
 enum:mg "enumerate"=none
 int:mg "int"=none
 sv:mg "isinstance"=none
 len:mg "len"=none
 list:mg "list"=none
 max:mg "max"=none
 min:mg "min"=none
 range:mg "range"=none
 sorted:mg "sorted"=none
 str:mg "str"=none
 sum:mg "sum"=none
 tuple:mg "tuple"=none
 zip:mg "zip"=none
 LN:∃t,mg "LONGEST_NAME"=some (.int 8 t)
 MC:∃t,mg "MOST_IN_CREW"=some (.int 4 t)
 LG:∃t,mg "LONGEST"=some (.int 1000000000 t)
 HV:∃t,mg "HEAVIEST"=some (.int 1000000 t)
 MR:∃t,mg "MOST_ROWERS"=some (.int 8 t)
def Df (P:aF) (w:ba) (K:PySem.W.Frag) (mg:Str->Option af) (base:Heap) (k:Nat) (x:Str) (ps:List Str) (sp:Sp):Prop:=
 ∃f fd,dO P w K mg base fO k f fd ps sp/\Binds K fd ps []/\PySem.W.keepIn K (.ref f)=true/\mg x=some (.ref f)
def cB {X:Cx}{k:Nat}{x:Str}{ps:List Str}{sp:Sp}{e:Expr}{es:List Expr}{t:TA}{p pos:Pos}(D:Df X.prog X.w X.K X.mg X.base k x ps sp) (hr:eK k X.A) (ha:PA X (e::es) t) (hg:Gl X x:=by rfl) (pX:(x==("__debug__":Str))=false:=by decide)
  (he:starEach (e::es) X.env=(false,eval e X.env)::starEach es X.env:=by rfl) (jZ:(backTo pos (starEach es X.env)).any (·.1)=false:=by rfl):PE X (.Call (.Name x p) (e::es) [] pos) (mq sp [] E0 t):=by
 obtain⟨f,fd,F,b,kp,m⟩:=D
 exact Km F hr hg m kp b .nil zK ha pX he jZ
def wR (p:PyData->Bool):Sp:=fun vs H Q _=>∃k d v,vs=[v]/\Tells H k d v/\qX d/\∀H',a_ H H'->Q (.bl (p d)) H'
def vt:PyData->Bool
 | .int _=>true
 |_=>false
def xI (d:PyData):(zp d "int"&& !zp d "bool")=vt d:=by cases d<;>rfl
def scW:bV ["thing"] ["thing"] (av B6):={}
def HR {f:ah}{fd:FuncData}(F:iV K "is_whole" "is_whole" B6 f fd) (T:Txt mg):dO P w K mg base fO 1 f fd ["thing"] (wR vt):=by
 refine F.ok scW (fun vs H Q E h=>?_) (fun cdv A outer s H vs Q E hr h=>?_)
 ·obtain⟨k,d,v,rfl,_⟩:=h
  rfl
 ·obtain⟨k,d,v,rfl,t,_,q⟩:=h
  refine⟨_,aE (bF (jB (aR fF rfl T.sv aD (ae (pv 0) (ae (gH (v:=.ty "int") rfl T.int uJ rfl) aj)))
   (lM (Bj (aR fF rfl T.sv aD (ae (pv 0) (ae (gH (v:=.ty "bool") rfl T.bool tR rfl) aj))))))),?_⟩
  refine⟨_,rfl,k,_,_,d,rfl,t,.inl rfl,_,rfl,?_⟩
  have e:=xI d
  refine eG (fun c=>?_) (fun c=>?_)
  ·refine⟨_,rfl,k,_,_,d,rfl,t,.inr (.inl rfl),_,rfl,?_⟩
   rw[c,ck] at e
   rw[e]
   exact q H (a_.refl _)
  ·rw[show zp d "int"=false by simpa using c,bj] at e
   rw[e]
   exact q H (a_.refl _)
def fk.closed {X:Cx}{scope:Scope}{N:List Str}(hk:scope.kind=.function) (h1:∀y∈scope.names,y.2≠.cell:=by decide+kernel) (h2:∀y∈scope.names,y.2=.local->scope.names.lookup y.1=some .local:=by decide+kernel) (h3:∀y∈scope.names,y.2≠.free:=by decide+kernel):fk X scope N (N.map fun _=>none):=
 ⟨hk,h1,h2,fun y hy e=>absurd e (h3 y hy),aq _,fun i j x e _=>by
  rw[bX] at e
  cases h:N[i]? with
  |none=>rw[h] at e;cases e
  |some z=>rw[h] at e;cases e⟩
def W_ (x:Str):([x]:List Str).Nodup:=by simp
def sgn (c:Nat):Bool:=(!decide ((⟨#[c]⟩:Str).cps.toList<("a":Str).cps.toList))&&(!decide (("z":Str).cps.toList<(⟨#[c]⟩:Str).cps.toList))
def fm:PyData->Bool
 | .str x=>(decide (1<=(x.length:Int))&&decide ((x.length:Int)<=8))&&(x.cps.toList.map sgn).all id
 |_=>false
def DG {d:PyData}(h:zp d "str"=true):∃x,d=.str x:=by
 cases d with
 |str x=>exact⟨x,rfl⟩
 |none=>cases h
 |bool b=>cases h
 |int i=>cases h
 |list ds=>cases h
 |tuple ds=>cases h
 |dict de=>cases h
def DH (x:Str) (i:Nat) (H:Hp) (hi:i<=x.cps.size):(i=x.cps.size->(Mt x).stop i H)/\(i<x.cps.size->(Mt x).go i H/\∀y H',(Mt x).Bk i H y H'->H'=H/\y=.str ⟨#[x.cps.getD i 0]⟩):=by
 refine⟨fun e=>e,fun e=>⟨e,fun y H' q=>?_⟩⟩
 obtain⟨q1,c,q2,q3⟩:=q
 refine⟨q1,?_⟩
 rw[q3]
 simp[Array.getD,e,(jw.mp q2).2]
def sx {x:Str}{i:Nat}(h:i<x.cps.size):x.cps.toList.take (i+1)=x.cps.toList.take i++ [x.cps.getD i 0]:=by
 rw[qz]
 congr 1
 simp[Array.getD,h]
def scN:bV ["thing"] ["thing"] (av HQ):={}
def DJ {f:ah}{fd:FuncData}(F:iV K "is_name" "is_name" HQ f fd) (T:Txt mg):dO P w K mg base fO 1 f fd ["thing"] (wR fm):=by
 refine F.ok scN (fun vs H Q E h=>?_) (fun cdv A outer s H vs Q E hr h=>?_)
 ·obtain⟨k,d,v,rfl,_⟩:=h
  rfl
 ·obtain⟨k,d,v,rfl,t,hf,q⟩:=h
  obtain⟨tl,hLN⟩:=T.LN
  refine⟨_,ar (cN (PW.pt (kE (fJ (fG (aR fF rfl T.sv aD (ae (pv 0) (ae (gH (v:=.ty "str") rfl T.str gD rfl) aj)))))
    (lK (fJ (qP qN qN ao (aR qV rfl T.len bB (ae (pv 0) aj)) (fS (v:=.int 8) rfl hLN ⟨tl,rfl⟩))))))
    (aE (bF mY)) bL)
   (aE (bF (aR (uY rfl) rfl T.all uK (ae (ke (N:=["letter"]) rfl (Hm (pv 0)) (fk.closed rfl)
    (fun _ _ _=>aZ (i:=0) (W_ _)) (fun _ _ _=>iK) (fun _ _ _=>qO o7 o7 aW (pv 0) aW)) aj)))),?_⟩
  refine⟨_,rfl,k,_,_,d,rfl,t,.inr (.inr (.inl rfl)),_,rfl,?_⟩
  refine eG (fun c=>?_) (fun c=>?_)
  ·refine pZ ?_
   have e:fm d=false:=by
    cases d with
    |str x=>cases c
    |_=>rfl
   have:=q H (a_.refl _)
   rw[e] at this
   exact this
  ·obtain⟨x,rfl⟩:=DG (d:=d) (by simpa using c)
   rw[eY] at t
   subst t
   have hl:=Bd.Hn hf
   refine⟨_,rfl,x,rfl,bh hl (by decide),_,_,rfl,rfl,_,rfl,?_⟩
   show if decide (1<=(x.length:Int))=true then _ else _
   refine eG (fun c1=>?_) (fun c1=>?_)
   ·refine⟨_,_,rfl,rfl,_,rfl,?_⟩
    refine eG (fun c2=>?_) (fun c2=>?_)
    ·have e:fm (.str x)=false:=by
      have K0:decide ((x.length:Int)<=8)=false:=by simpa using c2
      show((decide (1<=(x.length:Int))&&decide ((x.length:Int)<=8))&&_)=false
      rw[K0,eZ,bj]
     have:=q H (a_.refl _)
     rw[e] at this
     exact this
    ·have K0:decide ((x.length:Int)<=8)=true:=by simpa using c2
     refine⟨_,rfl,x,rfl,fun D hD=>?_⟩
     refine kO (J:=Mt x) (n:=x.cps.size) (f:=fun i=>.str ⟨#[x.cps.getD i 0]⟩) (fun i ys bW H'=>ys=((x.cps.toList.take i).map sgn).map V.bl/\(∃v,bW=[v])/\H'=upd H D (.lst ys)) hD (by have:x.cps.size=x.length:=rfl;omega)
      ⟨rfl,⟨none,rfl⟩,rfl⟩ (fun i ys bW H' hi _ _=>DH x i H' hi) ?_ ?_
     ·rintro i ys bW H' hi hy ⟨e1,⟨v,rfl⟩,rfl⟩
      refine⟨_,rfl,_,_,rfl,rfl,_,rfl,?_⟩
      have step:∀b,sgn (x.cps.getD i 0)=b->(upd H D (.lst ys)) D=some (.lst ys)/\((ys++ [V.bl b])=((x.cps.toList.take (i+1)).map sgn).map V.bl/\(∃v,([some (V.str ⟨#[x.cps.getD i 0]⟩)]:St)=[v])/\upd (upd H D (.lst ys)) D (.lst (ys++ [V.bl b]))=upd H D (.lst (ys++ [V.bl b]))):=fun b hb=>by
       refine⟨hy,?_,⟨_,rfl⟩,qK⟩
       rw[sx hi,e1,bE,bE,<-hb]
       rfl
      refine eG (fun c3=>?_) (fun c3=>?_)
      ·refine⟨_,_,rfl,rfl,?_⟩
       refine step _ ?_
       show(_&&_)=_
       rw[c3,ck]
      ·refine step false ?_
       show(_&&_)=_
       rw[show(!decide ((⟨#[x.cps.getD i 0]⟩:Str).cps.toList<("a":Str).cps.toList))=false by simpa using c3,bj]
     ·rintro ys bW H' hy ⟨e1,⟨v,rfl⟩,rfl⟩
      rw[cX (by simp)] at e1
      refine⟨D,(x.cps.toList.map sgn),rfl,cS.of (by rw[hy,e1]),?_⟩
      have:=q (upd H D (.lst ys)) (aN hD _)
      rw[show fm (.str x)=(x.cps.toList.map sgn).all id by
       show((decide (1<=(x.length:Int))&&decide ((x.length:Int)<=8))&&_)=_
       rw[c1,K0,ck,ck]] at this
      exact this
   ·refine⟨_,rfl,pZ ?_⟩
    have e:fm (.str x)=false:=by
     have c1':decide (1<=(x.length:Int))=false:=by simpa using c1
     show((decide (1<=(x.length:Int))&&decide ((x.length:Int)<=8))&&_)=false
     rw[c1',bj,bj]
    have:=q H (a_.refl _)
    rw[e] at this
    exact this
def HS {x y:V}(h:(!decide (x=y))=true):x≠y:=fun e=>by rw[aJ e] at h;cases h
def v_eq {x y:V}(h:¬(!decide (x=y))=true):x=y:=by
 by_cases e:x=y
 ·exact e
 ·exact absurd (by rw[bC e];rfl) h
def eI:PyData->Bool
 | .int i=>decide (1<=i)&&decide (i<=1000000)
 |_=>false
def Xa:bV ["thing"] ["thing"] (av yz):={}
def Fv {f:ah}{fd:FuncData}(F:iV K "is_weight" "is_weight" yz f fd) (T:Txt mg) (DW:Df P w K mg base 1 "is_whole" ["thing"] (wR vt)):dO P w K mg base fO 2 f fd ["thing"] (wR eI):=by
 refine F.ok Xa (fun vs H Q E h=>?_) (fun cdv A outer s H vs Q E hr h=>?_)
 ·obtain⟨k,d,v,rfl,_⟩:=h
  rfl
 ·obtain⟨k,d,v,rfl,t,hf,q⟩:=h
  obtain⟨th,Xb⟩:=T.HV
  refine⟨_,aE (bF (jB (cB DW hr (ae (pv 0) aj)) (lM (qO qN qN ao (pv 0) (fS (v:=.int 1000000) rfl Xb ⟨th,rfl⟩))))),?_⟩
  refine⟨_,rfl,k,d,v,rfl,t,hf,fun H1 s1=>⟨_,rfl,?_⟩⟩
  refine eG (fun c=>?_) (fun c=>?_)
  ·cases d with
   |int i=>
    rw[i9] at t
    subst t
    refine⟨_,rfl,_,_,rfl,rfl,_,rfl,?_⟩
    have q':=q H1 s1
    refine eG (fun c1=>?_) (fun c1=>?_)
    ·refine⟨_,_,rfl,rfl,?_⟩
     rw[show eI (.int i)=decide (i<=1000000) by show(_&&_)=_;rw[c1,ck]] at q'
     exact q'
    ·rw[show eI (.int i)=false by show(_&&_)=_;rw[show decide (1<=i)=false by simpa using c1,bj]] at q'
     exact q'
   |_=>cases c
  ·have e:eI d=false:=by
    cases d with
    |int i=>exact absurd rfl c
    |_=>rfl
   have q':=q H1 s1
   rw[e] at q'
   exact q'
def vv:List PyData:=[.str "port",.str "starboard",.str "both"]
def gL (s:PyData):Bool:=vv.any fun z=>PyData.eqv z s
def eQ:PyData->Bool
 | .tuple [n,s,w]=>fm n&&(gL s&&eI w)
 |_=>false
def vw {ds:List PyData}(h:ds.length≠3):eQ (.tuple ds)=false:=by
 match ds,h with
 | [],_=>rfl
 | [_],_=>rfl
 | [_,_],_=>rfl
 | [_,_,_],h=>exact absurd rfl h
 |_::_::_::_::_,_=>rfl
def o_ {d:PyData}(h:zp d "tuple"=true):∃ds,d=.tuple ds:=by
 cases d with
 |tuple ds=>exact⟨ds,rfl⟩
 |none=>cases h
 |bool b=>cases h
 |int i=>cases h
 |list ds=>cases h
 |str x=>cases h
 |dict de=>cases h
def vz:PyData.canLayAll0 vv=true:=by decide+kernel
def tK {H:Hp}{k p:ah}(hp:p≠k):Tells (upd H p (.tup [.str "port",.str "starboard",.str "both"])) k (.tuple vv) (.ref p):=
 eO.mpr ⟨p,_,rfl,hp,az,bS.mpr ⟨_,_,rfl,eY.mpr rfl,bS.mpr ⟨_,_,rfl,eY.mpr rfl,yn (eY.mpr rfl)⟩⟩⟩
def SO {α:Type}{ds:List α}(h:ds.length=3):∃a b c,ds=[a,b,c]:=by
 match ds,h with
 | [a,b,c],_=>exact⟨a,b,c,rfl⟩
def Vr:bV ["thing","name","sides","weight"] ["thing"] (av B7):={}
def HU {f:ah}{fd:FuncData}(F:iV K "is_rower" "is_rower" B7 f fd) (T:Txt mg) (DN:Df P w K mg base 2 "is_name" ["thing"] (wR fm)) (DW:Df P w K mg base 2 "is_weight" ["thing"] (wR eI)):dO P w K mg base fO 3 f fd ["thing"] (wR eQ):=by
 refine F.ok Vr (fun vs H Q E h=>?_) (fun cdv A outer s H vs Q E hr h=>?_)
 ·obtain⟨k,d,v,rfl,_⟩:=h
  rfl
 ·obtain⟨k,d,v,rfl,t,hf,q⟩:=h
  refine⟨_,ar (cN (PW.pt (kE (fJ (fG (aR fF rfl T.sv aD (ae (pv 0) (ae (gH (v:=.ty "tuple") rfl T.tuple cu rfl) aj)))))
    (lK (br ml (aR bM rfl T.len bB (ae (pv 0) aj)) ao (bN _)))))
    (aE (bF mY)) bL)
   (ar (iD (pv 0) (fW rfl (bz (aZ (i:=1) Vr.nd) (bz (aZ (i:=2) Vr.nd) (bz (aZ (i:=3) Vr.nd) eV)))))
   (aE (bF (jB (cB DN hr (ae (pv 1) aj)) (jB (jI (Hl hr.units) (pv 2) (bO (ae aW (ae aW (ae aW aj)))) (by with_unfolding_all rfl))
    (lM (cB DW hr (ae (pv 3) aj)))))))),?_⟩
  refine⟨_,rfl,k,_,_,d,rfl,t,.inr (.inr (.inr (.inl rfl))),_,rfl,?_⟩
  have no:eQ d=false->Q (.bl false) H:=fun e=>by have:=q H (a_.refl _);rw[e] at this;exact this
  refine eG (fun c=>?_) (fun c=>?_)
  ·refine pZ (no ?_)
   cases d with
   |tuple ds=>cases c
   |_=>rfl
  ·obtain⟨ds,rfl⟩:=o_ (d:=d) (by simpa using c)
   obtain⟨a,xs,rfl,hk,ha,mD⟩:=eO.mp t
   have hl:=gK mD
   refine⟨_,rfl,a,xs,rfl,.inr (bY.of ha),rfl,_,rfl,?_⟩
   refine eG (fun c1=>?_) (fun c1=>?_)
   ·refine no ?_
    have:ds.length≠3:=fun z=>HS c1 (by rw[hl,z];rfl)
    exact vw this
   ·have l3:ds.length=3:=by
     have e3:V.int (xs.length:Int)=V.int 3:=v_eq c1
     injection e3 with e3
     omega
    obtain⟨dn,B8,dw,rfl⟩:=SO l3
    obtain⟨x1,r1,rfl,t1,mD⟩:=bS.mp mD
    obtain⟨x2,r2,rfl,t2,mD⟩:=bS.mp mD
    obtain⟨x3,r3,rfl,t3,mD⟩:=bS.mp mD
    rw[eg] at mD
    subst mD
    have Ac:=(Bd.o8 hf).1
    refine⟨_,rfl,a,_,rfl,bY.of ha,rfl,_,_,rfl,_,_,rfl,_,_,rfl,rfl,?_⟩
    refine⟨_,rfl,k,dn,x1,rfl,t1,Ac dn (by simp),fun H1 s1=>⟨_,rfl,?_⟩⟩
    have q':∀H',a_ H H'->Q (.bl (fm dn&&(gL B8&&eI dw))) H':=q
    refine eG (fun c2=>?_) (fun c2=>?_)
    ·refine⟨_,rfl,dF,fun p hp=>?_⟩
     have Oz:∀b o,H b=some o->b≠p:=fun b o e=>dj (s1 b o e) hp
     have s2:a_ H1 (upd H1 p (.tup [.str "port",.str "starboard",.str "both"])):=aN hp _
     refine⟨k,a,B8,vv,t2.keep (s1.trans s2).keep,.inl (tK (Oz a _ ha).symm),qX.lay (Ac B8 (by simp)),vz,⟨_,rfl,?_⟩⟩
     refine eG (fun c3=>?_) (fun c3=>?_)
     ·refine⟨_,rfl,k,dw,x3,rfl,t3.keep (s1.trans s2).keep,Ac dw (by simp),fun H3 s3=>?_⟩
      have:=q' H3 ((s1.trans s2).trans s3)
      rw[c2,show gL B8=true from c3,ck,ck] at this
      exact this
     ·have:=q' _ (s1.trans s2)
      rw[show gL B8=false by simpa[gL] using c3,bj,eZ] at this
      exact this
    ·have:=q' H1 s1
     rw[show fm dn=false by simpa using c2,bj] at this
     exact this
def Q8 (a:Str):PyData->Bool
 | .str x=>x==a
 |_=>false
def K1 (a:Str) (z:PyData):PyData.eqv z (.str a)=Q8 a z:=by cases z<;>simp[PyData.eqv,Q8]
def ie (i j:Int):decide (V.int i=V.int j)=decide (i=j):=by
 by_cases h:i=j
 ·rw[aJ h,aJ (by rw[h])]
 ·rw[bC h,bC (fun z=>h (by injection z))]
def Fw {z:PyData}(h:zp z "str"=false):fm z=false:=by
 cases z with
 |str x=>cases h
 |none=>rfl
 |bool b=>rfl
 |int i=>rfl
 |list ds=>rfl
 |tuple ds=>rfl
 |dict de=>rfl
def rg (cs:List Nat):List Nat:=cs.filter fun c=>!sgn c
def vA (cs:List Nat):List PyData:=cs.map fun c=>.str ⟨#[c]⟩
def vB (cs:List Nat):List V:=cs.map fun c=>.str ⟨#[c]⟩
def vC {H:Hp}{k:ah}:∀cs:List Nat,cY H k (vA cs) (vB cs)
 | []=>eg.mpr rfl
 |c::cs=>bS.mpr ⟨_,_,rfl,eY.mpr rfl,vC cs⟩
def HW {cs:List Nat}(h:∀c∈cs,c<0x110000):Lay (.list (vA cs)):=by
 refine⟨?_,?_⟩
 ·rw[PyData.canLay0]
  induction cs with
  |nil=>rw[vA,nO,PyData.canLayAll0]
  |cons c cs ih=>
   rw[vA,bH,PyData.canLayAll0,cI]
   refine⟨?_,ih fun d hd=>h d (cm _ hd)⟩
   rw[PyData.canLay0]
   simp[PyData.strOk,h c cf]
 ·rw[PyData.depth]
  have:PyData.depthAll (vA cs)<=0:=mQ fun d hd=>by
   obtain⟨c,_,rfl⟩:=cO.mp hd
   simp[PyData.depth]
  omega
def K2 (cs:List Nat):PyData.eqv (.list (vA cs)) (.list [])=cs.isEmpty:=by
 cases cs with
 |nil=>rfl
 |cons c cs=>rfl
def HX (cs:List Nat):(rg cs).isEmpty=(cs.map sgn).all id:=by
 induction cs with
 |nil=>rfl
 |cons c cs ih=>
  unfold rg at ih⊢
  rw[EE,bH,zm]
  cases h:sgn c with
  |true=>simp[ih]
  |false=>simp
def HY {cs:List Nat}{c:Nat}(h:sgn c=true):rg (cs++ [c])=rg cs:=by unfold rg;rw[kj];simp[h]
def HZ {cs:List Nat}{c:Nat}(h:sgn c=false):rg (cs++ [c])=rg cs++ [c]:=by unfold rg;rw[kj];simp[h]
def pb:Lay (.list []):=⟨by simp[PyData.canLay0,PyData.canLayAll0],by simp[PyData.depth,PyData.depthAll]⟩
def cj (ns:List Str):List PyData:=ns.map .str
def jM {H:Hp}{k:ah}:∀ns:List Str,cY H k (cj ns) (ns.map .str)
 | []=>eg.mpr rfl
 |n::ns=>bS.mpr ⟨_,_,rfl,eY.mpr rfl,jM ns⟩
def Fx (ns:List Str) (x:Str):(cj ns).any (fun z=>PyData.eqv z (.str x))=decide (x∈ns):=by
 induction ns with
 |nil=>simp[cj]
 |cons n ns ih=>
  unfold cj at ih⊢
  rw[bH,jU,ih,K1]
  by_cases h:n=x
  ·subst h;simp[Q8]
  ·have h':¬x=n:=fun z=>h z.symm
   have hb:(n==x)=false:=by simpa using h
   simp[Q8,hb,h']
abbrev H_:Stmt:=top 41
abbrev Ia:Stmt:=top 42
structure cQ (H:Hp) (k:ah) (c:Int):Prop where
 ex:∃a b:Int,H k=some (.lst [.int a,.int b,.int c])/\0<=b/\b<2147483648
 c0:0<=c
def oq {X:Cx}:lg X (binaryOp .FloorDiv) (rI (fun _ j=>0<j/\j<2^200) fun i j=>.int (i/j)):=RU fun i j _ _ _ _ _ hc q=>by
 refine PyProof.Rows.floordiv_int (by omega) ?_ (.inl (PyProof.noPylong_of_log2 ?_))
 ·rw[JW i (by omega)]
  exact q
 ·have:j.natAbs.log2<200:=Ky (by omega)
  omega
def B9:Sp:=fun vs H Q _=>∃cell tn:Int,vs=[.int cell,.int tn]/\0<=tn/\∀p H',H p=none->a_ H H'->cQ H' p tn->Q (.ref p) H'
def scD:bV ["cell","turn"] ["cell","turn"] (av H_):={}
def K3 {f:ah}{fd:FuncData}(F:iV K "_law_deck" "_law_deck" H_ f fd):dO P w K mg base fO 1 f fd ["cell","turn"] B9:=by
 refine F.ok scD (fun vs H Q E h=>?_) (fun cdv A outer s H vs Q E hr h=>?_)
 ·obtain⟨cell,tn,rfl,_⟩:=h
  rfl
 ·obtain⟨cell,tn,rfl,t0,q⟩:=h
  refine⟨_,ar (cN (br GN (pv 0) (bR lQ ao ao) (bN _))
    (aE (bF (cW (ae (bR lO (pv 0) (bR lQ ao ao)) (ae (bR mL (pv 0) ao) (ae (pv 1) aj)))))) bL)
   (aE (bF (cW (ae ao (ae (bR mL (pv 0) ao) (ae (pv 1) aj)))))),?_⟩
  have hb:0<=cell %2147483579/\cell %2147483579<2147483648:=by omega
  refine⟨_,rfl,_,_,rfl,rfl,⟨by decide,by decide,by decide⟩,_,_,rfl,rfl,_,rfl,?_⟩
  refine eG (fun c=>?_) (fun c=>?_)
  ·refine⟨_,rfl,_,_,rfl,rfl,⟨by decide,by decide,by decide⟩,_,_,rfl,rfl,_,rfl,_,_,rfl,rfl,by show(0:Int)<2147483579;decide,_,rfl,dF,fun p hp=>?_⟩
   exact q p _ hp (aN hp _) ⟨⟨_,_,az,hb.1,hb.2⟩,t0⟩
  ·refine⟨_,rfl,_,_,rfl,rfl,by show(0:Int)<2147483579;decide,_,rfl,dF,fun p hp=>?_⟩
   exact q p _ hp (aN hp _) ⟨⟨_,_,az,hb.1,hb.2⟩,t0⟩
def gM:Sp:=fun vs H Q _=>∃(k:ah) (c many:Int),vs=[.ref k,.int many]/\cQ H k c/\c<=100000/\0<many/\many<=10000000000000/\
 ∀(r c':Int) (H':Hp),dY k H H'->cQ H' k c'->c'<=c+1->0<=r->r<many->Q (.int r) H'
def Vs:bV ["deck","many","found","number"] ["deck","many"] (av Ia):={}
def K4 {f:ah}{fd:FuncData}(F:iV K "_law_pick" "_law_pick" Ia f fd):dO P w K mg base fO 1 f fd ["deck","many"] gM:=by
 refine F.ok Vs (fun vs H Q E h=>?_) (fun cdv A outer s H vs Q E hr h=>?_)
 ·obtain⟨k,c,many,rfl,_⟩:=h
  rfl
 ·obtain⟨k,c,many,rfl,⟨⟨a,b,hk,b0,b1⟩,c0⟩,c1,m0,m1,q⟩:=h
  refine⟨_,ar (cN (br xg (bg cU (pv 0) ao) ao (bN _))
    (ar (jX (i:=2) Vs.nd (bR mL (bg cU (pv 0) ao) (pv 1)))
    (ar (iD (bR oq (bg cU (pv 0) ao) (pv 1)) (nV (pv 0) ao set_list))
    (aE (bF (pv 2))))) bL)
   (ar (iD (bR fX (bg cU (pv 0) ao) ao) (nV (pv 0) ao set_list))
   (ar (jX (i:=3) Vs.nd (bR mL (bR lQ (bR fX (bg cU (pv 0) ao) (bR lP ao (bg cU (pv 0) ao))) ao) ao))
   (ar (jX (i:=2) Vs.nd (bR Dd (bR mL (bR lQ (bR fX (pv 3) (bR lP ao (bg cU (pv 0) ao))) ao) ao) ao))
   (ar (cN (br xg (pv 1) ao (bN _)) (aE (bF (bR mL (bR fX (bR lP (pv 2) ao) (pv 3)) (pv 1)))) bL)
   (aE (bF (bR mL (pv 2) (pv 1)))))))),?_⟩
  refine⟨_,rfl,k,_,0,_,rfl,rfl,cS.of hk,aT (j:=0) rfl,_,_,rfl,rfl,_,rfl,?_⟩
  refine eG (fun c2=>?_) (fun c2=>?_)
  ·refine⟨_,rfl,k,_,0,_,rfl,rfl,cS.of hk,aT (j:=0) rfl,_,rfl,_,_,rfl,rfl,m0,?_⟩
   refine⟨_,rfl,k,_,0,_,rfl,rfl,cS.of hk,aT (j:=0) rfl,_,rfl,_,_,rfl,rfl,⟨m0,by omega⟩,?_⟩
   refine⟨_,rfl,k,_,0,0,rfl,rfl,hk,rfl,?_⟩
   refine⟨_,rfl,q _ c _ (dY.at _) ⟨⟨_,_,az,b0,b1⟩,c0⟩ (by omega) (nA _ (by omega)) (kn _ m0)⟩
  ·refine⟨_,rfl,k,_,2,_,rfl,rfl,cS.of hk,aT (j:=2) rfl,_,_,rfl,rfl,?_⟩
   refine⟨_,rfl,k,_,2,2,rfl,rfl,hk,rfl,?_⟩
   have Vt:(upd H k (.lst [.int a,.int b,.int (c+1)])) k=some (.lst [.int a,.int b,.int (c+1)]):=az
   show wH _ _ _ _ (upd H k (.lst [.int a,.int b,.int (c+1)]))
   have kp:dY k H (upd H k (.lst [.int a,.int b,.int (c+1)])):=dY.at _
   generalize upd H k (.lst [.int a,.int b,.int (c+1)])=H2 at*
   have fin:∀r:Int,0<=r->r<many->Q (.int r) H2:=fun r h1 h2=>q r (c+1) H2 kp ⟨⟨_,_,Vt,b0,b1⟩,by omega⟩ (Int.le_refl _) h1 h2
   refine⟨_,rfl,k,_,1,_,rfl,rfl,cS.of Vt,aT (j:=1) rfl,_,rfl,k,_,2,_,rfl,rfl,cS.of Vt,aT (j:=2) rfl,_,_,rfl,rfl,.inl ⟨by decide,by decide⟩,_,_,rfl,rfl,_,_,rfl,rfl,⟨by decide,by decide,?_⟩,_,_,rfl,rfl,by show(0:Int)<2147483647;decide,?_⟩
   ·omega
   ·generalize hN:(b+15485867*(c+1))^(5:Int).toNat %2147483647=number
    have n0:0<=number:=by rw[<-hN];exact nA _ (by decide)
    have n1:number<2147483647:=by rw[<-hN];exact kn _ (by decide)
    refine⟨_,rfl,_,rfl,k,_,2,_,rfl,rfl,cS.of Vt,aT (j:=2) rfl,_,_,rfl,rfl,.inl ⟨by decide,by decide⟩,_,_,rfl,rfl,_,_,rfl,rfl,⟨by decide,by decide,?_⟩,_,_,rfl,rfl,by show(0:Int)<2147483629;decide,_,_,rfl,rfl,⟨by decide,by decide⟩,?_⟩
    ·omega
    ·generalize hF:(number+7919*(c+1))^(3:Int).toNat %2147483629/32=found
     have f0:0<=found/\found<2147483629:=by
      have e0:0<=(number+7919*(c+1))^(3:Int).toNat %2147483629:=nA _ (by decide)
      have e1:(number+7919*(c+1))^(3:Int).toNat %2147483629<2147483629:=kn _ (by decide)
      rw[<-hF]
      omega
     refine⟨_,rfl,_,_,rfl,rfl,_,rfl,?_⟩
     refine eG (fun c3=>?_) (fun c3=>?_)
     ·exact⟨_,rfl,_,_,rfl,rfl,.inl ⟨by omega,by omega⟩,_,rfl,_,_,rfl,rfl,_,rfl,_,_,rfl,rfl,m0,fin _ (nA _ (by omega)) (kn _ m0)⟩
     ·exact⟨_,rfl,_,rfl,_,_,rfl,rfl,m0,fin _ (nA _ (by omega)) (kn _ m0)⟩
abbrev Xc:Stmt:=top 44
def okN (n:Str):Prop:=n.length<=100/\PyData.strOk n=true/\fm (.str n)=true
def cQ.keep {H H':Hp}{k:ah}{c:Int}(h:cQ H k c) (e:∀o,H k=some o->H' k=some o):cQ H' k c:=by
 obtain⟨⟨a,b,h1,h2⟩,c0⟩:=h
 exact⟨⟨a,b,e _ h1,h2⟩,c0⟩
def cQ.some {H:Hp}{k:ah}{c:Int}(h:cQ H k c):∃o,H k=some o:=let⟨⟨_,_,h1,_⟩,_⟩:=h;⟨_,h1⟩
def OC:Sp:=fun vs H Q _=>∃(k:ah) (c:Int),vs=[.ref k]/\cQ H k c/\c<=50000/\
 ∀(r c':Int) (H':Hp),dY k H H'->cQ H' k c'->c'<=c+4->1<=r->r<=1000000->Q (.int r) H'
def Xd:bV ["deck"] ["deck"] (av Xc):={}
def SQ {f:ah}{fd:FuncData}(F:iV K "_law_weight" "_law_weight" Xc f fd) (DP:Df P w K mg base 1 "_law_pick" ["deck","many"] gM):dO P w K mg base fO 2 f fd ["deck"] OC:=by
 refine F.ok Xd (fun vs H Q E h=>?_) (fun cdv A outer s H vs Q E hr h=>?_)
 ·obtain⟨k,c,rfl,_⟩:=h
  rfl
 ·obtain⟨k,c,rfl,hk,hc,q⟩:=h
  refine⟨_,aE (bF (bg cU (cW (ae (bR fX ao (cB DP hr (ae (pv 0) (ae ao aj)))) (ae (bR fX ao (cB DP hr (ae (pv 0) (ae ao aj))))
   (ae (bR fX ao (cB DP hr (ae (pv 0) (ae (bR lQ ao ao) aj)))) (ae (bR lQ ao ao) aj)))))
   (cB DP hr (ae (pv 0) (ae ao aj))) (fun _ _=>rfl))),?_⟩
  refine⟨_,rfl,k,c,5,rfl,hk,by omega,by decide,by decide,fun r1 c1 H1 k1 d1 e1 g1 l1=>⟨_,_,rfl,rfl,?_⟩⟩
  refine⟨_,rfl,k,c1,40,rfl,d1,by omega,by decide,by decide,fun r2 c2 H2 k2 d2 e2 g2 l2=>⟨_,_,rfl,rfl,?_⟩⟩
  refine⟨_,rfl,_,_,rfl,rfl,⟨by decide,by decide,by decide⟩,k,c2,_,rfl,d2,by omega,by decide,by decide,fun r3 c3 H3 k3 d3 e3 g3 l3=>⟨_,_,rfl,rfl,?_⟩⟩
  refine⟨_,_,rfl,rfl,⟨by decide,by decide,by decide⟩,dF,fun p hp=>?_⟩
  have Oz:k≠p:=fun z=>by obtain⟨o,ho⟩:=d3.some;rw[z,hp] at ho;cases ho
  refine⟨_,rfl,k,c3,4,rfl,d3.keep (fun o e=>by rw[aV Oz];exact e),by omega,by decide,by decide,fun r4 c4 H4 k4 d4 e4 g4 l4=>?_⟩
  have l3':r3<1000000:=l3
  have kk:dY k H H4:=((k1.trans k2).trans k3).trans ((dY.new hp _).trans k4)
  have Q_:=k4 p _ Oz.symm az
  have r4':r4=0\/r4=1\/r4=2\/r4=3:=by omega
  rcases r4' with rfl|rfl|rfl|rfl
  ·exact⟨p,_,0,_,rfl,rfl,cS.of Q_,aT (j:=0) rfl,q _ c4 H4 kk d4 (by omega) (by omega) (by omega)⟩
  ·exact⟨p,_,1,_,rfl,rfl,cS.of Q_,aT (j:=1) rfl,q _ c4 H4 kk d4 (by omega) (by omega) (by omega)⟩
  ·exact⟨p,_,2,_,rfl,rfl,cS.of Q_,aT (j:=2) rfl,q _ c4 H4 kk d4 (by omega) (by omega) (by omega)⟩
  ·exact⟨p,_,3,_,rfl,rfl,cS.of Q_,aT (j:=3) rfl,q _ c4 H4 kk d4 (by omega) (by decide) (by decide)⟩
def Ad {X:Cx}:∀{es:List Expr}{vs:List V},Paired (fun(e:Expr) (v:V)=>∃x j p,e=.Constant (.str x) j p/\v=.str x) es vs->PA X es (fun _ H Q=>Q vs H)
 |_,_,.nil=>aj
 |_,_,.cons (a:=e) (b:=v) (l₁:=es) (l₂:=vs) ⟨x,j,p,he,hv⟩ r=>by
  subst he hv
  exact fun pos pins s σ H Q I h=>ae aW (Ad r) rfl pos pins s σ H Q I h
def cQ.ne {H:Hp}{k p:ah}{c:Int}(h:cQ H k c) (hp:H p=none):k≠p:=fun z=>by obtain⟨o,ho⟩:=h.some;rw[z,hp] at ho;cases ho
def cQ.new {H:Hp}{k p:ah}{c:Int}{o:HO}(h:cQ H k c) (hp:H p=none):cQ (upd H p o) k c:=h.keep fun u e=>by rw[aV (h.ne hp)];exact e
def rh {k p:ah}{H H':Hp}(kk:dY k H H') (n:p≠k) (h:H' p=none):H p=none:=by
 cases e:H p with
 |none=>rfl
 |some o=>rw[kk p o n e] at h;cases h
def sy {α:Type}{xs:List α}{i:Int}(h0:0<=i) (h1:i<xs.length):∃h:i.toNat<xs.length,qT xs i=some xs[i.toNat]:=by
 have h2:i.toNat<xs.length:=by omega
 have e:i=((i.toNat:Nat):Int):=by omega
 refine⟨h2,?_⟩
 have:=aT (j:=i.toNat) (aH h2)
 rw[<-e] at this
 exact this
def B_ (ss:List Str) (i:Nat) (x:Str):(ss.map V.str).take i++V.str x::(ss.map V.str).drop i=(ss.take i++x::ss.drop i).map V.str:=by
 rw[bE,bH,Nq,Nr]
def Ca (ss:List Str) {i:Nat}(x:Str) (h:i<=ss.length):(ss.take i++x::ss.drop i).length=ss.length+1:=by
 simp only[aK,fh,cH,dB]
 omega
def Fy {ss:List Str}{x:Str}(i:Nat) (h:∀s∈ss,okN s) (hx:okN x):∀s∈ss.take i++x::ss.drop i,okN s:=by
 intro s hs
 rcases c_.mp hs with hs|hs
 ·exact h s (gX hs)
 ·rcases aC.mp hs with rfl|hs
  ·exact hx
  ·exact h s (wu hs)
def wT:Nat->Nat
 |0=>4
 |n+1=>1+wT n*3
def xJ (n:Nat) (i:Nat) (H:Hp) (hi:i<=n):(i=n->(Mo 0 n).stop i H)/\(i<n->(Mo 0 n).go i H/\∀x H',(Mo 0 n).Bk i H x H'->H'=H/\x=.int i):=by
 refine⟨fun e=>by show n<=i;omega,fun e=>⟨e,fun x H' y=>?_⟩⟩
 obtain⟨e1,e2⟩:=y
 refine⟨e1,?_⟩
 rw[e2,Int.zero_add]
def Mz (x:V):Prop:=∃d:PyData,Bd 1 0 d/\∀(H:Hp) (k:ah),Tells H k d x
def Ib:List V->Prop
 | []=>True
 |x::xs=>Mz x/\Ib xs
def ll {x:V}{xs:List V}(h:Mz x) (hs:Ib xs):Ib (x::xs):=⟨h,hs⟩
def K5 {j k:Nat}{f:ah}{fd:FuncData}{ps:List Str}{sp:Sp}(h:dO P w K mg base fO j f fd ps sp) (le:j<=k):dO P w K mg base fO k f fd ps sp:=
 ⟨h.len,fun A outer s H args us vs Q E hr=>h.run A outer s H args us vs Q E (hr.mono le)⟩
structure dR (K:PySem.W.Frag) (x:Str) (st:Stmt) (f:ah):Prop where
 a:PySem.W.nsIn K mainGlobals x=some (some (.ref f))
 ex:∃(oc:af) (od:Option ah) (kV doc pm:af) (an:Option ah) (cdv ct:af) (rZ:Array (Option af)),
  K.lookup f=some ⟨oc,od,.func (PySem.W.fnOf x x (jm st) (fu st) (av st) .none kV doc pm an cdv ct),rZ⟩/\PySem.W.codeIn K cdv x=true
 k:PySem.W.keepIn K (.ref f)=true
def stands {K:PySem.W.Frag}{x:Str}{st:Stmt}{f:ah}{oc:af}{od:Option ah}{kV doc pm:af}{an:Option ah}{cdv ct:af}{rZ:Array (Option af)}
  (a:PySem.W.nsIn K mainGlobals x=some (some (.ref f))) (l:K.lookup f=some ⟨oc,od,.func (PySem.W.fnOf x x (jm st) (fu st) (av st) .none kV doc pm an cdv ct),rZ⟩) (c:PySem.W.codeIn K cdv x=true) (k:PySem.W.keepIn K (.ref f)=true):dR K x st f:=
 ⟨a,⟨oc,od,kV,doc,pm,an,cdv,ct,rZ,l,c⟩,k⟩
def dR.fn {K:PySem.W.Frag}{x:Str}{st:Stmt}{f:ah}(S:dR K x st f):∃fd,iV K x x st f fd:=by
 obtain⟨oc,od,kV,doc,pm,an,cdv,ct,rZ,l,c⟩:=S.ex
 exact⟨_,BB (st:=st) l c S.k⟩
end
abbrev Ic:Stmt:=top 23
abbrev Ie:Stmt:=top 24
abbrev Cb:Stmt:=top 25
def strOf:PyData->Str
 | .str x=>x
 |_=>""
def Xe (a b:Str):Bool:=decide (a.cps.toList<b.cps.toList)
def nh (ns:List Str):List Bool:=List.zipWith Xe ns (ns.drop 1)
def jN:PyData->Bool
 | .tuple ds=>(decide (1<=(ds.length:Int))&&decide ((ds.length:Int)<=4))&&((ds.map fm).all id&&(nh (ds.map strOf)).all id)
 |_=>false
def ql {d:PyData}(h:fm d=true):∃x,d=.str x:=by
 cases d with
 |str x=>exact⟨x,rfl⟩
 |_=>cases h
def Ae {H:Hp}{k:ah}:∀{ds:List PyData}{xs:List V},cY H k ds xs->(∀d∈ds,fm d=true)->xs=(ds.map strOf).map V.str
 | [],xs,h,_=>eg.mp h
 |d::ds,xs,h,hp=>by
  obtain⟨v,r,rfl,t1,t2⟩:=bS.mp h
  obtain⟨x,rfl⟩:=ql (hp d cf)
  rw[eY] at t1
  subst t1
  rw[Ae t2 fun e he=>hp e (cm _ he)]
  rfl
def OD {ns:List Str}{i:Nat}(h:i<ns.length):(ns.map V.str)[i]?=some (.str (ns.getD i "")):=by
 rw[bX,aH h]
 simp[List.getD,h]
def Fz {α β γ:Type}{f:α->β->γ}{as:List α}{bs:List β}{i:Nat}{a:α}{b:β}(c:γ) (h1:i<as.length) (h2:i<bs.length):(List.zipWith f as bs).getD i c=f (as.getD i a) (bs.getD i b):=by
 simp[List.getD,List.getElem?_zipWith,h1,h2]
section
variable {P:aF}{w:ba}{K:PySem.W.Frag}{mg:Str->Option af}{base:Heap}
def kq {H:Hp}{a:ah}{xs:List V}(h:bY K H a xs) (i:Nat) (hi:i<=xs.length):(i=xs.length->(Dc K a).stop i H)/\(i<xs.length->(Dc K a).go i H/\∀y H',(Dc K a).Bk i H y H'->H'=H/\y=xs.getD i .eA):=by
 refine⟨fun e=>⟨xs,h,by omega⟩,fun e=>⟨⟨xs,xs[i],h,by simp[e]⟩,fun y H' q=>?_⟩⟩
 obtain⟨q1,q2⟩:=q
 have:=q2 xs h
 exact⟨q1,by simp[List.getD,this]⟩
def Mh {α:Type}{xs:List α}{i:Nat}{z:α}(h:i<xs.length):xs.take (i+1)=xs.take i++ [xs.getD i z]:=by
 rw[qz]
 congr 1
 simp[List.getD,h]
def scC:bV ["thing"] ["thing"] (av Ic):={}
def SR:(["name","behind"]:List Str).Nodup:=by decide+kernel
def K6 {f:ah}{fd:FuncData}(F:iV K "is_crew" "is_crew" Ic f fd) (T:Txt mg) (DN:Df P w K mg base 1 "is_name" ["thing"] (wR fm)):dO P w K mg base fO 2 f fd ["thing"] (wR jN):=by
 refine F.ok scC (fun vs H Q E h=>?_) (fun cdv A outer s H vs Q E hr h=>?_)
 ·obtain⟨k,d,v,rfl,_⟩:=h
  rfl
 ·obtain⟨k,d,v,rfl,t,hf,q⟩:=h
  obtain⟨tm,hMC⟩:=T.MC
  refine⟨_,ar (cN (PW.pt (kE (fJ (fG (aR fF rfl T.sv aD (ae (pv 0) (ae (gH (v:=.ty "tuple") rfl T.tuple cu rfl) aj)))))
    (lK (fJ (qP qN qN ao (aR bM rfl T.len bB (ae (pv 0) aj)) (fS (v:=.int 4) rfl hMC ⟨tm,rfl⟩))))))
    (aE (bF mY)) bL)
   (ar (cN (fJ (fG (aR (uY rfl) rfl T.all uK (ae (ke (N:=["name"]) rfl (h_ (pv 0)) (fk.closed rfl)
     (fun _ _ _=>aZ (i:=0) (W_ _)) (fun _ _ _=>iK) (fun _ _ _=>cB DN hr (ae (pv 0) aj))) aj))))
    (aE (bF mY)) bL)
   (aE (bF (aR (uY rfl) rfl T.all uK (ae (ke (N:=["name","behind"]) (g:=Kh K 2 (nU (dU 0) (nU (dU 1) EK))) rfl (KH rfl T.zip (ae (pv 0) (ae (gQ yf (pv 0) (iu ao) jk) aj))) (fk.closed rfl)
     (fun _ _ _=>fW rfl (bz (aZ (i:=0) SR) (bz (aZ (i:=1) SR) eV))) (fun _ _ _=>iK) (fun _ _ _=>jI ES (pv 0) (pv 1) (bN _))) aj))))),?_⟩
  refine⟨_,rfl,k,_,_,d,rfl,t,.inr (.inr (.inr (.inl rfl))),_,rfl,?_⟩
  have no:∀H',a_ H H'->jN d=false->Q (.bl false) H':=fun H' s' e=>by have:=q H' s';rw[e] at this;exact this
  refine eG (fun c=>?_) (fun c=>?_)
  ·refine pZ (no H (a_.refl _) ?_)
   cases d with
   |tuple ds=>cases c
   |_=>rfl
  ·obtain⟨ds,rfl⟩:=o_ (d:=d) (by simpa using c)
   obtain⟨a,xs,rfl,hk,ha,mD⟩:=eO.mp t
   have hl:=gK mD
   have Ac:=(Bd.o8 hf).1
   have rK:jN (.tuple ds)=((decide (1<=(ds.length:Int))&&decide ((ds.length:Int)<=4))&&((ds.map fm).all id&&(nh (ds.map strOf)).all id)):=rfl
   refine⟨_,rfl,a,xs,rfl,.inr (bY.of ha),_,_,rfl,rfl,_,rfl,?_⟩
   rw[hl]
   refine eG (fun c1=>?_) (fun c1=>?_)
   ·have c1n:1<=ds.length:=by have:(1:Int)<=(ds.length:Int):=aX c1;omega
    refine⟨_,_,rfl,rfl,_,rfl,?_⟩
    refine eG (fun c2=>?_) (fun c2=>?_)
    ·refine no H (a_.refl _) ?_
     rw[rK,show decide ((ds.length:Int)<=4)=false by simpa using c2,eZ,bj]
    ·have K0:decide ((ds.length:Int)<=4)=true:=by simpa using c2
     have c2n:ds.length<=4:=by have:(ds.length:Int)<=4:=aX K0;omega
     refine⟨_,rfl,a,rfl,⟨xs,bY.of ha⟩,fun D hD=>?_⟩
     refine kO (n:=xs.length) (f:=fun i=>xs.getD i .eA) (fun i ys bW H'=>ys=((ds.take i).map fm).map V.bl/\(∃v,bW=[v])/\a_ H H') hD (by omega) ⟨rfl,⟨none,rfl⟩,aN hD _⟩
      (fun i ys bW H' hi _ iv=>kq (bY.of (iv.2.2 _ _ ha)) i hi) ?_ ?_
     ·rintro i ys bW H' hi hy ⟨e1,⟨v,rfl⟩,s'⟩
      obtain⟨di,Ra,ti⟩:=mP mD (show xs[i]?=some (xs.getD i .eA) by simp[List.getD,hi])
      refine⟨_,rfl,k,di,_,rfl,ti.keep s'.keep,Ac di (mG Ra),fun H5 s5=>⟨s5 _ _ hy,?_,⟨_,rfl⟩,fun b o e=>?_⟩⟩
      ·rw[Mh (z:=PyData.none) (by omega),bE,bE,e1]
       simp[List.getD,Ra]
      ·rw[aV (dj e hD)]
       exact s5 b o (s' b o e)
     ·rintro ys bW H' hy ⟨e1,⟨v,rfl⟩,s'⟩
      rw[cX (by omega)] at e1
      refine⟨D,ds.map fm,rfl,cS.of (by rw[hy,e1]),_,rfl,?_⟩
      refine eG (fun c3=>?_) (fun c3=>?_)
      ·refine no H' s' ?_
       rw[rK,show(ds.map fm).all id=false by simpa using c3,bj,eZ]
      ·have Rb:(ds.map fm).all id=true:=by
        cases hb:(ds.map fm).all id with
        |true=>rfl
        |false=>rw[hb] at c3;exact absurd rfl c3
       have exs:=Ae mD fun d hd=>by
        rw[me] at Rb
        exact Rb _ (cT hd)
       generalize Q6:ds.map strOf=ns at*
       have hnl:ns.length=ds.length:=by rw[<-Q6,aq]
       subst exs
       have ZZ:=s' _ _ ha
       have Xf:iU (ns.map V.str) (some 1) none=(ns.drop 1).map V.str:=by rw[Hu (by rw[aq];omega),Nr]
       have Vu:HT.hZ (ns.map V.str).length 0 (some 1)=1:=by
        have:=HT.lh (ns.map V.str).length 0 1
        rw[show((1:Nat):Int)=1 from rfl] at this
        rw[this,aq];omega
       refine⟨_,rfl,_,rfl,_,rfl,a,_,rfl,bY.of ZZ,fun z=>by rw[Vu] at z;exact absurd z.1 (by decide),fun p hp=>?_⟩
       rw[Xf]
       have Vv:=aN hp (.tup ((ns.drop 1).map V.str)) _ _ ZZ
       have Vw:(upd H' p (.tup ((ns.drop 1).map V.str))) p=some (.tup ((ns.drop 1).map V.str)):=az
       have sP:a_ H' (upd H' p (.tup ((ns.drop 1).map V.str))):=aN hp _
       generalize upd H' p (.tup ((ns.drop 1).map V.str))=Hp' at*
       have hdl:(ns.drop 1).length=ns.length-1:=dB
       refine⟨a,p,rfl,⟨_,bY.of Vv⟩,⟨_,bY.of Vw⟩,fun D2 Xg=>?_⟩
       refine Fh (n:=ns.length-1) (u:=fun i=>.str (ns.getD i "")) (v:=fun i=>.str ((ns.drop 1).getD i "")) (fun i ys iE J=>ys=((nh ns).take i).map V.bl/\(∃v w,iE=[v,w])/\a_ Hp' J) Xg (by omega) ⟨rfl,⟨none,none,rfl⟩,aN Xg _⟩
        (fun i ys iE J hi _ iv=>⟨fun e=>⟨_,_,bY.of (iv.2.2 _ _ Vv),bY.of (iv.2.2 _ _ Vw),.inr (by rw[aq];omega)⟩,fun lt=>⟨⟨_,_,.str (ns.getD i ""),.str ((ns.drop 1).getD i ""),bY.of (iv.2.2 _ _ Vv),bY.of (iv.2.2 _ _ Vw),OD (by omega),OD (by omega)⟩,fun x J' yl=>?_⟩⟩) ?_ ?_
       ·obtain⟨TT,x1,y1,f1,f2,f3,f4,f5⟩:=yl
        have g1:=f4 _ (bY.of (iv.2.2 _ _ Vv))
        have g2:=f5 _ (bY.of (iv.2.2 _ _ Vw))
        rw[OD (by omega)] at g1 g2
        cases g1;cases g2
        exact⟨TT,f1,f2,f3⟩
       ·rintro i ys iE J TT hi JT ⟨e2,⟨v1,v2,rfl⟩,s2⟩ Z0
        refine⟨TT,_,rfl,bY.of az,rfl,_,_,rfl,_,_,rfl,rfl,?_⟩
        have nD:D2≠TT:=fun z=>by rw[z,Z0] at JT;cases JT
        refine⟨_,rfl,_,rfl,_,_,rfl,rfl,by rw[aV nD];exact JT,?_,⟨_,_,rfl⟩,fun b o e=>?_⟩
        ·rw[Mh (z:=false) (by rw[nh,List.length_zipWith,hdl];omega),bE,e2]
         congr 1
         show[V.bl (Xe _ _)]=[V.bl _]
         rw[nh,Fz _ (by omega) (by omega)]
        ·have e3:=s2 b o e
         rw[aV (dj e Xg),aV (dj e3 Z0)];exact e3
       ·rintro ys iE J JT ⟨e2,⟨v1,v2,rfl⟩,s2⟩
        rw[cX (by rw[nh,List.length_zipWith];omega)] at e2
        refine⟨D2,nh ns,rfl,cS.of (by rw[JT,e2]),?_⟩
        have:=q J (s'.trans (sP.trans s2))
        rw[rK,c1,K0,Rb,ck,ck,ck] at this
        exact this
   ·refine⟨_,rfl,pZ (no H (a_.refl _) ?_)⟩
    rw[rK,show decide (1<=(ds.length:Int))=false by simpa using c1,bj,bj]
end
def fk.one {X:Cx}{scope:Scope}{nm:List (Str×NameKind)}{v fr:Str}{j:Nat}(hN:X.N[j]?=some fr) (hk:scope.kind=.function) (hn:scope.names=nm) (h1:X.env.scope.names.lookup fr=some .cell) (c1:∀y∈nm,y.2≠.cell:=by decide+kernel) (c2:∀y∈nm,y.2=.local->nm.lookup y.1=some .local:=by decide+kernel)
  (c3:∀y∈nm,y.2=.free->y.1=fr:=by decide+kernel) (c4:(fr,NameKind.free)∈nm:=by decide+kernel) (c5:nm.lookup fr=some .free:=by decide+kernel):fk X scope [v,fr] [none,some j] where
 kind:=hk
 qc:=by rw[hn];exact c1
 own:=by rw[hn];exact c2
 out:=by
  rw[hn]
  intro y hy e
  rw[c3 y hy e]
  exact .inl h1
 len:=rfl
 free:=by
  intro i j' x e1 e2
  rw[hn]
  match i,e1,e2 with
  |1,e1,e2=>cases e1;cases e2;exact⟨hN,c4,c5⟩
  |n+2,e1,e2=>simp at e1
section
variable {P:aF}{w:ba}{K:PySem.W.Frag}{mg:Str->Option af}{base:Heap}
def jz:PyData->Bool
 | .int i=>decide (1<=i)&&decide (i<=1000000000)
 |_=>false
def Xh:bV ["thing"] ["thing"] (av Ie):={}
def K7 {f:ah}{fd:FuncData}(F:iV K "is_measure" "is_measure" Ie f fd) (T:Txt mg) (DW:Df P w K mg base 1 "is_whole" ["thing"] (wR vt)):dO P w K mg base fO 2 f fd ["thing"] (wR jz):=by
 refine F.ok Xh (fun vs H Q E h=>?_) (fun cdv A outer s H vs Q E hr h=>?_)
 ·obtain⟨k,d,v,rfl,_⟩:=h
  rfl
 ·obtain⟨k,d,v,rfl,t,hf,q⟩:=h
  obtain⟨th,Xb⟩:=T.LG
  refine⟨_,aE (bF (jB (cB DW hr (ae (pv 0) aj)) (lM (qO qN qN ao (pv 0) (fS (v:=.int 1000000000) rfl Xb ⟨th,rfl⟩))))),?_⟩
  refine⟨_,rfl,k,d,v,rfl,t,hf,fun H1 s1=>⟨_,rfl,?_⟩⟩
  refine eG (fun c=>?_) (fun c=>?_)
  ·cases d with
   |int i=>
    rw[i9] at t
    subst t
    refine⟨_,rfl,_,_,rfl,rfl,_,rfl,?_⟩
    have q':=q H1 s1
    refine eG (fun c1=>?_) (fun c1=>?_)
    ·refine⟨_,_,rfl,rfl,?_⟩
     rw[show jz (.int i)=decide (i<=1000000000) by show(_&&_)=_;rw[c1,ck]] at q'
     exact q'
    ·rw[show jz (.int i)=false by show(_&&_)=_;rw[show decide (1<=i)=false by simpa using c1,bj]] at q'
     exact q'
   |_=>cases c
  ·have e:jz d=false:=by
    cases d with
    |int i=>exact absurd rfl c
    |_=>rfl
   have q':=q H1 s1
   rw[e] at q'
   exact q'
def iW:PyData->List Str
 | .tuple ds=>ds.map strOf
 |_=>[]
def gx:PyData->Bool
 | .tuple [f,s,t,o,c]=>(jN f&&(jN s&&decide ((iW f).length=(iW s).length)))&&(!((iW f).map fun n=>decide (n∈iW s)).any id&&(jz t&&(jz o&&jz c)))
 |_=>false
def Cc {ds:List PyData}(h:ds.length≠5):gx (.tuple ds)=false:=by
 match ds,h with
 | [],_=>rfl
 | [_],_=>rfl
 | [_,_],_=>rfl
 | [_,_,_],_=>rfl
 | [_,_,_,_],_=>rfl
 | [_,_,_,_,_],h=>exact absurd rfl h
 |_::_::_::_::_::_::_,_=>rfl
def Xi {ds:List PyData}(h:ds.length=5):∃a b c d e,ds=[a,b,c,d,e]:=by
 match ds,h with
 | [a,b,c,d,e],_=>exact⟨a,b,c,d,e,rfl⟩
def vD {d:PyData}(h:jN d=true):∃ns:List Str,d=.tuple (cj ns)/\iW d=ns/\1<=ns.length/\ns.length<=4/\∀n∈ns,fm (.str n)=true:=by
 cases d with
 |tuple ds=>
  have h':((decide (1<=(ds.length:Int))&&decide ((ds.length:Int)<=4))&&((ds.map fm).all id&&(nh (ds.map strOf)).all id))=true:=h
  simp only[cI,qy] at h'
  obtain⟨⟨h1,h2⟩,h3,h4⟩:=h'
  have all:∀d∈ds,fm d=true:=fun d hd=>by
   rw[me] at h3
   exact h3 _ (cT hd)
  refine⟨ds.map strOf,?_,rfl,by rw[aq];omega,by rw[aq];omega,fun n hn=>?_⟩
  ·congr 1
   unfold cj
   rw[nP]
   have:∀d∈ds,((PyData.str∘strOf) d)=d:=fun d hd=>by
    obtain⟨x,rfl⟩:=ql (all d hd)
    rfl
   rw[jL this,List.map_id']
  ·obtain⟨d,hd,rfl⟩:=cO.mp hn
   have:=all d hd
   obtain⟨x,rfl⟩:=ql this
   exact this
 |_=>cases h
def Xj:List (Str×NameKind):=[(".0",.local),("name",.local),("second",.free)]
def Xk:(["name","second"]:List Str).Nodup:=by decide+kernel
def FA:bV ["thing","first","second","time","other","course"] ["thing"] (av Cb):={}
def Ig {f:ah}{fd:FuncData}(F:iV K "is_piece" "is_piece" Cb f fd) (T:Txt mg) (DC:Df P w K mg base 2 "is_crew" ["thing"] (wR jN)) (DM:Df P w K mg base 2 "is_measure" ["thing"] (wR jz)):dO P w K mg base fO 3 f fd ["thing"] (wR gx):=by
 refine F.ok FA (fun vs H Q E h=>?_) (fun cdv A outer s H vs Q E hr h=>?_)
 ·obtain⟨k,d,v,rfl,_⟩:=h
  rfl
 ·obtain⟨k,d,v,rfl,t,hf,q⟩:=h
  refine⟨_,ar (cN (PW.pt (kE (fJ (fG (aR fF rfl T.sv aD (ae (pv 0) (ae (gH (v:=.ty "tuple") rfl T.tuple cu rfl) aj)))))
    (lK (br ml (aR bM rfl T.len bB (ae (pv 0) aj)) ao (bN _)))))
    (aE (bF mY)) bL)
   (ar (iD (pv 0) (fW rfl (bz (aZ (i:=1) FA.nd) (bz (aZ (i:=2) FA.nd rfl (Or.inr rfl)) (bz (aZ (i:=3) FA.nd) (bz (aZ (i:=4) FA.nd) (bz (aZ (i:=5) FA.nd) eV)))))))
   (ar (cN (PW.pt (kE (fJ (fG (cB DC hr (ae (pv 1) aj)))) (kE (fJ (fG (cB DC hr (ae (pv 2) aj))))
    (lK (br ml (aR bM rfl T.len bB (ae (pv 1) aj)) (aR bM rfl T.len bB (ae (pv 2) aj)) (bN _))))))
    (aE (bF mY)) bL)
   (ar (cN (fG (aR (Ht rfl) rfl T.any (by decide+kernel) (ae (ke (N:=["name","second"]) rfl (h_ (pv 1)) (fk.one (v:="name") (fr:="second") (j:=2) (nm:=Xj) rfl rfl rfl rfl)
     (fun _ _ _=>aZ (i:=0) Xk) (fun _ _ _=>iK) (fun _ _ _=>jI (Hl hr.units) (pv 0) (pv 1) (by with_unfolding_all rfl))) aj)))
    (aE (bF mY)) bL)
   (aE (bF (jB (cB DM hr (ae (pv 3) aj)) (jB (cB DM hr (ae (pv 4) aj)) (lM (cB DM hr (ae (pv 5) aj)))))))))),?_⟩
  refine⟨_,rfl,k,_,_,d,rfl,t,.inr (.inr (.inr (.inl rfl))),_,rfl,?_⟩
  have no:∀H',a_ H H'->gx d=false->Q (.bl false) H':=fun H' s' e=>by have:=q H' s';rw[e] at this;exact this
  refine eG (fun c=>?_) (fun c=>?_)
  ·refine pZ (no H (a_.refl _) ?_)
   cases d with
   |tuple ds=>cases c
   |_=>rfl
  ·obtain⟨ds,rfl⟩:=o_ (d:=d) (by simpa using c)
   obtain⟨a,xs,rfl,hk,ha,mD⟩:=eO.mp t
   have hl:=gK mD
   refine⟨_,rfl,a,xs,rfl,.inr (bY.of ha),rfl,_,rfl,?_⟩
   refine eG (fun c1=>?_) (fun c1=>?_)
   ·refine no H (a_.refl _) (Cc fun z=>HS c1 (by rw[hl,z];rfl))
   ·have l5:ds.length=5:=by
     have e5:V.int (xs.length:Int)=V.int 5:=v_eq c1
     injection e5 with e5
     omega
    obtain⟨d1,d2,d3,d4,d5,rfl⟩:=Xi l5
    obtain⟨x1,r1,rfl,t1,mD⟩:=bS.mp mD
    obtain⟨x2,r2,rfl,t2,mD⟩:=bS.mp mD
    obtain⟨x3,r3,rfl,t3,mD⟩:=bS.mp mD
    obtain⟨x4,r4,rfl,t4,mD⟩:=bS.mp mD
    obtain⟨x5,r5,rfl,t5,mD⟩:=bS.mp mD
    rw[eg] at mD
    subst mD
    have Ac:=(Bd.o8 hf).1
    have rK:gx (.tuple [d1,d2,d3,d4,d5])=((jN d1&&(jN d2&&decide ((iW d1).length=(iW d2).length)))&&(!((iW d1).map fun n=>decide (n∈iW d2)).any id&&(jz d3&&(jz d4&&jz d5)))):=rfl
    refine⟨_,rfl,a,_,rfl,bY.of ha,rfl,_,_,rfl,_,_,rfl,_,_,rfl,_,_,rfl,_,_,rfl,rfl,?_⟩
    refine⟨_,rfl,k,d1,x1,rfl,t1,Ac d1 (by simp),fun H1 s1=>⟨_,rfl,?_⟩⟩
    refine eG (fun c2=>?_) (fun c2=>?_)
    ·refine pZ (no H1 s1 ?_)
     rw[rK,show jN d1=false by simpa using c2,bj,bj]
    have K0:jN d1=true:=by simpa using c2
    refine⟨_,rfl,k,d2,x2,rfl,t2.keep s1.keep,Ac d2 (by simp),fun H2 s2=>⟨_,rfl,?_⟩⟩
    have s12:=s1.trans s2
    refine eG (fun c3=>?_) (fun c3=>?_)
    ·refine pZ (no H2 s12 ?_)
     rw[rK,show jN d2=false by simpa using c3,bj,eZ,bj]
    have Rb:jN d2=true:=by simpa using c3
    obtain⟨Af,rfl,e1,l1,m1,nm1⟩:=vD K0
    obtain⟨Gj,rfl,e2,l2,m2,nm2⟩:=vD Rb
    obtain⟨a1,y1,rfl,k1,Xl,Z1⟩:=eO.mp t1
    obtain⟨a2,y2,rfl,k2,ha2,JT⟩:=eO.mp t2
    have f1:y1.length=Af.length:=by rw[gK Z1,cj,aq]
    have f2:y2.length=Gj.length:=by rw[gK JT,cj,aq]
    rw[e1,e2,K0,Rb,ck,ck] at rK
    refine⟨_,rfl,a1,y1,rfl,.inr (bY.of (s12 _ _ Xl)),_,rfl,a2,y2,rfl,.inr (bY.of (s12 _ _ ha2)),rfl,_,rfl,?_⟩
    rw[f1,f2]
    refine eG (fun c4=>?_) (fun c4=>?_)
    ·refine no H2 s12 ?_
     rw[rK,show decide (Af.length=Gj.length)=false from bC fun z=>HS c4 (by rw[z]),bj]
    have Z2:Af.length=Gj.length:=by
     have e5:V.int (Af.length:Int)=V.int (Gj.length:Int):=v_eq c4
     injection e5 with e5
     omega
    rw[aJ Z2,ck] at rK
    have Xm:∀{J:Hp},a_ H2 J->Tells J k (.tuple (cj Gj)) (.ref a2):=fun sJ=>t2.keep (s12.trans sJ).keep
    have Xn:PyData.canLayAll0 (cj Gj)=true:=Fc (Bd.o8 (Ac _ (by simp:PyData.tuple (cj Gj)∈_))).1
    refine⟨_,rfl,a1,rfl,⟨y1,bY.of (s12 _ _ Xl)⟩,fun D hD=>?_⟩
    refine kO (n:=y1.length) (f:=fun i=>y1.getD i .eA) (fun i ys bW J=>ys=((Af.take i).map fun n=>decide (n∈Gj)).map V.bl/\(∃v,bW=[v,some (.ref a2)])/\a_ H2 J) hD (by omega) ⟨rfl,⟨none,rfl⟩,aN hD _⟩
     (fun i ys bW J hi _ iv=>kq (bY.of (iv.2.2 _ _ (s12 _ _ Xl))) i hi) ?_ ?_
    ·rintro i ys bW J hi hy ⟨q1,⟨v,rfl⟩,sJ⟩
     obtain⟨di,Ra,ti⟩:=mP Z1 (show y1[i]?=some (y1.getD i .eA) by simp[List.getD,hi])
     have OE:i<Af.length:=by omega
     have edi:di=.str (Af.getD i ""):=by
      unfold cj at Ra
      rw[bX,aH OE] at Ra
      have:=(cK Ra).symm
      rw[this];simp[List.getD,OE]
     subst edi
     have tn:=eY.mp ti
     rw[tn]
     have Rc:Af.getD i ""∈Af:=by
      rw[show Af.getD i ""=Af[i] by simp[List.getD,OE]]
      exact cA OE
     have Xo:qX (.str (Af.getD i "")):=(Bd.o8 (Ac _ (by simp:PyData.tuple (cj Af)∈_))).1 _ (cT Rc)
     refine⟨_,rfl,_,rfl,k,k,.str (Af.getD i ""),cj Gj,eY.mpr rfl,.inl (Xm sJ),qX.lay Xo,Xn,?_⟩
     refine⟨hy,?_,⟨_,rfl⟩,fun b o e=>?_⟩
     ·rw[Mh (z:=("":Str)) OE,bE,bE,q1]
      congr 1
      show[V.bl ((cj Gj).any fun z=>PyData.eqv z (.str (Af.getD i "")))]=_
      rw[Fx]
      rfl
     ·rw[aV (dj e hD)];exact sJ b o e
    ·rintro ys bW J hy ⟨q1,⟨v,rfl⟩,sJ⟩
     rw[cX (by omega)] at q1
     have OF:=s12.trans sJ
     refine⟨D,Af.map fun n=>decide (n∈Gj),rfl,cS.of (by rw[hy,q1]),_,rfl,?_⟩
     refine eG (fun c5=>?_) (fun c5=>?_)
     ·refine no J OF ?_
      rw[rK,c5];rfl
     have Xq:(Af.map fun n=>decide (n∈Gj)).any id=false:=by simpa using c5
     rw[Xq,Bool.not_false,ck] at rK
     refine⟨_,rfl,k,d3,x3,rfl,t3.keep OF.keep,Ac d3 (by simp),fun J1 u1=>⟨_,rfl,?_⟩⟩
     refine eG (fun c6=>?_) (fun c6=>?_)
     ·refine⟨_,rfl,k,d4,x4,rfl,t4.keep (OF.trans u1).keep,Ac d4 (by simp),fun J2 u2=>⟨_,rfl,?_⟩⟩
      refine eG (fun c7=>?_) (fun c7=>?_)
      ·refine⟨_,rfl,k,d5,x5,rfl,t5.keep ((OF.trans u1).trans u2).keep,Ac d5 (by simp),fun J3 u3=>?_⟩
       have:=q J3 (((OF.trans u1).trans u2).trans u3)
       rw[rK,c6,c7,ck,ck] at this
       exact this
      ·have:=q J2 ((OF.trans u1).trans u2)
       rw[rK,show jz d4=false by simpa using c7,bj,eZ] at this
       exact this
     ·have:=q J1 (OF.trans u1)
      rw[rK,show jz d3=false by simpa using c6,bj] at this
      exact this
end
abbrev Xr:Stmt:=top 18
abbrev Xs:Stmt:=top 26
def Ag (m n:Nat):Nat.gcd n (m %n)=Nat.gcd m n:=by
 rw[RF n (m %n),<-Nat.gcd_rec n m,RF]
def ur (m n:Nat):((m:Int) %(n:Int))=((m %n:Nat):Int):=(Int.natCast_emod m n).symm
def DQ (t:Int):(if t<0 then-t else t)=(t.natAbs:Int):=by
 split<;>omega
def dS (t b:Int):Int:=t/(Nat.gcd t.natAbs b.natAbs:Int)
def dD (t b:Int):Int:=b/(Nat.gcd t.natAbs b.natAbs:Int)
def DU {t b:Int}(h:0<b):0<Nat.gcd t.natAbs b.natAbs:=Nat.gcd_pos_of_pos_right _ (by omega)
def Ih {m:Nat}(h:m<2^150):(m:Int)<2^200:=by
 have:m<2^200:=bT h (Nat.pow_le_pow_right (by decide) (by decide))
 exact_mod_cast this
section
variable {P:aF}{w:ba}{K:PySem.W.Frag}{mg:Str->Option af}{base:Heap}
def Ii:Sp:=fun vs H Q _=>∃t b:Int,vs=[.int t,.int b]/\0<b/\b.natAbs<2^150/\t.natAbs<2^150/\∀p,H p=none->Q (.ref p) (upd H p (.tup [.int (dS t b),.int (dD t b)]))
def OG:bV ["top","bottom","divisor","rest"] ["top","bottom"] (av Xr):={}
def sH:bootBuiltins "abs"=some (.builtin "abs"):=by decide+kernel
def SS {f:ah}{fd:FuncData}(F:iV K "fraction" "fraction" Xr f fd) (T:Txt mg):dO P w K mg base fO 1 f fd ["top","bottom"] Ii:=by
 refine F.ok OG (fun vs H Q E h=>?_) (fun cdv A outer s H vs Q E hr h=>?_)
 ·obtain⟨t,b,rfl,_⟩:=h
  rfl
 ·obtain⟨t,b,rfl,b0,b1,t1,q⟩:=h
  refine⟨_,ar (x6 (i:=2) (j:=3) rfl OG.nd rfl rfl (by decide) rfl rfl (ae (pv 1) (ae (aR uT rfl T.abs sH (ae (pv 0) aj)) aj)) rfl)
   (ar (zC eR (br xg (pv 3) ao (bN _)) (aE (x6 (i:=2) (j:=3) rfl OG.nd rfl rfl (by decide) rfl rfl (ae (pv 3) (ae (bR mL (pv 2) (pv 3)) aj)) rfl)))
   (aE (bF (bO (ae (bR oq (pv 0) (pv 2)) (ae (bR oq (pv 1) (pv 2)) aj)))))),?_⟩
  refine⟨_,rfl,_,rfl,_,rfl,_,_,rfl,?_⟩
  refine zD (fun bW H'=>H'=H/\∃m n:Nat,bW=[some (.int t),some (.int b),some (.int m),some (.int n)]/\0<m/\Nat.gcd m n=Nat.gcd t.natAbs b.natAbs/\m<2^150/\n<2^150)
   (fun bW _=>match bW with| [_,_,_,some (.int n)]=>n.toNat|_=>0) ?_ ?_ ?_
  ·refine⟨rfl,b.natAbs,t.natAbs,?_,by omega,RF _ _,b1,t1⟩
   show[some (V.int t),some (V.int b),some (V.int b),some (V.int (if t<0 then-t else t))]=_
   rw[DQ,show((b.natAbs:Nat):Int)=b by omega]
  ·rintro bW H' ⟨rfl,m,n,rfl,m0,hg,hm,hn⟩
   refine⟨_,rfl,_,_,rfl,rfl,_,rfl,?_⟩
   refine eG (fun c=>?_) (fun c=>?_)
   ·have n0:0<n:=by have:(0:Int)<(n:Int):=aX c;omega
    refine⟨_,rfl,_,rfl,_,rfl,_,_,rfl,rfl,by omega,_,_,rfl,⟨rfl,n,m %n,?_,n0,by rw[Ag];exact hg,hn,cR (Nat.mod_le _ _) hm⟩,?_⟩
    ·show[some (V.int t),some (V.int b),some (V.int (n:Int)),some (V.int ((m:Int) %(n:Int)))]=_
     rw[ur]
    ·show((m:Int) %(n:Int)).toNat<(n:Int).toNat
     rw[ur]
     have:=Nat.mod_lt m n0
     omega
   ·have n0:n=0:=by have: ¬(0:Int)<(n:Int):=by simpa using c
                    omega
    subst n0
    rw[Nat.gcd_zero_right] at hg
    have bd:(0:Int)<(m:Int)/\(m:Int)<2^200:=⟨by omega,Ih hm⟩
    refine⟨_,rfl,_,rfl,_,_,rfl,rfl,bd,_,rfl,_,rfl,_,_,rfl,rfl,bd,dF,fun p hp=>?_⟩
    have:=q p hp
    unfold dS dD at this
    rw[<-hg] at this
    exact this
  ·rintro bW H' Q1 Q2 imp ⟨v,hv,i,j,e1,e2,b',e3,h⟩
   exact⟨v,hv,i,j,e1,e2,b',e3,imp _ _ h⟩
def SU (K:PySem.W.Frag):Sp:=fun vs H Q _=>∃(a:ah) (x y:V) (t o c:Int),vs=[.ref a]/\bY K H a [x,y,.int t,.int o,.int c]/\0<c/\c.natAbs<2^150/\(o-t).natAbs<2^150/\∀p,H p=none->Q (.ref p) (upd H p (.tup [.int (dS (o-t) c),.int (dD (o-t) c)]))
def FC:bV ["piece","first","second","time","other","course"] ["piece"] (av Xs):={}
def SV {f:ah}{fd:FuncData}(F:iV K "margin" "margin" Xs f fd) (DF:Df P w K mg base 1 "fraction" ["top","bottom"] Ii):dO P w K mg base fO 2 f fd ["piece"] (SU K):=by
 refine F.ok FC (fun vs H Q E h=>?_) (fun cdv A outer s H vs Q E hr h=>?_)
 ·obtain⟨a,x,y,t,o,c,rfl,_⟩:=h
  rfl
 ·obtain⟨a,x,y,t,o,c,rfl,hS,c0,c1,d1,q⟩:=h
  refine⟨_,ar (iD (pv 0) (fW rfl (bz (aZ (i:=1) FC.nd) (bz (aZ (i:=2) FC.nd) (bz (aZ (i:=3) FC.nd) (bz (aZ (i:=4) FC.nd) (bz (aZ (i:=5) FC.nd) eV)))))))
   (aE (bF (cB DF hr (ae (bR lO (pv 4) (pv 3)) (ae (pv 5) aj))))),?_⟩
  refine⟨_,rfl,a,_,rfl,hS,rfl,_,_,rfl,_,_,rfl,_,_,rfl,_,_,rfl,_,_,rfl,rfl,?_⟩
  exact⟨_,rfl,_,rfl,_,_,rfl,rfl,_,rfl,o-t,c,rfl,c0,c1,d1,q⟩
end
end K12
namespace K12
open PySem L2 HT
def xK (t b:Int):((Nat.gcd t.natAbs b.natAbs:Nat):Int)∣t:=Int.natAbs_dvd_natAbs.mp (by rw[zx];exact Nat.gcd_dvd_left _ _)
def xM (t b:Int):((Nat.gcd t.natAbs b.natAbs:Nat):Int)∣b:=Int.natAbs_dvd_natAbs.mp (by rw[zx];exact Nat.gcd_dvd_right _ _)
def yB {t b:Int}(hb:0<b):dS t b*b=t*dD t b:=by
 unfold dS dD
 have g0:(0:Int)<((Nat.gcd t.natAbs b.natAbs:Nat):Int):=by have:=DU (t:=t) hb;omega
 obtain⟨x,hx⟩:=xK t b
 obtain⟨y,hy⟩:=xM t b
 generalize ((Nat.gcd t.natAbs b.natAbs:Nat):Int)=g at*
 subst hx hy
 rw[qI _ (by omega),qI _ (by omega)]
 grind
def mw {t b:Int}(hb:0<b):0<dD t b:=by
 unfold dD
 have g0:(0:Int)<((Nat.gcd t.natAbs b.natAbs:Nat):Int):=by have:=DU (t:=t) hb;omega
 obtain⟨y,hy⟩:=xM t b
 generalize ((Nat.gcd t.natAbs b.natAbs:Nat):Int)=g at*
 subst hy
 rw[qI _ (by omega)]
 exact Int.pos_of_mul_pos_right hb g0
def Ah {k t b:Int}(hk:0<k):dS (k*t) (k*b)=dS t b/\dD (k*t) (k*b)=dD t b:=by
 unfold dS dD
 have e:((Nat.gcd (k*t).natAbs (k*b).natAbs:Nat):Int)=k*((Nat.gcd t.natAbs b.natAbs:Nat):Int):=by
  rw[J0,J0,Nat.gcd_mul_left,Int.natCast_mul]
  congr 1
  omega
 rw[e,QW _ _ hk,QW _ _ hk]
 exact⟨rfl,rfl⟩
def MH {a b c d:Int}(hb:0<b) (hd:0<d) (e:a*d=c*b):dS a b=dS c d/\dD a b=dD c d:=by
 obtain⟨h1,h2⟩:=Ah (t:=a) (b:=b) hd
 obtain⟨h3,h4⟩:=Ah (t:=c) (b:=d) hb
 have e1:d*a=b*c:=by rw[RG,e,RG]
 have e2:d*b=b*d:=RG _ _
 rw[<-h1,<-h2,e1,e2,h3,h4]
 exact⟨rfl,rfl⟩
def K8 {b:Int}(hb:0<b):dS 0 b=0/\dD 0 b=1:=by
 obtain⟨h1,h2⟩:=MH (a:=0) (b:=b) (c:=0) (d:=1) hb (by decide) (by omega)
 exact⟨h1.trans (by decide),h2.trans (by decide)⟩
def vE {t b:Int}:(dS t b).natAbs<=t.natAbs:=Mi _ _
def vF {t b:Int}:(dD t b).natAbs<=b.natAbs:=Mi _ _
abbrev Up (l:List Str):Prop:=l.Pairwise fun a b=>dQ a b=true
def ot {a b:Str}(h:dQ a b=true):dQ b a=false:=by
 cases e:dQ b a with
 |false=>rfl
 |true=>have:=sg h e;rw[yy] at this;cases this
def Ij {a b:Str}(h:dQ a b=true):a≠b:=fun z=>by rw[z,yy] at h;cases h
def ou {a b:List Str}(ha:Up a) (hb:Up b) (p:a.Perm b):a=b:=
 Nt (fun x y _ _ h1 h2=>by rw[ot h1] at h2;cases h2) ha hb p
def Up.nodup {l:List Str}(h:Up l):l.Nodup:=h.imp fun z=>Ij z
def xN:∀{l:List Str}{p:Str},PyProof.Rows.risingS p l=true->(p::l).Nodup->(p::l).Pairwise fun a b=>dQ a b=true
 | [],p,_,_=>by simp
 |x::l,p,h,nd=>by
  have h':=(cI _ _▸h:_/\_)
  have Vx:=iN.mp nd
  have ih:=xN h'.2 Vx.2
  have px:dQ p x=true:=by
   have n:p≠x:=fun z=>Vx.1 (z▸cf)
   rcases um n with z|z
   ·exact z
   ·have:=h'.1
    rw[PyProof.Rows.ltCps_eq] at this
    unfold dQ at z
    rw[z] at this
    cases this
  refine zy.mpr ⟨fun y hy=>?_,ih⟩
  rcases aC.mp hy with rfl|hy
  ·exact px
  ·exact sg px ((zy.mp ih).1 y hy)
def pd {l:List Str}(h:PyProof.Rows.sortedS l=true) (nd:l.Nodup):l.Pairwise fun a b=>dQ a b=true:=by
 cases l with
 |nil=>exact .nil
 |cons x l=>exact xN h nd
structure jO where
 a:List Str
 b:List Str
 t:Int
 o:Int
 c:Int
def jD (H:Hp) (r:ah) (p:jO):Prop:=∃a b,H r=some (.tup [.ref a,.ref b,.int p.t,.int p.o,.int p.c])/\H a=some (.tup (p.a.map V.str))/\H b=some (.tup (p.b.map V.str))
def jD.up {H H':Hp}{r:ah}{p:jO}(h:jD H r p) (s:∀b xs,H b=some (.tup xs)->H' b=some (.tup xs)):jD H' r p:=by
 obtain⟨a,b,h1,h2,h3⟩:=h
 exact⟨a,b,s _ _ h1,s _ _ h2,s _ _ h3⟩
def jD.same {H H':Hp}{r:ah}{p:jO}(h:jD H r p) (s:a_ H H'):jD H' r p:=h.up fun _ _ e=>s _ _ e
structure Cd (a:List Str):Prop where
 l1:1<=a.length
 l4:a.length<=4
 ok:∀n∈a,okN n
structure ig (p:jO):Prop where
 a:Cd p.a
 b:Cd p.b
 t1:1<=p.t
 t9:p.t<=1000000000
 o1:1<=p.o
 o9:p.o<=1000000000
 c1:1<=p.c
 c9:p.c<=1000000000
structure f_ (p:jO):Prop where
 a:Up p.a
 b:Up p.b
 no:∀n∈p.a,n∉p.b
 le:p.a.length=p.b.length
def exc (a:List Str) (m y:Str):List Str:=a.filter (fun n=>!decide (n=m))++ [y]
def wU (a:List Str) (m y:Str) (c:List Str):Prop:=c.Perm (exc a m y)/\Up c
def wU.uniq {a c d:List Str}{m y:Str}(h:wU a m y c) (k:wU a m y d):c=d:=ou h.2 k.2 (h.1.trans k.1.symm)
def kr {a:List Str}{m y x:Str}:x∈exc a m y↔(x∈a/\x≠m)\/x=y:=by
 unfold exc
 rw[c_,dz,bU]
 simp
def sL {a:List Str}{m y:Str}(h:a.Nodup) (hy:y∉a):(exc a m y).Nodup:=by
 unfold exc
 rw[qA]
 refine⟨h.filter _,by simp,fun x hx z hz=>?_⟩
 rw[bU.mp hz]
 rintro rfl
 exact hy (dz.mp hx).1
def uv {a c:List Str}{m y:Str}(h:a.Nodup) (hy:y∉a) (p:c.Perm (exc a m y)) (s:PyProof.Rows.sortedS c=true):wU a m y c:=⟨p,pd s (p.nodup_iff.mpr (sL h hy))⟩
structure Xp (p q:jO) (m y:Str):Prop where
 hm:m∈p.a
 hy:y∈p.b
 a:wU p.a m y q.a
 b:wU p.b y m q.b
def lZ {a b:List Str}(ha:a.Nodup) (hb:b.Nodup) (h:∀x,x∈a↔x∈b):a.Perm b:=(List.perm_ext_iff_of_nodup ha hb).mpr h
def Ce {a:List Str}(h:a.Nodup) {m:Str}{f:Str->Bool}(hm:m∈a) (hf:∀x∈a,f x=true↔x=m):a.filter f=[m]:=by
 have hn:(a.filter f).Nodup:=h.filter _
 have hp:(a.filter f).Perm [m]:=lZ hn (by simp) fun x=>by
  rw[dz,bU]
  exact⟨fun z=>(hf x z.1).mp z.2,fun z=>z▸⟨hm,(hf m hm).mpr rfl⟩⟩
 exact List.perm_singleton.mp hp
def gF (a b:List Str):List Str:=a.filter fun n=>!decide (n∈b)
def rj {a b:List Str}(h:a.Nodup) {m:Str}(hm:m∈a) (hf:∀x∈a,x∉b↔x=m):gF a b=[m]:=Ce h hm fun x hx=>by rw[<-hf x hx];simp
def pf {a b:List Str}{m:Str}(e:gF a b=[m]):m∈a/\m∉b/\∀x∈a,x∉b->x=m:=by
 have hm:m∈gF a b:=by rw[e];simp
 have h:=dz.mp hm
 refine⟨h.1,by simpa using h.2,fun x hx hn=>?_⟩
 have:x∈gF a b:=dz.mpr ⟨hx,by simpa using hn⟩
 rw[e] at this
 exact bU.mp this
def Xp.diff {p q:jO}{m y:Str}(P:f_ p) (x:Xp p q m y):gF p.a q.a=[m]/\gF q.a p.a=[y]/\gF p.b q.b=[y]/\gF q.b p.b=[m]:=by
 have my:m≠y:=fun z=>P.no _ x.hm (z▸x.hy)
 have SW:y∉p.a:=fun z=>P.no _ z x.hy
 have SX:m∉p.b:=P.no _ x.hm
 have e1:∀z,z∈q.a↔(z∈p.a/\z≠m)\/z=y:=fun z=>by rw[x.a.1.mem_iff,kr]
 have e2:∀z,z∈q.b↔(z∈p.b/\z≠y)\/z=m:=fun z=>by rw[x.b.1.mem_iff,kr]
 refine⟨rj P.a.nodup x.hm fun z hz=>?_,rj x.a.2.nodup ((e1 y).mpr (.inr rfl)) fun z hz=>?_,rj P.b.nodup x.hy fun z hz=>?_,rj x.b.2.nodup ((e2 m).mpr (.inr rfl)) fun z hz=>?_⟩
 ·rw[e1]
  refine⟨fun h=>jG fun w=>h (.inl ⟨hz,w⟩),?_⟩
  rintro rfl (h|h)
  ·exact h.2 rfl
  ·exact my h
 ·refine⟨fun h=>?_,fun h=>h▸SW⟩
  rcases(e1 z).mp hz with w|w
  ·exact absurd w.1 h
  ·exact w
 ·rw[e2]
  refine⟨fun h=>jG fun w=>h (.inl ⟨hz,w⟩),?_⟩
  rintro rfl (h|h)
  ·exact h.2 rfl
  ·exact my h.symm
 ·refine⟨fun h=>?_,fun h=>h▸SX⟩
  rcases(e2 z).mp hz with w|w
  ·exact absurd w.1 h
  ·exact w
def SY {p q:jO}{m y:Str}(P:f_ p) (Qc:f_ q) (h1:gF p.a q.a=[m]) (h2:gF q.a p.a=[y]) (h3:gF p.b q.b=[y]) (h4:gF q.b p.b=[m]):Xp p q m y:=by
 obtain⟨a1,a2,a3⟩:=pf h1
 obtain⟨b1,b2,b3⟩:=pf h2
 obtain⟨c1,c2,c3⟩:=pf h3
 obtain⟨d1,d2,d3⟩:=pf h4
 refine⟨a1,c1,⟨?_,Qc.a⟩,⟨?_,Qc.b⟩⟩
 ·refine lZ Qc.a.nodup (sL P.a.nodup b2) fun z=>?_
  rw[kr]
  constructor
  ·intro hz
   by_cases hp:z∈p.a
   ·exact .inl ⟨hp,fun w=>a2 (w▸hz)⟩
   ·exact .inr (b3 z hz hp)
  ·rintro(⟨h,n⟩|h)
   ·exact jG fun w=>n (a3 z h w)
   ·exact h▸b1
 ·refine lZ Qc.b.nodup (sL P.b.nodup d2) fun z=>?_
  rw[kr]
  constructor
  ·intro hz
   by_cases hp:z∈p.b
   ·exact .inl ⟨hp,fun w=>c2 (w▸hz)⟩
   ·exact .inr (d3 z hz hp)
  ·rintro(⟨h,n⟩|h)
   ·exact jG fun w=>n (c3 z h w)
   ·exact h▸d1
def vG {a:List Str}{m y:Str}(nd:a.Nodup) (h:m∈a):(exc a m y).length=a.length:=by
 unfold exc
 rw[aK,aG]
 have e:a.filter (fun n=>!decide (n=m))=a.erase m:=by
  rw[nd.erase_eq_filter]
  rfl
 rw[e,List.length_erase_of_mem h]
 have:0<a.length:=List.length_pos_of_mem h
 omega
def Xp.S1 {p q:jO}{m y:Str}(P:f_ p) (x:Xp p q m y):f_ q:=by
 have my:m≠y:=fun z=>P.no _ x.hm (z▸x.hy)
 refine⟨x.a.2,x.b.2,fun n hn hb=>?_,?_⟩
 ·rw[x.a.1.mem_iff,kr] at hn
  rw[x.b.1.mem_iff,kr] at hb
  rcases hn with⟨h1,h2⟩|h1<;>rcases hb with⟨h3,h4⟩|h3
  ·exact P.no n h1 h3
  ·exact h2 h3
  ·exact h4 h1
  ·exact my (h3.symm.trans h1)
 ·rw[x.a.1.length_eq,x.b.1.length_eq,vG P.a.nodup x.hm,vG P.b.nodup x.hy];exact P.le
def Xp.uniq {p q:jO}{m y m' y':Str}(P:f_ p) (x:Xp p q m y) (x':Xp p q m' y'):m=m'/\y=y':=by
 have a:=x.diff P
 have b:=x'.diff P
 have h1:=a.1.symm.trans b.1
 have h2:=a.2.1.symm.trans b.2.1
 simp only[Gy,and_true] at h1 h2
 exact⟨h1,h2⟩
def pL (p q:jO):Int:=(p.o-p.t)*q.c-(q.o-q.t)*p.c
def oC (p q:jO) (m y:Str):Str×Str×Int×Int:=
 let d:=pL p q
 let b:=p.c*q.c
 if 0<d then(m,y,dS d b,dD d b) else if d<0 then(y,m,dS (-d) b,dD (-d) b) else(if dQ y m=true then y else m,if dQ y m=true then m else y,0,1)
def Told (p q:jO) (r:Option (Str×Str×Int×Int)):Prop:=(∃m y,Xp p q m y/\r=some (oC p q m y))\/((∀m y,¬Xp p q m y)/\r=none)
def Told.uniq {p q:jO}{r r':Option (Str×Str×Int×Int)}(P:f_ p) (h:Told p q r) (h':Told p q r'):r=r':=by
 rcases h with⟨m,y,x,rfl⟩|⟨n,rfl⟩<;>rcases h' with⟨m',y',x',rfl⟩|⟨n',rfl⟩
 ·obtain⟨rfl,rfl⟩:=x.uniq P x';rfl
 ·exact absurd x (n' _ _)
 ·exact absurd x' (n _ _)
 ·rfl
def OH {p q:jO}(hp:0<p.c) (hq:0<q.c):dS (dS (p.o-p.t) p.c*dD (q.o-q.t) q.c-dS (q.o-q.t) q.c*dD (p.o-p.t) p.c) (dD (p.o-p.t) p.c*dD (q.o-q.t) q.c)=dS (pL p q) (p.c*q.c)/\
  dD (dS (p.o-p.t) p.c*dD (q.o-q.t) q.c-dS (q.o-q.t) q.c*dD (p.o-p.t) p.c) (dD (p.o-p.t) p.c*dD (q.o-q.t) q.c)=dD (pL p q) (p.c*q.c):=by
 have m1:=yB (t:=p.o-p.t) hp
 have m2:=yB (t:=q.o-q.t) hq
 have b1:=mw (t:=p.o-p.t) hp
 have b2:=mw (t:=q.o-q.t) hq
 generalize dS (p.o-p.t) p.c=T1 at*
 generalize dD (p.o-p.t) p.c=B1 at*
 generalize dS (q.o-q.t) q.c=T2 at*
 generalize dD (q.o-q.t) q.c=B2 at*
 refine MH (qB b1 b2) (qB hp hq) ?_
 unfold pL
 rw[Int.sub_mul,Int.sub_mul]
 have a1:T1*B2*(p.c*q.c)=(p.o-p.t)*q.c*(B1*B2):=by
  calc T1*B2*(p.c*q.c)=(T1*p.c)*(B2*q.c):=by ac_rfl
   _=((p.o-p.t)*B1)*(B2*q.c):=by rw[m1]
   _=_:=by ac_rfl
 have a2:T2*B1*(p.c*q.c)=(q.o-q.t)*p.c*(B1*B2):=by
  calc T2*B1*(p.c*q.c)=(T2*q.c)*(B1*p.c):=by ac_rfl
   _=((q.o-q.t)*B2)*(B1*p.c):=by rw[m2]
   _=_:=by ac_rfl
 rw[a1,a2]
def OJ {t b:Int}(hb:0<b):dS (-t) b=-dS t b/\dD (-t) b=dD t b:=by
 have h:=yB (t:=t) hb
 unfold dS dD
 rw[Int.natAbs_neg]
 refine⟨?_,rfl⟩
 rw[Int.neg_ediv_of_dvd]
 exact xK t b
def K9 {t b:Int}(hb:0<b):(0<dS t b↔0<t)/\(dS t b<0↔t<0):=by
 have h:=yB (t:=t) hb
 have hB:=mw (t:=t) hb
 generalize dS t b=T at*
 generalize dD t b=B at*
 have key:∀{x y u v:Int},0<u->0<v->x*u=y*v->0<x->0<y:=fun hu hv e hx=>by
  have:=qB hx hu
  rw[e] at this
  exact Int.pos_of_mul_pos_left this hv
 refine⟨⟨key hb hB h,key hB hb h.symm⟩,⟨fun z=>?_,fun z=>?_⟩⟩
 ·have:=key (x:=-T) (y:=-t) hb hB (by rw[Ge,Ge,h]) (by omega)
  omega
 ·have:=key (x:=-t) (y:=-T) hB hb (by rw[Ge,Ge,h]) (by omega)
  omega
end K12
namespace K12
open PySem L2
abbrev Xt:Stmt:=top 46
def Xu:List (Str×NameKind):=[(".0",.local),("k",.local),("_law_pick",.globalImplicit),("deck",.free)]
def S2:(["k","deck"]:List Str).Nodup:=by decide+kernel
section
variable {P:aF}{w:ba}{K:PySem.W.Frag}{mg:Str->Option af}{base:Heap}
def OK:Sp:=fun vs H Q _=>∃(k:ah) (c:Int) (p:ah) (ns:List Str),vs=[.ref k,.ref p]/\cQ H k c/\c<=20000/\p≠k/\H p=some (.lst (ns.map V.str))/\2<=ns.length/\ns.length<=12/\(∀n∈ns,okN n)/\ns.Nodup/\
 ∀(r:ah) (pc:jO) (c':Int) (H':Hp),dY k H H'->cQ H' k c'->c'<=c+60->jD H' r pc->ig pc->f_ pc->Q (.ref r) H'
def Ik {ss sA sB:List Str}{m:Nat}(nd:ss.Nodup) (pA:sA.Perm (ss.take m)) (pB:sB.Perm ((ss.drop m).take m)) (oA:PyProof.Rows.sortedS sA=true) (oB:PyProof.Rows.sortedS sB=true):Up sA/\Up sB/\∀n∈sA,n∉sB:=by
 have h1:(ss.take m).Nodup:=nd.sublist (qw _ _)
 have h2:((ss.drop m).take m).Nodup:=(nd.sublist (List.drop_sublist _ _)).sublist (qw _ _)
 refine⟨pd oA (pA.nodup_iff.mpr h1),pd oB (pB.nodup_iff.mpr h2),fun n hA hB=>?_⟩
 have a:=pA.mem_iff.mp hA
 have b:=gX (pB.mem_iff.mp hB)
 rw[<-List.take_append_drop m ss,qA] at nd
 exact nd.2.2 n a n b rfl
def Ai {ss ns:List Str}{i r:Nat}(h:ss.Perm (ns.take i)) (hi:i<ns.length):(ss.take r++ns[i]::ss.drop r).Perm (ns.take (i+1)):=by
 rw[qz,aH hi,Option.toList_some]
 refine List.perm_middle.trans ?_
 rw[List.take_append_drop]
 exact(List.Perm.cons _ h).trans (J_ _ _).symm
def vH:bV ["deck","names","many","order","name","times","course","crews"] ["deck","names"] (av Xt):={}
def xO:bootBuiltins "min"=some (.builtin "min"):=by decide+kernel
def fK:bootBuiltins "sorted"=some (.builtin "sorted"):=by decide+kernel
def S3 {f:ah}{fd:FuncData}(F:iV K "_law_piece" "_law_piece" Xt f fd) (T:Txt mg) (DP:Df P w K mg base 1 "_law_pick" ["deck","many"] gM):dO P w K mg base fO 2 f fd ["deck","names"] OK:=by
 refine F.ok vH (fun vs H Q E h=>?_) (fun cdv A outer s H vs Q E hr h=>?_)
 ·obtain⟨k,c,p,ns,rfl,_⟩:=h
  rfl
 ·obtain⟨k,c,p,ns,rfl,hk,hc,Oz,hp,l2,l12,Xv,ndn,q⟩:=h
  refine⟨_,ar (jX (i:=2) vH.nd (bR fX ao (cB DP hr (ae (pv 0) (ae (aR (ET rfl) rfl T.min xO (ae ao (ae (bR Dd (aR bM rfl T.len bB (ae (pv 1) aj)) ao) aj))) aj)))))
   (ar (jX (i:=3) vH.nd (cW aj))
   (ar (lN eR rfl (jh (pv 1)) (aZ (i:=4) vH.nd)
    (aE (gs (pP cw PySem.F.slot_list_insert PySem.F.type_list_insert Fb (pv 3)
     (ae (cB DP hr (ae (pv 0) (ae (bR fX (aR bM rfl T.len bB (ae (pv 3) aj)) ao) aj))) (ae (pv 4) aj))))))
   (ar (jn (i0:=5) vH.nd rfl (Or.inl rfl) rfl (xf rfl T.range (ae ao aj)) (fk.one (v:="k") (fr:="deck") (j:=0) (nm:=Xu) rfl rfl rfl rfl)
    (fun _ _ _=>aZ (i:=0) S2) (fun _ _ _=>iK)
    (te:=gI (NT K) (wL (cC (gI (Gg fun i j=>.int (i+j)) (tC (.int 1)) (mq gM [] E0 (cC (cg 1) (cC (tC (.int 9)) fD)))) (cC (gI (Gg fun i j=>.int (i+j)) (tC (.int 300)) (mq gM [] E0 (cC (cg 1) (cC (tC (.int 60)) fD)))) (cC (gI (rI RW fun i j=>.int (i^j.toNat)) (tC (.int 10)) (tC (.int 9))) fD)))) (mq gM [] E0 (cC (cg 1) (cC (tC (.int 3)) fD))))
    (fun _ _ _=>bg cU (cW (ae (bR fX ao (cB DP hr (ae (pv 1) (ae ao aj)))) (ae (bR fX ao (cB DP hr (ae (pv 1) (ae ao aj)))) (ae (bR lQ ao ao) aj)))) (cB DP hr (ae (pv 1) (ae ao aj)))))
   (ar (jX (i:=6) vH.nd (bg cU (cW (ae ao (ae ao (ae (bR fX ao (cB DP hr (ae (pv 0) (ae ao aj)))) (ae (bR lQ ao ao) aj))))) (cB DP hr (ae (pv 0) (ae ao aj)))))
   (ar (jX (i:=7) vH.nd (bO (ae (fE fq rfl T.tuple cu (ae (aR iw rfl T.sorted fK (ae (gQ oZ (pv 3) jk (iu (pv 2))) aj)) aj))
    (ae (fE fq rfl T.tuple cu (ae (aR iw rfl T.sorted fK (ae (gQ oZ (pv 3) (iu (pv 2)) (iu (bR lP ao (pv 2)))) aj)) aj)) aj))))
   (aE (bF (bR lj (pv 7) (bO (ae (bg cU (pv 5) ao) (ae (bg cU (pv 5) ao) (ae (pv 6) aj)))))))))))),?_⟩
  have hM:∃M:Int,(if((ns.map V.str).length:Int)/2<4 then((ns.map V.str).length:Int)/2 else 4)=M/\1<=M/\M<=4/\2*M<=ns.length:=by
   rw[aq]
   refine⟨_,rfl,?_⟩
   split<;>omega
  obtain⟨M,hM,M1,M4,M2⟩:=hM
  refine⟨_,rfl,_,rfl,p,_,rfl,.inl (cS.of hp),_,_,rfl,rfl,⟨by decide,by decide⟩,_,_,rfl,k,c,_,rfl,hk,by omega,by rw[hM];omega,by rw[hM];omega,fun r c1 H1 k1 d1 e1 g1 l1=>⟨_,_,rfl,rfl,?_⟩⟩
  rw[hM] at l1
  obtain⟨m,em⟩:∃m:Nat,1+r=(m:Int):=⟨(1+r).toNat,by omega⟩
  have m1:1<=m:=by omega
  have m4:m<=4:=by omega
  have m2:2*m<=ns.length:=by omega
  refine⟨dF,fun fo OO=>?_⟩
  have S7:k≠fo:=d1.ne OO
  have Xw:H fo=none:=rh k1 S7.symm OO
  have Il:=k1 p _ Oz hp
  have hpf:p≠fo:=fun z=>by rw[z,OO] at Il;cases Il
  refine⟨_,rfl,p,rfl,⟨_,cS.of (aN OO _ _ _ Il)⟩,nW (K:=K) (a:=p) (xs:=ns.map V.str) (fun i bW H'=>∃(v:Option V) (c':Int) (ss:List Str),bW=[some (.ref k),some (.ref p),some (.int m),some (.ref fo),v,none,none,none]/\dY k H H'/\H' p=some (.lst (ns.map V.str))/\cQ H' k c'/\c'<=c+1+i/\
    H' fo=some (.lst (ss.map V.str))/\ss.length=i/\(∀n∈ss,okN n)/\ss.Perm (ns.take i)) ?_ (fun i bW H' _ ⟨_,_,_,_,_,h,_⟩=>cS.of h) ?_ ?_⟩
  ·refine⟨none,c1,[],?_,k1.trans (dY.new OO _),aN OO _ _ _ Il,d1.new OO,by omega,az,rfl,by simp,by simp⟩
   rw[<-em]
   rfl
  ·rintro i y bW H' hi ⟨v,c',ss,rfl,kH,hP,dk,C7,hF,Xx,oF,pm⟩
   have SI:i<ns.length:=by
    have:=(bw.mp hi).1
    simpa using this
   have hy:y=.str ns[i]:=by
    rw[bX,aH SI] at hi
    exact(cK hi).symm
   have S8:okN ns[i]:=Xv _ (cA SI)
   have Z3:=fun r=>Ai (r:=r) pm SI
   generalize ns[i]=nm at hy S8 Z3
   subst hy
   have sl:(ss.map V.str).length=i:=by rw[aq];exact Xx
   refine⟨_,rfl,.inl ⟨rfl,_,cS.of hF⟩,?_⟩
   refine⟨_,rfl,_,rfl,fo,_,rfl,.inl (cS.of hF),_,_,rfl,rfl,k,c',_,rfl,dk,by omega,by rw[sl];omega,by rw[sl];omega,fun r2 c2 H2 k2 d2 e2 g2 OQ=>?_⟩
   rw[sl] at OQ
   have hF2:=k2 fo _ S7.symm hF
   refine⟨_,rfl,fo,_,r2,_,rfl,rfl,hF2,dq (by omega),g2,by rw[sl];omega,?_⟩
   rw[B_]
   have GQ:=Ca ss (i:=r2.toNat) nm (by omega)
   refine⟨_,c2,_,rfl,fun b o n e=>by rw[aV (dj e Xw)];exact k2 b o n (kH b o n e),by rw[aV hpf];exact k2 p _ Oz hP,d2.keep (fun o e=>by rw[aV S7];exact e),by omega,az,by omega,Fy r2.toNat oF S8,Z3 _⟩
  ·rintro bW H' ⟨v,c',ss,rfl,kH,hP,dk,C7,hF,Xx,oF,pm⟩
   rw[aq] at C7 Xx pm
   rw[cZ] at pm
   refine⟨_,rfl,by decide,by decide,fun D hD=>?_⟩
   have nD:k≠D:=dk.ne hD
   refine kO (J:=Mo 0 2) (n:=2) (f:=fun i=>.int i) (fun i ys bW J=>∃(ts:List Int) (c2:Int),ys=ts.map V.int/\(∃v,bW=[v,some (.ref k)])/\dY k H' J/\cQ J k c2/\c2<=c'+3*i/\ts.length=i/\∀t∈ts,1<=t/\t<=1000000000) hD (by decide)
    ⟨[],c',rfl,⟨none,rfl⟩,dY.new hD _,dk.new hD,by simp,rfl,by simp⟩ (fun i ys bW J hi _ _=>xJ 2 i J hi) ?_ ?_
   ·rintro i ys iE J hi hy ⟨ts,c2,rfl,⟨v2,rfl⟩,kJ,dJ,Kq,OS,K_⟩
    refine⟨_,rfl,k,c2,9,rfl,dJ,by omega,by decide,by decide,fun ra ca Ja ka da ea ga la=>⟨_,_,rfl,rfl,?_⟩⟩
    refine⟨_,rfl,k,ca,60,rfl,da,by omega,by decide,by decide,fun rb cb Jb kb db eb gb lb=>⟨_,_,rfl,rfl,?_⟩⟩
    refine⟨_,_,rfl,rfl,⟨by decide,by decide,by decide⟩,dF,fun l hl=>?_⟩
    refine⟨_,rfl,k,cb,3,rfl,db.new hl,by omega,by decide,by decide,fun rc cc Jc kc dc ec gc lc=>?_⟩
    have S9:=kc l _ (db.ne hl).symm az
    have hv:∃t:Int,qT [V.int (1+ra),V.int (300+rb),V.int ((10:Int)^(9:Int).toNat)] rc=some (.int t)/\1<=t/\t<=1000000000:=by
     have:rc=0\/rc=1\/rc=2:=by omega
     rcases this with rfl|rfl|rfl
     ·exact⟨_,aT (j:=0) rfl,by omega,by omega⟩
     ·exact⟨_,aT (j:=1) rfl,by omega,by omega⟩
     ·exact⟨_,aT (j:=2) rfl,by decide,by decide⟩
    obtain⟨t,ht,t1,t2⟩:=hv
    have Rf:dY k J Jc:=(ka.trans kb).trans ((dY.new hl _).trans kc)
    refine⟨l,_,rc,_,rfl,rfl,cS.of S9,ht,Rf D _ nD.symm hy,ts++ [t],cc,by simp,⟨_,rfl⟩,fun b o n e=>?_,dc.keep (fun o e=>by rw[aV nD];exact e),by omega,by simp[OS],fun x hx=>?_⟩
    ·have nb:b≠D:=fun z=>by rw[z,hD] at e;cases e
     rw[aV nb]
     exact Rf b o n (kJ b o n e)
    ·rcases c_.mp hx with hx|hx
     ·exact K_ x hx
     ·rw[bU.mp hx];exact⟨t1,t2⟩
   ·rintro ys iE J hy ⟨ts,c2,rfl,⟨v2,rfl⟩,kJ,dJ,Kq,OS,K_⟩
    have wV:∃ta tb:Int,ts=[ta,tb]:=by
     match ts,OS with
     | [ta,tb],_=>exact⟨ta,tb,rfl⟩
    obtain⟨ta,tb,rfl⟩:=wV
    have S_:=K_ ta (by simp)
    have Ta:=K_ tb (by simp)
    refine⟨_,rfl,k,c2,12,rfl,dJ,by omega,by decide,by decide,fun ra ca Ja ka da ea ga la=>⟨_,_,rfl,rfl,?_⟩⟩
    refine⟨_,_,rfl,rfl,⟨by decide,by decide,by decide⟩,dF,fun l hl=>?_⟩
    refine⟨_,rfl,k,ca,4,rfl,da.new hl,by omega,by decide,by decide,fun rc cc Jc kc dc ec gc lc=>?_⟩
    have S9:=kc l _ (da.ne hl).symm az
    have hv:∃t:Int,qT [V.int 1,V.int 2000,V.int (1+ra),V.int ((10:Int)^(9:Int).toNat)] rc=some (.int t)/\1<=t/\t<=1000000000:=by
     have:rc=0\/rc=1\/rc=2\/rc=3:=by omega
     rcases this with rfl|rfl|rfl|rfl
     ·exact⟨_,aT (j:=0) rfl,by decide,by decide⟩
     ·exact⟨_,aT (j:=1) rfl,by decide,by decide⟩
     ·exact⟨_,aT (j:=2) rfl,by omega,by omega⟩
     ·exact⟨_,aT (j:=3) rfl,by decide,by decide⟩
    obtain⟨co,Xy,Xz,XA⟩:=hv
    have Rf:dY k J Jc:=ka.trans ((dY.new hl _).trans kc)
    refine⟨l,_,rc,_,rfl,rfl,cS.of S9,Xy,?_⟩
    have Z4:=Rf fo _ S7.symm (kJ fo _ S7.symm hF)
    have Z5:=Rf D _ nD.symm hy
    have kHc:dY k H Jc:=(kH.trans kJ).trans Rf
    have ssl:2*m<=ss.length:=by omega
    have XB:iU (ss.map V.str) none (some (m:Int))=(ss.take m).map V.str:=by
     unfold iU
     rw[HT.qQ,HT.lh,List.drop_zero,aq,Nat.sub_zero,show min m ss.length=m by omega,Nq]
    have XC:iU (ss.map V.str) (some (m:Int)) (some (2*(m:Int)))=((ss.drop m).take m).map V.str:=by
     unfold iU
     rw[show(2*(m:Int))=((2*m:Nat):Int) by omega,HT.lh,HT.lh,aq,show min m ss.length=m by omega,show min (2*m) ss.length=2*m by omega,show 2*m-m=m by omega,Nq,Nr]
    refine⟨_,rfl,_,rfl,_,rfl,fo,_,rfl,cS.of Z4,fun s1 Vu=>?_⟩
    rw[XB]
    have u1:a_ Jc (upd Jc s1 (.lst ((ss.take m).map V.str))):=aN Vu _
    have w1:(upd Jc s1 (.lst ((ss.take m).map V.str))) s1=some (.lst ((ss.take m).map V.str)):=az
    generalize upd Jc s1 (.lst ((ss.take m).map V.str))=G1 at*
    refine⟨s1,ss.take m,rfl,cS.of w1,by rw[fh];omega,fun l1 Gk Gm XD soA=>?_⟩
    have u2:a_ G1 (upd G1 l1 (.lst (Gk.map V.str))):=aN Gm _
    have w2:(upd G1 l1 (.lst (Gk.map V.str))) l1=some (.lst (Gk.map V.str)):=az
    try dsimp only
    generalize upd G1 l1 (.lst (Gk.map V.str))=G2 at*
    refine⟨l1,_,rfl,.inl ⟨cS.of w2,fun t1 DV=>?_⟩⟩
    have u3:a_ G2 (upd G2 t1 (.tup (Gk.map V.str))):=aN DV _
    have w3:(upd G2 t1 (.tup (Gk.map V.str))) t1=some (.tup (Gk.map V.str)):=az
    try dsimp only
    generalize upd G2 t1 (.tup (Gk.map V.str))=G3 at*
    have v3:a_ Jc G3:=(u1.trans u2).trans u3
    refine⟨_,rfl,_,rfl,_,rfl,_,rfl,_,_,rfl,rfl,.inl ⟨by decide,by decide⟩,_,rfl,fo,_,rfl,cS.of (v3 _ _ Z4),fun s2 GQ=>?_⟩
    rw[XC]
    have u4:a_ G3 (upd G3 s2 (.lst (((ss.drop m).take m).map V.str))):=aN GQ _
    have w4:(upd G3 s2 (.lst (((ss.drop m).take m).map V.str))) s2=some (.lst (((ss.drop m).take m).map V.str)):=az
    generalize upd G3 s2 (.lst (((ss.drop m).take m).map V.str))=G4 at*
    refine⟨s2,(ss.drop m).take m,rfl,cS.of w4,by rw[fh];omega,fun OQ Gn nK XE soB=>?_⟩
    have u5:a_ G4 (upd G4 OQ (.lst (Gn.map V.str))):=aN nK _
    have w5:(upd G4 OQ (.lst (Gn.map V.str))) OQ=some (.lst (Gn.map V.str)):=az
    try dsimp only
    generalize upd G4 OQ (.lst (Gn.map V.str))=G5 at*
    refine⟨OQ,_,rfl,.inl ⟨cS.of w5,fun t2 wV=>?_⟩⟩
    have u6:a_ G5 (upd G5 t2 (.tup (Gn.map V.str))):=aN wV _
    have w6:(upd G5 t2 (.tup (Gn.map V.str))) t2=some (.tup (Gn.map V.str)):=az
    try dsimp only
    generalize upd G5 t2 (.tup (Gn.map V.str))=G6 at*
    have v6:a_ G3 G6:=(u4.trans u5).trans u6
    refine⟨dF,fun cr Tb=>?_⟩
    have u7:a_ G6 (upd G6 cr (.tup [.ref t1,.ref t2])):=aN Tb _
    have w7:(upd G6 cr (.tup [.ref t1,.ref t2])) cr=some (.tup [.ref t1,.ref t2]):=az
    try dsimp only
    generalize upd G6 cr (.tup [.ref t1,.ref t2])=G7 at*
    have v7:a_ Jc G7:=(v3.trans v6).trans u7
    refine⟨_,rfl,_,rfl,D,_,0,_,rfl,rfl,cS.of (v7 _ _ Z5),aT (j:=0) rfl,_,rfl,D,_,1,_,rfl,rfl,cS.of (v7 _ _ Z5),aT (j:=1) rfl,_,rfl,dF,fun tt XF=>?_⟩
    have u8:a_ G7 (upd G7 tt (.tup [.int ta,.int tb,.int co])):=aN XF _
    refine⟨cr,tt,_,_,rfl,rfl,bY.of (u8 _ _ w7),bY.of az,by simp,by show 2+3<=sizeLine;decide,(fun z=>absurd z (by simp)),fun _ rr OV=>?_⟩
    have v9:a_ Jc (upd (upd G7 tt (.tup [.int ta,.int tb,.int co])) rr (.tup ([.ref t1,.ref t2]++ [.int ta,.int tb,.int co]))):=(v7.trans u8).trans (aN OV _)
    have v39:=(v6.trans u7).trans (u8.trans (aN OV (.tup ([.ref t1,.ref t2]++ [.int ta,.int tb,.int co]))))
    have v69:=u7.trans (u8.trans (aN OV (.tup ([.ref t1,.ref t2]++ [.int ta,.int tb,.int co]))))
    obtain⟨ko,hko⟩:=dc.some
    have kne:∀{G:Hp} {x:ah},a_ Jc G->G x=none->x≠k:=fun sG hx z=>by rw[z,sG _ _ hko] at hx;cases hx
    have lA:=XD.length_eq
    have lB:=XE.length_eq
    rw[fh] at lA lB
    rw[dB] at lB
    obtain⟨uA,uB,no⟩:=Ik (pm.nodup_iff.mpr ndn) XD XE soA soB
    have A1:1<=Gk.length:=by omega
    have A4:Gk.length<=4:=by omega
    have B1:1<=Gn.length:=by omega
    have B4:Gn.length<=4:=by omega
    exact q rr ⟨Gk,Gn,ta,tb,co⟩ cc _ (kHc.trans v9.keep) (dc.keep fun o e=>v9 _ _ e) (by omega) ⟨t1,t2,az,v39 _ _ w3,v69 _ _ w6⟩
     ⟨⟨A1,A4,fun n hn=>oF n (gX (XD.mem_iff.mp hn))⟩,⟨B1,B4,fun n hn=>oF n (wu (gX (XE.mem_iff.mp hn)))⟩,S_.1,S_.2,Ta.1,Ta.2,Xz,XA⟩ ⟨uA,uB,no,(show Gk.length=Gn.length by omega)⟩
end
end K12
namespace L2
open PySem PySem.Spec PyProof.Rows PySem.W
section
variable {prog:aF}{w:ba}{A:aQ}{E:af->ai->Prop}{h:Heap}{g:Array GenState}{d:Drawn}{t:Nat}{os:OsState}
variable {nm q:Str}{C N:ah}{bs bm OX:List af}{hdct:Bool}{sn:List Str}{sub:List af}{ab:Bool}{col:Option Bool}{dd:Option ah}{k0 k1 k2 k3 k5:Option af}{B newId vI:String}
def tZ (F:ExcBaseFacts B newId vI OX) (T:OwnTail h OX bm) {mN:Str->Option af}{rest:List af}{fI:ah}{oI:Obj}{Q:Fin->ai->Prop}
  (hC:h.get? C=some (excClassObj nm q C N bs bm hdct sn sub ab col dd k0 k1 k2 k3 k5 newId)) (hn:h.Ns N mN) (hi:mN "__init__"=some (.ref fI))
  (Tc:h.get? fI=some oI) (Td:oI.cls=.type "function")
  (hq:∀h' e,Heap.MadeExcOf h h' e (.ref C) rest->
   wpAny (model prog w) A (call (.ref fI) (.ref e::rest)) (fun r s'=>r=.none/\Q (.done (.ret (.ref e))) s') E ⟨h',g,d,t,os⟩) (DY:rest.length<=sizeLine):
  wpAny (model prog w) A (Builtin.«type.__call__» ⟨.ref C::rest,[]⟩) Q E ⟨h,g,d,t,os⟩:=by
 repeat (first|with_reducible refine mH hC ?_|with_reducible refine wpAny_madeBy_exc hC ?_|wp_step)
 refine codeAny_call_builtin_code (Gx _ F.quiet) (wpAny_check_new_subT F T hC ?_)
 refine codeAny_exc_new_subT F T hC ?_ DY
 show wpAny _ _ _ _ _ _
 have MK:=ag {cls:=.ref C,data:=.fields #[.ref h.objs.size,.none,.none,.none,.bool false,.none]}
  (ag {cls:=.type "tuple",data:=.seq rest.toArray} hC)
 have OY:=ag {cls:=.ref C,data:=.fields #[.ref h.objs.size,.none,.none,.none,.bool false,.none]}
  (ag {cls:=.type "tuple",data:=.seq rest.toArray} Tc)
 have Te:((h.push {cls:=.type "tuple",data:=.seq rest.toArray}).push {cls:=.ref C,data:=.fields #[.ref h.objs.size,.none,.none,.none,.bool false,.none]}).Ns N mN:=
  let⟨o,es,ep,e,r⟩:=hn;⟨o,es,ep,ag _ (ag _ e),r⟩
 have Tf:((h.push {cls:=.type "tuple",data:=.seq rest.toArray}).push
   {cls:=.ref C,data:=.fields #[.ref h.objs.size,.none,.none,.none,.bool false,.none]}).get? (h.objs.size+1)=some
   {cls:=.ref C,data:=.fields #[.ref h.objs.size,.none,.none,.none,.bool false,.none]}:=by heap_get
 have hcC:(Value.ref C::bm).contains (.ref C)=true:=by simp
 have XG:=T.keeps (h':=(h.push {cls:=.type "tuple",data:=.seq rest.toArray}).push {cls:=.ref C,data:=.fields #[.ref h.objs.size,.none,.none,.none,.bool false,.none]})
  fun b o e=>ag _ (ag _ e)
 unfold isInstance
 repeat (first|with_reducible refine mH Tf ?_|(with_reducible refine wpAny_isSubtype_exc MK ?_;rw[hcC])|wp_step)
 show wpAny _ _ (typeLookup (.ref C) _) _ _ _
 refine wpAny_typeLookup_tail MK Te XG F.mroIs F.init.lookup ?_
 rw[hi]
 refine cM (aa ?_)
 unfold bindSpecial
 refine aa (qG (T:="function") ⟨_,OY,Td⟩ ?_)
 rw[aP (by decide)]
 refine ak (aa (bK (hq _ (h.objs.size+1) ⟨fun b o hb=>ag _ (ag _ hb),A2 (dE _),h.objs.size,Tf,A2 (aB _),?_⟩) (fun r s' hr=>?_) fun _ _ x=>x))
 ·exact ag _ (Heap.get?_push_at rfl rfl)
 ·obtain⟨rfl,hQ⟩:=hr
  wp_walk
  exact hQ
def Cf (F:ExcBaseFacts B newId vI OX) (T:OwnTail h OX bm) {mN:Str->Option af}{rest:List af}{fI:ah}{oI:Obj}{Q:af->ai->Prop}
  (hC:h.get? C=some (excClassObj nm q C N bs bm hdct sn sub ab col dd k0 k1 k2 k3 k5 newId)) (hn:h.Ns N mN) (hi:mN "__init__"=some (.ref fI))
  (Tc:h.get? fI=some oI) (Td:oI.cls=.type "function")
  (hq:∀h' e,Heap.MadeExcOf h h' e (.ref C) rest->
   wpAny (model prog w) (A.under (.builtin "type.__call__" ⟨.ref C::rest,[]⟩)) (call (.ref fI) (.ref e::rest)) (fun r s'=>r=.none/\Q (.ref e) s') E ⟨h',g,d,t,os⟩) (DY:rest.length<=sizeLine):
  wpAny (model prog w) A (call (.ref C) rest) Q E ⟨h,g,d,t,os⟩:=by
 have f1:=tc_lookup
 have f2:=tc_bind (.ref C)
 have hT:(⟨h,g,d,t,os⟩:ai).TypeIs (.ref C) "type":=⟨_,hC,rfl⟩
 refine nN (codeAny_of_tree ?_)
 show wpAny _ _ (callAny (.ref C) _) _ _ _
 repeat (any_goals (first|assumption|with_reducible refine mH hC ?_|wp_step))
 refine⟨rfl,?_⟩
 refine codeAny_call_builtin_at (Gx _ (by decide+kernel)) entry_typeCall (wpAny_check_type_call_sub hC (tZ F T hC hn hi Tc Td (fun h' e hm=>?_) DY))
 exact hq h' e hm
end
section
variable {M:Model}{A:aQ}{E:af->ai->Prop}{env:Env}
variable {nm q:Str}{C N:ah}{bs bm:List af}{hdct:Bool}{sn:List Str}{sub:List af}{ab:Bool}{col:Option Bool}{dd:Option ah}{k0 k1 k2 k3 k5:Option af}{newId:String}
def wW {s:ai}{x:Sem af}{Q:Flow->ai->Prop}(zH:bm.contains (.type "BaseException")=true) (hh:A.handled=none)
  (h:wpAny M A x (fun v eN=>∃e oe vs,v=.ref e/\eN.heap.get? C=some (excClassObj nm q C N bs bm hdct sn sub ab col dd k0 k1 k2 k3 k5 newId)/\
   eN.heap.get? e=some oe/\oe.cls=.ref C/\oe.data=.fields vs/\vs[1]?=some .none/\E (.ref e) eN) E s):
  wpAny M A (raiseStmt env (some x) none) Q E s:=by
 have hcB:(Value.ref C::bm).contains (.type "BaseException")=true:=by rw[List.contains_cons,zH,Bool.or_true]
 unfold raiseStmt
 refine aa (bK h (fun v eN E7=>?_) fun _ _ x=>x)
 obtain⟨e,⟨c0,d0,da0,sl0⟩,vs,rfl,hC,he,Hf,Vp,hv1,hE⟩:=E7
 dsimp only at Hf Vp
 subst Hf Vp
 obtain⟨hp,g,d,tk,os⟩:=eN
 repeat (first|with_reducible refine mH he ?_|with_reducible refine mH hC ?_|(with_reducible refine wpAny_isSubtype_exc hC ?_;rw[hcB])|wp_step)
 rw[hv1]
 repeat wp_step
 exact wpAny_raiseNew_none hh hE
end
def XH (h B:Heap) (e:ah) (cls:af) (dW:Option ah) (fl:af):Prop:=
 ∃oe vs T oT ts,h.get? e=some oe/\oe.cls=cls/\oe.dict=dW/\oe.data=.fields vs/\vs[1]?=some (.ref T)/\vs[2]?=some .none/\B.get? T=none/\T≠e/\h.get? T=some oT/\oT.data=.fields ts/\ts[3]?=some fl
structure vJ (B:Heap) (l:List Env) (e:ah) (cls:af) (dW:Option ah) (fl:af) (h:Heap):Prop where
 st:B.StaysIn h
 no:B.get? e=none
 fr:h.FunFrames B l
 tr:XH h B e cls dW fl
section
variable {M:Model}{A:aQ}{E:af->ai->Prop}{s:ai}{B:Heap}{env:Env}{outer:List Env}{L e:ah}{cls fl:af}{dW:Option ah}{Q:Unit->ai->Prop}
def DZ {oe:Obj}{vs:Array af}{head:af}{had:Bool}(Aj:A.frames=some (env::outer)) (hl:s.heap.FunFrames B (env::outer)) (hf:env.frame=some L) (he:s.heap.get? e=some oe) (Tg:B.StaysIn s.heap) (Rg:B.get? e=none) (NS:oe.dict=dW) (hd:oe.data=.fields vs) (h2:vs[2]?=some .none)
  (q:∀h',vJ B (env::outer) e oe.cls dW (rawInt L) h'->s.heap.UpToSlots h'->Q () {s with heap:=h'}):
  wpAny M A (do let a<-frameOf env;let pl<-entryPlaceOf L had;let b<-EntryCells.newEntry head a .none (rawInt L) .none pl;setField (.ref e) 1 b) Q E s:=by
 have sz:2<vs.size:=(jw.mp h2).1
 have Th:e∉(env::outer).filterMap (·.frame):=by
  intro z
  obtain⟨_,u,hu,nf⟩:=hl.mem z
  rw[he] at hu
  cases hu
  exact nf vs hd
 refine aa (wpAny_frameOf_fun Aj hl hf fun g so=>aa (wpAny_entryPlaceOf fun pl Z6=>?_))
 unfold EntryCells.newEntry newFields
 refine aa (bD ?_ (Z6.sizeOk5 _ _ _ _ _))
 generalize hTB:({cls:=.type "traceback",dict:=none,data:=.fields ([head,.ref L,.none,rawInt L,.none]++(if pl.isEmpty then List.replicate 6 Value.none else pl)).toArray}:Obj)=tb
 have Z7:tb.data=.fields ([head,.ref L,.none,rawInt L,.none]++(if pl.isEmpty then List.replicate 6 Value.none else pl)).toArray:=by rw[<-hTB]
 have fTB:tb.isFreed=false:=g_ Z7
 have ge:g.get? e=some oe:=by rw[so.2.1 e Th];exact he
 have pe:(g.push tb).get? e=some oe:=ag tb ge
 have OZ:g.objs.size≠e:=fun z=>by
  have:=aA ge
  rw[<-z] at this
  exact gm _ this
 refine iO pe hd (by omega) (q _ ?_ ?_)
 ·have d1:=gU hd (·.setIfInBounds 1 (Value.ref g.objs.size))
  have gB:B.StaysIn g:=fun b o hb=>by
   rw[so.2.1 b fun z=>by rw[(hl.mem z).1] at hb;cases hb]
   exact Tg b o hb
  have keep:∀b o,b≠e->g.get? b=some o->((g.push tb).update e (Obj.mapFields (·.setIfInBounds 1 (Value.ref g.objs.size)))).get? b=some o:=fun b o ne hb=>by
   rw[aY _ _ (cF ne)]
   exact ag tb hb
  refine⟨fun b o hb=>keep b o (fun z=>by rw[z,Rg] at hb;cases hb) (gB b o hb),Rg,hl.of_keeps fun b o hb nf=>?_,_,_,g.objs.size,tb,_,cV _ pe (g_ d1),uf _ _,?_,d1,?_,?_,gB.fresh,OZ,?_,Z7,?_⟩
  rotate_left
  ·rw[<-NS];obtain⟨_,_,dt,_⟩:=oe;cases dt<;>rfl
  rotate_right
  ·obtain⟨sl,hs⟩:=so.2.2 b o hb
   exact⟨_,keep b _ (fun z=>by rw[z,he] at hb;cases hb;exact nf vs hd) hs,rfl⟩
  ·rw[Array.getElem?_setIfInBounds_self]
   simp only[show 1<vs.size by omega,j9]
  ·rw[Array.getElem?_setIfInBounds_ne (by decide)];exact h2
  ·rw[aY _ _ (cF OZ)];exact aw g fTB
  ·first|(simp;done)|(rcases Z6 with rfl|⟨_,_,_,_,_,_,_,rfl⟩<;>simp)
 ·intro b o hb nf
  obtain⟨sl,hs⟩:=so.2.2 b o hb
  refine⟨sl,?_⟩
  have ne:b≠e:=fun z=>by rw[z,he] at hb;cases hb;exact nf vs hd
  rw[aY _ _ (cF ne)]
  exact ag tb hs
def Cg {oe:Obj}{vs:Array af}(Aj:A.frames=some (env::outer)) (hf:env.frame=some L) (Tg:B.StaysIn s.heap) (hl:s.heap.FunFrames B (env::outer)) (he:s.heap.get? e=some oe) (hc:oe.cls=cls) (ML:oe.dict=dW) (hd:oe.data=.fields vs) (h1:vs[1]?=some .none) (h2:vs[2]?=some .none) (Rg:B.get? e=none)
  (q:∀h',vJ B (env::outer) e cls dW (rawInt L) h'->s.heap.UpToSlots h'->Q () {s with heap:=h'}):wpAny M A (noteFrame (.ref e) env) Q E s:=by
 subst hc
 unfold noteFrame
 simp only[hf]
 refine aa (bJ (x:=Value.none) he hd h1 ?_)
 rw[aO (by decide)]
 exact DZ Aj hl hf he Tg Rg ML hd h2 q
def vK (Aj:A.frames=some (env::outer)) (hf:env.frame=some L) (F:vJ B (env::outer) e cls dW .none s.heap)
  (q:∀h',vJ B (env::outer) e cls dW (rawInt L) h'->s.heap.UpToSlots h'->Q () {s with heap:=h'}):wpAny M A (noteFrame (.ref e) env) Q E s:=by
 obtain⟨st,no,fr,oe,vs,T,oT,ts,he,hc,NS,hd,v1,v2,tB,OZ,hT,O0,t3⟩:=F
 subst hc
 unfold noteFrame
 simp only[hf]
 refine aa (bJ he hd v1 ?_)
 rw[aP (by simp)]
 refine aa (bJ hT O0 t3 ?_)
 rw[aO (by simp[rawInt])]
 refine aa (iO hT O0 (jw.mp t3).1 ?_)
 generalize hg:s.heap.update T (Obj.mapFields (·.setIfInBounds 3 Value.none))=g
 have La:∀b,b≠T->g.get? b=s.heap.get? b:=fun b nb=>by rw[<-hg];exact aY _ _ (cF nb)
 have Im:∀b o,s.heap.get? b=some o->(∀ws,o.data≠.fields ws)->b≠T:=fun b o hb nf z=>by
  rw[z,hT] at hb
  cases hb
  exact nf ts O0
 have ups:s.heap.UpToSlots g:=fun b o hb nf=>⟨o.slots,by rw[La b (Im b o hb nf)];exact hb⟩
 refine DZ (s:={s with heap:=g}) Aj (fr.of_keeps fun b o hb nf=>⟨o,by rw[La b (Im b o hb nf)];exact hb,rfl⟩) hf (by rw[La e OZ.symm];exact he) (fun b o hb=>?_) no NS hd v2 fun h' F' u=>q h' F' (ups.trans u)
 rw[La b fun z=>by rw[z,tB] at hb;cases hb]
 exact st b o hb
def sN {l:List Env}(F:vJ B l e cls dW fl s.heap) (q:∀h',vJ B l e cls dW .none h'->s.heap.UpToSlots h'->Q () {s with heap:=h'}):wpAny M A (setFlight (.ref e) none) Q E s:=by
 obtain⟨st,no,fr,oe,vs,T,oT,ts,he,hc,NS,hd,v1,v2,tB,OZ,hT,O0,t3⟩:=F
 have s3:3<ts.size:=(jw.mp t3).1
 unfold setFlight
 refine aa (bJ he hd v1 ?_)
 rw[aP (by simp)]
 refine iO hT O0 s3 ?_
 generalize hg:s.heap.update T (Obj.mapFields (·.setIfInBounds 3 ((none:Option ah).elim Value.none fun f=>rawInt f)))=g
 have La:∀b,b≠T->g.get? b=s.heap.get? b:=fun b nb=>by rw[<-hg];exact aY _ _ (cF nb)
 have Im:∀b o,s.heap.get? b=some o->(∀ws,o.data≠.fields ws)->b≠T:=fun b o hb nf z=>by
  rw[z,hT] at hb
  cases hb
  exact nf ts O0
 have d3:=gU O0 (·.setIfInBounds 3 ((none:Option ah).elim Value.none fun f=>rawInt f))
 refine q g ⟨fun b o hb=>?_,no,fr.of_keeps fun b o hb nf=>⟨o,by rw[La b (Im b o hb nf)];exact hb,rfl⟩,oe,vs,T,_,_,by rw[La e OZ.symm];exact he,hc,NS,hd,v1,v2,tB,OZ,by rw[<-hg];exact cV _ hT (g_ d3),d3,?_⟩ (fun b o hb nf=>⟨o.slots,by rw[La b (Im b o hb nf)];exact hb⟩)
 ·rw[La b fun z=>by rw[z,tB] at hb;cases hb]
  exact st b o hb
 ·simp[s3]
def FD (Aj:A.frames=some (env::outer)) (hf:env.frame=some L) (F:vJ B (env::outer) e cls dW .none s.heap)
  (q:∀h',vJ B outer e cls dW .none h'->s.heap.UpToSlots h'->Q () {s with heap:=h'}):wpAny M A (leaving env (.ref e)) Q E s:=by
 unfold leaving
 refine aa (vK Aj hf F fun g G u=>sN (s:={s with heap:=g}) G fun h' G' u'=>q h' ⟨G'.st,G'.no,G'.fr.2.2,G'.tr⟩ (u.trans u'))
def Ak {oe:Obj}{vs:Array af}(Aj:A.frames=some (env::outer)) (hf:env.frame=some L) (Tg:B.StaysIn s.heap) (hl:s.heap.FunFrames B (env::outer)) (he:s.heap.get? e=some oe) (hc:oe.cls=cls) (ML:oe.dict=dW) (hd:oe.data=.fields vs) (h1:vs[1]?=some .none) (h2:vs[2]?=some .none) (Rg:B.get? e=none)
  (q:∀h',vJ B outer e cls dW .none h'->s.heap.UpToSlots h'->Q () {s with heap:=h'}):wpAny M A (leaving env (.ref e)) Q E s:=by
 unfold leaving
 refine aa (Cg Aj hf Tg hl he hc ML hd h1 h2 Rg fun g G u=>sN (s:={s with heap:=g}) G fun h' G' u'=>q h' ⟨G'.st,G'.no,G'.fr.2.2,G'.tr⟩ (u.trans u'))
end
def Ti (l:List Env) (H:Hp) (a:ah) (cls:af) (dW:Option ah) (h hs:Heap) (Hs:Hp):Prop:=
 ∃B:Heap,vJ B l a cls dW .none h/\(∀b u,H b=some u->∃o,B.get? b=some o)/\
  (∀b o,hs.get? b=some o->Hs b=none->b∉nE l->B.get? b=some o)/\∀b o,hs.get? b=some o->b∉nE l->∃o',B.get? b=some o'
def qC (P:aF) (w:ba):EW:=fun outer H s E e s'=>∃a cls dW H',e=.ref a/\s'.os=s.os/\AllBare s'.gens/\Un (nE outer) [] H H' s.heap s'.heap/\pM P w H' s'.heap/\E cls dW H'/\Ti outer H' a cls dW s'.heap s.heap H
section
variable {X:Cx}{pins:List (ah×Obj)}{σ:St}{H:Hp}{s:ai}
structure Io (X:Cx) (pins:List (ah×Obj)) (H:Hp) (a:ah) (cls:af) (dW:Option ah) (h:Heap):Prop where
 ex:∃B:Heap,vJ B X.stack a cls dW .none h/\(∀b u,H b=some u->∃o,B.get? b=some o)/\(∀p∈X.pn++pins,B.get? p.1=some p.2)/\
  (∀b o,X.gG.heap.get? b=some o->X.Bf b=none->b∉X.fs->b∉X.ex->B.get? b=some o)/\∀b o,X.gG.heap.get? b=some o->b∉X.fs->b∉X.ex->∃o',B.get? b=some o'
def Inv.Ip {H':Hp}{a:ah}{cls:af}{dW:Option ah}{s':ai}(I:Inv X pins σ H s) (F:Ti X.stack H' a cls dW s'.heap s.heap H):Io X pins H' a cls dW s'.heap:=by
 obtain⟨B,Al,tU,o1,o2⟩:=F
 refine⟨B,Al,tU,fun p hp=>?_,fun b o q n hb hx=>?_,fun b o q hb hx=>?_⟩
 ·obtain⟨p1,p2,p3,p4,_⟩:=I.pin p hp
  exact o1 _ _ p1 p2 fun z=>(aC.mp (I.rS _ z)).elim p3 p4
 ·exact o1 b o (I.base.keep b o q n hb hx) (I.base.free b o q n hx) (I.xv q hb)
 ·obtain⟨o',e⟩:=I.base.there b o q hx
  exact o2 b o' e (I.xv q hb)
end
def vL (X:Cx) (W:af->Option ah->St->Hp->Prop):Prop:=
 ∀(pins:List (ah×Obj)) (σ:St) (H:Hp) (s:ai) (e:af) (s':ai),Inv X pins σ H s->qC X.prog X.w X.stack H s (fun cls dW H'=>W cls dW σ H') e s'->X.xe e s'
structure Mad (h:Heap) (e:ah) (cls:af) (dW:Option ah):Prop where
 ex:∃oe vs,h.get? e=some oe/\oe.cls=cls/\oe.dict=dW/\oe.data=.fields vs/\vs[1]?=some .none/\vs[2]?=some .none
def Ci (X:Cx) (W:af->Option ah->St->Hp->Prop):Prop:=
 ∀(pins:List (ah×Obj)) (σ:St) (H:Hp) (s:ai) (e:ah) (cls:af) (dW:Option ah),Inv X pins σ H s->Mad s.heap e cls dW->H e=none->X.gG.heap.get? e=none->e≠X.env.locals->(∀x c,X.env.cells.lookup x=some c->c≠e)->(∀p∈X.pn++pins,p.1≠e)->W cls dW σ H->X.xe (.ref e) s
section
variable {P:aF}{w:ba}{K:PySem.W.Frag}{mg:Str->Option af}{base:Heap}{N:List Str}{qual:Str}{scope:Scope}{f:ah}{cd:af}{A:aQ}{outer:List Env}{s:ai}{H:Hp}{E:XK}
def O4:vL (eU (qC P w) P w K mg base N qual scope f cd A outer s H E) (fun cls dW _ H'=>E cls dW H'):=by
 rintro pins σ H1 s1 e s' I ⟨a,cls,dW,H',rfl,os,bare,un,eE,q,F⟩
 have J:=I.GC os un eE bare (fun b z=>absurd z (by simp))
 obtain⟨B,Al,tU,hp,o1,o2⟩:=(I.Ip F).ex
 show wpAny _ _ (leaving _ (.ref a)) _ _ s'
 refine FD I.ok.frames rfl Al fun h' x1 x2=>?_
 have J':=J.sZ Al.st x1.st x2 tU hp o1 o2
 exact⟨a,cls,dW,H',rfl,J'.os,J'.bare,J'.base,J'.eE,q,B,x1,tU,fun b o q n hb=>o1 b o q n hb (by intro z;cases z),fun b o q hb=>o2 b o q hb (by intro z;cases z)⟩
end
section
variable {P:aF}{w:ba}{K:PySem.W.Frag}{mg:Str->Option af}{base:Heap}{N:List Str}{qual:Str}{scope:Scope}{f:ah}{cd:af}{A:aQ}{outer:List Env}{s:ai}{H:Hp}{E:XK}
def js:Ci (eU (qC P w) P w K mg base N qual scope f cd A outer s H E) (fun cls dW _ H'=>E cls dW H'):=by
 intro pins σ H1 s1 e cls dW I hx n0 ns nl nc np q
 have Xm:∀env∈(eU (qC P w) P w K mg base N qual scope f cd A outer s H E).stack,∀a,env.frame=some a->a∈e::nE (eU (qC P w) P w K mg base N qual scope f cd A outer s H E).stack:=fun env he a hf=>cm _ (zv.mpr ⟨env,he,hf⟩)
 obtain⟨oe,vs,he,hc,ML,hd,v1,v2⟩:=hx.ex
 show wpAny _ _ (leaving _ (.ref e)) _ _ _
 have ns:s.heap.get? e=none:=ns
 refine Ak (B:=hideAll s1.heap (e::nE (eU (qC P w) P w K mg base N qual scope f cd A outer s H E).stack)) I.ok.frames rfl (fun b o q=>of_hideAll _ q) (funFrames_hide I.stack Xm) he hc ML hd v1 v2 (hideAll_none _ (cf ..)) fun h' x1 x4=>?_
 have kB:(hideAll s1.heap (e::nE (eU (qC P w) P w K mg base N qual scope f cd A outer s H E).stack)).StaysIn s1.heap:=fun b o q=>of_hideAll _ q
 have Vy:∀b o,s1.heap.get? b=some o->b≠e->b∉nE (eU (qC P w) P w K mg base N qual scope f cd A outer s H E).stack->(hideAll s1.heap (e::nE (eU (qC P w) P w K mg base N qual scope f cd A outer s H E).stack)).get? b=some o:=fun b o g n1 n2=>hideAll_get _ g fun z=>(aC.mp z).elim n1 n2
 have tU:∀b u,H1 b=some u->∃o,(hideAll s1.heap (e::nE (eU (qC P w) P w K mg base N qual scope f cd A outer s H E).stack)).get? b=some o:=fun b u eb=>by
  obtain⟨o,ho⟩:=lF (I.eE b u eb)
  exact⟨o,Vy b o ho (fun z=>by rw[z,n0] at eb;cases eb) fun z=>by rw[I.xY b z] at eb;cases eb⟩
 have hp:∀p∈[]++pins,(hideAll s1.heap (e::nE (eU (qC P w) P w K mg base N qual scope f cd A outer s H E).stack)).get? p.1=some p.2:=fun p hq=>by
  obtain⟨p1,p2,p3,p4,_⟩:=I.pin p hq
  exact Vy _ _ p1 (np p hq) fun z=>(aC.mp (I.rS _ z)).elim p3 p4
 have o1:∀b o,s.heap.get? b=some o->H b=none->b∉nE outer->b∉([]:List ah)->(hideAll s1.heap (e::nE (eU (qC P w) P w K mg base N qual scope f cd A outer s H E).stack)).get? b=some o:=fun b o q n hb hx=>Vy _ _ (I.base.keep b o q n hb hx) (fun z=>by rw[z,ns] at q;cases q) (I.xv q hb)
 have o2:∀b o,s.heap.get? b=some o->b∉nE outer->b∉([]:List ah)->∃o',(hideAll s1.heap (e::nE (eU (qC P w) P w K mg base N qual scope f cd A outer s H E).stack)).get? b=some o':=fun b o q hb hx=>by
  obtain⟨o',eo⟩:=I.base.there b o q hx
  exact⟨o',Vy _ _ eo (fun z=>by rw[z,ns] at q;cases q) (I.xv q hb)⟩
 have J':=I.sZ kB x1.st x4 tU hp o1 o2
 exact⟨e,cls,dW,H1,rfl,J'.os,J'.bare,J'.base,J'.eE,q,_,x1,tU,fun b o q n hb=>o1 b o q n hb (by intro z;cases z),fun b o q hb=>o2 b o q hb (by intro z;cases z)⟩
end
section
variable {X:Cx}{W:af->Option ah->St->Hp->Prop}
def yC {k:Nat}{f:ah}{fd:FuncData}{ps:List Str}{sp:Sp}{ds:List af}{lS:List V}{pins:List (ah×Obj)}{σ:St}{H:Hp}{s:ai}{Q:VK}{us:List af}{vs:List V}(F:dO X.prog X.w X.K X.mg X.base (qC X.prog X.w) k f fd ps sp) (hr:eK k X.A) (hb:Binds X.K fd ps ds) (hd:cy lS ds) (hL:vL X W)
  (I:Inv X pins σ H s) (r:cy vs us) (h:sp (vs++lS) H Q (fun cls dW H'=>W cls dW σ H')):wpAny (model X.prog X.w) X.A (call (.ref f) us) (EP X pins σ Q) X.xe s:=by
 have r2:cy (vs++lS) (us++ds):=r.append hd
 have hl:(us++ds).length=ps.length:=by rw[<-r2.length];exact F.len _ _ _ _ h
 refine nN (kh (F.run X.A X.stack s H ⟨us,[]⟩ (us++ds) (vs++lS) Q _ hr I.EX (hb s us I.kC hl) r2 h) fun r s' hq=>?_)
 cases r with
 |error e=>exact hL pins σ H s e s' I hq
 |ok fl=>
  cases fl with
  |ret u=>exact I.after hq
  |next=>exact False.elim hq
  |brk=>exact False.elim hq
  |cont=>exact False.elim hq
def Cj (sp:Sp) (lS:List V) (W:af->Option ah->St->Hp->Prop) (t:TA):TE:=fun σ H Q=>t σ H fun vs H1=>sp (vs++lS) H1 Q fun cls dW H'=>W cls dW σ H'
def Iq {k:Nat}{f:ah}{fd:FuncData}{x:Str}{ps:List Str}{sp:Sp}{ds:List af}{lS:List V}{e:Expr}{es:List Expr}{t:TA}{p pos:Pos}(F:dO X.prog X.w X.K X.mg X.base (qC X.prog X.w) k f fd ps sp) (hr:eK k X.A) (hg:Gl X x) (hm:X.mg x=some (.ref f)) (hk:PySem.W.keepIn X.K (.ref f)=true) (hb:Binds X.K fd ps ds) (hd:cy lS ds) (hL:vL X W)
  (ha:PA X (e::es) t) (pX:(x==("__debug__":Str))=false:=by decide) (he:starEach (e::es) X.env=(false,eval e X.env)::starEach es X.env:=by rfl) (jZ:(backTo pos (starEach es X.env)).any (·.1)=false:=by rfl):
  PE X (.Call (.Name x p) (e::es) [] pos) (Cj sp lS W t):=by
 intro pins s σ H Q I h
 refine fV (jg I hg hm ?_ pX)
 refine iI (h₀:=X.base) I.ok.mod.pI hk (e_ (ha pos pins s σ H _ I h) fun us s1 ⟨vs,H1,I1,r,q⟩=>⟨I1.kC,?_⟩) he jZ
 exact yC F hr hb hd hL I1 r q
end
def iV.Lb {P:aF}{w:ba}{K:PySem.W.Frag}{mg:Str->Option af}{base:Heap}{x qual:Str}{st:Stmt}{f:ah}{fd:FuncData}{N ps:List Str}{k:Nat}{sp:Sp}(F:iV K x qual st f fd) (S:bV N ps (av st)) (len:∀vs H Q E,sp vs H Q E->vs.length=ps.length)
  (uU:∀(cdv:af) (A:aQ) (outer:List Env) (s:ai) (H:Hp) (vs:List V) (Q:VK) (E:XK),eK k (A.deeper (envOfC qual (av st) s.heap.objs.size f cdv))->sp vs H Q E->
   ∃t,wz (eU (qC P w) P w K mg base N qual (av st) f cdv A outer s H E) (fu st) t/\t {nx:=fun _ H'=>Q .eA H',rt:=Q} (start N vs) H):dO P w K mg base (qC P w) (k+1) f fd ps sp:=by
 obtain⟨oc,od,kV,doc,pm,an,cdv,ct,rZ,rfl,lk,Bh⟩:=F.ex
 exact Mr lk Bh S len fun A outer s H vs Q E hr EZ=>uU cdv A outer s H vs Q E hr EZ
abbrev Cx.yD (X:Cx) (pins:List (ah×Obj)) (W:af->Option ah->St->Hp->Prop):Cx:=
 {X with pn:=X.pn++pins,xe:=fun e s'=>∃a cls dW σ H',e=.ref a/\Inv X pins σ H' s'/\Io X pins H' a cls dW s'.heap/\W cls dW σ H'}
def sO (a:ah) (cls:af) (dW:Option ah):HO:=.ext fun h=>∃oe vs,h.get? a=some oe/\oe.cls=cls/\oe.dict=dW/\oe.data=.fields vs/\vs[2]?=some .none
section
variable {X:Cx}{pins:List (ah×Obj)}{σ:St}{H:Hp}{s:ai}{W:af->Option ah->St->Hp->Prop}
def Inv.yD (I:Inv X pins σ H s) (W:af->Option ah->St->Hp->Prop):Inv (X.yD pins W) [] σ H s:=
 ⟨⟨I.ok.mod,I.ok.kind,I.ok.glob,I.ok.blt,I.ok.above,I.ok.inj,I.ok.has,I.ok.JM,I.ok.hd,I.ok.frames,I.ok.Kc,I.ok.EI,I.ok.bs,I.ok.Bg,I.ok.wy,I.ok.tV,I.ok.mf,I.ok.C4⟩,I.os,I.bare,I.base,I.loc,I.cell,I.free,I.iZ,fun p hp=>I.pin p (by simpa using hp),I.eE,I.len⟩
def Inv.oE {uP:List (ah×Obj)}(I:Inv (X.yD pins W) uP σ H s):Inv X pins σ H s:=
 ⟨⟨I.ok.mod,I.ok.kind,I.ok.glob,I.ok.blt,I.ok.above,I.ok.inj,I.ok.has,I.ok.JM,I.ok.hd,I.ok.frames,I.ok.Kc,I.ok.EI,I.ok.bs,I.ok.Bg,I.ok.wy,I.ok.tV,I.ok.mf,I.ok.C4⟩,I.os,I.bare,I.base,I.loc,I.cell,I.free,I.iZ,fun p hp=>I.pin p (ju _ hp),I.eE,I.len⟩
def SP.oE {D:Ends}{f:Flow}{s':ai}{uP:List (ah×Obj)}(h:SP (X.yD pins W) uP D f s'):SP X pins D f s':=by
 cases f with
 |next=>obtain⟨bW,H',I,q⟩:=h;exact⟨bW,H',I.oE,q⟩
 |brk=>obtain⟨bW,H',I,q⟩:=h;exact⟨bW,H',I.oE,q⟩
 |cont=>obtain⟨bW,H',I,q⟩:=h;exact⟨bW,H',I.oE,q⟩
 |ret u=>obtain⟨v,bW,H',I,r,q⟩:=h;exact⟨v,bW,H',I.oE,r,q⟩
def oG:vL (X.yD pins W) W:=by
 rintro uP σ H s e s' I ⟨a,cls,dW,H',rfl,os,bare,un,eE,q,F⟩
 have J:=I.GC os un eE bare (fun b z=>absurd z (by simp))
 obtain⟨B,Al,tU,hp,o1,o2⟩:=(I.Ip F).ex
 exact⟨a,cls,dW,σ,H',rfl,J.oE,⟨B,Al,tU,fun p h=>hp p (ju _ h),o1,o2⟩,q⟩
end
def Lc (K:Frag) (C:ah) (i:Nat) (tb:(af->Option ah->St->Hp->Prop)->TS) (ts:ah->TS):TS:=fun D σ H=>
 tb (fun cls dW bW H'=>exmOne K cls (.ref C)=some true/\∀a,H' a=none->ts a {nx:=fun iE H2=>D.nx (iE.set i none) H2,rt:=D.rt,bk:=fun iE H2=>D.bk (iE.set i none) H2,ct:=fun iE H2=>D.ct (iE.set i none) H2} (bW.set i (some (.ref a))) (upd H' a (sO a cls dW))) D σ H
def FE {X:Cx}{body Am:List Stmt}{b0:Stmt}{x n:Str}{C:ah}{i:Nat}{xp hp pos:Pos}{tb:(af->Option ah->St->Hp->Prop)->TS}{ts:ah->TS}(Ir:X.stack=X.env::X.outer) (Aj:X.env.frame=some X.env.locals) (hex:X.ex=[]) (hN:X.N.Nodup) (hi:X.N[i]?=some n) (hk:X.env.scope.names.lookup n=some .local)
  (hg:Gl X x) (hm:X.mg x=some (.ref C)) (hb:∀pins W,wz (X.yD pins W) body (tb W)) (hs:∀a,wz (X.zr a) (b0::Am) (ts a)) (pX:(x==("__debug__":Str))=false:=by decide):
  PS X (.Try body [.ExceptHandler (some (.Name x xp)) (some n) (b0::Am) hp] [] [] pos) (Lc X.K C i tb ts):=by
 intro pins s σ H D I h
 refine wpAny_Try_except ?_
 refine bK (hb pins _ [] s σ H D (I.yD _) h) (fun f s1 q=>?_) fun e s1 q=>?_
 ·have q':=q.oE
  cases f with
  |next=>exact ak q'
  |brk=>exact q'
  |cont=>exact q'
  |ret u=>exact q'
 ·obtain⟨a,cls,dW,bW,H',rfl,I1,⟨B,Al,tU,MM,o1,o2⟩,w1,w2⟩:=q
  have XI:X.A.frames=some (X.env::X.outer):=by rw[<-Ir];exact I.ok.frames
  rw[Ir] at Al
  refine vK XI Aj Al fun h1 G1 u1=>?_
  have I2:=I1.sZ Al.st G1.st u1 tU MM o1 o2
  refine sN (s:={s1 with heap:=h1}) G1 fun h2 G2 u2=>?_
  have I3:=I2.sZ G1.st G2.st u2 tU MM o1 o2
  refine wpAny_handleBy_cons (codeAny_handlers_test ?_) (fun z=>nomatch z)
  refine jg (X:=X.zr a) (I3.zr a) hg hm ?_ pX
  obtain⟨oe,vs,T,oT,ts',he,hc,r⟩:=G2.tr
  have lt:Looks (model X.prog X.w) h2 (typeOf (.ref a)) cls:=by
   rw[<-hc]
   exact(nz he).andThen .now
  refine(exm_one (M:=model X.prog X.w) (K:=X.K) (h:=h2) (I3.kC) lt w1).here ?_
  refine codeAny_handlers_suite_as ?_
  refine sN (s:={s1 with heap:=h2}) G2 fun h3 G3 u3=>?_
  have I4:=I3.sZ G2.st G3.st u3 tU MM o1 o2
  have nH:H' a=none:=by
   cases e:H' a with
   |none=>rfl
   |some u=>obtain⟨o,ho⟩:=tU a u e;rw[Al.no] at ho;cases ho
  obtain⟨oe3,vs3,T3,oT3,ts3,Vz,XJ,XM,XN,v31,v32,r3⟩:=G3.tr
  have Z8:a∉nE (X.env::X.outer):=fun z=>by
   obtain⟨_,o,ho,nf⟩:=G3.fr.mem z
   rw[Vz] at ho;cases ho
   exact nf _ XN
  have inl:X.env.locals∈nE (X.env::X.outer):=by rw[nE,ij,Aj];exact cf
  have sub:∀b,b∈X.fs->b∈nE (X.env::X.outer):=fun b hb=>by rw[nE,ij,Aj];exact cm _ hb
  have n0:X.gG.heap.get? a=none:=by
   cases e:X.gG.heap.get? a with
   |none=>rfl
   |some o=>
    obtain⟨o',zB⟩:=o2 a o e (fun z=>Z8 (sub a z)) (by rw[hex];simp)
    rw[Al.no] at zB;cases zB
  have I5:=I4.Mx (a:=a) (o:=sO a cls dW) nH n0 (fun z=>Z8 (z▸inl)) (fun y c ec z=>by
   obtain⟨v,oc,RM,ML⟩:=I4.cell y c ec
   rw[z] at RM
   have Tj:h3.get? a=some oc:=RM
   rw[Vz] at Tj;cases Tj
   rw[XN] at ML;cases ML) (fun p hp z=>by
   have:=MM p hp
   rw[z,Al.no] at this;cases this) ⟨⟨oe3,vs3,Vz,XJ,XM,XN,v32⟩,⟨_,Vz⟩,fun g1 g2 ⟨oe,vs,e,r⟩ k=>⟨oe,vs,k _ e,r⟩⟩
  refine oX I5 hN hi (.inl hk) (show RelV (V.ref a) (Value.ref a) from rfl) (fun s6 I6 _=>?_) (.inr hk)
  refine bK (hs a pins s6 _ _ _ (I6.zr a) (w2 a nH)) (fun f s7 q=>?_) fun _ _ z=>False.elim z
  have un:∀{tW:St} {H7:Hp},Inv (X.zr a) pins tW H7 s7->Inv X pins tW H7 s7:=fun J=>J.Mw I.ok.hd I.ok.frames
  cases f with
  |next=>
   obtain⟨tW,H7,J,q⟩:=q
   exact uo (un J) hN hi hk fun s' J'=>⟨_,_,J',q⟩
  |brk=>
   obtain⟨tW,H7,J,q⟩:=q
   exact uo (un J) hN hi hk fun s' J'=>⟨_,_,J',q⟩
  |cont=>
   obtain⟨tW,H7,J,q⟩:=q
   exact uo (un J) hN hi hk fun s' J'=>⟨_,_,J',q⟩
  |ret u=>
   obtain⟨v,tW,H7,J,r,q⟩:=q
   exact uo (un J) hN hi hk fun s' J'=>⟨v,_,_,J',r,q⟩
def sQ (a C d:ah) (h:Heap):Prop:=∃oe vs od,h.get? a=some oe/\oe.cls=.ref C/\oe.dict=some d/\oe.data=.fields vs/\h.get? d=some od
section
variable {prog:aF}{w:ba}{A:aQ}{E:af->ai->Prop}{K:Frag}{h:Heap}{g:Array GenState}{d:Drawn}{t:Nat}{os:OsState}{a C dc:ah}
def An {oe od:Obj}{vs:Array af}(h1:h.get? a=some oe) (h2:oe.cls=.ref C) (h3:oe.dict=some dc) (h4:oe.data=.fields vs) (h5:h.get? dc=some od):InstAt h a oe C (some od):=by
 refine⟨h1,h2,?_,?_⟩
 ·obtain⟨_,_,dt,_⟩:=oe
  have:dt=.fields vs:=h4
  subst this
  rfl
 ·rw[h3];exact h5
def vM {Aa:af}{Q:Unit->ai->Prop}(X:K.In h) (F:oo K C) (p:sQ a C dc h) (q:Q () ⟨h,g,d,t,os⟩):wpAny (model prog w) A (checkBuiltinCall "BaseException.__getattribute__" ⟨[.ref a,Aa],[]⟩) Q E ⟨h,g,d,t,os⟩:=by
 obtain⟨oe,vs,od,h1,h2,h3,h4,h5⟩:=p
 have L0:Looks (model prog w) h (typeOf (.ref a)) (.ref C):=h2▸(nz h1).andThen .now
 have L1:=looks_mroIn (M:=model prog w) X F.be
 have hk:builtinKind "BaseException.__getattribute__"=some .slot:=by decide+kernel
 have hs:splitId "BaseException.__getattribute__"=some ("BaseException","__getattribute__"):=by decide+kernel
 have ha:=PySem.F.args_bexc_ga (.ref a) Aa
 simp only[checkBuiltinCall,hk,hs]
 refine aa ?_
 unfold isInstance
 repeat (first|with_reducible refine L0.at ?_|with_reducible refine L1.at ?_|wp_step)
 exact q
def Ck {tk:Tok}{Q:Fin->ai->Prop}(X:K.In h) (F:oo K C) (p:sQ a C dc h) (q:Q (.done (.ret (.ref C))) ⟨h,g,d,t,os⟩):
  wpAny (model prog w) A (Builtin.«object.__getattribute__» ⟨[.ref a,.str "__class__" tk],[]⟩) Q E ⟨h,g,d,t,os⟩:=by
 obtain⟨oe,vs,od,h1,h2,h3,h4,h5⟩:=p
 have L0:Looks (model prog w) h (typeOf (.ref a)) (.ref C):=h2▸(nz h1).andThen .now
 have L2:=iC (M:=model prog w) X F.cl
 have hT5:(⟨h,g,d,t,os⟩:ai).TypeIs (.builtin "object.__class__") "getset_descriptor":=jf
 have f5:=jf
 have f6:=PySem.F.slot_gs_get.lookup
 have f7:=PySem.F.slot_gs_set.lookup
 repeat (any_goals (first|assumption|with_reducible refine L0.at ?_|with_reducible refine L2.at ?_|wp_step))
 refine class_get (s:=⟨h,g,d,t,os⟩) X (An h1 h2 h3 h4 h5) F.ob ?_
 repeat (any_goals (first|assumption|wp_step))
def Ld {tk:Tok}{Q:af->ai->Prop}(X:K.In h) (F:oo K C) (p:sQ a C dc h) (q:Q (.ref C) ⟨h,g,d,t,os⟩):
  wpAny (model prog w) A (getAttrBy (.ref a) (.str "__class__" tk) false) Q E ⟨h,g,d,t,os⟩:=by
 have p':=p
 obtain⟨oe,vs,od,h1,h2,h3,h4,h5⟩:=p
 have L0:Looks (model prog w) h (typeOf (.ref a)) (.ref C):=h2▸(nz h1).andThen .now
 have L1:=iC (M:=model prog w) X F.ga
 have L2:=iC (M:=model prog w) X F.no
 have b0:=fC.ga.bind (.ref a)
 have n0:(onTheHeap (Value.ref C)&&Value.builtin "BaseException.__getattribute__"==Value.builtin "object.__getattribute__")=false:=by
  have n1:(Value.builtin "BaseException.__getattribute__"==Value.builtin "object.__getattribute__")=false:=by decide+kernel
  rw[n1];rfl
 repeat (any_goals (first|assumption|with_reducible refine L0.at ?_|with_reducible refine L1.at ?_|with_reducible refine L2.at ?_|wp_step))
 refine jW fC.ga.plain uI (vM X F p' (Ck X F p' ?_))
 repeat (any_goals (first|assumption|wp_step))
def FF {Q:Option af->ai->Prop}(X:K.In h) (F:oo K C) (p:sQ a C dc h) (q:Q (some (.ref C)) ⟨h,g,d,t+1,os⟩):wpAny (model prog w) A (getAttr? (.ref a) "__class__") Q E ⟨h,g,d,t,os⟩:=by
 unfold getAttr? getAttrBy?
 repeat (any_goals (first|assumption|with_reducible apply Ld X F p|wp_step))
end
def FG {K:Frag}{a C dc:ah}(F:oo K C):KitX K (.ref a) (.ref C) (sQ a C dc) where
 ty:=fun M h _ p=>by
  obtain⟨oe,vs,_,h1,h2,_⟩:=p
  exact h2▸(nz h1).andThen .now
 it:=fun _ _ X _=>by
  obtain⟨cd,hc⟩:=hX.mp F.cs
  unfold clsIn at hc
  split at hc
  ·rename_i c' d' W8 NB ho
   intro A' Q' E' s' k q
   unfold isType loadHead
   exact aa (A5 (k _ _ (X _ _ ho)) (ak q))
  ·cases hc
 ne:=fun h tp dd cE n sl X W9=>by
  obtain⟨cd,hc⟩:=hX.mp F.cs
  refine gW.mpr fun q=>?_
  have e:C=tp:=Value.ref.inj (iH.mp q)
  subst e
  unfold clsIn at hc
  split at hc
  ·rename_i c' d' W8 NB ho
   have z:=(X _ _ ho).symm.trans W9
   cases z
  ·cases hc
 ca:=fun{_ _ _ _ _ s} X p k=>by
  obtain⟨h,g,d,t,os⟩:=s
  exact FF X F p k
def O7 (K:Frag):List V->Hp->VK->Prop:=fun xs H Q=>∃a C d fs c cv b,xs=[.ref a,c]/\H a=some (sO a (.ref C) (some d))/\H d=some (.xd fs)/\oo K C/\HM c=some cv/\kitOne K (.ref C) cv=some b/\Q (.bl b) H
def Cm {X:Cx}:gE X (.builtin "isinstance") (O7 X.K):=by
 intro pins s σ H xs us Q I r h
 obtain⟨a,C,d,fs,c,cv,b,rfl,ha,hd,F,hc,e,q⟩:=h
 obtain⟨u,u',rfl,r1,r2⟩:=vals2 r
 cases(show u=Value.ref a from r1)
 have hu:u'=cv:=by
  cases c<;>simp only[HM,Option.some.injEq,reduceCtorEq] at hc
  ·subst hc;exact r2
  ·subst hc;exact r2
 subst hu
 obtain⟨⟨oe,vs,h1,h2,h3,h4,_⟩,_⟩:=I.eE a _ ha
 obtain⟨od,ho⟩:=lF (I.eE d _ hd)
 exact kia_one (FG (dc:=d) F) I.kC ⟨oe,vs,od,h1,h2,h3,h4,ho⟩ e (fun z=>nomatch z) fun tk=>⟨.bl b,H,I.tok tk,rfl,q⟩
section
variable {prog:aF}{w:ba}{A:aQ}{E:af->ai->Prop}{K:Frag}{h:Heap}{g:Array GenState}{d:Drawn}{t:Nat}{os:OsState}{a C dc:ah}{oe od:Obj}{name:Str}{v:af}
def Cn {tk:Tok}{Q:Fin->ai->Prop}(X:K.In h) (I:InstAt h a oe C (some od)) (hf:findObj K C (some od) name=some (.value v)) (q:Q (.done (.ret v)) ⟨h,g,d,t,os⟩):
  wpAny (model prog w) A (Builtin.«object.__getattribute__» ⟨[.ref a,.str name tk],[]⟩) Q E ⟨h,g,d,t,os⟩:=by
 have L0:=I.type (M:=model prog w)
 have L1:=looks_find (M:=model prog w) X I hf
 refine aa (ak (aa (ak (aa (L0.at (aa (L1.at ?_)))))))
 exact ak q
def Le {tk:Tok}{b c:Bool}{vs:Array af}{Q:af->ai->Prop}(X:K.In h) (F:oo K C) (h1:h.get? a=some oe) (h2:oe.cls=.ref C) (h3:oe.dict=some dc) (h4:oe.data=.fields vs) (h5:h.get? dc=some od)
  (hf:findObj K C (some od) name=some (.value v)) (hv:handedIn v=true) (q:Q v ⟨h,g,d,t,os⟩):
  wpAny (model prog w) A (getAttrBy (.ref a) (.str name tk) b c) Q E ⟨h,g,d,t,os⟩:=by
 have p':sQ a C dc h:=⟨oe,vs,od,h1,h2,h3,h4,h5⟩
 have L0:Looks (model prog w) h (typeOf (.ref a)) (.ref C):=h2▸(nz h1).andThen .now
 have L1:=iC (M:=model prog w) X F.ga
 have L2:=iC (M:=model prog w) X F.no
 have b0:=fC.ga.bind (.ref a)
 have n0:(onTheHeap (Value.ref C)&&Value.builtin "BaseException.__getattribute__"==Value.builtin "object.__getattribute__")=false:=by
  have n1:(Value.builtin "BaseException.__getattribute__"==Value.builtin "object.__getattribute__")=false:=by decide+kernel
  rw[n1];rfl
 cases b<;>cases c
 all_goals repeat (any_goals (first|assumption|with_reducible refine L0.at ?_|with_reducible refine L1.at ?_|with_reducible refine L2.at ?_|wp_step))
 all_goals refine jW fC.ga.plain uI (vM X F p' (Cn X (An h1 h2 h3 h4 h5) hf ?_))
 all_goals show wpAny _ _ (handedOut v) _ _ _
 all_goals rw[handedOut_of hv]
 all_goals exact ak q
end
section
variable {prog:aF}{w:ba}{A:aQ}{E:af->ai->Prop}{K:Frag}{s:ai}{x C:ah}{ox:Obj}{od:Option Obj}{cd:ClassData}{name:Str}{v:af}
def Lf {tk:Tok}{R:Result->ai->Prop}(X:K.In s.heap) (I:InstAt s.heap x ox C od) (hc:clsIn K C=some cd) (XO:mroIn K C (.type "object")=some true) (hr:refuseLoop (.ref x) "__setattr__" cd.mro=pure ()) (ha:findIn K (.ref C) name=some none)
  (h:wpAny (model prog w) A.in1 (Builtin.ObjectAttr.storeInOwnDict (.ref x) (.ref C) (.str name tk) name v false)
   (fun fin s'=>match fin with| .done f=>R (.ok f) s'| .again c'=>c'.quiet=true/\codeAny (model prog w) A c' R s') (fun e s'=>R (.error e) s') s):
  codeAny (model prog w) A (.call (.builtin "object.__setattr__") ⟨[.ref x,.str name tk,v],[]⟩) R s:=by
 have SF:=PySem.F.store_object
 have sub:Looks (model prog w) s.heap (isInstance (.ref x) (.type "object")) true:=I.type.andThen (looks_mroIn X XO)
 refine jW SF.slot.plain SF.entry (@check_slot (model prog w) _ _ s "object.__setattr__" "object" "__setattr__" (.ref x) [.str name tk,v] [] _ SF.kind SF.split sub (SF.args (.ref x) (.str name tk) v) ?_)
 have hm:Looks (model prog w) s.heap (mroOf (.ref C)) cd.mro:=(looks_clsIn X hc).andThen .now
 have L3:Looks (model prog w) s.heap (Builtin.ObjectAttr.storeTaker? none) none:=.now
 rw[osa_eq,refuse_eq]
 refine aa (aa (I.type.here (aa (hm.here ?_))))
 rw[hr]
 refine ak (aa (I.type.here (aa ((iC X ha).here (aa (L3.here ?_))))))
 exact h
def FH {Q:Unit->ai->Prop}(X:K.In s.heap) (I:InstAt s.heap x ox C none) (Z9:ox.dict=none) (hs:findIn K (.ref C) "__setattr__"=some (some (.builtin "object.__setattr__"))) (hc:clsIn K C=some cd) (hd:cd.hasDict=true) (XO:mroIn K C (.type "object")=some true) (hr:refuseLoop (.ref x) "__setattr__" cd.mro=pure ()) (ha:findIn K (.ref C) name=some none)
  (h:∀h' t',h'.get? x=some {ox with dict:=some s.heap.objs.size}->h'.Ns1 s.heap.objs.size (fun y=>if y=name then some v else none)->(∀b o,b≠x->s.heap.get? b=some o->h'.get? b=some o)->Q () {s with heap:=h',toks:=t'}):
  wpAny (model prog w) A (setAttr (.ref x) name v) Q E s:=by
 refine set_plain X I hs (Lf (s:={s with toks:=s.toks+1}) X I hc XO hr ha ?_)
 obtain⟨hx,Hf,hn,-⟩:=I
 obtain⟨hp,g,d,t,os⟩:=s
 obtain⟨oc,odi,SE,rZ⟩:=ox
 dsimp only at Hf Z9 hx h
 subst Hf Z9
 refine aa (ak (aa (aa (A5 hx (aa (PySem.W.Looks.here (s:=⟨hp,g,d,t+1,os⟩) (looks_clsIn X hc) ?_))))))
 rw[hd]
 have mD:x≠hp.objs.size:=bb (aA hx)
 have MN:(hp.push {cls:=.type "dict",data:=.dict #[]}).get? x=some ⟨.ref C,none,SE,rZ⟩:=ag _ hx
 have body:wpAny (model prog w) A.in1 (do
   let a<-alloc {cls:=.type "dict",data:=.dict #[]}
   update x fun o=>{o with dict:=some a}
   pure (some a)) (fun r s'=>wpAny (model prog w) A.in1 (match r with|some d=>Builtin.ObjectAttr.storeInDict d (.str name t) name v|none=>Builtin.ObjectAttr.noDictFor (.ref x) (.ref C) name false) (fun fin s'=>match fin with| .done f=>(match (Except.ok f:Result) with| .ok (.ret _)=>Q () s'| .ok _=>False| .error e=>E e s')| .again c'=>c'.quiet=true/\codeAny (model prog w) A c' (fun r s'=>match r with| .ok (.ret _)=>Q () s'| .ok _=>False| .error e=>E e s') s') E s') E ⟨hp,g,d,t+1,os⟩:=by
  refine aa (wpAny_alloc' (aa (wpAny_update' MN (ak ?_))))
  have hgd:((hp.push {cls:=.type "dict",data:=.dict #[]}).update x fun o=>{o with dict:=some hp.objs.size}).get? hp.objs.size=some {cls:=.type "dict",data:=.dict #[]}:=
   (kA _ _ _ _ mD.symm).trans (Heap.get?_push_at rfl rfl)
  have zr:((hp.push {cls:=.type "dict",data:=.dict #[]}).update x fun o=>{o with dict:=some hp.objs.size}).Ns hp.objs.size (fun _=>none):=
   ⟨_,#[],_,hgd,rfl,fun e he=>absurd he (by simp),fun _=>rfl⟩
  show wpAny _ _ (Builtin.ObjectAttr.storeInDict hp.objs.size (.str name t) name v) _ _ _
  unfold Builtin.ObjectAttr.storeInDict Builtin.ObjectAttr.newKeyGuard
  refine aa (ak (aa (wpAny_nsSet1 (Heap.Ns1.of_empty zr) fun h' Vg hs=>?_)))
  obtain⟨oD,esD,epD,Wg,Wh,Wi⟩:=Vg.count (Within.cons name v Within.nil)
  refine aa (wpAny_lookBehind Wg (by rw[Wh];exact pastItsLine_dict (bh Wi (by rw[cH,iP,gP];omega))) ?_)
  refine ak (h h' _ ?_ Vg fun b o hbx hb=>?_)
  ·refine(hs.2 x mD).trans (cV _ MN ?_)
   have Aj:=(Heap.get?_some_iff.mp hx).2
   cases SE<;>first|rfl|exact Aj
  ·exact(hs.2 b (bb (aA hb))).trans ((kA _ _ _ _ hbx).trans (ag _ hb))
 cases SE with
 |cls c=>cases hn
 |_=>exact body
end
abbrev vN (cls:af) (dW:Option ah) (t:ah):Obj:={cls:=cls,dict:=dW,data:=.fields #[.ref t,.none,.none,.none,.bool false,.none]}
def qm (a:ah) (cls:af) (dW:Option ah):HO:=.ext fun h=>∃t,h.get? a=some (vN cls dW t)
def yE {P:aF}{w:ba}{H:Hp}{h:Heap}{a t:ah}{cls:af}{dW:Option ah}(h1:h.get? a=some (vN cls dW t)):fP P w H h a (qm a cls dW):=
 ⟨⟨t,h1⟩,⟨_,h1⟩,fun g1 g2 ⟨t,e⟩ k=>⟨t,k _ e⟩⟩
structure O8 (K:Frag) (C:ah):Prop where
 sa:findIn K (.ref C) "__setattr__"=some (some (.builtin "object.__setattr__"))
 ob:mroIn K C (.type "object")=some true
 cd:∃cd,clsIn K C=some cd/\cd.hasDict=true/\∀self:af,refuseLoop self "__setattr__" cd.mro=pure ()
section
variable {X:Cx}{pins:List (ah×Obj)}{σ:St}{H:Hp}{s:ai}{a C d:ah}{fs:List (Str×V)}{f:Str}{v:V}{A:aQ}{E:af->ai->Prop}
def Ao {y:V}{u:af}{Q:Unit->ai->Prop}(I:Inv X pins σ H s) (e:H a=some (qm a (.ref C) none)) (c:O8 X.K C) (n:ji X.K C f) (ry:RelV y u)
  (h:∀d s',H d=none->d≠a->Inv X pins σ (upd (upd H d (.xd [(f,y)])) a (qm a (.ref C) (some d))) s'->Q () s'):wpAny (model X.prog X.w) A (setAttr (.ref a) f u) Q E s:=by
 obtain⟨⟨t,h1⟩,_⟩:=I.eE a _ e
 obtain⟨cd,hc,hd,hr⟩:=c.cd
 have na:s.heap.objs.size≠a:=iG (aA h1)
 refine FH I.kC (DB h1 rfl rfl rfl) rfl c.sa hc hd c.ob (hr _) n fun h' t' g1 g2 g3=>?_
 refine h s.heap.objs.size _ (I.eE.fresh (aB _)) na ?_
 obtain⟨od,es,ep,ho,r⟩:=g2
 have nf:od.isFreed=false:=(Heap.get?_some_iff.mp ho).2
 have e1:(s.heap.push od).get? s.heap.objs.size=some od:=aw _ nf
 have I1:=I.laid (a:=s.heap.objs.size) (o:=.xd [(f,y)]) (h':=s.heap.push od) (t':=t') (fun b u q=>ag _ q) (aB _) ⟨_,⟨od,es,ep,e1,r⟩,fun g=>by
  show nB (List.lookup g [(f,y)]) (if g=f then some u else none)
  by_cases q:g=f
  ·rw[q,aP rfl];simp only[List.lookup,EB];exact ry
  ·rw[aO q];have:(g==f)=false:=by simpa using q
   simp only[List.lookup,this];exact True.intro⟩
 refine I1.write (x:=a) (e:=a) (h':=h') (t':=t') (by rw[aV (cF na),e];exact True.intro) (.inl rfl) (fun b u hb q=>?_) ⟨_,g1⟩ (yE (t:=t) g1)
 rcases Heap.get?_push_cases q with⟨rfl,rfl⟩|q'
 ·exact ho
 ·exact g3 b u hb q'
def Ap {b:Bool}{Q:af->ai->Prop}(I:Inv X pins σ H s) (e:H a=some (sO a (.ref C) (some d))) (ed:H d=some (.xd fs)) (c:oo X.K C) (hh:hasDictIn X.K C=true) (n:ji X.K C f) (l:fs.lookup f=some v)
  (h:∀u s',Inv X pins σ H s'->RelV v u->Q u s'):wpAny (model X.prog X.w) A (getAttr (.ref a) f b) Q E s:=by
 obtain⟨⟨oe,vs,h1,h2,h3,h4,_⟩,_⟩:=I.eE a _ e
 obtain⟨mA,hn,r⟩:=I.eE d _ ed
 obtain⟨od,ho,hl⟩:=xi hn
 obtain⟨u,hu,ru⟩:=nB.some_of (v:=v) (o:=mA f) (by rw[<-l];exact r f)
 obtain⟨hp,g,dd,t,os⟩:=s
 unfold getAttr
 refine aa (wpAny_mkText ?_)
 exact Le I.kC c h1 h2 h3 h4 ho (findObj_own hh n rfl (by rw[hl,hu])) (xj ru) (h u _ (I.tok _) ru)
end
def MO (K:Frag) (ta:TE) (f:Str):TE:=fun σ H Q=>ta σ H fun x H1=>∃a C d fs v,x=.ref a/\H1 a=some (sO a (.ref C) (some d))/\H1 d=some (.xd fs)/\oo K C/\hasDictIn K C=true/\ji K C f/\fs.lookup f=some v/\Q v H1
def Tn (K:Frag) (ta tv:TE) (f:Str):TS:=fun D σ H=>tv σ H fun y H1=>ta σ H1 fun x H2=>∃a C,x=.ref a/\H2 a=some (qm a (.ref C) none)/\O8 K C/\ji K C f/\
 ∀d,H2 d=none->d≠a->D.nx σ (upd (upd H2 d (.xd [(f,y)])) a (qm a (.ref C) (some d)))
section
variable {X:Cx}{o e value:Expr}{f:Str}{pos pos':Pos}{ta tv:TE}
def Lg (he:PE X e ta) (hb:attributeBase e f X.env (eval e X.env)=eval e X.env):PE X (.Attribute e f pos) (MO X.K ta f):=by
 intro pins s σ H Q I h
 refine Dk hb (e_ (he pins s σ H _ I h) fun u s1 ⟨x,H1,I1,rx,a,C,d,fs,v,ex,ea,ed,c,hh,n,l,q⟩=>?_)
 subst ex
 obtain rfl:u=Value.ref a:=rx
 exact Ap I1 ea ed c hh n l fun u' s2 I2 ru=>⟨v,H1,I2,ru,q⟩
def Lh (ha:PE X o ta) (hv:PE X value tv) (hs:swapsWith value (some (.Attribute o f pos')) pos.line X.env=pure false):PS X (.Assign [.Attribute o f pos'] value pos) (Tn X.K ta tv f):=by
 intro pins s σ H D I h
 refine Me (e_ (hv pins s σ H _ I h) fun u s1 ⟨y,H1,I1,ry,q⟩=>e_ (ha pins s1 σ H1 _ I1 q) fun ov s2 ⟨x,H2,I2,rx,a,C,ex,ea,c,n,q2⟩=>?_) hs
 subst ex
 obtain rfl:ov=Value.ref a:=rx
 exact Ao I2 ea c n ry fun d s3 nd na I3=>⟨σ,_,I3,q2 d nd na⟩
end
section
variable {prog:aF}{w:ba}{A:aQ}{E:af->ai->Prop}{h:Heap}{g:Array GenState}{d:Drawn}{t:Nat}{os:OsState}
variable {nm q:Str}{C N:ah}{bs bm OX:List af}{hdct:Bool}{sn:List Str}{sub:List af}{ab:Bool}{col:Option Bool}{dd:Option ah}{k0 k1 k2 k3 k5:Option af}{B newId vI:String}
def init_exc (F:ExcBaseFacts B newId vI OX) (T:OwnTail h OX bm) {e t0:ah}{rest:List af}{Q:af->ai->Prop}
  (hC:h.get? C=some (excClassObj nm q C N bs bm hdct sn sub ab col dd k0 k1 k2 k3 k5 newId)) (he:h.get? e=some (vN (.ref C) none t0)) (DY:rest.length<=sizeLine)
  (hq:∀h' t1,h'.get? e=some (vN (.ref C) none t1)->(∀b o,b≠e->h.get? b=some o->h'.get? b=some o)->Q .none ⟨h',g,d,t,os⟩):
  wpAny (model prog w) A (call (.builtin vI) (.ref e::rest)) Q E ⟨h,g,d,t,os⟩:=by
 refine nN (jW F.init.plain F.initEntry (wpAny_check_init_subT F T hC he rfl ?_))
 have To:(h.push {cls:=.type "tuple",data:=.seq rest.toArray}).get? e=some (vN (.ref C) none t0):=ag _ he
 wp_walk
 refine hq _ h.objs.size ?_ fun b o hb q=>?_
 ·rw[cV _ To rfl]
  rfl
 ·rw[aY _ _ (cF hb)]
  exact ag _ q
end
def del (H:Hp) (a:ah):Hp:=fun b=>if b=a then none else H b
def Aq {H:Hp}{a:ah}:del H a a=none:=by unfold del;rw[aP rfl]
def oH {H:Hp}{a b:ah}(h:b≠a):del H a b=H b:=by unfold del;rw[aO h]
def rl {H:Hp}{a b:ah}(h:H b=none):del H a b=none:=by unfold del;split<;>first|rfl|exact h
def O9 {H:Hp}{a:ah}{o:HO}(h:H a=some o):upd H a o=H:=by
 funext b;unfold upd;split
 ·rename_i e;rw[e,h]
 ·rfl
section
variable {X:Cx}{pins:List (ah×Obj)}{σ:St}{H:Hp}{s:ai}{a C R fI:ah}{cls:af}{dW:Option ah}
def Inv.Li {φ:Heap->Prop}(I:Inv X pins σ H s) (e:H a=some (.ext φ)):Inv X pins σ (del H a) s:=by
 refine⟨I.ok,I.os,I.bare,⟨I.base.keep,I.base.slot,fun b u q m hx=>rl (I.base.free b u q m hx),I.base.there,fun b xs z=>?_,fun b u v z=>?_,fun b ps z=>?_⟩,I.loc,I.cell,rl I.free,fun x c z=>rl (I.iZ x c z),fun p hp=>?_,fun b u z=>?_,I.len⟩
 ·have:=I.base.mJ b xs z
  rw[oH (xc this e nofun)];exact this
 ·have:=I.base.nQ b u v z
  rw[oH (xc this e nofun)];exact this
 ·obtain⟨m,this⟩:=I.base.pH b ps z
  exact⟨m,by rw[oH (xc this e nofun)];exact this⟩
 ·obtain⟨p1,p2,p3⟩:=I.pin p hp
  exact⟨p1,rl p2,p3⟩
 ·by_cases eb:b=a
  ·rw[eb,Aq] at z;cases z
  ·rw[oH eb] at z
   refine(I.eE b u z).pG (fun _ _ _ y=>y) (fun c y=>?_) (fun c xs y=>?_)
   ·rw[oH (xc y e nofun)];exact y
   ·rw[oH (xc y e nofun)];exact y
end
def Co {K:Frag}{h:Heap}{N:ah}{mg:Str->Option af}{n:Str}{v:af}(X:K.In h) (G:h.Ns N mg) (e:nsIn K N n=some (some v)):mg n=some v:=by
 obtain⟨o,es,ep,ho,hd,_,hf⟩:=G
 unfold nsIn at e
 split at e
 ·rename_i c d Vf n' sl q
  have:=X _ _ q
  rw[ho] at this
  cases this
  cases hd
  split at e
  ·rename_i en he
   cases e
   rw[<-hf]
   unfold nsFind findBy
   rw[<-Array.find?_toList,he]
   rfl
  ·split at e<;>cases e
 ·cases e
def Cp (K:Frag) (C fI:ah):Bool:=match K.lookup C with
 |some ⟨.type "type",_,.cls cd,sl⟩=>(match cd.mro,sl.toList with
  | .ref C'::bm,[_,_,_,_,some (.builtin n),_]=>C'==C&&n=="ValueError.__new__"&& !cd.hasDel&&tailIn K vh bm&&nsOkIn K cd.ns&&nsIn K cd.ns "__init__"==some (some (.ref fI))
  |_,_=>false)
 |_=>false
structure Ar (K:Frag) (C fI:ah):Prop where
 is:Cp K C fI=true
 fn:isFn K (.ref fI)=true
 kp:keepIn K (.ref C)=true
def Ar.own {K:Frag}{C fI:ah}{h:Heap}(O:Ar K C fI) (pI:K.In h):∃tl N nm q bs hdct sn sub ab col dd k0 k1 k2 k3 k5 mN,h.get? C=some (excClassObj nm q C N bs tl hdct sn sub ab col dd k0 k1 k2 k3 k5 "ValueError.__new__")/\h.Ns N mN/\mN "__init__"=some (.ref fI)/\OwnTail h vh tl:=by
 have q:=O.is
 unfold Cp at q
 split at q
 case h_2=>cases q
 case h_1 d0 c0 s0 look=>
  split at q
  case h_2=>cases q
  case h_1 C1 tl a0 a1 a2 a3 nw a5 em es=>
   obtain⟨c1,c2,c3,c4,c5,c6,c7,c8,c9,c10,c11⟩:=c0
   obtain⟨sl⟩:=s0
   simp only[cI,iH,kU] at q
   obtain⟨⟨⟨⟨⟨g1,g2⟩,g3⟩,g4⟩,g5⟩,g6⟩:=q
   dsimp only at em es g3 g5 g6
   subst g1 g2 g3 em es
   have n0:h.Ns c4 (h.nsMap c4):=.of_isNs (isNs_of_in pI g5)
   exact⟨tl,c4,c1,c5,c2,c6,c7,c8,c9,c10,d0,a0,a1,a2,a3,a5,h.nsMap c4,pI _ _ look,n0,Co pI n0 g6,tail_of_in pI g4⟩
def Tp {K:Frag}{h:Heap}{f:ah}(pI:K.In h) (e:isFn K (.ref f)=true):∃o,h.get? f=some o/\o.cls=.type "function":=by
 have e:(K.lookup f).map (·.cls)=some (.type "function"):=iH.mp e
 obtain⟨o,ho,hc⟩:=RE.mp e
 exact⟨o,pI _ _ ho,hc⟩
section
variable {X:Cx}{CX:EW}{k:Nat}{C fI:ah}{fd:FuncData}{ps:List Str}{sp:Sp}{lS:List V}{ds:List af}{E:XK}{pins:List (ah×Obj)}{σ:St}{H:Hp}{s:ai}
def Inv.Tq {h':Heap}{e:ah}{rest:List af}(I:Inv X pins σ H s) (hex:X.ex=[]) (mk:Heap.MadeExcOf s.heap h' e (.ref C) rest):
  H e=none/\X.gG.heap.get? e=none/\Inv X pins σ (upd H e (qm e (.ref C) none)) {s with heap:=h'}:=by
 have n1:H e=none:=by
  cases q:H e with
  |none=>rfl
  |some u=>obtain⟨o,ho⟩:=lF (I.eE e u q);rw[mk.new] at ho;cases ho
 have n2:X.gG.heap.get? e=none:=by
  cases q:X.gG.heap.get? e with
  |none=>rfl
  |some o=>obtain⟨o',ho⟩:=I.base.there e o q (by rw[hex];simp);rw[mk.new] at ho;cases ho
 obtain⟨t,ht,_,_⟩:=mk.there
 refine⟨n1,n2,Inv.Mx (I.kept (h':=h') (t':=s.toks) mk.keeps) n1 n2 (fun z=>?_) (fun x c ec z=>?_) (fun p hp z=>?_) (yE ht)⟩
 ·obtain⟨m,⟨o,es,ep,ho,_⟩,_⟩:=I.loc
  rw[<-z,mk.new] at ho;cases ho
 ·obtain⟨v,o,ho,_⟩:=I.cell x c ec
  rw[z,mk.new] at ho;cases ho
 ·have:=(I.pin p hp).1
  rw[z,mk.new] at this;cases this
def FJ {Q:ah->Hp->Prop}{us:List af}{vs:List V}(O:Ar X.K C fI) (F:dO X.prog X.w X.K X.mg X.base CX k fI fd ps sp) (hr:eK (k+1) X.A) (hb:Binds X.K fd ps ds) (hd:cy lS ds) (hx:lT CX X E) (hex:X.ex=[])
  (I:Inv X pins σ H s) (r:cy vs us) (hz:vs.length<=sizeLine)
  (h:∀a,H a=none->sp (.ref a::(vs++lS)) (upd H a (qm a (.ref C) none)) (fun v H2=>v=.eA/\Q a H2) E):
  wpAny (model X.prog X.w) X.A (call (.ref C) us) (fun u s'=>∃a H2,u=.ref a/\X.gG.heap.get? a=none/\Inv X pins σ H2 s'/\Q a H2) X.xe s:=by
 obtain⟨tl,N,nm,q,bs,hdct,sn,sub,ab,col,dd,k0,k1,k2,k3,k5,mN,hC,hN,hi,T⟩:=O.own I.kC
 obtain⟨oI,Tc,Td⟩:=Tp I.kC O.fn
 obtain⟨hp,g,d,t,os⟩:=s
 refine Cf gz T hC hN hi Tc Td (fun h' e mk=>?_) (by rw[<-r.length];exact hz)
 obtain⟨n1,n2,I2⟩:=I.Tq hex mk
 have hq:=h e n1
 have r2:cy (V.ref e::(vs++lS)) (Value.ref e::(us++ds)):=.cons rfl (r.append hd)
 have hl:(Value.ref e::us++ds).length=ps.length:=by
  have z:=r2.length
  rw[F.len _ _ _ _ hq] at z
  exact z.symm
 refine nN (kh (F.run _ X.stack _ _ ⟨Value.ref e::us,[]⟩ (Value.ref e::(us++ds)) _ _ E (hr.make C us []) (I2.EX.make C us []) (hb _ (Value.ref e::us) I2.kC hl) r2 hq) fun r s' EY=>?_)
 cases r with
 |error e=>exact hx pins σ _ _ e s' I2 EY
 |ok fl=>
  cases fl with
  |ret u=>
   obtain⟨v,H',I3,rv,ev,q3⟩:=I2.after EY
   subst ev
   exact⟨rv,e,H',rfl,n2,I3,q3⟩
  |next=>exact False.elim EY
  |brk=>exact False.elim EY
  |cont=>exact False.elim EY
def Lj (C:ah) (sp:Sp) (lS:List V) (E:XK) (W:af->Option ah->St->Hp->Prop) (t:TA):TS:=fun _ σ H=>t σ H fun vs H1=>vs.length<=sizeLine/\
 ∀a,H1 a=none->sp (.ref a::(vs++lS)) (upd H1 a (qm a (.ref C) none)) (fun v H2=>v=.eA/\∃dW,H2 a=some (qm a (.ref C) dW)/\W (.ref C) dW σ (del H2 a)) E
def FK {W:af->Option ah->St->Hp->Prop}{x:Str}{e:Expr}{es:List Expr}{t:TA}{np jl pos:Pos}(hM:Ci X W) (hc:X.calm=true) (O:Ar X.K C fI) (F:dO X.prog X.w X.K X.mg X.base CX k fI fd ps sp) (hr:eK (k+1) X.A) (hb:Binds X.K fd ps ds) (hd:cy lS ds) (hx:lT CX X E) (hex:X.ex=[])
  (hg:Gl X x) (hm:X.mg x=some (.ref C)) (ha:PA X (e::es) t) (pX:(x==("__debug__":Str))=false:=by decide)
  (he:starEach (e::es) X.env=(false,eval e X.env)::starEach es X.env:=by rfl) (jZ:(backTo jl (starEach es X.env)).any (·.1)=false:=by rfl):
  PS X (.Raise (some (.Call (.Name x np) (e::es) [] jl)) none pos) (Lj C sp lS E W t):=by
 intro pins s σ H D I h
 obtain⟨tl,N,nm,q,bs,hdct,sn,sub,ab,col,dd,k0,k1,k2,k3,k5,mN,hC,hN,hi,T⟩:=O.own I.ok.mod.pI
 rw[arm_exec_Raise]
 refine aa (jx (wW (C:=C) (nm:=nm) (q:=q) (N:=N) (bs:=bs) (bm:=tl) (hdct:=hdct) (sn:=sn) (sub:=sub) (ab:=ab) (col:=col) (dd:=dd) (k0:=k0) (k1:=k1) (k2:=k2) (k3:=k3) (k5:=k5) (newId:="ValueError.__new__")
  (T.hasType gz.hasBase) (I.ok.hd hc) (aa (bK (Q:=fun u s'=>∃a H2,u=.ref a/\X.gG.heap.get? a=none/\Inv X pins σ H2 s'/\∃dW,H2 a=some (qm a (.ref C) dW)/\W (.ref C) dW σ (del H2 a)) ?_ (fun v s3 h3=>aa (jx (ak ?_))) fun _ _ x=>x))))
 ·refine fV (jg I hg hm ?_ pX)
  refine iI (h₀:=X.base) I.ok.mod.pI O.kp (e_ (ha jl pins s σ H _ I h) fun us s1 ⟨vs,H1,I1,r,hz,q1⟩=>⟨I1.kC,?_⟩) he jZ
  exact FJ O F hr hb hd hx hex I1 r hz q1
 ·obtain⟨a,H2,rfl,n0,I2,dW,ea,hw⟩:=h3
  obtain⟨⟨t0,h1⟩,_⟩:=I2.eE a _ ea
  refine⟨a,_,_,rfl,I2.bk _ _ hC,h1,rfl,rfl,rfl,?_⟩
  refine hM pins σ (del H2 a) s3 a (.ref C) dW (I2.Li ea) ⟨⟨_,_,h1,rfl,rfl,rfl,rfl,rfl⟩⟩ Aq n0 (fun z=>?_) (fun y c ec z=>?_) (fun p hp z=>?_) hw
  ·have:=I2.free;rw[<-z,ea] at this;cases this
  ·have:=I2.iZ y c ec;rw[z,ea] at this;cases this
  ·have:=(I2.pin p hp).2.1;rw[z,ea] at this;cases this
end
section
variable {X:Cx}{W:af->Option ah->St->Hp->Prop}
def Lk (W:af->Option ah->St->Hp->Prop) (cls:af) (t:TA):TS:=fun _ σ H=>t σ H fun vs H1=>vs.length<=sizeLine/\W cls none σ H1
def gR {x:Str}{C:ah}{e:Expr}{es:List Expr}{t:TA}{np jl pos:Pos}(hM:Ci X W) (hc:X.calm=true) (hex:X.ex=[]) (O:sh X.K X.mg x C) (hg:Gl X x) (ha:PA X (e::es) t) (pX:(x==("__debug__":Str))=false:=by decide)
  (he:starEach (e::es) X.env=(false,eval e X.env)::starEach es X.env:=by rfl) (jZ:(backTo jl (starEach es X.env)).any (·.1)=false:=by rfl):
  PS X (.Raise (some (.Call (.Name x np) (e::es) [] jl)) none pos) (Lk W (.ref C) t):=by
 intro pins s σ H D I h
 have OB:=O.own I.ok.mod.pI
 obtain⟨tl,N,nm,q,bs,hdct,sn,sub,ab,col,dd,k0,k1,k2,k3,k5,mN,hC,hN,OE,T⟩:=OB.obj
 refine wpAny_Raise_call_subT (C:=C) (nm:=nm) (q:=q) (N:=N) (bs:=bs) (bm:=tl) (hdct:=hdct) (sn:=sn) (sub:=sub) (ab:=ab) (col:=col) (dd:=dd) (k0:=k0) (k1:=k1) (k2:=k2) (k3:=k3) (k5:=k5)
  gz (mN:=mN) (T.hasType gz.hasBase) (I.ok.hd hc) (by rw[he];show(false||(backTo jl (starEach es X.env)).any (·.1))=false;rw[jZ];rfl) OE (jg I hg O.at' ⟨rfl,?_⟩ pX)
 have h2:=ha jl pins s σ H _ I h
 rw[he] at h2⊢
 refine A6 (bK h2 (fun vs nR ⟨xs,H1,I1,r,z,q⟩=>⟨rfl,by rw[<-r.length];exact z,I1.bk _ _ hC,hN.keeps I1.bk,T.keeps I1.bk,fun h' e' mk=>?_⟩) fun _ _ y=>y)
 have J:Inv X pins σ H1 {nR with heap:=h'}:=I1.kept (t':=nR.toks) fun b o e=>mk.keeps b o e
 obtain⟨t0,m1,_,_⟩:=mk.there
 refine hM pins σ H1 {nR with heap:=h'} e' (.ref C) none J ⟨⟨_,_,m1,rfl,rfl,rfl,rfl,rfl⟩⟩ ?_ ?_ ?_ ?_ ?_ q
 ·cases g:H1 e' with
  |none=>rfl
  |some u=>obtain⟨o,ho⟩:=lF (I1.eE e' u g);rw[mk.new] at ho;cases ho
 ·cases g:X.gG.heap.get? e' with
  |none=>rfl
  |some o=>obtain⟨o',ho⟩:=I1.base.there e' o g (by rw[hex];intro z;cases z);rw[mk.new] at ho;cases ho
 ·intro z
  obtain⟨m,⟨o,_,_,ho,_⟩,_⟩:=I1.loc
  rw[<-z,mk.new] at ho;cases ho
 ·intro y c ec z
  obtain⟨v,o,ho,_⟩:=I1.cell y c ec
  rw[z,mk.new] at ho;cases ho
 ·intro p hp z
  have:=(I1.pin p hp).1
  rw[z,mk.new] at this;cases this
def mT (C:ah) (m:Str) (sp:Sp) (W:af->Option ah->St->Hp->Prop) (ta:TE) (t:TA):TE:=fun σ H Q=>ta σ H fun x H1=>∃a dx fs,x=.ref a/\H1 a=some (.ins C dx fs)/\fs.lookup m=none/\
 t σ H1 fun vs H2=>sp (x::vs) H2 Q fun cls dW H'=>W cls dW σ H'
def wX (P:aF) (w:ba) (K:PySem.W.Frag) (mg:Str->Option af) (base:Heap) (k:Nat) (C:ah) (m:Str) (ps:List Str) (sp:Sp):Prop:=
 AV K C/\∃f fd,dO P w K mg base (qC P w) k f fd ps sp/\Binds K fd ps []/\yd K C m f
variable {k:Nat}{C:ah}{m:Str}{ps:List Str}{sp:Sp}{o e:Expr}{es:List Expr}{ta:TE}{t:TA}{apos pos:Pos}
def vO {pl:Sem Bool}(D:wX X.prog X.w X.K X.mg X.base k C m ps sp) (hr:eK k X.A) (hL:vL X W) (he:PE X o ta) (ha:PA X (e::es) t)
  (EL:starEach (e::es) X.env=(false,eval e X.env)::starEach es X.env:=by rfl) (jZ:(backTo pos (starEach es X.env)).any (·.1)=false:=by rfl)
  (ht:eval (.Call (.Attribute o m apos) (e::es) [] pos) X.env=(do
   let ov<-eval o X.env
   standAt apos.atName
   let(f,first)<-holding [ov] (getMethod ov m pl)
   callWith pos f first (backTo pos (starEach (e::es) X.env)) (backToKw pos (keywordEach [] X.env))):=by rfl):
  PE X (.Call (.Attribute o m apos) (e::es) [] pos) (mT C m sp W ta t):=by
 intro pins s σ H Q I h
 obtain⟨c,f,fd,F,hb,hm⟩:=D
 refine gA (pl:=pl) (e_ (he pins s σ H _ I h) fun u s1 ⟨x,H1,I1,rx,a,dx,fs,ex,ea,l,q⟩=>?_) ht
 subst ex
 obtain rfl:u=Value.ref a:=rx
 refine kI I1 ea c hm l ?_
 refine iI (first:=[.ref a]) (h₀:=X.base) I.ok.mod.pI hm.kp (e_ (ha pos pins s1 σ H1 _ I1 q) fun us s2 ⟨vs,H2,I2,r,q2⟩=>⟨I2.kC,?_⟩) EL jZ
 exact yC (us:=.ref a::us) (vs:=.ref a::vs) (lS:=[]) (ds:=[]) F hr hb .nil hL I2 (.cons rfl r) (by rw[eJ];exact q2)
def D_ {pl:Sem Bool}(D:wX X.prog X.w X.K X.mg X.base k C m ps sp) (hr:eK k X.A) (hL:vL X W) (he:PE X o ta)
  (ht:eval (.Call (.Attribute o m apos) [] [] pos) X.env=(do
   let ov<-eval o X.env
   standAt apos.atName
   let(f,first)<-holding [ov] (getMethod ov m pl)
   callWith pos f first (backTo pos (starEach [] X.env)) (backToKw pos (keywordEach [] X.env))):=by rfl):
  PE X (.Call (.Attribute o m apos) [] [] pos) (mT C m sp W ta fD):=by
 intro pins s σ H Q I h
 obtain⟨c,f,fd,F,hb,hm⟩:=D
 refine gA (pl:=pl) (e_ (he pins s σ H _ I h) fun u s1 ⟨x,H1,I1,rx,a,dx,fs,ex,ea,l,q⟩=>?_) ht
 subst ex
 obtain rfl:u=Value.ref a:=rx
 refine kI I1 ea c hm l ?_
 exact nI (first:=[.ref a]) I1.kC hm.kp (yC (us:=[.ref a]) (vs:=[.ref a]) (lS:=[]) (ds:=[]) F hr hb .nil hL I1 (.cons rfl .nil) q)
end
def Tr (K:Frag) (C:ah) (tb:(af->Option ah->St->Hp->Prop)->TS) (ts:TS):TS:=fun D σ H=>
 tb (fun cls dW bW H'=>exmOne K cls (.ref C)=some true/\ts D bW H') D σ H
def Ll {X:Cx}{body Am:List Stmt}{b0:Stmt}{x:Str}{C:ah}{xp hp pos:Pos}{tb:(af->Option ah->St->Hp->Prop)->TS}{ts:TS}(Ir:X.stack=X.env::X.outer) (Aj:X.env.frame=some X.env.locals)
  (hg:Gl X x) (hm:X.mg x=some (.ref C)) (hb:∀pins W,wz (X.yD pins W) body (tb W)) (hs:∀a,wz (X.zr a) (b0::Am) ts) (pX:(x==("__debug__":Str))=false:=by decide):
  PS X (.Try body [.ExceptHandler (some (.Name x xp)) none (b0::Am) hp] [] [] pos) (Tr X.K C tb ts):=by
 intro pins s σ H D I h
 refine wpAny_Try_except ?_
 refine bK (hb pins _ [] s σ H D (I.yD _) h) (fun f s1 q=>?_) fun e s1 q=>?_
 ·have q':=q.oE
  cases f with
  |next=>exact ak q'
  |brk=>exact q'
  |cont=>exact q'
  |ret u=>exact q'
 ·obtain⟨a,cls,dW,bW,H',rfl,I1,⟨B,Al,tU,MM,o1,o2⟩,w1,w2⟩:=q
  have XI:X.A.frames=some (X.env::X.outer):=by rw[<-Ir];exact I.ok.frames
  rw[Ir] at Al
  refine vK XI Aj Al fun h1 G1 u1=>?_
  have I2:=I1.sZ Al.st G1.st u1 tU MM o1 o2
  refine sN (s:={s1 with heap:=h1}) G1 fun h2 G2 u2=>?_
  have I3:=I2.sZ G1.st G2.st u2 tU MM o1 o2
  refine wpAny_handleBy_cons (codeAny_handlers_test ?_) (fun z=>nomatch z)
  refine jg (X:=X.zr a) (I3.zr a) hg hm ?_ pX
  obtain⟨oe,vs,T,oT,ts',he,hc,r⟩:=G2.tr
  have lt:Looks (model X.prog X.w) h2 (typeOf (.ref a)) cls:=by
   rw[<-hc]
   exact(nz he).andThen .now
  refine(exm_one (M:=model X.prog X.w) (K:=X.K) (h:=h2) (I3.kC) lt w1).here ?_
  refine codeAny_handlers_suite ?_
  refine sN (s:={s1 with heap:=h2}) G2 fun h3 G3 u3=>?_
  have I4:=I3.sZ G2.st G3.st u3 tU MM o1 o2
  refine bK (hs a pins _ _ _ _ (I4.zr a) w2) (fun f s7 q=>?_) fun _ _ z=>False.elim z
  have un:∀{tW:St} {H7:Hp},Inv (X.zr a) pins tW H7 s7->Inv X pins tW H7 s7:=fun J=>J.Mw I.ok.hd I.ok.frames
  cases f with
  |next=>obtain⟨tW,H7,J,q⟩:=q;exact⟨_,_,un J,q⟩
  |brk=>obtain⟨tW,H7,J,q⟩:=q;exact⟨_,_,un J,q⟩
  |cont=>obtain⟨tW,H7,J,q⟩:=q;exact⟨_,_,un J,q⟩
  |ret u=>obtain⟨v,tW,H7,J,r,q⟩:=q;exact⟨v,_,_,un J,r,q⟩
end L2
local macro_rules
 | `(tactic| exists $h, $o, $H, $t, $s, $w, $M) => do
  let f (x : Lean.TSyntax `term) : Lean.TSyntax `ident := ⟨x.raw⟩
  `(tactic| (have $(f s):ident := L2.aN $h $o; have $(f w):ident : L2.upd $H $t $o $t = some $o := L2.az; (try dsimp only); generalize L2.upd $H $t $o = $(f M):ident at *))
namespace K12
open PySem L2 HT
def kP (i j:Str):decide (V.str i=V.str j)=decide (i=j):=by
 by_cases e:i=j
 ·rw[e];simp
 ·rw[bC e,bC (fun z=>e (by injection z))]
def As {ss:List Str}{i:Nat}(h:i<ss.length):(ss.map V.str).getD i .eA=.str ss[i]:=by
 rw[bf,bX,aH h];rfl
def fQ {α:Type}{l:List α}{i:Nat}(h:i<l.length):l.take (i+1)=l.take i++ [l[i]]:=by
 rw[qz,aH h];rfl
def bP {H H1:Hp}{p:ah}{o:HO}(s:a_ H H1) (n:H p=none):a_ H (upd H1 p o):=fun b u e=>by
 rw[aV (fun z=>by rw[z,n] at e;cases e)];exact s _ _ e
def ite_yes {c:Prop} [Decidable c] {A B:Prop}(h:c) (a:A):if c then A else B:=by rw[aP h];exact a
def ite_no {c:Prop} [Decidable c] {A B:Prop}(h:¬c) (a:B):if c then A else B:=by rw[aO h];exact a
def Au {f:Str->Bool}{l:List Str}{x:Str}:(l++ [x]).filter f=if f x=true then l.filter f++ [x] else l.filter f:=by
 rw[kj]
 by_cases h:f x=true
 ·rw[aP h,rQ h];rfl
 ·rw[aO h,rR h];simp
section
variable {P:aF}{w:ba}{K:PySem.W.Frag}{mg:Str->Option af}{base:Heap}
def yF {H1:Hp}{L a:ah}{A:List Str}{x:Str}{Q:VK}(v:Option V) (hL:H1 L=none) (h:H1 a=some (.tup (A.map V.str))) (hl:A.length<=1000) (q:∀J,a_ H1 J->J L=some (.lst ((A.filter fun n=>!decide (n=x)).map V.str))->Q (.ref L) J):
  pK (Dc K a) (dU 0) (gj (gI Kk (cg 0) (cg 1))) (cg 0) [v,some (.str x)] H1 Q L:=by
 refine lD (n:=A.length) (f:=fun i=>(A.map V.str).getD i .eA) (fun j ys bW J=>(∃v,bW=[v,some (.str x)])/\a_ H1 J/\ys=((A.take j).filter fun n=>!decide (n=x)).map V.str) hL hl ⟨⟨_,rfl⟩,bP (a_.refl _) hL,rfl⟩ ?_ ?_ ?_
 ·rintro j ys bW J hj hy ⟨_,sj,_⟩
  have:=kq (K:=K) (bY.of (sj _ _ h)) j (by rw[aq];exact hj)
  rw[aq] at this
  exact this
 ·rintro j ys bW J hj hy ⟨⟨v,rfl⟩,sj,rfl⟩
  rw[As hj]
  refine⟨_,rfl,_,rfl,rfl,_,rfl,?_⟩
  rw[kP,fQ hj,Au]
  by_cases e:A[j]=x
  ·refine ite_no (by simp[e]) ?_
   refine⟨hy,⟨_,rfl⟩,sj,?_⟩
   rw[aO (by simp[e])]
  ·refine ite_yes (by simp[e]) ?_
   refine⟨_,rfl,hy,⟨_,rfl⟩,bP sj hL,?_⟩
   rw[aP (by simp[e]),bE]
   rfl
 ·rintro ys bW J hy ⟨_,sj,rfl⟩
  rw[cZ] at hy
  exact q J sj hy
abbrev XQ:Stmt:=top 19
def Ts (K:PySem.W.Frag):Sp:=fun vs H Q _=>∃(a b:ah) (t1 b1 t2 b2:Int),vs=[.ref a,.ref b]/\bY K H a [.int t1,.int b1]/\bY K H b [.int t2,.int b2]/\0<b1/\0<b2/\b1<2^60/\b2<2^60/\t1.natAbs<2^60/\t2.natAbs<2^60/\
 ∀p,H p=none->Q (.ref p) (upd H p (.tup [.int (dS (t1*b2-t2*b1) (b1*b2)),.int (dD (t1*b2-t2*b1) (b1*b2))]))
def XR:bV ["one","other"] ["one","other"] (av XQ):={}
def ku {x y:Int}{a b:Nat}(hx:x.natAbs<2^a) (hy:y.natAbs<2^b):(x*y).natAbs<2^(a+b):=by
 rw[J0,Nat.pow_add]
 exact Nat.mul_lt_mul'' hx hy
def Tt {f:ah}{fd:FuncData}(F:iV K "fraction_less" "fraction_less" XQ f fd) (DF:Df P w K mg base 1 "fraction" ["top","bottom"] Ii):dO P w K mg base fO 2 f fd ["one","other"] (Ts K):=by
 refine F.ok XR (fun vs H Q E h=>?_) (fun cdv A outer s H vs Q E hr h=>?_)
 ·obtain⟨a,b,t1,b1,t2,b2,rfl,_⟩:=h
  rfl
 ·obtain⟨a,b,t1,b1,t2,b2,rfl,h1,h2,p1,p2,l1,l2,m1,m2,q⟩:=h
  refine⟨_,aE (bF (cB DF hr (ae (bR lO (bR lP (bg bx (pv 0) ao) (bg bx (pv 1) ao)) (bR lP (bg bx (pv 1) ao) (bg bx (pv 0) ao)))
   (ae (bR lP (bg bx (pv 0) ao) (bg bx (pv 1) ao)) aj)))),?_⟩
  have c1:ER t1 b2:=.inr ⟨by omega,by omega⟩
  have c2:ER t2 b1:=.inr ⟨by omega,by omega⟩
  have c3:ER b1 b2:=.inr ⟨by omega,by omega⟩
  have z:(b1*b2).natAbs<2^120:=ku (a:=60) (b:=60) (by omega) (by omega)
  have z1:(t1*b2).natAbs<2^120:=ku (a:=60) (b:=60) (by omega) (by omega)
  have z2:(t2*b1).natAbs<2^120:=ku (a:=60) (b:=60) (by omega) (by omega)
  refine⟨_,rfl,a,_,0,_,rfl,rfl,h1,aT (j:=0) rfl,_,rfl,b,_,1,_,rfl,rfl,h2,aT (j:=1) rfl,_,_,rfl,rfl,c1,_,rfl,b,_,0,_,rfl,rfl,h2,aT (j:=0) rfl,_,rfl,a,_,1,_,rfl,rfl,h1,aT (j:=1) rfl,_,_,rfl,rfl,c2,_,_,rfl,rfl,?_⟩
  refine⟨_,rfl,a,_,1,_,rfl,rfl,h1,aT (j:=1) rfl,_,rfl,b,_,1,_,rfl,rfl,h2,aT (j:=1) rfl,_,_,rfl,rfl,c3,?_⟩
  exact⟨_,_,rfl,qB p1 p2,by omega,by omega,q⟩
abbrev XS:Stmt:=top 27
def XT:List (Str×NameKind):=[(".0",.local),("name",.local),("leaves",.free)]
def XU:(["name","leaves"]:List Str).Nodup:=by decide+kernel
def Tu:Sp:=fun vs H Q _=>∃(a:ah) (A:List Str) (m y:Str),vs=[.ref a,.str m,.str y]/\H a=some (.tup (A.map V.str))/\A.length<=12/\
 ∀(t:ah) (C:List Str) (H':Hp),a_ H H'->H' t=some (.tup (C.map V.str))->C.Perm (exc A m y)->PyProof.Rows.sortedS C=true->Q (.ref t) H'
def XW:bV ["crew","leaves","enters"] ["crew","leaves","enters"] (av XS):={}
def Tv {f:ah}{fd:FuncData}(F:iV K "exchanged" "exchanged" XS f fd) (T:Txt mg):dO P w K mg base fO 1 f fd ["crew","leaves","enters"] Tu:=by
 refine F.ok XW (fun vs H Q E h=>?_) (fun cdv A outer s H vs Q E hr h=>?_)
 ·obtain⟨a,A,m,y,rfl,_⟩:=h
  rfl
 ·obtain⟨a,A,m,y,rfl,h1,l12,q⟩:=h
  refine⟨_,aE (bF (fE fq rfl T.tuple cu (ae (aR iw rfl T.sorted fK (ae (bR kN (ke (N:=["name","leaves"]) (g:=dU 0) (tc:=gj (gI Kk (cg 0) (cg 1))) (te:=cg 0) rfl (h_ (pv 0))
   (fk.one (v:="name") (fr:="leaves") (j:=1) (nm:=XT) rfl rfl rfl rfl)
   (fun _ _ _=>aZ (i:=0) XU) (fun _ _ _=>hV (br ml (pv 0) (pv 1) (bN _))) (fun _ _ _=>pv 0)) (cW (ae (pv 2) aj))) aj)) aj))),?_⟩
  have lf:(A.filter fun n=>!decide (n=m)).length<=12:=bh (ej _ _) l12
  refine⟨_,rfl,a,rfl,⟨_,bY.of h1⟩,fun L hL=>?_⟩
  refine yF none hL h1 (by omega) fun J sJ hJ=>?_
  refine⟨_,rfl,dF,fun e he=>?_⟩
  exists he,.lst [.str y],J,e,s2,WX,J2
  refine⟨L,e,_,_,rfl,rfl,s2 _ _ hJ,WX,eM (dq (by rw[aq];simp only[aG];omega)),fun c hc=>?_⟩
  have em:(A.filter fun n=>!decide (n=m)).map V.str++ [V.str y]=(exc A m y).map V.str:=by unfold exc;rw[bE];rfl
  rw[em]
  exists hc,.lst ((exc A m y).map V.str),J2,c,s3,XJ,J3
  refine⟨c,exc A m y,rfl,cS.of XJ,by unfold exc;rw[aK,aG];omega,fun l C hl pm so=>?_⟩
  exists hl,.lst (C.map V.str),J3,l,s4,Q_,J4
  refine⟨l,_,rfl,.inl ⟨cS.of Q_,fun t ht=>?_⟩⟩
  exact q t C _ ((((sJ.trans s2).trans s3).trans s4).trans (aN ht _)) az pm so
def O_ (a b:List Str):PyData:=.tuple [.tuple (cj a),.tuple (cj b)]
def Pa (t a b:Nat):t≠t+a+b+1/\a≠t+a+b+1/\b≠t+a+b+1:=by omega
def Av {H:Hp}{t a b:ah}{A B:List Str}(h1:H t=some (.tup [.ref a,.ref b])) (h2:H a=some (.tup (A.map V.str))) (h3:H b=some (.tup (B.map V.str))):Tells H (t+a+b+1) (O_ A B) (.ref t):=
 eO.mpr ⟨t,_,rfl,(Pa t a b).1,h1,bS.mpr ⟨_,_,rfl,eO.mpr ⟨a,_,rfl,(Pa t a b).2.1,h2,jM A⟩,bS.mpr ⟨_,_,rfl,eO.mpr ⟨b,_,rfl,(Pa t a b).2.2,h3,jM B⟩,eg.mpr rfl⟩⟩⟩
def mx {c:List Str}(hc:∀n∈c,okN n) (hl:c.length<=12):Bd 13 1 (.tuple (cj c)):=by
 refine(Bd.tuple (n:=1) (p:=0) (m:=12) (fun x hx=>?_) (by unfold cj;rw[aq];exact hl)).mono (by decide) (by decide)
 obtain⟨n,hn,rfl⟩:=cO.mp hx
 exact lW (hc n hn).1 (hc n hn).2.1
def MP {a b:List Str}(ha:∀n∈a,okN n) (hb:∀n∈b,okN n) (la:a.length<=12) (lb:b.length<=12):Bd 30 2 (O_ a b):=by
 refine(Bd.tuple (n:=13) (p:=1) (m:=2) (ds:=[.tuple (cj a),.tuple (cj b)]) (fun x hx=>?_) (aB 2)).mono (by decide) (by decide)
 simp only[aC,aM,cz] at hx
 rcases hx with rfl|rfl
 ·exact mx ha la
 ·exact mx hb lb
def ky:∀(a b:List Str),PyData.eqv (.tuple (cj a)) (.tuple (cj b))=decide (a=b)
 | [],[]=>by simp[cj,PyData.eqv,PyData.eqvAll]
 | [],_::_=>by simp[cj,PyData.eqv,PyData.eqvAll]
 |_::_,[]=>by simp[cj,PyData.eqv,PyData.eqvAll]
 |x::a,y::b=>by
  have ih:=ky a b
  simp only[cj,PyData.eqv,PyData.eqvAll,bH] at ih⊢
  rw[ih]
  by_cases h1:x=y
  ·by_cases h2:a=b<;>simp[h1,h2]
  ·simp[h1]
def Pb {a b c d:List Str}:PyData.eqv (O_ a b) (O_ c d)=decide (a=c/\b=d):=by
 have h1:=ky a c
 have h2:=ky b d
 simp only[O_,PyData.eqv,PyData.eqvAll] at h1 h2⊢
 rw[h1,h2]
 by_cases e1:a=c<;>by_cases e2:b=d<;>simp[e1,e2]
abbrev XX:Stmt:=top 28
def Tw (CN:ah):Sp:=fun vs H Q E=>∃(r1 r2:ah) (p q:jO),vs=[.ref r1,.ref r2]/\jD H r1 p/\jD H r2 q/\ig p/\ig q/\f_ p/\
 (((∀m y,¬Xp p q m y)/\∀H',a_ H H'->E (.ref CN) none H')\/∃m y,Xp p q m y/\∀t H',a_ H H'->H' t=some (.tup [.str m,.str y])->Q (.ref t) H')
def Pc:bV ["one","other","mine","yours"] ["one","other"] (av XX):={}
def Tx {f:ah}{fd:FuncData}(F:iV K "exchanged_pair" "exchanged_pair" XX f fd) {CN:ah}(ON:sh K mg "NoTrial" CN) (DX:Df P w K mg base 1 "exchanged" ["crew","leaves","enters"] Tu):dO P w K mg base (qC P w) 2 f fd ["one","other"] (Tw CN):=by
 refine F.Lb Pc (fun vs H Q E h=>?_) (fun cdv A outer s H vs Q E hr h=>?_)
 ·obtain⟨r1,r2,p,q,rfl,_⟩:=h
  rfl
 ·obtain⟨r1,r2,p,q,rfl,h1,h2,o1,o2,cp,hq⟩:=h
  refine⟨_,ar (PS.kF (lN eR rfl (h_ (bg bx (pv 0) ao)) (aZ (i:=2) Pc.nd)
    (aE (lN eR rfl (h_ (bg bx (pv 0) ao)) (aZ (i:=3) Pc.nd)
     (aE (cN (br (qg hr.units) (gQ yf (pv 1) jk (iu ao)) (bO (ae (cB DX hr (ae (bg bx (pv 0) ao) (ae (pv 2) (ae (pv 3) aj)))) (ae (cB DX hr (ae (bg bx (pv 0) ao) (ae (pv 3) (ae (pv 2) aj)))) aj))) (bN _))
      (aE (bF (bO (ae (pv 2) (ae (pv 3) aj))))) bL))))))
   (aE (gR (W:=fun cls dW _ H'=>E cls dW H') js rfl rfl ON rfl (ae aW aj))),?_⟩
  obtain⟨a,b,e1,e2,e3⟩:=h1
  obtain⟨c,d,g1,g2,g3⟩:=h2
  have la4:=o1.a.l4
  have lb4:=o1.b.l4
  refine⟨_,rfl,r1,_,0,_,rfl,rfl,bY.of e1,aT (j:=0) rfl,a,rfl,⟨_,bY.of e2⟩,ya (K:=K) (a:=a) (xs:=p.a.map V.str) (fun i bW H'=>∃v2 v3,bW=[some (.ref r1),some (.ref r2),v2,v3]/\a_ H H'/\∀m∈p.a.take i,∀y,¬Xp p q m y)
   ⟨none,none,rfl,a_.refl _,by simp⟩ (fun i bW H' _ ⟨_,_,_,sm,_⟩=>bY.of (sm _ _ e2)) ?_ ?_⟩
  ·rintro i x bW H1 hx ⟨v2,v3,rfl,sm,no⟩
   have hi:i<p.a.length:=by have:=(bw.mp hx).1;rwa[aq] at this
   rw[bX,aH hi] at hx
   cases hx
   have mm:=cA hi
   have tk:=fQ hi
   rw[tk]
   generalize p.a[i]=m at*
   refine⟨_,rfl,r1,_,1,_,rfl,rfl,bY.of (sm _ _ e1),aT (j:=1) rfl,b,rfl,⟨_,bY.of (sm _ _ e3)⟩,ya (K:=K) (a:=b) (xs:=p.b.map V.str) (fun j bW H'=>∃v3,bW=[some (.ref r1),some (.ref r2),some (.str m),v3]/\a_ H H'/\∀y∈p.b.take j,¬Xp p q m y)
    ⟨_,rfl,sm,by simp⟩ (fun i bW H' _ ⟨_,_,sm,_⟩=>bY.of (sm _ _ e3)) ?_ ?_⟩
   ·rintro j x bW H2 hx ⟨w3,rfl,s2,Rh⟩
    have hj:j<p.b.length:=by have:=(bw.mp hx).1;rwa[aq] at this
    rw[bX,aH hj] at hx
    cases hx
    have my:=cA hj
    have XY:=fQ hj
    generalize p.b[j]=y at*
    refine⟨_,rfl,_,rfl,r2,_,rfl,bY.of (s2 _ _ g1),(show ¬(hZ 5 0 none=0/\hZ 5 5 (some 2)=5) by decide+kernel),fun sl Tz=>?_⟩
    have s3:=bP (o:=.tup [.ref c,.ref d]) (a_.refl H2) Tz
    have AW:upd H2 sl (.tup [.ref c,.ref d]) sl=some (.tup [.ref c,.ref d]):=az
    show nY _ _ (upd H2 sl (.tup [.ref c,.ref d])) _
    generalize upd H2 sl (.tup [.ref c,.ref d])=H3 at*
    have kY:=s2.trans s3
    refine⟨_,rfl,r1,_,0,_,rfl,rfl,bY.of (kY _ _ e1),aT (j:=0) rfl,_,rfl,_,rfl,a,p.a,m,y,rfl,kY _ _ e2,by omega,fun t1 C1 H4 s4 DV Ri Pd=>?_⟩
    have Gp:=kY.trans s4
    refine⟨_,rfl,r1,_,1,_,rfl,rfl,bY.of (Gp _ _ e1),aT (j:=1) rfl,_,rfl,_,rfl,b,p.b,y,m,rfl,Gp _ _ e3,by omega,fun t2 C2 H5 s5 wV Rj XZ=>?_⟩
    have wj:=Gp.trans s5
    refine⟨dF,fun t ht=>?_⟩
    have s6:=bP (o:=.tup [.ref t1,.ref t2]) (a_.refl H5) ht
    have TB:upd H5 t (.tup [.ref t1,.ref t2]) t=some (.tup [.ref t1,.ref t2]):=az
    generalize upd H5 t (.tup [.ref t1,.ref t2])=H6 at*
    have zt:=wj.trans s6
    have SW:y∉p.a:=fun z=>cp.no _ z my
    have SX:m∉p.b:=cp.no _ mm
    have x1:wU p.a m y C1:=uv cp.a.nodup SW Ri Pd
    have x2:wU p.b y m C2:=uv cp.b.nodup SX Rj XZ
    have Gq:∀n∈C1,okN n:=fun n hn=>by
     rcases kr.mp (Ri.mem_iff.mp hn) with z|z
     ·exact o1.a.ok n z.1
     ·rw[z];exact o1.b.ok y my
    have Gr:∀n∈C2,okN n:=fun n hn=>by
     rcases kr.mp (Rj.mem_iff.mp hn) with z|z
     ·exact o1.b.ok n z.1
     ·rw[z];exact o1.a.ok m mm
    have l1:C1.length<=12:=by
     rw[Ri.length_eq];unfold exc;rw[aK,aG]
     have:=ej (fun n=>!decide (n=m)) p.a
     omega
    have l2:C2.length<=12:=by
     rw[Rj.length_eq];unfold exc;rw[aK,aG]
     have:=ej (fun n=>!decide (n=y)) p.b
     omega
    have bq:=MP o2.a.ok o2.b.ok (bh o2.a.l4 (by decide)) (bh o2.b.l4 (by decide))
    have bc:=MP Gq Gr l1 l2
    refine⟨_,_,O_ q.a q.b,O_ C1 C2,Av (((s4.trans s5).trans s6) _ _ AW) (zt _ _ g2) (zt _ _ g3),Av TB ((s5.trans s6) _ _ DV) (s6 _ _ wV),bq.lay (by decide),bc.lay (by decide),_,rfl,?_⟩
    rw[Pb]
    refine eG (fun z=>?_) (fun z=>?_)
    ·obtain⟨z1,z2⟩:=aX z
     have xp:Xp p q m y:=⟨mm,my,z1▸x1,z2▸x2⟩
     rcases hq with⟨TC,_⟩|⟨m',y',x',hQ⟩
     ·exact absurd xp (TC _ _)
     ·obtain⟨rfl,rfl⟩:=xp.uniq cp x'
      refine⟨_,rfl,_,rfl,dF,fun u hu=>?_⟩
      exact hQ u _ (zt.trans (bP (a_.refl _) hu)) az
    ·refine⟨_,rfl,zt,?_⟩
     rw[XY]
     intro y' Wy x'
     rcases c_.mp Wy with h|h
     ·exact Rh y' h x'
     ·rw[bU.mp h] at x'
      exact z (aJ ⟨x'.a.uniq x1,x'.b.uniq x2⟩)
   ·rintro bW H2 ⟨w3,rfl,s2,Rh⟩
    rw[aq,cZ] at Rh
    refine⟨_,_,rfl,s2,?_⟩
    intro m' Sx y' x'
    rcases c_.mp Sx with h|h
    ·exact no m' h y' x'
    ·rw[bU.mp h] at x'
     exact Rh y' x'.hy x'
  ·rintro bW H1 ⟨v2,v3,rfl,sm,no⟩
   rw[aq,cZ] at no
   rcases hq with⟨_,hE⟩|⟨m,y,x,_⟩
   ·exact⟨dF,hE H1 sm⟩
   ·exact absurd x (no m x.hm y)
end
end K12
namespace K12
open PySem L2 HT PySem.W
section
variable {P:aF}{w:ba}{K:Frag}{mg:Str->Option af}{base:Heap}
def VA (P:aF) (w:ba) (K:Frag) (mg:Str->Option af) (base:Heap) (k:Nat) (x:Str) (ps:List Str) (sp:Sp):Prop:=
 ∃f fd,dO P w K mg base (qC P w) k f fd ps sp/\Binds K fd ps []/\keepIn K (.ref f)=true/\mg x=some (.ref f)
def Iu {X:Cx}{W:af->Option ah->St->Hp->Prop}{k:Nat}{x:Str}{ps:List Str}{sp:Sp}{e:Expr}{es:List Expr}{t:TA}{p pos:Pos}(D:VA X.prog X.w X.K X.mg X.base k x ps sp) (hr:eK k X.A) (hL:vL X W) (ha:PA X (e::es) t) (hg:Gl X x:=by rfl) (pX:(x==("__debug__":Str))=false:=by decide)
  (he:starEach (e::es) X.env=(false,eval e X.env)::starEach es X.env:=by rfl) (jZ:(backTo pos (starEach es X.env)).any (·.1)=false:=by rfl):PE X (.Call (.Name x p) (e::es) [] pos) (Cj sp [] W t):=by
 obtain⟨f,fd,F,b,kp,m⟩:=D
 exact Iq F hr hg m kp b .nil hL ha pX he jZ
def X0 (P:aF) (w:ba) (K:Frag) (mg:Str->Option af) (base:Heap) (k:Nat) (x:Str) (ps:List Str) (sp:ah->Sp):Prop:=
 ∃f fd,Ab P w K mg base k f fd ps sp/\Binds K fd ps []/\keepIn K (.ref f)=true/\mg x=some (.ref f)
def Pe {X:Cx}{a:ah}{k:Nat}{x:Str}{ps:List Str}{sp:ah->Sp}{e:Expr}{es:List Expr}{t:TA}{p pos:Pos}(D:X0 X.prog X.w X.K X.mg X.base k x ps sp) (hr:pT k a X.A) (ha:PA X (e::es) t) (hg:Gl X x:=by rfl) (pX:(x==("__debug__":Str))=false:=by decide)
  (he:starEach (e::es) X.env=(false,eval e X.env)::starEach es X.env:=by rfl) (jZ:(backTo pos (starEach es X.env)).any (·.1)=false:=by rfl):PE X (.Call (.Name x p) (e::es) [] pos) (mq (sp a) [] E0 t):=by
 obtain⟨f,fd,F,b,kp,m⟩:=D
 exact HL F hr hg m kp b ha pX he jZ
abbrev X4:Stmt:=top 29
abbrev Ea:=Str×Str×Int×Int
def yG (H:Hp) (q:ah) (r:Ea):Prop:=∃l,H q=some (.tup [.str r.1,.str r.2.1,.ref l])/\H l=some (.tup [.int r.2.2.1,.int r.2.2.2])
def yG.same {H H':Hp}{q:ah}{r:Ea}(h:yG H q r) (s:a_ H H'):yG H' q r:=by
 obtain⟨l,h1,h2⟩:=h
 exact⟨l,s _ _ h1,s _ _ h2⟩
def Pf (CN:ah):Sp:=fun vs H Q E=>∃(r1 r2:ah) (p q:jO),vs=[.ref r1,.ref r2]/\jD H r1 p/\jD H r2 q/\ig p/\ig q/\f_ p/\
 (((∀m y,¬Xp p q m y)/\∀H',a_ H H'->E (.ref CN) none H')\/∃m y,Xp p q m y/\∀t H',a_ H H'->yG H' t (oC p q m y)->Q (.ref t) H')
def Iw:bV ["one","other","mine","yours","top","bottom"] ["one","other"] (av X4):={}
def sR:bootBuiltins "max"=some (.builtin "max"):=by decide+kernel
def TF {f:ah}{fd:FuncData}(F:iV K "trial_of" "trial_of" X4 f fd) (T:Txt mg) {CN:ah}(DX:VA P w K mg base 2 "exchanged_pair" ["one","other"] (Tw CN)) (DL:Df P w K mg base 2 "fraction_less" ["one","other"] (Ts K)) (DM:Df P w K mg base 2 "margin" ["piece"] (SU K)):dO P w K mg base (qC P w) 3 f fd ["one","other"] (Pf CN):=by
 refine F.Lb Iw (fun vs H Q E h=>?_) (fun cdv A outer s H vs Q E hr h=>?_)
 ·obtain⟨r1,r2,p,q,rfl,_⟩:=h
  rfl
 ·obtain⟨r1,r2,p,q,rfl,h1,h2,o1,o2,cp,hq⟩:=h
  refine⟨_,ar (iD (Iu DX hr (W:=fun cls dW _ H'=>E cls dW H') O4 (ae (pv 0) (ae (pv 1) aj))) (fW rfl (bz (aZ (i:=2) Iw.nd) (bz (aZ (i:=3) Iw.nd) eV))))
   (wz.kF (ar (iD (cB DL hr (ae (cB DM hr (ae (pv 0) aj)) (ae (cB DM hr (ae (pv 1) aj)) aj))) (fW rfl (bz (aZ (i:=4) Iw.nd) (bz (aZ (i:=5) Iw.nd) eV))))
   (ar (cN (br xg (pv 4) ao (bN _)) (aE (bF (bO (ae (pv 2) (ae (pv 3) (ae (bO (ae (pv 4) (ae (pv 5) aj))) aj)))))) bL)
   (ar (cN (br qM (pv 4) ao (bN _)) (aE (bF (bO (ae (pv 3) (ae (pv 2) (ae (bO (ae (pN lR (pv 4)) (ae (pv 5) aj))) aj)))))) bL)
   (aE (bF (bO (ae (aR (BS rfl) rfl T.min xO (ae (pv 2) (ae (pv 3) aj))) (ae (aR (BU rfl) rfl T.max sR (ae (pv 2) (ae (pv 3) aj))) (ae (bO (ae ao (ae ao aj))) aj)))))))))),?_⟩
  refine⟨_,rfl,_,rfl,r1,r2,p,q,rfl,h1,h2,o1,o2,cp,?_⟩
  rcases hq with⟨no,hE⟩|⟨m,y,x,hQ⟩
  ·exact .inl ⟨no,hE⟩
  refine .inr ⟨m,y,x,fun t H1 s1 ht=>?_⟩
  refine⟨t,_,rfl,bY.of ht,rfl,_,_,rfl,_,_,rfl,rfl,?_⟩
  have h1':=h1
  have N_:=h2
  obtain⟨a,b,e1,_,_⟩:=h1'
  obtain⟨c,d,g1,_,_⟩:=N_
  have pc1:=o1.c1
  have pc9:=o1.c9
  have qc1:=o2.c1
  have qc9:=o2.c9
  have bdp:(p.o-p.t).natAbs<2^60:=by have:=o1.t1;have:=o1.t9;have:=o1.o1;have:=o1.o9;omega
  have bdq:(q.o-q.t).natAbs<2^60:=by have:=o2.t1;have:=o2.t9;have:=o2.o1;have:=o2.o9;omega
  refine⟨_,rfl,r1,_,_,_,_,_,rfl,bY.of (s1 _ _ e1),by omega,by omega,by omega,fun m1 hm1=>?_⟩
  have s2:=bP (o:=.tup [.int (dS (p.o-p.t) p.c),.int (dD (p.o-p.t) p.c)]) (a_.refl H1) hm1
  have w2:upd H1 m1 (.tup [.int (dS (p.o-p.t) p.c),.int (dD (p.o-p.t) p.c)]) m1=some (.tup [.int (dS (p.o-p.t) p.c),.int (dD (p.o-p.t) p.c)]):=az
  try dsimp only
  generalize upd H1 m1 (.tup [.int (dS (p.o-p.t) p.c),.int (dD (p.o-p.t) p.c)])=H2 at*
  refine⟨_,rfl,r2,_,_,_,_,_,rfl,bY.of ((s1.trans s2) _ _ g1),by omega,by omega,by omega,fun m2 hm2=>?_⟩
  have s3:=bP (o:=.tup [.int (dS (q.o-q.t) q.c),.int (dD (q.o-q.t) q.c)]) (a_.refl H2) hm2
  have w3:upd H2 m2 (.tup [.int (dS (q.o-q.t) q.c),.int (dD (q.o-q.t) q.c)]) m2=some (.tup [.int (dS (q.o-q.t) q.c),.int (dD (q.o-q.t) q.c)]):=az
  try dsimp only
  generalize upd H2 m2 (.tup [.int (dS (q.o-q.t) q.c),.int (dD (q.o-q.t) q.c)])=H3 at*
  have bp:=mw (t:=p.o-p.t) (b:=p.c) (by omega)
  have bq:=mw (t:=q.o-q.t) (b:=q.c) (by omega)
  have lp:=vF (t:=p.o-p.t) (b:=p.c)
  have lq:=vF (t:=q.o-q.t) (b:=q.c)
  have tp:=vE (t:=p.o-p.t) (b:=p.c)
  have tq:=vE (t:=q.o-q.t) (b:=q.c)
  refine⟨m1,m2,_,_,_,_,rfl,bY.of (s3 _ _ w2),bY.of w3,bp,bq,by omega,by omega,by omega,by omega,fun z hz=>?_⟩
  obtain⟨fd1,TH⟩:=OH (p:=p) (q:=q) (by omega) (by omega)
  rw[fd1,TH]
  have cc:0<p.c*q.c:=qB (by omega) (by omega)
  obtain⟨Z_,sg2⟩:=K9 (t:=pL p q) cc
  have s4:=bP (o:=.tup [.int (dS (pL p q) (p.c*q.c)),.int (dD (pL p q) (p.c*q.c))]) (a_.refl H3) hz
  have w4:upd H3 z (.tup [.int (dS (pL p q) (p.c*q.c)),.int (dD (pL p q) (p.c*q.c))]) z=some (.tup [.int (dS (pL p q) (p.c*q.c)),.int (dD (pL p q) (p.c*q.c))]):=az
  try dsimp only
  generalize upd H3 z (.tup [.int (dS (pL p q) (p.c*q.c)),.int (dD (pL p q) (p.c*q.c))])=H4 at*
  have Iy:=((s1.trans s2).trans s3).trans s4
  refine⟨z,_,rfl,bY.of w4,rfl,_,_,rfl,_,_,rfl,rfl,?_⟩
  have my:m≠y:=fun z=>cp.no _ x.hm (z▸x.hy)
  refine⟨_,rfl,_,_,rfl,rfl,_,rfl,?_⟩
  refine eG (fun u=>?_) (fun u=>?_)
  ·have dp:=Z_.mp (aX u)
   have et:oC p q m y=(m,y,dS (pL p q) (p.c*q.c),dD (pL p q) (p.c*q.c)):=by unfold oC;simp only[aP dp]
   refine⟨_,rfl,_,rfl,_,rfl,_,rfl,dF,fun l hl=>⟨dF,fun r hr=>?_⟩⟩
   have n:l≠r:=fun z=>by rw[<-z,az] at hr;cases hr
   refine hQ r _ ((Iy.trans (bP (a_.refl _) hl)).trans (bP (a_.refl _) hr)) ?_
   rw[et]
   exact⟨l,az,by rw[aV n];exact az⟩
  have nd:¬0<pL p q:=fun z=>u (aJ (Z_.mpr z))
  refine⟨_,rfl,_,_,rfl,rfl,_,rfl,?_⟩
  refine eG (fun u2=>?_) (fun u2=>?_)
  ·have dn:=sg2.mp (aX u2)
   obtain⟨ng1,ng2⟩:=OJ (t:=pL p q) cc
   have et:oC p q m y=(y,m,-dS (pL p q) (p.c*q.c),dD (pL p q) (p.c*q.c)):=by unfold oC;simp only[aO nd,aP dn,ng1,ng2]
   refine⟨_,rfl,_,rfl,_,rfl,_,rfl,_,rfl,dF,fun l hl=>⟨dF,fun r hr=>?_⟩⟩
   have n:l≠r:=fun z=>by rw[<-z,az] at hr;cases hr
   refine hQ r _ ((Iy.trans (bP (a_.refl _) hl)).trans (bP (a_.refl _) hr)) ?_
   rw[et]
   exact⟨l,az,by rw[aV n];exact az⟩
  ·have nn:¬pL p q<0:=fun z=>u2 (aJ (sg2.mpr z))
   have et:oC p q m y=(if dQ y m=true then y else m,if dQ m y=true then y else m,0,1):=by
    unfold oC
    simp only[aO nd,aO nn]
    rcases um my with z|z
    ·rw[aO (by rw[ot z];decide),aO (by rw[ot z];decide),aP z]
    ·rw[aP z,aP z,aO (by rw[ot z];decide)]
   refine⟨_,rfl,_,rfl,m,y,rfl,_,rfl,_,rfl,m,y,rfl,dF,fun l hl=>⟨dF,fun r hr=>?_⟩⟩
   have n:l≠r:=fun z=>by rw[<-z,az] at hr;cases hr
   refine hQ r _ ((Iy.trans (bP (a_.refl _) hl)).trans (bP (a_.refl _) hr)) ?_
   rw[et]
   exact⟨l,az,by rw[aV n];exact az⟩
end
def wY (p:jO):PyData:=.tuple [.tuple (cj p.a),.tuple (cj p.b),.int p.t,.int p.o,.int p.c]
def Iz {p:jO}(o:ig p):qX (wY p):=by
 have i1:=o.t1;have i2:=o.t9;have i3:=o.o1;have i4:=o.o9;have i5:=o.c1;have i6:=o.c9
 refine(Bd.tuple (n:=13) (p:=1) (m:=5) (ds:=[.tuple (cj p.a),.tuple (cj p.b),.int p.t,.int p.o,.int p.c]) (fun x hx=>?_) (aB 5)).mono (by decide) (by decide)
 simp only[aC,aM,cz] at hx
 rcases hx with rfl|rfl|rfl|rfl|rfl
 ·exact mx o.a.ok (bh o.a.l4 (by decide))
 ·exact mx o.b.ok (bh o.b.l4 (by decide))
 ·exact(iF (by omega)).mono (by decide) (by decide)
 ·exact(iF (by omega)).mono (by decide) (by decide)
 ·exact(iF (by omega)).mono (by decide) (by decide)
def oJ (a:List Str):(cj a).map strOf=a:=by
 unfold cj
 rw[nP]
 exact List.map_id' a
def Aw:∀{a:List Str},Up a->(nh a).all id=true
 | [],_=>rfl
 | [x],_=>rfl
 |x::y::l,h=>by
  have e:nh (x::y::l)=Xe x y::nh (y::l):=rfl
  have h':=zy.mp h
  rw[e,zm,Aw h'.2,zo]
  exact h'.1 y cf
def Eb {a:List Str}(o:Cd a) (u:Up a):jN (.tuple (cj a))=true:=by
 show((decide (1<=((cj a).length:Int))&&decide (((cj a).length:Int)<=4))&&(((cj a).map fm).all id&&(nh ((cj a).map strOf)).all id))=true
 have l:(cj a).length=a.length:=by unfold cj;exact aq _
 have h1:=o.l1
 have h4:=o.l4
 rw[oJ,Aw u,l,aJ (by omega),aJ (by omega),zo,ck,zo,me]
 intro b hb
 obtain⟨d,hd,rfl⟩:=cO.mp hb
 obtain⟨n,hn,rfl⟩:=cO.mp hd
 exact(o.ok n hn).2.2
def vP {p:jO}(op:ig p) (cp:f_ p):gx (wY p)=true:=by
 show((jN (.tuple (cj p.a))&&(jN (.tuple (cj p.b))&&decide ((iW (.tuple (cj p.a))).length=(iW (.tuple (cj p.b))).length)))&&(!((iW (.tuple (cj p.a))).map fun n=>decide (n∈iW (.tuple (cj p.b)))).any id&&(jz (.int p.t)&&(jz (.int p.o)&&jz (.int p.c)))))=true
 have ea:iW (.tuple (cj p.a))=p.a:=oJ p.a
 have eb:iW (.tuple (cj p.b))=p.b:=oJ p.b
 have m:∀{i:Int},1<=i->i<=1000000000->jz (.int i)=true:=fun{i} h1 h2=>by
  show(decide (1<=i)&&decide (i<=1000000000))=true
  rw[aJ h1,aJ h2];rfl
 have na:(p.a.map fun n=>decide (n∈p.b)).any id=false:=by
  rw[A3]
  intro b hb
  obtain⟨n,hn,rfl⟩:=cO.mp hb
  rw[bC (cp.no n hn)]
  decide
 rw[ea,eb,Eb op.a cp.a,Eb op.b cp.b,aJ cp.le,na,m op.t1 op.t9,m op.o1 op.o9,m op.c1 op.c9]
 rfl
end K12
namespace L2
open PySem PySem.Spec PyProof.Rows PySem.W
section
variable {X:Cx}{W:af->St->Hp->Prop}{k:Nat}{C:ah}{m:Str}{ps:List Str}{sp:Sp}{o e:Expr}{es:List Expr}{ta:TE}{t:TA}{apos pos:Pos}
end
end L2
namespace L2
open PySem PySem.Spec PySem.W PyProof.Rows HT
section
variable {prog:aF}{w:ba}{A:aQ}{E:af->ai->Prop}{s:ai}
def Ax {l:ah}{vs:List af}{lt:Nat->Nat->Bool}{Q:af->ai->Prop}(hl:s.heap.IsTuple l vs.toArray) (O:om lt) (Gi:vs.length<64)
  (ask:2<=vs.length->∀h',Dx s.heap h'->KW prog w A.in1.in1 vs lt {s with heap:=h'})
  (fin:∀p:Array Nat,rJ vs.length p->AX lt p vs.length->Q (.ref (s.heap.objs.size+1)) {s with heap:=sortedAll s.heap vs (inOrder vs p)}):
  wpAny (model prog w) A (call (.builtin "sorted") [.ref l]) Q E s:=by
 refine tQ kind_sorted plain_sorted entry_sorted (args_sorted1 _) ?_
 unfold Builtin.«sorted»
 refine aa (m:=checkCount "sorted" 1 1 _) (ak (aa (Hw hl (aa (Gd ?_)) (by rw[gP];omega))))
 have z:((s.heap.push (seqObj "list" #[] 0)).update s.heap.objs.size (Obj.mapSeq (· ++vs.toArray))).objs.size=s.heap.objs.size+1:=by rw[ki,size_push']
 have pQ:(((s.heap.push (seqObj "list" #[] 0)).update s.heap.objs.size (Obj.mapSeq (· ++vs.toArray))).push (seqObj "list" vs.toArray 0)).get? (s.heap.objs.size+1)=some (seqObj "list" vs.toArray 0):=z▸aw _ rfl
 have old:∀b o,s.heap.get? b=some o->b<s.heap.objs.size/\(((s.heap.push (seqObj "list" #[] 0)).update s.heap.objs.size (Obj.mapSeq (· ++vs.toArray))).push (seqObj "list" vs.toArray 0)).get? b=some o:=fun b o e=>by
  have lo:b<s.heap.objs.size:=aA e
  refine⟨lo,ag _ ?_⟩
  rw[kA _ _ _ _ (bb lo)]
  exact ag _ e
 show wpAny _ _ _ _ _ {s with heap:=((s.heap.push (seqObj "list" #[] 0)).update s.heap.objs.size (Obj.mapSeq (· ++vs.toArray))).push (seqObj "list" vs.toArray 0)}
 rw[z]
 refine aa (cM (dH slot_list_sort ⟨_,pQ,rfl⟩ entry_list_sort ?_ (args_list_sort _)))
 refine pS pQ O Gi (fun h2 h' k=>?_) fun p pm so=>⟨_,rfl,ak ⟨_,rfl,fin p pm so⟩⟩
 exact ask h2 h' fun b o e=>k b o (bb (gT (old b o e).1)) (old b o e).2
end
section
variable {X:Cx}{κ:Type}
def t_ [DecidableEq κ] {lt:κ->κ->Bool}(S:HH lt) (dk:κ):gE X (.builtin "sorted") (fun xs H Q=>∃(p:ah) (L:List (lY κ)) (R:lY κ->lY κ->Bool),xs=[.ref p]/\bY X.K H p (L.map fun e=>V.ref e.a)/\L.length<64/\(∀e∈L,bY X.K H e.a (.str e.x::e.rest))/\
  (∀(pins:List (ah×Obj)) (σ:St) (s:ai),Inv X pins σ H s->∀e∈L,∀e'∈L,∀us ng:List af,cy e.rest us->cy e'.rest ng->∀h',Dx s.heap h'->Lex X.A.in1.in1 {s with heap:=h'} us ng (R e e'))/\
  (∀e∈L,∀e'∈L,lt e.key e'.key=if e.x=e'.x then R e e' else dQ e.x e'.x)/\
  ∀(l:ah) (L':List (lY κ)),H l=none->L'.Perm L->(L'.Pairwise fun e e'=>lt e'.key e.key=false)->Q (.ref l) (upd H l (.lst (L'.map fun e=>V.ref e.a)))):=by
 intro pins s σ H xs us Q I r h
 obtain⟨p,L,R,rfl,hq,Gi,hT,hR,hK,q⟩:=h
 obtain⟨u,rfl,rx⟩:=zw r
 cases(show u=Value.ref p from rx)
 obtain⟨cE,rv,pl,hz⟩:=I.tuple hq
 cases sk rv
 have d:lY κ:=⟨0,"",[],dk⟩
 have gt:∀i,i<L.length->L.getD i d∈L:=fun i hi=>by
  rw[bf,aH hi];exact cA hi
 have lz:(L.map fun e=>Value.ref e.a).length=L.length:=aq _
 have ex:∀i,∃us:List af,i<L.length->∃t,cy (L.getD i d).rest us/\IsTup s.heap (L.getD i d).a (Value.str (L.getD i d).x t::us).toArray:=fun i=>by
  by_cases hi:i<L.length
  ·obtain⟨cE,r,tp,_⟩:=I.tuple (hT _ (gt i hi))
   cases r with
   |cons r1 r2=>
    obtain⟨t,rfl⟩:=r1
    exact⟨_,fun _=>⟨t,r2,tp⟩⟩
  ·exact⟨[],fun h=>absurd h hi⟩
 obtain⟨rs,Ov⟩:=Classical.skolem.mp ex
 refine Ax (show s.heap.IsTuple p (L.map fun e=>Value.ref e.a).toArray from pl) (S.ok fun i=>(L.getD i d).key) (by omega) (fun h2 h' g=>?_) fun pp pm so=>?_
 ·refine xG (s:={s with heap:=h'}) (hd:=fun i=>(L.getD i d).x) (rs:=rs) (r:=fun i j=>R (L.getD i d) (L.getD j d)) h2 (fun i hi=>?_) (fun i j hi hj=>?_) (fun i j hi hj=>?_)
  ·rw[lz] at hi
   obtain⟨t,_,tp⟩:=Ov i hi
   refine⟨(L.getD i d).a,t,?_,tp.keeps g⟩
   rw[bX,bf,aH hi];rfl
  ·rw[lz] at hi hj
   obtain⟨_,v1,_⟩:=Ov i hi
   obtain⟨_,v2,_⟩:=Ov j hj
   exact hR pins σ s I _ (gt i hi) _ (gt j hj) _ _ v1 v2 h' g
  ·rw[lz] at hi hj
   exact hK _ (gt i hi) _ (gt j hj)
 ·rw[lz] at pm so
  have e1:inOrder (L.map fun e=>Value.ref e.a) pp=((pp.toList.map fun i=>L.getD i d).map fun e=>Value.ref e.a).toArray:=by
   unfold inOrder
   congr 1
   rw[nP]
   refine jL fun i hi=>?_
   have AY:i<L.length:=pE.mp (pm.mem_iff.mp hi)
   show(L.map fun e=>Value.ref e.a).getD i Value.none=Value.ref (L.getD i d).a
   rw[bf,bX,bf,aH AY];rfl
  rw[e1]
  have p1:=xH L d pm
  have p2:=tH (lt:=fun e e'=>lt e.key e'.key) pm so
  generalize pp.toList.map (fun i=>L.getD i d)=L' at p1 p2
  obtain⟨e,he⟩:=sortedAll_at s.heap (L.map fun e=>Value.ref e.a) (L'.map fun e=>Value.ref e.a).toArray
  have fresh:H (s.heap.objs.size+1)=none:=I.eE.fresh (dE _)
  have nK:=p1.length_eq
  refine⟨.ref (s.heap.objs.size+1),upd H (s.heap.objs.size+1) (.lst (L'.map fun e=>V.ref e.a)),I.laid (t':=s.toks) (fun b o eb=>sortedAll_old eb) (dE _) ⟨?_,L'.map fun e=>Value.ref e.a,e,su L',?_⟩,rfl,q _ L' fresh p1 p2⟩
  ·rw[aq];exact eM (dq (by omega))
  ·rw[he]
def TJ (H:Hp) (e:lY (Str×Str×Int)):Prop:=e.x=e.key.1/\e.rest=[.str e.key.2.1,.int e.key.2.2]/\H e.a=some (.tup [.str e.key.1,.str e.key.2.1,.int e.key.2.2])
def vQ:gE X (.builtin "sorted") (fun xs H Q=>∃(p:ah) (L:List (lY (Str×Str×Int))),xs=[.ref p]/\bY X.K H p (L.map fun e=>V.ref e.a)/\L.length<64/\(∀e∈L,TJ H e)/\
  ∀(l:ah) (L':List (lY (Str×Str×Int))),H l=none->L'.Perm L->(L'.Pairwise fun e e'=>mS e'.key e.key=false)->Q (.ref l) (upd H l (.lst (L'.map fun e=>V.ref e.a)))):=by
 intro pins s σ H xs us Q I r h
 obtain⟨p,L,rfl,hq,Gi,hT,q⟩:=h
 refine t_ tw ("","",0) pins s σ H [.ref p] us Q I r ⟨p,L,fun e e'=>wQ dQ ltI e.key.2 e'.key.2,rfl,hq,Gi,fun e he=>?_,fun pins σ s I e he e' Pg us ng r1 r2 h' g=>?_,fun e he e' Pg=>?_,q⟩
 ·obtain⟨e1,e2,e3⟩:=hT e he
  rw[e1,e2];exact bY.of e3
 ·obtain⟨_,e2,_⟩:=hT e he
  obtain⟨_,g2,_⟩:=hT e' Pg
  rw[e2] at r1
  rw[g2] at r2
  cases r1 with
  |cons a1 a2=>
   cases a2 with
   |cons b1 b2=>
    cases b2
    cases r2 with
    |cons c1 c2=>
     cases c2 with
     |cons d1 d2=>
      cases d2
      obtain⟨t,rfl⟩:=a1
      obtain⟨t',rfl⟩:=c1
      obtain⟨u,rfl⟩:=b1
      obtain⟨u',rfl⟩:=d1
      have:=DA (A:=X.A.in1.in1) (s:={s with heap:=h'}) e.key.2.1 t e'.key.2.1 t' (Dz e.key.2.2 u e'.key.2.2 u' .nn)
      have e5:(if e.key.2.2=e'.key.2.2 then false else ltI e.key.2.2 e'.key.2.2)=ltI e.key.2.2 e'.key.2.2:=by
       split
       ·rename_i z;rw[z,Ot.Q9]
       ·rfl
      rw[e5] at this
      exact this
 ·obtain⟨e1,_⟩:=hT e he
  obtain⟨g1,_⟩:=hT e' Pg
  rw[e1,g1];rfl
def oK:gE X (.builtin "sorted") (fun xs H Q=>∃(p:ah) (L:List (lY (Str×Str×Int))),xs=[.ref p]/\cS X.K H p (L.map fun e=>V.ref e.a)/\L.length<64/\(∀e∈L,TJ H e)/\
  ∀(l:ah) (L':List (lY (Str×Str×Int))),H l=none->L'.Perm L->(L'.Pairwise fun e e'=>mS e'.key e.key=false)->Q (.ref l) (upd H l (.lst (L'.map fun e=>V.ref e.a)))):=by
 intro pins s σ H xs us Q I r h
 obtain⟨p,L,rfl,hq,Gi,hT,q⟩:=h
 refine vo tw ("","",0) pins s σ H [.ref p] us Q I r ⟨p,L,fun e e'=>wQ dQ ltI e.key.2 e'.key.2,rfl,hq,Gi,fun e he=>?_,fun pins σ s I e he e' Pg us ng r1 r2 h' g=>?_,fun e he e' Pg=>?_,q⟩
 ·obtain⟨e1,e2,e3⟩:=hT e he
  rw[e1,e2];exact bY.of e3
 ·obtain⟨_,e2,_⟩:=hT e he
  obtain⟨_,g2,_⟩:=hT e' Pg
  rw[e2] at r1
  rw[g2] at r2
  cases r1 with
  |cons a1 a2=>
   cases a2 with
   |cons b1 b2=>
    cases b2
    cases r2 with
    |cons c1 c2=>
     cases c2 with
     |cons d1 d2=>
      cases d2
      obtain⟨t,rfl⟩:=a1
      obtain⟨t',rfl⟩:=c1
      obtain⟨u,rfl⟩:=b1
      obtain⟨u',rfl⟩:=d1
      have:=DA (A:=X.A.in1.in1) (s:={s with heap:=h'}) e.key.2.1 t e'.key.2.1 t' (Dz e.key.2.2 u e'.key.2.2 u' .nn)
      have e5:(if e.key.2.2=e'.key.2.2 then false else ltI e.key.2.2 e'.key.2.2)=ltI e.key.2.2 e'.key.2.2:=by
       split
       ·rename_i z;rw[z,Ot.Q9]
       ·rfl
      rw[e5] at this
      exact this
 ·obtain⟨e1,_⟩:=hT e he
  obtain⟨g1,_⟩:=hT e' Pg
  rw[e1,g1];rfl
end
end L2
namespace K12
open PySem L2 HT PySem.W
section
variable {P:aF}{w:ba}{K:Frag}{mg:Str->Option af}{base:Heap}
abbrev X6:Stmt:=top 37
def TK (H:Hp) (v:V):Option Ea->Prop
 |none=>v=.eA
 |some r=>∃t,v=.ref t/\yG H t r
def TL:Sp:=fun vs H Q _=>∃(r1 r2:ah) (p q:jO),vs=[.ref r1,.ref r2]/\jD H r1 p/\jD H r2 q/\ig p/\ig q/\f_ p/\∀v r H',a_ H H'->Told p q r->TK H' v r->Q v H'
def X8:bV ["one","other"] ["one","other"] (av X6):={}
def TM {f:ah}{fd:FuncData}(F:iV K "trial_or_none" "trial_or_none" X6 f fd) {CN:ah}(mn:mg "NoTrial"=some (.ref CN)) (xm:exmOne K (.ref CN) (.ref CN)=some true) (DT:VA P w K mg base 3 "trial_of" ["one","other"] (Pf CN)):dO P w K mg base fO 4 f fd ["one","other"] TL:=by
 refine F.ok X8 (fun vs H Q E h=>?_) (fun cdv A outer s H vs Q E hr h=>?_)
 ·obtain⟨r1,r2,p,q,rfl,_⟩:=h
  rfl
 ·obtain⟨r1,r2,p,q,rfl,h1,h2,o1,o2,cp,hq⟩:=h
  refine⟨_,aE (Ll (C:=CN) (tb:=fun W=>Ke (Cj (Pf CN) [] W (cC (cg 0) (cC (cg 1) fD)))) (ts:=Ke (tC .eA)) rfl rfl rfl mn
    (fun pins W=>aE (bF (Iu DT hr oG (ae (pv 0) (ae (pv 1) aj)))))
    (fun a=>aE (bF iT))),?_⟩
  refine⟨_,rfl,_,rfl,r1,r2,p,q,rfl,h1,h2,o1,o2,cp,?_⟩
  by_cases hx:∃m y,Xp p q m y
  ·obtain⟨m,y,x⟩:=hx
   exact .inr ⟨m,y,x,fun qq H2 s2 TA=>hq _ (some _) H2 s2 (.inl ⟨m,y,x,rfl⟩) ⟨qq,rfl,TA⟩⟩
  ·exact .inl ⟨fun m y x=>hx ⟨m,y,x⟩,fun H1 s0=>⟨xm,hq .eA none H1 s0 (.inr ⟨fun m y x=>hx ⟨m,y,x⟩,rfl⟩) rfl⟩⟩
def gy (i:Nat):Stmt:=match top 39 with
 | .ClassDef _ _ _ b _ _ _ _ _ _ _=>b.getD i (.Pass ⟨0,0,0,0⟩)
 |_=>.Pass ⟨0,0,0,0⟩
def yH (P:aF) (w:ba) (K:Frag) (mg:Str->Option af) (base:Heap) (k:Nat) (C:ah) (m:Str) (ps:List Str) (sp:Sp):Prop:=
 AV K C/\∃f fd,dO P w K mg base fO k f fd ps sp/\Binds K fd ps []/\yd K C m f
def Ay {X:Cx}{k:Nat}{C:ah}{m:Str}{ps:List Str}{sp:Sp}{o e:Expr}{es:List Expr}{ta:TE}{t:TA}{apos pos:Pos}{pl:Sem Bool}(D:yH X.prog X.w X.K X.mg X.base k C m ps sp) (hr:eK k X.A) (he:PE X o ta) (ha:PA X (e::es) t)
  (EL:starEach (e::es) X.env=(false,eval e X.env)::starEach es X.env:=by rfl) (jZ:(backTo pos (starEach es X.env)).any (·.1)=false:=by rfl)
  (ht:eval (.Call (.Attribute o m apos) (e::es) [] pos) X.env=(do
   let ov<-eval o X.env
   standAt apos.atName
   let(f,first)<-holding [ov] (getMethod ov m pl)
   callWith pos f first (backTo pos (starEach (e::es) X.env)) (backToKw pos (keywordEach [] X.env))):=by rfl):
  PE X (.Call (.Attribute o m apos) (e::es) [] pos) (Dl C m sp [] E0 ta t):=by
 obtain⟨c,f,fd,F,b,hm⟩:=D
 exact Kn (pl:=pl) he c hm F hr b .nil zK ha EL jZ ht
def oM {X:Cx}{k:Nat}{C:ah}{m:Str}{ps:List Str}{sp:Sp}{o:Expr}{ta:TE}{apos pos:Pos}{pl:Sem Bool}(D:yH X.prog X.w X.K X.mg X.base k C m ps sp) (hr:eK k X.A) (he:PE X o ta)
  (ht:eval (.Call (.Attribute o m apos) [] [] pos) X.env=(do
   let ov<-eval o X.env
   standAt apos.atName
   let(f,first)<-holding [ov] (getMethod ov m pl)
   callWith pos f first (backTo pos (starEach [] X.env)) (backToKw pos (keywordEach [] X.env))):=by rfl):
  PE X (.Call (.Attribute o m apos) [] [] pos) (Dl C m sp [] E0 ta fD):=by
 obtain⟨c,f,fd,F,b,hm⟩:=D
 exact GU (pl:=pl) he c hm F hr b .nil zK ht
structure Gs (K:Frag) (C:ah):Prop where
 c:AV K C
 ns:ji K C "states"
 nl:ji K C "left"
abbrev Rows:=List (Nat×jO)
abbrev j0:=Str×Str×Int
def jE (H:Hp) (v:V) (x:Nat×jO):Prop:=∃u r,v=.ref u/\H u=some (.tup [.int x.1,.ref r])/\jD H r x.2
def jE.up {H H':Hp}{v:V}{x:Nat×jO}(h:jE H v x) (s:∀b xs,H b=some (.tup xs)->H' b=some (.tup xs)):jE H' v x:=by
 obtain⟨u,r,h1,h2,h3⟩:=h
 exact⟨u,r,h1,s _ _ h2,h3.up s⟩
def fU (H:Hp) (v:V) (r:j0):Prop:=∃a,v=.ref a/\H a=some (.tup [.str r.1,.str r.2.1,.int r.2.2])
def fU.up {H H':Hp}{v:V}{r:j0}(h:fU H v r) (s:∀b xs,H b=some (.tup xs)->H' b=some (.tup xs)):fU H' v r:=by
 obtain⟨a,h1,h2⟩:=h
 exact⟨a,h1,s _ _ h2⟩
def au {α β:Type}{R S:α->β->Prop}:∀{as:List α}{bs:List β},Paired R as bs->(∀a b,R a b->S a b)->Paired S as bs
 |_,_,.nil,_=>.nil
 |_,_,.cons h t,f=>.cons (f _ _ h) (au t f)
structure Cs where
 bo:List j0
 rows:Rows
 n:Nat
def TN (H:Hp) (v:V) (S:Cs):Prop:=∃(st cr sd:ah) (ws us:List V),v=.ref st/\H st=some (.tup [.ref cr,.ref sd,.int S.n])/\H cr=some (.tup ws)/\Paired (fU H) ws S.bo/\H sd=some (.tup us)/\Paired (jE H) us S.rows
def TN.up {H H':Hp}{v:V}{S:Cs}(h:TN H v S) (s:∀b xs,H b=some (.tup xs)->H' b=some (.tup xs)):TN H' v S:=by
 obtain⟨st,cr,sd,ws,us,h1,h2,h3,h4,h5,h6⟩:=h
 exact⟨st,cr,sd,ws,us,h1,s _ _ h2,s _ _ h3,au h4 fun _ _ z=>z.up s,s _ _ h5,au h6 fun _ _ z=>z.up s⟩
def eW (C:ah) (H:Hp) (cb sl ll:ah) (sts cx:List Cs):Prop:=∃(dx:ah) (vs ws:List V),H cb=some (.ins C dx [("states",.ref sl),("left",.ref ll)])/\sl≠cb/\ll≠cb/\ll≠sl/\
 H sl=some (.lst vs)/\H ll=some (.lst ws)/\Paired (TN H) vs sts/\Paired (TN H) ws cx
def eW.same {C:ah}{H H':Hp}{cb sl ll:ah}{sts cx:List Cs}(h:eW C H cb sl ll sts cx) (s:a_ H H'):eW C H' cb sl ll sts cx:=by
 obtain⟨dx,vs,ws,c1,c2,c3,c4,c5,c6,c7,c8⟩:=h
 exact⟨dx,vs,ws,s _ _ c1,c2,c3,c4,s _ _ c5,s _ _ c6,au c7 fun _ _ z=>z.up fun _ _ e=>s _ _ e,au c8 fun _ _ z=>z.up fun _ _ e=>s _ _ e⟩
def cJ {H H':Hp}{a:ah}(s:a_ H H') (h:H' a=none):H a=none:=by
 cases e:H a with
 |none=>rfl
 |some o=>rw[s _ _ e] at h;cases h
abbrev IA:Stmt:=gy 0
abbrev Ph:Stmt:=gy 1
abbrev Cq:Stmt:=gy 3
abbrev IB:Stmt:=gy 4
abbrev X_:Stmt:=gy 5
abbrev Cr:Stmt:=gy 6
abbrev IC:Stmt:=gy 7
abbrev Pj:Stmt:=gy 8
abbrev ID:Stmt:=gy 9
abbrev Ct:Stmt:=gy 10
abbrev IE:Stmt:=gy 11
abbrev Pk:Stmt:=gy 12
abbrev Pl:Stmt:=gy 13
def Pm:bV ["self"] ["self"] (av IA):={}
def Cu (C:ah):Sp:=fun vs H Q _=>∃cb dx,vs=[.ref cb]/\H cb=some (.ins C dx [])/\∀sl ll H',(∀b o,b≠cb->H b=some o->H' b=some o)->H sl=none->H ll=none->eW C H' cb sl ll [⟨[],[],0⟩] []->Q .eA H'
def Lm {f:ah}{fd:FuncData}{C:ah}(F:iV K "__init__" "Club.__init__" IA f fd) (CC:Gs K C):dO P w K mg base fO 1 f fd ["self"] (Cu C):=by
 refine F.ok Pm (fun vs H Q E h=>?_) (fun cdv A outer s H vs Q E hr h=>?_)
 ·obtain⟨cb,dx,rfl,_⟩:=h
  rfl
 ·obtain⟨cb,dx,rfl,hc,hQ⟩:=h
  refine⟨_,ar (Bs (pv 0) (cW (ae (bO (ae (bO aj) (ae (bO aj) (ae ao aj)))) aj)) rfl) (aE (Bs (pv 0) (cW aj) rfl)),?_⟩
  refine⟨dF,fun t1 h1=>?_⟩
  exists h1,.tup [],H,t1,s1,w1,M1
  refine⟨dF,fun t2 h2=>?_⟩
  exists h2,.tup [],M1,t2,s2,w2,M2
  refine⟨dF,fun t3 h3=>?_⟩
  exists h3,.tup [.ref t1,.ref t2,.int 0],M2,t3,s3,w3,M3
  refine⟨dF,fun sl Tz=>?_⟩
  have s4:=aN Tz (.lst [.ref t3])
  have w4:upd M3 sl (.lst [.ref t3]) sl=some (.lst [.ref t3]):=az
  have Iy:a_ H (upd M3 sl (.lst [.ref t3])):=((s1.trans s2).trans s3).trans s4
  have Pn:H sl=none:=by
   cases e:H sl with
   |none=>rfl
   |some o=>rw[((s1.trans s2).trans s3) _ _ e] at Tz;cases Tz
  try dsimp only
  generalize upd M3 sl (.lst [.ref t3])=M4 at*
  have VB:=Iy _ _ hc
  refine⟨_,rfl,cb,C,dx,[],rfl,VB,CC.c,CC.ns,by decide,?_⟩
  have Ya:sl≠cb:=fun z=>by rw[z,hc] at Pn;cases Pn
  have k5:∀b o,b≠cb->M4 b=some o->upd M4 cb (.ins C dx (jY "states" (.ref sl) [])) b=some o:=fun b o n e=>by rw[aV n];exact e
  have w5:upd M4 cb (.ins C dx (jY "states" (.ref sl) [])) cb=some (.ins C dx (jY "states" (.ref sl) [])):=az
  try dsimp only
  generalize upd M4 cb (.ins C dx (jY "states" (.ref sl) []))=M5 at*
  refine⟨dF,fun ll ni=>?_⟩
  exists ni,.lst [],M5,ll,s6,w6,M6
  refine⟨_,rfl,cb,C,dx,_,rfl,s6 _ _ w5,CC.c,CC.nl,(show 1<1000 by decide),?_⟩
  have kH:∀b o,b≠cb->H b=some o->upd M6 cb (.ins C dx (jY "left" (.ref ll) (jY "states" (.ref sl) []))) b=some o:=fun b o n e=>by rw[aV n];exact s6 _ _ (k5 _ _ n (Iy _ _ e))
  have k4:∀b o,b≠cb->M4 b=some o->upd M6 cb (.ins C dx (jY "left" (.ref ll) (jY "states" (.ref sl) []))) b=some o:=fun b o n e=>by rw[aV n];exact s6 _ _ (k5 _ _ n e)
  have nT:∀b xs,M4 b=some (.tup xs)->b≠cb:=fun b xs e z=>by rw[z,VB] at e;cases e
  have v1:=((s2.trans s3).trans s4) _ _ w1
  have v2:=(s3.trans s4) _ _ w2
  have v3:=s4 _ _ w3
  have Yb:H ll=none:=by
   cases e:H ll with
   |none=>rfl
   |some o=>by_cases z:ll=cb
            ·rw[z,w5] at ni;cases ni
            ·rw[k5 _ _ z (Iy _ _ e)] at ni;cases ni
  have nlc:ll≠cb:=fun z=>by rw[z,w5] at ni;cases ni
  have nls:ll≠sl:=fun z=>by rw[z,k5 _ _ Ya w4] at ni;cases ni
  exact hQ sl ll _ kH Pn Yb ⟨dx,[.ref t3],[],az,Ya,nlc,nls,k4 _ _ Ya w4,by rw[aV nlc];exact w6,.cons ⟨t3,t1,t2,[],[],rfl,k4 _ _ (nT _ _ v3) v3,k4 _ _ (nT _ _ v1) v1,.nil,k4 _ _ (nT _ _ v2) v2,.nil⟩ .nil,.nil⟩
def PE.weak {X:Cx}{e:Expr}{t t':TE}(h:PE X e t) (k:∀σ H Q,t' σ H Q->t σ H Q):PE X e t':=fun pins s σ H Q I q=>h pins s σ H Q I (k _ _ _ q)
def TQ (i:Nat):TE:=fun σ H Q=>∃p us,σ[i]?=some (some (.ref p))/\(H p=some (.tup us)\/H p=some (.lst us))/\∀M0 p',a_ H M0->M0 p'=some (.tup us)->Q (.ref p') M0
def TR {K:Frag}{i:Nat}:∀σ H Q,TQ i σ H Q->Q3 (fun xs H Q=>∃p ys,xs=[.ref p]/\((cS K H p ys/\∀l,H l=none->Q (.ref l) (upd H l (.tup ys)))\/(bY K H p ys/\Q (.ref p) H))) (cC (cg i) fD) σ H Q:=by
 rintro σ H Q ⟨p,us,e,h,q⟩
 refine⟨_,e,p,us,rfl,?_⟩
 rcases h with h|h
 ·exact .inr ⟨bY.of h,q H p (fun _ _ e=>e) h⟩
 ·exact .inl ⟨cS.of h,fun l hl=>q _ l (aN hl _) az⟩
def Ln:bV ["self","crew","standing","following"] ["self","crew","standing","following"] (av Cq):={}
def Ec (a b c:ah) (H H':Hp):Prop:=∀x o,x≠a->x≠b->x≠c->H x=some o->H' x=some o
def mU (C:ah):Sp:=fun vs H Q _=>∃(cb sl ll cr sd:ah) (ws us:List V) (n:Nat) (bo:List j0) (rows:Rows) (sts cx:List Cs),vs=[.ref cb,.ref cr,.ref sd,.int n]/\eW C H cb sl ll sts cx/\sts.length<=900/\(H cr=some (.tup ws)\/H cr=some (.lst ws))/\Paired (fU H) ws bo/\(H sd=some (.tup us)\/H sd=some (.lst us))/\Paired (jE H) us rows/\
 ∀ph H',Ec cb sl ll H H'->H ph=none->eW C H' cb sl ph (sts++ [⟨bo,rows,n⟩]) []->Q .eA H'
def bQ {α β:Type}{R:α->β->Prop}:∀{as:List α}{bs:List β},Paired R as bs->as.length=bs.length
 |_,_,.nil=>rfl
 |_,_,.cons _ t=>by simp[bQ t]
def fe {α β:Type}{R:α->β->Prop}:∀{as:List α}{bs:List β}{b:β},Paired R as (bs++ [b])->∃VC a,as=VC++ [a]/\Paired R VC bs/\R a b
 |_,[],_,.cons h .nil=>⟨[],_,rfl,.nil,h⟩
 |_,_::bs,_,.cons h t=>by
  obtain⟨VC,a,rfl,h1,h2⟩:=fe (bs:=bs) t
  exact⟨_::VC,a,rfl,.cons h h1,h2⟩
def IF {f:ah}{fd:FuncData}{C:ah}(F:iV K "enter" "Club.enter" Cq f fd) (T:Txt mg) (CC:Gs K C):dO P w K mg base fO 1 f fd ["self","crew","standing","following"] (mU C):=by
 refine F.ok Ln (fun vs H Q E h=>?_) (fun cdv A outer s H vs Q E hr h=>?_)
 ·obtain⟨cb,sl,ll,cr,sd,ws,us,n,bo,rows,sts,cx,rfl,_⟩:=h
  rfl
 ·obtain⟨cb,sl,ll,cr,sd,ws,us,n,bo,rows,sts,cx,rfl,hC,u60,Tb,pc,TU,pr,hQ⟩:=h
  refine⟨_,ar (gs (pP cw d_ ef gw (jj (pv 0) rfl) (ae (bO (ae (PE.weak (fE fq rfl T.tuple cu (ae (pv 1) aj)) TR) (ae (PE.weak (fE fq rfl T.tuple cu (ae (pv 2) aj)) TR) (ae (pv 3) aj)))) aj))) (aE (Bs (pv 0) (cW aj) rfl)),?_⟩
  obtain⟨dx,vs,xs,c1,c2,c3,c4,c5,c6,c7,c8⟩:=hC
  have lv:=bQ c7
  refine⟨_,rfl,cb,C,dx,_,_,rfl,c1,CC.c,CC.ns,rfl,.inl ⟨rfl,_,cS.of c5⟩,cr,ws,rfl,Tb,fun M0 TV s0 w0=>⟨sd,us,rfl,?_,fun M1 TX s1 w1=>?_⟩⟩
  ·rcases TU with TU|TU
   ·exact .inl (s0 _ _ TU)
   ·exact .inr (s0 _ _ TU)
  have s01:=s0.trans s1
  refine⟨_,rfl,dF,fun t ht=>?_⟩
  have s2:=aN ht (.tup [.ref TV,.ref TX,.int n])
  have jc:=s01.trans s2
  have w2:upd M1 t (.tup [.ref TV,.ref TX,.int n]) t=some (.tup [.ref TV,.ref TX,.int n]):=az
  have w0':=s2 _ _ (s1 _ _ w0)
  have Lo:=s2 _ _ w1
  try dsimp only
  generalize upd M1 t (.tup [.ref TV,.ref TX,.int n])=M2 at*
  have d5:=jc _ _ c5
  have d1:=jc _ _ c1
  refine⟨sl,vs,.ref t,rfl,rfl,d5,dq (by omega),?_⟩
  have k3:∀b o,b≠sl->M2 b=some o->upd M2 sl (.lst (vs++ [.ref t])) b=some o:=fun b o n e=>by rw[aV n];exact e
  have w3:upd M2 sl (.lst (vs++ [.ref t])) sl=some (.lst (vs++ [.ref t])):=az
  try dsimp only
  generalize upd M2 sl (.lst (vs++ [.ref t]))=M3 at*
  refine⟨dF,fun l2 nK=>?_⟩
  exists nK,.lst [],M3,l2,s4,w4,M4
  refine⟨_,rfl,cb,C,dx,_,rfl,s4 _ _ (k3 _ _ c2.symm d1),CC.c,CC.nl,(show 2<1000 by decide),?_⟩
  have ep:jY "left" (.ref l2) [("states",.ref sl),("left",.ref ll)]=[(("states":Str),V.ref sl),("left",.ref l2)]:=rfl
  rw[ep]
  have kk:Ec cb sl ll H (upd M4 cb (.ins C dx [("states",.ref sl),("left",.ref l2)])):=fun b o n1 n2 _ e=>by rw[aV n1];exact s4 _ _ (k3 _ _ n2 (jc _ _ e))
  have kM:∀b xs,M2 b=some (.tup xs)->upd M4 cb (.ins C dx [("states",.ref sl),("left",.ref l2)]) b=some (.tup xs):=fun b xs e=>by
   rw[aV (fun z=>by rw[z,d1] at e;cases e)]
   exact s4 _ _ (k3 _ _ (fun z=>by rw[z,d5] at e;cases e) e)
  have n1:l2≠cb:=fun z=>by rw[z,k3 _ _ c2.symm d1] at nK;cases nK
  have n2:l2≠sl:=fun z=>by rw[z,w3] at nK;cases nK
  have hl0:H l2=none:=by
   cases e:H l2 with
   |none=>rfl
   |some o=>rw[k3 _ _ n2 (jc _ _ e)] at nK;cases nK
  exact hQ l2 _ kk hl0 ⟨dx,vs++ [.ref t],[],az,c2,n1,n2,by rw[aV c2];exact s4 _ _ w3,by rw[aV n1];exact w4,
   dN (au c7 fun _ _ z=>z.up fun b xs e=>kM _ _ (jc _ _ e)) ⟨t,TV,TX,ws,us,rfl,kM _ _ w2,kM _ _ w0',au pc fun _ _ z=>z.up fun b xs e=>kM _ _ (jc _ _ e),kM _ _ Lo,au pr fun _ _ z=>z.up fun b xs e=>kM _ _ (jc _ _ e)⟩,.nil⟩
def yI:bV ["self","piece","crew","standing","following"] ["self","piece"] (av IC):={}
def Cv (C CP:ah):Sp:=fun vs H Q E=>∃(cb sl ll k:ah) (v:V) (d:PyData) (S:Cs) (sts cx:List Cs),vs=[.ref cb,v]/\eW C H cb sl ll (sts++ [S]) cx/\sts.length<=890/\S.rows.length<=39/\Tells H k d v/\qX d/\
 ((gx d=false/\∀H',a_ H H'->E (.ref CP) none H')\/(∃r p,v=.ref r/\d=wY p/\jD H r p/\ig p/\f_ p/\
 ∀ph H',Ec cb sl ll H H'->H ph=none->eW C H' cb sl ph (sts++ [S]++ [⟨S.bo,S.rows++ [(S.n,p)],S.n+1⟩]) []->Q (.int S.n) H'))
def Lp {f:ah}{fd:FuncData}{C CP:ah}(F:iV K "tell" "Club.tell" IC f fd) (T:Txt mg) (hM:∃t,mg "MOST_PIECES"=some (.int 40 t)) (CC:Gs K C) (OP:sh K mg "NoPiece" CP) (DI:Df P w K mg base 3 "is_piece" ["thing"] (wR gx)) (DE:yH P w K mg base 1 C "enter" ["self","crew","standing","following"] (mU C)):dO P w K mg base (qC P w) 4 f fd ["self","piece"] (Cv C CP):=by
 refine F.Lb yI (fun vs H Q E h=>?_) (fun cdv A outer s H vs Q E hr h=>?_)
 ·obtain⟨cb,sl,ll,k,v,d,S,sts,cx,rfl,_⟩:=h
  rfl
 ·obtain⟨cb,sl,ll,k,v,d,S,sts,cx,rfl,hC,VD,l30,tl,fd',hq⟩:=h
  have Az:=hr.mono (j:=1) (by decide)
  obtain⟨tk,hM⟩:=hM
  refine⟨_,ar (iD (bg cU (jj (pv 0) rfl) (pN lR ao)) (fW rfl (bz (aZ (i:=2) yI.nd) (bz (aZ (i:=3) yI.nd) (bz (aZ (i:=4) yI.nd) eV)))))
   (ar (cN (fJ (fG (cB DI hr (ae (pv 1) aj)))) (aE (gR (W:=fun cls dW _ H'=>E cls dW H') js rfl rfl OP rfl (ae aW aj))) bL)
   (ar (cN (br GN (aR bM rfl T.len bB (ae (pv 3) aj)) (fS (v:=.int 40) rfl hM ⟨_,rfl⟩) (bN _)) mh bL)
   (ar (gs (Ay DE Az (pv 0) (ae (pv 2) (ae (bR Dw (pv 3) (bO (ae (bO (ae (pv 4) (ae (pv 1) aj))) aj))) (ae (bR fX (pv 4) ao) aj)))))
   (aE (bF (pv 4)))))),?_⟩
  obtain⟨dx,vs,ws,c1,c2,c3,c4,c5,c6,c7,c8⟩:=id hC
  obtain⟨Ed,_,rfl,FN,st,cr,sd,qo,us,rfl,e1,e2,uW,e3,e4⟩:=fe c7
  have Rk:=bQ e4
  refine⟨_,rfl,cb,C,dx,_,_,rfl,c1,CC.c,CC.ns,rfl,1,rfl,sl,_,-1,.ref st,rfl,rfl,cS.of c5,kK _ _,st,_,rfl,bY.of e1,rfl,_,_,rfl,_,_,rfl,_,_,rfl,rfl,?_⟩
  refine⟨_,rfl,k,d,_,rfl,tl,fd',fun H1 s1=>⟨_,rfl,?_⟩⟩
  rcases hq with⟨no,hE⟩|⟨r,p,rfl,rfl,hP,op,cp,hQ⟩
  ·rw[no]
   exact ite_yes (by decide) ⟨dF,hE H1 s1⟩
  rw[vP op cp]
  refine ite_no (by decide) ?_
  have hC1:=hC.same s1
  refine⟨_,rfl,sd,us,rfl,.inr (bY.of (s1 _ _ e3)),_,_,rfl,rfl,_,rfl,?_⟩
  refine ite_no (fun z=>?_) ?_
  ·have:=aX z
   try dsimp only at Rk
   omega
  refine⟨_,rfl,cb,dx,_,rfl,s1 _ _ c1,rfl,_,rfl,_,rfl,_,rfl,_,rfl,dF,fun u hu=>?_⟩
  exists hu,.tup [.int S.n,.ref r],H1,u,z1,y1,M1
  refine⟨dF,fun x1 Po=>?_⟩
  exists Po,.tup [.ref u],M1,x1,z2,y2,M2
  have lw:(S.n:Int)+1=((S.n+1:Nat):Int):=by omega
  have fin:∀(M3:Hp) (x:ah),a_ M2 M3->M3 x=some (.tup (us++ [.ref u]))->mU C [.ref cb,.ref cr,.ref x,.int ((S.n:Int)+1)] M3 (fun _ H'=>Q (.int S.n) H') (fun _ _ _=>False):=fun M3 x z3 y3=>by
   have zz:=s1.trans ((z1.trans z2).trans z3)
   refine⟨cb,sl,ll,cr,x,qo,us++ [.ref u],S.n+1,S.bo,S.rows++ [(S.n,p)],sts++ [S],cx,by rw[lw],hC.same zz,by rw[aK,aG];omega,.inl (zz _ _ e2),au uW fun _ _ q=>q.up fun b xs e=>zz _ _ e,.inl y3,dN (au e4 fun _ _ q=>q.up fun b xs e=>zz _ _ e) ⟨u,r,rfl,(z2.trans z3) _ _ y1,hP.up fun b xs e=>zz _ _ e⟩,fun ph H' k' f' C'=>?_⟩
   exact hQ ph H' (fun b o n1 n2 n3 e=>k' _ _ n1 n2 n3 (zz _ _ e)) (cJ zz f') C'
  refine⟨sd,x1,us,[.ref u],rfl,rfl,bY.of ((z1.trans z2) _ _ (s1 _ _ e3)),bY.of y2,by simp,eM (dq (by simp only[aG];omega)),fun h0=>?_,fun _ x2 FO=>?_⟩
  ·have y3:M2 x1=some (.tup (us++ [.ref u])):=by rw[h0];exact y2
   obtain⟨b1,b2,b3,b4,b5,b6,b7,b8,b9,b0,d1,d2,d3,d4,d5,d6,d7,d8,d9,d0⟩:=(fin M2 x1 (fun _ _ e=>e) y3)
   exact⟨_,rfl,_,_,rfl,rfl,b1,b2,b3,b4,b5,b6,b7,b8,b9,b0,d1,d2,d3,d4,d5,d6,d7,d8,d9,fun ph H' k1 k2 k3=>⟨_,rfl,d0 ph H' k1 k2 k3⟩⟩
  ·have z3:=aN FO (.tup (us++ [.ref u]))
   have y3:upd M2 x2 (.tup (us++ [.ref u])) x2=some (.tup (us++ [.ref u])):=az
   try dsimp only
   obtain⟨b1,b2,b3,b4,b5,b6,b7,b8,b9,b0,d1,d2,d3,d4,d5,d6,d7,d8,d9,d0⟩:=(fin _ x2 z3 y3)
   exact⟨_,rfl,_,_,rfl,rfl,b1,b2,b3,b4,b5,b6,b7,b8,b9,b0,d1,d2,d3,d4,d5,d6,d7,d8,d9,fun ph H' k1 k2 k3=>⟨_,rfl,d0 ph H' k1 k2 k3⟩⟩
def Pp:bV ["self"] ["self"] (av ID):={}
def Cw (C CL:ah):Sp:=fun vs H Q E=>∃(cb sl ll:ah) (S:Cs) (sts cx:List Cs),vs=[.ref cb]/\eW C H cb sl ll (sts++ [S]) cx/\sts.length<=900/\cx.length<=900/\
 ((sts=[]/\E (.ref CL) none H)\/(sts≠[]/\∀H',Ec cb sl ll H H'->eW C H' cb sl ll sts (cx++ [S])->Q .eA H'))
def Lq {f:ah}{fd:FuncData}{C CL:ah}(F:iV K "back" "Club.back" ID f fd) (T:Txt mg) (CC:Gs K C) (OL:sh K mg "NothingLeft" CL):dO P w K mg base (qC P w) 1 f fd ["self"] (Cw C CL):=by
 refine F.Lb Pp (fun vs H Q E h=>?_) (fun cdv A outer s H vs Q E hr h=>?_)
 ·obtain⟨cb,sl,ll,S,sts,cx,rfl,_⟩:=h
  rfl
 ·obtain⟨cb,sl,ll,S,sts,cx,rfl,hC,Yc,Yd,hq⟩:=h
  refine⟨_,ar (cN (br hU (aR bM rfl T.len bB (ae (jj (pv 0) rfl) aj)) ao (bN _)) (aE (gR (W:=fun cls dW _ H'=>E cls dW H') js rfl rfl OL rfl (ae aW aj))) bL)
   (aE (gs (pP cw d_ ef gw (jj (pv 0) rfl) (ae (yi cw uL uM BA (jj (pv 0) rfl)) aj)))),?_⟩
  obtain⟨dx,vs,ws,c1,c2,c3,c4,c5,c6,c7,c8⟩:=id hC
  obtain⟨Ed,v,rfl,FN,hv⟩:=fe c7
  have lv:=bQ FN
  have lw:=bQ c8
  refine⟨_,rfl,cb,C,dx,_,_,rfl,c1,CC.c,CC.ns,rfl,sl,_,rfl,.inl (cS.of c5),rfl,_,rfl,?_⟩
  rw[ie,aK,aG]
  rcases hq with⟨rfl,hE⟩|⟨ne,hQ⟩
  ·exact ite_yes (aJ (by rw[lv];rfl)) ⟨dF,hE⟩
  refine ite_no (fun z=>?_) ?_
  ·have z':=aX z
   have:sts.length=0:=by omega
   exact ne (List.length_eq_zero_iff.mp this)
  refine⟨_,rfl,cb,C,dx,_,_,rfl,c1,CC.c,CC.nl,rfl,.inl ⟨rfl,_,cS.of c6⟩,_,rfl,cb,C,dx,_,_,rfl,c1,CC.c,CC.ns,rfl,.inl ⟨rfl,_,cS.of c5⟩,sl,_,v,rfl,rfl,c5,by simp,?_⟩
  rw[show(Ed++ [v]).dropLast=Ed by simp]
  have k1:∀b o,b≠sl->H b=some o->upd H sl (.lst Ed) b=some o:=fun b o n e=>by rw[aV n];exact e
  have w1:upd H sl (.lst Ed) sl=some (.lst Ed):=az
  try dsimp only
  generalize upd H sl (.lst Ed)=M1 at*
  have d6:=k1 _ _ c4 c6
  refine⟨ll,ws,v,rfl,rfl,d6,dq (by omega),?_⟩
  have tk:∀b xs,H b=some (.tup xs)->upd M1 ll (.lst (ws++ [v])) b=some (.tup xs):=fun b xs e=>by
   rw[aV (fun z=>by rw[z,c6] at e;cases e)]
   exact k1 _ _ (fun z=>by rw[z,c5] at e;cases e) e
  exact hQ _ (fun x o n1 n2 n3 e=>by rw[aV n3];exact k1 _ _ n2 e) ⟨dx,Ed,ws++ [v],by rw[aV c3.symm];exact k1 _ _ c2.symm c1,c2,c3,c4,by rw[aV c4.symm];exact w1,az,au FN fun _ _ z=>z.up tk,dN (au c8 fun _ _ z=>z.up tk) (hv.up tk)⟩
def Lr:bV ["self"] ["self"] (av Ct):={}
def yJ (C CL:ah):Sp:=fun vs H Q E=>∃(cb sl ll:ah) (sts cx:List Cs),vs=[.ref cb]/\eW C H cb sl ll sts cx/\sts.length<=900/\cx.length<=900/\
 ((cx=[]/\E (.ref CL) none H)\/∃fi S,cx=fi++ [S]/\∀H',Ec cb sl ll H H'->eW C H' cb sl ll (sts++ [S]) fi->Q .eA H')
def IG {f:ah}{fd:FuncData}{C CL:ah}(F:iV K "again" "Club.again" Ct f fd) (T:Txt mg) (CC:Gs K C) (OL:sh K mg "NothingLeft" CL):dO P w K mg base (qC P w) 1 f fd ["self"] (yJ C CL):=by
 refine F.Lb Lr (fun vs H Q E h=>?_) (fun cdv A outer s H vs Q E hr h=>?_)
 ·obtain⟨cb,sl,ll,sts,cx,rfl,_⟩:=h
  rfl
 ·obtain⟨cb,sl,ll,sts,cx,rfl,hC,Yc,Yd,hq⟩:=h
  refine⟨_,ar (cN (br hU (aR bM rfl T.len bB (ae (jj (pv 0) rfl) aj)) ao (bN _)) (aE (gR (W:=fun cls dW _ H'=>E cls dW H') js rfl rfl OL rfl (ae aW aj))) bL)
   (aE (gs (pP cw d_ ef gw (jj (pv 0) rfl) (ae (yi cw uL uM BA (jj (pv 0) rfl)) aj)))),?_⟩
  obtain⟨dx,vs,ws,c1,c2,c3,c4,c5,c6,c7,c8⟩:=id hC
  have lv:=bQ c7
  have lw:=bQ c8
  refine⟨_,rfl,cb,C,dx,_,_,rfl,c1,CC.c,CC.nl,rfl,ll,_,rfl,.inl (cS.of c6),rfl,_,rfl,?_⟩
  rw[ie]
  rcases hq with⟨rfl,hE⟩|⟨fi,S,rfl,hQ⟩
  ·exact ite_yes (aJ (by rw[lw];rfl)) ⟨dF,hE⟩
  rw[aK,aG] at lw
  refine ite_no (fun z=>?_) ?_
  ·have z':=aX z
   omega
  obtain⟨xP,v,rfl,c8',hv⟩:=fe c8
  refine⟨_,rfl,cb,C,dx,_,_,rfl,c1,CC.c,CC.ns,rfl,.inl ⟨rfl,_,cS.of c5⟩,_,rfl,cb,C,dx,_,_,rfl,c1,CC.c,CC.nl,rfl,.inl ⟨rfl,_,cS.of c6⟩,ll,_,v,rfl,rfl,c6,by simp,?_⟩
  rw[show(xP++ [v]).dropLast=xP by simp]
  have k1:∀b o,b≠ll->H b=some o->upd H ll (.lst xP) b=some o:=fun b o n e=>by rw[aV n];exact e
  have w1:upd H ll (.lst xP) ll=some (.lst xP):=az
  try dsimp only
  generalize upd H ll (.lst xP)=M1 at*
  have d5:=k1 _ _ c4.symm c5
  refine⟨sl,vs,v,rfl,rfl,d5,dq (by omega),?_⟩
  have tk:∀b xs,H b=some (.tup xs)->upd M1 sl (.lst (vs++ [v])) b=some (.tup xs):=fun b xs e=>by
   rw[aV (fun z=>by rw[z,c5] at e;cases e)]
   exact k1 _ _ (fun z=>by rw[z,c6] at e;cases e) e
  exact hQ _ (fun x o n1 n2 n3 e=>by rw[aV n2];exact k1 _ _ n3 e) ⟨dx,vs++ [v],xP,by rw[aV c2.symm];exact k1 _ _ c3.symm c1,c2,c3,c4,az,by rw[aV c4];exact w1,dN (au c7 fun _ _ z=>z.up tk) (hv.up tk),au c8' fun _ _ z=>z.up tk⟩
def Ee:bV ["self","number","crew","standing","following"] ["self","number"] (av Pj):={}
def Ye:List (Str×NameKind):=[(".0",.local),("told",.local),("number",.free)]
def Yf:(["told","number"]:List Str).Nodup:=by decide+kernel
def TY:(["other","piece"]:List Str).Nodup:=by decide+kernel
def ua (rows:Rows) (k:Int):Rows:=rows.filter fun x=>!decide ((x.1:Int)=k)
def yN (rows:Rows) (k:Int):Bool:=rows.any fun x=>decide ((x.1:Int)=k)
def IH (C CU:ah):Sp:=fun vs H Q E=>∃(cb sl ll:ah) (k:Int) (S:Cs) (sts cx:List Cs),vs=[.ref cb,.int k]/\eW C H cb sl ll (sts++ [S]) cx/\sts.length<=890/\S.rows.length<=90/\
 ((yN S.rows k=false/\∀H',a_ H H'->E (.ref CU) none H')\/(yN S.rows k=true/\
 ∀ph H',Ec cb sl ll H H'->H ph=none->eW C H' cb sl ph (sts++ [S]++ [⟨S.bo,ua S.rows k,S.n⟩]) []->Q .eA H'))
def ez {α β:Type}{R:α->β->Prop}:∀{as:List α}{bs:List β},Paired R as bs->∀(i:Nat) (h:i<bs.length),∃a,as[i]?=some a/\R a bs[i]
 |_,_,.nil,i,h=>by cases h
 |_,_,.cons h t,0,_=>⟨_,rfl,h⟩
 |_,_,.cons h t,i+1,hi=>by
  obtain⟨a,e,r⟩:=ez t i (by simpa using hi)
  exact⟨a,by simpa using e,by simpa using r⟩
def getD_some {us:List V}{i:Nat}{u:V}(h:us[i]?=some u):us.getD i .eA=u:=by rw[bf,h];rfl
def II {H1:Hp}{L a:ah}{us:List V}{rows:Rows}{Q:VK}(hL:H1 L=none) (h:H1 a=some (.tup us)) (pr:Paired (jE H1) us rows) (hl:rows.length<=1000) (q:∀J,a_ H1 J->J L=some (.lst (rows.map fun x=>V.int x.1))->Q (.ref L) J):
  pK (Dc K a) (Kh K 2 (nU (dU 0) (nU (dU 1) EK))) qd (cg 0) [none,none] H1 Q L:=by
 have lu:=bQ pr
 refine kO (n:=us.length) (f:=fun i=>us.getD i .eA) (fun j ys bW J=>(∃v v',bW=[v,v'])/\a_ H1 J/\ys=(rows.take j).map fun x=>V.int x.1) hL (by omega) ⟨⟨_,_,rfl⟩,bP (a_.refl _) hL,rfl⟩ (fun j ys bW J hj hy ⟨_,sj,_⟩=>kq (K:=K) (bY.of (sj _ _ h)) j hj) ?_ ?_
 ·rintro j ys bW J hj hy ⟨⟨v,v',rfl⟩,sj,rfl⟩
  have qD:j<rows.length:=by omega
  obtain⟨u,eu,b,r,rfl,e1,_⟩:=ez pr j qD
  rw[getD_some eu]
  refine⟨b,_,rfl,bY.of (sj _ _ e1),rfl,_,_,rfl,_,_,rfl,rfl,_,rfl,hy,⟨_,_,rfl⟩,bP sj hL,?_⟩
  rw[fQ qD,bE];rfl
 ·rintro ys bW J hy ⟨_,sj,rfl⟩
  rw[lu,cZ] at hy
  exact q J sj hy
def uw {α:Type}(f:α->Bool) (l:List α) (x:α):(l++ [x]).filter f=if f x=true then l.filter f++ [x] else l.filter f:=by
 rw[kj]
 by_cases h:f x=true
 ·rw[aP h,rQ h];rfl
 ·rw[aO h,rR h];simp
def FP {H1:Hp}{L a:ah}{us:List V}{rows:Rows}{k:Int}{Q:VK}(v:Option V) (hL:H1 L=none) (h:H1 a=some (.tup us)) (pr:Paired (jE H1) us rows) (hl:rows.length<=1000)
  (q:∀ys J,a_ H1 J->J L=some (.lst ys)->Paired (jE J) ys (ua rows k)->Q (.ref L) J):
  pK (Dc K a) (dU 0) (gj (gI Kk (gI (fZ K) (cg 0) (tC (.int 0))) (cg 1))) (cg 0) [v,some (.int k)] H1 Q L:=by
 have lu:=bQ pr
 refine lD (n:=us.length) (f:=fun i=>us.getD i .eA) (fun j ys bW J=>(∃v,bW=[v,some (.int k)])/\a_ H1 J/\Paired (jE J) ys (ua (rows.take j) k)) hL (by omega) ⟨⟨_,rfl⟩,bP (a_.refl _) hL,.nil⟩ (fun j ys bW J hj hy ⟨_,sj,_⟩=>kq (K:=K) (bY.of (sj _ _ h)) j hj) ?_ ?_
 ·rintro j ys bW J hj hy ⟨⟨v,rfl⟩,sj,pj⟩
  have qD:j<rows.length:=by omega
  obtain⟨u,eu,b,r,rfl,e1,e2⟩:=ez pr j qD
  rw[getD_some eu]
  refine⟨_,rfl,b,_,0,_,rfl,rfl,bY.of (sj _ _ e1),aT (j:=0) rfl,_,rfl,rfl,_,rfl,?_⟩
  unfold ua at*
  rw[ie,fQ qD,uw]
  by_cases e:(rows[j].1:Int)=k
  ·refine ite_no (by simp[e]) ?_
   refine⟨hy,⟨_,rfl⟩,sj,?_⟩
   rw[aO (by simp[e])]
   exact pj
  ·refine ite_yes (by simp[e]) ?_
   have AA:∀c xs,J c=some (.tup xs)->upd J L (.lst (ys++ [.ref b])) c=some (.tup xs):=fun c xs e=>by rw[aV (fun z=>by rw[z,hy] at e;cases e)];exact e
   refine⟨_,rfl,hy,⟨_,rfl⟩,bP sj hL,?_⟩
   rw[aP (by simp[e])]
   exact dN (au pj fun _ _ z=>z.up AA) ⟨b,r,rfl,AA _ _ (sj _ _ e1),e2.up fun c xs e=>AA _ _ (sj _ _ e)⟩
 ·rintro ys bW J hy ⟨_,sj,pj⟩
  rw[lu,cZ] at pj
  exact q ys J sj hy pj
def Ls {k:Int}(ns:Rows):G0 (.int k) (ns.map fun x=>V.int x.1)=yN ns k:=by
 unfold G0 yN
 rw[RC]
 congr 1
def FQ (ns:Rows):(ns.map fun x=>V.int x.1).all pO=true:=by
 rw[me]
 intro v hv
 obtain⟨x,_,rfl⟩:=cO.mp hv
 rfl
def Pq {f:ah}{fd:FuncData}{C CU:ah}(F:iV K "strike" "Club.strike" Pj f fd) (CC:Gs K C) (OU:sh K mg "NoNumber" CU) (DE:yH P w K mg base 1 C "enter" ["self","crew","standing","following"] (mU C)):dO P w K mg base (qC P w) 2 f fd ["self","number"] (IH C CU):=by
 refine F.Lb Ee (fun vs H Q E h=>?_) (fun cdv A outer s H vs Q E hr h=>?_)
 ·obtain⟨cb,sl,ll,k,S,sts,cx,rfl,_⟩:=h
  rfl
 ·obtain⟨cb,sl,ll,k,S,sts,cx,rfl,hC,VD,Yg,hq⟩:=h
  refine⟨_,ar (iD (bg cU (jj (pv 0) rfl) (pN lR ao)) (fW rfl (bz (aZ (i:=2) Ee.nd) (bz (aZ (i:=3) Ee.nd) (bz (aZ (i:=4) Ee.nd) eV)))))
   (ar (cN (br gJ (pv 1) (ke (N:=["other","piece"]) (g:=Kh K 2 (nU (dU 0) (nU (dU 1) EK))) (tc:=qd) (te:=cg 0) rfl (h_ (pv 3)) (fk.closed rfl)
    (fun _ _ _=>fW rfl (bz (aZ (i:=0) TY) (bz (aZ (i:=1) TY) eV))) (fun _ _ _=>iK) (fun _ _ _=>pv 0)) rfl) (aE (gR (W:=fun cls dW _ H'=>E cls dW H') js rfl rfl OU rfl (ae aW aj))) bL)
   (aE (gs (Ay DE hr (pv 0) (ae (pv 2) (ae (ke (N:=["told","number"]) (g:=dU 0) (tc:=gj (gI Kk (gI (fZ K) (cg 0) (tC (.int 0))) (cg 1))) (te:=cg 0) rfl (h_ (pv 3))
    (fk.one (v:="told") (fr:="number") (j:=1) (nm:=Ye) rfl rfl rfl rfl)
    (fun _ _ _=>aZ (i:=0) Yf) (fun _ _ _=>hV (br ml (bg bx (pv 0) ao) (pv 1) (bN _))) (fun _ _ _=>pv 0)) (ae (pv 4) aj))))))),?_⟩
  obtain⟨dx,vs,ws,c1,c2,c3,c4,c5,c6,c7,c8⟩:=id hC
  obtain⟨Ed,_,rfl,FN,st,cr,sd,qo,us,rfl,e1,e2,uW,e3,e4⟩:=fe c7
  have Rk:=bQ e4
  refine⟨_,rfl,cb,C,dx,_,_,rfl,c1,CC.c,CC.ns,rfl,1,rfl,sl,_,-1,.ref st,rfl,rfl,cS.of c5,kK _ _,st,_,rfl,bY.of e1,rfl,_,_,rfl,_,_,rfl,_,_,rfl,rfl,?_⟩
  refine⟨_,rfl,_,rfl,sd,rfl,⟨_,bY.of e3⟩,fun L hL=>?_⟩
  refine II hL e3 e4 (by omega) fun J sJ hJ=>?_
  refine⟨L,_,rfl,.inl (cS.of hJ),rfl,FQ S.rows,_,rfl,?_⟩
  rw[Ls]
  rcases hq with⟨no,hE⟩|⟨yes,hQ⟩
  ·rw[no]
   exact ite_yes (by decide) ⟨dF,hE J sJ⟩
  rw[yes]
  refine ite_no (by decide) ?_
  refine⟨_,rfl,cb,dx,_,rfl,sJ _ _ c1,rfl,_,rfl,_,rfl,sd,rfl,⟨_,bY.of (sJ _ _ e3)⟩,fun L2 zu=>?_⟩
  refine FP none zu (sJ _ _ e3) (au e4 fun _ _ z=>z.up fun b xs e=>sJ _ _ e) (by omega) fun ys J2 s2 Pr TZ=>?_
  have zz:=sJ.trans s2
  refine⟨_,rfl,cb,sl,ll,cr,L2,qo,ys,S.n,S.bo,_,sts++ [S],cx,rfl,hC.same zz,by rw[aK,aG];omega,.inl (zz _ _ e2),au uW fun _ _ q=>q.up fun b xs e=>zz _ _ e,.inr Pr,TZ,fun ph H' k' f' C'=>?_⟩
  exact hQ ph H' (fun b o n1 n2 n3 e=>k' _ _ n1 n2 n3 (zz _ _ e)) (cJ zz f') C'
def Pt:bV ["self"] ["self"] (av IE):={}
def vR (C:ah):Sp:=fun vs H Q _=>∃(cb sl ll:ah) (S:Cs) (sts cx:List Cs),vs=[.ref cb]/\eW C H cb sl ll (sts++ [S]) cx/\∀l us,H l=none->Paired (fU H) us S.bo->Q (.ref l) (upd H l (.lst us))
def Lu {f:ah}{fd:FuncData}{C:ah}(F:iV K "rowers" "Club.rowers" IE f fd) (T:Txt mg) (CC:Gs K C):dO P w K mg base fO 1 f fd ["self"] (vR C):=by
 refine F.ok Pt (fun vs H Q E h=>?_) (fun cdv A outer s H vs Q E hr h=>?_)
 ·obtain⟨cb,sl,ll,S,sts,cx,rfl,_⟩:=h
  rfl
 ·obtain⟨cb,sl,ll,S,sts,cx,rfl,hC,hQ⟩:=h
  refine⟨_,aE (bF (fE mM rfl T.list tS (ae (bg bx (bg cU (jj (pv 0) rfl) (pN lR ao)) ao) aj))),?_⟩
  obtain⟨dx,vs,ws,c1,c2,c3,c4,c5,c6,c7,c8⟩:=id hC
  obtain⟨Ed,_,rfl,FN,st,cr,sd,qo,us,rfl,e1,e2,uW,e3,e4⟩:=fe c7
  exact⟨_,rfl,cb,C,dx,_,_,rfl,c1,CC.c,CC.ns,rfl,1,rfl,sl,_,-1,.ref st,rfl,rfl,cS.of c5,kK _ _,st,_,0,_,rfl,rfl,bY.of e1,aT (j:=0) rfl,cr,qo,rfl,.inr (bY.of e2),fun l hl=>hQ l qo hl uW⟩
def T4:bV ["self"] ["self"] (av Pk):={}
def AB (C:ah):Sp:=fun vs H Q _=>∃(cb sl ll:ah) (S:Cs) (sts cx:List Cs),vs=[.ref cb]/\eW C H cb sl ll (sts++ [S]) cx/\∀l us,H l=none->Paired (jE H) us S.rows->Q (.ref l) (upd H l (.lst us))
def Pu {f:ah}{fd:FuncData}{C:ah}(F:iV K "pieces" "Club.pieces" Pk f fd) (T:Txt mg) (CC:Gs K C):dO P w K mg base fO 1 f fd ["self"] (AB C):=by
 refine F.ok T4 (fun vs H Q E h=>?_) (fun cdv A outer s H vs Q E hr h=>?_)
 ·obtain⟨cb,sl,ll,S,sts,cx,rfl,_⟩:=h
  rfl
 ·obtain⟨cb,sl,ll,S,sts,cx,rfl,hC,hQ⟩:=h
  refine⟨_,aE (bF (fE mM rfl T.list tS (ae (bg bx (bg cU (jj (pv 0) rfl) (pN lR ao)) ao) aj))),?_⟩
  obtain⟨dx,vs,ws,c1,c2,c3,c4,c5,c6,c7,c8⟩:=id hC
  obtain⟨Ed,_,rfl,FN,st,cr,sd,qo,us,rfl,e1,e2,uW,e3,e4⟩:=fe c7
  exact⟨_,rfl,cb,C,dx,_,_,rfl,c1,CC.c,CC.ns,rfl,1,rfl,sl,_,-1,.ref st,rfl,rfl,cS.of c5,kK _ _,st,_,1,_,rfl,rfl,bY.of e1,aT (j:=1) rfl,sd,us,rfl,.inr (bY.of e3),fun l hl=>hQ l us hl e4⟩
end
open Classical in
noncomputable def vS (p q:jO):Option Ea:=if h:∃m y,Xp p q m y then some (oC p q h.choose h.choose_spec.choose) else none
def AD {p q:jO}{r:Option Ea}(P:f_ p) (h:Told p q r):r=vS p q:=by
 refine h.uniq P ?_
 unfold vS
 split
 ·rename_i h
  exact .inl ⟨_,_,h.choose_spec.choose_spec,rfl⟩
 ·rename_i h
  exact .inr ⟨fun m y x=>h ⟨m,y,x⟩,rfl⟩
abbrev Row3:=Nat×Nat×Ea
def yO (i j:Nat):Option Ea->List Row3
 |none=>[]
 |some t=>[(i,j,t)]
noncomputable def FR (x:Nat×jO):Rows->List Row3
 | []=>[]
 |y::ys=>yO x.1 y.1 (vS x.2 y.2)++FR x ys
noncomputable def ub:Rows->List Row3
 | []=>[]
 |x::xs=>FR x xs++ub xs
def nj (H:Hp) (v:V) (r:Row3):Prop:=∃a q,v=.ref a/\H a=some (.tup [.int r.1,.int r.2.1,.ref q])/\yG H q r.2.2
def yG.up {H H':Hp}{q:ah}{r:Ea}(h:yG H q r) (s:∀b xs,H b=some (.tup xs)->H' b=some (.tup xs)):yG H' q r:=by
 obtain⟨l,h1,h2⟩:=h
 exact⟨l,s _ _ h1,s _ _ h2⟩
def nj.up {H H':Hp}{v:V}{r:Row3}(h:nj H v r) (s:∀b xs,H b=some (.tup xs)->H' b=some (.tup xs)):nj H' v r:=by
 obtain⟨a,q,h1,h2,h3⟩:=h
 exact⟨a,q,h1,s _ _ h2,h3.up s⟩
section
variable {P:aF}{w:ba}{K:Frag}{mg:Str->Option af}{base:Heap}
def rm:bV ["self","found","standing","at","one","piece","other","later","trial"] ["self"] (av Pl):={}
def Ef (C:ah):Sp:=fun vs H Q _=>∃(cb sl ll:ah) (rows:Rows) (S:Cs) (sts cx:List Cs),vs=[.ref cb]/\eW C H cb sl ll (sts++ [S]) cx/\S.rows=rows/\(∀x∈rows,ig x.2/\f_ x.2)/\rows.length<=31/\
 ∀l ws H',H l=none->a_ H H'->H' l=some (.lst ws)->Paired (nj H') ws (ub rows)->Q (.ref l) H'
def Pw {f:ah}{fd:FuncData}{C:ah}(F:iV K "trials" "Club.trials" Pl f fd) (T:Txt mg) (DP:yH P w K mg base 1 C "pieces" ["self"] (AB C)) (DT:Df P w K mg base 4 "trial_or_none" ["one","other"] TL):dO P w K mg base fO 5 f fd ["self"] (Ef C):=by
 refine F.ok rm (fun vs H Q E h=>?_) (fun cdv A outer s H vs Q E hr h=>?_)
 ·obtain⟨cb,sl,ll,rows,S,sts,cx,rfl,_⟩:=h
  rfl
 ·obtain⟨cb,sl,ll,_,S,sts,cx,rfl,hC,rfl,eE,l30,hQ⟩:=h
  obtain⟨rows,MQ⟩:∃rows,rows=S.rows:=⟨_,rfl⟩
  rw[<-MQ] at eE l30 hQ
  have Az:=hr.mono (j:=1) (by decide)
  refine⟨_,ar (jX (i:=1) rm.nd (cW aj))
   (ar (jX (i:=2) rm.nd (oM DP Az (pv 0)))
   (ar (lN eR rfl (zX rfl T.enum (ae (pv 2) aj)) (fW rfl (bz (aZ (i:=3) rm.nd) (bz (fW rfl (bz (aZ (i:=4) rm.nd) (bz (aZ (i:=5) rm.nd) eV))) eV)))
    (aE (lN eR rfl (jh (gQ oZ (pv 2) (iu (bR fX (pv 3) ao)) jk)) (fW rfl (bz (aZ (i:=6) rm.nd) (bz (aZ (i:=7) rm.nd) eV)))
     (ar (jX (i:=8) rm.nd (cB DT hr (ae (pv 5) (ae (pv 7) aj))))
     (aE (cN (br Dj (pv 8) iT (bN _)) (aE (gs (pP cw d_ ef gw (pv 1) (ae (bO (ae (pv 4) (ae (pv 6) (ae (pv 8) aj)))) aj)))) bL))))))
   (aE (bF (pv 1))))),?_⟩
  obtain⟨dx,ZW,qo,c1,_⟩:=id hC
  refine⟨dF,fun l hl=>?_⟩
  exists hl,.lst [],H,l,s1,w1,M1
  refine⟨_,rfl,cb,dx,_,rfl,s1 _ _ c1,rfl,cb,sl,ll,S,sts,cx,rfl,hC.same s1,fun l2 us nK Rl=>?_⟩
  rw[<-MQ] at Rl
  have s2:=aN nK (.lst us)
  have w2:upd M1 l2 (.lst us) l2=some (.lst us):=az
  have Lo:=s2 _ _ w1
  have Px:l2≠l:=fun z=>by rw[z,w1] at nK;cases nK
  try dsimp only
  generalize upd M1 l2 (.lst us)=M2 at*
  have jc:=s1.trans s2
  have T6:Paired (jE M2) us rows:=au Rl fun _ _ z=>z.up fun b xs e=>s2 _ _ e
  have Rk:=bQ Rl
  refine⟨_,rfl,l2,rfl,⟨_,cS.of w2⟩,xE (K:=K) (a:=l2) (xs:=us) (fun i bW H'=>∃(v3 v4 v5 v6 v7 v8:Option V) (ws:List V) (L:List Row3),bW=[some (.ref cb),some (.ref l),some (.ref l2),v3,v4,v5,v6,v7,v8]/\dY l M2 H'/\H' l=some (.lst ws)/\Paired (nj H') ws L/\L++ub (rows.drop i)=ub rows/\L.length<=31*i)
   ⟨_,_,_,_,_,_,[],[],rfl,dY.refl _ _,Lo,.nil,rfl,by simp⟩ (fun i bW H' _ h=>by obtain⟨_,_,_,_,_,_,_,_,_,kp,_⟩:=h;exact cS.of (kp _ _ Px w2)) ?_ ?_⟩
  ·rintro i x bW H' T hx ⟨v3,v4,v5,v6,v7,v8,ws,L,rfl,kp,hL,pr,eL,lL⟩ hT
   have hiu:i<us.length:=(bw.mp hx).1
   have hi:i<rows.length:=by omega
   obtain⟨_,hu,u,r,rfl,Ob,Yh⟩:=ez T6 i hi
   rw[hu] at hx
   cases hx
   have tk:∀{b xs},M2 b=some (.tup xs)->H' b=some (.tup xs):=fun{b xs} e=>kp _ _ (fun z=>by rw[z,Lo] at e;cases e) e
   exists hT,.tup [.int i,.ref u],H',T,sT,wT,M3
   have k3:dY l M2 M3:=kp.trans sT.keep
   have dp:rows.drop i=rows[i]::rows.drop (i+1):=jH hi
   have Py:=eE rows[i] (cA hi)
   refine⟨T,_,rfl,bY.of wT,rfl,_,_,rfl,_,_,rfl,u,_,rfl,bY.of (sT _ _ (tk Ob)),rfl,_,_,rfl,_,_,rfl,rfl,rfl,?_⟩
   refine⟨_,rfl,_,rfl,_,_,rfl,rfl,_,rfl,l2,us,rfl,cS.of (k3 _ _ Px w2),fun q hq=>?_⟩
   have Pz:iU us (some ((i:Int)+1)) none=us.drop (i+1):=by
    unfold iU
    rw[show((i:Int)+1)=((i+1:Nat):Int) by omega,HT.lh,HT.qQ,show min (i+1) us.length=i+1 by omega,cX (by simp)]
   rw[Pz]
   have sq:=aN hq (.lst (us.drop (i+1)))
   have wq:upd M3 q (.lst (us.drop (i+1))) q=some (.lst (us.drop (i+1))):=az
   have nq:q≠l:=fun z=>by rw[z,sT _ _ hL] at hq;cases hq
   generalize upd M3 q (.lst (us.drop (i+1)))=M4 at*
   have T_:=sT.trans sq
   refine⟨q,rfl,⟨_,cS.of wq⟩,nW (K:=K) (a:=q) (xs:=us.drop (i+1)) (fun m bW H'=>∃(v6 v7 v8:Option V) (ws:List V) (L:List Row3),bW=[some (.ref cb),some (.ref l),some (.ref l2),some (.int i),some (.int rows[i].1),some (.ref r),v6,v7,v8]/\dY l M4 H'/\H' l=some (.lst ws)/\Paired (nj H') ws L/\(L++FR rows[i] ((rows.drop (i+1)).drop m))++ub (rows.drop (i+1))=ub rows/\L.length<=31*i+m)
    ⟨_,_,_,ws,L,rfl,dY.refl _ _,T_ _ _ hL,au pr fun a b h=>h.up fun b xs e=>T_ _ _ e,by rw[dp] at eL;show(L++FR rows[i] (rows.drop (i+1)))++_=_;rw[gS];exact eL,by omega⟩ (fun m bW H' _ h=>by obtain⟨_,_,_,_,_,_,BN,_⟩:=h;exact cS.of (BN _ _ nq wq)) ?_ ?_⟩
   ·rintro m x bW H5 hx ⟨w6,w7,w8,Cy,L5,rfl,k5,IJ,Lv,e5,l5⟩
    rw[List.getElem?_drop] at hx
    have hju:i+1+m<us.length:=(bw.mp hx).1
    have hj:i+1+m<rows.length:=by omega
    obtain⟨_,PB,u',r',rfl,PD,PF⟩:=ez T6 (i+1+m) hj
    rw[PB] at hx
    cases hx
    have JU:∀b xs,M2 b=some (.tup xs)->H5 b=some (.tup xs):=fun b xs e=>k5 _ _ (fun z=>by rw[z,Lo] at e;cases e) (sq _ _ (sT _ _ (tk e)))
    refine⟨u',_,rfl,bY.of (JU _ _ PD),rfl,_,_,rfl,_,_,rfl,rfl,?_⟩
    have VE:=eE rows[i+1+m] (cA hj)
    refine⟨_,rfl,_,rfl,r,r',rows[i].2,rows[i+1+m].2,rfl,Yh.up JU,PF.up JU,Py.1,VE.1,Py.2,fun v rr H6 s6 td dv=>?_⟩
    have er:=AD Py.2 td
    have dd:(rows.drop (i+1)).drop m=rows[i+1+m]::(rows.drop (i+1)).drop (m+1):=by
     rw[wx,wx,show i+1+(m+1)=(i+1+m)+1 by omega]
     exact jH hj
    rw[dd] at e5
    have PH:((L5++yO rows[i].1 rows[i+1+m].1 rr)++FR rows[i] ((rows.drop (i+1)).drop (m+1)))++ub (rows.drop (i+1))=ub rows:=by
     rw[<-e5,er,gS L5];rfl
    refine⟨_,rfl,rfl,_,rfl,?_⟩
    have Ua:Paired (nj H6) Cy L5:=au Lv fun a b h=>h.up fun b xs e=>s6 _ _ e
    have k6:dY l M4 H6:=k5.trans s6.keep
    cases rr with
    |none=>
     have:v=.eA:=dv
     subst this
     refine ite_no (by decide) ?_
     exact⟨_,_,_,Cy,L5,rfl,k6,s6 _ _ IJ,Ua,by rw[show yO rows[i].1 rows[i+1+m].1 none=[] from rfl,eJ] at PH;exact PH,by omega⟩
    |some t=>
     obtain⟨y,rfl,ty⟩:=dv
     refine ite_yes (by rw[bC (by simp)];rfl) ?_
     refine⟨_,rfl,.inl ⟨rfl,_,cS.of (s6 _ _ IJ)⟩,_,rfl,_,rfl,_,rfl,dF,fun a ha=>?_⟩
     have sa:=aN ha (.tup [.int rows[i].1,.int rows[i+1+m].1,.ref y])
     have wa:upd H6 a (.tup [.int rows[i].1,.int rows[i+1+m].1,.ref y]) a=some (.tup [.int rows[i].1,.int rows[i+1+m].1,.ref y]):=az
     have Ub:=sa _ _ (s6 _ _ IJ)
     generalize upd H6 a (.tup [.int rows[i].1,.int rows[i+1+m].1,.ref y])=H7 at*
     have l5':=oW Lv
     refine⟨l,Cy,.ref a,rfl,rfl,Ub,dq (by omega),?_⟩
     have kt:∀b xs,H7 b=some (.tup xs)->upd H7 l (.lst (Cy++ [.ref a])) b=some (.tup xs):=fun b xs e=>by rw[aV (fun z=>by rw[z,Ub] at e;cases e)];exact e
     refine⟨_,_,_,Cy++ [.ref a],L5++ [(rows[i].1,rows[i+1+m].1,t)],rfl,fun b o n e=>by rw[aV n];exact sa _ _ (k6 _ _ n e),az,dN (au Ua fun a b h=>h.up fun b xs e=>kt _ _ (sa _ _ e)) ⟨a,y,rfl,kt _ _ wa,(ty.same sa).up kt⟩,PH,by rw[aK,aG];omega⟩
   ·rintro bW H5 ⟨w6,w7,w8,Cy,L5,rfl,k5,IJ,Lv,e5,l5⟩
    rw[show(rows.drop (i+1)).drop (us.drop (i+1)).length=[] from RH (by rw[dB,dB];omega)] at e5
    refine⟨_,_,_,_,_,_,Cy,L5,rfl,fun b o n e=>k5 _ _ n (sq _ _ (k3 _ _ n e)),IJ,Lv,by rw[show FR rows[i] []=[] from rfl,eJ] at e5;exact e5,by rw[dB] at l5;omega⟩
  ·rintro bW H' ⟨v3,v4,v5,v6,v7,v8,ws,L,rfl,kp,hL,pr,eL,lL⟩
   rw[Rk,List.drop_length,show ub []=[] from rfl,eJ] at eL
   subst eL
   refine⟨_,rfl,hQ l ws H' hl (fun b o e=>kp _ _ (fun z=>by rw[z,hl] at e;cases e) (jc _ _ e)) hL pr⟩
end
def fk.two {X:Cx}{scope:Scope}{nm:List (Str×NameKind)}{v fr fs:Str}{j k:Nat}(hN:X.N[j]?=some fr) (hM:X.N[k]?=some fs) (hk:scope.kind=.function) (hn:scope.names=nm) (h1:X.env.scope.names.lookup fr=some .cell) (h2:X.env.scope.names.lookup fs=some .cell) (c1:∀y∈nm,y.2≠.cell:=by decide+kernel)
  (c2:∀y∈nm,y.2=.local->nm.lookup y.1=some .local:=by decide+kernel) (c3:∀y∈nm,y.2=.free->y.1=fr\/y.1=fs:=by decide+kernel) (c4:(fr,NameKind.free)∈nm:=by decide+kernel) (c5:nm.lookup fr=some .free:=by decide+kernel) (c6:(fs,NameKind.free)∈nm:=by decide+kernel) (c7:nm.lookup fs=some .free:=by decide+kernel):fk X scope [v,fr,fs] [none,some j,some k] where
 kind:=hk
 qc:=by rw[hn];exact c1
 own:=by rw[hn];exact c2
 out:=by
  rw[hn]
  intro y hy e
  rcases c3 y hy e with z|z
  ·rw[z];exact .inl h1
  ·rw[z];exact .inl h2
 len:=rfl
 free:=by
  intro i j' x e1 e2
  rw[hn]
  match i,e1,e2 with
  |1,e1,e2=>cases e1;cases e2;exact⟨hN,c4,c5⟩
  |2,e1,e2=>cases e1;cases e2;exact⟨hM,c6,c7⟩
  |n+3,e1,e2=>simp at e1
def mz (l:List j0):List j0:=l.mergeSort fun a b=>!mS b a
def IK {a b:List j0}(ha:a.Pairwise fun e e'=>mS e' e=false) (hb:b.Pairwise fun e e'=>mS e' e=false) (p:a.Perm b):a=b:=
 Nt (fun x y _ _ h1 h2=>by
  by_cases e:x=y
  ·exact e
  ·rcases tw.Oq _ _ e with z|z
   ·rw[z] at h2;cases h2
   ·rw[z] at h1;cases h1) ha hb p
def MS {a b:j0}(h:mS a b=true):mS b a=false:=by
 cases e:mS b a with
 |false=>rfl
 |true=>have:=tw.trans _ _ _ h e;rw[tw.Q9] at this;cases this
def rn (l:List j0):(mz l).Pairwise fun e e'=>mS e' e=false:=by
 have:=List.pairwise_mergeSort (le:=fun a b:j0=>!mS b a) (fun a b c h1 h2=>by
  simp only[kU] at h1 h2⊢
  by_cases e1:a=b
  ·rw[e1];exact h2
  by_cases e2:b=c
  ·rw[<-e2];exact h1
  have g1:mS a b=true:=by rcases tw.Oq _ _ e1 with z|z;exact z;rw[z] at h1;cases h1
  have g2:mS b c=true:=by rcases tw.Oq _ _ e2 with z|z;exact z;rw[z] at h2;cases h2
  exact MS (tw.trans _ _ _ g1 g2)) (fun a b=>by
  cases e:mS b a with
  |false=>rfl
  |true=>rw[MS e];rfl) l
 exact this.imp fun h=>by simpa using h
def vT (l:List j0):(mz l).Perm l:=List.mergeSort_perm _ _
def vU {l l':List j0}(p:l'.Perm l) (s:l'.Pairwise fun e e'=>mS e' e=false):l'=mz l:=IK s (rn l) (p.trans (vT l).symm)
def yQ {H:Hp}:∀{ws:List V}{bo:List j0},Paired (fU H) ws bo->∃L:List (lY (Str×Str×Int)),ws=L.map (fun e=>V.ref e.a)/\L.map (·.key)=bo/\∀e∈L,TJ H e
 |_,_,.nil=>⟨[],rfl,rfl,fun _ h=>nomatch h⟩
 |_,_,.cons (b:=r) ⟨a,e1,e2⟩ t=>by
  obtain⟨L,h1,h2,h3⟩:=yQ t
  refine⟨⟨a,r.1,[.str r.2.1,.int r.2.2],r⟩::L,by rw[e1,h1];rfl,by rw[bH,h2],fun e he=>?_⟩
  rcases aC.mp he with rfl|he
  ·exact⟨rfl,rfl,e2⟩
  ·exact h3 e he
def yS {H:Hp}:∀{L:List (lY (Str×Str×Int))},(∀e∈L,TJ H e)->Paired (fU H) (L.map fun e=>V.ref e.a) (L.map (·.key))
 | [],_=>.nil
 |e::L,h=>.cons ⟨e.a,rfl,(h e (.head _)).2.2⟩ (yS fun x hx=>h x (.tail _ hx))
def lg.weak {X:Cx}{f:af->af->Sem af}{r r':R2}(h:lg X f r) (k:∀x y H Q,r' x y H Q->r x y H Q):lg X f r':=fun pins s σ H x y v u Q I rx ry q=>h pins s σ H x y v u Q I rx ry (k _ _ _ _ q)
def Uc:R2:=fun x y H Q=>∃a b xs ys,x=.ref a/\y=.ref b/\H a=some (.tup xs)/\H b=some (.tup ys)/\ys≠[]/\xs.length+ys.length<=1000/\∀M p,a_ H M->M p=some (.tup (xs++ys))->Q (.ref p) M
def Lx {X:Cx}:lg X (binaryOp .Add) Uc:=lg.weak Dw (by
 rintro x y H Q ⟨a,b,xs,ys,rfl,rfl,h1,h2,h3,h4,q⟩
 exact⟨a,b,xs,ys,rfl,rfl,bY.of h1,bY.of h2,h3,eM (dq h4),fun e=>q H b (a_.refl _) (by rw[e];exact h2),fun _ p hp=>q _ p (aN hp _) az⟩)
section
variable {P:aF}{w:ba}{K:Frag}{mg:Str->Option af}{base:Heap}
abbrev PJ:Stmt:=top 38
def Ud:bV ["crew"] ["crew"] (av PJ):={}
def Yi:(["rower"]:List Str).Nodup:=by decide+kernel
def fA (bo:List j0):List Str:=bo.map (·.1)
def Eg:Sp:=fun vs H Q _=>∃(cr:ah) (ws:List V) (bo:List j0),vs=[.ref cr]/\H cr=some (.tup ws)/\Paired (fU H) ws bo/\bo.length<=100/\∀L J,a_ H J->J L=some (.lst ((fA bo).map V.str))->Q (.ref L) J
def PK {f:ah}{fd:FuncData}(F:iV K "names_of" "names_of" PJ f fd):dO P w K mg base fO 1 f fd ["crew"] Eg:=by
 refine F.ok Ud (fun vs H Q E h=>?_) (fun cdv A outer s H vs Q E hr h=>?_)
 ·obtain⟨cr,ws,bo,rfl,_⟩:=h
  rfl
 ·obtain⟨cr,ws,bo,rfl,h1,h2,h3,q⟩:=h
  refine⟨_,aE (bF (ke (N:=["rower"]) (g:=dU 0) (tc:=qd) (te:=gI (fZ K) (cg 0) (tC (.int 0))) rfl (h_ (pv 0)) (fk.closed rfl)
   (fun _ _ _=>aZ (i:=0) Yi) (fun _ _ _=>iK) (fun _ _ _=>bg bx (pv 0) ao))),?_⟩
  have lu:=bQ h2
  refine⟨_,rfl,cr,rfl,⟨_,bY.of h1⟩,fun L hL=>?_⟩
  refine kO (n:=ws.length) (f:=fun i=>ws.getD i .eA) (fun j ys bW J=>(∃v,bW=[v])/\a_ H J/\ys=(fA (bo.take j)).map V.str) hL (by omega) ⟨⟨_,rfl⟩,bP (a_.refl _) hL,rfl⟩ (fun j ys bW J hj hy ⟨_,sj,_⟩=>kq (K:=K) (bY.of (sj _ _ h1)) j hj) ?_ ?_
  ·rintro j ys bW J hj hy ⟨⟨v,rfl⟩,sj,rfl⟩
   have qD:j<bo.length:=by omega
   obtain⟨u,eu,a,rfl,e1⟩:=ez h2 j qD
   rw[getD_some eu]
   refine⟨_,rfl,a,_,0,_,rfl,rfl,bY.of (sj _ _ e1),aT (j:=0) rfl,hy,⟨_,rfl⟩,bP sj hL,?_⟩
   unfold fA
   rw[fQ qD,bE,bE];rfl
  ·rintro ys bW J hy ⟨_,sj,rfl⟩
   rw[lu,cZ] at hy
   exact q L J sj hy
def rq (x:Str) (ns:List Str):G0 (.str x) (ns.map V.str)=decide (x∈ns):=by
 unfold G0
 rw[RC]
 induction ns with
 |nil=>rfl
 |cons a l ih=>
  rw[jU,ih]
  have:JR (V.str a) (.str x)=decide (a=x):=rfl
  show(JR (V.str a) (.str x)||_)=_
  rw[this]
  by_cases e:a=x
  ·subst e;simp
  ·have e':¬x=a:=fun z=>e z.symm
   simp[e,e']
def mB (ns:List Str):(ns.map V.str).all pO=true:=by
 rw[me]
 intro v hv
 obtain⟨x,_,rfl⟩:=cO.mp hv
 rfl
def Ly:bV ["self","name","crew","standing","following"] ["self","name"] (av X_):={}
def Yj:List (Str×NameKind):=[(".0",.local),("rower",.local),("name",.free)]
def Yk:(["rower","name"]:List Str).Nodup:=by decide+kernel
def mV (bo:List j0) (x:Str):List j0:=bo.filter fun r=>!decide (r.1=x)
def Lz {H1:Hp}{L a:ah}{us:List V}{bo:List j0}{x:Str}{Q:VK}(v:Option V) (hL:H1 L=none) (h:H1 a=some (.tup us)) (pr:Paired (fU H1) us bo) (hl:bo.length<=1000)
  (q:∀ys J,a_ H1 J->J L=some (.lst ys)->Paired (fU J) ys (mV bo x)->Q (.ref L) J):
  pK (Dc K a) (dU 0) (gj (gI Kk (gI (fZ K) (cg 0) (tC (.int 0))) (cg 1))) (cg 0) [v,some (.str x)] H1 Q L:=by
 have lu:=bQ pr
 refine lD (n:=us.length) (f:=fun i=>us.getD i .eA) (fun j ys bW J=>(∃v,bW=[v,some (.str x)])/\a_ H1 J/\Paired (fU J) ys (mV (bo.take j) x)) hL (by omega) ⟨⟨_,rfl⟩,bP (a_.refl _) hL,.nil⟩ (fun j ys bW J hj hy ⟨_,sj,_⟩=>kq (K:=K) (bY.of (sj _ _ h)) j hj) ?_ ?_
 ·rintro j ys bW J hj hy ⟨⟨v,rfl⟩,sj,pj⟩
  have qD:j<bo.length:=by omega
  obtain⟨u,eu,b,rfl,e1⟩:=ez pr j qD
  rw[getD_some eu]
  refine⟨_,rfl,b,_,0,_,rfl,rfl,bY.of (sj _ _ e1),aT (j:=0) rfl,_,rfl,rfl,_,rfl,?_⟩
  unfold mV at*
  rw[kP,fQ qD,uw]
  by_cases e:bo[j].1=x
  ·refine ite_no (by simp[e]) ?_
   refine⟨hy,⟨_,rfl⟩,sj,?_⟩
   rw[aO (by simp[e])]
   exact pj
  ·refine ite_yes (by simp[e]) ?_
   have AA:∀c xs,J c=some (.tup xs)->upd J L (.lst (ys++ [.ref b])) c=some (.tup xs):=fun c xs e=>by rw[aV (fun z=>by rw[z,hy] at e;cases e)];exact e
   refine⟨_,rfl,hy,⟨_,rfl⟩,bP sj hL,?_⟩
   rw[aP (by simp[e])]
   exact dN (au pj fun _ _ z=>z.up AA) ⟨b,rfl,AA _ _ (sj _ _ e1)⟩
 ·rintro ys bW J hy ⟨_,sj,pj⟩
  rw[lu,cZ] at pj
  exact q ys J sj hy pj
def PL (C CA:ah):Sp:=fun vs H Q E=>∃(cb sl ll:ah) (x:Str) (S:Cs) (sts cx:List Cs),vs=[.ref cb,.str x]/\eW C H cb sl ll (sts++ [S]) cx/\sts.length<=890/\S.bo.length<=90/\
 ((x∉fA S.bo/\∀H',a_ H H'->E (.ref CA) none H')\/(x∈fA S.bo/\
 ∀ph H',Ec cb sl ll H H'->H ph=none->eW C H' cb sl ph (sts++ [S]++ [⟨mV S.bo x,S.rows,S.n⟩]) []->Q .eA H'))
def Ue {f:ah}{fd:FuncData}{C CA:ah}(F:iV K "go" "Club.go" X_ f fd) (CC:Gs K C) (OA:sh K mg "NoName" CA) (DN:Df P w K mg base 1 "names_of" ["crew"] Eg) (DE:yH P w K mg base 1 C "enter" ["self","crew","standing","following"] (mU C)):dO P w K mg base (qC P w) 2 f fd ["self","name"] (PL C CA):=by
 refine F.Lb Ly (fun vs H Q E h=>?_) (fun cdv A outer s H vs Q E hr h=>?_)
 ·obtain⟨cb,sl,ll,x,S,sts,cx,rfl,_⟩:=h
  rfl
 ·obtain⟨cb,sl,ll,x,S,sts,cx,rfl,hC,VD,Yg,hq⟩:=h
  refine⟨_,ar (iD (bg cU (jj (pv 0) rfl) (pN lR ao)) (fW rfl (bz (aZ (i:=2) Ly.nd) (bz (aZ (i:=3) Ly.nd) (bz (aZ (i:=4) Ly.nd) eV)))))
   (ar (cN (br gJ (pv 1) (cB DN hr (ae (pv 2) aj)) rfl) (aE (gR (W:=fun cls dW _ H'=>E cls dW H') js rfl rfl OA rfl (ae aW aj))) bL)
   (aE (gs (Ay DE hr (pv 0) (ae (ke (N:=["rower","name"]) (g:=dU 0) (tc:=gj (gI Kk (gI (fZ K) (cg 0) (tC (.int 0))) (cg 1))) (te:=cg 0) rfl (h_ (pv 2))
    (fk.one (v:="rower") (fr:="name") (j:=1) (nm:=Yj) rfl rfl rfl rfl)
    (fun _ _ _=>aZ (i:=0) Yk) (fun _ _ _=>hV (br ml (bg bx (pv 0) ao) (pv 1) (bN _))) (fun _ _ _=>pv 0)) (ae (pv 3) (ae (pv 4) aj))))))),?_⟩
  obtain⟨dx,vs,ws,c1,c2,c3,c4,c5,c6,c7,c8⟩:=id hC
  obtain⟨Ed,_,rfl,FN,st,cr,sd,qo,us,rfl,e1,e2,uW,e3,e4⟩:=fe c7
  refine⟨_,rfl,cb,C,dx,_,_,rfl,c1,CC.c,CC.ns,rfl,1,rfl,sl,_,-1,.ref st,rfl,rfl,cS.of c5,kK _ _,st,_,rfl,bY.of e1,rfl,_,_,rfl,_,_,rfl,_,_,rfl,rfl,?_⟩
  refine⟨_,rfl,_,rfl,cr,qo,S.bo,rfl,e2,uW,by omega,fun L J sJ hJ=>?_⟩
  refine⟨L,_,rfl,.inl (cS.of hJ),rfl,mB _,_,rfl,?_⟩
  rw[rq]
  rcases hq with⟨no,hE⟩|⟨yes,hQ⟩
  ·rw[bC no]
   exact ite_yes (by decide) ⟨dF,hE J sJ⟩
  rw[aJ yes]
  refine ite_no (by decide) ?_
  refine⟨_,rfl,cb,dx,_,rfl,sJ _ _ c1,rfl,_,rfl,cr,rfl,⟨_,bY.of (sJ _ _ e2)⟩,fun L2 zu=>?_⟩
  refine Lz none zu (sJ _ _ e2) (au uW fun _ _ z=>z.up fun b xs e=>sJ _ _ e) (by omega) fun ys J2 s2 Pr TZ=>?_
  have zz:=sJ.trans s2
  refine⟨_,rfl,_,rfl,cb,sl,ll,L2,sd,ys,us,S.n,_,S.rows,sts++ [S],cx,rfl,hC.same zz,by rw[aK,aG];omega,.inr Pr,TZ,.inl (zz _ _ e3),au e4 fun _ _ q=>q.up fun b xs e=>zz _ _ e,fun ph H' k' f' C'=>?_⟩
  exact hQ ph H' (fun b o n1 n2 n3 e=>k' _ _ n1 n2 n3 (zz _ _ e)) (cJ zz f') C'
end
end K12
namespace L2
open PySem PySem.Spec PyProof.Rows PySem.W
def IL:List TE->Str->TE
 | [],acc=>fun σ H Q=>acc.length<=sizeLine/\Q (.str acc) H
 |t::ts,acc=>fun σ H Q=>t σ H fun x H1=>∃y,x=.str y/\(acc++y).length<=sizeLine/\IL ts (acc++y) σ H1 Q
def MT:V->Option Str
 | .int n=>if n.natAbs.log2<1920 then some (Str.ofString (toString n)) else none
 | .str x=>if x.length<=sizeLine then some x else none
 |_=>none
def Yl (te:TE):TE:=fun σ H Q=>te σ H fun x H1=>∃y,MT x=some y/\Q (.str y) H1
section
variable {X:Cx}
def AE {pins:List (ah×Obj)}{σ:St}{Q:VK}:∀{es:List Expr}{ts:List TE},Paired (PE X) es ts->∀(acc:Str) (H:Hp) (s:ai),Inv X pins σ H s->IL ts acc σ H Q->
  Joins (model X.prog X.w) X.A X.xe (evalEach es X.env) acc (fun out s1=>out.length<=sizeLine/\EP X pins σ Q (.str out s1.toks) {s1 with toks:=s1.toks+1}) s
 |_,_,.nil,acc,H,s,I,h=>⟨h.1,.str acc,H,I.tok _,⟨_,rfl⟩,h.2⟩
 |_,_,.cons p r,acc,H,s,I,h=>by
  refine e_ (p pins s σ H _ I h) fun u s1 ⟨x,H1,I1,rx,y,ex,hl,q⟩=>?_
  subst ex
  obtain⟨t,rfl⟩:=rx
  exact⟨y,t,rfl,hl,AE r _ H1 s1 I1 q⟩
def FT {e1 e2:Expr}{es:List Expr}{ts:List TE}{pos:Pos}(hp:Paired (PE X) (e1::e2::es) ts):PE X (.JoinedStr (e1::e2::es) pos) (IL ts Str.empty):=by
 intro pins s σ H Q I h
 exact wpAny_JoinedStr (AE hp _ H s I h)
def PM {e:Expr}{te:TE}{pos:Pos}(he:PE X e te):PE X (.FormattedValue e (-1) none pos) (Yl te):=by
 intro pins s σ H Q I h
 refine wpAny_FormattedValue_plain (e_ (he pins s σ H _ I h) fun u s1 ⟨x,H1,I1,rx,y,ey,q⟩=>?_)
 cases x with
 |int n=>
  obtain⟨t,rfl⟩:=rx
  replace ey:(if n.natAbs.log2<1920 then some (Str.ofString (toString n)) else none)=some y:=ey
  split at ey
  ·rename_i hl
   cases ey
   exact wpAny_formatField_int hl ⟨.str (Str.ofString (toString n)),H1,I1.tok _,⟨_,rfl⟩,q⟩
  ·cases ey
 |str z=>
  obtain⟨t,rfl⟩:=rx
  replace ey:(if z.length<=sizeLine then some z else none)=some y:=ey
  split at ey
  ·rename_i hl
   cases ey
   exact wpAny_formatField_str ⟨.str y,H1,I1,⟨_,rfl⟩,q⟩ ⟨.str y,H1,I1.tok _,⟨_,rfl⟩,q⟩ hl
  ·cases ey
 |_=>cases ey
end
structure MU (K:Frag) (R:ah):Prop where
 ga:specialIn K (.ref R) "__getattribute__"=some (some (.builtin "type.__getattribute__"))
 rd:readsIn K R (.type "type")=true
 fc:findCls K (.ref R) (.type "type") "__init__"=some (.val (.builtin "ValueError.__init__"))
def PN (K:Frag) (C fI:ah) (te tf:TE):TE:=fun σ H Q=>te σ H fun x H1=>tf σ H1 fun y H2=>∃a,x=.ref a/\H2 a=some (qm a (.ref C) none)/\Ar K C fI/\Q .eA H2
def IM {X:Cx}{x:Str}{R C fI:ah}{e f:Expr}{te tf:TE}{np apos pos:Pos}{pl:Sem Bool}(B:MU X.K R) (hg:Gl X x) (hm:X.mg x=some (.ref R)) (he:PE X e te) (hf:PE X f tf)
  (ht:eval (.Call (.Attribute (.Name x np) "__init__" apos) [e,f] [] pos) X.env=(do
   let ov<-eval (.Name x np) X.env
   standAt apos.atName
   let(f',first)<-holding [ov] (getMethod ov "__init__" pl)
   callWith pos f' first (backTo pos (starEach [e,f] X.env)) (backToKw pos (keywordEach [] X.env))):=by rfl)
  (htr:backTo pos (starEach [e,f] X.env)=[(false,eval e X.env),(false,eval f X.env)]:=by rfl) (pX:(x==("__debug__":Str))=false:=by decide):
  PE X (.Call (.Attribute (.Name x np) "__init__" apos) [e,f] [] pos) (PN X.K C fI te tf):=by
 intro pins s σ H Q I h
 refine gA (pl:=pl) (jg I hg hm ?_ pX) ht
 refine method_cls I.kC B.ga (cls_value I.kC B.rd B.fc rfl ?_)
 have J:=I.tok (s.toks+1)
 rw[htr]
 refine xS rfl (A6 (Gv (e_ (he pins _ σ H _ J h) fun u s1 ⟨v,H1,I1,rv,q1⟩=>Gv (e_ (hf pins s1 σ H1 _ I1 q1) fun u2 s2 ⟨y,H2,I2,ry,a,ev,ea,O,q2⟩=>Calls.spliced_nil ?_))))
 subst ev
 obtain rfl:u=Value.ref a:=rv
 obtain⟨tl,N,nm,q,bs,hdct,sn,sub,ab,col,dd,k0,k1,k2,k3,k5,mN,hC,hN,hi,T⟩:=O.own I2.kC
 obtain⟨⟨t0,h1⟩,_⟩:=I2.eE a _ ea
 obtain⟨hp,g,d,t,os⟩:=s2
 refine init_exc gz T hC h1 (by rw[aG,gP];omega) fun h' t1 g1 g2=>⟨.eA,H2,?_,rfl,q2⟩
 have:=I2.write (x:=a) (e:=a) (o:=qm a (.ref C) none) (h':=h') (t':=t) (by rw[ea];exact True.intro) (.inl rfl) (fun b u hb z=>g2 b u hb z) ⟨_,g1⟩ (yE g1)
 rwa[O9 ea] at this
end L2
namespace K12
open PySem L2 HT PySem.W
def PQ:Stmt:=match top 3 with
 | .ClassDef _ _ _ b _ _ _ _ _ _ _=>b.getD 0 (.Pass ⟨0,0,0,0⟩)
 |_=>.Pass ⟨0,0,0,0⟩
abbrev Ym:Stmt:=PQ
def Yn:bV ["self","many"] ["self","many"] (av Ym):={}
def AF {n:Nat}(h:n<=40320):MT (.int n)=some (Str.ofString (toString (n:Int)))/\(Str.ofString (toString (n:Int))).length<=10:=by
 have h1:(n:Int).natAbs<10^5:=by omega
 have e:=int_text_length_le10 (a:=(n:Int)) (k:=5) (by decide) h1
 refine⟨?_,?_⟩
 ·show(if(n:Int).natAbs.log2<1920 then _ else _)=_
  rw[aP]
  have:(n:Int).natAbs=n:=zx n
  rw[this]
  by_cases z:n=0
  ·rw[z];decide
  ·exact(Nat.log2_lt z).mpr (cR h (bT (by decide:40320<2^16) (Nat.pow_le_pow_right (by decide) (by decide))))
 ·rw[ofString_length];omega
section
variable {P:aF}{w:ba}{K:Frag}{mg:Str->Option af}{base:Heap}
def Ug (C:ah):Sp:=fun vs H Q _=>∃(a:ah) (n:Nat),vs=[.ref a,.int n]/\n<=40320/\H a=some (qm a (.ref C) none)/\∀d,H d=none->d≠a->Q .eA (upd (upd H d (.xd [("many",.int n)])) a (qm a (.ref C) (some d)))
def Uh {f:ah}{fd:FuncData}{C R:ah}(F:iV K "__init__" "TooMany.__init__" Ym f fd) (O:Ar K C f) (OW:O8 K C) (nm:ji K C "many") (B:MU K R) (mr:mg "RowError"=some (.ref R)):dO P w K mg base fO 1 f fd ["self","many"] (Ug C):=by
 refine F.ok Yn (fun vs H Q E h=>?_) (fun cdv A outer s H vs Q E hr h=>?_)
 ·obtain⟨a,n,rfl,_⟩:=h
  rfl
 ·obtain⟨a,n,rfl,hn,ha,q⟩:=h
  refine⟨_,ar (gs (IM (C:=C) (fI:=f) B rfl mr (pv 0) (FT (.cons aW (.cons (PM (pv 1)) .nil))))) (aE (Lh (pv 0) (pv 1) rfl)),?_⟩
  have l2:((Str.empty++"too many: ")++Str.ofString (toString (n:Int))).length<=sizeLine:=by
   have:=(AF hn).2
   rw[strLen_append,gP]
   have e:(Str.empty++("too many: ":Str)).length=10:=by decide+kernel
   omega
  exact⟨_,rfl,_,rfl,by rw[gP];decide+kernel,_,rfl,_,(AF hn).1,_,rfl,l2,l2,a,rfl,ha,O,_,rfl,_,rfl,a,C,rfl,ha,OW,nm,q⟩
end
def IP {H:Hp}{a d:ah}{o1 o2 o3:HO}(ha:H a=none) (hd:upd H a o1 d=none) (na:d≠a):a_ H (del (upd (upd (upd H a o1) d o2) a o3) a)/\H d=none/\del (upd (upd (upd H a o1) d o2) a o3) a d=some o2:=by
 rw[aV na] at hd
 refine⟨fun b o e=>?_,hd,?_⟩
 ·have n1:b≠a:=dj e ha
  have n2:b≠d:=dj e hd
  rw[oH n1,aV n1,aV n2,aV n1];exact e
 ·rw[oH na,aV na,az]
section
variable {P:aF}{w:ba}{K:Frag}{mg:Str->Option af}{base:Heap}
def rz:bV ["self","name","weight","crew","standing","following","weighed"] ["self","name","weight"] (av Cr):={}
def Yo:List (Str×NameKind):=[(".0",.local),("rower",.local),("name",.free),("weight",.free)]
def Yp:(["rower","name","weight"]:List Str).Nodup:=by decide+kernel
def xQ (x:Str) (i:Int) (r:j0):j0:=if r.1=x then(r.1,r.2.1,i) else r
def Ui (K:Frag):TE:=V7 (gj (gI Gh (gI (fZ K) (cg 0) (tC (.int 0))) (cg 1))) (nY (cC (gI (fZ K) (cg 0) (tC (.int 0))) (cC (gI (fZ K) (cg 0) (tC (.int 1))) (cC (cg 2) fD)))) (cg 0)
def LC {H1:Hp}{L a:ah}{us:List V}{bo:List j0}{x:Str}{i:Int}{Q:VK}(v:Option V) (hL:H1 L=none) (h:H1 a=some (.tup us)) (pr:Paired (fU H1) us bo) (hl:bo.length<=1000)
  (q:∀ys J,a_ H1 J->J L=some (.lst ys)->Paired (fU J) ys (bo.map (xQ x i))->Q (.ref L) J):
  pK (Dc K a) (dU 0) qd (Ui K) [v,some (.str x),some (.int i)] H1 Q L:=by
 have lu:=bQ pr
 refine kO (n:=us.length) (f:=fun i=>us.getD i .eA) (fun j ys bW J=>(∃v,bW=[v,some (.str x),some (.int i)])/\a_ H1 J/\Paired (fU J) ys ((bo.take j).map (xQ x i))) hL (by omega) ⟨⟨_,rfl⟩,bP (a_.refl _) hL,.nil⟩ (fun j ys bW J hj hy ⟨_,sj,_⟩=>kq (K:=K) (bY.of (sj _ _ h)) j hj) ?_ ?_
 ·rintro j ys bW J hj hy ⟨⟨v,rfl⟩,sj,pj⟩
  have qD:j<bo.length:=by omega
  obtain⟨u,eu,b,rfl,e1⟩:=ez pr j qD
  rw[getD_some eu]
  rw[fQ qD,bE]
  refine⟨_,rfl,b,_,0,_,rfl,rfl,bY.of (sj _ _ e1),aT (j:=0) rfl,_,rfl,rfl,_,rfl,?_⟩
  rw[kP]
  by_cases e:bo[j].1=x
  ·refine ite_yes (by simp[e]) ?_
   refine⟨_,rfl,b,_,0,_,rfl,rfl,bY.of (sj _ _ e1),aT (j:=0) rfl,_,rfl,b,_,1,_,rfl,rfl,bY.of (sj _ _ e1),aT (j:=1) rfl,_,rfl,dF,fun t ht=>?_⟩
   have AA:∀c xs,J c=some (.tup xs)->upd (upd J t (.tup [.str bo[j].1,.str bo[j].2.1,.int i])) L (.lst (ys++ [.ref t])) c=some (.tup xs):=fun c xs e=>by
    rw[aV (fun z=>by rw[z,hy] at e;cases e),aV (fun z=>by rw[z,ht] at e;cases e)];exact e
   have ntL:t≠L:=fun z=>by rw[z,hy] at ht;cases ht
   refine⟨by rw[aV (cF ntL)];exact hy,⟨_,rfl⟩,bP (bP sj (cJ sj ht)) hL,?_⟩
   refine dN (au pj fun _ _ z=>z.up AA) ⟨t,rfl,?_⟩
   rw[aV ntL,az]
   unfold xQ
   rw[aP e]
  ·refine ite_no (by simp[e]) ?_
   have AA:∀c xs,J c=some (.tup xs)->upd J L (.lst (ys++ [.ref b])) c=some (.tup xs):=fun c xs e=>by rw[aV (fun z=>by rw[z,hy] at e;cases e)];exact e
   refine⟨_,rfl,hy,⟨_,rfl⟩,bP sj hL,?_⟩
   refine dN (au pj fun _ _ z=>z.up AA) ⟨b,rfl,?_⟩
   unfold xQ
   rw[aO e]
   exact AA _ _ (sj _ _ e1)
 ·rintro ys bW J hy ⟨_,sj,pj⟩
  rw[lu,cZ] at pj
  exact q ys J sj hy pj
def yV (C CA CR:ah):Sp:=fun vs H Q E=>∃(cb sl ll k:ah) (x:Str) (v:V) (d:PyData) (S:Cs) (sts cx:List Cs),vs=[.ref cb,.str x,v]/\eW C H cb sl ll (sts++ [S]) cx/\sts.length<=890/\S.bo.length<=90/\Tells H k d v/\qX d/\
 ((x∉fA S.bo/\∀H',a_ H H'->E (.ref CA) none H')\/(x∈fA S.bo/\eI d=false/\∀H',a_ H H'->E (.ref CR) none H')\/(x∈fA S.bo/\eI d=true/\∃i,v=.int i/\
 ∀ph H',Ec cb sl ll H H'->H ph=none->eW C H' cb sl ph (sts++ [S]++ [⟨S.bo.map (xQ x i),S.rows,S.n⟩]) []->Q .eA H'))
def IQ {f:ah}{fd:FuncData}{C CA CR:ah}(F:iV K "weigh" "Club.weigh" Cr f fd) (CC:Gs K C) (OA:sh K mg "NoName" CA) (OR:sh K mg "NoRower" CR) (DN:Df P w K mg base 1 "names_of" ["crew"] Eg) (DW:Df P w K mg base 2 "is_weight" ["thing"] (wR eI)) (DE:yH P w K mg base 1 C "enter" ["self","crew","standing","following"] (mU C)):dO P w K mg base (qC P w) 3 f fd ["self","name","weight"] (yV C CA CR):=by
 refine F.Lb rz (fun vs H Q E h=>?_) (fun cdv A outer s H vs Q E hr h=>?_)
 ·obtain⟨cb,sl,ll,k,x,v,d,S,sts,cx,rfl,_⟩:=h
  rfl
 ·obtain⟨cb,sl,ll,k,x,v,d,S,sts,cx,rfl,hC,VD,Yg,tl,zT,hq⟩:=h
  have Az:=hr.mono (j:=1) (by decide)
  refine⟨_,ar (iD (bg cU (jj (pv 0) rfl) (pN lR ao)) (fW rfl (bz (aZ (i:=3) rz.nd) (bz (aZ (i:=4) rz.nd) (bz (aZ (i:=5) rz.nd) eV)))))
   (ar (cN (br gJ (pv 1) (cB DN Az (ae (pv 3) aj)) rfl) (aE (gR (W:=fun cls dW _ H'=>E cls dW H') js rfl rfl OA rfl (ae aW aj))) bL)
   (ar (cN (fJ (fG (cB DW hr (ae (pv 2) aj)))) (aE (gR (W:=fun cls dW _ H'=>E cls dW H') js rfl rfl OR rfl (ae aW aj))) bL)
   (ar (jn (i0:=6) (N:=["rower","name","weight"]) (g:=dU 0) (tc:=qd) (te:=Ui K) rz.nd rfl (Or.inl rfl) rfl (h_ (pv 3))
    (fk.two (v:="rower") (fr:="name") (fs:="weight") (j:=1) (k:=2) (nm:=Yo) rfl rfl rfl rfl rfl rfl)
    (fun _ _ _=>aZ (i:=0) Yp) (fun _ _ _=>iK)
    (fun _ _ _=>nS (br hU (bg bx (pv 0) ao) (pv 1) (bN _)) (bO (ae (bg bx (pv 0) ao) (ae (bg bx (pv 0) ao) (ae (pv 2) aj)))) (pv 0)))
   (aE (gs (Ay DE Az (pv 0) (ae (pv 6) (ae (pv 4) (ae (pv 5) aj))))))))),?_⟩
  obtain⟨dx,vs,ws,c1,c2,c3,c4,c5,c6,c7,c8⟩:=id hC
  obtain⟨Ed,_,rfl,FN,st,cr,sd,qo,us,rfl,e1,e2,uW,e3,e4⟩:=fe c7
  refine⟨_,rfl,cb,C,dx,_,_,rfl,c1,CC.c,CC.ns,rfl,1,rfl,sl,_,-1,.ref st,rfl,rfl,cS.of c5,kK _ _,st,_,rfl,bY.of e1,rfl,_,_,rfl,_,_,rfl,_,_,rfl,rfl,?_⟩
  refine⟨_,rfl,_,rfl,cr,qo,S.bo,rfl,e2,uW,by omega,fun L J sJ hJ=>?_⟩
  refine⟨L,_,rfl,.inl (cS.of hJ),rfl,mB _,_,rfl,?_⟩
  rw[rq]
  rcases hq with⟨no,hE⟩|hq
  ·rw[bC no]
   exact ite_yes (by decide) ⟨dF,hE J sJ⟩
  have yes:x∈fA S.bo:=by rcases hq with h|h<;>exact h.1
  rw[aJ yes]
  refine ite_no (by decide) ?_
  refine⟨_,rfl,k,d,v,rfl,tl.keep sJ.keep,zT,fun J1 s1=>⟨_,rfl,?_⟩⟩
  have PR:=sJ.trans s1
  rcases hq with⟨_,no,hE⟩|⟨_,ok,i,rfl,hQ⟩
  ·rw[no]
   exact ite_yes (by decide) ⟨dF,hE J1 PR⟩
  rw[ok]
  refine ite_no (by decide) ?_
  refine⟨_,rfl,cr,rfl,⟨_,bY.of (PR _ _ e2)⟩,fun L2 zu=>?_⟩
  refine LC none zu (PR _ _ e2) (au uW fun _ _ z=>z.up fun b xs e=>PR _ _ e) (by omega) fun ys J2 s2 Pr TZ=>?_
  have zz:=PR.trans s2
  refine⟨_,rfl,cb,dx,_,rfl,zz _ _ c1,rfl,_,rfl,_,rfl,_,rfl,cb,sl,ll,L2,sd,ys,us,S.n,_,S.rows,sts++ [S],cx,rfl,hC.same zz,by rw[aK,aG];omega,.inr Pr,TZ,.inl (zz _ _ e3),au e4 fun _ _ q=>q.up fun b xs e=>zz _ _ e,fun ph H' k' f' C'=>?_⟩
  exact hQ ph H' (fun b o n1 n2 n3 e=>k' _ _ n1 n2 n3 (zz _ _ e)) (cJ zz f') C'
def yW:bV ["self","rower","crew","standing","following"] ["self","rower"] (av IB):={}
def qp (r:j0):PyData:=.tuple [.str r.1,.str r.2.1,.int r.2.2]
def Cz (C CR CT CM:ah):Sp:=fun vs H Q E=>∃(cb sl ll k:ah) (v:V) (d:PyData) (S:Cs) (sts cx:List Cs),vs=[.ref cb,v]/\eW C H cb sl ll (sts++ [S]) cx/\sts.length<=890/\S.bo.length<=8/\Tells H k d v/\qX d/\
 ((eQ d=false/\∀H',a_ H H'->E (.ref CR) none H')\/(∃a r,v=.ref a/\d=qp r/\eQ d=true/\H a=some (.tup [.str r.1,.str r.2.1,.int r.2.2])/\r.1∈fA S.bo/\∀H',a_ H H'->E (.ref CT) none H')\/
 (∃a r,v=.ref a/\d=qp r/\eQ d=true/\H a=some (.tup [.str r.1,.str r.2.1,.int r.2.2])/\r.1∉fA S.bo/\S.bo.length=8/\∀dd H',a_ H H'->H dd=none->H' dd=some (.xd [("many",.int 9)])->E (.ref CM) (some dd) H')\/
 (∃a r,v=.ref a/\d=qp r/\eQ d=true/\H a=some (.tup [.str r.1,.str r.2.1,.int r.2.2])/\r.1∉fA S.bo/\S.bo.length<=7/\
 ∀ph H',Ec cb sl ll H H'->H ph=none->eW C H' cb sl ph (sts++ [S]++ [⟨mz (S.bo++ [r]),S.rows,S.n⟩]) []->Q .eA H'))
def LD {f fI:ah}{fd fdI:FuncData}{C CR CT CM:ah}(F:iV K "come" "Club.come" IB f fd) (T:Txt mg) (CC:Gs K C) (OR:sh K mg "NoRower" CR) (OT:sh K mg "Twice" CT) (mc:mg "TooMany"=some (.ref CM)) (OM:Ar K CM fI) (FI:dO P w K mg base fO 1 fI fdI ["self","many"] (Ug CM)) (bI:Binds K fdI ["self","many"] []) (DR:Df P w K mg base 3 "is_rower" ["thing"] (wR eQ)) (DN:Df P w K mg base 1 "names_of" ["crew"] Eg) (DE:yH P w K mg base 1 C "enter" ["self","crew","standing","following"] (mU C)):dO P w K mg base (qC P w) 4 f fd ["self","rower"] (Cz C CR CT CM):=by
 refine F.Lb yW (fun vs H Q E h=>?_) (fun cdv A outer s H vs Q E hr h=>?_)
 ·obtain⟨cb,sl,ll,k,v,d,S,sts,cx,rfl,_⟩:=h
  rfl
 ·obtain⟨cb,sl,ll,k,v,d,S,sts,cx,rfl,hC,VD,Yg,tl,zT,hq⟩:=h
  have Az:=hr.mono (j:=1) (by decide)
  have hr2:=hr.mono (j:=2) (by decide)
  obtain⟨tk,hM⟩:=T.MR
  refine⟨_,ar (iD (bg cU (jj (pv 0) rfl) (pN lR ao)) (fW rfl (bz (aZ (i:=2) yW.nd) (bz (aZ (i:=3) yW.nd) (bz (aZ (i:=4) yW.nd) eV)))))
   (ar (cN (fJ (fG (cB DR hr (ae (pv 1) aj)))) (aE (gR (W:=fun cls dW _ H'=>E cls dW H') js rfl rfl OR rfl (ae aW aj))) bL)
   (ar (cN (br o6 (bg bx (pv 1) ao) (cB DN Az (ae (pv 2) aj)) rfl) (aE (gR (W:=fun cls dW _ H'=>E cls dW H') js rfl rfl OT rfl (ae aW aj))) bL)
   (ar (cN (br GN (aR bM rfl T.len bB (ae (pv 2) aj)) (fS (v:=.int 8) rfl hM ⟨_,rfl⟩) (bN _)) (aE (FK (W:=fun cls dW _ H'=>E cls dW H') (E:=E0) js rfl OM FI hr2 bI .nil (fun _ _ _ _ _ _ _ z=>z.elim) rfl rfl mc (ae (bR fX (aR bM rfl T.len bB (ae (pv 2) aj)) ao) aj))) bL)
   (aE (gs (Ay DE Az (pv 0) (ae (aR vQ rfl T.sorted fK (ae (bR Lx (pv 2) (bO (ae (pv 1) aj))) aj)) (ae (pv 3) (ae (pv 4) aj))))))))),?_⟩
  obtain⟨dx,vs,ws,c1,c2,c3,c4,c5,c6,c7,c8⟩:=id hC
  obtain⟨Ed,_,rfl,FN,st,cr,sd,qo,us,rfl,e1,e2,uW,e3,e4⟩:=fe c7
  have lw:=bQ uW
  refine⟨_,rfl,cb,C,dx,_,_,rfl,c1,CC.c,CC.ns,rfl,1,rfl,sl,_,-1,.ref st,rfl,rfl,cS.of c5,kK _ _,st,_,rfl,bY.of e1,rfl,_,_,rfl,_,_,rfl,_,_,rfl,rfl,?_⟩
  refine⟨_,rfl,k,d,v,rfl,tl,zT,fun J1 s1=>⟨_,rfl,?_⟩⟩
  rcases hq with⟨no,hE⟩|hq
  ·rw[no]
   exact ite_yes (by decide) ⟨dF,hE J1 s1⟩
  have gd:∃a r,v=.ref a/\eQ d=true/\H a=some (.tup [.str r.1,.str r.2.1,.int r.2.2])/\((r.1∈fA S.bo/\∀H',a_ H H'->E (.ref CT) none H')\/(r.1∉fA S.bo/\((S.bo.length=8/\∀dd H',a_ H H'->H dd=none->H' dd=some (.xd [("many",.int 9)])->E (.ref CM) (some dd) H')\/(S.bo.length<=7/\
    ∀ph H',Ec cb sl ll H H'->H ph=none->eW C H' cb sl ph (sts++ [S]++ [⟨mz (S.bo++ [r]),S.rows,S.n⟩]) []->Q .eA H')))):=by
   rcases hq with⟨a,r,h1,_,h3,h4,h5⟩|⟨a,r,h1,_,h3,h4,h5,h6⟩|⟨a,r,h1,_,h3,h4,h5,h6⟩
   ·exact⟨a,r,h1,h3,h4,.inl h5⟩
   ·exact⟨a,r,h1,h3,h4,.inr ⟨h5,.inl h6⟩⟩
   ·exact⟨a,r,h1,h3,h4,.inr ⟨h5,.inr h6⟩⟩
  obtain⟨a,r,rfl,ok,ha,hq⟩:=gd
  rw[ok]
  refine ite_no (by decide) ?_
  refine⟨_,rfl,a,_,0,_,rfl,rfl,bY.of (s1 _ _ ha),aT (j:=0) rfl,_,rfl,cr,qo,S.bo,rfl,s1 _ _ e2,au uW fun _ _ z=>z.up fun b xs e=>s1 _ _ e,by omega,fun L J sJ' hJ=>?_⟩
  have sJ:=s1.trans sJ'
  refine⟨L,_,rfl,.inl (cS.of hJ),rfl,mB _,_,rfl,?_⟩
  rw[rq]
  rcases hq with⟨yes,hE⟩|⟨no,hq⟩
  ·rw[aJ yes]
   exact ite_yes (by decide) ⟨dF,hE J sJ⟩
  rw[bC no]
  refine ite_no (by decide) ?_
  refine⟨_,rfl,cr,qo,rfl,.inr (bY.of (sJ _ _ e2)),_,_,rfl,rfl,_,rfl,?_⟩
  rcases hq with⟨l8,hE⟩|⟨l7,hQ⟩
  ·refine ite_yes (aJ (by omega)) ?_
   refine⟨_,rfl,cr,qo,rfl,.inr (bY.of (sJ _ _ e2)),_,_,rfl,rfl,dF,fun x hx=>?_⟩
   refine⟨x,9,by rw[lw,l8];rfl,by decide,az,fun dd hd na=>⟨rfl,some dd,az,?_⟩⟩
   obtain⟨z1,z2,z3⟩:=IP (o2:=.xd [("many",.int 9)]) (o3:=qm x (.ref CM) (some dd)) hx hd na
   exact hE dd _ (sJ.trans z1) (cJ sJ z2) z3
  refine ite_no (fun z=>?_) ?_
  ·have:=aX z
   omega
  refine⟨_,rfl,cb,dx,_,rfl,sJ _ _ c1,rfl,_,rfl,_,rfl,dF,fun t ht=>?_⟩
  exists ht,.tup [.ref a],J,t,z1,y1,M1
  have s2:=sJ.trans z1
  refine⟨cr,t,qo,[.ref a],rfl,rfl,s2 _ _ e2,y1,by simp,by rw[aG];omega,fun M2 p z2 y2=>?_⟩
  have s3:=s2.trans z2
  obtain⟨L0,eL,kL,hL⟩:=yQ (H:=M2) (dN (au uW fun _ _ z=>z.up fun b xs e=>s3 _ _ e) ⟨a,rfl,s3 _ _ ha⟩:Paired (fU M2) (qo++ [.ref a]) (S.bo++ [r]))
  have lL:L0.length=qo.length+1:=by have:=iM List.length eL;simpa using this.symm
  refine⟨p,L0,rfl,bY.of (by rw[<-eL];exact y2),by omega,hL,fun l L1 hl p1 Pd=>?_⟩
  exists hl,.lst (L1.map fun e=>V.ref e.a),M2,l,z3,y3,M3
  have zz:=s3.trans z3
  have Tb:L1.map (·.key)=mz (S.bo++ [r]):=vU (by rw[<-kL];exact p1.map _) (kW.mpr Pd)
  have pc:Paired (fU M3) (L1.map fun e=>V.ref e.a) (L1.map (·.key)):=au (yS fun e he=>hL e (p1.mem_iff.mp he)) fun _ _ z=>z.up fun b xs e=>z3 _ _ e
  rw[Tb] at pc
  refine⟨_,rfl,_,rfl,cb,sl,ll,l,sd,_,us,S.n,_,S.rows,sts++ [S],cx,rfl,hC.same zz,by rw[aK,aG];omega,.inr y3,pc,.inl (zz _ _ e3),au e4 fun _ _ q=>q.up fun b xs e=>zz _ _ e,fun ph H' k' f' C'=>?_⟩
  exact hQ ph H' (fun b o n1 n2 n3 e=>k' _ _ n1 n2 n3 (zz _ _ e)) (cJ zz f') C'
end
def Rm (r:Ea):PyData:=.tuple [.str r.1,.str r.2.1,.tuple [.int r.2.2.1,.int r.2.2.2]]
def IS (r:Ea):Prop:=okN r.1/\okN r.2.1/\r.2.2.1.natAbs<2^200/\r.2.2.2.natAbs<2^200
def Uj {r:Ea}(h:IS r):Bd 10 2 (Rm r):=by
 obtain⟨h1,h2,h3,h4⟩:=h
 have b1:Bd 3 1 (.tuple [.int r.2.2.1,.int r.2.2.2]):=by
  refine(Bd.tuple (n:=1) (p:=0) (m:=2) (ds:=[.int r.2.2.1,.int r.2.2.2]) (fun x hx=>?_) (aB 2)).mono (by decide) (by decide)
  simp only[aC,aM,cz] at hx
  rcases hx with rfl|rfl
  ·exact iF h3
  ·exact iF h4
 refine(Bd.tuple (n:=3) (p:=1) (m:=3) (ds:=[.str r.1,.str r.2.1,.tuple [.int r.2.2.1,.int r.2.2.2]]) (fun x hx=>?_) (aB 3)).mono (by decide) (by decide)
 simp only[aC,aM,cz] at hx
 rcases hx with rfl|rfl|rfl
 ·exact(lW h1.1 h1.2.1).mono (by decide) (by decide)
 ·exact(lW h2.1 h2.2.1).mono (by decide) (by decide)
 ·exact b1
def Uk {p q:jO}{m y:Str}(o1:ig p) (o2:ig q) (x:Xp p q m y):IS (oC p q m y):=by
 have VF:=o1.a.ok m x.hm
 have VG:=o1.b.ok y x.hy
 have i1:=o1.c1;have i2:=o1.c9;have i3:=o2.c1;have i4:=o2.c9
 have i5:=o1.t1;have i6:=o1.t9;have i7:=o1.o1;have i8:=o1.o9
 have j5:=o2.t1;have j6:=o2.t9;have j7:=o2.o1;have j8:=o2.o9
 have m1:((p.o-p.t)*q.c).natAbs<2^70:=ku (a:=35) (b:=35) (by omega) (by omega)
 have m2:((q.o-q.t)*p.c).natAbs<2^70:=ku (a:=35) (b:=35) (by omega) (by omega)
 have m3:(p.c*q.c).natAbs<2^70:=ku (a:=35) (b:=35) (by omega) (by omega)
 have ld:(pL p q).natAbs<2^80:=by unfold pL;omega
 have ft:∀d:Int,d.natAbs<2^80->(dS d (p.c*q.c)).natAbs<2^200:=fun d hd=>by have:=vE (t:=d) (b:=p.c*q.c);omega
 have fb:∀d:Int,(dD d (p.c*q.c)).natAbs<2^200:=fun d=>by have:=vF (t:=d) (b:=p.c*q.c);omega
 unfold oC
 dsimp only
 split
 ·exact⟨VF,VG,ft _ ld,fb _⟩
 ·split
  ·exact⟨VG,VF,ft _ (by omega),fb _⟩
  ·refine⟨?_,?_,(show(0:Int).natAbs<2^200 by decide),(show(1:Int).natAbs<2^200 by decide)⟩
   ·show okN (if dQ y m=true then y else m)
    split
    ·exact VG
    ·exact VF
   ·show okN (if dQ y m=true then m else y)
    split
    ·exact VF
    ·exact VG
def qE (H:Hp) (d:PyData) (v:V):Prop:=∃k0:Nat,∀k:Nat,k0<=k->Tells H k d v
def wZ (H:Hp) (ds:List PyData) (vs:List V):Prop:=∃k0:Nat,∀k:Nat,k0<=k->cY H k ds vs
def yX {k0 a k:Nat}(h:Nat.add (Nat.add k0 a) 1<=k):k0<=k/\a≠k:=by
 have h:k0+a+1<=k:=h
 exact⟨by omega,by omega⟩
def qE.one {H:Hp}{d:PyData}{v:V}(h:qE H d v):∃k,Tells H k d v:=let⟨k,t⟩:=h;⟨k,t k (aB k)⟩
def hW {H:Hp}(x:Str):qE H (.str x) (.str x):=⟨0,fun _ _=>eY.mpr rfl⟩
def dX {H:Hp}(i:Int):qE H (.int i) (.int i):=⟨0,fun _ _=>i9.mpr rfl⟩
def rA {H:Hp}:qE H .none .eA:=⟨0,fun _ _=>qf.mpr rfl⟩
def dI {H:Hp}:wZ H [] []:=⟨0,fun _ _=>eg.mpr rfl⟩
def aU {H:Hp}{d:PyData}{v:V}{ds:List PyData}{vs:List V}(h:qE H d v) (t:wZ H ds vs):wZ H (d::ds) (v::vs):=by
 obtain⟨k1,t1⟩:=h
 obtain⟨k2,t2⟩:=t
 exact⟨k1+k2,fun k hk=>bS.mpr ⟨_,_,rfl,t1 k (by omega),t2 k (by omega)⟩⟩
def fT {H:Hp}{a:ah}{ds:List PyData}{vs:List V}(h:H a=some (.tup vs)) (t:wZ H ds vs):qE H (.tuple ds) (.ref a):=by
 obtain⟨k0,t⟩:=t
 exact⟨Nat.add (Nat.add k0 a) 1,fun k hk=>eO.mpr ⟨a,vs,rfl,(yX (k0:=k0) hk).2,h,t _ (yX (k0:=k0) (a:=a) hk).1⟩⟩
def eX {H:Hp}{a:ah}{ds:List PyData}{vs:List V}(h:H a=some (.lst vs)) (t:wZ H ds vs):qE H (.list ds) (.ref a):=by
 obtain⟨k0,t⟩:=t
 exact⟨Nat.add (Nat.add k0 a) 1,fun k hk=>jC.mpr ⟨a,vs,rfl,(yX (k0:=k0) hk).2,h,t _ (yX (k0:=k0) (a:=a) hk).1⟩⟩
def eF {α:Type}{H:Hp}{R:V->α->Prop}{f:α->PyData}(g:∀v x,R v x->qE H (f x) v):∀{ws:List V}{L:List α},Paired R ws L->wZ H (L.map f) ws
 |_,_,.nil=>dI
 |_,_,.cons h t=>aU (g _ _ h) (eF g t)
def mW {H:Hp}(ns:List Str):wZ H (cj ns) (ns.map V.str):=⟨0,fun _ _=>jM ns⟩
def IT (x:Nat×jO):PyData:=.tuple [.int x.1,wY x.2]
def Rn (r:Row3):PyData:=.tuple [.int r.1,.int r.2.1,Rm r.2.2]
def yY {H:Hp}{r:ah}{p:jO}(h:jD H r p):qE H (wY p) (.ref r):=by
 obtain⟨a,b,h1,h2,h3⟩:=h
 exact fT h1 (aU (fT h2 (mW _)) (aU (fT h3 (mW _)) (aU (dX _) (aU (dX _) (aU (dX _) dI)))))
def qr {H:Hp}(v:V) (r:j0) (h:fU H v r):qE H (qp r) v:=by
 obtain⟨a,rfl,h1⟩:=h
 exact fT h1 (aU (hW _) (aU (hW _) (aU (dX _) dI)))
def sU {H:Hp}(v:V) (x:Nat×jO) (h:jE H v x):qE H (IT x) v:=by
 obtain⟨u,r,rfl,h1,h2⟩:=h
 exact fT h1 (aU (dX _) (aU (yY h2) dI))
def IU {H:Hp}(v:V) (x:Row3) (h:nj H v x):qE H (Rn x) v:=by
 obtain⟨a,q,rfl,h1,l,h2,h3⟩:=h
 exact fT h1 (aU (dX _) (aU (dX _) (aU (fT h2 (aU (hW _) (aU (hW _) (aU (fT h3 (aU (dX _) (aU (dX _) dI))) dI)))) dI)))
def Eh {α:Type} [DecidableEq α] {f:α->PyData}(h:∀a b,PyData.eqv (f a) (f b)=decide (a=b)):∀a b:List α,PyData.eqvAll (a.map f) (b.map f)=decide (a=b)
 | [],[]=>by simp[PyData.eqvAll]
 | [],_::_=>by simp[PyData.eqvAll]
 |_::_,[]=>by simp[PyData.eqvAll]
 |x::a,y::b=>by
  rw[bH,bH,PyData.eqvAll,Eh h a b,h]
  by_cases e:x=y
  ·subst e;simp
  ·simp[e]
def oN {α:Type} [DecidableEq α] {f:α->PyData}(h:∀a b,PyData.eqv (f a) (f b)=decide (a=b)) (a b:List α):PyData.eqv (.list (a.map f)) (.list (b.map f))=decide (a=b):=by rw[<-Eh h];rw[PyData.eqv]
def yZ (a b:j0):PyData.eqv (qp a) (qp b)=decide (a=b):=by
 obtain⟨a1,a2,a3⟩:=a
 obtain⟨b1,b2,b3⟩:=b
 unfold qp
 by_cases e1:a1=b1<;>by_cases e2:a2=b2<;>by_cases e3:a3=b3<;>simp[PyData.eqv,PyData.eqvAll,e1,e2,e3]
instance:DecidableEq jO:=fun p q=>decidable_of_iff (p.a=q.a/\p.b=q.b/\p.t=q.t/\p.o=q.o/\p.c=q.c) (by cases p;cases q;simp)
def CB (p q:jO):PyData.eqv (wY p) (wY q)=decide (p=q):=by
 obtain⟨a1,a2,a3,a4,a5⟩:=p
 obtain⟨b1,b2,b3,b4,b5⟩:=q
 unfold wY
 have h1:=ky a1 b1
 have h2:=ky a2 b2
 by_cases e1:a1=b1<;>by_cases e2:a2=b2<;>by_cases e3:a3=b3<;>by_cases e4:a4=b4<;>by_cases e5:a5=b5<;>simp[PyData.eqv,PyData.eqvAll,h1,h2,e1,e2,e3,e4,e5]<;>simp_all [PyData.eqv]
def IV (a b:Nat×jO):PyData.eqv (IT a) (IT b)=decide (a=b):=by
 obtain⟨a1,a2⟩:=a
 obtain⟨b1,b2⟩:=b
 unfold IT
 by_cases e1:a1=b1<;>by_cases e2:a2=b2<;>simp[PyData.eqv,PyData.eqvAll,CB,e1,e2,Int.natCast_inj]
def PU (a b:Ea):PyData.eqv (Rm a) (Rm b)=decide (a=b):=by
 obtain⟨a1,a2,a3,a4⟩:=a
 obtain⟨b1,b2,b3,b4⟩:=b
 unfold Rm
 by_cases e1:a1=b1<;>by_cases e2:a2=b2<;>by_cases e3:a3=b3<;>by_cases e4:a4=b4<;>simp[PyData.eqv,PyData.eqvAll,e1,e2,e3,e4]
def PV (a b:Row3):PyData.eqv (Rn a) (Rn b)=decide (a=b):=by
 obtain⟨a1,a2,a3⟩:=a
 obtain⟨b1,b2,b3⟩:=b
 unfold Rn
 by_cases e1:a1=b1<;>by_cases e2:a2=b2<;>by_cases e3:a3=b3<;>simp[PyData.eqv,PyData.eqvAll,PU,e1,e2,e3,Int.natCast_inj]
def AZ (n:Str):Prop:=n.length<=100/\PyData.strOk n=true
def PX (r:j0):Prop:=okN r.1/\AZ r.2.1/\r.2.2.natAbs<2^200
structure vV (S:Cs):Prop where
 bo:∀r∈S.bo,PX r
 rows:∀x∈S.rows,ig x.2/\f_ x.2
 num:∀x∈S.rows,x.1<=100000
 lc:S.bo.length<=8
 lr:S.rows.length<=31
def MV {r:j0}(h:PX r):Bd 4 1 (qp r):=by
 refine(Bd.tuple (n:=1) (p:=0) (m:=3) (ds:=[.str r.1,.str r.2.1,.int r.2.2]) (fun x hx=>?_) (aB 3)).mono (by decide) (by decide)
 simp only[aC,aM,cz] at hx
 rcases hx with rfl|rfl|rfl
 ·exact lW h.1.1 h.1.2.1
 ·exact lW h.2.1.1 h.2.1.2
 ·exact iF h.2.2
def y4 {l:List j0}(h:∀r∈l,PX r) (hl:l.length<=100):Bd 401 2 (.list (l.map qp)):=by
 refine(Bd.list (n:=4) (p:=1) (m:=100) (fun x hx=>?_) (by rw[aq];exact hl)).mono (by decide) (by decide)
 obtain⟨r,hr,rfl⟩:=cO.mp hx
 exact MV (h r hr)
def Ul {x:Nat×jO}(h:ig x.2) (hn:x.1<=100000):Bd 2001 16 (IT x):=by
 refine(Bd.tuple (n:=1000) (p:=15) (m:=2) (ds:=[.int x.1,wY x.2]) (fun y hy=>?_) (aB 2)).mono (by decide) (by decide)
 simp only[aC,aM,cz] at hy
 rcases hy with rfl|rfl
 ·exact(iF (by omega)).mono (by decide) (by decide)
 ·exact Iz h
def y6 {l:Rows}(h:∀x∈l,ig x.2/\f_ x.2) (hn:∀x∈l,x.1<=100000) (hl:l.length<=100):Bd 200101 17 (.list (l.map IT)):=by
 refine(Bd.list (n:=2001) (p:=16) (m:=100) (fun x hx=>?_) (by rw[aq];exact hl)).mono (by decide) (by decide)
 obtain⟨r,hr,rfl⟩:=cO.mp hx
 exact Ul (h r hr).1 (hn r hr)
def IW {i j:Nat}{o:Option Ea}{r:Row3}(h:r∈yO i j o):∃t,o=some t/\r=(i,j,t):=by
 cases o with
 |none=>cases h
 |some t=>exact⟨t,rfl,by simpa[yO] using h⟩
def IY {p q:jO}(o1:ig p) (o2:ig q) {t:Ea}(h:vS p q=some t):IS t:=by
 unfold vS at h
 split at h
 ·rename_i x
  cases h
  exact Uk o1 o2 x.choose_spec.choose_spec
 ·cases h
def IZ {x:Nat×jO}(hx:ig x.2) (nx:x.1<=100000) {r:Row3}:∀{l:Rows},(∀y∈l,ig y.2)->(∀y∈l,y.1<=100000)->r∈FR x l->r.1<=100000/\r.2.1<=100000/\IS r.2.2
 | [],_,_,h=>by cases h
 |y::l,ho,hn,h=>by
  rcases c_.mp h with h|h
  ·obtain⟨t,e,rfl⟩:=IW h
   exact⟨nx,hn y (.head _),IY hx (ho y (.head _)) e⟩
  ·exact IZ hx nx (fun z hz=>ho z (.tail _ hz)) (fun z hz=>hn z (.tail _ hz)) h
def I_ {r:Row3}:∀{l:Rows},(∀y∈l,ig y.2)->(∀y∈l,y.1<=100000)->r∈ub l->r.1<=100000/\r.2.1<=100000/\IS r.2.2
 | [],_,_,h=>by cases h
 |y::l,ho,hn,h=>by
  rcases c_.mp h with h|h
  ·exact IZ (ho y (.head _)) (hn y (.head _)) (fun z hz=>ho z (.tail _ hz)) (fun z hz=>hn z (.tail _ hz)) h
  ·exact I_ (fun z hz=>ho z (.tail _ hz)) (fun z hz=>hn z (.tail _ hz)) h
def PY {l:Rows}(ho:∀x∈l,ig x.2/\f_ x.2) (hn:∀x∈l,x.1<=100000):Lay (.list ((ub l).map Rn)):=by
 refine(Bd.list (n:=31) (p:=3) (m:=(ub l).length) (fun x hx=>?_) (by rw[aq];exact aB _)).lay (by decide)
 obtain⟨r,hr,rfl⟩:=cO.mp hx
 obtain⟨h1,h2,h3⟩:=I_ (fun y hy=>(ho y hy).1) hn hr
 refine(Bd.tuple (n:=10) (p:=2) (m:=3) (ds:=[.int r.1,.int r.2.1,Rm r.2.2]) (fun x hx=>?_) (aB 3)).mono (by decide) (by decide)
 simp only[aC,aM,cz] at hx
 rcases hx with rfl|rfl|rfl
 ·exact(iF (by omega)).mono (by decide) (by decide)
 ·exact(iF (by omega)).mono (by decide) (by decide)
 ·exact Uj h3
def vV.PZ {S:Cs}(h:vV S):Lay (.list (S.bo.map qp)):=(y4 h.bo (bh h.lc (by decide))).lay (by decide)
def vV.layR {S:Cs}(h:vV S):Lay (.list (S.rows.map IT)):=(y6 h.rows h.num (bh h.lr (by decide))).lay (by decide)
def vV.Um {S:Cs}(h:vV S):Lay (.list ((ub S.rows).map Rn)):=PY h.rows h.num
section
variable {P:aF}{w:ba}{K:Frag}{mg:Str->Option af}{base:Heap}
def Uo:bV ["self"] ["self"] (av Ph):={}
def Jd (C:ah):Sp:=fun vs H Q _=>∃(cb sl ll:ah) (S:Cs) (sts cx:List Cs),vs=[.ref cb]/\eW C H cb sl ll (sts++ [S]) cx/\∀H',a_ H H'->Q (.int S.bo.length) H'
def P0 {f:ah}{fd:FuncData}{C:ah}(F:iV K "__len__" "Club.__len__" Ph f fd) (T:Txt mg) (DR:yH P w K mg base 1 C "rowers" ["self"] (vR C)):dO P w K mg base fO 2 f fd ["self"] (Jd C):=by
 refine F.ok Uo (fun vs H Q E h=>?_) (fun cdv A outer s H vs Q E hr h=>?_)
 ·obtain⟨cb,sl,ll,S,sts,cx,rfl,_⟩:=h
  rfl
 ·obtain⟨cb,sl,ll,S,sts,cx,rfl,hC,hQ⟩:=h
  refine⟨_,aE (bF (aR bM rfl T.len bB (ae (oM DR hr (pv 0)) aj))),?_⟩
  obtain⟨dx,vs,ws,c1,_⟩:=id hC
  refine⟨_,rfl,cb,dx,_,rfl,c1,rfl,cb,sl,ll,S,sts,cx,rfl,hC,fun l us hl pr=>⟨l,us,rfl,.inl (cS.of az),?_⟩⟩
  rw[bQ pr]
  exact hQ _ (aN hl _)
end
end K12
namespace K12
open PySem L2
abbrev P1:Stmt:=top 45
section
variable {P:aF}{w:ba}{K:PySem.W.Frag}{mg:Str->Option af}{base:Heap}
def P2:bV ["top","bottom","one","other"] ["top","bottom"] (av P1):={}
def P4 {f:ah}{fd:FuncData}(F:iV K "_law_fraction" "_law_fraction" P1 f fd) (T:Txt mg):dO P w K mg base fO 1 f fd ["top","bottom"] Ii:=by
 refine F.ok P2 (fun vs H Q E h=>?_) (fun cdv A outer s H vs Q E hr h=>?_)
 ·obtain⟨t,b,rfl,_⟩:=h
  rfl
 ·obtain⟨t,b,rfl,b0,b1,t1,q⟩:=h
  refine⟨_,ar (x6 (i:=2) (j:=3) rfl P2.nd rfl rfl (by decide) rfl rfl (ae (aR uT rfl T.abs sH (ae (pv 0) aj)) (ae (pv 1) aj)) rfl)
   (ar (zC eR (br ml (pv 3) ao (bN _)) (aE (x6 (i:=2) (j:=3) rfl P2.nd rfl rfl (by decide) rfl rfl (ae (pv 3) (ae (bR mL (pv 2) (pv 3)) aj)) rfl)))
   (aE (bF (bO (ae (bR oq (pv 0) (pv 2)) (ae (bR oq (pv 1) (pv 2)) aj)))))),?_⟩
  refine⟨_,rfl,_,rfl,_,rfl,_,_,rfl,?_⟩
  refine zD (fun bW H'=>H'=H/\∃m n:Nat,bW=[some (.int t),some (.int b),some (.int m),some (.int n)]/\0<m+n/\Nat.gcd m n=Nat.gcd t.natAbs b.natAbs/\m<2^150/\n<2^150)
   (fun bW _=>match bW with| [_,_,_,some (.int n)]=>n.toNat|_=>0) ?_ ?_ ?_
  ·refine⟨rfl,t.natAbs,b.natAbs,?_,by omega,rfl,t1,b1⟩
   show[some (V.int t),some (V.int b),some (V.int (if t<0 then-t else t)),some (V.int b)]=_
   rw[DQ,show((b.natAbs:Nat):Int)=b by omega]
  ·rintro bW H' ⟨rfl,m,n,rfl,m0,hg,hm,hn⟩
   refine⟨_,rfl,rfl,_,rfl,?_⟩
   refine eG (fun c=>?_) (fun c=>?_)
   ·have n0:0<n:=by
     have:n≠0:=fun z=>HS c (by rw[z];rfl)
     omega
    refine⟨_,rfl,_,rfl,_,rfl,_,_,rfl,rfl,by omega,_,_,rfl,⟨rfl,n,m %n,?_,by omega,by rw[Ag];exact hg,hn,cR (Nat.mod_le _ _) hm⟩,?_⟩
    ·show[some (V.int t),some (V.int b),some (V.int (n:Int)),some (V.int ((m:Int) %(n:Int)))]=_
     rw[ur]
    ·show((m:Int) %(n:Int)).toNat<(n:Int).toNat
     rw[ur]
     have:=Nat.mod_lt m n0
     omega
   ·have n0:n=0:=by
     have e5:V.int (n:Int)=V.int 0:=v_eq c
     injection e5 with e5
     omega
    subst n0
    rw[Nat.gcd_zero_right] at hg
    have bd:(0:Int)<(m:Int)/\(m:Int)<2^200:=⟨by omega,Ih hm⟩
    refine⟨_,rfl,_,rfl,_,_,rfl,rfl,bd,_,rfl,_,rfl,_,_,rfl,rfl,bd,dF,fun p hp=>?_⟩
    have:=q p hp
    unfold dS dD at this
    rw[<-hg] at this
    exact this
  ·rintro bW H' Q1 Q2 imp ⟨v,hv,sc,b',e3,h⟩
   exact⟨v,hv,sc,b',e3,imp _ _ h⟩
end
end K12
namespace K12
open PySem L2 HT PySem.W
def vW (a b:List Str):PyData.eqv (.list (cj a)) (.list (cj b))=decide (a=b):=by
 have:=ky a b
 simp only[PyData.eqv] at this⊢
 exact this
def pq {H:Hp}{a:ah}{A:List Str}(h:H a=some (.lst (A.map V.str))):Tells H (a+1) (.list (cj A)) (.ref a):=
 jC.mpr ⟨a,_,rfl,(fun z=>absurd z (bb (fL a))),h,jM A⟩
def FU {c:List Str}(hc:∀n∈c,okN n) (hl:c.length<=12):Bd 13 1 (.list (cj c)):=by
 refine(Bd.list (n:=1) (p:=0) (m:=12) (fun x hx=>?_) (by unfold cj;rw[aq];exact hl)).mono (by decide) (by decide)
 obtain⟨n,hn,rfl⟩:=cO.mp hx
 exact lW (hc n hn).1 (hc n hn).2.1
def Je {a b:List Str}(h:∀n∈a,okN n):∀n∈gF a b,okN n:=fun n hn=>h n (dz.mp hn).1
def FV {a b:List Str}:(gF a b).length<=a.length:=ej _ _
section
variable {P:aF}{w:ba}{K:Frag}{mg:Str->Option af}{base:Heap}
def rB {H1:Hp}{L a r b:ah}{A B:List Str}{xs:List V}{k:Int}{Q:VK}(v:Option V) (hL:H1 L=none) (h:H1 a=some (.tup (A.map V.str))) (hr:H1 r=some (.tup xs)) (hx:qT xs k=some (.ref b)) (hb:H1 b=some (.tup (B.map V.str))) (hl:A.length<=1000)
  (q:∀J,a_ H1 J->J L=some (.lst ((gF A B).map V.str))->Q (.ref L) J):
  pK (Dc K a) (dU 0) (gj (gI (NX K true) (cg 0) (gI (fZ K) (cg 1) (tC (.int k))))) (cg 0) [v,some (.ref r)] H1 Q L:=by
 refine lD (n:=A.length) (f:=fun i=>(A.map V.str).getD i .eA) (fun j ys bW J=>(∃v,bW=[v,some (.ref r)])/\a_ H1 J/\ys=(gF (A.take j) B).map V.str) hL hl ⟨⟨_,rfl⟩,bP (a_.refl _) hL,rfl⟩ ?_ ?_ ?_
 ·rintro j ys bW J hj hy ⟨_,sj,_⟩
  have:=kq (K:=K) (bY.of (sj _ _ h)) j (by rw[aq];exact hj)
  rw[aq] at this
  exact this
 ·rintro j ys bW J hj hy ⟨⟨v,rfl⟩,sj,rfl⟩
  rw[As hj]
  refine⟨_,rfl,_,rfl,r,xs,k,_,rfl,rfl,bY.of (sj _ _ hr),hx,b,_,rfl,.inr (bY.of (sj _ _ hb)),rfl,mB B,_,rfl,?_⟩
  rw[show(if true=true then !G0 (V.str A[j]) (B.map V.str) else G0 (V.str A[j]) (B.map V.str))= !decide (A[j]∈B) from iM (!·) (rq _ _),fQ hj]
  unfold gF
  rw[Au]
  by_cases e:A[j]∈B
  ·refine ite_no (by simp[e]) ?_
   refine⟨hy,⟨_,rfl⟩,sj,?_⟩
   rw[aO (by simp[e])]
  ·refine ite_yes (by simp[e]) ?_
   refine⟨_,rfl,hy,⟨_,rfl⟩,bP sj hL,?_⟩
   rw[aP (by simp[e]),bE]
   rfl
 ·rintro ys bW J hy ⟨_,sj,rfl⟩
  rw[cZ] at hy
  exact q J sj hy
abbrev Yq:Stmt:=top 48
def Uq:List (Str×NameKind):=[(".0",.local),("name",.local),("other",.free)]
def Ur:List (Str×NameKind):=[(".0",.local),("name",.local),("one",.free)]
def Us:(["name","other"]:List Str).Nodup:=by decide+kernel
def Ut:(["name","one"]:List Str).Nodup:=by decide+kernel
def Uu:Sp:=fun vs H Q _=>∃(r1 r2:ah) (p q:jO),vs=[.ref r1,.ref r2]/\jD H r1 p/\jD H r2 q/\ig p/\ig q/\f_ p/\f_ q/\∀v r H',a_ H H'->Told p q r->TK H' v r->Q v H'
def AG:bV ["one","other","out","came","gone","new","top","by"] ["one","other"] (av Yq):={}
def Uv {f:ah}{fd:FuncData}(F:iV K "_law_trial" "_law_trial" Yq f fd) (T:Txt mg) (DF:Df P w K mg base 1 "_law_fraction" ["top","bottom"] Ii):dO P w K mg base fO 2 f fd ["one","other"] Uu:=by
 refine F.ok AG (fun vs H Q E h=>?_) (fun cdv A outer s H vs Q E hr h=>?_)
 ·obtain⟨r1,r2,p,q,rfl,_⟩:=h
  rfl
 ·obtain⟨r1,r2,p,q,rfl,h1,h2,o1,o2,cp,cq,hQ⟩:=h
  refine⟨_,ar (jn (i0:=2) (N:=["name","other"]) (g:=dU 0) (tc:=gj (gI (NX K true) (cg 0) (gI (fZ K) (cg 1) (tC (.int 0))))) (te:=cg 0) AG.nd rfl (Or.inl rfl) rfl (h_ (bg bx (pv 0) ao))
    (fk.one (v:="name") (fr:="other") (j:=1) (nm:=Uq) rfl rfl rfl rfl)
    (fun _ _ _=>aZ (i:=0) Us) (fun _ _ _=>hV (br gJ (pv 0) (bg bx (pv 1) ao) (by with_unfolding_all rfl))) (fun _ _ _=>pv 0))
   (ar (jn (i0:=3) (N:=["name","one"]) (g:=dU 0) (tc:=gj (gI (NX K true) (cg 0) (gI (fZ K) (cg 1) (tC (.int 0))))) (te:=cg 0) AG.nd rfl (Or.inl rfl) rfl (h_ (bg bx (pv 1) ao))
    (fk.one (v:="name") (fr:="one") (j:=0) (nm:=Ur) rfl rfl rfl rfl)
    (fun _ _ _=>aZ (i:=0) Ut) (fun _ _ _=>hV (br gJ (pv 0) (bg bx (pv 1) ao) (by with_unfolding_all rfl))) (fun _ _ _=>pv 0))
   (ar (jn (i0:=4) (N:=["name","other"]) (g:=dU 0) (tc:=gj (gI (NX K true) (cg 0) (gI (fZ K) (cg 1) (tC (.int 1))))) (te:=cg 0) AG.nd rfl (Or.inl rfl) rfl (h_ (bg bx (pv 0) ao))
    (fk.one (v:="name") (fr:="other") (j:=1) (nm:=Uq) rfl rfl rfl rfl)
    (fun _ _ _=>aZ (i:=0) Us) (fun _ _ _=>hV (br gJ (pv 0) (bg bx (pv 1) ao) (by with_unfolding_all rfl))) (fun _ _ _=>pv 0))
   (ar (jn (i0:=5) (N:=["name","one"]) (g:=dU 0) (tc:=gj (gI (NX K true) (cg 0) (gI (fZ K) (cg 1) (tC (.int 1))))) (te:=cg 0) AG.nd rfl (Or.inl rfl) rfl (h_ (bg bx (pv 1) ao))
    (fk.one (v:="name") (fr:="one") (j:=0) (nm:=Ur) rfl rfl rfl rfl)
    (fun _ _ _=>aZ (i:=0) Ut) (fun _ _ _=>hV (br gJ (pv 0) (bg bx (pv 1) ao) (by with_unfolding_all rfl))) (fun _ _ _=>pv 0))
   (ar (cN (PW.pt (kE (br ml (aR bM rfl T.len bB (ae (pv 2) aj)) ao (bN _)) (kE (br ml (aR bM rfl T.len bB (ae (pv 3) aj)) ao (bN _)) (kE (br (qh hr.units) (pv 4) (pv 3) (bN _)) (lK (br (qh hr.units) (pv 5) (pv 2) (bN _))))))) (aE (bF iT)) bL)
   (ar (jX (i:=6) AG.nd (bR lP (bR lO (bg bx (pv 0) ao) (bg bx (pv 0) ao)) (bg bx (pv 1) ao)))
   (ar (jX (i:=6) AG.nd (bR lO (pv 6) (bR lP (bR lO (bg bx (pv 1) ao) (bg bx (pv 1) ao)) (bg bx (pv 0) ao))))
   (ar (jX (i:=7) AG.nd (cB DF hr (ae (aR uT rfl T.abs sH (ae (pv 6) aj)) (ae (bR lP (bg bx (pv 0) ao) (bg bx (pv 1) ao)) aj))))
   (ar (cN (br xg (pv 6) ao (bN _)) (aE (bF (bO (ae (bg cU (pv 2) ao) (ae (bg cU (pv 3) ao) (ae (pv 7) aj)))))) bL)
   (ar (cN (br qM (pv 6) ao (bN _)) (aE (bF (bO (ae (bg cU (pv 3) ao) (ae (bg cU (pv 2) ao) (ae (pv 7) aj)))))) bL)
   (aE (bF (bR lj (fE fq rfl T.tuple cu (ae (aR iw rfl T.sorted fK (ae (cW (ae (bg cU (pv 2) ao) (ae (bg cU (pv 3) ao) aj))) aj)) aj)) (bO (ae (pv 7) aj)))))))))))))),?_⟩
  obtain⟨a,b,e1,e2,e3⟩:=id h1
  obtain⟨c,d,g1,g2,g3⟩:=id h2
  have a4:=o1.a.l4
  have b4:=o1.b.l4
  have c4:=o2.a.l4
  have d4:=o2.b.l4
  refine⟨_,rfl,r1,_,0,_,rfl,rfl,bY.of e1,aT (j:=0) rfl,a,rfl,⟨_,bY.of e2⟩,fun L1 MW=>?_⟩
  refine rB none MW e2 g1 (aT (j:=0) rfl) g2 (by omega) fun J1 s1 w1=>?_
  refine⟨_,rfl,r2,_,0,_,rfl,rfl,bY.of (s1 _ _ g1),aT (j:=0) rfl,c,rfl,⟨_,bY.of (s1 _ _ g2)⟩,fun L2 zu=>?_⟩
  refine rB none zu (s1 _ _ g2) (s1 _ _ e1) (aT (j:=0) rfl) (s1 _ _ e2) (by omega) fun J2 s2 w2=>?_
  have jc:=s1.trans s2
  refine⟨_,rfl,r1,_,1,_,rfl,rfl,bY.of (jc _ _ e1),aT (j:=1) rfl,b,rfl,⟨_,bY.of (jc _ _ e3)⟩,fun L3 hL3=>?_⟩
  refine rB none hL3 (jc _ _ e3) (jc _ _ g1) (aT (j:=1) rfl) (jc _ _ g3) (by omega) fun J3 s3 w3=>?_
  have kY:=jc.trans s3
  refine⟨_,rfl,r2,_,1,_,rfl,rfl,bY.of (kY _ _ g1),aT (j:=1) rfl,d,rfl,⟨_,bY.of (kY _ _ g3)⟩,fun L4 hL4=>?_⟩
  refine rB none hL4 (kY _ _ g3) (kY _ _ e1) (aT (j:=1) rfl) (kY _ _ e3) (by omega) fun J s4 w4=>?_
  have s0:=kY.trans s4
  have v1:=((s2.trans s3).trans s4) _ _ w1
  have v2:=(s3.trans s4) _ _ w2
  have v3:=s4 _ _ w3
  have LF:(∀m y,Xp p q m y->False)->Q .eA J:=fun h=>hQ .eA none J s0 (.inr ⟨fun m y x=>h m y x,rfl⟩) rfl
  have lay:∀{u v:List Str},(∀n∈u,okN n)->u.length<=4->Lay (.list (cj (gF u v))):=fun hu hl=>(FU (Je hu) (bh FV (by omega))).lay (by decide)
  refine⟨_,rfl,L1,_,rfl,.inl (cS.of v1),rfl,_,rfl,?_⟩
  rw[ie,aq]
  refine eG (fun z=>LF fun m y x=>?_) (fun z=>?_)
  ·rw[(x.diff cp).1] at z;simp at z
  have z1:(gF p.a q.a).length=1:=by
   by_cases h:(gF p.a q.a).length=1
   ·exact h
   ·exact absurd (by rw[bC (by omega)];rfl) z
  refine⟨_,rfl,L2,_,rfl,.inl (cS.of v2),rfl,_,rfl,?_⟩
  rw[ie,aq]
  refine eG (fun z=>LF fun m y x=>?_) (fun z=>?_)
  ·rw[(x.diff cp).2.1] at z;simp at z
  have z2:(gF q.a p.a).length=1:=by
   by_cases h:(gF q.a p.a).length=1
   ·exact h
   ·exact absurd (by rw[bC (by omega)];rfl) z
  refine⟨_,rfl,_,rfl,_,_,_,_,pq v3,pq v2,lay o1.b.ok b4,lay o2.a.ok c4,_,rfl,?_⟩
  rw[vW]
  refine eG (fun z=>LF fun m y x=>?_) (fun z=>?_)
  ·rw[(x.diff cp).2.1,(x.diff cp).2.2.1] at z;simp at z
  have z3:gF p.b q.b=gF q.a p.a:=by simpa using z
  refine⟨_,rfl,_,rfl,_,_,_,_,pq w4,pq v1,lay o2.b.ok d4,lay o1.a.ok a4,_,rfl,?_⟩
  rw[vW]
  refine eG (fun z=>LF fun m y x=>?_) (fun z=>?_)
  ·rw[(x.diff cp).1,(x.diff cp).2.2.2] at z;simp at z
  have z4:gF q.b p.b=gF p.a q.a:=by simpa using z
  obtain⟨m,em⟩:=RI.mp z1
  obtain⟨y,ey⟩:=RI.mp z2
  have x:Xp p q m y:=SY cp cq em ey (z3.trans ey) (z4.trans em)
  rw[em] at v1
  rw[ey] at v2
  have my:m≠y:=fun z=>cp.no _ x.hm (z▸x.hy)
  have i1:=o1.c1
  have i2:=o1.c9
  have i3:=o2.c1
  have i4:=o2.c9
  have i5:=o1.t1
  have i6:=o1.t9
  have i7:=o1.o1
  have i8:=o1.o9
  have j5:=o2.t1
  have j6:=o2.t9
  have j7:=o2.o1
  have j8:=o2.o9
  refine⟨_,rfl,r1,_,3,_,rfl,rfl,bY.of (s0 _ _ e1),aT (j:=3) rfl,_,rfl,r1,_,2,_,rfl,rfl,bY.of (s0 _ _ e1),aT (j:=2) rfl,_,_,rfl,rfl,_,rfl,r2,_,4,_,rfl,rfl,bY.of (s0 _ _ g1),aT (j:=4) rfl,_,_,rfl,rfl,.inr ⟨by omega,by omega⟩,?_⟩
  refine⟨_,rfl,_,rfl,r2,_,3,_,rfl,rfl,bY.of (s0 _ _ g1),aT (j:=3) rfl,_,rfl,r2,_,2,_,rfl,rfl,bY.of (s0 _ _ g1),aT (j:=2) rfl,_,_,rfl,rfl,_,rfl,r1,_,4,_,rfl,rfl,bY.of (s0 _ _ e1),aT (j:=4) rfl,_,_,rfl,rfl,.inr ⟨by omega,by omega⟩,_,_,rfl,rfl,?_⟩
  have m1:((p.o-p.t)*q.c).natAbs<2^70:=ku (a:=35) (b:=35) (by omega) (by omega)
  have m2:((q.o-q.t)*p.c).natAbs<2^70:=ku (a:=35) (b:=35) (by omega) (by omega)
  have m3:(p.c*q.c).natAbs<2^70:=ku (a:=35) (b:=35) (by omega) (by omega)
  have cc:0<p.c*q.c:=qB (by omega) (by omega)
  have ld:(pL p q).natAbs<2^80:=by unfold pL;omega
  refine⟨_,rfl,_,rfl,_,rfl,r1,_,4,_,rfl,rfl,bY.of (s0 _ _ e1),aT (j:=4) rfl,_,rfl,r2,_,4,_,rfl,rfl,bY.of (s0 _ _ g1),aT (j:=4) rfl,_,_,rfl,rfl,.inr ⟨by omega,by omega⟩,?_⟩
  refine⟨_,_,rfl,cc,by omega,by split<;>omega,fun u hu=>?_⟩
  try dsimp only
  generalize hD':(if(p.o-p.t)*q.c-(q.o-q.t)*p.c<0 then-((p.o-p.t)*q.c-(q.o-q.t)*p.c) else(p.o-p.t)*q.c-(q.o-q.t)*p.c)=D
  have hD:(if pL p q<0 then-pL p q else pL p q)=D:=hD'
  have s5:=bP (o:=.tup [.int (dS D (p.c*q.c)),.int (dD D (p.c*q.c))]) (a_.refl J) hu
  have w5:upd J u (.tup [.int (dS D (p.c*q.c)),.int (dD D (p.c*q.c))]) u=some (.tup [.int (dS D (p.c*q.c)),.int (dD D (p.c*q.c))]):=az
  try dsimp only
  generalize upd J u (.tup [.int (dS D (p.c*q.c)),.int (dD D (p.c*q.c))])=J5 at*
  have Yr:=s5 _ _ v1
  have Ys:=s5 _ _ v2
  refine⟨_,rfl,_,_,rfl,rfl,_,rfl,?_⟩
  refine eG (fun z=>?_) (fun z=>?_)
  ·have dp:0<pL p q:=aX z
   have eD:D=pL p q:=by rw[<-hD,aO (by omega)]
   have et:oC p q m y=(m,y,dS D (p.c*q.c),dD D (p.c*q.c)):=by unfold oC;simp only[aP dp,eD]
   refine⟨_,rfl,L1,_,0,_,rfl,rfl,cS.of Yr,aT (j:=0) rfl,_,rfl,L2,_,0,_,rfl,rfl,cS.of Ys,aT (j:=0) rfl,_,rfl,dF,fun r hr=>?_⟩
   have s6:=bP (o:=.tup [.str m,.str y,.ref u]) (a_.refl J5) hr
   refine hQ _ (some _) _ ((s0.trans s5).trans s6) (.inl ⟨m,y,x,rfl⟩) ⟨r,rfl,?_⟩
   rw[et]
   exact⟨u,az,s6 _ _ w5⟩
  have nd:¬0<pL p q:=fun h=>z (aJ h)
  refine⟨_,rfl,_,_,rfl,rfl,_,rfl,?_⟩
  refine eG (fun z=>?_) (fun z=>?_)
  ·have dn:pL p q<0:=aX z
   have eD:D=-pL p q:=by rw[<-hD,aP dn]
   have et:oC p q m y=(y,m,dS D (p.c*q.c),dD D (p.c*q.c)):=by unfold oC;simp only[aO nd,aP dn,eD]
   refine⟨_,rfl,L2,_,0,_,rfl,rfl,cS.of Ys,aT (j:=0) rfl,_,rfl,L1,_,0,_,rfl,rfl,cS.of Yr,aT (j:=0) rfl,_,rfl,dF,fun r hr=>?_⟩
   have s6:=bP (o:=.tup [.str y,.str m,.ref u]) (a_.refl J5) hr
   refine hQ _ (some _) _ ((s0.trans s5).trans s6) (.inl ⟨m,y,x,rfl⟩) ⟨r,rfl,?_⟩
   rw[et]
   exact⟨u,az,s6 _ _ w5⟩
  ·have nn:¬pL p q<0:=fun h=>z (aJ h)
   have eD:D=0:=by rw[<-hD,aO nn];omega
   obtain⟨f0,f1⟩:=K8 (b:=p.c*q.c) cc
   rw[eD,f0,f1] at w5
   refine⟨_,rfl,L1,_,0,_,rfl,rfl,cS.of Yr,aT (j:=0) rfl,_,rfl,L2,_,0,_,rfl,rfl,cS.of Ys,aT (j:=0) rfl,dF,fun l hl=>?_⟩
   have s6:=bP (o:=.lst [.str m,.str y]) (a_.refl J5) hl
   have w6:upd J5 l (.lst [.str m,.str y]) l=some (.lst (([m,y]:List Str).map V.str)):=az
   try dsimp only
   generalize upd J5 l (.lst [.str m,.str y])=J6 at*
   refine⟨l,[m,y],rfl,cS.of w6,(by simp only[cH,iP];decide),fun l2 C nK pm so=>?_⟩
   have hC:C=[if dQ y m=true then y else m,if dQ y m=true then m else y]:=by
    have ndm:([m,y]:List Str).Nodup:=by simp[my]
    have uC:=pd so (pm.nodup_iff.mpr ndm)
    by_cases c:dQ y m=true
    ·rw[aP c,aP c]
     exact ou uC (by simp[c]) (pm.trans (List.Perm.swap _ _ _))
    ·rw[aO c,aO c]
     have c2:dQ m y=true:=(um my).resolve_right c
     exact ou uC (by simp[c2]) pm
   have s7:=bP (o:=.lst (C.map V.str)) (a_.refl J6) nK
   have w7:upd J6 l2 (.lst (C.map V.str)) l2=some (.lst (C.map V.str)):=az
   try dsimp only
   generalize upd J6 l2 (.lst (C.map V.str))=J7 at*
   refine⟨l2,_,rfl,.inl ⟨cS.of w7,fun t ht=>?_⟩⟩
   have s8:=bP (o:=.tup (C.map V.str)) (a_.refl J7) ht
   have w8:upd J7 t (.tup (C.map V.str)) t=some (.tup (C.map V.str)):=az
   try dsimp only
   generalize upd J7 t (.tup (C.map V.str))=J8 at*
   refine⟨_,rfl,dF,fun t1 DV=>?_⟩
   have s9:=bP (o:=.tup [.ref u]) (a_.refl J8) DV
   have w9:upd J8 t1 (.tup [.ref u]) t1=some (.tup [.ref u]):=az
   try dsimp only
   generalize upd J8 t1 (.tup [.ref u])=J9 at*
   have lC:C.length=2:=by rw[hC];rfl
   refine⟨t,t1,_,_,rfl,rfl,bY.of (s9 _ _ w8),bY.of w9,by rw[hC];simp,by rw[aq,lC];show 2+1<=sizeLine;decide,(fun z=>absurd z (by simp)),fun _ r hr=>?_⟩
   have s10:=bP (o:=.tup (C.map V.str++ [.ref u])) (a_.refl J9) hr
   refine hQ _ (some _) _ ((((((s0.trans s5).trans s6).trans s7).trans s8).trans s9).trans s10) (.inl ⟨m,y,x,rfl⟩) ⟨r,rfl,?_⟩
   have et:oC p q m y=(if dQ y m=true then y else m,if dQ y m=true then m else y,0,1):=by unfold oC;simp only[aO nd,aO nn]
   rw[et]
   refine⟨u,?_,((((s6.trans s7).trans s8).trans s9).trans s10) _ _ w5⟩
   rw[az,hC]
   rfl
end
def Jf {H:Hp}{k:ah}{c:Int}(d:cQ H k c):∀xs,H k≠some (.tup xs):=fun xs z=>by
 obtain⟨⟨_,_,h1,_⟩,_⟩:=d
 rw[h1] at z;cases z
def kz {H H':Hp}{k:ah}{c:Int}(d:cQ H k c) (s:a_ H H'):cQ H' k c:=d.keep fun o e=>s _ _ e
def oO {H H':Hp}{k:ah}{c:Int}(d:cQ H k c) (s:dY k H H'):∀b xs,H b=some (.tup xs)->H' b=some (.tup xs):=fun b xs e=>s _ _ (fun z=>Jf d xs (z▸e)) e
def y9 {a:List Str}{m y:Str}(h:m∈a):(exc a m y).length<=a.length:=by
 unfold exc
 rw[aK,aG]
 have:=List.length_filter_lt_length_iff_exists (p:=fun n=>!decide (n=m)) (l:=a)
 have h2:=this.mpr ⟨m,h,by simp⟩
 omega
def P5 {a:List Str}{m y:Str}(h:∀n∈a,okN n) (hy:okN y):∀n∈exc a m y,okN n:=fun n hn=>by
 rcases kr.mp hn with z|z
 ·exact h n z.1
 ·rw[z];exact hy
def AH {a c:List Str}{m y:Str}(o:Cd a) (hm:m∈a) (hy:okN y) (pm:c.Perm (exc a m y)):Cd c:=by
 refine⟨?_,?_,fun n hn=>P5 o.ok hy n (pm.mem_iff.mp hn)⟩
 ·rw[pm.length_eq];unfold exc;rw[aK,aG];omega
 ·rw[pm.length_eq];exact bh (y9 hm) o.l4
def AI {A:List Str}{i:Int}(h0:0<=i) (h1:i<((A.map V.str).length:Int)):∃m∈A,qT (A.map V.str) i=some (.str m):=by
 obtain⟨h,e⟩:=sy h0 h1
 refine⟨A[i.toNat]'(by rwa[aq] at h),cA _,?_⟩
 rw[e,jA]
section
variable {P:aF}{w:ba}{K:Frag}{mg:Str->Option af}{base:Heap}
abbrev Yt:Stmt:=top 47
def Yu:List (Str×NameKind):=[(".0",.local),("name",.local),("one",.free)]
def Yv:List (Str×NameKind):=[(".0",.local),("name",.local),("other",.free)]
def Yw:List (Str×NameKind):=[(".0",.local),("k",.local),("_law_pick",.globalImplicit),("deck",.free)]
def Yx:(["name","one"]:List Str).Nodup:=by decide+kernel
def Yy:(["name","other"]:List Str).Nodup:=by decide+kernel
def P6:Sp:=fun vs H Q _=>∃(k r:ah) (c:Int) (p:jO),vs=[.ref k,.ref r]/\cQ H k c/\c<=40000/\jD H r p/\ig p/\f_ p/\
 ∀(t:ah) (p':jO) (m y:Str) (c':Int) (H':Hp),dY k H H'->cQ H' k c'->c'<=c+10->jD H' t p'->ig p'->Xp p p' m y->Q (.ref t) H'
def FW:bV ["deck","piece","one","other","first","second","times"] ["deck","piece"] (av Yt):={}
def Uw {f:ah}{fd:FuncData}(F:iV K "_law_exchanged" "_law_exchanged" Yt f fd) (T:Txt mg) (DP:Df P w K mg base 1 "_law_pick" ["deck","many"] gM):dO P w K mg base fO 2 f fd ["deck","piece"] P6:=by
 refine F.ok FW (fun vs H Q E h=>?_) (fun cdv A outer s H vs Q E hr h=>?_)
 ·obtain⟨k,r,c,p,rfl,_⟩:=h
  rfl
 ·obtain⟨k,r,c,p,rfl,dk,hc,hp,op,cp,hQ⟩:=h
  refine⟨_,ar (xZ (i:=2) FW.nd rfl (Or.inr rfl) (bg bx (bg bx (pv 1) ao) (cB DP hr (ae (pv 0) (ae (aR bM rfl T.len bB (ae (bg bx (pv 1) ao) aj)) aj)))))
   (ar (xZ (i:=3) FW.nd rfl (Or.inr rfl) (bg bx (bg bx (pv 1) ao) (cB DP hr (ae (pv 0) (ae (aR bM rfl T.len bB (ae (bg bx (pv 1) ao) aj)) aj)))))
   (ar (jX (i:=4) FW.nd (fE fq rfl T.tuple cu (ae (aR iw rfl T.sorted fK (ae (bR kN (ke (N:=["name","one"]) (g:=dU 0) (tc:=gj (gI Kk (cg 0) (cg 1))) (te:=cg 0) rfl (h_ (bg bx (pv 1) ao))
    (fk.one (v:="name") (fr:="one") (j:=2) (nm:=Yu) rfl rfl rfl rfl)
    (fun _ _ _=>aZ (i:=0) Yx) (fun _ _ _=>hV (br ml (pv 0) (pv 1) (bN _))) (fun _ _ _=>pv 0)) (cW (ae (pv 3) aj))) aj)) aj)))
   (ar (jX (i:=5) FW.nd (fE fq rfl T.tuple cu (ae (aR iw rfl T.sorted fK (ae (bR kN (ke (N:=["name","other"]) (g:=dU 0) (tc:=gj (gI Kk (cg 0) (cg 1))) (te:=cg 0) rfl (h_ (bg bx (pv 1) ao))
    (fk.one (v:="name") (fr:="other") (j:=3) (nm:=Yv) rfl rfl rfl rfl)
    (fun _ _ _=>aZ (i:=0) Yy) (fun _ _ _=>hV (br ml (pv 0) (pv 1) (bN _))) (fun _ _ _=>pv 0)) (cW (ae (pv 2) aj))) aj)) aj)))
   (ar (cN (br hU (cB DP hr (ae (pv 0) (ae ao aj))) ao (bN _)) (aE (bF (bR lj (bO (ae (pv 4) (ae (pv 5) aj))) (gQ yf (pv 1) (iu ao) jk)))) bL)
   (ar (jX (i:=6) FW.nd (fE fq rfl T.tuple cu (ae (ke (N:=["k","deck"]) (g:=dU 0) (tc:=qd) (te:=gI (Gg fun i j=>.int (i+j)) (tC (.int 1)) (mq gM [] E0 (cC (cg 1) (cC (tC (.int 400)) fD)))) rfl (xf rfl T.range (ae ao aj))
    (fk.one (v:="k") (fr:="deck") (j:=0) (nm:=Yw) rfl rfl rfl rfl)
    (fun _ _ _=>aZ (i:=0) S2) (fun _ _ _=>iK) (fun _ _ _=>bR fX ao (cB DP hr (ae (pv 1) (ae ao aj))))) aj)))
   (aE (bF (bR lj (bR lj (bO (ae (pv 4) (ae (pv 5) aj))) (pv 6)) (bO (ae (bg cU (cW (ae (bg bx (pv 1) ao) (ae (bR fX ao (cB DP hr (ae (pv 0) (ae ao aj)))) aj))) (cB DP hr (ae (pv 0) (ae ao aj)))) aj)))))))))),?_⟩
  obtain⟨a,b,e1,e2,e3⟩:=id hp
  have a1:=op.a.l1
  have a4:=op.a.l4
  have b1:=op.b.l1
  have b4:=op.b.l4
  have la:(p.a.map V.str).length=p.a.length:=aq _
  have lb:(p.b.map V.str).length=p.b.length:=aq _
  refine⟨_,rfl,r,_,0,_,rfl,rfl,bY.of e1,aT (j:=0) rfl,_,rfl,_,rfl,r,_,0,_,rfl,rfl,bY.of e1,aT (j:=0) rfl,a,_,rfl,.inr (bY.of e2),k,c,_,rfl,dk,by omega,by omega,by omega,fun i1 c1 H1 k1 d1 u1 g1 l1=>?_⟩
  obtain⟨m,hm,am⟩:=AI g1 l1
  have q1:=oO dk k1
  refine⟨a,_,i1,_,rfl,rfl,bY.of (q1 _ _ e2),am,?_⟩
  refine⟨_,rfl,r,_,1,_,rfl,rfl,bY.of (q1 _ _ e1),aT (j:=1) rfl,_,rfl,_,rfl,r,_,1,_,rfl,rfl,bY.of (q1 _ _ e1),aT (j:=1) rfl,b,_,rfl,.inr (bY.of (q1 _ _ e3)),k,c1,_,rfl,d1,by omega,by omega,by omega,fun i2 c2 H2 k2 d2 u2 g2 l2=>?_⟩
  obtain⟨y,hy,ay⟩:=AI g2 l2
  have q2:∀b xs,H b=some (.tup xs)->H2 b=some (.tup xs):=fun b xs z=>oO d1 k2 _ _ (q1 _ _ z)
  refine⟨b,_,i2,_,rfl,rfl,bY.of (q2 _ _ e3),ay,?_⟩
  have E1:=q2 _ _ e1
  have E2:=q2 _ _ e2
  have E3:=q2 _ _ e3
  have k02:dY k H H2:=k1.trans k2
  refine⟨_,rfl,r,_,0,_,rfl,rfl,bY.of E1,aT (j:=0) rfl,a,rfl,⟨_,bY.of E2⟩,fun L1 MW=>?_⟩
  refine yF none MW E2 (by omega) fun J1 PR hJ1=>?_
  refine⟨_,rfl,dF,fun x1 Po=>?_⟩
  exists Po,.lst [.str y],J1,x1,sa1,wa1,Ka1
  refine⟨L1,x1,_,_,rfl,rfl,sa1 _ _ hJ1,wa1,eM (dq (by rw[aq];have:=ej (fun n=>!decide (n=m)) p.a;simp only[aG];omega)),fun cl1 hc1=>?_⟩
  have em1:(p.a.filter fun n=>!decide (n=m)).map V.str++ [V.str y]=(exc p.a m y).map V.str:=by unfold exc;rw[bE];rfl
  rw[em1]
  exists hc1,.lst ((exc p.a m y).map V.str),Ka1,cl1,sb1,wb1,Kb1
  refine⟨cl1,exc p.a m y,rfl,cS.of wb1,by have:=y9 (y:=y) hm;omega,fun l1 C1 Gm Ri Pd=>?_⟩
  exists Gm,.lst (C1.map V.str),Kb1,l1,sc1,wc1,Kc1
  refine⟨l1,_,rfl,.inl ⟨cS.of wc1,fun t1 DV=>?_⟩⟩
  exists DV,.tup (C1.map V.str),Kc1,t1,sd1,wt1,G1
  have s1:a_ H2 G1:=(((PR.trans sa1).trans sb1).trans sc1).trans sd1
  have E1':=s1 _ _ E1
  have E3':=s1 _ _ E3
  refine⟨_,rfl,r,_,1,_,rfl,rfl,bY.of E1',aT (j:=1) rfl,b,rfl,⟨_,bY.of E3'⟩,fun L2 zu=>?_⟩
  refine yF none zu E3' (by omega) fun J2 sJ2 Pr=>?_
  refine⟨_,rfl,dF,fun x2 FO=>?_⟩
  exists FO,.lst [.str m],J2,x2,sa2,wa2,Ka2
  refine⟨L2,x2,_,_,rfl,rfl,sa2 _ _ Pr,wa2,eM (dq (by rw[aq];have:=ej (fun n=>!decide (n=y)) p.b;simp only[aG];omega)),fun cl2 Kq=>?_⟩
  have em2:(p.b.filter fun n=>!decide (n=y)).map V.str++ [V.str m]=(exc p.b y m).map V.str:=by unfold exc;rw[bE];rfl
  rw[em2]
  exists Kq,.lst ((exc p.b y m).map V.str),Ka2,cl2,KG,wb2,Kb2
  refine⟨cl2,exc p.b y m,rfl,cS.of wb2,by have:=y9 (y:=m) hy;omega,fun l2 C2 nK Rj XZ=>?_⟩
  exists nK,.lst (C2.map V.str),Kb2,l2,sc2,wc2,Kc2
  refine⟨l2,_,rfl,.inl ⟨cS.of wc2,fun t2 wV=>?_⟩⟩
  exists wV,.tup (C2.map V.str),Kc2,t2,sd2,wt2,G2
  have s2:a_ G1 G2:=(((sJ2.trans sa2).trans KG).trans sc2).trans sd2
  have s12:=s1.trans s2
  have D2:=kz d2 s12
  have W1:=s2 _ _ wt1
  have Yz:=s2 _ _ E1'
  have kG:dY k H G2:=k02.trans s12.keep
  have SW:y∉p.a:=fun z=>cp.no _ z hy
  have SX:m∉p.b:=cp.no _ hm
  have x1:wU p.a m y C1:=uv cp.a.nodup SW Ri Pd
  have x2:wU p.b y m C2:=uv cp.b.nodup SX Rj XZ
  have xpp:∀t o c:Int,Xp p ⟨C1,C2,t,o,c⟩ m y:=fun t o c=>⟨hm,hy,x1,x2⟩
  have Gq:Cd C1:=AH op.a hm (op.b.ok y hy) Ri
  have Gr:Cd C2:=AH op.b hy (op.a.ok m hm) Rj
  refine⟨_,rfl,k,c2,4,rfl,D2,by omega,by decide,by decide,fun i3 c3 H3 k3 d3 u3 g3 l3=>⟨rfl,_,rfl,?_⟩⟩
  have q3:=oO D2 k3
  have V1:=q3 _ _ W1
  have V2:=q3 _ _ wt2
  have F1:=q3 _ _ Yz
  have kH3:dY k H H3:=kG.trans k3
  refine eG (fun _=>?_) (fun _=>?_)
  ·refine⟨_,rfl,_,rfl,dF,fun x1 Po=>?_⟩
   exists Po,.tup [.ref t1,.ref t2],H3,x1,z1,y1,M1
   refine⟨_,rfl,_,rfl,r,_,rfl,bY.of (z1 _ _ F1),(show ¬(hZ 5 0 (some 2)=0/\hZ 5 5 none=5) by decide+kernel),fun x2 FO=>?_⟩
   have z2:=aN FO (.tup [.int p.t,.int p.o,.int p.c])
   have y2:upd M1 x2 (.tup [.int p.t,.int p.o,.int p.c]) x2=some (.tup [.int p.t,.int p.o,.int p.c]):=az
   refine⟨x1,x2,_,_,rfl,rfl,bY.of (z2 _ _ y1),bY.of y2,by simp,by show 2+3<=sizeLine;decide,(fun z=>absurd z (by simp)),fun _ rr OV=>?_⟩
   have z3:=(z1.trans z2).trans (aN OV (.tup ([.ref t1,.ref t2]++ [.int p.t,.int p.o,.int p.c])))
   exact hQ rr ⟨C1,C2,p.t,p.o,p.c⟩ m y c3 _ (kH3.trans z3.keep) (kz d3 z3) (by omega) ⟨t1,t2,az,z3 _ _ V1,z3 _ _ V2⟩ ⟨Gq,Gr,op.t1,op.t9,op.o1,op.o9,op.c1,op.c9⟩ (xpp _ _ _)
  refine⟨_,rfl,by decide,by decide,fun D hD=>?_⟩
  have nD:k≠D:=d3.ne hD
  refine kO (J:=Mo 0 2) (n:=2) (f:=fun i=>.int i) (fun i ys bW J=>∃(ts:List Int) (c4:Int),ys=ts.map V.int/\(∃v,bW=[v,some (.ref k)])/\dY k H3 J/\cQ J k c4/\c4<=c3+i/\ts.length=i/\∀t∈ts,1<=t/\t<=1000000000) hD (by decide)
    ⟨[],c3,rfl,⟨none,rfl⟩,dY.new hD _,d3.new hD,by simp,rfl,by simp⟩ (fun i ys bW J hi _ _=>xJ 2 i J hi) ?_ ?_
  ·rintro i ys iE J hi hy ⟨ts,c4,rfl,⟨v2,rfl⟩,kJ,dJ,VB,OS,K_⟩
   refine⟨_,rfl,k,c4,400,rfl,dJ,by omega,by decide,by decide,fun ra ca Ja ka da ea ga la'=>⟨_,_,rfl,rfl,?_⟩⟩
   refine⟨ka D _ nD.symm hy,ts++ [1+ra],ca,by simp,⟨_,rfl⟩,fun b o n e=>?_,da.keep (fun o e=>by rw[aV nD];exact e),by omega,by simp[OS],fun x hx=>?_⟩
   ·have nb:b≠D:=fun z=>by rw[z,hD] at e;cases e
    rw[aV nb]
    exact ka b o n (kJ b o n e)
   ·rcases c_.mp hx with hx|hx
    ·exact K_ x hx
    ·rw[bU.mp hx];exact⟨by omega,by omega⟩
  ·rintro ys iE J hy ⟨ts,c4,rfl,⟨v2,rfl⟩,kJ,dJ,VB,OS,K_⟩
   have wV:∃ta tb:Int,ts=[ta,tb]:=by
    match ts,OS with
    | [ta,tb],_=>exact⟨ta,tb,rfl⟩
   obtain⟨ta,tb,rfl⟩:=wV
   have S_:=K_ ta (by simp)
   have Ta:=K_ tb (by simp)
   have q4:=oO d3 kJ
   refine⟨D,_,rfl,.inl ⟨cS.of hy,fun tt XF=>?_⟩⟩
   have z0:=aN XF (.tup ([ta,tb].map V.int))
   have y0:upd J tt (.tup ([ta,tb].map V.int)) tt=some (.tup [.int ta,.int tb]):=az
   try dsimp only
   generalize upd J tt (.tup ([ta,tb].map V.int))=M0 at*
   have dM0:=kz dJ z0
   refine⟨_,rfl,_,rfl,dF,fun x1 Po=>?_⟩
   exists Po,.tup [.ref t1,.ref t2],M0,x1,z1,y1,M1
   refine⟨_,rfl,x1,tt,_,_,rfl,rfl,bY.of y1,bY.of (z1 _ _ y0),by simp,by show 2+2<=sizeLine;decide,(fun z=>absurd z (by simp)),fun _ x2 FO=>?_⟩
   have z2:=aN FO (.tup ([.ref t1,.ref t2]++ [.int ta,.int tb]))
   have y2:upd M1 x2 (.tup ([.ref t1,.ref t2]++ [.int ta,.int tb])) x2=some (.tup [.ref t1,.ref t2,.int ta,.int tb]):=az
   try dsimp only
   generalize upd M1 x2 (.tup ([.ref t1,.ref t2]++ [.int ta,.int tb]))=M2 at*
   have VH:=(z0.trans z1).trans z2
   have q5:∀b xs,H3 b=some (.tup xs)->M2 b=some (.tup xs):=fun b xs z=>VH _ _ (q4 _ _ z)
   refine⟨_,rfl,r,_,4,_,rfl,rfl,bY.of (q5 _ _ F1),aT (j:=4) rfl,_,rfl,k,c4,9,rfl,kz dJ VH,by omega,by decide,by decide,fun ra ca Ja ka da ea ga la'=>⟨_,_,rfl,rfl,dF,fun l hl=>?_⟩⟩
   refine⟨_,rfl,k,ca,2,rfl,da.new hl,by omega,by decide,by decide,fun rc cc Jc kc dc ec gc lc=>?_⟩
   have S9:=kc l _ (da.ne hl).symm az
   have hv:∃t:Int,qT [V.int p.c,V.int (1+ra)] rc=some (.int t)/\1<=t/\t<=1000000000:=by
    have:rc=0\/rc=1:=by omega
    rcases this with rfl|rfl
    ·exact⟨_,aT (j:=0) rfl,op.c1,op.c9⟩
    ·exact⟨_,aT (j:=1) rfl,by omega,by omega⟩
   obtain⟨co,Xy,Xz,XA⟩:=hv
   refine⟨l,_,rc,_,rfl,rfl,cS.of S9,Xy,dF,fun x3 hx3=>?_⟩
   have kM:dY k M2 Jc:=ka.trans ((dY.new hl _).trans kc)
   have q6:=oO (kz dJ VH) kM
   have z3:=aN hx3 (.tup [.int co])
   refine⟨x2,x3,_,_,rfl,rfl,bY.of (z3 _ _ (q6 _ _ y2)),bY.of az,by simp,by show 4+1<=sizeLine;decide,(fun z=>absurd z (by simp)),fun _ rr OV=>?_⟩
   have z4:=z3.trans (aN OV (.tup ([.ref t1,.ref t2,.int ta,.int tb]++ [.int co])))
   have q7:∀b xs,H3 b=some (.tup xs)->upd (upd Jc x3 (.tup [.int co])) rr (.tup ([.ref t1,.ref t2,.int ta,.int tb]++ [.int co])) b=some (.tup xs):=fun b xs z=>z4 _ _ (q6 _ _ (q5 _ _ z))
   exact hQ rr ⟨C1,C2,ta,tb,co⟩ m y cc _ (((kH3.trans kJ).trans VH.keep).trans (kM.trans z4.keep)) (kz dc z4) (by omega) ⟨t1,t2,az,q7 _ _ V1,q7 _ _ V2⟩ ⟨Gq,Gr,S_.1,S_.2,Ta.1,Ta.2,Xz,XA⟩ (xpp _ _ _)
abbrev P7:Stmt:=top 56
def tL:bV ["pieces","found","k","one","piece","other","later","trial"] ["pieces"] (av P7):={}
def MX:Sp:=fun vs H Q _=>∃(l2:ah) (us:List V) (rows:Rows),vs=[.ref l2]/\H l2=some (.lst us)/\Paired (jE H) us rows/\(∀x∈rows,ig x.2/\f_ x.2)/\rows.length<=31/\
 ∀l ws H',H l=none->a_ H H'->H' l=some (.lst ws)->Paired (nj H') ws (ub rows)->Q (.ref l) H'
def P8 {f:ah}{fd:FuncData}(F:iV K "_law_trials_of" "_law_trials_of" P7 f fd) (T:Txt mg) (DT:Df P w K mg base 2 "_law_trial" ["one","other"] Uu):dO P w K mg base fO 3 f fd ["pieces"] MX:=by
 refine F.ok tL (fun vs H Q E h=>?_) (fun cdv A outer s H vs Q E hr h=>?_)
 ·obtain⟨l2,us,rows,rfl,_⟩:=h
  rfl
 ·obtain⟨l2,us,rows,rfl,w0,Rl,eE,l30,hQ⟩:=h
  refine⟨_,ar (jX (i:=1) tL.nd (cW aj))
   (ar (lN eR rfl (zX rfl T.enum (ae (pv 0) aj)) (fW rfl (bz (aZ (i:=2) tL.nd) (bz (fW rfl (bz (aZ (i:=3) tL.nd) (bz (aZ (i:=4) tL.nd) eV))) eV)))
    (aE (lN eR rfl (jh (gQ oZ (pv 0) (iu (bR fX (pv 2) ao)) jk)) (fW rfl (bz (aZ (i:=5) tL.nd) (bz (aZ (i:=6) tL.nd) eV)))
     (ar (jX (i:=7) tL.nd (cB DT hr (ae (pv 4) (ae (pv 6) aj))))
     (aE (cN (br Dj (pv 7) iT (bN _)) (aE (gs (pP cw d_ ef gw (pv 1) (ae (bO (ae (pv 3) (ae (pv 5) (ae (pv 7) aj)))) aj)))) bL))))))
   (aE (bF (pv 1)))),?_⟩
  refine⟨dF,fun l hl=>?_⟩
  exists hl,.lst [],H,l,s1,w1,M2
  have w2:=s1 _ _ w0
  have Lo:=w1
  have Px:l2≠l:=fun z=>by rw[z,hl] at w0;cases w0
  have jc:=s1
  have T6:Paired (jE M2) us rows:=au Rl fun _ _ z=>z.up fun b xs e=>s1 _ _ e
  have Rk:=bQ Rl
  refine⟨_,rfl,l2,rfl,⟨_,cS.of w2⟩,xE (K:=K) (a:=l2) (xs:=us) (fun i bW H'=>∃(v3 v4 v5 v6 v7 v8:Option V) (ws:List V) (L:List Row3),bW=[some (.ref l2),some (.ref l),v3,v4,v5,v6,v7,v8]/\dY l M2 H'/\H' l=some (.lst ws)/\Paired (nj H') ws L/\L++ub (rows.drop i)=ub rows/\L.length<=31*i)
   ⟨_,_,_,_,_,_,[],[],rfl,dY.refl _ _,Lo,.nil,rfl,by simp⟩ (fun i bW H' _ h=>by obtain⟨_,_,_,_,_,_,_,_,_,kp,_⟩:=h;exact cS.of (kp _ _ Px w2)) ?_ ?_⟩
  ·rintro i x bW H' T hx ⟨v3,v4,v5,v6,v7,v8,ws,L,rfl,kp,hL,pr,eL,lL⟩ hT
   have hiu:i<us.length:=(bw.mp hx).1
   have hi:i<rows.length:=by omega
   obtain⟨_,hu,u,r,rfl,Ob,Yh⟩:=ez T6 i hi
   rw[hu] at hx
   cases hx
   have tk:∀{b xs},M2 b=some (.tup xs)->H' b=some (.tup xs):=fun{b xs} e=>kp _ _ (fun z=>by rw[z,Lo] at e;cases e) e
   exists hT,.tup [.int i,.ref u],H',T,sT,wT,M3
   have k3:dY l M2 M3:=kp.trans sT.keep
   have dp:rows.drop i=rows[i]::rows.drop (i+1):=jH hi
   have Py:=eE rows[i] (cA hi)
   refine⟨T,_,rfl,bY.of wT,rfl,_,_,rfl,_,_,rfl,u,_,rfl,bY.of (sT _ _ (tk Ob)),rfl,_,_,rfl,_,_,rfl,rfl,rfl,?_⟩
   refine⟨_,rfl,_,rfl,_,_,rfl,rfl,_,rfl,l2,us,rfl,cS.of (k3 _ _ Px w2),fun q hq=>?_⟩
   have Pz:iU us (some ((i:Int)+1)) none=us.drop (i+1):=by
    unfold iU
    rw[show((i:Int)+1)=((i+1:Nat):Int) by omega,HT.lh,HT.qQ,show min (i+1) us.length=i+1 by omega,cX (by simp)]
   rw[Pz]
   have sq:=aN hq (.lst (us.drop (i+1)))
   have wq:upd M3 q (.lst (us.drop (i+1))) q=some (.lst (us.drop (i+1))):=az
   have nq:q≠l:=fun z=>by rw[z,sT _ _ hL] at hq;cases hq
   generalize upd M3 q (.lst (us.drop (i+1)))=M4 at*
   have T_:=sT.trans sq
   refine⟨q,rfl,⟨_,cS.of wq⟩,nW (K:=K) (a:=q) (xs:=us.drop (i+1)) (fun m bW H'=>∃(v6 v7 v8:Option V) (ws:List V) (L:List Row3),bW=[some (.ref l2),some (.ref l),some (.int i),some (.int rows[i].1),some (.ref r),v6,v7,v8]/\dY l M4 H'/\H' l=some (.lst ws)/\Paired (nj H') ws L/\(L++FR rows[i] ((rows.drop (i+1)).drop m))++ub (rows.drop (i+1))=ub rows/\L.length<=31*i+m)
    ⟨_,_,_,ws,L,rfl,dY.refl _ _,T_ _ _ hL,au pr fun a b h=>h.up fun b xs e=>T_ _ _ e,by rw[dp] at eL;show(L++FR rows[i] (rows.drop (i+1)))++_=_;rw[gS];exact eL,by omega⟩ (fun m bW H' _ h=>by obtain⟨_,_,_,_,_,_,BN,_⟩:=h;exact cS.of (BN _ _ nq wq)) ?_ ?_⟩
   ·rintro m x bW H5 hx ⟨w6,w7,w8,Cy,L5,rfl,k5,IJ,Lv,e5,l5⟩
    rw[List.getElem?_drop] at hx
    have hju:i+1+m<us.length:=(bw.mp hx).1
    have hj:i+1+m<rows.length:=by omega
    obtain⟨_,PB,u',r',rfl,PD,PF⟩:=ez T6 (i+1+m) hj
    rw[PB] at hx
    cases hx
    have JU:∀b xs,M2 b=some (.tup xs)->H5 b=some (.tup xs):=fun b xs e=>k5 _ _ (fun z=>by rw[z,Lo] at e;cases e) (sq _ _ (sT _ _ (tk e)))
    refine⟨u',_,rfl,bY.of (JU _ _ PD),rfl,_,_,rfl,_,_,rfl,rfl,?_⟩
    have VE:=eE rows[i+1+m] (cA hj)
    refine⟨_,rfl,_,rfl,r,r',rows[i].2,rows[i+1+m].2,rfl,Yh.up JU,PF.up JU,Py.1,VE.1,Py.2,VE.2,fun v rr H6 s6 td dv=>?_⟩
    have er:=AD Py.2 td
    have dd:(rows.drop (i+1)).drop m=rows[i+1+m]::(rows.drop (i+1)).drop (m+1):=by
     rw[wx,wx,show i+1+(m+1)=(i+1+m)+1 by omega]
     exact jH hj
    rw[dd] at e5
    have PH:((L5++yO rows[i].1 rows[i+1+m].1 rr)++FR rows[i] ((rows.drop (i+1)).drop (m+1)))++ub (rows.drop (i+1))=ub rows:=by
     rw[<-e5,er,gS L5];rfl
    refine⟨_,rfl,rfl,_,rfl,?_⟩
    have Ua:Paired (nj H6) Cy L5:=au Lv fun a b h=>h.up fun b xs e=>s6 _ _ e
    have k6:dY l M4 H6:=k5.trans s6.keep
    cases rr with
    |none=>
     have:v=.eA:=dv
     subst this
     refine ite_no (by decide) ?_
     exact⟨_,_,_,Cy,L5,rfl,k6,s6 _ _ IJ,Ua,by rw[show yO rows[i].1 rows[i+1+m].1 none=[] from rfl,eJ] at PH;exact PH,by omega⟩
    |some t=>
     obtain⟨y,rfl,ty⟩:=dv
     refine ite_yes (by rw[bC (by simp)];rfl) ?_
     refine⟨_,rfl,.inl ⟨rfl,_,cS.of (s6 _ _ IJ)⟩,_,rfl,_,rfl,_,rfl,dF,fun a ha=>?_⟩
     have sa:=aN ha (.tup [.int rows[i].1,.int rows[i+1+m].1,.ref y])
     have wa:upd H6 a (.tup [.int rows[i].1,.int rows[i+1+m].1,.ref y]) a=some (.tup [.int rows[i].1,.int rows[i+1+m].1,.ref y]):=az
     have Ub:=sa _ _ (s6 _ _ IJ)
     generalize upd H6 a (.tup [.int rows[i].1,.int rows[i+1+m].1,.ref y])=H7 at*
     have l5':=oW Lv
     refine⟨l,Cy,.ref a,rfl,rfl,Ub,dq (by omega),?_⟩
     have kt:∀b xs,H7 b=some (.tup xs)->upd H7 l (.lst (Cy++ [.ref a])) b=some (.tup xs):=fun b xs e=>by rw[aV (fun z=>by rw[z,Ub] at e;cases e)];exact e
     refine⟨_,_,_,Cy++ [.ref a],L5++ [(rows[i].1,rows[i+1+m].1,t)],rfl,fun b o n e=>by rw[aV n];exact sa _ _ (k6 _ _ n e),az,dN (au Ua fun a b h=>h.up fun b xs e=>kt _ _ (sa _ _ e)) ⟨a,y,rfl,kt _ _ wa,(ty.same sa).up kt⟩,PH,by rw[aK,aG];omega⟩
   ·rintro bW H5 ⟨w6,w7,w8,Cy,L5,rfl,k5,IJ,Lv,e5,l5⟩
    rw[show(rows.drop (i+1)).drop (us.drop (i+1)).length=[] from RH (by rw[dB,dB];omega)] at e5
    refine⟨_,_,_,_,_,_,Cy,L5,rfl,fun b o n e=>k5 _ _ n (sq _ _ (k3 _ _ n e)),IJ,Lv,by rw[show FR rows[i] []=[] from rfl,eJ] at e5;exact e5,by rw[dB] at l5;omega⟩
  ·rintro bW H' ⟨v3,v4,v5,v6,v7,v8,ws,L,rfl,kp,hL,pr,eL,lL⟩
   rw[Rk,List.drop_length,show ub []=[] from rfl,eJ] at eL
   subst eL
   refine⟨_,rfl,hQ l ws H' hl (fun b o e=>kp _ _ (fun z=>by rw[z,hl] at e;cases e) (jc _ _ e)) hL pr⟩
end
abbrev y_:Stmt:=top 50
section
variable {P:aF}{w:ba}{K:Frag}{mg:Str->Option af}{base:Heap}
def CD {z:PyData}(h:zp z "str"=false):gL z=false:=by
 cases z with
 |str x=>cases h
 |none=>rfl
 |bool b=>rfl
 |int i=>rfl
 |list ds=>rfl
 |tuple ds=>rfl
 |dict de=>rfl
def tM {z:PyData}(h:vt z=false):eI z=false:=by
 cases z with
 |int i=>cases h
 |none=>rfl
 |bool b=>rfl
 |str i=>rfl
 |list ds=>rfl
 |tuple ds=>rfl
 |dict de=>rfl
def YA:bV ["thing"] ["thing"] (av y_):={}
def FX {f:ah}{fd:FuncData}(F:iV K "_law_is_rower" "_law_is_rower" y_ f fd) (T:Txt mg):dO P w K mg base fO 1 f fd ["thing"] (wR eQ):=by
 refine F.ok YA (fun vs H Q E h=>?_) (fun cdv A outer s H vs Q E hr h=>?_)
 ·obtain⟨k,d,v,rfl,_⟩:=h
  rfl
 ·obtain⟨k,d,v,rfl,t,hf,q⟩:=h
  refine⟨_,ar (cN (PW.pt (kE (fJ (fG (aR fF rfl T.sv aD (ae (pv 0) (ae (gH (v:=.ty "tuple") rfl T.tuple cu rfl) aj)))))
    (kE (br ml (aR bM rfl T.len bB (ae (pv 0) aj)) ao (bN _))
    (lK (fJ (fG (aR fF rfl T.sv aD (ae (bg bx (pv 0) ao) (ae (gH (v:=.ty "str") rfl T.str gD rfl) aj)))))))))
    (aE (bF mY)) bL)
   (ar (cN (PW.pt (kE (fJ (qP qM qM ao (aR qV rfl T.len bB (ae (bg bx (pv 0) ao) aj)) ao))
    (lK (br (qh hr.units) (ke (N:=["sign"]) rfl (Hm (bg bx (pv 0) ao)) (fk.closed rfl)
     (fun _ _ _=>aZ (i:=0) (W_ _)) (fun _ _ _=>hV (fJ (qP o7 o7 aW (pv 0) aW))) (fun _ _ _=>pv 0)) (cW aj) (bN _)))))
    (aE (bF mY)) bL)
   (ar (cN (PW.pt (kE (fJ (fG (aR fF rfl T.sv aD (ae (bg bx (pv 0) ao) (ae (gH (v:=.ty "str") rfl T.str gD rfl) aj)))))
    (lK (br (E_ hr.units) (bg bx (pv 0) ao) (bO (ae aW (ae aW (ae aW aj)))) (by with_unfolding_all rfl)))))
    (aE (bF mY)) bL)
   (aE (bF (jB (aR fF rfl T.sv aD (ae (bg bx (pv 0) ao) (ae (gH (v:=.ty "int") rfl T.int uJ rfl) aj)))
    (jB (Bj (aR fF rfl T.sv aD (ae (bg bx (pv 0) ao) (ae (gH (v:=.ty "bool") rfl T.bool tR rfl) aj))))
    (lM (qO qM qN ao (bg bx (pv 0) ao) (bR lQ ao ao))))))))),?_⟩
  refine⟨_,rfl,k,_,_,d,rfl,t,.inr (.inr (.inr (.inl rfl))),_,rfl,?_⟩
  have no:∀H',a_ H H'->eQ d=false->Q (.bl false) H':=fun H' s' e=>by have:=q H' s';rw[e] at this;exact this
  refine eG (fun c=>?_) (fun c=>?_)
  ·refine pZ (no H (a_.refl _) ?_)
   cases d with
   |tuple ds=>cases c
   |_=>rfl
  ·obtain⟨ds,rfl⟩:=o_ (d:=d) (by simpa using c)
   obtain⟨a,xs,rfl,hk,ha,mD⟩:=eO.mp t
   have hl:=gK mD
   refine⟨_,rfl,a,xs,rfl,.inr (bY.of ha),rfl,_,rfl,?_⟩
   refine eG (fun c1=>?_) (fun c1=>?_)
   ·refine pZ (no H (a_.refl _) ?_)
    have:ds.length≠3:=fun z=>HS c1 (by rw[hl,z];rfl)
    exact vw this
   ·have l3:ds.length=3:=by
     have e3:V.int (xs.length:Int)=V.int 3:=v_eq c1
     injection e3 with e3
     omega
    obtain⟨dn,B8,dw,rfl⟩:=SO l3
    obtain⟨x1,r1,rfl,t1,mD⟩:=bS.mp mD
    obtain⟨x2,r2,rfl,t2,mD⟩:=bS.mp mD
    obtain⟨x3,r3,rfl,t3,mD⟩:=bS.mp mD
    rw[eg] at mD
    subst mD
    have Ac:=(Bd.o8 hf).1
    have rK:eQ (.tuple [dn,B8,dw])=(fm dn&&(gL B8&&eI dw)):=rfl
    have i0:∀{H':Hp},a_ H H'->∀{R:VK},R x1 H'->fZ K (.ref a) (.int 0) H' R:=fun s' R h=>⟨a,_,0,x1,rfl,rfl,bY.of (s' _ _ ha),aT (j:=0) rfl,h⟩
    have i1:∀{H':Hp},a_ H H'->∀{R:VK},R x2 H'->fZ K (.ref a) (.int 1) H' R:=fun s' R h=>⟨a,_,1,x2,rfl,rfl,bY.of (s' _ _ ha),aT (j:=1) rfl,h⟩
    have i2:∀{H':Hp},a_ H H'->∀{R:VK},R x3 H'->fZ K (.ref a) (.int 2) H' R:=fun s' R h=>⟨a,_,2,x3,rfl,rfl,bY.of (s' _ _ ha),aT (j:=2) rfl,h⟩
    refine⟨_,rfl,i0 (a_.refl _) ?_⟩
    refine⟨k,_,_,dn,rfl,t1,.inr (.inr (.inl rfl)),_,rfl,?_⟩
    refine eG (fun c2=>?_) (fun c2=>?_)
    ·refine no H (a_.refl _) ?_
     rw[rK,Fw (by simpa using c2),bj]
    ·obtain⟨x,rfl⟩:=DG (d:=dn) (by simpa using c2)
     rw[eY] at t1
     subst t1
     have hxl:=Bd.Hn (Ac (.str x) (by simp))
     have YB:PyData.strOk x=true:=by
      have:=(Ac (.str x) (by simp)).leaf
      rw[gY,cI] at this
      exact this.2
     have VI:fm (.str x)=((decide (1<=(x.length:Int))&&decide ((x.length:Int)<=8))&&(x.cps.toList.map sgn).all id):=rfl
     refine⟨_,rfl,i0 (a_.refl _) ?_⟩
     refine⟨x,rfl,bh hxl (by decide),_,_,rfl,rfl,_,rfl,?_⟩
     refine eG (fun c3=>?_) (fun c3=>?_)
     ·refine⟨_,_,rfl,rfl,_,rfl,?_⟩
      refine eG (fun c4=>?_) (fun c4=>?_)
      ·refine pZ (no H (a_.refl _) ?_)
       rw[rK,VI,show decide ((x.length:Int)<=8)=false from bC (by
        have:¬(x.length:Int)<9:=by simpa using c4
        omega),eZ,bj,bj]
      ·have Z2:(x.length:Int)<9:=by simpa using c4
       refine⟨_,rfl,a,_,0,_,rfl,rfl,bY.of ha,aT (j:=0) rfl,x,rfl,fun D hD=>?_⟩
       refine lD (J:=Mt x) (n:=x.cps.size) (f:=fun i=>.str ⟨#[x.cps.getD i 0]⟩) (fun i ys bW H'=>ys=vB (rg (x.cps.toList.take i))/\(∃v,bW=[v])/\H'=upd H D (.lst ys)) hD (by have:x.cps.size=x.length:=rfl;omega)
        ⟨rfl,⟨none,rfl⟩,rfl⟩ (fun i ys bW H' hi _ _=>DH x i H' hi) ?_ ?_
       ·rintro i ys bW H' hi hy ⟨e1,⟨v,rfl⟩,rfl⟩
        have yes:sgn (x.cps.getD i 0)=true->vB (rg (x.cps.toList.take (i+1)))=ys:=fun z=>by
         rw[sx hi,e1,HY z]
        have nay:sgn (x.cps.getD i 0)=false->vB (rg (x.cps.toList.take (i+1)))=ys++ [V.str ⟨#[x.cps.getD i 0]⟩]:=fun z=>by
         rw[sx hi,e1,HZ z]
         unfold vB
         rw[bE]
         rfl
        refine⟨_,rfl,_,_,rfl,rfl,_,rfl,?_⟩
        refine eG (fun c5=>?_) (fun c5=>?_)
        ·refine⟨_,_,rfl,rfl,_,rfl,?_⟩
         refine eG (fun c6=>?_) (fun c6=>?_)
         ·refine⟨_,rfl,hy,(nay ?_).symm,⟨_,rfl⟩,qK⟩
          show(_&&_)=false
          rw[c5,ck]
          simpa using c6
         ·refine⟨hy,(yes ?_).symm,⟨_,rfl⟩,rfl⟩
          show(_&&_)=true
          rw[c5,ck]
          simpa using c6
        ·refine⟨_,rfl,pZ ?_⟩
         refine⟨_,rfl,hy,(nay ?_).symm,⟨_,rfl⟩,qK⟩
         show(_&&_)=false
         rw[show(!decide ((⟨#[x.cps.getD i 0]⟩:Str).cps.toList<("a":Str).cps.toList))=false by simpa using c5,bj]
       ·rintro ys bW H' hy ⟨e1,⟨v,rfl⟩,rfl⟩
        rw[cX (by simp)] at e1
        subst e1
        have s1:a_ H (upd H D (.lst (vB (rg x.cps.toList)))):=aN hD _
        generalize hH1:upd H D (.lst (vB (rg x.cps.toList)))=H1 at*
        refine⟨dF,fun p hp=>?_⟩
        have hDp:D≠p:=dj hy hp
        have s2:a_ H1 (upd H1 p (.lst [])):=aN hp _
        have hDa:D≠a:=fun z=>by rw[z,ha] at hD;cases hD
        have wk:p≠a:=fun z=>by have:=s1 _ _ ha;rw[<-z,hp] at this;cases this
        refine⟨a,a,.list (vA (rg x.cps.toList)),.list [],jC.mpr ⟨D,_,rfl,hDa,s2 _ _ hy,vC _⟩,jC.mpr ⟨p,_,rfl,wk,az,eg.mpr rfl⟩,
         HW (fun c hc=>?_),pb,_,rfl,?_⟩
        ·have C7:=(dz.mp hc).1
         unfold PyData.strOk at YB
         rw[Array.all_eq_true'] at YB
         exact aX (YB c (by simpa using C7))
        ·rw[K2,HX]
         have s12:=s1.trans s2
         generalize upd H1 p (.lst [])=H2 at*
         refine eG (fun c5=>?_) (fun c5=>?_)
         ·refine no H2 s12 ?_
          rw[rK,VI,show(x.cps.toList.map sgn).all id=false by simpa using c5,eZ,bj]
         ·have Xq:(x.cps.toList.map sgn).all id=true:=by
           cases hb:(x.cps.toList.map sgn).all id with
           |true=>rfl
           |false=>rw[hb] at c5;exact absurd rfl c5
          have nT:fm (.str x)=true:=by
           rw[VI,Xq,zo,cI,qy,qy]
           have:0<(x.length:Int):=aX c3
           omega
          rw[nT,ck] at rK
          refine⟨_,rfl,a,_,1,_,rfl,rfl,bY.of (s12 _ _ ha),aT (j:=1) rfl,k,_,_,B8,rfl,t2.keep s12.keep,.inr (.inr (.inl rfl)),_,rfl,?_⟩
          refine eG (fun c6=>?_) (fun c6=>?_)
          ·refine pZ (no H2 s12 ?_)
           rw[rK,CD (by simpa using c6),bj]
          ·refine⟨_,rfl,a,_,1,_,rfl,rfl,bY.of (s12 _ _ ha),aT (j:=1) rfl,dF,fun p3 VJ=>?_⟩
           have s3:a_ H2 (upd H2 p3 (.tup [.str "port",.str "starboard",.str "both"])):=aN VJ _
           have s13:=s12.trans s3
           refine⟨k,a,B8,vv,t2.keep s13.keep,.inl (tK (dj (s12 _ _ ha) VJ).symm),qX.lay (Ac B8 (by simp)),vz,_,rfl,?_⟩
           generalize upd H2 p3 (.tup [.str "port",.str "starboard",.str "both"])=H3 at*
           refine eG (fun c7=>?_) (fun c7=>?_)
           ·refine no H3 s13 ?_
            have FN:(!gL B8)=true:=c7
            rw[rK,show gL B8=false by simpa using FN,bj]
           ·have FN:gL B8=true:=by
             have:¬(!gL B8)=true:=c7
             simpa using this
            rw[FN,ck] at rK
            refine⟨_,rfl,a,_,2,_,rfl,rfl,bY.of (s13 _ _ ha),aT (j:=2) rfl,k,_,_,dw,rfl,t3.keep s13.keep,.inl rfl,_,rfl,?_⟩
            have q4:=q H3 s13
            have e:=xI dw
            refine eG (fun c8=>?_) (fun c8=>?_)
            ·refine⟨_,rfl,a,_,2,_,rfl,rfl,bY.of (s13 _ _ ha),aT (j:=2) rfl,k,_,_,dw,rfl,t3.keep s13.keep,.inr (.inl rfl),_,rfl,_,rfl,?_⟩
             rw[c8,ck] at e
             refine eG (fun cb=>?_) (fun cb=>?_)
             ·cases dw with
              |int i=>
               rw[i9] at t3
               subst t3
               refine⟨_,rfl,a,_,2,_,rfl,rfl,bY.of (s13 _ _ ha),aT (j:=2) rfl,_,_,rfl,rfl,_,rfl,?_⟩
               have wEq:eI (.int i)=(decide (1<=i)&&decide (i<=1000000)):=rfl
               refine eG (fun c9=>?_) (fun c9=>?_)
               ·refine⟨_,_,rfl,rfl,⟨by decide,by decide,by decide⟩,_,_,rfl,rfl,?_⟩
                have h9:(0:Int)<i:=aX c9
                rw[rK,wEq,show decide (1<=i)=true from aJ (by omega),ck] at q4
                exact q4
               ·have h9:¬(0:Int)<i:=by simpa using c9
                rw[rK,wEq,show decide (1<=i)=false from bC (by omega),bj] at q4
                exact q4
              |bool b=>cases cb
              |_=>cases c8
             ·rw[rK,tM (by rw[<-e];simpa using cb)] at q4
              exact q4
            ·rw[rK,tM (by rw[<-e,show zp dw "int"=false by simpa using c8];rfl)] at q4
             exact q4
     ·refine⟨_,rfl,pZ (pZ (no H (a_.refl _) ?_))⟩
      rw[rK,VI,show decide (1<=(x.length:Int))=false from bC (by
       have:¬(0:Int)<(x.length:Int):=by simpa using c3
       omega),bj,bj,bj]
end
end K12
namespace L2
open PySem PySem.Spec PyProof.Rows PySem.W
section
variable {X:Cx}
def AJ (a:ah) (H:Hp):Prop:=∃cls dW,H a=some (sO a cls dW)
def AJ.zr {a:ah}{pins:List (ah×Obj)}{σ:St}{H:Hp}{s:ai}(h:AJ a H) (e:X.A.handled=some (.ref a)) (I:Inv X pins σ H s):HC X.A s.heap:=by
 obtain⟨cls,dW,ha⟩:=h
 obtain⟨⟨oe,vs,h1,_,_,h3,h4⟩,_⟩:=I.eE a _ ha
 exact⟨a,oe,vs,e,h1,h3,h4⟩
def AJ.same {a:ah}{H H':Hp}(h:AJ a H) (s:a_ H H'):AJ a H':=let⟨c,d,e⟩:=h;⟨c,d,s _ _ e⟩
def MY (K:PySem.W.Frag) (a:ah) (n:Nat) (t:Kf):TG:=fun v σ H Q=>AJ a H/\∃p xs,v=.ref p/\bY K H p xs/\xs.length=n/\t xs σ H Q
def LH {a:ah}{es:List Expr}{k:Nat}{t:Kf}{n:Nat}{pos:Pos}(e:X.A.handled=some (.ref a)) (h:RQ X es t)
  (hn:(assignEach es X.env).length=n:=by rfl) (EL:(assignEach es X.env).findIdx? (·.1)=none:=by rfl):PG X (.Tuple es k pos) (MY X.K a n t):=by
 intro pins s σ H v u Q I r hw
 obtain⟨hh,p,xs,e1,hq,hl,hw⟩:=hw
 subst e1
 cases r
 obtain⟨cE,rv,ht,hz⟩:=I.tuple hq
 refine z_ (hh.zr e I) ht (by simp[hn,<-hl,rv.length]) EL fun h' hx=>?_
 have I1:Inv X pins σ H {s with heap:=h'}:=I.kept (t':=s.toks) fun b o e=>hx b o (bb (aA e)) e
 exact h pins _ σ H xs _ Q I1 (by simpa using rv) hw
end
structure MZ (P:aF) (w:ba) (K:PySem.W.Frag) (a:ah) (tg:Expr) (J:It) (fp:List ah) (it:ah) (tn:Nat->Heap->Prop):Prop where
 mem:it∈fp
 obj:∀i h,tn i h->∀b∈fp,∃o,h.get? b=some o/\∀v,o.data≠.cell v
 keep:∀i h h',tn i h->(∀b∈fp,∀o,h.get? b=some o->h'.get? b=some o)->tn i h'
 item:∀(X:Cx),X.prog=P->X.w=w->X.K=K->X.A.handled=some (.ref a)->∀(i:Nat) (pins:List (ah×Obj)) (s:ai) (σ:St) (H:Hp) (E:af->ai->Prop),Inv X pins σ H s->(∀b∈fp,mi X pins H b)->tn i s.heap->J.go i H->
  wpAny (model P w) X.A (pyNext (.ref it)) (fun r s1=>∃u,r=some u/\
   wpAny (model P w) X.A (letOwnedTupleGo tg (.ref it) u) (fun _ s2=>∃x H',Inv X pins σ H' s2/\RelV x u/\J.Bk i H x H'/\tn (i+1) s2.heap/\∀b∈fp,H' b=none) E s1) E s
 done:∀(X:Cx),X.prog=P->X.w=w->X.K=K->X.A.handled=some (.ref a)->∀(i:Nat) (pins:List (ah×Obj)) (s:ai) (σ:St) (H:Hp) (E:af->ai->Prop),Inv X pins σ H s->(∀b∈fp,mi X pins H b)->tn i s.heap->J.stop i H->
  wpAny (model P w) X.A (pyNext (.ref it)) (fun r s1=>r=none/\Inv X pins σ H s1) E s
 self:∀(A:aQ) (i:Nat) (s:ai) (Q:af->ai->Prop) (E:af->ai->Prop),tn i s.heap->Q (.ref it) s->wpAny (model P w) A (pyIter (.ref it)) Q E s
def YC (a:ah) (X:Cx) (pins:List (ah×Obj)) (σ:St) (tg:Expr) (R:It->Hp->Prop) (NJ:af) (s2:ai):Prop:=
 ∃(it:ah) (fp:List ah) (tn:Nat->Heap->Prop) (J:It) (H':Hp),NJ=.ref it/\Inv X pins σ H' s2/\MZ X.prog X.w X.K a tg J fp it tn/\tn 0 s2.heap/\(∀b∈fp,mi X pins H' b)/\R J H'
def PIG (a:ah) (X:Cx) (tg iter:Expr) (wi:TI):Prop:=
 ∀(pins:List (ah×Obj)) (s:ai) (σ:St) (H:Hp) (R:It->Hp->Prop),Inv X pins σ H s->wi σ H R->
  wpAny (model X.prog X.w) X.A (eval iter X.env) (fun v s1=>wpAny (model X.prog X.w) X.A (pyIter v) (YC a X pins σ tg R) X.xe s1) X.xe s
def P9 (K:PySem.W.Frag) (e0 a b:ah):It:=⟨fun i H=>∃xs ys x y,cS K H a xs/\cS K H b ys/\xs[i]?=some x/\ys[i]?=some y,
 fun i H v H'=>∃T x y,H T=none/\v=.ref T/\H'=upd H T (.tup [x,y])/\(∀xs,cS K H a xs->xs[i]?=some x)/\∀ys,cS K H b ys->ys[i]?=some y,fun i H=>AJ e0 H/\∃xs ys,cS K H a xs/\cS K H b ys/\(xs.length<=i\/ys.length<=i)⟩
def P_ (z TI TO i1 i2 a b:ah) (i:Nat) (h:Heap):Prop:=IsZip h z TI TO .none/\IsPair h TI (.ref i1) (.ref i2)/\(∃x y,IsPair h TO x y)/\h.IsListIter i1 a i/\h.IsListIter i2 b i
def CF {P:aF}{w:ba}{K:PySem.W.Frag}{e0:ah}{elts:List Expr}{kk:Nat}{tp:Pos}(z TI TO i1 i2 a b:ah) (D:ZipApart z TI TO i1 i2 a b):MZ P w K e0 (.Tuple elts kk tp) (P9 K e0 a b) [z,TI,TO,i1,i2] z (P_ z TI TO i1 i2 a b) where
 mem:=by simp
 obj:=fun i h st c hc=>by
  obtain⟨z1,z2,⟨x,y,z3⟩,⟨o,o1,o2,o3⟩,⟨u,u1,u2,u3⟩⟩:=st
  simp only[aC,aM,cz] at hc
  rcases hc with rfl|rfl|rfl|rfl|rfl
  ·exact⟨_,z1,fun v e=>by cases(show Data.fields _=Data.cell v from e)⟩
  ·exact⟨_,z2,fun v e=>by cases(show Data.seq _ _=Data.cell v from e)⟩
  ·exact⟨_,z3,fun v e=>by cases(show Data.seq _ _=Data.cell v from e)⟩
  ·exact⟨o,o1,fun v e=>by rw[o3] at e;cases e⟩
  ·exact⟨u,u1,fun v e=>by rw[u3] at e;cases e⟩
 keep:=fun i h h' st kp=>by
  obtain⟨z1,z2,⟨x,y,z3⟩,⟨o,o1,o2⟩,⟨u,u1,u2⟩⟩:=st
  exact⟨kp z (by simp) _ z1,kp TI (by simp) _ z2,⟨x,y,kp TO (by simp) _ z3⟩,⟨o,kp i1 (by simp) o o1,o2⟩,⟨u,kp i2 (by simp) u u1,u2⟩⟩
 item:=by
  intro X hP hw hK hc i pins s σ H E I hf st hg
  subst hP hw hK
  obtain⟨xs,ys,x,y,zP,zq,hx,hy⟩:=hg
  obtain⟨va,KD,p1,_⟩:=I.list zP
  obtain⟨kX,KE,p2,_⟩:=I.list zq
  obtain⟨u1,WT,Oa⟩:=KD.get hx
  obtain⟨u2,Ob,Oc⟩:=KE.get hy
  obtain⟨z1,z2,⟨oa,ob,z3⟩,j1,j2⟩:=st
  have Hr:s.TypeIs (.ref z) "zip":=⟨_,z1,rfl⟩
  have lt:∀c∈[z,TI,TO,i1,i2],c<s.heap.objs.size:=fun c hc=>by
   obtain⟨_,w1,_⟩:=id j1
   obtain⟨_,w2,_⟩:=id j2
   simp only[aC,aM,cz] at hc
   rcases hc with rfl|rfl|rfl|rfl|rfl
   ·exact aA z1
   ·exact aA z2
   ·exact aA z3
   ·exact aA w1
   ·exact aA w2
  unfold pyNext
  refine aa (uG (cG (name:=Str.ofString "__next__") Hr ik (dH ik Hr wo
   (Fo D z1 z2 z3 j1 j2 p1.isList p2.isList (x:=u1) (y:=u2) (by simpa using WT) (by simpa using Ob) fun h' a1 a2 a3 a4 a5 a7=>ak ?_) (uh _))))
  refine⟨_,rfl,wpAny_letOwnedTupleGo_zip a1 fun h2 b1 KG=>?_⟩
  have nT:s.heap.objs.size≠z:=iG (lt z (by simp))
  have Fg:∀c o,c≠z->h'.get? c=some o->h2.get? c=some o:=fun c o n e=>(KG.2 c n).trans e
  obtain⟨f1,f2,f3⟩:=I.out (h':=h2) (t':=s.toks) (xs:=[x,y]) (us:=[u1,u2]) hf lt (.cons Oa (.cons Oc .nil)) (dF)
   (fun c o hc q=>Fg c o (fun e=>hc (by simp[e])) (a7 c o (fun e=>hc (by simp[e])) (fun e=>hc (by simp[e])) (fun e=>hc (by simp[e])) (fun e=>hc (by simp[e])) q)) (Fg _ _ nT a5)
  obtain⟨v1,v2,v3⟩:=a3
  obtain⟨w1,w2,w3⟩:=a4
  exact⟨.ref s.heap.objs.size,_,f2,rfl,⟨_,x,y,f1,rfl,rfl,fun zs Od=>by rw[I.qL Od zP];exact hx,fun zs Od=>by rw[I.qL Od zq];exact hy⟩,
   ⟨b1,Fg _ _ D.TIz (a7 _ _ D.TIz D.TITO D.TIi1 D.TIi2 z2),⟨_,_,Fg _ _ D.TOz a2⟩,⟨v1,Fg _ _ D.i1z v2,v3⟩,⟨w1,Fg _ _ D.i2z w2,w3⟩⟩,f3⟩
 done:=by
  intro X hP hw hK hc i pins s σ H E I hf st hg
  subst hP hw hK
  obtain⟨hE,xs,ys,zP,zq,WU⟩:=hg
  obtain⟨va,KD,p1,_⟩:=I.list zP
  obtain⟨kX,KE,p2,_⟩:=I.list zq
  obtain⟨z1,z2,⟨oa,ob,z3⟩,j1,j2⟩:=st
  have Hr:s.TypeIs (.ref z) "zip":=⟨_,z1,rfl⟩
  have l1:=KD.length
  have l2:=KE.length
  have ends:va.toArray[i]?=none\/kX.toArray[i]?=none:=by
   rcases WU with e|e
   ·left;simp;omega
   ·right;simp;omega
  have na:∀c,X.A.handled=some (.ref c)->c≠z/\c≠TO/\c≠i1/\c≠i2:=fun c ec=>by
   have e1:c=e0:=by have:=ec.symm.trans hc;injection this with this;injection this
   subst e1
   obtain⟨cls,dW,hE⟩:=hE
   have no:∀b∈[z,TI,TO,i1,i2],c≠b:=fun b hb e=>by rw[e,(hf b hb).1] at hE;cases hE
   exact⟨no z (by simp),no TO (by simp),no i1 (by simp),no i2 (by simp)⟩
  unfold pyNext
  refine aa (uG (cG (name:=Str.ofString "__next__") Hr ik (dH ik Hr wo
   (Fp (hE.zr hc I) na D z1 z2 z3 j1 j2 p1.isList p2.isList ends fun h' x kp ⟨o,o1,o2⟩=>?_) (uh _))))
  refine aa (Nl (T:="StopIteration") (b:=true) ⟨o,o1,o2⟩ isSubtype_stop (ak ⟨rfl,?_⟩))
  exact I.uk (t':=s.toks) hf fun c o hc q=>kp c o (fun e=>hc (by simp[e])) (fun e=>hc (by simp[e])) (fun e=>hc (by simp[e])) (fun e=>hc (by simp[e])) q
 self:=fun _ _ _ _ _ st q=>wt st.1 q
def Qa (K:PySem.W.Frag) (e0:ah) (ta:TA):TI:=fun σ H R=>ta σ H fun vs H1=>∃a b,vs=[.ref a,.ref b]/\(∃xs,cS K H1 a xs)/\(∃ys,cS K H1 b ys)/\R (P9 K e0 a b) H1
def Jg {X:Cx}{e0:ah}{elts:List Expr}{kk:Nat}{tp:Pos}{e1 e2:Expr}{ta:TA}{p pos:Pos}(hg:Gl X "zip") (hm:X.mg "zip"=none) (ha:PA X [e1,e2] ta) (hs:starEach [e1,e2] X.env=[(false,eval e1 X.env),(false,eval e2 X.env)]:=by rfl) (GQ:starEach [e2] X.env=[(false,eval e2 X.env)]:=by rfl):
  PIG e0 X (.Tuple elts kk tp) (.Call (.Name "zip" p) [e1,e2] [] pos) (Qa X.K e0 ta):=by
 intro pins s σ H R I h
 refine Call_ (pU I hg hm xA (gk (e_ (ha pos pins s σ H _ I h) fun us s1 ⟨vs,H1,I1,r1,q1⟩=>?_) (by rw[hs,GQ]) (by rw[GQ];rfl)))
 obtain⟨a,b,e,⟨xs,zP⟩,⟨ys,zq⟩,q⟩:=q1
 subst e
 obtain⟨u1,u2,rfl,Oa,Oc⟩:=vals2 r1
 cases(show u1=Value.ref a from Oa)
 cases(show u2=Value.ref b from Oc)
 obtain⟨va,KD,p1,_⟩:=I1.list zP
 obtain⟨kX,KE,p2,_⟩:=I1.list zq
 have la:a<s1.heap.objs.size:=by obtain⟨o,e,_⟩:=p1.isList;exact aA e
 have lb:b<s1.heap.objs.size:=by obtain⟨o,e,_⟩:=p2.isList;exact aA e
 refine Fq p1.isList p2.isList fun h' a1 a2 a3 a4 a5 kp=>wt a1 ?_
 refine⟨_,[s1.heap.objs.size+4,s1.heap.objs.size+2,s1.heap.objs.size+3,s1.heap.objs.size,s1.heap.objs.size+1],_,_,H1,rfl,I1.kept (t':=s1.toks) kp,CF _ _ _ _ _ a b (zipApart_new la lb),⟨a1,a2,⟨_,_,a3⟩,a4,a5⟩,fun c hc=>?_,q⟩
 have ge:s1.heap.objs.size<=c:=by
  simp only[aC,aM,cz] at hc
  rcases hc with rfl|rfl|rfl|rfl|rfl
  ·exact dZ _ _
  ·exact dZ _ _
  ·exact dZ _ _
  ·exact aB _
  ·exact dZ _ _
 exact I1.x_ ge (I1.eE.fresh ge)
section
variable {X:Cx}
def Qb {e0:ah}{elt tg iter:Expr}{ifs:List Expr}{scope:Scope}{pos:Pos}{wi:TI}{N:List Str}{r:List (Option Nat)}{g:TG}{tc:TT}{te:TE}(hc:X.A.handled=some (.ref e0)) (hi:PIG e0 X tg iter wi) (S:fk X scope N r)
  (hg:∀s H fp,PG (X.xu N scope s H fp) tg g) (ht:∀s H fp,Ms (X.xu N scope s H fp) ifs tc) (he:∀s H fp,PE (X.xu N scope s H fp) elt te)
  (hs:∀x,foldedSetIterable iter X.env x=pure x:=by intro _;rfl):PE X (.ListComp elt [⟨tg,iter,ifs,0⟩] scope pos) (WN wi r g tc te):=by
 intro pins s σ H Q I h
 rw[eval_ListComp]
 have Hf:closureFor scope X.env=pure (mO scope X.env):=lU fun y hy hk=>I.ok.has y.1 (S.out y hy hk)
 refine uF (use:=none) rfl hs Hf S.kind S.own ?_
 show wpAny _ _ (eval iter X.env) _ _ s
 refine e_ (hi pins s σ H _ I h) fun v s1 h1=>e_ h1 fun NJ s2 h2=>?_
 obtain⟨it,fp,tn,J,H2,e,I2,T,AU,f2,q2⟩:=h2
 subst e
 have hD:H2 s2.heap.objs.size=none:=I2.eE.fresh (aB _)
 obtain⟨W,⟨m0,w0⟩,turn⟩:=q2 _ hD
 have zM:∀b∈fp,b<s2.heap.objs.size:=fun b hb=>by
  obtain⟨o,e,_⟩:=T.obj _ _ AU b hb
  exact aA e
 refine bD ?_
 generalize AW:({s2 with heap:=s2.heap.push {cls:=.type "list",dict:=none,data:=.seq ([]:List af).toArray}}:ai)=s3
 have k3:∀b o,s2.heap.get? b=some o->s3.heap.get? b=some o:=fun b o e=>by rw[<-AW];exact ag _ e
 have z3:s3.heap.objs.size=s2.heap.objs.size+1:=by rw[<-AW];exact bZ ..
 have u3:Un (nE X.stack) fp H2 (upd H2 s2.heap.objs.size (.lst [])) s2.heap s3.heap:=Un.laid k3 (aB _) hD
 have o3:s3.os=s2.os:=by rw[<-AW]
 have I3:Inv X pins σ (upd H2 s2.heap.objs.size (.lst [])) s3:=by
  rw[<-AW]
  exact I2.laid (t':=s2.toks) (fun b u e=>ag _ e) (aB _) ⟨fH _,[],0,.nil,aw _ rfl⟩
 have f3:∀b∈fp,mi X pins (upd H2 s2.heap.objs.size (.lst [])) b:=fun b hb=>⟨by rw[aV (bb (zM b hb))];exact(f2 b hb).1,(f2 b hb).2⟩
 refine A7 S.qc (by intro y hy;simp at hy) (fun h4 Hg Hh=>?_) S.kind
 have k4:∀b o,s3.heap.get? b=some o->h4.get? b=some o:=fun b o e=>Hh.extBut b o (bb (aA e)) (ag _ e)
 have J4:Inv (X.xu N scope s3 (upd H2 s2.heap.objs.size (.lst [])) fp) [] (r.map (pick σ)) (upd H2 s2.heap.objs.size (.lst [])) {s3 with heap:=h4,toks:=s3.toks+([]:List (Str×af)).length}:=
  r_ S I3 f3 (fun b hb=>by rw[z3];exact gT (zM b hb)) Hg k4
 have Hi:tn 0 h4:=T.keep _ _ _ AU fun b _ o e=>k4 b o (k3 b o e)
 have pW:∀{H':Hp},(∀b∈fp,H' b=none)->∀b∈fp,mi (X.xu N scope s3 (upd H2 s2.heap.objs.size (.lst [])) fp) [] H' b:=fun hn b hb=>
  ⟨hn b hb,(J4.ok.EI b hb).1,J4.ok.tV b hb,.inl hb,(J4.ok.EI b hb).2,fun p hp=>absurd (show p∈([]:List (ah×Obj)) from hp) (by simp)⟩
 generalize hY:X.xu N scope s3 (upd H2 s2.heap.objs.size (.lst [])) fp=Y at*
 have loop:∀s4:ai,s4={s3 with heap:=h4,toks:=s3.toks+([]:List (Str×af)).length}->
   codeAny (model X.prog X.w) X.A (.compLoop (.ListComp elt [⟨tg,iter,ifs,0⟩] scope pos) 0 (.ref it) (.ref s2.heap.objs.size) Y.env) (compPost (model X.prog X.w) X.A X.xe none (EP X pins σ Q) (.ref s2.heap.objs.size) s3.heap.objs.size) s4:=by
  rintro s4 rfl
  have yp:Y.prog=X.prog:=by rw[<-hY]
  have yw:Y.w=X.w:=by rw[<-hY]
  have yK:Y.K=X.K:=by rw[<-hY]
  have yA:Y.A=X.A:=by rw[<-hY]
  have yc:Y.A.handled=some (.ref e0):=by rw[<-hY];exact hc
  have Sd:PG Y tg g:=by rw[<-hY];exact hg _ _ _
  have Se:Ms Y ifs tc:=by rw[<-hY];exact ht _ _ _
  have Sf:PE Y elt te:=by rw[<-hY];exact he _ _ _
  have yx:∀e s',¬Y.xe e s':=fun e s' z=>by rw[<-hY] at z;exact z
  refine n_ (fun n s'=>∃i bW H',Inv Y [] bW H' s'/\tn i s'.heap/\(∀b∈fp,H' b=none)/\W i n bW H') ?_ m0 ⟨0,_,_,J4,Hi,fun b hb=>(f3 b hb).1,w0⟩
  rintro n s5 ⟨i,Ds,H5,I5,Gf,JO,w5⟩
  rcases turn i n Ds H5 w5 with⟨stop,qn⟩|⟨go,Nn,Mm,Sg,Sh,step⟩
  ·have d:=T.done Y yp yw yK yc i [] s5 Ds H5 (notedBy (model X.prog X.w) X.A Y.env fun e s'=>compPost (model X.prog X.w) X.A X.xe none (EP X pins σ Q) (.ref s2.heap.objs.size) s3.heap.objs.size (.error e) s') I5 (pW JO) Gf stop
   rw[yA] at d
   refine e_ d fun rr s6 ⟨hr,I6⟩=>?_
   subst hr
   obtain⟨m,hn,_⟩:=id I6.loc
   refine⟨m,by rw[<-hY] at hn;exact hn,fun h' Si=>⟨.ref s2.heap.objs.size,H5,?_,rfl,qn⟩⟩
   rw[<-hY] at I6
   exact ym I2 f2 u3 (by rw[z3];exact dE _) o3 I6 Si
  ·have d:=T.item Y yp yw yK yc i [] s5 Ds H5 (notedBy (model X.prog X.w) X.A Y.env fun e s'=>compPost (model X.prog X.w) X.A X.xe none (EP X pins σ Q) (.ref s2.heap.objs.size) s3.heap.objs.size (.error e) s') I5 (pW JO) Gf go
   rw[yA] at d
   refine e_ d fun rr s6 ⟨u,hr,h6⟩=>?_
   subst hr
   refine e_ h6 fun _ s7 ⟨x,H7,I7,r7,y7,Hj,Sj⟩=>?_
   have Sk:=I7.pinned (pW Sj) (T.obj _ _ Hj)
   have g7:=Sd _ s7 Ds H7 x u _ Sk r7 (step x H7 y7)
   rw[yp,yw,yA] at g7
   refine bK g7 (fun _ s8 ⟨xw,H8,I8,q8⟩=>?_) fun e s' z=>(yx e s' z).elim
   have t8:=Se _ s8 xw H8 _ I8 q8
   rw[yp,yw,yA] at t8
   refine bK t8 (fun ok s9 ⟨H9,I9,q9⟩=>?_) fun e s' z=>(yx e s' z).elim
   have again:∀{s10:ai} {uX:Hp} {m':Nat},Inv Y ([]++pV fp s7.heap) xw uX s10->m'<n->W (i+1) m' xw uX->∃m,m<n/\∃i bW H',Inv Y [] bW H' s10/\tn i s10.heap/\(∀b∈fp,H' b=none)/\W i m bW H':=fun{s10 uX m'} zN hm BC=>by
    refine⟨m',hm,i+1,xw,uX,zN.mj,T.keep _ _ _ Hj fun b hb o e=>(zN.pin (b,o) (bG _ (bG _ (ib hb e)))).1,fun b hb=>?_,BC⟩
    obtain⟨o,e,d⟩:=T.obj _ _ Hj b hb
    exact(zN.pin (b,o) (bG _ (bG _ (ib hb e)))).2.1
   cases ok with
   |false=>
    rw[aO (by simp)] at q9⊢
    obtain⟨m',hm,w9⟩:=Sg _ _ q9
    exact again I9 hm w9
   |true=>
    rw[aP rfl] at q9⊢
    have e9:=Sf _ s9 xw H9 _ I9 q9
    rw[yp,yw,yA] at e9
    refine bK e9 (fun uu s10 ⟨y,uX,zN,r10,hM⟩=>?_) fun e s' z=>(yx e s' z).elim
    obtain⟨xs,m',Hk,hz,hm,BC⟩:=Sh _ _ _ hM
    have a10:=gw _ s10 xw uX (.ref s2.heap.objs.size) [y] (.ref s2.heap.objs.size) [uu] (fun v Hq=>v=.eA/\Hq=upd uX s2.heap.objs.size (.lst (xs++ [y]))) zN rfl (.cons r10 .nil) ⟨_,xs,y,rfl,rfl,Hk,hz,rfl,rfl⟩
    rw[yp,yw,yA] at a10
    refine bK a10 (fun _ s11 ⟨_,ZR,Sl,_,_,Sm⟩=>?_) fun e s' z=>(yx e s' z).elim
    subst Sm
    exact again Sl hm BC
 have Sn:Y.env={scope:=relabel scope X.env,locals:=s3.heap.objs.size,globals:=X.env.globals,cells:=mO scope X.env,qual:=X.env.qual,func:=none,code:=X.env.code,frame:=X.env.frame,builtins:=X.env.builtins}:=by rw[<-hY];rfl
 rw[Sn] at loop
 exact xT (loop _ rfl) (T.self _ 0 _ _ _ Hi (loop _ rfl))
end
end L2
namespace L2
open PySem HT PySem.W
def tN (H:Hp) (dW:Option ah) (fs:List (Str×V)):Prop:=dW=none\/∃d,dW=some d/\H d=some (.xd fs)
def tN.same {H H':Hp}{dW:Option ah}{fs:List (Str×V)}(h:tN H dW fs) (s:a_ H H'):tN H' dW fs:=h.imp id fun⟨d,e,h⟩=>⟨d,e,s _ _ h⟩
def Jh (K:Frag):List V->Hp->VK->Prop:=fun xs H Q=>∃a C dW fs c cv b,xs=[.ref a,c]/\H a=some (sO a (.ref C) dW)/\tN H dW fs/\oo K C/\HM c=some cv/\kitOne K (.ref C) cv=some b/\Q (.bl b) H
def fj {X:Cx}:gE X (.builtin "isinstance") (Jh X.K):=by
 intro pins s σ H xs us Q I r h
 obtain⟨a,C,dW,fs,c,cv,b,e,ha,hd,F,hc,hk,q⟩:=h
 rcases hd with rfl|⟨d,rfl,hd⟩
 ·exact B3 pins s σ H xs us Q I r ⟨a,C,c,cv,b,e,ha,F,hc,hk,q⟩
 ·exact Cm pins s σ H xs us Q I r ⟨a,C,d,fs,c,cv,b,e,ha,hd,F,hc,hk,q⟩
end L2
namespace K12
open PySem L2 HT PySem.W
def uc:List Str:=["NoCrew","NoName","NoNumber","NoPiece","NoRow","NoRower","NoText","NothingLeft","NoTrial","TooMany","Twice"]
structure Ux (K:Frag) (mg:Str->Option af) (C:ah) (nm:Str):Prop where
 ex:oo K C
 all:∀x∈uc,∃D,mg x=some (.ref D)/\kitOne K (.ref C) (.ref D)=some (decide (x=nm))
 ve:kitOne K (.ref C) (.type "ValueError")=some true
section
variable {P:aF}{w:ba}{K:Frag}{mg:Str->Option af}{base:Heap}
abbrev Gu:Stmt:=top 43
def nu (i:Nat):Stmt:=(fu Gu).getD i (.Pass ⟨0,0,0,0⟩)
def LI:fu Gu=[nu 0,nu 1,nu 2,nu 3,nu 4,nu 5]:=rfl
abbrev Qd:List Str:=["e","kinds","names"]
def FY:bV Qd ["e"] (av Gu):={}
def Uy:(["name","kind"]:List Str).Nodup:=by decide+kernel
def LJ:bootBuiltins "ValueError"=some (.type "ValueError"):=by decide+kernel
def kf:List Str:=uc++(["+"]:List Str)
def iA (nm:Str):List Bool:=uc.map (fun x=>decide (x=nm))++ [true]
def AK (nm:Str) (i:Nat):List Str:=(((kf.zip (iA nm)).take i).filter (·.2)).map (·.1)
def FZ {nm:Str}(h:nm∈uc):AK nm 12=[nm,"+"]:=by
 revert nm
 decide+kernel
def LK:∀nm∈uc,JoinOk "" [nm,"+"]=true:=by decide+kernel
def Qe (K:Frag) (mg:Str->Option af):ah->Sp:=fun a vs H Q _=>∃(C:ah) (dW:Option ah) (fs:List (Str×V)) (nm:Str),vs=[.ref a]/\H a=some (sO a (.ref C) dW)/\tN H dW fs/\Ux K mg C nm/\nm∈uc/\∀H',a_ H H'->Q (.str (Txt.join "" [nm,"+"])) H'
def no0 {f:ah}{cdv:af}{A:aQ}{outer:List Env}{s:ai}{H:Hp}(T:Txt mg) {C:ah}{nm:Str}(kd:Ux K mg C nm):∃r t,nu 0=r/\PS (vq P w K mg base Qd "_law_name_of" (av Gu) f cdv A outer s H) r t/\∀(D:Ends) (H1:Hp) (v1 v2:Option V) (a:ah) (dW:Option ah) (fs:List (Str×V)),H1 a=some (sO a (.ref C) dW)->tN H1 dW fs->(∀l' H2,a_ H1 H2->H2 l'=some (.lst (((iA nm).take 4).map V.bl))->D.nx [some (.ref a),some (.ref l'),v2] H2)->t D [some (.ref a),v1,v2] H1:=by
 obtain⟨D0,m0,k0⟩:=kd.all "NoCrew" (by decide+kernel)
 obtain⟨D1,m1,k1⟩:=kd.all "NoName" (by decide+kernel)
 obtain⟨D2,m2,k2⟩:=kd.all "NoNumber" (by decide+kernel)
 obtain⟨D3,m3,k3⟩:=kd.all "NoPiece" (by decide+kernel)
 refine⟨_,_,rfl,jX (i:=1) FY.nd (cW (ae (aR fj rfl T.sv aD (ae (pv 0) (ae (fS (v:=.ref D0) rfl m0 rfl) aj))) (ae (aR fj rfl T.sv aD (ae (pv 0) (ae (fS (v:=.ref D1) rfl m1 rfl) aj))) (ae (aR fj rfl T.sv aD (ae (pv 0) (ae (fS (v:=.ref D2) rfl m2 rfl) aj))) (ae (aR fj rfl T.sv aD (ae (pv 0) (ae (fS (v:=.ref D3) rfl m3 rfl) aj))) aj))))),?_⟩
 intro D H1 v1 v2 a dW fs ha hd nx
 refine⟨_,rfl,a,C,dW,fs,_,_,decide (("NoCrew":Str)=nm),rfl,ha,hd,kd.ex,rfl,k0,_,rfl,a,C,dW,fs,_,_,decide (("NoName":Str)=nm),rfl,ha,hd,kd.ex,rfl,k1,_,rfl,a,C,dW,fs,_,_,decide (("NoNumber":Str)=nm),rfl,ha,hd,kd.ex,rfl,k2,_,rfl,a,C,dW,fs,_,_,decide (("NoPiece":Str)=nm),rfl,ha,hd,kd.ex,rfl,k3,dF,fun l hl=>?_⟩
 exact nx l _ (aN hl _) az
def no1 {f:ah}{cdv:af}{A:aQ}{outer:List Env}{s:ai}{H:Hp}(T:Txt mg) {C:ah}{nm:Str}(kd:Ux K mg C nm):∃r t,nu 1=r/\PS (vq P w K mg base Qd "_law_name_of" (av Gu) f cdv A outer s H) r t/\∀(D:Ends) (H1:Hp) (v1 v2:Option V) (a l:ah) (dW:Option ah) (fs:List (Str×V)),H1 a=some (sO a (.ref C) dW)->tN H1 dW fs->H1 l=some (.lst (((iA nm).take 4).map V.bl))->(∀l' H2,a_ H1 H2->H2 l'=some (.lst (((iA nm).take 8).map V.bl))->D.nx [some (.ref a),some (.ref l'),v2] H2)->t D [some (.ref a),some (.ref l),v2] H1:=by
 obtain⟨D4,m4,k4⟩:=kd.all "NoRow" (by decide+kernel)
 obtain⟨D5,m5,k5⟩:=kd.all "NoRower" (by decide+kernel)
 obtain⟨D6,m6,k6⟩:=kd.all "NoText" (by decide+kernel)
 obtain⟨D7,m7,k7⟩:=kd.all "NothingLeft" (by decide+kernel)
 refine⟨_,_,rfl,jX (i:=1) FY.nd (bR kN (pv 1) (cW (ae (aR fj rfl T.sv aD (ae (pv 0) (ae (fS (v:=.ref D4) rfl m4 rfl) aj))) (ae (aR fj rfl T.sv aD (ae (pv 0) (ae (fS (v:=.ref D5) rfl m5 rfl) aj))) (ae (aR fj rfl T.sv aD (ae (pv 0) (ae (fS (v:=.ref D6) rfl m6 rfl) aj))) (ae (aR fj rfl T.sv aD (ae (pv 0) (ae (fS (v:=.ref D7) rfl m7 rfl) aj))) aj)))))),?_⟩
 intro D H1 v1 v2 a l dW fs ha hd hl nx
 refine⟨_,rfl,_,rfl,a,C,dW,fs,_,_,decide (("NoRow":Str)=nm),rfl,ha,hd,kd.ex,rfl,k4,_,rfl,a,C,dW,fs,_,_,decide (("NoRower":Str)=nm),rfl,ha,hd,kd.ex,rfl,k5,_,rfl,a,C,dW,fs,_,_,decide (("NoText":Str)=nm),rfl,ha,hd,kd.ex,rfl,k6,_,rfl,a,C,dW,fs,_,_,decide (("NothingLeft":Str)=nm),rfl,ha,hd,kd.ex,rfl,k7,dF,fun l2 nK=>?_⟩
 have ni:l≠l2:=fun z=>by rw[<-z,hl] at nK;cases nK
 refine⟨l,l2,_,_,rfl,rfl,by rw[aV ni];exact hl,az,dF,fun l3 F0=>?_⟩
 exact nx l3 _ ((aN nK _).trans (aN F0 _)) az
def Rh {f:ah}{cdv:af}{A:aQ}{outer:List Env}{s:ai}{H:Hp}(T:Txt mg) {C:ah}{nm:Str}(kd:Ux K mg C nm):∃r t,nu 2=r/\PS (vq P w K mg base Qd "_law_name_of" (av Gu) f cdv A outer s H) r t/\∀(D:Ends) (H1:Hp) (v1 v2:Option V) (a l:ah) (dW:Option ah) (fs:List (Str×V)),H1 a=some (sO a (.ref C) dW)->tN H1 dW fs->H1 l=some (.lst (((iA nm).take 8).map V.bl))->(∀l' H2,a_ H1 H2->H2 l'=some (.lst (((iA nm).take 12).map V.bl))->D.nx [some (.ref a),some (.ref l'),v2] H2)->t D [some (.ref a),some (.ref l),v2] H1:=by
 obtain⟨D8,m8,k8⟩:=kd.all "NoTrial" (by decide+kernel)
 obtain⟨D9,m9,k9⟩:=kd.all "TooMany" (by decide+kernel)
 obtain⟨D10,m10,k10⟩:=kd.all "Twice" (by decide+kernel)
 refine⟨_,_,rfl,jX (i:=1) FY.nd (bR kN (pv 1) (cW (ae (aR fj rfl T.sv aD (ae (pv 0) (ae (fS (v:=.ref D8) rfl m8 rfl) aj))) (ae (aR fj rfl T.sv aD (ae (pv 0) (ae (fS (v:=.ref D9) rfl m9 rfl) aj))) (ae (aR fj rfl T.sv aD (ae (pv 0) (ae (fS (v:=.ref D10) rfl m10 rfl) aj))) (ae (aR fj rfl T.sv aD (ae (pv 0) (ae (gH (v:=.ty "ValueError") rfl T.ValueError LJ rfl) aj))) aj)))))),?_⟩
 intro D H1 v1 v2 a l dW fs ha hd hl nx
 refine⟨_,rfl,_,rfl,a,C,dW,fs,_,_,decide (("NoTrial":Str)=nm),rfl,ha,hd,kd.ex,rfl,k8,_,rfl,a,C,dW,fs,_,_,decide (("TooMany":Str)=nm),rfl,ha,hd,kd.ex,rfl,k9,_,rfl,a,C,dW,fs,_,_,decide (("Twice":Str)=nm),rfl,ha,hd,kd.ex,rfl,k10,_,rfl,a,C,dW,fs,_,_,true,rfl,ha,hd,kd.ex,rfl,kd.ve,dF,fun l2 nK=>?_⟩
 have ni:l≠l2:=fun z=>by rw[<-z,hl] at nK;cases nK
 refine⟨l,l2,_,_,rfl,rfl,by rw[aV ni];exact hl,az,dF,fun l3 F0=>?_⟩
 exact nx l3 _ ((aN nK _).trans (aN F0 _)) az
def no3 {f:ah}{cdv:af}{A:aQ}{outer:List Env}{s:ai}{H:Hp}:∃r t,nu 3=r/\PS (vq P w K mg base Qd "_law_name_of" (av Gu) f cdv A outer s H) r t/\∀(D:Ends) (H1:Hp) (v0 v1 v2:Option V),(∀l H2,a_ H1 H2->H2 l=some (.lst ((kf.take 9).map V.str))->D.nx [v0,v1,some (.ref l)] H2)->t D [v0,v1,v2] H1:=by
 refine⟨_,_,rfl,(by
  refine xZ (i:=2) (te:=wL (fun _ H Q=>Q ((kf.take 9).map V.str) H)) ?_ ?_ ?_ ?_ ?_ ?_
  ·exact FY.nd
  ·rfl
  ·exact Or.inl rfl
  ·refine cW ?_
   refine Ad ?_
   repeat (first|exact .nil|refine .cons ⟨_,_,_,rfl,rfl⟩ ?_)
  ·rfl
  ·exact .inl rfl),?_⟩
 intro D H1 v0 v1 v2 nx
 exact⟨dF,fun l hl=>nx l _ (aN hl _) az⟩
def no4 {f:ah}{cdv:af}{A:aQ}{outer:List Env}{s:ai}{H:Hp}:∃t,PS (vq P w K mg base Qd "_law_name_of" (av Gu) f cdv A outer s H) (nu 4) t/\∀(D:Ends) (H1:Hp) (v0 v1:Option V) (l:ah),H1 l=some (.lst ((kf.take 9).map V.str))->(∀l' H2,a_ H1 H2->H2 l'=some (.lst (kf.map V.str))->D.nx [v0,v1,some (.ref l')] H2)->t D [v0,v1,some (.ref l)] H1:=by
 refine⟨_,jX (i:=2) FY.nd (bR kN (pv 2) (cW (ae aW (ae aW (ae aW aj))))),?_⟩
 intro D H1 v0 v1 l hl nx
 refine⟨_,rfl,dF,fun l2 nK=>?_⟩
 have ni:l≠l2:=fun z=>by rw[<-z,hl] at nK;cases nK
 refine⟨l,l2,_,_,rfl,rfl,by rw[aV ni];exact hl,az,dF,fun l3 F0=>?_⟩
 exact nx l3 _ ((aN nK _).trans (aN F0 _)) az
def no5 {f:ah}{cdv:af}{A:aQ}{outer:List Env}{s:ai}{H:Hp}{a:ah}(hh:(A.deeper (PyProof.Rows.envOfC "_law_name_of" (av Gu) s.heap.objs.size f cdv)).handled=some (.ref a)) (hz:mg "zip"=none):∃t,PS (vq P w K mg base Qd "_law_name_of" (av Gu) f cdv A outer s H) (nu 5) t/\∀(D:Ends) (H1:Hp) (v0:Option V) (l m:ah) (nm:Str),AJ a H1->H1 l=some (.lst ((iA nm).map V.bl))->H1 m=some (.lst (kf.map V.str))->nm∈uc->(∀H2,a_ H1 H2->D.rt (.str (Txt.join "" [nm,"+"])) H2)->t D [v0,some (.ref l),some (.ref m)] H1:=by
 refine⟨_,bF (pP PySem.F.plainAttrs_str PySem.F.slot_str_join PySem.F.type_str_join KP aW (ae (Qb (e0:=a) (N:=["name","kind"]) (g:=MY K a 2 (nU (dU 0) (nU (dU 1) EK))) (tc:=tB (cg 1)) (te:=cg 0) hh (Jg rfl hz (ae (pv 2) (ae (pv 1) aj))) (fk.closed rfl)
   (fun _ _ _=>LH hh (bz (aZ (i:=0) Uy) (bz (aZ (i:=1) Uy) eV))) (fun _ _ _=>hV (fG (pv 1))) (fun _ _ _=>pv 0)) aj)),?_⟩
 intro D H1 v0 l m nm hE hl hm Rc rt
 have lk:((iA nm).map V.bl).length=12:=by rw[aq];unfold iA;rw[aK,aq];rfl
 have ln:(kf.map V.str).length=12:=by rw[aq];rfl
 refine⟨rfl,_,rfl,_,rfl,m,l,rfl,⟨_,cS.of hm⟩,⟨_,cS.of hl⟩,fun L hL=>?_⟩
 refine zQ (J:=P9 K a m l) (n:=12) (u:=fun i=>(kf.map V.str).getD i .eA) (v:=fun i=>((iA nm).map V.bl).getD i .eA) (fun i ys bW J=>(∃x y,bW=[x,y])/\a_ H1 J/\ys=(AK nm i).map V.str) hL (by decide) ⟨⟨_,_,rfl⟩,aN hL _,rfl⟩ (fun i ys σ J hi hy ⟨_,sm,_⟩=>?_) ?_ ?_
 ·refine⟨fun e=>⟨hE.same sm,_,_,cS.of (sm _ _ hm),cS.of (sm _ _ hl),.inl (by rw[ln];omega)⟩,fun e=>?_⟩
  have e1:(kf.map V.str)[i]?=some ((kf.map V.str).getD i .eA):=by rw[bf,aH (by rw[ln];exact e)];rfl
  have e2:((iA nm).map V.bl)[i]?=some (((iA nm).map V.bl).getD i .eA):=by rw[bf,aH (by rw[lk];exact e)];rfl
  refine⟨⟨_,_,_,_,cS.of (sm _ _ hm),cS.of (sm _ _ hl),e1,e2⟩,?_⟩
  rintro x H' ⟨T,x1,y1,hT,rfl,rfl,f1,f2⟩
  have g1:=(f1 _ (cS.of (sm _ _ hm))).symm.trans e1
  have g2:=(f2 _ (cS.of (sm _ _ hl))).symm.trans e2
  cases g1
  cases g2
  exact⟨T,hT,rfl,rfl⟩
 ·rintro i ys σ J t hi hy ⟨⟨x,y,rfl⟩,sm,rfl⟩ ht
  have i1:i<kf.length:=by rw[aq] at ln;omega
  have i2:i<(iA nm).length:=by rw[aq] at lk;omega
  have iz:i<(kf.zip (iA nm)).length:=by rw[List.length_zip];omega
  have a1:(kf.map V.str).getD i .eA=.str kf[i]:=by rw[bf,bX,aH i1];rfl
  have a2:((iA nm).map V.bl).getD i .eA=.bl (iA nm)[i]:=by rw[bf,bX,aH i2];rfl
  have e3:AK nm (i+1)=AK nm i++(if(iA nm)[i]=true then[kf[i]] else[]):=by
   unfold AK
   rw[fQ iz,List.getElem_zip,kj,bE]
   congr 1
   by_cases c:(iA nm)[i]=true
   ·rw[aP c,rQ (by exact c)];rfl
   ·rw[aO c,rR (by exact c)];rfl
  rw[a1,a2,e3]
  exists ht,.tup [.str kf[i],.bl (iA nm)[i]],J,t,s2,wV,J2
  have JT:=s2 _ _ hy
  refine⟨(hE.same sm).same s2,t,_,rfl,bY.of wV,rfl,_,_,rfl,_,_,rfl,rfl,?_⟩
  refine⟨_,rfl,_,rfl,?_⟩
  dsimp only
  by_cases c:(iA nm)[i]=true
  ·rw[aP c,aP c]
   exact⟨_,rfl,JT,⟨_,_,rfl⟩,bP (sm.trans s2) hL,by rw[bE];rfl⟩
  ·rw[aO c,aO c]
   exact⟨JT,⟨_,_,rfl⟩,sm.trans s2,by rw[eJ]⟩
 ·rintro ys σ J hy ⟨_,sm,rfl⟩
  rw[FZ Rc] at hy
  exact⟨"",L,[nm,"+"],rfl,rfl,cS.of hy,LK nm Rc,rt J sm⟩
def Uz {f:ah}{fd:FuncData}(F:iV K "_law_name_of" "_law_name_of" Gu f fd) (T:Txt mg) (hz:mg "zip"=none):Ab P w K mg base 1 f fd ["e"] (Qe K mg):=by
 refine F.okH FY (fun a vs H Q E h=>?_) (fun a cdv A outer s H vs Q hr h=>?_)
 ·obtain⟨C,dW,fs,nm,rfl,_⟩:=h
  rfl
 ·obtain⟨C,dW,fs,nm,rfl,ha,hd,kd,Rc,q⟩:=h
  obtain⟨r0,t0,e0,p0,g0⟩:=no0 (P:=P) (w:=w) (K:=K) (mg:=mg) (base:=base) (f:=f) (cdv:=cdv) (A:=A) (outer:=outer) (s:=s) (H:=H) T kd
  obtain⟨r1,t1,e1,p1,g1⟩:=no1 (P:=P) (w:=w) (K:=K) (mg:=mg) (base:=base) (f:=f) (cdv:=cdv) (A:=A) (outer:=outer) (s:=s) (H:=H) T kd
  obtain⟨r2,t2,e2,p2,g2⟩:=Rh (P:=P) (w:=w) (K:=K) (mg:=mg) (base:=base) (f:=f) (cdv:=cdv) (A:=A) (outer:=outer) (s:=s) (H:=H) T kd
  obtain⟨r3,t3,e3,p3,g3⟩:=no3 (P:=P) (w:=w) (K:=K) (mg:=mg) (base:=base) (f:=f) (cdv:=cdv) (A:=A) (outer:=outer) (s:=s) (H:=H)
  obtain⟨t4,p4,g4⟩:=no4 (P:=P) (w:=w) (K:=K) (mg:=mg) (base:=base) (f:=f) (cdv:=cdv) (A:=A) (outer:=outer) (s:=s) (H:=H)
  obtain⟨t5,p5,g5⟩:=no5 (P:=P) (w:=w) (K:=K) (mg:=mg) (base:=base) (f:=f) (cdv:=cdv) (A:=A) (outer:=outer) (s:=s) (H:=H) hr.hd hz
  rw[LI,e0,e1,e2,e3]
  refine⟨_,ar p0 (ar p1 (ar p2 (ar p3 (ar p4 (aE p5))))),?_⟩
  refine g0 _ H none none a dW fs ha hd fun l1 H1 s1 h1=>?_
  refine g1 _ H1 none none a l1 dW fs (s1 _ _ ha) (hd.same s1) h1 fun l2 H2 s2 h2=>?_
  refine g2 _ H2 none none a l2 dW fs (s2 _ _ (s1 _ _ ha)) ((hd.same s1).same s2) h2 fun l3 H3 s3 h3=>?_
  refine g3 _ H3 _ _ _ fun m1 H4 s4 h4=>?_
  refine g4 _ H4 _ _ m1 h4 fun m2 H5 s5 h5=>?_
  have ss:=(((s1.trans s2).trans s3).trans s4).trans s5
  have YD:H5 l3=some (.lst ((iA nm).map V.bl)):=by
   have:=(s4.trans s5) _ _ h3
   rw[cX (by unfold iA;rw[aK,aq];decide)] at this
   exact this
  exact g5 _ H5 _ l3 m2 nm ⟨_,_,ss _ _ ha⟩ YD h5 Rc fun H6 s6=>q H6 (ss.trans s6)
end
end K12
namespace L2
open PySem PySem.Spec PySem.W PyProof.Rows HT
open AutoSeq1 (wpAny_loadPart')
section
variable {X:Cx}
end
end L2
namespace L2
open PySem HT PySem.W
section
variable {X:Cx}
def Ei:Kg:=fun o i v H Q=>∃a H',o=.ref a/\BI H a i v H'/\Q H'
def EF (hu:X.A.units+1<cLine):NH X Ei:=by
 intro pins s σ H o i v ov iv u Q I ro ri rv h
 obtain⟨a,H',rfl,g,q⟩:=h
 obtain rfl:ov=Value.ref a:=ro
 exact Fk hu I g ri rv fun s' I'=>⟨H',I',q⟩
end
end L2
namespace K12
open PySem L2 HT PySem.W
def nM (mu:List ah) (H H':Hp):Prop:=∀x o,x∉mu->H x=some o->H' x=some o
def nM.refl {mu:List ah}{H:Hp}:nM mu H H:=fun _ _ _ e=>e
def nM.trans {mu:List ah}{H H1 H2:Hp}(a:nM mu H H1) (b:nM mu H1 H2):nM mu H H2:=fun x o n e=>b x o n (a x o n e)
def fR {mu:List ah}{H H':Hp}(s:a_ H H'):nM mu H H':=fun x o _ e=>s x o e
def LL (mu:List ah) (H:Hp) (v:V) (S:Cs):Prop:=∃(t a b:ah) (ws us:List V),v=.ref t/\t∉mu/\a∉mu/\b∉mu/\H t=some (.tup [.ref a,.ref b,.int S.n])/\H a=some (.lst ws)/\Paired (fU H) ws S.bo/\H b=some (.lst us)/\Paired (jE H) us S.rows
def Tk (H H':Hp):Prop:=∀b xs,H b=some (.tup xs)->H' b=some (.tup xs)
def Tk.trans {H H1 H2:Hp}(a:Tk H H1) (b:Tk H1 H2):Tk H H2:=fun x y e=>b x y (a x y e)
def eP {H H':Hp}(s:a_ H H'):Tk H H':=fun b xs e=>s _ _ e
def LL.kp {mu:List ah}{H H':Hp}{v:V}{S:Cs}(h:LL mu H v S) (k:nM mu H H') (tk:Tk H H'):LL mu H' v S:=by
 obtain⟨t,a,b,ws,us,h1,m1,m2,m3,h2,h3,h4,h5,h6⟩:=h
 exact⟨t,a,b,ws,us,h1,m1,m2,m3,tk _ _ h2,k _ _ m2 h3,au h4 fun _ _ z=>z.up tk,k _ _ m3 h5,au h6 fun _ _ z=>z.up tk⟩
def iX (ra pa:ah) (n:Int) (pl ll:ah):List (Key×V):=[(.inr "rowers",.ref ra),(.inr "pieces",.ref pa),(.inr "count",.int n),(.inr "past",.ref pl),(.inr "later",.ref ll)]
def za (ra pa:ah) (n:Int) (pl ll:ah):lX (iX ra pa n pl ll) (.inr "rowers")=some (.ref ra):=by unfold lX iX;rfl
def vX (ra pa:ah) (n:Int) (pl ll:ah):lX (iX ra pa n pl ll) (.inr "pieces")=some (.ref pa):=by unfold lX iX;rfl
def CG (ra pa:ah) (n:Int) (pl ll:ah):lX (iX ra pa n pl ll) (.inr "count")=some (.int n):=by unfold lX iX;rfl
def oQ (ra pa:ah) (n:Int) (pl ll:ah):lX (iX ra pa n pl ll) (.inr "past")=some (.ref pl):=by unfold lX iX;rfl
def pC (ra pa:ah) (n:Int) (pl ll:ah):lX (iX ra pa n pl ll) (.inr "later")=some (.ref ll):=by unfold lX iX;rfl
def Qf (ra pa qt:ah) (n:Int) (pl ll:ah):putK (iX ra pa n pl ll) (.inr "rowers") (.ref qt)=iX qt pa n pl ll:=by unfold putK iX;rfl
def Qg (ra pa qu:ah) (n:Int) (pl ll:ah):putK (iX ra pa n pl ll) (.inr "pieces") (.ref qu)=iX ra qu n pl ll:=by unfold putK iX;rfl
def Qh (ra pa:ah) (n n':Int) (pl ll:ah):putK (iX ra pa n pl ll) (.inr "count") (.int n')=iX ra pa n' pl ll:=by unfold putK iX;rfl
def Ji (mu:List ah) (H:Hp) (ra pa:ah) (S:Cs):Prop:=∃(ws us:List V),ra∉mu/\pa∉mu/\H ra=some (.lst ws)/\Paired (fU H) ws S.bo/\H pa=some (.lst us)/\Paired (jE H) us S.rows
def Ji.kp {mu:List ah}{H H':Hp}{ra pa:ah}{S:Cs}(h:Ji mu H ra pa S) (k:nM mu H H') (tk:Tk H H'):Ji mu H' ra pa S:=by
 obtain⟨ws,us,m2,m3,h3,h4,h5,h6⟩:=h
 exact⟨ws,us,m2,m3,k _ _ m2 h3,au h4 fun _ _ z=>z.up tk,k _ _ m3 h5,au h6 fun _ _ z=>z.up tk⟩
structure mC (mu:List ah) (H:Hp) (ow ra pa pl ll:ah) (vs ws:List V) (sts:List Cs) (S:Cs) (cx:List Cs):Prop where
 d:H ow=some (.dK (iX ra pa S.n pl ll))
 now:Ji mu H ra pa S
 jZ:H pl=some (.lst vs)
 pp:Paired (LL mu H) vs sts
 ni:H ll=some (.lst ws)
 Ro:Paired (LL mu H) ws cx
structure Wd (C:ah) (H:Hp) (cb sl lc ow pl ll:ah) (sts:List Cs) (S:Cs) (cx:List Cs):Prop where
 cl:eW C H cb sl lc (sts++ [S]) cx
 own:∃ra pa vs ws,mC [ow,pl,ll,cb,sl,lc] H ow ra pa pl ll vs ws sts S cx
 YE:pl≠ll
 Rp:pl≠sl
 Rq:pl≠lc
 Rr:ll≠sl
 Rt:ll≠lc
def mC.kp {mu:List ah}{H H':Hp}{ow ra pa pl ll:ah}{vs ws:List V}{sts:List Cs}{S:Cs}{cx:List Cs}(h:mC mu H ow ra pa pl ll vs ws sts S cx) (k:nM mu H H') (tk:Tk H H') (e1:H' ow=some (.dK (iX ra pa S.n pl ll))) (e2:H' pl=some (.lst vs)) (e3:H' ll=some (.lst ws)):mC mu H' ow ra pa pl ll vs ws sts S cx:=
 ⟨e1,h.now.kp k tk,e2,au h.pp fun _ _ z=>z.kp k tk,e3,au h.Ro fun _ _ z=>z.kp k tk⟩
def mC.same {mu:List ah}{H H':Hp}{ow ra pa pl ll:ah}{vs ws:List V}{sts:List Cs}{S:Cs}{cx:List Cs}(h:mC mu H ow ra pa pl ll vs ws sts S cx) (s:a_ H H'):mC mu H' ow ra pa pl ll vs ws sts S cx:=
 h.kp (fR s) (eP s) (s _ _ h.d) (s _ _ h.jZ) (s _ _ h.ni)
def Wd.same {C:ah}{H H':Hp}{cb sl lc ow pl ll:ah}{sts:List Cs}{S:Cs}{cx:List Cs}(h:Wd C H cb sl lc ow pl ll sts S cx) (s:a_ H H'):Wd C H' cb sl lc ow pl ll sts S cx:=by
 obtain⟨ra,pa,vs,ws,o⟩:=h.own
 exact⟨h.cl.same s,⟨ra,pa,vs,ws,o.same s⟩,h.YE,h.Rp,h.Rq,h.Rr,h.Rt⟩
def kQ {H:Hp}{a b:ah}{de:List (Key×V)}{vs:List V}(h1:H a=some (.dK de)) (h2:H b=some (.lst vs)):a≠b:=fun z=>by rw[z,h2] at h1;cases h1
def ux {H:Hp}{a b:ah}{C dx:ah}{fs:List (Str×V)}{vs:List V}(h1:H a=some (.ins C dx fs)) (h2:H b=some (.lst vs)):a≠b:=fun z=>by rw[z,h2] at h1;cases h1
def eW.kinds {C:ah}{H:Hp}{cb sl ll:ah}{sts cx:List Cs}(h:eW C H cb sl ll sts cx):(∃dx fs,H cb=some (.ins C dx fs))/\(∃vs,H sl=some (.lst vs))/\∃ws,H ll=some (.lst ws):=by
 obtain⟨dx,vs,ws,c1,c2,c3,c4,c5,c6,_⟩:=h
 exact⟨⟨_,_,c1⟩,⟨_,c5⟩,⟨_,c6⟩⟩
def eW.mJ {C:ah}{H H':Hp}{cb sl ll:ah}{sts cx:List Cs}(h:eW C H cb sl ll sts cx) (k:Ec cb sl ll H H'):Tk H H':=fun b xs e=>by
 obtain⟨dx,vs,ws,c1,c2,c3,c4,c5,c6,c7,c8⟩:=h
 exact k _ _ (fun z=>by rw[z,c1] at e;cases e) (fun z=>by rw[z,c5] at e;cases e) (fun z=>by rw[z,c6] at e;cases e) e
def mC.YF {C:ah}{H H':Hp}{cb sl lc iL ow ra pa pl ll:ah}{vs ws:List V}{sts:List Cs}{S:Cs}{cx:List Cs}{VL lf1:List Cs}(h:mC [ow,pl,ll,cb,sl,lc] H ow ra pa pl ll vs ws sts S cx) (cl:eW C H cb sl lc VL lf1) (kp:Ec cb sl lc H H') (f:iL=lc\/H iL=none) (Rp:pl≠sl) (Rq:pl≠lc) (Rr:ll≠sl) (Rt:ll≠lc):mC [ow,pl,ll,cb,sl,iL] H' ow ra pa pl ll vs ws sts S cx:=by
 obtain⟨⟨_,_,a1⟩,⟨_,a2⟩,⟨_,a3⟩⟩:=cl.kinds
 have e1:=kp _ _ (fun z=>by rw[<-z,h.d] at a1;cases a1) (kQ h.d a2) (kQ h.d a3) h.d
 have e2:=kp _ _ (ux a1 h.jZ).symm Rp Rq h.jZ
 have e3:=kp _ _ (ux a1 h.ni).symm Rr Rt h.ni
 have km:nM [ow,pl,ll,cb,sl,lc] H H':=fun x o n e=>kp _ _ (fun z=>n (by simp[z])) (fun z=>n (by simp[z])) (fun z=>n (by simp[z])) e
 have tk:=cl.mJ kp
 have nm:∀{x:ah} {o:HO},H x=some o->x∉ [ow,pl,ll,cb,sl,lc]->x∉ [ow,pl,ll,cb,sl,iL]:=fun{x o} e m=>by
  rcases f with z|z
  ·rw[z];exact m
  ·have:x≠iL:=fun y=>by rw[y,z] at e;cases e
   simp only[aC,aM,cz,tT] at m⊢
   exact⟨m.1,m.2.1,m.2.2.1,m.2.2.2.1,m.2.2.2.2.1,this⟩
 have up:∀{w:V} {T:Cs},LL [ow,pl,ll,cb,sl,lc] H w T->LL [ow,pl,ll,cb,sl,iL] H' w T:=fun{w T} q=>by
  obtain⟨t,a,b,xP,us,h1,m1,m2,m3,h2,h3,h4,h5,h6⟩:=q
  exact⟨t,a,b,xP,us,h1,nm h2 m1,nm h3 m2,nm h5 m3,tk _ _ h2,km _ _ m2 h3,au h4 fun _ _ z=>z.up tk,km _ _ m3 h5,au h6 fun _ _ z=>z.up tk⟩
 obtain⟨xP,us,m2,m3,h3,h4,h5,h6⟩:=h.now
 exact⟨e1,⟨xP,us,nm h3 m2,nm h5 m3,km _ _ m2 h3,au h4 fun _ _ z=>z.up tk,km _ _ m3 h5,au h6 fun _ _ z=>z.up tk⟩,e2,au h.pp fun _ _ z=>up z,e3,au h.Ro fun _ _ z=>up z⟩
def VM (S:Cs):PyData:=.tuple [.list (S.bo.map qp),.list (S.rows.map IT),.int S.n]
def Jj {mu:List ah}{H:Hp}(v:V) (S:Cs) (h:LL mu H v S):qE H (VM S) v:=by
 obtain⟨t,a,b,ws,us,rfl,_,_,_,h2,h3,h4,h5,h6⟩:=h
 exact fT h2 (aU (eX h3 (eF qr h4)) (aU (eX h5 (eF sU h6)) (aU (dX _) dI)))
def UA {S:Cs}(h:vV S) (hn:S.n<=100000):Bd 600304 18 (VM S):=by
 refine(Bd.tuple (n:=200101) (p:=17) (m:=3) (ds:=[.list (S.bo.map qp),.list (S.rows.map IT),.int S.n]) (fun x hx=>?_) (aB 3)).mono (by decide) (by decide)
 simp only[aC,aM,cz] at hx
 rcases hx with rfl|rfl|rfl
 ·exact(y4 h.bo (bh h.lc (by decide))).mono (by decide) (by decide)
 ·exact y6 h.rows h.num (bh h.lr (by decide))
 ·exact(iF (by omega)).mono (by decide) (by decide)
def Ej {sts:List Cs}(h:∀S∈sts,vV S/\S.n<=100000):Lay (.list (sts.map VM)):=by
 refine(Bd.list (n:=600304) (p:=18) (m:=sts.length) (fun x hx=>?_) (by rw[aq];exact aB _)).lay (by decide)
 obtain⟨S,hS,rfl⟩:=cO.mp hx
 exact UA (h S hS).1 (h S hS).2
def Ek (sts:List Cs):PyData.eqv (.list (sts.map VM)) (.list [])=sts.isEmpty:=by
 rw[PyData.eqv]
 cases sts with
 |nil=>rfl
 |cons a l=>rw[bH,PyData.eqvAll];rfl
def Qi (S:Cs):Prop:=vV S/\S.n<=100000
def l_:List Str:=["ann","bo","cy","di","ed","fay","gus","al","ali"]
def pD:∀x∈l_,okN x:=by unfold okN;decide+kernel
abbrev VN (l:List j0):Prop:=l.Pairwise fun e e'=>mS e' e=false
structure St (S:Cs) (m:Nat):Prop where
 nd:(fA S.bo).Nodup
 M9:∀x∈fA S.bo,x∈l_
 rw:∀r∈S.bo,AZ r.2.1/\1<=r.2.2/\r.2.2<=1000000
 UB:VN S.bo
 lc:S.bo.length<=8
 rows:∀x∈S.rows,ig x.2/\f_ x.2
 num:∀x∈S.rows,x.1<S.n
 Ru:(S.rows.map (·.1)).Nodup
 lr:S.rows.length<=m
 n:S.n<=m
def St.ok {S:Cs}{m:Nat}(h:St S m) (hm:m<=31):vV S:=
 ⟨fun r hr=>⟨pD _ (h.M9 _ (cT hr)),(h.rw r hr).1,by have:=h.rw r hr;omega⟩,h.rows,fun x hx=>by have:=h.num x hx;have:=h.n;omega,h.lc,bh h.lr hm⟩
def St.sok {S:Cs}{m:Nat}(h:St S m) (hm:m<=31):Qi S:=⟨h.ok hm,by have:=h.n;omega⟩
def St.mono {S:Cs}{m m':Nat}(h:St S m) (hm:m<=m'):St S m':=⟨h.nd,h.M9,h.rw,h.UB,h.lc,h.rows,h.num,h.Ru,bh h.lr hm,bh h.n hm⟩
def St.nil:St ⟨[],[],0⟩ 0:=⟨by simp[fA],by simp[fA],by simp,List.Pairwise.nil,by simp,by simp,by simp,by simp,by simp,aB _⟩
def vY {l:List j0}(nd:(fA l).Nodup) {a b:j0}(ha:a∈l) (hb:b∈l) (e:a.1=b.1):a=b:=by
 induction l with
 |nil=>cases ha
 |cons c l ih=>
  rw[show fA (c::l)=c.1::fA l from rfl,iN] at nd
  rcases aC.mp ha with rfl|ha'
  ·rcases aC.mp hb with rfl|hb
   ·rfl
   ·exact absurd (cT (f:=(·.1)) hb) (by rw[<-e];exact nd.1)
  ·rcases aC.mp hb with rfl|hb
   ·exact absurd (e▸cT (f:=(·.1)) ha') nd.1
   ·exact ih nd.2 ha' hb
def lH {α:Type} [DecidableEq α] (l:List α) (x:α):List α:=l.filter fun y=>!decide (y=x)
def F2 {l:List j0}(nd:(fA l).Nodup) {r:j0}(h:r∈l):lH l r=mV l r.1:=by
 unfold lH mV
 refine A_ fun y hy=>?_
 congr 1
 exact decide_eq_decide.mpr ⟨fun z=>by rw[z],fun z=>vY nd hy h z⟩
def St.oR {S:Cs}{m:Nat}(h:St S m) {r:j0}(h1:r.1∈l_) (h2:r.1∉fA S.bo) (h3:AZ r.2.1/\1<=r.2.2/\r.2.2<=1000000) (h4:S.bo.length<=7):St ⟨mz (S.bo++ [r]),S.rows,S.n⟩ m:=by
 have p:=vT (S.bo++ [r])
 have pn:(fA (mz (S.bo++ [r]))).Perm (fA S.bo++ [r.1]):=by
  have:=p.map (·.1)
  rwa[bE] at this
 have mem:∀q,q∈mz (S.bo++ [r])->q∈S.bo\/q=r:=fun q hq=>by
  rcases c_.mp (p.mem_iff.mp hq) with z|z
  ·exact .inl z
  ·exact .inr (bU.mp z)
 refine⟨pn.nodup_iff.mpr ?_,fun x hx=>?_,fun q hq=>?_,rn _,?_,h.rows,h.num,h.Ru,h.lr,h.n⟩
 ·rw[qA]
  exact⟨h.nd,by simp,fun a ha b hb=>by rw[bU.mp hb];rintro rfl;exact h2 ha⟩
 ·rcases c_.mp (pn.mem_iff.mp hx) with z|z
  ·exact h.M9 x z
  ·rw[bU.mp z];exact h1
 ·rcases mem q hq with z|z
  ·exact h.rw q z
  ·rw[z];exact h3
 ·have:=p.length_eq
  rw[aK,aG] at this
  show(mz (S.bo++ [r])).length<=8
  omega
def St.go {S:Cs}{m:Nat}(h:St S m) (x:Str):St ⟨mV S.bo x,S.rows,S.n⟩ m:=by
 have sub:∀q,q∈mV S.bo x->q∈S.bo:=fun q hq=>(dz.mp hq).1
 refine⟨?_,fun y hy=>?_,fun q hq=>h.rw q (sub q hq),h.UB.sublist xV,bh (ej _ _) h.lc,h.rows,h.num,h.Ru,h.lr,h.n⟩
 ·exact(List.Sublist.map _ xV).nodup h.nd
 ·obtain⟨q,hq,rfl⟩:=cO.mp hy
  exact h.M9 _ (cT (sub q hq))
def vZ (bo:List j0) (x:Str) (i:Int):fA (bo.map (xQ x i))=fA bo:=by
 unfold fA
 rw[nP]
 refine jL fun r _=>?_
 show(xQ x i r).1=r.1
 unfold xQ
 split<;>rfl
def Qj {l:List j0}(nd:(fA l).Nodup) (s:VN l):Up (fA l):=by
 unfold fA at*
 rw[Up,kW]
 have Vx:=kW.mp nd
 refine(s.and Vx).imp fun{a b} ⟨h1,h2⟩=>?_
 unfold mS wQ at h1
 rw[aO (fun z=>h2 z.symm)] at h1
 rcases Ou.Oq a.1 b.1 h2 with z|z
 ·exact z
 ·rw[z] at h1;cases h1
def Qk {l:List j0}(h:Up (fA l)):VN l:=by
 unfold fA at h
 have h':=kW.mp h
 refine h'.imp fun{a b} z=>?_
 unfold mS wQ
 rw[aO (fun y=>Ij z y.symm)]
 exact ot z
def St.UC {S:Cs}{m:Nat}(h:St S m) (x:Str) (i:Int):VN (S.bo.map (xQ x i)):=Qk (by rw[vZ];exact Qj h.nd h.UB)
def St.weigh {S:Cs}{m:Nat}(h:St S m) (x:Str) {i:Int}(h1:1<=i) (h2:i<=1000000):St ⟨S.bo.map (xQ x i),S.rows,S.n⟩ m:=by
 refine⟨by rw[vZ];exact h.nd,by rw[vZ];exact h.M9,fun q hq=>?_,h.UC x i,by rw[aq];exact h.lc,h.rows,h.num,h.Ru,h.lr,h.n⟩
 obtain⟨r,hr,rfl⟩:=cO.mp hq
 have:=h.rw r hr
 unfold xQ
 split
 ·exact⟨this.1,h1,h2⟩
 ·exact this
def El:∀{l:List j0}{r:j0}{i:Int},(fA l).Nodup->r∈l->(l.map (xQ r.1 i)).Perm (lH l r++ [(r.1,r.2.1,i)])
 |c::l,r,i,nd,h=>by
  rw[show fA (c::l)=c.1::fA l from rfl,iN] at nd
  have pG:r.1∉fA l->l.map (xQ r.1 i)=l:=fun n=>by
   conv=>rhs;rw[<-List.map_id l]
   refine jL fun y hy=>?_
   unfold xQ
   rw[aO (fun z=>n (by rw[<-z];exact cT (f:=(·.1)) hy))];rfl
  rcases aC.mp h with rfl|hr
  ·rw[bH,pG nd.1]
   have e1:xQ r.1 i r=(r.1,r.2.1,i):=by unfold xQ;rw[aP rfl]
   have e2:lH (r::l) r=l:=by
    unfold lH
    rw[EE,aO (by simp)]
    exact List.filter_eq_self.mpr fun y hy=>by
     simp only[kU,QX]
     rintro rfl
     exact nd.1 (cT (f:=(·.1)) hy)
   rw[e1,e2]
   exact(J_ _ _).symm
  ·have ne:c≠r:=fun z=>by rw[z] at nd;exact nd.1 (cT (f:=(·.1)) hr)
   have nn:c.1≠r.1:=fun z=>nd.1 (by rw[z];exact cT (f:=(·.1)) hr)
   have e1:xQ r.1 i c=c:=by unfold xQ;rw[aO nn]
   have e2:lH (c::l) r=c::lH l r:=by
    unfold lH
    rw[EE,aP (by simp[ne])]
   rw[bH,e1,e2,List.cons_append]
   exact(El nd.2 hr).cons c
def St.UD {S:Cs}{m:Nat}(h:St S m) {r:j0}(hr:r∈S.bo) (i:Int):mz (mV S.bo r.1++ [(r.1,r.2.1,i)])=S.bo.map (xQ r.1 i):=by
 rw[<-F2 h.nd hr]
 exact(vU (El h.nd hr) (h.UC r.1 i)).symm
def St.tell {S:Cs}{m:Nat}(h:St S m) {p:jO}(o:ig p) (c:f_ p):St ⟨S.bo,S.rows++ [(S.n,p)],S.n+1⟩ (m+1):=by
 have:=h.n
 refine⟨h.nd,h.M9,h.rw,h.UB,h.lc,fun x hx=>?_,fun x hx=>?_,?_,by have:=h.lr;rw[aK,aG];omega,by show S.n+1<=m+1;omega⟩
 ·rcases c_.mp hx with z|z
  ·exact h.rows x z
  ·rw[bU.mp z];exact⟨o,c⟩
 ·rcases c_.mp hx with z|z
  ·have:=h.num x z;show x.1<S.n+1;omega
  ·rw[bU.mp z];show S.n<S.n+1;omega
 ·show((S.rows++ [(S.n,p)]).map (·.1)).Nodup
  rw[bE,qA]
  refine⟨h.Ru,by simp,fun a ha b hb=>?_⟩
  obtain⟨x,hx,rfl⟩:=cO.mp ha
  have:=h.num x hx
  simp only[bH,nO,bU] at hb
  omega
def St.jF {S:Cs}{m:Nat}(h:St S m) (k:Int):St ⟨S.bo,ua S.rows k,S.n⟩ m:=by
 have sub:∀q,q∈ua S.rows k->q∈S.rows:=fun q hq=>(dz.mp hq).1
 exact⟨h.nd,h.M9,h.rw,h.UB,h.lc,fun x hx=>h.rows x (sub x hx),fun x hx=>h.num x (sub x hx),(List.Sublist.map _ xV).nodup h.Ru,bh (ej _ _) h.lr,h.n⟩
def Ql {x y:Str}{i:Int}(hx:okN x) (hy:AZ y) (hi:i.natAbs<2^200):qX (qp (x,y,i)):=(MV (r:=(x,y,i)) ⟨hx,hy,hi⟩).mono (by decide) (by decide)
def zb {i:Int}(h:i.natAbs<2^200):qX (.int i):=(iF h).mono (by decide) (by decide)
def oS:List Str:=["port","starboard","both"]
def v_:∀x∈oS,AZ x/\gL (.str x)=true:=by unfold AZ;decide+kernel
def Qm {x y:Str}{i:Int}(hx:x∈l_) (hy:y∈oS) (h1:1<=i) (h2:i<=1000000):qX (qp (x,y,i))/\eQ (qp (x,y,i))=true:=by
 have ox:=pD x hx
 have oy:=v_ y hy
 refine⟨Ql ox oy.1 (by omega),?_⟩
 show(fm (.str x)&&(gL (.str y)&&eI (.int i)))=true
 rw[ox.2.2,oy.2,show eI (.int i)=true by
  show(decide (1<=i)&&decide (i<=1000000))=true
  rw[aJ h1,aJ h2];rfl];rfl
def M_ {i:Int}(h1:1<=i) (h2:i<=1000000):qX (.int i)/\eI (.int i)=true:=by
 refine⟨zb (by omega),?_⟩
 show(decide (1<=i)&&decide (i<=1000000))=true
 rw[aJ h1,aJ h2];rfl
end K12
namespace L2
open PySem PySem.Spec PyProof.Rows HT PySem.W
section
variable {X:Cx}{pos:Pos}
def UE (i j k:Nat) (ta:TA):TS:=fun D σ H=>ta σ H fun vs H1=>∃v w u,vs=[v,w,u]/\D.nx (((σ.set i (some v)).set j (some w)).set k (some u)) H1
def LM {i j k:Nat}{x y z:Str}{a b c:Expr}{ta:TA}{px py pz pt:Pos} {kt k2 NI}(hc:X.calm=true) (hN:X.N.Nodup) (hi:X.N[i]?=some x) (hj:X.N[j]?=some y) (hk:X.N[k]?=some z) (x9:i≠j) (hik:i≠k) (hjk:j≠k)
  (hx:X.env.scope.names.lookup x=some .local) (hy:X.env.scope.names.lookup y=some .local) (hz:X.env.scope.names.lookup z=some .local) (ha:PA X [a,b,c] ta)
  (hw:swappedStores [.Tuple [.Name x px,.Name y py,.Name z pz] kt pt] (.Tuple [a,b,c] k2 NI) X.env=pure (some [x,y,z]))
  (hs:swapsWithSole [.Tuple [.Name x px,.Name y py,.Name z pz] kt pt] (.Tuple [a,b,c] k2 NI) pos.line X.env=pure false:=by rfl):
  PS X (.Assign [.Tuple [.Name x px,.Name y py,.Name z pz] kt pt] (.Tuple [a,b,c] k2 NI) pos) (UE i j k ta):=by
 intro pins s σ H D I h
 rw[exec_Assign_arm]
 refine aa (jx ?_)
 rw[hs]
 refine aa (ak ?_)
 rw[aO (by decide)]
 refine aa (Tuple_ (e_ (ha _ pins s σ H _ I h) fun us s1 ⟨vs,H1,I1,r1,q1⟩=>?_))
 obtain⟨v,w,u,e1,q1⟩:=q1
 subst e1
 obtain⟨u1,u2,u3,rfl,rv,EM,ru⟩:∃u1 u2 u3,us=[u1,u2,u3]/\RelV v u1/\RelV w u2/\RelV u u3:=by
  cases r1 with
  |cons p q=>
   cases q with
   |cons p' q'=>
    cases q' with
    |cons p'' q''=>
     cases q''
     exact⟨_,_,_,rfl,p,p',p''⟩
 refine bD ?_ (dF)
 have I2:Inv X pins σ H1 {s1 with heap:=s1.heap.push {cls:=.type "tuple",data:=.seq [u1,u2,u3].toArray}}:=I1.kept (t':=s1.toks) fun b o e=>ag _ e
 rw[hw]
 refine aa (ak ?_)
 show wpAny (model X.prog X.w) X.A (do rule "assign.swapped-stores";let items<-unpackItems (.ref s1.heap.objs.size) 3 none;assignInOrder [fun v=>bindName X.env z v,fun v=>bindName X.env y v,fun v=>bindName X.env x v] items.reverse;pure Flow.next) _ _ _
 refine aa (jS (aa (unpackItems_tuple (items:=#[u1,u2,u3]) (I.ok.hd hc) (IsTup.new s1.heap _) fun h' RR=>?_)))
 have I3:=I2.kept (h':=h') (t':=s1.toks) fun b o e=>RR b o (bb (aA e)) e
 show wpAny _ _ (assignInOrder [fun v=>bindName X.env z v,fun v=>bindName X.env y v,fun v=>bindName X.env x v] [u3,u2,u1]>>=fun _=>pure Flow.next) _ _ _
 refine aa (jR (mF (kD I3 hN hk (.inl hz) ru (fun s2 I4=>?_) (.inr hz))))
 refine jR (mF (kD I4 hN hj (.inl hy) EM (fun s3 I5=>?_) (.inr hy)))
 refine jR (mF (kD I5 hN hi (.inl hx) rv (fun s4 I6=>assignInOrder_nil (ak ?_)) (.inr hx)))
 refine⟨_,H1,?_,q1⟩
 have e:(((σ.set i (some v)).set j (some w)).set k (some u))=(((σ.set k (some u)).set j (some w)).set i (some v)):=by
  rw[zk _ _ x9,zk _ _ hik,zk _ _ hjk]
 rw[e]
 exact I6
end
end L2
namespace K12
open PySem L2 HT PySem.W
inductive nF
 |oR (d:PyData)
 |go (x:Str)
 |weigh (x:Str) (d:PyData)
 |tell (d:PyData)
 |jF (i:Int)
 |back
 |again
def RwG (r:j0):Prop:=r.1∈l_/\r.2.1∈oS/\1<=r.2.2/\r.2.2<=1000000
def UG (H:Hp) (d:PyData) (v:V):Prop:=eQ d=false\/∃a r,v=.ref a/\d=qp r/\eQ d=true/\H a=some (.tup [.str r.1,.str r.2.1,.int r.2.2])/\RwG r
def WgV (d:PyData) (v:V):Prop:=eI d=false\/∃i:Int,d=.int i/\v=.int i/\1<=i/\i<=1000000
def UH (H:Hp) (d:PyData) (v:V):Prop:=gx d=false\/∃r p,v=.ref r/\d=wY p/\jD H r p/\ig p/\f_ p
def j4 (H:Hp) (t:ah):nF->Prop
 | .oR d=>∃v,H t=some (.tup [.str "come",v])/\qE H d v/\qX d/\UG H d v
 | .go x=>H t=some (.tup [.str "go",.str x])/\AZ x
 | .weigh x d=>∃v,H t=some (.tup [.str "weigh",.str x,v])/\AZ x/\qE H d v/\Bd 1 0 d/\WgV d v
 | .tell d=>∃v,H t=some (.tup [.str "tell",v])/\qE H d v/\qX d/\UH H d v
 | .jF i=>H t=some (.tup [.str "strike",.int i])/\i.natAbs<2^200
 | .back=>H t=some (.tup [.str "back"])
 | .again=>H t=some (.tup [.str "again"])
def qE.same {H H':Hp}{d:PyData}{v:V}(h:qE H d v) (s:a_ H H'):qE H' d v:=by
 obtain⟨k0,f⟩:=h
 exact⟨k0,fun k hk=>(f k hk).keep s.keep⟩
def j4.same {H H':Hp}{t:ah}{D:nF}(h:j4 H t D) (s:a_ H H'):j4 H' t D:=by
 cases D with
 |oR d=>
  obtain⟨v,h1,h2,h3,h4⟩:=h
  refine⟨v,s _ _ h1,h2.same s,h3,h4.imp id ?_⟩
  rintro⟨a,r,e1,e2,e3,e4,e5⟩
  exact⟨a,r,e1,e2,e3,s _ _ e4,e5⟩
 |go x=>exact⟨s _ _ h.1,h.2⟩
 |weigh x d=>
  obtain⟨v,h1,h0,h2,h3,h4⟩:=h
  exact⟨v,s _ _ h1,h0,h2.same s,h3,h4⟩
 |tell d=>
  obtain⟨v,h1,h2,h3,h4⟩:=h
  refine⟨v,s _ _ h1,h2.same s,h3,h4.imp id ?_⟩
  rintro⟨a,r,e1,e2,e3,e5⟩
  exact⟨a,r,e1,e2,e3.same s,e5⟩
 |jF i=>exact⟨s _ _ h.1,h.2⟩
 |back=>exact s _ _ h
 |again=>exact s _ _ h
inductive Out
 |no (s:Str)
 |st (S:Cs) (r:Option Nat)
inductive w_ (S:Cs):nF->Out->Prop
 |c1 {d:PyData}:eQ d=false->w_ S (.oR d) (.no "NoRower+")
 |c2 {r:j0}:eQ (qp r)=true->r.1∈fA S.bo->w_ S (.oR (qp r)) (.no "Twice+")
 |c3 {r:j0}:eQ (qp r)=true->r.1∉fA S.bo->S.bo.length=8->w_ S (.oR (qp r)) (.no "TooMany+9")
 |c4 {r:j0}:eQ (qp r)=true->r.1∉fA S.bo->S.bo.length<=7->RwG r->w_ S (.oR (qp r)) (.st ⟨mz (S.bo++ [r]),S.rows,S.n⟩ none)
 |g1 {x:Str}:x∉fA S.bo->w_ S (.go x) (.no "NoName+")
 |g2 {x:Str}:x∈fA S.bo->w_ S (.go x) (.st ⟨mV S.bo x,S.rows,S.n⟩ none)
 |w1 {x:Str} {d:PyData}:x∉fA S.bo->w_ S (.weigh x d) (.no "NoName+")
 |w2 {x:Str} {d:PyData}:x∈fA S.bo->eI d=false->w_ S (.weigh x d) (.no "NoRower+")
 |w3 {x:Str} {i:Int}:x∈fA S.bo->1<=i->i<=1000000->w_ S (.weigh x (.int i)) (.st ⟨S.bo.map (xQ x i),S.rows,S.n⟩ none)
 |t1 {d:PyData}:gx d=false->w_ S (.tell d) (.no "NoPiece+")
 |t2 {p:jO}:ig p->f_ p->w_ S (.tell (wY p)) (.st ⟨S.bo,S.rows++ [(S.n,p)],S.n+1⟩ (some S.n))
 |s1 {i:Int}:yN S.rows i=false->w_ S (.jF i) (.no "NoNumber+")
 |s2 {i:Int}:yN S.rows i=true->w_ S (.jF i) (.st ⟨S.bo,ua S.rows i,S.n⟩ none)
inductive AL:nF->List Cs->Cs->List Cs->Str⊕Option Nat->List Cs->Cs->List Cs->Prop
 |no {D:nF} {sts:List Cs} {S:Cs} {cx:List Cs} {s:Str}:w_ S D (.no s)->AL D sts S cx (.inl s) sts S cx
 |st {D:nF} {sts:List Cs} {S S':Cs} {cx:List Cs} {r:Option Nat}:w_ S D (.st S' r)->AL D sts S cx (.inr r) (sts++ [S]) S' []
 |b0 {S:Cs} {cx:List Cs}:AL .back [] S cx (.inl "NothingLeft+") [] S cx
 |b {sts:List Cs} {T S:Cs} {cx:List Cs}:AL .back (sts++ [T]) S cx (.inr none) sts T (cx++ [S])
 |a0 {sts:List Cs} {S:Cs}:AL .again sts S [] (.inl "NothingLeft+") sts S []
 |a {sts:List Cs} {S T:Cs} {cx:List Cs}:AL .again sts S (cx++ [T]) (.inr none) (sts++ [S]) T cx
def uy {α:Type}(l:List α):l=[]\/∃l' x,l=l'++ [x]:=by
 rcases List.eq_nil_or_concat l with h|⟨l',x,h⟩
 ·exact .inl h
 ·exact .inr ⟨l',x,by rw[h,List.concat_eq_append]⟩
def LO {H:Hp}{t:ah}{D:nF}{sts:List Cs}{S:Cs}{cx:List Cs}(h:j4 H t D) (l8:S.bo.length<=8):∃o fw S' fi,AL D sts S cx o fw S' fi:=by
 have of:∀{o},w_ S D o->∃o fw S' fi,AL D sts S cx o fw S' fi:=fun{o} l=>by
  cases o with
  |no s=>exact⟨_,_,_,_,.no l⟩
  |st S' r=>exact⟨_,_,_,_,.st l⟩
 cases D with
 |oR d=>
  obtain⟨v,_,_,_,c|⟨a,r,_,rfl,c,_,g⟩⟩:=h
  ·exact of (.c1 c)
  by_cases m:r.1∈fA S.bo
  ·exact of (.c2 c m)
  by_cases e:S.bo.length=8
  ·exact of (.c3 c m e)
  ·exact of (.c4 c m (by omega) g)
 |go x=>
  by_cases m:x∈fA S.bo
  ·exact of (.g2 m)
  ·exact of (.g1 m)
 |weigh x d=>
  obtain⟨v,_,_,_,_,c⟩:=h
  by_cases m:x∈fA S.bo
  ·rcases c with c|⟨i,rfl,_,i1,i2⟩
   ·exact of (.w2 m c)
   ·exact of (.w3 m i1 i2)
  ·exact of (.w1 m)
 |tell d=>
  obtain⟨v,_,_,_,c|⟨r,p,_,rfl,_,o,c⟩⟩:=h
  ·exact of (.t1 c)
  ·exact of (.t2 o c)
 |jF i=>
  cases e:yN S.rows i with
  |false=>exact of (.s1 e)
  |true=>exact of (.s2 e)
 |back=>
  rcases uy sts with rfl|⟨s',T,rfl⟩
  ·exact⟨_,_,_,_,.b0⟩
  ·exact⟨_,_,_,_,.b⟩
 |again=>
  rcases uy cx with rfl|⟨s',T,rfl⟩
  ·exact⟨_,_,_,_,.a0⟩
  ·exact⟨_,_,_,_,.a⟩
def w_.ok {S S':Cs}{D:nF}{r:Option Nat}{m:Nat}(h:w_ S D (.st S' r)) (s:St S m):St S' (m+1):=by
 cases h with
 |c4 c n l g=>exact(s.oR g.1 n ⟨(v_ _ g.2.1).1,g.2.2⟩ l).mono (by omega)
 |g2 h=>exact(s.go _).mono (by omega)
 |w3 h h1 h2=>exact(s.weigh _ h1 h2).mono (by omega)
 |t2 o c=>exact s.tell o c
 |s2 h=>exact(s.jF _).mono (by omega)
def oU {K:Frag}{H:Hp}{a:ah}{xs:List V}(h:cS K H a xs) (i:Nat) (hi:i<=xs.length):(i=xs.length->(C_ K a).stop i H)/\(i<xs.length->(C_ K a).go i H/\∀y H',(C_ K a).Bk i H y H'->H'=H/\y=xs.getD i .eA):=by
 refine⟨fun e=>⟨xs,h,by omega⟩,fun e=>⟨⟨xs,xs[i],h,by simp[e]⟩,fun y H' q=>?_⟩⟩
 obtain⟨q1,q2⟩:=q
 have:=q2 xs h
 exact⟨q1,by simp[List.getD,this]⟩
def UI:R2:=fun x y H Q=>∃k k' dx dy,Tells H k dx x/\Tells H k' dy y/\Lay dx/\Lay dy/\Q (.bl (!PyData.eqv dx dy)) H
def Em {X:Cx}(hu:X.A.units+64<cLine):lg X (compareOp .NotEq) UI:=qh hu
def YG (K:Frag):TT:=gj (gI UI (gI (fZ K) (cg 0) (tC (.int 0))) (gI (fZ K) (cg 1) (tC (.int 1))))
section
variable {P:aF}{w:ba}{K:Frag}{mg:Str->Option af}{base:Heap}
def Jk {α:Type}{R:Hp->V->α->Prop}{D0:α->PyData}(up:∀{H H':Hp}{v:V}{x:α},R H v x->Tk H H'->R H' v x) (fst:∀{H:Hp}{v:V}{x:α},R H v x->∃b ys v0,v=.ref b/\H b=some (.tup ys)/\qT ys 0=some v0/\∀H' k,Tells H' k (D0 x) v0)
  {H1:Hp} {L a t:ah} {us ts:List V} {xs:List α} {v1:V} {d:PyData} {Q:VK} (v:Option V) (hL:H1 L=none) (h:H1 a=some (.lst us)) (pr:Paired (R H1) us xs) (ht:H1 t=some (.tup ts)) (h1:qT ts 1=some v1) (fr:qE H1 d v1) (hl:xs.length<=1000) (lay:∀x∈xs,Lay (D0 x)) (lay0:Lay d)
  (q:∀ys J,a_ H1 J->J L=some (.lst ys)->Paired (R J) ys (xs.filter fun x=>!PyData.eqv (D0 x) d)->Q (.ref L) J):
  pK (C_ K a) (dU 0) (YG K) (cg 0) [v,some (.ref t)] H1 Q L:=by
 have lu:=bQ pr
 refine lD (n:=us.length) (f:=fun i=>us.getD i .eA) (fun j ys bW J=>(∃v,bW=[v,some (.ref t)])/\a_ H1 J/\Paired (R J) ys ((xs.take j).filter fun x=>!PyData.eqv (D0 x) d)) hL (by omega) ⟨⟨_,rfl⟩,bP (a_.refl _) hL,.nil⟩ (fun j ys bW J hj hy ⟨_,sj,_⟩=>oU (K:=K) (cS.of (sj _ _ h)) j hj) ?_ ?_
 ·rintro j ys bW J hj hy ⟨⟨v,rfl⟩,sj,pj⟩
  have qD:j<xs.length:=by omega
  obtain⟨u,eu,e1⟩:=ez pr j qD
  rw[getD_some eu]
  have e2:=up e1 (eP sj)
  obtain⟨b,zs,v0,rfl,hb,b0,tb⟩:=fst e2
  obtain⟨k2,t2⟩:=(fr.same sj).one
  refine⟨_,rfl,b,_,0,_,rfl,rfl,bY.of hb,b0,_,rfl,t,_,1,_,rfl,rfl,bY.of (sj _ _ ht),h1,0,k2,_,_,tb _ _,t2,lay _ (cA qD),lay0,_,rfl,?_⟩
  rw[fQ qD,uw]
  by_cases e:PyData.eqv (D0 xs[j]) d=true
  ·refine ite_no (by simp[e]) ?_
   refine⟨hy,⟨_,rfl⟩,sj,?_⟩
   rw[aO (by simp[e])]
   exact pj
  ·refine ite_yes (by simp[e]) ?_
   have AA:Tk J (upd J L (.lst (ys++ [.ref b]))):=fun c xs e=>by rw[aV (fun z=>by rw[z,hy] at e;cases e)];exact e
   refine⟨_,rfl,hy,⟨_,rfl⟩,bP sj hL,?_⟩
   rw[aP (by simp[e])]
   exact dN (au pj fun _ _ z=>up z AA) (up e2 AA)
 ·rintro ys bW J hy ⟨_,sj,pj⟩
  rw[lu,cZ] at pj
  exact q ys J sj hy pj
def Jl {H1:Hp}{L a:ah}{us:List V}{bo:List j0}{Q:VK}(v:Option V) (hL:H1 L=none) (h:H1 a=some (.lst us)) (pr:Paired (fU H1) us bo) (hl:bo.length<=1000) (q:∀J,a_ H1 J->J L=some (.lst ((fA bo).map V.str))->Q (.ref L) J):
  pK (C_ K a) (dU 0) qd (gI (fZ K) (cg 0) (tC (.int 0))) [v] H1 Q L:=by
 have lu:=bQ pr
 refine kO (n:=us.length) (f:=fun i=>us.getD i .eA) (fun j ys bW J=>(∃v,bW=[v])/\a_ H1 J/\ys=(fA (bo.take j)).map V.str) hL (by omega) ⟨⟨_,rfl⟩,bP (a_.refl _) hL,rfl⟩ (fun j ys bW J hj hy ⟨_,sj,_⟩=>oU (K:=K) (cS.of (sj _ _ h)) j hj) ?_ ?_
 ·rintro j ys bW J hj hy ⟨⟨v,rfl⟩,sj,rfl⟩
  have qD:j<bo.length:=by omega
  obtain⟨u,eu,b,rfl,e1⟩:=ez pr j qD
  rw[getD_some eu]
  refine⟨_,rfl,b,_,0,_,rfl,rfl,bY.of (sj _ _ e1),aT (j:=0) rfl,hy,⟨_,rfl⟩,bP sj hL,?_⟩
  unfold fA
  rw[fQ qD,bE,bE];rfl
 ·rintro ys bW J hy ⟨_,sj,rfl⟩
  rw[lu,cZ] at hy
  exact q J sj hy
def Qn {H:Hp}{v:V}{x:j0}(h:fU H v x):∃b ys v0,v=.ref b/\H b=some (.tup ys)/\qT ys 0=some v0/\∀H' k,Tells H' k (.str x.1) v0:=by
 obtain⟨a,rfl,e⟩:=h
 exact⟨a,_,_,rfl,e,aT (j:=0) rfl,fun _ _=>eY.mpr rfl⟩
def Qo {H:Hp}{v:V}{x:Nat×jO}(h:jE H v x):∃b ys v0,v=.ref b/\H b=some (.tup ys)/\qT ys 0=some v0/\∀H' k,Tells H' k (.int x.1) v0:=by
 obtain⟨a,r,rfl,e,_⟩:=h
 exact⟨a,_,_,rfl,e,aT (j:=0) rfl,fun _ _=>i9.mpr rfl⟩
def wb (bo:List j0) (x:Str):(bo.filter fun r=>!PyData.eqv (.str r.1) (.str x))=mV bo x:=by
 unfold mV
 refine A_ fun r _=>?_
 rw[PyData.eqv]
 by_cases e:r.1=x
 ·simp[e]
 ·simp[e]
def Jm (rows:Rows) (i:Int):(rows.filter fun r=>!PyData.eqv (.int r.1) (.int i))=ua rows i:=by
 unfold ua
 refine A_ fun r _=>?_
 rw[PyData.eqv]
 by_cases e:(r.1:Int)=i
 ·simp[e]
 ·simp[e]
def wc (bo:List j0) (x:Str):(mV bo x).length=bo.length↔x∉fA bo:=by
 unfold mV fA
 rw[Ba]
 constructor
 ·intro h m
  obtain⟨r,hr,rfl⟩:=cO.mp m
  have:=h r hr
  simp at this
 ·intro h r hr
  simp only[kU,QX]
  rintro rfl
  exact h (cT hr)
def Jn (rows:Rows) (i:Int):(ua rows i).length=rows.length↔yN rows i=false:=by
 unfold ua yN
 rw[Ba,A3]
 constructor
 ·intro h r hr
  have:=h r hr
  simpa using this
 ·intro h r hr
  have:=h r hr
  simpa using this
end
end K12
namespace L2
open PySem
section
variable {K:PySem.W.Frag}{i:Nat}{t:ah}{s s':Str}{ts:List V}{A B:TS}{D:Ends}{σ:St}{H:Hp}
def gN (hv:σ[i]?=some (some (.ref t))) (ht:H t=some (.tup ts)) (k:qT ts 0=some (.str s)) (h:A D σ H):wK (gj (gI Gh (gI (fZ K) (cg i) (tC (.int 0))) (tC (.str s)))) A B D σ H:=by
 refine⟨_,hv,t,_,0,_,rfl,rfl,bY.of ht,k,rfl,_,rfl,?_⟩
 show if decide (V.str s=V.str s)=true then A D σ H else B D σ H
 rw[aP (aJ rfl)]
 exact h
def jt (hv:σ[i]?=some (some (.ref t))) (ht:H t=some (.tup ts)) (k:qT ts 0=some (.str s')) (n:decide (s'=s)=false) (h:B D σ H):wK (gj (gI Gh (gI (fZ K) (cg i) (tC (.int 0))) (tC (.str s)))) A B D σ H:=by
 refine⟨_,hv,t,_,0,_,rfl,rfl,bY.of ht,k,rfl,_,rfl,?_⟩
 show if decide (V.str s'=V.str s)=true then A D σ H else B D σ H
 rw[aO (fun z=>iJ n (V.str.inj (aX z)))]
 exact h
end
def UJ {c:Bool}{A B:Prop}(a:A) (h:c=true:=by exact rfl):if c=true then A else B:=by rw[h,aP rfl];exact a
def UK {c:Bool}{A B:Prop}(b:B) (h:c=false:=by exact rfl):if c=true then A else B:=by rw[h,aO bA];exact b
def dF {n:Nat}(h:Nat.ble n 99=true:=by exact rfl):n<=sizeLine:=bh (uE h) (by decide)
end L2
namespace K12
open PySem L2 HT PySem.W
def AM:nF->Str
 | .oR _=>"come"
 | .go _=>"go"
 | .weigh _ _=>"weigh"
 | .tell _=>"tell"
 | .jF _=>"strike"
 | .back=>"back"
 | .again=>"again"
def dat:nF->PyData
 | .oR d=>d
 | .go x=>.str x
 | .weigh x _=>.str x
 | .tell d=>d
 | .jF i=>.int i
 | .back=>.none
 | .again=>.none
def zc {x:Str}(h:AZ x):qX (.str x):=(lW h.1 h.2).mono (by decide) (by decide)
def j4.one {H:Hp}{t:ah}{D:nF}{S:Cs}{o:Out}(h:j4 H t D) (l:w_ S D o):∃ts v1,H t=some (.tup ts)/\qT ts 0=some (.str (AM D))/\qT ts 1=some v1/\qE H (dat D) v1/\qX (dat D):=by
 cases D with
 |oR d=>
  obtain⟨v,h1,h2,h3,_⟩:=h
  exact⟨_,v,h1,rfl,rfl,h2,h3⟩
 |go x=>exact⟨_,_,h.1,rfl,rfl,hW x,zc h.2⟩
 |weigh x d=>
  obtain⟨v,h1,h0,_⟩:=h
  exact⟨_,_,h1,rfl,rfl,hW x,zc h0⟩
 |tell d=>
  obtain⟨v,h1,h2,h3,_⟩:=h
  exact⟨_,v,h1,rfl,rfl,h2,h3⟩
 |jF i=>exact⟨_,_,h.1,rfl,rfl,dX i,zb h.2⟩
 |back=>cases l
 |again=>cases l
def LP {r q:j0}(e:qp r=qp q):r=q:=by
 have h:=yZ r q
 rw[e,yZ q q,aJ rfl] at h
 exact aX h.symm
def LQ {r q:jO}(e:wY r=wY q):r=q:=by
 have h:=CB r q
 rw[e,CB q q,aJ rfl] at h
 exact aX h.symm
def zd {H:Hp}{t:ah}{r:j0}(h:j4 H t (.oR (qp r))) (c:eQ (qp r)=true):∃a,H t=some (.tup [.str "come",.ref a])/\H a=some (.tup [.str r.1,.str r.2.1,.int r.2.2])/\(∃k,Tells H k (qp r) (.ref a))/\qX (qp r):=by
 obtain⟨v,h1,h2,h3,h4|⟨a,q,rfl,e,_,h5,_⟩⟩:=h
 ·rw[c] at h4;cases h4
 ·rw[<-LP e] at h5
  exact⟨a,h1,h5,h2.one,h3⟩
def En {H:Hp}{t:ah}{p:jO}(h:j4 H t (.tell (wY p))) (o:ig p) (c:f_ p):∃r,H t=some (.tup [.str "tell",.ref r])/\jD H r p/\(∃k,Tells H k (wY p) (.ref r))/\qX (wY p):=by
 obtain⟨v,h1,h2,h3,h4|⟨a,q,rfl,e,h5,_⟩⟩:=h
 ·rw[vP o c] at h4;cases h4
 ·rw[<-LQ e] at h5
  exact⟨a,h1,h5,h2.one,h3⟩
def Jo {H:Hp}{i:Int}{v:V}(h:qE H (.int i) v):v=.int i:=by
 obtain⟨k,t⟩:=h.one
 exact i9.mp t
def we:Option Nat->V
 |none=>.eA
 |some n=>.int n
def YH (H H':Hp) (ra pa:ah) (v:V):Out->Prop
 | .no s=>v=.str s
 | .st S' r=>∃q qt qu ws us,v=.ref q/\H' q=some (.tup [.ref qt,.ref qu,.int S'.n,we r])/\(qt=ra\/H qt=none)/\(qu=pa\/H qu=none)/\H' qt=some (.lst ws)/\Paired (fU H') ws S'.bo/\H' qu=some (.lst us)/\Paired (jE H') us S'.rows
def St.YI {S:Cs}{m:Nat}(h:St S m):∀r∈S.bo,Lay (.str r.1):=fun r hr=>by
 have o:=pD _ (h.M9 _ (cT hr))
 exact qX.lay (zc ⟨o.1,o.2.1⟩)
def AN {d:PyData}:eQ (.tuple [.str "a",.str "both",d])=eI d:=by
 show(fm (.str "a")&&(gL (.str "both")&&eI d))=eI d
 rw[show fm (.str "a")=true by decide+kernel,show gL (.str "both")=true by decide+kernel];rfl
def Jp {d:PyData}(h:Bd 1 0 d):qX (.tuple [.str "a",.str "both",d]):=by
 refine(Bd.tuple (n:=1) (p:=0) (m:=3) (ds:=[.str "a",.str "both",d]) (fun x hx=>?_) (aB 3)).mono (by decide) (by decide)
 simp only[aC,aM,cz] at hx
 rcases hx with rfl|rfl|rfl
 ·exact lW (by decide+kernel) (by decide+kernel)
 ·exact lW (by decide+kernel) (by decide+kernel)
 ·exact h
section
variable {P:aF}{w:ba}{K:Frag}{mg:Str->Option af}{base:Heap}
abbrev CH:Stmt:=top 51
abbrev Qp:List Str:=["own","what","rowers","pieces","count","rest","sides","left"]
def rC:bV Qp ["own","what"] (av CH):={}
def Na:List (Str×NameKind):=[(".0",.local),("one",.local),("what",.free)]
def Qq:List (Str×NameKind):=[(".0",.local),("row",.local),("what",.free)]
def Nb:(["one","what"]:List Str).Nodup:=by decide+kernel
def Qr:(["row","what"]:List Str).Nodup:=by decide+kernel
def YJ:(["one"]:List Str).Nodup:=by decide+kernel
def tcE (K:Frag):TT:=gj (gI Gh (gI (fZ K) (cg 0) (tC (.int 0))) (gI (fZ K) (cg 1) (tC (.int 1))))
def Eo {H1:Hp}{L a t:ah}{us ts:List V}{bo:List j0}{x:Str}{Q:VK}(v:Option V) (hL:H1 L=none) (h:H1 a=some (.lst us)) (pr:Paired (fU H1) us bo) (ht:H1 t=some (.tup ts)) (h1:qT ts 1=some (.str x)) (hl:bo.length<=1000)
  (q:∀J,a_ H1 J->J L=some (.lst ((bo.filter fun r=>decide (r.1=x)).map fun r=>V.str r.2.1))->Q (.ref L) J):
  pK (C_ K a) (dU 0) (tcE K) (gI (fZ K) (cg 0) (tC (.int 1))) [v,some (.ref t)] H1 Q L:=by
 have lu:=bQ pr
 refine lD (n:=us.length) (f:=fun i=>us.getD i .eA) (fun j ys bW J=>(∃v,bW=[v,some (.ref t)])/\a_ H1 J/\ys=((bo.take j).filter fun r=>decide (r.1=x)).map fun r=>V.str r.2.1) hL (by omega) ⟨⟨_,rfl⟩,bP (a_.refl _) hL,rfl⟩ (fun j ys bW J hj hy ⟨_,sj,_⟩=>oU (K:=K) (cS.of (sj _ _ h)) j hj) ?_ ?_
 ·rintro j ys bW J hj hy ⟨⟨v,rfl⟩,sj,rfl⟩
  have qD:j<bo.length:=by omega
  obtain⟨u,eu,b,rfl,e1⟩:=ez pr j qD
  rw[getD_some eu]
  refine⟨_,rfl,b,_,0,_,rfl,rfl,bY.of (sj _ _ e1),aT (j:=0) rfl,_,rfl,t,_,1,_,rfl,rfl,bY.of (sj _ _ ht),h1,rfl,_,rfl,?_⟩
  rw[kP,fQ qD,uw]
  by_cases e:bo[j].1=x
  ·refine ite_yes (by simp[e]) ?_
   refine⟨_,rfl,b,_,1,_,rfl,rfl,bY.of (sj _ _ e1),aT (j:=1) rfl,hy,⟨_,rfl⟩,bP sj hL,?_⟩
   rw[aP (by simp[e]),bE];rfl
  ·refine ite_no (by simp[e]) ?_
   refine⟨hy,⟨_,rfl⟩,sj,?_⟩
   rw[aO (by simp[e])]
 ·rintro ys bW J hy ⟨_,sj,rfl⟩
  rw[lu,cZ] at hy
  exact q J sj hy
def Ep {H:Hp}{p:ah}{vs:List V}{bo:List j0}(h:H p=some (.lst vs)) (pr:Paired (fU H) vs bo) (l:bo.length<=60):
  ∃L:List (lY (Str×Str×Int)),cS K H p (L.map fun e=>V.ref e.a)/\L.length<64/\(∀e∈L,TJ H e)/\
  ∀(l:ah) (L':List (lY (Str×Str×Int))),H l=none->L'.Perm L->(L'.Pairwise fun e e'=>mS e'.key e.key=false)->a_ H (upd H l (.lst (L'.map fun e=>V.ref e.a)))/\∃us,upd H l (.lst (L'.map fun e=>V.ref e.a)) l=some (.lst us)/\Paired (fU (upd H l (.lst (L'.map fun e=>V.ref e.a)))) us (mz bo):=by
 obtain⟨L0,eL,kL,hL⟩:=yQ pr
 have lL:L0.length=bo.length:=by rw[<-kL,aq]
 refine⟨L0,cS.of (by rw[<-eL];exact h),by omega,hL,fun l L1 hl p1 Pd=>?_⟩
 have z3:=aN hl (.lst (L1.map fun e=>V.ref e.a))
 have pc:=au (yS fun e he=>hL e (p1.mem_iff.mp he)) fun _ _ z=>z.up fun b xs e=>z3 _ _ e
 rw[vU (l:=bo) (by rw[<-kL];exact p1.map _) (kW.mpr Pd)] at pc
 exact⟨z3,_,az,pc⟩
def Er:Sp:=fun vs H Q _=>∃(ow t ra pa pl ll:ah) (ws us:List V) (D:nF) (S:Cs) (m:Nat) (o:Out),vs=[.ref ow,.ref t]/\H ow=some (.dK (iX ra pa S.n pl ll))/\H ra=some (.lst ws)/\Paired (fU H) ws S.bo/\H pa=some (.lst us)/\Paired (jE H) us S.rows/\j4 H t D/\St S m/\m<=31/\w_ S D o/\∀v H',a_ H H'->YH H H' ra pa v o->Q v H'
def Jq {f:ah}{fd:FuncData}(F:iV K "_law_later" "_law_later" CH f fd) (T:Txt mg) (DR:Df P w K mg base 1 "_law_is_rower" ["thing"] (wR eQ)) (DI:Df P w K mg base 3 "is_piece" ["thing"] (wR gx)):dO P w K mg base fO 4 f fd ["own","what"] Er:=by
 refine F.ok rC (fun vs H Q E h=>?_) (fun cdv A outer s H vs Q E hr h=>?_)
 ·obtain⟨ow,t,ra,pa,pl,ll,ws,us,D,S,m,o,rfl,_⟩:=h
  rfl
 ·obtain⟨ow,t,ra,pa,pl,ll,ws,us,D,S,m,o,rfl,hd,Es,Nc,wk,Qs,dA,sS,F3,lt,hQ⟩:=h
  have hu:=cR (eS (by decide:1<=64) _) hr.units
  have Az:=hr.mono (j:=1) (by decide)
  refine⟨_,ar (LM (i:=2) (j:=3) (k:=4) rfl rC.nd rfl rfl rfl (by decide) (by decide) (by decide) rfl rfl rfl (ae (eB hu (pv 0) aW) (ae (eB hu (pv 0) aW) (ae (eB hu (pv 0) aW) aj))) rfl)
   (ar (jn (i0:=5) (N:=["one","what"]) (g:=dU 0) (tc:=YG K) (te:=cg 0) rC.nd rfl (Or.inl rfl) rfl (jh (pv 2)) (fk.one (v:="one") (fr:="what") (j:=1) (nm:=Na) rfl rfl rfl rfl)
    (fun _ _ _=>aZ (i:=0) Nb) (fun _ _ _=>hV (br (Em hr.units) (bg bx (pv 0) ao) (bg bx (pv 1) ao) (bN _))) (fun _ _ _=>pv 0))
   (ar (cN (br hU (bg bx (pv 1) ao) aW (bN _))
    (ar (cN (fJ (fG (cB DR Az (ae (bg bx (pv 1) ao) aj)))) (aE (bF aW)) bL)
    (ar (cN (br o6 (bg bx (bg bx (pv 1) ao) ao) (ke (N:=["one"]) (g:=dU 0) (tc:=qd) (te:=gI (fZ K) (cg 0) (tC (.int 0))) rfl (jh (pv 2)) (fk.closed rfl) (fun _ _ _=>aZ (i:=0) YJ) (fun _ _ _=>iK) (fun _ _ _=>bg bx (pv 0) ao)) rfl) (aE (bF aW)) bL)
    (aE (bF (nS (br hU (aR bM rfl T.len bB (ae (pv 2) aj)) ao (bN _)) aW
     (bO (ae (aR oK rfl T.sorted fK (ae (bR kN (pv 2) (cW (ae (bg bx (pv 1) ao) aj))) aj)) (ae (pv 3) (ae (pv 4) (ae iT aj))))))))))
    bL)
   (ar (cN (br o6 (bg bx (pv 1) ao) (bO (ae aW (ae aW aj))) (by with_unfolding_all rfl))
    (ar (cN (br hU (aR bM rfl T.len bB (ae (pv 5) aj)) (aR bM rfl T.len bB (ae (pv 2) aj)) (bN _)) (aE (bF aW)) bL)
    (ar (cN (br hU (bg bx (pv 1) ao) aW (bN _)) (aE (bF (bO (ae (pv 5) (ae (pv 3) (ae (pv 4) (ae iT aj))))))) bL)
    (ar (jX (i:=6) rC.nd (bg cU (ke (N:=["one","what"]) (g:=dU 0) (tc:=tcE K) (te:=gI (fZ K) (cg 0) (tC (.int 1))) rfl (jh (pv 2)) (fk.one (v:="one") (fr:="what") (j:=1) (nm:=Na) rfl rfl rfl rfl)
      (fun _ _ _=>aZ (i:=0) Nb) (fun _ _ _=>hV (br hU (bg bx (pv 0) ao) (bg bx (pv 1) ao) (bN _))) (fun _ _ _=>bg bx (pv 0) ao)) ao))
    (ar (cN (fJ (fG (cB DR Az (ae (bO (ae aW (ae aW (ae (bg bx (pv 1) ao) aj)))) aj)))) (aE (bF aW)) bL)
    (aE (bF (bO (ae (aR oK rfl T.sorted fK (ae (bR kN (pv 5) (cW (ae (bO (ae (bg bx (pv 1) ao) (ae (pv 6) (ae (bg bx (pv 1) ao) aj)))) aj))) aj)) (ae (pv 3) (ae (pv 4) (ae iT aj)))))))))))
    bL)
   (ar (cN (br hU (bg bx (pv 1) ao) aW (bN _))
    (ar (cN (fJ (fG (cB DI hr (ae (bg bx (pv 1) ao) aj)))) (aE (bF aW)) bL)
    (ar (cN (br hU (aR bM rfl T.len bB (ae (pv 3) aj)) ao (bN _)) (aE (bF aW)) bL)
    (aE (bF (bO (ae (pv 2) (ae (bR kN (pv 3) (cW (ae (bO (ae (pv 4) (ae (bg bx (pv 1) ao) aj))) aj))) (ae (bR fX (pv 4) ao) (ae (pv 4) aj)))))))))
    bL)
   (ar (jn (i0:=7) (N:=["row","what"]) (g:=dU 0) (tc:=YG K) (te:=cg 0) rC.nd rfl (Or.inl rfl) rfl (jh (pv 3)) (fk.one (v:="row") (fr:="what") (j:=1) (nm:=Qq) rfl rfl rfl rfl)
    (fun _ _ _=>aZ (i:=0) Qr) (fun _ _ _=>hV (br (Em hr.units) (bg bx (pv 0) ao) (bg bx (pv 1) ao) (bN _))) (fun _ _ _=>pv 0))
   (aE (bF (nS (br hU (aR bM rfl T.len bB (ae (pv 7) aj)) (aR bM rfl T.len bB (ae (pv 3) aj)) (bN _)) aW (bO (ae (pv 2) (ae (pv 7) (ae (pv 4) (ae iT aj))))))))))))),?_⟩
  have lw:=bQ Nc
  have lu:=bQ Qs
  have l8:=sS.lc
  have lr:=sS.lr
  obtain⟨ts,v1,ht,k0,k1,fr,fd⟩:=dA.one lt
  have g1:=gZ.k (k:=.inr "rowers") hd
  have g2:=gZ.k (k:=.inr "pieces") hd
  have g3:=gZ.k (k:=.inr "count") hd
  rw[za] at g1
  rw[vX] at g2
  rw[CG] at g3
  refine⟨_,rfl,ow,.ref ra,rfl,g1,_,rfl,ow,.ref pa,rfl,g2,_,rfl,ow,.int S.n,rfl,g3,_,_,_,rfl,?_⟩
  refine⟨_,rfl,ra,rfl,⟨_,cS.of Es⟩,fun L hL=>?_⟩
  refine Jk (R:=fU) (D0:=fun r=>.str r.1) (fun h k=>h.up k) Qn none hL Es Nc ht k1 fr (by omega) sS.YI fd.lay fun ys J sJ hJ pJ=>?_
  have ly:=bQ pJ
  have Qt:=sJ _ _ Es
  have Qu:=sJ _ _ wk
  have YK:Paired (fU J) ws S.bo:=au Nc fun _ _ z=>z.up fun b xs e=>sJ _ _ e
  have aad:Paired (jE J) us S.rows:=au Qs fun _ _ z=>z.up fun b xs e=>sJ _ _ e
  have dJ:=dA.same sJ
  have fin:∀{J2:Hp} {q qt qu:ah} {xP ng:List V} {S':Cs} {r:Option Nat},o=.st S' r->J2 q=none->a_ H J2->(qt=ra\/H qt=none)->(qu=pa\/H qu=none)->J2 qt=some (.lst xP)->Paired (fU J2) xP S'.bo->J2 qu=some (.lst ng)->Paired (jE J2) ng S'.rows->Q (.ref q) (upd J2 q (.tup [.ref qt,.ref qu,.int S'.n,we r])):=fun{J2 q qt qu xP ng S' r} e hq s2 a1 a2 b1 b2 b3 b4=>by
   subst e
   have sq:=aN hq (.tup [.ref qt,.ref qu,.int S'.n,we r])
   exact hQ _ _ (s2.trans sq) ⟨q,qt,qu,xP,ng,rfl,az,a1,a2,sq _ _ b1,au b2 fun _ _ z=>z.up fun b xs e=>sq _ _ e,sq _ _ b3,au b4 fun _ _ z=>z.up fun b xs e=>sq _ _ e⟩
  cases lt
  case' c1 c|c2 c n|c3 c n e8|c4 c n e7 g=>
   refine gN rfl (sJ _ _ ht) k0 ?_
  case c1=>
   obtain⟨kk,tl⟩:=(fr.same sJ).one
   refine⟨_,rfl,t,ts,1,_,rfl,rfl,bY.of (sJ _ _ ht),k1,kk,_,_,rfl,tl,fd,fun J2 s2=>⟨_,rfl,?_⟩⟩
   rw[show eQ (dat (.oR _))=false from c]
   exact ite_yes (by decide) (hQ _ _ (sJ.trans s2) rfl)
  case' c2|c3|c4=>
   obtain⟨a,DV,ha,⟨kk,tl⟩,_⟩:=zd dJ c
   refine⟨_,rfl,t,_,1,_,rfl,rfl,bY.of DV,rfl,kk,_,_,rfl,tl,fd,fun J2 s2=>⟨_,rfl,?_⟩⟩
   rw[c]
   refine ite_no (by decide) ?_
   refine⟨_,rfl,t,_,1,_,rfl,rfl,bY.of (s2 _ _ DV),rfl,a,_,0,_,rfl,rfl,bY.of (s2 _ _ ha),rfl,_,rfl,ra,rfl,⟨_,cS.of (s2 _ _ Qt)⟩,fun L2 zu=>?_⟩
   refine Jl none zu (s2 _ _ Qt) (au YK fun _ _ z=>z.up fun b xs e=>s2 _ _ e) (by omega) fun J3 s3 h3=>?_
   refine⟨L2,_,rfl,.inl (cS.of h3),rfl,mB _,_,rfl,?_⟩
   rw[rq]
   have kY:=sJ.trans (s2.trans s3)
  case c2=>
   exact ite_yes (aJ n) (hQ _ _ kY rfl)
  case' c3|c4=>
   refine ite_no (by rw[bC n];decide) ?_
   refine⟨_,rfl,ra,ws,rfl,.inl (cS.of (kY _ _ Es)),rfl,_,rfl,?_⟩
   rw[ie]
  case c3=>
   exact ite_yes (aJ (by omega)) (hQ _ _ kY rfl)
  case c4=>
   refine ite_no (fun z=>by have:=aX z;omega) ?_
   refine⟨_,rfl,_,rfl,t,_,1,_,rfl,rfl,bY.of ((s2.trans s3) _ _ DV),rfl,dF,fun l1 Gm=>?_⟩
   exists Gm,.lst [.ref a],J3,l1,s4,w4,J4
   have Gp:=kY.trans s4
   refine⟨ra,l1,ws,[.ref a],rfl,rfl,Gp _ _ Es,w4,by rw[aG];exact bh (by omega:ws.length+1<=100) (by decide),fun p hp=>?_⟩
   exists hp,.lst (ws++ [.ref a]),J4,p,s5,w5,J5
   have wj:=Gp.trans s5
   obtain⟨L0,a1,a2,a3,a4⟩:=Ep (K:=K) (bo:=S.bo++ [_]) w5 (dN (au Nc fun _ _ z=>z.up fun b xs e=>wj _ _ e) ⟨a,rfl,(s2.trans (s3.trans (s4.trans s5))) _ _ ha⟩) (by rw[aK,aG];omega)
   refine⟨p,L0,rfl,a1,a2,a3,fun l L1 hl pm sr=>?_⟩
   obtain⟨s6,ng,h6,p6⟩:=a4 l L1 hl pm sr
   try dsimp only
   generalize upd J5 l (.lst (L1.map fun e=>V.ref e.a))=J6 at*
   have zt:=wj.trans s6
   exact⟨_,rfl,_,rfl,dF,fun q hq=>fin rfl hq zt (.inr (cJ wj hl)) (.inl rfl) h6 p6 (zt _ _ wk) (au Qs fun _ _ z=>z.up fun b xs e=>zt _ _ e)⟩
  case' g1 x n|g2 x n|w1 x d n|w2 x d n pz|w3 x i n i1 i2|t1 c|t2 oc cc|s1 i h|s2 i h=>
   refine jt rfl (sJ _ _ ht) k0 rfl ?_
   refine⟨_,rfl,t,ts,0,_,rfl,rfl,bY.of (sJ _ _ ht),k0,dF,fun pt YL=>?_⟩
   exists YL,.tup [.str "go",.str "weigh"],J,pt,s2,w2,J2
   refine⟨pt,_,rfl,.inr (bY.of w2),rfl,rfl,_,rfl,?_⟩
   have jc:=sJ.trans s2
  case' g1|g2|w1|w2|w3=>
   refine UJ ?_
   refine⟨_,rfl,L,ys,rfl,.inl (cS.of (s2 _ _ hJ)),_,rfl,ra,ws,rfl,.inl (cS.of (s2 _ _ Qt)),rfl,_,rfl,?_⟩
   rw[ie]
  case' g1|g2=>
   have eC:(S.bo.filter fun r=>!PyData.eqv (.str r.1) (dat (.go x)))=mV S.bo x:=wb S.bo x
   rw[eC] at pJ ly
   have cl:=wc S.bo x
  case g1=>
   exact ite_yes (aJ (by have:=cl.mpr n;omega)) (hQ _ _ jc rfl)
  case g2=>
   refine ite_no (fun z=>cl.mp (by have:=aX z;omega) n) ?_
   refine gN rfl (jc _ _ ht) k0 ?_
   exact⟨_,rfl,_,rfl,_,rfl,dF,fun q hq=>fin rfl hq jc (.inr hL) (.inl rfl) (s2 _ _ hJ) (au pJ fun _ _ z=>z.up fun b xs e=>s2 _ _ e) (jc _ _ wk) (au Qs fun _ _ z=>z.up fun b xs e=>jc _ _ e)⟩
  case' w1|w2=>
   have eC:(S.bo.filter fun r=>!PyData.eqv (.str r.1) (dat (.weigh x d)))=mV S.bo x:=wb S.bo x
   rw[eC] at pJ ly
   have cl:=wc S.bo x
  case w1=>
   exact ite_yes (aJ (by have:=cl.mpr n;omega)) (hQ _ _ jc rfl)
  case w2=>
   refine ite_no (fun z=>cl.mp (by have:=aX z;omega) n) ?_
   refine jt rfl (jc _ _ ht) k0 rfl ?_
   obtain⟨v2,wV,_,f2,TH,_⟩:=dA
   obtain⟨r,Rv,er⟩:∃r,r∈S.bo/\r.1=x:=by
    obtain⟨r,h1,h2⟩:=cO.mp n
    exact⟨r,h1,h2⟩
   refine⟨_,rfl,ra,rfl,⟨_,cS.of (jc _ _ Es)⟩,fun L2 zu=>?_⟩
   refine Eo none zu (jc _ _ Es) (au Nc fun _ _ z=>z.up fun b xs e=>jc _ _ e) (jc _ _ wV) rfl (by omega) fun J3 s3 h3=>?_
   have kY:=jc.trans s3
   have eh:∃tl,(S.bo.filter fun r=>decide (r.1=x))=r::tl:=by
    cases e:S.bo.filter fun r=>decide (r.1=x) with
    |nil=>
     have:r∈S.bo.filter fun r=>decide (r.1=x):=dz.mpr ⟨Rv,aJ er⟩
     rw[e] at this;cases this
    |cons q tl=>
     have hq:q∈S.bo.filter fun r=>decide (r.1=x):=by rw[e];exact cf
     obtain⟨q1,q2⟩:=dz.mp hq
     rw[vY sS.nd q1 Rv ((aX q2).trans er.symm)]
     exact⟨tl,rfl⟩
   obtain⟨tl0,eh⟩:=eh
   rw[eh] at h3
   refine⟨L2,_,0,.str r.2.1,rfl,rfl,cS.of h3,aT (j:=0) rfl,?_⟩
   refine⟨_,rfl,t,_,2,_,rfl,rfl,bY.of (kY _ _ wV),rfl,dF,fun pw YM=>?_⟩
   exists YM,.tup [.str "a",.str "both",v2],J3,pw,s4,w4,J4
   have Gp:=kY.trans s4
   obtain⟨kk,tk⟩:=(fT (ds:=[.str "a",.str "both",d]) w4 (aU (hW _) (aU (hW _) (aU (f2.same Gp) dI)))).one
   refine⟨kk,_,_,rfl,tk,Jp TH,fun J5 s5=>⟨_,rfl,?_⟩⟩
   have wj:=Gp.trans s5
   rw[AN]
   exact ite_yes (by rw[pz];rfl) (hQ _ _ wj rfl)
  case w3=>
   have eC:(S.bo.filter fun r=>!PyData.eqv (.str r.1) (dat (.weigh x (.int i))))=mV S.bo x:=wb S.bo x
   rw[eC] at pJ ly
   have cl:=wc S.bo x
   refine ite_no (fun z=>cl.mp (by have:=aX z;omega) n) ?_
   refine jt rfl (jc _ _ ht) k0 rfl ?_
   obtain⟨v2,wV,_,f2,TH,_⟩:=dA
   obtain⟨r,Rv,er⟩:∃r,r∈S.bo/\r.1=x:=by
    obtain⟨r,h1,h2⟩:=cO.mp n
    exact⟨r,h1,h2⟩
   refine⟨_,rfl,ra,rfl,⟨_,cS.of (jc _ _ Es)⟩,fun L2 zu=>?_⟩
   refine Eo none zu (jc _ _ Es) (au Nc fun _ _ z=>z.up fun b xs e=>jc _ _ e) (jc _ _ wV) rfl (by omega) fun J3 s3 h3=>?_
   have kY:=jc.trans s3
   have eh:∃tl,(S.bo.filter fun r=>decide (r.1=x))=r::tl:=by
    cases e:S.bo.filter fun r=>decide (r.1=x) with
    |nil=>
     have:r∈S.bo.filter fun r=>decide (r.1=x):=dz.mpr ⟨Rv,aJ er⟩
     rw[e] at this;cases this
    |cons q tl=>
     have hq:q∈S.bo.filter fun r=>decide (r.1=x):=by rw[e];exact cf
     obtain⟨q1,q2⟩:=dz.mp hq
     rw[vY sS.nd q1 Rv ((aX q2).trans er.symm)]
     exact⟨tl,rfl⟩
   obtain⟨tl0,eh⟩:=eh
   rw[eh] at h3
   refine⟨L2,_,0,.str r.2.1,rfl,rfl,cS.of h3,aT (j:=0) rfl,?_⟩
   refine⟨_,rfl,t,_,2,_,rfl,rfl,bY.of (kY _ _ wV),rfl,dF,fun pw YM=>?_⟩
   exists YM,.tup [.str "a",.str "both",v2],J3,pw,s4,w4,J4
   have Gp:=kY.trans s4
   obtain⟨kk,tk⟩:=(fT (ds:=[.str "a",.str "both",.int i]) w4 (aU (hW _) (aU (hW _) (aU (f2.same Gp) dI)))).one
   refine⟨kk,_,_,rfl,tk,Jp TH,fun J5 s5=>⟨_,rfl,?_⟩⟩
   have wj:=Gp.trans s5
   rw[AN]
   refine ite_no (by rw[(M_ i1 i2).2];decide) ?_
   obtain rfl:=Jo f2
   refine⟨_,rfl,_,rfl,t,_,1,_,rfl,rfl,bY.of (wj _ _ wV),rfl,_,rfl,_,rfl,t,_,2,_,rfl,rfl,bY.of (wj _ _ wV),rfl,dF,fun pn YN=>?_⟩
   exists YN,.tup [.str x,.str r.2.1,.int i],J5,pn,s6,w6,J6
   refine⟨dF,fun l1 Gm=>?_⟩
   exists Gm,.lst [.ref pn],J6,l1,s7,w7,J7
   have UL:=wj.trans (s6.trans s7)
   have sJ7:a_ J J7:=s2.trans (s3.trans (s4.trans (s5.trans (s6.trans s7))))
   have aae:(mV S.bo x).length<=8:=bh (ej _ _) l8
   refine⟨L,l1,ys,[.ref pn],rfl,rfl,sJ7 _ _ hJ,w7,by rw[aG];exact bh (by omega:ys.length+1<=100) (by decide),fun p hp=>?_⟩
   exists hp,.lst (ys++ [.ref pn]),J7,p,s8,w8,J8
   have Qv:=UL.trans s8
   obtain⟨L0,a1,a2,a3,a4⟩:=Ep (K:=K) (bo:=mV S.bo x++ [(x,r.2.1,i)]) w8 (dN (au pJ fun _ _ z=>z.up fun b xs e=>(sJ7.trans s8) _ _ e) ⟨pn,rfl,(s7.trans s8) _ _ w6⟩) (by rw[aK,aG];omega)
   refine⟨p,L0,rfl,a1,a2,a3,fun l L1 hl pm sr=>?_⟩
   obtain⟨s9,ng,h9,p9⟩:=a4 l L1 hl pm sr
   try dsimp only
   generalize upd J8 l (.lst (L1.map fun e=>V.ref e.a))=J9 at*
   have YO:=Qv.trans s9
   have qo:=sS.UD Rv i
   rw[er] at qo
   rw[qo] at p9
   exact⟨_,rfl,_,rfl,dF,fun q hq=>fin rfl hq YO (.inr (cJ Qv hl)) (.inl rfl) h9 p9 (YO _ _ wk) (au Qs fun _ _ z=>z.up fun b xs e=>YO _ _ e)⟩
  case' t1|t2|s1|s2=>
   refine UK ?_
  case' t1|t2=>
   refine gN rfl (jc _ _ ht) k0 ?_
  case t1=>
   obtain⟨kk,tl⟩:=(fr.same jc).one
   refine⟨_,rfl,t,ts,1,_,rfl,rfl,bY.of (jc _ _ ht),k1,kk,_,_,rfl,tl,fd,fun J3 s3=>⟨_,rfl,?_⟩⟩
   rw[show gx (dat (.tell _))=false from c]
   exact ite_yes (by decide) (hQ _ _ (jc.trans s3) rfl)
  case t2=>
   obtain⟨r,DV,Il,⟨kk,tl⟩,_⟩:=En (dA.same jc) oc cc
   refine⟨_,rfl,t,_,1,_,rfl,rfl,bY.of DV,rfl,kk,_,_,rfl,tl,fd,fun J3 s3=>⟨_,rfl,?_⟩⟩
   rw[vP oc cc]
   refine ite_no (by decide) ?_
   have kY:=jc.trans s3
   refine⟨_,rfl,pa,us,rfl,.inl (cS.of (kY _ _ wk)),rfl,_,rfl,?_⟩
   rw[ie]
   refine ite_no (fun z=>by have:=aX z;omega) ?_
   refine⟨_,rfl,_,rfl,_,rfl,_,rfl,t,_,1,_,rfl,rfl,bY.of (s3 _ _ DV),rfl,dF,fun pn YN=>?_⟩
   exists YN,.tup [.int S.n,.ref r],J3,pn,s6,w6,J6
   refine⟨dF,fun l1 Gm=>?_⟩
   exists Gm,.lst [.ref pn],J6,l1,s7,w7,J7
   have UL:=kY.trans (s6.trans s7)
   refine⟨pa,l1,us,[.ref pn],rfl,rfl,UL _ _ wk,w7,by rw[aG];exact bh (by omega:us.length+1<=100) (by decide),fun p hp=>?_⟩
   exists hp,.lst (us++ [.ref pn]),J7,p,s8,w8,J8
   have Qv:=UL.trans s8
   refine⟨_,rfl,_,_,rfl,rfl,_,rfl,dF,fun q hq=>?_⟩
   exact fin (S':=⟨S.bo,S.rows++ [(S.n,_)],S.n+1⟩) (r:=some S.n) rfl hq Qv (.inl rfl) (.inr (cJ UL hp)) (Qv _ _ Es) (au Nc fun _ _ z=>z.up fun b xs e=>Qv _ _ e) w8 (dN (au Qs fun _ _ z=>z.up fun b xs e=>Qv _ _ e) ⟨pn,r,rfl,(s7.trans s8) _ _ w6,Il.same (s3.trans (s6.trans (s7.trans s8)))⟩)
  case' s1|s2=>
   refine jt rfl (jc _ _ ht) k0 rfl ?_
   refine⟨_,rfl,pa,rfl,⟨_,cS.of (jc _ _ wk)⟩,fun L2 zu=>?_⟩
   refine Jk (R:=jE) (D0:=fun r=>.int r.1) (fun h k=>h.up k) Qo none zu (jc _ _ wk) (au Qs fun _ _ z=>z.up fun b xs e=>jc _ _ e) (jc _ _ ht) k1 (fr.same jc) (by omega) (fun x hx=>qX.lay (zb (by have:=sS.num x hx;have:=sS.n;omega))) fd.lay fun zs J3 s3 h3 p3=>?_
   have eC:(S.rows.filter fun r=>!PyData.eqv (.int r.1) (dat (.jF i)))=ua S.rows i:=Jm S.rows i
   rw[eC] at p3
   have lz:=bQ p3
   have kY:=jc.trans s3
   refine⟨_,rfl,L2,zs,rfl,.inl (cS.of h3),_,rfl,pa,us,rfl,.inl (cS.of (kY _ _ wk)),rfl,_,rfl,?_⟩
   rw[ie]
   have cl:=Jn S.rows i
  case s1=>
   exact ite_yes (aJ (by have:=cl.mpr h;omega)) (hQ _ _ kY rfl)
  case s2=>
   refine ite_no (fun z=>by have:=cl.mp (by have:=aX z;omega);rw[h] at this;cases this) ?_
   exact⟨_,rfl,_,rfl,_,rfl,dF,fun q hq=>fin rfl hq kY (.inl rfl) (.inr (cJ jc zu)) (kY _ _ Es) (au Nc fun _ _ z=>z.up fun b xs e=>kY _ _ e) h3 p3⟩
end
def YQ (H:Hp) (v:V):Str⊕Option Nat->Prop
 | .inl s=>v=.str s
 | .inr r=>∃q,v=.ref q/\H q=some (.tup [we r])
section
variable {P:aF}{w:ba}{K:Frag}{mg:Str->Option af}{base:Heap}
abbrev Qw:Stmt:=top 52
abbrev YR:List Str:=["own","what","now","here","there","later"]
def AO:bV YR ["own","what"] (av Qw):={}
def put3 {σ:L2.St}{H1:Hp}{ow ra pa qt qu pl ll:ah}{n n':Int}{Q:L2.St->Hp->Prop}(d:H1 ow=some (.dK (iX ra pa n pl ll))) (q:∀H2,H2 ow=some (.dK (iX qt qu n' pl ll))->(∀z o,z≠ow->H1 z=some o->H2 z=some o)->Tk H1 H2->Q (some (.ref ow)::σ) H2):
  Ki (cg 0) (tC (.str "rowers")) Ei (.ref qt) (some (.ref ow)::σ) H1 fun bW H'=>nU (Ki (cg 0) (tC (.str "pieces")) Ei) (nU (Ki (cg 0) (tC (.str "count")) Ei) EK) [.ref qu,.int n'] bW H' Q:=by
 refine⟨_,rfl,ow,_,rfl,BI.k (k:=.inr "rowers") d (by show 5<sizeLine;decide),?_⟩
 rw[Qf]
 refine⟨_,_,rfl,_,rfl,ow,_,rfl,BI.k (k:=.inr "pieces") az (by show 5<sizeLine;decide),?_⟩
 rw[Qg,qK]
 refine⟨_,_,rfl,_,rfl,ow,_,rfl,BI.k (k:=.inr "count") az (by show 5<sizeLine;decide),?_⟩
 rw[Qh,qK]
 exact⟨rfl,q _ az (fun z o n e=>by rw[aV n];exact e) (fun b zs e=>by rw[aV (fun z=>by rw[z,d] at e;cases e)];exact e)⟩
def Nd:Sp:=fun vs H Q _=>∃(mu:List ah) (ow t ra pa pl ll:ah) (xs ys:List V) (sts:List Cs) (S:Cs) (cx:List Cs) (D:nF) (m:Nat) (o:Str⊕Option Nat) (fw:List Cs) (S':Cs) (fi:List Cs),vs=[.ref ow,.ref t]/\mC mu H ow ra pa pl ll xs ys sts S cx/\pl≠ll/\ow∈mu/\pl∈mu/\ll∈mu/\(∀x∈mu,∃o,H x=some o)/\(∀T∈sts,Qi T)/\(∀T∈cx,Qi T)/\sts.length<=800/\cx.length<=800/\j4 H t D/\St S m/\m<=31/\AL D sts S cx o fw S' fi/\
 ∀v qt qu YS YT H',nM [ow,pl,ll] H H'->Tk H H'->mC mu H' ow qt qu pl ll YS YT fw S' fi->YQ H' v o->Q v H'
def Qx {f:ah}{fd:FuncData}(F:iV K "_law_due" "_law_due" Qw f fd) (T:Txt mg) (DL:Df P w K mg base 4 "_law_later" ["own","what"] Er):dO P w K mg base fO 5 f fd ["own","what"] Nd:=by
 refine F.ok AO (fun vs H Q E h=>?_) (fun cdv A outer s H vs Q E hr h=>?_)
 ·obtain⟨mu,ow,t,ra,pa,pl,ll,xs,ys,sts,S,cx,D,m,o,fw,S',fi,rfl,_⟩:=h
  rfl
 ·obtain⟨mu,ow,t,ra,pa,pl,ll,xs,ys,sts,S,cx,D,m,o,fw,S',fi,rfl,O,Rw,m1,m2,m3,UM,Gq,Gr,l1,l2,dA,sS,F3,sp,hQ⟩:=h
  have hu:=cR (eS (by decide:1<=64) _) hr.units
  refine⟨_,ar (jX (i:=2) AO.nd (bO (ae (eB hu (pv 0) aW) (ae (eB hu (pv 0) aW) (ae (eB hu (pv 0) aW) aj)))))
   (ar (cN (br o6 (bg bx (pv 1) ao) (bO (ae aW (ae aW aj))) (by with_unfolding_all rfl))
    (ar (iD (bg cU (cW (ae (bO (ae aW (ae aW aj))) (ae (bO (ae aW (ae aW aj))) aj))) (fE EU rfl T.int uJ (ae (jI hU (bg bx (pv 1) ao) aW (bN _)) aj))) (fW rfl (bz (aZ (i:=3) AO.nd) (bz (aZ (i:=4) AO.nd) eV))))
    (ar (cN (br (qg hr.units) (eB hu (pv 0) (pv 3)) (cW aj) (bN _)) (aE (bF aW)) bL)
    (ar (gs (pP cw d_ ef gw (eB hu (pv 0) (pv 4)) (ae (pv 2) aj)))
    (ar (iD (yi cw uL uM BA (eB hu (pv 0) (pv 3))) (fW rfl (bz (nV (pv 0) aW (EF hu)) (bz (nV (pv 0) aW (EF hu)) (bz (nV (pv 0) aW (EF hu)) eV)))))
    (aE (bF (bO (ae iT aj))))))))
    bL)
   (ar (jX (i:=5) AO.nd (cB DL hr (ae (pv 0) (ae (pv 1) aj))))
   (ar (cN (fG (aR fF rfl T.sv aD (ae (pv 5) (ae (gH (v:=.ty "str") rfl T.str gD rfl) aj)))) (aE (bF (pv 5))) bL)
   (ar (gs (pP cw d_ ef gw (eB hu (pv 0) aW) (ae (pv 2) aj)))
   (ar (gs (yi cw PySem.F.slot_list_clear PySem.F.type_list_clear Hb (eB hu (pv 0) aW)))
   (ar (iD (gQ yu (pv 5) jk (iu ao)) (fW rfl (bz (nV (pv 0) aW (EF hu)) (bz (nV (pv 0) aW (EF hu)) (bz (nV (pv 0) aW (EF hu)) eV)))))
   (aE (bF (bO (ae (bg bx (pv 5) ao) aj)))))))))),?_⟩
  have lx:=bQ O.pp
  have ly:=bQ O.Ro
  have g1:=gZ.k (k:=.inr "rowers") O.d
  have g2:=gZ.k (k:=.inr "pieces") O.d
  have g3:=gZ.k (k:=.inr "count") O.d
  rw[za] at g1
  rw[vX] at g2
  rw[CG] at g3
  refine⟨_,rfl,ow,.ref ra,rfl,g1,_,rfl,ow,.ref pa,rfl,g2,_,rfl,ow,.int S.n,rfl,g3,dF,fun nw hnw=>?_⟩
  exists hnw,.tup [.ref ra,.ref pa,.int S.n],H,nw,s1,w1,J1
  have O1:=O.same s1
  have nmu:nw∉mu:=fun z=>by obtain⟨o,e⟩:=UM _ z;rw[hnw] at e;cases e
  have YU:LL mu J1 (.ref nw) S:=by
   obtain⟨qo,Nf,a1,a2,a3,a4,a5,a6⟩:=O1.now
   exact⟨nw,ra,pa,qo,Nf,rfl,nmu,a1,a2,w1,a3,a4,a5,a6⟩
  obtain⟨ts,ht,k0⟩:∃ts,H t=some (.tup ts)/\qT ts 0=some (.str (AM D)):=by
   cases D with
   |oR d=>obtain⟨v,h1,_⟩:=dA;exact⟨_,h1,rfl⟩
   |go x=>exact⟨_,dA.1,rfl⟩
   |weigh x d=>obtain⟨v,h1,_⟩:=dA;exact⟨_,h1,rfl⟩
   |tell d=>obtain⟨v,h1,_⟩:=dA;exact⟨_,h1,rfl⟩
   |jF i=>exact⟨_,dA.1,rfl⟩
   |back=>exact⟨_,dA,rfl⟩
   |again=>exact⟨_,dA,rfl⟩
  refine⟨_,rfl,t,ts,0,_,rfl,rfl,bY.of (s1 _ _ ht),k0,dF,fun pt YL=>?_⟩
  exists YL,.tup [.str "back",.str "again"],J1,pt,s2,w2,J2
  refine⟨pt,_,rfl,.inr (bY.of w2),rfl,rfl,_,rfl,?_⟩
  have O2:=O1.same s2
  have Qy:=YU.kp (fR s2) (eP s2)
  have n1:ow≠pl:=kQ O.d O.jZ
  have n2:ow≠ll:=kQ O.d O.ni
  have YV:∀{G G':Hp},nM [ow,pl,ll] G G'->nM mu G G':=fun k z o n e=>k _ _ (fun y=>by
   simp only[aC,aM,cz] at y
   rcases y with y|y|y
   ·exact n (y▸m1)
   ·exact n (y▸m2)
   ·exact n (y▸m3)) e
  have Lat:∀{o1:Out},w_ S D o1->G0 (.str (AM D)) [.str "back",.str "again"]=false:=fun l=>by cases l<;>rfl
  have O3:=O2
  cases sp
  case' no l|st l=>
   refine ite_no (by rw[Lat l];decide) ?_
   obtain⟨qo,Nf,a1,a2,a3,a4,a5,a6⟩:=O2.now
   have jc:=s1.trans s2
   refine⟨_,rfl,_,rfl,ow,t,ra,pa,pl,ll,qo,Nf,D,S,m,_,rfl,O2.d,a3,a4,a5,a6,dA.same jc,sS,F3,l,fun v J3 s3 lv=>?_⟩
   have kY:=jc.trans s3
   have O3:=O2.same s3
  case no=>
   obtain rfl:v=.str _:=lv
   refine⟨_,rfl,0,_,_,.str _,rfl,eY.mpr rfl,.inr (.inr (.inl rfl)),_,rfl,?_⟩
   exact ite_yes rfl ⟨_,rfl,hQ _ _ _ _ _ _ (fR kY) (eP kY) O3 rfl⟩
  case st=>
   obtain⟨q,qt,qu,ws,us,rfl,hq,r1,r2,b1,b2,b3,b4⟩:=lv
   rename_i r
   have fo:qE J3 (match r with|none=>PyData.none|some n=>.int n) (we r):=by
    cases r with
    |none=>exact rA
    |some n=>exact dX _
   obtain⟨kk,tk⟩:=(fT hq (aU (eX b1 (eF qr b2)) (aU (eX b3 (eF sU b4)) (aU (dX _) (aU fo dI))))).one
   refine⟨_,rfl,kk,_,_,_,rfl,tk,.inr (.inr (.inl rfl)),_,rfl,?_⟩
   refine ite_no (fun z=>Bool.noConfusion (show false=true from z)) ?_
   have gp:=gZ.k (k:=.inr "past") O3.d
   rw[oQ] at gp
   refine⟨_,rfl,ow,.ref pl,rfl,gp,.inl ⟨rfl,_,cS.of O3.jZ⟩,_,rfl,pl,xs,.ref nw,rfl,rfl,O3.jZ,dq (by omega),?_⟩
   have u1:∀{z:ah} {o:HO},z≠pl->J3 z=some o->upd J3 pl (.lst (xs++ [.ref nw])) z=some o:=fun n e=>by rw[aV n];exact e
   have p4:upd J3 pl (.lst (xs++ [.ref nw])) pl=some (.lst (xs++ [.ref nw])):=az
   have tk4:Tk J3 (upd J3 pl (.lst (xs++ [.ref nw]))):=fun b zs e=>u1 (fun z=>by rw[z,O3.jZ] at e;cases e) e
   try dsimp only
   generalize upd J3 pl (.lst (xs++ [.ref nw]))=J4 at*
   have d4:=u1 n1 O3.d
   have gl:=gZ.k (k:=.inr "later") d4
   rw[pC] at gl
   have l4:=u1 (cF Rw) O3.ni
   refine⟨_,rfl,ow,.ref ll,rfl,gl,.inl ⟨rfl,_,cS.of l4⟩,ll,ys,rfl,rfl,l4,?_⟩
   have u2:∀{z:ah} {o:HO},z≠ll->J4 z=some o->upd J4 ll (.lst []) z=some o:=fun n e=>by rw[aV n];exact e
   have p5:upd J4 ll (.lst []) ll=some (.lst []):=az
   have JU:Tk J4 (upd J4 ll (.lst [])):=fun b zs e=>u2 (fun z=>by rw[z,l4] at e;cases e) e
   try dsimp only
   generalize upd J4 ll (.lst [])=J5 at*
   have d5:=u2 n2 d4
   have q5:=JU _ _ (tk4 _ _ hq)
   refine⟨_,rfl,_,rfl,q,_,rfl,bY.of q5,fun z=>absurd (show HT.hZ 4 4 (some 3)=4 from z.2) (by decide),fun _ p hp=>?_⟩
   rw[show iU [V.ref qt,V.ref qu,V.int S'.n,we r] none (some 3)=[V.ref qt,V.ref qu,V.int S'.n] from rfl]
   exists hp,.tup [V.ref qt,V.ref qu,V.int S'.n],J5,p,s6,w6,J6
   have d6:=s6 _ _ d5
   refine⟨p,_,rfl,bY.of w6,rfl,_,_,rfl,?_⟩
   refine put3 d6 fun J7 d7 u7 Ng=>?_
   refine⟨_,rfl,q,_,3,_,rfl,rfl,bY.of (Ng _ _ (s6 _ _ q5)),rfl,dF,fun z hz=>?_⟩
   exists hz,.tup [we r],J7,z,s8,w8,J8
   have go:∀{x:ah} {o:HO},x≠ow->x≠pl->x≠ll->J3 x=some o->J8 x=some o:=fun e1 e2 e3 h=>s8 _ _ (u7 _ _ e1 (s6 _ _ (u2 e3 (u1 e2 h))))
   have km:nM [ow,pl,ll] J3 J8:=fun x o n e=>by
    simp only[aC,aM,cz,tT] at n
    exact go n.1 n.2.1 n.2.2 e
   have ze:Tk J3 J8:=fun b zs e=>s8 _ _ (Ng _ _ (s6 _ _ (JU _ _ (tk4 _ _ e))))
   have A0:=YV km
   have hm:∀{x:ah},(x=ra\/J2 x=none)->ra∉mu->x∉mu:=fun h h0=>by
    rcases h with rfl|h
    ·exact h0
    ·intro z
     obtain⟨o,e⟩:=UM _ z
     rw[jc _ _ e] at h;cases h
   have Sx:∀{x:ah},(x=pa\/J2 x=none)->pa∉mu->x∉mu:=fun h h0=>by
    rcases h with rfl|h
    ·exact h0
    ·intro z
     obtain⟨o,e⟩:=UM _ z
     rw[jc _ _ e] at h;cases h
   have r1':=hm r1 a1
   have r2':=Sx r2 a2
   refine hQ _ qt qu (xs++ [.ref nw]) [] J8 (fun x o n e=>km _ _ n (kY _ _ e)) ((eP kY).trans ze) ⟨s8 _ _ d7,⟨ws,us,r1',r2',A0 _ _ r1' b1,au b2 fun _ _ z=>z.up ze,A0 _ _ r2' b3,au b4 fun _ _ z=>z.up ze⟩,s8 _ _ (u7 _ _ (cF n1) (s6 _ _ (u2 Rw p4))),dN (au O3.pp fun _ _ z=>z.kp A0 ze) ((Qy.kp (fR s3) (eP s3)).kp A0 ze),s8 _ _ (u7 _ _ (cF n2) (s6 _ _ p5)),.nil⟩ ⟨z,rfl,w8⟩
  case' b0|b=>
   refine ite_yes (show G0 (.str "back") [.str "back",.str "again"]=true by decide) ?_
   refine⟨dF,fun t1 h1=>?_⟩
   exists h1,.tup [.str "past",.str "later"],J2,t1,s3,w3,J3
   refine⟨dF,fun t2 h2=>?_⟩
   exists h2,.tup [.str "later",.str "past"],J3,t2,s4,w4,J4
   refine⟨dF,fun t3 h3=>?_⟩
   exists h3,.lst [.ref t1,.ref t2],J4,t3,s5,w5,J5
   have CI:=s3.trans (s4.trans s5)
   have wj:=(s1.trans s2).trans CI
   refine⟨_,rfl,t,ts,0,_,rfl,rfl,bY.of (wj _ _ ht),k0,rfl,.inr ⟨_,rfl,?_⟩⟩
   rw[kP,show decide (AM .back="again")=false from rfl]
   refine⟨t3,_,0,_,rfl,rfl,cS.of w5,aT (j:=0) rfl,t1,_,rfl,bY.of ((s4.trans s5) _ _ w3),rfl,_,_,rfl,_,_,rfl,rfl,?_⟩
   have O5:=O2.same CI
   have Qz:=Qy.kp (fR CI) (eP CI)
   have gh:=gZ.k (k:=.inr "past") O5.d
   rw[oQ] at gh
   refine⟨_,rfl,_,rfl,ow,.ref pl,rfl,gh,dF,fun e he=>?_⟩
   exists he,.lst [],J5,e,s6,w6,J6
   have O6:=O5.same s6
   have QA:=Qz.kp (fR s6) (eP s6)
   have zt:=wj.trans s6
   obtain⟨ka,qa⟩:=(eX O6.jZ (eF Jj O6.pp)).one
   obtain⟨kb,qb⟩:=(eX w6 dI).one
   refine⟨ka,kb,_,_,qa,qb,Ej Gq,pb,_,rfl,?_⟩
   rw[Ek]
  case b0=>
   exact ite_yes rfl (hQ _ _ _ _ _ _ (fR zt) (eP zt) O6 rfl)
  case b=>
   refine ite_no (by simp) ?_
   obtain⟨ng,u,eu,YW,PB⟩:=fe O6.pp
   have hx:=O6.jZ
   rw[eu] at hx
   obtain⟨tp,qt,qu,xP,YX,rfl,c1,c2,c3,c4,c5,c6,c7,c8⟩:=PB
   have gt:=gZ.k (k:=.inr "later") O6.d
   rw[pC] at gt
   refine⟨_,rfl,_,rfl,ow,.ref ll,rfl,gt,.inl ⟨rfl,_,cS.of O6.ni⟩,_,rfl,ll,ys,.ref nw,rfl,rfl,O6.ni,dq (by omega),?_⟩
   have u1:∀{z:ah} {o:HO},z≠ll->J6 z=some o->upd J6 ll (.lst (ys++ [.ref nw])) z=some o:=fun n e=>by rw[aV n];exact e
   have p7:upd J6 ll (.lst (ys++ [.ref nw])) ll=some (.lst (ys++ [.ref nw])):=az
   have Ng:Tk J6 (upd J6 ll (.lst (ys++ [.ref nw]))):=fun b zs e=>u1 (fun z=>by rw[z,O6.ni] at e;cases e) e
   try dsimp only
   generalize upd J6 ll (.lst (ys++ [.ref nw]))=J7 at*
   have d7:=u1 n2 O6.d
   have x7:=u1 Rw hx
   have UN:=gZ.k (k:=.inr "past") d7
   rw[oQ] at UN
   refine⟨_,rfl,_,rfl,ow,.ref pl,rfl,UN,.inl ⟨rfl,_,cS.of x7⟩,pl,_,.ref tp,rfl,rfl,x7,by simp,?_⟩
   rw[show(ng++ [V.ref tp]).dropLast=ng by simp]
   have u2:∀{z:ah} {o:HO},z≠pl->J7 z=some o->upd J7 pl (.lst ng) z=some o:=fun n e=>by rw[aV n];exact e
   have p8:upd J7 pl (.lst ng) pl=some (.lst ng):=az
   have UO:Tk J7 (upd J7 pl (.lst ng)):=fun b zs e=>u2 (fun z=>by rw[z,x7] at e;cases e) e
   try dsimp only
   generalize upd J7 pl (.lst ng)=J8 at*
   have d8:=u2 n1 d7
   refine⟨tp,_,rfl,bY.of (UO _ _ (Ng _ _ c4)),rfl,_,_,rfl,?_⟩
   refine put3 d8 fun J9 d9 u9 YY=>?_
   refine⟨dF,fun z hz=>?_⟩
   exists hz,.tup [V.eA],J9,z,s10,BC,QB
   have km:nM [ow,pl,ll] J6 QB:=fun x o n e=>by
    simp only[aC,aM,cz,tT] at n
    exact s10 _ _ (u9 _ _ n.1 (u2 n.2.1 (u1 n.2.2 e)))
   have ze:Tk J6 QB:=fun b zs e=>s10 _ _ (YY _ _ (UO _ _ (Ng _ _ e)))
   have A0:=YV km
   have vx:=s10 _ _ (u9 _ _ (cF n1) p8)
   have vy:=s10 _ _ (u9 _ _ (cF n2) (u2 (cF Rw) p7))
   refine hQ _ qt qu ng (ys++ [.ref nw]) QB (fun x o n e=>km _ _ n (zt _ _ e)) ((eP zt).trans ze) ⟨s10 _ _ d9,⟨xP,YX,c2,c3,A0 _ _ c2 c5,au c6 fun _ _ z=>z.up ze,A0 _ _ c3 c7,au c8 fun _ _ z=>z.up ze⟩,vx,au YW fun _ _ z=>z.kp A0 ze,vy,dN (au O6.Ro fun _ _ z=>z.kp A0 ze) (QA.kp A0 ze)⟩ ⟨z,rfl,BC⟩
  case' a0|a=>
   refine ite_yes (show G0 (.str "again") [.str "back",.str "again"]=true by decide) ?_
   refine⟨dF,fun t1 h1=>?_⟩
   exists h1,.tup [.str "past",.str "later"],J2,t1,s3,w3,J3
   refine⟨dF,fun t2 h2=>?_⟩
   exists h2,.tup [.str "later",.str "past"],J3,t2,s4,w4,J4
   refine⟨dF,fun t3 h3=>?_⟩
   exists h3,.lst [.ref t1,.ref t2],J4,t3,s5,w5,J5
   have CI:=s3.trans (s4.trans s5)
   have wj:=(s1.trans s2).trans CI
   refine⟨_,rfl,t,ts,0,_,rfl,rfl,bY.of (wj _ _ ht),k0,rfl,.inr ⟨_,rfl,?_⟩⟩
   rw[kP,show decide (AM .again="again")=true from rfl]
   refine⟨t3,_,1,_,rfl,rfl,cS.of w5,aT (j:=1) rfl,t2,_,rfl,bY.of (s5 _ _ w4),rfl,_,_,rfl,_,_,rfl,rfl,?_⟩
   have O5:=O2.same CI
   have Qz:=Qy.kp (fR CI) (eP CI)
   have gh:=gZ.k (k:=.inr "later") O5.d
   rw[pC] at gh
   refine⟨_,rfl,_,rfl,ow,.ref ll,rfl,gh,dF,fun e he=>?_⟩
   exists he,.lst [],J5,e,s6,w6,J6
   have O6:=O5.same s6
   have QA:=Qz.kp (fR s6) (eP s6)
   have zt:=wj.trans s6
   obtain⟨ka,qa⟩:=(eX O6.ni (eF Jj O6.Ro)).one
   obtain⟨kb,qb⟩:=(eX w6 dI).one
   refine⟨ka,kb,_,_,qa,qb,Ej Gr,pb,_,rfl,?_⟩
   rw[Ek]
  case a0=>
   exact ite_yes rfl (hQ _ _ _ _ _ _ (fR zt) (eP zt) O6 rfl)
  case a=>
   refine ite_no (by simp) ?_
   obtain⟨ng,u,eu,YW,PB⟩:=fe O6.Ro
   have hx:=O6.ni
   rw[eu] at hx
   obtain⟨tp,qt,qu,xP,YX,rfl,c1,c2,c3,c4,c5,c6,c7,c8⟩:=PB
   have gt:=gZ.k (k:=.inr "past") O6.d
   rw[oQ] at gt
   refine⟨_,rfl,_,rfl,ow,.ref pl,rfl,gt,.inl ⟨rfl,_,cS.of O6.jZ⟩,_,rfl,pl,xs,.ref nw,rfl,rfl,O6.jZ,dq (by omega),?_⟩
   have u1:∀{z:ah} {o:HO},z≠pl->J6 z=some o->upd J6 pl (.lst (xs++ [.ref nw])) z=some o:=fun n e=>by rw[aV n];exact e
   have p7:upd J6 pl (.lst (xs++ [.ref nw])) pl=some (.lst (xs++ [.ref nw])):=az
   have Ng:Tk J6 (upd J6 pl (.lst (xs++ [.ref nw]))):=fun b zs e=>u1 (fun z=>by rw[z,O6.jZ] at e;cases e) e
   try dsimp only
   generalize upd J6 pl (.lst (xs++ [.ref nw]))=J7 at*
   have d7:=u1 n1 O6.d
   have x7:=u1 (cF Rw) hx
   have UN:=gZ.k (k:=.inr "later") d7
   rw[pC] at UN
   refine⟨_,rfl,_,rfl,ow,.ref ll,rfl,UN,.inl ⟨rfl,_,cS.of x7⟩,ll,_,.ref tp,rfl,rfl,x7,by simp,?_⟩
   rw[show(ng++ [V.ref tp]).dropLast=ng by simp]
   have u2:∀{z:ah} {o:HO},z≠ll->J7 z=some o->upd J7 ll (.lst ng) z=some o:=fun n e=>by rw[aV n];exact e
   have p8:upd J7 ll (.lst ng) ll=some (.lst ng):=az
   have UO:Tk J7 (upd J7 ll (.lst ng)):=fun b zs e=>u2 (fun z=>by rw[z,x7] at e;cases e) e
   try dsimp only
   generalize upd J7 ll (.lst ng)=J8 at*
   have d8:=u2 n2 d7
   refine⟨tp,_,rfl,bY.of (UO _ _ (Ng _ _ c4)),rfl,_,_,rfl,?_⟩
   refine put3 d8 fun J9 d9 u9 YY=>?_
   refine⟨dF,fun z hz=>?_⟩
   exists hz,.tup [V.eA],J9,z,s10,BC,QB
   have km:nM [ow,pl,ll] J6 QB:=fun x o n e=>by
    simp only[aC,aM,cz,tT] at n
    exact s10 _ _ (u9 _ _ n.1 (u2 n.2.2 (u1 n.2.1 e)))
   have ze:Tk J6 QB:=fun b zs e=>s10 _ _ (YY _ _ (UO _ _ (Ng _ _ e)))
   have A0:=YV km
   have vx:=s10 _ _ (u9 _ _ (cF n2) p8)
   have vy:=s10 _ _ (u9 _ _ (cF n1) (u2 (cF (cF Rw)) p7))
   refine hQ _ qt qu (xs++ [.ref nw]) ng QB (fun x o n e=>km _ _ n (zt _ _ e)) ((eP zt).trans ze) ⟨s10 _ _ d9,⟨xP,YX,c2,c3,A0 _ _ c2 c5,au c6 fun _ _ z=>z.up ze,A0 _ _ c3 c7,au c8 fun _ _ z=>z.up ze⟩,vy,dN (au O6.pp fun _ _ z=>z.kp A0 ze) (QA.kp A0 ze),vx,au YW fun _ _ z=>z.kp A0 ze⟩ ⟨z,rfl,BC⟩
def Jr (P:aF) (w:ba) (K:Frag) (mg:Str->Option af) (base:Heap) (C:ah):Prop:=∃f fd,dO P w K mg base fO 2 f fd ["self"] (Jd C)/\Binds K fd ["self"] []/\yd K C "__len__" f
def F5 {X:Cx}{C:ah}(D:Jr X.prog X.w X.K X.mg X.base C) (hr:eK 3 X.A):gE X (.builtin "len") (My C (Jd C)):=by
 obtain⟨f,fd,F,b,m⟩:=D
 exact Fu F hr b m
abbrev YZ:Stmt:=top 57
def Y0:bV ["own","club"] ["own","club"] (av YZ):={}
def Js (C:ah):Sp:=fun vs H Q _=>∃(cb sl lc ow pl ll:ah) (sts:List Cs) (S:Cs) (cx:List Cs) (m:Nat),vs=[.ref ow,.ref cb]/\Wd C H cb sl lc ow pl ll sts S cx/\St S m/\m<=31/\∀H',a_ H H'->Q (.bl true) H'
def UP {f:ah}{fd:FuncData}{C:ah}(F:iV K "_law_stands_right" "_law_stands_right" YZ f fd) (T:Txt mg) (DR:yH P w K mg base 1 C "rowers" ["self"] (vR C)) (DI:yH P w K mg base 1 C "pieces" ["self"] (AB C)) (DL:Jr P w K mg base C) (DT:yH P w K mg base 5 C "trials" ["self"] (Ef C)) (DO:Df P w K mg base 3 "_law_trials_of" ["pieces"] MX):dO P w K mg base fO 6 f fd ["own","club"] (Js C):=by
 refine F.ok Y0 (fun vs H Q E h=>?_) (fun cdv A outer s H vs Q E hr h=>?_)
 ·obtain⟨cb,sl,lc,ow,pl,ll,sts,S,cx,m,rfl,_⟩:=h
  rfl
 ·obtain⟨cb,sl,lc,ow,pl,ll,sts,S,cx,m,rfl,W,sS,F3,hQ⟩:=h
  have hu:=cR (eS (by decide:1<=64) _) hr.units
  have Az:=hr.mono (j:=1) (by decide)
  have hr3:=hr.mono (j:=3) (by decide)
  refine⟨_,ar (cN (PW.pt (kE (br (qh hr.units) (oM DR Az (pv 1)) (eB hu (pv 0) aW) (bN _)) (kE (br ml (aR (F5 DL hr3) rfl T.len bB (ae (pv 1) aj)) (aR bM rfl T.len bB (ae (eB hu (pv 0) aW) aj)) (bN _)) (lK (br (qh hr.units) (oM DI Az (pv 1)) (eB hu (pv 0) aW) (bN _)))))) (aE (bF mY)) bL)
   (aE (bF (jI (qg hr.units) (oM DT hr (pv 1)) (cB DO hr3 (ae (eB hu (pv 0) aW) aj)) (bN _)))),?_⟩
  have ok:=sS.ok F3
  have l8:=sS.lc
  have lr:=sS.lr
  obtain⟨dx,_,_,c1,_⟩:=id W.cl
  obtain⟨ra,pa,vs,ws,O⟩:=W.own
  obtain⟨qo,Nf,_,_,a3,a4,a5,a6⟩:=O.now
  have lw:=bQ a4
  have g1:∀{G:Hp},a_ H G->gZ G ow (kV (.inr "rowers")) (some (.ref ra)):=fun z=>by
   have:=gZ.k (k:=.inr "rowers") (z _ _ O.d)
   rw[za] at this
   exact this
  have g2:∀{G:Hp},a_ H G->gZ G ow (kV (.inr "pieces")) (some (.ref pa)):=fun z=>by
   have:=gZ.k (k:=.inr "pieces") (z _ _ O.d)
   rw[vX] at this
   exact this
  refine⟨_,rfl,cb,dx,_,rfl,c1,rfl,cb,sl,lc,S,sts,cx,rfl,W.cl,fun l1 u1 Gm p1=>?_⟩
  exists Gm,.lst u1,H,l1,s1,w1,J1
  obtain⟨k1,q1⟩:=(eX w1 (eF qr (au p1 fun _ _ z=>z.up fun b xs e=>s1 _ _ e))).one
  obtain⟨k2,q2⟩:=(eX (s1 _ _ a3) (eF qr (au a4 fun _ _ z=>z.up fun b xs e=>s1 _ _ e))).one
  refine⟨_,rfl,ow,.ref ra,rfl,g1 s1,k1,k2,_,_,q1,q2,ok.PZ,ok.PZ,_,rfl,?_⟩
  rw[oN yZ,aJ rfl]
  refine ite_no (by decide) ?_
  refine⟨_,rfl,cb,dx,_,rfl,s1 _ _ c1,cb,sl,lc,S,sts,cx,rfl,W.cl.same s1,fun J2 s2=>⟨S.bo.length,rfl,cR l8 (by decide),?_⟩⟩
  have jc:=s1.trans s2
  refine⟨_,rfl,ow,.ref ra,rfl,g1 jc,ra,qo,rfl,.inl (cS.of (jc _ _ a3)),rfl,_,rfl,?_⟩
  rw[ie,lw,aJ rfl]
  refine ite_no (by decide) ?_
  refine⟨_,rfl,cb,dx,_,rfl,jc _ _ c1,rfl,cb,sl,lc,S,sts,cx,rfl,W.cl.same jc,fun l3 u3 F0 p3=>?_⟩
  exists F0,.lst u3,J2,l3,s3,w3,J3
  have kY:=jc.trans s3
  obtain⟨k3,q3⟩:=(eX w3 (eF sU (au p3 fun _ _ z=>z.up fun b xs e=>s3 _ _ e))).one
  obtain⟨k4,q4⟩:=(eX (kY _ _ a5) (eF sU (au a6 fun _ _ z=>z.up fun b xs e=>kY _ _ e))).one
  refine⟨_,rfl,ow,.ref pa,rfl,g2 kY,k3,k4,_,_,q3,q4,ok.layR,ok.layR,_,rfl,?_⟩
  rw[oN IV,aJ rfl]
  refine ite_no (by decide) ?_
  refine⟨_,rfl,cb,dx,_,rfl,kY _ _ c1,rfl,cb,sl,lc,S.rows,S,sts,cx,rfl,W.cl.same kY,rfl,sS.rows,by omega,fun l5 u5 J5 hl5 s5 h5 p5=>?_⟩
  have wj:=kY.trans s5
  refine⟨_,rfl,ow,.ref pa,rfl,g2 wj,pa,Nf,S.rows,rfl,wj _ _ a5,au a6 fun _ _ z=>z.up fun b xs e=>wj _ _ e,sS.rows,by omega,fun l6 u6 J6 hl6 s6 h6 p6=>?_⟩
  obtain⟨k5,q5⟩:=(eX (s6 _ _ h5) (eF IU (au p5 fun _ _ z=>z.up fun b xs e=>s6 _ _ e))).one
  obtain⟨k6,q6⟩:=(eX h6 (eF IU p6)).one
  refine⟨k5,k6,_,_,q5,q6,ok.Um,ok.Um,?_⟩
  rw[oN PV,aJ rfl]
  exact hQ _ (wj.trans s6)
end
structure zf (K:Frag) (mg:Str->Option af) (CE C:ah) (nm:Str):Prop where
 kd:Ux K mg C nm
 xm:exmOne K (.ref C) (.ref CE)=some true
 en:nm∈uc
structure UQ (K:Frag) (mg:Str->Option af) (C:ah):Prop where
 at':mg "TooMany"=some (.ref C)
 hd:hasDictIn K C=true
 na:ji K C "many"
def QC (H:Hp) (p:ah):Str⊕Option Nat->Prop
 | .inl s=>H p=some (.tup [.eA,.str s])
 | .inr r=>∃q,H q=some (.tup [we r])/\H p=some (.tup [.ref q,.str ""])
def LR:R2:=fun x y H Q=>∃i j,x=.str i/\y=.str j/\i.length+j.length<=sizeLine/\Q (.str (i++j)) H
def LS:List V->Hp->VK->Prop:=fun xs H Q=>∃i,xs=[.int i]/\i.natAbs.log2<1920/\Q (.str (toString i)) H
def UR (K:Frag) (mg:Str->Option af) (CM:ah) (a:ah):TS:=wH (rV (mq (Qe K mg a) [] E0 (cC (cg 4) fD)) (dU 3)) (wK (tB (Q3 (Jh K) (cC (cg 4) (cC (tC (.ref CM)) fD)))) (rV (gI LR (cg 3) (Q3 LS (cC (MO K (cg 4) "many") fD))) (dU 3)) Mn)
def ma {K:Frag}{mg:Str->Option af}{CE CM C a:ah}{nm s:Str}{dW:Option ah}{H1:Hp}{D:Ends}{v0 v1 v2 v3:Option V}(N:UQ K mg CM) (y:zf K mg CE C nm) (ha:H1 a=none)
  (h:(nm≠"TooMany"/\dW=none/\s=Txt.join "" [nm,"+"])\/(nm="TooMany"/\C=CM/\s="TooMany+9"/\∃d,dW=some d/\H1 d=some (.xd [("many",.int 9)])))
  (nx:∀J,a_ H1 J->D.nx [v0,v1,v2,some (.str s),some (.ref a)] J):UR K mg CM a D [v0,v1,v2,v3,some (.ref a)] (upd H1 a (sO a (.ref C) dW)):=by
 exists ha,(sO a (.ref C) dW),H1,a,s2,FO,J
 obtain⟨C',mc',kc⟩:=y.kd.all "TooMany" (by decide+kernel)
 obtain rfl:C'=CM:=by have:=mc'.symm.trans N.at';injection this with this;injection this
 rcases h with⟨n,rfl,rfl⟩|⟨rfl,ec,rfl,d,rfl,hd⟩
 ·refine⟨_,rfl,C,none,[],nm,rfl,FO,.inl rfl,y.kd,y.en,fun J2 s3=>?_⟩
  refine⟨_,rfl,a,C,none,[],_,_,false,rfl,s3 _ _ FO,.inl rfl,y.kd.ex,rfl,by rw[kc,bC (cF n)],_,rfl,?_⟩
  exact ite_no (by decide) (nx _ (s2.trans s3))
 ·have hd2:=s2 _ _ hd
  refine⟨_,rfl,C,some d,_,"TooMany",rfl,FO,.inr ⟨d,rfl,hd2⟩,y.kd,y.en,fun J2 s3=>?_⟩
  subst ec
  refine⟨_,rfl,a,C,some d,_,_,_,true,rfl,s3 _ _ FO,.inr ⟨d,rfl,s3 _ _ hd2⟩,y.kd.ex,rfl,by rw[kc];decide+kernel,true,rfl,?_⟩
  refine ite_yes rfl ?_
  refine⟨_,rfl,_,rfl,a,C,d,_,_,rfl,s3 _ _ FO,s3 _ _ hd2,y.kd.ex,N.hd,N.na,rfl,_,rfl,by decide+kernel,_,_,rfl,rfl,by decide+kernel,?_⟩
  have e:Txt.join "" ["TooMany","+"]++toString (9:Int)=("TooMany+9":Str):=by decide+kernel
  exact e▸nx _ (s2.trans s3)
section
variable {P:aF}{w:ba}{K:Frag}{mg:Str->Option af}{base:Heap}
abbrev CJ:Stmt:=top 53
abbrev QD:List Str:=["club","what","told","fault","e"]
def ix:bV QD ["club","what"] (av CJ):={}
def Et (C:ah):Sp:=fun vs H Q _=>∃(cb sl lc t:ah) (sts:List Cs) (S:Cs) (cx:List Cs) (D:nF) (m:Nat) (o:Str⊕Option Nat) (fw:List Cs) (S':Cs) (fi:List Cs),vs=[.ref cb,.ref t]/\eW C H cb sl lc (sts++ [S]) cx/\sts.length<=800/\cx.length<=800/\j4 H t D/\St S m/\m<=31/\AL D sts S cx o fw S' fi/\
 ∀p iL H',Ec cb sl lc H H'->(iL=lc\/H iL=none)->eW C H' cb sl iL (fw++ [S']) fi->QC H' p o->Q (.ref p) H'
def Jt {f:ah}{fd:FuncData}{C CE CR CT CM CA CP CU CL:ah}(F:iV K "_law_tried" "_law_tried" CJ f fd) (T:Txt mg) (mr:mg "RowError"=some (.ref CE)) (N:UQ K mg CM) (yR:zf K mg CE CR "NoRower") (yT:zf K mg CE CT "Twice") (yM:zf K mg CE CM "TooMany") (yA:zf K mg CE CA "NoName") (yP:zf K mg CE CP "NoPiece") (yU:zf K mg CE CU "NoNumber") (yL:zf K mg CE CL "NothingLeft") (D1:wX P w K mg base 4 C "come" ["self","rower"] (Cz C CR CT CM)) (D2:wX P w K mg base 2 C "go" ["self","name"] (PL C CA)) (D3:wX P w K mg base 3 C "weigh" ["self","name","weight"] (yV C CA CR)) (D4:wX P w K mg base 4 C "tell" ["self","piece"] (Cv C CP)) (D5:wX P w K mg base 2 C "strike" ["self","number"] (IH C CU)) (D6:wX P w K mg base 1 C "back" ["self"] (Cw C CL)) (D7:wX P w K mg base 1 C "again" ["self"] (yJ C CL)) (DN:X0 P w K mg base 1 "_law_name_of" ["e"] (Qe K mg)):dO P w K mg base fO 5 f fd ["club","what"] (Et C):=by
 refine F.ok ix (fun vs H Q E h=>?_) (fun cdv A outer s H vs Q E hr h=>?_)
 ·obtain⟨cb,sl,lc,t,sts,S,cx,D,m,o,fw,S',fi,rfl,_⟩:=h
  rfl
 ·obtain⟨cb,sl,lc,t,sts,S,cx,D,m,o,fw,S',fi,rfl,hC,l1,l2,dA,sS,F3,sp,hQ⟩:=h
  have Az:=hr.mono (j:=1) (by decide)
  refine⟨_,ar (jX (i:=2) ix.nd iT)
   (ar (jX (i:=3) ix.nd aW)
   (ar (FE (i:=4) (C:=CE) (tb:=fun W=>(wK (gj (gI Gh (gI (fZ K) (cg 1) (tC (.int 0))) (tC (.str "come")))) (rV (nY (cC (mT C "come" (Cz C CR CT CM) W (cg 0) (cC (gI (fZ K) (cg 1) (tC (.int 1))) fD)) fD)) (dU 2)) (wK (gj (gI Gh (gI (fZ K) (cg 1) (tC (.int 0))) (tC (.str "go")))) (rV (nY (cC (mT C "go" (PL C CA) W (cg 0) (cC (gI (fZ K) (cg 1) (tC (.int 1))) fD)) fD)) (dU 2)) (wK (gj (gI Gh (gI (fZ K) (cg 1) (tC (.int 0))) (tC (.str "weigh")))) (rV (nY (cC (mT C "weigh" (yV C CA CR) W (cg 0) (cC (gI (fZ K) (cg 1) (tC (.int 1))) (cC (gI (fZ K) (cg 1) (tC (.int 2))) fD))) fD)) (dU 2)) (wK (gj (gI Gh (gI (fZ K) (cg 1) (tC (.int 0))) (tC (.str "tell")))) (rV (nY (cC (mT C "tell" (Cv C CP) W (cg 0) (cC (gI (fZ K) (cg 1) (tC (.int 1))) fD)) fD)) (dU 2)) (wK (gj (gI Gh (gI (fZ K) (cg 1) (tC (.int 0))) (tC (.str "strike")))) (rV (nY (cC (mT C "strike" (IH C CU) W (cg 0) (cC (gI (fZ K) (cg 1) (tC (.int 1))) fD)) fD)) (dU 2)) (wK (gj (gI Gh (gI (fZ K) (cg 1) (tC (.int 0))) (tC (.str "back")))) (rV (nY (cC (mT C "back" (Cw C CL) W (cg 0) fD) fD)) (dU 2)) (rV (nY (cC (mT C "again" (yJ C CL) W (cg 0) fD) fD)) (dU 2))))))))) (ts:=fun a=>UR K mg CM a) rfl rfl rfl ix.nd rfl rfl rfl mr
    (fun pins W=>(aE (cN (br hU (bg bx (pv 1) ao) aW (bN _)) (aE (jX (i:=2) ix.nd (bO (ae (vO D1 (hr.mono (by decide)) oG (pv 0) (ae (bg bx (pv 1) ao) aj)) aj)))) (aE (cN (br hU (bg bx (pv 1) ao) aW (bN _)) (aE (jX (i:=2) ix.nd (bO (ae (vO D2 (hr.mono (by decide)) oG (pv 0) (ae (bg bx (pv 1) ao) aj)) aj)))) (aE (cN (br hU (bg bx (pv 1) ao) aW (bN _)) (aE (jX (i:=2) ix.nd (bO (ae (vO D3 (hr.mono (by decide)) oG (pv 0) (ae (bg bx (pv 1) ao) (ae (bg bx (pv 1) ao) aj))) aj)))) (aE (cN (br hU (bg bx (pv 1) ao) aW (bN _)) (aE (jX (i:=2) ix.nd (bO (ae (vO D4 (hr.mono (by decide)) oG (pv 0) (ae (bg bx (pv 1) ao) aj)) aj)))) (aE (cN (br hU (bg bx (pv 1) ao) aW (bN _)) (aE (jX (i:=2) ix.nd (bO (ae (vO D5 (hr.mono (by decide)) oG (pv 0) (ae (bg bx (pv 1) ao) aj)) aj)))) (aE (cN (br hU (bg bx (pv 1) ao) aW (bN _)) (aE (jX (i:=2) ix.nd (bO (ae (D_ D6 (hr.mono (by decide)) oG (pv 0)) aj)))) (aE (jX (i:=2) ix.nd (bO (ae (D_ D7 (hr.mono (by decide)) oG (pv 0)) aj)))))))))))))))))
    (fun a=>ar (jX (i:=3) ix.nd (Pe DN (pT.of Az) (ae (pv 4) aj)))
     (aE (cN (fG (aR fj rfl T.sv aD (ae (pv 4) (ae (fS (v:=.ref CM) rfl N.at' rfl) aj)))) (aE (jX (i:=3) ix.nd (bR Bo (pv 3) (fE yb rfl T.str gD (ae (Lg (pv 4) rfl) aj))))) bL))))
   (aE (bF (bO (ae (pv 2) (ae (pv 3) aj))))))),?_⟩
  obtain⟨dx,ZW,qo,c1,_⟩:=id hC
  have l8:=sS.lc
  have lr:=sS.lr
  cases sp
  case no s1 l=>
   have nt:∀{G:Hp} {p:ah},a_ H G->G p=none->Q (.ref p) (upd G p (.tup [.eA,.str s1])):=fun sG hp=>hQ _ lc _ (fun b o _ _ _ e=>aN hp _ b o (sG b o e)) (.inl rfl) (hC.same (sG.trans (aN hp _))) az
   cases l
   case' c1 c|t1 c=>
    obtain⟨v,ht,fr,zT,_⟩:=dA
    obtain⟨kk,tl⟩:=fr.one
   case c1=>
    refine gN rfl ht rfl ?_
    refine⟨_,rfl,cb,dx,_,rfl,c1,rfl,_,rfl,t,_,1,_,rfl,rfl,bY.of ht,rfl,cb,sl,lc,kk,_,_,S,sts,cx,rfl,hC,by omega,by omega,tl,zT,?_⟩
    exact .inl ⟨c,fun J sJ=>⟨yR.xm,fun a ha=>ma N yR ha (.inl ⟨by decide+kernel,rfl,by decide+kernel⟩) fun J2 s2=>⟨_,rfl,_,rfl,dF,fun p hp=>nt (sJ.trans s2) hp⟩⟩⟩
   case t1=>
    repeat refine jt rfl ht rfl rfl ?_
    refine gN rfl ht rfl ?_
    refine⟨_,rfl,cb,dx,_,rfl,c1,rfl,_,rfl,t,_,1,_,rfl,rfl,bY.of ht,rfl,cb,sl,lc,kk,_,_,S,sts,cx,rfl,hC,by omega,by omega,tl,zT,?_⟩
    exact .inl ⟨c,fun J sJ=>⟨yP.xm,fun a ha=>ma N yP ha (.inl ⟨by decide+kernel,rfl,by decide+kernel⟩) fun J2 s2=>⟨_,rfl,_,rfl,dF,fun p hp=>nt (sJ.trans s2) hp⟩⟩⟩
   case' c2 c n|c3 c n e8=>
    obtain⟨a,ht,ha,⟨kk,tl⟩,zT⟩:=zd dA c
    refine gN rfl ht rfl ?_
    refine⟨_,rfl,cb,dx,_,rfl,c1,rfl,_,rfl,t,_,1,_,rfl,rfl,bY.of ht,rfl,cb,sl,lc,kk,_,_,S,sts,cx,rfl,hC,by omega,by omega,tl,zT,?_⟩
   case c2=>
    exact .inr (.inl ⟨a,_,rfl,rfl,c,ha,n,fun J sJ=>⟨yT.xm,fun a ha=>ma N yT ha (.inl ⟨by decide+kernel,rfl,by decide+kernel⟩) fun J2 s2=>⟨_,rfl,_,rfl,dF,fun p hp=>nt (sJ.trans s2) hp⟩⟩⟩)
   case c3=>
    exact .inr (.inr (.inl ⟨a,_,rfl,rfl,c,ha,n,e8,fun dd J sJ _ W7=>⟨yM.xm,fun a ha=>ma N yM ha (.inr ⟨rfl,rfl,rfl,dd,rfl,W7⟩) fun J2 s2=>⟨_,rfl,_,rfl,dF,fun p hp=>nt (sJ.trans s2) hp⟩⟩⟩))
   case' g1 n|s1 h=>
    obtain⟨ht,_⟩:=dA
   case g1=>
    refine jt rfl ht rfl rfl ?_
    refine gN rfl ht rfl ?_
    refine⟨_,rfl,cb,dx,_,rfl,c1,rfl,_,rfl,t,_,1,_,rfl,rfl,bY.of ht,rfl,cb,sl,lc,_,S,sts,cx,rfl,hC,by omega,by omega,?_⟩
    exact .inl ⟨n,fun J sJ=>⟨yA.xm,fun a ha=>ma N yA ha (.inl ⟨by decide+kernel,rfl,by decide+kernel⟩) fun J2 s2=>⟨_,rfl,_,rfl,dF,fun p hp=>nt (sJ.trans s2) hp⟩⟩⟩
   case s1=>
    repeat refine jt rfl ht rfl rfl ?_
    refine gN rfl ht rfl ?_
    refine⟨_,rfl,cb,dx,_,rfl,c1,rfl,_,rfl,t,_,1,_,rfl,rfl,bY.of ht,rfl,cb,sl,lc,_,S,sts,cx,rfl,hC,by omega,by omega,?_⟩
    exact .inl ⟨h,fun J sJ=>⟨yU.xm,fun a ha=>ma N yU ha (.inl ⟨by decide+kernel,rfl,by decide+kernel⟩) fun J2 s2=>⟨_,rfl,_,rfl,dF,fun p hp=>nt (sJ.trans s2) hp⟩⟩⟩
   case' w1 n|w2 n pz=>
    obtain⟨v,ht,_,fr,fb,wv⟩:=dA
    obtain⟨kk,tl⟩:=fr.one
    have zT:qX _:=fb.mono (by decide) (by decide)
    repeat refine jt rfl ht rfl rfl ?_
    refine gN rfl ht rfl ?_
    refine⟨_,rfl,cb,dx,_,rfl,c1,rfl,_,rfl,t,_,1,_,rfl,rfl,bY.of ht,rfl,_,rfl,t,_,2,_,rfl,rfl,bY.of ht,rfl,cb,sl,lc,kk,_,_,_,S,sts,cx,rfl,hC,by omega,by omega,tl,zT,?_⟩
   case w1=>
    exact .inl ⟨n,fun J sJ=>⟨yA.xm,fun a ha=>ma N yA ha (.inl ⟨by decide+kernel,rfl,by decide+kernel⟩) fun J2 s2=>⟨_,rfl,_,rfl,dF,fun p hp=>nt (sJ.trans s2) hp⟩⟩⟩
   case w2=>
    exact .inr (.inl ⟨n,pz,fun J sJ=>⟨yR.xm,fun a ha=>ma N yR ha (.inl ⟨by decide+kernel,rfl,by decide+kernel⟩) fun J2 s2=>⟨_,rfl,_,rfl,dF,fun p hp=>nt (sJ.trans s2) hp⟩⟩⟩)
  case st r1 l=>
   have yt:∀{J iL q p},Ec cb sl lc H J->H iL=none->eW C J cb sl iL _ []->J q=none->upd J q (.tup [we r1]) p=none->Q (.ref p) (upd (upd J q (.tup [we r1])) p (.tup [.ref q,.str ""])):=fun k2 f2 g2 hq hp=>hQ _ _ _ (fun b o n1 n2 n3 e=>aN hp _ b o (aN hq _ b o (k2 b o n1 n2 n3 e))) (.inr f2) ((g2.same (aN hq _)).same (aN hp _)) ⟨_,aN hp _ _ _ az,az⟩
   cases l with
   |c4 c n e7 g=>
    obtain⟨a,ht,ha,⟨kk,tl⟩,zT⟩:=zd dA c
    refine gN rfl ht rfl ?_
    refine⟨_,rfl,cb,dx,_,rfl,c1,rfl,_,rfl,t,_,1,_,rfl,rfl,bY.of ht,rfl,cb,sl,lc,kk,_,_,S,sts,cx,rfl,hC,by omega,by omega,tl,zT,?_⟩
    exact .inr (.inr (.inr ⟨a,_,rfl,rfl,c,ha,n,e7,fun iL J2 k2 f2 g2=>⟨dF,fun q hq=>⟨_,rfl,_,rfl,dF,fun p hp=>yt k2 f2 g2 hq hp⟩⟩⟩))
   |g2 n=>
    obtain⟨ht,_⟩:=dA
    refine jt rfl ht rfl rfl ?_
    refine gN rfl ht rfl ?_
    refine⟨_,rfl,cb,dx,_,rfl,c1,rfl,_,rfl,t,_,1,_,rfl,rfl,bY.of ht,rfl,cb,sl,lc,_,S,sts,cx,rfl,hC,by omega,by omega,?_⟩
    exact .inr ⟨n,fun iL J2 k2 f2 g2=>⟨dF,fun q hq=>⟨_,rfl,_,rfl,dF,fun p hp=>yt k2 f2 g2 hq hp⟩⟩⟩
   |w3 n i1 i2=>
    obtain⟨v,ht,_,fr,fb,wv⟩:=dA
    obtain⟨kk,tl⟩:=fr.one
    have zT:qX _:=fb.mono (by decide) (by decide)
    obtain rfl:=Jo fr
    repeat refine jt rfl ht rfl rfl ?_
    refine gN rfl ht rfl ?_
    refine⟨_,rfl,cb,dx,_,rfl,c1,rfl,_,rfl,t,_,1,_,rfl,rfl,bY.of ht,rfl,_,rfl,t,_,2,_,rfl,rfl,bY.of ht,rfl,cb,sl,lc,kk,_,_,_,S,sts,cx,rfl,hC,by omega,by omega,tl,zT,?_⟩
    exact .inr (.inr ⟨n,(M_ i1 i2).2,_,rfl,fun iL J2 k2 f2 g2=>⟨dF,fun q hq=>⟨_,rfl,_,rfl,dF,fun p hp=>yt k2 f2 g2 hq hp⟩⟩⟩)
   |t2 oc cc=>
    obtain⟨r,ht,Il,⟨kk,tl⟩,zT⟩:=En dA oc cc
    repeat refine jt rfl ht rfl rfl ?_
    refine gN rfl ht rfl ?_
    refine⟨_,rfl,cb,dx,_,rfl,c1,rfl,_,rfl,t,_,1,_,rfl,rfl,bY.of ht,rfl,cb,sl,lc,kk,_,_,S,sts,cx,rfl,hC,by omega,by omega,tl,zT,?_⟩
    exact .inr ⟨r,_,rfl,rfl,Il,oc,cc,fun iL J2 k2 f2 g2=>⟨dF,fun q hq=>⟨_,rfl,_,rfl,dF,fun p hp=>yt k2 f2 g2 hq hp⟩⟩⟩
   |s2 h=>
    obtain⟨ht,_⟩:=dA
    repeat refine jt rfl ht rfl rfl ?_
    refine gN rfl ht rfl ?_
    refine⟨_,rfl,cb,dx,_,rfl,c1,rfl,_,rfl,t,_,1,_,rfl,rfl,bY.of ht,rfl,cb,sl,lc,_,S,sts,cx,rfl,hC,by omega,by omega,?_⟩
    exact .inr ⟨h,fun iL J2 k2 f2 g2=>⟨dF,fun q hq=>⟨_,rfl,_,rfl,dF,fun p hp=>yt k2 f2 g2 hq hp⟩⟩⟩
  case' b0|b=>
   have ht:H t=some (.tup [.str "back"]):=dA
   repeat refine jt rfl ht rfl rfl ?_
   refine gN rfl ht rfl ?_
   refine⟨_,rfl,cb,dx,_,rfl,c1,rfl,cb,sl,lc,S,_,cx,rfl,hC,by omega,by omega,?_⟩
  case b0=>
   exact .inl ⟨rfl,⟨yL.xm,fun a ha=>ma N yL ha (.inl ⟨by decide+kernel,rfl,by decide+kernel⟩) fun J2 s2=>⟨_,rfl,_,rfl,dF,fun p hp=>hQ p lc _ (fun b o _ _ _ e=>(s2.trans (aN hp _)) b o e) (.inl rfl) (hC.same (s2.trans (aN hp _))) az⟩⟩⟩
  case b=>
   exact .inr ⟨by simp,fun J2 k2 g2=>⟨dF,fun q hq=>⟨_,rfl,_,rfl,dF,fun p hp=>hQ p lc _ (fun b o n1 n2 n3 e=>aN hp _ b o (aN hq _ b o (k2 b o n1 n2 n3 e))) (.inl rfl) ((g2.same (aN hq _)).same (aN hp _)) ⟨q,aN hp _ _ _ az,az⟩⟩⟩⟩
  case' a0|a=>
   have ht:H t=some (.tup [.str "again"]):=dA
   repeat refine jt rfl ht rfl rfl ?_
   refine⟨_,rfl,cb,dx,_,rfl,c1,rfl,cb,sl,lc,sts++ [S],_,rfl,hC,by rw[aK,aG];omega,by omega,?_⟩
  case a0=>
   exact .inl ⟨rfl,⟨yL.xm,fun a ha=>ma N yL ha (.inl ⟨by decide+kernel,rfl,by decide+kernel⟩) fun J2 s2=>⟨_,rfl,_,rfl,dF,fun p hp=>hQ p lc _ (fun b o _ _ _ e=>(s2.trans (aN hp _)) b o e) (.inl rfl) (hC.same (s2.trans (aN hp _))) az⟩⟩⟩
  case a=>
   exact .inr ⟨_,_,rfl,fun J2 k2 g2=>⟨dF,fun q hq=>⟨_,rfl,_,rfl,dF,fun p hp=>hQ p lc _ (fun b o n1 n2 n3 e=>aN hp _ b o (aN hq _ b o (k2 b o n1 n2 n3 e))) (.inl rfl) ((g2.same (aN hq _)).same (aN hp _)) ⟨q,aN hp _ _ _ az,az⟩⟩⟩⟩
end
def kg (mu:List ah) (H:Hp) (t:ah) (D:nF):Prop:=∀H1,nM mu H H1->Tk H H1->j4 H1 t D
def nM.mono {mu mu':List ah}{H H':Hp}(h:nM mu H H') (s:∀x∈mu,x∈mu'):nM mu' H H':=fun x o n e=>h x o (fun z=>n (s x z)) e
section
variable {C:ah}{H H' H1 H2:Hp}{cb sl lc ow pl ll:ah}{sts:List Cs}{S S':Cs}{cx:List Cs}
def Wd.Ju (W:Wd C H cb sl lc ow pl ll sts S cx):∀x∈[ow,pl,ll,cb,sl,lc],∃o,H x=some o:=by
 intro x hx
 obtain⟨ra,pa,vs,ws,O⟩:=W.own
 obtain⟨⟨_,_,a1⟩,⟨_,a2⟩,⟨_,a3⟩⟩:=W.cl.kinds
 simp only[aC,aM,cz] at hx
 rcases hx with rfl|rfl|rfl|rfl|rfl|rfl
 ·exact⟨_,O.d⟩
 ·exact⟨_,O.jZ⟩
 ·exact⟨_,O.ni⟩
 ·exact⟨_,a1⟩
 ·exact⟨_,a2⟩
 ·exact⟨_,a3⟩
def eW.kpm {mu:List ah}{sts cx:List Cs}(h:eW C H cb sl lc sts cx) (k:nM mu H H') (tk:Tk H H') (n1:cb∉mu) (n2:sl∉mu) (n3:lc∉mu):eW C H' cb sl lc sts cx:=by
 obtain⟨dx,vs,ws,c1,c2,c3,c4,c5,c6,c7,c8⟩:=h
 exact⟨dx,vs,ws,k _ _ n1 c1,c2,c3,c4,k _ _ n2 c5,k _ _ n3 c6,au c7 fun _ _ z=>z.up tk,au c8 fun _ _ z=>z.up tk⟩
end
def AL.num {D:nF}{sts:List Cs}{S:Cs}{cx:List Cs}{n:Nat}{fw:List Cs}{S':Cs}{fi:List Cs}(h:AL D sts S cx (.inr (some n)) fw S' fi):n=S.n:=by
 cases h with
 |st l=>cases l;rfl
def wg:Option Nat->PyData
 |none=>.none
 |some n=>.int n
def zg {H:Hp}(r:Option Nat):qE H (wg r) (we r):=by
 cases r with
 |none=>exact rA
 |some n=>exact dX _
section
variable {P:aF}{w:ba}{K:Frag}{mg:Str->Option af}{base:Heap}
abbrev Y1:Stmt:=top 54
def LU:bV ["own","club","what","due","told","fault"] ["own","club","what"] (av Y1):={}
def LV (C:ah):Sp:=fun vs H Q _=>∃(cb sl lc ow pl ll t:ah) (mu:List ah) (sts:List Cs) (S:Cs) (cx:List Cs) (D:nF) (m:Nat) (o:Str⊕Option Nat) (fw:List Cs) (S':Cs) (fi:List Cs),vs=[.ref ow,.ref cb,.ref t]/\Wd C H cb sl lc ow pl ll sts S cx/\(∀T∈sts,Qi T)/\(∀T∈cx,Qi T)/\sts.length<=800/\cx.length<=800/\kg mu H t D/\(∀x∈[ow,pl,ll],x∈mu)/\St S m/\m<=31/\AL D sts S cx o fw S' fi/\
 ∀iL H',nM [ow,pl,ll,cb,sl,lc] H H'->Tk H H'->(iL=lc\/H iL=none)->Wd C H' cb sl iL ow pl ll fw S' fi->Q (.bl true) H'
def US {f:ah}{fd:FuncData}{C:ah}(F:iV K "_law_deed_right" "_law_deed_right" Y1 f fd) (T:Txt mg) (DD:Df P w K mg base 5 "_law_due" ["own","what"] Nd) (DT:Df P w K mg base 5 "_law_tried" ["club","what"] (Et C)):dO P w K mg base fO 6 f fd ["own","club","what"] (LV C):=by
 refine F.ok LU (fun vs H Q E h=>?_) (fun cdv A outer s H vs Q E hr h=>?_)
 ·obtain⟨cb,sl,lc,ow,pl,ll,t,mu,sts,S,cx,D,m,o,fw,S',fi,rfl,_⟩:=h
  rfl
 ·obtain⟨cb,sl,lc,ow,pl,ll,t,mu,sts,S,cx,D,m,o,fw,S',fi,rfl,W,Gq,Gr,l1,l2,dK,UM,sS,F3,sp,hQ⟩:=h
  refine⟨_,ar (jX (i:=3) LU.nd (cB DD hr (ae (pv 0) (ae (pv 2) aj))))
   (ar (iD (cB DT hr (ae (pv 1) (ae (pv 2) aj))) (fW rfl (bz (aZ (i:=4) LU.nd) (bz (aZ (i:=5) LU.nd) eV))))
   (ar (cN (fG (aR fF rfl T.sv aD (ae (pv 3) (ae (gH (v:=.ty "str") rfl T.str gD rfl) aj)))) (aE (bF (jB (jI NM (pv 4) iT (bN _)) (lM (jI hU (pv 5) (pv 3) (bN _)))))) bL)
   (aE (bF (jB (jI hU (pv 5) aW (bN _)) (jB (jI (qg hr.units) (pv 4) (pv 3) (bN _)) (lM (Bj (aR fF rfl T.sv aD (ae (bg bx (pv 4) ao) (ae (gH (v:=.ty "bool") rfl T.bool tR rfl) aj))))))))))),?_⟩
  obtain⟨ra,pa,xs,ys,O⟩:=W.own
  obtain⟨⟨_,_,j1⟩,⟨_,j2⟩,⟨_,j3⟩⟩:=W.cl.kinds
  have n1:cb∉ [ow,pl,ll]:=by
   simp only[aC,aM,cz,tT]
   exact⟨fun z=>(by rw[z,O.d] at j1;cases j1),ux j1 O.jZ,ux j1 O.ni⟩
  have n2:sl∉ [ow,pl,ll]:=by
   simp only[aC,aM,cz,tT]
   exact⟨(kQ O.d j2).symm,cF W.Rp,cF W.Rr⟩
  have n3:lc∉ [ow,pl,ll]:=by
   simp only[aC,aM,cz,tT]
   exact⟨(kQ O.d j3).symm,cF W.Rq,cF W.Rt⟩
  refine⟨_,rfl,_,rfl,[ow,pl,ll,cb,sl,lc],ow,t,ra,pa,pl,ll,xs,ys,sts,S,cx,D,m,o,fw,S',fi,rfl,O,W.YE,by simp,by simp,by simp,W.Ju,Gq,Gr,l1,l2,dK H nM.refl (fun _ _ e=>e),sS,F3,sp,fun v qt qu YS YT H1 k1 t1 O1 du=>?_⟩
  have g1:=W.cl.kpm k1 t1 n1 n2 n3
  refine⟨_,rfl,_,rfl,cb,sl,lc,t,sts,S,cx,D,m,o,fw,S',fi,rfl,g1,l1,l2,dK H1 (k1.mono UM) t1,sS,F3,sp,fun p iL H2 k2 f2 g2 to=>?_⟩
  have t2:=g1.mJ k2
  have O2:=O1.YF g1 k2 f2 W.Rp W.Rq W.Rr W.Rt
  have f0:iL=lc\/H iL=none:=f2.imp id fun z=>by
   cases e:H iL with
   |none=>rfl
   |some o1=>
    by_cases y:iL∈[ow,pl,ll]
    ·simp only[aC,aM,cz] at y
     rcases y with y|y|y
     ·rw[y,O1.d] at z;cases z
     ·rw[y,O1.jZ] at z;cases z
     ·rw[y,O1.ni] at z;cases z
    ·rw[k1 _ _ y e] at z;cases z
  have np:pl≠iL/\ll≠iL:=by
   rcases f2 with z|z
   ·rw[z];exact⟨W.Rq,W.Rt⟩
   ·exact⟨fun y=>(by rw[<-y,O1.jZ] at z;cases z),fun y=>(by rw[<-y,O1.ni] at z;cases z)⟩
  have fin:∀{J:Hp},a_ H2 J->Q (.bl true) J:=fun{J} sJ=>hQ iL J (fun x o n e=>sJ _ _ (by
    have n':=n
    simp only[aC,aM,cz,tT] at n'
    exact k2 _ _ n'.2.2.2.1 n'.2.2.2.2.1 n'.2.2.2.2.2 (k1 _ _ (by simp only[aC,aM,cz,tT];exact⟨n'.1,n'.2.1,n'.2.2.1⟩) e))) (t1.trans (t2.trans (eP sJ))) f0 (Wd.same ⟨g2,⟨qt,qu,YS,YT,O2⟩,W.YE,W.Rp,np.1,W.Rr,np.2⟩ sJ)
  cases o with
  |inl s=>
   obtain rfl:v=.str s:=du
   have Y2:H2 p=some (.tup [.eA,.str s]):=to
   refine⟨p,_,rfl,bY.of Y2,rfl,_,_,rfl,_,_,rfl,rfl,?_⟩
   refine⟨_,rfl,0,_,_,.str s,rfl,eY.mpr rfl,.inr (.inr (.inl rfl)),_,rfl,?_⟩
   refine ite_yes rfl ?_
   refine⟨_,rfl,rfl,_,rfl,?_⟩
   refine ite_yes (by decide) ?_
   refine⟨_,rfl,_,rfl,rfl,?_⟩
   rw[kP,aJ rfl]
   exact fin (a_.refl _)
  |inr r=>
   obtain⟨q1,rfl,zP⟩:=du
   obtain⟨q2,zq,Y2⟩:=to
   have Y3:=t2 _ _ zP
   obtain⟨k3,e3⟩:=(fT (ds:=[wg r]) Y3 (aU (zg r) dI)).one
   obtain⟨k4,e4⟩:=(fT (ds:=[wg r]) zq (aU (zg r) dI)).one
   obtain⟨k5,e5⟩:=(zg (H:=H2) r).one
   have ly:Lay (.tuple [wg r]):=by
    cases r with
    |none=>exact⟨by simp[wg,PyData.canLay0,PyData.canLayAll0],by simp[wg,PyData.depth,PyData.depthAll]⟩
    |some n=>
     have:=sp.num
     have:=sS.n
     refine(Bd.tuple (n:=1) (p:=0) (m:=1) (ds:=[.int n]) (fun x hx=>?_) (aB 1)).lay (by decide)
     rw[bU.mp hx]
     exact iF (by omega)
   refine⟨p,_,rfl,bY.of Y2,rfl,_,_,rfl,_,_,rfl,rfl,?_⟩
   refine⟨_,rfl,k3,_,_,_,rfl,e3,.inr (.inr (.inl rfl)),_,rfl,?_⟩
   refine ite_no (fun z=>Bool.noConfusion (show false=true from z)) ?_
   refine⟨_,rfl,rfl,_,rfl,?_⟩
   refine ite_yes (by decide) ?_
   refine⟨_,rfl,_,rfl,k4,k3,_,_,e4,e3,ly,ly,_,rfl,?_⟩
   have ee:PyData.eqv (.tuple [wg r]) (.tuple [wg r])=true:=by
    cases r with
    |none=>rfl
    |some n=>simp[PyData.eqv,PyData.eqvAll,wg]
   refine ite_yes ee ?_
   refine⟨_,rfl,q2,_,0,_,rfl,rfl,bY.of zq,rfl,k5,_,_,wg r,rfl,e5,.inr (.inl rfl),_,rfl,?_⟩
   rw[show zp (wg r) "bool"=false by cases r<;>rfl]
   exact fin (a_.refl _)
end
def LW (ra pa:ah) (n:Int) (pl ll:ah):qj [] (iX ra pa n pl ll)=iX ra pa n pl ll:=by unfold qj iX;rfl
def gO {H:Hp}{x y:ah}{o:HO}(e:H x=some o) (h:H y=none):x≠y:=fun z=>by rw[z,h] at e;cases e
section
variable {P:aF}{w:ba}{K:Frag}{mg:Str->Option af}{base:Heap}
abbrev rD:Stmt:=top 49
def UT:bV [] [] (av rD):={}
structure Y4 (H H':Hp) (ow ra pa pl ll:ah):Prop where
 s:a_ H H'
 d:H' ow=some (.dK (iX ra pa 0 pl ll))
 Es:H' ra=some (.lst [])
 wk:H' pa=some (.lst [])
 jZ:H' pl=some (.lst [])
 ni:H' ll=some (.lst [])
 no:H ow=none/\H ra=none/\H pa=none/\H pl=none/\H ll=none
 ne:pl≠ll/\ra≠pl/\ra≠ll/\pa≠pl/\pa≠ll
def Jv:Sp:=fun vs H Q _=>vs=[]/\∀ow ra pa pl ll H',Y4 H H' ow ra pa pl ll->Q (.ref ow) H'
def QE {f:ah}{fd:FuncData}(F:iV K "_law_club" "_law_club" rD f fd):dO P w K mg base fO 1 f fd [] Jv:=by
 refine F.ok UT (fun vs H Q E h=>?_) (fun cdv A outer s H vs Q E hr h=>?_)
 ·obtain⟨rfl,_⟩:=h
  rfl
 ·obtain⟨rfl,hQ⟩:=h
  obtain⟨p1,p2,k1,k2,k3,k4,k5,u1,u2,u3,u4,u5,eb,e1,g1,e2,g2,e3,g3,e4,g4,e5,g5⟩:∃p1 p2 k1 k2 k3 k4 k5 u1 u2 u3 u4 u5,fu rD=[.Return (some (.Dict [some k1,some k2,some k3,some k4,some k5] [u1,u2,u3,u4,u5] p2)) p1]/\PE (eU fO P w K mg base [] "_law_club" (av rD) f cdv A outer s H E).kF k1 (tC (.str "rowers"))/\PE (eU fO P w K mg base [] "_law_club" (av rD) f cdv A outer s H E).kF u1 (wL fD)/\PE (eU fO P w K mg base [] "_law_club" (av rD) f cdv A outer s H E).kF k2 (tC (.str "pieces"))/\PE (eU fO P w K mg base [] "_law_club" (av rD) f cdv A outer s H E).kF u2 (wL fD)/\PE (eU fO P w K mg base [] "_law_club" (av rD) f cdv A outer s H E).kF k3 (tC (.str "count"))/\PE (eU fO P w K mg base [] "_law_club" (av rD) f cdv A outer s H E).kF u3 (tC (.int 0))/\PE (eU fO P w K mg base [] "_law_club" (av rD) f cdv A outer s H E).kF k4 (tC (.str "past"))/\PE (eU fO P w K mg base [] "_law_club" (av rD) f cdv A outer s H E).kF u4 (wL fD)/\PE (eU fO P w K mg base [] "_law_club" (av rD) f cdv A outer s H E).kF k5 (tC (.str "later"))/\PE (eU fO P w K mg base [] "_law_club" (av rD) f cdv A outer s H E).kF u5 (wL fD):=⟨_,_,_,_,_,_,_,_,_,_,_,_,rfl,aW,cW aj,aW,cW aj,aW,ao,aW,cW aj,aW,cW aj⟩
  rw[eb]
  refine⟨_,aE (bF (KO (oi e1 g1 (oi e2 g2 (oi e3 g3 (oi e4 g4 (oi e5 g5 KN))))) rfl rfl (by intro z;cases z) (by show 5<=15;decide))),?_⟩
  intro ow how
  exists how,.dK [],H,ow,s1,w1,H1
  refine⟨dF,fun a ha=>?_⟩
  exists ha,.lst [],H1,a,s2,w2,H2
  refine⟨dF,fun b hb=>?_⟩
  exists hb,.lst [],H2,b,s3,w3,H3
  refine⟨dF,fun pl jZ=>?_⟩
  exists jZ,.lst [],H3,pl,s4,w4,H4
  refine⟨dF,fun ll ni=>?_⟩
  exists ni,.lst [],H4,ll,s5,w5,H5
  have CI:=s2.trans (s3.trans (s4.trans s5))
  refine⟨CI _ _ w1,iX a b 0 pl ll,rfl,by show 5<=15;decide,?_⟩
  rw[LW]
  have F1:∀{x:ah} {o:HO},H x=some o->x≠ow:=fun e=>gO e how
  have ow5:=CI _ _ w1
  have u:∀{x:ah} {vs:List V},H5 x=some (.lst vs)->upd H5 ow (.dK (iX a b 0 pl ll)) x=some (.lst vs):=fun{x vs} e=>by rw[aV (fun z=>by rw[z,ow5] at e;cases e)];exact e
  have a4:=(s3.trans s4) _ _ w2
  have b4:=s4 _ _ w3
  have nn:∀{G:Hp} {x:ah},a_ H G->G x=none->H x=none:=fun sG e=>cJ sG e
  exact hQ ow a b pl ll _ ⟨fun x o e=>by rw[aV (F1 e)];exact(s1.trans CI) _ _ e,az,u (s5 _ _ a4),u (s5 _ _ b4),u (s5 _ _ w4),u w5,⟨how,nn s1 ha,nn (s1.trans s2) hb,nn (s1.trans (s2.trans s3)) jZ,nn (s1.trans (s2.trans (s3.trans s4))) ni⟩,⟨gO w4 ni,gO (s3 _ _ w2) jZ,gO a4 ni,gO w3 jZ,gO b4 ni⟩⟩
end
def Jw {a b:PyData}:eQ (.tuple [a,b])=false:=rfl
def Jx {x:Str}{d:PyData}:eQ (.tuple [.str x,.str "Both",d])=false:=by
 show(fm (.str x)&&(gL (.str "Both")&&eI d))=false
 rw[show gL (.str "Both")=false by decide+kernel,bj,eZ]
def Jy {x y:Str}:eQ (.tuple [.str x,.str y,.int 0])=false:=by
 show(fm (.str x)&&(gL (.str y)&&eI (.int 0)))=false
 rw[show eI (.int 0)=false by decide+kernel,eZ,eZ]
def CK {y:Str}{d:PyData}:eQ (.tuple [.str "",.str y,d])=false:=by
 show(fm (.str "")&&(gL (.str y)&&eI d))=false
 rw[show fm (.str "")=false by decide+kernel,bj]
def Jz {ds:List PyData}:eQ (.list ds)=false:=rfl
def F6 {ds:List PyData}:gx (.list ds)=false:=rfl
def UU {a b c d:PyData}:gx (.tuple [a,b,c,d])=false:=rfl
def UW {a b c d e f:PyData}:gx (.tuple [a,b,c,d,e,f])=false:=rfl
def F7 {i:Int}{b c d e:PyData}:gx (.tuple [.int i,b,c,d,e])=false:=by
 simp[gx,jN]
def F8 {a b d e:PyData}:gx (.tuple [a,b,.int 0,d,e])=false:=by
 simp[gx,show jz (.int 0)=false by decide+kernel]
end K12
namespace L2
open PySem
def strOf:Expr->Option Str
 | .Constant (.str x) _ _=>some x
 |_=>none
def UX (ss:List Str):TA:=fun _ H Q=>Q (ss.map V.str) H
def uz {X:Cx}:∀{es:List Expr}{ss:List Str},es.map strOf=ss.map some->PA X es (UX ss)
 | [],[],_=>aj
 |e::es,x::ss,h=>by
  rw[bH,bH,Gy] at h
  have ih:=uz (X:=X) h.2
  have h1:=h.1
  unfold strOf at h1
  split at h1
  ·cases h1
   exact ae aW ih
  ·cases h1
 | [],_::_,h=>by cases h
 |_::_,[],h=>by cases h
end L2
namespace K12
open PySem L2 HT PySem.W
abbrev gf:Stmt:=top 55
abbrev jP:List Str:=["deck","own","way","names","name","rower","bad","pieces","piece","numbers"]
def kZ (i:Nat):Stmt:=(fu gf).getD i (.Pass ⟨0,0,0,0⟩)
def QF:fu gf=[kZ 0,kZ 1,kZ 2,kZ 3,kZ 4,kZ 5,kZ 6,kZ 7,kZ 8,kZ 9]:=rfl
def kR:bV jP ["deck","own"] (av gf):={}
def QG (mu:List ah) (H:Hp) (d:PyData) (v:V):Prop:=∀H1,nM mu H H1->Tk H H1->qE H1 d v
def CO (p:PyData->Bool) (mu:List ah) (H:Hp) (v:V):Prop:=∃d,QG mu H d v/\qX d/\p d=false
def CO.up {p:PyData->Bool}{mu:List ah}{H H':Hp}{v:V}(h:CO p mu H v) (k:nM mu H H') (t:Tk H H'):CO p mu H' v:=by
 obtain⟨d,h1,h2⟩:=h
 exact⟨d,fun H1 k1 t1=>h1 H1 (k.trans k1) (t.trans t1),h2⟩
def jQ {mu:List ah}{H:Hp}{a:ah}{ds:List PyData}{vs:List V}(h:H a=some (.tup vs)) (t:∀H1,nM mu H H1->Tk H H1->wZ H1 ds vs):QG mu H (.tuple ds) (.ref a):=fun H1 k1 t1=>fT (t1 _ _ h) (t H1 k1 t1)
def AQ {mu:List ah}{H:Hp}{a:ah}{ds:List PyData}{vs:List V}(h:H a=some (.lst vs)) (n:a∉mu) (t:∀H1,nM mu H H1->Tk H H1->wZ H1 ds vs):QG mu H (.list ds) (.ref a):=fun H1 k1 t1=>eX (k1 _ _ n h) (t H1 k1 t1)
def kx {H H':Hp}{k:ah}{c:Int}(dk:cQ H k c) (kp:dY k H H'):Tk H H':=fun b xs e=>kp _ _ (fun z=>by
 obtain⟨⟨_,_,q,_⟩,_⟩:=dk;rw[z,q] at e;cases e) e
def AR {mu:List ah}{H H':Hp}{k:ah}(h:k∈mu) (kp:dY k H H'):nM mu H H':=fun x o n e=>kp _ _ (fun z=>n (z▸h)) e
def bc {d:PyData}{ds:List PyData}(h:Bd 13 1 d) (t:∀x∈ds,Bd 13 1 x):∀x∈d::ds,Bd 13 1 x:=List.forall_mem_cons.mpr ⟨h,t⟩
def bn:∀x∈([]:List PyData),Bd 13 1 x:=fun _ h=>nomatch h
def xa {ds:List PyData}(h:∀d∈ds,Bd 13 1 d) (l:Nat.ble ds.length 6=true:=by exact rfl):Bd 79 2 (.tuple ds)/\qX (.tuple ds)/\qX (.list ds):=by
 have l:=uE l
 have a:=(Bd.tuple (n:=13) (p:=1) (m:=6) h l)
 have b:=(Bd.list (n:=13) (p:=1) (m:=6) h l)
 exact⟨a.mono (by decide) (by decide),a.mono (by decide) (by decide),b.mono (by decide) (by decide)⟩
def Rx {x:Str}(h:AZ x):Bd 13 1 (.str x):=(lW h.1 h.2).mono (by decide) (by decide)
def JV {i:Int}(h:i.natAbs<2^200):Bd 13 1 (.int i):=(iF h).mono (by decide) (by decide)
def VO {H:Hp}{x y:Str}{i:Int}:wZ H [.str x,.str y,.int i] [.str x,.str y,.int i]:=aU (hW _) (aU (hW _) (aU (dX _) dI))
def CQ {x:Str}(h:x∈l_):AZ x:=⟨(pD x h).1,(pD x h).2.1⟩
def nM.up {k:ah}{mu:List ah}{H H1:Hp}(h:nM mu H H1):nM (k::mu) H H1:=h.mono fun _ z=>cm _ z
def F9 {k p:ah}{mu:List ah}{H:Hp}{v:V}(h:H p=some (.tup [.str "come",v])) (b:CO eQ (k::mu) H v):∃De,kg mu H p De:=by
 obtain⟨d,h1,h2,h3⟩:=b
 exact⟨.oR d,fun H1 k1 t1=>⟨v,t1 _ _ h,h1 H1 k1.up t1,h2,.inl h3⟩⟩
def F_ {p t:ah}{mu:List ah}{H:Hp}{x y:Str}{i:Int}(h:H p=some (.tup [.str "come",.ref t])) (ht:H t=some (.tup [.str x,.str y,.int i])) (hx:x∈l_) (hy:y∈oS) (i1:1<=i) (i2:i<=1000000):∃De,kg mu H p De:=by
 have f:=Qm hx hy i1 i2
 exact⟨.oR (qp (x,y,i)),fun H1 k1 t1=>⟨.ref t,t1 _ _ h,qr _ (x,y,i) ⟨t,rfl,t1 _ _ ht⟩,f.1,.inr ⟨t,(x,y,i),rfl,rfl,f.2,t1 _ _ ht,hx,hy,i1,i2⟩⟩⟩
structure D4 (k L t:ah) (c:Int) (x y:Str) (i:Int) (H1:Hp):Prop where
 dk:cQ H1 k c
 hL:H1 L=some (.lst (l_.map V.str))
 nL:L≠k
 hx:x∈l_
 ht:H1 t=some (.tup [.str x,.str y,.int i])
 hy:y∈oS
 i1:1<=i
 i2:i<=1000000
section
variable {P:aF}{w:ba}{K:Frag}{mg:Str->Option af}{base:Heap}
def dd0 {f:ah}{cdv:af}{A:aQ}{outer:List Env}{s:ai}{H:Hp}{E:XK}(hr:eK 3 (A.deeper (PyProof.Rows.envOfC "_law_deed" (av gf) s.heap.objs.size f cdv))) (DP:Df P w K mg base 1 "_law_pick" ["deck","many"] gM) (DW:Df P w K mg base 2 "_law_weight" ["deck"] OC):∃r0 r1 r2 r3 t0 t1 t2 t3,kZ 0=r0/\kZ 1=r1/\kZ 2=r2/\kZ 3=r3/\PS ((eU fO P w K mg base jP "_law_deed" (av gf) f cdv A outer s H E).kF) r0 t0/\PS ((eU fO P w K mg base jP "_law_deed" (av gf) f cdv A outer s H E).kF) r1 t1/\PS ((eU fO P w K mg base jP "_law_deed" (av gf) f cdv A outer s H E).kF) r2 t2/\PS ((eU fO P w K mg base jP "_law_deed" (av gf) f cdv A outer s H E).kF) r3 t3/\∀(D:Ends) (u:TS) (H1:Hp) (k:ah) (v1 v2 v3 v4 v5 v6 v7 v8 v9:Option V) (c:Int),cQ H1 k c->c<=5000->(∀(w:Int) L x t y i c' H2,0<=w->w<18->dY k H1 H2->c'<=c+10->H1 L=none->D4 k L t c' x y i H2->u D [some (.ref k),v1,some (.int w),some (.ref L),some (.str x),some (.ref t),v6,v7,v8,v9] H2)->wH t0 (wH t1 (wH t2 (wH t3 u))) D [some (.ref k),v1,v2,v3,v4,v5,v6,v7,v8,v9] H1:=by
 refine⟨_,_,_,_,_,_,_,_,rfl,rfl,rfl,rfl,jX (i:=2) kR.nd (cB DP (hr.mono (by decide)) (ae (pv 0) (ae ao aj))),jX (i:=3) kR.nd (cW (uz (ss:=l_) rfl)),jX (i:=4) kR.nd (bg cU (pv 3) (cB DP (hr.mono (by decide)) (ae (pv 0) (ae ao aj)))),jX (i:=5) kR.nd (bO (ae (pv 4) (ae (bg cU (cW (uz (ss:=oS) rfl)) (cB DP (hr.mono (by decide)) (ae (pv 0) (ae ao aj)))) (ae (cB DW (hr.mono (by decide)) (ae (pv 0) aj)) aj)))),?_⟩
 intro D u H1 k v1 v2 v3 v4 v5 v6 v7 v8 v9 c dk c5 nx
 refine⟨_,rfl,k,c,18,rfl,dk,by omega,by decide,by decide,fun w c1 J1 k1 d1 e1 g1 l1=>?_⟩
 refine⟨dF,fun L hL=>?_⟩
 have nk:L≠k:=fun z=>by obtain⟨o,ho⟩:=d1.some;rw[<-z,hL] at ho;cases ho
 exists hL,.lst (l_.map V.str),J1,L,s2,w2,J2
 refine⟨_,rfl,_,rfl,k,c1,9,rfl,d1.keep (fun o e=>s2 _ _ e),by omega,by decide,by decide,fun r c3 J3 k3 d3 e3 g3 l3=>?_⟩
 obtain⟨nX,Eu⟩:=sy (xs:=l_.map V.str) g3 (by rw[aq];exact l3)
 rw[jA] at Eu
 have hx:l_[r.toNat]'(by rw[aq] at nX;exact nX)∈l_:=cA _
 generalize l_[r.toNat]'(by rw[aq] at nX;exact nX)=x at Eu hx
 have w3:=k3 _ _ nk w2
 refine⟨L,_,r,_,rfl,rfl,cS.of w3,Eu,?_⟩
 refine⟨_,rfl,dF,fun e he=>?_⟩
 have nk4:e≠k:=fun z=>by obtain⟨o,ho⟩:=d3.some;rw[<-z,he] at ho;cases ho
 exists he,.lst (oS.map V.str),J3,e,s4,w4,J4
 refine⟨_,rfl,k,c3,3,rfl,d3.keep (fun o e=>s4 _ _ e),by omega,by decide,by decide,fun r5 c5 J5 k5 d5 e5 g5 l5=>?_⟩
 obtain⟨LX,QH⟩:=sy (xs:=oS.map V.str) g5 (by rw[aq];exact l5)
 rw[jA] at QH
 have hy:oS[r5.toNat]'(by rw[aq] at LX;exact LX)∈oS:=cA _
 generalize oS[r5.toNat]'(by rw[aq] at LX;exact LX)=y at QH hy
 refine⟨e,_,r5,_,rfl,rfl,cS.of (k5 _ _ nk4 w4),QH,?_⟩
 refine⟨_,rfl,k,c5,rfl,d5,by omega,fun i c6 J6 k6 d6 e6 i1 i2=>?_⟩
 refine⟨dF,fun t ht=>?_⟩
 have s7:=aN ht (.tup [.str x,.str y,.int i])
 refine nx w L x t y i c6 _ g1 l1 ((((k1.trans s2.keep).trans (k3.trans s4.keep)).trans (k5.trans k6)).trans s7.keep) (by omega) (rh k1 nk hL) ⟨d6.keep (fun o e=>s7 _ _ e),s7 _ _ (k6 _ _ nk (k5 _ _ nk (s4 _ _ w3))),nk,hx,az,hy,i1,i2⟩
def dd4 {f:ah}{cdv:af}{A:aQ}{outer:List Env}{s:ai}{H:Hp}{E:XK}(hr:eK 3 (A.deeper (PyProof.Rows.envOfC "_law_deed" (av gf) s.heap.objs.size f cdv))) (DP:Df P w K mg base 1 "_law_pick" ["deck","many"] gM) (T:Txt mg):∃r tt,kZ 4=r/\PS ((eU fO P w K mg base jP "_law_deed" (av gf) f cdv A outer s H E).kF) r tt/\∀(D:Ends) (mu:List ah) (H1:Hp) (k L t:ah) (v1 v6 v7 v8 v9:Option V) (w c:Int) (x y:Str) (i:Int),D4 k L t c x y i H1->c<=5000->(∀x∈mu,∃o,H1 x=some o)->(4<=w->D.nx [some (.ref k),v1,some (.int w),some (.ref L),some (.str x),some (.ref t),v6,v7,v8,v9] H1)->(∀t De c' H2,dY k H1 H2->cQ H2 k c'->c'<=c+200->kg mu H2 t De->D.rt (.ref t) H2)->tt D [some (.ref k),v1,some (.int w),some (.ref L),some (.str x),some (.ref t),v6,v7,v8,v9] H1:=by
 obtain⟨e0,es,b1,p0,p1,p2,p3,er,a0,a1,a7⟩:∃e0 es b1 p0 p1 p2 p3,kZ 4=.If e0 [.Assign [.Name "bad" p0] (.List es p1) p2,b1] [] p3/\PT ((eU fO P w K mg base jP "_law_deed" (av gf) f cdv A outer s H E).kF) e0 (gj (gI (Gg fun i j=>.bl (decide (i<j))) (cg 2) (tC (.int 4))))/\PA ((eU fO P w K mg base jP "_law_deed" (av gf) f cdv A outer s H E).kF) es (cC (tC .eA) (cC (nY (cC (cg 4) (cC (tC (.str "both")) fD))) (cC (nY (cC (cg 4) (cC (tC (.str "Both")) (cC (tC (.int 7)) fD)))) (cC (nY (cC (cg 4) (cC (tC (.str "both")) (cC (tC (.int 0)) fD)))) (cC (Q3 (fun xs H Q=>∃p ys,xs=[.ref p]/\(cS K H p ys\/bY K H p ys)/\∀l,H l=none->Q (.ref l) (upd H l (.lst ys))) (cC (cg 5) fD)) (cC (nY (cC (tC (.str "")) (cC (tC (.str "port")) (cC (tC (.int 7)) fD)))) fD))))))/\PS ((eU fO P w K mg base jP "_law_deed" (av gf) f cdv A outer s H E).kF) b1 (Ke (nY (cC (tC (.str "come")) (cC (V7 (gj (gI Gh (mq gM [] E0 (cC (cg 0) (cC (tC (.int 10)) fD))) (tC (.int 0)))) (gI (NT K) (cg 6) (mq gM [] E0 (cC (cg 0) (cC (tC (.int 6)) fD)))) (cg 5)) fD)))):=⟨_,_,_,_,_,_,_,rfl,br qM (pv 2) ao (bN _),(ae iT (ae (bO (ae (pv 4) (ae aW aj))) (ae (bO (ae (pv 4) (ae aW (ae ao aj)))) (ae (bO (ae (pv 4) (ae aW (ae ao aj)))) (ae (fE mM rfl T.list tS (ae (pv 5) aj)) (ae (bO (ae aW (ae aW (ae ao aj)))) aj)))))),bF (bO (ae aW (ae (nS (br hU (cB DP (hr.mono (by decide)) (ae (pv 0) (ae ao aj))) ao (bN _)) (bg cU (pv 6) (cB DP (hr.mono (by decide)) (ae (pv 0) (ae ao aj)))) (pv 5)) aj)))⟩
 refine⟨_,_,er,cN a0 (ar (jX (i:=6) kR.nd (cW a1)) (aE a7)) bL,?_⟩
 intro D mu H1 k L t v1 v6 v7 v8 v9 w c x y i F c5 st nx fin
 refine⟨_,rfl,_,_,rfl,rfl,_,rfl,?_⟩
 refine eG (fun q=>?_) (fun q=>nx (by have:=iJ (gW.mpr q);omega))
 refine⟨_,rfl,dF,fun t1 h1=>?_⟩
 exists h1,.tup [.str x,.str "both"],H1,t1,s1,w1,M1
 refine⟨_,rfl,dF,fun t2 h2=>?_⟩
 exists h2,.tup [.str x,.str "Both",.int 7],M1,t2,s2,w2,M2
 refine⟨_,rfl,dF,fun t3 h3=>?_⟩
 exists h3,.tup [.str x,.str "both",.int 0],M2,t3,s3,w3,M3
 refine⟨_,rfl,t,_,rfl,.inr (bY.of (((s1.trans s2).trans s3) _ _ F.ht)),fun t4 h4=>?_⟩
 exists h4,.lst [.str x,.str y,.int i],M3,t4,s4,w4,M4
 refine⟨dF,fun t5 h5=>?_⟩
 exists h5,.tup [.str "",.str "port",.int 7],M4,t5,s5,w5,M5
 refine⟨dF,fun t6 h6=>?_⟩
 exists h6,.lst [.eA,.ref t1,.ref t2,.ref t3,.ref t4,.ref t5],M5,t6,s6,w6,M6
 have zz:a_ H1 M6:=(((((s1.trans s2).trans s3).trans s4).trans s5).trans s6)
 have d6:cQ M6 k c:=F.dk.keep fun o e=>zz _ _ e
 have n6:t6≠k:=fun z=>by obtain⟨o,ho⟩:=F.dk.some;rw[<-z] at ho;rw[cJ ((((s1.trans s2).trans s3).trans s4).trans s5) h6] at ho;cases ho
 have oT:=CQ F.hx
 have oY:=(v_ y F.hy).1
 have si:i.natAbs<2^200:=by have:=F.i1;have:=F.i2;omega
 have ob:∀s∈(["both","Both","port",""]:List Str),Bd 13 1 (.str s):=fun s h=>Rx ((show∀s∈(["both","Both","port",""]:List Str),AZ s by unfold AZ;decide+kernel) s h)
 have m4:t4∉k::mu:=fun z=>by
  have:∃o,H1 t4=some o:=by
   rcases aC.mp z with z|z
   ·rw[z];exact F.dk.some
   ·exact st _ z
  obtain⟨o,ho⟩:=this
  rw[cJ ((s1.trans s2).trans s3) h4] at ho;cases ho
 have bad:∀v∈[V.eA,.ref t1,.ref t2,.ref t3,.ref t4,.ref t5],CO eQ (k::mu) M6 v:=fun v hv=>by
  simp only[aC,aM,cz] at hv
  rcases hv with rfl|rfl|rfl|rfl|rfl|rfl
  ·exact⟨.none,fun _ _ _=>rA,yr.mono (by decide) (by decide),rfl⟩
  ·exact⟨_,jQ (((((s2.trans s3).trans s4).trans s5).trans s6) _ _ w1) fun _ _ _=>aU (hW _) (aU (hW _) dI),(xa (bc (Rx oT) (bc (ob "both" (by decide)) bn))).2.1,Jw⟩
  ·exact⟨_,jQ ((((s3.trans s4).trans s5).trans s6) _ _ w2) fun _ _ _=>VO,(xa (bc (Rx oT) (bc (ob "Both" (by decide)) (bc (JV (by decide)) bn)))).2.1,Jx⟩
  ·exact⟨_,jQ (((s4.trans s5).trans s6) _ _ w3) fun _ _ _=>VO,(xa (bc (Rx oT) (bc (ob "both" (by decide)) (bc (JV (by decide)) bn)))).2.1,Jy⟩
  ·exact⟨_,AQ ((s5.trans s6) _ _ w4) m4 fun _ _ _=>VO,(xa (bc (Rx oT) (bc (Rx oY) (bc (JV si) bn)))).2.2,Jz⟩
  ·exact⟨_,jQ (s6 _ _ w5) fun _ _ _=>VO,(xa (bc (ob "" (by decide)) (bc (ob "port" (by decide)) (bc (JV (by decide)) bn)))).2.1,CK⟩
 refine⟨_,rfl,k,c,10,rfl,d6,by omega,by decide,by decide,fun r c7 M7 k7 d7 e7 g7 l7=>?_⟩
 refine⟨rfl,_,rfl,?_⟩
 have t07:Tk H1 M7:=(eP zz).trans (kx d6 k7)
 refine eG (fun q=>?pos) (fun q=>?neg)
 case pos=>
  refine⟨_,rfl,_,rfl,k,c7,6,rfl,d7,by omega,by decide,by decide,fun r8 c8 M8 k8 d8 e8 g8 l8=>?_⟩
  obtain⟨nX,Eu⟩:=sy (xs:=[V.eA,.ref t1,.ref t2,.ref t3,.ref t4,.ref t5]) g8 l8
  have bv:=bad _ (cA nX)
  generalize [V.eA,.ref t1,.ref t2,.ref t3,.ref t4,.ref t5][r8.toNat]=v at Eu bv
  refine⟨t6,_,r8,v,rfl,rfl,cS.of (k8 _ _ n6 (k7 _ _ n6 w6)),Eu,dF,fun p hp=>?_⟩
  have s9:=aN hp (.tup [.str "come",v])
  have kk:=k7.trans (k8.trans s9.keep)
  obtain⟨De,dK⟩:=F9 (mu:=mu) (az (H:=M8) (a:=p) (o:=.tup [.str "come",v])) (bv.up (AR (cf ..) kk) (kx d6 kk))
  exact fin p De c8 _ (zz.keep.trans kk) (d8.keep fun o e=>s9 _ _ e) (by omega) dK
 case neg=>
  refine⟨_,rfl,dF,fun p hp=>?_⟩
  have s9:=aN hp (.tup [.str "come",.ref t])
  obtain⟨De,dK⟩:=F_ (mu:=mu) (az (H:=M7) (a:=p) (o:=.tup [.str "come",.ref t])) (s9 _ _ (t07 _ _ F.ht)) F.hx F.hy F.i1 F.i2
  exact fin p De c7 _ ((zz.keep.trans k7).trans s9.keep) (d7.keep fun o e=>s9 _ _ e) (by omega) dK
def dd5 {f:ah}{cdv:af}{A:aQ}{outer:List Env}{s:ai}{H:Hp}{E:XK}(hr:eK 3 (A.deeper (PyProof.Rows.envOfC "_law_deed" (av gf) s.heap.objs.size f cdv))) (DP:Df P w K mg base 1 "_law_pick" ["deck","many"] gM) (T:Txt mg):∃r tt,kZ 5=r/\PS ((eU fO P w K mg base jP "_law_deed" (av gf) f cdv A outer s H E).kF) r tt/\∀(D:Ends) (mu:List ah) (H1:Hp) (k L t:ah) (v1 v6 v7 v8 v9:Option V) (w c:Int) (x y:Str) (i:Int),D4 k L t c x y i H1->c<=5000->(w≠4->D.nx [some (.ref k),v1,some (.int w),some (.ref L),some (.str x),some (.ref t),v6,v7,v8,v9] H1)->(∀t De c' H2,dY k H1 H2->cQ H2 k c'->c'<=c+200->kg mu H2 t De->D.rt (.ref t) H2)->tt D [some (.ref k),v1,some (.int w),some (.ref L),some (.str x),some (.ref t),v6,v7,v8,v9] H1:=by
 refine⟨_,_,rfl,cN (br hU (pv 2) ao (bN _)) (aE (bF (bO (ae aW (ae (bg cU (cW (ae (pv 4) (ae aW (ae aW aj)))) (aR (xh rfl) rfl T.max sR (ae ao (ae (bR lO (cB DP (hr.mono (by decide)) (ae (pv 0) (ae ao aj))) ao) aj)))) aj))))) bL,?_⟩
 intro D mu H1 k L t v1 v6 v7 v8 v9 w c x y i F c5 nx fin
 refine⟨_,rfl,rfl,_,rfl,?_⟩
 rw[ie]
 refine eG (fun q=>?_) (fun q=>nx (iJ (gW.mpr q)))
 refine⟨_,rfl,dF,fun l hl=>?_⟩
 have nl:l≠k:=fun z=>by obtain⟨o,ho⟩:=F.dk.some;rw[<-z,hl] at ho;cases ho
 exists hl,.lst [.str x,.str "nobody",.str ""],H1,l,s1,w1,M1
 refine⟨_,rfl,k,c,6,rfl,F.dk.keep (fun o e=>s1 _ _ e),by omega,by decide,by decide,fun r c2 M2 k2 d2 e2 g2 l2=>?_⟩
 obtain⟨z,hz,oz⟩:∃z,qT [V.str x,.str "nobody",.str ""] (if r-3>0 then r-3 else 0)=some (.str z)/\AZ z:=by
  by_cases h:r-3>0
  ·rw[aP h]
   rcases(by omega:r=4\/r=5) with rfl|rfl
   ·exact⟨"nobody",rfl,by unfold AZ;decide+kernel⟩
   ·exact⟨"",rfl,by unfold AZ;decide+kernel⟩
  ·rw[aO h]
   exact⟨x,rfl,CQ F.hx⟩
 refine⟨_,_,rfl,rfl,_,_,rfl,l,_,_,_,rfl,rfl,cS.of (k2 _ _ nl w1),hz,dF,fun p hp=>?_⟩
 have s3:=aN hp (.tup [.str "go",.str z])
 exact fin p (.go z) c2 _ ((s1.keep.trans k2).trans s3.keep) (d2.keep fun o e=>s3 _ _ e) (by omega) fun H3 _ t3=>⟨t3 _ _ az,oz⟩
def dd6 {f:ah}{cdv:af}{A:aQ}{outer:List Env}{s:ai}{H:Hp}{E:XK}(hr:eK 3 (A.deeper (PyProof.Rows.envOfC "_law_deed" (av gf) s.heap.objs.size f cdv))) (DP:Df P w K mg base 1 "_law_pick" ["deck","many"] gM) (T:Txt mg):∃r tt,kZ 6=r/\PS ((eU fO P w K mg base jP "_law_deed" (av gf) f cdv A outer s H E).kF) r tt/\∀(D:Ends) (mu:List ah) (H1:Hp) (k L t:ah) (v1 v6 v7 v8 v9:Option V) (w c:Int) (x y:Str) (i:Int),D4 k L t c x y i H1->c<=5000->(7<=w->D.nx [some (.ref k),v1,some (.int w),some (.ref L),some (.str x),some (.ref t),v6,v7,v8,v9] H1)->(∀t De c' H2,dY k H1 H2->cQ H2 k c'->c'<=c+200->kg mu H2 t De->D.rt (.ref t) H2)->tt D [some (.ref k),v1,some (.int w),some (.ref L),some (.str x),some (.ref t),v6,v7,v8,v9] H1:=by
 refine⟨_,_,rfl,cN (br qM (pv 2) ao (bN _)) (aE (bF (bO (ae aW (ae (pv 4) (ae (bg cU (cW (ae (bg bx (pv 5) ao) (ae ao (ae iT (ae mY (ae (bR fX (bR lQ ao ao) ao) aj)))))) (aR (xh rfl) rfl T.max sR (ae ao (ae (bR lO (cB DP (hr.mono (by decide)) (ae (pv 0) (ae ao aj))) ao) aj)))) aj)))))) bL,?_⟩
 intro D mu H1 k L t v1 v6 v7 v8 v9 w c x y i F c5 nx fin
 refine⟨_,rfl,_,_,rfl,rfl,_,rfl,?_⟩
 refine eG (fun q=>?_) (fun q=>nx (by have:=iJ (gW.mpr q);omega))
 refine⟨_,rfl,_,rfl,t,_,2,_,rfl,rfl,bY.of F.ht,aT (j:=2) rfl,_,_,rfl,rfl,⟨by decide,by decide,by decide⟩,_,_,rfl,rfl,dF,fun l hl=>?_⟩
 have nl:l≠k:=fun z=>by obtain⟨o,ho⟩:=F.dk.some;rw[<-z,hl] at ho;cases ho
 exists hl,.lst [.int i,.int 0,.eA,.bl true,.int (10^Int.toNat 6+1)],H1,l,s1,w1,M1
 refine⟨_,rfl,k,c,9,rfl,F.dk.keep (fun o e=>s1 _ _ e),by omega,by decide,by decide,fun r c2 M2 k2 d2 e2 g2 l2=>?_⟩
 have i1:=F.i1
 have i2:=F.i2
 obtain⟨v,d,hv,fv,bv,wv⟩:∃v d,qT [V.int i,.int 0,.eA,.bl true,.int (10^Int.toNat 6+1)] (if r-4>0 then r-4 else 0)=some v/\(∀H,qE H d v)/\Bd 1 0 d/\WgV d v:=by
  by_cases h:r-4>0
  ·rw[aP h]
   rcases(by omega:r=5\/r=6\/r=7\/r=8) with rfl|rfl|rfl|rfl
   ·exact⟨_,.int 0,rfl,fun _=>dX _,iF (by decide),.inl (by decide+kernel)⟩
   ·exact⟨_,.none,rfl,fun _=>rA,yr,.inl rfl⟩
   ·exact⟨_,.bool true,rfl,fun _=>⟨0,fun _ _=>qe.mpr rfl⟩,KA _,.inl rfl⟩
   ·exact⟨_,.int (10^Int.toNat 6+1),rfl,fun _=>dX _,iF (by decide),.inl (by decide+kernel)⟩
  ·rw[aO h]
   exact⟨_,.int i,rfl,fun _=>dX _,iF (by omega),.inr ⟨i,rfl,rfl,i1,i2⟩⟩
 refine⟨_,_,rfl,rfl,_,_,rfl,l,_,_,_,rfl,rfl,cS.of (k2 _ _ nl w1),hv,dF,fun p hp=>?_⟩
 have s3:=aN hp (.tup [.str "weigh",.str x,v])
 exact fin p (.weigh x d) c2 _ ((s1.keep.trans k2).trans s3.keep) (d2.keep fun o e=>s3 _ _ e) (by omega) fun H3 _ t3=>⟨v,t3 _ _ az,CQ F.hx,fv _,bv,wv⟩
def dd9 {f:ah}{cdv:af}{A:aQ}{outer:List Env}{s:ai}{H:Hp}{E:XK}(hr:eK 3 (A.deeper (PyProof.Rows.envOfC "_law_deed" (av gf) s.heap.objs.size f cdv))) (DP:Df P w K mg base 1 "_law_pick" ["deck","many"] gM) (T:Txt mg):∃r tt,kZ 9=r/\PS ((eU fO P w K mg base jP "_law_deed" (av gf) f cdv A outer s H E).kF) r tt/\∀(D:Ends) (mu:List ah) (H1:Hp) (k L t:ah) (v1 v6 v7 v8 v9:Option V) (w c:Int) (x y:Str) (i:Int),D4 k L t c x y i H1->c<=5000->14<=w->w<18->(∀t De c' H2,dY k H1 H2->cQ H2 k c'->c'<=c+200->kg mu H2 t De->D.rt (.ref t) H2)->tt D [some (.ref k),v1,some (.int w),some (.ref L),some (.str x),some (.ref t),v6,v7,v8,v9] H1:=by
 refine⟨_,_,rfl,bF (bO (ae (bg cU (cW (uz (ss:=["back","back","again","back"]) rfl)) (bR lO (pv 2) ao)) aj)),?_⟩
 intro D mu H1 k L t v1 v6 v7 v8 v9 w c x y i F c5 w1 w2 fin
 refine⟨dF,fun l hl=>?_⟩
 obtain⟨z,De,hz,oz⟩:∃z De,qT [V.str "back",.str "back",.str "again",.str "back"] (w-14)=some z/\∀H p,H p=some (.tup [z])->kg mu H p De:=by
  rcases(by omega:w=14\/w=15\/w=16\/w=17) with rfl|rfl|rfl|rfl
  ·exact⟨_,.back,rfl,fun H p h H1 _ t1=>t1 _ _ h⟩
  ·exact⟨_,.back,rfl,fun H p h H1 _ t1=>t1 _ _ h⟩
  ·exact⟨_,.again,rfl,fun H p h H1 _ t1=>t1 _ _ h⟩
  ·exact⟨_,.back,rfl,fun H p h H1 _ t1=>t1 _ _ h⟩
 refine⟨_,rfl,_,_,rfl,rfl,l,_,_,_,rfl,rfl,cS.of az,hz,dF,fun p hp=>?_⟩
 have s1:=(aN hl (.lst [.str "back",.str "back",.str "again",.str "back"])).trans (aN hp (.tup [z]))
 exact fin p De c _ s1.keep (F.dk.keep fun o e=>s1 _ _ e) (by omega) (oz _ _ az)
def JA {H1:Hp}{L a:ah}{us:List V}{rows:Rows}{Q:VK}(v:Option V) (hL:H1 L=none) (h:H1 a=some (.lst us)) (pr:Paired (jE H1) us rows) (hl:rows.length<=1000) (q:∀J,a_ H1 J->J L=some (.lst (rows.map fun r=>V.int r.1))->Q (.ref L) J):
  pK (C_ K a) (dU 0) qd (gI (fZ K) (cg 0) (tC (.int 0))) [v] H1 Q L:=by
 have lu:=bQ pr
 refine kO (n:=us.length) (f:=fun i=>us.getD i .eA) (fun j ys bW J=>(∃v,bW=[v])/\a_ H1 J/\ys=(rows.take j).map fun r=>V.int r.1) hL (by omega) ⟨⟨_,rfl⟩,bP (a_.refl _) hL,rfl⟩ (fun j ys bW J hj hy ⟨_,sj,_⟩=>oU (K:=K) (cS.of (sj _ _ h)) j hj) ?_ ?_
 ·rintro j ys bW J hj hy ⟨⟨v,rfl⟩,sj,rfl⟩
  have qD:j<rows.length:=by omega
  obtain⟨u,eu,b,r,rfl,e1,e2⟩:=ez pr j qD
  rw[getD_some eu]
  refine⟨_,rfl,b,_,0,_,rfl,rfl,bY.of (sj _ _ e1),aT (j:=0) rfl,hy,⟨_,rfl⟩,bP sj hL,?_⟩
  rw[fQ qD,bE];rfl
 ·rintro ys bW J hy ⟨_,sj,rfl⟩
  rw[lu,cZ] at hy
  exact q J sj hy
def JB {H1:Hp}{L a:ah}{us:List V}{rows:Rows}{Q:VK}(v:Option V) (hL:H1 L=none) (h:H1 a=some (.lst us)) (pr:Paired (jE H1) us rows) (hl:rows.length<=1000) (q:∀J ys,a_ H1 J->J L=some (.lst ys)->Paired (fun v (x:Nat×jO)=>∃r,v=.ref r/\jD J r x.2) ys rows->Q (.ref L) J):
  pK (C_ K a) (dU 0) qd (gI (fZ K) (cg 0) (tC (.int 1))) [v] H1 Q L:=by
 have lu:=bQ pr
 refine kO (n:=us.length) (f:=fun i=>us.getD i .eA) (fun j ys bW J=>(∃v,bW=[v])/\a_ H1 J/\Paired (fun v (x:Nat×jO)=>∃r,v=.ref r/\jD J r x.2) ys (rows.take j)) hL (by omega) ⟨⟨_,rfl⟩,bP (a_.refl _) hL,.nil⟩ (fun j ys bW J hj hy ⟨_,sj,_⟩=>oU (K:=K) (cS.of (sj _ _ h)) j hj) ?_ ?_
 ·rintro j ys bW J hj hy ⟨⟨v,rfl⟩,sj,pj⟩
  have qD:j<rows.length:=by omega
  obtain⟨u,eu,b,r,rfl,e1,e2⟩:=ez pr j qD
  rw[getD_some eu]
  have AA:∀c xs,J c=some (.tup xs)->upd J L (.lst (ys++ [.ref r])) c=some (.tup xs):=fun c xs e=>by rw[aV (fun z=>by rw[z,hy] at e;cases e)];exact e
  refine⟨_,rfl,b,_,1,_,rfl,rfl,bY.of (sj _ _ e1),aT (j:=1) rfl,hy,⟨_,rfl⟩,bP sj hL,?_⟩
  rw[fQ qD]
  exact dN (au pj fun _ _ ⟨r,z1,z2⟩=>⟨r,z1,z2.up AA⟩) ⟨r,rfl,(e2.same sj).up AA⟩
 ·rintro ys bW J hy ⟨_,sj,pj⟩
  rw[lu,cZ] at pj
  exact q J ys sj hy pj
def UY:(["row"]:List Str).Nodup:=by decide+kernel
def dd8 {f:ah}{cdv:af}{A:aQ}{outer:List Env}{s:ai}{H:Hp}{E:XK}(hr:eK 3 (A.deeper (PyProof.Rows.envOfC "_law_deed" (av gf) s.heap.objs.size f cdv))) (DP:Df P w K mg base 1 "_law_pick" ["deck","many"] gM) (T:Txt mg):∃r tt,kZ 8=r/\PS ((eU fO P w K mg base jP "_law_deed" (av gf) f cdv A outer s H E).kF) r tt/\∀(D:Ends) (mu:List ah) (H1:Hp) (k L t:ah) (v6 v7 v8 v9:Option V) (w c:Int) (x y:Str) (i:Int) (ow pa:ah) (us:List V) (S:Cs) (m:Nat),D4 k L t c x y i H1->c<=5000->(∀G,a_ H1 G->gZ G ow (kV (.inr "pieces")) (some (.ref pa))/\gZ G ow (kV (.inr "count")) (some (.int S.n)))->H1 pa=some (.lst us)->Paired (jE H1) us S.rows->St S m->m<=31->(14<=w->D.nx [some (.ref k),some (.ref ow),some (.int w),some (.ref L),some (.str x),some (.ref t),v6,v7,v8,v9] H1)->(∀t De c' H2,dY k H1 H2->cQ H2 k c'->c'<=c+200->kg mu H2 t De->D.rt (.ref t) H2)->tt D [some (.ref k),some (.ref ow),some (.int w),some (.ref L),some (.str x),some (.ref t),v6,v7,v8,v9] H1:=by
 have hu:=cR (eS (by decide:1<=64) _) hr.units
 refine⟨_,_,rfl,cN (br qM (pv 2) ao (bN _)) (ar (jX (i:=9) kR.nd (bR kN (ke (N:=["row"]) (g:=dU 0) (tc:=qd) (te:=gI (fZ K) (cg 0) (tC (.int 0))) rfl (jh (eB hu (pv 1) aW)) (fk.closed rfl) (fun _ _ _=>aZ (i:=0) UY) (fun _ _ _=>iK) (fun _ _ _=>bg bx (pv 0) ao)) (cW (ae (eB hu (pv 1) aW) (ae (pN lR ao) (ae (bR lO (eB hu (pv 1) aW) ao) aj)))))) (aE (bF (bO (ae aW (ae (bg cU (pv 9) (cB DP (hr.mono (by decide)) (ae (pv 0) (ae (aR bM rfl T.len bB (ae (pv 9) aj)) aj)))) aj)))))) bL,?_⟩
 intro D mu H1 k L t v6 v7 v8 v9 w c x y i ow pa us S m F c5 og wk pr sS F3 nx fin
 refine⟨_,rfl,_,_,rfl,rfl,_,rfl,?_⟩
 refine eG (fun q=>?_) (fun q=>nx (by have:=iJ (gW.mpr q);omega))
 have lr:=sS.lr
 have ln:=sS.n
 have num:=sS.num
 refine⟨_,rfl,ow,.ref pa,rfl,(og _ (a_.refl _)).1,pa,rfl,⟨_,cS.of wk⟩,fun L1 MW=>?_⟩
 refine JA _ MW wk pr (by omega) fun J1 s1 w1=>?_
 refine⟨_,rfl,ow,_,rfl,(og _ s1).2,_,rfl,_,rfl,ow,_,rfl,(og _ s1).2,_,_,rfl,rfl,dF,fun l2 nK=>?_⟩
 exists nK,.lst [.int S.n,.int (-1),.int (S.n-1)],J1,l2,s2,w2,J2
 refine⟨L1,l2,_,_,rfl,rfl,s2 _ _ w1,w2,eM (dq (by simp only[cH,iP,aq];omega)),fun l3 F0=>?_⟩
 obtain⟨ns,en,hn⟩:∃ns:List Int,(S.rows.map fun r=>V.int r.1)++ [.int S.n,.int (-1),.int (S.n-1)]=ns.map V.int/\(∀i∈ns,i.natAbs<2^200):=by
  refine⟨(S.rows.map fun r=>(r.1:Int))++ [(S.n:Int),-1,S.n-1],by rw[bE,nP];rfl,fun i hi=>?_⟩
  rcases c_.mp hi with z|z
  ·obtain⟨r,hr,rfl⟩:=cO.mp z
   have:=num r hr
   omega
  ·simp only[aC,aM,cz] at z
   rcases z with rfl|rfl|rfl<;>omega
 have ll:ns.length=S.rows.length+3:=by
  have:=iM List.length en
  simpa using this.symm
 rw[en]
 exists F0,.lst (ns.map V.int),J2,l3,s3,w3,J3
 have kY:=s1.trans (s2.trans s3)
 have n3:l3≠k:=fun z=>by obtain⟨o,ho⟩:=F.dk.some;rw[<-z] at ho;rw[cJ (s1.trans s2) F0] at ho;cases ho
 refine⟨_,rfl,_,rfl,_,rfl,l3,_,rfl,.inl (cS.of w3),k,c,_,rfl,F.dk.keep (fun o e=>kY _ _ e),by omega,by rw[aq];omega,by rw[aq];omega,fun r c4 J4 k4 d4 e4 g4 l4=>?_⟩
 obtain⟨nX,Eu⟩:=sy (xs:=ns.map V.int) g4 l4
 rw[jA] at Eu
 have hi:=hn _ (cA (by rw[aq] at nX;exact nX))
 refine⟨l3,_,r,_,rfl,rfl,cS.of (k4 _ _ n3 w3),Eu,dF,fun p hp=>?_⟩
 have s5:=aN hp (.tup [.str "strike",.int (ns[r.toNat]'(by rw[aq] at nX;exact nX))])
 exact fin p (.jF _) c4 _ ((kY.keep.trans k4).trans s5.keep) (d4.keep fun o e=>s5 _ _ e) (by omega) fun H5 _ t5=>⟨t5 _ _ az,hi⟩
end
def Ga {k p:ah}{mu:List ah}{H:Hp}{v:V}(h:H p=some (.tup [.str "tell",v])) (b:CO gx (k::mu) H v):∃De,kg mu H p De:=by
 obtain⟨d,h1,h2,h3⟩:=b
 exact⟨.tell d,fun H1 k1 t1=>⟨v,t1 _ _ h,h1 H1 k1.up t1,h2,.inl h3⟩⟩
def Gb {p r:ah}{mu:List ah}{H:Hp}{pc:jO}(h:H p=some (.tup [.str "tell",.ref r])) (hp:jD H r pc) (o:ig pc) (c:f_ pc):∃De,kg mu H p De:=
 ⟨.tell (wY pc),fun H1 k1 t1=>⟨.ref r,t1 _ _ h,yY (hp.up t1),Iz o,.inr ⟨r,pc,rfl,rfl,hp.up t1,o,c⟩⟩⟩
def bdP {pc:jO}(o:ig pc):Bd 13 1 (.tuple (cj pc.a))/\Bd 13 1 (.tuple (cj pc.b))/\Bd 13 1 (.int pc.t)/\Bd 13 1 (.int pc.o)/\Bd 13 1 (.int pc.c):=by
 have i1:=o.t1;have i2:=o.t9;have i3:=o.o1;have i4:=o.o9;have i5:=o.c1;have i6:=o.c9
 have:=o.a.l4
 have:=o.b.l4
 exact⟨mx o.a.ok (by omega),mx o.b.ok (by omega),JV (by omega),JV (by omega),JV (by omega)⟩
def JC {r:Int}(h0:0<=r) (h5:r<5):∃ns:List Str,iU (l_.map V.str) none (some (4+r))=ns.map V.str/\2<=ns.length/\ns.length<=12/\(∀n∈ns,okN n)/\ns.Nodup:=by
 have nd:l_.Nodup:=by decide+kernel
 have f:∀n:Nat,2<=n->n<=9->iU (l_.map V.str) none (some (4+r))=(l_.take n).map V.str->∃ns:List Str,iU (l_.map V.str) none (some (4+r))=ns.map V.str/\2<=ns.length/\ns.length<=12/\(∀n∈ns,okN n)/\ns.Nodup:=fun n n2 n9 e=>by
  have l:(l_.take n).length=n:=by rw[fh];show min n 9=n;omega
  exact⟨_,e,by omega,by omega,fun x hx=>pD x (gX hx),nd.sublist (qw _ _)⟩
 rcases(by omega:r=0\/r=1\/r=2\/r=3\/r=4) with rfl|rfl|rfl|rfl|rfl
 ·exact f 4 (by decide) (by decide) rfl
 ·exact f 5 (by decide) (by decide) rfl
 ·exact f 6 (by decide) (by decide) rfl
 ·exact f 7 (by decide) (by decide) rfl
 ·exact f 8 (by decide) (by decide) rfl
section
variable {P:aF}{w:ba}{K:Frag}{mg:Str->Option af}{base:Heap}
def Kd (i j:Nat):Stmt:=match kZ i with
 | .If _ b _ _=>b.getD j (.Pass ⟨0,0,0,0⟩)
 |_=>.Pass ⟨0,0,0,0⟩
def Y5 {f:ah}{cdv:af}{A:aQ}{outer:List Env}{s:ai}{H:Hp}{E:XK}(hr:eK 3 (A.deeper (PyProof.Rows.envOfC "_law_deed" (av gf) s.heap.objs.size f cdv))) (DP:Df P w K mg base 1 "_law_pick" ["deck","many"] gM):∃r0 r1 t0 t1,Kd 7 3=r0/\Kd 7 4=r1/\PS ((eU fO P w K mg base jP "_law_deed" (av gf) f cdv A outer s H E).kF) r0 t0/\PS ((eU fO P w K mg base jP "_law_deed" (av gf) f cdv A outer s H E).kF) r1 t1/\∀(D:Ends) (mu:List ah) (H0 H1:Hp) (k pr:ah) (v1 v2 v3 v4 v5 v6 v7 v9:Option V) (c0 c:Int) (pc:jO),cQ H1 k c->c<=6000->c<=c0+150->dY k H0 H1->(∀x∈mu,∃o,H1 x=some o)->jD H1 pr pc->ig pc->f_ pc->(∀t De c' H2,dY k H0 H2->cQ H2 k c'->c'<=c0+200->kg mu H2 t De->D.rt (.ref t) H2)->wH t0 t1 D [some (.ref k),v1,v2,v3,v4,v5,v6,v7,some (.ref pr),v9] H1:=by
 obtain⟨es,p0,p1,p2,er,a1⟩:∃es p0 p1 p2,Kd 7 3=.Assign [.Name "bad" p0] (.List es p1) p2/\PA ((eU fO P w K mg base jP "_law_deed" (av gf) f cdv A outer s H E).kF) es (cC (R4 (Oe K) (cg 8) qS (zG (tC (.int 4)))) (cC (fun σ H Q=>(cg 8) σ H fun x H1=>(ZJ (rU fun i=>.int (-i)) (tC (.int 1))) σ H1 fun y H2=>∃a xs,x=.ref a/\y=.int (-1)/\bY K H2 a xs/\∀p,H2 p=none->Q (.ref p) (upd H2 p (.tup xs.reverse))) (cC (tC .eA) (cC (gI (GY K) (nY (cC (gI (fZ K) (cg 8) (tC (.int 0))) fD)) (cg 8)) (cC (gI (GY K) (R4 (Oe K) (cg 8) qS (zG (tC (.int 2)))) (nY (cC (tC (.int 0)) (cC (tC (.int 1)) (cC (tC (.int 1)) fD))))) (cC (wL (cC (cg 8) fD)) fD)))))):=⟨_,_,_,_,rfl,(ae (gQ yu (pv 8) jk (iu ao)) (ae (KI (pv 8) (pN lR ao) (fun v key=>⟨[v,key],rfl⟩)) (ae iT (ae (bR lj (bO (ae (bg bx (pv 8) ao) aj)) (pv 8)) (ae (bR lj (gQ yu (pv 8) jk (iu ao)) (bO (ae ao (ae ao (ae ao aj))))) (ae (cW (ae (pv 8) aj)) aj))))))⟩
 refine⟨_,_,_,_,er,rfl,jX (i:=6) kR.nd (cW a1),bF (bO (ae aW (ae (nS (br hU (cB DP (hr.mono (by decide)) (ae (pv 0) (ae ao aj))) ao (bN _)) (bg cU (pv 6) (cB DP (hr.mono (by decide)) (ae (pv 0) (ae ao aj)))) (pv 8)) aj))),?_⟩
 intro D mu H0 H1 k pr v1 v2 v3 v4 v5 v6 v7 v9 c0 c pc dk c6 cc kp st hP oP cP fin
 obtain⟨a,b,h1,h2,h3⟩:=id hP
 have g:∀{G:Hp} (lo hi:Option Int),iU [V.ref a,.ref b,.int pc.t,.int pc.o,.int pc.c] lo hi=iU [V.ref a,.ref b,.int pc.t,.int pc.o,.int pc.c] lo hi:=fun _ _=>rfl
 clear g
 refine⟨_,rfl,_,rfl,pr,_,rfl,bY.of h1,fun z=>absurd z.2 (by show ¬(HT.hZ 5 5 (some 4)=5);decide),fun _ tA hA=>?_⟩
 rw[show iU [V.ref a,.ref b,.int pc.t,.int pc.o,.int pc.c] none (some 4)=[.ref a,.ref b,.int pc.t,.int pc.o] from rfl]
 exists hA,.tup [.ref a,.ref b,.int pc.t,.int pc.o],H1,tA,sA,wA,MA
 refine⟨_,rfl,_,rfl,pr,_,rfl,rfl,bY.of (sA _ _ h1),fun tB hB=>?_⟩
 rw[show([.ref a,.ref b,.int pc.t,.int pc.o,.int pc.c]:List V).reverse=[.int pc.c,.int pc.o,.int pc.t,.ref b,.ref a] from rfl]
 exists hB,.tup [.int pc.c,.int pc.o,.int pc.t,.ref b,.ref a],MA,tB,sB,wB,MB
 refine⟨_,rfl,pr,_,0,_,rfl,rfl,bY.of ((sA.trans sB) _ _ h1),aT (j:=0) rfl,dF,fun tC hC=>?_⟩
 exists hC,.tup [.ref a],MB,tC,sC,wC,MC
 refine⟨_,rfl,tC,pr,_,_,rfl,rfl,bY.of wC,bY.of (((sA.trans sB).trans sC) _ _ h1),List.cons_ne_nil _ _,dF,(fun z=>by cases z),fun _ tD hD=>?_⟩
 rw[show([.ref a]:List V)++ [.ref a,.ref b,.int pc.t,.int pc.o,.int pc.c]=[.ref a,.ref a,.ref b,.int pc.t,.int pc.o,.int pc.c] from rfl]
 exists hD,.tup [.ref a,.ref a,.ref b,.int pc.t,.int pc.o,.int pc.c],MC,tD,sD,wD,MD
 refine⟨_,rfl,_,rfl,pr,_,rfl,bY.of ((((sA.trans sB).trans sC).trans sD) _ _ h1),fun z=>absurd z.2 (by show ¬(HT.hZ 5 5 (some 2)=5);decide),fun _ tE hE=>?_⟩
 rw[show iU [V.ref a,.ref b,.int pc.t,.int pc.o,.int pc.c] none (some 2)=[.ref a,.ref b] from rfl]
 exists hE,.tup [.ref a,.ref b],MD,tE,sE,wE,ME
 refine⟨dF,fun tF hF=>?_⟩
 exists hF,.tup [.int 0,.int 1,.int 1],ME,tF,sF,wF,MF
 refine⟨tE,tF,_,_,rfl,rfl,bY.of (sF _ _ wE),bY.of wF,List.cons_ne_nil _ _,dF,(fun z=>by cases z),fun _ tG hG=>?_⟩
 rw[show([.ref a,.ref b]:List V)++ [.int 0,.int 1,.int 1]=[.ref a,.ref b,.int 0,.int 1,.int 1] from rfl]
 exists hG,.tup [.ref a,.ref b,.int 0,.int 1,.int 1],MF,tG,sG,wG,MG
 refine⟨_,rfl,dF,fun tI hI=>?_⟩
 exists hI,.lst [.ref pr],MG,tI,sI,wI,MI
 refine⟨dF,fun tJ hJ=>?_⟩
 exists hJ,.lst [.ref tA,.ref tB,.eA,.ref tD,.ref tG,.ref tI],MI,tJ,sJ,wJ,MJ
 have zz:a_ H1 MJ:=((((((((sA.trans sB).trans sC).trans sD).trans sE).trans sF).trans sG).trans sI).trans sJ)
 have d9:cQ MJ k c:=dk.keep fun o e=>zz _ _ e
 have nJ:tJ≠k:=fun z=>by obtain⟨o,ho⟩:=dk.some;rw[<-z] at ho;rw[cJ (((((((sA.trans sB).trans sC).trans sD).trans sE).trans sF).trans sG).trans sI) hJ] at ho;cases ho
 have mI:tI∉k::mu:=fun z=>by
  have:∃o,H1 tI=some o:=by
   rcases aC.mp z with z|z
   ·rw[z];exact dk.some
   ·exact st _ z
  obtain⟨o,ho⟩:=this
  rw[cJ ((((((sA.trans sB).trans sC).trans sD).trans sE).trans sF).trans sG) hI] at ho;cases ho
 obtain⟨b1,b2,b3,b4,b5⟩:=bdP oP
 have N_:=zz _ _ h2
 have YD:=zz _ _ h3
 have fa:∀H,nM (k::mu) MJ H->Tk MJ H->qE H (.tuple (cj pc.a)) (.ref a)/\qE H (.tuple (cj pc.b)) (.ref b):=fun H _ t=>⟨fT (t _ _ N_) (mW _),fT (t _ _ YD) (mW _)⟩
 have bad:∀v∈[V.ref tA,.ref tB,.eA,.ref tD,.ref tG,.ref tI],CO gx (k::mu) MJ v:=fun v hv=>by
  simp only[aC,aM,cz] at hv
  rcases hv with rfl|rfl|rfl|rfl|rfl|rfl
  ·exact⟨_,jQ ((((((((sB.trans sC).trans sD).trans sE).trans sF).trans sG).trans sI).trans sJ) _ _ wA) fun H1 q1 q2=>aU (fa H1 q1 q2).1 (aU (fa H1 q1 q2).2 (aU (dX _) (aU (dX _) dI))),(xa (bc b1 (bc b2 (bc b3 (bc b4 bn))))).2.1,UU⟩
  ·exact⟨_,jQ (((((((sC.trans sD).trans sE).trans sF).trans sG).trans sI).trans sJ) _ _ wB) fun H1 q1 q2=>aU (dX _) (aU (dX _) (aU (dX _) (aU (fa H1 q1 q2).2 (aU (fa H1 q1 q2).1 dI)))),(xa (bc b5 (bc b4 (bc b3 (bc b2 (bc b1 bn)))))).2.1,F7⟩
  ·exact⟨.none,fun _ _ _=>rA,yr.mono (by decide) (by decide),rfl⟩
  ·exact⟨_,jQ (((((sE.trans sF).trans sG).trans sI).trans sJ) _ _ wD) fun H1 q1 q2=>aU (fa H1 q1 q2).1 (aU (fa H1 q1 q2).1 (aU (fa H1 q1 q2).2 (aU (dX _) (aU (dX _) (aU (dX _) dI))))),(xa (bc b1 (bc b1 (bc b2 (bc b3 (bc b4 (bc b5 bn))))))).2.1,UW⟩
  ·exact⟨_,jQ ((sI.trans sJ) _ _ wG) fun H1 q1 q2=>aU (fa H1 q1 q2).1 (aU (fa H1 q1 q2).2 (aU (dX _) (aU (dX _) (aU (dX _) dI)))),(xa (bc b1 (bc b2 (bc (JV (by decide)) (bc (JV (by decide)) (bc (JV (by decide)) bn)))))).2.1,F8⟩
  ·exact⟨_,AQ (sJ _ _ wI) mI fun H1 q1 q2=>aU (yY ((hP.same zz).up q2)) dI,(Bd.list (n:=79) (p:=2) (m:=1) (ds:=[wY pc]) (fun d hd=>by
    rw[bU.mp hd]
    exact(xa (bc b1 (bc b2 (bc b3 (bc b4 (bc b5 bn)))))).1) (aB 1)).mono (by decide) (by decide),F6⟩
 refine⟨_,rfl,k,c,10,rfl,d9,by omega,by decide,by decide,fun r c7 M7 k7 d7 e7 g7 l7=>?_⟩
 refine⟨rfl,_,rfl,?_⟩
 refine eG (fun q=>?pos) (fun q=>?neg)
 case pos=>
  refine⟨_,rfl,_,rfl,k,c7,6,rfl,d7,by omega,by decide,by decide,fun r8 c8 M8 k8 d8 e8 g8 l8=>?_⟩
  obtain⟨nX,Eu⟩:=sy (xs:=[V.ref tA,.ref tB,.eA,.ref tD,.ref tG,.ref tI]) g8 l8
  have bv:=bad _ (cA nX)
  generalize [V.ref tA,.ref tB,.eA,.ref tD,.ref tG,.ref tI][r8.toNat]=v at Eu bv
  refine⟨tJ,_,r8,v,rfl,rfl,cS.of (k8 _ _ nJ (k7 _ _ nJ wJ)),Eu,dF,fun p hp=>?_⟩
  have s9:=aN hp (.tup [.str "tell",v])
  have kk:=k7.trans (k8.trans s9.keep)
  obtain⟨De,dK⟩:=Ga (mu:=mu) (az (H:=M8) (a:=p) (o:=.tup [.str "tell",v])) (bv.up (AR (cf ..) kk) (kx d9 kk))
  exact fin p De c8 _ (kp.trans (zz.keep.trans kk)) (d8.keep fun o e=>s9 _ _ e) (by omega) dK
 case neg=>
  refine⟨_,rfl,dF,fun p hp=>?_⟩
  have s9:=aN hp (.tup [.str "tell",.ref pr])
  obtain⟨De,dK⟩:=Gb (mu:=mu) (az (H:=M7) (a:=p) (o:=.tup [.str "tell",.ref pr])) (((hP.same zz).up (kx d9 k7)).same s9) oP cP
  exact fin p De c7 _ (kp.trans ((zz.keep.trans k7).trans s9.keep)) (d7.keep fun o e=>s9 _ _ e) (by omega) dK
def dd7 {f:ah}{cdv:af}{A:aQ}{outer:List Env}{s:ai}{H:Hp}{E:XK}(hr:eK 3 (A.deeper (PyProof.Rows.envOfC "_law_deed" (av gf) s.heap.objs.size f cdv))) (DP:Df P w K mg base 1 "_law_pick" ["deck","many"] gM) (T:Txt mg) (DC:Df P w K mg base 2 "_law_piece" ["deck","names"] OK) (DX:Df P w K mg base 2 "_law_exchanged" ["deck","piece"] P6):∃r tt,kZ 7=r/\PS ((eU fO P w K mg base jP "_law_deed" (av gf) f cdv A outer s H E).kF) r tt/\∀(D:Ends) (mu:List ah) (H1:Hp) (k L t:ah) (v6 v7 v8 v9:Option V) (w c:Int) (x y:Str) (i:Int) (ow pa:ah) (us:List V) (S:Cs) (m:Nat),D4 k L t c x y i H1->c<=5000->(∀x∈mu,∃o,H1 x=some o)->(∀G,a_ H1 G->gZ G ow (kV (.inr "pieces")) (some (.ref pa))/\gZ G ow (kV (.inr "count")) (some (.int S.n)))->H1 pa=some (.lst us)->Paired (jE H1) us S.rows->St S m->m<=31->(12<=w->D.nx [some (.ref k),some (.ref ow),some (.int w),some (.ref L),some (.str x),some (.ref t),v6,v7,v8,v9] H1)->(∀t De c' H2,dY k H1 H2->cQ H2 k c'->c'<=c+200->kg mu H2 t De->D.rt (.ref t) H2)->tt D [some (.ref k),some (.ref ow),some (.int w),some (.ref L),some (.str x),some (.ref t),v6,v7,v8,v9] H1:=by
 have hu:=cR (eS (by decide:1<=64) _) hr.units
 obtain⟨r0,r1,t0,t1,q0,q1,p0,p1,go⟩:=Y5 (outer:=outer) (H:=H) (E:=E) hr DP
 rw[<-q0] at p0
 rw[<-q1] at p1
 refine⟨_,_,rfl,cN (br qM (pv 2) ao (bN _)) (ar (jn (i0:=7) (N:=["row"]) (g:=dU 0) (tc:=qd) (te:=gI (fZ K) (cg 0) (tC (.int 1))) kR.nd rfl (Or.inl rfl) rfl (jh (eB hu (pv 1) aW)) (fk.closed rfl) (fun _ _ _=>aZ (i:=0) UY) (fun _ _ _=>iK) (fun _ _ _=>bg bx (pv 0) ao)) (ar (jX (i:=8) kR.nd (cB DC (hr.mono (by decide)) (ae (pv 0) (ae (gQ oZ (pv 3) jk (iu (bR fX ao (cB DP (hr.mono (by decide)) (ae (pv 0) (ae ao aj)))))) aj)))) (ar (cN (PW.pt (Bi (br (qh hr.units) (pv 7) (cW aj) (bN _)) (C8 (br xg (cB DP (hr.mono (by decide)) (ae (pv 0) (ae ao aj))) ao (bN _))))) (aE (jX (i:=8) kR.nd (cB DX (hr.mono (by decide)) (ae (pv 0) (ae (bg cU (pv 7) (cB DP (hr.mono (by decide)) (ae (pv 0) (ae (aR bM rfl T.len bB (ae (pv 7) aj)) aj)))) aj))))) bL) (ar p0 (aE p1))))) bL,?_⟩
 intro D mu H1 k L t v6 v7 v8 v9 w c x y i ow pa us S m F c5 st og wk pr sS F3 nx fin
 refine⟨_,rfl,_,_,rfl,rfl,_,rfl,?_⟩
 refine eG (fun q=>?_) (fun q=>nx (by have:=iJ (gW.mpr q);omega))
 have lr:=sS.lr
 have lu:=bQ pr
 refine⟨_,rfl,ow,.ref pa,rfl,(og _ (a_.refl _)).1,pa,rfl,⟨_,cS.of wk⟩,fun L1 MW=>?_⟩
 refine JB _ MW wk pr (by omega) fun J1 ys s1 w1 py=>?_
 have Y6:L1≠k:=fun z=>by obtain⟨o,ho⟩:=F.dk.some;rw[<-z,MW] at ho;cases ho
 have ly:=bQ py
 have d1:cQ J1 k c:=F.dk.keep (fun o e=>s1 _ _ e)
 refine⟨_,rfl,_,rfl,_,rfl,k,c,5,rfl,d1,by omega,by decide,by decide,fun r2 c2 J2 k2 d2 e2 g2 l2=>?_⟩
 obtain⟨ns,en,n2,Px,Xv,nd⟩:=JC g2 l2
 refine⟨_,_,rfl,rfl,_,rfl,L,_,rfl,cS.of (k2 _ _ F.nL (s1 _ _ F.hL)),fun l3 F0=>?_⟩
 rw[en]
 exists F0,.lst (ns.map V.str),J2,l3,s3,w3,J3
 have n3:l3≠k:=fun z=>by obtain⟨o,ho⟩:=d2.some;rw[<-z,F0] at ho;cases ho
 refine⟨k,c2,l3,ns,rfl,d2.keep (fun o e=>s3 _ _ e),by omega,n3,w3,n2,Px,Xv,nd,fun r4 pc c4 J4 k4 d4 e4 hP oP cP=>?_⟩
 have k14:dY k J1 J4:=k2.trans (s3.keep.trans k4)
 have Y7:dY k H1 J4:=s1.keep.trans k14
 have Hi:∀{G:Hp} {c':Int},cQ G k c'->dY k H1 G->∀x∈mu,∃o,G x=some o:=fun{G c'} dG kG x hx=>by
  obtain⟨o,ho⟩:=st x hx
  by_cases e:x=k
  ·rw[e];exact dG.some
  ·exact⟨o,kG _ _ e ho⟩
 refine⟨_,rfl,dF,fun l5 hl5=>?_⟩
 exists hl5,.lst [],J4,l5,s5,w5,J5
 have k15:=k14.trans s5.keep
 have t15:=kx d1 k15
 have py5:=au py fun _ _ z=>(show∃r,_/\jD J5 r _ from z.imp fun r q=>⟨q.1,q.2.up t15⟩)
 have hy5:=k15 _ _ Y6 w1
 have d5:cQ J5 k c4:=d4.keep fun o e=>s5 _ _ e
 obtain⟨a1,q1⟩:=(eX hy5 (eF (f:=fun x:Nat×jO=>wY x.2) (fun v x ⟨r,z1,z2⟩=>by rw[z1];exact yY z2) py5)).one
 obtain⟨a2,q2⟩:=(eX w5 dI).one
 have lay:Lay (.list (S.rows.map fun x=>wY x.2)):=(Bd.list (n:=1000) (p:=15) (m:=31) (fun d hd=>by
  obtain⟨x,hx,rfl⟩:=cO.mp hd
  exact Iz (sS.rows x hx).1) (by rw[aq];omega)).lay (by decide)
 refine⟨a1,a2,_,_,q1,q2,lay,pb,_,rfl,?_⟩
 have ee:PyData.eqv (.list (S.rows.map fun x=>wY x.2)) (.list [])=S.rows.isEmpty:=by
  rw[PyData.eqv]
  cases S.rows with
  |nil=>rfl
  |cons a l=>rw[bH,PyData.eqvAll];rfl
 rw[ee]
 have pG:∀{G:Hp} {c':Int},cQ G k c'->dY k J5 G->c'<=c4+1->wH t0 t1 D [some (.ref k),some (.ref ow),some (.int w),some (.ref L),some (.str x),some (.ref t),v6,some (.ref L1),some (.ref r4),v9] G:=fun{G c'} dG kG lG=>go D mu H1 G k r4 _ _ _ _ _ _ _ _ c c' pc dG (by omega) (by omega) (Y7.trans (s5.keep.trans kG)) (Hi dG (Y7.trans (s5.keep.trans kG))) ((hP.same s5).up (kx d5 kG)) oP cP fin
 by_cases e0:S.rows=[]
 ·refine ite_no (by rw[e0];decide) ?_
  refine ite_no (by decide) ?_
  exact pG d5 (dY.refl _ _) (by omega)
 ·have aaf:0<S.rows.length:=List.length_pos_iff.mpr e0
  refine ite_yes (by simp[e0]) ?_
  refine⟨_,rfl,k,c4,3,rfl,d5,by omega,by decide,by decide,fun r6 c6 J6 k6 d6 e6 g6 l6=>?_⟩
  refine⟨_,_,rfl,rfl,_,rfl,?_⟩
  refine eG (fun q=>?_) (fun q=>pG d6 k6 e6)
  have hy6:=k6 _ _ Y6 hy5
  refine⟨_,rfl,_,rfl,_,rfl,_,rfl,L1,ys,rfl,.inl (cS.of hy6),k,c6,_,rfl,d6,by omega,by omega,by omega,fun r7 c7 J7 k7 d7 e7 g7 l7=>?_⟩
  have hrl:r7.toNat<S.rows.length:=by omega
  obtain⟨u,eu,rp,rfl,hrp⟩:=ez py5 r7.toNat hrl
  have Eu:qT ys r7=some (.ref rp):=by
   unfold qT JQ
   rw[aP g7,aP (by omega)]
   exact eu
  have t57:Tk J5 J7:=(kx d5 k6).trans (kx d6 k7)
  have ro:=sS.rows _ (cA hrl)
  refine⟨L1,ys,r7,.ref rp,rfl,rfl,cS.of (k7 _ _ Y6 hy6),Eu,k,rp,c7,_,rfl,d7,by omega,hrp.up t57,ro.1,ro.2,fun t8 p8 m8 y8 c8 J8 k8 d8 e8 hP8 oP8 x8=>?_⟩
  have k08:=Y7.trans (s5.keep.trans (k6.trans (k7.trans k8)))
  exact go D mu H1 J8 k t8 _ _ _ _ _ _ _ _ c c8 p8 d8 (by omega) (by omega) k08 (Hi d8 k08) hP8 oP8 (x8.S1 ro.2) fin
def CS:Sp:=fun vs H Q _=>∃(k ow ra pa pl ll:ah) (us:List V) (S:Cs) (m:Nat) (c:Int) (mu:List ah),vs=[.ref k,.ref ow]/\cQ H k c/\c<=4000/\H ow=some (.dK (iX ra pa S.n pl ll))/\H pa=some (.lst us)/\Paired (jE H) us S.rows/\St S m/\m<=31/\k≠pa/\(∀x∈mu,∃o,H x=some o)/\
 ∀t De c' H',dY k H H'->cQ H' k c'->c'<=c+300->kg mu H' t De->Q (.ref t) H'
def LY {f:ah}{fd:FuncData}(F:iV K "_law_deed" "_law_deed" gf f fd) (T:Txt mg) (DP:Df P w K mg base 1 "_law_pick" ["deck","many"] gM) (DW:Df P w K mg base 2 "_law_weight" ["deck"] OC) (DC:Df P w K mg base 2 "_law_piece" ["deck","names"] OK) (DX:Df P w K mg base 2 "_law_exchanged" ["deck","piece"] P6):dO P w K mg base fO 4 f fd ["deck","own"] CS:=by
 refine F.ok kR (fun vs H Q E h=>?_) (fun cdv A outer s H vs Q E hr h=>?_)
 ·obtain⟨k,ow,ra,pa,pl,ll,us,S,m,c,mu,rfl,_⟩:=h
  rfl
 ·obtain⟨k,ow,ra,pa,pl,ll,us,S,m,c,mu,rfl,dk,c4,hd,wk,pr,sS,F3,nk,st,hQ⟩:=h
  obtain⟨r0,r1,r2,r3,t0,t1,t2,t3,e0,e1,e2,e3,p0,p1,p2,p3,Y8⟩:=dd0 (outer:=outer) (s:=s) (H:=H) (E:=E) hr DP DW
  obtain⟨r4,t4,e4,p4,Y9⟩:=dd4 (outer:=outer) (s:=s) (H:=H) (E:=E) hr DP T
  obtain⟨r5,t5,e5,p5,Y_⟩:=dd5 (outer:=outer) (s:=s) (H:=H) (E:=E) hr DP T
  obtain⟨r6,t6,e6,p6,Za⟩:=dd6 (outer:=outer) (s:=s) (H:=H) (E:=E) hr DP T
  obtain⟨r7,t7,e7,p7,go7⟩:=dd7 (outer:=outer) (s:=s) (H:=H) (E:=E) hr DP T DC DX
  obtain⟨r8,t8,e8,p8,go8⟩:=dd8 (outer:=outer) (s:=s) (H:=H) (E:=E) hr DP T
  obtain⟨r9,t9,e9,p9,go9⟩:=dd9 (outer:=outer) (s:=s) (H:=H) (E:=E) hr DP T
  have be:=QF
  rw[e0,e1,e2,e3,e4,e5,e6,e7,e8,e9] at be
  refine⟨_,by rw[be];exact ar p0 (ar p1 (ar p2 (ar p3 (ar p4 (ar p5 (ar p6 (ar p7 (ar p8 (aE p9))))))))),?_⟩
  refine Y8 _ _ H k _ _ _ _ _ _ _ _ _ c dk (by omega) fun w L x t y i c1 H1 w0 w18 k1 l1 nL F4=>?_
  have nw:ow≠k:=fun z=>by
   obtain⟨⟨_,_,q,_⟩,_⟩:=dk;rw[z,q] at hd;cases hd
  have hd1:=k1 _ _ nw hd
  have Zb:=kx dk k1
  have Qu:=k1 _ _ (cF nk) wk
  have VP:=au pr fun _ _ z=>z.up Zb
  have VL:∀x∈mu,∃o,H1 x=some o:=fun x hx=>by
   obtain⟨o,ho⟩:=st x hx
   by_cases e:x=k
   ·rw[e];exact F4.dk.some
   ·exact⟨o,k1 _ _ e ho⟩
  have og:∀G,a_ H1 G->gZ G ow (kV (.inr "pieces")) (some (.ref pa))/\gZ G ow (kV (.inr "count")) (some (.int S.n)):=fun G sG=>by
   have a:=gZ.k (k:=.inr "pieces") (sG _ _ hd1)
   have b:=gZ.k (k:=.inr "count") (sG _ _ hd1)
   rw[vX] at a
   rw[CG] at b
   exact⟨a,b⟩
  have fin:∀t De c' H2,dY k H1 H2->cQ H2 k c'->c'<=c1+200->kg mu H2 t De->Q (.ref t) H2:=fun t De c' H2 k2 d2 l2 dK=>hQ t De c' H2 (k1.trans k2) d2 (by omega) dK
  refine Y9 _ mu H1 k L t _ _ _ _ _ w c1 x y i F4 (by omega) VL (fun w4=>?_) fin
  refine Y_ _ mu H1 k L t _ _ _ _ _ w c1 x y i F4 (by omega) (fun w5=>?_) fin
  refine Za _ mu H1 k L t _ _ _ _ _ w c1 x y i F4 (by omega) (fun w6=>?_) fin
  refine go7 _ mu H1 k L t _ _ _ _ w c1 x y i ow pa us S m F4 (by omega) VL og Qu VP sS F3 (fun w7=>?_) fin
  refine go8 _ mu H1 k L t _ _ _ _ w c1 x y i ow pa us S m F4 (by omega) og Qu VP sS F3 (fun w8=>?_) fin
  exact go9 _ mu H1 k L t _ _ _ _ _ w c1 x y i F4 (by omega) w8 w18 fin
end
abbrev iy:Stmt:=top 58
abbrev rE:List Str:=["script","club","own","cell","deck","told","many","last","what"]
def iY (i:Nat):Stmt:=(fu iy).getD i (.Pass ⟨0,0,0,0⟩)
def JD:fu iy=[iY 0,iY 1,iY 2,iY 3,iY 4,iY 5,iY 6]:=rfl
def rF:bV rE ["script"] (av iy):={}
def lI (i:Nat):Stmt:=match iY 2 with
 | .For _ _ b _ _=>b.getD i (.Pass ⟨0,0,0,0⟩)
 |_=>.Pass ⟨0,0,0,0⟩
def S0:Cs:=⟨[],[],0⟩
def JE (x:Nat×jO):∀l:Rows,(FR x l).length<=l.length
 | []=>aB _
 |y::ys=>by
  rw[FR,aK,cH]
  have:=JE x ys
  have:(yO x.1 y.1 (vS x.2 y.2)).length<=1:=by cases vS x.2 y.2<;>simp[yO]
  omega
def JF:∀(l:Rows) (n:Nat),l.length<=n->(ub l).length<=n*l.length
 | [],n,_=>by simp[ub]
 |x::xs,n,h=>by
  rw[ub,aK,cH,Nat.mul_succ]
  rw[cH] at h
  have:=JE x xs
  have:=JF xs n (by omega)
  omega
def oV (sts:List Cs) (S:Cs) (cx:List Cs):List Cs:=sts++ [S]++cx.reverse
structure WI (n:Nat) (L:List Cs):Prop where
 all:∀T∈L,St T n
 len:L.length<=n+1
def rG (sts:List Cs) (S:Cs) (cx:List Cs):(oV sts S cx).length=sts.length+1+cx.length:=by unfold oV;simp;omega
def WI.s {n:Nat}{sts cx:List Cs}{S:Cs}(h:WI n (oV sts S cx)):St S n:=h.all S (by unfold oV;simp)
def WI.ok {n:Nat}{sts cx:List Cs}{S:Cs}(h:WI n (oV sts S cx)) (hn:n<=31):(∀T∈sts,Qi T)/\(∀T∈cx,Qi T)/\sts.length<=31/\cx.length<=31:=by
 have l:=h.len
 rw[rG] at l
 exact⟨fun T hT=>(h.all T (by unfold oV;simp[hT])).sok (by omega),fun T hT=>(h.all T (by unfold oV;simp[hT])).sok (by omega),by omega,by omega⟩
def WI.mono {n n':Nat}{L:List Cs}(h:WI n L) (l:n<=n'):WI n' L:=⟨fun T hT=>(h.all T hT).mono l,by have:=h.len;omega⟩
def WI.stp {n:Nat}{D:nF}{sts cx fw fi:List Cs}{S S':Cs}{o:Str⊕Option Nat}(h:WI n (oV sts S cx)) (p:AL D sts S cx o fw S' fi):WI (n+1) (oV fw S' fi):=by
 cases p with
 |no l=>exact h.mono (dE _)
 |st l=>
  refine⟨fun T hT=>?_,?_⟩
  ·unfold oV at hT
   rw[List.reverse_nil,eJ] at hT
   rcases c_.mp hT with z|z
   ·exact(h.all T (by unfold oV;exact ju _ z)).mono (dE _)
   ·rw[bU.mp z];exact l.ok h.s
  ·have:=h.len
   rw[rG] at this⊢
   simp only[aK,aG,iP]
   omega
 |b0=>exact h.mono (dE _)
 |a0=>exact h.mono (dE _)
 |b=>have:=h.mono (dE n);unfold oV at*;simpa using this
 |a=>have:=h.mono (dE n);unfold oV at*;simpa using this
def LZ {sts cx fw fi:List Cs}{S S':Cs}(h:oV fw S' fi=oV sts S cx) (l:fw.length=sts.length):fw=sts/\S'=S/\fi=cx:=by
 unfold oV at h
 rw[gS,gS] at h
 obtain⟨h1,h2⟩:=List.append_inj h l
 rw[List.singleton_append,List.singleton_append] at h2
 obtain⟨h3,h4⟩:=List.cons.inj h2
 exact⟨h1,h3,by simpa using iM List.reverse h4⟩
def JG (sts:List Cs) (S:Cs) (cx:List Cs):∃o fw S' fi,AL .back sts S cx o fw S' fi/\oV fw S' fi=oV sts S cx/\fw.length=sts.length-1:=by
 rcases uy sts with rfl|⟨s',T,rfl⟩
 ·exact⟨_,_,_,_,.b0,rfl,rfl⟩
 ·exact⟨_,_,_,_,.b,by unfold oV;simp,by simp⟩
def Gc (sts:List Cs) (S:Cs) (cx:List Cs) (h:0<cx.length):∃o fw S' fi,AL .again sts S cx o fw S' fi/\oV fw S' fi=oV sts S cx/\fw.length=sts.length+1:=by
 rcases uy cx with rfl|⟨s',T,rfl⟩
 ·exact absurd h (by decide)
 ·exact⟨_,_,_,_,.a,by unfold oV;simp,by simp⟩
abbrev mX (ow pl ll cb sl lc:ah):List ah:=[ow,pl,ll,cb,sl,lc]
def uD {H:Hp}{cb sl lc iL ow pl ll x:ah}{o:HO}(h:H x=some o) (n:x∉mX ow pl ll cb sl lc) (f:iL=lc\/H iL=none):x∉mX ow pl ll cb sl iL:=fun z=>by
 rcases f with e|e
 ·rw[e] at z;exact n z
 ·simp only[aC,aM,cz,tT] at z n
  rcases z with z|z|z|z|z|z
  ·exact n.1 z
  ·exact n.2.1 z
  ·exact n.2.2.1 z
  ·exact n.2.2.2.1 z
  ·exact n.2.2.2.2.1 z
  ·rw[z,e] at h;cases h
structure Lw (C:ah) (H:Hp) (cb sl lc ow pl ll:ah) (sts:List Cs) (S:Cs) (cx:List Cs) (p:ah) (xs:List V) (n:Nat):Prop where
 wd:Wd C H cb sl lc ow pl ll sts S cx
 hp:H p=some (.lst xs)
 mp:p∉mX ow pl ll cb sl lc
 wi:WI n (oV sts S cx)
section
variable {C:ah}{H H':Hp}{cb sl lc iL ow pl ll:ah}{sts fw:List Cs}{S S':Cs}{cx fi:List Cs}{p:ah}{xs:List V}{n n':Nat}
def Lw.same (h:Lw C H cb sl lc ow pl ll sts S cx p xs n) (s:a_ H H'):Lw C H' cb sl lc ow pl ll sts S cx p xs n:=⟨h.wd.same s,s _ _ h.hp,h.mp,h.wi⟩
def Lw.step (h:Lw C H cb sl lc ow pl ll sts S cx p xs n) (kp:nM (mX ow pl ll cb sl lc) H H') (f:iL=lc\/H iL=none) (W:Wd C H' cb sl iL ow pl ll fw S' fi) (wi:WI n' (oV fw S' fi)):Lw C H' cb sl iL ow pl ll fw S' fi p xs n':=⟨W,kp _ _ h.mp h.hp,uD h.hp h.mp f,wi⟩
def Wd.new (W:Wd C H cb sl lc ow pl ll sts S cx) {p:ah}(n:H p=none):p∉mX ow pl ll cb sl lc:=fun z=>by
 obtain⟨o,e⟩:=W.Ju p z
 rw[n] at e;cases e
end
def kS (mu:List ah) (H:Hp) (tl:ah) (S:Cs):Prop:=∃ra pa,H tl=some (.tup [.ref ra,.ref pa])/\Ji mu H ra pa S
def kS.step {H H':Hp}{cb sl lc iL ow pl ll tl:ah}{S:Cs}(h:kS (mX ow pl ll cb sl lc) H tl S) (kp:nM (mX ow pl ll cb sl lc) H H') (tk:Tk H H') (f:iL=lc\/H iL=none):kS (mX ow pl ll cb sl iL) H' tl S:=by
 obtain⟨ra,pa,h1,ws,us,m2,m3,h3,h4,h5,h6⟩:=h
 exact⟨ra,pa,tk _ _ h1,ws,us,uD h3 m2 f,uD h5 m3 f,kp _ _ m2 h3,au h4 fun _ _ z=>z.up tk,kp _ _ m3 h5,au h6 fun _ _ z=>z.up tk⟩
def JH (S:Cs):PyData:=.tuple [.list (S.bo.map qp),.list (S.rows.map IT)]
def L7 (S:Cs):PyData.eqv (JH S) (JH S)=true:=by
 unfold JH
 rw[PyData.eqv,PyData.eqvAll,PyData.eqvAll,PyData.eqvAll,oN yZ,oN IV];simp
def Ew {S:Cs}(h:vV S):Lay (JH S):=by
 refine(Bd.tuple (n:=200101) (p:=17) (m:=2) (ds:=[.list (S.bo.map qp),.list (S.rows.map IT)]) (fun x hx=>?_) (aB 2)).lay (by decide)
 simp only[aC,aM,cz] at hx
 rcases hx with rfl|rfl
 ·exact(y4 h.bo (bh h.lc (by decide))).mono (by decide) (by decide)
 ·exact y6 h.rows h.num (bh h.lr (by decide))
def Ex {mu:List ah}{H:Hp}{tl:ah}{S:Cs}(h:kS mu H tl S):qE H (JH S) (.ref tl):=by
 obtain⟨ra,pa,h1,ws,us,m2,m3,h3,h4,h5,h6⟩:=h
 exact fT h1 (aU (eX h3 (eF qr h4)) (aU (eX h5 (eF sU h6)) dI))
section
variable {P:aF}{w:ba}{K:Frag}{mg:Str->Option af}{base:Heap}
def VQ (P:aF) (w:ba) (K:Frag) (mg:Str->Option af) (base:Heap) (C:ah):Prop:=∃f fd,Mk K C f/\dO P w K mg base fO 1 f fd ["self"] (Cu C)/\Binds K fd ["self"] []/\mg "Club"=some (.ref C)
def L8 {X:Cx}{C:ah}{p pos:Pos}(D:VQ X.prog X.w X.K X.mg X.base C) (hr:eK 2 X.A) (hg:Gl X "Club":=by rfl):PE X (.Call (.Name "Club" p) [] [] pos) (Mq C (Cu C) [] E0 fD):=by
 obtain⟨f,fd,M,F,b,m⟩:=D
 exact GW M F hr hg m b .nil zK
def QI {X:Cx}{k:Nat}{x:Str}{sp:Sp}{p pos:Pos}(D:Df X.prog X.w X.K X.mg X.base k x [] sp) (hr:eK k X.A) (hg:Gl X x:=by rfl) (pX:(x==("__debug__":Str))=false:=by decide):PE X (.Call (.Name x p) [] [] pos) (mq sp [] E0 fD):=by
 obtain⟨f,fd,F,b,kp,m⟩:=D
 exact GS F hr hg m kp b .nil zK pX
def lw0 {f:ah}{cdv:af}{A:aQ}{outer:List Env}{s:ai}{H:Hp}{E:XK}{C:ah}(hr:eK 7 (A.deeper (PyProof.Rows.envOfC "law" (av iy) s.heap.objs.size f cdv))) (DC:VQ P w K mg base C):∃r t,iY 0=r/\PS ((eU fO P w K mg base rE "law" (av iy) f cdv A outer s H E).kF) r t/\∀(D:Ends) (H1:Hp) (v0 v1 v2 v3 v4 v5 v6 v7 v8:Option V),(∀cb sl lc H2,a_ H1 H2->eW C H2 cb sl lc ([]++ [S0]) []->D.nx [v0,some (.ref cb),v2,v3,v4,v5,v6,v7,v8] H2)->t D [v0,v1,v2,v3,v4,v5,v6,v7,v8] H1:=by
 refine⟨_,_,rfl,jX (i:=1) rF.nd (L8 DC (hr.mono (by decide))),?_⟩
 intro D H1 v0 v1 v2 v3 v4 v5 v6 v7 v8 nx
 intro cb dx hc hd nd
 refine⟨cb,dx,rfl,az,fun sl lc H2 k2 Vu Gm g1=>⟨rfl,?_⟩⟩
 have u:∀b o,H1 b=some o->upd (upd H1 dx (.own cb)) cb (.ins C dx []) b=some o:=fun b o e=>by
  rw[aV (gO e hc),aV (gO e hd)];exact e
 exact nx cb sl lc H2 (fun b o e=>k2 _ _ (gO e hc) (u _ _ e)) g1
def lw1 {f:ah}{cdv:af}{A:aQ}{outer:List Env}{s:ai}{H:Hp}{E:XK}{C:ah}(hr:eK 7 (A.deeper (PyProof.Rows.envOfC "law" (av iy) s.heap.objs.size f cdv))) (DO:Df P w K mg base 1 "_law_club" [] Jv):∃r t,iY 1=r/\PS ((eU fO P w K mg base rE "law" (av iy) f cdv A outer s H E).kF) r t/\∀(D:Ends) (H1:Hp) (v0 v2 v3 v4 v5 v6 v7 v8:Option V) (cb sl lc:ah),eW C H1 cb sl lc ([]++ [S0]) []->(∀ow pl ll H2,a_ H1 H2->Wd C H2 cb sl lc ow pl ll [] S0 []->D.nx [v0,some (.ref cb),some (.ref ow),v3,v4,v5,v6,v7,v8] H2)->t D [v0,some (.ref cb),v2,v3,v4,v5,v6,v7,v8] H1:=by
 refine⟨_,_,rfl,jX (i:=2) rF.nd (QI DO (hr.mono (by decide))),?_⟩
 intro D H1 v0 v2 v3 v4 v5 v6 v7 v8 cb sl lc cl nx
 refine⟨rfl,fun ow ra pa pl ll H2 N=>?_⟩
 obtain⟨⟨_,_,j1⟩,⟨_,j2⟩,⟨_,j3⟩⟩:=cl.kinds
 obtain⟨n1,n2,n3,n4,n5⟩:=N.no
 obtain⟨m1,m2,m3,m4,m5⟩:=N.ne
 have mem:∀{x:ah},H1 x=none->H2 x=some (.lst [])->x≠pl->x≠ll->x∉ [ow,pl,ll,cb,sl,lc]:=fun{x} e0 e1 e2 e3=>by
  simp only[aC,aM,cz,tT]
  exact⟨(kQ N.d e1).symm,e2,e3,(gO j1 e0).symm,(gO j2 e0).symm,(gO j3 e0).symm⟩
 exact nx ow pl ll H2 N.s ⟨cl.same N.s,⟨ra,pa,[],[],N.d,⟨[],[],mem n2 N.Es m2 m3,mem n3 N.wk m4 m5,N.Es,.nil,N.wk,.nil⟩,N.jZ,.nil,N.ni,.nil⟩,m1,(gO j2 n4).symm,(gO j3 n4).symm,(gO j2 n5).symm,(gO j3 n5).symm⟩
def lb0 {f:ah}{cdv:af}{A:aQ}{outer:List Env}{s:ai}{H:Hp}{E:XK}{C:ah}(hr:eK 7 (A.deeper (PyProof.Rows.envOfC "law" (av iy) s.heap.objs.size f cdv))) (DK:Df P w K mg base 1 "_law_deck" ["cell","turn"] B9):∃r t,lI 0=r/\PS ((eU fO P w K mg base rE "law" (av iy) f cdv A outer s H E).kF) r t/\∀(D:Ends) (H1:Hp) (v0 v1 v2 v4 v5 v6 v7 v8:Option V) (cell:Int),(∀k H2,H1 k=none->a_ H1 H2->cQ H2 k 510->D.nx [v0,v1,v2,some (.int cell),some (.ref k),v5,v6,v7,v8] H2)->t D [v0,v1,v2,some (.int cell),v4,v5,v6,v7,v8] H1:=by
 refine⟨_,_,rfl,jX (i:=4) rF.nd (cB DK (hr.mono (by decide)) (ae (pv 3) (ae ao aj))),?_⟩
 intro D H1 v0 v1 v2 v4 v5 v6 v7 v8 cell nx
 exact⟨_,rfl,cell,510,rfl,by decide,fun k H2 h1 h2 h3=>nx k H2 h1 h2 h3⟩
def lb1 {f:ah}{cdv:af}{A:aQ}{outer:List Env}{s:ai}{H:Hp}{E:XK}{C:ah}(hr:eK 7 (A.deeper (PyProof.Rows.envOfC "law" (av iy) s.heap.objs.size f cdv))) (DE:Df P w K mg base 4 "_law_deed" ["deck","own"] CS) (DR:Df P w K mg base 6 "_law_deed_right" ["own","club","what"] (LV C)):∃r t,lI 1=r/\PS ((eU fO P w K mg base rE "law" (av iy) f cdv A outer s H E).kF) r t/\∀(D:Ends) (H0 H1:Hp) (v0 v3 v5 v6 v7 v8:Option V) (k:ah) (cb sl lc ow pl ll p:ah) (sts:List Cs) (S:Cs) (cx:List Cs) (xs:List V) (n:Nat),Lw C H0 cb sl lc ow pl ll sts S cx p xs n->n<=30->H0 k=none->a_ H0 H1->cQ H1 k 510->(∀iL fw S' fi H2,Lw C H2 cb sl iL ow pl ll fw S' fi p xs (n+1)->D.nx [v0,some (.ref cb),some (.ref ow),v3,some (.ref k),v5,v6,v7,v8] H2)->t D [v0,some (.ref cb),some (.ref ow),v3,some (.ref k),v5,v6,v7,v8] H1:=by
 refine⟨_,_,rfl,cN (fJ (fG (cB DR (hr.mono (by decide)) (ae (pv 2) (ae (pv 1) (ae (cB DE (hr.mono (by decide)) (ae (pv 4) (ae (pv 2) aj))) aj)))))) mh bL,?_⟩
 intro D H0 H1 v0 v3 v5 v6 v7 v8 k cb sl lc ow pl ll p sts S cx xs n L hn hk s1 dk nx
 obtain⟨ra,pa,vs,ws,O⟩:=L.wd.own
 obtain⟨qo,Nf,_,_,a3,a4,a5,a6⟩:=O.now
 have st0:=L.wd.Ju
 refine⟨_,rfl,_,rfl,_,rfl,_,rfl,k,ow,ra,pa,pl,ll,Nf,S,n,510,[ow,pl,ll,cb,sl,lc],rfl,dk,by decide,s1 _ _ O.d,s1 _ _ a5,au a6 fun _ _ z=>z.up (eP s1),L.wi.s,by omega,(gO a5 hk).symm,fun x hx=>(st0 x hx).imp fun o e=>s1 _ _ e,fun t De c' H2 k2 d2 _ dK=>?_⟩
 have s2:a_ H0 H2:=fun x o e=>k2 _ _ (gO e hk) (s1 _ _ e)
 have L2:=L.same s2
 obtain⟨o,fw,S',fi,sp⟩:=LO (sts:=sts) (S:=S) (cx:=cx) (dK H2 nM.refl (fun _ _ e=>e)) L.wi.s.lc
 obtain⟨Gq,Gr,l1,l2⟩:=L.wi.ok (by omega)
 refine⟨cb,sl,lc,ow,pl,ll,t,_,sts,S,cx,De,n,o,fw,S',fi,rfl,L2.wd,Gq,Gr,by omega,by omega,dK,by simp,L.wi.s,by omega,sp,fun iL H3 k3 t3 f3 W3=>⟨_,rfl,?_⟩⟩
 refine ite_no (by decide) ?_
 exact nx iL fw S' fi H3 (L2.step k3 f3 W3 (L.wi.stp sp))
def lb2 {f:ah}{cdv:af}{A:aQ}{outer:List Env}{s:ai}{H:Hp}{E:XK}{C:ah}(hr:eK 7 (A.deeper (PyProof.Rows.envOfC "law" (av iy) s.heap.objs.size f cdv))) (DR:yH P w K mg base 1 C "rowers" ["self"] (vR C)) (DI:yH P w K mg base 1 C "pieces" ["self"] (AB C)) (DT:yH P w K mg base 5 C "trials" ["self"] (Ef C)):∃r t,lI 2=r/\PS ((eU fO P w K mg base rE "law" (av iy) f cdv A outer s H E).kF) r t/\∀(D:Ends) (H1:Hp) (v0 v2 v3 v4 v5 v6 v7 v8:Option V) (cb sl lc ow pl ll p:ah) (sts:List Cs) (S:Cs) (cx:List Cs) (xs:List V) (n:Nat),Lw C H1 cb sl lc ow pl ll sts S cx p xs n->n<=31->(∀Zc H2,a_ H1 H2->D.nx [v0,some (.ref cb),v2,v3,v4,Zc,v6,v7,v8] H2)->t D [v0,some (.ref cb),v2,v3,v4,v5,v6,v7,v8] H1:=by
 refine⟨_,_,rfl,lN eR rfl (h_ (bO (ae (oM DR (hr.mono (by decide)) (pv 1)) (ae (oM DI (hr.mono (by decide)) (pv 1)) (ae (oM DT (hr.mono (by decide)) (pv 1)) aj))))) (aZ (i:=5) rF.nd) (aE (gs (pP cw d_ ef gw (pv 5) (ae iT aj)))),?_⟩
 intro D H1 v0 v2 v3 v4 v5 v6 v7 v8 cb sl lc ow pl ll p sts S cx xs n L hn nx
 have cl:=L.wd.cl
 obtain⟨dx,_,_,c1,_⟩:=id cl
 have sS:=L.wi.s
 have lr:=sS.lr
 have l8:=sS.lc
 refine⟨_,rfl,cb,dx,_,rfl,c1,rfl,cb,sl,lc,S,sts,cx,rfl,cl,fun p1 u1 Il VP=>?_⟩
 have lu1:=bQ VP
 exists Il,.lst u1,H1,p1,s2,w2,H2
 refine⟨_,rfl,cb,dx,_,rfl,s2 _ _ c1,rfl,cb,sl,lc,S,sts,cx,rfl,cl.same s2,fun p2 u2 Og pr2=>?_⟩
 have lu2:=bQ pr2
 exists Og,.lst u2,H2,p2,s3,w3,H3
 have s13:=s2.trans s3
 refine⟨_,rfl,cb,dx,_,rfl,s13 _ _ c1,rfl,cb,sl,lc,S.rows,S,sts,cx,rfl,cl.same s13,rfl,sS.rows,by omega,fun p3 u3 H4 VJ s4 w4 pr3=>?_⟩
 have lu3:=bQ pr3
 have Iy:=s13.trans s4
 refine⟨dF,fun tz htz=>?_⟩
 exists htz,.tup [.ref p1,.ref p2,.ref p3],H4,tz,s5,w5,H5
 have Zd:=Iy.trans s5
 have n2:=cJ s2 Og
 have n3:=cJ s13 VJ
 have al:(ub S.rows).length<=31*31:=bh (JF S.rows 31 (by omega)) (xU _ (by omega))
 refine⟨tz,rfl,⟨_,bY.of w5⟩,ya (K:=K) (a:=tz) (xs:=[.ref p1,.ref p2,.ref p3]) (fun i bW H'=>∃Zc,bW=[v0,some (.ref cb),v2,v3,v4,Zc,v6,v7,v8]/\a_ H1 H'/\H' tz=some (.tup [.ref p1,.ref p2,.ref p3])/\∀q∈[p1,p2,p3],∃us,H' q=some (.lst us)/\us.length<=990+i) ⟨_,rfl,Zd,w5,fun q hq=>?_⟩ (fun i bW H' _ h=>by obtain⟨_,_,_,e,_⟩:=h;exact bY.of e) ?_ ?_⟩
 ·simp only[aC,aM,cz] at hq
  rcases hq with rfl|rfl|rfl
  ·exact⟨u1,s5 _ _ (s4 _ _ (s3 _ _ w2)),by omega⟩
  ·exact⟨u2,s5 _ _ (s4 _ _ w3),by omega⟩
  ·exact⟨u3,s5 _ _ w4,by omega⟩
 ·rintro i y bW H6 hi ⟨w5',rfl,s6,TB,h6⟩
  have hy:∃q,y=.ref q/\q∈[p1,p2,p3]/\H1 q=none:=by
   have:=mG hi
   simp only[aC,aM,cz] at this
   rcases this with rfl|rfl|rfl
   ·exact⟨p1,rfl,by simp,Il⟩
   ·exact⟨p2,rfl,by simp,n2⟩
   ·exact⟨p3,rfl,by simp,n3⟩
  obtain⟨q,rfl,hq,nq⟩:=hy
  obtain⟨us,e6,l6⟩:=h6 q hq
  have hi3:i<3:=(bw.mp hi).1
  refine⟨_,rfl,.inl ⟨rfl,_,cS.of e6⟩,q,us,.eA,rfl,rfl,e6,dq (by omega),?_⟩
  refine⟨_,rfl,fun x o e=>by rw[aV (gO e nq)];exact s6 _ _ e,by rw[aV (fun z=>by rw[z,e6] at TB;cases TB)];exact TB,fun q' EY=>?_⟩
  by_cases e:q'=q
  ·rw[e];exact⟨_,az,by rw[aK,aG];omega⟩
  ·obtain⟨ng,e7,l7⟩:=h6 q' EY
   exact⟨ng,by rw[aV e];exact e7,by omega⟩
 ·rintro bW H6 ⟨w5',rfl,s6,_⟩
  exact nx _ H6 s6
def lb3 {f:ah}{cdv:af}{A:aQ}{outer:List Env}{s:ai}{H:Hp}{E:XK}{C:ah}(hr:eK 7 (A.deeper (PyProof.Rows.envOfC "law" (av iy) s.heap.objs.size f cdv))) (DS:Df P w K mg base 6 "_law_stands_right" ["own","club"] (Js C)):∃r t,lI 3=r/\PS ((eU fO P w K mg base rE "law" (av iy) f cdv A outer s H E).kF) r t/\∀(D:Ends) (H1:Hp) (v0 v3 v4 v5 v6 v7 v8:Option V) (cb sl lc ow pl ll p:ah) (sts:List Cs) (S:Cs) (cx:List Cs) (xs:List V) (n:Nat),Lw C H1 cb sl lc ow pl ll sts S cx p xs n->n<=31->(∀H2,a_ H1 H2->D.nx [v0,some (.ref cb),some (.ref ow),v3,v4,v5,v6,v7,v8] H2)->t D [v0,some (.ref cb),some (.ref ow),v3,v4,v5,v6,v7,v8] H1:=by
 refine⟨_,_,rfl,cN (fJ (fG (cB DS (hr.mono (by decide)) (ae (pv 2) (ae (pv 1) aj))))) mh bL,?_⟩
 intro D H1 v0 v3 v4 v5 v6 v7 v8 cb sl lc ow pl ll p sts S cx xs n L hn nx
 refine⟨_,rfl,_,rfl,cb,sl,lc,ow,pl,ll,sts,S,cx,n,rfl,L.wd,L.wi.s,hn,fun H2 s2=>⟨_,rfl,?_⟩⟩
 exact ite_no (by decide) (nx H2 s2)
end
def wcd_mk {K:Frag}{C:ah}{cd:ClassData}(h:clsIn K C=some cd) (h2:cd.hasDict=true) (h3:∀self:af,refuseLoop self "__setattr__" cd.mro=pure ()):∃cd,clsIn K C=some cd/\cd.hasDict=true/\∀self:af,refuseLoop self "__setattr__" cd.mro=pure ():=⟨cd,h,h2,h3⟩
section
variable {P:aF}{w:ba}{K:Frag}{mg:Str->Option af}{base:Heap}
def qv {mu:List ah}{G:Hp}{ow ra pa pl ll:ah}{vs ws:List V}{sts:List Cs}{S:Cs}{cx:List Cs}(O:mC mu G ow ra pa pl ll vs ws sts S cx):gZ G ow (kV (.inr "rowers")) (some (.ref ra))/\gZ G ow (kV (.inr "pieces")) (some (.ref pa))/\gZ G ow (kV (.inr "past")) (some (.ref pl)):=by
 have a:=gZ.k (k:=.inr "rowers") O.d
 have b:=gZ.k (k:=.inr "pieces") O.d
 have c:=gZ.k (k:=.inr "past") O.d
 rw[za] at a
 rw[vX] at b
 rw[oQ] at c
 exact⟨a,b,c⟩
def lw3 {f:ah}{cdv:af}{A:aQ}{outer:List Env}{s:ai}{H:Hp}{E:XK}{C:ah}(hr:eK 7 (A.deeper (PyProof.Rows.envOfC "law" (av iy) s.heap.objs.size f cdv))) (T:Txt mg):∃r t,iY 3=r/\PS ((eU fO P w K mg base rE "law" (av iy) f cdv A outer s H E).kF) r t/\∀(D:Ends) (H1:Hp) (v0 v1 v3 v4 v5 v6 v7 v8:Option V) (cb sl lc ow pl ll:ah) (sts:List Cs) (S:Cs) (cx:List Cs),Wd C H1 cb sl lc ow pl ll sts S cx->D.nx [v0,v1,some (.ref ow),v3,v4,v5,some (.int sts.length),v7,v8] H1->t D [v0,v1,some (.ref ow),v3,v4,v5,v6,v7,v8] H1:=by
 have hu:=cR (eS (by decide:1<=64) _) hr.units
 refine⟨_,_,rfl,jX (i:=6) rF.nd (aR bM rfl T.len bB (ae (eB hu (pv 2) aW) aj)),?_⟩
 intro D H1 v0 v1 v3 v4 v5 v6 v7 v8 cb sl lc ow pl ll sts S cx W nx
 obtain⟨ra,pa,vs,ws,O⟩:=W.own
 have lu:=bQ O.pp
 rw[<-lu] at nx
 exact⟨_,rfl,ow,_,rfl,(qv O).2.2,pl,vs,rfl,.inl (cS.of O.jZ),nx⟩
def lw4 {f:ah}{cdv:af}{A:aQ}{outer:List Env}{s:ai}{H:Hp}{E:XK}{C:ah}(hr:eK 7 (A.deeper (PyProof.Rows.envOfC "law" (av iy) s.heap.objs.size f cdv))):∃r t,iY 4=r/\PS ((eU fO P w K mg base rE "law" (av iy) f cdv A outer s H E).kF) r t/\∀(D:Ends) (H1:Hp) (v0 v1 v3 v4 v5 v6 v7 v8:Option V) (cb sl lc ow pl ll:ah) (sts:List Cs) (S:Cs) (cx:List Cs),Wd C H1 cb sl lc ow pl ll sts S cx->(∀tl H2,a_ H1 H2->kS (mX ow pl ll cb sl lc) H2 tl S->D.nx [v0,v1,some (.ref ow),v3,v4,v5,v6,some (.ref tl),v8] H2)->t D [v0,v1,some (.ref ow),v3,v4,v5,v6,v7,v8] H1:=by
 have hu:=cR (eS (by decide:1<=64) _) hr.units
 refine⟨_,_,rfl,jX (i:=7) rF.nd (bO (ae (eB hu (pv 2) aW) (ae (eB hu (pv 2) aW) aj))),?_⟩
 intro D H1 v0 v1 v3 v4 v5 v6 v7 v8 cb sl lc ow pl ll sts S cx W nx
 obtain⟨ra,pa,vs,ws,O⟩:=W.own
 refine⟨_,rfl,ow,_,rfl,(qv O).1,_,rfl,ow,_,rfl,(qv O).2.1,dF,fun tl htl=>?_⟩
 have s2:=aN htl (.tup [.ref ra,.ref pa])
 exact nx tl _ s2 ⟨ra,pa,az,O.now.kp (fR s2) (eP s2)⟩
def lw5 {f:ah}{cdv:af}{A:aQ}{outer:List Env}{s:ai}{H:Hp}{E:XK}{C:ah}(hr:eK 7 (A.deeper (PyProof.Rows.envOfC "law" (av iy) s.heap.objs.size f cdv))) (DR:Df P w K mg base 6 "_law_deed_right" ["own","club","what"] (LV C)) (DS:Df P w K mg base 6 "_law_stands_right" ["own","club"] (Js C)):∃r t,iY 5=r/\PS ((eU fO P w K mg base rE "law" (av iy) f cdv A outer s H E).kF) r t/\∀(D:Ends) (H1:Hp) (v0 v3 v4 v5 v8:Option V) (tl:ah) (cb sl lc ow pl ll:ah) (sts:List Cs) (S:Cs) (cx:List Cs) (n:Nat),Wd C H1 cb sl lc ow pl ll sts S cx->WI n (oV sts S cx)->n<=31->kS (mX ow pl ll cb sl lc) H1 tl S->(∀UZ iL fi H2,Wd C H2 cb sl iL ow pl ll sts S fi->kS (mX ow pl ll cb sl iL) H2 tl S->D.nx [v0,some (.ref cb),some (.ref ow),v3,v4,v5,some (.int sts.length),some (.ref tl),UZ] H2)->t D [v0,some (.ref cb),some (.ref ow),v3,v4,v5,some (.int sts.length),some (.ref tl),v8] H1:=by
 have hu:=cR (eS (by decide:1<=64) _) hr.units
 refine⟨_,_,rfl,lN eR rfl (jh (bR kN (bR Hc (cW (ae (bO (ae aW aj)) aj)) (bR fX (pv 6) ao)) (bR Hc (cW (ae (bO (ae aW aj)) aj)) (pv 6)))) (aZ (i:=8) rF.nd) (ar (cN (fJ (fG (cB DR (hr.mono (by decide)) (ae (pv 2) (ae (pv 1) (ae (pv 8) aj)))))) mh bL) (aE (cN (PW.pt (Bi (br (qg hr.units) (eB hu (pv 2) aW) (cW aj) (bN _)) (Bi (br (qg hr.units) (eB hu (pv 2) aW) (cW aj) (bN _)) (C8 (fJ (fG (cB DS (hr.mono (by decide)) (ae (pv 2) (ae (pv 1) aj))))))))) mh bL))),?_⟩
 intro D H1 v0 v3 v4 v5 v8 tl cb sl lc ow pl ll sts S cx n W wi hn LA nx
 have ln:=wi.len
 rw[rG] at ln
 refine⟨dF,fun t1 h1=>?_⟩
 exists h1,.tup [.str "back"],H1,t1,s1,w1,M1
 refine⟨dF,fun t2 h2=>?_⟩
 exists h2,.lst [.ref t1],M1,t2,s2,w2,M2
 refine⟨_,rfl,_,_,rfl,rfl,t2,((sts.length:Int)+1),_,rfl,rfl,w2,by omega,by omega,by show 1*_<=sizeLine;exact eM (dq (by omega)),fun t3 h3=>?_⟩
 rw[show(((sts.length:Int)+1)).toNat=sts.length+1 by omega,Bb]
 exists h3,.lst (List.replicate (sts.length+1) (.ref t1)),M2,t3,s3,w3,M3
 refine⟨dF,fun t4 h4=>?_⟩
 exists h4,.tup [.str "again"],M3,t4,s4,w4,M4
 refine⟨dF,fun t5 h5=>?_⟩
 exists h5,.lst [.ref t4],M4,t5,s5,w5,M5
 refine⟨_,rfl,t5,(sts.length:Int),_,rfl,rfl,w5,by omega,by omega,by show 1*_<=sizeLine;exact eM (dq (by omega)),fun t6 h6=>?_⟩
 rw[show((sts.length:Int)).toNat=sts.length by omega,Bb]
 exists h6,.lst (List.replicate sts.length (.ref t4)),M5,t6,s6,w6,M6
 refine⟨t3,t6,_,_,rfl,rfl,s6 _ _ (s5 _ _ (s4 _ _ w3)),w6,eM (dq (by rw[gC,gC];omega)),fun t7 h7=>?_⟩
 generalize ey:List.replicate (sts.length+1) (V.ref t1)++List.replicate sts.length (V.ref t4)=ys at*
 exists h7,.lst ys,M6,t7,s7,w7,M7
 have VR:=s1.trans (s2.trans (s3.trans (s4.trans (s5.trans s6))))
 have U0:=VR.trans s7
 have ly:ys.length=2*sts.length+1:=by rw[<-ey];simp;omega
 have b1:M7 t1=some (.tup [.str "back"]):=(s2.trans (s3.trans (s4.trans (s5.trans (s6.trans s7))))) _ _ w1
 have b4:M7 t4=some (.tup [.str "again"]):=(s5.trans (s6.trans s7)) _ _ w4
 have m7:t7∉mX ow pl ll cb sl lc:=(W.same VR).new h7
 refine⟨t7,rfl,⟨_,cS.of w7⟩,nW (K:=K) (a:=t7) (xs:=ys) (fun i bW H'=>∃UZ iL fw S' fi,bW=[v0,some (.ref cb),some (.ref ow),v3,v4,v5,some (.int sts.length),some (.ref tl),UZ]/\Wd C H' cb sl iL ow pl ll fw S' fi/\oV fw S' fi=oV sts S cx/\fw.length=(if i<=sts.length then sts.length-i else i-(sts.length+1))/\kS (mX ow pl ll cb sl iL) H' tl S/\H' t7=some (.lst ys)/\t7∉mX ow pl ll cb sl iL/\H' t1=some (.tup [.str "back"])/\H' t4=some (.tup [.str "again"])) ⟨_,lc,sts,S,cx,rfl,W.same U0,rfl,by rw[aP (fH _)];rfl,LA.step (fR U0) (eP U0) (.inl rfl),w7,m7,b1,b4⟩ (fun i bW H' _ h=>by obtain⟨_,_,_,_,_,_,_,_,_,_,e,_⟩:=h;exact cS.of e) ?_ ?_⟩
 ·rintro i y bW H4 hi ⟨w8',VS,CV,S4,CW,rfl,W4,et,el,Ze,Zf,m4,c1,c4⟩
  have Zg:WI n (oV CV S4 CW):=by rw[et];exact wi
  obtain⟨Gq,Gr,le1,le2⟩:=Zg.ok hn
  have Zh:=iM List.length et
  rw[rG,rG] at Zh
  obtain⟨t,De,o,AS,S5,CY,rfl,dK,sp,et5,el5⟩:∃t De o AS S5 CY,y=.ref t/\kg (mX ow pl ll cb sl VS) H4 t De/\AL De CV S4 CW o AS S5 CY/\oV AS S5 CY=oV CV S4 CW/\AS.length=(if i+1<=sts.length then sts.length-(i+1) else i+1-(sts.length+1)):=by
   rw[<-ey] at hi
   by_cases nX:i<sts.length+1
   ·rw[Mf (by rw[gC];exact nX),rL,aP nX] at hi
    cases hi
    obtain⟨o,a,b,c,h1,h2,h3⟩:=JG CV S4 CW
    refine⟨t1,.back,o,a,b,c,rfl,fun G _ tG=>tG _ _ c1,h1,h2,?_⟩
    rw[aP (by omega)] at el
    rw[h3,el]
    split<;>omega
   ·rw[JX (by rw[gC];omega),rL] at hi
    split at hi
    ·rename_i hj
     rw[gC] at hj
     cases hi
     rw[aO (by omega)] at el
     obtain⟨o,a,b,c,h1,h2,h3⟩:=Gc CV S4 CW (by omega)
     refine⟨t4,.again,o,a,b,c,rfl,fun G _ tG=>tG _ _ c4,h1,h2,?_⟩
     rw[h3,el,aO (by omega)]
     omega
    ·cases hi
  refine⟨_,rfl,_,rfl,_,rfl,cb,sl,VS,ow,pl,ll,t,_,CV,S4,CW,De,n,o,AS,S5,CY,rfl,W4,Gq,Gr,by omega,by omega,dK,by simp,Zg.s,hn,sp,fun lc5 H5 k5 t5 f5 W5=>⟨_,rfl,?_⟩⟩
  refine ite_no (by decide) ?_
  have wi5:WI n (oV AS S5 CY):=by rw[et5];exact Zg
  have LA5:=Ze.step k5 t5 f5
  have hq5:=k5 _ _ m4 Zf
  have m5:=uD Zf m4 f5
  have done:∀{G:Hp},a_ H5 G->∃UZ iL fw S' fi,[v0,some (V.ref cb),some (V.ref ow),v3,v4,v5,some (V.int sts.length),some (V.ref tl),some (V.ref t)]=[v0,some (.ref cb),some (.ref ow),v3,v4,v5,some (.int sts.length),some (.ref tl),UZ]/\Wd C G cb sl iL ow pl ll fw S' fi/\oV fw S' fi=oV sts S cx/\fw.length=(if i+1<=sts.length then sts.length-(i+1) else i+1-(sts.length+1))/\kS (mX ow pl ll cb sl iL) G tl S/\G t7=some (.lst ys)/\t7∉mX ow pl ll cb sl iL/\G t1=some (.tup [.str "back"])/\G t4=some (.tup [.str "again"]):=fun{G} sG=>⟨_,lc5,AS,S5,CY,rfl,W5.same sG,et5.trans et,el5,LA5.step (fR sG) (eP sG) (.inl rfl),sG _ _ hq5,m5,sG _ _ (t5 _ _ c1),sG _ _ (t5 _ _ c4)⟩
  obtain⟨ra,pa,vs,ws,O⟩:=W5.own
  have ok:=wi5.s.ok hn
  obtain⟨qo,Nf,_,_,a3,a4,a5,a6⟩:=O.now
  refine⟨_,rfl,ow,_,rfl,(qv O).1,dF,fun q1 zP=>?_⟩
  exists zP,.lst [],H5,q1,z1,x1,G1
  have Zb:=eP z1
  obtain⟨k1,e1⟩:=(eX (z1 _ _ a3) (eF qr (au a4 fun _ _ z=>z.up Zb))).one
  obtain⟨k2,e2⟩:=(eX x1 dI).one
  refine⟨k1,k2,_,_,e1,e2,ok.PZ,pb,_,rfl,?_⟩
  refine eG (fun _=>?_) (fun _=>ite_no (by decide) (done z1))
  refine⟨_,rfl,ow,_,rfl,(qv (O.same z1)).2.1,dF,fun q2 zq=>?_⟩
  exists zq,.lst [],G1,q2,z2,x2,G2
  have z12:=z1.trans z2
  have XY:=eP z12
  obtain⟨k3,e3⟩:=(eX (z12 _ _ a5) (eF sU (au a6 fun _ _ z=>z.up XY))).one
  obtain⟨k4,e4⟩:=(eX x2 dI).one
  refine⟨k3,k4,_,_,e3,e4,ok.layR,pb,_,rfl,?_⟩
  refine eG (fun _=>?_) (fun _=>ite_no (by decide) (done z12))
  refine⟨_,rfl,_,rfl,cb,sl,lc5,ow,pl,ll,AS,S5,CY,n,rfl,W5.same z12,wi5.s,hn,fun G3 z3=>⟨_,rfl,?_⟩⟩
  exact ite_no (by decide) (done (z12.trans z3))
 ·rintro bW H4 ⟨w8',VS,CV,S4,CW,rfl,W4,et,el,Ze,Zf,m4,c1,c4⟩
  rw[aO (by omega)] at el
  obtain⟨rfl,rfl,rfl⟩:=LZ et (by omega)
  exact nx _ VS _ H4 W4 Ze
def lw6 {f:ah}{cdv:af}{A:aQ}{outer:List Env}{s:ai}{H:Hp}{E:XK}{C:ah}(hr:eK 7 (A.deeper (PyProof.Rows.envOfC "law" (av iy) s.heap.objs.size f cdv))) (DS:Df P w K mg base 6 "_law_stands_right" ["own","club"] (Js C)):∃r t,iY 6=r/\PS ((eU fO P w K mg base rE "law" (av iy) f cdv A outer s H E).kF) r t/\∀(D:Ends) (H1:Hp) (v0 v3 v4 v5 v6 v8:Option V) (tl:ah) (cb sl lc ow pl ll:ah) (sts:List Cs) (S:Cs) (cx:List Cs) (n:Nat),Wd C H1 cb sl lc ow pl ll sts S cx->St S n->n<=31->kS (mX ow pl ll cb sl lc) H1 tl S->(∀H2,D.rt (.bl true) H2)->t D [v0,some (.ref cb),some (.ref ow),v3,v4,v5,v6,some (.ref tl),v8] H1:=by
 have hu:=cR (eS (by decide:1<=64) _) hr.units
 refine⟨_,_,rfl,bF (jB (jI (qg hr.units) (pv 7) (bO (ae (eB hu (pv 2) aW) (ae (eB hu (pv 2) aW) aj))) (bN _)) (lM (cB DS (hr.mono (by decide)) (ae (pv 2) (ae (pv 1) aj))))),?_⟩
 intro D H1 v0 v3 v4 v5 v6 v8 tl cb sl lc ow pl ll sts S cx n W sS hn LA q
 obtain⟨ra,pa,vs,ws,O⟩:=W.own
 refine⟨_,rfl,_,rfl,ow,_,rfl,(qv O).1,_,rfl,ow,_,rfl,(qv O).2.1,dF,fun t2 wV=>?_⟩
 exists wV,.tup [.ref ra,.ref pa],H1,t2,s2,w2,H2
 have LB:kS (mX ow pl ll cb sl lc) H2 t2 S:=⟨ra,pa,w2,O.now.kp (fR s2) (eP s2)⟩
 have ok:=sS.ok hn
 obtain⟨k1,e1⟩:=(Ex (LA.step (fR s2) (eP s2) (.inl rfl))).one
 obtain⟨k2,e2⟩:=(Ex LB).one
 refine⟨k1,k2,_,_,e1,e2,Ew ok,Ew ok,_,rfl,?_⟩
 refine ite_yes (L7 S) ?_
 exact⟨_,rfl,_,rfl,cb,sl,lc,ow,pl,ll,sts,S,cx,n,rfl,W.same s2,sS,hn,fun H3 _=>q H3⟩
def Ey (K:Frag):Sp:=fun vs H Q _=>∃(a:ah) (ns:List Int),vs=[.ref a]/\cS K H a (ns.map V.int)/\ns.length<=63/\∀H',Q (.bl true) H'
def sq1 {t u:TS}{D:Ends}{σ:L2.St}{H:Hp}(h:t {D with nx:=u D} σ H):wH t u D σ H:=h
def QJ {xs:List V}{lo hi:Option Int}{x:V}(h:x∈iU xs lo hi):x∈xs:=by
 unfold iU at h
 exact wu (gX h)
def U1 (xs:List V):(iU xs none (some 31)).length<=31:=by
 unfold iU
 rw[fh,dB,show((31:Int))=((31:Nat):Int) from rfl,HT.lh];omega
def ior {K:Frag}{a:ah}{Zi:List V}{R:It->Hp->Prop}{σ:L2.St}{H:Hp}(e:σ[0]?=some (some (.ref a))) (h:cS K H a Zi) (k:∀M p xs,a_ H M->H p=none->M p=some (.lst xs)->xs.length<=31->(∀x∈xs,x∈Zi\/x=.int 0)->R (C_ K p) M):
  GJ K (Oj K (R4 (NV K) (cg 0) qS (zG (tC (.int 31)))) (wL (cC (tC (.int 0)) fD))) σ H R:=by
 refine⟨_,e,_,rfl,a,_,rfl,h,fun p hp=>?_⟩
 exists hp,.lst (iU Zi none (some 31)),H,p,s1,w1,M1
 refine⟨_,.inl ⟨_,cS.of w1,rfl⟩,?_⟩
 refine eG (fun _=>?_) (fun _=>?_)
 ·exact⟨p,rfl,⟨_,cS.of w1⟩,k M1 p _ s1 hp w1 (U1 _) fun x hx=>.inl (QJ hx)⟩
 ·refine⟨dF,fun p2 Og=>?_⟩
  have s2:=aN Og (.lst [.int 0])
  have w2:upd M1 p2 (.lst [.int 0]) p2=some (.lst [.int 0]):=az
  exact⟨p2,rfl,⟨_,cS.of w2⟩,k _ p2 _ (s1.trans s2) (cJ s1 Og) w2 (by decide) fun x hx=>.inr (by simpa using hx)⟩
def QK {f:ah}{fd:FuncData}{C:ah}(F:iV K "law" "law" iy f fd) (T:Txt mg) (DK:Df P w K mg base 1 "_law_deck" ["cell","turn"] B9) (DO:Df P w K mg base 1 "_law_club" [] Jv) (DE:Df P w K mg base 4 "_law_deed" ["deck","own"] CS) (DD:Df P w K mg base 6 "_law_deed_right" ["own","club","what"] (LV C)) (DS:Df P w K mg base 6 "_law_stands_right" ["own","club"] (Js C)) (DR:yH P w K mg base 1 C "rowers" ["self"] (vR C)) (DI:yH P w K mg base 1 C "pieces" ["self"] (AB C)) (DT:yH P w K mg base 5 C "trials" ["self"] (Ef C)) (DC:VQ P w K mg base C):dO P w K mg base fO 8 f fd ["script"] (Ey K):=by
 refine F.ok rF (fun vs H Q E h=>?_) (fun cdv A outer s H vs Q E hr h=>?_)
 ·obtain⟨a,ns,rfl,_⟩:=h
  rfl
 ·obtain⟨a,ns,rfl,hS,hl,q⟩:=h
  obtain⟨r0,t0,e0,p0,Y8⟩:=lw0 (outer:=outer) (s:=s) (H:=H) (E:=E) hr DC
  obtain⟨r1,t1,e1,p1,go1⟩:=lw1 (outer:=outer) (s:=s) (H:=H) (E:=E) (C:=C) hr DO
  obtain⟨x0,y0,f0,z0,gx0⟩:=lb0 (outer:=outer) (s:=s) (H:=H) (E:=E) (C:=C) hr DK
  obtain⟨x1,y1,f1,z1,gx1⟩:=lb1 (outer:=outer) (s:=s) (H:=H) (E:=E) hr DE DD
  obtain⟨x2,y2,f2,z2,gx2⟩:=lb2 (outer:=outer) (s:=s) (H:=H) (E:=E) hr DR DI DT
  obtain⟨x3,y3,f3,z3,gx3⟩:=lb3 (outer:=outer) (s:=s) (H:=H) (E:=E) hr DS
  obtain⟨r3,t3,e3,p3,go3⟩:=lw3 (P:=P) (w:=w) (K:=K) (base:=base) (outer:=outer) (s:=s) (H:=H) (E:=E) (C:=C) hr T
  obtain⟨r4,t4,e4,p4,Y9⟩:=lw4 (P:=P) (w:=w) (K:=K) (mg:=mg) (base:=base) (outer:=outer) (s:=s) (H:=H) (E:=E) (C:=C) hr
  obtain⟨r5,t5,e5,p5,Y_⟩:=lw5 (outer:=outer) (s:=s) (H:=H) (E:=E) hr DD DS
  obtain⟨r6,t6,e6,p6,Za⟩:=lw6 (outer:=outer) (s:=s) (H:=H) (E:=E) hr DS
  obtain⟨tg,it,ps,b,er3,hb,hPI,hPG,hFI⟩:∃tg it ps b,iY 2=.For tg it b [] ps/\b=[lI 0,lI 1,lI 2,lI 3]/\PI ((eU fO P w K mg base rE "law" (av iy) f cdv A outer s H E).kF) tg it (GJ K (Oj K (R4 (NV K) (cg 0) qS (zG (tC (.int 31)))) (wL (cC (tC (.int 0)) fD))))/\PG ((eU fO P w K mg base rE "law" (av iy) f cdv A outer s H E).kF) tg (dU 3)/\∀x,foldedSetIterable it ((eU fO P w K mg base rE "law" (av iy) f cdv A outer s H E).kF).env x=pure x:=
   ⟨_,_,_,_,rfl,rfl,jh (Ol (gQ oZ (pv 0) jk (iu ao)) (lM (cW (ae ao aj)))),aZ (i:=3) rF.nd,fun _=>rfl⟩
  rw[f0,f1,f2,f3] at hb
  have be:=JD
  rw[e0,e1,er3,e3,e4,e5,e6] at be
  refine⟨_,by rw[be];exact ar p0 (ar p1 (ar (lN eR rfl hPI hPG (by rw[hb];exact ar z0 (ar z1 (ar z2 (aE z3)))) (hs:=hFI)) (ar p3 (ar p4 (ar p5 (aE p6)))))),?_⟩
  refine Y8 _ H _ _ _ _ _ _ _ _ _ fun cb sl lc H2 sm2 cl=>?_
  refine go1 _ H2 _ _ _ _ _ _ _ _ cb sl lc cl fun ow pl ll H3 sm3 W0=>?_
  have sm:=sm2.trans sm3
  have hS3:cS K H3 a (ns.map V.int):=sm.seq hS
  dsimp only
  refine sq1 ?_
  unfold RT
  refine ior (σ:=[some (.ref a),some (.ref cb),some (.ref ow),none,none,none,none,none,none]) rfl hS3 fun M p xs sM hp hpM l31 hx=>?_
  have wi0:WI 0 (oV [] S0 []):=⟨fun T hT=>by
   have:T=S0:=by simpa[oV] using hT
   rw[this];exact St.nil,by decide⟩
  have L0:Lw C M cb sl lc ow pl ll [] S0 [] p xs 0:=⟨W0.same sM,hpM,W0.new hp,wi0⟩
  refine nW (K:=K) (a:=p) (xs:=xs) (fun i bW H'=>∃(v3 v4 v5 v6 v7 v8:Option V) (lc:ah) (sts:List Cs) (S:Cs) (cx:List Cs),bW=[some (.ref a),some (.ref cb),some (.ref ow),v3,v4,v5,v6,v7,v8]/\Lw C H' cb sl lc ow pl ll sts S cx p xs i)
   ⟨_,_,_,_,_,_,lc,[],S0,[],rfl,L0⟩ (fun i bW H' _ h=>by obtain⟨_,_,_,_,_,_,_,_,_,_,_,e⟩:=h;exact cS.of e.hp) ?_ ?_
  ·rintro i y bW H4 hi ⟨v3,v4,v5,v6,v7,v8,iL,sts,S,cx,rfl,L⟩
   have hix:i<xs.length:=(bw.mp hi).1
   have hy:∃cell:Int,y=.int cell:=by
    rcases hx y (mG hi) with z|z
    ·obtain⟨c,_,rfl⟩:=cO.mp z
     exact⟨c,rfl⟩
    ·exact⟨0,z⟩
   obtain⟨cell,rfl⟩:=hy
   refine gx0 _ H4 _ _ _ _ _ _ _ _ cell fun k1 H5 hk1 s5 dk1=>?_
   refine gx1 _ H4 H5 _ _ _ _ _ _ k1 cb sl iL ow pl ll p sts S cx xs i L (by omega) hk1 s5 dk1 fun U2 QL S6 JI H6 L6=>?_
   refine gx2 _ H6 _ _ _ _ _ _ _ _ cb sl U2 ow pl ll p QL S6 JI xs (i+1) L6 (by omega) fun w5 H7 s7=>?_
   refine gx3 _ H7 _ _ _ _ _ _ _ cb sl U2 ow pl ll p QL S6 JI xs (i+1) (L6.same s7) (by omega) fun H8 s8=>?_
   exact⟨_,_,_,_,_,_,U2,QL,S6,JI,rfl,(L6.same s7).same s8⟩
  ·rintro bW H4 ⟨v3,v4,v5,v6,v7,v8,iL,sts,S,cx,rfl,L⟩
   refine go3 _ H4 _ _ _ _ _ _ _ _ cb sl iL ow pl ll sts S cx L.wd ?_
   refine Y9 _ H4 _ _ _ _ _ _ _ _ cb sl iL ow pl ll sts S cx L.wd fun tl H5 s5 LA=>?_
   refine Y_ _ H5 _ _ _ _ _ tl cb sl iL ow pl ll sts S cx xs.length (L.wd.same s5) L.wi l31 LA fun w8 U2 JI H6 W6 LA6=>?_
   exact Za _ H6 _ _ _ _ _ _ tl cb sl U2 ow pl ll sts S JI xs.length W6 L.wi.s l31 LA6 q
end
end K12
namespace K12
open PySem L2 PySem.W
structure fz (K:Frag) (C:ah) (x q:Str) (st:Stmt) (f:ah):Prop where
 a:findIn K (.ref C) x=some (some (.ref f))
 ex:∃(oc:af) (od:Option ah) (kV doc pm:af) (an:Option ah) (cdv ct:af) (rZ:Array (Option af)),
  K.lookup f=some ⟨oc,od,.func (fnOf x q (jm st) (fu st) (av st) .none kV doc pm an cdv ct),rZ⟩/\codeIn K cdv q=true
 n:isFn K (.ref f)=true
 k:keepIn K (.ref f)=true
section
variable {P:aF}{w:ba}{K:Frag}{mg:Str->Option af}{base:Heap}{C:ah}{x q:Str}{st:Stmt}{f:ah}{k:Nat}{ps:List Str}{sp:Sp}
def standsM {oc:af}{od:Option ah}{kV doc pm:af}{an:Option ah}{cdv ct:af}{rZ:Array (Option af)}
  (a:findIn K (.ref C) x=some (some (.ref f))) (l:K.lookup f=some ⟨oc,od,.func (fnOf x q (jm st) (fu st) (av st) .none kV doc pm an cdv ct),rZ⟩) (c:codeIn K cdv q=true) (n:isFn K (.ref f)=true) (k:keepIn K (.ref f)=true):fz K C x q st f:=
 ⟨a,⟨oc,od,kV,doc,pm,an,cdv,ct,rZ,l,c⟩,n,k⟩
def fz.fn (S:fz K C x q st f):∃fd,iV K x q st f fd:=by
 obtain⟨oc,od,kV,doc,pm,an,cdv,ct,rZ,l,c⟩:=S.ex
 exact⟨_,BB (st:=st) l c S.k⟩
def fz.QM (S:fz K C x q st f):yd K C x f:=⟨S.a,S.n,S.k⟩
abbrev U3 (x q:Str) (st:Stmt) (ps:List Str):Prop:=∀(kV doc pm:af) (an:Option ah) (cdv ct:af) (us:List af),us.length=ps.length->bindArgs (fnOf x q (jm st) (fu st) (av st) .none kV doc pm an cdv ct) ⟨us,[]⟩=pure (ps.zip us)
structure CZ (P:aF) (w:ba) (K:Frag) (mg:Str->Option af) (base:Heap):Prop where
 ex:∃h:Heap,K.In h/\h.Ns mainGlobals mg
def CZ.at {v:af}(E:CZ P w K mg base) (h:nsIn K mainGlobals x=some (some v)):mg x=some v:=by
 obtain⟨_,X,G⟩:=E.ex
 exact mg_of X G h
def CZ.no (E:CZ P w K mg base) (h:nsIn K mainGlobals x=some none):mg x=none:=by
 obtain⟨_,X,G⟩:=E.ex
 exact mg_none_of X G h
def CZ.df (E:CZ P w K mg base) (S:dR K x st f) (hF:∀fd,iV K x x st f fd->dO P w K mg base fO k f fd ps sp) (hb:U3 x x st ps:=by intro _ _ _ _ _ _ us hl;rcases us with _|⟨a,_|⟨b,_|⟨c,_|⟨d,_|⟨e,us⟩⟩⟩⟩⟩<;>first|(simp at hl;done)|rfl):Df P w K mg base k x ps sp:=by
 obtain⟨fd,F⟩:=S.fn
 exact⟨_,fd,hF fd F,F.binds hb,S.k,E.at S.a⟩
def CZ.dg (E:CZ P w K mg base) (S:dR K x st f) (hF:∀fd,iV K x x st f fd->dO P w K mg base (qC P w) k f fd ps sp) (hb:U3 x x st ps:=by intro _ _ _ _ _ _ us hl;rcases us with _|⟨a,_|⟨b,_|⟨c,_|⟨d,_|⟨e,us⟩⟩⟩⟩⟩<;>first|(simp at hl;done)|rfl):VA P w K mg base k x ps sp:=by
 obtain⟨fd,F⟩:=S.fn
 exact⟨_,fd,hF fd F,F.binds hb,S.k,E.at S.a⟩
def CZ.dh {sp:ah->Sp}(E:CZ P w K mg base) (S:dR K x st f) (hF:∀fd,iV K x x st f fd->Ab P w K mg base k f fd ps sp) (hb:U3 x x st ps:=by intro _ _ _ _ _ _ us hl;rcases us with _|⟨a,_|⟨b,_|⟨c,_|⟨d,_|⟨e,us⟩⟩⟩⟩⟩<;>first|(simp at hl;done)|rfl):X0 P w K mg base k x ps sp:=by
 obtain⟨fd,F⟩:=S.fn
 exact⟨_,fd,hF fd F,F.binds hb,S.k,E.at S.a⟩
def CZ.dm (E:CZ P w K mg base) (c:AV K C) (S:fz K C x q st f) (hF:∀fd,iV K x q st f fd->dO P w K mg base fO k f fd ps sp) (hb:U3 x q st ps:=by intro _ _ _ _ _ _ us hl;rcases us with _|⟨a,_|⟨b,_|⟨c,_|⟨d,_|⟨e,us⟩⟩⟩⟩⟩<;>first|(simp at hl;done)|rfl):yH P w K mg base k C x ps sp:=by
 obtain⟨fd,F⟩:=S.fn
 exact⟨c,_,fd,hF fd F,F.binds hb,S.QM⟩
def CZ.QN (E:CZ P w K mg base) (c:AV K C) (S:fz K C x q st f) (hF:∀fd,iV K x q st f fd->dO P w K mg base (qC P w) k f fd ps sp) (hb:U3 x q st ps:=by intro _ _ _ _ _ _ us hl;rcases us with _|⟨a,_|⟨b,_|⟨c,_|⟨d,_|⟨e,us⟩⟩⟩⟩⟩<;>first|(simp at hl;done)|rfl):wX P w K mg base k C x ps sp:=by
 obtain⟨fd,F⟩:=S.fn
 exact⟨c,_,fd,hF fd F,F.binds hb,S.QM⟩
structure Nh (K:Frag) (c dr:ah):Prop where
 ga:findIn K (.ref c) "__getattribute__"=some (some (.builtin "BaseException.__getattribute__"))
 gn:findIn K (.ref c) "__getattr__"=some none
 gc:findIn K (.ref c) "__class__"=some (some (.builtin "object.__class__"))
 mo:mroIn K c (.type "object")=some true
 mb:mroIn K c (.type "BaseException")=some true
 cs:(clsIn K c).isSome=true
 ve:kitOne K (.ref c) (.type "ValueError")=some true
 xm:exmOne K (.ref c) (.ref dr)=some true
structure L9 (K:Frag) (c d0 d1 d2 d3 d4 d5 d6 d7 d8 d9 zh:ah) (f0 f1 f2 f3 f4 f5 f6 f7 f8 f9 Ry:Bool):Prop where
 k0:kitOne K (.ref c) (.ref d0)=some f0
 k1:kitOne K (.ref c) (.ref d1)=some f1
 k2:kitOne K (.ref c) (.ref d2)=some f2
 k3:kitOne K (.ref c) (.ref d3)=some f3
 k4:kitOne K (.ref c) (.ref d4)=some f4
 k5:kitOne K (.ref c) (.ref d5)=some f5
 k6:kitOne K (.ref c) (.ref d6)=some f6
 k7:kitOne K (.ref c) (.ref d7)=some f7
 k8:kitOne K (.ref c) (.ref d8)=some f8
 k9:kitOne K (.ref c) (.ref d9)=some f9
 k10:kitOne K (.ref c) (.ref zh)=some Ry
structure GsF (mg:Str->Option af) (d0 d1 d2 d3 d4 d5 d6 d7 d8 d9 zh:ah):Prop where
 g0:mg "NoCrew"=some (.ref d0)
 g1:mg "NoName"=some (.ref d1)
 g2:mg "NoNumber"=some (.ref d2)
 g3:mg "NoPiece"=some (.ref d3)
 g4:mg "NoRow"=some (.ref d4)
 g5:mg "NoRower"=some (.ref d5)
 g6:mg "NoText"=some (.ref d6)
 g7:mg "NothingLeft"=some (.ref d7)
 g8:mg "NoTrial"=some (.ref d8)
 g9:mg "TooMany"=some (.ref d9)
 VT:mg "Twice"=some (.ref zh)
def L9.y {c d0 d1 d2 d3 d4 d5 d6 d7 d8 d9 zh dr:ah}{f0 f1 f2 f3 f4 f5 f6 f7 f8 f9 Ry:Bool}{nm:Str}(t:L9 K c d0 d1 d2 d3 d4 d5 d6 d7 d8 d9 zh f0 f1 f2 f3 f4 f5 f6 f7 f8 f9 Ry) (X:Nh K c dr) (G:GsF mg d0 d1 d2 d3 d4 d5 d6 d7 d8 d9 zh) (hf:[f0,f1,f2,f3,f4,f5,f6,f7,f8,f9,Ry]=uc.map (fun x=>decide (x=nm)):=by decide+kernel) (hm:nm∈uc:=by decide+kernel):zf K mg dr c nm:=by
 refine⟨⟨⟨X.ga,X.gn,X.gc,X.mo,X.mb,X.cs⟩,fun x hx=>?_,X.ve⟩,X.xm,hm⟩
 simp only[uc,bH,nO,Gy,and_true] at hf
 obtain⟨h0,h1,h2,h3,h4,h5,h6,h7,h8,h9,h10⟩:=hf
 simp only[uc,aC,aM,cz] at hx
 rcases hx with rfl|rfl|rfl|rfl|rfl|rfl|rfl|rfl|rfl|rfl|rfl
 ·exact⟨_,G.g0,h0▸t.k0⟩
 ·exact⟨_,G.g1,h1▸t.k1⟩
 ·exact⟨_,G.g2,h2▸t.k2⟩
 ·exact⟨_,G.g3,h3▸t.k3⟩
 ·exact⟨_,G.g4,h4▸t.k4⟩
 ·exact⟨_,G.g5,h5▸t.k5⟩
 ·exact⟨_,G.g6,h6▸t.k6⟩
 ·exact⟨_,G.g7,h7▸t.k7⟩
 ·exact⟨_,G.g8,h8▸t.k8⟩
 ·exact⟨_,G.g9,h9▸t.k9⟩
 ·exact⟨_,G.VT,h10▸t.k10⟩
end
def all_mk {l:OpenLaw}{w:ba}{K:Frag}{h:Heap}{mg:Str->Option af}{fa f0 f1 f2 f3 f4 f5 f6 f7 f8 f9 Ry f11 f12 f13 f14 f15 f16 f17 f18 f19 f20 f21 f22 f23 f24 f25 f26 f27 f28 f29 f30 f31 Zj g0 g1 g2 g3 g4 g5 g6 g7 g8 g9 VT g11 g12 Zk d0 d1 d2 d3 d4 d5 d6 d7 d8 d9 zh dr dC:ah}{t0 t1 t2 t3 t4:Nat}{u0:Nat}(X:K.In h) (G:h.Ns mainGlobals mg) (hfa:mg "law"=some (.ref fa))
  (s0:dR K "is_whole" B6 f0)
  (s1:dR K "is_name" HQ f1)
  (s2:dR K "is_crew" Ic f2)
  (s3:dR K "is_measure" Ie f3)
  (s4:dR K "is_piece" Cb f4)
  (s5:dR K "fraction" Xr f5)
  (s6:dR K "fraction_less" XQ f6)
  (s7:dR K "margin" Xs f7)
  (s8:dR K "exchanged" XS f8)
  (s9:dR K "exchanged_pair" XX f9)
  (s10:dR K "trial_of" X4 Ry)
  (s11:dR K "trial_or_none" X6 f11)
  (s12:dR K "is_weight" yz f12)
  (s13:dR K "is_rower" B7 f13)
  (Iy:dR K "names_of" PJ f14)
  (Zd:dR K "_law_deck" H_ f15)
  (VR:dR K "_law_pick" Ia f16)
  (U0:dR K "_law_name_of" Gu f17)
  (s18:dR K "_law_weight" Xc f18)
  (s19:dR K "_law_fraction" P1 f19)
  (s20:dR K "_law_piece" Xt f20)
  (s21:dR K "_law_exchanged" Yt f21)
  (s22:dR K "_law_trial" Yq f22)
  (s23:dR K "_law_club" rD f23)
  (s24:dR K "_law_is_rower" y_ f24)
  (CI:dR K "_law_later" CH f25)
  (s26:dR K "_law_due" Qw f26)
  (s27:dR K "_law_tried" CJ f27)
  (s28:dR K "_law_deed_right" Y1 f28)
  (s29:dR K "_law_deed" gf f29)
  (s30:dR K "_law_trials_of" P7 f30)
  (s31:dR K "_law_stands_right" YZ f31)
  (Zl:fz K dC "__init__" "Club.__init__" IA g0)
  (m1S:fz K dC "__len__" "Club.__len__" Ph g1)
  (m2S:fz K dC "enter" "Club.enter" Cq g2)
  (m3S:fz K dC "come" "Club.come" IB g3)
  (m4S:fz K dC "go" "Club.go" X_ g4)
  (m5S:fz K dC "weigh" "Club.weigh" Cr g5)
  (m6S:fz K dC "tell" "Club.tell" IC g6)
  (m7S:fz K dC "strike" "Club.strike" Pj g7)
  (m8S:fz K dC "back" "Club.back" ID g8)
  (m9S:fz K dC "again" "Club.again" Ct g9)
  (Zm:fz K dC "rowers" "Club.rowers" IE VT)
  (Zn:fz K dC "pieces" "Club.pieces" Pk g11)
  (Zo:fz K dC "trials" "Club.trials" Pl g12)
  (U4:fz K d9 "__init__" "TooMany.__init__" Ym Zk)
  {od an:Option ah} {rZ:Array (Option af)} {oc kV doc pm cdv ct:af} (a:nsIn K mainGlobals "law"=some (some (.ref Zj))) (lk:K.lookup Zj=some ⟨oc,od,.func (fnOf "law" "law" (jm iy) (fu iy) (av iy) .none kV doc pm an cdv ct),rZ⟩) (cc:codeIn K cdv "law"=true) (kk:keepIn K (.ref Zj)=true)
  (c0:nsIn K mainGlobals "LONGEST_NAME"=some (some (.int 8 t0)))
  (c1:nsIn K mainGlobals "MOST_IN_CREW"=some (some (.int 4 t1)))
  (c2:nsIn K mainGlobals "LONGEST"=some (some (.int 1000000000 t2)))
  (c3:nsIn K mainGlobals "HEAVIEST"=some (some (.int 1000000 t3)))
  (c4:nsIn K mainGlobals "MOST_ROWERS"=some (some (.int 8 t4)))
  (x0:nsIn K mainGlobals "MOST_PIECES"=some (some (.int 40 u0)))
  (z0:nsIn K mainGlobals "ValueError"=some none)
  (z1:nsIn K mainGlobals "abs"=some none)
  (z2:nsIn K mainGlobals "all"=some none)
  (z3:nsIn K mainGlobals "any"=some none)
  (z4:nsIn K mainGlobals "bool"=some none)
  (z5:nsIn K mainGlobals "enumerate"=some none)
  (z6:nsIn K mainGlobals "int"=some none)
  (z7:nsIn K mainGlobals "isinstance"=some none)
  (z8:nsIn K mainGlobals "len"=some none)
  (z9:nsIn K mainGlobals "list"=some none)
  (z10:nsIn K mainGlobals "max"=some none)
  (z11:nsIn K mainGlobals "min"=some none)
  (z12:nsIn K mainGlobals "range"=some none)
  (z13:nsIn K mainGlobals "sorted"=some none)
  (z14:nsIn K mainGlobals "str"=some none)
  (z15:nsIn K mainGlobals "sum"=some none)
  (z16:nsIn K mainGlobals "tuple"=some none)
  (z17:nsIn K mainGlobals "zip"=some none)
  (n0:nsIn K mainGlobals "NoCrew"=some (some (.ref d0)))
  (n1:nsIn K mainGlobals "NoName"=some (some (.ref d1)))
  (n2:nsIn K mainGlobals "NoNumber"=some (some (.ref d2)))
  (n3:nsIn K mainGlobals "NoPiece"=some (some (.ref d3)))
  (n4:nsIn K mainGlobals "NoRow"=some (some (.ref d4)))
  (n5:nsIn K mainGlobals "NoRower"=some (some (.ref d5)))
  (n6:nsIn K mainGlobals "NoText"=some (some (.ref d6)))
  (n7:nsIn K mainGlobals "NothingLeft"=some (some (.ref d7)))
  (n8:nsIn K mainGlobals "NoTrial"=some (some (.ref d8)))
  (n9:nsIn K mainGlobals "TooMany"=some (some (.ref d9)))
  (n10:nsIn K mainGlobals "Twice"=some (some (.ref zh)))
  (X1:Nh K d1 dr) (T1:L9 K d1 d0 d1 d2 d3 d4 d5 d6 d7 d8 d9 zh false true false false false false false false false false false)
  (X2:Nh K d2 dr) (T2:L9 K d2 d0 d1 d2 d3 d4 d5 d6 d7 d8 d9 zh false false true false false false false false false false false)
  (X3:Nh K d3 dr) (T3:L9 K d3 d0 d1 d2 d3 d4 d5 d6 d7 d8 d9 zh false false false true false false false false false false false)
  (X5:Nh K d5 dr) (T5:L9 K d5 d0 d1 d2 d3 d4 d5 d6 d7 d8 d9 zh false false false false false true false false false false false)
  (X7:Nh K d7 dr) (T7:L9 K d7 d0 d1 d2 d3 d4 d5 d6 d7 d8 d9 zh false false false false false false false true false false false)
  (X9:Nh K d9 dr) (T9:L9 K d9 d0 d1 d2 d3 d4 d5 d6 d7 d8 d9 zh false false false false false false false false false true false)
  (X10:Nh K zh dr) (T10:L9 K zh d0 d1 d2 d3 d4 d5 d6 d7 d8 d9 zh false false false false false false false false false false true)
  (nr:nsIn K mainGlobals "RowError"=some (some (.ref dr)))
  (nC:nsIn K mainGlobals "Club"=some (some (.ref dC)))
  (eT:excIn K d8 L2.vh "ValueError.__new__"=true)
  (xmT:exmOne K (.ref d8) (.ref d8)=some true)
  (e1:excIn K d1 L2.vh "ValueError.__new__"=true)
  (e2:excIn K d2 L2.vh "ValueError.__new__"=true)
  (e3:excIn K d3 L2.vh "ValueError.__new__"=true)
  (e5:excIn K d5 L2.vh "ValueError.__new__"=true)
  (e7:excIn K d7 L2.vh "ValueError.__new__"=true)
  (e10:excIn K zh L2.vh "ValueError.__new__"=true)
  (ei:Cp K d9 Zk=true)
  (kpM:keepIn K (.ref d9)=true)
  (wsa:findIn K (.ref d9) "__setattr__"=some (some (.builtin "object.__setattr__")))
  (wcd:∃cd,clsIn K d9=some cd/\cd.hasDict=true/\∀self:af,refuseLoop self "__setattr__" cd.mro=pure ())
  (nat:findIn K (.ref d9) "many"=some none)
  (hdM:hasDictIn K d9=true)
  (bga:specialIn K (.ref dr) "__getattribute__"=some (some (.builtin "type.__getattribute__")))
  (brd:readsIn K dr (.type "type")=true)
  (bfc:findCls K (.ref dr) (.type "type") "__init__"=some (.val (.builtin "ValueError.__init__")))
  (pg:plainGet K dC Str.empty=true)
  (hd:hasDictIn K dC=true)
  (po:plainOver K dC=true)
  (sa:findIn K (.ref dC) "__setattr__"=some (some (.builtin "object.__setattr__")))
  (aS:findIn K (.ref dC) "states"=some none)
  (aL2:findIn K (.ref dC) "left"=some none)
  (mk:makesIn K dC=true)
  (kp:keepIn K (.ref dC)=true)
  : ∃fd:FuncData,(∀(s:ai) (v:af),BindsTo s fd ⟨[v],[]⟩ [("script",v)])/\∀base:Heap,K.In base->base.Ns mainGlobals mg->dO l.prog w K mg base fO 8 fa fd ["script"] (Ey K):=by
 have e:=hfa.symm.trans (mg_of X G a)
 cases e
 have FL:=BB (st:=iy) lk cc kk
 refine⟨fnOf "law" "law" (jm iy) (fu iy) (av iy) .none kV doc pm an cdv ct,fun s v=>.of_eq rfl,fun base _ _=>?_⟩
 have E:CZ l.prog w K mg base:=⟨h,X,G⟩
 have T:Txt mg:=⟨E.no z0,E.no z1,E.no z2,E.no z3,E.no z4,E.no z5,E.no z6,E.no z7,E.no z8,E.no z9,E.no z10,E.no z11,E.no z12,E.no z13,E.no z14,E.no z15,E.no z16,E.no z17,⟨_,E.at c0⟩,⟨_,E.at c1⟩,⟨_,E.at c2⟩,⟨_,E.at c3⟩,⟨_,E.at c4⟩⟩
 have GG:GsF mg d0 d1 d2 d3 d4 d5 d6 d7 d8 d9 zh:=⟨E.at n0,E.at n1,E.at n2,E.at n3,E.at n4,E.at n5,E.at n6,E.at n7,E.at n8,E.at n9,E.at n10⟩
 have N1:=T1.y (nm:="NoName") X1 GG
 have N2:=T2.y (nm:="NoNumber") X2 GG
 have N3:=T3.y (nm:="NoPiece") X3 GG
 have N5:=T5.y (nm:="NoRower") X5 GG
 have N7:=T7.y (nm:="NothingLeft") X7 GG
 have N9:=T9.y (nm:="TooMany") X9 GG
 have N10:=T10.y (nm:="Twice") X10 GG
 have gr:=E.at nr
 have CC:Gs K dC:=⟨⟨pg,hd,po,sa⟩,aS,aL2⟩
 obtain⟨_,GI⟩:=U4.fn
 have bI:=GI.binds (ps:=["self","many"]) (by intro _ _ _ _ _ _ us hl;rcases us with _|⟨a,_|⟨b,_|⟨c,us⟩⟩⟩<;>first|(simp at hl;done)|rfl)
 have OI:Ar K d9 Zk:=⟨ei,U4.n,kpM⟩
 have FI:=Uh (P:=l.prog) (w:=w) (base:=base) (mg:=mg) GI OI ⟨wsa,X9.mo,wcd⟩ nat ⟨bga,brd,bfc⟩ gr
 have Ez:=E.df s0 fun _ F=>HR F T
 have QO:=E.df s1 fun _ F=>DJ F T
 have L_:Df l.prog w K mg base 2 "is_name" ["thing"] (wR fm):=E.df s1 fun _ F=>K5 (DJ F T) (by decide)
 have QP:=E.df s2 fun _ F=>K6 F T QO
 have QQ:=E.df s3 fun _ F=>K7 F T Ez
 have EA:=E.df s4 fun _ F=>Ig F T QP QQ
 have U5:=E.df s5 fun _ F=>SS F T
 have Zp:=E.df s6 fun _ F=>Tt F U5
 have Zq:=E.df s7 fun _ F=>SV F U5
 have Zr:=E.df s8 fun _ F=>Tv F T
 have Zs:=E.dg s9 fun _ F=>Tx F ⟨GG.g8,eT⟩ Zr
 have Zt:=E.dg s10 fun _ F=>TF F T Zs Zp Zq
 have Zu:=E.df s11 fun _ F=>TM F GG.g8 xmT Zt
 have Ni:=E.df s12 fun _ F=>Fv F T Ez
 have U6:=E.df s13 fun _ F=>HU F T L_ Ni
 have JJ:=E.df Iy fun _ F=>PK F
 have QR:=E.df Zd fun _ F=>K3 F
 have zi:=E.df VR fun _ F=>K4 F
 have Zv:=E.dh U0 fun _ F=>Uz F T T.zip
 have Zw:=E.df s18 fun _ F=>SQ F zi
 have Zx:=E.df s20 fun _ F=>S3 F T zi
 have U7:=E.df s19 fun _ F=>P4 F T
 have Zy:=E.df s21 fun _ F=>Uw F T zi
 have Zz:=E.df s22 fun _ F=>Uv F T U7
 have U8:=E.df s23 fun _ F=>QE F
 have U9:=E.df s24 fun _ F=>FX F T
 have Ma:=E.df CI fun _ F=>Jq F T U9 EA
 have U_:=E.df s26 fun _ F=>Qx F T Ma
 have QS:=E.df s29 fun _ F=>LY F T zi Zw Zx Zy
 have Va:=E.df s30 fun _ F=>P8 F T Zz
 have rH:=E.dm CC.c m2S fun _ F=>IF F T CC
 have C0:=E.dm CC.c Zm fun _ F=>Lu F T CC
 have JK:=E.dm CC.c Zn fun _ F=>Pu F T CC
 have Nj:=E.dm CC.c Zo fun _ F=>Pw F T JK Zu
 have QT:=E.QN CC.c m3S fun _ F=>LD F T CC ⟨GG.g5,e5⟩ ⟨GG.VT,e10⟩ GG.g9 OI FI bI U6 JJ rH
 have ZA:=E.QN CC.c m4S fun _ F=>Ue F CC ⟨GG.g1,e1⟩ JJ rH
 have Mb:=E.QN CC.c m5S fun _ F=>IQ F CC ⟨GG.g1,e1⟩ ⟨GG.g5,e5⟩ JJ Ni rH
 have QU:=E.QN CC.c m6S fun _ F=>Lp F T ⟨_,E.at x0⟩ CC ⟨GG.g3,e3⟩ EA rH
 have JL:=E.QN CC.c m7S fun _ F=>Pq F CC ⟨GG.g2,e2⟩ rH
 have QV:=E.QN CC.c m8S fun _ F=>Lq F T CC ⟨GG.g7,e7⟩
 have Mc:=E.QN CC.c m9S fun _ F=>IG F T CC ⟨GG.g7,e7⟩
 have DK:VQ l.prog w K mg base dC:=by
  obtain⟨_,F⟩:=Zl.fn
  exact⟨_,_,⟨mk,Zl.a,Zl.n,kp⟩,Lm F CC,F.binds (ps:=["self"]) (by intro _ _ _ _ _ _ us hl;rcases us with _|⟨a,_|⟨b,us⟩⟩<;>first|(simp at hl;done)|rfl),E.at nC⟩
 have Vb:Jr l.prog w K mg base dC:=by
  obtain⟨_,F⟩:=m1S.fn
  exact⟨_,_,P0 F T C0,F.binds (ps:=["self"]) (by intro _ _ _ _ _ _ us hl;rcases us with _|⟨a,_|⟨b,us⟩⟩<;>first|(simp at hl;done)|rfl),m1S.QM⟩
 have Md:=E.df s27 fun _ F=>Jt F T gr ⟨GG.g9,hdM,nat⟩ N5 N10 N9 N1 N3 N2 N7 QT ZA Mb QU JL QV Mc Zv
 have ZC:=E.df s28 fun _ F=>US F T U_ Md
 have ZD:=E.df s31 fun _ F=>UP F T C0 JK Vb Nj Va
 exact QK FL T QR U8 QS ZC ZD C0 JK Nj DK
def walk {l:OpenLaw}{q:aF}{loose:List Str}{XP:(Str->Option af)->Heap->Prop}{YP:ba->Heap->Prop}{d:DefRec}{K:Params->Frag}(hn:l.most=some 63) (R8:d.params.defaults=[])
  (hY:∀(w:ba) (h:Heap),YP w h->(K w.params).In h)
  (F:∀(w:ba) (mg:Str->Option af) (fa:ah) (h:Heap),(K w.params).In h->h.Ns mainGlobals mg->mg d.name=some (.ref fa)->
   ∃fd:FuncData,(∀(s:ai) (u:af),BindsTo s fd ⟨[u],[]⟩ [("script",u)])/\∀base:Heap,(K w.params).In base->base.Ns mainGlobals mg->dO l.prog w (K w.params) mg base fO 8 fa fd ["script"] (Ey (K w.params))):
  WalkO q loose XP YP l.row.toRowW d [] (fun f vs=>PySem.call f vs):=
 L2.Kv (n:=63) (k:=8) (x:="script") (CX:=fun _=>fO) (sp:=fun w=>Ey (K w.params)) hn (by decide) R8 ⟨rfl,by decide,by decide,rfl⟩ hY F (fun _ _ a ns hl _ hS=>⟨a,ns,rfl,hS,hl,fun _=>rfl⟩) fun _ _ _ _ _ z=>z
end K12
open PySem PySem.W PyProof.Rows
namespace PySem.W.Fast
def tw1894229170116844868:=0
def tw3826292599396648952:=0
def tw10298994732916471503:=0
def tw8020819724187986358:=0
def tw9060809223135731226:=0
def tw11050791329260890871:=0
def tw8417703988239814736:=0
def tw11257383839916799741:=0
def tw7957616630206991884:=0
def tw13698058208549428889:=0
def tw11767987779940505658:=0
def tw13722671067042932569:=0
def tw8811550062283243730:=0
def tw879620989964216907:=0
def tw12909370144163258511:=0
def tw12919793139683551121:=0
def tw1016657327588601995:=0
def tw10432382924268339970:=0
def tw5353865929447620017:=0
def tw10810410510695251978:=0
def tw8521875977848042216:=0
def tw9208226556736566690:=0
def tw5143640034140734453:=0
def tw2680313283027056064:=0
def tw6918859881934078514:=0
def tw12057383329066380411:=0
def tw17421705789257156173:=0
def tw2967766218778016921:=0
def tw1240914269760577951:=0
def tw1126601900376540331:=0
def tw999741066811551883:=0
def tw17992315282186545520:=0
def tw15042556350444029583:=0
def tw4474964728062576088:=0
def tw7338916281648145945:=0
def tw5760113044970057583:=0
def tw6282184879178643213:=0
def tw4438119138135609015:=0
def tw16502398166251116595:=0
def tw18109856239119187876:=0
def tw1846329649375149931:=0
def tw9744370761360242140:=0
def tw3207747049706941109:=0
def tw7644155973809362154:=0
def tw4142092458534323094:=0
def tw17909173227031706073:=0
def tw15511881735308638590:=0
def tw5354467752971370452:=0
def tw6227654418620356604:=0
def tw4855010670387624443:=0
def tw13661054166745656637:=0
def tw7170597192302614258:=0
def tw3612444873392842029:=0
def tw6624501845331615726:=0
def tw8017419505109493443:=0
def tw4977760231798871244:=0
def tw17048604496724637066:=0
def tw11321368080929516111:=0
def tw9429324092401601387:=0
def tw7537095657855712636:=0
def tw13437840008691507556:=0
def tw10021629997590500059:=0
def tw15336787616540685123:=0
def tw3720418758619389538:=0
def tw10175559301492580012:=0
def tw14567677614771329359:=0
def tw8825459950171009047:=0
def tw16525575489885426781:=0
def tw1010171107316732509:=0
def tw497799725917355856:=0
def tw7887528152438357921:=0
def tw16881803826498466661:=0
def tw8324461798509242153:=0
def tw10542112887677525466:=0
def tw14010949558279216613:=0
def tw12811407729128828515:=0
def tw572146226066843411:=0
def tw2271249824317296797:=0
def tw9419173257922898990:=0
def tw2325464850650652593:=0
def tw11804045834662408558:=0
def tw11438849054757650102:=0
def tw961515195938567993:=0
def tw17152155532601108577:=0
def tw10973337405946029641:=0
def tw4593210236964102745:=0
def tw916568725598624658:=0
def tw12869720552485396520:=0
def tw8061811470409297076:=0
def tw13531531561363054848:=0
end PySem.W.Fast
set_option maxRecDepth 100000 in
set_option maxHeartbeats 0 in
theorem PySem.Challenge.cw_rowtrim_k12_whole_clubs_holds : PySem.Challenge.rw_rowtrim_k12_whole_clubs.Holds := by
  w_on; (refine PySem.W.holds_law (by decide +kernel) fun said=>?_); k_head; (case hw=>w_witness2)
  k_fill
  refine K12.walk (l:=PySem.Challenge.rw_rowtrim_k12_whole_clubs) rfl rfl (fun w h Y=>PySem.W.kIn_of Y) ?F
  case F =>
    intro w mg fa h KX G hmg
    refine' K12.all_mk KX G hmg (K12.stands ?a0 ?l0 ?c0 ?k0) (K12.stands ?a1 ?l1 ?c1 ?k1) (K12.stands ?a2 ?l2 ?c2 ?k2) (K12.stands ?a3 ?l3 ?c3 ?k3) (K12.stands ?a4 ?l4 ?c4 ?k4) (K12.stands ?a5 ?l5 ?c5 ?k5) (K12.stands ?a6 ?l6 ?c6 ?k6) (K12.stands ?a7 ?l7 ?c7 ?k7) (K12.stands ?a8 ?l8 ?c8 ?k8) (K12.stands ?a9 ?l9 ?c9 ?k9) (K12.stands ?a10 ?l10 ?c10 ?k10) (K12.stands ?a11 ?l11 ?c11 ?k11) (K12.stands ?a12 ?l12 ?c12 ?k12) (K12.stands ?a13 ?l13 ?c13 ?k13) (K12.stands ?a14 ?l14 ?c14 ?k14) (K12.stands ?a15 ?l15 ?c15 ?k15) (K12.stands ?a16 ?l16 ?c16 ?k16) (K12.stands ?a17 ?l17 ?c17 ?k17) (K12.stands ?a18 ?l18 ?c18 ?k18) (K12.stands ?a19 ?l19 ?c19 ?k19) (K12.stands ?a20 ?l20 ?c20 ?k20) (K12.stands ?a21 ?l21 ?c21 ?k21) (K12.stands ?a22 ?l22 ?c22 ?k22) (K12.stands ?a23 ?l23 ?c23 ?k23) (K12.stands ?a24 ?l24 ?c24 ?k24) (K12.stands ?a25 ?l25 ?c25 ?k25) (K12.stands ?a26 ?l26 ?c26 ?k26) (K12.stands ?a27 ?l27 ?c27 ?k27) (K12.stands ?a28 ?l28 ?c28 ?k28) (K12.stands ?a29 ?l29 ?c29 ?k29) (K12.stands ?a30 ?l30 ?c30 ?k30) (K12.stands ?a31 ?l31 ?c31 ?k31) (K12.standsM ?p0 ?q0 ?r0 ?s0 ?t0) (K12.standsM ?p1 ?q1 ?r1 ?s1 ?t1) (K12.standsM ?p2 ?q2 ?r2 ?s2 ?t2) (K12.standsM ?p3 ?q3 ?r3 ?s3 ?t3) (K12.standsM ?p4 ?q4 ?r4 ?s4 ?t4) (K12.standsM ?p5 ?q5 ?r5 ?s5 ?t5) (K12.standsM ?p6 ?q6 ?r6 ?s6 ?t6) (K12.standsM ?p7 ?q7 ?r7 ?s7 ?t7) (K12.standsM ?p8 ?q8 ?r8 ?s8 ?t8) (K12.standsM ?p9 ?q9 ?r9 ?s9 ?t9) (K12.standsM ?p10 ?q10 ?r10 ?s10 ?t10) (K12.standsM ?p11 ?q11 ?r11 ?s11 ?t11) (K12.standsM ?p12 ?q12 ?r12 ?s12 ?t12) (K12.standsM ?p13 ?q13 ?r13 ?s13 ?t13) ?aL ?lL ?cL ?kL ?b0 ?b1 ?b2 ?b3 ?b4 ?x0 ?z0 ?z1 ?z2 ?z3 ?z4 ?z5 ?z6 ?z7 ?z8 ?z9 ?z10 ?z11 ?z12 ?z13 ?z14 ?z15 ?z16 ?z17 ?n0 ?n1 ?n2 ?n3 ?n4 ?n5 ?n6 ?n7 ?n8 ?n9 ?n10 ?X1 ?T1 ?X2 ?T2 ?X3 ?T3 ?X5 ?T5 ?X7 ?T7 ?X9 ?T9 ?X10 ?T10 ?h0 ?h1 ?h2 ?h3 ?h4 ?h5 ?h6 ?h7 ?h8 ?h9 ?h10 ?h11 ?h12 ?h13 ?h14 ?h15 ?h16 ?h17 ?h18 ?h19 ?h20 ?h21 ?h22 ?h23 ?h24 ?h25 ?h26
    (case a0 | l0 | c0 | k0 | a1 | l1 | c1 | k1 | a2 | l2 | c2 | k2 | a3 | l3 | c3 | k3 | a4 | l4 | c4 | k4 | a5 | l5 | c5 | k5 | a6 | l6 | c6 | k6 | a7 | l7 | c7 | k7 | a8 | l8 | c8 | k8 | a9 | l9 | c9 | k9 | a10 | l10 | c10 | k10 | a11 | l11 | c11 | k11 | a12 | l12 | c12 | k12 | a13 | l13 | c13 | k13 | a14 | l14 | c14 | k14 | a15 | l15 | c15 | k15 | a16 | l16 | c16 | k16 | a17 | l17 | c17 | k17 | a18 | l18 | c18 | k18 | a19 | l19 | c19 | k19 | a20 | l20 | c20 | k20 | a21 | l21 | c21 | k21 | a22 | l22 | c22 | k22 | a23 | l23 | c23 | k23 | a24 | l24 | c24 | k24 | a25 | l25 | c25 | k25 | a26 | l26 | c26 | k26 | a27 | l27 | c27 | k27 | a28 | l28 | c28 | k28 | a29 | l29 | c29 | k29 | a30 | l30 | c30 | k30 | a31 | l31 | c31 | k31 | n0 | n1 | n2 | n3 | n4 | n5 | n6 | n7 | n8 | n9 | n10 | h0 | h1 | p0 | q0 | r0 | s0 | t0 | p1 | q1 | r1 | s1 | t1 | p2 | q2 | r2 | s2 | t2 | p3 | q3 | r3 | s3 | t3 | p4 | q4 | r4 | s4 | t4 | p5 | q5 | r5 | s5 | t5 | p6 | q6 | r6 | s6 | t6 | p7 | q7 | r7 | s7 | t7 | p8 | q8 | r8 | s8 | t8 | p9 | q9 | r9 | s9 | t9 | p10 | q10 | r10 | s10 | t10 | p11 | q11 | r11 | s11 | t11 | p12 | q12 | r12 | s12 | t12 | p13 | q13 | r13 | s13 | t13 | x0 | aL | lL | cL | kL | b0 | b1 | b2 | b3 | b4 | z0 | z1 | z2 | z3 | z4 | z5 | z6 | z7 | z8 | z9 | z10 | z11 | z12 | z13 | z14 | z15 | z16 | z17=>k_is)
    (case X1 | X2 | X3 | X5 | X7 | X9 | X10=>constructor; k_is; k_is; k_is; k_is; k_is; (refine' Option.isSome_of_eq_some ?hh); (case hh=>k_is); kit_is; kts_exm)
    (case T1 | T2 | T3 | T5 | T7 | T9 | T10=>constructor <;> kit_is)
    (case h2 | h4 | h5 | h6 | h7 | h8 | h9=>k_exc)
    (case h3=>kts_exm)
    (case h10 | h15 | h16 | h17 | h18=>kernel_rfl)
    (case h11 | h12 | h14 | h19 | h20 | h21 | h22 | h23 | h24 | h25 | h26=>k_is)
    (case h13=>(refine' K12.wcd_mk ?w1 ?w2 ?w3); (case w1=>k_is); (case w2=>rfl); (case w3=>exact fun _=>rfl))
#print axioms PySem.Challenge.cw_rowtrim_k12_whole_clubs_holds
