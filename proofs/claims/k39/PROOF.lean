import PyProof.Rows.All
import Wide.All
import OpenK.AllK
import Wide.FinOn
import Lean
import PyProof.EqAt
import PyProof.EqKinds
import PyProof.TupleCall
import PyProof.ExcBaseAll.ValueError
import PyProof.InstNe
import PyProof.ListMulRoad
import KE.KLam
import KE.KMinKey
import KE.KNestM
import PySem.Challenge.RW_rowtrim_k39_forty_pieces
import PyProof.ExcInit
import PyProof.InstStoreFacts
import PyProof.FString5
set_option Elab.async false
set_option linter.all false
set_option maxRecDepth 100000
namespace L2
open PySem PySem.Spec PyProof.Rows
abbrev Key:=Sum Bool Str
def isBoolOf (b:Bool):Value->Bool
 | .bool c=>b == c
 | _=>false
theorem isBoolOf_shape {b:Bool}{v:Value}(h:isBoolOf b v=true):v=.bool b:=by
 cases v <;> simp [isBoolOf] at h
 rw [h]
def boolN (b:Bool):Int:=if b then 1 else 0
theorem wpAny_pyHash_bool {prog:Program}{w:World}{A:Around}{E:Value->Shared->Prop}{s:Shared}{b:Bool}{Q:Int->Shared->Prop}(h:Q (boolN b) { s with toks:=s.toks + 1 }) :
  wpAny (model prog w) A (pyHash (.bool b)) Q E s:=by
 refine PySem.W.pyHash_slot (T:="bool") rfl F.slot_bool_hash entry_int_hash (args_int_hash _) (beq_builtin_none _) (.inl rfl) ?_
 have go:∀ i:Int,reduceHash i=boolN b->wpAny (model prog w) A.in1 (do ret (<- mkInt i)) (fun fin s'=>∃ n t,fin=.done (.ret (.int n t))/\Q (reduceHash n) s') E s:=fun i e=>wpAny_bind (wpAny_mkInt (wpAny_pure ⟨_,_,rfl,by rw [e]; exact h⟩))
 cases b
 ·exact go 0 rfl
 ·exact go 1 rfl
def keyIs:Key->Value->Bool
 | .inl k,v=>isBoolOf k v
 | .inr x,v=>Value.isStrOf x v
def keyH (w:World):Key->Int
 | .inl k=>boolN k
 | .inr x=>hashStr w x
theorem keyIs_shape:∀ {k:Key}{v:Value},keyIs k v=true->(∃ b,k=Sum.inl b/\v=Value.bool b)\/(∃ x t,k=Sum.inr x/\v=Value.str x t)
 | .inl i,v,h=>.inl ⟨i,rfl,isBoolOf_shape h⟩
 | .inr x,v,h=>by
  obtain ⟨t,e⟩:=Value.isStrOf_shape (x:=x) (v:=v) h
  exact .inr ⟨x,t,rfl,e⟩
theorem keyIs_bool (b:Bool):keyIs (.inl b) (.bool b)=true:=by simp [keyIs,isBoolOf]
theorem keyIs_str (x:Str) (t:Tok):keyIs (.inr x) (.str x t)=true:=by simp [keyIs,Value.isStrOf]
theorem key_ll (a b:Bool):decide ((Sum.inl a:Key)=Sum.inl b)=(a == b):=by cases a <;> cases b <;> decide
theorem key_rr (a b:Str):decide ((Sum.inr a:Key)=Sum.inr b)=decide (a=b):=by
 by_cases e:a=b
 ·subst e; simp
 ·have h:¬ (Sum.inr a:Key)=Sum.inr b:=fun q=>e (Sum.inr.inj q)
  rw [decide_eq_false h,decide_eq_false e]
theorem key_lr (a:Bool) (b:Str):decide ((Sum.inl a:Key)=Sum.inr b)=false:=decide_eq_false (fun q=>nomatch q)
theorem key_rl (a:Str) (b:Bool):decide ((Sum.inr a:Key)=Sum.inl b)=false:=decide_eq_false (fun q=>nomatch q)
def mixKind (prog:Program) (w:World):PySem.KeyKind prog w Key where
 is:=keyIs
 hash:=keyH w
 inj:=fun v a b ha hb=>by
  rcases keyIs_shape ha with ⟨i,rfl,rfl⟩ | ⟨x,t,rfl,rfl⟩
  ·rcases keyIs_shape hb with ⟨j,rfl,e⟩ | ⟨y,u,rfl,e⟩
   ·injection e with e1; rw [e1]
   ·exact nomatch e
  ·rcases keyIs_shape hb with ⟨j,rfl,e⟩ | ⟨y,u,rfl,e⟩
   ·exact nomatch e
   ·injection e with e1 _; rw [e1]
 byValue:=fun k v h=>by
  rcases keyIs_shape h with ⟨i,rfl,rfl⟩ | ⟨x,t,rfl,rfl⟩ <;> rfl
 pyHash:=fun hv h=>by
  rcases keyIs_shape hv with ⟨i,rfl,rfl⟩ | ⟨x,t,rfl,rfl⟩
  ·exact wpAny_pyHash_bool h
  ·exact wpAny_pyHash_str h
 eqBool:=fun hu hv h=>by
  rcases keyIs_shape hu with ⟨i,rfl,rfl⟩ | ⟨x,t,rfl,rfl⟩
  ·rcases keyIs_shape hv with ⟨j,rfl,rfl⟩ | ⟨y,u,rfl,rfl⟩
   ·rw [key_ll] at h; exact SeqAt.EqAt.bool_bool i j _ _ _ _ h
   ·rw [key_lr] at h; exact SeqAt.EqAt.bool_str i y u _ _ _ _ h
  ·rcases keyIs_shape hv with ⟨j,rfl,rfl⟩ | ⟨y,u,rfl,rfl⟩
   ·rw [key_rl] at h; exact SeqAt.EqAt.str_bool x t j _ _ _ _ h
   ·rw [key_rr] at h; exact wpAny_eqBool_str h
 «strs»:=fun k x t v h=>by
  rcases keyIs_shape h with ⟨i,rfl,e⟩ | ⟨y,u,rfl,e⟩
  ·exact nomatch e
  ·injection e with e1 _
   subst e1
   cases v <;> rfl
theorem mixKind_bool (prog:Program) (w:World) (b:Bool):(mixKind prog w).is (.inl b) (.bool b)=true:=keyIs_bool b
theorem mixKind_str (prog:Program) (w:World) (x:Str) (t:Tok):(mixKind prog w).is (.inr x) (.str x t)=true:=keyIs_str x t
end L2
namespace L2
open PySem PySem.Spec PyProof.Rows
inductive V where
 | non | bl (b:Bool) | int (i:Int) | str (x:Str) | byt (b:Array UInt8) | flt (b:UInt64) | ref (a:Addr) | ty (n:String)
 deriving DecidableEq
def RelV:V->Value->Prop
 | .non,u=>u=Value.none
 | .bl b,u=>u=Value.bool b
 | .int i,u=>∃ t,u=Value.int i t
 | .str x,u=>∃ t,u=Value.str x t
 | .byt b,u=>∃ t,u=Value.bytes b t
 | .flt b,u=>∃ t,u=Value.float b t
 | .ref a,u=>u=Value.ref a
 | .ty n,u=>u=Value.type n
abbrev Vals:List V->List Value->Prop:=Paired RelV
theorem Vals.length {xs:List V}{us:List Value}(r:Vals xs us):xs.length=us.length:=Paired.length r
theorem Vals.get:∀ {xs:List V}{us:List Value}{i:Nat}{x:V},Vals xs us->xs[i]?=some x->∃ u,us[i]?=some u/\RelV x u
 | _,_,_,_,.nil,e=>by simp at e
 | _,_,0,_,.cons r _,e=>by simp at e; subst e; exact ⟨_,rfl,r⟩
 | _,_,i + 1,x,.cons _ t,e=>by
  obtain ⟨u,h1,h2⟩:=Vals.get (i:=i) (x:=x) t (by simpa using e)
  exact ⟨u,by simpa using h1,h2⟩
theorem Vals.set {x:V}{u:Value}(r:RelV x u):∀ {xs:List V}{us:List Value}(i:Nat),Vals xs us->Vals (xs.set i x) (us.set i u)
 | _,_,_,.nil=>.nil
 | _,_,0,.cons _ t=>.cons r t
 | _,_,i + 1,.cons q t=>.cons q (Vals.set r i t)
theorem Vals.append:∀ {xs ys:List V}{us ws:List Value},Vals xs us->Vals ys ws->Vals (xs ++ ys) (us ++ ws)
 | _,_,_,_,.nil,s=>s
 | _,_,_,_,.cons r t,s=>.cons r (Vals.append t s)
theorem Vals.take:∀ {xs:List V}{us:List Value}(n:Nat),Vals xs us->Vals (xs.take n) (us.take n)
 | _,_,0,_=>.nil
 | _,_,_ + 1,.nil=>.nil
 | _,_,n + 1,.cons r t=>.cons r (Vals.take n t)
theorem Vals.drop:∀ {xs:List V}{us:List Value}(n:Nat),Vals xs us->Vals (xs.drop n) (us.drop n)
 | _,_,0,r=>r
 | _,_,_ + 1,.nil=>.nil
 | _,_,n + 1,.cons _ t=>Vals.drop n t
def RelO:Option V->Option Value->Prop
 | some v,some u=>RelV v u
 | none,none=>True
 | _,_=>False
def KV {κ:Type}:List (κ × V)->List (κ × Value)->Prop:=Paired fun (p:κ × V) (q:κ × Value)=>p.1=q.1/\RelV p.2 q.2
def kV:Key->V
 | .inl b=>.bl b
 | .inr x=>.str x
inductive HO where
 | lst (xs:List V)
 | tup (xs:List V)
 | dK (kvs:List (Key × V)) | dT (kvs:List (List Key × V))
 | set (S:Int->Bool) (n:Nat)
 | ins (C dx:Addr) (fs:List (Str × V))
 | own (x:Addr)
 | xd (fs:List (Str × V))
 | met (f x:Addr)
 | rng (lo hi:Int)
 | frz (o:Obj) (u:HO)
 | tbl (ps:Array Value)
 | ext (φ:Heap->Prop)
abbrev Hp:=Addr->Option HO
def upd (H:Hp) (a:Addr) (o:HO):Hp:=fun b=>if b=a then some o else H b
theorem upd_same {H:Hp}{a:Addr}{o:HO}:upd H a o a=some o:=by unfold upd; rw [if_pos rfl]
theorem upd_ne {H:Hp}{a b:Addr}{o:HO}(h:b≠a):upd H a o b=H b:=by unfold upd; rw [if_neg h]
theorem upd_upd {H:Hp}{a:Addr}{o u:HO}:upd (upd H a o) a u=upd H a u:=by
 funext b; unfold upd; split <;> rfl
def TupN (h:Heap) (a:Addr) (items:Array Value):Prop:=∃ o,h.get? a=some o/\o.cls=.type "tuple"/\o.dict=none/\∃ n,o.data=.seq items n
theorem TupN.isTup {h:Heap}{a:Addr}{items:Array Value}(x:TupN h a items):IsTup h a items:=let ⟨o,e,c,_,n,d⟩:=x; ⟨o,e,c,n,d⟩
theorem TupN.lt {h:Heap}{a:Addr}{items:Array Value}(x:TupN h a items):a < h.objs.size:=let ⟨o,e,_⟩:=x; Heap.lt_size e
theorem TupN.new (h:Heap) (items:Array Value):TupN (h.push { cls:=.type "tuple",data:=.seq items }) h.objs.size items:=⟨_,Heap.get?_push_size _ rfl,rfl,rfl,_,rfl⟩
theorem ne_of {H:Hp}{a b:Addr}{o u:HO}(h:H a=some o) (h':H b=some u) (d:o≠u):a≠b:=by
 intro e; subst e; rw [h] at h'; exact d (Option.some.inj h')
theorem ne_of_none {H:Hp}{a b:Addr}{o:HO}(h:H a=some o) (h':H b=none):a≠b:=by
 intro e; subst e; rw [h] at h'; cases h'
section
variable (P:Program) (w:World)
def ObjOk (H:Hp) (h:Heap) (a:Addr):HO->Prop
 | .lst xs=>xs.length<=sizeLine/\∃ (its:List Value) (n:Nat),Vals xs its/\h.get? a=some { cls:=.type "list",data:=.seq its.toArray n }
 | .tup xs=>xs.length<=sizeLine/\∃ its:List Value,Vals xs its/\TupN h a its.toArray
 | .dK kvs=>kvs.length<=sizeLine/\(a == sysModules)=false/\∃ vs,KV kvs vs/\h.DictOf (mixKind P w) a vs
 | .dT kvs=>kvs.length<=sizeLine/\(a == sysModules)=false/\∃ xs:List (List Key × Addr × Value),
   Paired (fun (p:List Key × V) (q:List Key × Addr × Value)=>p.1=q.1/\H q.2.1=some (.tup (p.1.map kV))/\RelV p.2 q.2.2) kvs xs /\
   ∃ o es ep,h.get? a=some o/\o.ExactDict/\o.data=.dict es ep/\es.toList=xs.map (entryOfKey (tupleKind (mixKind P w)))/\(xs.map (·.1)).Nodup
 | .set S n=>h.SetOf (intKind P w) a S n
 | .ins C dx fs=>H dx=some (.own a)/\fs.length<=1000/\dx≠a/\h.get? a=some (PySem.W.instObj C dx) /\
   ∃ mA,h.Ns1 dx mA/\(∀ f,RelO (fs.lookup f) (mA f))/\PySem.Within mA (fs.map (·.1))
 | .own _=>∃ o,h.get? a=some o
 | .xd fs=>∃ mA,h.Ns1 a mA/\∀ f,RelO (fs.lookup f) (mA f)
 | .rng lo hi=>∃ t u v,h.get? a=some { cls:=.type "range",data:=.fields #[.int lo t,.int hi u,.int 1 v] }
 | .frz o u=>h.get? a=some o/\ObjOk H h a u
 | .tbl ps=>h.get? a=some { cls:=.none,data:=.fields ps }
 | .met f x=>h.get? a=some (PySem.W.methodObj (.ref f) (.ref x))
 | .ext φ=>φ h/\(∃ o,h.get? a=some o)/\∀ h1 h2:Heap,φ h1->(∀ o,h1.get? a=some o->h2.get? a=some o)->φ h2
def HOk (H:Hp) (h:Heap):Prop:=∀ a o,H a=some o->ObjOk P w H h a o
end
section
variable {P:Program}{w:World}{H H':Hp}{h h':Heap}{a:Addr}{o:HO}
theorem ObjOk.lt (x:ObjOk P w H h a o):a < h.objs.size:=by
 cases o with
 | lst xs=>obtain ⟨_,_,_,_,e⟩:=x; exact Heap.lt_size e
 | tup xs=>obtain ⟨_,_,_,p⟩:=x; exact p.lt
 | dK kvs=>obtain ⟨_,_,_,_,o,_,_,e,_⟩:=x; exact Heap.lt_size e
 | dT kvs=>obtain ⟨_,_,_,_,o,_,_,e,_⟩:=x; exact Heap.lt_size e
 | set S n=>obtain ⟨o,_,_,_,e,_⟩:=x; exact Heap.lt_size e
 | ins C dx fs=>obtain ⟨_,_,_,e,_⟩:=x; exact Heap.lt_size e
 | own y=>obtain ⟨_,e⟩:=x; exact Heap.lt_size e
 | xd fs=>obtain ⟨_,⟨_,_,_,e,_⟩,_⟩:=x; exact Heap.lt_size e
 | rng lo hi=>obtain ⟨_,_,_,e⟩:=x; exact Heap.lt_size e
 | frz ob u=>obtain ⟨e,_⟩:=x; exact Heap.lt_size e
 | tbl ps=>exact Heap.lt_size (show h.get? a=some _ from x)
 | met f y=>exact Heap.lt_size (show h.get? a=some _ from x)
 | ext φ=>obtain ⟨_,⟨_,e⟩,_⟩:=x; exact Heap.lt_size e
theorem Paired.mapP {α β:Type}{F G:α->β->Prop}:∀ {l₁:List α}{l₂:List β},Paired F l₁ l₂->(∀ a b,F a b->G a b)->Paired G l₁ l₂
 | _,_,.nil,_=>.nil
 | _,_,.cons r t,f=>.cons (f _ _ r) (Paired.mapP t f)
theorem ObjOk.stay (x:ObjOk P w H h a o) (k:∀ b u,(b=a\/H b=some (.own a))->h.get? b=some u->h'.get? b=some u)
  (ho:∀ b,H b=some (.own a)->H' b=some (.own a)) (ht:∀ b xs,H b=some (.tup xs)->H' b=some (.tup xs)):ObjOk P w H' h' a o:=by
 induction o with
 | lst xs=>obtain ⟨z,its,n,r,e⟩:=x; exact ⟨z,its,n,r,k _ _ (.inl rfl) e⟩
 | tup xs=>obtain ⟨z,its,r,ob,e,c⟩:=x; exact ⟨z,its,r,ob,k _ _ (.inl rfl) e,c⟩
 | dK kvs=>obtain ⟨z,y,vs,r,ob,es,ep,e,c⟩:=x; exact ⟨z,y,vs,r,ob,es,ep,k _ _ (.inl rfl) e,c⟩
 | dT kvs =>
  obtain ⟨z,y,xs,r,ob,es,ep,e,c⟩:=x
  exact ⟨z,y,xs,Paired.mapP r fun p q z=>⟨z.1,ht _ _ z.2.1,z.2.2⟩,ob,es,ep,k _ _ (.inl rfl) e,c⟩
 | set S n=>obtain ⟨ob,es,ep,t,e,c⟩:=x; exact ⟨ob,es,ep,t,k _ _ (.inl rfl) e,c⟩
 | ins C dx fs =>
  obtain ⟨d,z,ne,e,mA,⟨od,es,ep,e2,c⟩,r⟩:=x
  exact ⟨ho _ d,z,ne,k _ _ (.inl rfl) e,mA,⟨od,es,ep,k _ _ (.inr d) e2,c⟩,r⟩
 | own y=>obtain ⟨ob,e⟩:=x; exact ⟨ob,k _ _ (.inl rfl) e⟩
 | xd fs=>obtain ⟨mA,⟨od,es,ep,e,c⟩,r⟩:=x; exact ⟨mA,⟨od,es,ep,k _ _ (.inl rfl) e,c⟩,r⟩
 | rng lo hi=>obtain ⟨t,u,v,e⟩:=x; exact ⟨t,u,v,k _ _ (.inl rfl) e⟩
 | frz ob u ih=>obtain ⟨e,q⟩:=x; exact ⟨k _ _ (.inl rfl) e,ih q⟩
 | tbl ps =>
  have e:h.get? a=some { cls:=.none,data:=.fields ps }:=x
  show h'.get? a=some { cls:=.none,data:=.fields ps }
  exact k a _ (.inl rfl) e
 | met f y =>
  have e:h.get? a=some (PySem.W.methodObj (.ref f) (.ref y)):=x
  show h'.get? a=some (PySem.W.methodObj (.ref f) (.ref y))
  exact k a _ (.inl rfl) e
 | ext φ=>obtain ⟨p,⟨o,e⟩,st⟩:=x; exact ⟨st _ _ p fun o q=>k _ _ (.inl rfl) q,⟨o,k _ _ (.inl rfl) e⟩,st⟩
theorem HOk.lt (x:HOk P w H h) (e:H a=some o):a < h.objs.size:=(x a o e).lt
theorem HOk.fresh (x:HOk P w H h) (e:h.objs.size<=a):H a=none:=by
 cases q:H a with
 | none=>rfl
 | some u=>exact absurd (Nat.lt_of_lt_of_le (x.lt q) e) (Nat.lt_irrefl _)
theorem HOk.kept (x:HOk P w H h) (k:∀ b u,h.get? b=some u->h'.get? b=some u):HOk P w H h':=fun a o e =>
 (x a o e).stay (fun b u _ q=>k b u q) (fun _ q=>q) fun _ _ q=>q
theorem HOk.laid (x:HOk P w H h) (k:∀ b u,h.get? b=some u->h'.get? b=some u) (hp:h.objs.size<=a) (new:ObjOk P w (upd H a o) h' a o):HOk P w (upd H a o) h':=fun b u e=>by
 have hn:=x.fresh hp
 by_cases hb:b=a
 ·subst hb; rw [upd_same] at e; cases e; exact new
 ·rw [upd_ne hb] at e
  exact (x b u e).stay (fun c v _ q=>k c v q) (fun c q=>by rw [upd_ne (ne_of_none q hn)]; exact q) fun c xs q=>by rw [upd_ne (ne_of_none q hn)]; exact q
end
def Rd (H:Hp) (a:Addr) (u:HO):Prop:=H a=some u\/∃ o,H a=some (.frz o u)
theorem Rd.ok {P:Program}{w:World}{H:Hp}{h:Heap}{a:Addr}{u:HO}(r:Rd H a u) (x:HOk P w H h):ObjOk P w H h a u:=by
 rcases r with r | ⟨o,r⟩
 ·exact x a u r
 ·obtain ⟨_,q⟩:=x a _ r
  exact q
def Mut:Option HO->Prop
 | some (.lst _)=>True
 | some (.dK _)=>True
 | some (.dT _)=>True
 | some (.set _ _)=>True
 | some (.ins _ _ _)=>True
 | some (.ext _)=>True
 | _=>False
section
variable {P:Program}{w:World}{H:Hp}{h h':Heap}{x e:Addr}{o':HO}
theorem HOk.write (ok:HOk P w H h) (mu:Mut (H x)) (he:e=x\/H e=some (.own x)) (k:∀ b u,b≠e->h.get? b=some u->h'.get? b=some u) (heo:∃ u,h'.get? e=some u)
  (new:ObjOk P w (upd H x o') h' x o'):HOk P w (upd H x o') h':=fun b u q=>by
 have nown:∀ c y,H c=some (.own y)->c≠x:=fun c y r z=>by subst z; rw [r] at mu; exact mu
 have ntup:∀ c xs,H c=some (.tup xs)->c≠x:=fun c xs r z=>by subst z; rw [r] at mu; exact mu
 by_cases hb:b=x
 ·subst hb; rw [upd_same] at q; cases q; exact new
 ·rw [upd_ne hb] at q
  by_cases hbe:b=e
  ·have q':H b=some (.own x):=by
    rcases he with z | z
    ·exact absurd (hbe.trans z) hb
    ·rw [hbe]; exact z
   rw [q] at q'; cases q'
   obtain ⟨v,hv⟩:=heo
   exact ⟨v,by rw [hbe]; exact hv⟩
  ·refine (ok b u q).stay (fun c v hc r=>k c v ?_ r) (fun c r=>by rw [upd_ne (nown c b r)]; exact r) fun c xs r=>by rw [upd_ne (ntup c xs r)]; exact r
   rcases hc with rfl | hc
   ·exact hbe
   ·rintro rfl
    rcases he with z | z
    ·exact nown c b hc z
    ·rw [hc] at z; cases z; exact hb rfl
end
structure Un (fs ex:List Addr) (H H':Hp) (h h':Heap):Prop where
 keep:∀ b o,h.get? b=some o->H b=none->b ∉ fs->b ∉ ex->h'.get? b=some o
 slot:∀ b o,h.get? b=some o->H b=none->b∈fs->b ∉ ex->∃ sl,h'.get? b=some { o with slots:=sl }
 free:∀ b o,h.get? b=some o->H b=none->b ∉ ex->H' b=none
 there:∀ b o,h.get? b=some o->b ∉ ex->∃ o',h'.get? b=some o'
 tups:∀ b xs,H b=some (.tup xs)->H' b=some (.tup xs)
 frzs:∀ b o u,H b=some (.frz o u)->H' b=some (.frz o u)
 tbls:∀ b ps,H b=some (.tbl ps)->∃ more,H' b=some (.tbl (ps ++ more))
section
variable {fs fs' ex ex':List Addr}{H H1 H2:Hp}{h h1 h2 h':Heap}{a x e:Addr}{o:HO}
theorem Un.any (u:Un fs ex H H1 h h1) {b:Addr}{ob:Obj}(q:h.get? b=some ob) (n:H b=none) (hx:b ∉ ex):∃ sl,h1.get? b=some { ob with slots:=sl }:=by
 by_cases hb:b∈fs
 ·exact u.slot b ob q n hb hx
 ·exact ⟨ob.slots,u.keep b ob q n hb hx⟩
theorem Un.trans (a:Un fs ex H H1 h h1) (b:Un fs ex H1 H2 h1 h2):Un fs ex H H2 h h2 where
 keep:=fun c ob q n hc hx=>b.keep c ob (a.keep c ob q n hc hx) (a.free c ob q n hx) hc hx
 slot:=fun c ob q n hc hx=>by
  obtain ⟨sl,e1⟩:=a.slot c ob q n hc hx
  obtain ⟨sl',e2⟩:=b.slot c _ e1 (a.free c ob q n hx) hc hx
  exact ⟨sl',e2⟩
 free:=fun c ob q n hx=>by
  obtain ⟨o',e1⟩:=a.there c ob q hx
  exact b.free c o' e1 (a.free c ob q n hx) hx
 there:=fun c ob q hx=>by
  obtain ⟨o',e1⟩:=a.there c ob q hx
  exact b.there c o' e1 hx
 tups:=fun c xs q=>b.tups c xs (a.tups c xs q)
 frzs:=fun c ob xs q=>b.frzs c ob xs (a.frzs c ob xs q)
 tbls:=fun c ps q=>by
  obtain ⟨m1,e1⟩:=a.tbls c ps q
  obtain ⟨m2,e2⟩:=b.tbls c _ e1
  exact ⟨m1 ++ m2,by rw [e2,Array.append_assoc]⟩
theorem Un.kept (k:∀ b u,h.get? b=some u->h'.get? b=some u):Un fs ex H H h h' :=
 ⟨fun b ob q _ _ _=>k b ob q,fun b ob q _ _ _=>⟨ob.slots,k b ob q⟩,fun _ _ _ n _=>n,fun b ob q _=>⟨ob,k b ob q⟩,fun _ _ q=>q,fun _ _ _ q=>q,fun _ ps q=>⟨#[],by rw [q]; simp⟩⟩
theorem Un.refl:Un fs ex H H h h:=Un.kept fun _ _ q=>q
theorem Un.laid (k:∀ b u,h.get? b=some u->h'.get? b=some u) (hp:h.objs.size<=a) (hn:H a=none):Un fs ex H (upd H a o) h h' where
 keep:=fun b u q _ _ _=>k b u q
 slot:=fun b u q _ _ _=>⟨u.slots,k b u q⟩
 free:=fun b u q n _=>by rw [upd_ne (Nat.ne_of_lt (Nat.lt_of_lt_of_le (Heap.lt_size q) hp))]; exact n
 there:=fun b u q _=>⟨u,k b u q⟩
 tups:=fun b xs q=>by rw [upd_ne (ne_of_none q hn)]; exact q
 frzs:=fun b u xs q=>by rw [upd_ne (ne_of_none q hn)]; exact q
 tbls:=fun b ps q=>⟨#[],by rw [upd_ne (ne_of_none q hn),q]; simp⟩
theorem Un.write (mu:Mut (H x)) (he:e=x\/H e=some (.own x)) (k:∀ b u,b≠e->h.get? b=some u->h'.get? b=some u) (heo:∃ u,h'.get? e=some u):Un fs ex H (upd H x o) h h':=by
 have hx:∀ b,H b=none->b≠x:=fun b n z=>by subst z; rw [n] at mu; exact mu
 have hb:∀ b,H b=none->b≠e:=fun b n z=>by
  subst z
  rcases he with r | r
  ·exact hx b n r
  ·rw [n] at r; cases r
 have hm:∀ b u,H b=some u->¬ Mut (some u)->b≠x:=fun b u q nm z=>by subst z; rw [q] at mu; exact nm mu
 refine ⟨fun b u q n _ _=>k b u (hb b n) q,fun b u q n _ _=>⟨u.slots,k b u (hb b n) q⟩,fun b u q n _=>by rw [upd_ne (hx b n)]; exact n,fun b u q _=>?_,
  fun b xs q=>by rw [upd_ne (hm b _ q fun z=>z)]; exact q,fun b u xs q=>by rw [upd_ne (hm b _ q fun z=>z)]; exact q,fun b ps q=>⟨#[],by rw [upd_ne (hm b _ q fun z=>z),q]; simp⟩⟩
 by_cases hbe:b=e
 ·subst hbe; exact heo
 ·exact ⟨u,k b u hbe q⟩
end
def trk (h:Heap) (H:Hp):List Addr:=(List.range h.objs.size).filter fun a=>(H a).isSome
def hidT (h:Heap) (H:Hp):Heap:=PySem.W.hideAll h (trk h H)
theorem hidT_size (h:Heap) (H:Hp):(hidT h H).objs.size=h.objs.size:=PySem.W.hideAll_size _ _
theorem hidT_get {h:Heap}{H:Hp}{b:Addr}{o:Obj}(e:h.get? b=some o) (n:H b=none):(hidT h H).get? b=some o :=
 PySem.W.hideAll_get _ e fun hm=>by
  have q:(H b).isSome=true:=(List.mem_filter.mp hm).2
  rw [n] at q; simp at q
theorem of_hidT {h:Heap}{H:Hp}{b:Addr}{o:Obj}(e:(hidT h H).get? b=some o):h.get? b=some o/\H b=none:=by
 have e':h.get? b=some o:=PySem.W.of_hideAll (trk h H) e
 refine ⟨e',?_⟩
 cases q:H b with
 | none=>rfl
 | some x =>
  have hm:b∈trk h H:=List.mem_filter.mpr ⟨List.mem_range.mpr (Heap.lt_size e'),by simp [q]⟩
  have z:(hidT h H).get? b=none:=PySem.W.hideAll_none (trk h H) hm
  rw [z] at e; cases e
def allNews (g h:Heap) (L:Addr):List (Addr × Obj):=(List.range h.objs.size).filterMap fun a=>if a=L\/(g.get? a).isSome=true then none else (h.get? a).map fun o=>(a,o)
def rest (g h:Heap) (L d:Addr):List (Addr × Obj):=(allNews g h L).filter fun p=>decide (p.1≠d)
end L2
namespace L2
open PySem PySem.Spec PyProof.Rows
structure Mod (K:PySem.W.Frag) (mg:Str->Option Value) (base:Heap):Prop where
 kin:K.In base
 glob:base.Ns mainGlobals mg
 blt:∃ mb,base.Ns builtinsNs mb/\∀ x:Str,x ≠ "__name__"->mb x=bootBuiltins x
 nolimit:base.NoLimit
structure Cx where
 prog:Program
 w:World
 K:PySem.W.Frag
 mg:Str->Option Value
 base:Heap
 A:Around
 N:List Str
 s₀:Shared
 H₀:Hp
 env:Env
 outer:List Env
 stack:List Env
 ex:List Addr
 fn:Str->Bool
 calm:Bool
 pn:List (Addr × Obj)
 xe:Value->Shared->Prop
def frs (l:List Env):List Addr:=l.filterMap (·.frame)
abbrev Cx.fs (X:Cx):List Addr:=frs X.outer
def Vis (sc:Scope) (x:Str):Prop:=sc.names.lookup x=some .local\/sc.names.lookup x=some .cell\/sc.names.lookup x=some .free
def Loc (sc:Scope) (x:Str):Prop:=sc.names.lookup x=some .local\/sc.names.lookup x=some .cell
def Look (env:Env) (h:Heap) (m:Str->Option Value) (x:Str) (u:Value):Prop :=
 (env.kindOf x=some .local/\m x=some u)\/((env.kindOf x=some .cell\/env.kindOf x=some .free)/\∃ c,env.cells.lookup x=some c/\h.IsCell c (some u))
structure Cx.Ok (X:Cx):Prop where
 mod:Mod X.K X.mg X.base
 kind:X.env.scope.kind=.function
 glob:X.env.globals=mainGlobals
 blt:X.env.builtins=builtinsNs
 above:X.s₀.heap.objs.size<=X.env.locals
 inj:∀ x y c,X.env.cells.lookup x=some c->X.env.cells.lookup y=some c->x=y
 has:∀ x,(X.env.kindOf x=some .cell\/X.env.kindOf x=some .free)->∃ c,X.env.cells.lookup x=some c
 cab:∀ x c,X.fn x=true->X.env.cells.lookup x=some c->X.s₀.heap.objs.size<=c
 hd:X.calm=true->X.A.handled=none
 frames:X.A.frames=some X.stack
 stk:X.stack=X.outer\/(X.stack=X.env :: X.outer/\X.env.frame=some X.env.locals)
 exf:∀ b∈X.ex,b≠X.env.locals/\∀ x c,X.env.cells.lookup x=some c->c≠b
 bs:∀ b o,X.base.get? b=some o->X.s₀.heap.get? b=some o/\X.H₀ b=none
 bsz:X.base.objs.size<=X.s₀.heap.objs.size
 noex:∀ b o,X.base.get? b=some o->b ∉ X.ex
 exfs:∀ b∈X.ex,b ∉ X.fs
 funs:X.s₀.heap.FunFrames X.base X.outer
 frf:∀ b∈X.fs,X.H₀ b=none
structure Inv (X:Cx) (pins:List (Addr × Obj)) (σ:List (Option V)) (H:Hp) (s:Shared):Prop where
 ok:X.Ok
 os:s.os=X.s₀.os
 bare:AllBare s.gens
 base:Un X.fs X.ex X.H₀ H X.s₀.heap s.heap
 loc:∃ m,s.heap.Ns X.env.locals m/\∀ (i:Nat) (x:Str) (v:V),X.N[i]?=some x->σ[i]?=some (some v)->Vis X.env.scope x->∃ u,RelV v u/\Look X.env s.heap m x u
 cell:∀ x c,X.env.cells.lookup x=some c->∃ v,s.heap.IsCell c v
 free:H X.env.locals=none
 freeC:∀ x c,X.env.cells.lookup x=some c->H c=none
 pin:∀ p∈X.pn ++ pins,s.heap.get? p.1=some p.2/\H p.1=none/\p.1≠X.env.locals/\p.1 ∉ X.fs/\∀ v,p.2.data≠.cell v
 hok:HOk X.prog X.w H s.heap
 len:σ.length=X.N.length
section
variable {X:Cx}{pins:List (Addr × Obj)}{σ:List (Option V)}{H H':Hp}{s:Shared}{h':Heap}
theorem Cx.Ok.nofr (ok:X.Ok) {b:Addr}{o:Obj}(e:X.base.get? b=some o):b ∉ X.fs:=fun hb=>by
 have:=(ok.funs.mem hb).1
 rw [e] at this; cases this
theorem Inv.bs (I:Inv X pins σ H s):∀ b o,X.base.get? b=some o->s.heap.get? b=some o/\H b=none:=fun b o e =>
 ⟨I.base.keep b o (I.ok.bs b o e).1 (I.ok.bs b o e).2 (I.ok.nofr e) (I.ok.noex b o e),I.base.free b o (I.ok.bs b o e).1 (I.ok.bs b o e).2 (I.ok.noex b o e)⟩
theorem Inv.bk (I:Inv X pins σ H s):∀ b o,X.base.get? b=some o->s.heap.get? b=some o:=fun b o e=>(I.bs b o e).1
theorem Inv.mod (I:Inv X pins σ H s):Mod X.K X.mg X.base:=I.ok.mod
theorem Inv.kIn (I:Inv X pins σ H s):X.K.In s.heap:=I.ok.mod.kin.keeps I.bk
theorem Inv.lt (I:Inv X pins σ H s):X.env.locals < s.heap.objs.size:=let ⟨_,hn,_⟩:=I.loc; hn.lt
theorem Inv.sz (I:Inv X pins σ H s):X.s₀.heap.objs.size<=s.heap.objs.size:=Nat.le_trans I.ok.above (Nat.le_of_lt I.lt)
theorem Inv.nofs (I:Inv X pins σ H s) {a:Addr}(h:s.heap.objs.size<=a):a ∉ X.fs:=fun hb=>by
 obtain ⟨_,o,ho,_⟩:=I.ok.funs.mem hb
 exact absurd (Nat.lt_of_lt_of_le (Heap.lt_size ho) (Nat.le_trans I.sz h)) (Nat.lt_irrefl _)
theorem Inv.cne (I:Inv X pins σ H s):∀ x c,X.env.cells.lookup x=some c->c≠X.env.locals:=fun x c e z=>by
 obtain ⟨v,o,ho,hd⟩:=I.cell x c e
 obtain ⟨m,⟨o',es,ep,ho',hd',_⟩,_⟩:=I.loc
 rw [z,ho'] at ho; cases ho; rw [hd'] at hd; cases hd
theorem Inv.funs (I:Inv X pins σ H s):s.heap.FunFrames X.base X.outer:=by
 have all:∀ (l:List Env),(∀ b∈frs l,b∈X.fs)->X.s₀.heap.FunFrames X.base l->s.heap.FunFrames X.base l:=by
  intro l
  induction l with
  | nil=>intro _ _; trivial
  | cons env r ih =>
   intro hs hl
   obtain ⟨hk,⟨L,o,hf,hn,ho,hd⟩,hr⟩:=hl
   have hL:L∈X.fs:=hs L (by unfold frs; rw [List.filterMap_cons,hf]; exact List.mem_cons_self)
   obtain ⟨sl,e⟩:=I.base.slot L o ho (I.ok.frf L hL) hL fun z=>I.ok.exfs L z hL
   exact ⟨hk,⟨L,_,hf,hn,e,hd⟩,ih (fun b hb=>hs b (by unfold frs; rw [List.filterMap_cons,hf]; exact List.mem_cons_of_mem _ hb)) hr⟩
 exact all X.outer (fun _ hb=>hb) I.ok.funs
theorem Inv.stack (I:Inv X pins σ H s):s.heap.FunFrames X.base X.stack:=by
 rcases I.ok.stk with e | ⟨e,hf⟩
 ·rw [e]; exact I.funs
 ·rw [e]
  obtain ⟨m,hn,_⟩:=I.loc
  refine .cons (by rw [I.ok.kind]; decide) hf hn ?_ I.funs
  exact Heap.get?_none_of_le (Nat.le_trans I.ok.bsz I.ok.above)
theorem Inv.stkSub (I:Inv X pins σ H s):∀ b∈frs X.stack,b∈X.env.locals :: X.fs:=fun b hb=>by
 rcases I.ok.stk with e | ⟨e,hf⟩
 ·rw [e] at hb; exact List.mem_cons_of_mem _ hb
 ·rw [e] at hb
  unfold frs at hb
  rw [List.filterMap_cons,hf] at hb
  exact hb
theorem Inv.stkFree (I:Inv X pins σ H s):∀ b∈frs X.stack,H b=none:=fun b hb=>by
 rcases List.mem_cons.mp (I.stkSub b hb) with e | hb
 ·rw [e]; exact I.free
 ·obtain ⟨_,o,ho,_⟩:=I.ok.funs.mem hb
  exact I.base.free b o ho (I.ok.frf b hb) fun z=>I.ok.exfs b z hb
theorem Inv.step {g':Array GenState}{t':Nat}{d':Drawn}{ch:List Addr}(I:Inv X pins σ H s)
  (hch:∀ b∈ch,(b∈X.ex\/X.s₀.heap.objs.size<=b)/\b≠X.env.locals/\(∀ x c,X.env.cells.lookup x=some c->c≠b)/\∀ p∈X.pn ++ pins,p.1≠b)
  (keep:∀ b o,b≠X.env.locals->b ∉ X.fs->b ∉ ch->s.heap.get? b=some o->H b=none->h'.get? b=some o)
  (slot:∀ b o,b≠X.env.locals->b∈X.fs->b ∉ ch->s.heap.get? b=some o->H b=none->∃ sl,h'.get? b=some { o with slots:=sl }) (free:∀ b o,b ∉ ch->s.heap.get? b=some o->H b=none->H' b=none)
  (there:∀ b o,b ∉ ch->s.heap.get? b=some o->∃ o',h'.get? b=some o')
  (tups:∀ b xs,H b=some (.tup xs)->H' b=some (.tup xs)) (frzs:∀ b o u,H b=some (.frz o u)->H' b=some (.frz o u)) (tbls:∀ b ps,H b=some (.tbl ps)->∃ more,H' b=some (.tbl (ps ++ more)))
  (ns:∀ m,s.heap.Ns X.env.locals m->h'.Ns X.env.locals m) (hok:HOk X.prog X.w H' h') (hg:AllBare g') :
  Inv X pins σ H' { s with heap:=h',gens:=g',drawn:=d',toks:=t' }:=by
 have neL:∀ b o,X.s₀.heap.get? b=some o->b≠X.env.locals:=fun b o e=>Nat.ne_of_lt (Nat.lt_of_lt_of_le (Heap.lt_size e) I.ok.above)
 have neC:∀ b o,X.s₀.heap.get? b=some o->b ∉ X.ex->b ∉ ch:=fun b o e hx hb=>by
  rcases (hch b hb).1 with z | z
  ·exact hx z
  ·exact absurd (Nat.lt_of_lt_of_le (Heap.lt_size e) z) (Nat.lt_irrefl _)
 have cellK:∀ x c,X.env.cells.lookup x=some c->∀ v,s.heap.IsCell c v->h'.IsCell c v:=fun x c e v ⟨o,ho,hd⟩=>by
  have nch:c ∉ ch:=fun z=>(hch c z).2.2.1 x c e rfl
  by_cases hc:c∈X.fs
  ·obtain ⟨sl,q⟩:=slot c o (I.cne x c e) hc nch ho (I.freeC x c e)
   exact ⟨_,q,hd⟩
  ·exact ⟨o,keep c o (I.cne x c e) hc nch ho (I.freeC x c e),hd⟩
 refine ⟨I.ok,I.os,hg,⟨fun b o e n hb hx=>?_,fun b o e n hb hx=>?_,fun b o e n hx=>?_,fun b o e hx=>?_,fun b xs e=>tups b xs (I.base.tups b xs e),fun b o xs e=>frzs b o xs (I.base.frzs b o xs e),fun b ps e=>?_⟩,?_,fun x c e=>?_,?_,fun x c e=>?_,fun p hp=>?_,hok,I.len⟩
 ·exact keep b o (neL b o e) hb (neC b o e hx) (I.base.keep b o e n hb hx) (I.base.free b o e n hx)
 ·obtain ⟨sl,e1⟩:=I.base.slot b o e n hb hx
  obtain ⟨sl',e2⟩:=slot b _ (neL b o e) hb (neC b o e hx) e1 (I.base.free b o e n hx)
  exact ⟨sl',e2⟩
 ·obtain ⟨o',e1⟩:=I.base.there b o e hx
  exact free b o' (neC b o e hx) e1 (I.base.free b o e n hx)
 ·obtain ⟨o',e1⟩:=I.base.there b o e hx
  exact there b o' (neC b o e hx) e1
 ·obtain ⟨m1,e1⟩:=I.base.tbls b ps e
  obtain ⟨m2,e2⟩:=tbls b _ e1
  exact ⟨m1 ++ m2,by rw [e2,Array.append_assoc]⟩
 ·obtain ⟨m,hn,hl⟩:=I.loc
  refine ⟨m,ns m hn,fun i x v e1 e2 e3=>?_⟩
  obtain ⟨u,r,l⟩:=hl i x v e1 e2 e3
  refine ⟨u,r,?_⟩
  rcases l with l | ⟨k,c,e,z⟩
  ·exact .inl l
  ·exact .inr ⟨k,c,e,cellK x c e _ z⟩
 ·obtain ⟨v,z⟩:=I.cell x c e
  exact ⟨v,cellK x c e v z⟩
 ·obtain ⟨m,⟨o,_,_,ho,_⟩,_⟩:=I.loc
  exact free _ o (fun z=>(hch _ z).2.1 rfl) ho I.free
 ·obtain ⟨v,o,ho,hd⟩:=I.cell x c e
  exact free c o (fun z=>(hch c z).2.2.1 x c e rfl) ho (I.freeC x c e)
 ·obtain ⟨e,n,ne,nf,d⟩:=I.pin p hp
  have nch:p.1 ∉ ch:=fun z=>(hch p.1 z).2.2.2 p hp rfl
  exact ⟨keep p.1 p.2 ne nf nch e n,free p.1 p.2 nch e n,ne,nf,d⟩
theorem Inv.un {t':Nat}(I:Inv X pins σ H s) (u:Un X.fs [] H H' s.heap h') (hok:HOk X.prog X.w H' h'):Inv X pins σ H' { s with heap:=h',toks:=t' }:=by
 obtain ⟨m,⟨o,es,ep,ho,r⟩,_⟩:=id I.loc
 obtain ⟨sl,hL⟩:=u.any ho I.free (by simp)
 exact I.step (g':=s.gens) (d':=s.drawn) (ch:=[]) (fun _ z=>nomatch z) (fun b o _ hb _ e n=>u.keep b o e n hb (by simp)) (fun b o _ hb _ e n=>u.slot b o e n hb (by simp)) (fun b o _ e n=>u.free b o e n (by simp)) (fun b o _ e=>u.there b o e (by simp)) u.tups u.frzs u.tbls (fun m' hm=>by
  obtain ⟨o',es',ep',ho',r'⟩:=hm
  rw [ho] at ho'; cases ho'
  exact ⟨_,es',ep',hL,r'⟩) hok I.bare
theorem Inv.call {g':Array GenState}{t':Nat}{d':Drawn}{ch:List Addr}(I:Inv X pins σ H s) (u:Un (frs X.stack) ch H H' s.heap h') (hok:HOk X.prog X.w H' h') (hg:AllBare g')
  (hch:∀ b∈ch,(b∈X.ex\/X.s₀.heap.objs.size<=b)/\b≠X.env.locals/\(∀ x c,X.env.cells.lookup x=some c->c≠b)/\∀ p∈X.pn ++ pins,p.1≠b) :
  Inv X pins σ H' { s with heap:=h',gens:=g',drawn:=d',toks:=t' }:=by
 obtain ⟨m,⟨o,es,ep,ho,r⟩,_⟩:=id I.loc
 obtain ⟨sl,hL⟩:=u.any ho I.free fun z=>(hch _ z).2.1 rfl
 exact I.step (ch:=ch) hch (fun b o hL hb hc e n=>u.keep b o e n (fun z=>(List.mem_cons.mp (I.stkSub b z)).elim hL hb) hc) (fun b o _ _ hc e n=>u.any e n hc) (fun b o hc e n=>u.free b o e n hc) (fun b o hc e=>u.there b o e hc) u.tups u.frzs u.tbls (fun m' hm=>by
  obtain ⟨o',es',ep',ho',r'⟩:=hm
  rw [ho] at ho'; cases ho'
  exact ⟨_,es',ep',hL,r'⟩) hok hg
theorem Inv.turned {t':Nat}{it:Addr}(I:Inv X pins σ H s) (k:∀ b o,b≠it->s.heap.get? b=some o->h'.get? b=some o) (hn:H it=none) (hL:it≠X.env.locals)
  (h1:it∈X.ex\/X.s₀.heap.objs.size<=it) (h2:∀ x c,X.env.cells.lookup x=some c->c≠it) (h3:∀ p∈X.pn ++ pins,p.1≠it):Inv X pins σ H { s with heap:=h',toks:=t' }:=by
 have nit:∀ b u,H b=some u->b≠it:=fun b u e z=>by rw [z,hn] at e; cases e
 refine I.step (g':=s.gens) (d':=s.drawn) (ch:=[it]) (fun b hb=>?_) (fun b o _ _ hc e _=>k b o (fun z=>hc (by simp [z])) e) (fun b o _ _ hc e _=>⟨o.slots,k b o (fun z=>hc (by simp [z])) e⟩) (fun _ _ _ _ n=>n)
  (fun b o hc e=>⟨o,k b o (fun z=>hc (by simp [z])) e⟩) (fun _ _ e=>e) (fun _ _ _ e=>e) (fun b ps e=>⟨#[],by rw [e]; simp⟩) (fun m hm=>?_) (fun b u e=>?_) I.bare
 ·have e:b=it:=by simpa using hb
  subst e
  exact ⟨h1,hL,h2,h3⟩
 ·obtain ⟨o,es,ep,ho,r⟩:=hm
  exact ⟨o,es,ep,k _ o (Ne.symm hL) ho,r⟩
 ·refine (I.hok b u e).stay (fun c v hc q=>k c v ?_ q) (fun _ q=>q) fun _ _ q=>q
  rcases hc with z | z
  ·rw [z]; exact nit b u e
  ·exact nit c _ z
theorem Inv.tok (I:Inv X pins σ H s) (t:Nat):Inv X pins σ H { s with toks:=t }:=I.un (h':=s.heap) (t':=t) Un.refl I.hok
theorem Inv.kept {t':Nat}(I:Inv X pins σ H s) (k:∀ b u,s.heap.get? b=some u->h'.get? b=some u):Inv X pins σ H { s with heap:=h',toks:=t' }:=I.un (Un.kept k) (I.hok.kept k)
theorem Inv.laid {a:Addr}{o:HO}{t':Nat}(I:Inv X pins σ H s) (k:∀ b u,s.heap.get? b=some u->h'.get? b=some u) (hp:s.heap.objs.size<=a) (new:ObjOk X.prog X.w (upd H a o) h' a o) :
  Inv X pins σ (upd H a o) { s with heap:=h',toks:=t' }:=I.un (Un.laid k hp (I.hok.fresh hp)) (I.hok.laid k hp new)
theorem Inv.write {x e:Addr}{o:HO}{t':Nat}(I:Inv X pins σ H s) (mu:Mut (H x)) (he:e=x\/H e=some (.own x)) (k:∀ b u,b≠e->s.heap.get? b=some u->h'.get? b=some u) (heo:∃ u,h'.get? e=some u)
  (new:ObjOk X.prog X.w (upd H x o) h' x o):Inv X pins σ (upd H x o) { s with heap:=h',toks:=t' }:=I.un (Un.write mu he k heo) (I.hok.write mu he k heo new)
theorem Inv.pins_of {pins':List (Addr × Obj)}(I:Inv X pins σ H s) (h:∀ p∈pins',s.heap.get? p.1=some p.2/\H p.1=none/\p.1≠X.env.locals/\p.1 ∉ X.fs/\∀ v,p.2.data≠.cell v):Inv X pins' σ H s :=
 ⟨I.ok,I.os,I.bare,I.base,I.loc,I.cell,I.free,I.freeC,fun p hp=>(List.mem_append.mp hp).elim (fun z=>I.pin p (List.mem_append_left _ z)) (h p),I.hok,I.len⟩
theorem nodup_ix {N:List Str}(hN:N.Nodup) {i j:Nat}{x:Str}(a:N[i]?=some x) (b:N[j]?=some x):i=j:=by
 obtain ⟨h1,e1⟩:=List.getElem?_eq_some_iff.mp a
 obtain ⟨h2,e2⟩:=List.getElem?_eq_some_iff.mp b
 exact (List.getElem_inj hN).mp (e1.trans e2.symm)
theorem store_ok2 {M:Model}{A:Around}{E:Value->Shared->Prop}{i:Nat}{x:Str}{v:V}{u:Value}{Q:Unit->Shared->Prop}(I:Inv X pins σ H s) (hN:X.N.Nodup) (hi:X.N[i]?=some x) (hx:Loc X.env.scope x) (r:RelV v u)
  (h:∀ s',Inv X pins (σ.set i (some v)) H s'->(∃ a,Heap.SameBut a s.heap s'.heap/\(a=X.env.locals\/X.env.cells.lookup x=some a))->Q () s') (hf:X.fn x=true\/X.env.scope.names.lookup x=some .local:=by first | exact .inl rfl | exact .inr rfl | assumption):wpAny M A (storeName X.env x u) Q E s:=by
 obtain ⟨m,hn,hl⟩:=id I.loc
 have hcls:(X.env.scope.kind == .class || (X.env.scope.kind == .module && X.env.locals != X.env.globals))=false:=by rw [I.ok.kind]; rfl
 have hiσ:i < σ.length:=by rw [I.len]; exact (List.getElem?_eq_some_iff.mp hi).1
 have cne:=I.cne
 have tracked:∀ {a:Addr} {h':Heap},(∃ o,s.heap.get? a=some o/\H a=none)->Heap.SameBut a s.heap h'->HOk X.prog X.w H h':=fun {a h'} ha hs b ob e=>by
  obtain ⟨_,_,hfree⟩:=ha
  refine (I.hok b ob e).stay (fun c w' hc q=>(hs.2 c ?_).trans q) (fun _ q=>q) fun _ _ q=>q
  rintro rfl
  rcases hc with rfl | hc
  ·rw [hfree] at e; cases e
  ·rw [hfree] at hc; cases hc
 rcases hx with hk | hk
 ·refine wpAny_storeName_local hk hn (fun h' hn' hs=>?_) hcls
  obtain ⟨oL,_,_,hoL,_⟩:=id hn
  refine h _ ⟨I.ok,I.os,I.bare,⟨fun b o e n hb hx=>?_,fun b o e n hb hx=>?_,I.base.free,fun b o e hx=>?_,I.base.tups,I.base.frzs,I.base.tbls⟩,⟨_,hn',fun j y v' e1 e2 e3=>?_⟩,fun y c e=>?_,I.free,I.freeC,fun p hp=>?_,tracked ⟨oL,hoL,I.free⟩ hs,by simpa using I.len⟩ ⟨_,hs,.inl rfl⟩
  ·exact (hs.2 b (Nat.ne_of_lt (Nat.lt_of_lt_of_le (Heap.lt_size e) I.ok.above))).trans (I.base.keep b o e n hb hx)
  ·obtain ⟨sl,e1⟩:=I.base.slot b o e n hb hx
   exact ⟨sl,(hs.2 b (Nat.ne_of_lt (Nat.lt_of_lt_of_le (Heap.lt_size e) I.ok.above))).trans e1⟩
  ·obtain ⟨o',e1⟩:=I.base.there b o e hx
   exact ⟨o',(hs.2 b (Nat.ne_of_lt (Nat.lt_of_lt_of_le (Heap.lt_size e) I.ok.above))).trans e1⟩
  ·by_cases hj:j=i
   ·subst hj
    rw [hi] at e1; cases e1
    rw [List.getElem?_set_self hiσ] at e2
    cases e2
    exact ⟨u,r,.inl ⟨hk,by simp⟩⟩
   ·rw [List.getElem?_set_ne (Ne.symm hj)] at e2
    obtain ⟨u',r',q⟩:=hl j y v' e1 e2 e3
    refine ⟨u',r',?_⟩
    rcases q with ⟨k,e⟩ | ⟨k,c,e,z⟩
    ·refine .inl ⟨k,?_⟩
     have:y≠x:=fun e=>hj (nodup_ix hN e1 (e ▸ hi))
     simp [this,e]
    ·exact .inr ⟨k,c,e,z.sameBut hs (cne y c e)⟩
  ·obtain ⟨w',z⟩:=I.cell y c e
   exact ⟨w',z.sameBut hs (cne y c e)⟩
  ·obtain ⟨e,n,ne,nf,d⟩:=I.pin p hp
   exact ⟨(hs.2 p.1 ne).trans e,n,ne,nf,d⟩
 ·have hfn:X.fn x=true:=by
   rcases hf with z | z
   ·exact z
   ·rw [z] at hk; cases hk
  obtain ⟨c,hc⟩:=I.ok.has x (.inl hk)
  obtain ⟨w',z⟩:=I.cell x c hc
  refine wpAny_storeName_cell I.ok.kind hk hc z (fun h' hc' hs=>?_)
  obtain ⟨oc,hoc,hocd⟩:=id z
  refine h { s with heap:=h' } ⟨I.ok,I.os,I.bare,⟨fun b o e n hb hx=>?_,fun b o e n hb hx=>?_,I.base.free,fun b o e hx=>?_,I.base.tups,I.base.frzs,I.base.tbls⟩,⟨m,hn.sameBut hs (Ne.symm (cne x c hc)),fun j y v' e1 e2 e3=>?_⟩,fun y c' e=>?_,I.free,I.freeC,fun p hp=>?_,tracked ⟨oc,hoc,I.freeC x c hc⟩ hs,by simpa using I.len⟩ ⟨c,hs,.inr hc⟩
  ·exact (hs.2 b (Nat.ne_of_lt (Nat.lt_of_lt_of_le (Heap.lt_size e) (I.ok.cab x c hfn hc)))).trans (I.base.keep b o e n hb hx)
  ·obtain ⟨sl,e1⟩:=I.base.slot b o e n hb hx
   exact ⟨sl,(hs.2 b (Nat.ne_of_lt (Nat.lt_of_lt_of_le (Heap.lt_size e) (I.ok.cab x c hfn hc)))).trans e1⟩
  ·obtain ⟨o',e1⟩:=I.base.there b o e hx
   exact ⟨o',(hs.2 b (Nat.ne_of_lt (Nat.lt_of_lt_of_le (Heap.lt_size e) (I.ok.cab x c hfn hc)))).trans e1⟩
  ·by_cases hj:j=i
   ·subst hj
    rw [hi] at e1; cases e1
    rw [List.getElem?_set_self hiσ] at e2
    cases e2
    exact ⟨u,r,.inr ⟨.inl hk,c,hc,hc'⟩⟩
   ·rw [List.getElem?_set_ne (Ne.symm hj)] at e2
    obtain ⟨u',r',q⟩:=hl j y v' e1 e2 e3
    refine ⟨u',r',?_⟩
    rcases q with q | ⟨k,c',e,z'⟩
    ·exact .inl q
    ·refine .inr ⟨k,c',e,z'.sameBut hs ?_⟩
     rintro rfl
     exact hj (nodup_ix hN e1 (I.ok.inj _ _ _ e hc ▸ hi))
  ·by_cases hcc:c'=c
   ·subst hcc; exact ⟨_,hc'⟩
   ·obtain ⟨w2,z2⟩:=I.cell y c' e
    exact ⟨w2,z2.sameBut hs hcc⟩
  ·obtain ⟨e,n,ne,nf,d⟩:=I.pin p hp
   refine ⟨(hs.2 p.1 ?_).trans e,n,ne,nf,d⟩
   intro q
   rw [q,hoc] at e
   have q':oc=p.2:=Option.some.inj e
   exact d w' (by rw [<- q']; exact hocd)
theorem store_ok {M:Model}{A:Around}{E:Value->Shared->Prop}{i:Nat}{x:Str}{v:V}{u:Value}{Q:Unit->Shared->Prop}(I:Inv X pins σ H s) (hN:X.N.Nodup) (hi:X.N[i]?=some x) (hx:Loc X.env.scope x) (r:RelV v u)
  (h:∀ s',Inv X pins (σ.set i (some v)) H s'->Q () s') (hf:X.fn x=true\/X.env.scope.names.lookup x=some .local:=by first | exact .inl rfl | exact .inr rfl | assumption):wpAny M A (storeName X.env x u) Q E s :=
 store_ok2 I hN hi hx r (fun s' I' _=>h s' I') hf
theorem Inv.call' {s':Shared}{ch:List Addr}(I:Inv X pins σ H s) (ho:s'.os=s.os) (u:Un (frs X.stack) ch H H' s.heap s'.heap) (hok:HOk X.prog X.w H' s'.heap) (hg:AllBare s'.gens)
  (hch:∀ b∈ch,(b∈X.ex\/X.s₀.heap.objs.size<=b)/\b≠X.env.locals/\(∀ x c,X.env.cells.lookup x=some c->c≠b)/\∀ p∈X.pn ++ pins,p.1≠b):Inv X pins σ H' s':=by
 obtain ⟨h',g',d',t',o'⟩:=s'
 have e:o'=s.os:=ho
 subst e
 exact I.call (g':=g') (t':=t') (d':=d') u hok hg hch
end
abbrev XK:=Value->Option Addr->Hp->Prop
abbrev St:=List (Option V)
abbrev VK:=V->Hp->Prop
abbrev TE:=St->Hp->VK->Prop
abbrev TT:=St->Hp->(Bool->Hp->Prop)->Prop
abbrev TA:=St->Hp->(List V->Hp->Prop)->Prop
structure Ends where
 nx:St->Hp->Prop
 rt:VK
 bk:St->Hp->Prop:=fun _ _=>False
 ct:St->Hp->Prop:=fun _ _=>False
abbrev TS:=Ends->St->Hp->Prop
def EP (X:Cx) (pins:List (Addr × Obj)) (σ:St) (Q:VK) (u:Value) (s':Shared):Prop:=∃ v H',Inv X pins σ H' s'/\RelV v u/\Q v H'
def TP (X:Cx) (pins:List (Addr × Obj)) (σ:St) (Q:Bool->Hp->Prop) (b:Bool) (s':Shared):Prop:=∃ H',Inv X pins σ H' s'/\Q b H'
def AP (X:Cx) (pins:List (Addr × Obj)) (σ:St) (Q:List V->Hp->Prop) (us:List Value) (s':Shared):Prop:=∃ vs H',Inv X pins σ H' s'/\Vals vs us/\Q vs H'
def SP (X:Cx) (pins:List (Addr × Obj)) (D:Ends) (f:Flow) (s':Shared):Prop :=
 match f with
 | .next=>∃ σ' H',Inv X pins σ' H' s'/\D.nx σ' H'
 | .brk=>∃ σ' H',Inv X pins σ' H' s'/\D.bk σ' H'
 | .cont=>∃ σ' H',Inv X pins σ' H' s'/\D.ct σ' H'
 | .ret u=>∃ v σ' H',Inv X pins σ' H' s'/\RelV v u/\D.rt v H'
def PE (X:Cx) (e:Expr) (t:TE):Prop :=
 ∀ (pins:List (Addr × Obj)) (s:Shared) (σ:St) (H:Hp) (Q:VK),Inv X pins σ H s->t σ H Q->wpAny (model X.prog X.w) X.A (eval e X.env) (EP X pins σ Q) X.xe s
def PT (X:Cx) (e:Expr) (t:TT):Prop :=
 ∀ (pins:List (Addr × Obj)) (s:Shared) (σ:St) (H:Hp) (Q:Bool->Hp->Prop),Inv X pins σ H s->t σ H Q->wpAny (model X.prog X.w) X.A (isTrue e X.env (eval e X.env)) (TP X pins σ Q) X.xe s
def PW (X:Cx) (e:Expr) (t:TT):Prop :=
 ∀ (whole:Sem Value) (pins:List (Addr × Obj)) (s:Shared) (σ:St) (H:Hp) (Q:Bool->Hp->Prop),Inv X pins σ H s->t σ H Q->wpAny (model X.prog X.w) X.A (isTrue e X.env whole) (TP X pins σ Q) X.xe s
theorem PW.pt {X:Cx}{e:Expr}{t:TT}(h:PW X e t):PT X e t:=h _
def PA (X:Cx) (es:List Expr) (t:TA):Prop :=
 ∀ (pos:Pos) (pins:List (Addr × Obj)) (s:Shared) (σ:St) (H:Hp) (Q:List V->Hp->Prop),Inv X pins σ H s->t σ H Q->wpAny (model X.prog X.w) X.A (spliced (backTo pos (starEach es X.env))) (AP X pins σ Q) X.xe s
def PS (X:Cx) (st:Stmt) (t:TS):Prop :=
 ∀ (pins:List (Addr × Obj)) (s:Shared) (σ:St) (H:Hp) (D:Ends),Inv X pins σ H s->t D σ H->wpAny (model X.prog X.w) X.A (exec st X.env) (SP X pins D) X.xe s
def PSs (X:Cx) (st:List Stmt) (t:TS):Prop :=
 ∀ (pins:List (Addr × Obj)) (s:Shared) (σ:St) (H:Hp) (D:Ends),Inv X pins σ H s->t D σ H->wpAny (model X.prog X.w) X.A (execs st X.env) (SP X pins D) X.xe s
theorem thn {α:Type}{t:Sem α}{Q Q':α->Shared->Prop}{M:Model}{A:Around}{E:Value->Shared->Prop}{s:Shared}(h:wpAny M A t Q E s) (hQ:∀ a s,Q a s->Q' a s):wpAny M A t Q' E s:=wpAny_mono h hQ fun _ _ x=>x
end L2
namespace L2
open PySem PySem.Spec PyProof.Rows
section
variable {X:Cx}
theorem bin {a b:Expr}{ta tb:TE}(ha:PE X a ta) (hb:PE X b tb) {pins:List (Addr × Obj)}{s:Shared}{σ:St}{H:Hp}{R:V->V->Hp->Prop}(I:Inv X pins σ H s) (h:ta σ H fun x H1=>tb σ H1 fun y H2=>R x y H2)
  {α:Type} {Q:α->Shared->Prop} {f:Value->Value->Sem α}
  (hf:∀ v u s2 x y H2,Inv X pins σ H2 s2->RelV x v->RelV y u->R x y H2->wpAny (model X.prog X.w) X.A (f v u) Q X.xe s2) :
  wpAny (model X.prog X.w) X.A (eval a X.env) (fun v s₁=>wpAny (model X.prog X.w) X.A (eval b X.env) (fun u s₂=>wpAny (model X.prog X.w) X.A (f v u) Q X.xe s₂) X.xe s₁) X.xe s:=by
 refine thn (ha pins s σ H _ I h) fun v s1 ⟨x,H1,I1,r1,q1⟩=>?_
 refine thn (hb pins s1 σ H1 _ I1 q1) fun u s2 ⟨y,H2,I2,r2,q2⟩=>?_
 exact hf v u s2 x y H2 I2 r1 r2 q2
def tVar (i:Nat):TE:=fun σ H Q=>∃ v,σ[i]?=some (some v)/\Q v H
def tC (v:V):TE:=fun _ H Q=>Q v H
theorem pe_var {i:Nat}{x:Str}{pos:Pos}(hN:X.N[i]?=some x) (hv:Vis X.env.scope x) (hd:(x == ("__debug__":Str))=false:=by decide) (hcd:(x == ("__classdict__":Str))=false:=by decide):PE X (.Name x pos) (tVar i):=by
 intro pins s σ H Q I h
 obtain ⟨v,e,h⟩:=h
 obtain ⟨m,hn,hl⟩:=I.loc
 obtain ⟨u,r,l⟩:=hl i x v hN e hv
 have fin:EP X pins σ Q u s:=⟨v,H,I,r,h⟩
 rcases l with ⟨hk,hm⟩ | ⟨hk,c,hc,hcell⟩
 ·exact wpAny_Name (wpAny_loadName_local I.ok.kind hk hn hm fin) hd
 ·rcases hk with hk | hk
  ·exact wpAny_Name (wpAny_loadName_cell I.ok.kind hk hc hcell fin) hd
  ·exact wpAny_Name (wpAny_loadName_free I.ok.kind hk hc hcell fin hcd) hd
theorem pe_int {i j pos}:PE X (.Constant (.int i) j pos) (tC (.int i)):=fun _ _ _ H _ I h=>wpAny_Constant_int ⟨.int i,H,I.tok _,⟨_,rfl⟩,h⟩
theorem pe_bl {b j pos}:PE X (.Constant (.bool b) j pos) (tC (.bl b)):=fun _ _ _ H _ I h=>Constant_bool ⟨.bl b,H,I,rfl,h⟩
theorem pe_non {j pos}:PE X (.Constant .none j pos) (tC .non):=fun _ _ _ H _ I h=>Constant_none ⟨.non,H,I,rfl,h⟩
theorem pe_str {x j pos}:PE X (.Constant (.str x) j pos) (tC (.str x)):=fun _ _ _ H _ I h=>Calls.Constant_str ⟨.str x,H,I.tok _,⟨_,rfl⟩,h⟩
def Gl (X:Cx) (x:Str):Prop:=X.env.kindOf x=some .globalImplicit
theorem ld_glob {E:Value->Shared->Prop}{pins:List (Addr × Obj)}{s:Shared}{σ:St}{H:Hp}{x:Str}{u:Value}{pos:Pos}{Q:Value->Shared->Prop}(I:Inv X pins σ H s) (hg:Gl X x) (hm:X.mg x=some u) (h:Q u s)
  (hd:(x == ("__debug__":Str))=false:=by decide):wpAny (model X.prog X.w) X.A (eval (.Name x pos) X.env) Q E s :=
 Calls.Name_function_global I.ok.kind hg (Calls.loadGlobal_global (by rw [I.ok.glob]; exact I.mod.glob.keeps I.bk) hm h) hd
theorem ld_blt {E:Value->Shared->Prop}{pins:List (Addr × Obj)}{s:Shared}{σ:St}{H:Hp}{x:Str}{u:Value}{pos:Pos}{Q:Value->Shared->Prop}(I:Inv X pins σ H s) (hg:Gl X x) (hm:X.mg x=none) (hv:bootBuiltins x=some u) (h:Q u s)
  (hn:x ≠ "__name__":=by decide) (hd:(x == ("__debug__":Str))=false:=by decide):wpAny (model X.prog X.w) X.A (eval (.Name x pos) X.env) Q E s:=by
 obtain ⟨mb,h1,h2⟩:=I.mod.blt
 exact Calls.Name_function_global I.ok.kind hg (Calls.loadGlobal_builtin (by rw [I.ok.glob]; exact I.mod.glob.keeps I.bk) hm (by rw [I.ok.blt]; exact h1.keeps I.bk) ((h2 x hn).trans hv) h) hd
theorem pe_glob {x:Str}{v:V}{u:Value}{pos:Pos}(hg:Gl X x) (hm:X.mg x=some u) (r:RelV v u) (hd:(x == ("__debug__":Str))=false:=by decide):PE X (.Name x pos) (tC v) :=
 fun _ _ _ H _ I h=>ld_glob I hg hm ⟨v,H,I,r,h⟩ hd
theorem pe_bltn {x:Str}{v:V}{u:Value}{pos:Pos}(hg:Gl X x) (hm:X.mg x=none) (hv:bootBuiltins x=some u) (r:RelV v u) (hn:x ≠ "__name__":=by decide) (hd:(x == ("__debug__":Str))=false:=by decide):PE X (.Name x pos) (tC v) :=
 fun _ _ _ H _ I h=>ld_blt I hg hm hv ⟨v,H,I,r,h⟩ hn hd
variable {a b:Expr}{ta tb:TE}{pos:Pos}
def PC (X:Cx) (op:CmpOp) (a b:Expr) (t:TE):Prop :=
 ∀ (pins:List (Addr × Obj)) (s:Shared) (σ:St) (H:Hp) (Q:VK),Inv X pins σ H s->t σ H Q ->
  wpAny (model X.prog X.w) X.A (eval a X.env) (fun v s₁=>wpAny (model X.prog X.w) X.A (eval b X.env) (fun u s₂=>wpAny (model X.prog X.w) X.A (compareOp op v u) (EP X pins σ Q) X.xe s₂) X.xe s₁) X.xe s
theorem nobehind (b:Expr) {op:CmpOp}(h:op≠.In) (h2:op≠.NotIn):behindInMarks op b=false:=by
 have e1:(op == CmpOp.In)=false:=by cases op <;> first | rfl | exact absurd rfl h
 have e2:(op == CmpOp.NotIn)=false:=by cases op <;> first | rfl | exact absurd rfl h2
 cases b <;> simp [behindInMarks,e1,e2]
def tB (t:TE):TT:=fun σ H Q=>t σ H fun x H1=>∃ c,x=.bl c/\Q c H1
theorem pt_cmp {op:CmpOp}{t:TE}(h:PC X op a b t) (h1:behindInMarks op b=false:=by first | exact nobehind _ (by decide) (by decide) | rfl):PT X (.Compare a [op] [b] pos) (tB t):=by
 intro pins s σ H Q I hw
 refine wpAny_isTrue_Compare1 (thn (h pins s σ H _ I hw) fun v s1 h1=>thn h1 fun u s2 h2=>thn h2 fun c s3 ⟨x,H1,I1,r1,q1⟩=>?_) h1
 obtain ⟨d,rfl,q⟩:=q1
 cases r1
 exact wpAny_truthy_bool ⟨H1,I1,q⟩
theorem pt_val {e:Expr}{t:TE}(h:PE X e t) (he:∀ whole,isTrue e X.env whole=(do let v <- whole; standAt e.pos; holding [v] (truthy v)):=by intro _; rfl):PT X e (tB t):=by
 intro pins s σ H Q I hw
 refine isTrue_plain (thn (h pins s σ H _ I hw) fun v s1 ⟨x,H1,I1,r1,q1⟩=>?_) (he _)
 obtain ⟨d,rfl,q⟩:=q1
 cases r1
 exact wpAny_truthy_bool ⟨H1,I1,q⟩
variable {tA tB':TT}{rest:List Expr}
def tOr (t u:TT):TT:=fun σ H Q=>t σ H fun c H1=>if c=true then Q true H1 else u σ H1 Q
def tNot (t:TT):TT:=fun σ H Q=>t σ H fun c H1=>Q (!c) H1
theorem pw_and1 (ha:PT X a tA):PW X (.BoolOp .And [a] pos) tA:=by
 intro wh pins s σ H Q I h
 refine isTrue_and (thn (ha pins s σ H Q I h) fun c s1 e=>?_)
 cases c with
 | true=>exact isTrue_and_nil e
 | false=>exact e
theorem pw_or1 (ha:PT X a tA):PW X (.BoolOp .Or [a] pos) tA:=by
 intro wh pins s σ H Q I h
 refine isTrue_or (thn (ha pins s σ H Q I h) fun c s1 e=>?_)
 cases c with
 | false=>exact isTrue_or_nil e
 | true=>exact e
theorem pw_or (ha:PT X a tA) (hb:PW X (.BoolOp .Or (b :: rest) pos) tB'):PW X (.BoolOp .Or (a :: b :: rest) pos) (tOr tA tB'):=by
 intro wh pins s σ H Q I h
 refine isTrue_or (thn (ha pins s σ H _ I h) fun c s1 ⟨H1,I1,q1⟩=>?_)
 cases c with
 | true=>exact ⟨H1,I1,q1⟩
 | false=>exact hb wh pins s1 σ H1 Q I1 q1
theorem pt_not (ha:PT X a tA):PT X (.UnaryOp .Not a pos) (tNot tA):=by
 intro pins s σ H Q I h
 exact isTrue_not (ha pins s σ H (fun c H1=>Q (!c) H1) I h)
def tAndV (ta tb:TE):TE:=fun σ H Q=>ta σ H fun x H1=>∃ c,x=.bl c/\if c=true then tb σ H1 Q else Q (.bl false) H1
def tNotV (ta:TE):TE:=fun σ H Q=>ta σ H fun x H1=>∃ c,x=.bl c/\Q (.bl (!c)) H1
theorem pe_one {op}{t:TE}(h:PE X a t):PE X (.BoolOp op [a] pos) t:=fun pins s σ H Q I hw=>BoolOp_one (h pins s σ H Q I hw)
theorem pe_and (ha:PE X a ta) (hb:PE X (.BoolOp .And (b :: rest) pos) tb):PE X (.BoolOp .And (a :: b :: rest) pos) (tAndV ta tb):=by
 intro pins s σ H Q I h
 refine BoolOp_and (thn (ha pins s σ H _ I h) fun v s1 ⟨x,H1,I1,r1,q1⟩=>?_)
 obtain ⟨c,rfl,q1⟩:=q1
 cases r1
 refine wpAny_truthy_bool ?_
 cases c with
 | true=>exact hb pins s1 σ H1 Q I1 q1
 | false=>exact ⟨.bl false,H1,I1,rfl,q1⟩
theorem pe_not (ha:PE X a ta):PE X (.UnaryOp .Not a pos) (tNotV ta):=by
 intro pins s σ H Q I h
 refine UnaryOp_ (thn (ha pins s σ H _ I h) fun v s1 ⟨x,H1,I1,r1,q1⟩=>?_)
 obtain ⟨c,rfl,q1⟩:=q1
 cases r1
 exact not_of (wpAny_truthy_bool ⟨.bl (!c),H1,I1,rfl,q1⟩)
end
end L2
namespace L2
open PySem PySem.Spec PyProof.Rows
def SqL (K:PySem.W.Frag) (H:Hp) (a:Addr) (xs:List V):Prop :=
 Rd H a (.lst xs) \/
  ∃ (o:Obj) (its:Array Value) (n:Nat),K.lookup a=some o/\o.cls=.type "list"/\o.dict=none/\o.data=.seq its n/\its.size<=sizeLine/\Vals xs its.toList
def SqT (K:PySem.W.Frag) (H:Hp) (a:Addr) (xs:List V):Prop :=
 Rd H a (.tup xs) \/
  ∃ (o:Obj) (its:Array Value) (n:Nat),K.lookup a=some o/\o.cls=.type "tuple"/\o.data=.seq its n/\its.size<=sizeLine/\Vals xs its.toList
def absV:Value->Option V
 | .none=>some .non
 | .bool b=>some (.bl b)
 | .int i _=>some (.int i)
 | .str x _=>some (.str x)
 | .bytes b _=>some (.byt b)
 | .float b _=>some (.flt b)
 | .ref a=>some (.ref a)
 | .type n=>some (.ty n)
 | _=>none
theorem RelV.abs {x:V}{u:Value}(r:RelV x u):absV u=some x:=by
 cases x with
 | non=>cases r; rfl
 | bl _=>cases r; rfl
 | int _=>obtain ⟨t,rfl⟩:=r; rfl
 | str _=>obtain ⟨t,rfl⟩:=r; rfl
 | byt _=>obtain ⟨t,rfl⟩:=r; rfl
 | flt _=>obtain ⟨t,rfl⟩:=r; rfl
 | ref _=>cases r; rfl
 | ty _=>cases r; rfl
theorem RelV.inj {x y:V}{u:Value}(r:RelV x u) (q:RelV y u):x=y:=Option.some.inj (r.abs.symm.trans q.abs)
theorem Vals.inj:∀ {xs ys:List V}{us:List Value},Vals xs us->Vals ys us->xs=ys
 | _,_,_,.nil,.nil=>rfl
 | _,_,_,.cons r t,.cons r' t'=>by rw [r.inj r',Vals.inj t t']
section
variable {X:Cx}{pins:List (Addr × Obj)}{σ:St}{H:Hp}{s:Shared}{a:Addr}{xs ys:List V}
theorem SqL.of {K:PySem.W.Frag}(h:H a=some (.lst xs)):SqL K H a xs:=.inl (.inl h)
theorem SqT.of {K:PySem.W.Frag}(h:H a=some (.tup xs)):SqT K H a xs:=.inl (.inl h)
theorem Inv.list (I:Inv X pins σ H s) (h:SqL X.K H a xs):∃ its:List Value,Vals xs its/\PlainL s.heap a its.toArray/\xs.length<=sizeLine:=by
 rcases h with h | ⟨o,its,n,hk,hc,hd,hs,hz,r⟩
 ·obtain ⟨z,its,n,r,e⟩:=h.ok I.hok
  exact ⟨its,r,⟨_,n,e,rfl,rfl,rfl⟩,z⟩
 ·refine ⟨its.toList,r,⟨o,n,I.kIn a o hk,hc,hd,by simpa using hs⟩,?_⟩
  have e:=r.length
  simp only [Array.length_toList] at e
  omega
theorem Inv.tuple (I:Inv X pins σ H s) (h:SqT X.K H a xs):∃ its:List Value,Vals xs its/\IsTup s.heap a its.toArray/\xs.length<=sizeLine:=by
 rcases h with h | ⟨o,its,n,hk,hc,hs,hz,r⟩
 ·obtain ⟨z,its,r,p⟩:=h.ok I.hok
  exact ⟨its,r,p.isTup,z⟩
 ·refine ⟨its.toList,r,⟨o,I.kIn a o hk,hc,n,by simpa using hs⟩,?_⟩
  have e:=r.length
  simp only [Array.length_toList] at e
  omega
theorem Inv.list_inj (I:Inv X pins σ H s) (h:SqL X.K H a xs) (h':SqL X.K H a ys):xs=ys:=by
 obtain ⟨its,r,⟨o,n,e,_,_,d⟩,_⟩:=I.list h
 obtain ⟨its',r',⟨o',n',e',_,_,d'⟩,_⟩:=I.list h'
 rw [e] at e'; cases e'
 rw [d] at d'
 injection d' with d1 _
 have:its=its':=by simpa using congrArg Array.toList d1
 subst this
 exact r.inj r'
theorem Inv.tuple_inj (I:Inv X pins σ H s) (h:SqT X.K H a xs) (h':SqT X.K H a ys):xs=ys:=by
 obtain ⟨its,r,⟨o,e,_,n,d⟩,_⟩:=I.tuple h
 obtain ⟨its',r',⟨o',e',_,n',d'⟩,_⟩:=I.tuple h'
 rw [e] at e'; cases e'
 rw [d] at d'
 injection d' with d1 _
 have:its=its':=by simpa using congrArg Array.toList d1
 subst this
 exact r.inj r'
end
abbrev Cx.wish (X:Cx) (E:Value->Shared->Prop):Cx:={ X with xe:=E }
abbrev Cx.nox (X:Cx):Cx:=X.wish fun _ _=>False
theorem Cx.Ok.wish {X:Cx}(ok:X.Ok) (E:Value->Shared->Prop):(X.wish E).Ok :=
 ⟨ok.mod,ok.kind,ok.glob,ok.blt,ok.above,ok.inj,ok.has,ok.cab,ok.hd,ok.frames,ok.stk,ok.exf,ok.bs,ok.bsz,ok.noex,ok.exfs,ok.funs,ok.frf⟩
theorem Cx.Ok.unwish {X:Cx}{E:Value->Shared->Prop}(ok:(X.wish E).Ok):X.Ok :=
 ⟨ok.mod,ok.kind,ok.glob,ok.blt,ok.above,ok.inj,ok.has,ok.cab,ok.hd,ok.frames,ok.stk,ok.exf,ok.bs,ok.bsz,ok.noex,ok.exfs,ok.funs,ok.frf⟩
section
variable {X:Cx}{pins:List (Addr × Obj)}{σ:St}{H:Hp}{s:Shared}{E:Value->Shared->Prop}
theorem Inv.wish (I:Inv X pins σ H s) (E:Value->Shared->Prop):Inv (X.wish E) pins σ H s:=⟨I.ok.wish E,I.os,I.bare,I.base,I.loc,I.cell,I.free,I.freeC,I.pin,I.hok,I.len⟩
theorem Inv.unwish (I:Inv (X.wish E) pins σ H s):Inv X pins σ H s:=⟨I.ok.unwish,I.os,I.bare,I.base,I.loc,I.cell,I.free,I.freeC,I.pin,I.hok,I.len⟩
theorem SP.unwish {D:Ends}{f:Flow}{s':Shared}(h:SP (X.wish E) pins D f s'):SP X pins D f s':=by
 cases f with
 | next=>obtain ⟨σ',H',I,q⟩:=h; exact ⟨σ',H',I.unwish,q⟩
 | brk=>obtain ⟨σ',H',I,q⟩:=h; exact ⟨σ',H',I.unwish,q⟩
 | cont=>obtain ⟨σ',H',I,q⟩:=h; exact ⟨σ',H',I.unwish,q⟩
 | ret u=>obtain ⟨v,σ',H',I,r,q⟩:=h; exact ⟨v,σ',H',I.unwish,r,q⟩
theorem PSs.nox {st:List Stmt}{t:TS}(h:PSs X.nox st t):PSs X st t:=fun pins s σ H D I hw =>
 wpAny_mono (h pins s σ H D (I.wish _) hw) (fun _ _ q=>q.unwish) fun _ _ z=>False.elim z
end
section
variable {X:Cx}{st:Stmt}{rest:List Stmt}{t u:TS}{e:Expr}{te:TE}{pos:Pos}
def tNext:TS:=fun D σ H=>D.nx σ H
def tSeq (t u:TS):TS:=fun D σ H=>t { D with nx:=u D } σ H
theorem pss_nil:PSs X [] tNext:=fun _ _ σ H _ I h=>wpAny_execs_nil ⟨σ,H,I,h⟩
theorem pss_cons (h1:PS X st t) (h2:PSs X rest u):PSs X (st :: rest) (tSeq t u):=by
 intro pins s σ H D I h
 refine wpAny_execs_cons (thn (h1 pins s σ H { D with nx:=u D } I h) fun f s1 q=>?_)
 cases f with
 | next =>
  obtain ⟨σ',H',I',q⟩:=q
  exact h2 pins s1 σ' H' D I' q
 | ret v=>exact q
 | brk=>exact q
 | cont=>exact q
theorem pss_one (h1:PS X st t):PSs X [st] t:=by
 intro pins s σ H D I h
 refine wpAny_execs_cons (thn (h1 pins s σ H D I h) fun f s1 q=>?_)
 cases f with
 | next=>exact wpAny_execs_nil q
 | ret v=>exact q
 | brk=>exact q
 | cont=>exact q
theorem Inv.quiet {pins:List (Addr × Obj)}{σ:St}{H:Hp}{s:Shared}(I:Inv X pins σ H s):interactive X.env=false:=by simp [interactive,I.ok.kind]
def tDrop (te:TE):TS:=fun D σ H=>te σ H fun _ H1=>D.nx σ H1
theorem ps_expr (he:PE X e te) (hs:swapsWith e none pos.line X.env=pure false:=by rfl):PS X (.Expr e pos) (tDrop te):=by
 intro pins s σ H D I h
 exact wpAny_Expr_any (thn (he pins s σ H _ I h) fun v s1 ⟨x,H1,I1,r1,q1⟩=>⟨σ,H1,I1,q1⟩) I.quiet hs
def tRet (te:TE):TS:=fun D σ H=>te σ H D.rt
theorem ps_ret (he:PE X e te):PS X (.Return (some e) pos) (tRet te):=by
 intro pins s σ H D I h
 exact wpAny_Return_some (thn (he pins s σ H _ I h) fun v s1 ⟨x,H1,I1,r1,q1⟩=>⟨x,σ,H1,I1,r1,q1⟩)
def tIfS (c:TT) (t u:TS):TS:=fun D σ H=>c σ H fun b H1=>if b=true then t D σ H1 else u D σ H1
theorem ps_if {c:Expr}{a b:List Stmt}{tc:TT}(hc:PT X c tc) (ha:PSs X a t) (hb:PSs X b u):PS X (.If c a b pos) (tIfS tc t u):=by
 intro pins s σ H D I h
 refine wpAny_If (thn (hc pins s σ H _ I h) fun d s1 ⟨H1,I1,q1⟩=>?_)
 cases d with
 | true=>exact ha pins s1 σ H1 D I1 q1
 | false=>exact hb pins s1 σ H1 D I1 q1
def tNever:TS:=fun _ _ _=>False
theorem pss_never {sts:List Stmt}:PSs X sts tNever:=fun _ _ _ _ _ _ h=>h.elim
end
abbrev TG:=V->St->Hp->(St->Hp->Prop)->Prop
abbrev TGs:=List V->St->Hp->(St->Hp->Prop)->Prop
def PG (X:Cx) (target:Expr) (t:TG):Prop :=
 ∀ (pins:List (Addr × Obj)) (s:Shared) (σ:St) (H:Hp) (v:V) (u:Value) (Q:St->Hp->Prop),Inv X pins σ H s->RelV v u->t v σ H Q ->
  wpAny (model X.prog X.w) X.A (assign target X.env u) (fun _ s'=>∃ σ' H',Inv X pins σ' H' s'/\Q σ' H') X.xe s
def PGs (X:Cx) (ts:List Expr) (t:TGs):Prop :=
 ∀ (pins:List (Addr × Obj)) (s:Shared) (σ:St) (H:Hp) (vs:List V) (us:List Value) (Q:St->Hp->Prop),Inv X pins σ H s->Vals vs us->t vs σ H Q ->
  wpAny (model X.prog X.w) X.A (assignInOrder ((assignEach ts X.env).map (·.2)) us) (fun _ s'=>∃ σ' H',Inv X pins σ' H' s'/\Q σ' H') X.xe s
abbrev TSet:=V->V->V->Hp->(Hp->Prop)->Prop
def PSet (X:Cx) (t:TSet):Prop :=
 ∀ (pins:List (Addr × Obj)) (s:Shared) (σ:St) (H:Hp) (o i v:V) (ov iv u:Value) (Q:Hp->Prop),Inv X pins σ H s->RelV o ov->RelV i iv->RelV v u->t o i v H Q ->
  wpAny (model X.prog X.w) X.A (setItem ov iv u) (fun _ s'=>∃ H',Inv X pins σ H' s'/\Q H') X.xe s
section
variable {X:Cx}{pos:Pos}
def gName (i:Nat):TG:=fun v σ H Q=>Q (σ.set i (some v)) H
theorem pg_name {i:Nat}{x:Str}(hN:X.N.Nodup) (hi:X.N[i]?=some x) (hx:Loc X.env.scope x) (hf:X.fn x=true\/X.env.scope.names.lookup x=some .local:=by first | exact .inl rfl | exact .inr rfl | assumption):PG X (.Name x pos) (gName i):=by
 intro pins s σ H v u Q I r h
 exact wpAny_assign_Name (store_ok I hN hi hx r (fun s' I'=>⟨_,H,I',h⟩) hf)
def gNil:TGs:=fun vs σ H Q=>vs=[]/\Q σ H
def gCons (t:TG) (u:TGs):TGs:=fun vs σ H Q=>∃ v r,vs=v :: r/\t v σ H fun σ' H'=>u r σ' H' Q
theorem pgs_nil:PGs X [] gNil:=by
 intro pins s σ H vs us Q I r h
 obtain ⟨e,h⟩:=h
 subst e
 cases r
 exact assignInOrder_nil ⟨σ,H,I,h⟩
theorem pgs_cons {e:Expr}{es:List Expr}{t:TG}{u:TGs}(h1:PG X e t) (h2:PGs X es u)
  (hs:(assignEach (e :: es) X.env).map (·.2)=assign e X.env :: (assignEach es X.env).map (·.2):=by rfl):PGs X (e :: es) (gCons t u):=by
 intro pins s σ H vs us Q I r h
 obtain ⟨v,vr,e1,h⟩:=h
 subst e1
 cases r with
 | cons r rr =>
  rw [hs]
  refine assignInOrder_cons (thn (h1 pins s σ H _ _ _ I r h) fun _ s1 ⟨σ1,H1,I1,q1⟩=>?_)
  exact h2 pins s1 σ1 H1 _ _ Q I1 rr q1
def gTup (K:PySem.W.Frag) (n:Nat) (t:TGs):TG:=fun v σ H Q=>∃ a xs,v=.ref a/\SqT K H a xs/\xs.length=n/\t xs σ H Q
theorem pg_tup {es:List Expr}{k:Nat}{t:TGs}{n:Nat}(hc:X.calm=true) (h:PGs X es t)
  (hn:(assignEach es X.env).length=n:=by rfl) (hst:(assignEach es X.env).findIdx? (·.1)=none:=by rfl):PG X (.Tuple es k pos) (gTup X.K n t):=by
 intro pins s σ H v u Q I r hw
 obtain ⟨a,xs,e1,hq,hl,hw⟩:=hw
 subst e1
 cases r
 obtain ⟨its,rv,ht,hz⟩:=I.tuple hq
 refine assign_Tuple_tuple (I.ok.hd hc) ht (by simp [hn,<- hl,rv.length]) hst fun h' hx=>?_
 have I1:Inv X pins σ H { s with heap:=h' }:=I.kept (t':=s.toks) fun b o e=>hx b o (Nat.ne_of_lt (Heap.lt_size e)) e
 exact h pins _ σ H xs _ Q I1 (by simpa using rv) hw
def gSub (to ti:TE) (t:TSet):TG:=fun v σ H Q=>to σ H fun o H1=>ti σ H1 fun i H2=>t o i v H2 fun H3=>Q σ H3
theorem pg_sub {o i:Expr}{to ti:TE}{t:TSet}(ho:PE X o to) (hi:PE X i ti) (hs:PSet X t)
  (ha:∀ v,assign (.Subscript o i pos) X.env v=(do
   let ov <- holding [v] (eval o X.env)
   let iv <- holding [v,ov] (eval i X.env)
   standAt pos
   holding [v,ov,iv] (setItem ov iv v)
   release [v,ov,iv] []):=by intro _; rfl):PG X (.Subscript o i pos) (gSub to ti t):=by
 intro pins s σ H v u Q I r h
 rw [ha]
 refine wpAny_bind (wpAny_holding (thn (ho pins s σ H _ I h) fun ov s1 ⟨x,H1,I1,r1,q1⟩=>?_))
 refine wpAny_bind (wpAny_holding (thn (hi pins s1 σ H1 _ I1 q1) fun iv s2 ⟨y,H2,I2,r2,q2⟩=>?_))
 refine wpAny_bind (wpAny_standAt (wpAny_bind (wpAny_holding (thn (hs pins s2 σ H2 x y v ov iv u _ I2 r1 r2 r q2) fun _ s3 ⟨H3,I3,q3⟩=>?_))))
 exact wpAny_release ⟨σ,H3,I3,q3⟩
def tAsg (te:TE) (g:TG):TS:=fun D σ H=>te σ H fun x H1=>g x σ H1 D.nx
theorem ps_asg {tg e:Expr}{te:TE}{g:TG}(he:PE X e te) (hg:PG X tg g) (hs:swapsWithSole [tg] e pos.line X.env=pure false:=by rfl) (hw:swappedStores [tg] e X.env=pure none:=by rfl)
  (h1:(assignEach [tg] X.env).map (·.2)=[assign tg X.env]:=by rfl):PS X (.Assign [tg] e pos) (tAsg te g):=by
 intro pins s σ H D I h
 refine wpAny_Assign_stores (thn (he pins s σ H _ I h) fun v s1 ⟨x,H1,I1,r1,q1⟩=>?_) hs hw
 rw [h1]
 exact thn (hg pins s1 σ H1 x v _ I1 r1 q1) fun _ s2 q=>q
theorem ps_set {i:Nat}{x:Str}{e:Expr}{te:TE}{pos':Pos}(hN:X.N.Nodup) (hi:X.N[i]?=some x) (hx:Loc X.env.scope x) (he:PE X e te) (hs:swapsWith e (some (.Name x pos')) pos.line X.env=pure false:=by rfl) (hf:X.fn x=true\/X.env.scope.names.lookup x=some .local:=by first | exact .inl rfl | exact .inr rfl | assumption) :
  PS X (.Assign [.Name x pos'] e pos) (tAsg te (gName i)):=by
 intro pins s σ H D I h
 refine wpAny_Assign_Name (thn (he pins s σ H _ I h) fun v s1 ⟨y,H1,I1,r1,q1⟩=>?_) hs
 exact store_ok I1 hN hi hx r1 (fun s2 I2=>⟨_,H1,I2,q1⟩) hf
def tPar (i j:Nat) (ta:TA):TS:=fun D σ H=>ta σ H fun vs H1=>∃ v w,vs=[v,w]/\D.nx ((σ.set i (some v)).set j (some w)) H1
theorem ps_par {i j:Nat}{x y:Str}{a b:Expr}{ta:TA}{px py pt:Pos} {kt k2 pt2}(hc:X.calm=true) (hN:X.N.Nodup) (hi:X.N[i]?=some x) (hj:X.N[j]?=some y) (hij:i≠j)
  (hx:X.env.scope.names.lookup x=some .local) (hy:X.env.scope.names.lookup y=some .local) (ha:PA X [a,b] ta)
  (hw:swappedStores [.Tuple [.Name x px,.Name y py] kt pt] (.Tuple [a,b] k2 pt2) X.env=pure (some [x,y]))
  (hs:swapsWithSole [.Tuple [.Name x px,.Name y py] kt pt] (.Tuple [a,b] k2 pt2) pos.line X.env=pure false:=by rfl) :
  PS X (.Assign [.Tuple [.Name x px,.Name y py] kt pt] (.Tuple [a,b] k2 pt2) pos) (tPar i j ta):=by
 intro pins s σ H D I h
 rw [exec_Assign_arm]
 refine wpAny_bind (wpAny_standAt ?_)
 rw [hs]
 refine wpAny_bind (wpAny_pure ?_)
 rw [if_neg (by decide)]
 refine wpAny_bind (Tuple_ (thn (ha _ pins s σ H _ I h) fun us s1 ⟨vs,H1,I1,r1,q1⟩=>?_))
 obtain ⟨v,w,e1,q1⟩:=q1
 subst e1
 obtain ⟨u1,u2,rfl,rv,rw'⟩:∃ u1 u2,us=[u1,u2]/\RelV v u1/\RelV w u2:=by
  cases r1 with
  | cons p q =>
   cases q with
   | cons p' q' =>
    cases q'
    exact ⟨_,_,rfl,p,p'⟩
 refine wpAny_newObj_type ?_ (by show 2<=sizeLine; decide)
 have I2:Inv X pins σ H1 { s1 with heap:=s1.heap.push { cls:=.type "tuple",data:=.seq [u1,u2].toArray } }:=I1.kept (t':=s1.toks) fun b o e=>Heap.get?_push_of_some _ e
 rw [hw]
 refine wpAny_bind (wpAny_pure ?_)
 show wpAny (model X.prog X.w) X.A (do rule "assign.swapped-stores"; let items <- unpackItems (.ref s1.heap.objs.size) 2 none; assignInOrder [fun v=>bindName X.env y v,fun v=>bindName X.env x v] items.reverse; pure Flow.next) _ _ _
 refine wpAny_bind (wpAny_rule (wpAny_bind (unpackItems_tuple (items:=#[u1,u2]) (I.ok.hd hc) (IsTup.new s1.heap _) fun h' hx'=>?_)))
 have I3:=I2.kept (h':=h') (t':=s1.toks) fun b o e=>hx' b o (Nat.ne_of_lt (Heap.lt_size e)) e
 show wpAny _ _ (assignInOrder [fun v=>bindName X.env y v,fun v=>bindName X.env x v] [u2,u1] >>= fun _=>pure Flow.next) _ _ _
 refine wpAny_bind (assignInOrder_cons (wpAny_bindName (store_ok I3 hN hj (.inl hy) rw' (fun s2 I4=>?_) (.inr hy))))
 refine assignInOrder_cons (wpAny_bindName (store_ok I4 hN hi (.inl hx) rv (fun s3 I5=>assignInOrder_nil (wpAny_pure ?_)) (.inr hx)))
 rw [List.set_comm _ _ (Ne.symm hij)] at I5
 exact ⟨_,H1,I5,q1⟩
end
section
variable {X:Cx}{pos:Pos}
def tWhile (c:TT) (tb:TS):TS:=fun D σ H=>∃ W:Nat->St->Hp->Prop,(∃ m,W m σ H)/\∀ m σ H,W m σ H ->
 c σ H fun b H1=>if b=true then ∃ N:St->Hp->Prop,(∀ σ' H',N σ' H'->∃ m',m' < m/\W m' σ' H')/\tb { D with nx:=N,ct:=N,bk:=D.nx } σ H1 else D.nx σ H1
theorem ps_while {c:Expr}{body:List Stmt}{tc:TT}{tb:TS}(hp:PassesOwn (model X.prog X.w) X.A X.env X.xe) (hc:PT X c tc) (hb:PSs X body tb):PS X (.While c body [] pos) (tWhile tc tb):=by
 intro pins s σ H D I h
 obtain ⟨W,⟨m0,w0⟩,turn⟩:=h
 refine wpAny_While (codeAny_whileLoop (fun n s'=>∃ σ' H',Inv X pins σ' H' s'/\W n σ' H') ?_ m0 ⟨σ,H,I,w0⟩)
 rintro n s1 ⟨σ1,H1,I1,w1⟩
 refine wpAny_passesOwn hp (thn (hc pins s1 σ1 H1 _ I1 (turn n σ1 H1 w1)) fun b s2 ⟨H2,I2,q2⟩=>?_)
 cases b with
 | true =>
  obtain ⟨N,hN,q2⟩:=q2
  rw [if_pos rfl]
  refine wpAny_passesOwn hp (thn (hb pins s2 σ1 H2 _ I2 q2) fun f s3 q3=>?_)
  cases f with
  | next =>
   obtain ⟨σ3,H3,I3,n3⟩:=q3
   obtain ⟨m',hm,w3⟩:=hN σ3 H3 n3
   exact ⟨m',hm,σ3,H3,I3,w3⟩
  | cont =>
   obtain ⟨σ3,H3,I3,n3⟩:=q3
   obtain ⟨m',hm,w3⟩:=hN σ3 H3 n3
   exact ⟨m',hm,σ3,H3,I3,w3⟩
  | brk=>exact q3
  | ret v=>exact q3
 | false =>
  rw [if_neg Bool.false_ne_true]
  exact wpAny_execs_nil ⟨σ1,H2,I2,q2⟩
end
structure It where
 go:Nat->Hp->Prop
 yld:Nat->Hp->V->Hp->Prop
 stop:Nat->Hp->Prop
def FpOk (X:Cx) (pins:List (Addr × Obj)) (H:Hp) (b:Addr):Prop :=
 H b=none/\b≠X.env.locals/\b ∉ X.fs/\(b∈X.ex\/X.s₀.heap.objs.size<=b)/\(∀ x c,X.env.cells.lookup x=some c->c≠b)/\∀ p∈X.pn ++ pins,p.1≠b
theorem Inv.fpOk {X:Cx}{pins:List (Addr × Obj)}{σ:St}{H H':Hp}{s:Shared}{b:Addr}(I:Inv X pins σ H s) (hb:s.heap.objs.size<=b) (hn:H' b=none):FpOk X pins H' b:=by
 refine ⟨hn,Nat.ne_of_gt (Nat.lt_of_lt_of_le I.lt hb),I.nofs hb,.inr (Nat.le_trans I.sz hb),fun x c e z=>?_,fun p hp z=>?_⟩
 ·obtain ⟨v,q⟩:=I.cell x c e
  exact absurd (Nat.lt_of_lt_of_le q.lt (by rw [z]; exact hb)) (Nat.lt_irrefl _)
 ·exact absurd (Nat.lt_of_lt_of_le (Heap.lt_size (I.pin p hp).1) (by rw [z]; exact hb)) (Nat.lt_irrefl _)
structure Turn (P:Program) (w:World) (K:PySem.W.Frag) (tg:Expr) (J:It) (fp:List Addr) (it:Addr) (tn:Nat->Heap->Prop):Prop where
 mem:it∈fp
 obj:∀ i h,tn i h->∀ b∈fp,∃ o,h.get? b=some o/\∀ v,o.data≠.cell v
 keep:∀ i h h',tn i h->(∀ b∈fp,∀ o,h.get? b=some o->h'.get? b=some o)->tn i h'
 item:∀ (X:Cx),X.prog=P->X.w=w->X.K=K->X.calm=true->∀ (i:Nat) (pins:List (Addr × Obj)) (s:Shared) (σ:St) (H:Hp) (E:Value->Shared->Prop),Inv X pins σ H s->(∀ b∈fp,FpOk X pins H b)->tn i s.heap->J.go i H ->
  wpAny (model P w) X.A (pyNext (.ref it)) (fun r s1=>∃ u,r=some u /\
   wpAny (model P w) X.A (letOwnedTupleGo tg (.ref it) u) (fun _ s2=>∃ x H',Inv X pins σ H' s2/\RelV x u/\J.yld i H x H'/\tn (i + 1) s2.heap/\∀ b∈fp,H' b=none) E s1) E s
 done:∀ (X:Cx),X.prog=P->X.w=w->X.K=K->X.calm=true->∀ (i:Nat) (pins:List (Addr × Obj)) (s:Shared) (σ:St) (H:Hp) (E:Value->Shared->Prop),Inv X pins σ H s->(∀ b∈fp,FpOk X pins H b)->tn i s.heap->J.stop i H ->
  wpAny (model P w) X.A (pyNext (.ref it)) (fun r s1=>r=none/\Inv X pins σ H s1) E s
 self:∀ (A:Around) (i:Nat) (s:Shared) (Q:Value->Shared->Prop) (E:Value->Shared->Prop),tn i s.heap->Q (.ref it) s->wpAny (model P w) A (pyIter (.ref it)) Q E s
abbrev TI:=St->Hp->(It->Hp->Prop)->Prop
def PIE (X:Cx) (pins:List (Addr × Obj)) (σ:St) (tg:Expr) (R:It->Hp->Prop) (itv:Value) (s2:Shared):Prop :=
 ∃ (it:Addr) (fp:List Addr) (tn:Nat->Heap->Prop) (J:It) (H':Hp),itv=.ref it/\Inv X pins σ H' s2/\Turn X.prog X.w X.K tg J fp it tn/\tn 0 s2.heap/\(∀ b∈fp,FpOk X pins H' b)/\R J H'
def PI (X:Cx) (tg iter:Expr) (wi:TI):Prop :=
 ∀ (pins:List (Addr × Obj)) (s:Shared) (σ:St) (H:Hp) (R:It->Hp->Prop),Inv X pins σ H s->wi σ H R ->
  wpAny (model X.prog X.w) X.A (eval iter X.env) (fun v s1=>wpAny (model X.prog X.w) X.A (pyIter v) (PIE X pins σ tg R) X.xe s1) X.xe s
theorem go_of {M:Model}{A:Around}{E:Value->Shared->Prop}{s:Shared}{tg:Expr}{it:Addr}{u:Value}{o:Obj}{n:String}{vs:Array Value}{Q:Unit->Shared->Prop}(ho:s.heap.get? it=some o) (hc:o.cls=.type n) (hd:o.data=.fields vs)
  (hn:["enumerate","zip","dict_itemiterator","dict_reverseitemiterator","odict_iterator","itertools.zip_longest","itertools.pairwise"].contains n=false) (hQ:Q () s):wpAny M A (letOwnedTupleGo tg (.ref it) u) Q E s:=by
 unfold letOwnedTupleGo
 cases tg <;> first
  | exact wpAny_pure hQ
  | (cases u <;> first
    | exact wpAny_pure hQ
    | (refine wpAny_bind (wpAny_load ho ?_)
       rw [hc,hd]
       show wpAny M A (if (["enumerate","zip","dict_itemiterator","dict_reverseitemiterator","odict_iterator","itertools.zip_longest","itertools.pairwise"].contains n && vs[0]? == some (rawInt _))=true then _ else _) Q E s
       rw [if_neg (by intro h; rw [hn,Bool.false_and] at h; cases h)]
       exact wpAny_pure hQ))
def Itl (K:PySem.W.Frag) (a:Addr):It :=
 ⟨fun i H=>∃ xs x,SqL K H a xs/\xs[i]?=some x,fun i H x H'=>H'=H/\∀ xs,SqL K H a xs->xs[i]?=some x,fun i H=>∃ xs,SqL K H a xs/\xs.length<=i⟩
def Itt (K:PySem.W.Frag) (a:Addr):It :=
 ⟨fun i H=>∃ xs x,SqT K H a xs/\xs[i]?=some x,fun i H x H'=>H'=H/\∀ xs,SqT K H a xs->xs[i]?=some x,fun i H=>∃ xs,SqT K H a xs/\xs.length<=i⟩
def Itr (lo:Int) (n:Nat):It:=⟨fun i _=>i < n,fun i H x H'=>H'=H/\x=.int (lo + i),fun i _=>n<=i⟩
theorem turn_list {P:Program}{w:World}{K:PySem.W.Frag}{tg:Expr}(a it:Addr):Turn P w K tg (Itl K a) [it] it (fun i h=>h.IsListIter it a i) where
 mem:=by simp
 obj:=fun i h st b hb=>by
  have e:b=it:=by simpa using hb
  subst e
  obtain ⟨o,e,c,d⟩:=st
  exact ⟨o,e,fun v z=>by rw [d] at z; cases z⟩
 keep:=fun i h h' st k=>st.at fun o e=>k it (by simp) o e
 item:=by
  intro X hP hw hK hc i pins s σ H E I hf st hg
  subst hP hw hK
  obtain ⟨xs,x,hq,hx⟩:=hg
  obtain ⟨its,rv,p,hz⟩:=I.list hq
  obtain ⟨u,hu,ru⟩:=rv.get hx
  obtain ⟨f0,f1,f2,f3,f4,f5⟩:=hf it (by simp)
  refine wpAny_pyNext_list_item st p.isList (x:=u) (by simpa using hu) fun h' st' sb=>?_
  have I1:Inv X pins σ H { s with heap:=h' }:=I.turned (t':=s.toks) (fun b o hb e=>(sb.2 b hb).trans e) f0 f1 f3 f4 f5
  obtain ⟨o,e,c,d⟩:=id st'
  exact ⟨u,rfl,go_of (s:={ s with heap:=h' }) e c d (by decide) ⟨x,H,I1,ru,⟨rfl,fun ys hy=>by rw [I.list_inj hy hq]; exact hx⟩,st',fun b hb=>(hf b hb).1⟩⟩
 done:=by
  intro X hP hw hK hc i pins s σ H E I hf st hg
  subst hP hw hK
  obtain ⟨xs,hq,hx⟩:=hg
  obtain ⟨its,rv,p,hz⟩:=I.list hq
  obtain ⟨f0,f1,f2,f3,f4,f5⟩:=hf it (by simp)
  have hl:=rv.length
  exact wpAny_pyNext_list_end (I.ok.hd hc) st p.isList (by simp; omega) fun h' eb=>⟨rfl,I.turned (t':=s.toks) (fun b o hb e=>eb b o hb e) f0 f1 f3 f4 f5⟩
 self:=fun _ _ _ _ _ st h=>wpAny_pyIter_listiter st h
theorem turn_tuple {P:Program}{w:World}{K:PySem.W.Frag}{tg:Expr}(a it:Addr):Turn P w K tg (Itt K a) [it] it (fun i h=>h.IsTupleIter it a i) where
 mem:=by simp
 obj:=fun i h st b hb=>by
  have e:b=it:=by simpa using hb
  subst e
  obtain ⟨o,e,c,d⟩:=st
  exact ⟨o,e,fun v z=>by rw [d] at z; cases z⟩
 keep:=fun i h h' st k=>st.at fun o e=>k it (by simp) o e
 item:=by
  intro X hP hw hK hc i pins s σ H E I hf st hg
  subst hP hw hK
  obtain ⟨xs,x,hq,hx⟩:=hg
  obtain ⟨its,rv,p,hz⟩:=I.tuple hq
  obtain ⟨u,hu,ru⟩:=rv.get hx
  obtain ⟨f0,f1,f2,f3,f4,f5⟩:=hf it (by simp)
  refine wpAny_pyNext_tuple_item st (show s.heap.IsTuple a its.toArray from p) (x:=u) (by simpa using hu) fun h' st' sb=>?_
  have I1:Inv X pins σ H { s with heap:=h' }:=I.turned (t':=s.toks) (fun b o hb e=>(sb.2 b hb).trans e) f0 f1 f3 f4 f5
  obtain ⟨o,e,c,d⟩:=id st'
  exact ⟨u,rfl,go_of (s:={ s with heap:=h' }) e c d (by decide) ⟨x,H,I1,ru,⟨rfl,fun ys hy=>by rw [I.tuple_inj hy hq]; exact hx⟩,st',fun b hb=>(hf b hb).1⟩⟩
 done:=by
  intro X hP hw hK hc i pins s σ H E I hf st hg
  subst hP hw hK
  obtain ⟨xs,hq,hx⟩:=hg
  obtain ⟨its,rv,p,hz⟩:=I.tuple hq
  obtain ⟨f0,f1,f2,f3,f4,f5⟩:=hf it (by simp)
  have hl:=rv.length
  exact wpAny_pyNext_tuple_end (I.ok.hd hc) st (show s.heap.IsTuple a its.toArray from p) (by simp; omega) fun h' eb=>⟨rfl,I.turned (t':=s.toks) (fun b o hb e=>eb b o hb e) f0 f1 f3 f4 f5⟩
 self:=fun _ _ _ _ _ st h=>wpAny_pyIter_tupleiter st h
theorem turn_range {P:Program}{w:World}{K:PySem.W.Frag}{tg:Expr}(it:Addr) (lo:Int) (n:Nat):Turn P w K tg (Itr lo n) [it] it (fun i h=>IsRangeIter h it (lo + (i:Nat) * 1) ((n:Int) - (i:Nat)) 1) where
 mem:=by simp
 obj:=fun i h st b hb=>by
  have e:b=it:=by simpa using hb
  subst e
  exact ⟨_,st,fun v z=>by
   have z':Data.fields _=Data.cell v:=z
   cases z'⟩
 keep:=fun i h h' st k=>k it (by simp) _ st
 item:=by
  intro X hP hw hK hc i pins s σ H E I hf st hg
  subst hP hw hK
  obtain ⟨f0,f1,f2,f3,f4,f5⟩:=hf it (by simp)
  have W:=Walks.range (prog:=X.prog) (w:=X.w) (I.ok.hd hc) it lo 1 n
  refine W.item i s _ _ hg st fun v h' tk hv st' kk=>?_
  obtain ⟨t,rfl⟩:=hv
  have I1:Inv X pins σ H { s with heap:=h',toks:=tk }:=I.turned (fun b o hb e=>kk b o (by simpa using hb) e) f0 f1 f3 f4 f5
  refine ⟨_,rfl,go_of (s:={ s with heap:=h',toks:=tk }) (n:="range_iterator") st' rfl rfl (by decide) ⟨.int (lo + i),H,I1,⟨t,?_⟩,⟨rfl,rfl⟩,st',fun b hb=>(hf b hb).1⟩⟩
  rw [Int.mul_one]
 done:=by
  intro X hP hw hK hc i pins s σ H E I hf st hg
  subst hP hw hK
  obtain ⟨f0,f1,f2,f3,f4,f5⟩:=hf it (by simp)
  exact wpAny_pyNext_range_end (I.ok.hd hc) st (by have:n<=i:=hg; omega) fun h' eb=>⟨rfl,I.turned (t':=s.toks) (fun b o hb e=>eb b o hb e) f0 f1 f3 f4 f5⟩
 self:=fun _ _ _ _ _ st h=>wpAny_pyIter_rangeiter st h
end L2
namespace L2
open PySem PySem.Spec PyProof.Rows
section
variable {X:Cx}{tg:Expr}
def iList (K:PySem.W.Frag) (tl:TE):TI:=fun σ H R=>tl σ H fun x H1=>∃ a,x=.ref a/\(∃ xs,SqL K H1 a xs)/\R (Itl K a) H1
def iTup (K:PySem.W.Frag) (tl:TE):TI:=fun σ H R=>tl σ H fun x H1=>∃ a,x=.ref a/\(∃ xs,SqT K H1 a xs)/\R (Itt K a) H1
theorem pi_list {l:Expr}{tl:TE}(hl:PE X l tl):PI X tg l (iList X.K tl):=by
 intro pins s σ H R I h
 refine thn (hl pins s σ H _ I h) fun v s1 ⟨x,H1,I1,r1,q1⟩=>?_
 obtain ⟨a,e,⟨xs,hq⟩,q⟩:=q1
 subst e
 cases r1
 obtain ⟨its,rv,p,hz⟩:=I1.list hq
 refine wpAny_pyIter_list p.isList ?_
 refine ⟨s1.heap.objs.size,[s1.heap.objs.size],_,_,H1,rfl,I1.kept (t':=s1.toks) fun b o e=>Heap.get?_push_of_some _ e,turn_list a _,⟨_,Heap.get?_push_size _ rfl,rfl,rfl⟩,fun b hb=>?_,q⟩
 have e:b=s1.heap.objs.size:=by simpa using hb
 subst e
 exact I1.fpOk (Nat.le_refl _) (I1.hok.fresh (Nat.le_refl _))
theorem pi_tup {l:Expr}{tl:TE}(hl:PE X l tl):PI X tg l (iTup X.K tl):=by
 intro pins s σ H R I h
 refine thn (hl pins s σ H _ I h) fun v s1 ⟨x,H1,I1,r1,q1⟩=>?_
 obtain ⟨a,e,⟨xs,hq⟩,q⟩:=q1
 subst e
 cases r1
 obtain ⟨its,rv,p,hz⟩:=I1.tuple hq
 refine wpAny_pyIter_tuple (show s1.heap.IsTuple a its.toArray from p) ?_
 refine ⟨s1.heap.objs.size,[s1.heap.objs.size],_,_,H1,rfl,I1.kept (t':=s1.toks) fun b o e=>Heap.get?_push_of_some _ e,turn_tuple a _,⟨_,Heap.get?_push_size _ rfl,rfl,rfl⟩,fun b hb=>?_,q⟩
 have e:b=s1.heap.objs.size:=by simpa using hb
 subst e
 exact I1.fpOk (Nat.le_refl _) (I1.hok.fresh (Nat.le_refl _))
theorem range_it {pins:List (Addr × Obj)}{σ:St}{H:Hp}{s:Shared}{R:It->Hp->Prop}{E:Value->Shared->Prop}{lo hi:Int}{t u v:Tok}{tk:Nat}(I:Inv X pins σ H s) (h1:-(2 ^ 62)<=lo) (h2:lo < 2 ^ 62) (h3:-(2 ^ 62)<=hi) (h4:hi < 2 ^ 62)
  (q:R (Itr lo (hi - lo).toNat) H):wpAny (model X.prog X.w) X.A (pyIter (.ref s.heap.objs.size)) (PIE X pins σ tg R) E { s with heap:=s.heap.push { cls:=.type "range",data:=.fields #[.int lo t,.int hi u,.int 1 v] },toks:=tk }:=by
 refine wpAny_pyIter_range (IsRange.new ..) (small_one h1 h2 h3 h4) ?_
 have I1:Inv X pins σ H { s with heap:=s.heap.push { cls:=.type "range",data:=.fields #[.int lo t,.int hi u,.int 1 v] },toks:=tk }:=I.kept fun b o e=>Heap.get?_push_of_some _ e
 refine ⟨(s.heap.push { cls:=.type "range",data:=.fields #[.int lo t,.int hi u,.int 1 v] }).objs.size,[(s.heap.push { cls:=.type "range",data:=.fields #[.int lo t,.int hi u,.int 1 v] }).objs.size],_,_,H,rfl,
  I1.kept (t':=tk) fun b o e=>Heap.get?_push_of_some _ e,turn_range _ lo (hi - lo).toNat,?_,fun b hb=>?_,q⟩
 ·have e1:lo + ((0:Nat):Int) * 1=lo:=by simp
  have e2:(((hi - lo).toNat:Nat):Int) - ((0:Nat):Int)=Builtin.Range.rangeSize lo hi 1:=by rw [rangeSize_one]; split <;> omega
  show IsRangeIter _ _ (lo + ((0:Nat):Int) * 1) ((((hi - lo).toNat:Nat):Int) - ((0:Nat):Int)) 1
  rw [e1,e2]
  exact Heap.get?_push_size _ rfl
 ·have e:b=(s.heap.push { cls:=.type "range",data:=.fields #[.int lo t,.int hi u,.int 1 v] }).objs.size:=by simpa using hb
  subst e
  exact I1.fpOk (Nat.le_refl _) (I1.hok.fresh (Nat.le_refl _))
def tFor (wi:TI) (g:TG) (tb:TS):TS:=fun D σ H=>wi σ H fun J H1=>∃ W:Nat->Nat->St->Hp->Prop,(∃ m,W 0 m σ H1)/\∀ i m σ H,W i m σ H ->
 (J.stop i H/\D.nx σ H)\/(J.go i H/\∃ N:St->Hp->Prop,(∀ σ' H',N σ' H'->∃ m',m' < m/\W (i + 1) m' σ' H')/\∀ x H',J.yld i H x H'->g x σ H' fun σ2 H2=>tb { D with nx:=N,ct:=N,bk:=D.nx } σ2 H2)
def pinsAt (fp:List Addr) (h:Heap):List (Addr × Obj):=fp.filterMap fun b=>(h.get? b).map fun o=>(b,o)
theorem mem_pinsAt {fp:List Addr}{h:Heap}{b:Addr}{o:Obj}(hb:b∈fp) (e:h.get? b=some o):(b,o)∈pinsAt fp h:=List.mem_filterMap.mpr ⟨b,hb,by rw [e]; rfl⟩
theorem of_pinsAt {fp:List Addr}{h:Heap}{p:Addr × Obj}(hp:p∈pinsAt fp h):p.1∈fp/\h.get? p.1=some p.2:=by
 obtain ⟨b,hb,e⟩:=List.mem_filterMap.mp hp
 cases q:h.get? b with
 | none=>rw [q] at e; cases e
 | some o =>
  rw [q] at e
  have e':(b,o)=p:=Option.some.inj e
  subst e'
  exact ⟨hb,q⟩
theorem Inv.pinned {pins:List (Addr × Obj)}{σ:St}{H:Hp}{s:Shared}{fp:List Addr}(I:Inv X pins σ H s) (hf:∀ b∈fp,FpOk X pins H b) (ho:∀ b∈fp,∃ o,s.heap.get? b=some o/\∀ v,o.data≠.cell v):Inv X (pins ++ pinsAt fp s.heap) σ H s :=
 I.pins_of fun p hp=>(List.mem_append.mp hp).elim (fun z=>I.pin p (List.mem_append_right _ z)) fun z=>by
  obtain ⟨hb,e⟩:=of_pinsAt z
  obtain ⟨f0,f1,f2,_⟩:=hf p.1 hb
  obtain ⟨o,e',d⟩:=ho p.1 hb
  rw [e] at e'; cases e'
  exact ⟨e,f0,f1,f2,d⟩
theorem Inv.unpinned {pins pl:List (Addr × Obj)}{σ:St}{H:Hp}{s:Shared}(I:Inv X (pins ++ pl) σ H s):Inv X pins σ H s:=I.pins_of fun p hp=>I.pin p (List.mem_append_right _ (List.mem_append_left _ hp))
theorem ps_for {iter:Expr}{body:List Stmt}{wi:TI}{g:TG}{tb:TS}{pos:Pos}(hp:PassesOwn (model X.prog X.w) X.A X.env X.xe) (hc:X.calm=true) (hi:PI X tg iter wi) (hg:PG X tg g) (hb:PSs X body tb)
  (hs:∀ x,foldedSetIterable iter X.env x=pure x:=by intro _; rfl):PS X (.For tg iter body [] pos) (tFor wi g tb):=by
 intro pins s σ H D I h
 refine wpAny_For (thn (hi pins s σ H _ I h) fun v s1 h1=>thn h1 fun itv s2 h2=>?_) hs
 obtain ⟨it,fp,tn,J,H2,e,I2,T,st2,f2,W,⟨m0,w0⟩,turn⟩:=h2
 subst e
 -- what stays true of the iterator's objects through the loop
 have stat:∀ {H':Hp},(∀ b∈fp,H' b=none)->∀ b∈fp,FpOk X pins H' b:=fun hn b hb=>⟨hn b hb,(f2 b hb).2⟩
 refine codeAny_forLoop_any (fun n s'=>∃ i σ' H',Inv X pins σ' H' s'/\tn i s'.heap/\(∀ b∈fp,H' b=none)/\W i n σ' H') ?_ m0 ⟨0,σ,H2,I2,st2,fun b hb=>(f2 b hb).1,w0⟩
 rintro n s3 ⟨i,σ3,H3,I3,st3,fr3,w3⟩
 rcases turn i n σ3 H3 w3 with ⟨stop,qn⟩ | ⟨go,N,hN,step⟩
 ·refine wpAny_passesOwn hp (thn (T.done X rfl rfl rfl hc i pins s3 σ3 H3 X.xe I3 (stat fr3) st3 stop) fun r s4 ⟨hr,I4⟩=>?_)
  subst hr
  exact wpAny_execs_nil ⟨σ3,H3,I4,qn⟩
 ·refine wpAny_passesOwn hp (thn (T.item X rfl rfl rfl hc i pins s3 σ3 H3 X.xe I3 (stat fr3) st3 go) fun r s4 ⟨u,hr,h4⟩=>?_)
  subst hr
  refine wpAny_passesOwn hp (thn h4 fun _ s5 ⟨x,H5,I5,r5,y5,st5,fr5⟩=>?_)
  have I5':=I5.pinned (stat fr5) (T.obj _ _ st5)
  refine wpAny_passesOwn hp (thn (hg _ s5 σ3 H5 x u _ I5' r5 (step x H5 y5)) fun _ s6 ⟨σ6,H6,I6,q6⟩=>?_)
  refine wpAny_passesOwn hp (thn (hb _ s6 σ6 H6 _ I6 q6) fun f s7 q7=>?_)
  have again:∀ {σ7:St} {H7:Hp},Inv X (pins ++ pinsAt fp s5.heap) σ7 H7 s7->N σ7 H7->∃ m,m < n/\∃ i σ' H',Inv X pins σ' H' s7/\tn i s7.heap/\(∀ b∈fp,H' b=none)/\W i m σ' H':=fun {σ7 H7} I7 n7=>by
   obtain ⟨m',hm,w7⟩:=hN σ7 H7 n7
   refine ⟨m',hm,i + 1,σ7,H7,I7.unpinned,T.keep _ _ _ st5 fun b hb o e=>(I7.pin (b,o) (List.mem_append_right _ (List.mem_append_right _ (mem_pinsAt hb e)))).1,fun b hb=>?_,w7⟩
   obtain ⟨o,e,d⟩:=T.obj _ _ st5 b hb
   exact (I7.pin (b,o) (List.mem_append_right _ (List.mem_append_right _ (mem_pinsAt hb e)))).2.1
  cases f with
  | next=>obtain ⟨σ7,H7,I7,n7⟩:=q7; exact again I7 n7
  | cont=>obtain ⟨σ7,H7,I7,n7⟩:=q7; exact again I7 n7
  | brk=>obtain ⟨σ7,H7,I7,q7⟩:=q7; exact ⟨σ7,H7,I7.unpinned,q7⟩
  | ret v=>obtain ⟨x7,σ7,H7,I7,r7,q7⟩:=q7; exact ⟨x7,σ7,H7,I7.unpinned,r7,q7⟩
end
theorem for_list {K:PySem.W.Frag}{a:Addr}{xs:List V}{g:TG}{tb:TS}{D:Ends}{σ:St}{H:Hp}(Pv:Nat->St->Hp->Prop) (h0:Pv 0 σ H) (hl:∀ i σ H,i<=xs.length->Pv i σ H->SqL K H a xs)
  (hs:∀ i x σ H,xs[i]?=some x->Pv i σ H->g x σ H fun σ2 H2=>tb { D with nx:=Pv (i + 1),ct:=Pv (i + 1),bk:=D.nx } σ2 H2) (hd:∀ σ H,Pv xs.length σ H->D.nx σ H) :
  ∃ W:Nat->Nat->St->Hp->Prop,(∃ m,W 0 m σ H)/\∀ i m σ H,W i m σ H ->
   ((Itl K a).stop i H/\D.nx σ H)\/((Itl K a).go i H/\∃ N:St->Hp->Prop,(∀ σ' H',N σ' H'->∃ m',m' < m/\W (i + 1) m' σ' H')/\∀ x H',(Itl K a).yld i H x H'->g x σ H' fun σ2 H2=>tb { D with nx:=N,ct:=N,bk:=D.nx } σ2 H2):=by
 refine ⟨fun i m σ H=>m=xs.length - i/\i<=xs.length/\Pv i σ H,⟨xs.length,by simp,Nat.zero_le _,h0⟩,?_⟩
 rintro i m σ H ⟨rfl,hi,p⟩
 have q:=hl i σ H hi p
 by_cases hlt:i < xs.length
 ·refine .inr ⟨⟨xs,xs[i],q,by simp [hlt]⟩,Pv (i + 1),fun σ' H' p'=>⟨xs.length - (i + 1),by omega,rfl,hlt,p'⟩,fun x H' y=>?_⟩
  obtain ⟨e,y⟩:=y
  subst e
  exact hs i x σ _ (y xs q) p
 ·have e:i=xs.length:=by omega
  subst e
  exact .inl ⟨⟨xs,q,Nat.le_refl _⟩,hd σ H p⟩
theorem for_tup {K:PySem.W.Frag}{a:Addr}{xs:List V}{g:TG}{tb:TS}{D:Ends}{σ:St}{H:Hp}(Pv:Nat->St->Hp->Prop) (h0:Pv 0 σ H) (hl:∀ i σ H,i<=xs.length->Pv i σ H->SqT K H a xs)
  (hs:∀ i x σ H,xs[i]?=some x->Pv i σ H->g x σ H fun σ2 H2=>tb { D with nx:=Pv (i + 1),ct:=Pv (i + 1),bk:=D.nx } σ2 H2) (hd:∀ σ H,Pv xs.length σ H->D.nx σ H) :
  ∃ W:Nat->Nat->St->Hp->Prop,(∃ m,W 0 m σ H)/\∀ i m σ H,W i m σ H ->
   ((Itt K a).stop i H/\D.nx σ H)\/((Itt K a).go i H/\∃ N:St->Hp->Prop,(∀ σ' H',N σ' H'->∃ m',m' < m/\W (i + 1) m' σ' H')/\∀ x H',(Itt K a).yld i H x H'->g x σ H' fun σ2 H2=>tb { D with nx:=N,ct:=N,bk:=D.nx } σ2 H2):=by
 refine ⟨fun i m σ H=>m=xs.length - i/\i<=xs.length/\Pv i σ H,⟨xs.length,by simp,Nat.zero_le _,h0⟩,?_⟩
 rintro i m σ H ⟨rfl,hi,p⟩
 have q:=hl i σ H hi p
 by_cases hlt:i < xs.length
 ·refine .inr ⟨⟨xs,xs[i],q,by simp [hlt]⟩,Pv (i + 1),fun σ' H' p'=>⟨xs.length - (i + 1),by omega,rfl,hlt,p'⟩,fun x H' y=>?_⟩
  obtain ⟨e,y⟩:=y
  subst e
  exact hs i x σ _ (y xs q) p
 ·have e:i=xs.length:=by omega
  subst e
  exact .inl ⟨⟨xs,q,Nat.le_refl _⟩,hd σ H p⟩
theorem for_range {lo:Int}{n:Nat}{g:TG}{tb:TS}{D:Ends}{σ:St}{H:Hp}(Pv:Nat->St->Hp->Prop) (h0:Pv 0 σ H)
  (hs:∀ i σ H,i < n->Pv i σ H->g (.int (lo + i)) σ H fun σ2 H2=>tb { D with nx:=Pv (i + 1),ct:=Pv (i + 1),bk:=D.nx } σ2 H2) (hd:∀ σ H,Pv n σ H->D.nx σ H) :
  ∃ W:Nat->Nat->St->Hp->Prop,(∃ m,W 0 m σ H)/\∀ i m σ H,W i m σ H ->
   ((Itr lo n).stop i H/\D.nx σ H)\/((Itr lo n).go i H/\∃ N:St->Hp->Prop,(∀ σ' H',N σ' H'->∃ m',m' < m/\W (i + 1) m' σ' H')/\∀ x H',(Itr lo n).yld i H x H'->g x σ H' fun σ2 H2=>tb { D with nx:=N,ct:=N,bk:=D.nx } σ2 H2):=by
 refine ⟨fun i m σ H=>m=n - i/\i<=n/\Pv i σ H,⟨n,by simp,Nat.zero_le _,h0⟩,?_⟩
 rintro i m σ H ⟨rfl,hi,p⟩
 by_cases hlt:i < n
 ·refine .inr ⟨hlt,Pv (i + 1),fun σ' H' p'=>⟨n - (i + 1),by omega,rfl,hlt,p'⟩,fun x H' y=>?_⟩
  obtain ⟨e,y⟩:=y
  subst e y
  exact hs i σ _ hlt p
 ·have e:i=n:=by omega
  subst e
  exact .inl ⟨Nat.le_refl _,hd σ H p⟩
theorem while_by {c:TT}{tb:TS}{D:Ends}{σ:St}{H:Hp}(Pv:St->Hp->Prop) (μ:St->Hp->Nat) (h0:Pv σ H)
  (hs:∀ σ H,Pv σ H->c σ H fun b H1=>if b=true then tb { D with nx:=fun σ' H'=>Pv σ' H'/\μ σ' H' < μ σ H,ct:=fun σ' H'=>Pv σ' H'/\μ σ' H' < μ σ H,bk:=D.nx } σ H1 else D.nx σ H1)
  (mono:∀ σ H Q Q',(∀ b H1,Q b H1->Q' b H1)->c σ H Q->c σ H Q'):tWhile c tb D σ H:=by
 refine ⟨fun m σ H=>m=μ σ H/\Pv σ H,⟨_,rfl,h0⟩,?_⟩
 rintro m σ H ⟨rfl,p⟩
 refine mono σ H _ _ (fun b H1 q=>?_) (hs σ H p)
 cases b with
 | true=>exact ⟨_,fun σ' H' ⟨p',l⟩=>⟨_,l,rfl,p'⟩,q⟩
 | false=>exact q
end L2
namespace L2
open PySem PySem.Spec PyProof.Rows
abbrev R2:=V->V->Hp->VK->Prop
def OpR (X:Cx) (f:Value->Value->Sem Value) (r:R2):Prop :=
 ∀ (pins:List (Addr × Obj)) (s:Shared) (σ:St) (H:Hp) (x y:V) (v u:Value) (Q:VK),Inv X pins σ H s->RelV x v->RelV y u->r x y H Q ->
  wpAny (model X.prog X.w) X.A (f v u) (EP X pins σ Q) X.xe s
def UnR (X:Cx) (f:Value->Sem Value) (r:V->Hp->VK->Prop):Prop :=
 ∀ (pins:List (Addr × Obj)) (s:Shared) (σ:St) (H:Hp) (x:V) (v:Value) (Q:VK),Inv X pins σ H s->RelV x v->r x H Q ->
  wpAny (model X.prog X.w) X.A (f v) (EP X pins σ Q) X.xe s
def CallR (X:Cx) (f:Value) (r:List V->Hp->VK->Prop):Prop :=
 ∀ (pins:List (Addr × Obj)) (s:Shared) (σ:St) (H:Hp) (xs:List V) (us:List Value) (Q:VK),Inv X pins σ H s->Vals xs us->r xs H Q ->
  wpAny (model X.prog X.w) X.A (call f us) (EP X pins σ Q) X.xe s
def TruR (X:Cx) (r:V->Hp->(Bool->Hp->Prop)->Prop):Prop :=
 ∀ (pins:List (Addr × Obj)) (s:Shared) (σ:St) (H:Hp) (x:V) (v:Value) (Q:Bool->Hp->Prop),Inv X pins σ H s->RelV x v->r x H Q ->
  wpAny (model X.prog X.w) X.A (truthy v) (TP X pins σ Q) X.xe s
def tOp (r:R2) (ta tb:TE):TE:=fun σ H Q=>ta σ H fun x H1=>tb σ H1 fun y H2=>r x y H2 Q
def tUn (r:V->Hp->VK->Prop) (ta:TE):TE:=fun σ H Q=>ta σ H fun x H1=>r x H1 Q
def rI (C:Int->Int->Prop) (g:Int->Int->V):R2:=fun x y H Q=>∃ i j,x=.int i/\y=.int j/\C i j/\Q (g i j) H
def rI0 (g:Int->Int->V):R2:=fun x y H Q=>∃ i j,x=.int i/\y=.int j/\Q (g i j) H
def rU (g:Int->V):V->Hp->VK->Prop:=fun x H Q=>∃ i,x=.int i/\Q (g i) H
section
variable {X:Cx}{a b c:Expr}{ta tb tc:TE}{pos:Pos}
theorem binT (ha:PE X a ta) (hb:PE X b tb) {pins:List (Addr × Obj)}{s:Shared}{σ:St}{H:Hp}{R:V->V->Hp->Prop}(I:Inv X pins σ H s)
  (h:ta σ H fun x H1=>tb σ H1 fun y H2=>R x y H2) {Q:Value->Shared->Prop} {f:Value->Value->Sem Value}
  (hf:∀ v u s2 x y H2,Inv X pins σ H2 s2->RelV x v->RelV y u->R x y H2->wpAny (model X.prog X.w) X.A (f v u) Q X.xe s2) :
  wpAny (model X.prog X.w) X.A (eval a X.env) (fun v s₁=>wpAny (model X.prog X.w) X.A (eval b X.env) (fun u s₂=>wpAny (model X.prog X.w) X.A (f v u) Q X.xe s₂) X.xe s₁) X.xe s:=by
 refine thn (ha pins s σ H _ I h) fun v s1 ⟨x,H1,I1,r1,q1⟩=>?_
 refine thn (hb pins s1 σ H1 _ I1 q1) fun u s2 ⟨y,H2,I2,r2,q2⟩=>?_
 exact hf v u s2 x y H2 I2 r1 r2 q2
theorem pe_op {op:Operator}{r:R2}(ho:OpR X (binaryOp op) r) (ha:PE X a ta) (hb:PE X b tb):PE X (.BinOp a op b pos) (tOp r ta tb):=by
 intro pins s σ H Q I h
 exact wpAny_BinOp (binT ha hb I h fun v u s2 x y H2 I2 rx ry q=>ho pins s2 σ H2 x y v u Q I2 rx ry q)
theorem pe_un {op:UnaryOp}{r:V->Hp->VK->Prop}(ho:UnR X (unaryOp op) r) (ha:PE X a ta):PE X (.UnaryOp op a pos) (tUn r ta):=by
 intro pins s σ H Q I h
 exact UnaryOp_ (thn (ha pins s σ H _ I h) fun v s1 ⟨x,H1,I1,r1,q1⟩=>ho pins s1 σ H1 x v Q I1 r1 q1)
theorem opI {f:Value->Value->Sem Value}{C:Int->Int->Prop}{g:Int->Int->Int}
  (rule:∀ (i j:Int) (t u:Tok) (s:Shared) (Q:Value->Shared->Prop) (E:Value->Shared->Prop),C i j->Q (.int (g i j) s.toks) { s with toks:=s.toks + 1 }->wpAny (model X.prog X.w) X.A (f (.int i t) (.int j u)) Q E s) :
  OpR X f (rI C fun i j=>.int (g i j)):=by
 intro pins s σ H x y v u Q I rx ry h
 obtain ⟨i,j,rfl,rfl,hc,q⟩:=h
 obtain ⟨t,rfl⟩:=rx
 obtain ⟨t',rfl⟩:=ry
 exact rule i j t t' s _ _ hc ⟨.int (g i j),H,I.tok _,⟨_,rfl⟩,q⟩
theorem opI0 {f:Value->Value->Sem Value}{g:Int->Int->Int}
  (rule:∀ (i j:Int) (t u:Tok) (s:Shared) (Q:Value->Shared->Prop) (E:Value->Shared->Prop),Q (.int (g i j) s.toks) { s with toks:=s.toks + 1 }->wpAny (model X.prog X.w) X.A (f (.int i t) (.int j u)) Q E s) :
  OpR X f (rI0 fun i j=>.int (g i j)):=by
 intro pins s σ H x y v u Q I rx ry h
 obtain ⟨i,j,rfl,rfl,q⟩:=h
 obtain ⟨t,rfl⟩:=rx
 obtain ⟨t',rfl⟩:=ry
 exact rule i j t t' s _ _ ⟨.int (g i j),H,I.tok _,⟨_,rfl⟩,q⟩
theorem opB0 {f:Value->Value->Sem Value}{g:Int->Int->Bool}
  (rule:∀ (i j:Int) (t u:Tok) (s:Shared) (Q:Value->Shared->Prop) (E:Value->Shared->Prop),Q (.bool (g i j)) s->wpAny (model X.prog X.w) X.A (f (.int i t) (.int j u)) Q E s) :
  OpR X f (rI0 fun i j=>.bl (g i j)):=by
 intro pins s σ H x y v u Q I rx ry h
 obtain ⟨i,j,rfl,rfl,q⟩:=h
 obtain ⟨t,rfl⟩:=rx
 obtain ⟨t',rfl⟩:=ry
 exact rule i j t t' s _ _ ⟨.bl (g i j),H,I,rfl,q⟩
def CDiv (i j:Int):Prop:=0 < j/\j < 1073741824
def CPow (i j:Int):Prop:=0<=j/\j<=1000000/\i.natAbs < 2 ^ 64
def CMul (i j:Int):Prop:=(-(2 ^ 64) < i/\i < 2 ^ 64)\/(-(2 ^ 64) < j/\j < 2 ^ 64)
theorem CMul.ok {i j:Int}(h:CMul i j):IntMulOk i j:=by
 rcases h with ⟨h1,h2⟩ | ⟨h1,h2⟩
 ·exact .of_left (intBits_le_64 h1 h2)
 ·exact .of_right (intBits_le_64 h1 h2)
theorem op_add:OpR X (binaryOp .Add) (rI0 fun i j=>.int (i + j)):=opI0 fun _ _ _ _ _ _ _ q=>add_int q
theorem op_sub:OpR X (binaryOp .Sub) (rI0 fun i j=>.int (i - j)):=opI0 fun _ _ _ _ _ _ _ q=>sub_int q
theorem op_mul:OpR X (binaryOp .Mult) (rI CMul fun i j=>.int (i * j)):=opI fun _ _ _ _ _ _ _ hc q=>mul_int q hc.ok
theorem op_fdiv:OpR X (binaryOp .FloorDiv) (rI CDiv fun i j=>.int (i / j)):=opI fun i j _ _ _ _ _ hc q=>by
 have h1:(0:Int) < j:=hc.1
 have h2:j < 1073741824:=hc.2
 exact floordiv_int (by omega) (by rw [Int.fdiv_eq_ediv_of_nonneg i (by omega)]; exact q) (.inl (PyProof.noPylong_small (by omega)))
theorem op_mod:OpR X (binaryOp .Mod) (rI (fun _ j=>0 < j) fun i j=>.int (i % j)):=opI fun i j _ _ _ _ _ hc q=>by
 have h1:(0:Int) < j:=hc
 exact mod_int' (by omega) (by rw [Int.fmod_eq_emod_of_nonneg i (by omega)]; exact q)
theorem op_pow:OpR X (binaryOp .Pow) (rI CPow fun i j=>.int (i ^ j.toNat)):=opI fun _ _ _ _ _ _ _ hc q=>pow_int_small hc.1 hc.2.1 hc.2.2 q
theorem unI {f:Value->Sem Value}{g:Int->Int}
  (rule:∀ (i:Int) (t:Tok) (s:Shared) (Q:Value->Shared->Prop) (E:Value->Shared->Prop),Q (.int (g i) s.toks) { s with toks:=s.toks + 1 }->wpAny (model X.prog X.w) X.A (f (.int i t)) Q E s) :
  UnR X f (rU fun i=>.int (g i)):=by
 intro pins s σ H x v Q I rx h
 obtain ⟨i,rfl,q⟩:=h
 obtain ⟨t,rfl⟩:=rx
 exact rule i t s _ _ ⟨.int (g i),H,I.tok _,⟨_,rfl⟩,q⟩
theorem un_neg:UnR X (unaryOp .USub) (rU fun i=>.int (-i)):=unI fun _ _ _ _ _ q=>neg_int q
end
def scal:V->V->Bool
 | .non,.non=>true | .non,.int _=>true | .int _,.non=>true | .non,.bl _=>true | .bl _,.non=>true | .non,.str _=>true | .str _,.non=>true
 | .int _,.int _=>true | .bl _,.bl _=>true | .str _,.str _=>true | .byt _,.byt _=>true
 | .int _,.str _=>true | .str _,.int _=>true | .bl _,.str _=>true | .str _,.bl _=>true
 | _,_=>false
def rEq:R2:=fun x y H Q=>scal x y=true/\Q (.bl (decide (x=y))) H
def rNe:R2:=fun x y H Q=>scal x y=true/\Q (.bl (!decide (x=y))) H
theorem dec_int {i j:Int}:decide (V.int i=V.int j)=(i == j):=by
 rw [Bool.eq_iff_iff]
 simp
theorem dec_bl {i j:Bool}:decide (V.bl i=V.bl j)=(i == j):=by
 rw [Bool.eq_iff_iff]
 simp
theorem dec_str {i j:Str}:decide (V.str i=V.str j)=(i == j):=by
 rw [Bool.eq_iff_iff]
 simp
theorem dec_byt {i j:Array UInt8}:decide (V.byt i=V.byt j)=(i.toList == j.toList):=by
 rw [Bool.eq_iff_iff]
 cases i
 cases j
 simp
section
variable {X:Cx}{a b c:Expr}{ta tb tc:TE}{pos:Pos}
theorem fin_bl {pins:List (Addr × Obj)}{σ:St}{H:Hp}{s:Shared}{Q:VK}{k k':Bool}(I:Inv X pins σ H s) (q:Q (.bl k) H) (e:k=k'):EP X pins σ Q (.bool k') s:=by
 subst e
 exact ⟨.bl k,H,I,rfl,q⟩
theorem op_eq:OpR X (compareOp .Eq) rEq:=by
 intro pins s σ H x y v u Q I rx ry h
 obtain ⟨hs,q⟩:=h
 cases x with
 | non =>
  cases rx
  cases y with
  | non=>cases ry; exact PySem.EqNone.eq_none_none (fin_bl I q (by simp))
  | bl j=>cases ry; exact PySem.EqNone.eq_none_bool (fin_bl I q (by simp))
  | int j=>obtain ⟨t',rfl⟩:=ry; exact PySem.EqNone.eq_none_int (fin_bl I q (by simp))
  | str j=>obtain ⟨t',rfl⟩:=ry; exact PySem.EqNone.eq_none_str (fin_bl I q (by simp))
  | _=>exact absurd (show false=true from hs) Bool.false_ne_true
 | bl i =>
  cases rx
  cases y with
  | non=>cases ry; exact PySem.EqNone.eq_bool_none (fin_bl I q (by simp))
  | bl j=>cases ry; exact eq_bool (fin_bl I q dec_bl)
  | str j=>obtain ⟨t',rfl⟩:=ry; exact PySem.EqMixed.eq_bool_str (fin_bl I q (by simp))
  | _=>exact absurd (show false=true from hs) Bool.false_ne_true
 | int i =>
  obtain ⟨t,rfl⟩:=rx
  cases y with
  | non=>cases ry; exact PySem.EqNone.eq_int_none (fin_bl I q (by simp))
  | int j=>obtain ⟨t',rfl⟩:=ry; exact eq_int (fin_bl I q dec_int)
  | str j=>obtain ⟨t',rfl⟩:=ry; exact PySem.EqMixed.eq_int_str (fin_bl I q (by simp))
  | _=>exact absurd (show false=true from hs) Bool.false_ne_true
 | str i =>
  obtain ⟨t,rfl⟩:=rx
  cases y with
  | non=>cases ry; exact PySem.EqNone.eq_str_none (fin_bl I q (by simp))
  | bl j=>cases ry; exact PySem.EqMixed.eq_str_bool (fin_bl I q (by simp))
  | int j=>obtain ⟨t',rfl⟩:=ry; exact PySem.EqMixed.eq_str_int (fin_bl I q (by simp))
  | str j=>obtain ⟨t',rfl⟩:=ry; exact eq_str (fin_bl I q dec_str)
  | _=>exact absurd (show false=true from hs) Bool.false_ne_true
 | byt i =>
  obtain ⟨t,rfl⟩:=rx
  cases y with
  | byt j=>obtain ⟨t',rfl⟩:=ry; exact PySem.W.eq_bytes (fin_bl I q dec_byt)
  | _=>exact absurd (show false=true from hs) Bool.false_ne_true
 | _=>cases y <;> exact absurd (show false=true from hs) Bool.false_ne_true
theorem op_ne:OpR X (compareOp .NotEq) rNe:=by
 intro pins s σ H x y v u Q I rx ry h
 obtain ⟨hs,q⟩:=h
 cases x with
 | non =>
  cases rx
  cases y with
  | non=>cases ry; exact PySem.EqNone.ne_none_none (fin_bl I q (by simp))
  | bl j=>cases ry; exact PySem.EqNone.ne_none_bool (fin_bl I q (by simp))
  | int j=>obtain ⟨t',rfl⟩:=ry; exact PySem.EqNone.ne_none_int (fin_bl I q (by simp))
  | str j=>obtain ⟨t',rfl⟩:=ry; exact PySem.EqNone.ne_none_str (fin_bl I q (by simp))
  | _=>exact absurd (show false=true from hs) Bool.false_ne_true
 | bl i =>
  cases rx
  cases y with
  | non=>cases ry; exact PySem.EqNone.ne_bool_none (fin_bl I q (by simp))
  | bl j=>cases ry; exact ne_bool (fin_bl I q (congrArg not dec_bl))
  | str j=>obtain ⟨t',rfl⟩:=ry; exact PySem.EqMixed.ne_bool_str (fin_bl I q (by simp))
  | _=>exact absurd (show false=true from hs) Bool.false_ne_true
 | int i =>
  obtain ⟨t,rfl⟩:=rx
  cases y with
  | non=>cases ry; exact PySem.EqNone.ne_int_none (fin_bl I q (by simp))
  | int j=>obtain ⟨t',rfl⟩:=ry; exact ne_int (fin_bl I q (congrArg not dec_int))
  | str j=>obtain ⟨t',rfl⟩:=ry; exact PySem.EqMixed.ne_int_str (fin_bl I q (by simp))
  | _=>exact absurd (show false=true from hs) Bool.false_ne_true
 | str i =>
  obtain ⟨t,rfl⟩:=rx
  cases y with
  | non=>cases ry; exact PySem.EqNone.ne_str_none (fin_bl I q (by simp))
  | bl j=>cases ry; exact PySem.EqMixed.ne_str_bool (fin_bl I q (by simp))
  | int j=>obtain ⟨t',rfl⟩:=ry; exact PySem.EqMixed.ne_str_int (fin_bl I q (by simp))
  | str j=>obtain ⟨t',rfl⟩:=ry; exact ne_str (fin_bl I q (congrArg not dec_str))
  | _=>exact absurd (show false=true from hs) Bool.false_ne_true
 | byt i =>
  obtain ⟨t,rfl⟩:=rx
  cases y with
  | byt j=>obtain ⟨t',rfl⟩:=ry; exact PySem.W.ne_bytes (fin_bl I q (congrArg not dec_byt))
  | _=>exact absurd (show false=true from hs) Bool.false_ne_true
 | _=>cases y <;> exact absurd (show false=true from hs) Bool.false_ne_true
theorem op_lt:OpR X (compareOp .Lt) (rI0 fun i j=>.bl (decide (i < j))):=opB0 fun _ _ _ _ _ _ _ q=>lt_int q
theorem op_le:OpR X (compareOp .LtE) (rI0 fun i j=>.bl (decide (i<=j))):=opB0 fun _ _ _ _ _ _ _ q=>le_int q
theorem op_gt:OpR X (compareOp .Gt) (rI0 fun i j=>.bl (decide (j < i))):=opB0 fun _ _ _ _ _ _ _ q=>gt_int q
theorem op_ge:OpR X (compareOp .GtE) (rI0 fun i j=>.bl (decide (j<=i))):=opB0 fun _ _ _ _ _ _ _ q=>ge_int q
theorem op_lt_str:OpR X (compareOp .Lt) (fun x y H Q=>∃ i j,x=.str i/\y=.str j/\Q (.bl (decide (i.cps.toList < j.cps.toList))) H):=by
 intro pins s σ H x y v u Q I rx ry h
 obtain ⟨i,j,rfl,rfl,q⟩:=h
 obtain ⟨t,rfl⟩:=rx
 obtain ⟨t',rfl⟩:=ry
 exact lt_str (fin_bl I q rfl)
theorem op_notN:OpR X (compareOp .IsNot) (fun x y H Q=>y=.non/\Q (.bl (!decide (x=.non))) H):=by
 intro pins s σ H x y v u Q I rx ry h
 obtain ⟨rfl,q⟩:=h
 cases ry
 refine isnot_none_gen (fin_bl I q ?_)
 cases x <;> first
  | (cases rx; rfl)
  | (obtain ⟨t,rfl⟩:=rx; rfl)
theorem OpR.or {f:Value->Value->Sem Value}{r r':R2}(h:OpR X f r) (h':OpR X f r'):OpR X f (fun x y H Q=>r x y H Q\/r' x y H Q):=by
 intro pins s σ H x y v u Q I rx ry q
 rcases q with q | q
 ·exact h pins s σ H x y v u Q I rx ry q
 ·exact h' pins s σ H x y v u Q I rx ry q
theorem nomark (b:Expr) {op:CmpOp}(h:op≠.In:=by decide) (h2:op≠.NotIn:=by decide):behindInMarks op b=false:=by
 have e1:(op == CmpOp.In)=false:=by cases op <;> first | rfl | exact absurd rfl h
 have e2:(op == CmpOp.NotIn)=false:=by cases op <;> first | rfl | exact absurd rfl h2
 cases b <;> simp [behindInMarks,e1,e2]
theorem pe_cmpR {op:CmpOp}{r:R2}(ho:OpR X (compareOp op) r) (ha:PE X a ta) (hb:PE X b tb) (hm:behindInMarks op b=false):PE X (.Compare a [op] [b] pos) (tOp r ta tb):=by
 intro pins s σ H Q I h
 exact wpAny_Compare1 (binT ha hb I h fun v u s2 x y H2 I2 rx ry q=>ho pins s2 σ H2 x y v u Q I2 rx ry q) hm
def tTest (t:TE):TT:=fun σ H Q=>t σ H fun x H'=>∃ k,x=.bl k/\Q k H'
theorem pt_cmpR {op:CmpOp}{r:R2}(ho:OpR X (compareOp op) r) (ha:PE X a ta) (hb:PE X b tb) (hm:behindInMarks op b=false):PT X (.Compare a [op] [b] pos) (tTest (tOp r ta tb)):=by
 intro pins s σ H Q I h
 refine wpAny_isTrue_Compare1 (thn (ha pins s σ H _ I h) fun v s1 ⟨x,H1,I1,r1,q1⟩=>thn (hb pins s1 σ H1 _ I1 q1) fun u s2 ⟨y,H2,I2,r2,q2⟩ =>
  thn (ho pins s2 σ H2 x y v u _ I2 r1 r2 q2) fun c s3 ⟨z,H3,I3,r3,k,e,q3⟩=>?_) hm
 subst e
 cases r3
 exact wpAny_truthy_bool ⟨H3,I3,q3⟩
def tChain (r r':R2) (ta tb tc:TE):TE:=fun σ H Q=>ta σ H fun x H1=>tb σ H1 fun y H2=>r x y H2 fun z H3=>∃ k,z=.bl k /\
 (if k=true then tc σ H3 fun w' H4=>r' y w' H4 Q else Q (.bl false) H3)
theorem pe_chain {op op':CmpOp}{r r':R2}(ho:OpR X (compareOp op) r) (ho':OpR X (compareOp op') r') (ha:PE X a ta) (hb:PE X b tb) (hc:PE X c tc)
  (hm:lastMarks [op,op'] [b,c]=false:=by with_unfolding_all rfl):PE X (.Compare a [op,op'] [b,c] pos) (tChain r r' ta tb tc):=by
 intro pins s σ H Q I h
 refine Compare_chain (thn (ha pins s σ H _ I h) fun v s1 ⟨x,H1,I1,r1,q1⟩=>chain_link (thn (hb pins s1 σ H1 _ I1 q1) fun u s2 ⟨y,H2,I2,r2,q2⟩ =>
  thn (ho pins s2 σ H2 x y v u _ I2 r1 r2 q2) fun d s3 ⟨z,H3,I3,r3,k,e,q3⟩=>?_)) hm
 subst e
 cases r3
 refine wpAny_truthy_bool ?_
 cases k with
 | false=>exact ite_ff ⟨.bl false,H3,I3,rfl,q3⟩
 | true=>exact ite_tt (chain_last (thn (hc pins s3 σ H3 _ I3 q3) fun w' s4 ⟨z',H4,I4,r4,q4⟩=>ho' pins s4 σ H4 y z' u w' Q I4 r2 r4 q4))
theorem pt_chain {op op':CmpOp}{r r':R2}(ho:OpR X (compareOp op) r) (ho':OpR X (compareOp op') r') (ha:PE X a ta) (hb:PE X b tb) (hc:PE X c tc)
  (hm:lastMarks [op,op'] [b,c]=false:=by with_unfolding_all rfl):PT X (.Compare a [op,op'] [b,c] pos) (tTest (tChain r r' ta tb tc)):=by
 intro pins s σ H Q I h
 refine isTrue_chain (thn (ha pins s σ H _ I h) fun v s1 ⟨x,H1,I1,r1,q1⟩=>test_link (thn (hb pins s1 σ H1 _ I1 q1) fun u s2 ⟨y,H2,I2,r2,q2⟩ =>
  thn (ho pins s2 σ H2 x y v u _ I2 r1 r2 q2) fun d s3 ⟨z,H3,I3,r3,k,e,q3⟩=>?_)) hm
 subst e
 cases r3
 refine wpAny_truthy_bool ?_
 cases k with
 | false =>
  obtain ⟨k',e',q'⟩:=q3
  cases e'
  exact ite_ff ⟨H3,I3,q'⟩
 | true =>
  refine ite_tt (test_last (thn (hc pins s3 σ H3 _ I3 q3) fun w' s4 ⟨z',H4,I4,r4,q4⟩=>thn (ho' pins s4 σ H4 y z' u w' _ I4 r2 r4 q4) fun d' s5 ⟨z2,H5,I5,r5,k2,e2,q5⟩=>?_))
  subst e2
  cases r5
  exact wpAny_truthy_bool ⟨H5,I5,q5⟩
def TruV (K:PySem.W.Frag) (x:V) (H:Hp) (k:Bool):Prop :=
 match x with
 | .non=>k=false
 | .bl b=>k=b
 | .int i=>k=(i != 0)
 | .str y=>y.length<=sizeLine/\k=((y.length:Int) != 0)
 | .byt y=>y.size<=sizeLine/\k=((y.size:Int) != 0)
 | .ref p=>(∃ xs,SqL K H p xs/\k = !xs.isEmpty)\/(∃ xs,SqT K H p xs/\k = !xs.isEmpty)\/∃ kvs,H p=some (.dK kvs)/\k = !kvs.isEmpty
 | _=>False
theorem isEmpty_kv {κ:Type}{kvs:List (κ × V)}{vs:List (κ × Value)}(r:KV kvs vs):(!vs.isEmpty) = !kvs.isEmpty:=by
 cases r <;> rfl
theorem isEmpty_of {xs:List V}{its:List Value}(r:Vals xs its):(!its.toArray.isEmpty) = !xs.isEmpty:=by
 cases r <;> simp
theorem line63:(sizeLine:Nat) < 2 ^ 63:=by rw [sizeLine_eq]; decide
theorem tru_ok:TruR X (fun x H Q=>∃ k,TruV X.K x H k/\Q k H):=by
 intro pins s σ H x v Q I rx h
 obtain ⟨k,e,q⟩:=h
 have hl:=line63
 have hs:sizeLine=16777216:=sizeLine_eq
 cases x with
 | non =>
  cases rx
  have e':k=false:=e
  subst e'
  exact truthy_none ⟨H,I,q⟩
 | bl b =>
  cases rx
  have e':k=b:=e
  subst e'
  exact wpAny_truthy_bool ⟨H,I,q⟩
 | int i =>
  obtain ⟨t,rfl⟩:=rx
  have e':k=(i != 0):=e
  subst e'
  exact PySem.P.truthy_int ⟨H,I,q⟩
 | str y =>
  obtain ⟨t,rfl⟩:=rx
  obtain ⟨hy,e'⟩:y.length<=sizeLine/\k=((y.length:Int) != 0):=e
  subst e'
  exact PySem.P.truthy_str (by omega) ⟨H,I.tok _,q⟩
 | byt y =>
  obtain ⟨t,rfl⟩:=rx
  obtain ⟨hy,e'⟩:y.size<=sizeLine/\k=((y.size:Int) != 0):=e
  subst e'
  exact PySem.W.truthy_bytes (by omega) ⟨H,I.tok _,q⟩
 | ref p =>
  cases rx
  have e':(∃ xs,SqL X.K H p xs/\k = !xs.isEmpty)\/(∃ xs,SqT X.K H p xs/\k = !xs.isEmpty)\/∃ kvs,H p=some (.dK kvs)/\k = !kvs.isEmpty:=e
  rcases e' with ⟨xs,hx,e'⟩ | ⟨xs,hx,e'⟩ | ⟨kvs,hx,e'⟩
  ·subst e'
   obtain ⟨its,r,pl,hz⟩:=I.list hx
   have hlen:=r.length
   exact wpAny_truthy_list pl.isList (by simp only [List.size_toArray]; omega) ⟨H,I.tok _,by rw [isEmpty_of r]; exact q⟩
  ·subst e'
   obtain ⟨its,r,pl,hz⟩:=I.tuple hx
   have hlen:=r.length
   exact truthy_tuple pl (by simp only [List.size_toArray]; omega) ⟨H,I.tok _,by rw [isEmpty_of r]; exact q⟩
  ·subst e'
   obtain ⟨hz,hS,vs,r,m⟩:kvs.length<=sizeLine/\(p == sysModules)=false/\∃ vs,KV kvs vs/\s.heap.DictOf (mixKind X.prog X.w) p vs:=I.hok p _ hx
   have hlen:kvs.length=vs.length:=Paired.length r
   exact wpAny_truthy_dict hS m (by omega) ⟨H,I.tok _,by rw [isEmpty_kv r]; exact q⟩
 | _=>exact (show False from e).elim
theorem pt_truth (ha:PE X a ta) (he:∀ whole,isTrue a X.env whole=(do let v <- whole; standAt a.pos; holding [v] (truthy v))) :
  PT X a (fun σ H Q=>ta σ H fun x H'=>∃ k,TruV X.K x H' k/\Q k H'):=by
 intro pins s σ H Q I h
 exact isTrue_plain (thn (ha pins s σ H _ I h) fun v s1 ⟨x,H1,I1,r1,q1⟩=>tru_ok pins s1 σ H1 x v Q I1 r1 q1) (he _)
theorem vals1 {x:V}{us:List Value}(r:Vals [x] us):∃ u,us=[u]/\RelV x u:=by
 cases r with
 | cons r1 r2=>cases r2; exact ⟨_,rfl,r1⟩
theorem vals2 {x y:V}{us:List Value}(r:Vals [x,y] us):∃ u w',us=[u,w']/\RelV x u/\RelV y w':=by
 cases r with
 | cons r1 r2 =>
  cases r2 with
  | cons r3 r4=>cases r4; exact ⟨_,_,rfl,r1,r3⟩
theorem call_abs:CallR X (.builtin "abs") (fun xs H Q=>∃ i,xs=[.int i]/\Q (.int (if i < 0 then -i else i)) H):=by
 intro pins s σ H xs us Q I r h
 obtain ⟨i,rfl,q⟩:=h
 obtain ⟨u,rfl,t,rfl⟩:=vals1 r
 exact call_abs_int fun u tk=>⟨.int (if i < 0 then -i else i),H,I.tok _,⟨_,rfl⟩,q⟩
theorem call_min2 (hc:X.calm=true):CallR X (.builtin "min") (fun xs H Q=>∃ i j,xs=[.int i,.int j]/\Q (.int (if j < i then j else i)) H):=by
 intro pins s σ H xs us Q I r h
 obtain ⟨i,j,rfl,q⟩:=h
 obtain ⟨u,w',rfl,⟨t,rfl⟩,⟨t',rfl⟩⟩:=vals2 r
 refine min_two_ints (I.ok.hd hc) fun h' tk k=>⟨_,H,I.kept k,?_,q⟩
 by_cases hj:j < i
 ·rw [if_pos hj,if_pos hj]; exact ⟨_,rfl⟩
 ·rw [if_neg hj,if_neg hj]; exact ⟨_,rfl⟩
end
end L2
namespace L2
open PySem PySem.Spec PyProof.Rows
structure ObjM (h:Heap) (x dx C:Addr) (mA:Str->Option Value):Prop where
 obj:h.get? x=some (PySem.W.instObj C dx)
 ns:h.Ns1 dx mA
 ne:dx≠x
theorem lookIn_ns {h:Heap}{dx:Addr}{mA:Str->Option Value}(n:h.Ns1 dx mA):∃ od,h.get? dx=some od/\∀ name,PySem.W.lookIn name od=some (mA name):=by
 obtain ⟨o,es,ep,ho,hd,hk,_,hm⟩:=n
 refine ⟨o,ho,fun name=>?_⟩
 have e:=hm name
 unfold nsFind findBy at e
 rw [<- Array.find?_toList] at e
 unfold PySem.W.lookIn
 rw [hd]
 dsimp only
 split
 ·rename_i y q
  rw [q] at e
  exact congrArg some e
 ·rename_i q
  rw [q] at e
  have a:es.toList.any (·.refKey)=false:=by
   rw [List.any_eq_false]
   intro y hy
   obtain ⟨z,t,hkey⟩:=hk y (Array.mem_toList_iff.mp hy)
   simp [DictEntry.refKey,hkey]
  have a':¬ es.toList.any (·.refKey)=true:=by rw [a]; exact Bool.false_ne_true
  rw [if_neg a']
  exact congrArg some e
theorem ObjM.look {h:Heap}{x dx C:Addr}{mA:Str->Option Value}(I:ObjM h x dx C mA):∃ od,PySem.W.InstAt h x (PySem.W.instObj C dx) C (some od)/\∀ name,PySem.W.lookIn name od=some (mA name) :=
 let ⟨od,ho,hl⟩:=lookIn_ns I.ns
 ⟨od,⟨I.obj,rfl,rfl,ho⟩,hl⟩
section
variable {prog:Program}{w:World}{A:Around}{E:Value->Shared->Prop}{s:Shared}{K:PySem.W.Frag}{x dx C f:Addr}{mA:Str->Option Value}{name:Str}{v:Value}
theorem get_map {expr:Bool}{Q:Value->Shared->Prop}(X:K.In s.heap) (I:ObjM s.heap x dx C mA) (hg:PySem.W.plainGet K C name=true) (hh:PySem.W.hasDictIn K C=true)
  (ha:PySem.W.findIn K (.ref C) name=some none) (hv:mA name=some v) (hv':PySem.W.handedIn v=true) (h:Q v { s with toks:=s.toks + 1 }) :
  wpAny (model prog w) A (getAttr (.ref x) name expr) Q E s:=by
 obtain ⟨od,J,hl⟩:=I.look
 exact PySem.W.get_value X J (PySem.W.plainGet_of hg).1 (PySem.W.findObj_own hh ha rfl (by rw [hl,hv])) hv' h
theorem get_meth {pl:Sem Bool}{Q:Value × List Value->Shared->Prop}(X:K.In s.heap) (I:ObjM s.heap x dx C mA) (hg:PySem.W.plainGet K C name=true)
  (hf:PySem.W.findIn K (.ref C) name=some (some (.ref f))) (ht:PySem.W.isFn K (.ref f)=true) (hv:mA name=none) (h:Q (.ref f,[.ref x]) s) :
  wpAny (model prog w) A (getMethod (.ref x) name pl) Q E s:=by
 obtain ⟨od,J,hl⟩:=I.look
 exact PySem.W.method_fn X J (PySem.W.plainGet_of hg).1 (PySem.W.plainGet_of hg).2 hf (beq_iff_eq.mp ht) (by show (PySem.W.lookIn name od).map (·.isSome)=some false; rw [hl,hv]; rfl) h
theorem set_map {ns:List Str}{Q:Unit->Shared->Prop}(X:K.In s.heap) (I:ObjM s.heap x dx C mA)
  (hs:PySem.W.findIn K (.ref C) "__setattr__"=some (some (.builtin "object.__setattr__"))) (hp:PySem.W.plainOver K C=true) (ht:PySem.W.takerIn K C name=some none) (hh:PySem.W.hasDictIn K C=true)
  (hw:PySem.Within mA ns) (hsz:ns.length<=sizeLine)
  (h:∀ h',ObjM h' x dx C (fun y=>if y=name then some v else mA y)->Heap.SameBut dx s.heap h'->Q () { s with heap:=h',toks:=s.toks + 2 }) :
  wpAny (model prog w) A (setAttr (.ref x) name v) Q E s:=by
 obtain ⟨od,J,hl⟩:=I.look
 refine PySem.W.set_plain X J hs (PySem.W.osa_open (s:={ s with toks:=s.toks + 1 }) (r:=none) X J hp ht fun b=>?_)
 obtain ⟨cd,hc,hd'⟩:=PySem.W.any_some hh
 have hx:s.heap.get? x=some ⟨.ref C,some dx,.plain,#[]⟩:=I.obj
 refine wpAny_bind (wpAny_pure (wpAny_bind (wpAny_bind (wpAny_loadPart hx (wpAny_bind (PySem.W.Looks.here (s:={ s with toks:=s.toks + 1 }) (PySem.W.looks_clsIn X hc) ?_))))))
 rw [hd']
 refine wpAny_pure (a:=some dx) (wpAny_bind (wpAny_pure (wpAny_bind ?_)))
 refine wpAny_nsSet1 (s:={ s with toks:=s.toks + 1 }) I.ns fun h' hn2 hs2=>?_
 obtain ⟨oD,esD,epD,hoD,hdD,hcD⟩:=hn2.count (PySem.Within.cons name v hw)
 refine wpAny_bind (wpAny_lookBehind hoD (by rw [hdD]; exact pastItsLine_dict (Nat.le_trans hcD (by rw [List.length_cons]; omega))) ?_)
 exact wpAny_pure (h _ ⟨(hs2.2 _ (Ne.symm I.ne)).trans I.obj,hn2,I.ne⟩ hs2)
theorem make_map {R:Result->Shared->Prop}{vs:List Value}{kw:List (Str × Value)}(X:K.In s.heap) (hm:PySem.W.makesIn K C=true)
  (hi:PySem.W.findIn K (.ref C) "__init__"=some (some (.ref f))) (hf:PySem.W.typeIn K (.ref f)=some (.type "function"))
  (h:codeAny (model prog w) (A.under (.builtin "type.__call__" ⟨.ref C :: vs,kw⟩)) (.call (.ref f) ⟨.ref (s.heap.objs.size + 1) :: vs,kw⟩) (PySem.W.InitBack (s.heap.objs.size + 1) R)
   { s with heap:=(s.heap.push PySem.W.emptyDict).push (PySem.W.instObj C s.heap.objs.size) }) :
  codeAny (model prog w) A (.call (.ref C) ⟨vs,kw⟩) R s:=by
 obtain ⟨hh,g,d,t,os⟩:=s
 exact PySem.W.make_core (PySem.W.makes_of X hm) (PySem.W.looks_findIn X hi) (fun self=>PySem.W.bind_fn X self hf) (.inl rfl) h
end
def putF (f:Str) (v:V):List (Str × V)->List (Str × V)
 | []=>[(f,v)]
 | (g,x) :: r=>if g=f then (g,v) :: r else (g,x) :: putF f v r
theorem lookup_putF (f g:Str) (v:V):∀ fs:List (Str × V),(putF f v fs).lookup g=if g=f then some v else fs.lookup g
 | []=>by
  show List.lookup g [(f,v)]=_
  by_cases h:g=f
  ·have hb:(g == f)=true:=beq_iff_eq.mpr h
   simp only [List.lookup,hb,if_pos h]
  ·have hb:(g == f)=false:=beq_eq_false_iff_ne.mpr h
   simp only [List.lookup,hb,if_neg h]
 | (k,x) :: r=>by
  have ih:=lookup_putF f g v r
  rw [show putF f v ((k,x) :: r)=(if k=f then (k,v) :: r else (k,x) :: putF f v r) from rfl]
  by_cases hk:k=f
  ·rw [if_pos hk]
   by_cases h:g=k
   ·have hb:(g == k)=true:=beq_iff_eq.mpr h
    simp only [List.lookup,hb,if_pos (h.trans hk)]
   ·have hb:(g == k)=false:=beq_eq_false_iff_ne.mpr h
    simp only [List.lookup,hb,if_neg (fun e:g=f=>h (e.trans hk.symm))]
  ·rw [if_neg hk]
   by_cases h:g=k
   ·have hb:(g == k)=true:=beq_iff_eq.mpr h
    simp only [List.lookup,hb,if_neg (fun e:g=f=>hk (h.symm.trans e))]
   ·have hb:(g == k)=false:=beq_eq_false_iff_ne.mpr h
    simp only [List.lookup,hb]
    exact ih
theorem keys_putF (f:Str) (v:V):∀ fs:List (Str × V),f∈(putF f v fs).map (·.1)/\∀ g,g∈fs.map (·.1)->g∈(putF f v fs).map (·.1)
 | []=>⟨by simp [putF],fun g h=>by simp at h⟩
 | (k,x) :: r=>by
  obtain ⟨i1,i2⟩:=keys_putF f v r
  rw [show putF f v ((k,x) :: r)=(if k=f then (k,v) :: r else (k,x) :: putF f v r) from rfl]
  by_cases hk:k=f
  ·rw [if_pos hk]
   subst hk
   exact ⟨by simp,fun g h=>by simpa using h⟩
  ·rw [if_neg hk]
   refine ⟨?_,fun g h=>?_⟩
   ·rw [List.map_cons]
    exact List.mem_cons_of_mem _ i1
   ·rw [List.map_cons] at h ⊢
    rcases List.mem_cons.mp h with e | e
    ·exact List.mem_cons.mpr (.inl e)
    ·exact List.mem_cons_of_mem _ (i2 g e)
theorem length_putF (f:Str) (v:V):∀ fs:List (Str × V),(putF f v fs).length<=fs.length + 1
 | []=>by simp [putF]
 | (k,x) :: r=>by
  have ih:=length_putF f v r
  rw [show putF f v ((k,x) :: r)=(if k=f then (k,v) :: r else (k,x) :: putF f v r) from rfl]
  by_cases hk:k=f
  ·rw [if_pos hk,List.length_cons,List.length_cons]; omega
  ·rw [if_neg hk,List.length_cons,List.length_cons]; omega
theorem RelO.some_of {v:V}{o:Option Value}(r:RelO (some v) o):∃ u,o=some u/\RelV v u:=by
 cases o with
 | none=>exact (show False from r).elim
 | some u=>exact ⟨u,rfl,r⟩
theorem RelO.none_of {o:Option Value}(r:RelO none o):o=none:=by
 cases o with
 | none=>rfl
 | some u=>exact (show False from r).elim
theorem handed_of {v:V}{u:Value}(r:RelV v u):PySem.W.handedIn u=true:=by
 cases v with
 | non=>cases (show u=Value.none from r); rfl
 | bl b=>cases (show u=Value.bool b from r); rfl
 | int i=>obtain ⟨t,e⟩:=(show ∃ t,u=Value.int i t from r); cases e; rfl
 | str x=>obtain ⟨t,e⟩:=(show ∃ t,u=Value.str x t from r); cases e; rfl
 | byt b=>obtain ⟨t,e⟩:=(show ∃ t,u=Value.bytes b t from r); cases e; rfl
 | flt b=>obtain ⟨t,e⟩:=(show ∃ t,u=Value.float b t from r); cases e; rfl
 | ref a=>cases (show u=Value.ref a from r); rfl
 | ty n=>cases (show u=Value.type n from r); rfl
section
variable {P:Program}{w:World}{H H':Hp}{h h':Heap}{a C dx:Addr}{fs fs':List (Str × V)}
theorem ins_get (hok:HOk P w H h) (e:H a=some (.ins C dx fs)):∃ mA,ObjM h a dx C mA/\(∀ f,RelO (fs.lookup f) (mA f))/\PySem.Within mA (fs.map (·.1))/\fs.length<=1000/\H dx=some (.own a):=by
 obtain ⟨d,z,ne,ob,mA,n,r,q⟩:=(show ObjOk P w H h a (.ins C dx fs) from hok a _ e)
 exact ⟨mA,⟨ob,n,ne⟩,r,q,z,d⟩
end
structure Cls (K:PySem.W.Frag) (C:Addr):Prop where
 pg:PySem.W.plainGet K C Str.empty=true
 hd:PySem.W.hasDictIn K C=true
 po:PySem.W.plainOver K C=true
 sa:PySem.W.findIn K (.ref C) "__setattr__"=some (some (.builtin "object.__setattr__"))
theorem Cls.get {K:PySem.W.Frag}{C:Addr}(c:Cls K C) (f:Str):PySem.W.plainGet K C f=true:=c.pg
def NoAttr (K:PySem.W.Frag) (C:Addr) (f:Str):Prop:=PySem.W.findIn K (.ref C) f=some none
theorem NoAttr.taker {K:PySem.W.Frag}{C:Addr}{f:Str}(n:NoAttr K C f):PySem.W.takerIn K C f=some none:=by
 unfold PySem.W.takerIn
 rw [show PySem.W.findIn K (.ref C) f=some none from n]
 rfl
structure Meth (K:PySem.W.Frag) (C:Addr) (m:Str) (f:Addr):Prop where
 at_:PySem.W.findIn K (.ref C) m=some (some (.ref f))
 fn:PySem.W.isFn K (.ref f)=true
 kp:PySem.W.keepIn K (.ref f)=true
section
variable {X:Cx}{pins:List (Addr × Obj)}{σ:St}{H:Hp}{s:Shared}{a C dx:Addr}{fs:List (Str × V)}{f:Str}{v:V}{A:Around}{E:Value->Shared->Prop}
theorem getattr_ok {b:Bool}{Q:Value->Shared->Prop}(I:Inv X pins σ H s) (e:H a=some (.ins C dx fs)) (c:Cls X.K C) (n:NoAttr X.K C f) (l:fs.lookup f=some v)
  (h:∀ u s',Inv X pins σ H s'->RelV v u->Q u s'):wpAny (model X.prog X.w) A (getAttr (.ref a) f b) Q E s:=by
 obtain ⟨mA,O,r,_,_,_⟩:=ins_get I.hok e
 obtain ⟨u,hu,ru⟩:=RelO.some_of (v:=v) (o:=mA f) (by rw [<- l]; exact r f)
 exact get_map I.kIn O (c.get f) c.hd n hu (handed_of ru) (h u _ (I.tok _) ru)
theorem getmeth_ok {m:Str}{g:Addr}{pl:Sem Bool}{Q:Value × List Value->Shared->Prop}(I:Inv X pins σ H s) (e:H a=some (.ins C dx fs)) (c:Cls X.K C) (k:Meth X.K C m g) (l:fs.lookup m=none)
  (h:Q (.ref g,[.ref a]) s):wpAny (model X.prog X.w) A (getMethod (.ref a) m pl) Q E s:=by
 obtain ⟨mA,O,r,_,_,_⟩:=ins_get I.hok e
 have hn:mA m=none:=RelO.none_of (by rw [<- l]; exact r m)
 exact get_meth I.kIn O (c.get m) k.at_ k.fn hn h
theorem setattr_ok {y:V}{u:Value}{Q:Unit->Shared->Prop}(I:Inv X pins σ H s) (e:H a=some (.ins C dx fs)) (c:Cls X.K C) (n:NoAttr X.K C f) (hl:fs.length < 1000) (ry:RelV y u)
  (h:∀ s',Inv X pins σ (upd H a (.ins C dx (putF f y fs))) s'->Q () s'):wpAny (model X.prog X.w) A (setAttr (.ref a) f u) Q E s:=by
 obtain ⟨mA,O,r,wi,_,ho⟩:=ins_get I.hok e
 have hz:(fs.map (·.1)).length<=sizeLine:=by rw [List.length_map,sizeLine_eq]; omega
 refine set_map I.kIn O c.sa c.po n.taker c.hd wi hz fun h' O' sb=>h _ ?_
 have hd:∃ o,h'.get? dx=some o:=let ⟨o,_,_,e',_⟩:=O'.ns; ⟨o,e'⟩
 refine I.write (x:=a) (e:=dx) (by rw [e]; exact True.intro) (.inr ho) (fun b q hb z=>(sb.2 b hb).trans z) hd ?_
 refine ⟨by rw [upd_ne O.ne]; exact ho,?_,O.ne,O'.obj,_,O'.ns,fun g=>?_,fun g hg=>?_⟩
 ·have:=length_putF f y fs; omega
 ·show RelO ((putF f y fs).lookup g) (if g=f then some u else mA g)
  rw [lookup_putF]
  by_cases q:g=f
  ·rw [if_pos q,if_pos q]; exact ry
  ·rw [if_neg q,if_neg q]; exact r g
 ·by_cases q:g=f
  ·rw [q]; exact (keys_putF f y fs).1
  ·refine (keys_putF f y fs).2 g (wi g fun z=>hg ?_)
   show (if g=f then some u else mA g)=none
   rw [if_neg q]; exact z
theorem Inv.made (I:Inv X pins σ H s):Inv X pins σ (upd (upd H s.heap.objs.size (.own (s.heap.objs.size + 1))) (s.heap.objs.size + 1) (.ins C s.heap.objs.size []))
  { s with heap:=(s.heap.push PySem.W.emptyDict).push (PySem.W.instObj C s.heap.objs.size) }:=by
 have e1:(s.heap.push PySem.W.emptyDict).get? s.heap.objs.size=some PySem.W.emptyDict:=Heap.get?_push_size s.heap rfl
 have e2:((s.heap.push PySem.W.emptyDict).push (PySem.W.instObj C s.heap.objs.size)).get? (s.heap.objs.size + 1)=some (PySem.W.instObj C s.heap.objs.size):=by
  have:=Heap.get?_push_size (s.heap.push PySem.W.emptyDict) (o:=PySem.W.instObj C s.heap.objs.size) rfl
  rwa [Heap.size_push] at this
 have e3:(s.heap.push PySem.W.emptyDict).Ns s.heap.objs.size (fun _=>none):=⟨PySem.W.emptyDict,#[],_,e1,rfl,(fun e he=>absurd he (by simp)),fun _=>rfl⟩
 have I1:=I.laid (a:=s.heap.objs.size) (o:=.own (s.heap.objs.size + 1)) (h':=s.heap.push PySem.W.emptyDict) (t':=s.toks) (fun b u q=>Heap.get?_push_of_some _ q) (Nat.le_refl _) ⟨_,e1⟩
 refine I1.laid (a:=s.heap.objs.size + 1) (o:=.ins C s.heap.objs.size []) (t':=s.toks) (fun b u q=>Heap.get?_push_of_some _ q) (Nat.le_of_eq (Heap.size_push _ _)) ?_
 have ne:s.heap.objs.size≠s.heap.objs.size + 1:=Nat.ne_of_lt (Nat.lt_succ_self _)
 refine ⟨by rw [upd_ne ne,upd_same],Nat.zero_le _,ne,e2,fun _=>none,(Heap.Ns1.of_empty e3).at fun o q=>Heap.get?_push_of_some _ q,fun _=>True.intro,fun y hy=>absurd rfl hy⟩
theorem attr_of {prog:Program}{w:World}{env:Env}{e:Expr}{f:Str}{pos:Pos}{s:Shared}{Q:Value->Shared->Prop}(hb:attributeBase e f env (eval e env)=eval e env)
  (h:wpAny (model prog w) A (eval e env) (fun o s₁=>wpAny (model prog w) A (getAttr o f true) Q E s₁) E s):wpAny (model prog w) A (eval (.Attribute e f pos) env) Q E s :=
 Attribute_any_ h (by rw [arm_eval_Attribute,hb])
end
def sFld (K:PySem.W.Frag) (ta tv:TE) (f:Str):TS:=fun D σ H=>tv σ H fun y H1=>ta σ H1 fun x H2=>∃ a C dx fs,x=.ref a/\H2 a=some (.ins C dx fs)/\Cls K C/\NoAttr K C f/\fs.length < 1000 /\
 D.nx σ (upd H2 a (.ins C dx (putF f y fs)))
section
variable {X:Cx}{o e value:Expr}{f:Str}{pos pos' tpos:Pos}{ta tv:TE}
theorem ps_fld (ha:PE X o ta) (hv:PE X value tv) (hs:swapsWith value (some (.Attribute o f pos')) pos.line X.env=pure false):PS X (.Assign [.Attribute o f pos'] value pos) (sFld X.K ta tv f):=by
 intro pins s σ H D I h
 refine plainObj_wpAny_Assign_Attribute (thn (hv pins s σ H _ I h) fun u s1 ⟨y,H1,I1,ry,q⟩=>thn (ha pins s1 σ H1 _ I1 q) fun ov s2 ⟨x,H2,I2,rx,a,C,dx,fs,ex,ea,c,n,l,q2⟩=>?_) hs
 subst ex
 obtain rfl:ov=Value.ref a:=rx
 exact setattr_ok I2 ea c n l ry fun s3 I3=>⟨σ,_,I3,q2⟩
end
section
variable {X:Cx}{pins:List (Addr × Obj)}{σ:St}{H:Hp}{s:Shared}{A:Around}{E:Value->Shared->Prop}{Q:Value->Shared->Prop}{c:Value}{b:Bool}
inductive TyOf (K:PySem.W.Frag) (H:Hp):V->Value->Prop where
 | non:TyOf K H .non (.type "NoneType")
 | bl (x:Bool):TyOf K H (.bl x) (.type "bool")
 | int (i:Int):TyOf K H (.int i) (.type "int")
 | str (x:Str):TyOf K H (.str x) (.type "str")
 | flt (x:UInt64):TyOf K H (.flt x) (.type "float")
 | lst {a:Addr} {xs:List V} (e:H a=some (.lst xs)):TyOf K H (.ref a) (.type "list")
 | frz {a:Addr} {o:Obj} {xs:List V} (e:H a=some (.frz o (.lst xs))):TyOf K H (.ref a) (.type "list")
 | tup {a:Addr} {xs:List V} (e:H a=some (.tup xs)):TyOf K H (.ref a) (.type "tuple")
 | dK {a:Addr} {kvs:List (Key × V)} (e:H a=some (.dK kvs)):TyOf K H (.ref a) (.type "dict")
 | dT {a:Addr} {kvs:List (List Key × V)} (e:H a=some (.dT kvs)):TyOf K H (.ref a) (.type "dict")
 | ins {a C dx:Addr} {fs:List (Str × V)} (e:H a=some (.ins C dx fs)) (cl:Cls K C) (ha:PySem.W.findIn K (.ref C) "__class__"=some (some (.builtin "object.__class__")))
   (hn:PySem.W.specialIn K (.builtin "object.__class__") "__get__"=some (some (.builtin "getset_descriptor.__get__"))) (htk:PySem.W.takesIn K (.builtin "object.__class__")=some true)
   (hm:PySem.W.mroIn K C (.type "object")=some true):TyOf K H (.ref a) (.ref C)
theorem isinst_ok {x:V}{u t:Value}(I:Inv X pins σ H s) (rx:RelV x u) (ty:TyOf X.K H x t) (e:PySem.W.kitOne X.K t c=some b) (h:∀ tk,Q (.bool b) { s with toks:=tk }) :
  wpAny (model X.prog X.w) A (call (.builtin "isinstance") [u,c]) Q E s:=by
 cases ty with
 | non=>cases (show u=Value.none from rx); exact PySem.W.kia_one PySem.W.kitx_none I.kIn True.intro e (fun z=>nomatch z) h
 | bl y=>cases (show u=Value.bool y from rx); exact PySem.W.kia_one PySem.W.kitx_bool I.kIn True.intro e (fun z=>nomatch z) h
 | int i=>obtain ⟨t,q⟩:=(show ∃ t,u=Value.int i t from rx); cases q; exact PySem.W.kia_one PySem.W.kitx_int I.kIn True.intro e (fun z=>nomatch z) h
 | str y=>obtain ⟨t,q⟩:=(show ∃ t,u=Value.str y t from rx); cases q; exact PySem.W.kia_one PySem.W.kitx_str I.kIn True.intro e (fun z=>nomatch z) h
 | flt y=>obtain ⟨t,q⟩:=(show ∃ t,u=Value.float y t from rx); cases q; exact PySem.W.kia_one PySem.W.kitx_float I.kIn True.intro e (fun z=>nomatch z) h
 | @lst a xs ea =>
  cases (show u=Value.ref a from rx)
  obtain ⟨_,_,n,_,h1⟩:=(show ObjOk X.prog X.w H s.heap a (.lst xs) from I.hok a _ ea)
  exact PySem.W.kia_one PySem.W.kitx_list I.kIn ⟨_,h1,rfl⟩ e (fun z=>nomatch z) h
 | @frz a ob xs ea =>
  cases (show u=Value.ref a from rx)
  obtain ⟨_,_,_,n,_,h1⟩:=(show ObjOk X.prog X.w H s.heap a (.frz ob (.lst xs)) from I.hok a _ ea)
  exact PySem.W.kia_one PySem.W.kitx_list I.kIn ⟨_,h1,rfl⟩ e (fun z=>nomatch z) h
 | @tup a xs ea =>
  cases (show u=Value.ref a from rx)
  obtain ⟨_,_,_,p⟩:=(show ObjOk X.prog X.w H s.heap a (.tup xs) from I.hok a _ ea)
  obtain ⟨o,h1,h2,_⟩:=p
  exact PySem.W.kia_one PySem.W.kitx_tuple I.kIn ⟨o,h1,h2⟩ e (fun z=>nomatch z) h
 | @dK a kvs ea =>
  cases (show u=Value.ref a from rx)
  obtain ⟨_,_,vs,_,p⟩:=(show ObjOk X.prog X.w H s.heap a (.dK kvs) from I.hok a _ ea)
  obtain ⟨o,es,ep,h1,h2,_⟩:=p
  exact PySem.W.kia_one PySem.W.kitx_dict I.kIn ⟨o,h1,h2.1⟩ e (fun z=>nomatch z) h
 | @dT a kvs ea =>
  cases (show u=Value.ref a from rx)
  obtain ⟨_,_,xs,_,o,es,ep,h1,h2,_⟩:=(show ObjOk X.prog X.w H s.heap a (.dT kvs) from I.hok a _ ea)
  exact PySem.W.kia_one PySem.W.kitx_dict I.kIn ⟨o,h1,h2.1⟩ e (fun z=>nomatch z) h
 | @ins a C dx fs ea cl ha hn htk hm =>
  cases (show u=Value.ref a from rx)
  obtain ⟨mA,O,_⟩:=ins_get I.hok ea
  obtain ⟨od,J,_⟩:=O.look
  exact PySem.W.kia_one (PySem.W.kitx_own (cl.get _) cl.hd ha hn htk hm) I.kIn J e (fun z=>nomatch z) h
end
end L2
namespace L2
open PySem PySem.Spec PyProof.Rows
structure Room (k:Nat) (A:Around):Prop where
 hd:A.handled=none
 dp:A.depth + 3 * k + 5 < recursionLimit
 un:A.units + 16 * k + 200 < cLine
 gd:A.guards=some []
theorem Room.mono {j k:Nat}{A:Around}(r:Room k A) (h:j<=k):Room j A:=⟨r.hd,by have:=r.dp; omega,by have:=r.un; omega,r.gd⟩
theorem Room.deeper {k:Nat}{A:Around}(r:Room (k + 1) A) (env:Env):Room k (A.deeper env) :=
 ⟨r.hd,by have:=r.dp; show A.depth + 1 + 3 * k + 5 < _; omega,by have:=r.un; show A.units + 3 + 16 * k + 200 < _; omega,r.gd⟩
theorem make_depth {A:Around}{C:Addr}{us:List Value}{kw:List (Str × Value)}:(A.under (.builtin "type.__call__" ⟨.ref C :: us,kw⟩)).depth=A.depth + 1:=by
 first | rfl | simp [Around.under,Code.weight,Code.isCreation,Code.isGuard,Code.isCaller,Code.frames,Code.isFrame,guardIds]
theorem make_units {A:Around}{C:Addr}{us:List Value}{kw:List (Str × Value)}:(A.under (.builtin "type.__call__" ⟨.ref C :: us,kw⟩)).units=A.units + 1:=by
 first | rfl | simp [Around.under,Code.cUnits,Code.frames,Code.isFrame]
theorem make_guards {A:Around}{C:Addr}{us:List Value}{kw:List (Str × Value)}(h:A.guards=some []):(A.under (.builtin "type.__call__" ⟨.ref C :: us,kw⟩)).guards=some []:=by
 first | exact h | simp [Around.under,Code.guards,Code.isGuard,guardIds,pushGuards,h]
theorem Room.make {k:Nat}{A:Around}(r:Room (k + 1) A) (C:Addr) (us:List Value) (kw:List (Str × Value)):Room k (A.under (.builtin "type.__call__" ⟨.ref C :: us,kw⟩)) :=
 ⟨r.hd,by have:=r.dp; rw [make_depth]; omega,by have:=r.un; rw [make_units]; omega,make_guards r.gd⟩
theorem Room.depth {k:Nat}{A:Around}(r:Room k A):A.depth < recursionLimit:=by have:=r.dp; omega
theorem Room.units {k:Nat}{A:Around}(r:Room k A):A.units + 64 < cLine:=by have:=r.un; omega
def tNil:TA:=fun _ H Q=>Q [] H
def tCons (ta:TE) (tr:TA):TA:=fun σ H Q=>ta σ H fun x H1=>tr σ H1 fun xs H2=>Q (x :: xs) H2
section
variable {X:Cx}{e:Expr}{es:List Expr}{te:TE}{t:TA}{pos:Pos}
theorem pa_nil:PA X [] tNil:=fun _ _ _ _ H Q I h=>Calls.spliced_nil ⟨[],H,I,.nil,h⟩
theorem pa_cons (ha:PE X e te) (hr:PA X es t) (hs:starEach (e :: es) X.env=(false,eval e X.env) :: starEach es X.env:=by rfl):PA X (e :: es) (tCons te t):=by
 intro pos pins s σ H Q I h
 rw [hs]
 show wpAny _ _ (spliced ((false,eval e X.env) :: backTo pos (starEach es X.env))) _ _ s
 refine Calls.spliced_cons (thn (ha pins s σ H _ I h) fun u s1 ⟨x,H1,I1,r1,q1⟩=>?_)
 exact thn (hr pos pins s1 σ H1 _ I1 q1) fun us s2 ⟨xs,H2,I2,r2,q2⟩=>⟨x :: xs,H2,I2,.cons r1 r2,q2⟩
def tTup (t:TA):TE:=fun σ H Q=>t σ H fun xs H1=>xs.length<=sizeLine/\∀ p,H1 p=none->Q (.ref p) (upd H1 p (.tup xs))
def tLst (t:TA):TE:=fun σ H Q=>t σ H fun xs H1=>xs.length<=sizeLine/\∀ p,H1 p=none->Q (.ref p) (upd H1 p (.lst xs))
theorem pe_tup {x1}(h:PA X es t):PE X (.Tuple es x1 pos) (tTup t):=by
 intro pins s σ H Q I hq
 refine wpAny_Tuple_spliced (thn (h pos pins s σ H _ I hq) fun us s1 ⟨xs,H1,I1,r,z,q⟩=>⟨by rw [<- r.length]; exact z,?_⟩)
 have hf:H1 s1.heap.objs.size=none:=I1.hok.fresh (Nat.le_refl _)
 refine ⟨.ref s1.heap.objs.size,upd H1 s1.heap.objs.size (.tup xs),I1.laid (t':=s1.toks) (fun b u e=>Heap.get?_push_of_some _ e) (Nat.le_refl _) ?_,rfl,q _ hf⟩
 exact ⟨z,us,r,⟨_,Heap.get?_push_size _ rfl,rfl,rfl,_,rfl⟩⟩
theorem pe_lst (h:PA X es t):PE X (.List es pos) (tLst t):=by
 intro pins s σ H Q I hq
 refine wpAny_List_spliced (thn (h pos pins s σ H _ I hq) fun us s1 ⟨xs,H1,I1,r,z,q⟩=>⟨by rw [<- r.length]; exact z,?_⟩)
 have hf:H1 s1.heap.objs.size=none:=I1.hok.fresh (Nat.le_refl _)
 refine ⟨.ref s1.heap.objs.size,upd H1 s1.heap.objs.size (.lst xs),I1.laid (t':=s1.toks) (fun b u e=>Heap.get?_push_of_some _ e) (Nat.le_refl _) ?_,rfl,q _ hf⟩
 exact ⟨z,us,0,r,Heap.get?_push_size _ rfl⟩
end
abbrev Sp:=List V->Hp->VK->XK->Prop
abbrev CXT:=List Env->Hp->Shared->XK->Value->Shared->Prop
structure Env0 (P:Program) (w:World) (K:PySem.W.Frag) (mg:Str->Option Value) (base:Heap) (A:Around) (outer:List Env) (s:Shared) (H:Hp):Prop where
 frames:A.frames=some outer
 mod:Mod K mg base
 bs:∀ b o,base.get? b=some o->s.heap.get? b=some o/\H b=none
 bsz:base.objs.size<=s.heap.objs.size
 funs:s.heap.FunFrames base outer
 frf:∀ b∈frs outer,H b=none
 hok:HOk P w H s.heap
 bare:AllBare s.gens
def CE (outer:List Env) (P:Program) (w:World) (H:Hp) (s:Shared) (Q:VK) (u:Value) (s':Shared):Prop :=
 ∃ v H',s'.os=s.os/\AllBare s'.gens/\Un (frs outer) [] H H' s.heap s'.heap/\HOk P w H' s'.heap/\RelV v u/\Q v H'
def CR (CX:CXT) (outer:List Env) (P:Program) (w:World) (H:Hp) (s:Shared) (Q:VK) (E:XK) (r:Result) (s':Shared):Prop :=
 match r with
 | .ok (.ret u)=>CE outer P w H s Q u s'
 | .ok _=>False
 | .error e=>CX outer H s E e s'
structure FnOk (P:Program) (w:World) (K:PySem.W.Frag) (mg:Str->Option Value) (base:Heap) (CX:CXT) (k:Nat) (f:Addr) (fd:FuncData) (ps:List Str) (sp:Sp):Prop where
 len:∀ vs H Q E,sp vs H Q E->vs.length=ps.length
 run:∀ (A:Around) (outer:List Env) (s:Shared) (H:Hp) (args:Args) (us:List Value) (vs:List V) (Q:VK) (E:XK),Room k A->Env0 P w K mg base A outer s H->BindsTo s fd args (ps.zip us)->Vals vs us->sp vs H Q E ->
  codeAny (model P w) A (.call (.ref f) args) (CR CX outer P w H s Q E) s
theorem FnOk.imp {P:Program}{w:World}{K:PySem.W.Frag}{mg:Str->Option Value}{base:Heap}{CX:CXT}{k:Nat}{f:Addr}{fd:FuncData}{ps:List Str}{sp sp':Sp}(F:FnOk P w K mg base CX k f fd ps sp)
  (h:∀ vs H Q E,sp' vs H Q E->sp vs H Q E):FnOk P w K mg base CX k f fd ps sp' :=
 ⟨fun vs H Q E q=>F.len vs H Q E (h _ _ _ _ q),fun A outer s H args us vs Q E hr he hb hv hs=>F.run A outer s H args us vs Q E hr he hb hv (h _ _ _ _ hs)⟩
theorem Env0.make {P:Program}{w:World}{K:PySem.W.Frag}{mg:Str->Option Value}{base:Heap}{A:Around}{outer:List Env}{s:Shared}{H:Hp}(e:Env0 P w K mg base A outer s H) (C:Addr) (us:List Value) (kw:List (Str × Value)) :
  Env0 P w K mg base (A.under (.builtin "type.__call__" ⟨.ref C :: us,kw⟩)) outer s H:=⟨by first | exact e.frames | (simpa [Around.under,Code.envs,Code.isFrame,pushEnvs] using e.frames),e.mod,e.bs,e.bsz,e.funs,e.frf,e.hok,e.bare⟩
section
variable {X:Cx}{pins:List (Addr × Obj)}{σ:St}{H:Hp}{s s':Shared}
theorem Inv.env0 (I:Inv X pins σ H s):Env0 X.prog X.w X.K X.mg X.base X.A X.stack s H :=
 ⟨I.ok.frames,I.ok.mod,I.bs,Nat.le_trans I.ok.bsz I.sz,I.stack,I.stkFree,I.hok,I.bare⟩
theorem Inv.after {Q:VK}{u:Value}(I:Inv X pins σ H s) (h:CE X.stack X.prog X.w H s Q u s'):EP X pins σ Q u s':=by
 obtain ⟨v,H',os,bare,un,hok,r,q⟩:=h
 obtain ⟨hh,g,d,t,os'⟩:=s'
 obtain rfl:os'=s.os:=os
 exact ⟨v,H',I.call (h':=hh) (g':=g) (d':=d) (t':=t) (ch:=[]) un hok bare (fun b z=>absurd z (by simp)),r,q⟩
end
def tCall (sp:Sp) (dvs:List V) (E:XK) (t:TA):TE:=fun σ H Q=>t σ H fun vs H1=>sp (vs ++ dvs) H1 Q E
def tMake (C:Addr) (sp:Sp) (dvs:List V) (E:XK) (t:TA):TE:=fun σ H Q=>t σ H fun vs H1=>∀ x dx,H1 x=none->H1 dx=none->dx≠x ->
 sp (.ref x :: (vs ++ dvs)) (upd (upd H1 dx (.own x)) x (.ins C dx [])) (fun v H2=>v=.non/\Q (.ref x) H2) E
def Binds (K:PySem.W.Frag) (fd:FuncData) (ps:List Str) (ds:List Value):Prop :=
 ∀ (s:Shared) (us:List Value),K.In s.heap->(us ++ ds).length=ps.length->BindsTo s fd ⟨us,[]⟩ (ps.zip (us ++ ds))
theorem Binds.all {K:PySem.W.Frag}{fd:FuncData}{ps:List Str}(h:∀ us:List Value,us.length=ps.length->bindArgs fd ⟨us,[]⟩=pure (ps.zip us)):Binds K fd ps []:=fun s us _ hl=>by
 rw [List.append_nil] at hl ⊢
 exact .of_eq (h us hl)
def Passes (CX:CXT) (X:Cx) (E:XK):Prop:=∀ (pins:List (Addr × Obj)) (σ:St) (H:Hp) (s:Shared) (e:Value) (s':Shared),Inv X pins σ H s->CX X.stack H s E e s'->X.xe e s'
section
variable {X:Cx}{CX:CXT}{k:Nat}{f C:Addr}{fd:FuncData}{ps:List Str}{sp:Sp}{dvs:List V}{ds:List Value}{E:XK}{x m:Str}{p pos apos:Pos}{e o:Expr}{es:List Expr}{ta:TE}{t:TA}
theorem run_fn {pins:List (Addr × Obj)}{σ:St}{H:Hp}{s:Shared}{Q:VK}{us:List Value}{vs:List V}(F:FnOk X.prog X.w X.K X.mg X.base CX k f fd ps sp) (hr:Room k X.A) (hb:Binds X.K fd ps ds) (hd:Vals dvs ds) (hx:Passes CX X E)
  (I:Inv X pins σ H s) (r:Vals vs us) (h:sp (vs ++ dvs) H Q E):wpAny (model X.prog X.w) X.A (call (.ref f) us) (EP X pins σ Q) X.xe s:=by
 have r2:Vals (vs ++ dvs) (us ++ ds):=r.append hd
 have hl:(us ++ ds).length=ps.length:=by rw [<- r2.length]; exact F.len _ _ _ _ h
 refine wpAny_call (codeAny_mono (F.run X.A X.stack s H ⟨us,[]⟩ (us ++ ds) (vs ++ dvs) Q E hr I.env0 (hb s us I.kIn hl) r2 h) fun r s' hq=>?_)
 cases r with
 | error e=>exact hx pins σ H s e s' I hq
 | ok fl =>
  cases fl with
  | ret u=>exact I.after hq
  | next=>exact False.elim hq
  | brk=>exact False.elim hq
  | cont=>exact False.elim hq
theorem pe_call (F:FnOk X.prog X.w X.K X.mg X.base CX k f fd ps sp) (hr:Room k X.A) (hg:Gl X x) (hm:X.mg x=some (.ref f)) (hk:PySem.W.keepIn X.K (.ref f)=true) (hb:Binds X.K fd ps ds) (hd:Vals dvs ds) (hx:Passes CX X E)
  (ha:PA X (e :: es) t) (hdb:(x == ("__debug__":Str))=false:=by decide) (he:starEach (e :: es) X.env=(false,eval e X.env) :: starEach es X.env:=by rfl) (hpl:(backTo pos (starEach es X.env)).any (·.1)=false:=by rfl) :
  PE X (.Call (.Name x p) (e :: es) [] pos) (tCall sp dvs E t):=by
 intro pins s σ H Q I h
 refine wpAny_Call_Name_kw (ld_glob I hg hm ?_ hdb)
 refine PySem.W.callWith_K (h₀:=X.base) I.ok.mod.kin hk (thn (ha pos pins s σ H _ I h) fun us s1 ⟨vs,H1,I1,r,q⟩=>⟨I1.kIn,?_⟩) he hpl
 exact run_fn F hr hb hd hx I1 r q
structure Mk (K:PySem.W.Frag) (C f:Addr):Prop where
 makes:PySem.W.makesIn K C=true
 init:PySem.W.findIn K (.ref C) "__init__"=some (some (.ref f))
 fn:PySem.W.isFn K (.ref f)=true
 kp:PySem.W.keepIn K (.ref C)=true
theorem run_make {pins:List (Addr × Obj)}{σ:St}{H:Hp}{s:Shared}{Q:VK}{us:List Value}{vs:List V}(M:Mk X.K C f) (F:FnOk X.prog X.w X.K X.mg X.base CX k f fd ps sp) (hr:Room (k + 1) X.A) (hb:Binds X.K fd ps ds) (hd:Vals dvs ds)
  (hx:Passes CX X E) (I:Inv X pins σ H s) (r:Vals vs us)
  (h:∀ x dx,H x=none->H dx=none->dx≠x->sp (.ref x :: (vs ++ dvs)) (upd (upd H dx (.own x)) x (.ins C dx [])) (fun v H2=>v=.non/\Q (.ref x) H2) E) :
  wpAny (model X.prog X.w) X.A (call (.ref C) us) (EP X pins σ Q) X.xe s:=by
 have hq:=h (s.heap.objs.size + 1) s.heap.objs.size (I.hok.fresh (Nat.le_succ _)) (I.hok.fresh (Nat.le_refl _)) (Nat.ne_of_lt (Nat.lt_succ_self _))
 have I2:=Inv.made (C:=C) I
 have r2:Vals (V.ref (s.heap.objs.size + 1) :: (vs ++ dvs)) (Value.ref (s.heap.objs.size + 1) :: (us ++ ds)):=.cons rfl (r.append hd)
 have hl:(Value.ref (s.heap.objs.size + 1) :: us ++ ds).length=ps.length:=by
  have e:=r2.length
  rw [F.len _ _ _ _ hq] at e
  exact e.symm
 refine wpAny_call (make_map (f:=f) I.kIn M.makes M.init (beq_iff_eq.mp M.fn) (codeAny_mono (F.run _ X.stack _ _ ⟨Value.ref (s.heap.objs.size + 1) :: us,[]⟩ (Value.ref (s.heap.objs.size + 1) :: (us ++ ds)) _ _ E (hr.make C us [])
  (I2.env0.make C us []) (hb _ (Value.ref (s.heap.objs.size + 1) :: us) I2.kIn hl) r2 hq) fun r s' hq'=>?_))
 cases r with
 | error e=>exact hx pins σ _ _ e s' I2 hq'
 | ok fl =>
  cases fl with
  | ret u =>
   obtain ⟨v,H',I3,rv,ev,q3⟩:=I2.after hq'
   subst ev
   exact ⟨rv,⟨V.ref (s.heap.objs.size + 1),H',I3,rfl,q3⟩⟩
  | next=>exact False.elim hq'
  | brk=>exact False.elim hq'
  | cont=>exact False.elim hq'
theorem pe_make0 (M:Mk X.K C f) (F:FnOk X.prog X.w X.K X.mg X.base CX k f fd ps sp) (hr:Room (k + 1) X.A) (hg:Gl X x) (hm:X.mg x=some (.ref C)) (hb:Binds X.K fd ps ds) (hd:Vals dvs ds) (hx:Passes CX X E)
  (hdb:(x == ("__debug__":Str))=false:=by decide):PE X (.Call (.Name x p) [] [] pos) (tMake C sp dvs E tNil):=by
 intro pins s σ H Q I h
 refine wpAny_Call_Name_kw (ld_glob I hg hm ?_ hdb)
 exact PySem.W.callWith_K0 I.kIn M.kp (run_make (us:=[]) M F hr hb hd hx I .nil h)
end
section
variable {X:Cx}{CX:CXT}{k:Nat}{f C:Addr}{fd:FuncData}{ps ks:List Str}{sp:Sp}{E:XK}{x m:Str}{p pos apos kpos:Pos}{e o:Expr}{es:List Expr}{kws:List Keyword}{te ta:TE}{t tk:TA}{nm:Option Str}
variable {g:List Value->List Value->List Value}{gV:List V->List V->List V}
end
structure FnScope (N P:List Str) (sc:Scope):Prop where
 kind:sc.kind=.function
 co:sc.isCoroutine=false
 gen:sc.isGenerator=false
 nd:N.Nodup
 pre:N.take P.length=P
 par:∀ x∈P,sc.names.lookup x=some .local\/sc.names.lookup x=some .cell
 nofree:∀ y∈sc.names,y.2≠.free
theorem bindL_out {kindOf:Str->Option NameKind}{x:Str}:∀ {binds:List (Str × Value)}{m:Str->Option Value},(∀ v,(x,v) ∉ binds)->bindL kindOf binds m x=m x
 | [],_,_=>rfl
 | (n,v) :: r,m,h=>by
  unfold bindL
  rw [bindL_out fun w hw=>h w (List.mem_cons_of_mem _ hw)]
  split
  ·have:x≠n:=by rintro rfl; exact h v List.mem_cons_self
   simp [this]
  ·rfl
theorem bindC_out {kindOf:Str->Option NameKind}{x:Str}:∀ {binds:List (Str × Value)}{m:Str->Option Value},(∀ v,(x,v) ∉ binds)->bindC kindOf binds m x=m x
 | [],_,_=>rfl
 | (n,v) :: r,m,h=>by
  unfold bindC
  rw [bindC_out fun w hw=>h w (List.mem_cons_of_mem _ hw)]
  split
  ·rfl
  ·have:x≠n:=by rintro rfl; exact h v List.mem_cons_self
   simp [this]
theorem bindL_get {kindOf:Str->Option NameKind}{x:Str}{v:Value}:∀ {P:List Str}{vs:List Value}{i:Nat}{m:Str->Option Value},P.Nodup->P[i]?=some x->vs[i]?=some v->kindOf x=some .local ->
  bindL kindOf (P.zip vs) m x=some v
 | [],_,_,_,_,h,_,_=>by simp at h
 | _ :: _,[],_,_,_,_,h,_=>by simp at h
 | p :: P,w :: vs,0,m,nd,h1,h2,hk=>by
  simp at h1 h2; subst h1; subst h2
  show bindL kindOf ((p,w) :: P.zip vs) m p=_
  unfold bindL
  rw [bindL_out fun v hv=>(List.nodup_cons.mp nd).1 (List.of_mem_zip hv).1,if_pos hk]
  simp
 | p :: P,w :: vs,i + 1,m,nd,h1,h2,hk=>by
  show bindL kindOf ((p,w) :: P.zip vs) m x=_
  unfold bindL
  exact bindL_get (i:=i) (List.nodup_cons.mp nd).2 (by simpa using h1) (by simpa using h2) hk
theorem bindC_get {kindOf:Str->Option NameKind}{x:Str}{v:Value}:∀ {P:List Str}{vs:List Value}{i:Nat}{m:Str->Option Value},P.Nodup->P[i]?=some x->vs[i]?=some v->kindOf x≠some .local ->
  bindC kindOf (P.zip vs) m x=some v
 | [],_,_,_,_,h,_,_=>by simp at h
 | _ :: _,[],_,_,_,_,h,_=>by simp at h
 | p :: P,w :: vs,0,m,nd,h1,h2,hk=>by
  simp at h1 h2; subst h1; subst h2
  show bindC kindOf ((p,w) :: P.zip vs) m p=_
  unfold bindC
  rw [bindC_out fun v hv=>(List.nodup_cons.mp nd).1 (List.of_mem_zip hv).1,if_neg hk]
  simp
 | p :: P,w :: vs,i + 1,m,nd,h1,h2,hk=>by
  show bindC kindOf ((p,w) :: P.zip vs) m x=_
  unfold bindC
  exact bindC_get (i:=i) (List.nodup_cons.mp nd).2 (by simpa using h1) (by simpa using h2) hk
def start (N:List Str) (vs:List V):St:=vs.map some ++ List.replicate (N.length - vs.length) none
def cxOf (CX:CXT) (P:Program) (w:World) (K:PySem.W.Frag) (mg:Str->Option Value) (base:Heap) (N:List Str) (qual:Str) (scope:Scope) (f:Addr) (cd:Value) (A:Around) (outer:List Env) (s:Shared) (H:Hp) (E:XK):Cx where
 prog:=P
 w:=w
 K:=K
 mg:=mg
 base:=base
 A:=A.deeper (envOfC qual scope s.heap.objs.size f cd)
 N:=N
 s₀:=s
 H₀:=H
 env:=envOfC qual scope s.heap.objs.size f cd
 outer:=outer
 stack:=envOfC qual scope s.heap.objs.size f cd :: outer
 ex:=[]
 calm:=true
 fn:=fun _=>true
 pn:=[]
 xe:=fun e s'=>wpAny (model P w) (A.deeper (envOfC qual scope s.heap.objs.size f cd)) (leaving (envOfC qual scope s.heap.objs.size f cd) e) (fun _ s''=>CX outer H s E e s'') (fun e' s''=>CX outer H s E e' s'') s'
theorem cell_has {sc:Scope}{n:Nat}{x:Str}(h:sc.names.lookup x=some .cell):∃ c,(cellsFrom n sc.names []).lookup x=some c:=by
 have q:=PySem.W.cellsFrom_some sc.names n [] (.inl h)
 exact Option.isSome_iff_exists.mp q
theorem inv_start {CX:CXT}{P:Program}{w:World}{K:PySem.W.Frag}{mg:Str->Option Value}{base:Heap}{N ps:List Str}{qual:Str}{scope:Scope}{f:Addr}{cd:Value}{A:Around}{outer:List Env}{s s1:Shared}{H:Hp}{E:XK}{us:List Value}{vs:List V}
  (S:FnScope N ps scope) (hd:A.handled=none) (e0:Env0 P w K mg base A outer s H) (hl:vs.length=ps.length) (r:Vals vs us)
  (x:InCallC s s.heap.objs.size (bindL (envOfC qual scope s.heap.objs.size f cd).kindOf (ps.zip us) fun _=>none) (cellsFrom (s.heap.objs.size + 1) scope.names []) (bindC (envOfC qual scope s.heap.objs.size f cd).kindOf (ps.zip us) fun _=>none) s1) :
  Inv (cxOf CX P w K mg base N qual scope f cd A outer s H E) [] (start N vs) H s1:=by
 have hpl:ps.length<=N.length:=by have:=congrArg List.length S.pre; rw [List.length_take] at this; omega
 obtain ⟨h1,tk,rfl,hk⟩:=x.done
 have noA:∀ b:Addr,b ∉ (cxOf CX P w K mg base N qual scope f cd A outer s H E).ex:=fun b z=>absurd (show b∈([]:List Addr) from z) (by simp)
 refine ⟨⟨e0.mod,S.kind,rfl,rfl,Nat.le_refl _,fun y z c h1 h2=>?_,fun y hy=>?_,fun y c _ h=>?_,fun _=>hd,Around.frames_deeper e0.frames,.inr ⟨rfl,rfl⟩,fun b z=>absurd z (noA b),e0.bs,e0.bsz,fun b _ _=>noA b,fun b z=>absurd z (noA b),e0.funs,e0.frf⟩,
  rfl,e0.bare,Un.kept hk,⟨_,x.toInCall.ns,fun i y v h1 h2 h3=>?_⟩,fun y c h=>⟨_,x.cell y c h⟩,e0.hok.fresh (Nat.le_refl _),fun y c h=>?_,fun p hp=>absurd (show p∈([]:List (Addr × Obj)) from hp) (by simp),e0.hok.kept hk,?_⟩
 ·exact name_of_addr x.apart (PySem.mem_of_lookup h1) (PySem.mem_of_lookup h2)
 ·have hy:scope.names.lookup y=some .cell\/scope.names.lookup y=some .free:=hy
  rcases hy with hy | hy
  ·exact cell_has hy
  ·exact absurd rfl (S.nofree _ (PySem.mem_of_lookup hy))
 ·exact Nat.le_of_lt (x.above y c (PySem.mem_of_lookup h))
 ·have hi:i < vs.length:=by
   unfold start at h2
   by_cases hi:i < vs.length
   ·exact hi
   ·rw [List.getElem?_append_right (by simpa using hi)] at h2
    rw [List.getElem?_replicate] at h2
    split at h2 <;> cases h2
  have ha:vs[i]?=some v:=by
   unfold start at h2
   rw [List.getElem?_append_left (by simpa using hi),List.getElem?_map] at h2
   cases e:vs[i]? with
   | none=>rw [e] at h2; cases h2
   | some a=>rw [e] at h2; cases h2; rfl
  obtain ⟨u,hu,rv⟩:=r.get ha
  have hp:ps[i]?=some y:=by
   rw [<- S.pre,List.getElem?_take_of_lt (by omega)]; exact h1
  have ndP:ps.Nodup:=by rw [<- S.pre]; exact S.nd.sublist (List.take_sublist _ _)
  refine ⟨u,rv,?_⟩
  rcases S.par y (List.mem_of_getElem? hp) with k | k
  ·exact .inl ⟨k,bindL_get ndP hp hu k⟩
  ·obtain ⟨c,e⟩:=cell_has (n:=s.heap.objs.size + 1) k
   refine .inr ⟨.inl k,c,e,?_⟩
   have q:=x.cell y c e
   rw [bindC_get ndP hp hu (by show scope.names.lookup y≠_; rw [k]; decide)] at q
   exact q
 ·exact e0.hok.fresh (Nat.le_of_lt (x.above y c (PySem.mem_of_lookup h)))
 ·unfold start
  show _=N.length
  rw [List.length_append,List.length_map,List.length_replicate]
  omega
theorem fn_of {CX:CXT}{P:Program}{w:World}{K:PySem.W.Frag}{mg:Str->Option Value}{base:Heap}{k:Nat}{f:Addr}{name qual:Str}{params:Arguments}{body:List Stmt}{scope:Scope}{dV kV doc pm cdv ct oc:Value}{an od:Option Addr}
  {osl:Array (Option Value)} {N ps:List Str} {sp:Sp} (lk:K.lookup f=some ⟨oc,od,.func (PySem.W.fnOf name qual params body scope dV kV doc pm an cdv ct),osl⟩) (hcd:PySem.W.codeIn K cdv qual=true) (S:FnScope N ps scope)
  (len:∀ vs H Q E,sp vs H Q E->vs.length=ps.length)
  (hbody:∀ (A:Around) (outer:List Env) (s:Shared) (H:Hp) (vs:List V) (Q:VK) (E:XK),Room k (A.deeper (envOfC qual scope s.heap.objs.size f cdv))->sp vs H Q E ->
   ∃ t,PSs (cxOf CX P w K mg base N qual scope f cdv A outer s H E) body t/\t { nx:=fun _ H'=>Q .non H',rt:=Q } (start N vs) H) :
  FnOk P w K mg base CX (k + 1) f (PySem.W.fnOf name qual params body scope dV kV doc pm an cdv ct) ps sp:=by
 refine ⟨len,fun A outer s H args us vs Q E hr e0 hb r hsp=>?_⟩
 have hl:=len _ _ _ _ hsp
 have KX:K.In s.heap:=e0.mod.kin.keeps fun b o e=>(e0.bs b o e).1
 have lim:s.heap.NoLimit:=e0.mod.nolimit.keeps fun b o e=>(e0.bs b o e).1
 have hkind:∀ y∈ps.zip us,scope.names.lookup y.1=some .local\/(scope.names.lookup y.1=some .cell/\((cellsFrom (s.heap.objs.size + 1) scope.names []).lookup y.1).isSome=true):=fun ⟨n,v⟩ hy=>by
  rcases S.par n (List.of_mem_zip hy).1 with q | q
  ·exact .inl q
  ·exact .inr ⟨q,PySem.W.cellsFrom_some _ _ _ (.inl q)⟩
 refine codeAny_call_function hr.depth (KX _ _ lk) rfl S.co S.gen rfl (PySem.W.codeRec_of KX hcd) (hb _ _ _ _ ?_)
 refine wpAny_newFunctionEnv_cells S.kind hkind fun env he s1 x=>?_
 subst he
 refine ⟨lim.keeps x.toInCall.keep,codeAny_func ?_⟩
 obtain ⟨t,ht,hq⟩:=hbody A outer s H vs Q E (hr.deeper _) hsp
 have I:Inv (cxOf CX P w K mg base N qual scope f cdv A outer s H E) [] (start N vs) H s1:=inv_start S hr.hd e0 hl r x
 refine wpAny_mono (ht [] s1 (start N vs) H _ I hq) (fun fl s' hs=>?_) fun e s' hs=>hs
 have fin:∀ {σ':St} {H':Hp} {v:V} {u:Value},Inv (cxOf CX P w K mg base N qual scope f cdv A outer s H E) [] σ' H' s'->RelV v u->Q v H'->CE outer P w H s Q u s' :=
  fun {σ' H' v u} J rv q=>⟨v,H',J.os,J.bare,J.base,J.hok,rv,q⟩
 cases fl with
 | ret u =>
  obtain ⟨v,σ',H',J,rv,q⟩:=hs
  exact fin J rv q
 | next =>
  obtain ⟨σ',H',J,q⟩:=hs
  exact fin (v:=V.non) (u:=Value.none) J rfl q
 | brk =>
  obtain ⟨_,_,_,q⟩:=hs
  exact False.elim q
 | cont =>
  obtain ⟨_,_,_,q⟩:=hs
  exact False.elim q
end L2
namespace L2
open PySem PySem.Spec PyProof.Rows
section
variable {X:Cx}{x:Str}{p pos:Pos}{e:Expr}{es:List Expr}{t:TA}{id T:String}{r:List V->Hp->VK->Prop}
def tCB (r:List V->Hp->VK->Prop) (t:TA):TE:=fun σ H Q=>t σ H fun vs H1=>r vs H1 Q
theorem pe_callB (hc:CallR X (.builtin id) r) (hg:Gl X x) (hm:X.mg x=none) (hv:bootBuiltins x=some (.builtin id)) (ha:PA X (e :: es) t) (hn:x ≠ "__name__":=by decide) (hdb:(x == ("__debug__":Str))=false:=by decide)
  (he:starEach (e :: es) X.env=(false,eval e X.env) :: starEach es X.env:=by rfl) (hpl:(backTo pos (starEach es X.env)).any (·.1)=false:=by rfl):PE X (.Call (.Name x p) (e :: es) [] pos) (tCB r t):=by
 intro pins s σ H Q I h
 refine wpAny_Call_Name_kw (ld_blt I hg hm hv ?_ hn hdb)
 exact PyProof.Rows.callWith_builtin1 (thn (ha pos pins s σ H _ I h) fun us s1 ⟨vs,H1,I1,r1,q1⟩=>hc pins s1 σ H1 vs us Q I1 r1 q1) he hpl
theorem pe_callTy (hc:CallR X (.type T) r) (hg:Gl X x) (hm:X.mg x=none) (hv:bootBuiltins x=some (.type T)) (ha:PA X (e :: es) t) (hn:x ≠ "__name__":=by decide) (hdb:(x == ("__debug__":Str))=false:=by decide)
  (he:starEach (e :: es) X.env=(false,eval e X.env) :: starEach es X.env:=by rfl) (hpl:(backTo pos (starEach es X.env)).any (·.1)=false:=by rfl):PE X (.Call (.Name x p) (e :: es) [] pos) (tCB r t):=by
 intro pins s σ H Q I h
 refine wpAny_Call_Name_kw (ld_blt I hg hm hv ?_ hn hdb)
 exact PyProof.Rows.callWith_type1 (thn (ha pos pins s σ H _ I h) fun us s1 ⟨vs,H1,I1,r1,q1⟩=>hc pins s1 σ H1 vs us Q I1 r1 q1) he hpl
end
end L2
namespace HT
open PySem PyProof.Rows
section
open PySem.SeqAt
open PySem.AutoSeq1 (wpAny_loadPart')
open PySem.MeetsSeq PySem.MeetsSeq2 PySem.MeetsSeq3
end
section
variable {prog:Program}{w:World}{A:Around}{E:Value->Shared->Prop}{s:Shared}
theorem cat_tup {t b:Addr}{vs ws:List Value}{Q:Value->Shared->Prop}(ht:IsTup s.heap t vs.toArray) (hb:IsTup s.heap b ws.toArray) (hv:vs≠[])
  (h1:ws=[]->Q (.ref t) s) (h2:ws≠[]->Q (.ref s.heap.objs.size) { s with heap:=s.heap.push { cls:=.type "tuple",data:=.seq (vs ++ ws).toArray } })
  (hsz:vs.length + ws.length<=sizeLine):wpAny (model prog w) A (binaryOp .Add (.ref t) (.ref b)) Q E s:=by
 obtain ⟨⟨cls,dd,data,sl⟩,ho,hc,n,hd⟩:=id ht
 obtain ⟨⟨cls2,dd2,data2,sl2⟩,ho2,hc2,n2,hd2⟩:=id hb
 simp only at hc hd hc2 hd2
 subst hc hd hc2 hd2
 have e:vs.toArray ++ ws.toArray=(vs ++ ws).toArray:=by simp
 by_cases hw:ws=[]
 ·exact concat_meets ⟨_,ho,rfl⟩ ⟨_,ho2,rfl⟩ noFill_tuple_add seq_tuple_add PySem.F.slot_tuple_add PySem.F.entry_tuple_add (PySem.F.args_tuple_add_2 _ _)
   (tuple_addW1 t b vs.toArray ws.toArray n n2 dd dd2 sl sl2 (by simpa using hv) (by simp [hw])) ⟨ho,ho2,h1 hw⟩
 ·refine concat_meets ⟨_,ho,rfl⟩ ⟨_,ho2,rfl⟩ noFill_tuple_add seq_tuple_add PySem.F.slot_tuple_add PySem.F.entry_tuple_add (PySem.F.args_tuple_add_2 _ _)
   (tuple_addW2 t b vs.toArray ws.toArray n n2 dd dd2 sl sl2 (by simpa using hv) (by simpa using hw) (by rw [List.size_toArray,List.size_toArray]; exact hsz)) ⟨ho,ho2,?_⟩
  rw [e]
  exact h2 hw
def sIx (n d:Nat):Option Int->Nat
 | none=>d
 | some v=>if v < 0 then (v + (n:Int)).toNat else min v.toNat n
theorem sIx_none (n d:Nat):sIx n d none=d:=rfl
theorem sIx_nat (n d k:Nat):sIx n d (some (k:Int))=min k n:=by
 show (if (k:Int) < 0 then ((k:Int) + (n:Int)).toNat else min (k:Int).toNat n)=min k n
 rw [if_neg (by omega),Int.toNat_natCast]
theorem sIx_le (n d:Nat) (hd:d<=n) (o:Option Int):sIx n d o<=n:=by
 cases o with
 | none=>exact hd
 | some v =>
  show (if v < 0 then (v + (n:Int)).toNat else min v.toNat n)<=n
  by_cases hv:v < 0
  ·rw [if_pos hv]; omega
  ·rw [if_neg hv]; exact Nat.min_le_right _ _
theorem clip_eq (v:Int) (n d:Nat):(if v < 0 then max (v + (n:Int)) 0 else min v (n:Int))=((sIx n d (some v):Nat):Int):=by
 show (if v < 0 then max (v + (n:Int)) 0 else min v (n:Int))=(((if v < 0 then (v + (n:Int)).toNat else min v.toNat n):Nat):Int)
 by_cases hv:v < 0
 ·simp only [if_pos hv]; omega
 ·simp only [if_neg hv]; omega
theorem adjust_gen (lo hi:Option Int) (n:Nat):Builtin.Slice.sliceAdjust lo hi 1 (n:Int)=(((sIx n 0 lo:Nat):Int),((sIx n n hi:Nat):Int)):=by
 have h1:¬ ((1:Int) < 0):=by omega
 unfold Builtin.Slice.sliceAdjust
 simp only [h1,if_false]
 refine Prod.ext ?_ ?_
 ·cases lo with
  | none=>rfl
  | some v=>exact clip_eq v n 0
 ·cases hi with
  | none=>rfl
  | some v=>exact clip_eq v n n
theorem places_gen (i j:Nat):Builtin.Slice.slicePlaces (i:Int) (j:Int) 1=j - i:=by
 unfold Builtin.Slice.slicePlaces
 have h1:(1:Int) > 0:=by omega
 simp only [h1,if_true,Int.ediv_one]
 split <;> omega
theorem slicePart_ {v:Value}{o:Option Int}{Q:Option Int->Shared->Prop}(p:IsPart v o) (h:Q o s):wpAny (model prog w) A (Builtin.Slice.slicePartIndex v) Q E s:=by
 cases p with
 | none=>exact slicePart_none h
 | int i t=>exact slicePart_int h
theorem sliceApplied_gen {sl:Addr}{vl vu:Value}{lo hi:Option Int}{n:Nat}{Q:Int × Int × Nat->Shared->Prop}(hs:s.heap.IsSliceOf sl vl vu .none) (pl:IsPart vl lo) (pu:IsPart vu hi)
  (h:Q (((sIx n 0 lo:Nat):Int),1,sIx n n hi - sIx n 0 lo) s):wpAny (model prog w) A (Builtin.Slice.sliceApplied (.ref sl) (pure (n:Int))) Q E s:=by
 obtain ⟨os,hos,hcs,hds⟩:=id hs
 unfold Builtin.Slice.sliceApplied Builtin.Slice.sliceFields
 refine wpAny_bind (wpAny_bind (wpAny_field hos hds (x:=vl) rfl (wpAny_bind (wpAny_field hos hds (x:=vu) rfl (wpAny_bind (wpAny_field hos hds (x:=.none) rfl (wpAny_pure ?_)))))))
 refine wpAny_bind (slicePart_none ?_)
 show wpAny _ _ (if ((1:Int) == 0)=true then _ else _) _ _ s
 rw [if_neg (by decide)]
 refine wpAny_bind (slicePart_ pl (wpAny_bind (slicePart_ pu (wpAny_bind (wpAny_pure ?_)))))
 show wpAny _ _ (match Builtin.Slice.sliceAdjust lo hi 1 (n:Int) with | (lo,hi)=>pure (lo,(1:Int),Builtin.Slice.slicePlaces lo hi 1)) _ _ s
 rw [adjust_gen lo hi n]
 show wpAny _ _ (pure (((sIx n 0 lo:Nat):Int),(1:Int),Builtin.Slice.slicePlaces ((sIx n 0 lo:Nat):Int) ((sIx n n hi:Nat):Int) 1)) _ _ s
 rw [places_gen]
 exact wpAny_pure h
theorem pick_gen (xs:Array Value) (i k:Nat):((List.range k).filterMap fun (m:Nat)=>xs[((i:Int) + (m:Int) * 1).toNat]?).toArray=((xs.toList.drop i).take k).toArray:=by
 have e:(fun (m:Nat)=>xs[((i:Int) + (m:Int) * 1).toNat]?)=fun m=>xs[i + m]?:=by
  funext m
  have:((i:Int) + (m:Int) * 1).toNat=i + m:=by omega
  rw [this]
 rw [e]
 have:=pick_run xs i k
 rw [List.filterMap_map] at this
 have e2:((fun x=>xs[x]?) ∘ fun x=>i + x)=fun m=>xs[i + m]?:=rfl
 rw [e2] at this
 rw [this]
theorem getItem_tuple_cut {t sl:Addr}{items:Array Value}{vl vu:Value}{lo hi:Option Int}{Q:Value->Shared->Prop}(ht:IsTup s.heap t items) (hs:s.heap.IsSliceOf sl vl vu .none) (pl:IsPart vl lo) (pu:IsPart vu hi)
  (hw:¬ (sIx items.size 0 lo=0/\sIx items.size items.size hi=items.size))
  (h:Q (.ref s.heap.objs.size) { s with heap:=s.heap.push { cls:=.type "tuple",data:=.seq ((items.toList.drop (sIx items.size 0 lo)).take (sIx items.size items.size hi - sIx items.size 0 lo)).toArray } })
  (hsz:items.size<=sizeLine):wpAny (model prog w) A (getItem (.ref t) (.ref sl)) Q E s:=by
 have htake:sizeOk (.seq ((items.toList.drop (sIx items.size 0 lo)).take (sIx items.size items.size hi - sIx items.size 0 lo)).toArray):=by
  show ((items.toList.drop (sIx items.size 0 lo)).take (sIx items.size items.size hi - sIx items.size 0 lo)).toArray.size<=sizeLine
  rw [List.size_toArray,List.length_take,List.length_drop,Array.length_toList]
  omega
 have hj:sIx items.size items.size hi<=items.size:=sIx_le _ _ (Nat.le_refl _) hi
 obtain ⟨os,hos,hcs,hds⟩:=id hs
 have hTs:s.TypeIs (.ref sl) "slice":=⟨os,hos,hcs⟩
 unfold getItem
 try with_reducible refine wpAny_holding ?_
 first | refine wpAny_bind (wpAny_pure ?_) | skip
 refine wpAny_bind (wpAny_sequenceKey ht.typeIs (by decide) ?_)
 refine wpAny_bind (wpAny_callSpecial?_slot (name:=Str.ofString "__getitem__") ht.typeIs PyProof.Rows.slot_tuple_getitem
  (wpAny_call_entry PyProof.Rows.slot_tuple_getitem ht.typeIs entry_tuple_getitem ?_ (args_tuple_getitem _ _)))
 show wpAny _ _ (Builtin.Tuple.tupleItemsOf (.ref t) >>= _) _ _ s
 refine wpAny_bind (tupleItemsOf_ ht ?_)
 refine wpAny_bind (wpAny_typeOf hTs ?_)
 rw [if_pos (by decide)]
 refine wpAny_bind (sliceApplied_gen hs pl pu ?_)
 have hno:¬ ((((sIx items.size 0 lo:Nat):Int) == 0 && (1:Int) == 1 && (sIx items.size items.size hi - sIx items.size 0 lo) == items.size)=true):=by
  intro q
  rw [Bool.and_eq_true,Bool.and_eq_true] at q
  have q1:((sIx items.size 0 lo:Nat):Int)=0:=eq_of_beq q.1.1
  have q2:sIx items.size items.size hi - sIx items.size 0 lo=items.size:=eq_of_beq q.2
  exact hw ⟨by omega,by omega⟩
 show wpAny _ _ (if (((sIx items.size 0 lo:Nat):Int) == 0 && (1:Int) == 1 && (sIx items.size items.size hi - sIx items.size 0 lo) == items.size)=true then _ else _) _ _ s
 rw [if_neg hno,pick_gen]
 first
  | exact wpAny_bind (m:=Builtin.Tuple.tupleExact _) (wpAny_newObj_type (wpAny_pure ⟨_,rfl,wpAny_pure h⟩) htake)
  | exact wpAny_bind (m:=Builtin.Tuple.tupleExact _) (wpAny_newObj_type (wpAny_bind (wpAny_pure (wpAny_pure ⟨_,rfl,wpAny_pure h⟩))) htake)
  | exact wpAny_bind (wpAny_bind (m:=Builtin.Tuple.tupleExact _) (wpAny_newObj_type (wpAny_pure (wpAny_pure ⟨_,rfl,wpAny_pure h⟩)) htake))
  | exact wpAny_bind (wpAny_bind (m:=Builtin.Tuple.tupleExact _) (wpAny_newObj_type (wpAny_pure ⟨_,rfl,wpAny_pure h⟩) htake))
end
end HT
namespace L2
open PySem PySem.Spec PyProof.Rows
abbrev TO:=St->Hp->(Option Int->Hp->Prop)->Prop
def PO (X:Cx) (e:Option Expr) (t:TO):Prop :=
 ∀ (pins:List (Addr × Obj)) (s:Shared) (σ:St) (H:Hp) (Q:Option Int->Hp->Prop),Inv X pins σ H s->t σ H Q ->
  wpAny (model X.prog X.w) X.A (evalPart e X.env) (fun u s'=>∃ o H',Inv X pins σ H' s'/\IsPart u o/\Q o H') X.xe s
def tNoPart:TO:=fun _ H Q=>Q none H
def tPart (t:TE):TO:=fun σ H Q=>t σ H fun x H1=>∃ i,x=.int i/\Q (some i) H1
section
variable {X:Cx}{e:Expr}{te:TE}{lo hi:Option Expr}{tl th:TO}{pos p2:Pos}
theorem po_none:PO X none tNoPart:=by
 intro pins s σ H Q I h
 rw [evalPart_none]
 exact wpAny_pure ⟨none,H,I,.none,h⟩
theorem po_some (h:PE X e te):PO X (some e) (tPart te):=by
 intro pins s σ H Q I hw
 rw [evalPart_some]
 refine thn (h pins s σ H _ I hw) fun u s1 ⟨x,H1,I1,r1,q1⟩=>?_
 obtain ⟨i,rfl,q⟩:=q1
 obtain ⟨t,rfl⟩:=r1
 exact ⟨some i,H1,I1,.int i t,q⟩
def SlR (X:Cx) (r:V->Option Int->Option Int->Hp->VK->Prop):Prop :=
 ∀ (pins:List (Addr × Obj)) (s:Shared) (σ:St) (H:Hp) (x:V) (v vl vu:Value) (lo hi:Option Int) (sl:Addr) (Q:VK),Inv X pins σ H s->RelV x v->s.heap.IsSliceOf sl vl vu .none->IsPart vl lo->IsPart vu hi->r x lo hi H Q ->
  ∃ T id,typeLookup (.type T) "__getitem__"=pure (some (.builtin id))/\s.TypeIs v T/\wpAny (model X.prog X.w) X.A (getItem v (.ref sl)) (EP X pins σ Q) X.xe s
def tSl (r:V->Option Int->Option Int->Hp->VK->Prop) (te:TE) (tl th:TO):TE:=fun σ H Q=>te σ H fun x H1=>tl σ H1 fun l H2=>th σ H2 fun u H3=>r x l u H3 Q
theorem pe_slice {r:V->Option Int->Option Int->Hp->VK->Prop}(hr:SlR X r) (he:PE X e te) (hl:PO X lo tl) (hu:PO X hi th):PE X (.Subscript e (.Slice lo hi none p2) pos) (tSl r te tl th):=by
 intro pins s σ H Q I h
 refine Subscript_ (thn (he pins s σ H _ I h) fun v s1 ⟨x,H1,I1,r1,q1⟩=>?_)
 refine wpAny_Slice (thn (hl pins s1 σ H1 _ I1 q1) fun vl s2 ⟨l,H2,I2,pl,q2⟩=>thn (hu pins s2 σ H2 _ I2 q2) fun vu s3 ⟨u,H3,I3,pu,q3⟩=>?_)
 rw [evalPart_none]
 refine wpAny_pure ?_
 have I4:Inv X pins σ H3 { s3 with heap:=s3.heap.push { cls:=.type "slice",data:=.fields #[vl,vu,.none] } }:=I3.kept (t':=s3.toks) fun b ob q=>Heap.get?_push_of_some _ q
 obtain ⟨T,id,hT,ht,hg⟩:=hr pins { s3 with heap:=s3.heap.push { cls:=.type "slice",data:=.fields #[vl,vu,.none] } } σ H3 x v vl vu l u s3.heap.objs.size Q I4 r1 (Heap.IsSliceOf.new ..) pl pu q3
 show wpAny (model X.prog X.w) X.A (subscriptTail e (.Slice lo hi none p2) v (.ref s3.heap.objs.size)) (EP X pins σ Q) X.xe { s3 with heap:=s3.heap.push { cls:=.type "slice",data:=.fields #[vl,vu,.none] } }
 exact tail_any (ops:=[.ref s3.heap.objs.size,v]) ht hT hg (by with_unfolding_all rfl)
def cutV (xs:List V) (lo hi:Option Int):List V:=(xs.drop (HT.sIx xs.length 0 lo)).take (HT.sIx xs.length xs.length hi - HT.sIx xs.length 0 lo)
theorem cutV_length (xs:List V) (lo hi:Option Int):(cutV xs lo hi).length<=xs.length:=by
 unfold cutV
 rw [List.length_take,List.length_drop]
 omega
def rSlT (K:PySem.W.Frag):V->Option Int->Option Int->Hp->VK->Prop:=fun x lo hi H Q=>∃ a xs,x=.ref a/\SqT K H a xs /\
 ¬ (HT.sIx xs.length 0 lo=0/\HT.sIx xs.length xs.length hi=xs.length)/\∀ p,H p=none->Q (.ref p) (upd H p (.tup (cutV xs lo hi)))
theorem sl_tup:SlR X (rSlT X.K):=by
 intro pins s σ H x v vl vu lo hi sl Q I rx hs pl pu h
 obtain ⟨a,xs,rfl,hx,hw,q⟩:=h
 cases rx
 obtain ⟨its,r,ht,hz⟩:=I.tuple hx
 have hlen:its.toArray.size=xs.length:=by rw [List.size_toArray]; exact r.length.symm
 refine ⟨"tuple",_,PyProof.Rows.slot_tuple_getitem.lookup,ht.typeIs,?_⟩
 refine HT.getItem_tuple_cut ht hs pl pu (by rw [hlen]; exact hw) ?_ (by rw [hlen]; exact hz)
 rw [hlen]
 refine ⟨.ref s.heap.objs.size,_,I.laid (t':=s.toks) (o:=.tup (cutV xs lo hi)) (fun b ob q=>Heap.get?_push_of_some _ q) (Nat.le_refl _) ?_,rfl,q _ (I.hok.fresh (Nat.le_refl _))⟩
 exact ⟨Nat.le_trans (cutV_length xs lo hi) hz,_,(r.drop (HT.sIx xs.length 0 lo)).take (HT.sIx xs.length xs.length hi - HT.sIx xs.length 0 lo),TupN.new _ _⟩
def rCatT (K:PySem.W.Frag):R2:=fun x y H Q=>∃ a b xs ys,x=.ref a/\y=.ref b/\SqT K H a xs/\SqT K H b ys/\xs≠[]/\xs.length + ys.length<=sizeLine /\
 (ys=[]->Q (.ref a) H)/\(ys≠[]->∀ p,H p=none->Q (.ref p) (upd H p (.tup (xs ++ ys))))
theorem Vals.nil_iff {xs:List V}{us:List Value}(r:Vals xs us):us=[]↔xs=[]:=by
 cases r with
 | nil=>simp
 | cons _ _=>simp
theorem op_catT:OpR X (binaryOp .Add) (rCatT X.K):=by
 intro pins s σ H x y v u Q I rx ry h
 obtain ⟨a,b,xs,ys,rfl,rfl,ha,hb,hx,hz,q1,q2⟩:=h
 cases rx
 cases ry
 obtain ⟨its,r1,p1,_⟩:=I.tuple ha
 obtain ⟨its2,r2,p2,_⟩:=I.tuple hb
 refine HT.cat_tup p1 p2 (fun z=>hx (r1.nil_iff.mp z)) (fun z=>⟨.ref a,H,I,rfl,q1 (r2.nil_iff.mp z)⟩) (fun z=>?_) (by rw [<- r1.length,<- r2.length]; exact hz)
 refine ⟨.ref s.heap.objs.size,_,I.laid (t':=s.toks) (o:=.tup (xs ++ ys)) (fun b ob q=>Heap.get?_push_of_some _ q) (Nat.le_refl _) ?_,rfl,q2 (fun w=>z (r2.nil_iff.mpr w)) _ (I.hok.fresh (Nat.le_refl _))⟩
 exact ⟨by rw [List.length_append]; exact hz,_,r1.append r2,TupN.new _ _⟩
end
end L2
namespace L2
open PySem PySem.Spec PyProof.Rows
def ixN (n:Nat) (i:Int):Option Nat:=if 0<=i then (if i < n then some i.toNat else none) else if -(n:Int)<=i then some (i + n).toNat else none
def atI {α:Type}(xs:List α) (i:Int):Option α:=(ixN xs.length i).bind fun j=>xs[j]?
theorem ixN_seq {n:Nat}{i:Int}{j:Nat}(h:ixN n i=some j):seqIndex? i n=some j/\j < n/\-(n:Int)<=i/\i < n:=by
 unfold ixN at h
 by_cases h0:0<=i
 ·rw [if_pos h0] at h
  by_cases h1:i < n
  ·rw [if_pos h1] at h
   have e:i.toNat=j:=Option.some.inj h
   exact ⟨by rw [seqIndex_of h0 h1,e],by omega,by omega,h1⟩
  ·rw [if_neg h1] at h; cases h
 ·rw [if_neg h0] at h
  by_cases h1:-(n:Int)<=i
  ·rw [if_pos h1] at h
   have e:(i + n).toNat=j:=Option.some.inj h
   exact ⟨by rw [seqIndex_neg (by omega) h1,e],by omega,h1,by omega⟩
  ·rw [if_neg h1] at h; cases h
theorem atI_get {α:Type}{xs:List α}{i:Int}{v:α}(h:atI xs i=some v):∃ j,seqIndex? i xs.length=some j/\xs[j]?=some v/\j < xs.length/\-(xs.length:Int)<=i/\i < xs.length:=by
 unfold atI at h
 cases e:ixN xs.length i with
 | none=>rw [e] at h; cases h
 | some j =>
  rw [e] at h
  obtain ⟨h1,h2,h3,h4⟩:=ixN_seq e
  exact ⟨j,h1,h,h2,h3,h4⟩
theorem atI_nat {α:Type}{xs:List α}{j:Nat}{v:α}(h:xs[j]?=some v):atI xs (j:Int)=some v:=by
 have hj:j < xs.length:=(List.getElem?_eq_some_iff.mp h).1
 have e:ixN xs.length (j:Int)=some j:=by
  unfold ixN
  rw [if_pos (by omega),if_pos (by omega)]; simp
 unfold atI; rw [e]; exact h
theorem atI_last {α:Type}(xs:List α) (v:α):atI (xs ++ [v]) (-1)=some v:=by
 have hl:(xs ++ [v]).length=xs.length + 1:=by simp
 have e:ixN (xs ++ [v]).length (-1)=some xs.length:=by
  unfold ixN
  rw [hl,if_neg (by decide),if_pos (by omega)]
  congr 1
  omega
 unfold atI
 rw [e]
 show (xs ++ [v])[xs.length]?=some v
 simp
def PlainIx (b:Expr):Prop:=∀ o i,subscripted b false o i=operate [o,i] (getItem o i)
def IxR (X:Cx) (r:R2):Prop :=
 ∀ (value slice:Expr) (pins:List (Addr × Obj)) (s:Shared) (σ:St) (H:Hp) (x y:V) (v u:Value) (Q:VK),Inv X pins σ H s->RelV x v->RelV y u->r x y H Q ->
  subscripted slice false v u=operate [v,u] (getItem v u)->wpAny (model X.prog X.w) X.A (subscriptTail value slice v u) (EP X pins σ Q) X.xe s
def MtR (X:Cx) (id:String) (r:V->List V->Hp->VK->Prop):Prop :=
 ∀ (pins:List (Addr × Obj)) (s:Shared) (σ:St) (H:Hp) (x:V) (xs:List V) (v:Value) (us:List Value) (Q:VK),Inv X pins σ H s->RelV x v->Vals xs us->r x xs H Q ->
  wpAny (model X.prog X.w) X.A (call (.builtin id) (v :: us)) (EP X pins σ Q) X.xe s
section
variable {X:Cx}{a b:Expr}{ta tb:TE}{pos:Pos}
theorem pe_ix {r:R2}(hr:IxR X r) (ha:PE X a ta) (hb:PE X b tb) (hs:PlainIx b):PE X (.Subscript a b pos) (tOp r ta tb):=by
 intro pins s σ H Q I h
 exact Subscript_ (binT ha hb I h fun v u s2 x y H2 I2 rx ry q=>hr a b pins s2 σ H2 x y v u Q I2 rx ry q (hs _ _))
def rIxL (K:PySem.W.Frag):R2:=fun x y H Q=>∃ p xs i v,x=.ref p/\y=.int i/\SqL K H p xs/\atI xs i=some v/\Q v H
def rIxT (K:PySem.W.Frag):R2:=fun x y H Q=>∃ p xs i v,x=.ref p/\y=.int i/\SqT K H p xs/\atI xs i=some v/\Q v H
theorem ix_list:IxR X (rIxL X.K):=by
 intro value slice pins s σ H x y v u Q I rx ry h hs
 obtain ⟨p,xs,i,z,rfl,rfl,hq,he,q⟩:=h
 cases rx
 obtain ⟨t,rfl⟩:=ry
 obtain ⟨its,r,pl,hz⟩:=I.list hq
 obtain ⟨j,h1,h2,h3,h4,h5⟩:=atI_get he
 obtain ⟨w,ew,rw'⟩:=r.get h2
 have hl:=r.length
 have hn:=line63
 have fin:EP X pins σ Q w s:=⟨z,H,I,rw',q⟩
 by_cases h0:0<=i
 ·have hj:i.toNat=j:=by
   rw [seqIndex_of h0 h5] at h1
   exact Option.some.inj h1
  exact item_listR pl.isList h0 (by omega) (by rw [hj]; simpa using ew) fin hs
 ·have hj:(i + (its.toArray.size:Int)).toNat=j:=by
   rw [seqIndex_neg (by omega) h4] at h1
   rw [List.size_toArray,<- hl]
   exact Option.some.inj h1
  exact subscriptTail_builtinR (x:=w) pl.isList.typeIs slot_list_getitem.lookup
   (wpAny_getItem_list_neg (Q:=fun r s'=>r=w/\EP X pins σ Q r s') pl.isList (by omega) (by rw [List.size_toArray] <;> omega) (by omega) (by rw [hj]; simpa using ew) ⟨rfl,fin⟩) hs
theorem ix_tup:IxR X (rIxT X.K):=by
 intro value slice pins s σ H x y v u Q I rx ry h hs
 obtain ⟨p,xs,i,z,rfl,rfl,hq,he,q⟩:=h
 cases rx
 obtain ⟨t,rfl⟩:=ry
 obtain ⟨its,r,pl,hz⟩:=I.tuple hq
 obtain ⟨j,h1,h2,h3,h4,h5⟩:=atI_get he
 obtain ⟨w,ew,rw'⟩:=r.get h2
 have hl:=r.length
 have hn:=line63
 have fin:EP X pins σ Q w s:=⟨z,H,I,rw',q⟩
 exact subscriptTail_builtinR (x:=w) pl.typeIs slot_tuple_getitem.lookup
  (getItem_tuple (j:=j) (Q:=fun r s'=>r=w/\EP X pins σ Q r s') pl (by omega) (by omega) (by rw [List.size_toArray,<- hl]; exact h1) (by simpa using ew) ⟨rfl,fin⟩) hs
theorem mapSeq_set (its:List Value) (n j:Nat) (u:Value):Obj.mapSeq (·.setIfInBounds j u) { cls:=.type "list",data:=.seq its.toArray n }={ cls:=.type "list",data:=.seq (its.set j u).toArray n }:=by
 simp [Obj.mapSeq]
theorem Inv.lst {pins:List (Addr × Obj)}{σ:St}{H:Hp}{s:Shared}{p:Addr}{xs:List V}(I:Inv X pins σ H s) (h:H p=some (.lst xs)) :
  ∃ (its:List Value) (n:Nat),Vals xs its/\s.heap.get? p=some { cls:=.type "list",data:=.seq its.toArray n }/\xs.length<=sizeLine:=by
 obtain ⟨z,its,n,r,e⟩:=I.hok p _ h
 exact ⟨its,n,r,e,z⟩
theorem Inv.lstUpd {pins:List (Addr × Obj)}{σ:St}{H:Hp}{s:Shared}{p:Addr}{xs ys:List V}{its its':List Value}{n n':Nat}{f:Obj->Obj}(I:Inv X pins σ H s) (h:H p=some (.lst xs))
  (ho:s.heap.get? p=some { cls:=.type "list",data:=.seq its.toArray n }) (hf:f { cls:=.type "list",data:=.seq its.toArray n }={ cls:=.type "list",data:=.seq its'.toArray n' }) (r:Vals ys its') (hz:ys.length<=sizeLine) (t:Nat) :
  Inv X pins σ (upd H p (.lst ys)) { s with heap:=s.heap.update p f,toks:=t }:=by
 have e:(s.heap.update p f).get? p=some { cls:=.type "list",data:=.seq its'.toArray n' }:=by
  rw [Heap.get?_update_self f ho (by rw [hf] <;> rfl),hf]
 refine I.write (x:=p) (e:=p) (by rw [h]; trivial) (.inl rfl) (fun b u hb q=>(Heap.get?_update_other _ _ (Ne.symm hb)).trans q) ⟨_,e⟩ ?_
 exact ⟨hz,its',n',r,e⟩
def rSetL:V->V->V->Hp->(Hp->Prop)->Prop:=fun o i v H Q=>∃ p xs k j,o=.ref p/\i=.int k/\H p=some (.lst xs)/\ixN xs.length k=some j/\Q (upd H p (.lst (xs.set j v)))
theorem set_list:PSet X rSetL:=by
 intro pins s σ H o i v ov iv u Q I ro ri rv h
 obtain ⟨p,xs,k,j,rfl,rfl,hp,hj,q⟩:=h
 cases ro
 obtain ⟨t,rfl⟩:=ri
 obtain ⟨its,n,r,ho,hz⟩:=I.lst hp
 obtain ⟨h1,h2,h3,h4⟩:=ixN_seq hj
 have hl:=r.length
 have hn:=line63
 have I':Inv X pins σ (upd H p (.lst (xs.set j v))) { s with heap:=s.heap.update p (Obj.mapSeq (·.setIfInBounds j u)) } :=
  I.lstUpd hp ho (mapSeq_set its n j u) (r.set rv j) (by rw [List.length_set]; exact hz) s.toks
 by_cases h0:0<=k
 ·have hk:k.toNat=j:=by
   rw [seqIndex_of h0 h4] at h1
   exact Option.some.inj h1
  exact PySem.W.ki_setAt ho h0 (by omega) (by rw [List.size_toArray,<- hl]; exact h4) (by rw [hk]; exact ⟨_,I',q⟩)
 ·have hk:(k + (its.toArray.size:Int)).toNat=j:=by
   rw [seqIndex_neg (by omega) h3] at h1
   rw [List.size_toArray,<- hl]
   exact Option.some.inj h1
  exact PySem.W.ki_setBack ho (by omega) (by rw [List.size_toArray,<- hl]; exact h3) (by omega) (by rw [hk]; exact ⟨_,I',q⟩)
theorem slice_bounds (lo hi:Option Int) (n:Nat):(sliceBounds lo hi none n).1=((HT.sIx n 0 lo:Nat):Int)/\(sliceBounds lo hi none n).2.1=((HT.sIx n n hi:Nat):Int)/\(sliceBounds lo hi none n).2.2=1:=by
 refine ⟨?_,?_,rfl⟩
 ·cases lo with
  | none=>simp [sliceBounds,HT.sIx]
  | some i =>
   simp only [sliceBounds,HT.sIx,Option.getD_none,show (1:Int) > 0 by decide,if_true]
   by_cases h:i < 0
   ·simp only [h,if_true] <;> omega
   ·simp only [h,if_false] <;> omega
 ·cases hi with
  | none=>simp [sliceBounds,HT.sIx]
  | some i =>
   simp only [sliceBounds,HT.sIx,Option.getD_none,show (1:Int) > 0 by decide,if_true]
   by_cases h:i < 0
   ·simp only [h,if_true] <;> omega
   ·simp only [h,if_false] <;> omega
theorem slicePick_cut (its:List Value) (lo hi:Option Int):slicePick its.toArray lo hi none=((its.drop (HT.sIx its.length 0 lo)).take (HT.sIx its.length its.length hi - HT.sIx its.length 0 lo)).toArray:=by
 obtain ⟨h1,h2,h3⟩:=slice_bounds lo hi its.toArray.size
 unfold slicePick
 rw [h1,h2,h3]
 simp only [sliceRange_one,pick_run,List.size_toArray] <;> rfl
def rSlL (K:PySem.W.Frag):V->Option Int->Option Int->Hp->VK->Prop:=fun x lo hi H Q=>∃ a xs,x=.ref a/\SqL K H a xs/\∀ p,H p=none->Q (.ref p) (upd H p (.lst (cutV xs lo hi)))
theorem sl_list:SlR X (rSlL X.K):=by
 intro pins s σ H x v vl vu lo hi sl Q I rx hs pl pu h
 obtain ⟨a,xs,rfl,hx,q⟩:=h
 cases rx
 obtain ⟨its,r,ht,hz⟩:=I.list hx
 have hlen:=r.length
 refine ⟨"list",_,slot_list_getitem.lookup,ht.isList.typeIs,?_⟩
 refine wpAny_getItem_list_slice ht.isList hs pl pu .none (by simp) ?_ (by rw [List.size_toArray] <;> omega)
 rw [slicePick_cut,<- hlen]
 refine ⟨.ref s.heap.objs.size,_,I.laid (t':=s.toks) (o:=.lst (cutV xs lo hi)) (fun b ob q=>Heap.get?_push_of_some _ q) (Nat.le_refl _) ?_,rfl,q _ (I.hok.fresh (Nat.le_refl _))⟩
 exact ⟨Nat.le_trans (cutV_length xs lo hi) hz,_,0,(r.drop (HT.sIx xs.length 0 lo)).take (HT.sIx xs.length xs.length hi - HT.sIx xs.length 0 lo),Heap.get?_push_size _ rfl⟩
def flatV:V->Bool
 | .non=>true
 | .bl _=>true
 | .int _=>true
 | .str _=>true
 | _=>false
def eqV:V->V->Bool
 | .non,.non=>true
 | .bl a,.bl b=>a == b
 | .bl a,.int b=>(if a then 1 else 0) == b
 | .int a,.bl b=>a == (if b then 1 else 0)
 | .int a,.int b=>a == b
 | .str a,.str b=>a == b
 | _,_=>false
theorem eqAt_V {A:Around}{s:Shared}{y x:V}{u v:Value}(ry:RelV y u) (rx:RelV x v) (fy:flatV y=true) (fx:flatV x=true):SeqAt.EqAt A s u v (eqV y x):=by
 cases y with
 | non =>
  cases ry
  cases x with
  | non=>cases rx; exact SeqAt.EqAt.same _
  | bl b=>cases rx; exact SeqAt.EqAt.none_bool b
  | int b=>obtain ⟨t,rfl⟩:=rx; exact SeqAt.EqAt.none_int b t
  | str b=>obtain ⟨t,rfl⟩:=rx; exact SeqAt.EqAt.none_str b t
  | _=>exact absurd (show false=true from fx) Bool.false_ne_true
 | bl a =>
  cases ry
  cases x with
  | non=>cases rx; exact SeqAt.EqAt.bool_none a
  | bl b=>cases rx; exact SeqAt.EqAt.bool_bool a b
  | int b=>obtain ⟨t,rfl⟩:=rx; exact SeqAt.EqAt.bool_int a b t
  | str b=>obtain ⟨t,rfl⟩:=rx; exact SeqAt.EqAt.bool_str a b t
  | _=>exact absurd (show false=true from fx) Bool.false_ne_true
 | int a =>
  obtain ⟨t',rfl⟩:=ry
  cases x with
  | non=>cases rx; exact SeqAt.EqAt.int_none a t'
  | bl b=>cases rx; exact SeqAt.EqAt.int_bool a t' b
  | int b=>obtain ⟨t,rfl⟩:=rx; exact SeqAt.EqAt.int_int a t' b t
  | str b=>obtain ⟨t,rfl⟩:=rx; exact SeqAt.EqAt.int_str a t' b t
  | _=>exact absurd (show false=true from fx) Bool.false_ne_true
 | str a =>
  obtain ⟨t',rfl⟩:=ry
  cases x with
  | non=>cases rx; exact SeqAt.EqAt.str_none a t'
  | bl b=>cases rx; exact SeqAt.EqAt.str_bool a t' b
  | int b=>obtain ⟨t,rfl⟩:=rx; exact SeqAt.EqAt.str_int a t' b t
  | str b=>obtain ⟨t,rfl⟩:=rx; exact SeqAt.EqAt.str_str a t' b t
  | _=>exact absurd (show false=true from fx) Bool.false_ne_true
 | _=>exact absurd (show false=true from fy) Bool.false_ne_true
def eqU (x:V) (u:Value):Bool:=match u with
 | .none=>eqV .non x
 | .bool b=>eqV (.bl b) x
 | .int i _=>eqV (.int i) x
 | .str z _=>eqV (.str z) x
 | _=>false
theorem eqU_of {x y:V}{u:Value}(r:RelV y u) (f:flatV y=true):eqU x u=eqV y x:=by
 cases y with
 | non=>cases r; rfl
 | bl b=>cases r; rfl
 | int i=>obtain ⟨t,rfl⟩:=r; rfl
 | str z=>obtain ⟨t,rfl⟩:=r; rfl
 | _=>exact absurd (show false=true from f) Bool.false_ne_true
theorem any_eqU {x:V}:∀ {xs:List V}{us:List Value},Vals xs us->xs.all flatV=true->us.any (eqU x)=xs.any fun y=>eqV y x
 | _,_,.nil,_=>rfl
 | y :: xs,u :: us,.cons r t,f=>by
  rw [List.all_cons,Bool.and_eq_true] at f
  rw [List.any_cons,List.any_cons,eqU_of r f.1,any_eqU t f.2]
theorem mem_eqAt {A:Around}{s:Shared}{x:V}{v:Value}(rx:RelV x v) (fx:flatV x=true):∀ {xs:List V}{us:List Value},Vals xs us->xs.all flatV=true->∀ u∈us,SeqAt.EqAt A s u v (eqU x u)
 | _,_,.nil,_=>fun u hu=>by cases hu
 | y :: xs,u :: us,.cons r t,f=>fun u' hu=>by
  rw [List.all_cons,Bool.and_eq_true] at f
  rcases List.mem_cons.mp hu with rfl | hu
  ·rw [eqU_of r f.1]; exact eqAt_V r rx f.1 fx
  ·exact mem_eqAt rx fx t f.2 u' hu
def inV (x:V) (xs:List V):Bool:=xs.any fun y=>eqV y x
def rIn (K:PySem.W.Frag) (neg:Bool):R2:=fun x y H Q=>∃ p xs,y=.ref p/\(SqL K H p xs\/SqT K H p xs)/\flatV x=true/\xs.all flatV=true/\Q (.bl (if neg then !inV x xs else inV x xs)) H
theorem op_in_seq:OpR X (compareOp .In) (rIn X.K false):=by
 intro pins s σ H x y v u Q I rx ry h
 obtain ⟨p,xs,rfl,hq,fx,fs,q⟩:=h
 cases ry
 rcases hq with hq | hq
 ·obtain ⟨its,r,pl,hz⟩:=I.list hq
  refine SeqAt.in_listAt (eqU x) pl.isList (fun w hw=>mem_eqAt rx fx r fs w (by simpa using hw)) ⟨.bl _,H,I,rfl,?_⟩
  rw [show its.toArray.any (eqU x)=its.any (eqU x) by simp,any_eqU r fs]
  exact q
 ·obtain ⟨its,r,pl,hz⟩:=I.tuple hq
  refine SeqAt.in_tupleAt (eqU x) pl (fun w hw=>mem_eqAt rx fx r fs w (by simpa using hw)) ⟨.bl _,H,I,rfl,?_⟩
  rw [show its.toArray.any (eqU x)=its.any (eqU x) by simp,any_eqU r fs]
  exact q
theorem op_notIn_seq:OpR X (compareOp .NotIn) (rIn X.K true):=by
 intro pins s σ H x y v u Q I rx ry h
 obtain ⟨p,xs,rfl,hq,fx,fs,q⟩:=h
 cases ry
 rcases hq with hq | hq
 ·obtain ⟨its,r,pl,hz⟩:=I.list hq
  refine SeqAt.notIn_listAt (eqU x) pl.isList (fun w hw=>mem_eqAt rx fx r fs w (by simpa using hw)) ⟨.bl _,H,I,rfl,?_⟩
  rw [show its.toArray.any (eqU x)=its.any (eqU x) by simp,any_eqU r fs]
  exact q
 ·obtain ⟨its,r,pl,hz⟩:=I.tuple hq
  refine SeqAt.notIn_tupleAt (eqU x) pl (fun w hw=>mem_eqAt rx fx r fs w (by simpa using hw)) ⟨.bl _,H,I,rfl,?_⟩
  rw [show its.toArray.any (eqU x)=its.any (eqU x) by simp,any_eqU r fs]
  exact q
theorem call_len_seq:CallR X (.builtin "len") (fun xs H Q=>∃ p ys,xs=[.ref p]/\(SqL X.K H p ys\/SqT X.K H p ys)/\Q (.int ys.length) H):=by
 intro pins s σ H xs us Q I r h
 obtain ⟨p,ys,rfl,hq,q⟩:=h
 obtain ⟨u,rfl,rx⟩:=vals1 r
 cases rx
 have hn:=line63
 rcases hq with hq | hq
 ·obtain ⟨its,r',pl,hz⟩:=I.list hq
  have hlen:=r'.length
  exact Calls.call_len_list pl.isList (by simp only [List.size_toArray] <;> omega) ⟨.int ys.length,H,I.tok _,⟨s.toks + 1,by rw [List.size_toArray,hlen]⟩,q⟩
 ·obtain ⟨its,r',pl,hz⟩:=I.tuple hq
  have hlen:=r'.length
  exact len_tuple pl (by simp only [List.size_toArray] <;> omega) ⟨.int ys.length,H,I.tok _,⟨s.toks + 1,by rw [List.size_toArray,hlen]⟩,q⟩
theorem call_len_str:CallR X (.builtin "len") (fun xs H Q=>∃ z,xs=[.str z]/\z.length<=sizeLine/\Q (.int z.length) H):=by
 intro pins s σ H xs us Q I r h
 obtain ⟨z,rfl,hz,q⟩:=h
 obtain ⟨u,rfl,t,rfl⟩:=vals1 r
 have hn:=line63
 exact len_str (by omega) ⟨.int z.length,H,I.tok _,⟨_,rfl⟩,q⟩
theorem call_list_of:CallR X (.type "list") (fun xs H Q=>∃ p ys,xs=[.ref p]/\(SqL X.K H p ys\/SqT X.K H p ys)/\∀ l,H l=none->Q (.ref l) (upd H l (.lst ys))):=by
 intro pins s σ H xs us Q I r h
 obtain ⟨p,ys,rfl,hq,q⟩:=h
 obtain ⟨u,rfl,rx⟩:=vals1 r
 cases rx
 have fin:∀ (its:List Value),Vals ys its->ys.length<=sizeLine->∀ (h':Heap) (c':Nat),(∀ b o',s.heap.get? b=some o'->h'.get? b=some o') ->
   h'.get? s.heap.objs.size=some { cls:=.type "list",dict:=none,data:=.seq its.toArray c',slots:=#[] }->EP X pins σ Q (.ref s.heap.objs.size) { s with heap:=h' }:=fun its r' hz h' c' kp e =>
  ⟨.ref s.heap.objs.size,_,I.laid (t':=s.toks) kp (Nat.le_refl _) (show ObjOk X.prog X.w _ h' _ (.lst ys) from ⟨hz,its,c',r',e⟩),rfl,q _ (I.hok.fresh (Nat.le_refl _))⟩
 rcases hq with hq | hq
 ·obtain ⟨its,r',pl,hz⟩:=I.list hq
  have hlen:=r'.length
  obtain ⟨o,ho,hc,n,hd⟩:=pl.isList
  exact call_list_seq p (.inl rfl) ho hc hd (fun h' c' kp e=>fin its r' hz h' c' kp e) (by simp only [List.size_toArray] <;> omega)
 ·obtain ⟨its,r',pl,hz⟩:=I.tuple hq
  have hlen:=r'.length
  obtain ⟨o,ho,hc,n,hd⟩:=pl
  exact call_list_seq p (.inr rfl) ho hc hd (fun h' c' kp e=>fin its r' hz h' c' kp e) (by simp only [List.size_toArray] <;> omega)
theorem call_tuple_of:CallR X (.type "tuple") (fun xs H Q=>∃ p ys,xs=[.ref p]/\((SqL X.K H p ys/\∀ l,H l=none->Q (.ref l) (upd H l (.tup ys)))\/(SqT X.K H p ys/\Q (.ref p) H))):=by
 intro pins s σ H xs us Q I r h
 obtain ⟨p,ys,rfl,h⟩:=h
 obtain ⟨u,rfl,rx⟩:=vals1 r
 cases rx
 rcases h with ⟨hq,q⟩ | ⟨hq,q⟩
 ·obtain ⟨its,r',pl,hz⟩:=I.list hq
  have hlen:=r'.length
  refine call_tuple_list pl.isList (fun h' kp=>?_) (by simp only [List.size_toArray] <;> omega)
  have I1:Inv X pins σ H { s with heap:=h' }:=I.kept (t':=s.toks) kp
  have I2:Inv X pins σ (upd H h'.objs.size (.tup ys)) { s with heap:=h'.push { cls:=.type "tuple",data:=.seq its.toArray } } :=
   I1.laid (t':=s.toks) (fun b o e=>Heap.get?_push_of_some _ e) (Nat.le_refl _) (show ObjOk X.prog X.w _ _ _ (.tup ys) from ⟨hz,its,r',TupN.new _ _⟩)
  exact ⟨.ref h'.objs.size,_,I2,rfl,q _ (I1.hok.fresh (Nat.le_refl _))⟩
 ·obtain ⟨its,r',pl,hz⟩:=I.tuple hq
  exact call_tuple_same pl ⟨.ref p,H,I,rfl,q⟩
def tyV (K:PySem.W.Frag) (T:String) (x:V) (H:Hp):Prop:=match x with
 | .str _=>T="str"
 | .int _=>T="int"
 | .ref p=>(T="list"/\∃ xs,SqL K H p xs)\/(T="tuple"/\∃ o,K.lookup p=some o/\o.cls=.type "tuple"/\o.dict=none) \/
   (T="dict"/\((∃ kvs,H p=some (.dK kvs))\/∃ kvs,H p=some (.dT kvs)))\/(T="set"/\∃ S n,H p=some (.set S n))
 | _=>False
theorem tyV_is {pins:List (Addr × Obj)}{σ:St}{H:Hp}{s:Shared}{T:String}{x:V}{v:Value}(I:Inv X pins σ H s) (r:RelV x v) (ty:tyV X.K T x H) :
  s.TypeIs v T/\∀ a,v=.ref a->∃ ob,s.heap.get? a=some ob/\ob.dict=none:=by
 cases x with
 | str z =>
  obtain ⟨t,rfl⟩:=r
  cases (show T="str" from ty)
  exact ⟨typeIs_str s z t,fun _ e=>nomatch e⟩
 | int i =>
  obtain ⟨t,rfl⟩:=r
  cases (show T="int" from ty)
  exact ⟨typeIs_int s i t,fun _ e=>nomatch e⟩
 | ref p =>
  cases r
  rcases ty with ⟨rfl,xs,hq⟩ | ⟨rfl,o,hk,hc,hd⟩ | ⟨rfl,hk⟩ | ⟨rfl,S,n,hk⟩
  ·obtain ⟨its,_,pl,_⟩:=I.list hq
   refine ⟨pl.isList.typeIs,fun a e=>?_⟩
   cases e
   obtain ⟨o,n,e,c,hd,_⟩:=pl
   exact ⟨o,e,hd⟩
  ·refine ⟨⟨o,I.kIn p o hk,hc⟩,fun a e=>?_⟩
   cases e
   exact ⟨o,I.kIn _ o hk,hd⟩
  ·have z:∃ o,s.heap.get? p=some o/\o.ExactDict:=by
    rcases hk with ⟨kvs,hk⟩ | ⟨kvs,hk⟩
    ·obtain ⟨_,_,_,_,o,_,_,e,ex,_⟩:=I.hok p _ hk
     exact ⟨o,e,ex⟩
    ·obtain ⟨_,_,_,_,o,_,_,e,ex,_⟩:=I.hok p _ hk
     exact ⟨o,e,ex⟩
   obtain ⟨o,e,ex⟩:=z
   refine ⟨⟨o,e,ex.1⟩,fun a e2=>?_⟩
   cases e2
   exact ⟨o,e,ex.2.1⟩
  ·obtain ⟨o,_,_,_,e,ex,_⟩:=I.hok p _ hk
   refine ⟨⟨o,e,ex.1⟩,fun a e2=>?_⟩
   cases e2
   exact ⟨o,e,ex.2.1⟩
 | _=>exact False.elim ty
variable {o e:Expr}{es:List Expr}{to:TE}{t:TA}{name:Str}{apos cpos:Pos}{T id:String}{r:V->List V->Hp->VK->Prop}
end
end L2
namespace L2
open PySem PySem.Spec PyProof.Rows
def MtM (X:Cx) (id:String) (r:V->List V->Hp->VK->Prop):Prop :=
 ∀ (pins:List (Addr × Obj)) (s:Shared) (σ:St) (H:Hp) (x:V) (xs:List V) (v:Value) (us:List Value) (Q:VK),Inv X pins σ H s->RelV x v->Vals xs us->r x xs H Q ->
  wpAny (model X.prog X.w) X.A (call (.builtin id) (v :: us)) (EP X pins σ Q) X.xe s
theorem Vals.one:∀ {x:V}{us:List Value},Vals [x] us->∃ u,us=[u]/\RelV x u
 | _,_,.cons r .nil=>⟨_,rfl,r⟩
theorem Vals.two:∀ {x y:V}{us:List Value},Vals [x,y] us->∃ u v,us=[u,v]/\RelV x u/\RelV y v
 | _,_,_,.cons r (.cons q .nil)=>⟨_,_,rfl,r,q⟩
theorem Vals.zero:∀ {us:List Value},Vals [] us->us=[]
 | _,.nil=>rfl
theorem Vals.dropLast {xs:List V}{us:List Value}(h:Vals xs us):Vals xs.dropLast us.dropLast:=by
 induction h with
 | nil=>exact .nil
 | cons r t ih =>
  cases t with
  | nil=>exact .nil
  | cons q t'=>exact .cons r ih
theorem erase_last {α:Type}(l:List α):l.eraseIdx (l.length - 1)=l.dropLast:=by
 induction l with
 | nil=>rfl
 | cons a r ih =>
  cases r with
  | nil=>rfl
  | cons b r =>
   have e:(a :: b :: r).length - 1=((b :: r).length - 1) + 1:=by
    have h1:(a :: b :: r).length=r.length + 2:=rfl
    have h2:(b :: r).length=r.length + 1:=rfl
    omega
   rw [e,List.eraseIdx_cons_succ,ih]
   all_goals rfl
section
variable {X:Cx}{pins:List (Addr × Obj)}{σ:St}{H:Hp}{s:Shared}{l b:Addr}{xs ys zs:List V}
theorem Inv.lset {its its':List Value}{n:Nat}{f:Array Value->Array Value}{t':Nat}(I:Inv X pins σ H s) (hH:H l=some (.lst xs))
  (e:s.heap.get? l=some { cls:=.type "list",data:=.seq its.toArray n }) (hf:f its.toArray=its'.toArray) (hv:Vals ys its') (hz:ys.length<=sizeLine) :
  Inv X pins σ (upd H l (.lst ys)) { s with heap:=s.heap.update l (Obj.mapSeq f),toks:=t' }:=by
 have q:=PySem.IsL.update e f
 rw [hf] at q
 refine I.write (x:=l) (e:=l) (by rw [hH]; exact trivial) (.inl rfl) (fun b' u hb hu=>(Heap.get?_update_other s.heap (Obj.mapSeq f) (Ne.symm hb)).trans hu) ⟨_,q⟩ ?_
 exact ⟨hz,its',_,hv,q⟩
theorem Inv.lnew {its:List Value}{t':Nat}(I:Inv X pins σ H s) (hv:Vals ys its) (hz:ys.length<=sizeLine) :
  Inv X pins σ (upd H s.heap.objs.size (.lst ys)) { s with heap:=s.heap.push { cls:=.type "list",data:=.seq its.toArray },toks:=t' } :=
 I.laid (fun _ _ q=>Heap.get?_push_of_some _ q) (Nat.le_refl _) ⟨hz,its,0,hv,Heap.get?_push_size _ rfl⟩
theorem Inv.fresh (I:Inv X pins σ H s):H s.heap.objs.size=none:=I.hok.fresh (Nat.le_refl _)
theorem Inv.lstM (I:Inv X pins σ H s) (hH:H l=some (.lst xs)):xs.length<=sizeLine/\∃ (its:List Value) (n:Nat),Vals xs its/\xs.length=its.length/\s.heap.get? l=some { cls:=.type "list",data:=.seq its.toArray n }:=by
 obtain ⟨z,its,n,r,e⟩:=I.hok l _ hH
 exact ⟨z,its,n,r,r.length,e⟩
theorem notLongL {n:Nat}(h:n<=sizeLine):Builtin.List.listTooLong n=false:=by
 unfold Builtin.List.listTooLong
 exact decide_eq_false (by omega)
end
section
variable {X:Cx}
def rAppend:V->List V->Hp->VK->Prop:=fun x vs H Q=>∃ l xs y,x=.ref l/\vs=[y]/\H l=some (.lst xs)/\xs.length < sizeLine/\Q .non (upd H l (.lst (xs ++ [y])))
theorem mt_append:MtM X "list.append" rAppend:=by
 intro pins s σ H x vs v us Q I rx rv h
 obtain ⟨l,xs,y,rfl,rfl,hH,hz,q⟩:=h
 cases rx
 obtain ⟨u,rfl,ru⟩:=rv.one
 obtain ⟨z,its,n,r,hl,e⟩:=I.lstM hH
 refine call_meets F.slot_list_append ⟨_,e,rfl⟩ F.entry_list_append (F.args_list_append_2 _ _) (PySem.list_append l its.toArray n u (by rw [List.size_toArray]; omega)) ⟨e,?_⟩
 refine ⟨.non,_,I.lset (its':=its ++ [u]) hH e (by simp) (r.append (.cons ru .nil)) ?_,rfl,q⟩
 rw [List.length_append,List.length_singleton]
 omega
def rExtend:V->List V->Hp->VK->Prop:=fun x vs H Q=>∃ l b xs zs,x=.ref l/\vs=[.ref b]/\H l=some (.lst xs)/\H b=some (.lst zs)/\xs.length + zs.length<=sizeLine/\Q .non (upd H l (.lst (xs ++ zs)))
theorem mt_extend:MtM X "list.extend" rExtend:=by
 intro pins s σ H x vs v us Q I rx rv h
 obtain ⟨l,b,xs,zs,rfl,rfl,hH,hB,hz,q⟩:=h
 cases rx
 obtain ⟨u,rfl,ru⟩:=rv.one
 cases ru
 obtain ⟨z,its,n,r,hl,e⟩:=I.lstM hH
 obtain ⟨z2,its2,n2,r2,hl2,e2⟩:=I.lstM hB
 have hsz:its.toArray.size + its2.toArray.size<=sizeLine:=by rw [List.size_toArray,List.size_toArray]; omega
 have hlong:¬ (!its.toArray.isEmpty && Builtin.List.listTooLong (its.toArray.size + its2.toArray.size))=true:=by
  rw [notLongL hsz,Bool.and_false]
  exact Bool.false_ne_true
 refine call_meets F.slot_list_extend ⟨_,e,rfl⟩ F.entry_list_extend (F.args_list_extend_2 _ _)
  (AutoSeq1.list_extend_list_list_0 l its.toArray n b its2.toArray n2 hlong (by rw [List.size_toArray]; omega) (by omega)) ⟨e,e2,?_⟩
 refine ⟨.non,_,I.lset (its':=its ++ its2) hH e (by simp) (r.append r2) ?_,rfl,q⟩
 rw [List.length_append]
 omega
def rPop:V->List V->Hp->VK->Prop:=fun x vs H Q=>∃ l xs y,x=.ref l/\vs=[]/\H l=some (.lst xs)/\xs[xs.length - 1]?=some y/\Q y (upd H l (.lst xs.dropLast))
theorem mt_pop:MtM X "list.pop" rPop:=by
 intro pins s σ H x vs v us Q I rx rv h
 obtain ⟨l,xs,y,rfl,rfl,hH,hy,q⟩:=h
 cases rx
 have hus:=rv.zero
 subst hus
 obtain ⟨z,its,n,r,hl,e⟩:=I.lstM hH
 obtain ⟨u,hu,ru⟩:=r.get hy
 have hy':its.toArray[its.toArray.size - 1]?=some u:=by
  show its.toArray[its.length - 1]?=some u
  rw [<- Array.getElem?_toList,<- hl]
  exact hu
 refine call_meets F.slot_list_pop ⟨_,e,rfl⟩ F.entry_list_pop (F.args_list_pop_1 _) (MeetsSeq.list_pop_last l its.toArray n u hy' (by rw [List.size_toArray]; omega)) ⟨e,?_⟩
 refine ⟨y,_,I.lset (its':=its.dropLast) hH e ?_ r.dropLast ?_,ru,q⟩
 ·show its.toArray.eraseIdxIfInBounds (its.toArray.size - 1)=its.dropLast.toArray
  rw [List.size_toArray,List.eraseIdxIfInBounds_toArray,erase_last]
 ·rw [List.length_dropLast]
  omega
def rCat:R2:=fun x y H Q=>∃ l b xs zs,x=.ref l/\y=.ref b/\H l=some (.lst xs)/\H b=some (.lst zs)/\xs.length + zs.length<=sizeLine/\∀ p,H p=none->Q (.ref p) (upd H p (.lst (xs ++ zs)))
theorem op_cat:OpR X (binaryOp .Add) rCat:=by
 intro pins s σ H x y v u Q I rx ry h
 obtain ⟨l,b,xs,zs,rfl,rfl,hH,hB,hz,q⟩:=h
 cases rx
 cases ry
 obtain ⟨z,its,n,r,hl,e⟩:=I.lstM hH
 obtain ⟨z2,its2,n2,r2,hl2,e2⟩:=I.lstM hB
 refine PySem.P.add_list e e2 ?_ (by rw [List.size_toArray,List.size_toArray]; omega)
 have ea:its.toArray ++ its2.toArray=(its ++ its2).toArray:=by simp
 rw [ea]
 exact ⟨.ref _,_,I.lnew (t':=s.toks) (r.append r2) (by rw [List.length_append]; omega),rfl,q _ I.fresh⟩
end
section
variable {prog:Program}{w:World}{A:Around}{E:Value->Shared->Prop}{s:Shared}
end
section
variable {X:Cx}
end
end L2
namespace Att
open PySem PySem.W PySem.Calls PyProof.Rows
theorem ints_of_wellAll {P:Params}{h:Heap}:∀ (ns:List Int) (vs:List Value),WellAll P h vs (ns.map WData.int)->IntsAre vs ns:=by
 intro ns
 induction ns with
 | nil =>
  intro vs w
  rw [List.map_nil] at w
  cases w
  exact .nil
 | cons n ns ih =>
  intro vs w
  rw [List.map_cons] at w
  cases w with
  | cons a b =>
   cases a
   exact .cons _ _ (ih _ b)
theorem script_of {l:OpenLaw}{n:Nat}(hn:l.most=some n) {P:Params}{h:Heap}{args:List WData}{vals:List Value}
  (hpre:l.row.toRowW.claim.pre args=true) (hwl:WellAll P h vals args) :
  ∃ a vs ns,vals=[Value.ref a]/\args=[WData.list (ns.map WData.int)]/\h.get? a=some { cls:=.type "list",data:=.seq vs.toArray }/\IntsAre vs ns/\ns.length<=n:=by
 have hsh:WShape.hasAll [] args [.list .int]=true:=(pre_splitW hpre).1
 have hc:l.pre.holds [] { args:=args }=true:=(pre_splitW hpre).2
 obtain ⟨d,r,rfl,h1,h2⟩:=hasAllW_cons hsh
 obtain rfl:=hasAllW_nil h2
 obtain ⟨xs,rfl,h3⟩:=hasW_list h1
 obtain ⟨ns,rfl⟩:=items_int h3
 have hlen:ns.length<=n:=by
  unfold OpenLaw.pre at hc
  have h4:(WTm.not (.lt (.lit (.int (n:Int))) (.len (.arg 0)))).holds [] { args:=[.list (ns.map .int)] }=true:=by
   have h4:=(holds_andW hc).1
   rw [hn] at h4
   exact h4
  have h5:=condW_of h4 (w_not (w_lt w_lit (w_len_list (w_arg rfl))))
  rw [List.length_map] at h5
  refine Nat.le_of_not_lt fun q=>?_
  have q':(n:Int) < ((ns.length:Nat):Int):=by omega
  first
   | (rw [decide_eq_true q'] at h5; exact absurd h5 (by decide))
   | (simp at h5; omega)
 cases hwl with
 | cons w1 w2 =>
  cases w2
  cases w1 with
  | list ho hall=>exact ⟨_,_,ns,rfl,rfl,ho,ints_of_wellAll ns _ hall,hlen⟩
theorem post_true (l:OpenLaw) (args:List WData):l.row.toRowW.claim.post args (.bool true) args=true :=
 postW_of (r:=l.row.toRowW) (X:=(true == true))
  (show WShape.has [] (.bool true) .bool=true by first | rfl | decide | simp [WShape.has,WShape.arms,WShape.armsAll])
  (show (WTm.eq .res (.lit (.bool true))).value [] { args:=args,res:=some (.bool true),after:=args }=some (.bool (true == true)) from w_eq_bool (w_res rfl) w_lit) rfl
theorem attach_call {l:OpenLaw}{n:Nat}{q:Program}{loose:List Str}{XP:(Str->Option Value)->Heap->Prop}{YP:World->Heap->Prop}{d:DefRec}
  (hn:l.most=some n) (hdf:d.params.defaults=[])
  (call:∀ (w:World) (s₀ s₁:Shared) (mg mb:Str->Option Value) (fa:Addr) (o:Obj) (pm cd doc:Value) (a:Addr) (vs:List Value) (ns:List Int),
   Ground q loose [] XP w s₀ mg mb s₁.heap->YP w s₁.heap ->
   s₁.heap.get? fa=some o->o.data=.func (docDef d.name d.params d.body d.scope pm cd doc)->s₁.heap.CodeRec cd d.name->mg d.name=some (.ref fa) ->
   s₁.heap.get? a=some { cls:=.type "list",data:=.seq vs.toArray }->IntsAre vs ns->ns.length<=n->s₁.gens=#[] ->
   codeAny (model l.prog w) callerA (.call (.ref fa) ⟨[.ref a],[]⟩) (fun r s'=>r=.ok (.ret (.bool true))/\OldK s₁.heap s'.heap/\s'.os=s₁.os/\AllBare s'.gens) s₁) :
  WalkO q loose XP YP l.row.toRowW d [] (fun f vs=>PySem.call f vs):=by
 intro w s₀ s₁ mg mb G Y fa o pm cd doc dV kV ho hd hcd hD hmg hg args vals as hpre hlay hrd hwl hlo
 obtain rfl:dV=.none:=Dflts.none hD hdf
 obtain rfl:kV=.none:=Dflts.noKw hD
 obtain ⟨a,vs,ns,rfl,rfl,hobj,hints,hlen⟩:=script_of hn hpre hwl
 refine enter_call (codeAny_mono (call w s₀ s₁ mg mb fa o pm cd doc a vs ns G Y ho (fd_plain hd) hcd hmg hobj hints hlen hg) fun r s' hq=>?_)
 obtain ⟨rfl,h2,h3,h4⟩:=hq
 exact ⟨.inl ⟨.bool true,.bool true,[],rfl,fun _=>rfl,.bool true,post_true l _,fun _=>⟨List.Pairwise.nil,fun _ hm=>(nomatch hm)⟩⟩,h2,h3,h4⟩
section
variable {prog:Program}{w:World}{A:Around}{E:Value->Shared->Prop}{s:Shared}{K:Frag}
def ledger (h:Heap) (L d:Addr):List (Addr × Obj):=(List.range h.objs.size).filterMap fun a=>if a=L\/a=d then none else (h.get? a).map fun o=>(a,o)
end
end Att
namespace L2
open PySem PySem.Spec PyProof.Rows
theorem vals_ints:∀ {vs:List Value}{ns:List Int},IntsAre vs ns->Vals (ns.map V.int) vs
 | _,_,.nil=>.nil
 | _,_,.cons n t h=>.cons ⟨t,rfl⟩ (vals_ints h)
def Only (H:Hp):Prop:=∀ b,H b=none\/∃ o xs,H b=some (.frz o (.lst xs))
theorem law_call {P:Program}{w:World}{K:PySem.W.Frag}{mg mb:Str->Option Value}{CX:CXT}{k:Nat}{fa a:Addr}{fd:FuncData}{x:Str}{sp:Sp}{s₁:Shared}{vs:List Value}{ns:List Int}
  (KX:K.In s₁.heap) (hns:s₁.heap.Ns mainGlobals mg) (hb:s₁.heap.Ns builtinsNs mb) (hbb:∀ x:Str,x ≠ "__name__"->mb x=bootBuiltins x) (hlim:s₁.heap.NoLimit) (hg:s₁.gens=#[])
  (ha:s₁.heap.get? a=some { cls:=.type "list",data:=.seq vs.toArray }) (hi:IntsAre vs ns) (hl:ns.length<=sizeLine) (hr:Room k callerA)
  (F:∀ base:Heap,K.In base->base.Ns mainGlobals mg->FnOk P w K mg base CX k fa fd [x] sp) (hbind:∀ (s:Shared) (u:Value),BindsTo s fd ⟨[u],[]⟩ [(x,u)])
  (hsp:∀ H:Hp,Only H->SqL K H a (ns.map V.int)->sp [.ref a] H (fun v _=>v=.bl true) fun _ _ _=>False)
  (hCX:∀ H e s',CX [] H s₁ (fun _ _ _=>False) e s'->False) :
  codeAny (model P w) callerA (.call (.ref fa) ⟨[.ref a],[]⟩) (fun r s'=>r=.ok (.ret (.bool true))/\OldK s₁.heap s'.heap/\s'.os=s₁.os/\AllBare s'.gens) s₁:=by
 have rv:=vals_ints hi
 have lenV:=hi.length
 -- from an abstract heap in which nothing but the script may be tracked
 have core:∀ H:Hp,Only H->SqL K H a (ns.map V.int)->HOk P w H s₁.heap->(∀ b,H b≠none->b=a)->(H a≠none->K.lookup a=none) ->
   codeAny (model P w) callerA (.call (.ref fa) ⟨[.ref a],[]⟩) (fun r s'=>r=.ok (.ret (.bool true))/\OldK s₁.heap s'.heap/\s'.os=s₁.os/\AllBare s'.gens) s₁:=by
  intro H hO hS hok hA hK
  have base_of:∀ {b:Addr} {o:Obj},s₁.heap.get? b=some o->H b=none->(hidT s₁.heap H).get? b=some o:=fun e n=>hidT_get e n
  have noA:∀ {b:Addr} {o:Obj} {es:Array DictEntry} {ep:Nat},s₁.heap.get? b=some o->o.data=.dict es ep->H b=none:=fun {b o es ep} e d=>by
   cases q:H b with
   | none=>rfl
   | some u =>
    have e':b=a:=hA b (by rw [q]; simp)
    subst e'
    rw [ha] at e; cases e
    have d':Data.seq vs.toArray _=Data.dict es ep:=d
    cases d'
  have nsK:∀ {b:Addr} {m:Str->Option Value},s₁.heap.Ns b m->(hidT s₁.heap H).Ns b m:=fun {b m} ⟨o,es,ep,e,d,r⟩=>⟨o,es,ep,base_of e (noA e d),d,r⟩
  have hKb:K.In (hidT s₁.heap H):=fun b o e=>base_of (KX b o e) (by
   cases q:H b with
   | none=>rfl
   | some u =>
    have e':b=a:=hA b (by rw [q]; simp)
    subst e'
    rw [hK (by rw [q]; simp)] at e; cases e)
  have hM:Mod K mg (hidT s₁.heap H):=⟨hKb,nsK hns,⟨mb,nsK hb,hbb⟩,let ⟨mc,h1,h2⟩:=hlim; ⟨mc,nsK h1,h2⟩⟩
  have e0:Env0 P w K mg (hidT s₁.heap H) callerA [] s₁ H:=⟨rfl,hM,fun b o e=>of_hidT e,Nat.le_of_eq (hidT_size _ _),trivial,fun b hb=>absurd (show b∈([]:List Addr) from hb) (by simp),hok,.of_eq hg⟩
  refine codeAny_mono ((F _ hKb (nsK hns)).run callerA [] s₁ H ⟨[.ref a],[]⟩ [.ref a] [.ref a] _ _ hr e0 (hbind s₁ (.ref a)) (.cons rfl .nil) (hsp H hO hS)) fun r s' h=>?_
  cases r with
  | error e=>exact (hCX H e s' h).elim
  | ok fl =>
   cases fl with
   | next=>exact False.elim h
   | brk=>exact False.elim h
   | cont=>exact False.elim h
   | ret u =>
    obtain ⟨v,H',os,bare,un,hok',r',q⟩:=h
    have q':v=.bl true:=q
    subst q'
    obtain rfl:u=Value.bool true:=r'
    refine ⟨rfl,OldK.of_keep fun b o e=>?_,os,bare⟩
    cases q:H b with
    | none=>exact un.keep b o e q (by intro z; exact absurd (show b∈([]:List Addr) from z) (by simp)) (by simp)
    | some u =>
     rcases hO b with z | ⟨ob,xs,z⟩
     ·rw [q] at z; cases z
     ·have z2:=un.frzs b ob _ z
      obtain ⟨e1,_⟩:=hok b _ z
      obtain ⟨e2,_⟩:=hok' b _ z2
      rw [e] at e1; cases e1
      exact e2
 cases hk:K.lookup a with
 | some o =>
  -- the script is one of the module's own objects
  have e:=KX a o hk
  rw [ha] at e
  cases e
  refine core (fun _=>none) (fun _=>.inl rfl) (.inr ⟨_,vs.toArray,_,hk,rfl,rfl,rfl,by rw [List.size_toArray,lenV]; exact hl,by simpa using rv⟩) (fun b u z=>by have z':(none:Option HO)=some u:=z; cases z') (fun b z=>absurd rfl z) fun z=>absurd rfl z
 | none =>
  refine core (fun b=>if b=a then some (.frz { cls:=.type "list",data:=.seq vs.toArray } (.lst (ns.map V.int))) else none) (fun b=>?_) (.inl (.inr ⟨{ cls:=.type "list",data:=.seq vs.toArray },if_pos rfl⟩)) (fun b u z=>?_) (fun b z=>?_) fun _=>hk
  ·by_cases hb:b=a
   ·exact .inr ⟨_,_,if_pos hb⟩
   ·exact .inl (if_neg hb)
  ·by_cases hb:b=a
   ·have z':=(if_pos hb).symm.trans z
    cases z'
    subst hb
    exact ⟨ha,by rw [List.length_map]; exact hl,vs,_,rv,ha⟩
   ·have z':=(if_neg hb).symm.trans z
    cases z'
  ·by_cases hb:b=a
   ·exact hb
   ·exact absurd (if_neg hb) z
end L2
namespace L2
open PySem PySem.Spec PyProof.Rows
theorem walk_of {l:PySem.W.OpenLaw}{n k:Nat}{q:Program}{loose:List Str}{XP:(Str->Option Value)->Heap->Prop}{YP:World->Heap->Prop}{d:DefRec}{K:Params->PySem.W.Frag}{CX:World->CXT}{sp:World->Sp}{x:Str}
  (hn:l.most=some n) (hn2:n<=sizeLine) (hdf:d.params.defaults=[]) (hr:Room k callerA)
  (hY:∀ (w:World) (h:Heap),YP w h->(K w.params).In h)
  (F:∀ (w:World) (mg:Str->Option Value) (fa:Addr) (h:Heap),(K w.params).In h->h.Ns mainGlobals mg->mg d.name=some (.ref fa) ->
   ∃ fd:FuncData,(∀ (s:Shared) (u:Value),BindsTo s fd ⟨[u],[]⟩ [(x,u)]) /\
    ∀ base:Heap,(K w.params).In base->base.Ns mainGlobals mg->FnOk l.prog w (K w.params) mg base (CX w) k fa fd [x] (sp w))
  (hsp:∀ (w:World) (H:Hp) (a:Addr) (ns:List Int),ns.length<=n->Only H->SqL (K w.params) H a (ns.map V.int)->sp w [.ref a] H (fun v _=>v=.bl true) fun _ _ _=>False)
  (hCX:∀ (w:World) (H:Hp) (s:Shared) (e:Value) (s':Shared),CX w [] H s (fun _ _ _=>False) e s'->False) :
  PySem.W.WalkO q loose XP YP l.row.toRowW d [] (fun f vs=>PySem.call f vs):=by
 refine Att.attach_call hn hdf fun w s₀ s₁ mg mb fa o pm cd doc a vs ns G Y ho hd hcd hmg hobj hints hlen hg=>?_
 have KX:=hY w _ Y
 obtain ⟨fd,hb,hF⟩:=F w mg fa _ KX G.T.g hmg
 exact law_call KX G.T.g G.T.b G.T.builtins G.T.nolimit hg hobj hints (Nat.le_trans hlen hn2) hr hF hb (fun H hO hS=>hsp w H a ns hlen hO hS) fun H e s'=>hCX w H s₁ e s'
end L2
namespace L2
open PySem PySem.Spec PyProof.Rows
def defArgs (s:Stmt):Arguments:=match s with
 | .FunctionDef _ a _ _ _ _ _ _ _ _=>a
 | _=>{ posonlyargs:=[],args:=[],vararg:=none,kwonlyargs:=[],kw_defaults:=[],kwarg:=none,defaults:=[] }
def defBody (s:Stmt):List Stmt:=match s with
 | .FunctionDef _ _ b _ _ _ _ _ _ _=>b
 | _=>[]
def defScope (s:Stmt):Scope:=match s with
 | .FunctionDef _ _ _ _ _ _ sc _ _ _=>sc
 | _=>{ kind:=.function,names:=[],isGenerator:=false,isCoroutine:=false }
abbrev CX0:CXT:=fun _ _ _ _ _ _=>False
abbrev E0:XK:=fun _ _ _=>False
theorem pass0 {X:Cx}:Passes CX0 X E0:=fun _ _ _ _ _ _ _ h=>h.elim
structure Fun (K:PySem.W.Frag) (x qual:Str) (st:Stmt) (f:Addr) (fd:FuncData):Prop where
 ex:∃ (oc:Value) (od:Option Addr) (kV doc pm:Value) (an:Option Addr) (cdv ct:Value) (osl:Array (Option Value)),
  fd=PySem.W.fnOf x qual (defArgs st) (defBody st) (defScope st) .none kV doc pm an cdv ct/\K.lookup f=some ⟨oc,od,.func fd,osl⟩/\PySem.W.codeIn K cdv qual=true
 kp:PySem.W.keepIn K (.ref f)=true
section
variable {P:Program}{w:World}{K:PySem.W.Frag}{mg:Str->Option Value}{base:Heap}
theorem Fun.ok {x qual:Str}{st:Stmt}{f:Addr}{fd:FuncData}{N ps:List Str}{k:Nat}{sp:Sp}(F:Fun K x qual st f fd) (S:FnScope N ps (defScope st)) (len:∀ vs H Q E,sp vs H Q E->vs.length=ps.length)
  (hbody:∀ (cdv:Value) (A:Around) (outer:List Env) (s:Shared) (H:Hp) (vs:List V) (Q:VK) (E:XK),Room k (A.deeper (envOfC qual (defScope st) s.heap.objs.size f cdv))->sp vs H Q E ->
   ∃ t,PSs (cxOf CX0 P w K mg base N qual (defScope st) f cdv A outer s H E).nox (defBody st) t/\t { nx:=fun _ H'=>Q .non H',rt:=Q } (start N vs) H):FnOk P w K mg base CX0 (k + 1) f fd ps sp:=by
 obtain ⟨oc,od,kV,doc,pm,an,cdv,ct,osl,rfl,lk,hcd⟩:=F.ex
 refine fn_of lk hcd S len fun A outer s H vs Q E hr hsp=>?_
 obtain ⟨t,h,q⟩:=hbody cdv A outer s H vs Q E hr hsp
 exact ⟨t,h.nox,q⟩
theorem Fun.binds {x qual:Str}{st:Stmt}{f:Addr}{fd:FuncData}{ps:List Str}(F:Fun K x qual st f fd)
  (h:∀ (kV doc pm:Value) (an:Option Addr) (cdv ct:Value) (us:List Value),us.length=ps.length->bindArgs (PySem.W.fnOf x qual (defArgs st) (defBody st) (defScope st) .none kV doc pm an cdv ct) ⟨us,[]⟩=pure (ps.zip us)):Binds K fd ps []:=by
 obtain ⟨oc,od,kV,doc,pm,an,cdv,ct,osl,rfl,lk,hcd⟩:=F.ex
 exact .all (h kV doc pm an cdv ct)
theorem fun_mk {x qual:Str}{st:Stmt}{f:Addr}{oc:Value}{od an:Option Addr}{osl:Array (Option Value)}{kV doc pm cdv ct:Value}(l:K.lookup f=some ⟨oc,od,.func (PySem.W.fnOf x qual (defArgs st) (defBody st) (defScope st) .none kV doc pm an cdv ct),osl⟩)
  (c:PySem.W.codeIn K cdv qual=true) (k:PySem.W.keepIn K (.ref f)=true):Fun K x qual st f (PySem.W.fnOf x qual (defArgs st) (defBody st) (defScope st) .none kV doc pm an cdv ct):=⟨⟨oc,od,kV,doc,pm,an,cdv,ct,osl,rfl,l,c⟩,k⟩
end
theorem hu_of {A:Around}{k:Nat}(hr:Room k A):A.units + 1 < cLine:=Nat.lt_of_le_of_lt (Nat.add_le_add_left (by decide:1<=64) _) hr.units
theorem small1000 {n:Nat}(h:n<=1000):n < sizeLine:=Nat.lt_of_le_of_lt h (by decide)
section
variable {X:Cx}
theorem pv (i:Nat) {x:Str}{pos:Pos}(hN:X.N[i]?=some x:=by rfl) (hv:Vis X.env.scope x:=by first | exact Or.inl rfl | exact Or.inr (Or.inl rfl) | exact Or.inr (Or.inr rfl)) (hd:(x == ("__debug__":Str))=false:=by decide)
  (hcd:(x == ("__classdict__":Str))=false:=by decide):PE X (.Name x pos) (tVar i):=pe_var hN hv hd hcd
end
theorem iteT {A B:Prop}(h:A):if true=true then A else B:=by
 rw [if_pos rfl]
 exact h
theorem ite2 {c A B:Prop} [Decidable c] (h1:c->A) (h2:¬ c->B):if c then A else B:=by
 by_cases h:c
 ·rw [if_pos h]
  exact h1 h
 ·rw [if_neg h]
  exact h2 h
def Same (H H':Hp):Prop:=∀ b o,H b=some o->H' b=some o
theorem Same.refl (H:Hp):Same H H:=fun _ _ h=>h
theorem Same.trans {H H1 H2:Hp}(a:Same H H1) (b:Same H1 H2):Same H H2:=fun c o h=>b c o (a c o h)
theorem Same.seq {K:PySem.W.Frag}{H H':Hp}{a:Addr}{xs:List V}(e:Same H H') (h:SqL K H a xs):SqL K H' a xs:=by
 rcases h with (h | ⟨o,h⟩) | h
 ·exact .inl (.inl (e _ _ h))
 ·exact .inl (.inr ⟨o,e _ _ h⟩)
 ·exact .inr h
end L2
set_option maxHeartbeats 4000000
namespace L2
open PySem PySem.Spec PyProof.Rows
def closRev (env:Env):List (Str × NameKind)->List (Str × Addr)->List (Str × Addr)
 | [],acc=>acc
 | (n,k) :: r,acc=>closRev env r (if k == .free then (match env.cells.lookup n with | some c=>(n,c) :: acc | none=>acc) else acc)
abbrev closOf (scope:Scope) (env:Env):List (Str × Addr):=closRev env scope.names []
theorem forIn_clos {env:Env}{g:Str × NameKind->List (Str × Addr)->Sem (ForInStep (List (Str × Addr)))}
  (hg:∀ n k cs,g (n,k) cs=if (k == NameKind.free)=true then (cellOf env n >>= fun c=>pure (ForInStep.yield ((n,c) :: cs))) else pure (ForInStep.yield cs)) :
  ∀ (names:List (Str × NameKind)) (acc:List (Str × Addr)),(∀ y∈names,y.2=.free->∃ c,env.cells.lookup y.1=some c)->forIn names acc g=pure (closRev env names acc)
 | [],acc,_=>rfl
 | (n,k) :: r,acc,h=>by
  rw [List.forIn_cons,hg]
  have hr:∀ y∈r,y.2=.free->∃ c,env.cells.lookup y.1=some c:=fun y hy=>h y (List.mem_cons_of_mem _ hy)
  unfold closRev
  by_cases hk:(k == NameKind.free)=true
  ·rw [if_pos hk,if_pos hk]
   obtain ⟨c,hc⟩:=h (n,k) List.mem_cons_self (by simpa using hk)
   have hc':env.cells.lookup n=some c:=hc
   have e:cellOf env n=pure c:=by unfold cellOf; rw [hc']
   rw [e,pure_bind,pure_bind,hc']
   exact forIn_clos hg r _ hr
  ·rw [if_neg hk,if_neg hk,pure_bind]
   exact forIn_clos hg r _ hr
theorem closureFor_eq {scope:Scope}{env:Env}(h:∀ y∈scope.names,y.2=.free->∃ c,env.cells.lookup y.1=some c):closureFor scope env=pure (closOf scope env):=by
 unfold closureFor
 dsimp only
 rw [forIn_clos (env:=env) (fun n k cs=>by
  show (if (k == NameKind.free)=true then _ else _)=_
  split
  ·rfl
  ·rfl) scope.names [] h]
 rfl
theorem clos_old {env:Env}{x:Str}{c:Addr}:∀ (names:List (Str × NameKind)) (acc:List (Str × Addr)),(∀ y c,acc.lookup y=some c->env.cells.lookup y=some c)->(closRev env names acc).lookup x=some c->env.cells.lookup x=some c
 | [],acc,h,e=>h _ _ e
 | (n,k) :: r,acc,h,e=>by
  unfold closRev at e
  refine clos_old r _ ?_ e
  intro y d z
  split at z
  ·split at z
   ·rename_i c' hc'
    rw [List.lookup_cons] at z
    cases hy:y == n with
    | true =>
     rw [hy] at z
     have z':c'=d:=Option.some.inj z
     subst z'
     have:y=n:=by simpa using hy
     rw [this]; exact hc'
    | false=>rw [hy] at z; exact h _ _ z
   ·exact h _ _ z
  ·exact h _ _ z
theorem clos_keep {env:Env}{x:Str}:∀ (names:List (Str × NameKind)) (acc:List (Str × Addr)),(∃ c,acc.lookup x=some c)->∃ c,(closRev env names acc).lookup x=some c
 | [],acc,h=>h
 | (n,k) :: r,acc,h=>by
  unfold closRev
  refine clos_keep r _ ?_
  split
  ·split
   ·rw [List.lookup_cons]
    cases x == n with
    | true=>exact ⟨_,rfl⟩
    | false=>exact h
   ·exact h
  ·exact h
theorem clos_has {env:Env}{x:Str}:∀ (names:List (Str × NameKind)) (acc:List (Str × Addr)),(x,NameKind.free)∈names->(∃ c,env.cells.lookup x=some c)->∃ c,(closRev env names acc).lookup x=some c
 | [],acc,h,_=>nomatch h
 | (n,k) :: r,acc,h,hx=>by
  unfold closRev
  rcases List.mem_cons.mp h with e | e
  ·cases e
   refine clos_keep r _ ?_
   obtain ⟨c,hc⟩:=hx
   rw [if_pos (by decide),hc]
   exact ⟨c,by rw [List.lookup_cons,beq_self_eq_true]⟩
  ·exact clos_has r _ e hx
@[reducible] def Cx.blk (X:Cx) (N:List Str) (scope:Scope) (s:Shared) (H:Hp) (fp:List Addr):Cx :=
 { X with N:=N,s₀:=s,H₀:=H,env:=compEnvC scope (closOf scope X.env) s.heap.objs.size X.env,outer:=X.stack,stack:=X.stack,ex:=fp,fn:=fun _=>false,pn:=[],xe:=fun _ _=>False }
def pick (σ:St):Option Nat->Option V
 | none=>none
 | some j=>(σ[j]?).join
structure BlkOk (X:Cx) (scope:Scope) (N:List Str) (r:List (Option Nat)):Prop where
 kind:scope.kind=.function
 nocell:∀ y∈scope.names,y.2≠.cell
 own:∀ y∈scope.names,y.2=.local->scope.names.lookup y.1=some .local
 out:∀ y∈scope.names,y.2=.free->X.env.scope.names.lookup y.1=some .cell\/X.env.scope.names.lookup y.1=some .free
 len:r.length=N.length
 free:∀ (i j:Nat) (x:Str),r[i]?=some (some j)->N[i]?=some x->X.N[j]?=some x/\(x,NameKind.free)∈scope.names/\scope.names.lookup x=some .free
theorem lookup_map_kind {f:Str × NameKind->Str × NameKind}(hf:∀ y,(f y).1=y.1):∀ {names:List (Str × NameKind)}{x:Str}{k:NameKind},(names.map f).lookup x=some k->∃ k',names.lookup x=some k'/\(f (x,k')).2=k
 | [],_,_,h=>by simp at h
 | (n,k0) :: r,x,k,h=>by
  rw [List.map_cons] at h
  have e1:(f (n,k0)).1=n:=hf _
  have e2:f (n,k0)=(n,(f (n,k0)).2):=Prod.ext e1 rfl
  rw [e2,List.lookup_cons] at h
  cases hx:x == n with
  | true =>
   rw [hx] at h
   have hxn:x=n:=by simpa using hx
   subst hxn
   exact ⟨k0,by rw [List.lookup_cons,beq_self_eq_true],Option.some.inj h⟩
  | false =>
   rw [hx] at h
   obtain ⟨k',h1,h2⟩:=lookup_map_kind hf h
   exact ⟨k',by rw [List.lookup_cons,hx]; exact h1,h2⟩
theorem map_lookup_kind {f:Str × NameKind->Str × NameKind}(hf:∀ y,(f y).1=y.1):∀ {names:List (Str × NameKind)}{x:Str}{k:NameKind},names.lookup x=some k->(names.map f).lookup x=some (f (x,k)).2
 | [],_,_,h=>by simp at h
 | (n,k0) :: r,x,k,h=>by
  rw [List.map_cons]
  have e1:(f (n,k0)).1=n:=hf _
  have e2:f (n,k0)=(n,(f (n,k0)).2):=Prod.ext e1 rfl
  rw [e2,List.lookup_cons]
  rw [List.lookup_cons] at h
  cases hx:x == n with
  | true =>
   rw [hx] at h
   have hxn:x=n:=by simpa using hx
   subst hxn
   have:k0=k:=Option.some.inj h
   subst this
   rfl
  | false =>
   rw [hx] at h
   exact map_lookup_kind hf h
theorem relabel_kind {scope:Scope}{env:Env}{x:Str}{k:NameKind}(hc:∀ y∈scope.names,y.2≠.cell) (h:(relabel scope env).names.lookup x=some k) (hk:k=.cell\/k=.free):scope.names.lookup x=some .free:=by
 have h':(scope.names.map fun (y:Str × NameKind)=>if (y.2 == NameKind.free && env.scope.kind == .function && env.kindOf y.1 == some .cell)=true then (y.1,NameKind.cell) else y).lookup x=some k:=h
 obtain ⟨k',h1,h2⟩:=lookup_map_kind (f:=fun y=>if (y.2 == NameKind.free && env.scope.kind == .function && env.kindOf y.1 == some .cell)=true then (y.1,NameKind.cell) else y) (fun y=>by split <;> rfl) h'
 dsimp only at h2
 split at h2
 ·rename_i z
  have z1:(k' == NameKind.free)=true:=by
   simp only [Bool.and_eq_true] at z
   exact z.1.1
  have:k'=.free:=by simpa using z1
  rw [this] at h1; exact h1
 ·have h2':k'=k:=h2
  subst h2'
  rcases hk with rfl | rfl
  ·exact absurd rfl (hc _ (PySem.mem_of_lookup h1))
  ·exact h1
theorem relabel_free {scope:Scope}{env:Env}{x:Str}(h:scope.names.lookup x=some .free):(relabel scope env).names.lookup x=some .cell\/(relabel scope env).names.lookup x=some .free:=by
 have q:=map_lookup_kind (f:=fun (y:Str × NameKind)=>if (y.2 == NameKind.free && env.scope.kind == .function && env.kindOf y.1 == some .cell)=true then (y.1,NameKind.cell) else y) (fun y=>by split <;> rfl) h
 have q':(relabel scope env).names.lookup x=_:=q
 rw [q']
 dsimp only
 split
 ·exact .inl rfl
 ·exact .inr rfl
section
variable {X:Cx}
def PTs (X:Cx) (ifs:List Expr) (t:TT):Prop :=
 ∀ (pins:List (Addr × Obj)) (s:Shared) (σ:St) (H:Hp) (Q:Bool->Hp->Prop),Inv X pins σ H s->t σ H Q ->
  wpAny (model X.prog X.w) X.A (forIn ifs true fun c r=>if r=true then do let ok <- isTrue c X.env (eval c X.env); pure (ForInStep.yield ok) else pure (ForInStep.yield r)) (TP X pins σ Q) X.xe s
def tYes:TT:=fun _ H Q=>Q true H
theorem pts_nil:PTs X [] tYes:=fun pins s σ H Q I h=>wpAny_tests_nil ⟨H,I,h⟩
theorem pts_one {c:Expr}{t:TT}(hc:PT X c t):PTs X [c] t:=fun pins s σ H Q I h=>wpAny_tests_one (hc pins s σ H Q I h)
theorem compLoop_go {prog:Program}{w:World}{A:Around}{R:Result->Shared->Prop}{s:Shared}{elt target iter:Expr}{ifs:List Expr}{scope:Scope}{pos:Pos}{it acc:Value}{env:Env}(I:Nat->Shared->Prop)
  (turn:∀ n s,I n s->wpAny (model prog w) A (pyNext it) (fun r s₁=>match r with
   | none=>R (.ok .next) s₁
   | some v=>wpAny (model prog w) A (letOwnedTupleGo target it v) (fun _ s₁=>wpAny (model prog w) A (assign target env v) (fun _ s₂ =>
     wpAny (model prog w) A (forIn ifs true fun c r=>if r=true then do let ok <- isTrue c env (eval c env); pure (ForInStep.yield ok) else pure (ForInStep.yield r)) (fun ok s₃ =>
      if ok=true then wpAny (model prog w) A (eval elt env) (fun x s₄ =>
       wpAny (model prog w) A (call (.builtin "list.append") [acc,x]) (fun _ s₅=>∃ m,m < n/\I m s₅) (notedBy (model prog w) A env fun e s'=>R (.error e) s') s₄) (notedBy (model prog w) A env fun e s'=>R (.error e) s') s₃
      else ∃ m,m < n/\I m s₃) (notedBy (model prog w) A env fun e s'=>R (.error e) s') s₂) (notedBy (model prog w) A env fun e s'=>R (.error e) s') s₁)
    (notedBy (model prog w) A env fun e s'=>R (.error e) s') s₁) (notedBy (model prog w) A env fun e s'=>R (.error e) s') s)
  (n:Nat) (h:I n s) :
  codeAny (model prog w) A (.compLoop (.ListComp elt [⟨target,iter,ifs,0⟩] scope pos) 0 it acc env) R s:=by
 refine codeAny_loop rfl I (fun n s hI=>?_) n h
 show wpAny _ A ((compTurn (.ListComp elt [⟨target,iter,ifs,0⟩] scope pos) 0 it acc env).onRaise (fun x=>do noteFrame x env; theTreesLotGoes x)) _ _ s
 refine wpAny_noted ?_
 rw [compTurn_list]
 refine wpAny_bind (wpAny_standAt (wpAny_bind (wpAny_mono (turn n s hI) (fun r s₁ h₁=>?_) fun _ _ h'=>h')))
 cases r with
 | none=>exact wpAny_pure h₁
 | some v =>
  refine wpAny_bind (wpAny_mono h₁ (fun _ s₁' h₁'=>?_) fun _ _ h'=>h')
  refine wpAny_bind (wpAny_mono h₁' (fun _ s₂ h₂=>wpAny_bind (wpAny_mono h₂ (fun ok s₃ h₃=>?_) fun _ _ h'=>h')) fun _ _ h'=>h')
  cases ok with
  | false=>exact wpAny_pure ⟨rfl,h₃⟩
  | true =>
   exact wpAny_bind (wpAny_bind (wpAny_mono h₃ (fun x s₄ h₄=>wpAny_bind (wpAny_mono h₄ (fun _ s₅ h₅=>wpAny_pure (wpAny_pure ⟨rfl,h₅⟩)) fun _ _ h'=>h')) fun _ _ h'=>h'))
theorem blk_start {N:List Str}{scope:Scope}{r:List (Option Nat)}{pins:List (Addr × Obj)}{σ:St}{H:Hp}{s:Shared}{h4:Heap}{tk:Nat}{fp:List Addr}(S:BlkOk X scope N r) (I:Inv X pins σ H s) (hf:∀ b∈fp,FpOk X pins H b) (hlt:∀ b∈fp,b < s.heap.objs.size)
  (hns:h4.Ns s.heap.objs.size (fun x=>([]:List (Str × Value)).reverse.lookup x)) (hk:∀ b o,s.heap.get? b=some o->h4.get? b=some o) :
  Inv (X.blk N scope s H fp) [] (r.map (pick σ)) H { s with heap:=h4,toks:=tk }:=by
 have cold:∀ x c,(closOf scope X.env).lookup x=some c->X.env.cells.lookup x=some c:=fun x c e=>clos_old scope.names [] (fun _ _ z=>by simp at z) e
 have nostk:∀ b∈fp,b ∉ frs X.stack:=fun b hb z=>by
  obtain ⟨_,f1,f2,_⟩:=hf b hb
  rcases List.mem_cons.mp (I.stkSub b z) with e | e
  ·exact f1 e
  ·exact f2 e
 refine ⟨⟨I.ok.mod,S.kind,I.ok.glob,I.ok.blt,Nat.le_refl _,fun x y c h1 h2=>I.ok.inj x y c (cold x c h1) (cold y c h2),fun x hx=>?_,fun x c z=>absurd z (by simp),I.ok.hd,I.ok.frames,.inl rfl,
   fun b hb=>⟨Nat.ne_of_lt (hlt b hb),fun x c e=>(hf b hb).2.2.2.2.1 x c (cold x c e)⟩,I.bs,Nat.le_trans I.ok.bsz I.sz,fun b o e hb=>?_,nostk,I.stack,I.stkFree⟩,
  rfl,I.bare,Un.kept hk,⟨_,hns,fun i x v e1 e2 e3=>?_⟩,fun x c e=>?_,I.hok.fresh (Nat.le_refl _),fun x c e=>I.freeC x c (cold x c e),fun p hp=>absurd (show p∈([]:List (Addr × Obj)) from hp) (by simp),I.hok.kept hk,?_⟩
 ·have hx':(relabel scope X.env).names.lookup x=some .cell\/(relabel scope X.env).names.lookup x=some .free:=hx
  have hfree:scope.names.lookup x=some .free:=by
   rcases hx' with z | z
   ·exact relabel_kind S.nocell z (.inl rfl)
   ·exact relabel_kind S.nocell z (.inr rfl)
  have hm:=PySem.mem_of_lookup hfree
  exact clos_has scope.names [] hm (I.ok.has x (S.out _ hm rfl))
 ·obtain ⟨_,_,_,f3,_⟩:=hf b hb
  rcases f3 with z | z
  ·exact I.ok.noex b o e z
  ·exact absurd (Nat.lt_of_lt_of_le (Heap.lt_size (I.ok.bs b o e).1) z) (Nat.lt_irrefl _)
 ·rw [List.getElem?_map] at e2
  cases hr:r[i]? with
  | none=>rw [hr] at e2; cases e2
  | some oj =>
   rw [hr] at e2
   cases oj with
   | none=>cases e2
   | some j =>
    have e2':pick σ (some j)=some v:=Option.some.inj e2
    obtain ⟨k1,k2,k3⟩:=S.free i j x hr e1
    have e4:σ[j]?=some (some v):=by
     have e2':(σ[j]?).join=some v:=e2'
     cases hj:σ[j]? with
     | none=>rw [hj] at e2'; cases e2'
     | some o=>rw [hj] at e2'; rw [show o=some v from e2']
    obtain ⟨m,hn,hl⟩:=I.loc
    have vis:Vis X.env.scope x:=by
     rcases S.out _ k2 rfl with z | z
     ·exact .inr (.inl z)
     ·exact .inr (.inr z)
    obtain ⟨u,ru,lk⟩:=hl j x v k1 e4 vis
    refine ⟨u,ru,.inr ⟨relabel_free k3,?_⟩⟩
    rcases lk with ⟨z,_⟩ | ⟨_,c,ec,ic⟩
    ·have z':X.env.scope.names.lookup x=some .local:=z
     rcases S.out _ k2 rfl with y | y
     ·rw [y] at z'; cases z'
     ·rw [y] at z'; cases z'
    ·obtain ⟨c',ec'⟩:=clos_has scope.names [] k2 ⟨c,ec⟩
     have:c'=c:=Option.some.inj ((cold x c' ec').symm.trans ec)
     subst this
     exact ⟨c',ec',ic.keeps hk⟩
 ·obtain ⟨v,z⟩:=I.cell x c (cold x c e)
  exact ⟨v,z.keeps hk⟩
 ·rw [List.length_map]; exact S.len
theorem blk_end {N:List Str}{scope:Scope}{pins:List (Addr × Obj)}{σ σ':St}{H H0 H':Hp}{s s0 s':Shared}{h':Heap}{fp:List Addr}(I:Inv X pins σ H s) (hf:∀ b∈fp,FpOk X pins H b)
  (u0:Un (frs X.stack) fp H H0 s.heap s0.heap) (hsz:s.heap.objs.size<=s0.heap.objs.size) (ho:s0.os=s.os) (J:Inv (X.blk N scope s0 H0 fp) [] σ' H' s') (hs:Heap.SameBut s0.heap.objs.size s'.heap h'):Inv X pins σ H' { s' with heap:=h' }:=by
 have u:Un (frs X.stack) fp H H' s.heap s'.heap:=u0.trans J.base
 have ne:∀ b o,s.heap.get? b=some o->b≠s0.heap.objs.size:=fun b o e=>Nat.ne_of_lt (Nat.lt_of_lt_of_le (Heap.lt_size e) hsz)
 have hC:H' s0.heap.objs.size=none:=J.free
 refine I.call' (s':={ s' with heap:=h' }) (ch:=fp) (J.os.trans ho) ⟨fun b o e n hb hx=>(hs.2 b (ne b o e)).trans (u.keep b o e n hb hx),fun b o e n hb hx=>?_,u.free,fun b o e hx=>?_,u.tups,u.frzs,u.tbls⟩ (fun b ob e=>?_) J.bare fun b hb=>⟨(hf b hb).2.2.2.1,(hf b hb).2.1,(hf b hb).2.2.2.2.1,(hf b hb).2.2.2.2.2⟩
 ·obtain ⟨sl,e1⟩:=u.slot b o e n hb hx
  exact ⟨sl,(hs.2 b (ne b o e)).trans e1⟩
 ·obtain ⟨o',e1⟩:=u.there b o e hx
  exact ⟨o',(hs.2 b (ne b o e)).trans e1⟩
 ·refine (J.hok b ob e).stay (fun c w' hc q=>(hs.2 c ?_).trans q) (fun _ q=>q) fun _ _ q=>q
  rintro rfl
  rcases hc with rfl | hc
  ·rw [hC] at e; cases e
  ·rw [hC] at hc; cases hc
def LCok (J:It) (g:TG) (tc:TT) (te:TE) (σ0:St) (H1:Hp) (Q:VK) (D:Addr):Prop :=
 ∃ W:Nat->Nat->St->Hp->Prop,(∃ m,W 0 m σ0 (upd H1 D (.lst [])))/\∀ i m σ' H',W i m σ' H' ->
  (J.stop i H'/\Q (.ref D) H')\/(J.go i H'/\∃ (N:St->Hp->Prop) (M:V->St->Hp->Prop),(∀ σ2 H4,N σ2 H4->∃ m',m' < m/\W (i + 1) m' σ2 H4) /\
   (∀ y σ2 H5,M y σ2 H5->∃ xs m',H5 D=some (.lst xs)/\xs.length < sizeLine/\m' < m/\W (i + 1) m' σ2 (upd H5 D (.lst (xs ++ [y])))) /\
   ∀ x H2,J.yld i H' x H2->g x σ' H2 fun σ2 H3=>tc σ2 H3 fun b H4=>if b=true then te σ2 H4 fun y H5=>M y σ2 H5 else N σ2 H4)
def tLC (wi:TI) (r:List (Option Nat)) (g:TG) (tc:TT) (te:TE):TE:=fun σ H Q=>wi σ H fun J H1=>∀ D,H1 D=none->LCok J g tc te (r.map (pick σ)) H1 Q D
theorem pe_lc {elt tg iter:Expr}{ifs:List Expr}{scope:Scope}{pos:Pos}{wi:TI}{N:List Str}{r:List (Option Nat)}{g:TG}{tc:TT}{te:TE}(hc:X.calm=true) (hi:PI X tg iter wi) (S:BlkOk X scope N r)
  (hg:∀ s H fp,PG (X.blk N scope s H fp) tg g) (ht:∀ s H fp,PTs (X.blk N scope s H fp) ifs tc) (he:∀ s H fp,PE (X.blk N scope s H fp) elt te)
  (hs:∀ x,foldedSetIterable iter X.env x=pure x:=by intro _; rfl):PE X (.ListComp elt [⟨tg,iter,ifs,0⟩] scope pos) (tLC wi r g tc te):=by
 intro pins s σ H Q I h
 rw [eval_ListComp]
 have hcl:closureFor scope X.env=pure (closOf scope X.env):=closureFor_eq fun y hy hk=>I.ok.has y.1 (S.out y hy hk)
 refine wpAny_comprehension_free (use:=none) rfl hs hcl S.kind S.own ?_
 show wpAny _ _ (eval iter X.env) _ _ s
 refine thn (hi pins s σ H _ I h) fun v s1 h1=>thn h1 fun itv s2 h2=>?_
 obtain ⟨it,fp,tn,J,H2,e,I2,T,st2,f2,q2⟩:=h2
 subst e
 have hD:H2 s2.heap.objs.size=none:=I2.hok.fresh (Nat.le_refl _)
 obtain ⟨W,⟨m0,w0⟩,turn⟩:=q2 _ hD
 have hlt2:∀ b∈fp,b < s2.heap.objs.size:=fun b hb=>by
  obtain ⟨o,e,_⟩:=T.obj _ _ st2 b hb
  exact Heap.lt_size e
 refine wpAny_newObj_type ?_
 generalize hs3:({ s2 with heap:=s2.heap.push { cls:=.type "list",dict:=none,data:=.seq ([]:List Value).toArray } }:Shared)=s3
 have k3:∀ b o,s2.heap.get? b=some o->s3.heap.get? b=some o:=fun b o e=>by rw [<- hs3]; exact Heap.get?_push_of_some _ e
 have z3:s3.heap.objs.size=s2.heap.objs.size + 1:=by rw [<- hs3]; exact Heap.size_push ..
 have u3:Un (frs X.stack) fp H2 (upd H2 s2.heap.objs.size (.lst [])) s2.heap s3.heap:=Un.laid k3 (Nat.le_refl _) hD
 have o3:s3.os=s2.os:=by rw [<- hs3]
 have I3:Inv X pins σ (upd H2 s2.heap.objs.size (.lst [])) s3:=by
  rw [<- hs3]
  exact I2.laid (t':=s2.toks) (fun b u e=>Heap.get?_push_of_some _ e) (Nat.le_refl _) ⟨Nat.zero_le _,[],0,.nil,Heap.get?_push_size _ rfl⟩
 have f3:∀ b∈fp,FpOk X pins (upd H2 s2.heap.objs.size (.lst [])) b:=fun b hb=>⟨by rw [upd_ne (Nat.ne_of_lt (hlt2 b hb))]; exact (f2 b hb).1,(f2 b hb).2⟩
 refine wpAny_newFunctionEnv S.nocell (by intro y hy; simp at hy) (fun h4 hns4 hsb4=>?_) S.kind
 have k4:∀ b o,s3.heap.get? b=some o->h4.get? b=some o:=fun b o e=>hsb4.extBut b o (Nat.ne_of_lt (Heap.lt_size e)) (Heap.get?_push_of_some _ e)
 have J4:Inv (X.blk N scope s3 (upd H2 s2.heap.objs.size (.lst [])) fp) [] (r.map (pick σ)) (upd H2 s2.heap.objs.size (.lst [])) { s3 with heap:=h4,toks:=s3.toks + ([]:List (Str × Value)).length } :=
  blk_start S I3 f3 (fun b hb=>by rw [z3]; exact Nat.lt_succ_of_lt (hlt2 b hb)) hns4 k4
 have st4:tn 0 h4:=T.keep _ _ _ st2 fun b _ o e=>k4 b o (k3 b o e)
 have stat:∀ {H':Hp},(∀ b∈fp,H' b=none)->∀ b∈fp,FpOk (X.blk N scope s3 (upd H2 s2.heap.objs.size (.lst [])) fp) [] H' b:=fun hn b hb =>
  ⟨hn b hb,(J4.ok.exf b hb).1,J4.ok.exfs b hb,.inl hb,(J4.ok.exf b hb).2,fun p hp=>absurd (show p∈([]:List (Addr × Obj)) from hp) (by simp)⟩
 generalize hY:X.blk N scope s3 (upd H2 s2.heap.objs.size (.lst [])) fp=Y at *
 have loop:∀ s4:Shared,s4={ s3 with heap:=h4,toks:=s3.toks + ([]:List (Str × Value)).length } ->
   codeAny (model X.prog X.w) X.A (.compLoop (.ListComp elt [⟨tg,iter,ifs,0⟩] scope pos) 0 (.ref it) (.ref s2.heap.objs.size) Y.env) (compPost (model X.prog X.w) X.A X.xe none (EP X pins σ Q) (.ref s2.heap.objs.size) s3.heap.objs.size) s4:=by
  rintro s4 rfl
  have yp:Y.prog=X.prog:=by rw [<- hY]
  have yw:Y.w=X.w:=by rw [<- hY]
  have yK:Y.K=X.K:=by rw [<- hY]
  have yA:Y.A=X.A:=by rw [<- hY]
  have yc:Y.calm=true:=by rw [<- hY]; exact hc
  have hgY:PG Y tg g:=by rw [<- hY]; exact hg _ _ _
  have htY:PTs Y ifs tc:=by rw [<- hY]; exact ht _ _ _
  have heY:PE Y elt te:=by rw [<- hY]; exact he _ _ _
  have yx:∀ e s',¬ Y.xe e s':=fun e s' z=>by rw [<- hY] at z; exact z
  refine compLoop_go (fun n s'=>∃ i σ' H',Inv Y [] σ' H' s'/\tn i s'.heap/\(∀ b∈fp,H' b=none)/\W i n σ' H') ?_ m0 ⟨0,_,_,J4,st4,fun b hb=>(f3 b hb).1,w0⟩
  rintro n s5 ⟨i,σ5,H5,I5,st5,fr5,w5⟩
  rcases turn i n σ5 H5 w5 with ⟨stop,qn⟩ | ⟨go,Nn,Mm,hNn,hMm,step⟩
  ·have d:=T.done Y yp yw yK yc i [] s5 σ5 H5 (notedBy (model X.prog X.w) X.A Y.env fun e s'=>compPost (model X.prog X.w) X.A X.xe none (EP X pins σ Q) (.ref s2.heap.objs.size) s3.heap.objs.size (.error e) s') I5 (stat fr5) st5 stop
   rw [yA] at d
   refine thn d fun rr s6 hz0=>?_
   obtain ⟨hr,I6⟩:=hz0
   subst hr
   obtain ⟨m,hn,_⟩:=id I6.loc
   refine ⟨m,by rw [<- hY] at hn; exact hn,fun h' hsb=>⟨.ref s2.heap.objs.size,H5,?_,rfl,qn⟩⟩
   rw [<- hY] at I6
   exact blk_end I2 f2 u3 (by rw [z3]; exact Nat.le_succ _) o3 I6 hsb
  ·have d:=T.item Y yp yw yK yc i [] s5 σ5 H5 (notedBy (model X.prog X.w) X.A Y.env fun e s'=>compPost (model X.prog X.w) X.A X.xe none (EP X pins σ Q) (.ref s2.heap.objs.size) s3.heap.objs.size (.error e) s') I5 (stat fr5) st5 go
   rw [yA] at d
   refine thn d fun rr s6 hz0=>?_
   obtain ⟨u,hr,h6⟩:=hz0
   subst hr
   refine thn h6 fun _ s7 hz0=>?_
   obtain ⟨x,H7,I7,r7,y7,st7,fr7⟩:=hz0
   have I7':=I7.pinned (stat fr7) (T.obj _ _ st7)
   have g7:=hgY _ s7 σ5 H7 x u _ I7' r7 (step x H7 y7)
   rw [yp,yw,yA] at g7
   refine wpAny_mono g7 (fun _ s8 hz0=>?_) fun e s' z=>(yx e s' z).elim
   obtain ⟨σ8,H8,I8,q8⟩:=hz0
   have t8:=htY _ s8 σ8 H8 _ I8 q8
   rw [yp,yw,yA] at t8
   refine wpAny_mono t8 (fun ok s9 hz0=>?_) fun e s' z=>(yx e s' z).elim
   obtain ⟨H9,I9,q9⟩:=hz0
   have again:∀ {s10:Shared} {H10:Hp} {m':Nat},Inv Y ([] ++ pinsAt fp s7.heap) σ8 H10 s10->m' < n->W (i + 1) m' σ8 H10->∃ m,m < n/\∃ i σ' H',Inv Y [] σ' H' s10/\tn i s10.heap/\(∀ b∈fp,H' b=none)/\W i m σ' H':=fun {s10 H10 m'} I10 hm w10=>by
    refine ⟨m',hm,i + 1,σ8,H10,I10.unpinned,T.keep _ _ _ st7 fun b hb o e=>(I10.pin (b,o) (List.mem_append_right _ (List.mem_append_right _ (mem_pinsAt hb e)))).1,fun b hb=>?_,w10⟩
    obtain ⟨o,e,d⟩:=T.obj _ _ st7 b hb
    exact (I10.pin (b,o) (List.mem_append_right _ (List.mem_append_right _ (mem_pinsAt hb e)))).2.1
   cases ok with
   | false =>
    rw [if_neg (by simp)] at q9 ⊢
    obtain ⟨m',hm,w9⟩:=hNn _ _ q9
    exact again I9 hm w9
   | true =>
    rw [if_pos rfl] at q9 ⊢
    have e9:=heY _ s9 σ8 H9 _ I9 q9
    rw [yp,yw,yA] at e9
    refine wpAny_mono e9 (fun uu s10 hz0=>?_) fun e s' z=>(yx e s' z).elim
    obtain ⟨y,H10,I10,r10,hM⟩:=hz0
    obtain ⟨xs,m',hD10,hz,hm,w10⟩:=hMm _ _ _ hM
    have a10:=mt_append _ s10 σ8 H10 (.ref s2.heap.objs.size) [y] (.ref s2.heap.objs.size) [uu] (fun v Hq=>v=.non/\Hq=upd H10 s2.heap.objs.size (.lst (xs ++ [y]))) I10 rfl (.cons r10 .nil) ⟨_,xs,y,rfl,rfl,hD10,hz,rfl,rfl⟩
    rw [yp,yw,yA] at a10
    refine wpAny_mono a10 (fun _ s11 hz0=>?_) fun e s' z=>(yx e s' z).elim
    obtain ⟨_,H11,I11,_,_,e11⟩:=hz0
    subst e11
    exact again I11 hm w10
 have hY':Y.env={ scope:=relabel scope X.env,locals:=s3.heap.objs.size,globals:=X.env.globals,cells:=closOf scope X.env,qual:=X.env.qual,func:=none,code:=X.env.code,frame:=X.env.frame,builtins:=X.env.builtins }:=by rw [<- hY]; rfl
 rw [hY'] at loop
 exact codeAny_compStart_list (loop _ rfl) (T.self _ 0 _ _ _ st4 (loop _ rfl))
theorem lc_fill {J:It}{n:Nat}{f:Nat->V}{g:TG}{tc:TT}{te:TE}{σ0:St}{H1:Hp}{Q:VK}{D:Addr}(Iv:Nat->List V->St->Hp->Prop) (hD:H1 D=none) (hn:n<=1000)
  (h0:Iv 0 [] σ0 (upd H1 D (.lst [])))
  (hj:∀ i ys σ H,i<=n->H D=some (.lst ys)->Iv i ys σ H->(i=n->J.stop i H)/\(i < n->J.go i H/\∀ x H',J.yld i H x H'->H'=H/\x=f i))
  (hs:∀ i ys σ H,i < n->H D=some (.lst ys)->Iv i ys σ H->g (f i) σ H fun σ2 H3=>tc σ2 H3 fun b H4 =>
   if b=true then te σ2 H4 fun y H5=>H5 D=some (.lst ys)/\Iv (i + 1) (ys ++ [y]) σ2 (upd H5 D (.lst (ys ++ [y]))) else H4 D=some (.lst ys)/\Iv (i + 1) ys σ2 H4)
  (hd:∀ ys σ H,H D=some (.lst ys)->Iv n ys σ H->Q (.ref D) H):LCok J g tc te σ0 H1 Q D:=by
 refine ⟨fun i m σ H=>m=n - i/\i<=n/\∃ ys,H D=some (.lst ys)/\ys.length<=i/\Iv i ys σ H,⟨n,rfl,Nat.zero_le _,[],upd_same,Nat.le_refl _,h0⟩,?_⟩
 rintro i m σ H ⟨rfl,hi,ys,hy,hl,iv⟩
 obtain ⟨j1,j2⟩:=hj i ys σ H hi hy iv
 by_cases hlt:i < n
 ·obtain ⟨go,yl⟩:=j2 hlt
  refine .inr ⟨go,fun σ2 H4=>H4 D=some (.lst ys)/\Iv (i + 1) ys σ2 H4,fun y σ2 H5=>H5 D=some (.lst ys)/\Iv (i + 1) (ys ++ [y]) σ2 (upd H5 D (.lst (ys ++ [y]))),fun σ2 H4 q=>?_,fun y σ2 H5 q=>?_,fun x H2 q=>?_⟩
  ·exact ⟨n - (i + 1),by omega,rfl,hlt,ys,q.1,by omega,q.2⟩
  ·exact ⟨ys,n - (i + 1),q.1,small1000 (by omega),by omega,rfl,hlt,ys ++ [y],upd_same,by rw [List.length_append,List.length_singleton]; omega,q.2⟩
  ·obtain ⟨rfl,rfl⟩:=yl x H2 q
   exact hs i ys σ _ hlt hy iv
 ·have e:i=n:=by omega
  subst e
  exact .inl ⟨j1 rfl,hd ys σ H hy iv⟩
end
end L2
namespace L2
open PySem PySem.Spec PyProof.Rows
mutual
def Tells (H:Hp) (k:Addr):PyData->V->Prop
 | .none,v=>v=.non
 | .bool b,v=>v=.bl b
 | .int i,v=>v=.int i
 | .str x,v=>v=.str x
 | .list ds,v=>∃ a vs,v=.ref a/\a≠k/\H a=some (.lst vs)/\TellsAll H k ds vs
 | .tuple ds,v=>∃ a vs,v=.ref a/\a≠k/\H a=some (.tup vs)/\TellsAll H k ds vs
 | .dict _,_=>False
def TellsAll (H:Hp) (k:Addr):List PyData->List V->Prop
 | [],vs=>vs=[]
 | d :: ds,vs=>∃ v r,vs=v :: r/\Tells H k d v/\TellsAll H k ds r
end
def Keep (k:Addr) (H H':Hp):Prop:=∀ b o,b≠k->H b=some o->H' b=some o
theorem Keep.refl (k:Addr) (H:Hp):Keep k H H:=fun _ _ _ e=>e
theorem Keep.trans {k:Addr}{H H1 H2:Hp}(a:Keep k H H1) (b:Keep k H1 H2):Keep k H H2:=fun c o n e=>b c o n (a c o n e)
theorem Same.keep {k:Addr}{H H':Hp}(a:Same H H'):Keep k H H':=fun c o _ e=>a c o e
theorem same_new {H:Hp}{p:Addr}(h:H p=none) (o:HO):Same H (upd H p o):=fun b u q=>by rw [upd_ne (ne_of_none q h)]; exact q
theorem Keep.new {k:Addr}{H:Hp}{p:Addr}(h:H p=none) (o:HO):Keep k H (upd H p o):=(same_new h o).keep
theorem Keep.at {k:Addr}{H:Hp}(o:HO):Keep k H (upd H k o):=fun b u n e=>by rw [upd_ne n]; exact e
mutual
theorem Tells.keep {H H':Hp}{k:Addr}(K:Keep k H H'):∀ {d:PyData}{v:V},Tells H k d v->Tells H' k d v
 | .none,_,h=>by unfold Tells at h ⊢; exact h
 | .bool _,_,h=>by unfold Tells at h ⊢; exact h
 | .int _,_,h=>by unfold Tells at h ⊢; exact h
 | .str _,_,h=>by unfold Tells at h ⊢; exact h
 | .list ds,v,h=>by
  unfold Tells at h ⊢
  obtain ⟨a,vs,e,n,q,r⟩:=h
  exact ⟨a,vs,e,n,K a _ n q,TellsAll.keep K r⟩
 | .tuple ds,v,h=>by
  unfold Tells at h ⊢
  obtain ⟨a,vs,e,n,q,r⟩:=h
  exact ⟨a,vs,e,n,K a _ n q,TellsAll.keep K r⟩
 | .dict _,_,h=>by unfold Tells at h; exact h.elim
theorem TellsAll.keep {H H':Hp}{k:Addr}(K:Keep k H H'):∀ {ds:List PyData}{vs:List V},TellsAll H k ds vs->TellsAll H' k ds vs
 | [],_,h=>by unfold TellsAll at h ⊢; exact h
 | d :: ds,vs,h=>by
  unfold TellsAll at h ⊢
  obtain ⟨v,r,e,q,qs⟩:=h
  exact ⟨v,r,e,Tells.keep K q,TellsAll.keep K qs⟩
end
theorem tells_list {H:Hp}{k:Addr}{ds:List PyData}{v:V}:Tells H k (.list ds) v↔∃ a vs,v=.ref a/\a≠k/\H a=some (.lst vs)/\TellsAll H k ds vs:=by
 rw [Tells]
theorem tells_tuple {H:Hp}{k:Addr}{ds:List PyData}{v:V}:Tells H k (.tuple ds) v↔∃ a vs,v=.ref a/\a≠k/\H a=some (.tup vs)/\TellsAll H k ds vs:=by
 rw [Tells]
theorem tells_str {H:Hp}{k:Addr}{x:Str}{v:V}:Tells H k (.str x) v↔v=.str x:=by rw [Tells]
theorem tells_int {H:Hp}{k:Addr}{i:Int}{v:V}:Tells H k (.int i) v↔v=.int i:=by rw [Tells]
theorem tells_bool {H:Hp}{k:Addr}{b:Bool}{v:V}:Tells H k (.bool b) v↔v=.bl b:=by rw [Tells]
theorem tells_none {H:Hp}{k:Addr}{v:V}:Tells H k .none v↔v=.non:=by rw [Tells]
theorem tellsAll_nil {H:Hp}{k:Addr}{vs:List V}:TellsAll H k [] vs↔vs=[]:=by rw [TellsAll]
theorem tellsAll_cons {H:Hp}{k:Addr}{d:PyData}{ds:List PyData}{vs:List V}:TellsAll H k (d :: ds) vs↔∃ v r,vs=v :: r/\Tells H k d v/\TellsAll H k ds r:=by rw [TellsAll]
section
variable {X:Cx}{pins:List (Addr × Obj)}{σ:St}{H:Hp}{s:Shared}
mutual
theorem Tells.reads (I:Inv X pins σ H s) {k:Addr}:∀ {d:PyData}{v:V}{u:Value},Tells H k d v->RelV v u->∃ as,Reads s.heap u d as
 | .none,v,u,h,r=>by
  rw [tells_none] at h; subst h
  cases (show u=Value.none from r)
  exact ⟨_,.none⟩
 | .bool b,v,u,h,r=>by
  rw [tells_bool] at h; subst h
  cases (show u=Value.bool b from r)
  exact ⟨_,.bool b⟩
 | .int i,v,u,h,r=>by
  rw [tells_int] at h; subst h
  obtain ⟨t,rfl⟩:=(show ∃ t,u=Value.int i t from r)
  exact ⟨_,.int i t⟩
 | .str x,v,u,h,r=>by
  rw [tells_str] at h; subst h
  obtain ⟨t,rfl⟩:=(show ∃ t,u=Value.str x t from r)
  exact ⟨_,.str x t⟩
 | .list ds,v,u,h,r=>by
  obtain ⟨a,vs,rfl,_,e,q⟩:=tells_list.mp h
  cases (show u=Value.ref a from r)
  obtain ⟨_,its,n,rv,g⟩:=I.hok a _ e
  obtain ⟨as,ra⟩:=TellsAll.reads I q rv
  exact ⟨_,.list g rfl rfl (by simpa using ra)⟩
 | .tuple ds,v,u,h,r=>by
  obtain ⟨a,vs,rfl,_,e,q⟩:=tells_tuple.mp h
  cases (show u=Value.ref a from r)
  obtain ⟨_,its,rv,o,g,c,_,n,dt⟩:=I.hok a _ e
  obtain ⟨as,ra⟩:=TellsAll.reads I q rv
  exact ⟨_,.tuple g c dt (by simpa using ra)⟩
 | .dict _,_,_,h,_=>by unfold Tells at h; exact h.elim
theorem TellsAll.reads (I:Inv X pins σ H s) {k:Addr}:∀ {ds:List PyData}{vs:List V}{us:List Value},TellsAll H k ds vs->Vals vs us->∃ as,ReadsAll s.heap us ds as
 | [],_,us,h,r=>by
  rw [tellsAll_nil] at h; subst h
  cases r
  exact ⟨_,.nil⟩
 | d :: ds,_,us,h,r=>by
  obtain ⟨w,rr,rfl,q1,q2⟩:=tellsAll_cons.mp h
  cases r with
  | cons r1 r2 =>
   obtain ⟨as,a1⟩:=Tells.reads I q1 r1
   obtain ⟨bs,a2⟩:=TellsAll.reads I q2 r2
   exact ⟨_,.cons a1 a2⟩
end
end
def tyName:PyData->String
 | .none=>"NoneType"
 | .bool _=>"bool"
 | .int _=>"int"
 | .str _=>"str"
 | .list _=>"list"
 | .tuple _=>"tuple"
 | .dict _=>"dict"
theorem Tells.ty {H:Hp}{k:Addr}{K:PySem.W.Frag}:∀ {d:PyData}{v:V},Tells H k d v->TyOf K H v (.type (tyName d))
 | .none,v,h=>by rw [tells_none] at h; subst h; exact .non
 | .bool b,v,h=>by rw [tells_bool] at h; subst h; exact .bl b
 | .int i,v,h=>by rw [tells_int] at h; subst h; exact .int i
 | .str x,v,h=>by rw [tells_str] at h; subst h; exact .str x
 | .list ds,v,h=>by obtain ⟨a,vs,rfl,_,e,q⟩:=tells_list.mp h; exact .lst e
 | .tuple ds,v,h=>by obtain ⟨a,vs,rfl,_,e,q⟩:=tells_tuple.mp h; exact .tup e
 | .dict _,_,h=>by unfold Tells at h; exact h.elim
def isT:PyData->String->Bool
 | .bool _,n=>n == "bool" || n == "int"
 | d,n=>n == tyName d
theorem kit_isT (K:PySem.W.Frag) (d:PyData) (n:String) (hd:∀ kvs,d≠.dict kvs) (hn:n="int"\/n="bool"\/n="str"\/n="tuple"\/n="list"):PySem.W.kitOne K (.type (tyName d)) (.type n)=some (isT d n):=by
 rcases hn with rfl | rfl | rfl | rfl | rfl <;> cases d <;> first | exact absurd rfl (hd _) | rfl | decide +kernel
section
variable {X:Cx}
def rIsin:List V->Hp->VK->Prop:=fun xs H Q=>∃ k x n d,xs=[x,.ty n]/\Tells H k d x/\(n="int"\/n="bool"\/n="str"\/n="tuple"\/n="list")/\Q (.bl (isT d n)) H
theorem call_isin:CallR X (.builtin "isinstance") rIsin:=by
 intro pins s σ H xs us Q I r h
 obtain ⟨k,x,n,d,rfl,t,hn,q⟩:=h
 obtain ⟨u,u',rfl,r1,r2⟩:=vals2 r
 cases (show u'=Value.type n from r2)
 refine isinst_ok I r1 t.ty (kit_isT _ d n (fun kvs e=>?_) hn) fun tk=>⟨.bl _,H,I.tok tk,rfl,q⟩
 subst e
 unfold Tells at t
 exact t
def Lay (d:PyData):Prop:=d.canLay0=true/\d.depth<=20
theorem op_eqD (hu:X.A.units + 64 < cLine):OpR X (compareOp .Eq) (fun x y H Q=>∃ k k' dx dy,Tells H k dx x/\Tells H k' dy y/\Lay dx/\Lay dy/\Q (.bl (PyData.eqv dx dy)) H):=by
 intro pins s σ H x y v u Q I rx ry h
 obtain ⟨k,k',dx,dy,tx,ty,lx,ly,q⟩:=h
 obtain ⟨as,ax⟩:=tx.reads I rx
 obtain ⟨bs,ay⟩:=ty.reads I ry
 refine SeqAt.compareEq_reads ax ay lx.1 ly.1 ?_ ⟨.bl _,H,I,rfl,q⟩
 have:=lx.2; have:min dx.depth dy.depth<=dx.depth:=Nat.min_le_left _ _
 omega
theorem op_neD (hu:X.A.units + 64 < cLine):OpR X (compareOp .NotEq) (fun x y H Q=>∃ k k' dx dy,Tells H k dx x/\Tells H k' dy y/\Lay dx/\Lay dy/\Q (.bl (!PyData.eqv dx dy)) H):=by
 intro pins s σ H x y v u Q I rx ry h
 obtain ⟨k,k',dx,dy,tx,ty,lx,ly,q⟩:=h
 obtain ⟨as,ax⟩:=tx.reads I rx
 obtain ⟨bs,ay⟩:=ty.reads I ry
 refine SeqAt.compareNe_reads ax ay lx.1 ly.1 ?_ ⟨.bl _,H,I,rfl,q⟩
 have:=lx.2; have:min dx.depth dy.depth<=dx.depth:=Nat.min_le_left _ _
 omega
end
end L2
namespace L2
open PySem PySem.Spec PyProof.Rows
section
variable {X:Cx}{tg:Expr}
def Its (x:Str):It:=⟨fun i _=>i < x.cps.size,fun i H y H'=>H'=H/\∃ c,x.cps[i]?=some c/\y=.str ⟨#[c]⟩,fun i _=>i=x.cps.size⟩
theorem turn_walk {P:Program}{w:World}{K:PySem.W.Frag}{x:Str}{it:Addr}{St:Nat->Heap->Prop}{n:String}(hn:["enumerate","zip","dict_itemiterator","dict_reverseitemiterator","odict_iterator","itertools.zip_longest","itertools.pairwise"].contains n=false)
  (hw:∀ A':Around,A'.handled=none->Walks P w A' it [it] [it] x.cps.size (SignAt x) St) (hs:∀ i h,St i h->∃ o vs,h.get? it=some o/\o.cls=.type n/\o.data=.fields vs)
  (hself:∀ (A:Around) (i:Nat) (s:Shared) (Q:Value->Shared->Prop) (E:Value->Shared->Prop),St i s.heap->Q (.ref it) s->wpAny (model P w) A (pyIter (.ref it)) Q E s):Turn P w K tg (Its x) [it] it St where
 mem:=by simp
 obj:=fun i h st b hb=>by
  have e:b=it:=by simpa using hb
  subst e
  obtain ⟨o,vs,e,c,d⟩:=hs i h st
  exact ⟨o,e,fun v z=>by rw [d] at z; cases z⟩
 keep:=fun i h h' st k=>(hw {} rfl).frame i h h' st k
 item:=by
  intro X hP hw' hK hc i pins s σ H E I hf st hg
  subst hP hw' hK
  obtain ⟨f0,f1,f2,f3,f4,f5⟩:=hf it (by simp)
  refine (hw X.A (I.ok.hd hc)).item i s _ _ hg st fun v h' tk hv st' kk=>?_
  obtain ⟨c,u,hc',rfl⟩:=hv
  have I1:Inv X pins σ H { s with heap:=h',toks:=tk }:=I.turned (fun b o hb e=>kk b o (by simpa using hb) e) f0 f1 f3 f4 f5
  obtain ⟨o,vs,e,c2,d⟩:=hs _ _ st'
  exact ⟨_,rfl,go_of (s:={ s with heap:=h',toks:=tk }) e c2 d hn ⟨.str ⟨#[c]⟩,H,I1,⟨u,rfl⟩,⟨rfl,c,hc',rfl⟩,st',fun b hb=>(hf b hb).1⟩⟩
 done:=by
  intro X hP hw' hK hc i pins s σ H E I hf st hg
  subst hP hw' hK
  obtain ⟨f0,f1,f2,f3,f4,f5⟩:=hf it (by simp)
  have hg':i=x.cps.size:=hg
  subst hg'
  exact (hw X.A (I.ok.hd hc)).done s _ _ st fun h' tk kk=>⟨rfl,I.turned (fun b o hb e=>kk b o (by simpa using hb) e) f0 f1 f3 f4 f5⟩
 self:=hself
def iStr (tl:TE):TI:=fun σ H R=>tl σ H fun x H1=>∃ y,x=.str y/\R (Its y) H1
theorem pi_str {l:Expr}{tl:TE}(hl:PE X l tl):PI X tg l (iStr tl):=by
 intro pins s σ H R I h
 refine thn (hl pins s σ H _ I h) fun v s1 hz0=>?_
 obtain ⟨x,H1,I1,r1,q1⟩:=hz0
 obtain ⟨y,e,q⟩:=q1
 subst e
 obtain ⟨t,rfl⟩:=r1
 have fin:∀ (o:Obj) (St:Nat->Heap->Prop),Turn X.prog X.w X.K tg (Its y) [s1.heap.objs.size] s1.heap.objs.size St->St 0 (s1.heap.push o)->PIE X pins σ tg R (.ref s1.heap.objs.size) { s1 with heap:=s1.heap.push o }:=fun o St T st=>by
  refine ⟨s1.heap.objs.size,[s1.heap.objs.size],St,_,H1,rfl,I1.kept (t':=s1.toks) fun b o e=>Heap.get?_push_of_some _ e,T,st,fun b hb=>?_,q⟩
  have e:b=s1.heap.objs.size:=by simpa using hb
  subst e
  exact I1.fpOk (Nat.le_refl _) (I1.hok.fresh (Nat.le_refl _))
 cases ha:y.cps.all (· < 128)
 ·refine wpAny_pyIter_wide ha (fin _ _ (turn_walk (n:="str_iterator") (by decide) (fun A' hA=>Walks.strWide hA _ y t) (fun i h hz0=>?_) fun _ _ _ _ _ st hQ=>wpAny_pyIter_striter_wide st hQ) ⟨_,Heap.get?_push_size _ rfl,rfl,rfl⟩)
  obtain ⟨o,e,c,d⟩:=hz0
  exact ⟨o,_,e,c,d⟩
 ·refine wpAny_pyIter_ascii ha (fin _ _ (turn_walk (n:="str_ascii_iterator") (by decide) (fun A' hA=>Walks.strAscii hA _ y t) (fun i h hz0=>?_) fun _ _ _ _ _ st hQ=>wpAny_pyIter_striter_ascii st hQ) ⟨_,Heap.get?_push_size _ rfl,rfl,rfl⟩)
  obtain ⟨o,e,c,d⟩:=hz0
  exact ⟨o,_,e,c,d⟩
theorem op_le_str:OpR X (compareOp .LtE) (fun x y H Q=>∃ i j,x=.str i/\y=.str j/\Q (.bl (!decide (j.cps.toList < i.cps.toList))) H):=by
 intro pins s σ H x y v u Q I rx ry h
 obtain ⟨i,j,rfl,rfl,q⟩:=h
 obtain ⟨t,rfl⟩:=rx
 obtain ⟨t',rfl⟩:=ry
 exact PySem.P.le_str ⟨.bl _,H,I,rfl,q⟩
theorem call_all (hc:X.calm=true):CallR X (.builtin "all") (fun xs H Q=>∃ (p:Addr) (bs:List Bool),xs=[.ref p]/\SqL X.K H p (bs.map V.bl)/\Q (.bl (bs.all id)) H):=by
 intro pins s σ H xs us Q I r h
 obtain ⟨p,bs,rfl,hq,q⟩:=h
 obtain ⟨u,rfl,rx⟩:=vals1 r
 cases (show u=Value.ref p from rx)
 obtain ⟨its,rv,pl,hz⟩:=I.list hq
 have hlt:p < s.heap.objs.size:=by obtain ⟨o,e,_⟩:=pl.isList; exact Heap.lt_size e
 refine call_all_walk (wpAny_pyIter_list pl.isList ?_)
 refine ⟨s.heap.objs.size,_,_,its.toArray.size,_,_,fun i=>bs.getD i false,rfl,Walks.list (prog:=X.prog) (w:=X.w) (A:=X.A.in1) (I.ok.hd hc) s.heap.objs.size p (Nat.ne_of_lt hlt) its.toArray,⟨⟨_,Heap.get?_push_size _ rfl,rfl,rfl⟩,pl.isList.at fun o e=>Heap.get?_push_of_some _ e⟩,?_,fun h' tk hk=>?_⟩
 ·intro i v s' Q' E' hP hQ
  have hP':its[i]?=some v:=by simpa using hP
  have hl:=rv.length
  rw [List.length_map] at hl
  have hi:i < its.length:=(List.getElem?_eq_some_iff.mp hP').1
  obtain ⟨u,hu,ru⟩:=rv.get (i:=i) (x:=V.bl (bs.getD i false)) (by rw [List.getElem?_map,List.getElem?_eq_getElem (by omega)]; simp [List.getD,List.getElem?_eq_getElem (show i < bs.length by omega)])
  rw [hP'] at hu; cases hu
  cases (show v=Value.bool _ from ru)
  exact wpAny_truthy_bool hQ
 ·refine ⟨.bl _,H,I.kept fun b o e=>hk b o (by simpa using Nat.ne_of_lt (Heap.lt_size e)) (Heap.get?_push_of_some _ e),rfl,?_⟩
  have hl:=rv.length
  rw [List.length_map] at hl
  have e:(List.range its.toArray.size).all (fun i=>bs.getD i false)=bs.all id:=by
   rw [List.size_toArray,<- hl]
   have:(List.range bs.length).map (fun i=>bs.getD i false)=bs:=by
    apply List.ext_getElem
    ·simp
    ·intro i h1 h2; simp [List.getD,List.getElem?_eq_getElem h2]
   conv=>rhs; rw [<- this]
   rw [List.all_map]; rfl
  rw [e]; exact q
theorem Vals.insertAt {xs:List V}{us:List Value}{y:V}{u:Value}(r:Vals xs us) (ry:RelV y u) (k:Nat):Vals (xs.take k ++ y :: xs.drop k) (us.take k ++ u :: us.drop k):=(r.take k).append (.cons ry (r.drop k))
theorem mt_insert:MtM X "list.insert" (fun x vs H Q=>∃ l xs i y,x=.ref l/\vs=[.int i,y]/\H l=some (.lst xs)/\xs.length < sizeLine/\0<=i/\i<=xs.length/\Q .non (upd H l (.lst (xs.take i.toNat ++ y :: xs.drop i.toNat)))):=by
 intro pins s σ H x vs v us Q I rx rv h
 obtain ⟨l,xs,i,y,rfl,rfl,hH,hz,h0,h1,q⟩:=h
 cases rx
 obtain ⟨ui,u,rfl,ri,ru⟩:=rv.two
 obtain ⟨t,rfl⟩:=ri
 obtain ⟨z,its,n,r,hl,e⟩:=I.lstM hH
 have hs:sizeLine=16777216:=sizeLine_eq
 have hf:Builtin.List.listFitsIndex i=true:=fitsIndex_both (by omega) (by omega)
 refine call_meets F.slot_list_insert ⟨_,e,rfl⟩ F.entry_list_insert (F.args_list_insert_3 _ _ _) (AutoSeq1.list_insert_list_int_val_1 l its.toArray n i t u (by rw [hf]; simp) (by rw [List.size_toArray]; omega)) ⟨e,?_⟩
 refine ⟨.non,_,I.lset (its':=its.take i.toNat ++ u :: its.drop i.toNat) hH e ?_ (Vals.insertAt r ru i.toNat) ?_,rfl,q⟩
 ·dsimp only
  rw [if_neg (by omega)]
  have e1:min i.toNat its.toArray.size=i.toNat:=by rw [List.size_toArray]; omega
  rw [e1]
  apply Array.ext'
  simp
  exact List.take_of_length_le (by simp)
 ·simp only [List.length_append,List.length_take,List.length_cons,List.length_drop]
  omega
end
end L2
namespace L2
open PySem PySem.Spec PyProof.Rows
section
variable {X:Cx}{tg:Expr}
end
end L2
namespace L2
open PySem
mutual
def wgt:PyData->Nat
 | .list ds=>1 + wgtAll ds
 | .tuple ds=>1 + wgtAll ds
 | .none | .bool _ | .int _ | .str _ | .dict _=>1
def wgtAll:List PyData->Nat
 | []=>0
 | d :: ds=>wgt d + wgtAll ds
end
mutual
def leafOk:PyData->Bool
 | .none | .bool _=>true
 | .int i=>decide (i.natAbs < 2 ^ 200)
 | .str x=>decide (x.length<=100) && PyData.strOk x
 | .list ds=>leafOkAll ds
 | .tuple ds=>leafOkAll ds
 | .dict _=>false
def leafOkAll:List PyData->Bool
 | []=>true
 | d :: ds=>leafOk d && leafOkAll ds
end
mutual
theorem leaf_lay:∀ d:PyData,leafOk d=true->d.canLay0=true
 | .none,_=>by simp only [PyData.canLay0]
 | .bool _,_=>by simp only [PyData.canLay0]
 | .int _,_=>by simp only [PyData.canLay0]
 | .str x,h=>by
  rw [leafOk,Bool.and_eq_true] at h
  simp only [PyData.canLay0]; exact h.2
 | .list ds,h=>by rw [leafOk] at h; simp only [PyData.canLay0]; exact leaf_layAll ds h
 | .tuple ds,h=>by rw [leafOk] at h; simp only [PyData.canLay0]; exact leaf_layAll ds h
 | .dict _,h=>by rw [leafOk] at h; cases h
theorem leaf_layAll:∀ ds:List PyData,leafOkAll ds=true->PyData.canLayAll0 ds=true
 | [],_=>by simp only [PyData.canLayAll0]
 | d :: ds,h=>by
  rw [leafOkAll,Bool.and_eq_true] at h
  rw [PyData.canLayAll0,Bool.and_eq_true]
  exact ⟨leaf_lay d h.1,leaf_layAll ds h.2⟩
end
theorem int_log {i:Int}(h:i.natAbs < 2 ^ 200):i.natAbs.log2 < 200:=by
 by_cases h0:i.natAbs=0
 ·rw [h0]; decide +kernel
 ·exact (Nat.log2_lt h0).mpr h
structure Bd (n p:Nat) (d:PyData):Prop where
 leaf:leafOk d=true
 w:wgt d<=n
 dp:d.depth<=p
abbrev Fit (d:PyData):Prop:=Bd 1000 15 d
theorem Bd.mono {n p m q:Nat}{d:PyData}(h:Bd n p d) (h1:n<=m) (h2:p<=q):Bd m q d:=⟨h.leaf,Nat.le_trans h.w h1,Nat.le_trans h.dp h2⟩
theorem Bd.lay {n p:Nat}{d:PyData}(h:Bd n p d) (hp:p<=20):Lay d:=⟨leaf_lay d h.leaf,Nat.le_trans h.dp hp⟩
theorem leafAll_mem:∀ {ds:List PyData},leafOkAll ds=true↔∀ d∈ds,leafOk d=true
 | []=>by simp [leafOkAll]
 | d :: ds=>by rw [leafOkAll,Bool.and_eq_true,leafAll_mem]; simp
theorem wgt_each {n:Nat}:∀ {ds:List PyData},(∀ d∈ds,wgt d<=n)->wgtAll ds<=n * ds.length
 | [],_=>by simp [wgtAll]
 | d :: ds,h=>by
  rw [wgtAll,List.length_cons,Nat.mul_succ]
  have h1:=h d List.mem_cons_self
  have h2:=wgt_each fun e he=>h e (List.mem_cons_of_mem _ he)
  omega
theorem depth_each {p:Nat}:∀ {ds:List PyData},(∀ d∈ds,d.depth<=p)->PyData.depthAll ds<=p
 | [],_=>by simp [PyData.depthAll]
 | d :: ds,h=>by
  rw [PyData.depthAll]
  have h1:=h d List.mem_cons_self
  have h2:=depth_each fun e he=>h e (List.mem_cons_of_mem _ he)
  omega
theorem Bd.list {n p m:Nat}{ds:List PyData}(h:∀ d∈ds,Bd n p d) (hl:ds.length<=m):Bd (1 + n * m) (p + 1) (.list ds):=by
 refine ⟨by rw [leafOk]; exact leafAll_mem.mpr fun d hd=>(h d hd).leaf,?_,?_⟩
 ·rw [wgt]
  have:=wgt_each fun d hd=>(h d hd).w
  have:=Nat.mul_le_mul_left n hl
  omega
 ·rw [PyData.depth]
  have:=depth_each fun d hd=>(h d hd).dp
  omega
theorem Bd.tuple {n p m:Nat}{ds:List PyData}(h:∀ d∈ds,Bd n p d) (hl:ds.length<=m):Bd (1 + n * m) (p + 1) (.tuple ds):=by
 refine ⟨by rw [leafOk]; exact leafAll_mem.mpr fun d hd=>(h d hd).leaf,?_,?_⟩
 ·rw [wgt]
  have:=wgt_each fun d hd=>(h d hd).w
  have:=Nat.mul_le_mul_left n hl
  omega
 ·rw [PyData.depth]
  have:=depth_each fun d hd=>(h d hd).dp
  omega
theorem Bd.strLen {n p:Nat}{x:Str}(h:Bd n p (.str x)):x.length<=100:=by
 have h1:=h.leaf
 rw [leafOk,Bool.and_eq_true,decide_eq_true_eq] at h1
 exact h1.1
theorem bd_str {x:Str}(h1:x.length<=100) (h2:PyData.strOk x=true):Bd 1 0 (.str x):=⟨by rw [leafOk,h2,decide_eq_true h1]; rfl,by simp [wgt],by simp [PyData.depth]⟩
theorem bd_int {i:Int}(h:i.natAbs < 2 ^ 200):Bd 1 0 (.int i):=⟨by rw [leafOk]; exact decide_eq_true h,by simp [wgt],by simp [PyData.depth]⟩
theorem lc_map {J:It}{n:Nat}{f:Nat->V}{g:TG}{te:TE}{σ0:St}{H1:Hp}{Q:VK}{D:Addr}(Iv:Nat->List V->St->Hp->Prop) (hD:H1 D=none) (hn:n<=1000)
  (h0:Iv 0 [] σ0 (upd H1 D (.lst [])))
  (hj:∀ i ys σ H,i<=n->H D=some (.lst ys)->Iv i ys σ H->(i=n->J.stop i H)/\(i < n->J.go i H/\∀ x H',J.yld i H x H'->H'=H/\x=f i))
  (hs:∀ i ys σ H,i < n->H D=some (.lst ys)->Iv i ys σ H->g (f i) σ H fun σ2 H3=>te σ2 H3 fun y H5=>H5 D=some (.lst ys)/\Iv (i + 1) (ys ++ [y]) σ2 (upd H5 D (.lst (ys ++ [y]))))
  (hd:∀ ys σ H,H D=some (.lst ys)->Iv n ys σ H->Q (.ref D) H):LCok J g tYes te σ0 H1 Q D :=
 lc_fill Iv hD hn h0 hj (fun i ys σ H h1 h2 h3=>hs i ys σ H h1 h2 h3) hd
end L2
namespace L2
open PySem PySem.Spec PyProof.Rows
section
variable {X:Cx}
theorem ps_setLC {i0:Nat}{x0:Str}{pos' spos:Pos}{elt tg iter:Expr}{ifs:List Expr}{scope:Scope}{pos:Pos}{wi:TI}{N:List Str}{r:List (Option Nat)}{g:TG}{tc:TT}{te:TE}(hN:X.N.Nodup) (hi0:X.N[i0]?=some x0) (hx:Loc X.env.scope x0) (hc:X.calm=true) (hi:PI X tg iter wi) (S:BlkOk X scope N r)
  (hg:∀ s H fp,PG (X.blk N scope s H fp) tg g) (ht:∀ s H fp,PTs (X.blk N scope s H fp) ifs tc) (he:∀ s H fp,PE (X.blk N scope s H fp) elt te)
  (hsw:swapsWith (.ListComp elt [⟨tg,iter,ifs,0⟩] scope pos) (some (.Name x0 pos')) spos.line X.env=pure true:=by rfl)
  (hs:∀ x,foldedSetIterable iter X.env x=pure x:=by intro _; rfl) (hf:X.fn x0=true\/X.env.scope.names.lookup x0=some .local:=by first | exact .inl rfl | exact .inr rfl | assumption) :
  PS X (.Assign [.Name x0 pos'] (.ListComp elt [⟨tg,iter,ifs,0⟩] scope pos) spos) (tAsg (tLC wi r g tc te) (gName i0)):=by
 intro pins s σ H DD I h
 rw [exec_Assign_Name_used _ _ _ _ hsw]
 refine wpAny_bind (wpAny_standAt (wpAny_bind ?_))
 show wpAny _ X.A (do let _ <- comprehension (.ListComp elt [⟨tg,iter,ifs,0⟩] scope pos) scope X.env _ (newList []) false (eval iter X.env) (some (assign (.Name x0 pos') X.env))) _ _ s
 refine wpAny_bind (wpAny_mono (?_:wpAny _ X.A _ (fun _ s'=>SP X pins DD .next s') _ s) (fun _ s' hq=>wpAny_pure (wpAny_pure hq)) fun _ _ e=>e)
 have hcl:closureFor scope X.env=pure (closOf scope X.env):=closureFor_eq fun y hy hk=>I.ok.has y.1 (S.out y hy hk)
 refine wpAny_comprehension_free (use:=some (assign (.Name x0 pos') X.env)) rfl hs hcl S.kind S.own ?_
 show wpAny _ _ (eval iter X.env) _ _ s
 refine thn (hi pins s σ H _ I h) fun v s1 h1=>thn h1 fun itv s2 h2=>?_
 obtain ⟨it,fp,tn,J,H2,e,I2,T,st2,f2,q2⟩:=h2
 subst e
 have hD:H2 s2.heap.objs.size=none:=I2.hok.fresh (Nat.le_refl _)
 obtain ⟨W,⟨m0,w0⟩,turn⟩:=q2 _ hD
 have hlt2:∀ b∈fp,b < s2.heap.objs.size:=fun b hb=>by
  obtain ⟨o,e,_⟩:=T.obj _ _ st2 b hb
  exact Heap.lt_size e
 refine wpAny_newObj_type ?_
 generalize hs3:({ s2 with heap:=s2.heap.push { cls:=.type "list",dict:=none,data:=.seq ([]:List Value).toArray } }:Shared)=s3
 have k3:∀ b o,s2.heap.get? b=some o->s3.heap.get? b=some o:=fun b o e=>by rw [<- hs3]; exact Heap.get?_push_of_some _ e
 have z3:s3.heap.objs.size=s2.heap.objs.size + 1:=by rw [<- hs3]; exact Heap.size_push ..
 have u3:Un (frs X.stack) fp H2 (upd H2 s2.heap.objs.size (.lst [])) s2.heap s3.heap:=Un.laid k3 (Nat.le_refl _) hD
 have o3:s3.os=s2.os:=by rw [<- hs3]
 have I3:Inv X pins σ (upd H2 s2.heap.objs.size (.lst [])) s3:=by
  rw [<- hs3]
  exact I2.laid (t':=s2.toks) (fun b u e=>Heap.get?_push_of_some _ e) (Nat.le_refl _) ⟨Nat.zero_le _,[],0,.nil,Heap.get?_push_size _ rfl⟩
 have f3:∀ b∈fp,FpOk X pins (upd H2 s2.heap.objs.size (.lst [])) b:=fun b hb=>⟨by rw [upd_ne (Nat.ne_of_lt (hlt2 b hb))]; exact (f2 b hb).1,(f2 b hb).2⟩
 refine wpAny_newFunctionEnv S.nocell (by intro y hy; simp at hy) (fun h4 hns4 hsb4=>?_) S.kind
 have k4:∀ b o,s3.heap.get? b=some o->h4.get? b=some o:=fun b o e=>hsb4.extBut b o (Nat.ne_of_lt (Heap.lt_size e)) (Heap.get?_push_of_some _ e)
 have J4:Inv (X.blk N scope s3 (upd H2 s2.heap.objs.size (.lst [])) fp) [] (r.map (pick σ)) (upd H2 s2.heap.objs.size (.lst [])) { s3 with heap:=h4,toks:=s3.toks + ([]:List (Str × Value)).length } :=
  blk_start S I3 f3 (fun b hb=>by rw [z3]; exact Nat.lt_succ_of_lt (hlt2 b hb)) hns4 k4
 have st4:tn 0 h4:=T.keep _ _ _ st2 fun b _ o e=>k4 b o (k3 b o e)
 have stat:∀ {H':Hp},(∀ b∈fp,H' b=none)->∀ b∈fp,FpOk (X.blk N scope s3 (upd H2 s2.heap.objs.size (.lst [])) fp) [] H' b:=fun hn b hb =>
  ⟨hn b hb,(J4.ok.exf b hb).1,J4.ok.exfs b hb,.inl hb,(J4.ok.exf b hb).2,fun p hp=>absurd (show p∈([]:List (Addr × Obj)) from hp) (by simp)⟩
 generalize hY:X.blk N scope s3 (upd H2 s2.heap.objs.size (.lst [])) fp=Y at *
 have loop:∀ s4:Shared,s4={ s3 with heap:=h4,toks:=s3.toks + ([]:List (Str × Value)).length } ->
   codeAny (model X.prog X.w) X.A (.compLoop (.ListComp elt [⟨tg,iter,ifs,0⟩] scope pos) 0 (.ref it) (.ref s2.heap.objs.size) Y.env) (compPost (model X.prog X.w) X.A X.xe (some (assign (.Name x0 pos') X.env)) (fun _ s'=>SP X pins DD .next s') (.ref s2.heap.objs.size) s3.heap.objs.size) s4:=by
  rintro s4 rfl
  have yp:Y.prog=X.prog:=by rw [<- hY]
  have yw:Y.w=X.w:=by rw [<- hY]
  have yK:Y.K=X.K:=by rw [<- hY]
  have yA:Y.A=X.A:=by rw [<- hY]
  have yc:Y.calm=true:=by rw [<- hY]; exact hc
  have hgY:PG Y tg g:=by rw [<- hY]; exact hg _ _ _
  have htY:PTs Y ifs tc:=by rw [<- hY]; exact ht _ _ _
  have heY:PE Y elt te:=by rw [<- hY]; exact he _ _ _
  have yx:∀ e s',¬ Y.xe e s':=fun e s' z=>by rw [<- hY] at z; exact z
  refine compLoop_go (fun n s'=>∃ i σ' H',Inv Y [] σ' H' s'/\tn i s'.heap/\(∀ b∈fp,H' b=none)/\W i n σ' H') ?_ m0 ⟨0,_,_,J4,st4,fun b hb=>(f3 b hb).1,w0⟩
  rintro n s5 ⟨i,σ5,H5,I5,st5,fr5,w5⟩
  rcases turn i n σ5 H5 w5 with ⟨stop,qn⟩ | ⟨go,Nn,Mm,hNn,hMm,step⟩
  ·have d:=T.done Y yp yw yK yc i [] s5 σ5 H5 (notedBy (model X.prog X.w) X.A Y.env fun e s'=>compPost (model X.prog X.w) X.A X.xe (some (assign (.Name x0 pos') X.env)) (fun _ s'=>SP X pins DD .next s') (.ref s2.heap.objs.size) s3.heap.objs.size (.error e) s') I5 (stat fr5) st5 stop
   rw [yA] at d
   refine thn d fun rr s6 hz0=>?_
   obtain ⟨hr,I6⟩:=hz0
   subst hr
   obtain ⟨m,hn,_⟩:=id I6.loc
   rw [<- hY] at I6 hn
   have IX:Inv X pins σ H5 s6:=blk_end I2 f2 u3 (by rw [z3]; exact Nat.le_succ _) o3 I6 (Heap.SameBut.refl _ _)
   have hC:H5 s3.heap.objs.size=none:=I6.free
   obtain ⟨f0,f1,f2',f3',f4,f5⟩:=I3.fpOk (Nat.le_refl _) hC
   refine wpAny_assign_Name (store_ok2 IX hN hi0 hx (show RelV (V.ref s2.heap.objs.size) _ from rfl) (fun s7 I7 hz0=>?_) hf)
   obtain ⟨a,hsb7,ha⟩:=hz0
   have hCa:s3.heap.objs.size≠a:=by
    rcases ha with rfl | ha
    ·exact f1
    ·exact fun z=>f4 _ _ ha z.symm
   refine ⟨m,Heap.Ns.sameBut hn hsb7 hCa,fun h' hsb=>⟨_,H5,I7.turned (t':=s7.toks) (it:=s3.heap.objs.size) (fun b o hb e=>hsb.extBut b o hb e) hC f1 f3' f4 f5,qn⟩⟩
  ·have d:=T.item Y yp yw yK yc i [] s5 σ5 H5 (notedBy (model X.prog X.w) X.A Y.env fun e s'=>compPost (model X.prog X.w) X.A X.xe (some (assign (.Name x0 pos') X.env)) (fun _ s'=>SP X pins DD .next s') (.ref s2.heap.objs.size) s3.heap.objs.size (.error e) s') I5 (stat fr5) st5 go
   rw [yA] at d
   refine thn d fun rr s6 hz0=>?_
   obtain ⟨u,hr,h6⟩:=hz0
   subst hr
   refine thn h6 fun _ s7 hz0=>?_
   obtain ⟨x,H7,I7,r7,y7,st7,fr7⟩:=hz0
   have I7':=I7.pinned (stat fr7) (T.obj _ _ st7)
   have g7:=hgY _ s7 σ5 H7 x u _ I7' r7 (step x H7 y7)
   rw [yp,yw,yA] at g7
   refine wpAny_mono g7 (fun _ s8 hz0=>?_) fun e s' z=>(yx e s' z).elim
   obtain ⟨σ8,H8,I8,q8⟩:=hz0
   have t8:=htY _ s8 σ8 H8 _ I8 q8
   rw [yp,yw,yA] at t8
   refine wpAny_mono t8 (fun ok s9 hz0=>?_) fun e s' z=>(yx e s' z).elim
   obtain ⟨H9,I9,q9⟩:=hz0
   have again:∀ {s10:Shared} {H10:Hp} {m':Nat},Inv Y ([] ++ pinsAt fp s7.heap) σ8 H10 s10->m' < n->W (i + 1) m' σ8 H10->∃ m,m < n/\∃ i σ' H',Inv Y [] σ' H' s10/\tn i s10.heap/\(∀ b∈fp,H' b=none)/\W i m σ' H':=fun {s10 H10 m'} I10 hm w10=>by
    refine ⟨m',hm,i + 1,σ8,H10,I10.unpinned,T.keep _ _ _ st7 fun b hb o e=>(I10.pin (b,o) (List.mem_append_right _ (List.mem_append_right _ (mem_pinsAt hb e)))).1,fun b hb=>?_,w10⟩
    obtain ⟨o,e,d⟩:=T.obj _ _ st7 b hb
    exact (I10.pin (b,o) (List.mem_append_right _ (List.mem_append_right _ (mem_pinsAt hb e)))).2.1
   cases ok with
   | false =>
    rw [if_neg (by simp)] at q9 ⊢
    obtain ⟨m',hm,w9⟩:=hNn _ _ q9
    exact again I9 hm w9
   | true =>
    rw [if_pos rfl] at q9 ⊢
    have e9:=heY _ s9 σ8 H9 _ I9 q9
    rw [yp,yw,yA] at e9
    refine wpAny_mono e9 (fun uu s10 hz0=>?_) fun e s' z=>(yx e s' z).elim
    obtain ⟨y,H10,I10,r10,hM⟩:=hz0
    obtain ⟨xs,m',hD10,hz,hm,w10⟩:=hMm _ _ _ hM
    have a10:=mt_append _ s10 σ8 H10 (.ref s2.heap.objs.size) [y] (.ref s2.heap.objs.size) [uu] (fun v Hq=>v=.non/\Hq=upd H10 s2.heap.objs.size (.lst (xs ++ [y]))) I10 rfl (.cons r10 .nil) ⟨_,xs,y,rfl,rfl,hD10,hz,rfl,rfl⟩
    rw [yp,yw,yA] at a10
    refine wpAny_mono a10 (fun _ s11 hz0=>?_) fun e s' z=>(yx e s' z).elim
    obtain ⟨_,H11,I11,_,_,e11⟩:=hz0
    subst e11
    exact again I11 hm w10
 have hY':Y.env={ scope:=relabel scope X.env,locals:=s3.heap.objs.size,globals:=X.env.globals,cells:=closOf scope X.env,qual:=X.env.qual,func:=none,code:=X.env.code,frame:=X.env.frame,builtins:=X.env.builtins }:=by rw [<- hY]; rfl
 rw [hY'] at loop
 exact codeAny_compStart_list (loop _ rfl) (T.self _ 0 _ _ _ st4 (loop _ rfl))
end
def Fr (H0:Hp) (D:Addr) (H:Hp) (ds:List PyData) (vs:List V):Prop:=∀ k,(k=D\/∃ o,H0 k=some o)->TellsAll H k ds vs
end L2
namespace L2
open PySem PySem.Spec PyProof.Rows
section
variable {X:Cx}{pins:List (Addr × Obj)}{σ:St}{H:Hp}{s:Shared}
theorem Inv.turnedL {h':Heap}{t':Nat}{fp:List Addr}(I:Inv X pins σ H s) (hf:∀ b∈fp,FpOk X pins H b) (k:∀ b o,b ∉ fp->s.heap.get? b=some o->h'.get? b=some o):Inv X pins σ H { s with heap:=h',toks:=t' }:=by
 have away:∀ b u,H b=some u->b ∉ fp:=fun b u e z=>by
  rw [(hf b z).1] at e
  cases e
 refine I.step (g':=s.gens) (d':=s.drawn) (ch:=fp) (fun b hb=>⟨(hf b hb).2.2.2.1,(hf b hb).2.1,(hf b hb).2.2.2.2.1,(hf b hb).2.2.2.2.2⟩) (fun b o _ _ hc e _=>k b o hc e)
  (fun b o _ _ hc e _=>⟨o.slots,k b o hc e⟩) (fun _ _ _ _ n=>n) (fun b o hc e=>⟨o,k b o hc e⟩) (fun _ _ e=>e) (fun _ _ _ e=>e) (fun b ps e=>⟨#[],by rw [e]; simp⟩) (fun m hm=>?_) (fun b u e=>?_) I.bare
 ·obtain ⟨o,es,ep,at1,rest⟩:=hm
  exact ⟨o,es,ep,k _ o (fun z=>(hf _ z).2.1 rfl) at1,rest⟩
 ·refine (I.hok b u e).stay (fun c v hc q=>k c v ?_ q) (fun _ q=>q) fun _ _ q=>q
  rcases hc with z | z
  ·rw [z]; exact away b u e
  ·exact away c _ z
theorem Inv.out {h':Heap}{t':Nat}{fp:List Addr}{xs:List V}{us:List Value}(I:Inv X pins σ H s) (hf:∀ b∈fp,FpOk X pins H b) (lt:∀ b∈fp,b < s.heap.objs.size) (r:Vals xs us) (hz:xs.length<=sizeLine)
  (k:∀ b o,b ∉ fp->s.heap.get? b=some o->h'.get? b=some o) (hT:h'.get? s.heap.objs.size=some { cls:=.type "tuple",data:=.seq us.toArray }) :
  H s.heap.objs.size=none/\Inv X pins σ (upd H s.heap.objs.size (.tup xs)) { s with heap:=h',toks:=t' }/\∀ b∈fp,(upd H s.heap.objs.size (.tup xs)) b=none:=by
 have fresh:H s.heap.objs.size=none:=I.hok.fresh (Nat.le_refl _)
 have I1:Inv X pins σ (upd H s.heap.objs.size (.tup xs)) { s with heap:=s.heap.push { cls:=.type "tuple",data:=.seq us.toArray },toks:=s.toks } :=
  I.laid (fun b u e=>Heap.get?_push_of_some _ e) (Nat.le_refl _) ⟨hz,us,r,⟨_,Heap.get?_push_size _ rfl,rfl,rfl,_,rfl⟩⟩
 have hf1:∀ b∈fp,FpOk X pins (upd H s.heap.objs.size (.tup xs)) b:=fun b hb=>⟨by rw [upd_ne (Nat.ne_of_lt (lt b hb))]; exact (hf b hb).1,(hf b hb).2⟩
 refine ⟨fresh,I1.turnedL hf1 fun b o hb e=>?_,fun b hb=>(hf1 b hb).1⟩
 by_cases z:b=s.heap.objs.size
 ·subst z
  have e':some ({ cls:=.type "tuple",data:=.seq us.toArray }:Obj)=some o:=(Heap.get?_push_size s.heap (o:={ cls:=.type "tuple",data:=.seq us.toArray }) rfl).symm.trans e
  rw [hT,e']
 ·refine k b o hb ?_
  have lt2:b < (s.heap.push { cls:=.type "tuple",data:=.seq us.toArray }).objs.size:=Heap.lt_size e
  rw [Heap.size_push] at lt2
  have lt3:b < s.heap.objs.size:=Nat.lt_of_le_of_ne (Nat.le_of_lt_succ lt2) z
  cases q:s.heap.get? b with
  | some o' =>
   have:=Heap.get?_push_of_some ({ cls:=.type "tuple",data:=.seq us.toArray }:Obj) q
   rw [this] at e
   exact e
  | none =>
   exfalso
   have e2:(s.heap.push { cls:=.type "tuple",data:=.seq us.toArray }).get? b=none:=by
    first | exact Heap.get?_push_of_none _ q lt3 | simp [Heap.get?,Heap.push,Array.getElem?_push,Nat.ne_of_lt lt3] at q ⊢; exact q
   rw [e2] at e
   cases e
end
section
variable {prog:Program}{w:World}{A:Around}{E:Value->Shared->Prop}{s:Shared}
theorem nextT_item {J t:Addr}{n:Nat}{vs:Array Value}{y:Value}{Q:Value->Shared->Prop}(a1:s.heap.IsTupleIter J t n) (a2:s.heap.IsTuple t vs) (a3:vs[n]?=some y)
  (q:∀ h',h'.IsTupleIter J t (n + 1)->Heap.SameBut J s.heap h'->Q y { s with heap:=h' }):wpAny (model prog w) A (Builtin.SmallTypes.nextOf (.ref J)) Q E s:=by
 obtain ⟨jo,j1,j2,j3⟩:=id a1
 obtain ⟨to,t1,_,tn,t2⟩:=a2
 unfold Builtin.SmallTypes.nextOf
 refine wpAny_bind (wpAny_callSpecial?_slot (name:=Str.ofString "__next__") a1.typeIs F.slot_tuple_iterator_next (wpAny_call_entry F.slot_tuple_iterator_next a1.typeIs F.entry_tuple_iterator_next ?_ (F.args_tuple_iterator_next_1 _)))
 refine (wpAny_bind (wpAny_field j1 j3 (x:=.ref t) rfl ?_):wpAny _ _ (field (.ref J) 0 >>= _) _ _ s)
 refine (?_:wpAny _ _ (if (Value.ref t == Value.none)=true then _ else _) _ _ s)
 rw [if_neg (by simp)]
 refine (wpAny_bind (wpAny_field j1 j3 (x:=.int n 0) rfl ?_):wpAny _ _ (field (.ref J) 1 >>= _) _ _ s)
 refine (wpAny_bind (wpAny_seqItems t1 t2 ?_):wpAny _ _ (seqItems? (.ref t) >>= _) _ _ s)
 simp only [a3,Int.toNat_natCast]
 exact wpAny_bind (wpAny_setField j1 j3 (by simp) (wpAny_pure ⟨y,rfl,wpAny_pure (q _ ⟨_,Heap.get?_update_self _ j1 (Obj.isFreed_of_fields (Obj.data_mapFields j3 _)),(Obj.cls_mapFields ..).trans j2,by rw [Obj.data_mapFields j3]; simp [rawInt]⟩ (Heap.SameBut.update ..))⟩))
theorem nextT_end {J t:Addr}{n:Nat}{vs:Array Value}{Q:Value->Shared->Prop}(free:A.handled=none) (a1:s.heap.IsTupleIter J t n) (a2:s.heap.IsTuple t vs) (a3:vs[n]?=none)
  (q:∀ h' x,Heap.ExtBut J s.heap h'->(∃ o,h'.get? x=some o/\o.cls=.type "StopIteration")->E (.ref x) { s with heap:=h' }):wpAny (model prog w) A (Builtin.SmallTypes.nextOf (.ref J)) Q E s:=by
 obtain ⟨jo,j1,j2,j3⟩:=id a1
 obtain ⟨to,t1,_,tn,t2⟩:=a2
 unfold Builtin.SmallTypes.nextOf
 refine wpAny_bind (wpAny_callSpecial?_slot (name:=Str.ofString "__next__") a1.typeIs F.slot_tuple_iterator_next (wpAny_call_entry F.slot_tuple_iterator_next a1.typeIs F.entry_tuple_iterator_next ?_ (F.args_tuple_iterator_next_1 _)))
 refine (wpAny_bind (wpAny_field j1 j3 (x:=.ref t) rfl ?_):wpAny _ _ (field (.ref J) 0 >>= _) _ _ s)
 refine (?_:wpAny _ _ (if (Value.ref t == Value.none)=true then _ else _) _ _ s)
 rw [if_neg (by simp)]
 refine (wpAny_bind (wpAny_field j1 j3 (x:=.int n 0) rfl ?_):wpAny _ _ (field (.ref J) 1 >>= _) _ _ s)
 refine (wpAny_bind (wpAny_seqItems t1 t2 ?_):wpAny _ _ (seqItems? (.ref t) >>= _) _ _ s)
 simp only [a3,Int.toNat_natCast]
 refine wpAny_bind (wpAny_rule (wpAny_bind (wpAny_setField j1 j3 (by simp) ?_)))
 refine (wpAny_bind ?_:wpAny _ _ (newExc (.type "StopIteration") [] >>= _) _ _ _)
 simp only [newTuple,newExc]
 refine wpAny_bind (wpAny_newObj_type (wpAny_bind (m:=firstArgMember _ _) (wpAny_of_eq (a:=Value.none) (by first | rfl | (simp only [firstArgMember]; rfl)) (wpAny_newObj_type ?_ (by size_fits)))) (by size_fits))
 simp only [raiseNew]
 refine wpAny_bind (wpAny_handled ?_)
 first | rw [show A.in1.handled=none from free] | rw [free]
 exact wpAny_bind (wpAny_pure (wpAny_throw (q _ _ (((Heap.SameBut.update ..).extBut.push _).push _) ⟨_,Heap.get?_push_size _ rfl,rfl⟩)))
end
section
variable {prog:Program}{w:World}{A:Around}{E:Value->Shared->Prop}{s:Shared}
end
theorem boot_enumE:bootBuiltins "enumerate"=some (.type "enumerate"):=by decide +kernel
end L2
namespace L2
open PySem PySem.Spec PyProof.Rows
section
variable {prog:Program}{w:World}{A:Around}{E:Value->Shared->Prop}{s:Shared}
theorem tIter_ext {h h':Heap}{a b t:Addr}{i:Nat}(x:h.IsTupleIter a t i) (sb:Heap.SameBut b h h') (n:a≠b):h'.IsTupleIter a t i:=x.extBut sb.extBut n
theorem tTup_ext {h h':Heap}{a b:Addr}{vs:Array Value}(x:h.IsTuple a vs) (sb:Heap.SameBut b h h') (n:a≠b):h'.IsTuple a vs:=x.extBut sb.extBut n
theorem zipT_item {z TI TO i1 i2 t1 t2:Addr}{n1 n2:Nat}{xs ys:Array Value}{x y a b:Value}{Q:Value->Shared->Prop}(D:ZipApart z TI TO i1 i2 t1 t2) (c1:IsZip s.heap z TI TO .none) (c2:IsPair s.heap TI (.ref i1) (.ref i2)) (c3:IsPair s.heap TO a b)
  (c4:s.heap.IsTupleIter i1 t1 n1) (c5:s.heap.IsTupleIter i2 t2 n2) (c6:s.heap.IsTuple t1 xs) (c7:s.heap.IsTuple t2 ys) (c8:xs[n1]?=some x) (c9:ys[n2]?=some y)
  (q:∀ h',IsZip h' z TI TO (rawInt s.heap.objs.size)->IsPair h' TO x y->h'.IsTupleIter i1 t1 (n1 + 1)->h'.IsTupleIter i2 t2 (n2 + 1)->IsPair h' s.heap.objs.size x y->(∀ c o,c≠z->c≠TO->c≠i1->c≠i2->s.heap.get? c=some o->h'.get? c=some o)->Q (.ref s.heap.objs.size) { s with heap:=h' }) :
  wpAny (model prog w) A (Builtin.«zip.__next__» ⟨[.ref z],[]⟩) (fun fin s'=>∃ v,fin=.done (.ret v)/\Q v s') E s:=by
 refine (wpAny_bind (wpAny_field c1 rfl (x:=.bool false) rfl ?_):wpAny _ _ (field (.ref z) 2 >>= _) _ _ _)
 refine (wpAny_bind (wpAny_field c1 rfl (x:=.ref TI) rfl ?_):wpAny _ _ (field (.ref z) 3 >>= _) _ _ _); refine wpAny_bind (wpAny_seqItems c2 rfl ?_)
 refine (wpAny_bind ?_:wpAny _ _ (Builtin.SmallTypes.ownedTupleIsFree (.ref z) >>= _) _ _ _)
 unfold Builtin.SmallTypes.ownedTupleIsFree
 refine wpAny_bind (wpAny_field c1 rfl (x:=.none) rfl (wpAny_pure ?_))
 simp only [if_true]
 refine wpAny_bind (wpAny_rule ?_); refine wpAny_bind (wpAny_field c1 rfl (x:=.ref TO) rfl ?_); refine wpAny_bind (wpAny_setField_rec c1 (by simp) fun g1 k1 s1=>?_)
 have k1:IsZip g1 z TI TO .ellipsis:=k1
 refine wpAny_bind ?_
 simp only [List.forIn_cons,List.forIn_nil,List.zipIdx_cons,List.zipIdx_nil]
 refine wpAny_bind (wpAny_bind (wpAny_onRaise ?_))
 show wpAny _ _ (Builtin.SmallTypes.nextOf (.ref i1) >>= _) _ _ _; refine wpAny_bind (nextT_item (tIter_ext c4 s1 D.i1z) (tTup_ext c6 s1 D.l1z) c8 fun g2 k2 s2=>wpAny_pure ?_)
 have o2:IsPair g2 TO a b:=s2.extBut _ _ D.TOi1 (s1.extBut _ _ D.TOz c3)
 refine wpAny_bind (wpAny_seqItems o2 rfl ?_); refine wpAny_bind (wpAny_updateSeq_pair o2 fun g3 o3 s3=>?_); refine wpAny_bind (wpAny_letGo (wpAny_pure ?_))
 have o3:IsPair g3 TO x b:=o3
 refine wpAny_bind (wpAny_bind (wpAny_onRaise ?_))
 show wpAny _ _ (Builtin.SmallTypes.nextOf (.ref i2) >>= _) _ _ _; refine wpAny_bind (nextT_item (tIter_ext (tIter_ext (tIter_ext c5 s1 D.i2z) s2 D.i12.symm) s3 D.TOi2.symm) (tTup_ext (tTup_ext (tTup_ext c7 s1 D.l2z) s2 D.l2i1) s3 D.l2TO) c9 fun g4 k4 s4=>wpAny_pure ?_)
 have o4:IsPair g4 TO x b:=s4.extBut _ _ D.TOi2 o3
 refine wpAny_bind (wpAny_seqItems o4 rfl ?_); refine wpAny_bind (wpAny_updateSeq_pair o4 fun g5 o5 s5=>?_); refine wpAny_bind (wpAny_letGo (wpAny_pure (wpAny_pure ?_)))
 have o5:IsPair g5 TO x y:=o5
 refine wpAny_bind (wpAny_seqItems o5 rfl ?_); refine wpAny_bind (wpAny_newTuple ?_)
 have sz:g5.objs.size=s.heap.objs.size:=by rw [s5.1,s4.1,s3.1,s2.1,s1.1]
 have z5:IsZip g5 z TI TO .ellipsis:=s5.extBut _ _ D.TOz.symm (s4.extBut _ _ D.i2z.symm (s3.extBut _ _ D.TOz.symm (s2.extBut _ _ D.i1z.symm k1)))
 have j1:g5.IsTupleIter i1 t1 (n1 + 1):=tIter_ext (tIter_ext (tIter_ext k2 s3 D.TOi1.symm) s4 D.i12) s5 D.TOi1.symm
 have j2:g5.IsTupleIter i2 t2 (n2 + 1):=tIter_ext k4 s5 D.TOi2.symm
 have zl:z < g5.objs.size:=Heap.lt_size z5
 refine (wpAny_bind ?_:wpAny _ _ (Builtin.SmallTypes.ownedTupleHandOut (.ref z) (.ref g5.objs.size) >>= _) _ _ _)
 unfold Builtin.SmallTypes.ownedTupleHandOut
 refine wpAny_bind (wpAny_setField_rec (Heap.get?_push_of_some _ z5) (by simp) fun g7 z7 s7=>?_)
 have z7:IsZip g7 z TI TO (rawInt g5.objs.size):=z7
 refine wpAny_setField_rec z7 (by simp) fun g8 z8 s8=>wpAny_pure ⟨_,rfl,?_⟩
 have z8:IsZip g8 z TI TO (rawInt g5.objs.size):=z8
 have up:∀ c o,c≠z->g5.get? c=some o->g8.get? c=some o:=fun c o n e=>s8.extBut _ _ n (s7.extBut _ _ n (Heap.get?_push_of_some _ e))
 have T8:IsPair g8 g5.objs.size x y:=s8.extBut _ _ (Nat.ne_of_gt zl) (s7.extBut _ _ (Nat.ne_of_gt zl) (Heap.get?_push_size _ rfl))
 rw [sz] at z8 T8
 refine (?_:Q (.ref g5.objs.size) _)
 rw [sz]
 obtain ⟨v1,v2,v3⟩:=j1
 obtain ⟨w1,w2,w3⟩:=j2
 exact q g8 z8 (up _ _ D.TOz o5) ⟨v1,up _ _ D.i1z v2,v3⟩ ⟨w1,up _ _ D.i2z w2,w3⟩ T8 fun c o n1 n2 n3 n4 e=>up c o n1 (s5.extBut _ _ n2 (s4.extBut _ _ n4 (s3.extBut _ _ n2 (s2.extBut _ _ n3 (s1.extBut _ _ n1 e)))))
theorem zipT_end {z TI TO i1 i2 t1 t2:Addr}{n1 n2:Nat}{xs ys:Array Value}{a b:Value}{Q:Fin->Shared->Prop}(free:A.handled=none) (D:ZipApart z TI TO i1 i2 t1 t2) (c1:IsZip s.heap z TI TO .none) (c2:IsPair s.heap TI (.ref i1) (.ref i2)) (c3:IsPair s.heap TO a b)
  (c4:s.heap.IsTupleIter i1 t1 n1) (c5:s.heap.IsTupleIter i2 t2 n2) (c6:s.heap.IsTuple t1 xs) (c7:s.heap.IsTuple t2 ys) (c8:xs[n1]?=none\/ys[n2]?=none)
  (q:∀ h' x,(∀ c o,c≠z->c≠TO->c≠i1->c≠i2->s.heap.get? c=some o->h'.get? c=some o)->(∃ o,h'.get? x=some o/\o.cls=.type "StopIteration")->E (.ref x) { s with heap:=h' }) :
  wpAny (model prog w) A (Builtin.«zip.__next__» ⟨[.ref z],[]⟩) Q E s:=by
 have stopNe:∀ {g:Heap} {x:Addr} {o:Obj},IsZip g z TI TO .ellipsis->g.get? x=some o->o.cls=.type "StopIteration"->x≠z:=fun {g x o} k1 k2 k3 e=>by
  rw [e,k1] at k2
  cases k2
  exact absurd (show Value.type "zip"=Value.type "StopIteration" from k3) (by decide)
 refine (wpAny_bind (wpAny_field c1 rfl (x:=.bool false) rfl ?_):wpAny _ _ (field (.ref z) 2 >>= _) _ _ _)
 refine (wpAny_bind (wpAny_field c1 rfl (x:=.ref TI) rfl ?_):wpAny _ _ (field (.ref z) 3 >>= _) _ _ _); refine wpAny_bind (wpAny_seqItems c2 rfl ?_)
 refine (wpAny_bind ?_:wpAny _ _ (Builtin.SmallTypes.ownedTupleIsFree (.ref z) >>= _) _ _ _)
 unfold Builtin.SmallTypes.ownedTupleIsFree
 refine wpAny_bind (wpAny_field c1 rfl (x:=.none) rfl (wpAny_pure ?_))
 simp only [if_true]
 refine wpAny_bind (wpAny_rule ?_); refine wpAny_bind (wpAny_field c1 rfl (x:=.ref TO) rfl ?_); refine wpAny_bind (wpAny_setField_rec c1 (by simp) fun g1 k1 s1=>?_)
 have k1:IsZip g1 z TI TO .ellipsis:=k1
 refine wpAny_bind ?_
 simp only [List.forIn_cons,List.forIn_nil,List.zipIdx_cons,List.zipIdx_nil]
 refine wpAny_bind (wpAny_bind (wpAny_onRaise ?_))
 cases hx:xs[n1]? with
 | none =>
  show wpAny _ _ (Builtin.SmallTypes.nextOf (.ref i1) >>= _) _ _ _; refine wpAny_bind (nextT_end free (tIter_ext c4 s1 D.i1z) (tTup_ext c6 s1 D.l1z) hx fun g2 x s2 ⟨o,o1,o2⟩=>?_)
  have z2:IsZip g2 z TI TO .ellipsis:=s2 _ _ D.i1z.symm k1
  exact wpAny_setField_rec z2 (by simp) fun g3 _ s3=>q g3 x (fun c u n1 _ n3 _ e=>s3.extBut _ _ n1 (s2 _ _ n3 (s1.extBut _ _ n1 e))) ⟨o,s3.extBut _ _ (stopNe z2 o1 o2) o1,o2⟩
 | some x1 =>
  have hy:ys[n2]?=none:=by
   rcases c8 with e | e
   ·rw [hx] at e; cases e
   ·exact e
  show wpAny _ _ (Builtin.SmallTypes.nextOf (.ref i1) >>= _) _ _ _; refine wpAny_bind (nextT_item (tIter_ext c4 s1 D.i1z) (tTup_ext c6 s1 D.l1z) hx fun g2 k2 s2=>wpAny_pure ?_)
  have o2:IsPair g2 TO a b:=s2.extBut _ _ D.TOi1 (s1.extBut _ _ D.TOz c3)
  refine wpAny_bind (wpAny_seqItems o2 rfl ?_); refine wpAny_bind (wpAny_updateSeq_pair o2 fun g3 o3 s3=>?_); refine wpAny_bind (wpAny_letGo (wpAny_pure ?_))
  refine wpAny_bind (wpAny_bind (wpAny_onRaise ?_))
  show wpAny _ _ (Builtin.SmallTypes.nextOf (.ref i2) >>= _) _ _ _; refine wpAny_bind (nextT_end free (tIter_ext (tIter_ext (tIter_ext c5 s1 D.i2z) s2 D.i12.symm) s3 D.TOi2.symm) (tTup_ext (tTup_ext (tTup_ext c7 s1 D.l2z) s2 D.l2i1) s3 D.l2TO) hy fun g4 x s4 ⟨o,o1,o2'⟩=>?_)
  have z4:IsZip g4 z TI TO .ellipsis:=s4 _ _ D.i2z.symm (s3.extBut _ _ D.TOz.symm (s2.extBut _ _ D.i1z.symm k1))
  exact wpAny_setField_rec z4 (by simp) fun g5 _ s5=>q g5 x (fun c u n1 n2 n3 n4 e=>s5.extBut _ _ n1 (s4 _ _ n4 (s3.extBut _ _ n2 (s2.extBut _ _ n3 (s1.extBut _ _ n1 e))))) ⟨o,s5.extBut _ _ (stopNe z4 o1 o2') o1,o2'⟩
theorem meets_zipT (t1 t2:Addr) (xs ys:Array Value):Meets (Builtin.«zip.__new__» ⟨[.type "zip",.ref t1,.ref t2],[]⟩) (fun _ R s=>s.heap.IsTuple t1 xs/\s.heap.IsTuple t2 ys/\∀ h1 h2 h3 h4 h5:Heap,
   h1=s.heap.push { cls:=.type "tuple_iterator",data:=.fields #[.ref t1,.int 0 0] }->h2=h1.push { cls:=.type "tuple_iterator",data:=.fields #[.ref t2,.int 0 0] }->h3=h2.push { cls:=.type "tuple",data:=.seq #[.ref s.heap.objs.size,.ref h1.objs.size] } ->
   h4=h3.push { cls:=.type "tuple",data:=.seq #[.none,.none] }->h5=h4.push { cls:=.type "zip",data:=.fields #[.none,.bool false,.bool false,.ref h2.objs.size,.ref h3.objs.size] }->R (.ok (.ret (.ref h4.objs.size))) { s with heap:=h5 }) :=
 .of_wp fun prog w A R s h=>by
  obtain ⟨hp,g,d,tk,os⟩:=s
  obtain ⟨p1,p2,h⟩:=h
  have hsub:=sub_zip
  have q1:Heap.IsTuple (Shared.heap ⟨hp,g,d,tk,os⟩) t1 xs:=p1
  have q2:Heap.IsTuple (Shared.heap ⟨hp.push { cls:=.type "tuple_iterator",data:=.fields #[.ref t1,.int 0 0] },g,d,tk,os⟩) t2 ys:=Heap.IsTuple.push p2 _
  wp_walk using wpAny_pyIter_tuple q1,wpAny_pyIter_tuple q2
  exact ⟨_,rfl,h _ _ _ _ _ rfl rfl rfl rfl rfl⟩
theorem call_zipT {t1 t2:Addr}{xs ys:Array Value}{Q:Value->Shared->Prop}(p1:s.heap.IsTuple t1 xs) (p2:s.heap.IsTuple t2 ys)
  (q:∀ h',IsZip h' (s.heap.objs.size + 4) (s.heap.objs.size + 2) (s.heap.objs.size + 3) .none->IsPair h' (s.heap.objs.size + 2) (.ref s.heap.objs.size) (.ref (s.heap.objs.size + 1))->IsPair h' (s.heap.objs.size + 3) .none .none ->
   h'.IsTupleIter s.heap.objs.size t1 0->h'.IsTupleIter (s.heap.objs.size + 1) t2 0->(∀ c o,s.heap.get? c=some o->h'.get? c=some o)->Q (.ref (s.heap.objs.size + 4)) { s with heap:=h' }) :
  wpAny (model prog w) A (call (.type "zip") [.ref t1,.ref t2]) Q E s:=by
 refine callType_new F.called_zip (by decide) (F.typeCall_zip_2 _ _) (F.newCall_zip_2 _ _) (fun obj=>F.args_object_init_3 obj _ _) F.entry_zip_new (meets_zipT t1 t2 xs ys) ⟨p1,p2,fun h1 h2 h3 h4 h5 e1 e2 e3 e4 e5=>?_⟩
 have m1:h1.objs.size=s.heap.objs.size + 1:=by rw [e1]; exact Heap.size_push ..
 have m2:h2.objs.size=s.heap.objs.size + 2:=by rw [e2,Heap.size_push,m1]
 have m3:h3.objs.size=s.heap.objs.size + 3:=by rw [e3,Heap.size_push,m2]
 have m4:h4.objs.size=s.heap.objs.size + 4:=by rw [e4,Heap.size_push,m3]
 have u5:∀ c o,h4.get? c=some o->h5.get? c=some o:=fun c o e=>by rw [e5]; exact Heap.get?_push_of_some _ e
 have u4:∀ c o,h3.get? c=some o->h4.get? c=some o:=fun c o e=>by rw [e4]; exact Heap.get?_push_of_some _ e
 have u3:∀ c o,h2.get? c=some o->h3.get? c=some o:=fun c o e=>by rw [e3]; exact Heap.get?_push_of_some _ e
 have u2:∀ c o,h1.get? c=some o->h2.get? c=some o:=fun c o e=>by rw [e2]; exact Heap.get?_push_of_some _ e
 have u1:∀ c o,s.heap.get? c=some o->h1.get? c=some o:=fun c o e=>by rw [e1]; exact Heap.get?_push_of_some _ e
 have f5:IsZip h5 (s.heap.objs.size + 4) (s.heap.objs.size + 2) (s.heap.objs.size + 3) .none:=by
  rw [<- m4,<- m3,<- m2,e5]; exact Heap.get?_push_size _ rfl
 have f4:IsPair h4 (s.heap.objs.size + 3) .none .none:=by rw [<- m3,e4]; exact Heap.get?_push_size _ rfl
 have f3:IsPair h3 (s.heap.objs.size + 2) (.ref s.heap.objs.size) (.ref (s.heap.objs.size + 1)):=by rw [<- m2,<- m1,e3]; exact Heap.get?_push_size _ rfl
 have f2:h2.IsTupleIter (s.heap.objs.size + 1) t2 0:=⟨_,by rw [<- m1,e2]; exact Heap.get?_push_size _ rfl,rfl,rfl⟩
 have f1:h1.IsTupleIter s.heap.objs.size t1 0:=⟨_,by rw [e1]; exact Heap.get?_push_size _ rfl,rfl,rfl⟩
 rw [m4]
 obtain ⟨v1,v2,v3⟩:=f1
 obtain ⟨w1,w2,w3⟩:=f2
 exact ⟨⟨_,f5,rfl⟩,q h5 f5 (u5 _ _ (u4 _ _ f3)) (u5 _ _ f4) ⟨v1,u5 _ _ (u4 _ _ (u3 _ _ (u2 _ _ v2))),v3⟩ ⟨w1,u5 _ _ (u4 _ _ (u3 _ _ w2)),w3⟩ fun c o e=>u5 _ _ (u4 _ _ (u3 _ _ (u2 _ _ (u1 _ _ e))))⟩
end
def Itz (K:PySem.W.Frag) (a b:Addr):It:=⟨fun i H=>∃ xs ys x y,SqT K H a xs/\SqT K H b ys/\xs[i]?=some x/\ys[i]?=some y,
 fun i H v H'=>∃ T x y,H T=none/\v=.ref T/\H'=upd H T (.tup [x,y])/\(∀ xs,SqT K H a xs->xs[i]?=some x)/\∀ ys,SqT K H b ys->ys[i]?=some y,fun i H=>∃ xs ys,SqT K H a xs/\SqT K H b ys/\(xs.length<=i\/ys.length<=i)⟩
def ZipAt (z TI TO i1 i2 a b:Addr) (i:Nat) (h:Heap):Prop:=IsZip h z TI TO .none/\IsPair h TI (.ref i1) (.ref i2)/\(∃ x y,IsPair h TO x y)/\h.IsTupleIter i1 a i/\h.IsTupleIter i2 b i
theorem turn_zipT {P:Program}{w:World}{K:PySem.W.Frag}{elts:List Expr}{kk:Nat}{tp:Pos}(z TI TO i1 i2 a b:Addr) (D:ZipApart z TI TO i1 i2 a b):Turn P w K (.Tuple elts kk tp) (Itz K a b) [z,TI,TO,i1,i2] z (ZipAt z TI TO i1 i2 a b) where
 mem:=by simp
 obj:=fun i h st c hc=>by
  obtain ⟨z1,z2,⟨x,y,z3⟩,⟨o,o1,o2,o3⟩,⟨u,u1,u2,u3⟩⟩:=st
  simp only [List.mem_cons,List.not_mem_nil,or_false] at hc
  rcases hc with rfl | rfl | rfl | rfl | rfl
  ·exact ⟨_,z1,fun v e=>by cases (show Data.fields _=Data.cell v from e)⟩
  ·exact ⟨_,z2,fun v e=>by cases (show Data.seq _ _=Data.cell v from e)⟩
  ·exact ⟨_,z3,fun v e=>by cases (show Data.seq _ _=Data.cell v from e)⟩
  ·exact ⟨o,o1,fun v e=>by rw [o3] at e; cases e⟩
  ·exact ⟨u,u1,fun v e=>by rw [u3] at e; cases e⟩
 keep:=fun i h h' st kp=>by
  obtain ⟨z1,z2,⟨x,y,z3⟩,⟨o,o1,o2⟩,⟨u,u1,u2⟩⟩:=st
  exact ⟨kp z (by simp) _ z1,kp TI (by simp) _ z2,⟨x,y,kp TO (by simp) _ z3⟩,⟨o,kp i1 (by simp) o o1,o2⟩,⟨u,kp i2 (by simp) u u1,u2⟩⟩
 item:=by
  intro X hP hw hK hc i pins s σ H E I hf st hg
  subst hP hw hK
  obtain ⟨xs,ys,x,y,hq1,hq2,hx,hy⟩:=hg
  obtain ⟨its1,rv1,p1,_⟩:=I.tuple hq1
  obtain ⟨its2,rv2,p2,_⟩:=I.tuple hq2
  obtain ⟨u1,hu1,ru1⟩:=rv1.get hx
  obtain ⟨u2,hu2,ru2⟩:=rv2.get hy
  obtain ⟨z1,z2,⟨oa,ob,z3⟩,j1,j2⟩:=st
  have isZ:s.TypeIs (.ref z) "zip":=⟨_,z1,rfl⟩
  have lt:∀ c∈[z,TI,TO,i1,i2],c < s.heap.objs.size:=fun c hc=>by
   obtain ⟨_,w1,_⟩:=id j1
   obtain ⟨_,w2,_⟩:=id j2
   simp only [List.mem_cons,List.not_mem_nil,or_false] at hc
   rcases hc with rfl | rfl | rfl | rfl | rfl
   ·exact Heap.lt_size z1
   ·exact Heap.lt_size z2
   ·exact Heap.lt_size z3
   ·exact Heap.lt_size w1
   ·exact Heap.lt_size w2
  unfold pyNext
  refine wpAny_bind (wpAny_attempt (wpAny_callSpecial?_slot (name:=Str.ofString "__next__") isZ F.slot_zip_next (wpAny_call_entry F.slot_zip_next isZ F.entry_zip_next
   (zipT_item D z1 z2 z3 j1 j2 (show s.heap.IsTuple a its1.toArray from p1) (show s.heap.IsTuple b its2.toArray from p2) (x:=u1) (y:=u2) (by simpa using hu1) (by simpa using hu2) fun h' a1 a2 a3 a4 a5 a7=>wpAny_pure ?_) (F.args_zip_next_1 _))))
  refine ⟨_,rfl,wpAny_letOwnedTupleGo_zip a1 fun h2 b1 sb2=>?_⟩
  have nT:s.heap.objs.size≠z:=Nat.ne_of_gt (lt z (by simp))
  have go2:∀ c o,c≠z->h'.get? c=some o->h2.get? c=some o:=fun c o n e=>(sb2.2 c n).trans e
  obtain ⟨f1,f2,f3⟩:=I.out (h':=h2) (t':=s.toks) (xs:=[x,y]) (us:=[u1,u2]) hf lt (.cons ru1 (.cons ru2 .nil)) (by show 2<=sizeLine; decide)
   (fun c o hc q=>go2 c o (fun e=>hc (by simp [e])) (a7 c o (fun e=>hc (by simp [e])) (fun e=>hc (by simp [e])) (fun e=>hc (by simp [e])) (fun e=>hc (by simp [e])) q)) (go2 _ _ nT a5)
  obtain ⟨v1,v2,v3⟩:=a3
  obtain ⟨w1,w2,w3⟩:=a4
  exact ⟨.ref s.heap.objs.size,_,f2,rfl,⟨_,x,y,f1,rfl,rfl,fun zs hzs=>by rw [I.tuple_inj hzs hq1]; exact hx,fun zs hzs=>by rw [I.tuple_inj hzs hq2]; exact hy⟩,
   ⟨b1,go2 _ _ D.TIz (a7 _ _ D.TIz D.TITO D.TIi1 D.TIi2 z2),⟨_,_,go2 _ _ D.TOz a2⟩,⟨v1,go2 _ _ D.i1z v2,v3⟩,⟨w1,go2 _ _ D.i2z w2,w3⟩⟩,f3⟩
 done:=by
  intro X hP hw hK hc i pins s σ H E I hf st hg
  subst hP hw hK
  obtain ⟨xs,ys,hq1,hq2,hxy⟩:=hg
  obtain ⟨its1,rv1,p1,_⟩:=I.tuple hq1
  obtain ⟨its2,rv2,p2,_⟩:=I.tuple hq2
  obtain ⟨z1,z2,⟨oa,ob,z3⟩,j1,j2⟩:=st
  have isZ:s.TypeIs (.ref z) "zip":=⟨_,z1,rfl⟩
  have l1:=rv1.length
  have l2:=rv2.length
  have ends:its1.toArray[i]?=none\/its2.toArray[i]?=none:=by
   rcases hxy with e | e
   ·left; simp; omega
   ·right; simp; omega
  unfold pyNext
  refine wpAny_bind (wpAny_attempt (wpAny_callSpecial?_slot (name:=Str.ofString "__next__") isZ F.slot_zip_next (wpAny_call_entry F.slot_zip_next isZ F.entry_zip_next
   (zipT_end (I.ok.hd hc) D z1 z2 z3 j1 j2 (show s.heap.IsTuple a its1.toArray from p1) (show s.heap.IsTuple b its2.toArray from p2) ends fun h' x kp ⟨o,o1,o2⟩=>?_) (F.args_zip_next_1 _))))
  refine wpAny_bind (wpAny_isInstance (T:="StopIteration") (b:=true) ⟨o,o1,o2⟩ isSubtype_stop (wpAny_pure ⟨rfl,?_⟩))
  exact I.turnedL (t':=s.toks) hf fun c o hc q=>kp c o (fun e=>hc (by simp [e])) (fun e=>hc (by simp [e])) (fun e=>hc (by simp [e])) (fun e=>hc (by simp [e])) q
 self:=fun _ _ _ _ _ st q=>wpAny_pyIter_zip st.1 q
theorem boot_zipE:bootBuiltins "zip"=some (.type "zip"):=by decide +kernel
theorem lc_pairs {J:It}{n:Nat}{u v:Nat->V}{g:TG}{tc:TT}{te:TE}{σ0:St}{H1:Hp}{Q:VK}{D:Addr}(Iv:Nat->List V->St->Hp->Prop) (hD:H1 D=none) (hn:n<=1000)
  (h0:Iv 0 [] σ0 (upd H1 D (.lst [])))
  (hj:∀ i ys σ H,i<=n->H D=some (.lst ys)->Iv i ys σ H->(i=n->J.stop i H)/\(i < n->J.go i H/\∀ x H',J.yld i H x H'->∃ T,H T=none/\x=.ref T/\H'=upd H T (.tup [u i,v i])))
  (hs:∀ i ys σ H T,i < n->H D=some (.lst ys)->Iv i ys σ H->H T=none->g (.ref T) σ (upd H T (.tup [u i,v i])) fun σ2 H3=>tc σ2 H3 fun b H4 =>
   if b=true then te σ2 H4 fun y H5=>H5 D=some (.lst ys)/\Iv (i + 1) (ys ++ [y]) σ2 (upd H5 D (.lst (ys ++ [y]))) else H4 D=some (.lst ys)/\Iv (i + 1) ys σ2 H4)
  (hd:∀ ys σ H,H D=some (.lst ys)->Iv n ys σ H->Q (.ref D) H):LCok J g tc te σ0 H1 Q D:=by
 refine ⟨fun i m σ H=>m=n - i/\i<=n/\∃ ys,H D=some (.lst ys)/\ys.length<=i/\Iv i ys σ H,⟨n,rfl,Nat.zero_le _,[],upd_same,Nat.le_refl _,h0⟩,?_⟩
 rintro i m σ H ⟨rfl,hi,ys,hy,hl,iv⟩
 obtain ⟨j1,j2⟩:=hj i ys σ H hi hy iv
 rcases Nat.lt_or_ge i n with lt | ge
 ·obtain ⟨go,yl⟩:=j2 lt
  refine .inr ⟨go,fun σ2 H4=>H4 D=some (.lst ys)/\Iv (i + 1) ys σ2 H4,fun y σ2 H5=>H5 D=some (.lst ys)/\Iv (i + 1) (ys ++ [y]) σ2 (upd H5 D (.lst (ys ++ [y]))),fun σ2 H4 q=>?_,fun y σ2 H5 q=>?_,fun x H2 q=>?_⟩
  ·exact ⟨n - (i + 1),by omega,rfl,lt,ys,q.1,by omega,q.2⟩
  ·exact ⟨ys,n - (i + 1),q.1,small1000 (by omega),by omega,rfl,lt,ys ++ [y],upd_same,by rw [List.length_append,List.length_singleton]; omega,q.2⟩
  ·obtain ⟨T,f1,rfl,rfl⟩:=yl x H2 q
   exact hs i ys σ H T lt hy iv f1
 ·have e:i=n:=by omega
  subst e
  exact .inl ⟨j1 rfl,hd ys σ H hy iv⟩
end L2
namespace L2
open PySem PySem.Spec PyProof.Rows
section
variable {X:Cx}{tg:Expr}
theorem call_any (hc:X.calm=true):CallR X (.builtin "any") (fun xs H Q=>∃ (p:Addr) (bs:List Bool),xs=[.ref p]/\SqL X.K H p (bs.map V.bl)/\Q (.bl (bs.any id)) H):=by
 intro pins s σ H xs us Q I r h
 obtain ⟨p,bs,rfl,hq,q⟩:=h
 obtain ⟨u,rfl,rx⟩:=vals1 r
 cases (show u=Value.ref p from rx)
 obtain ⟨its,rv,pl,hz⟩:=I.list hq
 have hlt:p < s.heap.objs.size:=by obtain ⟨o,e,_⟩:=pl.isList; exact Heap.lt_size e
 refine call_any_walk (wpAny_pyIter_list pl.isList ?_)
 refine ⟨s.heap.objs.size,_,_,its.toArray.size,_,_,fun i=>bs.getD i false,rfl,Walks.list (prog:=X.prog) (w:=X.w) (A:=X.A.in1) (I.ok.hd hc) s.heap.objs.size p (Nat.ne_of_lt hlt) its.toArray,⟨⟨_,Heap.get?_push_size _ rfl,rfl,rfl⟩,pl.isList.at fun o e=>Heap.get?_push_of_some _ e⟩,?_,fun h' tk hk=>?_⟩
 ·intro i v s' Q' E' hP hQ
  have hP':its[i]?=some v:=by simpa using hP
  have hl:=rv.length
  rw [List.length_map] at hl
  have hi:i < its.length:=(List.getElem?_eq_some_iff.mp hP').1
  obtain ⟨u,hu,ru⟩:=rv.get (i:=i) (x:=V.bl (bs.getD i false)) (by rw [List.getElem?_map,List.getElem?_eq_getElem (by omega)]; simp [List.getD,List.getElem?_eq_getElem (show i < bs.length by omega)])
  rw [hP'] at hu; cases hu
  cases (show v=Value.bool _ from ru)
  exact wpAny_truthy_bool hQ
 ·refine ⟨.bl _,H,I.kept fun b o e=>hk b o (by simpa using Nat.ne_of_lt (Heap.lt_size e)) (Heap.get?_push_of_some _ e),rfl,?_⟩
  have hl:=rv.length
  rw [List.length_map] at hl
  have e:(List.range its.toArray.size).any (fun i=>bs.getD i false)=bs.any id:=by
   rw [List.size_toArray,<- hl]
   have:(List.range bs.length).map (fun i=>bs.getD i false)=bs:=by
    apply List.ext_getElem
    ·simp
    ·intro i h1 h2; simp [List.getD,List.getElem?_eq_getElem h2]
   conv=>rhs; rw [<- this]
   rw [List.any_map]; rfl
  rw [e]; exact q
end
theorem lc_pairsM {J:It}{n:Nat}{u v:Nat->V}{g:TG}{te:TE}{σ0:St}{H1:Hp}{Q:VK}{D:Addr}(Iv:Nat->List V->St->Hp->Prop) (hD:H1 D=none) (hn:n<=1000)
  (h0:Iv 0 [] σ0 (upd H1 D (.lst [])))
  (hj:∀ i ys σ H,i<=n->H D=some (.lst ys)->Iv i ys σ H->(i=n->J.stop i H)/\(i < n->J.go i H/\∀ x H',J.yld i H x H'->∃ T,H T=none/\x=.ref T/\H'=upd H T (.tup [u i,v i])))
  (hs:∀ i ys σ H T,i < n->H D=some (.lst ys)->Iv i ys σ H->H T=none->g (.ref T) σ (upd H T (.tup [u i,v i])) fun σ2 H3=>te σ2 H3 fun y H5=>H5 D=some (.lst ys)/\Iv (i + 1) (ys ++ [y]) σ2 (upd H5 D (.lst (ys ++ [y]))))
  (hd:∀ ys σ H,H D=some (.lst ys)->Iv n ys σ H->Q (.ref D) H):LCok J g tYes te σ0 H1 Q D :=
 lc_pairs Iv hD hn h0 hj (fun i ys σ H T h1 h2 h3 h4=>hs i ys σ H T h1 h2 h3 h4) hd
end L2
namespace L2
open PySem PySem.Spec PyProof.Rows
theorem strs_vals:∀ {ss:List Str}{us:List Value},Vals (ss.map V.str) us->StrsAre us ss
 | [],_,r=>by cases r; exact .nil
 | x :: ss,_,r=>by
  cases r with
  | cons r1 r2 =>
   obtain ⟨t,rfl⟩:=r1
   exact .cons x t (strs_vals r2)
theorem vals_strs:∀ {us:List Value}{ss:List Str},StrsAre us ss->Vals (ss.map V.str) us
 | _,_,.nil=>.nil
 | _,_,.cons x t h=>.cons ⟨t,rfl⟩ (vals_strs h)
section
variable {X:Cx}
theorem call_sortedS:CallR X (.builtin "sorted") (fun xs H Q=>∃ (p:Addr) (ss:List Str),xs=[.ref p]/\SqL X.K H p (ss.map V.str)/\ss.length < 64/\∀ (l:Addr) (ss':List Str),H l=none->ss'.Perm ss->sortedS ss'=true->Q (.ref l) (upd H l (.lst (ss'.map V.str)))):=by
 intro pins s σ H xs us Q I r h
 obtain ⟨p,ss,rfl,hq,h64,q⟩:=h
 obtain ⟨u,rfl,rx⟩:=vals1 r
 cases (show u=Value.ref p from rx)
 obtain ⟨its,rv,pl,hz⟩:=I.list hq
 have hl:=rv.length
 rw [List.length_map] at hl
 refine sorted_strs pl.isList (strs_vals rv) (by omega) fun out ss' a1 a2 a3=>?_
 obtain ⟨e,he⟩:=sortedAll_at s.heap its out
 have fresh:H (s.heap.objs.size + 1)=none:=I.hok.fresh (Nat.le_succ _)
 have hl2:=a2.length_eq
 refine ⟨.ref (s.heap.objs.size + 1),upd H (s.heap.objs.size + 1) (.lst (ss'.map V.str)),I.laid (t':=s.toks) (fun b o eb=>sortedAll_old eb) (Nat.le_succ _) ⟨?_,out.toList,e,vals_strs a1,?_⟩,rfl,q _ ss' fresh a2 a3⟩
 ·rw [List.length_map]; exact Nat.le_of_lt (small1000 (by omega))
 ·rw [he]
end
end L2
namespace HT
open PySem PyProof.Rows
section
variable {prog:Program}{w:World}{A:Around}{E:Value->Shared->Prop}{s:Shared}
end
end HT
namespace L2
open PySem PySem.Spec PyProof.Rows
section
variable {X:Cx}
end
end L2
namespace HT
open PySem PyProof.Rows
section
variable {prog:Program}{w:World}{A:Around}{E:Value->Shared->Prop}{s:Shared}
end
end HT
namespace L2
open PySem PySem.Spec PyProof.Rows
section
variable {X:Cx}
end
end L2
namespace L2
open PySem PySem.Spec PyProof.Rows
section
variable {prog:Program}{w:World}{A:Around}{E:Value->Shared->Prop}{s:Shared}
end
section
variable {X:Cx}
end
end L2
namespace L2
open PySem PySem.Spec PyProof.Rows
section
variable {κ:Type} [DecidableEq κ]
def valV (kvs:List (κ × V)) (k:κ):Option V:=(kvs.find? fun kv=>decide (kv.1=k)).map (·.2)
def putK (kvs:List (κ × V)) (k:κ) (v:V):List (κ × V) :=
 if (kvs.any fun kv=>decide (kv.1=k))=true then kvs.map (fun kv=>if kv.1=k then (kv.1,v) else kv) else kvs ++ [(k,v)]
theorem valV_pos {p:κ × V}{r:List (κ × V)}{k:κ}(e:p.1=k):valV (p :: r) k=some p.2:=by simp [valV,List.find?_cons,e]
theorem valV_neg {p:κ × V}{r:List (κ × V)}{k:κ}(e:¬ p.1=k):valV (p :: r) k=valV r k:=by simp [valV,List.find?_cons,e]
theorem valV_any (k:κ):∀ kvs:List (κ × V),(kvs.any fun kv=>decide (kv.1=k))=(valV kvs k).isSome
 | []=>rfl
 | p :: r=>by
  rw [List.any_cons]
  by_cases e:p.1=k
  ·simp only [valV_pos e,decide_eq_true e,Bool.true_or,Option.isSome_some]
  ·rw [valV_neg e,decide_eq_false e,Bool.false_or]; exact valV_any k r
theorem length_putK (kvs:List (κ × V)) (k:κ) (v:V):(putK kvs k v).length<=kvs.length + 1:=by
 unfold putK
 split
 ·rw [List.length_map]; omega
 ·rw [List.length_append,List.length_cons,List.length_nil]; omega
theorem RelO.isSome_eq {o:Option V}{u:Option Value}(r:RelO o u):o.isSome=u.isSome:=by
 cases o with
 | none=>cases u with
  | none=>rfl
  | some _=>exact (show False from r).elim
 | some _=>cases u with
  | none=>exact (show False from r).elim
  | some _=>rfl
theorem KV.val {kvs:List (κ × V)}{vs:List (κ × Value)}(r:KV kvs vs) (k:κ):RelO (valV kvs k) (valueAt vs k):=by
 unfold KV at r
 induction r with
 | nil=>exact True.intro
 | @cons p q ps qs h t ih =>
  obtain ⟨h1,h2⟩:=h
  by_cases e:p.1=k
  ·have e':q.1=k:=h1.symm.trans e
   have b:valueAt (q :: qs) k=some q.2:=by simp [valueAt,List.find?_cons,e']
   rw [valV_pos e,b]; exact h2
  ·have e':¬ q.1=k:=fun z=>e (h1.trans z)
   have b:valueAt (q :: qs) k=valueAt qs k:=by simp [valueAt,List.find?_cons,e']
   rw [valV_neg e,b]; exact ih
theorem KV.any {kvs:List (κ × V)}{vs:List (κ × Value)}(r:KV kvs vs) (k:κ):(kvs.any fun kv=>decide (kv.1=k))=vs.any fun kv=>decide (kv.1=k):=by
 unfold KV at r
 induction r with
 | nil=>rfl
 | cons h t ih=>rw [List.any_cons,List.any_cons,ih,h.1]
theorem KV.repl {kvs:List (κ × V)}{vs:List (κ × Value)}(r:KV kvs vs) (k:κ) {y:V}{u:Value}(ry:RelV y u) :
  KV (kvs.map fun kv=>if kv.1=k then (kv.1,y) else kv) (vs.map fun kv=>if kv.1=k then (kv.1,u) else kv):=by
 unfold KV at r ⊢
 induction r with
 | nil=>exact .nil
 | @cons p q ps qs h t ih =>
  rw [List.map_cons,List.map_cons]
  refine .cons ?_ ih
  obtain ⟨h1,h2⟩:=h
  by_cases e:p.1=k
  ·rw [if_pos e,if_pos (h1.symm.trans e)]; exact ⟨h1,ry⟩
  ·rw [if_neg e,if_neg (fun z=>e (h1.trans z))]; exact ⟨h1,h2⟩
theorem KV.put {kvs:List (κ × V)}{vs:List (κ × Value)}(r:KV kvs vs) (k:κ) {y:V}{u:Value}(ry:RelV y u):KV (putK kvs k y) (stored vs k u):=by
 unfold putK stored
 rw [r.any k]
 by_cases e:(vs.any fun kv=>decide (kv.1=k))=true
 ·rw [if_pos e,if_pos e]; exact r.repl k ry
 ·rw [if_neg e,if_neg e]; exact Paired.snoc r ⟨rfl,ry⟩
theorem KV.length {kvs:List (κ × V)}{vs:List (κ × Value)}(r:KV kvs vs):kvs.length=vs.length:=Paired.length r
end
theorem kV_is {P:Program}{w:World}{k:Key}{u:Value}(r:RelV (kV k) u):(mixKind P w).is k u=true:=by
 cases k with
 | inl i=>obtain rfl:=(show u=Value.bool i from r); exact mixKind_bool P w i
 | inr x=>obtain ⟨t,e⟩:=(show ∃ t,u=Value.str x t from r); subst e; exact mixKind_str P w x t
theorem items_are {P:Program}{w:World}:∀ {ks:List Key}{us:List Value},Vals (ks.map kV) us->ItemsAre (mixKind P w) ks us
 | [],_,r=>by rw [List.map_nil] at r; cases r; exact .nil
 | k :: ks,_,r=>by
  rw [List.map_cons] at r
  cases r with
  | cons h t=>exact .cons (kV_is h) (items_are t)
abbrev KT (H:Hp):List (List Key × V)->List (List Key × Addr × Value)->Prop:=Paired fun p q=>p.1=q.1/\H q.2.1=some (.tup (p.1.map kV))/\RelV p.2 q.2.2
theorem KT.val {H:Hp}{kvs:List (List Key × V)}{xs:List (List Key × Addr × Value)}(r:KT H kvs xs) (k:List Key):RelO (valV kvs k) ((atKey xs k).map (·.2)):=by
 induction r with
 | nil=>exact True.intro
 | @cons p q ps qs h t ih =>
  obtain ⟨h1,_,h2⟩:=h
  by_cases e:p.1=k
  ·have e':q.1=k:=h1.symm.trans e
   have b:atKey (q :: qs) k=some q.2:=by simp [atKey,List.find?_cons,e']
   rw [valV_pos e,b]; exact h2
  ·have e':¬ q.1=k:=fun z=>e (h1.trans z)
   have b:atKey (q :: qs) k=atKey qs k:=by simp [atKey,List.find?_cons,e']
   rw [valV_neg e,b]; exact ih
theorem KT.repl {H:Hp}{kvs:List (List Key × V)}{xs:List (List Key × Addr × Value)}(r:KT H kvs xs) (k:List Key) {y:V}{u:Value}(ry:RelV y u) :
  KT H (kvs.map fun kv=>if kv.1=k then (kv.1,y) else kv) (xs.map (putAt k u)):=by
 induction r with
 | nil=>exact .nil
 | @cons p q ps qs h t ih =>
  rw [List.map_cons,List.map_cons]
  refine .cons ?_ ih
  obtain ⟨h1,h2,h3⟩:=h
  unfold putAt
  by_cases e:p.1=k
  ·rw [if_pos e,if_pos (h1.symm.trans e)]; exact ⟨h1,h2,ry⟩
  ·rw [if_neg e,if_neg (fun z=>e (h1.trans z))]; exact ⟨h1,h2,h3⟩
theorem KT.put {H:Hp}{kvs:List (List Key × V)}{xs:List (List Key × Addr × Value)}(r:KT H kvs xs) (k:List Key) {b:Addr}{y:V}{u:Value}(hb:H b=some (.tup (k.map kV))) (ry:RelV y u) :
  KT H (putK kvs k y) (storedH xs k b u):=by
 have e:(kvs.any fun kv=>decide (kv.1=k))=(atKey xs k).isSome:=by
  rw [valV_any,(r.val k).isSome_eq,Option.isSome_map]
 unfold putK storedH
 rw [e]
 by_cases q:(atKey xs k).isSome=true
 ·rw [if_pos q,if_pos q]; exact r.repl k ry
 ·rw [if_neg q,if_neg q]; exact Paired.snoc r ⟨rfl,hb,ry⟩
theorem KT.keeps {H H':Hp}{kvs:List (List Key × V)}{xs:List (List Key × Addr × Value)}(r:KT H kvs xs) (ht:∀ b ys,H b=some (.tup ys)->H' b=some (.tup ys)):KT H' kvs xs :=
 Paired.mapP r fun _ _ z=>⟨z.1,ht _ _ z.2.1,z.2.2⟩
section
variable {P:Program}{w:World}{H:Hp}{h:Heap}{a:Addr}
theorem rd_of {u:HO}(ok:HOk P w H h) (e:Rd H a u):ObjOk P w H h a u:=e.ok ok
theorem dk_rd {kvs:List (Key × V)}(ok:HOk P w H h) (e:Rd H a (.dK kvs)):kvs.length<=sizeLine/\(a == sysModules)=false/\∃ vs,KV kvs vs/\h.DictOf (mixKind P w) a vs :=
 show ObjOk P w H h a (.dK kvs) from rd_of ok e
theorem dk_of {kvs:List (Key × V)}(ok:HOk P w H h) (e:H a=some (.dK kvs)):kvs.length<=sizeLine/\(a == sysModules)=false/\∃ vs,KV kvs vs/\h.DictOf (mixKind P w) a vs:=dk_rd ok (.inl e)
theorem key_of {ks:List Key}(ok:HOk P w H h) (e:H a=some (.tup (ks.map kV))):(tupleKind (mixKind P w)).is h ks a:=by
 obtain ⟨_,its,r,o,h1,h2,_,n,h3⟩:=(show ObjOk P w H h a (.tup (ks.map kV)) from ok a _ e)
 exact ⟨o,its.toArray,n,h1,h2,h3,by simpa using items_are r⟩
theorem dt_rd {kvs:List (List Key × V)}(ok:HOk P w H h) (e:Rd H a (.dT kvs)):kvs.length<=sizeLine/\(a == sysModules)=false /\
  ∃ xs,KT H kvs xs/\h.DictOfH (tupleKind (mixKind P w)) a xs:=by
 obtain ⟨z,y,xs,r,o,es,ep,h1,h2,h3,h4,h5⟩:=(show ObjOk P w H h a (.dT kvs) from rd_of ok e)
 refine ⟨z,y,xs,r,o,es,ep,h1,h2,h3,h4,fun x hx=>?_,h5⟩
 have all:∀ {l:List (List Key × V)} {m:List (List Key × Addr × Value)},KT H l m->∀ x∈m,(tupleKind (mixKind P w)).is h x.1 x.2.1:=by
  intro l m q
  induction q with
  | nil=>intro x hx; exact nomatch hx
  | @cons p q ps qs hq t ih =>
   intro x hx
   rcases List.mem_cons.mp hx with e | hx
   ·subst e
    exact key_of ok (by rw [<- hq.1]; exact hq.2.1)
   ·exact ih x hx
 exact all r x hx
theorem dt_of {kvs:List (List Key × V)}(ok:HOk P w H h) (e:H a=some (.dT kvs)):kvs.length<=sizeLine/\(a == sysModules)=false /\
  ∃ xs,KT H kvs xs/\h.DictOfH (tupleKind (mixKind P w)) a xs:=dt_rd ok (.inl e)
end
def DGet (H:Hp) (a:Addr) (y:V) (r:Option V):Prop :=
 (∃ kvs k,Rd H a (.dK kvs)/\y=kV k/\r=valV kvs k)\/∃ kvs k b,Rd H a (.dT kvs)/\y=.ref b/\H b=some (.tup (k.map kV))/\r=valV kvs k
def DPut (H:Hp) (a:Addr) (y v:V) (H':Hp):Prop :=
 (∃ kvs k,H a=some (.dK kvs)/\y=kV k/\kvs.length < sizeLine/\H'=upd H a (.dK (putK kvs k v))) \/
 ∃ kvs k b,H a=some (.dT kvs)/\y=.ref b/\H b=some (.tup (k.map kV))/\kvs.length < sizeLine/\H'=upd H a (.dT (putK kvs k v))
theorem DGet.t {H:Hp}{a b:Addr}{kvs:List (List Key × V)}{k:List Key}(e:H a=some (.dT kvs)) (eb:H b=some (.tup (k.map kV))):DGet H a (.ref b) (valV kvs k):=.inr ⟨kvs,k,b,.inl e,rfl,eb,rfl⟩
theorem DPut.k {H:Hp}{a:Addr}{kvs:List (Key × V)}{k:Key}{v:V}(e:H a=some (.dK kvs)) (hl:kvs.length < sizeLine):DPut H a (kV k) v (upd H a (.dK (putK kvs k v))):=.inl ⟨kvs,k,e,rfl,hl,rfl⟩
theorem DPut.t {H:Hp}{a b:Addr}{kvs:List (List Key × V)}{k:List Key}{v:V}(e:H a=some (.dT kvs)) (eb:H b=some (.tup (k.map kV))) (hl:kvs.length < sizeLine) :
  DPut H a (.ref b) v (upd H a (.dT (putK kvs k v))):=.inr ⟨kvs,k,b,e,rfl,eb,hl,rfl⟩
section
variable {X:Cx}{pins:List (Addr × Obj)}{σ:St}{H:Hp}{s:Shared}{a:Addr}{y v:V}{u r:Value}{o:Option V}{A:Around}{E:Value->Shared->Prop}
theorem Inv.big (I:Inv X pins σ H s):sysModules < s.heap.objs.size:=by
 have h:mainGlobals < s.heap.objs.size:=(I.mod.glob.keeps I.bk).lt
 exact Nat.lt_trans (by decide) h
theorem d_in {Q:Value->Shared->Prop}(hu:A.units + 1 < cLine) (I:Inv X pins σ H s) (g:DGet H a y o) (ry:RelV y u) (h:∀ s',Inv X pins σ H s'->Q (.bool o.isSome) s') :
  wpAny (model X.prog X.w) A (compareOp .In u (.ref a)) Q E s:=by
 rcases g with ⟨kvs,k,e,ey,l⟩ | ⟨kvs,k,b,e,ey,eb,l⟩
 ·subst ey
  obtain ⟨z,hd,vs,rel,dd⟩:=dk_rd I.hok e
  refine wpAny_in_of (kV_is ry) hd dd.mapOf ?_
  rw [<- (rel.val k).isSome_eq,<- l]
  exact h _ (I.tok _)
 ·subst ey
  cases (show u=Value.ref b from ry)
  obtain ⟨z,hd,xs,rel,dd⟩:=dt_rd I.hok e
  refine wpAny_in_heap (tupleKind_room_in1 hu) (key_of I.hok eb) hd dd ?_
  have q:=(rel.val k).isSome_eq
  rw [Option.isSome_map] at q
  rw [<- q,<- l]
  exact h _ (I.tok _)
theorem d_notIn {Q:Value->Shared->Prop}(hu:A.units + 1 < cLine) (I:Inv X pins σ H s) (g:DGet H a y o) (ry:RelV y u) (h:∀ s',Inv X pins σ H s'->Q (.bool (!o.isSome)) s') :
  wpAny (model X.prog X.w) A (compareOp .NotIn u (.ref a)) Q E s:=by
 rcases g with ⟨kvs,k,e,ey,l⟩ | ⟨kvs,k,b,e,ey,eb,l⟩
 ·subst ey
  obtain ⟨z,hd,vs,rel,dd⟩:=dk_rd I.hok e
  refine wpAny_notIn_of (kV_is ry) hd dd.mapOf ?_
  rw [<- (rel.val k).isSome_eq,<- l]
  exact h _ (I.tok _)
 ·subst ey
  cases (show u=Value.ref b from ry)
  obtain ⟨z,hd,xs,rel,dd⟩:=dt_rd I.hok e
  refine wpAny_notIn_heap (tupleKind_room_in1 hu) (key_of I.hok eb) hd dd ?_
  have q:=(rel.val k).isSome_eq
  rw [Option.isSome_map] at q
  rw [<- q,<- l]
  exact h _ (I.tok _)
theorem d_write {h':Heap}{t':Nat}{ob:HO}(I:Inv X pins σ H s) (mu:Mut (H a)) (hs:Heap.SameBut a s.heap h') (he:∃ q,h'.get? a=some q) (new:ObjOk X.prog X.w (upd H a ob) h' a ob) :
  Inv X pins σ (upd H a ob) { s with heap:=h',toks:=t' } :=
 I.write (x:=a) (e:=a) mu (.inl rfl) (fun b q hb z=>(hs.2 b hb).trans z) he new
theorem dk_new {P:Program}{w:World}{H':Hp}{h':Heap}{kvs:List (Key × V)}{vs:List (Key × Value)}(z:kvs.length<=sizeLine) (hd:(a == sysModules)=false) (rel:KV kvs vs) (dd:h'.DictOf (mixKind P w) a vs) :
  ObjOk P w H' h' a (.dK kvs):=⟨z,hd,vs,rel,dd⟩
theorem d_setItem {H':Hp}{Q:Unit->Shared->Prop}(hu:A.units + 1 < cLine) (I:Inv X pins σ H s) (g:DPut H a y v H') (ry:RelV y u) (rv:RelV v r) (h:∀ s',Inv X pins σ H' s'->Q () s') :
  wpAny (model X.prog X.w) A (setItem (.ref a) u r) Q E s:=by
 rcases g with ⟨kvs,k,e,ey,l,eH⟩ | ⟨kvs,k,b,e,ey,eb,l,eH⟩
 ·subst ey eH
  obtain ⟨z,hd,vs,rel,dd⟩:=dk_of I.hok e
  have hz:vs.length<=sizeLine:=by rw [<- rel.length]; exact z
  have hl:(putK kvs k v).length<=sizeLine:=by have:=length_putK kvs k v; omega
  refine wpAny_setItem_pairs (hsz:=hz) (kV_is ry) dd fun h' dd' hs=>h _ ?_
  have he:∃ q,h'.get? a=some q:=let ⟨q,_,_,hq,_⟩:=dd'; ⟨q,hq⟩
  exact d_write I (by rw [e]; exact True.intro) hs he (dk_new hl hd (rel.put k rv) dd')
 ·subst ey eH
  cases (show u=Value.ref b from ry)
  obtain ⟨z,hd,xs,rel,dd⟩:=dt_of I.hok e
  have hz:xs.length<=sizeLine:=by rw [<- Paired.length rel]; exact z
  have hl:(putK kvs k v).length<=sizeLine:=by have:=length_putK kvs k v; omega
  refine wpAny_setItem_heap (hsz:=hz) (tupleKind_room_in1 hu) (key_of I.hok eb) dd fun h' dd' hs=>h _ ?_
  obtain ⟨q,es,ep,hq,h2,h3,h4,_,h5⟩:=dd'
  refine d_write I (by rw [e]; exact True.intro) hs ⟨q,hq⟩ ⟨hl,hd,_,(rel.put k eb rv).keeps fun c ys ec=>?_,q,es,ep,hq,h2,h3,h4,h5⟩
  rw [upd_ne (ne_of ec e (fun z=>nomatch z))]
  exact ec
end
section
variable {X:Cx}{pins:List (Addr × Obj)}{σ:St}{H:Hp}{s:Shared}{a:Addr}{kvs:List (Key × V)}{k:Key}{u:Value}{A:Around}{E:Value->Shared->Prop}
end
section
variable {X:Cx}{o i e value:Expr}{pos pos' tpos:Pos}{td ty tv:TE}
end
theorem dt_empty {P:Program}{w:World}{H:Hp}(h:Heap) (hb:sysModules < h.objs.size):ObjOk P w H (h.push { cls:=.type "dict",data:=.dict #[] }) h.objs.size (.dT []) :=
 ⟨Nat.zero_le _,beq_eq_false_iff_ne.mpr (Ne.symm (Nat.ne_of_lt hb)),[],.nil,_,#[],0,Heap.get?_push_size _ rfl,⟨rfl,rfl,rfl⟩,rfl,rfl,List.nodup_nil⟩
section
variable {X:Cx}{pos:Pos}
end
def tPairs:List (TE × TE)->St->Hp->(List (V × V)->Hp->Prop)->Prop
 | [],_,H,Q=>Q [] H
 | (tk,tv) :: r,σ,H,Q=>tk σ H fun x H1=>tv σ H1 fun y H2=>tPairs r σ H2 fun ps H3=>Q ((x,y) :: ps) H3
abbrev VV:List (V × V)->List (Value × Value)->Prop:=Paired fun p q=>RelV p.1 q.1/\RelV p.2 q.2
def PPs (X:Cx) (pos:Pos) (keys:List (Option Expr)) (values:List Expr) (trs:List (TE × TE)):Prop :=
 ∀ (pins:List (Addr × Obj)) (s:Shared) (σ:St) (H:Hp) (Q:List (V × V)->Hp->Prop),Inv X pins σ H s->tPairs trs σ H Q ->
  wpAny (model X.prog X.w) X.A (evalPairs (pairTrees keys values X.env pos)) (fun vs s'=>∃ ps H',Inv X pins σ H' s'/\VV ps vs/\Q ps H') X.xe s
theorem pps_nil {X:Cx}{pos:Pos}:PPs X pos [] [] []:=fun pins s σ H Q I h=>pairTrees_nil_walk ⟨[],H,I,.nil,h⟩
theorem pps_cons {X:Cx}{pos:Pos}{k v:Expr}{ks:List (Option Expr)}{vs:List Expr}{tk tv:TE}{trs:List (TE × TE)}(hk:PE X k tk) (hv:PE X v tv) (hr:PPs X pos ks vs trs) :
  PPs X pos (some k :: ks) (v :: vs) ((tk,tv) :: trs):=fun pins s σ H Q I h =>
 pairTrees_cons_walk (thn (hk pins s σ H _ I h) fun u s1 ⟨x,H1,I1,rx,q1⟩=>thn (hv pins s1 σ H1 _ I1 q1) fun w2 s2 ⟨y,H2,I2,ry,q2⟩ =>
  thn (hr pins s2 σ H2 _ I2 q2) fun ws s3 ⟨ps,H3,I3,rel,q3⟩=>⟨(x,y) :: ps,H3,I3,.cons ⟨rx,ry⟩ rel,q3⟩)
structure M1 (X:Cx) (o:Expr) (m:Str) (apos:Pos) (e:Expr) (cpos:Pos):Prop where
 base:attributeBase o m X.env (eval o X.env)=eval o X.env
 few:((backTo cpos (starEach [e] X.env)).all (fun x=>!x.1) && (backToKw cpos (keywordEach [] X.env)).all (fun x=>x.1.isSome)
  && decide (([e]:List Expr).length + ([]:List Keyword).length + (if ([]:List Keyword).isEmpty then 0 else 1) < 30))=true
 line:(apos.endLine == cpos.line)=true
 trees:backTo cpos (starEach [e] X.env)=[(false,eval e X.env)]
structure M2 (X:Cx) (o:Expr) (m:Str) (apos:Pos) (e f:Expr) (cpos:Pos):Prop where
 base:attributeBase o m X.env (eval o X.env)=eval o X.env
 few:((backTo cpos (starEach [e,f] X.env)).all (fun x=>!x.1) && (backToKw cpos (keywordEach [] X.env)).all (fun x=>x.1.isSome)
  && decide (([e,f]:List Expr).length + ([]:List Keyword).length + (if ([]:List Keyword).isEmpty then 0 else 1) < 30))=true
 line:(apos.endLine == cpos.line)=true
 trees:backTo cpos (starEach [e,f] X.env)=[(false,eval e X.env),(false,eval f X.env)]
section
variable {X:Cx}{pins:List (Addr × Obj)}{σ:St}{H:Hp}{s:Shared}{a:Addr}{y d:V}{u r:Value}{o:Option V}{A:Around}{E:Value->Shared->Prop}
end
section
variable {X:Cx}{o e f:Expr}{apos cpos:Pos}{td ty tx:TE}
end
section
variable {X:Cx}{pins:List (Addr × Obj)}{σ:St}{H:Hp}{s:Shared}{a:Addr}{kvs:List (Key × V)}{A:Around}{E:Value->Shared->Prop}
end
section
variable {X:Cx}{pins:List (Addr × Obj)}{σ:St}{H:Hp}{s:Shared}{a:Addr}{y:V}{u:Value}{A:Around}{E:Value->Shared->Prop}
end
end L2
namespace HT
open PySem PySem.Spec PyProof.Rows
section
variable {prog:Program}{w:World}{A:Around}{E:Value->Shared->Prop}{s:Shared}{d c:Addr}{es:Array DictEntry}{ep i:Nat}
end
end HT
namespace L2
open PySem PySem.Spec PyProof.Rows
section
variable {X:Cx}{pins:List (Addr × Obj)}{σ:St}{H:Hp}{s:Shared}
theorem Paired.get' {α β:Type}{F:α->β->Prop}:∀ {l₁:List α}{l₂:List β}{i:Nat}{a:α},Paired F l₁ l₂->l₁[i]?=some a->∃ b,l₂[i]?=some b/\F a b
 | _,_,_,_,.nil,e=>by simp at e
 | _,_,0,_,.cons h _,e=>by simp at e; subst e; exact ⟨_,rfl,h⟩
 | _,_,i + 1,_,.cons _ t,e=>by simpa using Paired.get' (i:=i) t (by simpa using e)
end
end L2
set_option maxHeartbeats 4000000
namespace L2
open PySem PySem.Spec PyProof.Rows
section
variable {X:Cx}
def tDisp1 (tk tv:TE):TE:=fun σ H Q=>∀ p,H p=none->tk σ (upd H p (.dT [])) fun y H1=>tv σ H1 fun v H2=>∃ k b,y=.ref b/\H2 p=some (.dT [])/\H2 b=some (.tup (k.map kV))/\Q (.ref p) (upd H2 p (.dT [(k,v)]))
def disQ (p:Addr) (Q:VK) (ps:List (V × V)) (H2:Hp):Prop:=∃ y v,ps=[(y,v)]/\∃ k b,y=.ref b/\H2 p=some (.dT [])/\H2 b=some (.tup (k.map kV))/\Q (.ref p) (upd H2 p (.dT [(k,v)]))
theorem store_one {pins:List (Addr × Obj)}{σ:St}{H:Hp}{s:Shared}{p:Addr}{ps:List (V × V)}{ws:List (Value × Value)}{Q:VK}(hu:X.A.units + 1 < cLine) (I:Inv X pins σ H s) (rel:VV ps ws) (q:disQ p Q ps H) :
  wpAny (model X.prog X.w) X.A (storeAll p ws) (fun _ s2=>EP X pins σ Q (.ref p) s2) X.xe s:=by
 obtain ⟨y,v,rfl,k,b,rfl,e3,e4,q2⟩:=q
 cases rel with
 | cons r t =>
  rename_i pw _
  cases t
  obtain ⟨w1,w2⟩:=pw
  obtain ⟨r1,r2⟩:=r
  have e1:w1=Value.ref b:=r1
  subst e1
  obtain ⟨z,nm,xs,rl,dd⟩:=dt_of I.hok e3
  cases rl
  unfold storeAll
  simp only [List.forIn_cons,List.forIn_nil]
  refine wpAny_bind (wpAny_bind ?_)
  refine wpAny_dictSet_heap (hsz:=by simp) (knd:=tupleKind (mixKind X.prog X.w)) (show X.A.units < cLine by omega) (key_of I.hok e4) dd fun h' dd' hs=>?_
  refine wpAny_pure (wpAny_pure ?_)
  obtain ⟨o,es,ep,hq,h2,h3,h4,_,h5⟩:=dd'
  refine ⟨.ref p,_,d_write I (by rw [e3]; exact True.intro) hs ⟨o,hq⟩ (ob:=.dT [(k,v)]) ⟨by show 1<=sizeLine; decide,nm,_,Paired.cons ⟨rfl,?_,r2⟩ .nil,o,es,ep,hq,h2,h3,h4,h5⟩,rfl,q2⟩
  rw [upd_ne (ne_of e4 e3 (fun z=>nomatch z))]
  exact e4
theorem pe_disp1 {pos:Pos}{k v:Expr}{tk tv:TE}(hu:X.A.units + 1 < cLine) (hk:PE X k tk) (hv:PE X v tv) (mono:∀ σ H (Q Q':VK),(∀ x H1,Q x H1->Q' x H1)->tv σ H Q->tv σ H Q') (mono':∀ σ H (Q Q':VK),(∀ x H1,Q x H1->Q' x H1)->tk σ H Q->tk σ H Q'):PE X (.Dict [some k] [v] pos) (tDisp1 tk tv):=by
 intro pins s σ H Q I q
 have I1:=I.laid (a:=s.heap.objs.size) (o:=.dT []) (h':=s.heap.push { cls:=.type "dict",data:=.dict #[] }) (t':=s.toks) (fun _ _ q=>Heap.get?_push_of_some _ q) (Nat.le_refl _) (dt_empty s.heap I.big)
 have q1:=q _ (I.hok.fresh (Nat.le_refl s.heap.objs.size))
 have pp:PPs X pos [some k] [v] [(tk,tv)]:=pps_cons hk hv pps_nil
 have q2:tPairs [(tk,tv)] σ (upd H s.heap.objs.size (.dT [])) (disQ s.heap.objs.size Q):=by
  show tk σ _ fun x H1=>tv σ H1 fun y H2=>disQ s.heap.objs.size Q [(x,y)] H2
  exact mono' _ _ _ _ (fun x H1 h=>mono _ _ _ _ (fun y H2 h2=>⟨x,y,rfl,h2⟩) h) q1
 refine wpAny_Dict_any (by rfl) (by rfl) (fun z=>by cases z) (by show 1<=15; decide) ?_
 refine thn (pp pins _ σ _ _ I1 q2) fun ws s2 hz0=>?_
 obtain ⟨ps,H2,I2,rel,qq⟩:=hz0
 exact store_one hu I2 rel qq
end
end L2
namespace L2
open PySem PySem.Spec PyProof.Rows
section
variable {X:Cx}
end
end L2
namespace L2
open PySem PySem.Spec PyProof.Rows
section
variable {prog:Program}{w:World}{A:Around}{E:Value->Shared->Prop}{s:Shared}
theorem meets_enumL (t:Addr) (o:Obj) (vs:Array Value) (n:Nat) (hc:o.cls=.type "list") (hd:o.data=.seq vs n) :
  Meets (Builtin.«enumerate.__new__» ⟨[.type "enumerate",.ref t],[]⟩) (fun _ R s=>s.heap.get? t=some o /\
   R (.ok (.ret (.ref (s.heap.push { cls:=.type "list_iterator",data:=.fields #[.ref t,.int 0 0] }).objs.size)))
    { s with heap:=(s.heap.push { cls:=.type "list_iterator",data:=.fields #[.ref t,.int 0 0] }).push { cls:=.type "enumerate",data:=.fields #[.none,.bool false,.ref s.heap.objs.size,rawInt 0,.none,.none] } }) :=
 .of_wp fun prog w A R s h=>by
  obtain ⟨hp,g,d,tk,os⟩:=s
  obtain ⟨at1,h⟩:=h
  have hsub:=sub_enumerate
  have isT:Heap.IsList (Shared.heap ⟨hp,g,d,tk,os⟩) t vs:=⟨_,at1,hc,n,hd⟩
  obtain ⟨oc,od,oda,osl⟩:=o
  cases (show oc=Value.type "list" from hc)
  cases (show oda=Data.seq vs n from hd)
  wp_walk using AutoSeq1.wpAny_loadPart' at1
  refine wpAny_stack_any fun st=>wpAny_pure ?_
  split
  ·rename_i c _ _ _ _ _
   cases (c == Value.type "enumerate") <;> (wp_walk using AutoSeq1.wpAny_loadPart' at1,wpAny_pyIter_list isT; exact ⟨_,rfl,h⟩)
  ·wp_walk using AutoSeq1.wpAny_loadPart' at1,wpAny_pyIter_list isT
   exact ⟨_,rfl,h⟩
theorem call_enumL {t:Addr}{vs:Array Value}{Q:Value->Shared->Prop}(isT:s.heap.IsList t vs)
  (q:∀ h',IsEnum h' (s.heap.objs.size + 1) s.heap.objs.size 0 .none->h'.IsListIter s.heap.objs.size t 0->(∀ b o,s.heap.get? b=some o->h'.get? b=some o)->Q (.ref (s.heap.objs.size + 1)) { s with heap:=h' }) :
  wpAny (model prog w) A (call (.type "enumerate") [.ref t]) Q E s:=by
 obtain ⟨o,at1,hc,n,hd⟩:=isT
 refine callType_new F.called_enumerate (by decide) (F.typeCall_enumerate_1 _) (F.newCall_enumerate_1 _) (fun obj=>F.args_object_init_2 obj _) F.entry_enumerate_new (meets_enumL t o vs n hc hd) ⟨at1,?_⟩
 have sz:(s.heap.push { cls:=.type "list_iterator",data:=.fields #[.ref t,.int 0 0] }).objs.size=s.heap.objs.size + 1:=Heap.size_push ..
 refine (?_:_/\_)
 rw [sz]
 have isE:IsEnum ((s.heap.push { cls:=.type "list_iterator",data:=.fields #[.ref t,.int 0 0] }).push { cls:=.type "enumerate",data:=.fields #[.none,.bool false,.ref s.heap.objs.size,rawInt 0,.none,.none] }) (s.heap.objs.size + 1) s.heap.objs.size 0 .none:=by
  rw [<- sz]
  exact Heap.get?_push_size _ rfl
 exact ⟨⟨_,isE,rfl⟩,q _ isE ⟨_,Heap.get?_push_of_some _ (Heap.get?_push_size _ rfl),rfl,rfl⟩ fun b o e=>Heap.get?_push_of_some _ (Heap.get?_push_of_some _ e)⟩
end
def Iel (K:PySem.W.Frag) (a:Addr):It:=⟨fun i H=>∃ xs x,SqL K H a xs/\xs[i]?=some x,fun i H y H'=>∃ T x,H T=none/\y=.ref T/\H'=upd H T (.tup [.int i,x])/\∀ xs,SqL K H a xs->xs[i]?=some x,fun i H=>∃ xs,SqL K H a xs/\i=xs.length⟩
theorem turn_enumL {P:Program}{w:World}{K:PySem.W.Frag}{elts:List Expr}{kk:Nat}{tp:Pos}(a e it:Addr) (hei:e≠it):Turn P w K (.Tuple elts kk tp) (Iel K a) [e,it] e (fun i h=>(∃ old,IsEnum h e it i old)/\h.IsListIter it a i) where
 mem:=by simp
 obj:=fun i h st b hb=>by
  obtain ⟨⟨old,e1⟩,⟨o,o1,o2,o3⟩⟩:=st
  simp only [List.mem_cons,List.not_mem_nil,or_false] at hb
  rcases hb with rfl | rfl
  ·exact ⟨_,e1,fun v z=>by
    have z':Data.fields _=Data.cell v:=z
    cases z'⟩
  ·exact ⟨o,o1,fun v z=>by rw [o3] at z; cases z⟩
 keep:=fun i h h' st kp=>by
  obtain ⟨⟨old,e1⟩,⟨o,o1,o2⟩⟩:=st
  exact ⟨⟨old,kp e (by simp) _ e1⟩,⟨o,kp it (by simp) o o1,o2⟩⟩
 item:=by
  intro X hP hw hK hc i pins s σ H E I hf st hg
  subst hP hw hK
  obtain ⟨xs,x,hq,hx⟩:=hg
  obtain ⟨its,rv,p,hz⟩:=I.list hq
  obtain ⟨u,hu,ru⟩:=rv.get hx
  obtain ⟨⟨old,e1⟩,st2⟩:=st
  obtain ⟨jo,j1,j2,j3⟩:=id st2
  have p':s.heap.IsList a its.toArray:=p.isList
  obtain ⟨to,t1,t2,_⟩:=id p'
  have nit:a≠it:=fun z=>by
   rw [z,j1] at t1; cases t1
   rw [j2] at t2
   exact absurd t2 (by decide)
  have nea:e≠a:=fun z=>by
   rw [<- z,e1] at t1; cases t1
   exact absurd (show Value.type "enumerate"=Value.type "list" from t2) (by decide)
  have lt:∀ b∈[e,it],b < s.heap.objs.size:=fun b hb=>by
   simp only [List.mem_cons,List.not_mem_nil,or_false] at hb
   rcases hb with rfl | rfl
   ·exact Heap.lt_size e1
   ·exact Heap.lt_size j1
  have hil:i < its.length:=(List.getElem?_eq_some_iff.mp hu).1
  refine wpAny_pyNext_enum_itemD (Draws.list (A:=X.A.in1) (I.ok.hd hc) it a nit its.toArray) e1 ⟨st2,p'⟩ (by simpa using hil) hei (by simp [hei,nea]) fun x' h' tk hP ho hs' hT hsz hk=>?_
  have ex:x'=u:=by
   have:its[i]?=some x':=by simpa using hP
   rw [hu] at this; exact (Option.some.inj this).symm
  subst ex
  refine ⟨_,rfl,wpAny_letOwnedTupleGo_enum ho fun h2 he2 sb2=>?_⟩
  have nT:s.heap.objs.size≠e:=Nat.ne_of_gt (lt e (by simp))
  obtain ⟨f1,f2,f3⟩:=I.out (h':=h2) (t':=tk + 1) (xs:=[.int i,x]) (us:=[.int i tk,x']) hf lt (.cons ⟨tk,rfl⟩ (.cons ru .nil)) (by show 2<=sizeLine; decide)
   (fun b o hb q=>(sb2.2 b (fun z=>hb (by simp [z]))).trans (hk b o (fun z=>hb (by simp [z])) (fun z=>hb (by simp [z])) q)) ((sb2.2 _ nT).trans hT)
  obtain ⟨⟨io,i1,i2⟩,_⟩:=hs'
  exact ⟨.ref s.heap.objs.size,_,f2,rfl,⟨_,x,f1,rfl,rfl,fun ys hy=>by rw [I.list_inj hy hq]; exact hx⟩,⟨⟨x',by simpa using he2⟩,⟨io,(sb2.2 it hei.symm).trans i1,i2⟩⟩,f3⟩
 done:=by
  intro X hP hw hK hc i pins s σ H E I hf st hg
  subst hP hw hK
  obtain ⟨xs,hq,hx⟩:=hg
  obtain ⟨its,rv,p,hz⟩:=I.list hq
  obtain ⟨⟨old,e1⟩,st2⟩:=st
  obtain ⟨jo,j1,j2,j3⟩:=id st2
  have p':s.heap.IsList a its.toArray:=p.isList
  obtain ⟨to,t1,t2,_⟩:=id p'
  have nit:a≠it:=fun z=>by
   rw [z,j1] at t1; cases t1
   rw [j2] at t2
   exact absurd t2 (by decide)
  have hl:=rv.length
  have ei:i=its.toArray.size:=by rw [List.size_toArray]; omega
  refine wpAny_pyNext_enum_endD (Draws.list (A:=X.A.in1) (I.ok.hd hc) it a nit its.toArray) e1 (by rw [<- ei]; exact ⟨st2,p'⟩) fun h' eb=>⟨rfl,I.turnedL (t':=s.toks) hf fun b o hb q=>eb b o (fun z=>hb (by simp [z])) q⟩
 self:=fun _ _ _ _ _ st q=>by
  obtain ⟨⟨old,e1⟩,_⟩:=st
  exact wpAny_pyIter_enum e1 q
theorem for_enumL {K:PySem.W.Frag}{a:Addr}{xs:List V}{g:TG}{tb:TS}{D:Ends}{σ:St}{H:Hp}(Pv:Nat->St->Hp->Prop) (h0:Pv 0 σ H) (hl:∀ i σ H,i<=xs.length->Pv i σ H->SqL K H a xs)
  (hs:∀ i x σ H T,xs[i]?=some x->Pv i σ H->H T=none->g (.ref T) σ (upd H T (.tup [.int i,x])) fun σ2 H2=>tb { D with nx:=Pv (i + 1),ct:=Pv (i + 1),bk:=D.nx } σ2 H2) (hd:∀ σ H,Pv xs.length σ H->D.nx σ H) :
  ∃ W:Nat->Nat->St->Hp->Prop,(∃ m,W 0 m σ H)/\∀ i m σ H,W i m σ H ->
   ((Iel K a).stop i H/\D.nx σ H)\/((Iel K a).go i H/\∃ N:St->Hp->Prop,(∀ σ' H',N σ' H'->∃ m',m' < m/\W (i + 1) m' σ' H')/\∀ x H',(Iel K a).yld i H x H'->g x σ H' fun σ2 H2=>tb { D with nx:=N,ct:=N,bk:=D.nx } σ2 H2):=by
 refine ⟨fun i m σ H=>m=xs.length - i/\i<=xs.length/\Pv i σ H,⟨xs.length,by simp,Nat.zero_le _,h0⟩,?_⟩
 rintro i m σ H ⟨rfl,hi,iv⟩
 have sq:=hl i σ H hi iv
 rcases Nat.lt_or_ge i xs.length with lt | ge
 ·refine .inr ⟨⟨xs,xs[i],sq,by simp [lt]⟩,Pv (i + 1),fun σ' H' p'=>⟨xs.length - (i + 1),by omega,rfl,lt,p'⟩,fun x H' y=>?_⟩
  obtain ⟨T,z,f1,rfl,rfl,f2⟩:=y
  exact hs i z σ H T (f2 xs sq) iv f1
 ·have e:i=xs.length:=by omega
  subst e
  exact .inl ⟨⟨xs,sq,rfl⟩,hd σ H iv⟩
end L2
namespace HT
open PySem PySem.Spec PyProof.Rows
section
variable {prog:Program}{w:World}{A:Around}{E:Value->Shared->Prop}{s:Shared}
end
section
variable {prog:Program}{w:World}{A:Around}{R:Result->Shared->Prop}{I:Addr}{fp wr:List Addr}{n:Nat}{P:Nat->Value->Prop}{St:Nat->Heap->Prop}
end
end HT
namespace L2
open PySem PySem.Spec PyProof.Rows
section
variable {X:Cx}{pins:List (Addr × Obj)}{σ:St}{H:Hp}{s:Shared}
end
end L2
namespace L2
open PySem PySem.Spec PyProof.Rows
section
variable {X:Cx}{pins:List (Addr × Obj)}{σ:St}{H:Hp}{s:Shared}
end
end L2
namespace L2
open PySem PySem.Spec PyProof.Rows
section
variable {X:Cx}
def rCatS (K:PySem.W.Frag):R2:=fun x y H Q=>∃ l b xs zs,x=.ref l/\y=.ref b/\SqL K H l xs/\SqL K H b zs/\xs.length + zs.length<=sizeLine/\∀ p,H p=none->Q (.ref p) (upd H p (.lst (xs ++ zs)))
theorem op_catS:OpR X (binaryOp .Add) (rCatS X.K):=by
 intro pins s σ H x y v u Q I rx ry h
 obtain ⟨l,b,xs,zs,rfl,rfl,hH,hB,hz,q⟩:=h
 cases rx
 cases ry
 obtain ⟨its,r,pl,_⟩:=I.list hH
 obtain ⟨its2,r2,pl2,_⟩:=I.list hB
 have l1:=r.length
 have l2:=r2.length
 obtain ⟨⟨c1,d1,a1,s1⟩,e1,h1,n1,k1⟩:=id pl.isList
 obtain ⟨⟨c2,d2,a2,s2⟩,e2,h2,n2,k2⟩:=id pl2.isList
 cases (show c1=Value.type "list" from h1)
 cases (show a1=Data.seq its.toArray n1 from k1)
 cases (show c2=Value.type "list" from h2)
 cases (show a2=Data.seq its2.toArray n2 from k2)
 refine concat_meets ⟨_,e1,rfl⟩ ⟨_,e2,rfl⟩ noFill_list_add seq_list_add PySem.F.slot_list_add PySem.F.entry_list_add (PySem.F.args_list_add_2 _ _) (list_addW l b its.toArray its2.toArray n1 n2 d1 d2 s1 s2 (by rw [List.size_toArray,List.size_toArray]; omega)) ⟨e1,e2,?_⟩
 rw [show its.toArray ++ its2.toArray=(its ++ its2).toArray by simp]
 exact ⟨.ref _,_,I.lnew (t':=s.toks) (r.append r2) (by rw [List.length_append]; omega),rfl,q _ I.fresh⟩
end
end L2
namespace HT
open PySem PySem.Spec PyProof.Rows L2
section
variable {prog:Program}{w:World}{A:Around}{R:Result->Shared->Prop}{I:Addr}{fp wr:List Addr}{G:Array GenState->Array GenState->Prop}{n:Nat}{P:Nat->Value->Prop}{St:Nat->Shared->Prop}
end
end HT
namespace HT
open PySem PySem.Spec PyProof.Rows L2
section
variable {prog:Program}{w:World}{A:Around}{E:Value->Shared->Prop}{s:Shared}
end
end HT
namespace L2
open PySem PySem.Spec PyProof.Rows HT
section
variable {X:Cx}
end
end L2
namespace L2
open PySem PySem.Spec PyProof.Rows
section
variable {X:Cx}{pins:List (Addr × Obj)}{σ:St}{H:Hp}{s:Shared}
end
end L2
namespace L2
open PySem PySem.Spec PyProof.Rows
section
variable {X:Cx}{a b:Expr}{ta tb:TE}{pos:Pos}{rest:List Expr}
def tOrX (K:PySem.W.Frag) (ta tb:TE):TE:=fun σ H Q=>ta σ H fun x H1=>∃ k,TruV K x H1 k/\if k=true then Q x H1 else tb σ H1 Q
theorem pe_orX (ha:PE X a ta) (hb:PE X (.BoolOp .Or (b :: rest) pos) tb):PE X (.BoolOp .Or (a :: b :: rest) pos) (tOrX X.K ta tb):=by
 intro pins s σ H Q I h
 refine BoolOp_or (thn (ha pins s σ H _ I h) fun v s1 hz0=>?_)
 obtain ⟨x,H1,I1,r1,k,tr,q1⟩:=hz0
 refine thn (tru_ok pins s1 σ H1 x v (fun b H'=>b=k/\H'=H1) I1 r1 ⟨k,tr,rfl,rfl⟩) fun c s2 hz0=>?_
 obtain ⟨H2,I2,e1,e2⟩:=hz0
 subst e1 e2
 cases c with
 | false=>exact hb pins s2 σ H2 Q I2 q1
 | true=>exact ⟨x,H2,I2,r1,q1⟩
end
end L2
namespace L2
open PySem PySem.Spec PyProof.Rows
section
variable {X:Cx}
end
end L2
namespace HT
open PySem PySem.Spec PyProof.Rows L2
section
open PySem.SeqAt
open PySem.AutoSeq1 (wpAny_loadPart')
open PySem.MeetsSeq PySem.MeetsSeq2 PySem.MeetsSeq3
end
section
variable {A:Around}{s:Shared}
def ltStr (a b:Str):Bool:=decide (a.cps.toList < b.cps.toList)
end
end HT
namespace HT
open PySem PySem.Spec PyProof.Rows L2
def CmpS (prog:Program) (w:World) (A:Around) (P:Nat->Value->Prop) (St:Nat->Heap->Prop) (bt:Nat->Nat->Bool):Prop :=
 ∀ i j vi vj k (s:Shared) (Q:Value->Shared->Prop) (E:Value->Shared->Prop),St k s.heap->P i vi->P j vj->Q (.bool (bt i j)) s->wpAny (model prog w) A (richCompare .Lt vi vj) Q E s
section
variable {prog:Program}{w:World}{A:Around}{R:Result->Shared->Prop}{I:Addr}{fp wr:List Addr}{n:Nat}{P:Nat->Value->Prop}{St:Nat->Heap->Prop}
theorem minS_loop (W:Walks prog w A.in1 I fp wr n P St) (bt:Nat->Nat->Bool) (cmp:CmpS prog w A.in1 P St bt) (S:Addr) (out:S ∉ fp) (kw:List (Str × Value)) :
  ∀ (k j:Nat) (s:Shared) (vb:Value) (c:Nat),n - (j + 1)=k->j + 1<=n->St (j + 1) s.heap->P (argBest bt j) vb->s.heap.get? S=some { cls:=.type "list",dict:=none,data:=.seq #[vb,vb] c,slots:=#[] } ->
  (∀ v h' tk,P (argBest bt (n - 1)) v->(∀ b o,b ∉ wr->b≠S->s.heap.get? b=some o->h'.get? b=some o)->R (.ok (.ret v)) { s with heap:=h',toks:=tk }) ->
  codeAny (model prog w) A (.builtin "min.loop" ⟨[.ref I,.none,.ref S],kw⟩) R s:=by
 have away:S ∉ wr:=fun h=>out (W.sub _ h)
 have nm:(toString "min" ++ toString ".loop":String)="min.loop":=by decide
 intro k
 induction k with
 | zero =>
  intro j s vb c hk hj st hb at1 q
  have en:j + 1=n:=by omega
  refine codeAny_builtin F.entry_min_loop ?_; rw [Around.under_plainId F.plain_min_loop _]
  show wpAny _ A.in1 (seqItems? (.ref S) >>= _) _ _ s; refine wpAny_bind (wpAny_seqItems at1 rfl ?_); show wpAny _ A.in1 (tryCatch (pyNext (.ref I)) _ >>= _) _ _ s; refine wpAny_bind (wpAny_tryCatch (W.done s _ _ (en ▸ st) fun h' tk kp=>?_))
  show wpAny _ A.in1 (updateSeq S (fun _=>#[]) >>= _) _ _ _; refine wpAny_bind ?_; refine wpAny_updateSeq (kp S _ away at1) rfl (wpAny_bind (wpAny_letGo (wpAny_pure ?_)))
  exact q vb _ tk (by rw [<- en]; exact hb) fun b o h1 h2 e=>(Heap.get?_update_other _ _ (Ne.symm h2)).trans (kp b o h1 e)
 | succ k ih =>
  intro j s vb c hk hj st hb at1 q
  have lt:j + 1 < n:=by omega
  refine codeAny_builtin F.entry_min_loop ?_; rw [Around.under_plainId F.plain_min_loop _]
  show wpAny _ A.in1 (seqItems? (.ref S) >>= _) _ _ s; refine wpAny_bind (wpAny_seqItems at1 rfl ?_); show wpAny _ A.in1 (tryCatch (pyNext (.ref I)) _ >>= _) _ _ s; refine wpAny_bind (wpAny_tryCatch (W.item (j + 1) s _ _ lt st fun v h' tk hP st' kp=>?_))
  have at2:=kp S _ away at1
  show wpAny _ A.in1 (tryCatch (holding [v,v] (richCompare .Lt v vb >>= _)) _ >>= _) _ _ _; refine wpAny_bind (wpAny_tryCatch (wpAny_holding (wpAny_bind (cmp (j + 1) (argBest bt j) v vb _ _ _ _ st' hP hb ?_))))
  refine wpAny_bind (wpAny_holding (wpAny_truthy_bool ?_)); refine wpAny_bind (wpAny_letGo (wpAny_pure ?_))
  cases better:bt (j + 1) (argBest bt j) with
  | true =>
   simp only [if_true]
   refine wpAny_bind ?_; refine wpAny_updateSeq at2 rfl (wpAny_bind (wpAny_letGo ?_))
   rw [nm]
   refine wpAny_pure ⟨plainId_quiet F.plain_min_loop _,ih (j + 1) _ v _ (by omega) lt (W.frame _ _ _ st' fun b hf o e=>(Heap.get?_update_other _ _ (fun h:S=b=>out (by rw [h]; exact hf))).trans e) (by simp only [argBest,better,if_true]; exact hP) (Heap.get?_update_self _ at2 rfl) fun v' h'' tk'' hP' kp'=>?_⟩
   exact q v' h'' tk'' hP' fun b o h1 h2 e=>kp' b o h1 h2 ((Heap.get?_update_other _ _ (Ne.symm h2)).trans (kp b o h1 e))
  | false =>
   simp only [Bool.false_eq_true,if_false]
   refine wpAny_bind (wpAny_letGo ?_)
   rw [nm]
   refine wpAny_pure ⟨plainId_quiet F.plain_min_loop _,ih (j + 1) _ vb c (by omega) lt st' (by simp only [argBest,better,Bool.false_eq_true,if_false]; exact hb) at2 fun v' h'' tk'' hP' kp'=>?_⟩
   exact q v' h'' tk'' hP' fun b o h1 h2 e=>kp' b o h1 h2 (kp b o h1 e)
theorem minS_first (W:Walks prog w A.in1 I fp wr n P St) (bt:Nat->Nat->Bool) (cmp:CmpS prog w A.in1 P St bt) (S:Addr) (out:S ∉ fp) (pos:0 < n) {s:Shared}{c:Nat}(st:St 0 s.heap)
  (at1:s.heap.get? S=some { cls:=.type "list",dict:=none,data:=.seq #[] c,slots:=#[] })
  (q:∀ v h' tk,P (argBest bt (n - 1)) v->(∀ b o,b ∉ wr->b≠S->s.heap.get? b=some o->h'.get? b=some o)->R (.ok (.ret v)) { s with heap:=h',toks:=tk }) :
  codeAny (model prog w) A (.builtin "min.loop" ⟨[.ref I,.none,.ref S],[]⟩) R s:=by
 have away:S ∉ wr:=fun h=>out (W.sub _ h)
 have nm:(toString "min" ++ toString ".loop":String)="min.loop":=by decide
 refine codeAny_builtin F.entry_min_loop ?_; rw [Around.under_plainId F.plain_min_loop _]
 show wpAny _ A.in1 (seqItems? (.ref S) >>= _) _ _ s; refine wpAny_bind (wpAny_seqItems at1 rfl ?_); show wpAny _ A.in1 (tryCatch (pyNext (.ref I)) _ >>= _) _ _ s; refine wpAny_bind (wpAny_tryCatch (W.item 0 s _ _ pos st fun v h' tk hP st' kp=>?_))
 have at2:=kp S _ away at1
 show wpAny _ A.in1 (updateSeq S (fun _=>#[v,v]) >>= _) _ _ _; refine wpAny_bind ?_; refine wpAny_updateSeq at2 rfl ?_; rw [nm]
 refine wpAny_pure ⟨plainId_quiet F.plain_min_loop _,minS_loop W bt cmp S out _ _ 0 _ v _ rfl pos (W.frame _ _ _ st' fun b hf o e=>(Heap.get?_update_other _ _ (fun h:S=b=>out (by rw [h]; exact hf))).trans e) hP (Heap.get?_update_self _ at2 rfl) fun v' h'' tk'' hP' kp'=>?_⟩
 exact q v' h'' tk'' hP' fun b o h1 h2 e=>kp' b o h1 h2 ((Heap.get?_update_other _ _ (Ne.symm h2)).trans (kp b o h1 e))
end
section
variable {prog:Program}{w:World}{A:Around}{E:Value->Shared->Prop}{s:Shared}
end
end HT
namespace HT
open PySem PySem.Spec PyProof.Rows L2
theorem ltS_irr (a:Str):ltStr a a=false:=decide_eq_false (List.lt_irrefl _)
theorem ltS_trans {a b c:Str}(h1:ltStr a b=true) (h2:ltStr b c=true):ltStr a c=true:=decide_eq_true (List.lt_trans (of_decide_eq_true h1) (of_decide_eq_true h2))
theorem ltS_tot {a b:Str}(h:a≠b):ltStr a b=true\/ltStr b a=true:=by
 by_cases h1:a.cps.toList < b.cps.toList
 ·exact .inl (decide_eq_true h1)
 ·by_cases h2:b.cps.toList < a.cps.toList
  ·exact .inr (decide_eq_true h2)
  ·exfalso
   apply h
   have e:a.cps.toList=b.cps.toList:=List.le_antisymm (List.not_lt.mp h2) (List.not_lt.mp h1)
   obtain ⟨x⟩:=a
   obtain ⟨y⟩:=b
   have:x=y:=Array.toList_inj.mp e
   rw [this]
end HT
namespace L2
open PySem PySem.Spec PyProof.Rows HT
section
variable {X:Cx}
end
end L2
namespace L2
open PySem PySem.Spec PyProof.Rows
section
variable {X:Cx}
end
end L2
namespace L2
open PySem PySem.Spec PyProof.Rows
section
variable {X:Cx}
def rCatN (K:PySem.W.Frag):R2:=fun x y H Q=>∃ a b xs ys,x=.ref a/\y=.ref b/\SqT K H a xs/\SqT K H b ys/\ys≠[]/\xs.length + ys.length<=sizeLine /\
 (xs=[]->Q (.ref b) H)/\(xs≠[]->∀ p,H p=none->Q (.ref p) (upd H p (.tup (xs ++ ys))))
theorem op_catN:OpR X (binaryOp .Add) (rCatN X.K):=by
 intro pins s σ H x y v u Q I rx ry h
 obtain ⟨a,b,xs,ys,rfl,rfl,ha,hb,hy,hz,q1,q2⟩:=h
 by_cases hx:xs=[]
 ·cases rx
  cases ry
  obtain ⟨its,r1,p1,_⟩:=I.tuple ha
  obtain ⟨its2,r2,p2,_⟩:=I.tuple hb
  obtain ⟨⟨cls,dd,data,sl⟩,ho,hc,n,hd⟩:=id p1
  obtain ⟨⟨cls2,dd2,data2,sl2⟩,ho2,hc2,n2,hd2⟩:=id p2
  simp only at hc hd hc2 hd2
  subst hc hd hc2 hd2
  have e0:its=[]:=by rw [hx] at r1; cases r1; rfl
  exact concat_meets ⟨_,ho,rfl⟩ ⟨_,ho2,rfl⟩ noFill_tuple_add seq_tuple_add PySem.F.slot_tuple_add PySem.F.entry_tuple_add (PySem.F.args_tuple_add_2 _ _)
   (tuple_addW0 a b its.toArray its2.toArray n n2 dd dd2 sl sl2 (by rw [e0]; rfl)) ⟨ho,ho2,⟨.ref b,H,I,rfl,q1 hx⟩⟩
 ·exact op_catT pins s σ H (.ref a) (.ref b) v u Q I rx ry ⟨a,b,xs,ys,rfl,rfl,ha,hb,hx,hz,fun e=>absurd e hy,fun _=>q2 hx⟩
end
end L2
namespace L2
open PySem PySem.Spec PyProof.Rows
section
variable {X:Cx}
end
end L2
namespace L2
open PySem PySem.Spec PyProof.Rows HT
section
variable {X:Cx}
end
end L2
namespace L2
open PySem PySem.Spec PyProof.Rows
section
variable {X:Cx}
end
end L2
namespace L2
open PySem PySem.Spec PyProof.Rows HT
section
variable {X:Cx}{tg:Expr}
end
end L2
namespace L2
open PySem PySem.Spec PyProof.Rows HT
section
variable {prog:Program}{w:World}{K:Type} [DecidableEq K] {knd:HeapKind prog w K}{a b:Addr}
end
section
variable {X:Cx}
end
end L2
namespace L2
open PySem PySem.Spec PyProof.Rows
section
variable {prog:Program}{w:World}{A:Around}{R:Result->Shared->Prop}{s:Shared}
abbrev two (elt tg iter:Expr) (ifs:List Expr) (tg2 iter2:Expr) (ifs2:List Expr) (scope:Scope) (pos:Pos):Expr:=.ListComp elt [⟨tg,iter,ifs,0⟩,⟨tg2,iter2,ifs2,0⟩] scope pos
end
section
variable {X:Cx}
end
end L2
namespace L2
open PySem PySem.Spec PyProof.Rows
section
variable {X:Cx}
end
end L2
namespace L2
open PySem PySem.Spec PyProof.Rows HT
section
variable {X:Cx}
end
end L2
namespace L2
open PySem PySem.Spec PyProof.Rows
section
variable {X:Cx}
end
end L2
namespace L2
open PySem PySem.Spec PyProof.Rows
section
variable {X:Cx}
end
end L2
namespace L2
open PySem PySem.Spec PyProof.Rows
section
variable {prog:Program}{w:World}{A:Around}{E:Value->Shared->Prop}{R:Result->Shared->Prop}{s:Shared}
end
section
variable {X:Cx}
end
end L2
namespace L2
open PySem PySem.Spec PyProof.Rows HT
section
variable {X:Cx}
end
end L2
namespace L2
open PySem PySem.Spec PyProof.Rows
section
variable {X:Cx}
end
end L2
namespace L2
open PySem PySem.Spec PyProof.Rows HT
section
variable {prog:Program}{w:World}{A:Around}{E:Value->Shared->Prop}{s:Shared}
theorem call_minS2 {a b:Value}{Q:Value->Shared->Prop}
  (h:wpAny (model prog w) A.in1 (pyIter (.ref s.heap.objs.size)) (fun it s2=>∃ I fp wr n P St bt,it=.ref I/\Walks prog w A.in1 I fp wr n P St/\St 0 s2.heap/\(∀ b∈fp,b < s2.heap.objs.size)/\0 < n/\CmpS prog w A.in1 P St bt /\
   ∀ v h' tk,P (argBest bt (n - 1)) v->(∀ b o,b ∉ wr->s2.heap.get? b=some o->h'.get? b=some o)->Q v { s2 with heap:=h',toks:=tk }) E { s with heap:=s.heap.push { cls:=.type "tuple",data:=.seq #[a,b] } }) :
  wpAny (model prog w) A (call (.builtin "min") [a,b]) Q E s:=by
 have nm:(toString "min" ++ toString ".loop":String)="min.loop":=by decide
 refine call_function_tree F.kind_min F.plain_min F.entry_min (F.args_min2 _ _) ?_; show wpAny _ A.in1 (Builtin.Builtins.bindParams "min" ["key","default"] 0 ⟨[],[]⟩ >>= _) _ _ s
 refine wpAny_bind (wpAny_of_eq (show Builtin.Builtins.bindParams "min" ["key","default"] 0 ⟨[],[]⟩=pure [none,none] from rfl) ?_)
 show wpAny _ A.in1 (newTuple [a,b] >>= _) _ _ s
 refine wpAny_bind (wpAny_newObj_type (wpAny_bind (wpAny_mono h (fun it s2 h2=>?_) fun _ _ e=>e)))
 obtain ⟨I,fp,wr,n,P,St,bt,rfl,W,st,below,pos,cmp,q⟩:=h2
 refine wpAny_bind (wpAny_newObj_type ?_); rw [nm]
 have out:s2.heap.objs.size ∉ fp:=fun hm=>Nat.lt_irrefl _ (below _ hm)
 refine wpAny_pure ⟨plainId_quiet F.plain_min_loop _,minS_first W bt cmp s2.heap.objs.size out pos (W.frame _ _ _ st fun b _ o e=>Heap.get?_push_of_some _ e) (Heap.get?_push_size _ rfl) fun v h' tk hP hk=>?_⟩
 exact q v h' tk hP fun b o hbw e=>hk b o hbw (Nat.ne_of_lt (Heap.lt_size e)) (Heap.get?_push_of_some _ e)
end
section
variable {X:Cx}
end
end L2
namespace HT
open PySem PySem.Spec PyProof.Rows L2
def CmpG (prog:Program) (w:World) (A:Around) (P:Nat->Value->Prop) (St:Nat->Heap->Prop) (bt:Nat->Nat->Bool):Prop :=
 ∀ i j vi vj k (s:Shared) (Q:Value->Shared->Prop) (E:Value->Shared->Prop),St k s.heap->P i vi->P j vj->Q (.bool (bt i j)) s->wpAny (model prog w) A (richCompare .Gt vi vj) Q E s
section
variable {prog:Program}{w:World}{A:Around}{R:Result->Shared->Prop}{I:Addr}{fp wr:List Addr}{n:Nat}{P:Nat->Value->Prop}{St:Nat->Heap->Prop}
theorem maxS_loop (W:Walks prog w A.in1 I fp wr n P St) (bt:Nat->Nat->Bool) (cmp:CmpG prog w A.in1 P St bt) (S:Addr) (out:S ∉ fp) (kw:List (Str × Value)) :
  ∀ (k j:Nat) (s:Shared) (vb:Value) (c:Nat),n - (j + 1)=k->j + 1<=n->St (j + 1) s.heap->P (argBest bt j) vb->s.heap.get? S=some { cls:=.type "list",dict:=none,data:=.seq #[vb,vb] c,slots:=#[] } ->
  (∀ v h' tk,P (argBest bt (n - 1)) v->(∀ b o,b ∉ wr->b≠S->s.heap.get? b=some o->h'.get? b=some o)->R (.ok (.ret v)) { s with heap:=h',toks:=tk }) ->
  codeAny (model prog w) A (.builtin "max.loop" ⟨[.ref I,.none,.ref S],kw⟩) R s:=by
 have away:S ∉ wr:=fun h=>out (W.sub _ h)
 have nm:(toString "max" ++ toString ".loop":String)="max.loop":=by decide
 intro k
 induction k with
 | zero =>
  intro j s vb c hk hj st hb at1 q
  have en:j + 1=n:=by omega
  refine codeAny_builtin F.entry_max_loop ?_; rw [Around.under_plainId F.plain_max_loop _]
  show wpAny _ A.in1 (seqItems? (.ref S) >>= _) _ _ s; refine wpAny_bind (wpAny_seqItems at1 rfl ?_); show wpAny _ A.in1 (tryCatch (pyNext (.ref I)) _ >>= _) _ _ s; refine wpAny_bind (wpAny_tryCatch (W.done s _ _ (en ▸ st) fun h' tk kp=>?_))
  show wpAny _ A.in1 (updateSeq S (fun _=>#[]) >>= _) _ _ _; refine wpAny_bind ?_; refine wpAny_updateSeq (kp S _ away at1) rfl (wpAny_bind (wpAny_letGo (wpAny_pure ?_)))
  exact q vb _ tk (by rw [<- en]; exact hb) fun b o h1 h2 e=>(Heap.get?_update_other _ _ (Ne.symm h2)).trans (kp b o h1 e)
 | succ k ih =>
  intro j s vb c hk hj st hb at1 q
  have lt:j + 1 < n:=by omega
  refine codeAny_builtin F.entry_max_loop ?_; rw [Around.under_plainId F.plain_max_loop _]
  show wpAny _ A.in1 (seqItems? (.ref S) >>= _) _ _ s; refine wpAny_bind (wpAny_seqItems at1 rfl ?_); show wpAny _ A.in1 (tryCatch (pyNext (.ref I)) _ >>= _) _ _ s; refine wpAny_bind (wpAny_tryCatch (W.item (j + 1) s _ _ lt st fun v h' tk hP st' kp=>?_))
  have at2:=kp S _ away at1
  show wpAny _ A.in1 (tryCatch (holding [v,v] (richCompare .Gt v vb >>= _)) _ >>= _) _ _ _; refine wpAny_bind (wpAny_tryCatch (wpAny_holding (wpAny_bind (cmp (j + 1) (argBest bt j) v vb _ _ _ _ st' hP hb ?_))))
  refine wpAny_bind (wpAny_holding (wpAny_truthy_bool ?_)); refine wpAny_bind (wpAny_letGo (wpAny_pure ?_))
  cases better:bt (j + 1) (argBest bt j) with
  | true =>
   simp only [if_true]
   refine wpAny_bind ?_; refine wpAny_updateSeq at2 rfl (wpAny_bind (wpAny_letGo ?_))
   rw [nm]
   refine wpAny_pure ⟨plainId_quiet F.plain_max_loop _,ih (j + 1) _ v _ (by omega) lt (W.frame _ _ _ st' fun b hf o e=>(Heap.get?_update_other _ _ (fun h:S=b=>out (by rw [h]; exact hf))).trans e) (by simp only [argBest,better,if_true]; exact hP) (Heap.get?_update_self _ at2 rfl) fun v' h'' tk'' hP' kp'=>?_⟩
   exact q v' h'' tk'' hP' fun b o h1 h2 e=>kp' b o h1 h2 ((Heap.get?_update_other _ _ (Ne.symm h2)).trans (kp b o h1 e))
  | false =>
   simp only [Bool.false_eq_true,if_false]
   refine wpAny_bind (wpAny_letGo ?_)
   rw [nm]
   refine wpAny_pure ⟨plainId_quiet F.plain_max_loop _,ih (j + 1) _ vb c (by omega) lt st' (by simp only [argBest,better,Bool.false_eq_true,if_false]; exact hb) at2 fun v' h'' tk'' hP' kp'=>?_⟩
   exact q v' h'' tk'' hP' fun b o h1 h2 e=>kp' b o h1 h2 (kp b o h1 e)
theorem maxS_first (W:Walks prog w A.in1 I fp wr n P St) (bt:Nat->Nat->Bool) (cmp:CmpG prog w A.in1 P St bt) (S:Addr) (out:S ∉ fp) (pos:0 < n) {s:Shared}{c:Nat}(st:St 0 s.heap)
  (at1:s.heap.get? S=some { cls:=.type "list",dict:=none,data:=.seq #[] c,slots:=#[] })
  (q:∀ v h' tk,P (argBest bt (n - 1)) v->(∀ b o,b ∉ wr->b≠S->s.heap.get? b=some o->h'.get? b=some o)->R (.ok (.ret v)) { s with heap:=h',toks:=tk }) :
  codeAny (model prog w) A (.builtin "max.loop" ⟨[.ref I,.none,.ref S],[]⟩) R s:=by
 have away:S ∉ wr:=fun h=>out (W.sub _ h)
 have nm:(toString "max" ++ toString ".loop":String)="max.loop":=by decide
 refine codeAny_builtin F.entry_max_loop ?_; rw [Around.under_plainId F.plain_max_loop _]
 show wpAny _ A.in1 (seqItems? (.ref S) >>= _) _ _ s; refine wpAny_bind (wpAny_seqItems at1 rfl ?_); show wpAny _ A.in1 (tryCatch (pyNext (.ref I)) _ >>= _) _ _ s; refine wpAny_bind (wpAny_tryCatch (W.item 0 s _ _ pos st fun v h' tk hP st' kp=>?_))
 have at2:=kp S _ away at1
 show wpAny _ A.in1 (updateSeq S (fun _=>#[v,v]) >>= _) _ _ _; refine wpAny_bind ?_; refine wpAny_updateSeq at2 rfl ?_; rw [nm]
 refine wpAny_pure ⟨plainId_quiet F.plain_max_loop _,maxS_loop W bt cmp S out _ _ 0 _ v _ rfl pos (W.frame _ _ _ st' fun b hf o e=>(Heap.get?_update_other _ _ (fun h:S=b=>out (by rw [h]; exact hf))).trans e) hP (Heap.get?_update_self _ at2 rfl) fun v' h'' tk'' hP' kp'=>?_⟩
 exact q v' h'' tk'' hP' fun b o h1 h2 e=>kp' b o h1 h2 ((Heap.get?_update_other _ _ (Ne.symm h2)).trans (kp b o h1 e))
end
end HT
namespace L2
open PySem PySem.Spec PyProof.Rows HT
section
variable {prog:Program}{w:World}{A:Around}{E:Value->Shared->Prop}{s:Shared}
theorem call_maxS2 {a b:Value}{Q:Value->Shared->Prop}
  (h:wpAny (model prog w) A.in1 (pyIter (.ref s.heap.objs.size)) (fun it s2=>∃ I fp wr n P St bt,it=.ref I/\Walks prog w A.in1 I fp wr n P St/\St 0 s2.heap/\(∀ b∈fp,b < s2.heap.objs.size)/\0 < n/\CmpG prog w A.in1 P St bt /\
   ∀ v h' tk,P (argBest bt (n - 1)) v->(∀ b o,b ∉ wr->s2.heap.get? b=some o->h'.get? b=some o)->Q v { s2 with heap:=h',toks:=tk }) E { s with heap:=s.heap.push { cls:=.type "tuple",data:=.seq #[a,b] } }) :
  wpAny (model prog w) A (call (.builtin "max") [a,b]) Q E s:=by
 have nm:(toString "max" ++ toString ".loop":String)="max.loop":=by decide
 refine call_function_tree F.kind_max F.plain_max F.entry_max (F.args_max2 _ _) ?_; show wpAny _ A.in1 (Builtin.Builtins.bindParams "max" ["key","default"] 0 ⟨[],[]⟩ >>= _) _ _ s
 refine wpAny_bind (wpAny_of_eq (show Builtin.Builtins.bindParams "max" ["key","default"] 0 ⟨[],[]⟩=pure [none,none] from rfl) ?_)
 show wpAny _ A.in1 (newTuple [a,b] >>= _) _ _ s
 refine wpAny_bind (wpAny_newObj_type (wpAny_bind (wpAny_mono h (fun it s2 h2=>?_) fun _ _ e=>e)))
 obtain ⟨I,fp,wr,n,P,St,bt,rfl,W,st,below,pos,cmp,q⟩:=h2
 refine wpAny_bind (wpAny_newObj_type ?_); rw [nm]
 have out:s2.heap.objs.size ∉ fp:=fun hm=>Nat.lt_irrefl _ (below _ hm)
 refine wpAny_pure ⟨plainId_quiet F.plain_max_loop _,maxS_first W bt cmp s2.heap.objs.size out pos (W.frame _ _ _ st fun b _ o e=>Heap.get?_push_of_some _ e) (Heap.get?_push_size _ rfl) fun v h' tk hP hk=>?_⟩
 exact q v h' tk hP fun b o hbw e=>hk b o hbw (Nat.ne_of_lt (Heap.lt_size e)) (Heap.get?_push_of_some _ e)
end
section
variable {X:Cx}
theorem call_min2S (hc:X.calm=true):CallR X (.builtin "min") (fun xs H Q=>∃ x y:Str,xs=[.str x,.str y]/\Q (.str (if ltStr y x=true then y else x)) H):=by
 intro pins s σ H xs us Q I r h
 obtain ⟨x,y,rfl,q⟩:=h
 obtain ⟨u,u',rfl,⟨t,rfl⟩,⟨t',rfl⟩⟩:=vals2 r
 have hT:(s.heap.push { cls:=.type "tuple",data:=.seq #[.str x t,.str y t'] }).IsTuple s.heap.objs.size #[.str x t,.str y t']:=⟨_,Heap.get?_push_size _ rfl,rfl,0,rfl⟩
 refine call_minS2 (wpAny_pyIter_tuple hT ?_)
 have z1:(s.heap.push { cls:=.type "tuple",data:=.seq #[.str x t,.str y t'] }).objs.size=s.heap.objs.size + 1:=Heap.size_push ..
 have W:=Walks.tuple (prog:=X.prog) (w:=X.w) (A:=X.A.in1) (I.ok.hd hc) (s.heap.objs.size + 1) s.heap.objs.size (Nat.ne_of_lt (Nat.lt_succ_self _)) #[.str x t,.str y t']
 rw [z1]
 refine ⟨s.heap.objs.size + 1,_,_,2,_,_,fun i j=>ltStr ([x,y].getD i x) ([x,y].getD j x),rfl,W,⟨⟨_,by rw [<- z1]; exact Heap.get?_push_size _ rfl,rfl,rfl⟩,hT.push _⟩,?_,by decide,?_,fun v h' tk hP hk=>?_⟩
 ·intro b hb
  show b < ((s.heap.push _).push _).objs.size
  rw [Heap.size_push,z1]
  simp only [List.mem_cons,List.not_mem_nil,or_false] at hb
  rcases hb with e | e
  ·rw [e]; exact Nat.lt_succ_self _
  ·rw [e]; exact Nat.lt_succ_of_lt (Nat.lt_succ_self _)
 ·intro i j vi vj k s' Q' E' st hi hj hQ
  have two:∀ (i:Nat) (v:Value),(#[Value.str x t,.str y t']:Array Value)[i]?=some v->∃ t,v=.str ([x,y].getD i x) t:=fun i v e=>by
   match i,e with
   | 0,e=>cases e; exact ⟨_,rfl⟩
   | 1,e=>cases e; exact ⟨_,rfl⟩
   | n + 2,e=>simp at e
  obtain ⟨t1,rfl⟩:=two i vi hi
  obtain ⟨t2,rfl⟩:=two j vj hj
  exact (lt_str hQ:wpAny _ _ (compareOp .Lt _ _) _ _ _)
 ·have hP':(#[Value.str x t,.str y t']:Array Value)[argBest (fun i j=>ltStr ([x,y].getD i x) ([x,y].getD j x)) 1]?=some v:=hP
  refine ⟨.str (if ltStr y x=true then y else x),H,I.kept (t':=tk) fun b o e=>hk b o (fun z=>?_) (Heap.get?_push_of_some _ (Heap.get?_push_of_some _ e)),?_,q⟩
  ·have:=Heap.lt_size e
   rw [List.mem_singleton.mp z] at this
   exact absurd this (Nat.not_lt.mpr (Nat.le_succ _))
  ·by_cases hb:ltStr y x=true
   ·have e:argBest (fun i j=>ltStr ([x,y].getD i x) ([x,y].getD j x)) 1=1:=by simp [argBest,hb]
    rw [e] at hP'
    rw [if_pos hb]
    cases hP'
    exact ⟨_,rfl⟩
   ·have e:argBest (fun i j=>ltStr ([x,y].getD i x) ([x,y].getD j x)) 1=0:=by simp [argBest,hb]
    rw [e] at hP'
    rw [if_neg hb]
    cases hP'
    exact ⟨_,rfl⟩
theorem call_max2S (hc:X.calm=true):CallR X (.builtin "max") (fun xs H Q=>∃ x y:Str,xs=[.str x,.str y]/\Q (.str (if ltStr x y=true then y else x)) H):=by
 intro pins s σ H xs us Q I r h
 obtain ⟨x,y,rfl,q⟩:=h
 obtain ⟨u,u',rfl,⟨t,rfl⟩,⟨t',rfl⟩⟩:=vals2 r
 have hT:(s.heap.push { cls:=.type "tuple",data:=.seq #[.str x t,.str y t'] }).IsTuple s.heap.objs.size #[.str x t,.str y t']:=⟨_,Heap.get?_push_size _ rfl,rfl,0,rfl⟩
 refine call_maxS2 (wpAny_pyIter_tuple hT ?_)
 have z1:(s.heap.push { cls:=.type "tuple",data:=.seq #[.str x t,.str y t'] }).objs.size=s.heap.objs.size + 1:=Heap.size_push ..
 have W:=Walks.tuple (prog:=X.prog) (w:=X.w) (A:=X.A.in1) (I.ok.hd hc) (s.heap.objs.size + 1) s.heap.objs.size (Nat.ne_of_lt (Nat.lt_succ_self _)) #[.str x t,.str y t']
 rw [z1]
 refine ⟨s.heap.objs.size + 1,_,_,2,_,_,fun i j=>ltStr ([x,y].getD j x) ([x,y].getD i x),rfl,W,⟨⟨_,by rw [<- z1]; exact Heap.get?_push_size _ rfl,rfl,rfl⟩,hT.push _⟩,?_,by decide,?_,fun v h' tk hP hk=>?_⟩
 ·intro b hb
  show b < ((s.heap.push _).push _).objs.size
  rw [Heap.size_push,z1]
  simp only [List.mem_cons,List.not_mem_nil,or_false] at hb
  rcases hb with e | e
  ·rw [e]; exact Nat.lt_succ_self _
  ·rw [e]; exact Nat.lt_succ_of_lt (Nat.lt_succ_self _)
 ·intro i j vi vj k s' Q' E' st hi hj hQ
  have two:∀ (i:Nat) (v:Value),(#[Value.str x t,.str y t']:Array Value)[i]?=some v->∃ t,v=.str ([x,y].getD i x) t:=fun i v e=>by
   match i,e with
   | 0,e=>cases e; exact ⟨_,rfl⟩
   | 1,e=>cases e; exact ⟨_,rfl⟩
   | n + 2,e=>simp at e
  obtain ⟨t1,rfl⟩:=two i vi hi
  obtain ⟨t2,rfl⟩:=two j vj hj
  exact (PySem.P.gt_str hQ:wpAny _ _ (compareOp .Gt _ _) _ _ _)
 ·have hP':(#[Value.str x t,.str y t']:Array Value)[argBest (fun i j=>ltStr ([x,y].getD j x) ([x,y].getD i x)) 1]?=some v:=hP
  refine ⟨.str (if ltStr x y=true then y else x),H,I.kept (t':=tk) fun b o e=>hk b o (fun z=>?_) (Heap.get?_push_of_some _ (Heap.get?_push_of_some _ e)),?_,q⟩
  ·have:=Heap.lt_size e
   rw [List.mem_singleton.mp z] at this
   exact absurd this (Nat.not_lt.mpr (Nat.le_succ _))
  ·by_cases hb:ltStr x y=true
   ·have e:argBest (fun i j=>ltStr ([x,y].getD j x) ([x,y].getD i x)) 1=1:=by simp [argBest,hb]
    rw [e] at hP'
    rw [if_pos hb]
    cases hP'
    exact ⟨_,rfl⟩
   ·have e:argBest (fun i j=>ltStr ([x,y].getD j x) ([x,y].getD i x)) 1=0:=by simp [argBest,hb]
    rw [e] at hP'
    rw [if_neg hb]
    cases hP'
    exact ⟨_,rfl⟩
end
end L2
namespace L2
open PySem PySem.Spec PyProof.Rows HT
section
variable {X:Cx}{pins:List (Addr × Obj)}{σ:St}{H:Hp}{s:Shared}
end
end L2
namespace L2
open PySem PySem.Spec PyProof.Rows PySem.W
def Trc (h B:Heap) (e:Addr) (cls fl:Value):Prop :=
 ∃ oe vs T oT ts,h.get? e=some oe/\oe.cls=cls/\oe.dict=none/\oe.data=.fields vs/\vs[1]?=some (.ref T)/\vs[2]?=some .none/\B.get? T=none/\T≠e/\h.get? T=some oT/\oT.data=.fields ts/\ts[3]?=some fl
structure FlyC (B:Heap) (l:List Env) (e:Addr) (cls fl:Value) (h:Heap):Prop where
 st:B.StaysIn h
 no:B.get? e=none
 fr:h.FunFrames B l
 tr:Trc h B e cls fl
section
variable {M:Model}{A:Around}{E:Value->Shared->Prop}{s:Shared}{B:Heap}{env:Env}{outer:List Env}{L e:Addr}{cls fl:Value}{Q:Unit->Shared->Prop}
theorem entry_c {oe:Obj}{vs:Array Value}{head:Value}{had:Bool}(hfr:A.frames=some (env :: outer)) (hl:s.heap.FunFrames B (env :: outer)) (hf:env.frame=some L) (he:s.heap.get? e=some oe) (hkb:B.StaysIn s.heap) (hen:B.get? e=none) (hno:oe.dict=none) (hd:oe.data=.fields vs) (h2:vs[2]?=some .none)
  (q:∀ h',FlyC B (env :: outer) e oe.cls (rawInt L) h'->s.heap.UpToSlots h'->Q () { s with heap:=h' }) :
  wpAny M A (do let a <- frameOf env; let pl <- entryPlaceOf L had; let b <- EntryCells.newEntry head a .none (rawInt L) .none pl; setField (.ref e) 1 b) Q E s:=by
 have sz:2 < vs.size:=(Array.getElem?_eq_some_iff.mp h2).1
 have notFr:e ∉ (env :: outer).filterMap (·.frame):=by
  intro z
  obtain ⟨_,u,hu,nf⟩:=hl.mem z
  rw [he] at hu
  cases hu
  exact nf vs hd
 refine wpAny_bind (wpAny_frameOf_fun hfr hl hf fun g so=>wpAny_bind (wpAny_entryPlaceOf fun pl isp=>?_))
 unfold EntryCells.newEntry newFields
 refine wpAny_bind (wpAny_newObj_type ?_ (isp.sizeOk5 _ _ _ _ _))
 generalize hTB:({ cls:=.type "traceback",dict:=none,data:=.fields ([head,.ref L,.none,rawInt L,.none] ++ (if pl.isEmpty then List.replicate 6 Value.none else pl)).toArray }:Obj)=tb
 have dTB:tb.data=.fields ([head,.ref L,.none,rawInt L,.none] ++ (if pl.isEmpty then List.replicate 6 Value.none else pl)).toArray:=by rw [<- hTB]
 have fTB:tb.isFreed=false:=Obj.isFreed_of_fields dTB
 have ge:g.get? e=some oe:=by rw [so.2.1 e notFr]; exact he
 have pe:(g.push tb).get? e=some oe:=Heap.get?_push_of_some tb ge
 have tne:g.objs.size≠e:=fun z=>by
  have:=Heap.lt_size ge
  rw [<- z] at this
  exact Nat.lt_irrefl _ this
 refine wpAny_setField pe hd (by omega) (q _ ?_ ?_)
 ·have d1:=Obj.data_mapFields hd (·.setIfInBounds 1 (Value.ref g.objs.size))
  have gB:B.StaysIn g:=fun b o hb=>by
   rw [so.2.1 b fun z=>by rw [(hl.mem z).1] at hb; cases hb]
   exact hkb b o hb
  have keep:∀ b o,b≠e->g.get? b=some o->((g.push tb).update e (Obj.mapFields (·.setIfInBounds 1 (Value.ref g.objs.size)))).get? b=some o:=fun b o ne hb=>by
   rw [Heap.get?_update_other _ _ (Ne.symm ne)]
   exact Heap.get?_push_of_some tb hb
  refine ⟨fun b o hb=>keep b o (fun z=>by rw [z,hen] at hb; cases hb) (gB b o hb),hen,hl.of_keeps fun b o hb nf=>?_,_,_,g.objs.size,tb,_,Heap.get?_update_self _ pe (Obj.isFreed_of_fields d1),Obj.cls_mapFields _ _,?_,d1,?_,?_,gB.fresh,tne,?_,dTB,?_⟩
  rotate_left
  ·rw [<- hno]; obtain ⟨_,_,dt,_⟩:=oe; cases dt <;> rfl
  rotate_right
  ·obtain ⟨sl,hs⟩:=so.2.2 b o hb
   exact ⟨_,keep b _ (fun z=>by rw [z,he] at hb; cases hb; exact nf vs hd) hs,rfl⟩
  ·rw [Array.getElem?_setIfInBounds_self]
   simp only [show 1 < vs.size by omega,if_true]
  ·rw [Array.getElem?_setIfInBounds_ne (by decide)]; exact h2
  ·rw [Heap.get?_update_other _ _ (Ne.symm tne)]; exact Heap.get?_push_size g fTB
  ·first | (simp; done) | (rcases isp with rfl | ⟨_,_,_,_,_,_,_,rfl⟩ <;> simp)
 ·intro b o hb nf
  obtain ⟨sl,hs⟩:=so.2.2 b o hb
  refine ⟨sl,?_⟩
  have ne:b≠e:=fun z=>by rw [z,he] at hb; cases hb; exact nf vs hd
  rw [Heap.get?_update_other _ _ (Ne.symm ne)]
  exact Heap.get?_push_of_some tb hs
theorem look_made {h0:Heap}{args:List Value}(hfr:A.frames=some (env :: outer)) (hf:env.frame=some L) (hkb:B.StaysIn h0) (hl:h0.FunFrames B (env :: outer)) (mk:Heap.MadeExcOf h0 s.heap e cls args)
  (q:∀ h',FlyC B (env :: outer) e cls (rawInt L) h'->s.heap.UpToSlots h'->Q () { s with heap:=h' }):wpAny M A (noteFrame (.ref e) env) Q E s:=by
 obtain ⟨t,he,_,_⟩:=mk.there
 have hen:B.get? e=none:=fresh_of_stays hkb mk.new
 unfold noteFrame
 simp only [hf]
 refine wpAny_bind (wpAny_field (x:=Value.none) he rfl rfl ?_)
 rw [if_neg (by decide)]
 exact entry_c (oe:={ cls:=cls,data:=.fields #[.ref t,.none,.none,.none,.bool false,.none] }) hfr (hl.of_keeps fun b o hb _=>⟨o,mk.keeps b o hb,rfl⟩) hf he (fun b o hb=>mk.keeps b o (hkb b o hb)) hen rfl rfl rfl q
theorem look_on (hfr:A.frames=some (env :: outer)) (hf:env.frame=some L) (F:FlyC B (env :: outer) e cls .none s.heap)
  (q:∀ h',FlyC B (env :: outer) e cls (rawInt L) h'->s.heap.UpToSlots h'->Q () { s with heap:=h' }):wpAny M A (noteFrame (.ref e) env) Q E s:=by
 obtain ⟨st,no,fr,oe,vs,T,oT,ts,he,hc,hno,hd,v1,v2,tB,tne,hT,hdT,t3⟩:=F
 subst hc
 unfold noteFrame
 simp only [hf]
 refine wpAny_bind (wpAny_field he hd v1 ?_)
 rw [if_pos (by simp)]
 refine wpAny_bind (wpAny_field hT hdT t3 ?_)
 rw [if_neg (by simp [rawInt])]
 refine wpAny_bind (wpAny_setField hT hdT (Array.getElem?_eq_some_iff.mp t3).1 ?_)
 generalize hg:s.heap.update T (Obj.mapFields (·.setIfInBounds 3 Value.none))=g
 have els:∀ b,b≠T->g.get? b=s.heap.get? b:=fun b nb=>by rw [<- hg]; exact Heap.get?_update_other _ _ (Ne.symm nb)
 have rec':∀ b o,s.heap.get? b=some o->(∀ ws,o.data≠.fields ws)->b≠T:=fun b o hb nf z=>by
  rw [z,hT] at hb
  cases hb
  exact nf ts hdT
 have ups:s.heap.UpToSlots g:=fun b o hb nf=>⟨o.slots,by rw [els b (rec' b o hb nf)]; exact hb⟩
 refine entry_c (s:={ s with heap:=g }) hfr (fr.of_keeps fun b o hb nf=>⟨o,by rw [els b (rec' b o hb nf)]; exact hb,rfl⟩) hf (by rw [els e tne.symm]; exact he) (fun b o hb=>?_) no hno hd v2 fun h' F' u=>q h' F' (ups.trans u)
 rw [els b fun z=>by rw [z,tB] at hb; cases hb]
 exact st b o hb
theorem land_c {l:List Env}(F:FlyC B l e cls fl s.heap) (q:∀ h',FlyC B l e cls .none h'->s.heap.UpToSlots h'->Q () { s with heap:=h' }):wpAny M A (setFlight (.ref e) none) Q E s:=by
 obtain ⟨st,no,fr,oe,vs,T,oT,ts,he,hc,hno,hd,v1,v2,tB,tne,hT,hdT,t3⟩:=F
 have s3:3 < ts.size:=(Array.getElem?_eq_some_iff.mp t3).1
 unfold setFlight
 refine wpAny_bind (wpAny_field he hd v1 ?_)
 rw [if_pos (by simp)]
 refine wpAny_setField hT hdT s3 ?_
 generalize hg:s.heap.update T (Obj.mapFields (·.setIfInBounds 3 ((none:Option Addr).elim Value.none fun f=>rawInt f)))=g
 have els:∀ b,b≠T->g.get? b=s.heap.get? b:=fun b nb=>by rw [<- hg]; exact Heap.get?_update_other _ _ (Ne.symm nb)
 have rec':∀ b o,s.heap.get? b=some o->(∀ ws,o.data≠.fields ws)->b≠T:=fun b o hb nf z=>by
  rw [z,hT] at hb
  cases hb
  exact nf ts hdT
 have d3:=Obj.data_mapFields hdT (·.setIfInBounds 3 ((none:Option Addr).elim Value.none fun f=>rawInt f))
 refine q g ⟨fun b o hb=>?_,no,fr.of_keeps fun b o hb nf=>⟨o,by rw [els b (rec' b o hb nf)]; exact hb,rfl⟩,oe,vs,T,_,_,by rw [els e tne.symm]; exact he,hc,hno,hd,v1,v2,tB,tne,by rw [<- hg]; exact Heap.get?_update_self _ hT (Obj.isFreed_of_fields d3),d3,?_⟩ (fun b o hb nf=>⟨o.slots,by rw [els b (rec' b o hb nf)]; exact hb⟩)
 ·rw [els b fun z=>by rw [z,tB] at hb; cases hb]
  exact st b o hb
 ·simp [s3]
theorem leave_on (hfr:A.frames=some (env :: outer)) (hf:env.frame=some L) (F:FlyC B (env :: outer) e cls .none s.heap)
  (q:∀ h',FlyC B outer e cls .none h'->s.heap.UpToSlots h'->Q () { s with heap:=h' }):wpAny M A (leaving env (.ref e)) Q E s:=by
 unfold leaving
 refine wpAny_bind (look_on hfr hf F fun g G u=>land_c (s:={ s with heap:=g }) G fun h' G' u'=>q h' ⟨G'.st,G'.no,G'.fr.2.2,G'.tr⟩ (u.trans u'))
theorem leave_made {h0:Heap}{args:List Value}(hfr:A.frames=some (env :: outer)) (hf:env.frame=some L) (hkb:B.StaysIn h0) (hl:h0.FunFrames B (env :: outer)) (mk:Heap.MadeExcOf h0 s.heap e cls args)
  (q:∀ h',FlyC B outer e cls .none h'->s.heap.UpToSlots h'->Q () { s with heap:=h' }):wpAny M A (leaving env (.ref e)) Q E s:=by
 unfold leaving
 refine wpAny_bind (look_made hfr hf hkb hl mk fun g G u=>land_c (s:={ s with heap:=g }) G fun h' G' u'=>q h' ⟨G'.st,G'.no,G'.fr.2.2,G'.tr⟩ (u.trans u'))
end
end L2
namespace L2
open PySem PySem.Spec PyProof.Rows PySem.W
def Fly (l:List Env) (H:Hp) (a:Addr) (cls:Value) (h hs:Heap) (Hs:Hp):Prop :=
 ∃ B:Heap,FlyC B l a cls .none h/\(∀ b u,H b=some u->∃ o,B.get? b=some o) /\
  (∀ b o,hs.get? b=some o->Hs b=none->b ∉ frs l->B.get? b=some o)/\∀ b o,hs.get? b=some o->b ∉ frs l->∃ o',B.get? b=some o'
theorem objOk_there {P:Program}{w:World}{H:Hp}{h:Heap}{a:Addr}{o:HO}(x:ObjOk P w H h a o):∃ u,h.get? a=some u:=by
 induction o with
 | lst xs=>obtain ⟨_,its,n,_,e⟩:=x; exact ⟨_,e⟩
 | tup xs=>obtain ⟨_,its,_,ob,e,_⟩:=x; exact ⟨_,e⟩
 | dK kvs=>obtain ⟨_,_,vs,_,ob,es,ep,e,_⟩:=x; exact ⟨_,e⟩
 | dT kvs=>obtain ⟨_,_,xs,_,ob,es,ep,e,_⟩:=x; exact ⟨_,e⟩
 | set S n=>obtain ⟨ob,es,ep,t,e,_⟩:=x; exact ⟨_,e⟩
 | ins C dx fs=>obtain ⟨_,_,_,e,_⟩:=x; exact ⟨_,e⟩
 | own y=>exact x
 | xd fs=>obtain ⟨mA,⟨od,es,ep,e,_⟩,_⟩:=x; exact ⟨_,e⟩
 | rng lo hi=>obtain ⟨t,u,v,e⟩:=x; exact ⟨_,e⟩
 | frz ob u ih=>exact ⟨_,x.1⟩
 | tbl ps=>exact ⟨_,(show h.get? a=some _ from x)⟩
 | met f y=>exact ⟨_,(show h.get? a=some _ from x)⟩
 | ext φ=>exact x.2.1
def CXE (P:Program) (w:World):CXT:=fun outer H s E e s'=>∃ a cls H',e=.ref a/\s'.os=s.os/\AllBare s'.gens/\Un (frs outer) [] H H' s.heap s'.heap/\HOk P w H' s'.heap/\E cls none H'/\Fly outer H' a cls s'.heap s.heap H
section
variable {X:Cx}{pins:List (Addr × Obj)}{σ:St}{H:Hp}{s:Shared}
theorem Inv.flown {B h':Heap}(I:Inv X pins σ H s) (kB:B.StaysIn s.heap) (kB':B.StaysIn h') (ups:s.heap.UpToSlots h') (trk:∀ b u,H b=some u->∃ o,B.get? b=some o)
  (hp:∀ p∈X.pn ++ pins,B.get? p.1=some p.2) (o1:∀ b o,X.s₀.heap.get? b=some o->X.H₀ b=none->b ∉ X.fs->b ∉ X.ex->B.get? b=some o) (o2:∀ b o,X.s₀.heap.get? b=some o->b ∉ X.fs->b ∉ X.ex->∃ o',B.get? b=some o') :
  Inv X pins σ H { s with heap:=h' }:=by
 have fr:∀ b,b∈X.fs->∃ o,s.heap.get? b=some o/\∃ sl,h'.get? b=some { o with slots:=sl }:=fun b hb=>by
  obtain ⟨_,o,ho,hnf⟩:=I.funs.mem hb
  exact ⟨o,ho,ups b o ho hnf⟩
 refine ⟨I.ok,I.os,I.bare,⟨fun b o q n hb hx=>kB' b o (o1 b o q n hb hx),fun b o q n hb hx=>?_,I.base.free,fun b o q hx=>?_,I.base.tups,I.base.frzs,I.base.tbls⟩,?_,fun x c e=>?_,I.free,I.freeC,fun p hq=>?_,fun a o e=>?_,I.len⟩
 ·obtain ⟨sl,e1⟩:=I.base.slot b o q n hb hx
  obtain ⟨o',e2,sl2,e3⟩:=fr b hb
  rw [e1] at e2; cases e2
  exact ⟨sl2,e3⟩
 ·by_cases hb:b∈X.fs
  ·obtain ⟨o',_,sl,e⟩:=fr b hb
   exact ⟨_,e⟩
  ·obtain ⟨o',e⟩:=o2 b o q hb hx
   exact ⟨o',kB' _ _ e⟩
 ·obtain ⟨m,hn,hl⟩:=I.loc
  refine ⟨m,ups.ns hn,fun i x v e1 e2 e3=>?_⟩
  obtain ⟨u,r,lk⟩:=hl i x v e1 e2 e3
  refine ⟨u,r,?_⟩
  rcases lk with lk | ⟨lk,c,ec,oc,hc,hd⟩
  ·exact .inl lk
  ·obtain ⟨sl,es⟩:=ups c oc hc fun vs z=>by rw [hd] at z; cases z
   exact .inr ⟨lk,c,ec,_,es,hd⟩
 ·obtain ⟨v,oc,hc,hd⟩:=I.cell x c e
  obtain ⟨sl,es⟩:=ups c oc hc fun vs z=>by rw [hd] at z; cases z
  exact ⟨v,_,es,hd⟩
 ·obtain ⟨_,p2⟩:=I.pin p hq
  exact ⟨kB' _ _ (hp p hq),p2⟩
 ·refine (I.hok a o e).stay (fun b u hb eu=>?_) (fun _ z=>z) (fun _ _ z=>z)
  have ht:∃ u',H b=some u':=by
   rcases hb with rfl | hb
   ·exact ⟨_,e⟩
   ·exact ⟨_,hb⟩
  obtain ⟨u',ht⟩:=ht
  obtain ⟨o',ho'⟩:=trk b u' ht
  have:=kB _ _ ho'
  rw [eu] at this; cases this
  exact kB' _ _ ho'
structure FlyIn (X:Cx) (pins:List (Addr × Obj)) (H:Hp) (a:Addr) (cls:Value) (h:Heap):Prop where
 ex:∃ B:Heap,FlyC B X.stack a cls .none h/\(∀ b u,H b=some u->∃ o,B.get? b=some o)/\(∀ p∈X.pn ++ pins,B.get? p.1=some p.2) /\
  (∀ b o,X.s₀.heap.get? b=some o->X.H₀ b=none->b ∉ X.fs->b ∉ X.ex->B.get? b=some o)/\∀ b o,X.s₀.heap.get? b=some o->b ∉ X.fs->b ∉ X.ex->∃ o',B.get? b=some o'
theorem Inv.nostk (I:Inv X pins σ H s) {b:Addr}{o:Obj}(q:X.s₀.heap.get? b=some o) (hb:b ∉ X.fs):b ∉ frs X.stack:=fun z=>by
 rcases List.mem_cons.mp (I.stkSub b z) with e | e
 ·have h1:=Heap.lt_size q
  rw [e] at h1
  exact absurd h1 (Nat.not_lt.mpr I.ok.above)
 ·exact hb e
theorem Inv.flyin {H':Hp}{a:Addr}{cls:Value}{s':Shared}(I:Inv X pins σ H s) (F:Fly X.stack H' a cls s'.heap s.heap H):FlyIn X pins H' a cls s'.heap:=by
 obtain ⟨B,hfl,trk,o1,o2⟩:=F
 refine ⟨B,hfl,trk,fun p hp=>?_,fun b o q n hb hx=>?_,fun b o q hb hx=>?_⟩
 ·obtain ⟨p1,p2,p3,p4,_⟩:=I.pin p hp
  exact o1 _ _ p1 p2 fun z=>(List.mem_cons.mp (I.stkSub _ z)).elim p3 p4
 ·exact o1 b o (I.base.keep b o q n hb hx) (I.base.free b o q n hx) (I.nostk q hb)
 ·obtain ⟨o',e⟩:=I.base.there b o q hx
  exact o2 b o' e (I.nostk q hb)
end
def Lets (X:Cx) (W:Value->St->Hp->Prop):Prop :=
 ∀ (pins:List (Addr × Obj)) (σ:St) (H:Hp) (s:Shared) (e:Value) (s':Shared),Inv X pins σ H s->CXE X.prog X.w X.stack H s (fun cls _ H'=>W cls σ H') e s'->X.xe e s'
def Makes (X:Cx) (W:Value->St->Hp->Prop):Prop :=
 ∀ (pins:List (Addr × Obj)) (σ:St) (H:Hp) (s:Shared) (h':Heap) (e:Addr) (cls:Value) (vs:List Value),Inv X pins σ H s->Heap.MadeExcOf s.heap h' e cls vs->W cls σ H->X.xe (.ref e) { s with heap:=h' }
section
variable {P:Program}{w:World}{K:PySem.W.Frag}{mg:Str->Option Value}{base:Heap}{N:List Str}{qual:Str}{scope:Scope}{f:Addr}{cd:Value}{A:Around}{outer:List Env}{s:Shared}{H:Hp}{E:XK}
theorem lets0:Lets (cxOf (CXE P w) P w K mg base N qual scope f cd A outer s H E) (fun cls _ H'=>E cls none H'):=by
 rintro pins σ H1 s1 e s' I ⟨a,cls,H',rfl,os,bare,un,hok,q,F⟩
 have J:=I.call' os un hok bare (fun b z=>absurd z (by simp))
 obtain ⟨B,hfl,trk,hp,o1,o2⟩:=(I.flyin F).ex
 show wpAny _ _ (leaving _ (.ref a)) _ _ s'
 refine leave_on I.ok.frames rfl hfl fun h' x1 x2=>?_
 have J':=J.flown hfl.st x1.st x2 trk hp o1 o2
 exact ⟨a,cls,H',rfl,J'.os,J'.bare,J'.base,J'.hok,q,B,x1,trk,fun b o q n hb=>o1 b o q n hb (by intro z; cases z),fun b o q hb=>o2 b o q hb (by intro z; cases z)⟩
theorem makes0:Makes (cxOf (CXE P w) P w K mg base N qual scope f cd A outer s H E) (fun cls _ H'=>E cls none H'):=by
 intro pins σ H1 s1 h1 e cls vs I hx q
 have hin:∀ env∈(cxOf (CXE P w) P w K mg base N qual scope f cd A outer s H E).stack,∀ a,env.frame=some a->a∈frs (cxOf (CXE P w) P w K mg base N qual scope f cd A outer s H E).stack:=fun env he a hf=>List.mem_filterMap.mpr ⟨env,he,hf⟩
 show wpAny _ _ (leaving _ (.ref e)) _ _ _
 refine leave_made (B:=hideAll s1.heap (frs (cxOf (CXE P w) P w K mg base N qual scope f cd A outer s H E).stack)) (h0:=s1.heap) I.ok.frames rfl (fun b o q=>of_hideAll _ q) (funFrames_hide I.stack hin) hx fun h' x1 x4=>?_
 have kB:(hideAll s1.heap (frs (cxOf (CXE P w) P w K mg base N qual scope f cd A outer s H E).stack)).StaysIn h1:=fun b o q=>hx.keeps _ _ (of_hideAll _ q)
 have I1:Inv _ pins σ H1 { s1 with heap:=h1 }:=I.kept (t':=s1.toks) fun b o e=>hx.keeps b o e
 have trk:∀ b u,H1 b=some u->∃ o,(hideAll s1.heap (frs (cxOf (CXE P w) P w K mg base N qual scope f cd A outer s H E).stack)).get? b=some o:=fun b u e=>by
  have hb:=(I.hok b u e).lt
  cases g:s1.heap.get? b with
  | none=>exact absurd g (by obtain ⟨o,ho⟩:=objOk_there (I.hok b u e); rw [ho]; simp)
  | some o=>exact ⟨o,hideAll_get _ g fun z=>by rw [I.stkFree b z] at e; cases e⟩
 have hp:∀ p∈[] ++ pins,(hideAll s1.heap (frs (cxOf (CXE P w) P w K mg base N qual scope f cd A outer s H E).stack)).get? p.1=some p.2:=fun p hq=>by
  obtain ⟨p1,p2,p3,p4,_⟩:=I.pin p hq
  exact hideAll_get _ p1 fun z=>(List.mem_cons.mp (I.stkSub _ z)).elim p3 p4
 have o1:∀ b o,s.heap.get? b=some o->H b=none->b ∉ frs outer->b ∉ ([]:List Addr)->(hideAll s1.heap (frs (cxOf (CXE P w) P w K mg base N qual scope f cd A outer s H E).stack)).get? b=some o:=fun b o q n hb hx=>hideAll_get _ (I.base.keep b o q n hb hx) (I.nostk q hb)
 have o2:∀ b o,s.heap.get? b=some o->b ∉ frs outer->b ∉ ([]:List Addr)->∃ o',(hideAll s1.heap (frs (cxOf (CXE P w) P w K mg base N qual scope f cd A outer s H E).stack)).get? b=some o':=fun b o q hb hx=>by
  obtain ⟨o',e⟩:=I.base.there b o q hx
  exact ⟨o',hideAll_get _ e (I.nostk q hb)⟩
 have J':=I1.flown kB x1.st x4 trk hp o1 o2
 exact ⟨e,cls,H1,rfl,J'.os,J'.bare,J'.base,J'.hok,q,_,x1,trk,fun b o q n hb=>o1 b o q n hb (by intro z; cases z),fun b o q hb=>o2 b o q hb (by intro z; cases z)⟩
end
end L2
namespace L2
open PySem PySem.Spec PyProof.Rows PySem.W
abbrev vErr:List Value:=[.type "ValueError",.type "Exception",.type "BaseException",.type "object"]
structure ExcC (K:Frag) (mg:Str->Option Value) (x:Str) (C:Addr):Prop where
 at':mg x=some (.ref C)
 is:excIn K C vErr "ValueError.__new__"=true
theorem ExcC.own {K:Frag}{mg:Str->Option Value}{x:Str}{C:Addr}{h:Heap}(O:ExcC K mg x C) (kin:K.In h):OwnCls x C vErr "ValueError.__new__" mg h:=by
 have q:=O.is
 refine ⟨O.at',?_⟩
 unfold excIn at q
 split at q
 case h_2=>exact absurd q (by decide)
 case h_1 d0 c0 s0 look =>
  split at q
  case h_2=>exact absurd q (by decide)
  case h_1 C1 tl a0 a1 a2 a3 nw a5 em es =>
   rcases c0 with ⟨c1,c2,c3,c4,c5,c6,c7,c8,c9,c10,c11⟩
   rcases s0 with ⟨sl⟩
   simp only [Bool.and_eq_true,beq_iff_eq,Bool.not_eq_true'] at q
   obtain ⟨⟨⟨⟨⟨g1,g2⟩,g3⟩,g4⟩,g5⟩,g6⟩:=q
   dsimp only at em es g3 g5 g6
   subst g1 g2 g3 em es
   exact ⟨tl,c4,c1,c5,c2,c6,c7,c8,c9,c10,d0,a0,a1,a2,a3,a5,h.nsMap c4,kin _ _ look,.of_isNs (isNs_of_in kin g5),nsMap_none_of_in kin g5 g6,tail_of_in kin g4⟩
section
variable {X:Cx}{W:Value->St->Hp->Prop}
def tRaise (W:Value->St->Hp->Prop) (cls:Value) (t:TA):TS:=fun _ σ H=>t σ H fun vs H1=>vs.length<=sizeLine/\W cls σ H1
theorem ps_raise {x:Str}{C:Addr}{e:Expr}{es:List Expr}{t:TA}{np cpos pos:Pos}(hM:Makes X W) (hc:X.calm=true) (O:ExcC X.K X.mg x C) (hg:Gl X x) (ha:PA X (e :: es) t) (hdb:(x == ("__debug__":Str))=false:=by decide)
  (he:starEach (e :: es) X.env=(false,eval e X.env) :: starEach es X.env:=by rfl) (hpl:(backTo cpos (starEach es X.env)).any (·.1)=false:=by rfl) :
  PS X (.Raise (some (.Call (.Name x np) (e :: es) [] cpos)) none pos) (tRaise W (.ref C) t):=by
 intro pins s σ H D I h
 have OB:=O.own I.ok.mod.kin
 obtain ⟨tl,N,nm,q,bs,hdct,sn,sub,ab,col,dd,k0,k1,k2,k3,k5,mN,hC,hN,hni,T⟩:=OB.obj
 refine wpAny_Raise_call_subT (C:=C) (nm:=nm) (q:=q) (N:=N) (bs:=bs) (bm:=tl) (hdct:=hdct) (sn:=sn) (sub:=sub) (ab:=ab) (col:=col) (dd:=dd) (k0:=k0) (k1:=k1) (k2:=k2) (k3:=k3) (k5:=k5)
  PySem.F.excBase_ValueError (mN:=mN) (T.hasType PySem.F.excBase_ValueError.hasBase) (I.ok.hd hc) (by rw [he]; show (false || (backTo cpos (starEach es X.env)).any (·.1))=false; rw [hpl]; rfl) hni (ld_glob I hg O.at' ⟨rfl,?_⟩ hdb)
 have h2:=ha cpos pins s σ H _ I h
 rw [he] at h2 ⊢
 refine Calls.evalArgs_plain (wpAny_mono h2 (fun vs s₂ ⟨xs,H1,I1,r,z,q⟩=>⟨rfl,by rw [<- r.length]; exact z,I1.bk _ _ hC,hN.keeps I1.bk,T.keeps I1.bk,fun h' e' mk=>?_⟩) fun _ _ y=>y)
 exact hM pins σ H1 s₂ h' e' (.ref C) vs I1 mk q
theorem run_fnX {CX:CXT}{k:Nat}{f:Addr}{fd:FuncData}{ps:List Str}{sp:Sp}{ds:List Value}{dvs:List V}{pins:List (Addr × Obj)}{σ:St}{H:Hp}{s:Shared}{Q:VK}{us:List Value}{vs:List V}(F:FnOk X.prog X.w X.K X.mg X.base (CXE X.prog X.w) k f fd ps sp) (hr:Room k X.A) (hb:Binds X.K fd ps ds) (hd:Vals dvs ds) (hL:Lets X W)
  (I:Inv X pins σ H s) (r:Vals vs us) (h:sp (vs ++ dvs) H Q (fun cls _ H'=>W cls σ H')):wpAny (model X.prog X.w) X.A (call (.ref f) us) (EP X pins σ Q) X.xe s:=by
 have r2:Vals (vs ++ dvs) (us ++ ds):=r.append hd
 have hl:(us ++ ds).length=ps.length:=by rw [<- r2.length]; exact F.len _ _ _ _ h
 refine wpAny_call (codeAny_mono (F.run X.A X.stack s H ⟨us,[]⟩ (us ++ ds) (vs ++ dvs) Q _ hr I.env0 (hb s us I.kIn hl) r2 h) fun r s' hq=>?_)
 cases r with
 | error e=>exact hL pins σ H s e s' I hq
 | ok fl =>
  cases fl with
  | ret u=>exact I.after hq
  | next=>exact False.elim hq
  | brk=>exact False.elim hq
  | cont=>exact False.elim hq
def tCallX (sp:Sp) (dvs:List V) (W:Value->St->Hp->Prop) (t:TA):TE:=fun σ H Q=>t σ H fun vs H1=>sp (vs ++ dvs) H1 Q fun cls _ H'=>W cls σ H'
theorem pe_callX {k:Nat}{f:Addr}{fd:FuncData}{x:Str}{ps:List Str}{sp:Sp}{ds:List Value}{dvs:List V}{e:Expr}{es:List Expr}{t:TA}{p pos:Pos}(F:FnOk X.prog X.w X.K X.mg X.base (CXE X.prog X.w) k f fd ps sp) (hr:Room k X.A) (hg:Gl X x) (hm:X.mg x=some (.ref f)) (hk:PySem.W.keepIn X.K (.ref f)=true) (hb:Binds X.K fd ps ds) (hd:Vals dvs ds) (hL:Lets X W)
  (ha:PA X (e :: es) t) (hdb:(x == ("__debug__":Str))=false:=by decide) (he:starEach (e :: es) X.env=(false,eval e X.env) :: starEach es X.env:=by rfl) (hpl:(backTo pos (starEach es X.env)).any (·.1)=false:=by rfl) :
  PE X (.Call (.Name x p) (e :: es) [] pos) (tCallX sp dvs W t):=by
 intro pins s σ H Q I h
 refine wpAny_Call_Name_kw (ld_glob I hg hm ?_ hdb)
 refine PySem.W.callWith_K (h₀:=X.base) I.ok.mod.kin hk (thn (ha pos pins s σ H _ I h) fun us s1 hz0=>?_) he hpl
 obtain ⟨vs,H1,I1,r,q⟩:=hz0
 refine ⟨I1.kIn,?_⟩
 exact run_fnX (CX:=CX0) F hr hb hd hL I1 r q
theorem PS.nox {st:Stmt}{t:TS}(h:PS X.nox st t):PS X st t:=fun pins s σ H D I hw =>
 wpAny_mono (h pins s σ H D (I.wish _) hw) (fun _ _ q=>q.unwish) fun _ _ z=>False.elim z
end
theorem Fun.okX {P:Program}{w:World}{K:PySem.W.Frag}{mg:Str->Option Value}{base:Heap}{x qual:Str}{st:Stmt}{f:Addr}{fd:FuncData}{N ps:List Str}{k:Nat}{sp:Sp}(F:Fun K x qual st f fd) (S:FnScope N ps (defScope st)) (len:∀ vs H Q E,sp vs H Q E->vs.length=ps.length)
  (hbody:∀ (cdv:Value) (A:Around) (outer:List Env) (s:Shared) (H:Hp) (vs:List V) (Q:VK) (E:XK),Room k (A.deeper (envOfC qual (defScope st) s.heap.objs.size f cdv))->sp vs H Q E ->
   ∃ t,PSs (cxOf (CXE P w) P w K mg base N qual (defScope st) f cdv A outer s H E) (defBody st) t/\t { nx:=fun _ H'=>Q .non H',rt:=Q } (start N vs) H):FnOk P w K mg base (CXE P w) (k + 1) f fd ps sp:=by
 obtain ⟨oc,od,kV,doc,pm,an,cdv,ct,osl,rfl,lk,hcd⟩:=F.ex
 exact fn_of lk hcd S len fun A outer s H vs Q E hr hsp=>hbody cdv A outer s H vs Q E hr hsp
end L2
namespace L2
open PySem PySem.Spec PyProof.Rows PySem.W
abbrev Cx.tryC (X:Cx) (pins:List (Addr × Obj)) (W:Value->St->Hp->Prop):Cx :=
 { X with pn:=X.pn ++ pins,xe:=fun e s'=>∃ a cls σ H',e=.ref a/\Inv X pins σ H' s'/\FlyIn X pins H' a cls s'.heap/\W cls σ H' }
abbrev Cx.hnd (X:Cx) (a:Addr):Cx:={ X with A:=X.A.mark (some (.ref a)),calm:=false,xe:=fun _ _=>False }
section
variable {X:Cx}{pins:List (Addr × Obj)}{σ:St}{H:Hp}{s:Shared}{W:Value->St->Hp->Prop}
theorem Inv.tryC (I:Inv X pins σ H s) (W:Value->St->Hp->Prop):Inv (X.tryC pins W) [] σ H s :=
 ⟨⟨I.ok.mod,I.ok.kind,I.ok.glob,I.ok.blt,I.ok.above,I.ok.inj,I.ok.has,I.ok.cab,I.ok.hd,I.ok.frames,I.ok.stk,I.ok.exf,I.ok.bs,I.ok.bsz,I.ok.noex,I.ok.exfs,I.ok.funs,I.ok.frf⟩,I.os,I.bare,I.base,I.loc,I.cell,I.free,I.freeC,fun p hp=>I.pin p (by simpa using hp),I.hok,I.len⟩
theorem Inv.untry {pins':List (Addr × Obj)}(I:Inv (X.tryC pins W) pins' σ H s):Inv X pins σ H s :=
 ⟨⟨I.ok.mod,I.ok.kind,I.ok.glob,I.ok.blt,I.ok.above,I.ok.inj,I.ok.has,I.ok.cab,I.ok.hd,I.ok.frames,I.ok.stk,I.ok.exf,I.ok.bs,I.ok.bsz,I.ok.noex,I.ok.exfs,I.ok.funs,I.ok.frf⟩,I.os,I.bare,I.base,I.loc,I.cell,I.free,I.freeC,fun p hp=>I.pin p (List.mem_append_left _ hp),I.hok,I.len⟩
theorem Inv.hnd (I:Inv X pins σ H s) (a:Addr):Inv (X.hnd a) pins σ H s :=
 ⟨⟨I.ok.mod,I.ok.kind,I.ok.glob,I.ok.blt,I.ok.above,I.ok.inj,I.ok.has,I.ok.cab,(fun z=>nomatch z),I.ok.frames,I.ok.stk,I.ok.exf,I.ok.bs,I.ok.bsz,I.ok.noex,I.ok.exfs,I.ok.funs,I.ok.frf⟩,I.os,I.bare,I.base,I.loc,I.cell,I.free,I.freeC,I.pin,I.hok,I.len⟩
theorem Inv.unhnd (c:X.calm=true->X.A.handled=none) (f:X.A.frames=some X.stack) {a:Addr}(I:Inv (X.hnd a) pins σ H s):Inv X pins σ H s :=
 ⟨⟨I.ok.mod,I.ok.kind,I.ok.glob,I.ok.blt,I.ok.above,I.ok.inj,I.ok.has,I.ok.cab,c,f,I.ok.stk,I.ok.exf,I.ok.bs,I.ok.bsz,I.ok.noex,I.ok.exfs,I.ok.funs,I.ok.frf⟩,I.os,I.bare,I.base,I.loc,I.cell,I.free,I.freeC,I.pin,I.hok,I.len⟩
theorem SP.untry {D:Ends}{f:Flow}{s':Shared}{pins':List (Addr × Obj)}(h:SP (X.tryC pins W) pins' D f s'):SP X pins D f s':=by
 cases f with
 | next=>obtain ⟨σ',H',I,q⟩:=h; exact ⟨σ',H',I.untry,q⟩
 | brk=>obtain ⟨σ',H',I,q⟩:=h; exact ⟨σ',H',I.untry,q⟩
 | cont=>obtain ⟨σ',H',I,q⟩:=h; exact ⟨σ',H',I.untry,q⟩
 | ret u=>obtain ⟨v,σ',H',I,r,q⟩:=h; exact ⟨v,σ',H',I.untry,r,q⟩
theorem letsT:Lets (X.tryC pins W) W:=by
 rintro pins' σ H s e s' I ⟨a,cls,H',rfl,os,bare,un,hok,q,F⟩
 have J:=I.call' os un hok bare (fun b z=>absurd z (by simp))
 obtain ⟨B,hfl,trk,hp,o1,o2⟩:=(I.flyin F).ex
 exact ⟨a,cls,σ,H',rfl,J.untry,⟨B,hfl,trk,fun p h=>hp p (List.mem_append_left _ h),o1,o2⟩,q⟩
theorem Inv.track {a:Addr}{o:HO}(I:Inv X pins σ H s) (n:H a=none) (n0:X.s₀.heap.get? a=none) (nl:a≠X.env.locals) (nc:∀ x c,X.env.cells.lookup x=some c->c≠a) (np:∀ p∈X.pn ++ pins,p.1≠a) (ok:ObjOk X.prog X.w (upd H a o) s.heap a o):Inv X pins σ (upd H a o) s:=by
 refine ⟨I.ok,I.os,I.bare,⟨I.base.keep,I.base.slot,fun b u q m hx=>?_,I.base.there,fun b xs e=>?_,fun b u v e=>?_,fun b ps e=>?_⟩,I.loc,I.cell,?_,fun x c e=>?_,fun p hp=>?_,fun b u e=>?_,I.len⟩
 ·rw [upd_ne (fun z=>by rw [z,n0] at q; cases q)]
  exact I.base.free b u q m hx
 ·have:=I.base.tups b xs e
  rw [upd_ne (ne_of_none this n)]; exact this
 ·have:=I.base.frzs b u v e
  rw [upd_ne (ne_of_none this n)]; exact this
 ·obtain ⟨m,this⟩:=I.base.tbls b ps e
  exact ⟨m,by rw [upd_ne (ne_of_none this n)]; exact this⟩
 ·rw [upd_ne nl.symm]; exact I.free
 ·rw [upd_ne (nc x c e)]; exact I.freeC x c e
 ·obtain ⟨p1,p2,p3⟩:=I.pin p hp
  exact ⟨p1,by rw [upd_ne (np p hp)]; exact p2,p3⟩
 ·by_cases eb:b=a
  ·subst eb
   rw [upd_same] at e
   cases e
   exact ok
  ·rw [upd_ne eb] at e
   refine (I.hok b u e).stay (fun _ _ _ z=>z) (fun c z=>?_) (fun c xs z=>?_)
   ·rw [upd_ne (ne_of_none z n)]; exact z
   ·rw [upd_ne (ne_of_none z n)]; exact z
theorem goes_ok {M:Model}{A:Around}{E:Value->Shared->Prop}{i:Nat}{n:Str}{pos:Pos}{Q:Unit->Shared->Prop}(I:Inv X pins σ H s) (hN:X.N.Nodup) (hi:X.N[i]?=some n) (hk:X.env.scope.names.lookup n=some .local)
  (q:∀ s',Inv X pins (σ.set i none) H s'->Q () s'):wpAny M A (do bindName X.env n .none; unbindBehindTheSuite X.env n pos) Q E s:=by
 have hcls:(X.env.scope.kind == .class || (X.env.scope.kind == .module && X.env.locals != X.env.globals))=false:=by rw [I.ok.kind]; rfl
 refine wpAny_bind (wpAny_bindName (store_ok2 I hN hi (.inl hk) (show RelV V.non Value.none from rfl) (fun s1 I1 _=>?_) (.inr hk)))
 obtain ⟨m,hn,hl⟩:=id I1.loc
 have kl:X.env.kindOf n=some .local:=hk
 unfold unbindBehindTheSuite
 refine wpAny_onRaise ?_
 unfold unbindName
 refine wpAny_bind (wpAny_point (wpAny_bind ?_))
 unfold deleteName
 simp only [kl,hcls]
 rw [if_neg (by decide)]
 refine wpAny_bind (wpAny_nsDel_keeps hn fun h2 v hn2 sb=>?_)
 have hmn:(m n).isSome=true:=by
  have hiσ:i < σ.length:=by rw [I.len]; exact (List.getElem?_eq_some_iff.mp hi).1
  obtain ⟨u,r,lk⟩:=hl i n .non hi (List.getElem?_set_self hiσ) (.inl hk)
  rcases lk with ⟨_,e⟩ | ⟨k,_⟩
  ·rw [e]; rfl
  ·rw [kl] at k; rcases k with k | k <;> cases k
 rw [hmn]
 simp only [Bool.not_true,Bool.false_eq_true,if_false]
 refine wpAny_pure (wpAny_point (q _ ?_))
 have cne:=I1.cne
 obtain ⟨oL,_,_,hoL,_⟩:=id hn
 have old:∀ {b:Addr} {o:Obj},X.s₀.heap.get? b=some o->b≠X.env.locals:=fun {b o} e=>Nat.ne_of_lt (Nat.lt_of_lt_of_le (Heap.lt_size e) I1.ok.above)
 have hiσ:i < σ.length:=by rw [I.len]; exact (List.getElem?_eq_some_iff.mp hi).1
 refine ⟨I1.ok,I1.os,I1.bare,⟨fun b o e n' hb hx=>?_,fun b o e n' hb hx=>?_,I1.base.free,fun b o e hx=>?_,I1.base.tups,I1.base.frzs,I1.base.tbls⟩,⟨_,hn2,fun j y v' e1 e2 e3=>?_⟩,fun y c e=>?_,I1.free,I1.freeC,fun p hp=>?_,fun b ob e=>?_,by simpa using I.len⟩
 ·rw [sb.2 b (old e)]; exact I1.base.keep b o e n' hb hx
 ·obtain ⟨sl,e1⟩:=I1.base.slot b o e n' hb hx
  exact ⟨sl,by rw [sb.2 b (old e)]; exact e1⟩
 ·obtain ⟨o',e1⟩:=I1.base.there b o e hx
  exact ⟨o',by rw [sb.2 b (old e)]; exact e1⟩
 ·by_cases hj:j=i
  ·subst hj
   rw [List.getElem?_set_self hiσ] at e2
   cases e2
  ·rw [List.getElem?_set_ne (Ne.symm hj)] at e2
   obtain ⟨u',r',lk⟩:=hl j y v' e1 (by rw [List.getElem?_set_ne (Ne.symm hj)]; exact e2) e3
   refine ⟨u',r',?_⟩
   have ny:y≠n:=fun z=>hj (nodup_ix hN e1 (z ▸ hi))
   rcases lk with ⟨k,e⟩ | ⟨k,c,e,z⟩
   ·exact .inl ⟨k,by simp [ny,e]⟩
   ·exact .inr ⟨k,c,e,z.sameBut sb (cne y c e)⟩
 ·obtain ⟨w',z⟩:=I1.cell y c e
  exact ⟨w',z.sameBut sb (cne y c e)⟩
 ·obtain ⟨p1,p2,p3,p4⟩:=I1.pin p hp
  exact ⟨by rw [sb.2 _ p3]; exact p1,p2,p3,p4⟩
 ·refine (I1.hok b ob e).stay (fun c w' hc z=>?_) (fun _ z=>z) (fun _ _ z=>z)
  rw [sb.2 c ?_]
  ·exact z
  ·rintro rfl
   have fr:=I1.free
   rcases hc with rfl | hc
   ·rw [fr] at e; cases e
   ·rw [fr] at hc; cases hc
end
end L2
namespace L2
open PySem PySem.Spec PyProof.Rows PySem.W
section
variable {prog:Program}{w:World}{A:Around}{E:Value->Shared->Prop}{s:Shared}
end
end L2
namespace L2
open PySem PySem.Spec PyProof.Rows PySem.W
section
variable {prog:Program}{w:World}{A:Around}{E:Value->Shared->Prop}{s:Shared}
end
section
variable {prog:Program}{w:World}{A:Around}{R:Result->Shared->Prop}
end
end L2
namespace L2
open PySem PySem.Spec PyProof.Rows PySem.W
section
variable {prog:Program}{w:World}{A:Around}{s:Shared}{R:Result->Shared->Prop}
end
section
variable {prog:Program}{w:World}{A:Around}{E:Value->Shared->Prop}{s:Shared}
end
end L2
namespace L2
open PySem PySem.Spec PyProof.Rows PySem.W
section
variable {X:Cx}{pins:List (Addr × Obj)}{σ:St}{H H':Hp}{s:Shared}{h':Heap}
end
end L2
namespace L2
open PySem PySem.W PyProof.Rows
section
variable {n:Nat}{lt:Nat->Nat->Bool}{cmp:Nat->Nat->(Bool->Shared->Prop)->Shared->Prop}{I:Shared->Prop}
theorem q1 {a f n:Nat}(h:a + (f + 1)<=n):a < n:=Nat.lt_of_lt_of_le (Nat.lt_add_of_pos_right (Nat.succ_pos f)) h
theorem q2 {a f n:Nat}(h:a + (f + 1)<=n):a - 1 < n:=Nat.lt_of_le_of_lt (Nat.sub_le a 1) (q1 h)
theorem q3 {a f n:Nat}(h:a + (f + 1)<=n):a + 1 + f<=n:=Nat.le_trans (Nat.le_of_eq (Nat.succ_add a f)) h
theorem q0 {a f n:Nat}(h:n<=a + 1 + f):n<=a + (f + 1):=Nat.le_trans h (Nat.le_of_eq (Nat.succ_add a f))
theorem q4 {a b i:Nat}(h:a<=i/\i < b):a<=a + b - 1 - i:=Nat.le_sub_of_add_le (Nat.le_sub_of_add_le (Nat.add_le_add_left h.2 a))
theorem q5 {a b i:Nat}(h:a<=i/\i < b):a + b - 1 - i < b:=by omega
theorem q8 {a i j:Nat}(h1:a<=i) (h2:i < a + 1) (h3:a<=j) (h4:j < a + 1):i=j:=Nat.le_antisymm (Nat.le_trans (Nat.le_of_lt_succ h2) h3) (Nat.le_trans (Nat.le_of_lt_succ h4) h1)
theorem q9 {i j:Nat}(hij:i<=j) (hj:j < 1):i=j:=Nat.le_antisymm hij (Nat.le_trans (Nat.le_of_lt_succ hj) (Nat.zero_le i))
end
end L2
namespace HT
open PySem PySem.Spec PySem.W PyProof.Rows L2
section
variable {prog:Program}{w:World}{A:Around}{E:Value->Shared->Prop}{s:Shared}
end
end HT
namespace HT
open PySem PySem.Spec PySem.W PyProof.Rows L2
section
variable {A:Around}{s:Shared}
end
end HT
namespace L2
open PySem PySem.Spec PySem.W PyProof.Rows HT
section
variable {X:Cx}{κ:Type}
end
end L2
namespace L2
open PySem PySem.Spec PySem.W PyProof.Rows HT
section
variable {X:Cx}
end
end L2
namespace L2
open PySem PySem.Spec PyProof.Rows PySem.W
section
variable {prog:Program}{w:World}{A:Around}{E:Value->Shared->Prop}{s:Shared}
end
end L2
namespace L2
open PySem PySem.Spec PyProof.Rows PySem.W
section
variable {prog:Program}{w:World}{A:Around}{E:Value->Shared->Prop}{s:Shared}
end
section
variable {X:Cx}
end
end L2
namespace L2
open PySem PySem.Spec PyProof.Rows PySem.W
section
variable {X:Cx}
end
end L2
namespace L2
open PySem PySem.Spec PyProof.Rows PySem.W
structure ExcK (K:Frag) (C:Addr):Prop where
 ga:findIn K (.ref C) "__getattribute__"=some (some (.builtin "BaseException.__getattribute__"))
 no:findIn K (.ref C) "__getattr__"=some none
 cl:findIn K (.ref C) "__class__"=some (some (.builtin "object.__class__"))
 ob:mroIn K C (.type "object")=some true
 be:mroIn K C (.type "BaseException")=some true
 cs:(clsIn K C).isSome=true
section
variable {prog:Program}{w:World}{A:Around}{E:Value->Shared->Prop}{K:Frag}{h:Heap}{g:Array GenState}{d:Drawn}{t:Nat}{os:OsState}{a C:Addr}
theorem excInst {oe:Obj}{vs:Array Value}(h1:h.get? a=some oe) (h2:oe.cls=.ref C) (h3:oe.dict=none) (h4:oe.data=.fields vs):InstAt h a oe C none:=by
 refine ⟨h1,h2,?_,?_⟩
 ·obtain ⟨_,_,dt,_⟩:=oe
  have:dt=.fields vs:=h4
  subst this
  rfl
 ·rw [h3]; trivial
end
end L2
namespace L2
open PySem PySem.Spec PyProof.Rows PySem.W
end L2
namespace L2
open PySem PySem.Spec PyProof.Rows PySem.W
def tTry (K:Frag) (C:Addr) (tb:(Value->St->Hp->Prop)->TS) (ts:TS):TS:=fun D σ H =>
 tb (fun cls σ' H'=>exmOne K cls (.ref C)=some true/\ts D σ' H') D σ H
theorem ps_try {X:Cx}{body suite:List Stmt}{b0:Stmt}{x:Str}{C:Addr}{xp hp pos:Pos}{tb:(Value->St->Hp->Prop)->TS}{ts:TS}(hstk:X.stack=X.env :: X.outer) (hfr:X.env.frame=some X.env.locals)
  (hg:Gl X x) (hm:X.mg x=some (.ref C)) (hb:∀ pins W,PSs (X.tryC pins W) body (tb W)) (hs:∀ a,PSs (X.hnd a) (b0 :: suite) ts) (hdb:(x == ("__debug__":Str))=false:=by decide) :
  PS X (.Try body [.ExceptHandler (some (.Name x xp)) none (b0 :: suite) hp] [] [] pos) (tTry X.K C tb ts):=by
 intro pins s σ H D I h
 refine wpAny_Try_except ?_
 refine wpAny_mono (hb pins _ [] s σ H D (I.tryC _) h) (fun f s1 q=>?_) fun e s1 q=>?_
 ·have q':=q.untry
  cases f with
  | next=>exact wpAny_pure q'
  | brk=>exact q'
  | cont=>exact q'
  | ret u=>exact q'
 ·obtain ⟨a,cls,σ',H',rfl,I1,⟨B,hfl,trk,hp',o1,o2⟩,w1,w2⟩:=q
  have frm:X.A.frames=some (X.env :: X.outer):=by rw [<- hstk]; exact I.ok.frames
  rw [hstk] at hfl
  refine look_on frm hfr hfl fun h1 G1 u1=>?_
  have I2:=I1.flown hfl.st G1.st u1 trk hp' o1 o2
  refine land_c (s:={ s1 with heap:=h1 }) G1 fun h2 G2 u2=>?_
  have I3:=I2.flown G1.st G2.st u2 trk hp' o1 o2
  refine wpAny_handleBy_cons (codeAny_handlers_test ?_) (fun z=>nomatch z)
  refine ld_glob (X:=X.hnd a) (I3.hnd a) hg hm ?_ hdb
  obtain ⟨oe,vs,T,oT,ts',he,hc,r⟩:=G2.tr
  have lt:Looks (model X.prog X.w) h2 (typeOf (.ref a)) cls:=by
   rw [<- hc]
   exact (Looks.ld he).andThen .now
  refine (exm_one (M:=model X.prog X.w) (K:=X.K) (h:=h2) (I3.kIn) lt w1).here ?_
  refine codeAny_handlers_suite ?_
  refine land_c (s:={ s1 with heap:=h2 }) G2 fun h3 G3 u3=>?_
  have I4:=I3.flown G2.st G3.st u3 trk hp' o1 o2
  refine wpAny_mono (hs a pins _ _ _ _ (I4.hnd a) w2) (fun f s7 q=>?_) fun _ _ z=>False.elim z
  have un:∀ {σ7:St} {H7:Hp},Inv (X.hnd a) pins σ7 H7 s7->Inv X pins σ7 H7 s7:=fun J=>J.unhnd I.ok.hd I.ok.frames
  cases f with
  | next=>obtain ⟨σ7,H7,J,q⟩:=q; exact ⟨_,_,un J,q⟩
  | brk=>obtain ⟨σ7,H7,J,q⟩:=q; exact ⟨_,_,un J,q⟩
  | cont=>obtain ⟨σ7,H7,J,q⟩:=q; exact ⟨_,_,un J,q⟩
  | ret u=>obtain ⟨v,σ7,H7,J,r,q⟩:=q; exact ⟨v,_,_,un J,r,q⟩
end L2
namespace L2
open PySem PySem.Spec PyProof.Rows PySem.W
end L2
namespace L2
open PySem PySem.Spec PyProof.Rows PySem.W
section
variable {M:Model}{A:Around}{E:Value->Shared->Prop}{s:Shared}{K:Frag}{x C f:Addr}{o:Obj}{name:Str}
end
section
variable {prog:Program}{w:World}{A:Around}{E:Value->Shared->Prop}{s:Shared}{K:Frag}{x y C f:Addr}{o oy:Obj}
end
section
variable {X:Cx}{k:Nat}{f C:Addr}{fd:FuncData}{ps:List Str}{sp:Sp}
end
end L2
namespace L2
open PySem PySem.Spec PyProof.Rows PySem.W
section
variable {X:Cx}{W:Value->St->Hp->Prop}{k:Nat}{C:Addr}{m:Str}{ps:List Str}{sp:Sp}{o e:Expr}{es:List Expr}{ta:TE}{t:TA}{apos pos:Pos}
end
end L2
namespace L2
open PySem PySem.Spec PySem.W PyProof.Rows HT
section
variable {prog:Program}{w:World}{A:Around}{E:Value->Shared->Prop}{s:Shared}
end
section
variable {X:Cx}{κ:Type}
end
end L2
namespace L2
open PySem PySem.Spec PySem.W PyProof.Rows HT
open AutoSeq1 (wpAny_loadPart')
section
variable {X:Cx}
end
end L2
namespace L2
open PySem PySem.Spec PyProof.Rows PySem.W
section
variable {prog:Program}{w:World}{A:Around}{E:Value->Shared->Prop}{s:Shared}{K:Frag}{x C f:Addr}{o:Obj}{y T:Value}
end
section
variable {X:Cx}{k:Nat}{f C:Addr}{fd:FuncData}{ps:List Str}{sp:Sp}
end
end L2
namespace L2
open PySem PySem.Spec PyProof.Rows PySem.W
section
variable {P:Program}{w:World}{K:PySem.W.Frag}{mg:Str->Option Value}{base:Heap}
end
section
variable {X:Cx}{pins:List (Addr × Obj)}{σ:St}{H:Hp}{s:Shared}
end
end L2
namespace L2
open PySem PySem.Spec PyProof.Rows PySem.W HT
section
variable {X:Cx}{pins:List (Addr × Obj)}{σ:St}
end
end L2
namespace L2
open PySem PySem.Spec PyProof.Rows PySem.W HT
section
variable {X:Cx}{pins:List (Addr × Obj)}{σ:St}
end
end L2
namespace L2
open PySem PySem.Spec PyProof.Rows PySem.W
end L2
namespace L2
open PySem PySem.Spec PyProof.Rows
end L2
namespace HT
open PySem PySem.Spec PyProof.Rows L2
section
open PySem.SeqAt
open PySem.AutoSeq1 (wpAny_loadPart')
open PySem.MeetsSeq PySem.MeetsSeq2 PySem.MeetsSeq3
end
section
variable {A:Around}{s:Shared}
open PySem.SeqAt
open PySem.MeetsSeq PySem.MeetsSeq2 PySem.MeetsSeq3
end
end HT
namespace L2
open PySem PySem.Spec PyProof.Rows HT
section
variable {X:Cx}
end
end L2
namespace K39
open PySem L2
section
variable {P:Program}{w:World}{K:PySem.W.Frag}{mg:Str->Option Value}{base:Heap}
def top (i:Nat):Stmt:=PySem.Challenge.pw_rowtrim_k39_forty_pieces.main.body.getD i (.Pass ⟨0,0,0,0⟩)
abbrev sWhole:Stmt:=top 10
abbrev sName:Stmt:=top 11
structure Txt (mg:Str->Option Value):Prop where
 ValueError:mg "ValueError"=none
 abs:mg "abs"=none
 all:mg "all"=none
 any:mg "any"=none
 bool:mg "bool"=none
 enum:mg "enumerate"=none
 int:mg "int"=none
 isi:mg "isinstance"=none
 len:mg "len"=none
 list:mg "list"=none
 max:mg "max"=none
 min:mg "min"=none
 range:mg "range"=none
 sorted:mg "sorted"=none
 str:mg "str"=none
 sum:mg "sum"=none
 tuple:mg "tuple"=none
 zip:mg "zip"=none
 LN:∃ t,mg "LONGEST_NAME"=some (.int 8 t)
 MC:∃ t,mg "MOST_IN_CREW"=some (.int 4 t)
 LG:∃ t,mg "LONGEST"=some (.int 1000000000 t)
def Df (P:Program) (w:World) (K:PySem.W.Frag) (mg:Str->Option Value) (base:Heap) (k:Nat) (x:Str) (ps:List Str) (sp:Sp):Prop :=
 ∃ f fd,FnOk P w K mg base CX0 k f fd ps sp/\Binds K fd ps []/\PySem.W.keepIn K (.ref f)=true/\mg x=some (.ref f)
theorem pe_df {X:Cx}{k:Nat}{x:Str}{ps:List Str}{sp:Sp}{e:Expr}{es:List Expr}{t:TA}{p pos:Pos}(D:Df X.prog X.w X.K X.mg X.base k x ps sp) (hr:Room k X.A) (ha:PA X (e :: es) t) (hg:Gl X x:=by rfl) (hdb:(x == ("__debug__":Str))=false:=by decide)
  (he:starEach (e :: es) X.env=(false,eval e X.env) :: starEach es X.env:=by rfl) (hpl:(backTo pos (starEach es X.env)).any (·.1)=false:=by rfl):PE X (.Call (.Name x p) (e :: es) [] pos) (tCall sp [] E0 t):=by
 obtain ⟨f,fd,F,b,kp,m⟩:=D
 exact pe_call F hr hg m kp b .nil pass0 ha hdb he hpl
def spP (p:PyData->Bool):Sp:=fun vs H Q _=>∃ k d v,vs=[v]/\Tells H k d v/\Fit d/\∀ H',Same H H'->Q (.bl (p d)) H'
def pWhole:PyData->Bool
 | .int _=>true
 | _=>false
theorem isT_whole (d:PyData):(isT d "int" && !isT d "bool")=pWhole d:=by cases d <;> rfl
theorem scW:FnScope ["thing"] ["thing"] (defScope sWhole):=⟨rfl,rfl,rfl,by decide +kernel,rfl,by decide +kernel,by decide +kernel⟩
theorem ok_whole {f:Addr}{fd:FuncData}(F:Fun K "is_whole" "is_whole" sWhole f fd) (T:Txt mg):FnOk P w K mg base CX0 1 f fd ["thing"] (spP pWhole):=by
 refine F.ok scW (fun vs H Q E h=>?_) (fun cdv A outer s H vs Q E hr h=>?_)
 ·obtain ⟨k,d,v,rfl,_⟩:=h
  rfl
 ·obtain ⟨k,d,v,rfl,t,_,q⟩:=h
  refine ⟨_,pss_one (ps_ret (pe_and (pe_callB call_isin rfl T.isi PyProof.Rows.boot_isinstance (pa_cons (pv 0) (pa_cons (pe_bltn (v:=.ty "int") rfl T.int PyProof.Rows.boot_int rfl) pa_nil)))
   (pe_one (pe_not (pe_callB call_isin rfl T.isi PyProof.Rows.boot_isinstance (pa_cons (pv 0) (pa_cons (pe_bltn (v:=.ty "bool") rfl T.bool PyProof.Rows.boot_bool rfl) pa_nil))))))),?_⟩
  refine ⟨_,rfl,k,_,_,d,rfl,t,.inl rfl,_,rfl,?_⟩
  have e:=isT_whole d
  refine ite2 (fun c=>?_) (fun c=>?_)
  ·refine ⟨_,rfl,k,_,_,d,rfl,t,.inr (.inl rfl),_,rfl,?_⟩
   rw [c,Bool.true_and] at e
   rw [e]
   exact q H (Same.refl _)
  ·rw [show isT d "int"=false by simpa using c,Bool.false_and] at e
   rw [e]
   exact q H (Same.refl _)
theorem BlkOk.closed {X:Cx}{scope:Scope}{N:List Str}(hk:scope.kind=.function) (h1:∀ y∈scope.names,y.2≠.cell) (h2:∀ y∈scope.names,y.2=.local->scope.names.lookup y.1=some .local) (h3:∀ y∈scope.names,y.2≠.free):BlkOk X scope N (N.map fun _=>none) :=
 ⟨hk,h1,h2,fun y hy e=>absurd e (h3 y hy),List.length_map _,fun i j x e _=>by
  rw [List.getElem?_map] at e
  cases h:N[i]? with
  | none=>rw [h] at e; cases e
  | some z=>rw [h] at e; cases e⟩
theorem nd1 (x:Str):([x]:List Str).Nodup:=by simp
def sgn (c:Nat):Bool:=(!decide ((⟨#[c]⟩:Str).cps.toList < ("a":Str).cps.toList)) && (!decide (("z":Str).cps.toList < (⟨#[c]⟩:Str).cps.toList))
def pName:PyData->Bool
 | .str x=>(decide (1<=(x.length:Int)) && decide ((x.length:Int)<=8)) && (x.cps.toList.map sgn).all id
 | _=>false
theorem isT_str {d:PyData}(h:isT d "str"=true):∃ x,d=.str x:=by
 cases d with
 | str x=>exact ⟨x,rfl⟩
 | none=>cases h
 | bool b=>cases h
 | int i=>cases h
 | list ds=>cases h
 | tuple ds=>cases h
 | dict kvs=>cases h
theorem its_str (x:Str) (i:Nat) (H:Hp) (hi:i<=x.cps.size):(i=x.cps.size->(Its x).stop i H)/\(i < x.cps.size->(Its x).go i H/\∀ y H',(Its x).yld i H y H'->H'=H/\y=.str ⟨#[x.cps.getD i 0]⟩):=by
 refine ⟨fun e=>e,fun e=>⟨e,fun y H' q=>?_⟩⟩
 obtain ⟨q1,c,q2,q3⟩:=q
 refine ⟨q1,?_⟩
 rw [q3]
 simp [Array.getD,e,(Array.getElem?_eq_some_iff.mp q2).2]
theorem take_getD {x:Str}{i:Nat}(h:i < x.cps.size):x.cps.toList.take (i + 1)=x.cps.toList.take i ++ [x.cps.getD i 0]:=by
 rw [List.take_add_one]
 congr 1
 simp [Array.getD,h]
theorem scN:FnScope ["thing"] ["thing"] (defScope sName):=⟨rfl,rfl,rfl,by decide +kernel,rfl,by decide +kernel,by decide +kernel⟩
theorem ok_name {f:Addr}{fd:FuncData}(F:Fun K "is_name" "is_name" sName f fd) (T:Txt mg):FnOk P w K mg base CX0 1 f fd ["thing"] (spP pName):=by
 refine F.ok scN (fun vs H Q E h=>?_) (fun cdv A outer s H vs Q E hr h=>?_)
 ·obtain ⟨k,d,v,rfl,_⟩:=h
  rfl
 ·obtain ⟨k,d,v,rfl,t,hf,q⟩:=h
  obtain ⟨tl,hLN⟩:=T.LN
  refine ⟨_,pss_cons (ps_if (PW.pt (pw_or (pt_not (pt_val (pe_callB call_isin rfl T.isi PyProof.Rows.boot_isinstance (pa_cons (pv 0) (pa_cons (pe_bltn (v:=.ty "str") rfl T.str PyProof.Rows.boot_str rfl) pa_nil)))))
    (pw_or1 (pt_not (pt_chain op_le op_le pe_int (pe_callB call_len_str rfl T.len PySem.boot_len (pa_cons (pv 0) pa_nil)) (pe_glob (v:=.int 8) rfl hLN ⟨tl,rfl⟩))))))
    (pss_one (ps_ret pe_bl)) pss_nil)
   (pss_one (ps_ret (pe_callB (call_all rfl) rfl T.all PyProof.Rows.boot_all (pa_cons (pe_lc (N:=["letter"]) rfl (pi_str (pv 0)) (BlkOk.closed rfl (by decide +kernel) (by decide +kernel) (by decide +kernel))
    (fun _ _ _=>pg_name (i:=0) (nd1 _) rfl (Or.inl rfl)) (fun _ _ _=>pts_nil) (fun _ _ _=>pe_chain op_le_str op_le_str pe_str (pv 0) pe_str)) pa_nil)))),?_⟩
  refine ⟨_,rfl,k,_,_,d,rfl,t,.inr (.inr (.inl rfl)),_,rfl,?_⟩
  refine ite2 (fun c=>?_) (fun c=>?_)
  ·refine iteT ?_
   have e:pName d=false:=by
    cases d with
    | str x=>cases c
    | _=>rfl
   have:=q H (Same.refl _)
   rw [e] at this
   exact this
  ·obtain ⟨x,rfl⟩:=isT_str (d:=d) (by simpa using c)
   rw [tells_str] at t
   subst t
   have hl:=Bd.strLen hf
   refine ⟨_,rfl,x,rfl,Nat.le_trans hl (by decide),_,_,rfl,rfl,_,rfl,?_⟩
   show if decide (1<=(x.length:Int))=true then _ else _
   refine ite2 (fun c1=>?_) (fun c1=>?_)
   ·refine ⟨_,_,rfl,rfl,_,rfl,?_⟩
    refine ite2 (fun c2=>?_) (fun c2=>?_)
    ·have e:pName (.str x)=false:=by
      have c2':decide ((x.length:Int)<=8)=false:=by simpa using c2
      show ((decide (1<=(x.length:Int)) && decide ((x.length:Int)<=8)) && _)=false
      rw [c2',Bool.and_false,Bool.false_and]
     have:=q H (Same.refl _)
     rw [e] at this
     exact this
    ·have c2':decide ((x.length:Int)<=8)=true:=by simpa using c2
     refine ⟨_,rfl,x,rfl,fun D hD=>?_⟩
     refine lc_map (J:=Its x) (n:=x.cps.size) (f:=fun i=>.str ⟨#[x.cps.getD i 0]⟩) (fun i ys σ' H'=>ys=((x.cps.toList.take i).map sgn).map V.bl/\(∃ v,σ'=[v])/\H'=upd H D (.lst ys)) hD (by have:x.cps.size=x.length:=rfl; omega)
      ⟨rfl,⟨none,rfl⟩,rfl⟩ (fun i ys σ' H' hi _ _=>its_str x i H' hi) ?_ ?_
     ·rintro i ys σ' H' hi hy ⟨e1,⟨v,rfl⟩,rfl⟩
      refine ⟨_,rfl,_,_,rfl,rfl,_,rfl,?_⟩
      have step:∀ b,sgn (x.cps.getD i 0)=b->(upd H D (.lst ys)) D=some (.lst ys)/\((ys ++ [V.bl b])=((x.cps.toList.take (i + 1)).map sgn).map V.bl/\(∃ v,([some (V.str ⟨#[x.cps.getD i 0]⟩)]:St)=[v])/\upd (upd H D (.lst ys)) D (.lst (ys ++ [V.bl b]))=upd H D (.lst (ys ++ [V.bl b]))):=fun b hb=>by
       refine ⟨hy,?_,⟨_,rfl⟩,upd_upd⟩
       rw [take_getD hi,e1,List.map_append,List.map_append,<- hb]
       rfl
      refine ite2 (fun c3=>?_) (fun c3=>?_)
      ·refine ⟨_,_,rfl,rfl,?_⟩
       refine step _ ?_
       show (_ && _)=_
       rw [c3,Bool.true_and]
      ·refine step false ?_
       show (_ && _)=_
       rw [show (!decide ((⟨#[x.cps.getD i 0]⟩:Str).cps.toList < ("a":Str).cps.toList))=false by simpa using c3,Bool.false_and]
     ·rintro ys σ' H' hy ⟨e1,⟨v,rfl⟩,rfl⟩
      rw [List.take_of_length_le (by simp)] at e1
      refine ⟨D,(x.cps.toList.map sgn),rfl,SqL.of (by rw [hy,e1]),?_⟩
      have:=q (upd H D (.lst ys)) (same_new hD _)
      rw [show pName (.str x)=(x.cps.toList.map sgn).all id by
       show ((decide (1<=(x.length:Int)) && decide ((x.length:Int)<=8)) && _)=_
       rw [c1,c2',Bool.true_and,Bool.true_and]] at this
      exact this
   ·refine ⟨_,rfl,iteT ?_⟩
    have e:pName (.str x)=false:=by
     have c1':decide (1<=(x.length:Int))=false:=by simpa using c1
     show ((decide (1<=(x.length:Int)) && decide ((x.length:Int)<=8)) && _)=false
     rw [c1',Bool.false_and,Bool.false_and]
    have:=q H (Same.refl _)
    rw [e] at this
    exact this
theorem v_ne {x y:V}(h:(!decide (x=y))=true):x≠y:=fun e=>by rw [decide_eq_true e] at h; cases h
theorem v_eq {x y:V}(h:¬ (!decide (x=y))=true):x=y:=by
 by_cases e:x=y
 ·exact e
 ·exact absurd (by rw [decide_eq_false e]; rfl) h
theorem dec_vint (i j:Int):decide (V.int i=V.int j)=decide (i=j):=by
 by_cases h:i=j
 ·rw [decide_eq_true h,decide_eq_true (by rw [h])]
 ·rw [decide_eq_false h,decide_eq_false (fun z=>h (by injection z))]
def namesD (ns:List Str):List PyData:=ns.map .str
theorem tells_names {H:Hp}{k:Addr}:∀ ns:List Str,TellsAll H k (namesD ns) (ns.map .str)
 | []=>tellsAll_nil.mpr rfl
 | n :: ns=>tellsAll_cons.mpr ⟨_,_,rfl,tells_str.mpr rfl,tells_names ns⟩
abbrev sDeck:Stmt:=top 36
abbrev sPick:Stmt:=top 37
structure DeckAt (H:Hp) (k:Addr) (c:Int):Prop where
 ex:∃ a b:Int,H k=some (.lst [.int a,.int b,.int c])/\0<=b/\b < 2147483648
 c0:0<=c
theorem op_fdivB {X:Cx}:OpR X (binaryOp .FloorDiv) (rI (fun _ j=>0 < j/\j < 2 ^ 200) fun i j=>.int (i / j)):=opI fun i j _ _ _ _ _ hc q=>by
 refine PyProof.Rows.floordiv_int (by omega) ?_ (.inl (PyProof.noPylong_of_log2 ?_))
 ·rw [Int.fdiv_eq_ediv_of_nonneg i (by omega)]
  exact q
 ·have:j.natAbs.log2 < 200:=int_log (by omega)
  omega
def BB:Nat:=2 ^ 1000
theorem BB_of {n:Nat}(h:n < 2 ^ 200):n < BB:=Nat.lt_of_lt_of_le h (Nat.pow_le_pow_right (by decide) (by decide))
theorem BB_log {n:Nat}(h:n < BB):n.log2 < 1000:=by
 by_cases e:n=0
 ·subst e; decide
 ·exact (Nat.log2_lt e).mpr h
theorem op_fdivG {X:Cx}:OpR X (binaryOp .FloorDiv) (rI (fun _ j=>0 < j/\j.natAbs < BB) fun i j=>.int (i / j)):=opI fun i j _ _ _ _ _ hc q=>by
 refine PyProof.Rows.floordiv_int (Int.ne_of_gt hc.1) ?_ (.inl (PyProof.noPylong_of_log2 ?_))
 ·rw [Int.fdiv_eq_ediv_of_nonneg i (Int.le_of_lt hc.1)]
  exact q
 ·exact Nat.lt_trans (BB_log hc.2) (by decide)
def spDeck:Sp:=fun vs H Q _=>∃ cell tn:Int,vs=[.int cell,.int tn]/\0<=tn/\∀ p H',H p=none->Same H H'->DeckAt H' p tn->Q (.ref p) H'
theorem scD:FnScope ["cell","turn"] ["cell","turn"] (defScope sDeck):=⟨rfl,rfl,rfl,by decide +kernel,rfl,by decide +kernel,by decide +kernel⟩
theorem ok_deck {f:Addr}{fd:FuncData}(F:Fun K "_law_deck" "_law_deck" sDeck f fd):FnOk P w K mg base CX0 1 f fd ["cell","turn"] spDeck:=by
 refine F.ok scD (fun vs H Q E h=>?_) (fun cdv A outer s H vs Q E hr h=>?_)
 ·obtain ⟨cell,tn,rfl,_⟩:=h
  rfl
 ·obtain ⟨cell,tn,rfl,t0,q⟩:=h
  refine ⟨_,pss_cons (ps_if (pt_cmpR op_ge (pv 0) (pe_op op_pow pe_int pe_int) (nomark _))
    (pss_one (ps_ret (pe_lst (pa_cons (pe_op op_sub (pv 0) (pe_op op_pow pe_int pe_int)) (pa_cons (pe_op op_mod (pv 0) pe_int) (pa_cons (pv 1) pa_nil)))))) pss_nil)
   (pss_one (ps_ret (pe_lst (pa_cons pe_int (pa_cons (pe_op op_mod (pv 0) pe_int) (pa_cons (pv 1) pa_nil)))))),?_⟩
  have hb:0<=cell % 2147483579/\cell % 2147483579 < 2147483648:=by omega
  refine ⟨_,rfl,_,_,rfl,rfl,⟨by decide,by decide,by decide⟩,_,_,rfl,rfl,_,rfl,?_⟩
  refine ite2 (fun c=>?_) (fun c=>?_)
  ·refine ⟨_,rfl,_,_,rfl,rfl,⟨by decide,by decide,by decide⟩,_,_,rfl,rfl,_,rfl,_,_,rfl,rfl,by show (0:Int) < 2147483579; decide,_,rfl,by show 3<=sizeLine; decide,fun p hp=>?_⟩
   exact q p _ hp (same_new hp _) ⟨⟨_,_,upd_same,hb.1,hb.2⟩,t0⟩
  ·refine ⟨_,rfl,_,_,rfl,rfl,by show (0:Int) < 2147483579; decide,_,rfl,by show 3<=sizeLine; decide,fun p hp=>?_⟩
   exact q p _ hp (same_new hp _) ⟨⟨_,_,upd_same,hb.1,hb.2⟩,t0⟩
def spPick:Sp:=fun vs H Q _=>∃ (k:Addr) (c many:Int),vs=[.ref k,.int many]/\DeckAt H k c/\c<=100000/\0 < many/\many<=10000000000000 /\
 ∀ (r c':Int) (H':Hp),Keep k H H'->DeckAt H' k c'->c'<=c + 1->0<=r->r < many->Q (.int r) H'
theorem scP:FnScope ["deck","many","found","number"] ["deck","many"] (defScope sPick):=⟨rfl,rfl,rfl,by decide +kernel,rfl,by decide +kernel,by decide +kernel⟩
theorem ok_pick {f:Addr}{fd:FuncData}(F:Fun K "_law_pick" "_law_pick" sPick f fd):FnOk P w K mg base CX0 1 f fd ["deck","many"] spPick:=by
 refine F.ok scP (fun vs H Q E h=>?_) (fun cdv A outer s H vs Q E hr h=>?_)
 ·obtain ⟨k,c,many,rfl,_⟩:=h
  rfl
 ·obtain ⟨k,c,many,rfl,⟨⟨a,b,hk,b0,b1⟩,c0⟩,c1,m0,m1,q⟩:=h
  refine ⟨_,pss_cons (ps_if (pt_cmpR op_gt (pe_ix ix_list (pv 0) pe_int (fun _ _=>rfl)) pe_int (nomark _))
    (pss_cons (ps_set (i:=2) scP.nd rfl (Or.inl rfl) (pe_op op_mod (pe_ix ix_list (pv 0) pe_int (fun _ _=>rfl)) (pv 1)))
    (pss_cons (ps_asg (pe_op op_fdivB (pe_ix ix_list (pv 0) pe_int (fun _ _=>rfl)) (pv 1)) (pg_sub (pv 0) pe_int set_list))
    (pss_one (ps_ret (pv 2))))) pss_nil)
   (pss_cons (ps_asg (pe_op op_add (pe_ix ix_list (pv 0) pe_int (fun _ _=>rfl)) pe_int) (pg_sub (pv 0) pe_int set_list))
   (pss_cons (ps_set (i:=3) scP.nd rfl (Or.inl rfl) (pe_op op_mod (pe_op op_pow (pe_op op_add (pe_ix ix_list (pv 0) pe_int (fun _ _=>rfl)) (pe_op op_mul pe_int (pe_ix ix_list (pv 0) pe_int (fun _ _=>rfl)))) pe_int) pe_int))
   (pss_cons (ps_set (i:=2) scP.nd rfl (Or.inl rfl) (pe_op op_fdiv (pe_op op_mod (pe_op op_pow (pe_op op_add (pv 3) (pe_op op_mul pe_int (pe_ix ix_list (pv 0) pe_int (fun _ _=>rfl)))) pe_int) pe_int) pe_int))
   (pss_cons (ps_if (pt_cmpR op_gt (pv 1) pe_int (nomark _)) (pss_one (ps_ret (pe_op op_mod (pe_op op_add (pe_op op_mul (pv 2) pe_int) (pv 3)) (pv 1)))) pss_nil)
   (pss_one (ps_ret (pe_op op_mod (pv 2) (pv 1)))))))),?_⟩
  refine ⟨_,rfl,k,_,0,_,rfl,rfl,SqL.of hk,atI_nat (j:=0) rfl,_,_,rfl,rfl,_,rfl,?_⟩
  refine ite2 (fun c2=>?_) (fun c2=>?_)
  ·refine ⟨_,rfl,k,_,0,_,rfl,rfl,SqL.of hk,atI_nat (j:=0) rfl,_,rfl,_,_,rfl,rfl,m0,?_⟩
   refine ⟨_,rfl,k,_,0,_,rfl,rfl,SqL.of hk,atI_nat (j:=0) rfl,_,rfl,_,_,rfl,rfl,⟨m0,by omega⟩,?_⟩
   refine ⟨_,rfl,k,_,0,0,rfl,rfl,hk,rfl,?_⟩
   refine ⟨_,rfl,q _ c _ (Keep.at _) ⟨⟨_,_,upd_same,b0,b1⟩,c0⟩ (by omega) (Int.emod_nonneg _ (by omega)) (Int.emod_lt_of_pos _ m0)⟩
  ·refine ⟨_,rfl,k,_,2,_,rfl,rfl,SqL.of hk,atI_nat (j:=2) rfl,_,_,rfl,rfl,?_⟩
   refine ⟨_,rfl,k,_,2,2,rfl,rfl,hk,rfl,?_⟩
   have hk2:(upd H k (.lst [.int a,.int b,.int (c + 1)])) k=some (.lst [.int a,.int b,.int (c + 1)]):=upd_same
   show tSeq _ _ _ _ (upd H k (.lst [.int a,.int b,.int (c + 1)]))
   have kp:Keep k H (upd H k (.lst [.int a,.int b,.int (c + 1)])):=Keep.at _
   generalize upd H k (.lst [.int a,.int b,.int (c + 1)])=H2 at *
   have fin:∀ r:Int,0<=r->r < many->Q (.int r) H2:=fun r h1 h2=>q r (c + 1) H2 kp ⟨⟨_,_,hk2,b0,b1⟩,by omega⟩ (Int.le_refl _) h1 h2
   refine ⟨_,rfl,k,_,1,_,rfl,rfl,SqL.of hk2,atI_nat (j:=1) rfl,_,rfl,k,_,2,_,rfl,rfl,SqL.of hk2,atI_nat (j:=2) rfl,_,_,rfl,rfl,.inl ⟨by decide,by decide⟩,_,_,rfl,rfl,_,_,rfl,rfl,⟨by decide,by decide,?_⟩,_,_,rfl,rfl,by show (0:Int) < 2147483647; decide,?_⟩
   ·omega
   ·generalize hN:(b + 15485867 * (c + 1)) ^ (5:Int).toNat % 2147483647=number
    have n0:0<=number:=by rw [<- hN]; exact Int.emod_nonneg _ (by decide)
    have n1:number < 2147483647:=by rw [<- hN]; exact Int.emod_lt_of_pos _ (by decide)
    refine ⟨_,rfl,_,rfl,k,_,2,_,rfl,rfl,SqL.of hk2,atI_nat (j:=2) rfl,_,_,rfl,rfl,.inl ⟨by decide,by decide⟩,_,_,rfl,rfl,_,_,rfl,rfl,⟨by decide,by decide,?_⟩,_,_,rfl,rfl,by show (0:Int) < 2147483629; decide,_,_,rfl,rfl,⟨by decide,by decide⟩,?_⟩
    ·omega
    ·generalize hF:(number + 7919 * (c + 1)) ^ (3:Int).toNat % 2147483629 / 32=found
     have f0:0<=found/\found < 2147483629:=by
      have e0:0<=(number + 7919 * (c + 1)) ^ (3:Int).toNat % 2147483629:=Int.emod_nonneg _ (by decide)
      have e1:(number + 7919 * (c + 1)) ^ (3:Int).toNat % 2147483629 < 2147483629:=Int.emod_lt_of_pos _ (by decide)
      rw [<- hF]
      omega
     refine ⟨_,rfl,_,_,rfl,rfl,_,rfl,?_⟩
     refine ite2 (fun c3=>?_) (fun c3=>?_)
     ·exact ⟨_,rfl,_,_,rfl,rfl,.inl ⟨by omega,by omega⟩,_,rfl,_,_,rfl,rfl,_,rfl,_,_,rfl,rfl,m0,fin _ (Int.emod_nonneg _ (by omega)) (Int.emod_lt_of_pos _ m0)⟩
     ·exact ⟨_,rfl,_,rfl,_,_,rfl,rfl,m0,fin _ (Int.emod_nonneg _ (by omega)) (Int.emod_lt_of_pos _ m0)⟩
def okN (n:Str):Prop:=n.length<=100/\PyData.strOk n=true/\pName (.str n)=true
theorem DeckAt.keep {H H':Hp}{k:Addr}{c:Int}(h:DeckAt H k c) (e:∀ o,H k=some o->H' k=some o):DeckAt H' k c:=by
 obtain ⟨⟨a,b,h1,h2⟩,c0⟩:=h
 exact ⟨⟨a,b,e _ h1,h2⟩,c0⟩
theorem DeckAt.some {H:Hp}{k:Addr}{c:Int}(h:DeckAt H k c):∃ o,H k=some o:=let ⟨⟨_,_,h1,_⟩,_⟩:=h; ⟨_,h1⟩
theorem DeckAt.ne {H:Hp}{k p:Addr}{c:Int}(h:DeckAt H k c) (hp:H p=none):k≠p:=fun z=>by obtain ⟨o,ho⟩:=h.some; rw [z,hp] at ho; cases ho
theorem atI_lt {α:Type}{xs:List α}{i:Int}(h0:0<=i) (h1:i < xs.length):∃ h:i.toNat < xs.length,atI xs i=some xs[i.toNat]:=by
 have h2:i.toNat < xs.length:=by omega
 have e:i=((i.toNat:Nat):Int):=by omega
 refine ⟨h2,?_⟩
 have:=atI_nat (j:=i.toNat) (List.getElem?_eq_getElem h2)
 rw [<- e] at this
 exact this
theorem map_insert (ss:List Str) (i:Nat) (x:Str):(ss.map V.str).take i ++ V.str x :: (ss.map V.str).drop i=(ss.take i ++ x :: ss.drop i).map V.str:=by
 rw [List.map_append,List.map_cons,List.map_take,List.map_drop]
def LeafV (x:V):Prop:=∃ d:PyData,Bd 1 0 d/\∀ (H:Hp) (k:Addr),Tells H k d x
def LeafL:List V->Prop
 | []=>True
 | x :: xs=>LeafV x/\LeafL xs
theorem ll {x:V}{xs:List V}(h:LeafV x) (hs:LeafL xs):LeafL (x :: xs):=⟨h,hs⟩
theorem cut_ints {ns:List Int}{lo hi:Option Int}{x:V}(h:x∈cutV (ns.map V.int) lo hi):∃ c:Int,x=.int c:=by
 obtain ⟨c,_,rfl⟩:=List.mem_map.mp (List.mem_of_mem_drop (List.mem_of_mem_take h))
 exact ⟨c,rfl⟩
structure Stands (K:PySem.W.Frag) (x:Str) (st:Stmt) (f:Addr):Prop where
 a:PySem.W.nsIn K mainGlobals x=some (some (.ref f))
 ex:∃ (oc:Value) (od:Option Addr) (kV doc pm:Value) (an:Option Addr) (cdv ct:Value) (osl:Array (Option Value)),
  K.lookup f=some ⟨oc,od,.func (PySem.W.fnOf x x (defArgs st) (defBody st) (defScope st) .none kV doc pm an cdv ct),osl⟩/\PySem.W.codeIn K cdv x=true
 k:PySem.W.keepIn K (.ref f)=true
theorem stands {K:PySem.W.Frag}{x:Str}{st:Stmt}{f:Addr}{oc:Value}{od:Option Addr}{kV doc pm:Value}{an:Option Addr}{cdv ct:Value}{osl:Array (Option Value)}
  (a:PySem.W.nsIn K mainGlobals x=some (some (.ref f))) (l:K.lookup f=some ⟨oc,od,.func (PySem.W.fnOf x x (defArgs st) (defBody st) (defScope st) .none kV doc pm an cdv ct),osl⟩) (c:PySem.W.codeIn K cdv x=true) (k:PySem.W.keepIn K (.ref f)=true):Stands K x st f :=
 ⟨a,⟨oc,od,kV,doc,pm,an,cdv,ct,osl,l,c⟩,k⟩
theorem Stands.fn {K:PySem.W.Frag}{x:Str}{st:Stmt}{f:Addr}(S:Stands K x st f):∃ fd,Fun K x x st f fd:=by
 obtain ⟨oc,od,kV,doc,pm,an,cdv,ct,osl,l,c⟩:=S.ex
 exact ⟨_,fun_mk (st:=st) l c S.k⟩
end
theorem seqH {t u:TS}{D:Ends}{σ:L2.St}{H:Hp}(h:∀ D':Ends,(∀ σ' H',u D σ' H'->D'.nx σ' H')->t D' σ H):tSeq t u D σ H:=h { D with nx:=u D } fun _ _ z=>z
theorem ixT {K:PySem.W.Frag}{σ:L2.St}{H:Hp}{Q:VK}{i:Nat}{t:Addr}{xs:List V}{j:Int}{x:V}(h0:σ[i]?=some (some (.ref t))) (h:SqT K H t xs) (h1:atI xs j=some x) (q:Q x H):tOp (rIxT K) (tVar i) (tC (.int j)) σ H Q:=⟨_,h0,t,xs,j,x,rfl,rfl,h,h1,q⟩
theorem ixL {K:PySem.W.Frag}{σ:L2.St}{H:Hp}{Q:VK}{i:Nat}{t:Addr}{xs:List V}{j:Int}{x:V}(h0:σ[i]?=some (some (.ref t))) (h:SqL K H t xs) (h1:atI xs j=some x) (q:Q x H):tOp (rIxL K) (tVar i) (tC (.int j)) σ H Q:=⟨_,h0,t,xs,j,x,rfl,rfl,h,h1,q⟩
end K39
namespace K39
open PySem L2
abbrev sCrew:Stmt:=top 17
abbrev sMeas:Stmt:=top 18
abbrev sPiece:Stmt:=top 19
section
variable {P:Program}{w:World}{K:PySem.W.Frag}{mg:Str->Option Value}{base:Heap}
theorem itt_tup {H:Hp}{a:Addr}{xs:List V}(h:SqT K H a xs) (i:Nat) (hi:i<=xs.length):(i=xs.length->(Itt K a).stop i H)/\(i < xs.length->(Itt K a).go i H/\∀ y H',(Itt K a).yld i H y H'->H'=H/\y=xs.getD i .non):=by
 refine ⟨fun e=>⟨xs,h,by omega⟩,fun e=>⟨⟨xs,xs[i],h,by simp [e]⟩,fun y H' q=>?_⟩⟩
 obtain ⟨q1,q2⟩:=q
 have:=q2 xs h
 exact ⟨q1,by simp [List.getD,this]⟩
theorem scC:FnScope ["thing"] ["thing"] (defScope sCrew):=⟨rfl,rfl,rfl,by decide +kernel,rfl,by decide +kernel,by decide +kernel⟩
theorem ndNB:(["name","behind"]:List Str).Nodup:=by decide +kernel
end
end K39
namespace K39
open PySem L2
theorem BlkOk.one {X:Cx}{scope:Scope}{nm:List (Str × NameKind)}{v fr:Str}{j:Nat}(hN:X.N[j]?=some fr) (hk:scope.kind=.function) (hn:scope.names=nm) (h1:X.env.scope.names.lookup fr=some .cell) (c1:∀ y∈nm,y.2≠.cell) (c2:∀ y∈nm,y.2=.local->nm.lookup y.1=some .local)
  (c3:∀ y∈nm,y.2=.free->y.1=fr) (c4:(fr,NameKind.free)∈nm) (c5:nm.lookup fr=some .free):BlkOk X scope [v,fr] [none,some j] where
 kind:=hk
 nocell:=by rw [hn]; exact c1
 own:=by rw [hn]; exact c2
 out:=by
  rw [hn]
  intro y hy e
  rw [c3 y hy e]
  exact .inl h1
 len:=rfl
 free:=by
  intro i j' x e1 e2
  rw [hn]
  match i,e1,e2 with
  | 1,e1,e2=>cases e1; cases e2; exact ⟨hN,c4,c5⟩
  | n + 2,e1,e2=>simp at e1
section
variable {P:Program}{w:World}{K:PySem.W.Frag}{mg:Str->Option Value}{base:Heap}
theorem scMs:FnScope ["thing"] ["thing"] (defScope sMeas):=⟨rfl,rfl,rfl,by decide +kernel,rfl,by decide +kernel,by decide +kernel⟩
def nmPc:List (Str × NameKind):=[(".0",.local),("name",.local),("second",.free)]
theorem ndNS:(["name","second"]:List Str).Nodup:=by decide +kernel
theorem scPc:FnScope ["thing","first","second","time","other","course"] ["thing"] (defScope sPiece):=⟨rfl,rfl,rfl,by decide +kernel,rfl,by decide +kernel,by decide +kernel⟩
end
end K39
namespace K39
open PySem L2
abbrev sFr:Stmt:=top 12
abbrev sMg:Stmt:=top 20
theorem gcd_turn (m n:Nat):Nat.gcd n (m % n)=Nat.gcd m n:=by
 rw [Nat.gcd_comm n (m % n),<- Nat.gcd_rec n m,Nat.gcd_comm]
theorem mod_nat (m n:Nat):((m:Int) % (n:Int))=((m % n:Nat):Int):=(Int.natCast_emod m n).symm
theorem abs_nat (t:Int):(if t < 0 then -t else t)=(t.natAbs:Int):=by
 split <;> omega
def frTop (t b:Int):Int:=t / (Nat.gcd t.natAbs b.natAbs:Int)
def frBot (t b:Int):Int:=b / (Nat.gcd t.natAbs b.natAbs:Int)
theorem gcd_pos {t b:Int}(h:0 < b):0 < Nat.gcd t.natAbs b.natAbs:=Nat.gcd_pos_of_pos_right _ (by omega)
theorem lt_big {m:Nat}(h:m < 2 ^ 150):(m:Int) < 2 ^ 200:=by
 have:m < 2 ^ 200:=Nat.lt_of_lt_of_le h (Nat.pow_le_pow_right (by decide) (by decide))
 exact_mod_cast this
section
variable {P:Program}{w:World}{K:PySem.W.Frag}{mg:Str->Option Value}{base:Heap}
def spFr:Sp:=fun vs H Q _=>∃ t b:Int,vs=[.int t,.int b]/\0 < b/\b.natAbs < BB/\t.natAbs < BB/\∀ p,H p=none->Q (.ref p) (upd H p (.tup [.int (frTop t b),.int (frBot t b)]))
theorem scFr:FnScope ["top","bottom","divisor","rest"] ["top","bottom"] (defScope sFr):=⟨rfl,rfl,rfl,by decide +kernel,rfl,by decide +kernel,by decide +kernel⟩
theorem boot_absE:bootBuiltins "abs"=some (.builtin "abs"):=by decide +kernel
theorem ok_fr {f:Addr}{fd:FuncData}(F:Fun K "fraction" "fraction" sFr f fd) (T:Txt mg):FnOk P w K mg base CX0 1 f fd ["top","bottom"] spFr:=by
 refine F.ok scFr (fun vs H Q E h=>?_) (fun cdv A outer s H vs Q E hr h=>?_)
 ·obtain ⟨t,b,rfl,_⟩:=h
  rfl
 ·obtain ⟨t,b,rfl,b0,b1,t1,q⟩:=h
  refine ⟨_,pss_cons (ps_par (i:=2) (j:=3) rfl scFr.nd rfl rfl (by decide) rfl rfl (pa_cons (pv 1) (pa_cons (pe_callB call_abs rfl T.abs boot_absE (pa_cons (pv 0) pa_nil)) pa_nil)) rfl)
   (pss_cons (ps_while PassesOwn.never (pt_cmpR op_gt (pv 3) pe_int (nomark _)) (pss_one (ps_par (i:=2) (j:=3) rfl scFr.nd rfl rfl (by decide) rfl rfl (pa_cons (pv 3) (pa_cons (pe_op op_mod (pv 2) (pv 3)) pa_nil)) rfl)))
   (pss_one (ps_ret (pe_tup (pa_cons (pe_op op_fdivG (pv 0) (pv 2)) (pa_cons (pe_op op_fdivG (pv 1) (pv 2)) pa_nil)))))),?_⟩
  refine ⟨_,rfl,_,rfl,_,rfl,_,_,rfl,?_⟩
  refine while_by (fun σ' H'=>H'=H/\∃ m n:Nat,σ'=[some (.int t),some (.int b),some (.int m),some (.int n)]/\0 < m/\Nat.gcd m n=Nat.gcd t.natAbs b.natAbs/\m < BB/\n < BB)
   (fun σ' _=>match σ' with | [_,_,_,some (.int n)]=>n.toNat | _=>0) ?_ ?_ ?_
  ·refine ⟨rfl,b.natAbs,t.natAbs,?_,by omega,Nat.gcd_comm _ _,b1,t1⟩
   show [some (V.int t),some (V.int b),some (V.int b),some (V.int (if t < 0 then -t else t))]=_
   rw [abs_nat,show ((b.natAbs:Nat):Int)=b by omega]
  ·rintro σ' H' ⟨rfl,m,n,rfl,m0,hg,hm,hn⟩
   refine ⟨_,rfl,_,_,rfl,rfl,_,rfl,?_⟩
   refine ite2 (fun c=>?_) (fun c=>?_)
   ·have n0:0 < n:=by have:(0:Int) < (n:Int):=of_decide_eq_true c; omega
    refine ⟨_,rfl,_,rfl,_,rfl,_,_,rfl,rfl,by omega,_,_,rfl,⟨rfl,n,m % n,?_,n0,by rw [gcd_turn]; exact hg,hn,Nat.lt_of_le_of_lt (Nat.mod_le _ _) hm⟩,?_⟩
    ·show [some (V.int t),some (V.int b),some (V.int (n:Int)),some (V.int ((m:Int) % (n:Int)))]=_
     rw [mod_nat]
    ·show ((m:Int) % (n:Int)).toNat < (n:Int).toNat
     rw [mod_nat]
     have:=Nat.mod_lt m n0
     omega
   ·have n0 : n = 0 := by have : ¬ (0 : Int) < (n : Int) := by simpa using c
                          omega
    subst n0
    rw [Nat.gcd_zero_right] at hg
    have bd:(0:Int) < (m:Int)/\(m:Int).natAbs < BB:=⟨Int.natCast_pos.mpr m0,hm⟩
    refine ⟨_,rfl,_,rfl,_,_,rfl,rfl,bd,_,rfl,_,rfl,_,_,rfl,rfl,bd,by show 2<=sizeLine; decide,fun p hp=>?_⟩
    have:=q p hp
    unfold frTop frBot at this
    rw [<- hg] at this
    exact this
  ·rintro σ' H' Q1 Q2 imp ⟨v,hv,i,j,e1,e2,b',e3,h⟩
   exact ⟨v,hv,i,j,e1,e2,b',e3,imp _ _ h⟩
theorem scMg:FnScope ["piece","first","second","time","other","course"] ["piece"] (defScope sMg):=⟨rfl,rfl,rfl,by decide +kernel,rfl,by decide +kernel,by decide +kernel⟩
end
end K39
namespace K39
open PySem L2 HT
theorem gcd_dvd_t (t b:Int):((Nat.gcd t.natAbs b.natAbs:Nat):Int) ∣ t:=Int.natAbs_dvd_natAbs.mp (by rw [Int.natAbs_natCast]; exact Nat.gcd_dvd_left _ _)
theorem gcd_dvd_b (t b:Int):((Nat.gcd t.natAbs b.natAbs:Nat):Int) ∣ b:=Int.natAbs_dvd_natAbs.mp (by rw [Int.natAbs_natCast]; exact Nat.gcd_dvd_right _ _)
theorem fr_mul {t b:Int}(hb:0 < b):frTop t b * b=t * frBot t b:=by
 unfold frTop frBot
 have g0:(0:Int) < ((Nat.gcd t.natAbs b.natAbs:Nat):Int):=by have:=gcd_pos (t:=t) hb; omega
 obtain ⟨x,hx⟩:=gcd_dvd_t t b
 obtain ⟨y,hy⟩:=gcd_dvd_b t b
 generalize ((Nat.gcd t.natAbs b.natAbs:Nat):Int)=g at *
 subst hx hy
 rw [Int.mul_ediv_cancel_left _ (by omega),Int.mul_ediv_cancel_left _ (by omega)]
 grind
theorem frBot_pos {t b:Int}(hb:0 < b):0 < frBot t b:=by
 unfold frBot
 have g0:(0:Int) < ((Nat.gcd t.natAbs b.natAbs:Nat):Int):=by have:=gcd_pos (t:=t) hb; omega
 obtain ⟨y,hy⟩:=gcd_dvd_b t b
 generalize ((Nat.gcd t.natAbs b.natAbs:Nat):Int)=g at *
 subst hy
 rw [Int.mul_ediv_cancel_left _ (by omega)]
 exact Int.pos_of_mul_pos_right hb g0
theorem fr_scale {k t b:Int}(hk:0 < k):frTop (k * t) (k * b)=frTop t b/\frBot (k * t) (k * b)=frBot t b:=by
 unfold frTop frBot
 have e:((Nat.gcd (k * t).natAbs (k * b).natAbs:Nat):Int)=k * ((Nat.gcd t.natAbs b.natAbs:Nat):Int):=by
  rw [Int.natAbs_mul,Int.natAbs_mul,Nat.gcd_mul_left,Int.natCast_mul]
  congr 1
  omega
 rw [e,Int.mul_ediv_mul_of_pos _ _ hk,Int.mul_ediv_mul_of_pos _ _ hk]
 exact ⟨rfl,rfl⟩
theorem fr_eq {a b c d:Int}(hb:0 < b) (hd:0 < d) (e:a * d=c * b):frTop a b=frTop c d/\frBot a b=frBot c d:=by
 obtain ⟨h1,h2⟩:=fr_scale (t:=a) (b:=b) hd
 obtain ⟨h3,h4⟩:=fr_scale (t:=c) (b:=d) hb
 have e1:d * a=b * c:=by rw [Int.mul_comm,e,Int.mul_comm]
 have e2:d * b=b * d:=Int.mul_comm _ _
 rw [<- h1,<- h2,e1,e2,h3,h4]
 exact ⟨rfl,rfl⟩
theorem fr_zero {b:Int}(hb:0 < b):frTop 0 b=0/\frBot 0 b=1:=by
 obtain ⟨h1,h2⟩:=fr_eq (a:=0) (b:=b) (c:=0) (d:=1) hb (by decide) (by omega)
 exact ⟨h1.trans (by decide),h2.trans (by decide)⟩
theorem frTop_le {t b:Int}:(frTop t b).natAbs<=t.natAbs:=Int.natAbs_ediv_le_natAbs _ _
theorem frBot_le {t b:Int}:(frBot t b).natAbs<=b.natAbs:=Int.natAbs_ediv_le_natAbs _ _
abbrev Up (l:List Str):Prop:=l.Pairwise fun a b=>ltStr a b=true
theorem ltS_asym {a b:Str}(h:ltStr a b=true):ltStr b a=false:=by
 cases e:ltStr b a with
 | false=>rfl
 | true=>have:=ltS_trans h e; rw [ltS_irr] at this; cases this
theorem ltS_ne {a b:Str}(h:ltStr a b=true):a≠b:=fun z=>by rw [z,ltS_irr] at h; cases h
theorem sorted_uniq {a b:List Str}(ha:Up a) (hb:Up b) (p:a.Perm b):a=b :=
 List.Perm.eq_of_pairwise (fun x y _ _ h1 h2=>by rw [ltS_asym h1] at h2; cases h2) ha hb p
theorem Up.nodup {l:List Str}(h:Up l):l.Nodup:=h.imp fun z=>ltS_ne z
theorem rising_pw:∀ {l:List Str}{p:Str},PyProof.Rows.risingS p l=true->(p :: l).Nodup->(p :: l).Pairwise fun a b=>ltStr a b=true
 | [],p,_,_=>by simp
 | x :: l,p,h,nd=>by
  have h':=(Bool.and_eq_true _ _ ▸ h:_/\_)
  have nd':=List.nodup_cons.mp nd
  have ih:=rising_pw h'.2 nd'.2
  have px:ltStr p x=true:=by
   have n:p≠x:=fun z=>nd'.1 (z ▸ List.mem_cons_self)
   rcases ltS_tot n with z | z
   ·exact z
   ·have:=h'.1
    rw [PyProof.Rows.ltCps_eq] at this
    unfold ltStr at z
    rw [z] at this
    cases this
  refine List.pairwise_cons.mpr ⟨fun y hy=>?_,ih⟩
  rcases List.mem_cons.mp hy with rfl | hy
  ·exact px
  ·exact ltS_trans px ((List.pairwise_cons.mp ih).1 y hy)
theorem sorted_pw {l:List Str}(h:PyProof.Rows.sortedS l=true) (nd:l.Nodup):l.Pairwise fun a b=>ltStr a b=true:=by
 cases l with
 | nil=>exact .nil
 | cons x l=>exact rising_pw h nd
structure Pce where
 a:List Str
 b:List Str
 t:Int
 o:Int
 c:Int
def PcAt (H:Hp) (r:Addr) (p:Pce):Prop:=∃ a b,H r=some (.tup [.ref a,.ref b,.int p.t,.int p.o,.int p.c])/\H a=some (.tup (p.a.map V.str))/\H b=some (.tup (p.b.map V.str))
theorem PcAt.up {H H':Hp}{r:Addr}{p:Pce}(h:PcAt H r p) (s:∀ b xs,H b=some (.tup xs)->H' b=some (.tup xs)):PcAt H' r p:=by
 obtain ⟨a,b,h1,h2,h3⟩:=h
 exact ⟨a,b,s _ _ h1,s _ _ h2,s _ _ h3⟩
theorem PcAt.same {H H':Hp}{r:Addr}{p:Pce}(h:PcAt H r p) (s:Same H H'):PcAt H' r p:=h.up fun _ _ e=>s _ _ e
structure CrOk (a:List Str):Prop where
 l1:1<=a.length
 l4:a.length<=4
 ok:∀ n∈a,okN n
structure PcOk (p:Pce):Prop where
 a:CrOk p.a
 b:CrOk p.b
 t1:1<=p.t
 t9:p.t<=1000000000
 o1:1<=p.o
 o9:p.o<=1000000000
 c1:1<=p.c
 c9:p.c<=1000000000
structure Crews (p:Pce):Prop where
 a:Up p.a
 b:Up p.b
 no:∀ n∈p.a,n ∉ p.b
 le:p.a.length=p.b.length
def exc (a:List Str) (m y:Str):List Str:=a.filter (fun n=>!decide (n=m)) ++ [y]
def Exch (a:List Str) (m y:Str) (c:List Str):Prop:=c.Perm (exc a m y)/\Up c
theorem Exch.uniq {a c d:List Str}{m y:Str}(h:Exch a m y c) (k:Exch a m y d):c=d:=sorted_uniq h.2 k.2 (h.1.trans k.1.symm)
theorem mem_exc {a:List Str}{m y x:Str}:x∈exc a m y↔(x∈a/\x≠m)\/x=y:=by
 unfold exc
 rw [List.mem_append,List.mem_filter,List.mem_singleton]
 simp
theorem exc_nodup {a:List Str}{m y:Str}(h:a.Nodup) (hy:y ∉ a):(exc a m y).Nodup:=by
 unfold exc
 rw [List.nodup_append]
 refine ⟨h.filter _,by simp,fun x hx z hz=>?_⟩
 rw [List.mem_singleton.mp hz]
 rintro rfl
 exact hy (List.mem_filter.mp hx).1
theorem exch_of {a c:List Str}{m y:Str}(h:a.Nodup) (hy:y ∉ a) (p:c.Perm (exc a m y)) (s:PyProof.Rows.sortedS c=true):Exch a m y c:=⟨p,sorted_pw s (p.nodup_iff.mpr (exc_nodup h hy))⟩
structure Xp (p q:Pce) (m y:Str):Prop where
 hm:m∈p.a
 hy:y∈p.b
 a:Exch p.a m y q.a
 b:Exch p.b y m q.b
theorem nodup_perm_of {a b:List Str}(ha:a.Nodup) (hb:b.Nodup) (h:∀ x,x∈a↔x∈b):a.Perm b:=(List.perm_ext_iff_of_nodup ha hb).mpr h
theorem filter_one {a:List Str}(h:a.Nodup) {m:Str}{f:Str->Bool}(hm:m∈a) (hf:∀ x∈a,f x=true↔x=m):a.filter f=[m]:=by
 have hn:(a.filter f).Nodup:=h.filter _
 have hp:(a.filter f).Perm [m]:=nodup_perm_of hn (by simp) fun x=>by
  rw [List.mem_filter,List.mem_singleton]
  exact ⟨fun z=>(hf x z.1).mp z.2,fun z=>z ▸ ⟨hm,(hf m hm).mpr rfl⟩⟩
 exact List.perm_singleton.mp hp
def notin (a b:List Str):List Str:=a.filter fun n=>!decide (n∈b)
theorem notin_is {a b:List Str}(h:a.Nodup) {m:Str}(hm:m∈a) (hf:∀ x∈a,x ∉ b↔x=m):notin a b=[m]:=filter_one h hm fun x hx=>by rw [<- hf x hx]; simp
theorem notin_one {a b:List Str}{m:Str}(e:notin a b=[m]):m∈a/\m ∉ b/\∀ x∈a,x ∉ b->x=m:=by
 have hm:m∈notin a b:=by rw [e]; simp
 have h:=List.mem_filter.mp hm
 refine ⟨h.1,by simpa using h.2,fun x hx hn=>?_⟩
 have:x∈notin a b:=List.mem_filter.mpr ⟨hx,by simpa using hn⟩
 rw [e] at this
 exact List.mem_singleton.mp this
theorem Xp.diff {p q:Pce}{m y:Str}(P:Crews p) (x:Xp p q m y):notin p.a q.a=[m]/\notin q.a p.a=[y]/\notin p.b q.b=[y]/\notin q.b p.b=[m]:=by
 have my:m≠y:=fun z=>P.no _ x.hm (z ▸ x.hy)
 have nya:y ∉ p.a:=fun z=>P.no _ z x.hy
 have nmb:m ∉ p.b:=P.no _ x.hm
 have e1:∀ z,z∈q.a↔(z∈p.a/\z≠m)\/z=y:=fun z=>by rw [x.a.1.mem_iff,mem_exc]
 have e2:∀ z,z∈q.b↔(z∈p.b/\z≠y)\/z=m:=fun z=>by rw [x.b.1.mem_iff,mem_exc]
 refine ⟨notin_is P.a.nodup x.hm fun z hz=>?_,notin_is x.a.2.nodup ((e1 y).mpr (.inr rfl)) fun z hz=>?_,notin_is P.b.nodup x.hy fun z hz=>?_,notin_is x.b.2.nodup ((e2 m).mpr (.inr rfl)) fun z hz=>?_⟩
 ·rw [e1]
  refine ⟨fun h=>Classical.byContradiction fun w=>h (.inl ⟨hz,w⟩),?_⟩
  rintro rfl (h | h)
  ·exact h.2 rfl
  ·exact my h
 ·refine ⟨fun h=>?_,fun h=>h ▸ nya⟩
  rcases (e1 z).mp hz with w | w
  ·exact absurd w.1 h
  ·exact w
 ·rw [e2]
  refine ⟨fun h=>Classical.byContradiction fun w=>h (.inl ⟨hz,w⟩),?_⟩
  rintro rfl (h | h)
  ·exact h.2 rfl
  ·exact my h.symm
 ·refine ⟨fun h=>?_,fun h=>h ▸ nmb⟩
  rcases (e2 z).mp hz with w | w
  ·exact absurd w.1 h
  ·exact w
theorem xp_of {p q:Pce}{m y:Str}(P:Crews p) (Qc:Crews q) (h1:notin p.a q.a=[m]) (h2:notin q.a p.a=[y]) (h3:notin p.b q.b=[y]) (h4:notin q.b p.b=[m]):Xp p q m y:=by
 obtain ⟨a1,a2,a3⟩:=notin_one h1
 obtain ⟨b1,b2,b3⟩:=notin_one h2
 obtain ⟨c1,c2,c3⟩:=notin_one h3
 obtain ⟨d1,d2,d3⟩:=notin_one h4
 refine ⟨a1,c1,⟨?_,Qc.a⟩,⟨?_,Qc.b⟩⟩
 ·refine nodup_perm_of Qc.a.nodup (exc_nodup P.a.nodup b2) fun z=>?_
  rw [mem_exc]
  constructor
  ·intro hz
   by_cases hp:z∈p.a
   ·exact .inl ⟨hp,fun w=>a2 (w ▸ hz)⟩
   ·exact .inr (b3 z hz hp)
  ·rintro (⟨h,n⟩ | h)
   ·exact Classical.byContradiction fun w=>n (a3 z h w)
   ·exact h ▸ b1
 ·refine nodup_perm_of Qc.b.nodup (exc_nodup P.b.nodup d2) fun z=>?_
  rw [mem_exc]
  constructor
  ·intro hz
   by_cases hp:z∈p.b
   ·exact .inl ⟨hp,fun w=>c2 (w ▸ hz)⟩
   ·exact .inr (d3 z hz hp)
  ·rintro (⟨h,n⟩ | h)
   ·exact Classical.byContradiction fun w=>n (c3 z h w)
   ·exact h ▸ d1
theorem exc_length {a:List Str}{m y:Str}(nd:a.Nodup) (h:m∈a):(exc a m y).length=a.length:=by
 unfold exc
 rw [List.length_append,List.length_singleton]
 have e:a.filter (fun n=>!decide (n=m))=a.erase m:=by
  rw [nd.erase_eq_filter]
  rfl
 rw [e,List.length_erase_of_mem h]
 have:0 < a.length:=List.length_pos_of_mem h
 omega
theorem Xp.crews {p q:Pce}{m y:Str}(P:Crews p) (x:Xp p q m y):Crews q:=by
 have my:m≠y:=fun z=>P.no _ x.hm (z ▸ x.hy)
 refine ⟨x.a.2,x.b.2,fun n hn hb=>?_,?_⟩
 ·rw [x.a.1.mem_iff,mem_exc] at hn
  rw [x.b.1.mem_iff,mem_exc] at hb
  rcases hn with ⟨h1,h2⟩ | h1 <;> rcases hb with ⟨h3,h4⟩ | h3
  ·exact P.no n h1 h3
  ·exact h2 h3
  ·exact h4 h1
  ·exact my (h3.symm.trans h1)
 ·rw [x.a.1.length_eq,x.b.1.length_eq,exc_length P.a.nodup x.hm,exc_length P.b.nodup x.hy]; exact P.le
theorem Xp.uniq {p q:Pce}{m y m' y':Str}(P:Crews p) (x:Xp p q m y) (x':Xp p q m' y'):m=m'/\y=y':=by
 have a:=x.diff P
 have b:=x'.diff P
 have h1:=a.1.symm.trans b.1
 have h2:=a.2.1.symm.trans b.2.1
 simp only [List.cons.injEq,and_true] at h1 h2
 exact ⟨h1,h2⟩
def dif (p q:Pce):Int:=(p.o - p.t) * q.c - (q.o - q.t) * p.c
def trOf (p q:Pce) (m y:Str):Str × Str × Int × Int :=
 let d:=dif p q
 let b:=p.c * q.c
 if 0 < d then (m,y,frTop d b,frBot d b) else if d < 0 then (y,m,frTop (-d) b,frBot (-d) b) else (if ltStr y m=true then y else m,if ltStr y m=true then m else y,0,1)
def Told (p q:Pce) (r:Option (Str × Str × Int × Int)):Prop:=(∃ m y,Xp p q m y/\r=some (trOf p q m y))\/((∀ m y,¬ Xp p q m y)/\r=none)
theorem Told.uniq {p q:Pce}{r r':Option (Str × Str × Int × Int)}(P:Crews p) (h:Told p q r) (h':Told p q r'):r=r':=by
 rcases h with ⟨m,y,x,rfl⟩ | ⟨n,rfl⟩ <;> rcases h' with ⟨m',y',x',rfl⟩ | ⟨n',rfl⟩
 ·obtain ⟨rfl,rfl⟩:=x.uniq P x'; rfl
 ·exact absurd x (n' _ _)
 ·exact absurd x' (n _ _)
 ·rfl
theorem fr_dif {p q:Pce}(hp:0 < p.c) (hq:0 < q.c):frTop (frTop (p.o - p.t) p.c * frBot (q.o - q.t) q.c - frTop (q.o - q.t) q.c * frBot (p.o - p.t) p.c) (frBot (p.o - p.t) p.c * frBot (q.o - q.t) q.c)=frTop (dif p q) (p.c * q.c) /\
  frBot (frTop (p.o - p.t) p.c * frBot (q.o - q.t) q.c - frTop (q.o - q.t) q.c * frBot (p.o - p.t) p.c) (frBot (p.o - p.t) p.c * frBot (q.o - q.t) q.c)=frBot (dif p q) (p.c * q.c):=by
 have m1:=fr_mul (t:=p.o - p.t) hp
 have m2:=fr_mul (t:=q.o - q.t) hq
 have b1:=frBot_pos (t:=p.o - p.t) hp
 have b2:=frBot_pos (t:=q.o - q.t) hq
 generalize frTop (p.o - p.t) p.c=T1 at *
 generalize frBot (p.o - p.t) p.c=B1 at *
 generalize frTop (q.o - q.t) q.c=T2 at *
 generalize frBot (q.o - q.t) q.c=B2 at *
 refine fr_eq (Int.mul_pos b1 b2) (Int.mul_pos hp hq) ?_
 unfold dif
 rw [Int.sub_mul,Int.sub_mul]
 have a1:T1 * B2 * (p.c * q.c)=(p.o - p.t) * q.c * (B1 * B2):=by
  calc T1 * B2 * (p.c * q.c)=(T1 * p.c) * (B2 * q.c):=by ac_rfl
   _=((p.o - p.t) * B1) * (B2 * q.c):=by rw [m1]
   _=_:=by ac_rfl
 have a2:T2 * B1 * (p.c * q.c)=(q.o - q.t) * p.c * (B1 * B2):=by
  calc T2 * B1 * (p.c * q.c)=(T2 * q.c) * (B1 * p.c):=by ac_rfl
   _=((q.o - q.t) * B2) * (B1 * p.c):=by rw [m2]
   _=_:=by ac_rfl
 rw [a1,a2]
theorem fr_neg {t b:Int}(hb:0 < b):frTop (-t) b=- frTop t b/\frBot (-t) b=frBot t b:=by
 have h:=fr_mul (t:=t) hb
 unfold frTop frBot
 rw [Int.natAbs_neg]
 refine ⟨?_,rfl⟩
 rw [Int.neg_ediv_of_dvd]
 exact gcd_dvd_t t b
theorem fr_sign {t b:Int}(hb:0 < b):(0 < frTop t b↔0 < t)/\(frTop t b < 0↔t < 0):=by
 have h:=fr_mul (t:=t) hb
 have hB:=frBot_pos (t:=t) hb
 generalize frTop t b=T at *
 generalize frBot t b=B at *
 have key:∀ {x y u v:Int},0 < u->0 < v->x * u=y * v->0 < x->0 < y:=fun hu hv e hx=>by
  have:=Int.mul_pos hx hu
  rw [e] at this
  exact Int.pos_of_mul_pos_left this hv
 refine ⟨⟨key hb hB h,key hB hb h.symm⟩,⟨fun z=>?_,fun z=>?_⟩⟩
 ·have:=key (x:=-T) (y:=-t) hb hB (by rw [Int.neg_mul,Int.neg_mul,h]) (by omega)
  omega
 ·have:=key (x:=-t) (y:=-T) hB hb (by rw [Int.neg_mul,Int.neg_mul,h]) (by omega)
  omega
end K39
namespace L2
open PySem PySem.Spec PyProof.Rows
def gv:St->Nat->Option V
 | [],_=>none
 | x :: _,0=>x
 | _ :: l,n + 1=>gv l n
theorem gv_get:∀ {σ:St}{i:Nat}{v:V},gv σ i=some v->σ[i]?=some (some v)
 | [],_,_,h=>by cases h
 | x :: _,0,_,h=>by rw [List.getElem?_cons_zero]; exact congrArg some h
 | _ :: l,n + 1,v,h=>by rw [List.getElem?_cons_succ]; exact gv_get (σ:=l) h
def qv (Q:VK) (H:Hp):Option V->Prop
 | some v=>Q v H
 | none=>False
def vC (i:Nat):TE:=fun σ H Q=>qv Q H (gv σ i)
def kI2 (g:Int->Int->V) (Q:VK) (H:Hp):V->V->Prop
 | .int i,.int j=>Q (g i j) H
 | _,_=>False
def rK (g:Int->Int->V):R2:=fun x y H Q=>kI2 g Q H x y
def kB (Q:Bool->Hp->Prop) (H:Hp):V->Prop
 | .bl k=>Q k H
 | _=>False
def kTest (t:TE):TT:=fun σ H Q=>t σ H fun x H'=>kB Q H' x
def gN:TGs:=fun vs σ H Q=>match vs with
 | []=>Q σ H
 | _=>False
def gC (t:TG) (u:TGs):TGs:=fun vs σ H Q=>match vs with
 | v :: r=>t v σ H fun σ' H'=>u r σ' H' Q
 | []=>False
inductive UnT (n:Nat) (t:TGs):V->St->Hp->(St->Hp->Prop)->Prop
 | mk {a:Addr} {xs:List V} {σ:St} {H:Hp} {Q:St->Hp->Prop} (h:H a=some (.tup xs)) (e:xs.length=n) (q:t xs σ H Q):UnT n t (.ref a) σ H Q
inductive IxT:V->V->Hp->VK->Prop
 | mk {p:Addr} {xs:List V} {i:Int} {v:V} {H:Hp} {Q:VK} (h:H p=some (.tup xs)) (e:atI xs i=some v) (q:Q v H):IxT (.ref p) (.int i) H Q
inductive IxL:V->V->Hp->VK->Prop
 | mk {p:Addr} {xs:List V} {i:Int} {v:V} {H:Hp} {Q:VK} (h:H p=some (.lst xs)) (e:atI xs i=some v) (q:Q v H):IxL (.ref p) (.int i) H Q
inductive LenC:List V->Hp->VK->Prop
 | l {p:Addr} {xs:List V} {H:Hp} {Q:VK} (h:H p=some (.lst xs)) (q:Q (.int xs.length) H):LenC [.ref p] H Q
 | t {p:Addr} {xs:List V} {H:Hp} {Q:VK} (h:H p=some (.tup xs)) (q:Q (.int xs.length) H):LenC [.ref p] H Q
inductive NewO (o:HO) (n:Nat) (H:Hp) (Q:VK):Prop
 | mk (l:Nat.ble n 10000=true) (q:∀ p M,Same H M->M p=some o->H p=none->Q (.ref p) M)
def kTup (t:TA):TE:=fun σ H Q=>t σ H fun xs H1=>NewO (.tup xs) xs.length H1 Q
def kLst (t:TA):TE:=fun σ H Q=>t σ H fun xs H1=>NewO (.lst xs) xs.length H1 Q
theorem NewO.old {o:HO}{n:Nat}{H:Hp}{Q:VK}(h:NewO o n H Q):n<=sizeLine/\∀ p,H p=none->Q (.ref p) (upd H p o):=by
 obtain ⟨l,q⟩:=h
 exact ⟨Nat.le_trans (Nat.le_of_ble_eq_true l) (by decide),fun p hp=>q p _ (fun b u z=>by rw [upd_ne (fun y=>by rw [y,hp] at z; cases z)]; exact z) upd_same hp⟩
inductive AppC:V->List V->Hp->VK->Prop
 | mk {l:Addr} {xs:List V} {y:V} {H:Hp} {Q:VK} (h:H l=some (.lst xs)) (e:xs.length<=10000) (q:∀ M,Keep l H M->M l=some (.lst (xs ++ [y]))->Q .non M):AppC (.ref l) [y] H Q
inductive PopC:V->List V->Hp->VK->Prop
 | mk {l:Addr} {xs:List V} {y:V} {H:Hp} {Q:VK} (h:H l=some (.lst (xs ++ [y]))) (q:∀ M,Keep l H M->M l=some (.lst xs)->Q y M):PopC (.ref l) [] H Q
inductive IsL:V->Hp->Prop
 | mk {l:Addr} {xs:List V} {H:Hp} (h:H l=some (.lst xs)):IsL (.ref l) H
def kBM (r:V->List V->Hp->VK->Prop) (to:TE) (t:TA):TE:=fun σ H Q=>to σ H fun x H1=>IsL x H1/\t σ H1 fun xs H2=>r x xs H2 Q
inductive FldC (K:PySem.W.Frag) (f:Str):V->Hp->VK->Prop
 | mk {a C dx:Addr} {fs:List (Str × V)} {v:V} {H:Hp} {Q:VK} (h:H a=some (.ins C dx fs)) (c:Cls K C) (n:NoAttr K C f) (e:fs.lookup f=some v) (q:Q v H):FldC K f (.ref a) H Q
def kFld (K:PySem.W.Frag) (ta:TE) (f:Str):TE:=fun σ H Q=>ta σ H fun x H1=>FldC K f x H1 Q
inductive InsC (C:Addr) (m:Str):V->Hp->Prop->Prop
 | mk {a dx:Addr} {fs:List (Str × V)} {H:Hp} {R:Prop} (h:H a=some (.ins C dx fs)) (n:fs.lookup m=none) (q:R):InsC C m (.ref a) H R
def kMeth (C:Addr) (m:Str) (sp:Sp) (E:XK) (ta:TE) (t:TA):TE:=fun σ H Q=>ta σ H fun x H1=>InsC C m x H1 (t σ H1 fun vs H2=>sp (x :: vs) H2 Q E)
def kCall (sp:Sp) (E:XK) (t:TA):TE:=fun σ H Q=>t σ H fun vs H1=>sp vs H1 Q E
def kUn (g:Int->V) (Q:VK) (H:Hp):V->Prop
 | .int i=>Q (g i) H
 | _=>False
def rUn (g:Int->V):V->Hp->VK->Prop:=fun x H Q=>kUn g Q H x
def kIf (A B:Prop):Bool->Prop
 | true=>A
 | false=>B
def kIfS (c:TT) (t u:TS):TS:=fun D σ H=>c σ H fun b H1=>kIf (t D σ H1) (u D σ H1) b
theorem if2 {A B:Prop}{b:Bool}(h1:b=true->A) (h2:b=false->B):kIf A B b:=by
 cases b with
 | true=>exact h1 rfl
 | false=>exact h2 rfl
theorem ifD {A B c:Prop} [Decidable c] (h1:c->A) (h2:¬ c->B):kIf A B (decide c):=if2 (fun z=>h1 (of_decide_eq_true z)) fun z=>h2 (of_decide_eq_false z)
theorem ifY {A B c:Prop} [Decidable c] (h:c) (h1:A):kIf A B (decide c):=by rw [decide_eq_true h]; exact h1
theorem ifN {A B c:Prop} [Decidable c] (h:¬ c) (h1:B):kIf A B (decide c):=by rw [decide_eq_false h]; exact h1
inductive LiK (K:PySem.W.Frag) (R:It->Hp->Prop) (H:Hp):V->Prop
 | mk {a:Addr} {xs:List V} (h:H a=some (.lst xs)) (q:R (Itl K a) H):LiK K R H (.ref a)
inductive TiK (K:PySem.W.Frag) (R:It->Hp->Prop) (H:Hp):V->Prop
 | mk {a:Addr} {xs:List V} (h:H a=some (.tup xs)) (q:R (Itt K a) H):TiK K R H (.ref a)
inductive RgK (R:It->Hp->Prop) (H:Hp):List V->Prop
 | mk {j:Int} (h0:0<=j) (h1:j<=100000) (q:R (Itr 0 j.toNat) H):RgK R H [.int j]
def iL (K:PySem.W.Frag) (tl:TE):TI:=fun σ H R=>tl σ H fun x H1=>LiK K R H1 x
def iT (K:PySem.W.Frag) (tl:TE):TI:=fun σ H R=>tl σ H fun x H1=>TiK K R H1 x
def iR (ta:TA):TI:=fun σ H R=>ta σ H fun x H1=>RgK R H1 x
section
variable {X:Cx}{e a b:Expr}{es:List Expr}{te t ta tb:TE}{tv:TA}{pos:Pos}
theorem PE.wk {t':TE}(h:PE X e t) (k:∀ σ H Q,t' σ H Q->t σ H Q):PE X e t':=fun pins s σ H Q I q=>h pins s σ H Q I (k _ _ _ q)
theorem PT.wk {t t':TT}(h:PT X e t) (k:∀ σ H Q,t' σ H Q->t σ H Q):PT X e t':=fun pins s σ H Q I q=>h pins s σ H Q I (k _ _ _ q)
theorem PG.wk {t t':TG}(h:PG X e t) (k:∀ v σ H Q,t' v σ H Q->t v σ H Q):PG X e t':=fun pins s σ H v u Q I r q=>h pins s σ H v u Q I r (k _ _ _ _ q)
theorem PGs.wk {t t':TGs}(h:PGs X es t) (k:∀ v σ H Q,t' v σ H Q->t v σ H Q):PGs X es t':=fun pins s σ H v u Q I r q=>h pins s σ H v u Q I r (k _ _ _ _ q)
theorem OpR.wk {f:Value->Value->Sem Value}{r r':R2}(h:OpR X f r) (k:∀ x y H Q,r' x y H Q->r x y H Q):OpR X f r':=fun pins s σ H x y v u Q I rx ry q=>h pins s σ H x y v u Q I rx ry (k _ _ _ _ q)
theorem CallR.wk {f:Value}{r r':List V->Hp->VK->Prop}(h:CallR X f r) (k:∀ x H Q,r' x H Q->r x H Q):CallR X f r':=fun pins s σ H xs us Q I rx q=>h pins s σ H xs us Q I rx (k _ _ _ q)
theorem IxR.wk {r r':R2}(h:IxR X r) (k:∀ x y H Q,r' x y H Q->r x y H Q):IxR X r':=fun value slice pins s σ H x y v u Q I rx ry q hs=>h value slice pins s σ H x y v u Q I rx ry (k _ _ _ _ q) hs
theorem vC_var {i:Nat}(σ:St) (H:Hp) (Q:VK) (h:vC i σ H Q):tVar i σ H Q:=by
 unfold vC at h
 cases e:gv σ i with
 | none=>rw [e] at h; cases h
 | some v=>rw [e] at h; exact ⟨v,gv_get e,h⟩
theorem pC (i:Nat) {x:Str}{pos:Pos}(hN:X.N[i]?=some x:=by rfl) (hv:Vis X.env.scope x:=by first | exact Or.inl rfl | exact Or.inr (Or.inl rfl) | exact Or.inr (Or.inr rfl)) (hd:(x == ("__debug__":Str))=false:=by decide)
  (hcd:(x == ("__classdict__":Str))=false:=by decide):PE X (.Name x pos) (vC i):=(pe_var hN hv hd hcd).wk vC_var
theorem oK {f:Value->Value->Sem Value}{g:Int->Int->V}(h:OpR X f (rI0 g)):OpR X f (rK g):=h.wk fun x y H Q q=>by
 cases x <;> cases y <;> first | exact ⟨_,_,rfl,rfl,q⟩ | cases q
theorem uNeg:UnR X (unaryOp .USub) (rUn fun i=>.int (-i)):=fun pins s σ H x v Q I r q=>by
 cases x <;> first | exact un_neg pins s σ H _ v Q I r ⟨_,rfl,q⟩ | cases q
theorem kB_is {Q:Bool->Hp->Prop}{H:Hp}{x:V}(h:kB Q H x):∃ k,x=.bl k/\Q k H:=by
 cases x <;> first | exact ⟨_,rfl,h⟩ | cases h
theorem pt_C {op:CmpOp}{r:R2}(ho:OpR X (compareOp op) r) (ha:PE X a ta) (hb:PE X b tb) (hm:behindInMarks op b=false):PT X (.Compare a [op] [b] pos) (kTest (tOp r ta tb)):=by
 intro pins s σ H Q I h
 refine wpAny_isTrue_Compare1 (thn (ha pins s σ H _ I h) fun v s1 ⟨x,H1,I1,r1,q1⟩=>thn (hb pins s1 σ H1 _ I1 q1) fun u s2 ⟨y,H2,I2,r2,q2⟩ =>
  thn (ho pins s2 σ H2 x y v u _ I2 r1 r2 q2) fun c s3 ⟨z,H3,I3,r3,q⟩=>?_) hm
 obtain ⟨k,e,q3⟩:=kB_is q
 subst e
 cases r3
 exact wpAny_truthy_bool ⟨H3,I3,q3⟩
theorem pt_V {e:Expr}{t:TE}(h:PE X e t) (he:∀ whole,isTrue e X.env whole=(do let v <- whole; standAt e.pos; holding [v] (truthy v)):=by intro _; rfl):PT X e (kTest t):=by
 intro pins s σ H Q I hw
 refine isTrue_plain (thn (h pins s σ H _ I hw) fun v s1 ⟨x,H1,I1,r1,q1⟩=>?_) (he _)
 obtain ⟨d,rfl,q⟩:=kB_is q1
 cases r1
 exact wpAny_truthy_bool ⟨H1,I1,q⟩
theorem psIf {c:Expr}{a b:List Stmt}{tc:TT}{t u:TS}(hc:PT X c tc) (ha:PSs X a t) (hb:PSs X b u):PS X (.If c a b pos) (kIfS tc t u):=by
 intro pins s σ H D I h
 refine wpAny_If (thn (hc pins s σ H _ I h) fun d s1 ⟨H1,I1,q1⟩=>?_)
 cases d with
 | true=>exact ha pins s1 σ H1 D I1 q1
 | false=>exact hb pins s1 σ H1 D I1 q1
theorem pgN:PGs X [] gN:=pgs_nil.wk fun v σ H Q q=>by
 cases v with
 | nil=>exact ⟨rfl,q⟩
 | cons=>cases q
theorem pgC {e:Expr}{es:List Expr}{t:TG}{u:TGs}(h1:PG X e t) (h2:PGs X es u)
  (hs:(assignEach (e :: es) X.env).map (·.2)=assign e X.env :: (assignEach es X.env).map (·.2):=by rfl):PGs X (e :: es) (gC t u):=(pgs_cons h1 h2 hs).wk fun v σ H Q q=>by
 cases v with
 | nil=>cases q
 | cons v r=>exact ⟨v,r,rfl,q⟩
theorem pgT (n:Nat) {es:List Expr}{k:Nat}{t:TGs}(h:PGs X es t) (hc:X.calm=true:=by rfl)
  (hn:(assignEach es X.env).length=n:=by rfl) (hst:(assignEach es X.env).findIdx? (·.1)=none:=by rfl):PG X (.Tuple es k pos) (UnT n t):=(pg_tup hc h hn hst).wk fun v σ H Q q=>by
 cases q with
 | mk h e q=>exact ⟨_,_,rfl,.inl (.inl h),e,q⟩
theorem ixT2:IxR X IxT:=ix_tup.wk fun x y H Q q=>by
 cases q with
 | mk h e q=>exact ⟨_,_,_,_,rfl,rfl,.inl (.inl h),e,q⟩
theorem ixL2:IxR X IxL:=ix_list.wk fun x y H Q q=>by
 cases q with
 | mk h e q=>exact ⟨_,_,_,_,rfl,rfl,.inl (.inl h),e,q⟩
theorem cLen:CallR X (.builtin "len") LenC:=call_len_seq.wk fun x H Q q=>by
 cases q with
 | l h q=>exact ⟨_,_,rfl,.inl (.inl (.inl h)),q⟩
 | t h q=>exact ⟨_,_,rfl,.inr (.inl (.inl h)),q⟩
theorem peT {x1}(h:PA X es tv):PE X (.Tuple es x1 pos) (kTup tv):=by
 intro pins s σ H Q I hq
 refine wpAny_Tuple_spliced (thn (h pos pins s σ H _ I hq) fun us s1 ⟨xs,H1,I1,r,q0⟩=>?_)
 have q:=q0.old
 have hf:H1 s1.heap.objs.size=none:=I1.hok.fresh (Nat.le_refl _)
 exact ⟨by rw [<- r.length]; exact q.1,.ref s1.heap.objs.size,upd H1 s1.heap.objs.size (.tup xs),I1.laid (t':=s1.toks) (fun b u e=>Heap.get?_push_of_some _ e) (Nat.le_refl _) ⟨q.1,us,r,⟨_,Heap.get?_push_size _ rfl,rfl,rfl,_,rfl⟩⟩,rfl,q.2 _ hf⟩
theorem peL (h:PA X es tv):PE X (.List es pos) (kLst tv):=by
 intro pins s σ H Q I hq
 refine wpAny_List_spliced (thn (h pos pins s σ H _ I hq) fun us s1 ⟨xs,H1,I1,r,q0⟩=>?_)
 have q:=q0.old
 have hf:H1 s1.heap.objs.size=none:=I1.hok.fresh (Nat.le_refl _)
 exact ⟨by rw [<- r.length]; exact q.1,.ref s1.heap.objs.size,upd H1 s1.heap.objs.size (.lst xs),I1.laid (t':=s1.toks) (fun b u e=>Heap.get?_push_of_some _ e) (Nat.le_refl _) ⟨q.1,us,0,r,Heap.get?_push_size _ rfl⟩,rfl,q.2 _ hf⟩
theorem peF (K:PySem.W.Frag) {f:Str}(he:PE X e ta) (hK:X.K=K:=by rfl) (hb:attributeBase e f X.env (eval e X.env)=eval e X.env:=by rfl):PE X (.Attribute e f pos) (kFld K ta f):=by
 subst hK
 intro pins s σ H Q I h
 refine attr_of hb (thn (he pins s σ H _ I h) fun u s1 ⟨x,H1,I1,rx,q⟩=>?_)
 cases q with
 | mk ea c n l q =>
  cases rx
  exact getattr_ok I1 ea c n l fun u' s2 I2 ru=>⟨_,_,I2,ru,q⟩
theorem peCall {CX:CXT}{k:Nat}{f:Addr}{fd:FuncData}{ps:List Str}{sp:Sp}{x:Str}{p:Pos}{E:XK}(F:FnOk X.prog X.w X.K X.mg X.base CX k f fd ps sp) (hr:Room k X.A) (hg:Gl X x) (hm:X.mg x=some (.ref f)) (hk:PySem.W.keepIn X.K (.ref f)=true) (hb:Binds X.K fd ps []) (hx:Passes CX X E)
  (ha:PA X (e :: es) tv) (hdb:(x == ("__debug__":Str))=false:=by decide)
  (he:starEach (e :: es) X.env=(false,eval e X.env) :: starEach es X.env:=by rfl) (hpl:(backTo pos (starEach es X.env)).any (·.1)=false:=by rfl):PE X (.Call (.Name x p) (e :: es) [] pos) (kCall sp E tv):=by
 intro pins s σ H Q I h
 refine wpAny_Call_Name_kw (ld_glob I hg hm ?_ hdb)
 refine PySem.W.callWith_K (h₀:=X.base) I.ok.mod.kin hk (thn (ha pos pins s σ H _ I h) fun us s1 ⟨vs,H1,I1,r,q⟩=>⟨I1.kIn,?_⟩) he hpl
 exact run_fn F hr hb .nil hx I1 r (by rw [List.append_nil]; exact q)
theorem peMeth {CX:CXT}{k:Nat}{C f:Addr}{m:Str}{fd:FuncData}{ps:List Str}{sp:Sp}{apos:Pos}{E:XK}{o:Expr}{pl:Sem Bool}(he:PE X o ta) (c:Cls X.K C) (hm:Meth X.K C m f) (F:FnOk X.prog X.w X.K X.mg X.base CX k f fd ps sp) (hr:Room k X.A) (hb:Binds X.K fd ps []) (hx:Passes CX X E) (ha:PA X (e :: es) tv)
  (hst:starEach (e :: es) X.env=(false,eval e X.env) :: starEach es X.env:=by rfl) (hpl:(backTo pos (starEach es X.env)).any (·.1)=false:=by rfl)
  (ht:eval (.Call (.Attribute o m apos) (e :: es) [] pos) X.env=(do
   let ov <- eval o X.env
   standAt apos.atName
   let (f,first) <- holding [ov] (getMethod ov m pl)
   callWith pos f first (backTo pos (starEach (e :: es) X.env)) (backToKw pos (keywordEach [] X.env))):=by rfl) :
  PE X (.Call (.Attribute o m apos) (e :: es) [] pos) (kMeth C m sp E ta tv):=by
 intro pins s σ H Q I h
 refine PySem.W.methodCall_KW (pl:=pl) (thn (he pins s σ H _ I h) fun u s1 ⟨x,H1,I1,rx,q⟩=>?_) ht
 cases q with
 | mk ea l q =>
  cases rx
  refine getmeth_ok I1 ea c hm l ?_
  refine PySem.W.callWith_K (first:=[.ref _]) (h₀:=X.base) I.ok.mod.kin hm.kp (thn (ha pos pins s1 σ H1 _ I1 q) fun us s2 ⟨vs,H2,I2,r,q2⟩=>⟨I2.kIn,?_⟩) hst hpl
  exact run_fn (us:=.ref _ :: us) (vs:=.ref _ :: vs) F hr hb .nil hx I2 (.cons rfl r) (by rw [List.append_nil]; exact q2)
theorem peMeth0 {CX:CXT}{k:Nat}{C f:Addr}{m:Str}{fd:FuncData}{ps:List Str}{sp:Sp}{apos:Pos}{E:XK}{o:Expr}{pl:Sem Bool}(he:PE X o ta) (c:Cls X.K C) (hm:Meth X.K C m f) (F:FnOk X.prog X.w X.K X.mg X.base CX k f fd ps sp) (hr:Room k X.A) (hb:Binds X.K fd ps []) (hx:Passes CX X E)
  (ht:eval (.Call (.Attribute o m apos) [] [] pos) X.env=(do
   let ov <- eval o X.env
   standAt apos.atName
   let (f,first) <- holding [ov] (getMethod ov m pl)
   callWith pos f first (backTo pos (starEach [] X.env)) (backToKw pos (keywordEach [] X.env))):=by rfl) :
  PE X (.Call (.Attribute o m apos) [] [] pos) (kMeth C m sp E ta tNil):=by
 intro pins s σ H Q I h
 refine PySem.W.methodCall_KW (pl:=pl) (thn (he pins s σ H _ I h) fun u s1 ⟨x,H1,I1,rx,q⟩=>?_) ht
 cases q with
 | mk ea l q =>
  cases rx
  refine getmeth_ok I1 ea c hm l ?_
  exact PySem.W.callWith_K0 (first:=[.ref _]) I1.kIn hm.kp (run_fn (us:=[.ref _]) (vs:=[.ref _]) F hr hb .nil hx I1 (.cons rfl .nil) q)
theorem IsL.ty {K:PySem.W.Frag}{x:V}{H:Hp}(h:IsL x H):tyV K "list" x H:=by
 cases h with
 | mk h=>exact .inl ⟨rfl,_,.inl (.inl h)⟩
theorem peBM {name:Str}{apos cpos:Pos}{id:String}{o:Expr}{r:V->List V->Hp->VK->Prop}(slot:Slot "list" name id) (hty:typeOf (.builtin id)=pure (.type "method_descriptor")) (hm:MtR X id r) (ho:PE X o ta) (ha:PA X (e :: es) tv)
  (hbase:attributeBase o name X.env (eval o X.env)=eval o X.env:=by rfl)
  (hfew:((backTo cpos (starEach (e :: es) X.env)).all (fun x=>!x.1) && (backToKw cpos (keywordEach [] X.env)).all (fun x=>x.1.isSome)
   && decide ((e :: es).length + ([]:List Keyword).length + (if ([]:List Keyword).isEmpty then 0 else 1) < 30))=true:=by rfl)
  (hline:(apos.endLine == cpos.line)=true:=by rfl) (hs:starEach (e :: es) X.env=(false,eval e X.env) :: starEach es X.env:=by rfl) (hplain:(backTo cpos (starEach es X.env)).any (·.1)=false:=by rfl) :
  PE X (.Call (.Attribute o name apos) (e :: es) [] cpos) (kBM r ta tv):=by
 intro pins s σ H Q I h
 refine wpAny_Call_method_late hbase hfew hline rfl (thn (ho pins s σ H _ I h) fun v s1 ⟨x,H1,I1,r1,ty,q1⟩=>?_)
 obtain ⟨h1,h2⟩:=tyV_is I1 r1 (ty.ty (K:=X.K))
 refine ⟨"list",id,PySem.F.plainAttrs_list,slot,hty,h1,h2,?_⟩
 have hA:=ha cpos pins s1 σ H1 _ I1 q1
 rw [hs] at hA ⊢
 refine Calls.callWith_builtin (by show (false || (backTo cpos (starEach es X.env)).any (·.1))=false; rw [hplain] <;> rfl) (Calls.evalArgs_plain ?_)
 exact thn hA fun us s2 ⟨vs,H2,I2,r2,q2⟩=>hm pins s2 σ H2 x vs v us Q I2 r1 r2 q2
theorem peBM0 {name:Str}{apos cpos:Pos}{id:String}{o:Expr}{r:V->List V->Hp->VK->Prop}(slot:Slot "list" name id) (hty:typeOf (.builtin id)=pure (.type "method_descriptor")) (hm:MtR X id r) (ho:PE X o ta)
  (hbase:attributeBase o name X.env (eval o X.env)=eval o X.env:=by rfl) (hline:(apos.endLine == cpos.line)=true:=by rfl):PE X (.Call (.Attribute o name apos) [] [] cpos) (kBM r ta tNil):=by
 intro pins s σ H Q I h
 refine wpAny_Call_method0_late hbase hline (thn (ho pins s σ H _ I h) fun v s1 ⟨x,H1,I1,r1,ty,q1⟩=>?_)
 obtain ⟨h1,h2⟩:=tyV_is I1 r1 (ty.ty (K:=X.K))
 exact ⟨"list",id,PySem.F.plainAttrs_list,slot,hty,h1,h2,Calls.callWith_builtin rfl (PySem.evalArgs_none (hm pins s1 σ H1 x [] v [] Q I1 r1 .nil q1))⟩
theorem mtApp:MtR X "list.append" AppC:=fun pins s σ H x xs v us Q I r1 r2 q=>by
 cases q with
 | mk h e q=>exact mt_append pins s σ H _ _ v us Q I r1 r2 ⟨_,_,_,rfl,rfl,h,Nat.lt_of_le_of_lt e (by decide),q _ (Keep.at _) upd_same⟩
theorem mtPop:MtR X "list.pop" PopC:=fun pins s σ H x xs v us Q I r1 r2 q=>by
 cases q with
 | mk h q=>exact mt_pop pins s σ H _ _ v us Q I r1 r2 ⟨_,_,_,rfl,rfl,h,(by rw [List.length_append,List.length_singleton,Nat.add_sub_cancel,List.getElem?_append_right (Nat.le_refl _),Nat.sub_self]; rfl),by rw [List.dropLast_concat]; exact q _ (Keep.at _) upd_same⟩
theorem piL (K:PySem.W.Frag) {tg l:Expr}(hl:PE X l te) (hK:X.K=K:=by rfl):PI X tg l (iL K te):=by
 subst hK
 intro pins s σ H R I h
 refine thn (hl pins s σ H _ I h) fun v s1 ⟨x,H1,I1,r1,q1⟩=>?_
 cases q1 with
 | mk h0 q =>
  cases r1
  obtain ⟨its,rv,p,hz⟩:=I1.list (.inl (.inl h0))
  refine wpAny_pyIter_list p.isList ?_
  refine ⟨s1.heap.objs.size,[s1.heap.objs.size],_,_,H1,rfl,I1.kept (t':=s1.toks) fun b o e=>Heap.get?_push_of_some _ e,turn_list _ _,⟨_,Heap.get?_push_size _ rfl,rfl,rfl⟩,fun b hb=>?_,q⟩
  have e:b=s1.heap.objs.size:=by simpa using hb
  subst e
  exact I1.fpOk (Nat.le_refl _) (I1.hok.fresh (Nat.le_refl _))
theorem piT (K:PySem.W.Frag) {tg l:Expr}(hl:PE X l te) (hK:X.K=K:=by rfl):PI X tg l (iT K te):=by
 subst hK
 intro pins s σ H R I h
 refine thn (hl pins s σ H _ I h) fun v s1 ⟨x,H1,I1,r1,q1⟩=>?_
 cases q1 with
 | mk h0 q =>
  cases r1
  obtain ⟨its,rv,p,hz⟩:=I1.tuple (.inl (.inl h0))
  refine wpAny_pyIter_tuple (show s1.heap.IsTuple _ its.toArray from p) ?_
  refine ⟨s1.heap.objs.size,[s1.heap.objs.size],_,_,H1,rfl,I1.kept (t':=s1.toks) fun b o e=>Heap.get?_push_of_some _ e,turn_tuple _ _,⟨_,Heap.get?_push_size _ rfl,rfl,rfl⟩,fun b hb=>?_,q⟩
  have e:b=s1.heap.objs.size:=by simpa using hb
  subst e
  exact I1.fpOk (Nat.le_refl _) (I1.hok.fresh (Nat.le_refl _))
theorem piR {tg a:Expr}{p pos:Pos}(hg:Gl X "range") (hm:X.mg "range"=none) (ha:PA X [a] tv) (hs:starEach [a] X.env=[(false,eval a X.env)]:=by rfl):PI X tg (.Call (.Name "range" p) [a] [] pos) (iR tv):=by
 intro pins s σ H R I h
 refine Call_ (ld_blt I hg hm boot_range (PyProof.Rows.callWith_type1 (thn (ha pos pins s σ H _ I h) fun us s1 ⟨vs,H1,I1,r1,q1⟩=>?_) hs rfl))
 cases q1 with
 | mk h0 h1 q =>
  cases r1 with
  | cons r rr =>
   cases rr
   obtain ⟨t,rfl⟩:=r
   exact call_range_1 (range_it I1 (by omega) (by omega) (by omega) (by omega) (by simpa using q))
end
end L2
namespace L2
open PySem PySem.Spec PyProof.Rows
inductive LstI (H:Hp) (Q:VK):List V->Prop
 | t {p:Addr} {xs:List V} (h:H p=some (.tup xs)) (q:∀ l M,Same H M->M l=some (.lst xs)->H l=none->Q (.ref l) M):LstI H Q [.ref p]
 | l {p:Addr} {xs:List V} (h:H p=some (.lst xs)) (q:∀ l M,Same H M->M l=some (.lst xs)->H l=none->Q (.ref l) M):LstI H Q [.ref p]
def rLst:List V->Hp->VK->Prop:=fun vs H Q=>LstI H Q vs
inductive TupI (H:Hp) (Q:VK):List V->Prop
 | t {p:Addr} {xs:List V} (h:H p=some (.tup xs)) (q:Q (.ref p) H):TupI H Q [.ref p]
 | l {p:Addr} {xs:List V} (h:H p=some (.lst xs)) (q:∀ l M,Same H M->M l=some (.tup xs)->H l=none->Q (.ref l) M):TupI H Q [.ref p]
 | s {p:Addr} {xs:List V} (h:H p=some (.tup xs)\/H p=some (.lst xs)) (q:∀ l M,Same H M->M l=some (.tup xs)->Q (.ref l) M):TupI H Q [.ref p]
def rTup:List V->Hp->VK->Prop:=fun vs H Q=>TupI H Q vs
inductive CatI (H:Hp) (Q:VK):V->V->Prop
 | mk {a b:Addr} {xs ys:List V} (h1:H a=some (.tup xs)) (h2:H b=some (.tup ys)) (n:xs≠[]) (m:ys≠[]) (l:xs.length + ys.length<=10000) (q:∀ p M,Same H M->M p=some (.tup (xs ++ ys))->H p=none->Q (.ref p) M):CatI H Q (.ref a) (.ref b)
 | any {a b:Addr} {xs ys:List V} (h1:H a=some (.tup xs)) (h2:H b=some (.tup ys)) (m:ys≠[]) (l:xs.length + ys.length<=10000) (q:∀ p M,Same H M->M p=some (.tup (xs ++ ys))->Q (.ref p) M):CatI H Q (.ref a) (.ref b)
 | l {a b:Addr} {xs ys:List V} (h1:H a=some (.lst xs)) (h2:H b=some (.lst ys)) (l:xs.length + ys.length<=10000) (q:∀ p M,Same H M->M p=some (.lst (xs ++ ys))->H p=none->Q (.ref p) M):CatI H Q (.ref a) (.ref b)
def rCt:R2:=fun x y H Q=>CatI H Q x y
inductive InI (neg:Bool) (H:Hp) (Q:VK) (x:V):V->Prop
 | l {p:Addr} {xs:List V} (h:H p=some (.lst xs)) (fx:flatV x=true) (fs:xs.all flatV=true) (q:Q (.bl (if neg then !inV x xs else inV x xs)) H):InI neg H Q x (.ref p)
 | t {p:Addr} {xs:List V} (h:H p=some (.tup xs)) (fx:flatV x=true) (fs:xs.all flatV=true) (q:Q (.bl (if neg then !inV x xs else inV x xs)) H):InI neg H Q x (.ref p)
def rInC (neg:Bool):R2:=fun x y H Q=>InI neg H Q x y
def Tl (H:Hp) (d:PyData) (v:V):Prop:=∃ k,Tells H k d v
inductive EqI (f:Bool->Bool) (H:Hp) (Q:VK) (x y:V):Prop
 | mk {dx dy:PyData} (tx:Tl H dx x) (ty:Tl H dy y) (lx:Lay dx) (ly:Lay dy) (q:Q (.bl (f (PyData.eqv dx dy))) H):EqI f H Q x y
def rEqC (f:Bool->Bool):R2:=fun x y H Q=>EqI f H Q x y
def kEq (f:Bool->Bool) (Q:VK) (H:Hp):V->V->Prop
 | .int i,.int j=>Q (.bl (f (decide (i=j)))) H
 | .str i,.str j=>Q (.bl (f (decide (i=j)))) H
 | _,_=>False
def rKq (f:Bool->Bool):R2:=fun x y H Q=>kEq f Q H x y
section
variable {X:Cx}
theorem dI (i j:Int):decide (V.int i=V.int j)=decide (i=j):=decide_eq_decide.mpr ⟨V.int.inj,congrArg _⟩
theorem dS (i j:Str):decide (V.str i=V.str j)=decide (i=j):=decide_eq_decide.mpr ⟨V.str.inj,congrArg _⟩
theorem oQ:OpR X (compareOp .Eq) (rKq id):=op_eq.wk fun x y H Q q=>by
 cases x <;> cases y <;> first | exact ⟨rfl,by rw [dI]; exact q⟩ | exact ⟨rfl,by rw [dS]; exact q⟩ | cases q
theorem oN:OpR X (compareOp .NotEq) (rKq not):=op_ne.wk fun x y H Q q=>by
 cases x <;> cases y <;> first | exact ⟨rfl,by rw [dI]; exact q⟩ | exact ⟨rfl,by rw [dS]; exact q⟩ | cases q
theorem cLst:CallR X (.type "list") rLst:=call_list_of.wk fun x H Q q=>by
 cases q with
 | t h q=>exact ⟨_,_,rfl,.inr (.inl (.inl h)),fun l hl=>q l _ (same_new hl _) upd_same hl⟩
 | l h q=>exact ⟨_,_,rfl,.inl (.inl (.inl h)),fun l hl=>q l _ (same_new hl _) upd_same hl⟩
theorem cTup:CallR X (.type "tuple") rTup:=call_tuple_of.wk fun x H Q q=>by
 cases q with
 | t h q=>exact ⟨_,_,rfl,.inr ⟨.inl (.inl h),q⟩⟩
 | l h q=>exact ⟨_,_,rfl,.inl ⟨.inl (.inl h),fun l hl=>q l _ (same_new hl _) upd_same hl⟩⟩
 | s h q => rcases h with h | h
            ·exact ⟨_,_,rfl,.inr ⟨.inl (.inl h),q _ _ (fun _ _ e=>e) h⟩⟩
            ·exact ⟨_,_,rfl,.inl ⟨.inl (.inl h),fun l hl=>q l _ (same_new hl _) upd_same⟩⟩
theorem oCt:OpR X (binaryOp .Add) rCt:=(op_catN.or op_cat).wk fun x y H Q q=>by
 cases q with
 | mk h1 h2 n m l q=>exact .inl ⟨_,_,_,_,rfl,rfl,.inl (.inl h1),.inl (.inl h2),m,Nat.le_trans l (by decide),fun e=>absurd e n,fun _ p hp=>q _ _ (same_new hp _) upd_same hp⟩
 | any h1 h2 m l q =>
  refine .inl ⟨_,_,_,_,rfl,rfl,.inl (.inl h1),.inl (.inl h2),m,Nat.le_trans l (by decide),fun e=>?_,fun _ p hp=>q _ _ (same_new hp _) upd_same⟩
  subst e
  exact q _ _ (fun _ _ z=>z) h2
 | l h1 h2 l q=>exact .inr ⟨_,_,_,_,rfl,rfl,h1,h2,Nat.le_trans l (by decide),fun p hp=>q _ _ (same_new hp _) upd_same hp⟩
theorem oIn:OpR X (compareOp .In) (rInC false):=op_in_seq.wk fun x y H Q q=>by
 cases q with
 | l h fx fs q=>exact ⟨_,_,rfl,.inl (.inl (.inl h)),fx,fs,q⟩
 | t h fx fs q=>exact ⟨_,_,rfl,.inr (.inl (.inl h)),fx,fs,q⟩
theorem oNin:OpR X (compareOp .NotIn) (rInC true):=op_notIn_seq.wk fun x y H Q q=>by
 cases q with
 | l h fx fs q=>exact ⟨_,_,rfl,.inl (.inl (.inl h)),fx,fs,q⟩
 | t h fx fs q=>exact ⟨_,_,rfl,.inr (.inl (.inl h)),fx,fs,q⟩
theorem oEq (hu:X.A.units + 64 < cLine):OpR X (compareOp .Eq) (rEqC id):=(op_eqD hu).wk fun x y H Q q=>by
 obtain ⟨⟨k,tx⟩,⟨k',ty⟩,lx,ly,q⟩:=q
 exact ⟨k,k',_,_,tx,ty,lx,ly,q⟩
theorem oNe (hu:X.A.units + 64 < cLine):OpR X (compareOp .NotEq) (rEqC not):=(op_neD hu).wk fun x y H Q q=>by
 obtain ⟨⟨k,tx⟩,⟨k',ty⟩,lx,ly,q⟩:=q
 exact ⟨k,k',_,_,tx,ty,lx,ly,q⟩
end
end L2
namespace L2
open PySem PySem.Spec PyProof.Rows
def Walk (J:It) (H:Hp) (xs:List V):Prop:=∀ H',Same H H'->∀ i,(i=xs.length->J.stop i H')/\(i < xs.length->J.go i H'/\∀ x H2,J.yld i H' x H2->H2=H'/\xs[i]?=some x)
theorem wkL {K:PySem.W.Frag}{H:Hp}{a:Addr}{xs:List V}(h:H a=some (.lst xs)):Walk (Itl K a) H xs:=fun H' s i=>by
 have q:SqL K H' a xs:=.inl (.inl (s _ _ h))
 exact ⟨fun e=>⟨xs,q,Nat.le_of_eq e.symm⟩,fun l=>⟨⟨xs,xs[i],q,List.getElem?_eq_getElem l⟩,fun x H2 y=>⟨y.1,y.2 xs q⟩⟩⟩
theorem wkT {K:PySem.W.Frag}{H:Hp}{a:Addr}{xs:List V}(h:H a=some (.tup xs)):Walk (Itt K a) H xs:=fun H' s i=>by
 have q:SqT K H' a xs:=.inl (.inl (s _ _ h))
 exact ⟨fun e=>⟨xs,q,Nat.le_of_eq e.symm⟩,fun l=>⟨⟨xs,xs[i],q,List.getElem?_eq_getElem l⟩,fun x H2 y=>⟨y.1,y.2 xs q⟩⟩⟩
theorem pairG {α:Type}{R:V->α->Prop}:∀ {xs:List V}{as:List α},Paired R xs as->∀ (i:Nat) (x:V),xs[i]?=some x->∃ a,as[i]?=some a/\R x a
 | _,_,.nil,i,x,h=>by cases h
 | _,_,.cons h t,0,x,e=>by cases e; exact ⟨_,rfl,h⟩
 | _,_,.cons h t,i + 1,x,e=>pairG t i x e
theorem pairL {α:Type}{R:V->α->Prop}:∀ {xs:List V}{as:List α},Paired R xs as->xs.length=as.length
 | _,_,.nil=>rfl
 | _,_,.cons h t=>congrArg Nat.succ (pairL t)
theorem pairS {α:Type}{R:V->α->Prop}{x:V}{a:α}(h:R x a):∀ {xs:List V}{as:List α},Paired R xs as->Paired R (xs ++ [x]) (as ++ [a])
 | _,_,.nil=>.cons h .nil
 | _,_,.cons h' t=>.cons h' (pairS h t)
theorem pairM {α:Type}{R S:V->α->Prop}(f:∀ v a,R v a->S v a):∀ {xs:List V}{as:List α},Paired R xs as->Paired S xs as
 | _,_,.nil=>.nil
 | _,_,.cons h' t=>.cons (f _ _ h') (pairM f t)
def Tk (H H':Hp):Prop:=∀ b xs,H b=some (.tup xs)->H' b=some (.tup xs)
theorem Same.tk' {H H':Hp}(h:Same H H'):Tk H H':=fun b xs e=>h b _ e
theorem lcR {J:It}{g:TG}{tc:TT}{te:TE}{σ0:St}{H1:Hp}{Q:VK}{D:Addr}{α β:Type}{xs:List V}{as:List α}{R:V->α->Prop}(S:Hp->V->β->Prop) (F:α->Option β) (Fr:St->Prop) (hD:H1 D=none)
  (wk:Walk J H1 xs) (p:Paired R xs as) (hn:xs.length<=1000) (f0:Fr σ0) (hS:∀ H H' v b,Tk H H'->S H v b->S H' v b)
  (st:∀ σ M x a (N:St->Hp->Prop) (Y:V->St->Hp->Prop),Fr σ->Same H1 M->R x a->a∈as->(F a=none->∀ σ2 H2,Fr σ2->Same M H2->N σ2 H2)->(∀ y y' σ2 H2,F a=some y'->Fr σ2->Same M H2->S H2 y y'->Y y σ2 H2) ->
   g x σ M fun σ2 H3=>tc σ2 H3 fun b H4=>if b=true then te σ2 H4 fun y H5=>Y y σ2 H5 else N σ2 H4)
  (q:∀ ys M,Same H1 M->M D=some (.lst ys)->Paired (S M) ys (as.filterMap F)->Q (.ref D) M):LCok J g tc te σ0 H1 Q D:=by
 refine lc_fill (n:=xs.length) (f:=fun i=>xs.getD i .non) (fun i ys σ M=>Fr σ/\Same H1 M/\Paired (S M) ys ((as.take i).filterMap F)) hD hn
  ⟨f0,same_new hD _,.nil⟩ (fun i ys σ M hi hy ⟨_,s,_⟩=>⟨(wk M s i).1,fun l=>⟨((wk M s i).2 l).1,fun x H' y=>?_⟩⟩) ?_ ?_
 ·obtain ⟨e,e2⟩:=((wk M s i).2 l).2 x H' y
  exact ⟨e,by rw [List.getD_eq_getElem?_getD,e2]; rfl⟩
 ·rintro i ys σ M hi hy ⟨fr,s,pr⟩
  have ex:xs[i]?=some (xs.getD i .non):=by rw [List.getD_eq_getElem?_getD,List.getElem?_eq_getElem hi]; rfl
  obtain ⟨a,ea,r⟩:=pairG p i _ ex
  have tk:as.take (i + 1)=as.take i ++ [a]:=by rw [List.take_add_one,ea]; rfl
  rw [tk,List.filterMap_append]
  refine st σ M _ a _ (fun y σ2 H5=>_/\_) fr s r (List.mem_of_getElem? ea) (fun ef σ2 H2 f2 s2=>⟨s2 _ _ hy,f2,s.trans s2,?_⟩) fun y y' σ2 H2 ef f2 s2 h2=>⟨s2 _ _ hy,f2,?_,?_⟩
  ·rw [show [a].filterMap F=[] by rw [List.filterMap_cons_none ef]; rfl,List.append_nil]
   exact pairM (fun v b h=>hS _ _ _ _ s2.tk' h) pr
  ·intro b o e
   rw [upd_ne (fun z=>by rw [z,hD] at e; cases e)]
   exact s2 _ _ (s _ _ e)
  ·have tD:Tk H2 (upd H2 D (.lst (ys ++ [y]))):=fun b xs e=>by rw [upd_ne (fun z=>by rw [z,s2 _ _ hy] at e; cases e)]; exact e
   rw [show [a].filterMap F=[y'] by rw [List.filterMap_cons_some ef]; rfl]
   exact pairS (hS _ _ _ _ tD h2) (pairM (fun v b h=>hS _ _ _ _ (fun b xs e=>tD _ _ (s2 _ _ e)) h) pr)
 ·rintro ys σ M hy ⟨_,s,pr⟩
  rw [show as.take xs.length=as by rw [pairL p,List.take_length]] at pr
  exact q ys M s hy pr
theorem lcM {J:It}{g:TG}{te:TE}{σ0:St}{H1:Hp}{Q:VK}{D:Addr}{α β:Type}{xs:List V}{as:List α}{R:V->α->Prop}(S:Hp->V->β->Prop) (F:α->β) (Fr:St->Prop) (hD:H1 D=none)
  (wk:Walk J H1 xs) (p:Paired R xs as) (hn:xs.length<=1000) (f0:Fr σ0) (hS:∀ H H' v b,Tk H H'->S H v b->S H' v b)
  (st:∀ σ M x a (Y:V->St->Hp->Prop),Fr σ->Same H1 M->R x a->a∈as->(∀ y σ2 H2,Fr σ2->Same M H2->S H2 y (F a)->Y y σ2 H2)->g x σ M fun σ2 H3=>te σ2 H3 fun y H5=>Y y σ2 H5)
  (q:∀ ys M,Same H1 M->M D=some (.lst ys)->Paired (S M) ys (as.map F)->Q (.ref D) M):LCok J g tYes te σ0 H1 Q D :=
 lcR S (fun a=>some (F a)) Fr hD wk p hn f0 hS (fun σ M x a N Y fr s r ha _ hy=>st σ M x a Y fr s r ha fun y σ2 H2 f2 s2 h2=>hy y _ σ2 H2 rfl f2 s2 h2) fun ys M s h pr=>q ys M s h (by rw [List.filterMap_eq_map'] at pr; exact pr)
theorem fmF {α:Type}(p:α->Bool) (l:List α):l.filterMap (fun x=>if p x=true then some x else none)=l.filter p:=by
 induction l with
 | nil=>rfl
 | cons a l ih =>
  by_cases h:p a=true
  ·rw [List.filterMap_cons_some (b:=a) (by rw [if_pos h]),List.filter_cons_of_pos h,ih]
  ·rw [List.filterMap_cons_none (by rw [if_neg h]),List.filter_cons_of_neg h,ih]
theorem pairE {α:Type}{f:α->V}:∀ {ys:List V}{bs:List α},Paired (fun v b=>v=f b) ys bs->ys=bs.map f
 | _,_,.nil=>rfl
 | _,_,.cons h t=>by rw [List.map_cons,<- pairE t,h]
theorem pairI {α:Type}{f:α->V}:∀ {bs:List α},Paired (fun v b=>v=f b) (bs.map f) bs
 | []=>.nil
 | _ :: _=>.cons rfl pairI
end L2
namespace L2
open PySem PySem.Spec PyProof.Rows
abbrev TurnOk (D:Ends) (Iv:St->Hp->Prop) (D':Ends):Prop:=(∀ σ M,Iv σ M->D'.nx σ M)/\(∀ v M,D.rt v M->D'.rt v M)/\(∀ σ M,Iv σ M->D'.ct σ M)/\(∀ σ M,D.nx σ M->D'.bk σ M)
def LoopOk (J:It) (g:TG) (tb:TS) (D:Ends) (σ:St) (H:Hp):Prop:=∃ W:Nat->Nat->St->Hp->Prop,(∃ m,W 0 m σ H)/\∀ i m σ H,W i m σ H ->
   (J.stop i H/\D.nx σ H)\/(J.go i H/\∃ N:St->Hp->Prop,(∀ σ' H',N σ' H'->∃ m',m' < m/\W (i + 1) m' σ' H')/\∀ x H',J.yld i H x H'->g x σ H' fun σ2 H2=>tb { D with nx:=N,ct:=N,bk:=D.nx } σ2 H2)
def kFor (wi:TI) (g:TG) (tb:TS):TS:=fun D σ H=>wi σ H fun J H1=>LoopOk J g tb D σ H1
theorem loopL {K:PySem.W.Frag}{a:Addr}{xs:List V}{g:TG}{tb:TS}{D:Ends}{σ:St}{H:Hp}(Iv:Nat->St->Hp->Prop) (h0:Iv 0 σ H) (hl:∀ i σ M,Iv i σ M->M a=some (.lst xs))
  (st:∀ i x σ M D',xs[i]?=some x->Iv i σ M->TurnOk D (Iv (i + 1)) D'->g x σ M (tb D')) (hd:∀ σ M,Iv xs.length σ M->D.nx σ M):LoopOk (Itl K a) g tb D σ H :=
 for_list Iv h0 (fun i σ M _ h=>.inl (.inl (hl i σ M h))) (fun i x σ M e h=>st i x σ M _ e h ⟨fun _ _ z=>z,fun _ _ z=>z,fun _ _ z=>z,fun _ _ z=>z⟩) hd
theorem loopT {K:PySem.W.Frag}{a:Addr}{xs:List V}{g:TG}{tb:TS}{D:Ends}{σ:St}{H:Hp}(Iv:Nat->St->Hp->Prop) (h0:Iv 0 σ H) (hl:∀ i σ M,Iv i σ M->M a=some (.tup xs))
  (st:∀ i x σ M D',xs[i]?=some x->Iv i σ M->TurnOk D (Iv (i + 1)) D'->g x σ M (tb D')) (hd:∀ σ M,Iv xs.length σ M->D.nx σ M):LoopOk (Itt K a) g tb D σ H :=
 for_tup Iv h0 (fun i σ M _ h=>.inl (.inl (hl i σ M h))) (fun i x σ M e h=>st i x σ M _ e h ⟨fun _ _ z=>z,fun _ _ z=>z,fun _ _ z=>z,fun _ _ z=>z⟩) hd
theorem loopR {lo:Int}{n:Nat}{g:TG}{tb:TS}{D:Ends}{σ:St}{H:Hp}(Iv:Nat->St->Hp->Prop) (h0:Iv 0 σ H)
  (st:∀ i σ M D',i < n->Iv i σ M->TurnOk D (Iv (i + 1)) D'->g (.int (lo + i)) σ M (tb D')) (hd:∀ σ M,Iv n σ M->D.nx σ M):LoopOk (Itr lo n) g tb D σ H :=
 for_range Iv h0 (fun i σ M e h=>st i σ M _ e h ⟨fun _ _ z=>z,fun _ _ z=>z,fun _ _ z=>z,fun _ _ z=>z⟩) hd
theorem loopE {K:PySem.W.Frag}{a:Addr}{xs:List V}{g:TG}{tb:TS}{D:Ends}{σ:St}{H:Hp}(Iv:Nat->St->Hp->Prop) (h0:Iv 0 σ H) (hl:∀ i σ M,Iv i σ M->M a=some (.lst xs))
  (st:∀ i x σ M D' T M',xs[i]?=some x->Iv i σ M->TurnOk D (Iv (i + 1)) D'->Same M M'->M' T=some (.tup [.int i,x])->M T=none->g (.ref T) σ M' (tb D')) (hd:∀ σ M,Iv xs.length σ M->D.nx σ M):LoopOk (Iel K a) g tb D σ H :=
 for_enumL Iv h0 (fun i σ M _ h=>.inl (.inl (hl i σ M h))) (fun i x σ M T e h f=>st i x σ M _ T _ e h ⟨fun _ _ z=>z,fun _ _ z=>z,fun _ _ z=>z,fun _ _ z=>z⟩ (same_new f _) upd_same f) hd
inductive EiK (K:PySem.W.Frag) (R:It->Hp->Prop) (H:Hp):List V->Prop
 | mk {a:Addr} {xs:List V} (h:H a=some (.lst xs)) (q:R (Iel K a) H):EiK K R H [.ref a]
def iE (K:PySem.W.Frag) (ta:TA):TI:=fun σ H R=>ta σ H fun vs H1=>EiK K R H1 vs
def kWhile (c:TT) (tb:TS):TS:=fun D σ H=>∃ W:Nat->St->Hp->Prop,(∃ m,W m σ H)/\∀ m σ H,W m σ H ->
 c σ H fun b H1=>kIf (tb { D with nx:=fun σ' H'=>∃ m',m' < m/\W m' σ' H',ct:=fun σ' H'=>∃ m',m' < m/\W m' σ' H',bk:=D.nx } σ H1) (D.nx σ H1) b
theorem whileK {c:TT}{tb:TS}{D:Ends}{σ:St}{H:Hp}(Iv:Nat->St->Hp->Prop) (m:Nat) (h0:Iv m σ H)
  (st:∀ m σ M (D':Ends),Iv m σ M->TurnOk D (fun σ' M'=>∃ m',m' < m/\Iv m' σ' M') D'->c σ M fun b M1=>kIf (tb D' σ M1) (D.nx σ M1) b):kWhile c tb D σ H :=
 ⟨Iv,⟨m,h0⟩,fun m σ M iv=>st m σ M _ iv ⟨fun _ _ z=>z,fun _ _ z=>z,fun _ _ z=>z,fun _ _ z=>z⟩⟩
inductive SlI (H:Hp) (Q:VK) (lo hi:Option Int):V->Prop
 | l {a:Addr} {xs:List V} (h:H a=some (.lst xs)) (q:∀ p M,Same H M->M p=some (.lst (cutV xs lo hi))->H p=none->Q (.ref p) M):SlI H Q lo hi (.ref a)
 | t {a:Addr} {xs:List V} (h:H a=some (.tup xs)) (n:¬ (HT.sIx xs.length 0 lo=0/\HT.sIx xs.length xs.length hi=xs.length)) (q:∀ p M,Same H M->M p=some (.tup (cutV xs lo hi))->H p=none->Q (.ref p) M):SlI H Q lo hi (.ref a)
def rSl:V->Option Int->Option Int->Hp->VK->Prop:=fun x lo hi H Q=>SlI H Q lo hi x
def kPartI (Q:Option Int->Hp->Prop) (H:Hp):V->Prop
 | .int i=>Q (some i) H
 | _=>False
def kPart (t:TE):TO:=fun σ H Q=>t σ H fun x H1=>kPartI Q H1 x
def isN:V->Bool
 | .non=>true
 | _=>false
def kNn (f:Bool->Bool) (Q:VK) (H:Hp) (x:V):V->Prop
 | .non=>Q (.bl (f (isN x))) H
 | _=>False
def rNn (f:Bool->Bool):R2:=fun x y H Q=>kNn f Q H x y
section
variable {X:Cx}{e:Expr}{te:TE}{tv:TA}
theorem psFor {tg iter:Expr}{body:List Stmt}{wi:TI}{g:TG}{tb:TS}{pos:Pos}(hp:PassesOwn (model X.prog X.w) X.A X.env X.xe) (hc:X.calm=true) (hi:PI X tg iter wi) (hg:PG X tg g) (hb:PSs X body tb)
  (hs:∀ x,foldedSetIterable iter X.env x=pure x:=by intro _; rfl):PS X (.For tg iter body [] pos) (kFor wi g tb):=ps_for hp hc hi hg hb hs
theorem piE (K:PySem.W.Frag) {elts:List Expr}{kk:Nat}{tp:Pos}{a:Expr}{p pos:Pos}(hg:Gl X "enumerate") (hm:X.mg "enumerate"=none) (ha:PA X [a] tv) (hK:X.K=K:=by rfl) (hs:starEach [a] X.env=[(false,eval a X.env)]:=by rfl) :
  PI X (.Tuple elts kk tp) (.Call (.Name "enumerate" p) [a] [] pos) (iE K tv):=by
 subst hK
 intro pins s σ H R I h
 refine Call_ (ld_blt I hg hm boot_enumE (PyProof.Rows.callWith_type1 (thn (ha pos pins s σ H _ I h) fun us s1 ⟨vs,H1,I1,r1,q1⟩=>?_) hs rfl))
 cases q1 with
 | @mk ad xs hq q =>
  obtain ⟨u,rfl,ru⟩:=vals1 r1
  cases (show u=Value.ref ad from ru)
  obtain ⟨its,rv,tp',hz⟩:=I1.list (.inl (.inl hq))
  refine call_enumL (show s1.heap.IsList ad its.toArray from tp'.isList) fun h' isE isI kp=>wpAny_pyIter_enum isE ?_
  refine ⟨_,[s1.heap.objs.size + 1,s1.heap.objs.size],_,_,H1,rfl,I1.kept (t':=s1.toks) kp,turn_enumL ad _ _ (Nat.succ_ne_self _),⟨⟨_,isE⟩,isI⟩,fun b hb=>?_,q⟩
  simp only [List.mem_cons,List.not_mem_nil,or_false] at hb
  rcases hb with rfl | rfl
  ·exact I1.fpOk (Nat.le_succ _) (I1.hok.fresh (Nat.le_succ _))
  ·exact I1.fpOk (Nat.le_refl _) (I1.hok.fresh (Nat.le_refl _))
theorem sl2:SlR X rSl:=by
 intro pins s σ H x v vl vu lo hi sl Q I rx hs pl pu h
 cases h with
 | l h q=>exact sl_list pins s σ H _ v vl vu lo hi sl Q I rx hs pl pu ⟨_,_,rfl,.inl (.inl h),fun p hp=>q p _ (same_new hp _) upd_same hp⟩
 | t h n q=>exact sl_tup pins s σ H _ v vl vu lo hi sl Q I rx hs pl pu ⟨_,_,rfl,.inl (.inl h),n,fun p hp=>q p _ (same_new hp _) upd_same hp⟩
theorem po_C (h:PE X e te):PO X (some e) (kPart te):=by
 intro pins s σ H Q I hw
 rw [evalPart_some]
 refine thn (h pins s σ H _ I hw) fun u s1 ⟨x,H1,I1,r1,q1⟩=>?_
 cases x <;> first | (obtain ⟨t,rfl⟩:=r1; exact ⟨some _,H1,I1,.int _ t,q1⟩) | cases q1
theorem psWhile {c:Expr}{body:List Stmt}{tc:TT}{tb:TS}{pos:Pos}(hp:PassesOwn (model X.prog X.w) X.A X.env X.xe) (hc:PT X c tc) (hb:PSs X body tb):PS X (.While c body [] pos) (kWhile tc tb):=by
 intro pins s σ H D I h
 obtain ⟨W,⟨m0,w0⟩,turn⟩:=h
 refine wpAny_While (codeAny_whileLoop (fun n s'=>∃ σ' H',Inv X pins σ' H' s'/\W n σ' H') ?_ m0 ⟨σ,H,I,w0⟩)
 rintro n s1 ⟨σ1,H1,I1,w1⟩
 refine wpAny_passesOwn hp (thn (hc pins s1 σ1 H1 _ I1 (turn n σ1 H1 w1)) fun b s2 ⟨H2,I2,q2⟩=>?_)
 cases b with
 | true =>
  rw [if_pos rfl]
  refine wpAny_passesOwn hp (thn (hb pins s2 σ1 H2 _ I2 q2) fun f s3 q3=>?_)
  cases f with
  | next =>
   obtain ⟨σ3,H3,I3,m',hm,w3⟩:=q3
   exact ⟨m',hm,σ3,H3,I3,w3⟩
  | cont =>
   obtain ⟨σ3,H3,I3,m',hm,w3⟩:=q3
   exact ⟨m',hm,σ3,H3,I3,w3⟩
  | brk=>exact q3
  | ret v=>exact q3
 | false =>
  rw [if_neg Bool.false_ne_true]
  exact wpAny_execs_nil ⟨σ1,H2,I2,q2⟩
theorem oNnot:OpR X (compareOp .IsNot) (rNn not):=op_notN.wk fun x y H Q q=>by
 cases y <;> first | (refine ⟨rfl, ?_⟩; have : decide (x = .non) = isN x := by cases x <;> rfl
                      rw [this]; exact q) | cases q
end
end L2
namespace L2
open PySem PySem.Spec PyProof.Rows
def kAnd (tb:TE) (σ:St) (Q:VK) (H:Hp):V->Prop
 | .bl true=>tb σ H Q
 | .bl false=>Q (.bl false) H
 | _=>False
def kAndV (ta tb:TE):TE:=fun σ H Q=>ta σ H fun x H1=>kAnd tb σ Q H1 x
section
variable {X:Cx}{a b:Expr}{ta tb:TE}{pos:Pos}{rest:List Expr}
theorem peAnd (ha:PE X a ta) (hb:PE X (.BoolOp .And (b :: rest) pos) tb):PE X (.BoolOp .And (a :: b :: rest) pos) (kAndV ta tb):=by
 intro pins s σ H Q I h
 refine BoolOp_and (thn (ha pins s σ H _ I h) fun v s1 ⟨x,H1,I1,r1,q1⟩=>?_)
 cases x with
 | bl c =>
  cases r1
  refine wpAny_truthy_bool ?_
  cases c with
  | true=>exact hb pins s1 σ H1 Q I1 q1
  | false=>exact ⟨.bl false,H1,I1,rfl,q1⟩
 | _=>cases q1
def kOr (t u:TT):TT:=fun σ H Q=>t σ H fun c H1=>kIf (Q true H1) (u σ H1 Q) c
theorem pwOr {tA tB':TT}(ha:PT X a tA) (hb:PW X (.BoolOp .Or (b :: rest) pos) tB'):PW X (.BoolOp .Or (a :: b :: rest) pos) (kOr tA tB'):=by
 intro wh pins s σ H Q I h
 refine isTrue_or (thn (ha pins s σ H _ I h) fun c s1 ⟨H1,I1,q1⟩=>?_)
 cases c with
 | true=>exact ⟨H1,I1,q1⟩
 | false=>exact hb wh pins s1 σ H1 Q I1 q1
def kAndT (t u:TT):TT:=fun σ H Q=>t σ H fun c H1=>kIf (u σ H1 Q) (Q false H1) c
theorem pwAnd {tA tB':TT}(ha:PT X a tA) (hb:PW X (.BoolOp .And (b :: rest) pos) tB'):PW X (.BoolOp .And (a :: b :: rest) pos) (kAndT tA tB'):=by
 intro wh pins s σ H Q I h
 refine isTrue_and (thn (ha pins s σ H _ I h) fun c s1 ⟨H1,I1,q1⟩=>?_)
 cases c with
 | true=>exact hb wh pins s1 σ H1 Q I1 q1
 | false=>exact ⟨H1,I1,q1⟩
end
end L2
namespace L2
open PySem PySem.Spec PyProof.Rows
inductive CatS (K:PySem.W.Frag) (H:Hp) (Q:VK):V->V->Prop
 | mk {a b:Addr} {xs ys:List V} (h1:SqL K H a xs) (h2:H b=some (.lst ys)) (l:xs.length + ys.length<=10000) (q:∀ p M,Same H M->M p=some (.lst (xs ++ ys))->H p=none->Q (.ref p) M):CatS K H Q (.ref a) (.ref b)
def rCs (K:PySem.W.Frag):R2:=fun x y H Q=>CatS K H Q x y
inductive CellI (K:PySem.W.Frag) (lo hi:Option Int) (R:It->Hp->Prop) (H:Hp):V->Prop
 | mk {a:Addr} {ns:List Int} (h:SqL K H a (ns.map V.int)) (q:∀ p M (cs:List Int),Same H M->H p=none->M p=some (.lst (cs.map V.int))->cs.length<=max 1 (cutV (ns.map V.int) lo hi).length->R (Itl K p) M):CellI K lo hi R H (.ref a)
def kCells (K:PySem.W.Frag) (i:Nat) (lo hi:Option Int):TI:=fun σ H R=>vC i σ H fun x H1=>CellI K lo hi R H1 x
theorem vC.imp {i:Nat}{σ:St}{H:Hp}{Q Q':VK}(h:vC i σ H Q) (k:∀ x,Q x H->Q' x H):vC i σ H Q':=by
 unfold vC at *
 cases e:gv σ i with
 | none=>rw [e] at h; cases h
 | some v=>rw [e] at h; exact k _ h
theorem cut_ints (ns:List Int) (lo hi:Option Int):∃ cs:List Int,cutV (ns.map V.int) lo hi=cs.map V.int:=by
 unfold cutV
 exact ⟨(ns.drop _).take _,by rw [List.map_take,List.map_drop]⟩
section
variable {X:Cx}{e z:Expr}{tg:Expr}{lo hi:Option Expr}{tl th:TO}{p2 p3 p5:Pos}
theorem oCs (K:PySem.W.Frag) (hK:X.K=K:=by rfl):OpR X (binaryOp .Add) (rCs K):=by
 subst hK
 exact op_catS.wk fun x y H Q q=>by
  cases q with
  | mk h1 h2 l q=>exact ⟨_,_,_,_,rfl,rfl,h1,SqL.of h2,Nat.le_trans l (by decide),fun p hp=>q p _ (same_new hp _) upd_same hp⟩
theorem piCells (K:PySem.W.Frag) (i:Nat) {l h:Option Int}(hx:PE X e (vC i)) (pl:PO X lo tl) (ph:PO X hi th) (hl:∀ σ H Q,Q l H->tl σ H Q) (hh:∀ σ H Q,Q h H->th σ H Q) (hz:PE X z (kLst (tCons (tC (.int 0)) tNil))) (hK:X.K=K:=by rfl) :
  PI X tg (.BoolOp .Or [.Subscript e (.Slice lo hi none p2) p3,z] p5) (kCells K i l h):=by
 subst hK
 intro pins s σ H R I q
 refine pi_list (pe_orX (pe_slice sl_list hx pl ph) (pe_one hz)) pins s σ H R I ?_
 unfold iList tOrX tSl
 show vC i σ H _
 refine vC.imp q fun x q=>?_
 cases q with
 | @mk a ns hs q =>
  refine hl _ _ _ (hh _ _ _ ⟨_,_,rfl,hs,fun p hp=>?_⟩)
  have s1:=same_new hp (.lst (cutV (ns.map V.int) l h))
  have w1:upd H p (.lst (cutV (ns.map V.int) l h)) p=some (.lst (cutV (ns.map V.int) l h)):=upd_same
  generalize upd H p (.lst (cutV (ns.map V.int) l h))=M1 at *
  obtain ⟨cs,ec⟩:=cut_ints ns l h
  have lc:(cutV (ns.map V.int) l h).length=cs.length:=by rw [ec,List.length_map]
  rw [lc] at q
  refine ⟨_,.inl ⟨_,SqL.of w1,rfl⟩,?_⟩
  refine ite2 (fun _=>?_) (fun _=>?_)
  ·rw [ec] at w1
   exact ⟨p,rfl,⟨_,SqL.of w1⟩,q p M1 cs s1 hp w1 (Nat.le_max_right _ _)⟩
  ·refine NewO.mk rfl fun p2 M2 s2 w2 n2=>⟨p2,rfl,⟨_,SqL.of w2⟩,q p2 M2 [0] (s1.trans s2) ?_ w2 (Nat.le_max_left _ _)⟩
   cases e:H p2 with
   | none=>rfl
   | some o=>rw [s1 _ _ e] at n2; cases n2
end
end L2
namespace L2
open PySem PySem.Spec PyProof.Rows
def kI2c (C:Int->Int->Prop) (g:Int->Int->V) (Q:VK) (H:Hp):V->V->Prop
 | .int i,.int j=>C i j/\Q (g i j) H
 | _,_=>False
def rKc (C:Int->Int->Prop) (g:Int->Int->V):R2:=fun x y H Q=>kI2c C g Q H x y
def kMin (Q:VK) (H:Hp):List V->Prop
 | [.int i,.int j]=>Q (.int (if j < i then j else i)) H
 | _=>False
def rMn:List V->Hp->VK->Prop:=fun vs H Q=>kMin Q H vs
inductive InsT (H:Hp) (Q:VK):V->List V->Prop
 | mk {l:Addr} {xs:List V} {i:Int} {y:V} (h:H l=some (.lst xs)) (n:xs.length<=10000) (h0:0<=i) (h1:i<=xs.length) (q:∀ M,Keep l H M->M l=some (.lst (xs.take i.toNat ++ y :: xs.drop i.toNat))->Q .non M):InsT H Q (.ref l) [.int i,y]
def rIns:V->List V->Hp->VK->Prop:=fun x vs H Q=>InsT H Q x vs
inductive SrtS (H:Hp) (Q:VK):List V->Prop
 | mk {p:Addr} {ss:List Str} (h:H p=some (.lst (ss.map V.str))) (l:ss.length<=63) (q:∀ l zs M,Same H M->M l=some (.lst (zs.map V.str))->H l=none->zs.Perm ss->sortedS zs=true->Q (.ref l) M):SrtS H Q [.ref p]
def rSS:List V->Hp->VK->Prop:=fun vs H Q=>SrtS H Q vs
theorem itN {A B:Prop}{b:Bool}(h:b=false) (x:B):if b=true then A else B:=by rw [h]; exact x
theorem itY {A B:Prop}{b:Bool}(h:b=true) (x:A):if b=true then A else B:=by rw [h]; exact x
theorem Same.noneC {H H':Hp}{a:Addr}(s:Same H H') (h:H' a=none):H a=none:=by
 cases e:H a with
 | none=>rfl
 | some o=>rw [s _ _ e] at h; cases h
theorem bootMin:bootBuiltins "min"=some (.builtin "min"):=by decide +kernel
theorem bootSorted:bootBuiltins "sorted"=some (.builtin "sorted"):=by decide +kernel
section
variable {X:Cx}
theorem oKc {f:Value->Value->Sem Value}{C:Int->Int->Prop}{g:Int->Int->V}(h:OpR X f (rI C g)):OpR X f (rKc C g):=h.wk fun x y H Q q=>by
 cases x <;> cases y <;> first | exact ⟨_,_,rfl,rfl,q.1,q.2⟩ | cases q
theorem cMin (hc:X.calm=true:=by rfl):CallR X (.builtin "min") rMn:=(call_min2 hc).wk fun x H Q q=>by
 unfold rMn kMin at q
 split at q
 ·exact ⟨_,_,rfl,q⟩
 ·cases q
theorem mtIns:MtR X "list.insert" rIns:=fun pins s σ H x vs v us Q I r1 r2 q=>by
 cases q with
 | mk h n h0 h1 q=>exact mt_insert pins s σ H _ _ v us Q I r1 r2 ⟨_,_,_,_,rfl,rfl,h,Nat.lt_of_le_of_lt n (by decide),h0,h1,q _ (Keep.at _) upd_same⟩
theorem cSS:CallR X (.builtin "sorted") rSS:=call_sortedS.wk fun x H Q q=>by
 cases q with
 | mk h l q=>exact ⟨_,_,rfl,SqL.of h,Nat.lt_succ_of_le l,fun l zs hl p so=>q l zs _ (same_new hl _) upd_same hl p so⟩
end
end L2
namespace K39
open PySem L2 HT PySem.W
section
variable {P:Program}{w:World}{K:PySem.W.Frag}{mg:Str->Option Value}{base:Heap}
variable {X:Cx}{k:Nat}{x:Str}{ps:List Str}{sp:Sp}{e:Expr}{es:List Expr}{t:TA}{p pos:Pos}
theorem pD (D:Df X.prog X.w X.K X.mg X.base k x ps sp) (hr:Room k X.A) (ha:PA X (e :: es) t) (hg:Gl X x:=by rfl) (hdb:(x == ("__debug__":Str))=false:=by decide)
  (he:starEach (e :: es) X.env=(false,eval e X.env) :: starEach es X.env:=by rfl) (hpl:(backTo pos (starEach es X.env)).any (·.1)=false:=by rfl):PE X (.Call (.Name x p) (e :: es) [] pos) (kCall sp E0 t):=by
 obtain ⟨f,fd,F,b,kp,m⟩:=D
 exact peCall F hr hg m kp b pass0 ha hdb he hpl
theorem Df.imp {sp':Sp}(D:Df P w K mg base k x ps sp) (h:∀ vs H Q E,sp' vs H Q E->sp vs H Q E):Df P w K mg base k x ps sp':=by
 obtain ⟨f,fd,F,b,kp,m⟩:=D
 exact ⟨f,fd,F.imp h,b,kp,m⟩
end
inductive AskI (p:PyData->Bool) (H:Hp) (Q:VK):List V->Prop
 | mk {k:Addr} {d:PyData} {v:V} (t:Tells H k d v) (f:Fit d) (q:∀ H',Same H H'->Q (.bl (p d)) H'):AskI p H Q [v]
def AskC (p:PyData->Bool):Sp:=fun vs H Q _=>AskI p H Q vs
theorem AskC.old {p:PyData->Bool}(vs:List V) (H:Hp) (Q:VK) (E:XK) (h:AskC p vs H Q E):spP p vs H Q E:=by
 obtain ⟨t,f,q⟩:=h
 exact ⟨_,_,_,rfl,t,f,q⟩
theorem deck_tup {H:Hp}{k:Addr}{c:Int}(d:DeckAt H k c):∀ xs,H k≠some (.tup xs):=fun xs z=>by
 obtain ⟨⟨_,_,h1,_⟩,_⟩:=d
 rw [h1] at z; cases z
theorem deck_same {H H':Hp}{k:Addr}{c:Int}(d:DeckAt H k c) (s:Same H H'):DeckAt H' k c:=d.keep fun o e=>s _ _ e
theorem keep_tup {H H':Hp}{k:Addr}{c:Int}(d:DeckAt H k c) (s:Keep k H H'):Tk H H':=fun b xs e=>s _ _ (fun z=>deck_tup d xs (z ▸ e)) e
def Dkn (k:Addr) (b:Int) (n:Nat) (H:Hp):Prop:=∃ c,DeckAt H k c/\c<=b + n/\b<=50000
theorem Dkn.of {H:Hp}{k:Addr}{c:Int}(d:DeckAt H k c) (h:c<=50000):Dkn k c 0 H:=⟨c,d,Int.le_of_eq (Int.add_zero c).symm,h⟩
section
variable {k:Addr}{b:Int}{n:Nat}{H H':Hp}
theorem Dkn.same (d:Dkn k b n H) (s:Same H H'):Dkn k b n H':=let ⟨c,h1,h2⟩:=d; ⟨c,deck_same h1 s,h2⟩
theorem Dkn.keep (d:Dkn k b n H) (s:∀ o,H k=some o->H' k=some o):Dkn k b n H':=let ⟨c,h1,h2⟩:=d; ⟨c,h1.keep s,h2⟩
theorem Dkn.ne (d:Dkn k b n H) {p:Addr}(h:H p=none):p≠k:=let ⟨_,h1,_⟩:=d; (h1.ne h).symm
theorem Dkn.tk (d:Dkn k b n H) (s:Keep k H H'):Tk H H':=let ⟨_,h1,_⟩:=d; keep_tup h1 s
theorem Dkn.le (d:Dkn k b n H) {m:Nat}(h:n<=m):Dkn k b m H:=let ⟨c,h1,h2,h3⟩:=d; ⟨c,h1,Int.le_trans h2 (Int.add_le_add_left (Int.ofNat_le.mpr h) b),h3⟩
theorem Dkn.out (d:Dkn k b n H):∃ c,DeckAt H k c/\c<=b + n:=let ⟨c,h1,h2,_⟩:=d; ⟨c,h1,h2⟩
end
inductive PickI (H:Hp) (Q:VK):List V->Prop
 | mk {k:Addr} {c n:Int} (d:DeckAt H k c) (hc:c<=100000) (h1:0 < n) (h2:n<=10000000000000) (q:∀ (r c':Int) (H':Hp),Keep k H H'->DeckAt H' k c'->c'<=c + 1->0<=r->r < n->Q (.int r) H'):PickI H Q [.ref k,.int n]
def PickC:Sp:=fun vs H Q _=>PickI H Q vs
inductive PkI (H:Hp) (Q:VK):List V->Prop
 | mk {k:Addr} {b m:Int} {n:Nat} (d:Dkn k b n H) (hn:n<=50000) (h1:0 < m) (h2:m<=10000000000000) (q:∀ (r:Int) (H':Hp),Keep k H H'->Dkn k b (n + 1) H'->0<=r->r < m->Q (.int r) H'):PkI H Q [.ref k,.int m]
def PkC:Sp:=fun vs H Q _=>PkI H Q vs
theorem PkC.old (vs:List V) (H:Hp) (Q:VK) (E:XK) (h:PkC vs H Q E):PickC vs H Q E:=by
 obtain ⟨⟨c,dc,hc,hb⟩,hn,h1,h2,q⟩:=h
 exact PickI.mk dc (by omega) h1 h2 fun r c' H' k d u g l=>q r H' k ⟨c',d,by omega,hb⟩ g l
inductive PcI (H:Hp) (Q:VK):List V->Prop
 | mk {k p:Addr} {c:Int} {ns:List Str} (d:DeckAt H k c) (hc:c<=20000) (n:p≠k) (h:H p=some (.lst (ns.map V.str))) (l2:2<=ns.length) (l12:ns.length<=12) (ok:∀ n∈ns,okN n) (nd:ns.Nodup)
  (q:∀ (r:Addr) (pc:Pce) (c':Int) (H':Hp),Keep k H H'->DeckAt H' k c'->c'<=c + 60->PcAt H' r pc->PcOk pc->Crews pc->Q (.ref r) H'):PcI H Q [.ref k,.ref p]
def PcC:Sp:=fun vs H Q _=>PcI H Q vs
inductive LxI (H:Hp) (Q:VK):List V->Prop
 | mk {k r:Addr} {c:Int} {p:Pce} (d:DeckAt H k c) (hc:c<=40000) (h:PcAt H r p) (o:PcOk p) (cr:Crews p)
  (q:∀ (t:Addr) (p':Pce) (m y:Str) (c':Int) (H':Hp),Keep k H H'->DeckAt H' k c'->c'<=c + 10->PcAt H' t p'->PcOk p'->Xp p p' m y->Q (.ref t) H'):LxI H Q [.ref k,.ref r]
def LxC:Sp:=fun vs H Q _=>LxI H Q vs
def WalkK (k:Addr) (J:It) (H:Hp) (xs:List V):Prop:=∀ H',Keep k H H'->∀ i,(i=xs.length->J.stop i H')/\(i < xs.length->J.go i H'/\∀ x H2,J.yld i H' x H2->H2=H'/\xs[i]?=some x)
theorem wkRk {k:Addr}{H:Hp}{n:Nat}:WalkK k (Itr 0 n) H ((List.range n).map fun (i:Nat)=>V.int i):=fun H' s i=>by
 rw [List.length_map,List.length_range]
 refine ⟨fun e=>Nat.le_of_eq e.symm,fun l=>⟨l,fun x H2 y=>⟨y.1,?_⟩⟩⟩
 rw [y.2,List.getElem?_map,List.getElem?_range l]
 show some (V.int i)=_
 rw [Int.zero_add]
theorem lcN {J:It}{g:TG}{te:TE}{σ0:St}{H1:Hp}{Q:VK}{D k:Addr}{b:Int}{n m:Nat}{α β:Type}{xs:List V}{as:List α}{R:V->α->Prop}(S:Hp->V->β->Prop) (Pz:α->β->Prop) (Fr:St->Prop) (hD:H1 D=none) (d:Dkn k b n H1)
  (wk:WalkK k J H1 xs) (p:Paired R xs as) (hn:xs.length<=1000) (f0:Fr σ0) (hS:∀ H H' v b,Tk H H'->S H v b->S H' v b)
  (st:∀ σ M x a i (Y:V->St->Hp->Prop),Fr σ->Keep k H1 M->Dkn k b (n + m * i) M->i < as.length->R x a->a∈as->(∀ y z σ2 H2,Fr σ2->Keep k M H2->Dkn k b (n + m * i + m) H2->S H2 y z->Pz a z->Y y σ2 H2)->g x σ M fun σ2 H3=>te σ2 H3 fun y H5=>Y y σ2 H5)
  (q:∀ ys bs M,Keep k H1 M->Dkn k b (n + m * as.length) M->M D=some (.lst ys)->Paired (S M) ys bs->Paired Pz as bs->Q (.ref D) M):LCok J g tYes te σ0 H1 Q D:=by
 have nD:D≠k:=d.ne hD
 have lp:=pairL p
 refine lc_map (n:=xs.length) (f:=fun i=>xs.getD i .non) (fun i ys σ M=>Fr σ/\Keep k H1 M/\∃ bs,Dkn k b (n + m * i) M/\Paired (S M) ys bs/\Paired Pz (as.take i) bs) hD hn
  ⟨f0,Keep.new hD _,[],d.same (same_new hD _),.nil,.nil⟩ (fun i ys σ M hi hy ⟨_,s,_⟩=>⟨(wk M s i).1,fun l=>⟨((wk M s i).2 l).1,fun x H' y=>?_⟩⟩) ?_ ?_
 ·obtain ⟨e,e2⟩:=((wk M s i).2 l).2 x H' y
  exact ⟨e,by rw [List.getD_eq_getElem?_getD,e2]; rfl⟩
 ·rintro i ys σ M hi hy ⟨fr,s,bs,dM,pr,pz⟩
  have ex:xs[i]?=some (xs.getD i .non):=by rw [List.getD_eq_getElem?_getD,List.getElem?_eq_getElem hi]; rfl
  obtain ⟨a,ea,r⟩:=pairG p i _ ex
  have tk:as.take (i + 1)=as.take i ++ [a]:=by rw [List.take_add_one,ea]; rfl
  refine st σ M _ a i (fun y σ2 H5=>_/\_) fr s dM (lp ▸ hi) r (List.mem_of_getElem? ea) fun y z σ2 H2 f2 s2 d2 h2 hz=>⟨s2 _ _ nD hy,f2,?_,bs ++ [z],?_,?_,?_⟩
  ·intro b o n e
   rw [upd_ne (fun z=>by rw [z,hD] at e; cases e)]
   exact s2 _ _ n (s _ _ n e)
  ·rw [show n + m * (i + 1)=n + m * i + m by rw [Nat.mul_succ,Nat.add_assoc]]
   exact d2.keep fun o e=>by rw [upd_ne nD.symm]; exact e
  ·have tD:Tk H2 (upd H2 D (.lst (ys ++ [y]))):=fun b xs e=>by rw [upd_ne (fun z=>by rw [z,s2 _ _ nD hy] at e; cases e)]; exact e
   exact pairS (hS _ _ _ _ tD h2) (pairM (fun v b h=>hS _ _ _ _ (fun b xs e=>tD _ _ (dM.tk s2 _ _ e)) h) pr)
  ·rw [tk]
   exact Paired.snoc pz hz
 ·rintro ys σ M hy ⟨_,s,bs,dM,pr,pz⟩
  rw [show as.take xs.length=as by rw [lp,List.take_length]] at pz
  exact q ys bs M s (by rw [<- lp]; exact dM) hy pr pz
end K39
namespace K39
open PySem L2 HT PySem.W
abbrev sPc:Stmt:=top 39
def nmTm:List (Str × NameKind):=[(".0",.local),("k",.local),("_law_pick",.globalImplicit),("deck",.free)]
theorem ndKD:(["k","deck"]:List Str).Nodup:=by decide +kernel
theorem crews_of {ss sA sB:List Str}{m:Nat}(nd:ss.Nodup) (pA:sA.Perm (ss.take m)) (pB:sB.Perm ((ss.drop m).take m)) (oA:PyProof.Rows.sortedS sA=true) (oB:PyProof.Rows.sortedS sB=true):Up sA/\Up sB/\∀ n∈sA,n ∉ sB:=by
 have h1:(ss.take m).Nodup:=nd.sublist (List.take_sublist _ _)
 have h2:((ss.drop m).take m).Nodup:=(nd.sublist (List.drop_sublist _ _)).sublist (List.take_sublist _ _)
 refine ⟨sorted_pw oA (pA.nodup_iff.mpr h1),sorted_pw oB (pB.nodup_iff.mpr h2),fun n hA hB=>?_⟩
 have a:=pA.mem_iff.mp hA
 have b:=List.mem_of_mem_take (pB.mem_iff.mp hB)
 rw [<- List.take_append_drop m ss,List.nodup_append] at nd
 exact nd.2.2 n a n b rfl
theorem insert_perm {ss ns:List Str}{i r:Nat}(h:ss.Perm (ns.take i)) (hi:i < ns.length):(ss.take r ++ ns[i] :: ss.drop r).Perm (ns.take (i + 1)):=by
 rw [List.take_add_one,List.getElem?_eq_getElem hi,Option.toList_some]
 refine List.perm_middle.trans ?_
 rw [List.take_append_drop]
 exact (List.Perm.cons _ h).trans (List.perm_append_singleton _ _).symm
theorem time3 {a b r:Int}(ga:0<=a) (la:a < 9) (gb:0<=b) (lb:b < 60) (g:0<=r) (l:r < 3):∃ t:Int,atI [V.int (1 + a),V.int (300 + b),V.int ((10:Int) ^ (9:Int).toNat)] r=some (.int t)/\1<=t/\t<=1000000000:=by
 have:r=0\/r=1\/r=2:=by omega
 rcases this with rfl | rfl | rfl
 ·exact ⟨_,atI_nat (j:=0) rfl,by omega,by omega⟩
 ·exact ⟨_,atI_nat (j:=1) rfl,by omega,by omega⟩
 ·exact ⟨_,atI_nat (j:=2) rfl,by decide,by decide⟩
theorem course4 {a r:Int}(ga:0<=a) (la:a < 12) (g:0<=r) (l:r < 4):∃ t:Int,atI [V.int 1,V.int 2000,V.int (1 + a),V.int ((10:Int) ^ (9:Int).toNat)] r=some (.int t)/\1<=t/\t<=1000000000:=by
 have:r=0\/r=1\/r=2\/r=3:=by omega
 rcases this with rfl | rfl | rfl | rfl
 ·exact ⟨_,atI_nat (j:=0) rfl,by decide,by decide⟩
 ·exact ⟨_,atI_nat (j:=1) rfl,by decide,by decide⟩
 ·exact ⟨_,atI_nat (j:=2) rfl,by omega,by omega⟩
 ·exact ⟨_,atI_nat (j:=3) rfl,by decide,by decide⟩
theorem many_of {n:Nat}(l2:2<=n):∃ M:Int,(if (n:Int) / 2 < 4 then (n:Int) / 2 else 4)=M/\0 < M/\M<=10000000000000/\∀ r:Int,0<=r->r < M->∃ m:Nat,1 + r=m/\1<=m/\m<=4/\2 * m<=n:=by
 refine ⟨_,rfl,?_⟩
 split <;> exact ⟨by omega,by omega,fun r g l=>⟨(1 + r).toNat,by omega,by omega,by omega,by omega⟩⟩
theorem cut_take {ss:List Str}{m:Nat}(h:2 * m<=ss.length):cutV (ss.map V.str) none (some (m:Int))=(ss.take m).map V.str/\cutV (ss.map V.str) (some (m:Int)) (some (2 * (m:Int)))=((ss.drop m).take m).map V.str:=by
 unfold cutV
 rw [show (2 * (m:Int))=((2 * m:Nat):Int) from rfl,HT.sIx_none,HT.sIx_nat,HT.sIx_nat,HT.sIx_nat,List.length_map,show min m ss.length=m by omega,show min (2 * m) ss.length=2 * m by omega,List.drop_zero,show 2 * m - m=m by omega]
 exact ⟨List.map_take.symm,by rw [List.map_take,List.map_drop]⟩
section
variable {P:Program}{w:World}{K:PySem.W.Frag}{mg:Str->Option Value}{base:Heap}
theorem ok_pcC {f:Addr}{fd:FuncData}(F:Fun K "_law_piece" "_law_piece" sPc f fd) (T:Txt mg) (DP:Df P w K mg base 1 "_law_pick" ["deck","many"] PkC):FnOk P w K mg base CX0 2 f fd ["deck","names"] PcC:=by
 have sc:FnScope ["deck","names","many","order","name","times","course","crews"] ["deck","names"] (defScope sPc):=⟨rfl,rfl,rfl,by decide +kernel,rfl,by decide +kernel,by decide +kernel⟩
 refine F.ok sc (fun vs H Q E h=>by cases h; rfl) (fun cdv A outer s H vs Q E hr h=>?_)
 refine ⟨_,pss_cons (ps_set (i:=2) sc.nd rfl (Or.inl rfl) (pe_op (oK op_add) pe_int (pD DP hr (pa_cons (pC 0) (pa_cons (pe_callB cMin rfl T.min bootMin (pa_cons pe_int (pa_cons (pe_op (oKc op_fdiv) (pe_callB cLen rfl T.len PySem.boot_len (pa_cons (pC 1) pa_nil)) pe_int) pa_nil))) pa_nil)))))
   (pss_cons (ps_set (i:=3) sc.nd rfl (Or.inl rfl) (peL pa_nil))
   (pss_cons (psFor PassesOwn.never rfl (piL K (pC 1)) (pg_name (i:=4) sc.nd rfl (Or.inl rfl))
    (pss_one (ps_expr (peBM PySem.F.slot_list_insert PySem.F.type_list_insert mtIns (pC 3)
     (pa_cons (pD DP hr (pa_cons (pC 0) (pa_cons (pe_op (oK op_add) (pe_callB cLen rfl T.len PySem.boot_len (pa_cons (pC 3) pa_nil)) pe_int) pa_nil))) (pa_cons (pC 4) pa_nil))))))
   (pss_cons (ps_setLC (i0:=5) (N:=["k","deck"]) (g:=gName 0) (tc:=tYes) sc.nd rfl (Or.inl rfl) rfl (piR rfl T.range (pa_cons pe_int pa_nil)) (BlkOk.one (v:="k") (fr:="deck") (j:=0) (nm:=nmTm) rfl rfl rfl rfl (by decide +kernel) (by decide +kernel) (by decide +kernel) (by decide +kernel) (by decide +kernel))
    (fun _ _ _=>pg_name (i:=0) ndKD rfl (Or.inl rfl)) (fun _ _ _=>pts_nil)
    (te:=tOp IxL (kLst (tCons (tOp (rK fun i j=>.int (i + j)) (tC (.int 1)) (kCall PkC E0 (tCons (vC 1) (tCons (tC (.int 9)) tNil)))) (tCons (tOp (rK fun i j=>.int (i + j)) (tC (.int 300)) (kCall PkC E0 (tCons (vC 1) (tCons (tC (.int 60)) tNil)))) (tCons (tOp (rKc CPow fun i j=>.int (i ^ j.toNat)) (tC (.int 10)) (tC (.int 9))) tNil)))) (kCall PkC E0 (tCons (vC 1) (tCons (tC (.int 3)) tNil))))
    (fun _ _ _=>pe_ix ixL2 (peL (pa_cons (pe_op (oK op_add) pe_int (pD DP hr (pa_cons (pC 1) (pa_cons pe_int pa_nil)))) (pa_cons (pe_op (oK op_add) pe_int (pD DP hr (pa_cons (pC 1) (pa_cons pe_int pa_nil)))) (pa_cons (pe_op (oKc op_pow) pe_int pe_int) pa_nil)))) (pD DP hr (pa_cons (pC 1) (pa_cons pe_int pa_nil))) (fun _ _=>rfl)))
   (pss_cons (ps_set (i:=6) sc.nd rfl (Or.inl rfl) (pe_ix ixL2 (peL (pa_cons pe_int (pa_cons pe_int (pa_cons (pe_op (oK op_add) pe_int (pD DP hr (pa_cons (pC 0) (pa_cons pe_int pa_nil)))) (pa_cons (pe_op (oKc op_pow) pe_int pe_int) pa_nil))))) (pD DP hr (pa_cons (pC 0) (pa_cons pe_int pa_nil))) (fun _ _=>rfl)))
   (pss_cons (ps_set (i:=7) sc.nd rfl (Or.inl rfl) (peT (pa_cons (pe_callTy cTup rfl T.tuple PyProof.Rows.boot_tuple (pa_cons (pe_callB cSS rfl T.sorted bootSorted (pa_cons (pe_slice sl2 (pC 3) po_none (po_C (pC 2))) pa_nil)) pa_nil))
    (pa_cons (pe_callTy cTup rfl T.tuple PyProof.Rows.boot_tuple (pa_cons (pe_callB cSS rfl T.sorted bootSorted (pa_cons (pe_slice sl2 (pC 3) (po_C (pC 2)) (po_C (pe_op (oKc op_mul) pe_int (pC 2)))) pa_nil)) pa_nil)) pa_nil))))
   (pss_one (ps_ret (pe_op oCt (pC 7) (peT (pa_cons (pe_ix ixL2 (pC 5) pe_int (fun _ _=>rfl)) (pa_cons (pe_ix ixL2 (pC 5) pe_int (fun _ _=>rfl)) (pa_cons (pC 6) pa_nil)))))))))))),?_⟩
 obtain @⟨k,p,c,ns,d,hc,npk,hp,l2,l12,ok,nd,q⟩:=h
 obtain ⟨Mx,eM,M0,M9,hM⟩:=many_of l2
 refine LenC.l hp ⟨⟨by decide,by decide⟩,?_⟩
 show PkI _ _ [_,.int (if ((ns.map V.str).length:Int) / 2 < 4 then ((ns.map V.str).length:Int) / 2 else 4)]
 rw [List.length_map,eM]
 refine PkI.mk (Dkn.of d (Int.le_trans hc (by decide))) (by decide) M0 M9 fun r M1 k1 d1 g1 l1=>NewO.mk rfl fun fo M2 s2 w2 n2=>?_
 obtain ⟨m,em,m1,m4,m2⟩:=hM r g1 l1
 have nfk:fo≠k:=d1.ne n2
 have kH:Keep k H M2:=k1.trans s2.keep
 have hp2:M2 p=some (.lst (ns.map V.str)):=kH _ _ npk hp
 have npf:p≠fo:=fun z=>by rw [z] at hp; rw [k1 _ _ nfk hp] at n2; cases n2
 refine LiK.mk hp2 (loopL (fun i σ M=>∃ v ss,σ=[some (.ref k),some (.ref p),some (.int (1 + r)),some (.ref fo),v,none,none,none]/\(∀ y o,y≠k->y≠fo->M2 y=some o->M y=some o)/\Dkn k c (1 + i) M/\M fo=some (.lst (ss.map V.str))/\ss.Perm (ns.take i))
  ⟨_,[],rfl,fun _ _ _ _ e=>e,d1.same s2,w2,.nil⟩ (fun i σ M ⟨_,_,_,h,_⟩=>h _ _ npk npf hp2) ?_ ?_)
 ·rintro i x σ M D' hx ⟨v,ss,rfl,kM,dM,hF,pm⟩ ⟨nx,_⟩
  have hi:i < ns.length:=by have:=(List.getElem?_eq_some_iff.mp hx).1; rwa [List.length_map] at this
  rw [List.getElem?_map,List.getElem?_eq_getElem hi] at hx
  obtain rfl:=Option.some.inj hx
  have ls:(ss.map V.str).length=i:=by rw [List.length_map,pm.length_eq,List.length_take]; omega
  refine ⟨IsL.mk hF,LenC.l hF (PkI.mk dM (by omega) (by rw [ls]; omega) (by rw [ls]; omega) fun r2 M3 k3 d3 g3 l3=>InsT.mk (k3 _ _ nfk hF) (by omega) g3 (by omega) fun M4 k4 w4=>nx _ _ ⟨_,_,rfl,fun y o n1 n2 e=>k4 _ _ n2 (k3 _ _ n1 (kM _ _ n1 n2 e)),d3.keep fun o e=>k4 _ _ nfk.symm e,?_,insert_perm (r:=r2.toNat) pm hi⟩)⟩
  rw [w4,map_insert]
 rintro σ M3 ⟨v,ss,rfl,kM,d3,hF,pm⟩
 rw [List.length_map] at d3 pm
 rw [List.take_length] at pm
 have oks:∀ n∈ss,okN n:=fun n hn=>ok n (pm.mem_iff.mp hn)
 have ls:=pm.length_eq
 refine RgK.mk (by decide) (by decide) fun D hD=>lcN (m:=3) (fun _ v t=>v=V.int t) (fun (_:Nat) t=>1<=t/\t<=1000000000) (fun σ=>∃ v,σ=[v,some (.ref k)]) hD d3 wkRk pairI (by decide) ⟨_,rfl⟩ (fun _ _ _ _ _ e=>e) ?_ ?_
 ·rintro σ M x a i Y ⟨v,rfl⟩ kx dx hi rfl _ hy
  have hi:i < 2:=hi
  refine PkI.mk dx (by omega) (by decide) (by decide) fun ra Ma ka da ga la=>PkI.mk da (by omega) (by decide) (by decide) fun rb Mb kb db gb lb=>⟨⟨by decide,by decide,by decide⟩,NewO.mk rfl fun l Mc sc wc nc=>PkI.mk (db.same sc) (by omega) (by decide) (by decide) fun rd Md kd dd gd ld=>?_⟩
  obtain ⟨t,ht,t1,t9⟩:=time3 ga la gb lb gd ld
  exact IxL.mk (kd _ _ (db.ne nc) wc) ht (hy _ _ _ _ ⟨_,rfl⟩ (((ka.trans kb).trans sc.keep).trans kd) dd rfl ⟨t1,t9⟩)
 intro ys bs M4 k4 d4 w4 pr pz
 obtain ⟨ta,tb,rfl,ha,hb⟩:∃ ta tb:Int,bs=[ta,tb]/\(1<=ta/\ta<=1000000000)/\(1<=tb/\tb<=1000000000):=by
  cases pz with
  | cons a t=>cases t with
   | cons b t=>cases t; exact ⟨_,_,rfl,a,b⟩
 rw [pairE pr] at w4
 have b4:1 + ns.length + 3 * (List.range (2:Int).toNat).length<=50:=by show 1 + ns.length + 3 * 2<=50; omega
 refine PkI.mk (d4.le b4) (by decide) (by decide) (by decide) fun ra Ma ka da ga la=>⟨⟨by decide,by decide,by decide⟩,NewO.mk rfl fun l Mc sc wc nc=>PkI.mk (da.same sc) (by decide) (by decide) (by decide) fun rd Md kd dd gd ld=>?_⟩
 obtain ⟨co,hco,c1,c9⟩:=course4 ga la gd ld
 refine IxL.mk (kd _ _ (da.ne nc) wc) hco ?_
 have kMd:Keep k M3 Md:=k4.trans ((ka.trans sc.keep).trans kd)
 have hFd:=kMd _ _ nfk hF
 have hDd:Md D=some (.lst ([ta,tb].map V.int)):=kd _ _ (d3.ne hD) (sc _ _ (ka _ _ (d3.ne hD) w4))
 obtain ⟨cut1,cut2⟩:=cut_take (ss:=ss) (m:=m) (by omega)
 rw [em]
 refine SlI.l hFd fun q1 N1 e1 h1 _=>?_
 rw [cut1] at h1
 refine SrtS.mk h1 (by rw [List.length_take]; omega) fun l1 za N2 e2 h2 _ pa oa=>TupI.l h2 fun t1 N3 e3 h3 _=>⟨.inl ⟨by decide,by decide⟩,?_⟩
 have e13:=(e1.trans e2).trans e3
 refine SlI.l (e13 _ _ hFd) fun q2 N4 e4 h4 _=>?_
 rw [cut2] at h4
 refine SrtS.mk h4 (by rw [List.length_take]; omega) fun l2 zb N5 e5 h5 _ pb ob=>TupI.l h5 fun t2 N6 e6 h6 _=>NewO.mk rfl fun cr N7 e7 h7 _=>?_
 have e47:=((e4.trans e5).trans e6).trans e7
 have e17:=e13.trans e47
 refine IxL.mk (e17 _ _ hDd) (atI_nat (j:=0) rfl) (IxL.mk (e17 _ _ hDd) (atI_nat (j:=1) rfl) (NewO.mk rfl fun tt N8 e8 h8 _=>CatI.any (e8 _ _ h7) h8 (by simp) (show 2 + 3<=10000 by decide) fun rr N9 e9 h9=>?_))
 have e79:=e8.trans e9
 obtain ⟨c',dc,lc⟩:=(dd.same (e17.trans e79)).out
 obtain ⟨ua,ub,no⟩:=crews_of (pm.nodup_iff.mpr nd) pa pb oa ob
 have la:za.length=m:=by rw [pa.length_eq,List.length_take]; omega
 have lb:zb.length=m:=by rw [pb.length_eq,List.length_take,List.length_drop]; omega
 refine q rr ⟨za,zb,ta,tb,co⟩ c' N9 (fun y o n e=>(e17.trans e79) _ _ (kMd _ _ n (kM _ _ n (fun z=>?_) (kH _ _ n e)))) dc (by omega) ⟨t1,t2,h9,(e47.trans e79) _ _ h3,(e7.trans e79) _ _ h6⟩
  ⟨⟨by show 1<=za.length; omega,by show za.length<=4; omega,fun n hn=>oks n (List.mem_of_mem_take (pa.mem_iff.mp hn))⟩,⟨by show 1<=zb.length; omega,by show zb.length<=4; omega,fun n hn=>oks n (List.mem_of_mem_drop (List.mem_of_mem_take (pb.mem_iff.mp hn)))⟩,ha.1,ha.2,hb.1,hb.2,c1,c9⟩ ⟨ua,ub,no,la.trans lb.symm⟩
 rw [z] at e
 rw [k1 _ _ nfk e] at n2; cases n2
end
end K39
namespace K39
open PySem L2 HT PySem.W
theorem exc_len {a:List Str}{m y:Str}(h:m∈a):(exc a m y).length<=a.length:=by
 unfold exc
 rw [List.length_append,List.length_singleton]
 have h2:=(List.length_filter_lt_length_iff_exists (p:=fun n=>!decide (n=m)) (l:=a)).mpr ⟨m,h,by simp⟩
 omega
theorem crok_exc {a c:List Str}{m y:Str}(o:CrOk a) (hm:m∈a) (hy:okN y) (pm:c.Perm (exc a m y)):CrOk c:=by
 refine ⟨?_,?_,fun n hn=>?_⟩
 ·rw [pm.length_eq]; unfold exc; rw [List.length_append,List.length_singleton]; omega
 ·rw [pm.length_eq]; exact Nat.le_trans (exc_len hm) o.l4
 ·rcases mem_exc.mp (pm.mem_iff.mp hn) with z | z
  ·exact o.ok n z.1
  ·rw [z]; exact hy
theorem pick_str {A:List Str}{i:Int}(h0:0<=i) (h1:i < ((A.map V.str).length:Int)):∃ m∈A,atI (A.map V.str) i=some (.str m):=by
 obtain ⟨h,e⟩:=atI_lt h0 h1
 refine ⟨A[i.toNat]'(by rwa [List.length_map] at h),List.getElem_mem _,?_⟩
 rw [e,List.getElem_map]
theorem neC {K:PySem.W.Frag}{a D:Addr}{H:Hp}{Q:VK}{A:List Str}{m:Str}{v0:Option V}(hD:H D=none) (h:H a=some (.tup (A.map V.str))) (l:A.length<=1000) (q:∀ M,Same H M->M D=some (.lst ((A.filter fun n=>!decide (n=m)).map V.str))->Q (.ref D) M) :
  LCok (Itt K a) (gName 0) (kTest (tOp (rKq not) (vC 0) (vC 1))) (vC 0) [v0,some (.str m)] H Q D:=by
 refine lcR (fun _ v b=>v=.str b) (fun n:Str=>if (fun n=>!decide (n=m)) n=true then some n else none) (fun σ=>∃ v,σ=[v,some (.str m)]) hD (wkT h) pairI (by rw [List.length_map]; exact l) ⟨_,rfl⟩ (fun _ _ _ _ _ e=>e) ?_ fun ys M s w pr=>q M s (by rw [w,pairE pr,fmF])
 rintro σ M x n N Y ⟨v,rfl⟩ s rfl _ hn hy
 by_cases e:n=m
 ·rw [if_neg (by simp [e])] at hn
  exact itN (by simp [e]) (hn rfl _ _ ⟨_,rfl⟩ (Same.refl _))
 ·rw [if_pos (by simp [e])] at hy
  exact itY (by simp [e]) (hy _ _ _ _ rfl ⟨_,rfl⟩ (Same.refl _) rfl)
section
variable {P:Program}{w:World}{K:PySem.W.Frag}{mg:Str->Option Value}{base:Heap}
abbrev sLx:Stmt:=top 40
def nmX1:List (Str × NameKind):=[(".0",.local),("name",.local),("one",.free)]
def nmX2:List (Str × NameKind):=[(".0",.local),("name",.local),("other",.free)]
theorem ndX1:(["name","one"]:List Str).Nodup:=by decide +kernel
theorem ndX2:(["name","other"]:List Str).Nodup:=by decide +kernel
theorem ok_lxC {f:Addr}{fd:FuncData}(F:Fun K "_law_exchanged" "_law_exchanged" sLx f fd) (T:Txt mg) (DP:Df P w K mg base 1 "_law_pick" ["deck","many"] PkC):FnOk P w K mg base CX0 2 f fd ["deck","piece"] LxC:=by
 have sc:FnScope ["deck","piece","one","other","first","second","times"] ["deck","piece"] (defScope sLx):=⟨rfl,rfl,rfl,by decide +kernel,rfl,by decide +kernel,by decide +kernel⟩
 refine F.ok sc (fun vs H Q E h=>by cases h; rfl) (fun cdv A outer s H vs Q E hr h=>?_)
 refine ⟨_,pss_cons (ps_set (i:=2) sc.nd rfl (Or.inr rfl) (pe_ix ixT2 (pe_ix ixT2 (pC 1) pe_int (fun _ _=>rfl)) (pD DP hr (pa_cons (pC 0) (pa_cons (pe_callB cLen rfl T.len PySem.boot_len (pa_cons (pe_ix ixT2 (pC 1) pe_int (fun _ _=>rfl)) pa_nil)) pa_nil))) (fun _ _=>rfl)))
   (pss_cons (ps_set (i:=3) sc.nd rfl (Or.inr rfl) (pe_ix ixT2 (pe_ix ixT2 (pC 1) pe_int (fun _ _=>rfl)) (pD DP hr (pa_cons (pC 0) (pa_cons (pe_callB cLen rfl T.len PySem.boot_len (pa_cons (pe_ix ixT2 (pC 1) pe_int (fun _ _=>rfl)) pa_nil)) pa_nil))) (fun _ _=>rfl)))
   (pss_cons (ps_set (i:=4) sc.nd rfl (Or.inl rfl) (pe_callTy cTup rfl T.tuple PyProof.Rows.boot_tuple (pa_cons (pe_callB cSS rfl T.sorted bootSorted (pa_cons (pe_op oCt (pe_lc (N:=["name","one"]) (g:=gName 0) (tc:=kTest (tOp (rKq not) (vC 0) (vC 1))) (te:=vC 0) rfl (piT K (pe_ix ixT2 (pC 1) pe_int (fun _ _=>rfl)))
    (BlkOk.one (v:="name") (fr:="one") (j:=2) (nm:=nmX1) rfl rfl rfl rfl (by decide +kernel) (by decide +kernel) (by decide +kernel) (by decide +kernel) (by decide +kernel))
    (fun _ _ _=>pg_name (i:=0) ndX1 rfl (Or.inl rfl)) (fun _ _ _=>pts_one (pt_C oN (pC 0) (pC 1) (nomark _))) (fun _ _ _=>pC 0)) (peL (pa_cons (pC 3) pa_nil))) pa_nil)) pa_nil)))
   (pss_cons (ps_set (i:=5) sc.nd rfl (Or.inl rfl) (pe_callTy cTup rfl T.tuple PyProof.Rows.boot_tuple (pa_cons (pe_callB cSS rfl T.sorted bootSorted (pa_cons (pe_op oCt (pe_lc (N:=["name","other"]) (g:=gName 0) (tc:=kTest (tOp (rKq not) (vC 0) (vC 1))) (te:=vC 0) rfl (piT K (pe_ix ixT2 (pC 1) pe_int (fun _ _=>rfl)))
    (BlkOk.one (v:="name") (fr:="other") (j:=3) (nm:=nmX2) rfl rfl rfl rfl (by decide +kernel) (by decide +kernel) (by decide +kernel) (by decide +kernel) (by decide +kernel))
    (fun _ _ _=>pg_name (i:=0) ndX2 rfl (Or.inl rfl)) (fun _ _ _=>pts_one (pt_C oN (pC 0) (pC 1) (nomark _))) (fun _ _ _=>pC 0)) (peL (pa_cons (pC 2) pa_nil))) pa_nil)) pa_nil)))
   (pss_cons (psIf (pt_C oQ (pD DP hr (pa_cons (pC 0) (pa_cons pe_int pa_nil))) pe_int (nomark _)) (pss_one (ps_ret (pe_op oCt (peT (pa_cons (pC 4) (pa_cons (pC 5) pa_nil))) (pe_slice sl2 (pC 1) (po_C pe_int) po_none)))) pss_nil)
   (pss_cons (ps_set (i:=6) sc.nd rfl (Or.inl rfl) (pe_callTy cTup rfl T.tuple PyProof.Rows.boot_tuple (pa_cons (pe_lc (N:=["k","deck"]) (g:=gName 0) (tc:=tYes) (te:=tOp (rK fun i j=>.int (i + j)) (tC (.int 1)) (kCall PkC E0 (tCons (vC 1) (tCons (tC (.int 400)) tNil)))) rfl (piR rfl T.range (pa_cons pe_int pa_nil))
    (BlkOk.one (v:="k") (fr:="deck") (j:=0) (nm:=nmTm) rfl rfl rfl rfl (by decide +kernel) (by decide +kernel) (by decide +kernel) (by decide +kernel) (by decide +kernel))
    (fun _ _ _=>pg_name (i:=0) ndKD rfl (Or.inl rfl)) (fun _ _ _=>pts_nil) (fun _ _ _=>pe_op (oK op_add) pe_int (pD DP hr (pa_cons (pC 1) (pa_cons pe_int pa_nil))))) pa_nil)))
   (pss_one (ps_ret (pe_op oCt (pe_op oCt (peT (pa_cons (pC 4) (pa_cons (pC 5) pa_nil))) (pC 6)) (peT (pa_cons (pe_ix ixL2 (peL (pa_cons (pe_ix ixT2 (pC 1) pe_int (fun _ _=>rfl)) (pa_cons (pe_op (oK op_add) pe_int (pD DP hr (pa_cons (pC 0) (pa_cons pe_int pa_nil)))) pa_nil))) (pD DP hr (pa_cons (pC 0) (pa_cons pe_int pa_nil))) (fun _ _=>rfl)) pa_nil)))))))))),?_⟩
 obtain @⟨k,r,c,p,d,hc,hp,op,cp,q⟩:=h
 obtain ⟨a,b,e1,e2,e3⟩:=hp
 have a1:=op.a.l1
 have a4:=op.a.l4
 have b1:=op.b.l1
 have b4:=op.b.l4
 have d0:=Dkn.of d (Int.le_trans hc (by decide))
 refine IxT.mk e1 (atI_nat (j:=0) rfl) (IxT.mk e1 (atI_nat (j:=0) rfl) (LenC.t e2 (PkI.mk d0 (by decide) (by rw [List.length_map]; omega) (by rw [List.length_map]; omega) fun i1 M1 k1 d1 g1 l1=>?_)))
 obtain ⟨m,hm,am⟩:=pick_str g1 l1
 have t1:=d0.tk k1
 refine IxT.mk (t1 _ _ e2) am (IxT.mk (t1 _ _ e1) (atI_nat (j:=1) rfl) (IxT.mk (t1 _ _ e1) (atI_nat (j:=1) rfl) (LenC.t (t1 _ _ e3) (PkI.mk d1 (by decide) (by rw [List.length_map]; omega) (by rw [List.length_map]; omega) fun i2 M2 k2 d2 g2 l2=>?_))))
 obtain ⟨y,hy,ay⟩:=pick_str g2 l2
 have t2:Tk H M2:=fun b xs e=>d1.tk k2 _ _ (t1 _ _ e)
 refine IxT.mk (t2 _ _ e3) ay (IxT.mk (t2 _ _ e1) (atI_nat (j:=0) rfl) (TiK.mk (t2 _ _ e2) fun D1 n1=>neC n1 (t2 _ _ e2) (Nat.le_trans a4 (by decide)) fun N1 s1 w1=>NewO.mk rfl fun x1 N2 s2 w2 _=>CatI.l (s2 _ _ w1) w2 ?_ fun L1 N3 s3 w3 _=>?_))
 ·rw [List.length_map]
  exact Nat.le_trans (Nat.add_le_add_right (Nat.le_trans (List.length_filter_le _ _) a4) 1) (by decide)
 rw [show (p.a.filter fun n=>!decide (n=m)).map V.str ++ [V.str y]=(exc p.a m y).map V.str by unfold exc; rw [List.map_append]; rfl] at w3
 refine SrtS.mk w3 (Nat.le_trans (exc_len hm) (Nat.le_trans a4 (by decide))) fun l1 C1 N4 s4 w4 _ pm1 so1=>TupI.l w4 fun c1 N5 s5 w5 _=>?_
 have s15:=(((s1.trans s2).trans s3).trans s4).trans s5
 have t5:Tk H N5:=fun b xs e=>s15 _ _ (t2 _ _ e)
 refine IxT.mk (t5 _ _ e1) (atI_nat (j:=1) rfl) (TiK.mk (t5 _ _ e3) fun D2 n2=>neC n2 (t5 _ _ e3) (Nat.le_trans b4 (by decide)) fun N6 s6 w6=>NewO.mk rfl fun x2 N7 s7 w7 _=>CatI.l (s7 _ _ w6) w7 ?_ fun L2 N8 s8 w8 _=>?_)
 ·rw [List.length_map]
  exact Nat.le_trans (Nat.add_le_add_right (Nat.le_trans (List.length_filter_le _ _) b4) 1) (by decide)
 rw [show (p.b.filter fun n=>!decide (n=y)).map V.str ++ [V.str m]=(exc p.b y m).map V.str by unfold exc; rw [List.map_append]; rfl] at w8
 refine SrtS.mk w8 (Nat.le_trans (exc_len hy) (Nat.le_trans b4 (by decide))) fun l2 C2 N9 s9 w9 _ pm2 so2=>TupI.l w9 fun c2 G s10 w10 _=>?_
 have s6G:=(((s6.trans s7).trans s8).trans s9).trans s10
 have sG:=s15.trans s6G
 have tG:Tk H G:=fun b xs e=>sG _ _ (t2 _ _ e)
 have kG:Keep k H G:=(k1.trans k2).trans sG.keep
 have dG:=d2.same sG
 have okm:=op.a.ok m hm
 have oky:=op.b.ok y hy
 have cr1:=crok_exc op.a hm oky pm1
 have cr2:=crok_exc op.b hy okm pm2
 have X1:Exch p.a m y C1:=⟨pm1,sorted_pw so1 (pm1.nodup_iff.mpr (exc_nodup cp.a.nodup fun z=>cp.no _ z hy))⟩
 have X2:Exch p.b y m C2:=⟨pm2,sorted_pw so2 (pm2.nodup_iff.mpr (exc_nodup cp.b.nodup fun z=>cp.no _ hm z))⟩
 refine PkI.mk dG (by decide) (by decide) (by decide) fun r3 G3 k3 d3 g3 l3=>ifD (fun _=>?_) fun _=>?_
 ·have t3:=dG.tk k3
  refine NewO.mk rfl fun u1 J1 j1 x1 _=>SlI.t (j1 _ _ (t3 _ _ (tG _ _ e1))) (show ¬ (HT.sIx 5 0 (some 2)=0/\HT.sIx 5 5 none=5) by decide +kernel) fun u2 J2 j2 x2 _=>CatI.any (j2 _ _ x1) x2 (show [V.int p.t,V.int p.o,V.int p.c]≠[] by simp) (show 2 + 3<=10000 by decide) fun t J3 j3 x3=>?_
  have j:=(j1.trans j2).trans j3
  obtain ⟨c',dc,lc⟩:=(d3.same j).out
  exact q t ⟨C1,C2,p.t,p.o,p.c⟩ m y c' J3 ((kG.trans k3).trans j.keep) dc (by omega) ⟨c1,c2,x3,j _ _ (t3 _ _ (s6G _ _ w5)),j _ _ (t3 _ _ w10)⟩ ⟨cr1,cr2,op.t1,op.t9,op.o1,op.o9,op.c1,op.c9⟩ ⟨hm,hy,X1,X2⟩
 ·have t3:=dG.tk k3
  refine RgK.mk (by decide) (by decide) fun D hD=>lcN (m:=1) (fun _ v t=>v=V.int t) (fun (_:Nat) t=>1<=t/\t<=1000000000) (fun σ=>∃ v,σ=[v,some (.ref k)]) hD d3 wkRk pairI (by decide) ⟨_,rfl⟩ (fun _ _ _ _ _ e=>e) ?_ ?_
  ·rintro σ M x a i Y ⟨v,rfl⟩ kx dx hi rfl _ hy
   have hi:i < 2:=hi
   exact PkI.mk dx (by omega) (by decide) (by decide) fun ra Ma ka da ga la=>hy _ _ _ _ ⟨_,rfl⟩ ka da rfl ⟨by omega,by omega⟩
  intro ys bs M4 k4 d4 w4 pr pz
  obtain ⟨ta,tb,rfl,ha,hb⟩:∃ ta tb:Int,bs=[ta,tb]/\(1<=ta/\ta<=1000000000)/\(1<=tb/\tb<=1000000000):=by
   cases pz with
   | cons a t=>cases t with
    | cons b t=>cases t; exact ⟨_,_,rfl,a,b⟩
  rw [pairE pr] at w4
  have t4:Tk H M4:=fun b xs e=>d3.tk k4 _ _ (t3 _ _ (tG _ _ e))
  refine TupI.l w4 fun tt J0 j0 x0 _=>NewO.mk rfl fun u1 J1 j1 x1 _=>CatI.any x1 (j1 _ _ x0) (by simp) (show 2 + 2<=10000 by decide) fun u2 J2 j2 x2=>?_
  have j02:=(j0.trans j1).trans j2
  have d5:=d4.same j02
  refine IxT.mk (j02 _ _ (t4 _ _ e1)) (atI_nat (j:=4) rfl) (PkI.mk d5 (by decide) (by decide) (by decide) fun ra Ma ka da ga la=>NewO.mk rfl fun l Mb sb wb nb=>PkI.mk (da.same sb) (by decide) (by decide) (by decide) fun rc Mc kc dc gc lc=>?_)
  obtain ⟨co,hco,c1',c9'⟩:∃ t:Int,atI [V.int p.c,V.int (1 + ra)] rc=some (.int t)/\1<=t/\t<=1000000000:=by
   have:rc=0\/rc=1:=by omega
   rcases this with rfl | rfl
   ·exact ⟨_,atI_nat (j:=0) rfl,op.c1,op.c9⟩
   ·exact ⟨_,atI_nat (j:=1) rfl,by omega,by omega⟩
  have kc5:Keep k J2 Mc:=(ka.trans sb.keep).trans kc
  have t5c:=d5.tk kc5
  refine IxL.mk (kc _ _ (da.ne nb) wb) hco (NewO.mk rfl fun u3 J3 j3 x3 _=>CatI.any (j3 _ _ (t5c _ _ x2)) x3 (by simp) (by show 2 + 2 + 1<=10000; decide) fun t J4 j4 x4=>?_)
  have j34:=j3.trans j4
  obtain ⟨c',dz,lz⟩:=(dc.same j34).out
  have tE:Tk G J4:=fun b xs e=>j34 _ _ (t5c _ _ (j02 _ _ (d3.tk k4 _ _ (t3 _ _ e))))
  exact q t ⟨C1,C2,ta,tb,co⟩ m y c' J4 ((((kG.trans k3).trans k4).trans (j02.keep.trans kc5)).trans j34.keep) dz (by simp at lz; omega) ⟨c1,c2,x4,tE _ _ (s6G _ _ w5),tE _ _ w10⟩ ⟨cr1,cr2,ha.1,ha.2,hb.1,hb.2,c1',c9'⟩ ⟨hm,hy,X1,X2⟩
end
end K39
namespace K39
open PySem L2 HT PySem.W
inductive DkI (H:Hp) (Q:VK):List V->Prop
 | mk {cell tn:Int} (h:0<=tn) (q:∀ p H',H p=none->Same H H'->DeckAt H' p tn->Q (.ref p) H'):DkI H Q [.int cell,.int tn]
def DkC:Sp:=fun vs H Q _=>DkI H Q vs
section
variable {P:Program}{w:World}{K:PySem.W.Frag}{mg:Str->Option Value}{base:Heap}
end
end K39
namespace K39
open PySem L2 HT PySem.W
theorem strs_get {ss:List Str}{i:Nat}(h:i < ss.length):(ss.map V.str).getD i .non=.str ss[i]:=by
 rw [List.getD_eq_getElem?_getD,List.getElem?_map,List.getElem?_eq_getElem h]; rfl
theorem take_get {α:Type}{l:List α}{i:Nat}(h:i < l.length):l.take (i + 1)=l.take i ++ [l[i]]:=by
 rw [List.take_add_one,List.getElem?_eq_getElem h]; rfl
theorem same_upd {H H1:Hp}{p:Addr}{o:HO}(s:Same H H1) (n:H p=none):Same H (upd H1 p o):=fun b u e=>by
 rw [upd_ne (fun z=>by rw [z,n] at e; cases e)]; exact s _ _ e
theorem ite_yes {c:Prop} [Decidable c] {A B:Prop}(h:c) (a:A):if c then A else B:=by rw [if_pos h]; exact a
theorem ite_no {c:Prop} [Decidable c] {A B:Prop}(h:¬ c) (a:B):if c then A else B:=by rw [if_neg h]; exact a
theorem flt_snoc {f:Str->Bool}{l:List Str}{x:Str}:(l ++ [x]).filter f=if f x=true then l.filter f ++ [x] else l.filter f:=by
 rw [List.filter_append]
 by_cases h:f x=true
 ·rw [if_pos h,List.filter_cons_of_pos h]; rfl
 ·rw [if_neg h,List.filter_cons_of_neg h]; simp
theorem mul_abs {x y:Int}{a b:Nat}(hx:x.natAbs < 2 ^ a) (hy:y.natAbs < 2 ^ b):(x * y).natAbs < 2 ^ (a + b):=by
 rw [Int.natAbs_mul,Nat.pow_add]
 exact Nat.mul_lt_mul'' hx hy
def exD (a b:List Str):PyData:=.tuple [.tuple (namesD a),.tuple (namesD b)]
theorem far3 (t a b:Nat):t≠t + a + b + 1/\a≠t + a + b + 1/\b≠t + a + b + 1:=by omega
theorem ex_tells {H:Hp}{t a b:Addr}{A B:List Str}(h1:H t=some (.tup [.ref a,.ref b])) (h2:H a=some (.tup (A.map V.str))) (h3:H b=some (.tup (B.map V.str))):Tells H (t + a + b + 1) (exD A B) (.ref t) :=
 tells_tuple.mpr ⟨t,_,rfl,(far3 t a b).1,h1,tellsAll_cons.mpr ⟨_,_,rfl,tells_tuple.mpr ⟨a,_,rfl,(far3 t a b).2.1,h2,tells_names A⟩,tellsAll_cons.mpr ⟨_,_,rfl,tells_tuple.mpr ⟨b,_,rfl,(far3 t a b).2.2,h3,tells_names B⟩,tellsAll_nil.mpr rfl⟩⟩⟩
theorem bd_names {c:List Str}(hc:∀ n∈c,okN n) (hl:c.length<=12):Bd 13 1 (.tuple (namesD c)):=by
 refine (Bd.tuple (n:=1) (p:=0) (m:=12) (fun x hx=>?_) (by unfold namesD; rw [List.length_map]; exact hl)).mono (by decide) (by decide)
 obtain ⟨n,hn,rfl⟩:=List.mem_map.mp hx
 exact bd_str (hc n hn).1 (hc n hn).2.1
theorem bd_ex {a b:List Str}(ha:∀ n∈a,okN n) (hb:∀ n∈b,okN n) (la:a.length<=12) (lb:b.length<=12):Bd 30 2 (exD a b):=by
 refine (Bd.tuple (n:=13) (p:=1) (m:=2) (ds:=[.tuple (namesD a),.tuple (namesD b)]) (fun x hx=>?_) (Nat.le_refl 2)).mono (by decide) (by decide)
 simp only [List.mem_cons,List.not_mem_nil,or_false] at hx
 rcases hx with rfl | rfl
 ·exact bd_names ha la
 ·exact bd_names hb lb
theorem eqv_names:∀ (a b:List Str),PyData.eqv (.tuple (namesD a)) (.tuple (namesD b))=decide (a=b)
 | [],[]=>by simp [namesD,PyData.eqv,PyData.eqvAll]
 | [],_ :: _=>by simp [namesD,PyData.eqv,PyData.eqvAll]
 | _ :: _,[]=>by simp [namesD,PyData.eqv,PyData.eqvAll]
 | x :: a,y :: b=>by
  have ih:=eqv_names a b
  simp only [namesD,PyData.eqv,PyData.eqvAll,List.map_cons] at ih ⊢
  rw [ih]
  by_cases h1:x=y
  ·by_cases h2:a=b <;> simp [h1,h2]
  ·simp [h1]
theorem eqv_ex {a b c d:List Str}:PyData.eqv (exD a b) (exD c d)=decide (a=c/\b=d):=by
 have h1:=eqv_names a c
 have h2:=eqv_names b d
 simp only [exD,PyData.eqv,PyData.eqvAll] at h1 h2 ⊢
 rw [h1,h2]
 by_cases e1:a=c <;> by_cases e2:b=d <;> simp [e1,e2]
abbrev Tr4:=Str × Str × Int × Int
def TrAt (H:Hp) (q:Addr) (r:Tr4):Prop:=∃ l,H q=some (.tup [.str r.1,.str r.2.1,.ref l])/\H l=some (.tup [.int r.2.2.1,.int r.2.2.2])
theorem TrAt.same {H H':Hp}{q:Addr}{r:Tr4}(h:TrAt H q r) (s:Same H H'):TrAt H' q r:=by
 obtain ⟨l,h1,h2⟩:=h
 exact ⟨l,s _ _ h1,s _ _ h2⟩
def DueV (H:Hp) (v:V):Option Tr4->Prop
 | none=>v=.non
 | some r=>∃ t,v=.ref t/\TrAt H t r
section
variable {P:Program}{w:World}{K:PySem.W.Frag}{mg:Str->Option Value}{base:Heap}
def DfX (P:Program) (w:World) (K:PySem.W.Frag) (mg:Str->Option Value) (base:Heap) (k:Nat) (x:Str) (ps:List Str) (sp:Sp):Prop :=
 ∃ f fd,FnOk P w K mg base (CXE P w) k f fd ps sp/\Binds K fd ps []/\PySem.W.keepIn K (.ref f)=true/\mg x=some (.ref f)
theorem pe_dfX {X:Cx}{W:Value->St->Hp->Prop}{k:Nat}{x:Str}{ps:List Str}{sp:Sp}{e:Expr}{es:List Expr}{t:TA}{p pos:Pos}(D:DfX X.prog X.w X.K X.mg X.base k x ps sp) (hr:Room k X.A) (hL:Lets X W) (ha:PA X (e :: es) t) (hg:Gl X x:=by rfl) (hdb:(x == ("__debug__":Str))=false:=by decide)
  (he:starEach (e :: es) X.env=(false,eval e X.env) :: starEach es X.env:=by rfl) (hpl:(backTo pos (starEach es X.env)).any (·.1)=false:=by rfl):PE X (.Call (.Name x p) (e :: es) [] pos) (tCallX sp [] W t):=by
 obtain ⟨f,fd,F,b,kp,m⟩:=D
 exact pe_callX F hr hg m kp b .nil hL ha hdb he hpl
abbrev sFl:Stmt:=top 13
abbrev sEx:Stmt:=top 21
abbrev sXp:Stmt:=top 22
abbrev sTr:Stmt:=top 23
inductive FrI (H:Hp) (Q:VK):List V->Prop
 | mk {t b:Int} (h:0 < b) (l:b.natAbs < BB) (m:t.natAbs < BB) (q:∀ p M,Same H M->M p=some (.tup [.int (frTop t b),.int (frBot t b)])->H p=none->Q (.ref p) M):FrI H Q [.int t,.int b]
def FrC:Sp:=fun vs H Q _=>FrI H Q vs
theorem FrC.old (vs:List V) (H:Hp) (Q:VK) (E:XK) (h:FrC vs H Q E):spFr vs H Q E:=by
 obtain ⟨h,l,m,q⟩:=h
 exact ⟨_,_,rfl,h,l,m,fun p hp=>q p _ (same_new hp _) upd_same hp⟩
inductive MgI (H:Hp) (Q:VK):List V->Prop
 | mk {r:Addr} {p:Pce} (h:PcAt H r p) (o:PcOk p) (q:∀ z M,Same H M->M z=some (.tup [.int (frTop (p.o - p.t) p.c),.int (frBot (p.o - p.t) p.c)])->Q (.ref z) M):MgI H Q [.ref r]
def MgC:Sp:=fun vs H Q _=>MgI H Q vs
inductive FlI (H:Hp) (Q:VK):List V->Prop
 | mk {a b:Addr} {t1 b1 t2 b2:Int} (h1:H a=some (.tup [.int t1,.int b1])) (h2:H b=some (.tup [.int t2,.int b2])) (p1:0 < b1) (p2:0 < b2) (l1:b1 < 2 ^ 60) (l2:b2 < 2 ^ 60) (m1:t1.natAbs < 2 ^ 60) (m2:t2.natAbs < 2 ^ 60)
  (q:∀ p M,Same H M->M p=some (.tup [.int (frTop (t1 * b2 - t2 * b1) (b1 * b2)),.int (frBot (t1 * b2 - t2 * b1) (b1 * b2))])->Q (.ref p) M):FlI H Q [.ref a,.ref b]
def FlC:Sp:=fun vs H Q _=>FlI H Q vs
inductive ExI (H:Hp) (Q:VK):List V->Prop
 | mk {a:Addr} {A:List Str} {m y:Str} (h:H a=some (.tup (A.map V.str))) (l:A.length<=12) (q:∀ t C M,Same H M->M t=some (.tup (C.map V.str))->C.Perm (exc A m y)->PyProof.Rows.sortedS C=true->Q (.ref t) M):ExI H Q [.ref a,.str m,.str y]
def ExC:Sp:=fun vs H Q _=>ExI H Q vs
structure Pcs2 (H:Hp) (r1 r2:Addr) (p q:Pce):Prop where
 h1:PcAt H r1 p
 h2:PcAt H r2 q
 o1:PcOk p
 o2:PcOk q
 c:Crews p
inductive XpI (CN:Addr) (H:Hp) (Q:VK) (E:XK):List V->Prop
 | mk {r1 r2:Addr} {p q:Pce} (h:Pcs2 H r1 r2 p q) (no:(∀ m y,¬ Xp p q m y)->∀ M,Same H M->E (.ref CN) none M) (yes:∀ m y t M,Xp p q m y->Same H M->M t=some (.tup [.str m,.str y])->Q (.ref t) M):XpI CN H Q E [.ref r1,.ref r2]
def XpC (CN:Addr):Sp:=fun vs H Q E=>XpI CN H Q E vs
inductive TrI (CN:Addr) (H:Hp) (Q:VK) (E:XK):List V->Prop
 | mk {r1 r2:Addr} {p q:Pce} (h:Pcs2 H r1 r2 p q) (no:(∀ m y,¬ Xp p q m y)->∀ M,Same H M->E (.ref CN) none M) (yes:∀ m y t M,Xp p q m y->Same H M->TrAt M t (trOf p q m y)->Q (.ref t) M):TrI CN H Q E [.ref r1,.ref r2]
def TrC (CN:Addr):Sp:=fun vs H Q E=>TrI CN H Q E vs
def kCallX (sp:Sp) (W:Value->St->Hp->Prop) (t:TA):TE:=fun σ H Q=>t σ H fun vs H1=>sp vs H1 Q fun cls _ H'=>W cls σ H'
theorem pX {X:Cx}{W:Value->St->Hp->Prop}{k:Nat}{x:Str}{ps:List Str}{sp:Sp}{e:Expr}{es:List Expr}{t:TA}{p pos:Pos}(D:DfX X.prog X.w X.K X.mg X.base k x ps sp) (hr:Room k X.A) (hL:Lets X W) (ha:PA X (e :: es) t) (hg:Gl X x:=by rfl) (hdb:(x == ("__debug__":Str))=false:=by decide)
  (he:starEach (e :: es) X.env=(false,eval e X.env) :: starEach es X.env:=by rfl) (hpl:(backTo pos (starEach es X.env)).any (·.1)=false:=by rfl):PE X (.Call (.Name x p) (e :: es) [] pos) (kCallX sp W t) :=
 (pe_dfX D hr hL ha hg hdb he hpl).wk fun σ H Q q=>by unfold tCallX; simp only [List.append_nil]; exact q
theorem ok_mgC {f:Addr}{fd:FuncData}(F:Fun K "margin" "margin" sMg f fd) (DF:Df P w K mg base 1 "fraction" ["top","bottom"] FrC):FnOk P w K mg base CX0 2 f fd ["piece"] MgC:=by
 refine F.ok scMg (fun vs H Q E h=>by cases h; rfl) (fun cdv A outer s H vs Q E hr h=>?_)
 refine ⟨_,pss_cons (ps_asg (pC 0) (pgT 5 (pgC (pg_name (i:=1) scMg.nd rfl (Or.inl rfl)) (pgC (pg_name (i:=2) scMg.nd rfl (Or.inl rfl)) (pgC (pg_name (i:=3) scMg.nd rfl (Or.inl rfl)) (pgC (pg_name (i:=4) scMg.nd rfl (Or.inl rfl)) (pgC (pg_name (i:=5) scMg.nd rfl (Or.inl rfl)) pgN)))))))
   (pss_one (ps_ret (pD DF hr (pa_cons (pe_op (oK op_sub) (pC 4) (pC 3)) (pa_cons (pC 5) pa_nil))))),?_⟩
 obtain ⟨⟨a,b,h1,_,_⟩,o,q⟩:=h
 have i1:=o.c1; have i2:=o.c9; have i3:=o.t1; have i4:=o.t9; have i5:=o.o1; have i6:=o.o9
 exact UnT.mk h1 rfl (FrI.mk (by omega) (BB_of (Nat.lt_trans (m:=2 ^ 60) (by omega) (by decide))) (BB_of (Nat.lt_trans (m:=2 ^ 60) (by omega) (by decide))) fun p M s w _=>q p M s w)
theorem ok_flC {f:Addr}{fd:FuncData}(F:Fun K "fraction_less" "fraction_less" sFl f fd) (DF:Df P w K mg base 1 "fraction" ["top","bottom"] FrC):FnOk P w K mg base CX0 2 f fd ["one","other"] FlC:=by
 have sc:FnScope ["one","other"] ["one","other"] (defScope sFl):=⟨rfl,rfl,rfl,by decide +kernel,rfl,by decide +kernel,by decide +kernel⟩
 refine F.ok sc (fun vs H Q E h=>by cases h; rfl) (fun cdv A outer s H vs Q E hr h=>?_)
 refine ⟨_,pss_one (ps_ret (pD DF hr (pa_cons (pe_op (oK op_sub) (pe_op (oKc op_mul) (pe_ix ixT2 (pC 0) pe_int (fun _ _=>rfl)) (pe_ix ixT2 (pC 1) pe_int (fun _ _=>rfl))) (pe_op (oKc op_mul) (pe_ix ixT2 (pC 1) pe_int (fun _ _=>rfl)) (pe_ix ixT2 (pC 0) pe_int (fun _ _=>rfl))))
   (pa_cons (pe_op (oKc op_mul) (pe_ix ixT2 (pC 0) pe_int (fun _ _=>rfl)) (pe_ix ixT2 (pC 1) pe_int (fun _ _=>rfl))) pa_nil)))),?_⟩
 obtain @⟨a,b,t1,b1,t2,b2,h1,h2,p1,p2,l1,l2,m1,m2,q⟩:=h
 have z:(b1 * b2).natAbs < 2 ^ 120:=mul_abs (a:=60) (b:=60) (by omega) (by omega)
 have z1:(t1 * b2).natAbs < 2 ^ 120:=mul_abs (a:=60) (b:=60) (by omega) (by omega)
 have z2:(t2 * b1).natAbs < 2 ^ 120:=mul_abs (a:=60) (b:=60) (by omega) (by omega)
 have cm:∀ {i j:Int},0 < j->j < 2 ^ 60->CMul i j:=fun a b=>.inr ⟨by omega,by omega⟩
 exact IxT.mk h1 (atI_nat (j:=0) rfl) (IxT.mk h2 (atI_nat (j:=1) rfl) ⟨cm p2 l2,IxT.mk h2 (atI_nat (j:=0) rfl) (IxT.mk h1 (atI_nat (j:=1) rfl) ⟨cm p1 l1,IxT.mk h1 (atI_nat (j:=1) rfl) (IxT.mk h2 (atI_nat (j:=1) rfl) ⟨cm p2 l2,FrI.mk (Int.mul_pos p1 p2) (BB_of (by omega)) (BB_of (by omega)) fun p M s w _=>q p M s w⟩)⟩)⟩)
def nmEx:List (Str × NameKind):=[(".0",.local),("name",.local),("leaves",.free)]
theorem ndEx:(["name","leaves"]:List Str).Nodup:=by decide +kernel
theorem ok_exC {f:Addr}{fd:FuncData}(F:Fun K "exchanged" "exchanged" sEx f fd) (T:Txt mg):FnOk P w K mg base CX0 1 f fd ["crew","leaves","enters"] ExC:=by
 have sc:FnScope ["crew","leaves","enters"] ["crew","leaves","enters"] (defScope sEx):=⟨rfl,rfl,rfl,by decide +kernel,rfl,by decide +kernel,by decide +kernel⟩
 refine F.ok sc (fun vs H Q E h=>by cases h; rfl) (fun cdv A outer s H vs Q E hr h=>?_)
 refine ⟨_,pss_one (ps_ret (pe_callTy cTup rfl T.tuple PyProof.Rows.boot_tuple (pa_cons (pe_callB cSS rfl T.sorted bootSorted (pa_cons (pe_op oCt (pe_lc (N:=["name","leaves"]) (g:=gName 0) (tc:=kTest (tOp (rKq not) (vC 0) (vC 1))) (te:=vC 0) rfl (piT K (pC 0))
   (BlkOk.one (v:="name") (fr:="leaves") (j:=1) (nm:=nmEx) rfl rfl rfl rfl (by decide +kernel) (by decide +kernel) (by decide +kernel) (by decide +kernel) (by decide +kernel))
   (fun _ _ _=>pg_name (i:=0) ndEx rfl (Or.inl rfl)) (fun _ _ _=>pts_one (pt_C oN (pC 0) (pC 1) (nomark _))) (fun _ _ _=>pC 0)) (peL (pa_cons (pC 2) pa_nil))) pa_nil)) pa_nil))),?_⟩
 obtain @⟨a,A,m,y,h,l,q⟩:=h
 have lf:(A.filter fun n=>!decide (n=m)).length<=12:=Nat.le_trans (List.length_filter_le _ _) l
 refine TiK.mk h fun D n=>neC n h (by omega) fun N1 s1 w1=>NewO.mk rfl fun x1 N2 s2 w2 _=>CatI.l (s2 _ _ w1) w2 (by rw [List.length_map,List.length_singleton]; omega) fun L1 N3 s3 w3 _=>?_
 rw [show (A.filter fun n=>!decide (n=m)).map V.str ++ [V.str y]=(exc A m y).map V.str by unfold exc; rw [List.map_append]; rfl] at w3
 exact SrtS.mk w3 (by unfold exc; rw [List.length_append,List.length_singleton]; omega) fun l1 C1 N4 s4 w4 _ pm so=>TupI.l w4 fun c1 N5 s5 w5 _=>q c1 C1 N5 ((((s1.trans s2).trans s3).trans s4).trans s5) w5 pm so
theorem ok_xpC {f:Addr}{fd:FuncData}(F:Fun K "exchanged_pair" "exchanged_pair" sXp f fd) {CN:Addr}(ON:ExcC K mg "NoTrial" CN) (DX:Df P w K mg base 1 "exchanged" ["crew","leaves","enters"] ExC):FnOk P w K mg base (CXE P w) 2 f fd ["one","other"] (XpC CN):=by
 have sc:FnScope ["one","other","mine","yours"] ["one","other"] (defScope sXp):=⟨rfl,rfl,rfl,by decide +kernel,rfl,by decide +kernel,by decide +kernel⟩
 refine F.okX sc (fun vs H Q E h=>by cases h; rfl) (fun cdv A outer s H vs Q E hr h=>?_)
 refine ⟨_,pss_cons (PS.nox (psFor PassesOwn.never rfl (piT K (pe_ix ixT2 (pC 0) pe_int (fun _ _=>rfl))) (pg_name (i:=2) sc.nd rfl (Or.inl rfl))
    (pss_one (psFor PassesOwn.never rfl (piT K (pe_ix ixT2 (pC 0) pe_int (fun _ _=>rfl))) (pg_name (i:=3) sc.nd rfl (Or.inl rfl))
     (pss_one (psIf (pt_C (oEq hr.units) (pe_slice sl2 (pC 1) po_none (po_C pe_int)) (peT (pa_cons (pD DX hr (pa_cons (pe_ix ixT2 (pC 0) pe_int (fun _ _=>rfl)) (pa_cons (pC 2) (pa_cons (pC 3) pa_nil)))) (pa_cons (pD DX hr (pa_cons (pe_ix ixT2 (pC 0) pe_int (fun _ _=>rfl)) (pa_cons (pC 3) (pa_cons (pC 2) pa_nil)))) pa_nil))) (nomark _))
      (pss_one (ps_ret (peT (pa_cons (pC 2) (pa_cons (pC 3) pa_nil))))) pss_nil))))))
   (pss_one (ps_raise (W:=fun cls _ H'=>E cls none H') makes0 rfl ON rfl (pa_cons pe_str pa_nil))),?_⟩
 obtain @⟨r1,r2,p,q,⟨⟨a,b,e1,e2,e3⟩,⟨c,d,g1,g2,g3⟩,o1,o2,cp⟩,no,yes⟩:=h
 have la4:=o1.a.l4
 have lb4:=o1.b.l4
 refine IxT.mk e1 (atI_nat (j:=0) rfl) (TiK.mk e2 (loopT (fun i σ M=>(∃ v2 v3,σ=[some (.ref r1),some (.ref r2),v2,v3])/\Same H M/\∀ m∈p.a.take i,∀ y,¬ Xp p q m y) ⟨⟨_,_,rfl⟩,Same.refl _,fun _ h=>nomatch h⟩ (fun i σ M h=>h.2.1 _ _ e2) ?_ ?_))
 ·rintro i x σ M D' hx ⟨⟨v2,v3,rfl⟩,sm,nm⟩ ⟨nx,rt,_⟩
  rw [List.getElem?_map] at hx
  obtain ⟨m,em,rfl⟩:=Option.map_eq_some_iff.mp hx
  have mm:=List.mem_of_getElem? em
  refine IxT.mk (sm _ _ e1) (atI_nat (j:=1) rfl) (TiK.mk (sm _ _ e3) (loopT (fun j σ M=>(∃ v3,σ=[some (.ref r1),some (.ref r2),some (.str m),v3])/\Same H M/\∀ y∈p.b.take j,¬ Xp p q m y) ⟨⟨_,rfl⟩,sm,fun _ h=>nomatch h⟩ (fun i σ M h=>h.2.1 _ _ e3) ?_ ?_))
  ·rintro j x σ M2 D2 hx ⟨⟨w3,rfl⟩,s2,n2⟩ ⟨nx2,rt2,_⟩
   rw [List.getElem?_map] at hx
   obtain ⟨y,ey,rfl⟩:=Option.map_eq_some_iff.mp hx
   have my:=List.mem_of_getElem? ey
   refine SlI.t (s2 _ _ g1) (show ¬ (HT.sIx 5 0 none=0/\HT.sIx 5 5 (some 2)=5) by decide +kernel) fun sl M3 s3 w3 _=>?_
   have s03:=s2.trans s3
   refine IxT.mk (s03 _ _ e1) (atI_nat (j:=0) rfl) (ExI.mk (s03 _ _ e2) (by omega) fun t1 C1 M4 s4 w4 pm1 so1=>?_)
   have s04:=s03.trans s4
   refine IxT.mk (s04 _ _ e1) (atI_nat (j:=1) rfl) (ExI.mk (s04 _ _ e3) (by omega) fun t2 C2 M5 s5 w5 pm2 so2=>NewO.mk rfl fun t M6 s6 w6 _=>?_)
   have s06:=(s04.trans s5).trans s6
   have x1:Exch p.a m y C1:=exch_of cp.a.nodup (fun z=>cp.no _ z my) pm1 so1
   have x2:Exch p.b y m C2:=exch_of cp.b.nodup (cp.no _ mm) pm2 so2
   have k1:=crok_exc o1.a mm (o1.b.ok y my) pm1
   have k2:=crok_exc o1.b my (o1.a.ok m mm) pm2
   have l4:∀ {c:List Str},CrOk c->c.length<=12:=fun o=>Nat.le_trans o.l4 (by decide)
   refine EqI.mk ⟨_,ex_tells (((s4.trans s5).trans s6) _ _ w3) (s06 _ _ g2) (s06 _ _ g3)⟩ ⟨_,ex_tells w6 ((s5.trans s6) _ _ w4) (s6 _ _ w5)⟩ ((bd_ex o2.a.ok o2.b.ok (l4 o2.a) (l4 o2.b)).lay (by decide)) ((bd_ex k1.ok k2.ok (l4 k1) (l4 k2)).lay (by decide)) ?_
   rw [eqv_ex]
   refine ifD (fun e=>?_) fun e=>?_
   ·exact NewO.mk rfl fun u M7 s7 w7 _=>rt2 _ _ (rt _ _ (yes m y u M7 ⟨mm,my,e.1 ▸ x1,e.2 ▸ x2⟩ (s06.trans s7) w7))
   ·refine nx2 _ _ ⟨⟨_,rfl⟩,s06,fun z hz=>?_⟩
    rw [List.take_add_one,ey] at hz
    rcases List.mem_append.mp hz with hz | hz
    ·exact n2 z hz
    ·obtain rfl:z=y:=by simpa using hz
     exact fun x=>e ⟨x.a.uniq x1,x.b.uniq x2⟩
  ·rintro σ M2 ⟨⟨w3,rfl⟩,s2,n2⟩
   refine nx _ _ ⟨⟨_,_,rfl⟩,s2,fun z hz=>?_⟩
   rw [List.length_map,List.take_length] at n2
   rw [List.take_add_one,em] at hz
   rcases List.mem_append.mp hz with hz | hz
   ·exact nm z hz
   ·obtain rfl:z=m:=by simpa using hz
    exact fun y x=>n2 y x.hy x
 ·rintro σ M ⟨⟨v2,v3,rfl⟩,sm,nm⟩
  rw [List.length_map,List.take_length] at nm
  exact ⟨by show 1<=sizeLine; decide,no (fun m y x=>nm m x.hm y x) M sm⟩
end
end K39
namespace K39
open PySem L2 HT PySem.W
def kMinS (f:Str->Str->Str) (Q:VK) (H:Hp):List V->Prop
 | [.str x,.str y]=>Q (.str (f x y)) H
 | _=>False
def rMnS (f:Str->Str->Str):List V->Hp->VK->Prop:=fun vs H Q=>kMinS f Q H vs
theorem cMinS {X:Cx}(hc:X.calm=true:=by rfl):CallR X (.builtin "min") (rMnS fun x y=>if ltStr y x=true then y else x):=(call_min2S hc).wk fun x H Q q=>by
 unfold rMnS kMinS at q
 split at q
 ·exact ⟨_,_,rfl,q⟩
 ·cases q
theorem cMaxS {X:Cx}(hc:X.calm=true:=by rfl):CallR X (.builtin "max") (rMnS fun x y=>if ltStr x y=true then y else x):=(call_max2S hc).wk fun x H Q q=>by
 unfold rMnS kMinS at q
 split at q
 ·exact ⟨_,_,rfl,q⟩
 ·cases q
theorem bootMax:bootBuiltins "max"=some (.builtin "max"):=by decide +kernel
inductive TnT (H:Hp) (Q:VK):List V->Prop
 | mk {r1 r2:Addr} {p q:Pce} (h:Pcs2 H r1 r2 p q) (z:∀ v r M,Same H M->Told p q r->DueV M v r->Q v M):TnT H Q [.ref r1,.ref r2]
def TnP:Sp:=fun vs H Q _=>TnT H Q vs
theorem pc_bd {p:Pce}(o:PcOk p):0 < frBot (p.o - p.t) p.c/\frBot (p.o - p.t) p.c < 2 ^ 60/\(frTop (p.o - p.t) p.c).natAbs < 2 ^ 60:=by
 have i1:=o.c1; have i2:=o.c9; have i3:=o.t1; have i4:=o.t9; have i5:=o.o1; have i6:=o.o9
 have a:=frBot_pos (t:=p.o - p.t) (b:=p.c) (by omega)
 have b:=frBot_le (t:=p.o - p.t) (b:=p.c)
 have c:=frTop_le (t:=p.o - p.t) (b:=p.c)
 exact ⟨a,by omega,by omega⟩
section
variable {P:Program}{w:World}{K:PySem.W.Frag}{mg:Str->Option Value}{base:Heap}
theorem ok_trC {f:Addr}{fd:FuncData}(F:Fun K "trial_of" "trial_of" sTr f fd) (T:Txt mg) {CN:Addr}(DX:DfX P w K mg base 2 "exchanged_pair" ["one","other"] (XpC CN)) (DL:Df P w K mg base 2 "fraction_less" ["one","other"] FlC) (DM:Df P w K mg base 2 "margin" ["piece"] MgC):FnOk P w K mg base (CXE P w) 3 f fd ["one","other"] (TrC CN):=by
 have sc:FnScope ["one","other","mine","yours","top","bottom"] ["one","other"] (defScope sTr):=⟨rfl,rfl,rfl,by decide +kernel,rfl,by decide +kernel,by decide +kernel⟩
 refine F.okX sc (fun vs H Q E h=>by cases h; rfl) (fun cdv A outer s H vs Q E hr h=>?_)
 refine ⟨_,pss_cons (ps_asg (pX DX hr (W:=fun cls _ H'=>E cls none H') lets0 (pa_cons (pC 0) (pa_cons (pC 1) pa_nil))) (pgT 2 (pgC (pg_name (i:=2) sc.nd rfl (Or.inl rfl)) (pgC (pg_name (i:=3) sc.nd rfl (Or.inl rfl)) pgN))))
   (PSs.nox (pss_cons (ps_asg (pD DL hr (pa_cons (pD DM hr (pa_cons (pC 0) pa_nil)) (pa_cons (pD DM hr (pa_cons (pC 1) pa_nil)) pa_nil))) (pgT 2 (pgC (pg_name (i:=4) sc.nd rfl (Or.inl rfl)) (pgC (pg_name (i:=5) sc.nd rfl (Or.inl rfl)) pgN))))
   (pss_cons (psIf (pt_C (oK op_gt) (pC 4) pe_int (nomark _)) (pss_one (ps_ret (peT (pa_cons (pC 2) (pa_cons (pC 3) (pa_cons (peT (pa_cons (pC 4) (pa_cons (pC 5) pa_nil))) pa_nil)))))) pss_nil)
   (pss_cons (psIf (pt_C (oK op_lt) (pC 4) pe_int (nomark _)) (pss_one (ps_ret (peT (pa_cons (pC 3) (pa_cons (pC 2) (pa_cons (peT (pa_cons (pe_un uNeg (pC 4)) (pa_cons (pC 5) pa_nil))) pa_nil)))))) pss_nil)
   (pss_one (ps_ret (peT (pa_cons (pe_callB cMinS rfl T.min bootMin (pa_cons (pC 2) (pa_cons (pC 3) pa_nil))) (pa_cons (pe_callB cMaxS rfl T.max bootMax (pa_cons (pC 2) (pa_cons (pC 3) pa_nil))) (pa_cons (peT (pa_cons pe_int (pa_cons pe_int pa_nil))) pa_nil)))))))))),?_⟩
 obtain @⟨r1,r2,p,q,⟨h1,h2,o1,o2,cp⟩,no,yes⟩:=h
 refine XpI.mk ⟨h1,h2,o1,o2,cp⟩ no fun m y t M1 x s1 w1=>UnT.mk w1 rfl (MgI.mk (h1.up s1.tk') o1 fun z1 M2 s2 w2=>MgI.mk (h2.up (s1.trans s2).tk') o2 fun z2 M3 s3 w3=>?_)
 obtain ⟨bp,lp,tp⟩:=pc_bd o1
 obtain ⟨bq,lq,tq⟩:=pc_bd o2
 refine FlI.mk (s3 _ _ w2) w3 bp bq lp lq tp tq fun z M4 s4 w4=>?_
 have i1:=o1.c1; have i2:=o2.c1
 obtain ⟨fd1,fd2⟩:=fr_dif (p:=p) (q:=q) (by omega) (by omega)
 rw [fd1,fd2] at w4
 have cc:0 < p.c * q.c:=Int.mul_pos (by omega) (by omega)
 obtain ⟨sg1,sg2⟩:=fr_sign (t:=dif p q) cc
 have s14:=((s1.trans s2).trans s3).trans s4
 have fin:∀ {a b:Str} {i j:Int},trOf p q m y=(a,b,i,j)->NewO (.tup [.int i,.int j]) 2 M4 fun v M=>NewO (.tup [.str a,.str b,v]) 3 M Q:=fun e=>NewO.mk rfl fun l N1 n1 x1 _=>NewO.mk rfl fun r N2 n2 x2 _=>yes m y r N2 x ((s14.trans n1).trans n2) (by rw [e]; exact ⟨l,x2,n2 _ _ x1⟩)
 refine UnT.mk w4 rfl (ifD (fun u=>?_) fun u=>?_)
 ·have dp:=sg1.mp u
  exact fin (by unfold trOf; simp only [if_pos dp])
 have nd:¬ 0 < dif p q:=fun z=>u (sg1.mpr z)
 refine ifD (fun u2=>?_) fun u2=>?_
 ·have dn:=sg2.mp u2
  obtain ⟨ng1,ng2⟩:=fr_neg (t:=dif p q) cc
  exact fin (by unfold trOf; simp only [if_neg nd,if_pos dn,ng1,ng2])
 ·have nn:¬ dif p q < 0:=fun z=>u2 (sg2.mpr z)
  have my:m≠y:=fun z=>cp.no _ x.hm (z ▸ x.hy)
  refine fin (a:=if ltStr y m=true then y else m) (b:=if ltStr m y=true then y else m) ?_
  unfold trOf
  simp only [if_neg nd,if_neg nn]
  rcases ltS_tot my with z | z
  ·rw [if_neg (by rw [ltS_asym z]; decide),if_neg (by rw [ltS_asym z]; decide),if_pos z]
  ·rw [if_pos z,if_pos z,if_neg (by rw [ltS_asym z]; decide)]
abbrev sTn:Stmt:=top 33
theorem ok_tnC {f:Addr}{fd:FuncData}(F:Fun K "trial_or_none" "trial_or_none" sTn f fd) {CN:Addr}(mn:mg "NoTrial"=some (.ref CN)) (xm:exmOne K (.ref CN) (.ref CN)=some true) (DT:DfX P w K mg base 3 "trial_of" ["one","other"] (TrC CN)):FnOk P w K mg base CX0 4 f fd ["one","other"] TnP:=by
 have sc:FnScope ["one","other"] ["one","other"] (defScope sTn):=⟨rfl,rfl,rfl,by decide +kernel,rfl,by decide +kernel,by decide +kernel⟩
 refine F.ok sc (fun vs H Q E h=>by cases h; rfl) (fun cdv A outer s H vs Q E hr h=>?_)
 refine ⟨_,pss_one (ps_try (C:=CN) (tb:=fun W=>tRet (kCallX (TrC CN) W (tCons (vC 0) (tCons (vC 1) tNil)))) (ts:=tRet (tC .non)) rfl rfl rfl mn
    (fun pins W=>pss_one (ps_ret (pX DT hr letsT (pa_cons (pC 0) (pa_cons (pC 1) pa_nil)))))
    (fun a=>pss_one (ps_ret pe_non))),?_⟩
 obtain ⟨h,z⟩:=h
 exact TrI.mk h (fun no M s=>⟨xm,z .non none M s (.inr ⟨no,rfl⟩) rfl⟩) fun m y t M x s ta=>z _ (some _) M s (.inl ⟨m,y,x,rfl⟩) ⟨t,rfl,ta⟩
end
end K39
namespace K39
open PySem L2 HT PySem.W
def pcD (p:Pce):PyData:=.tuple [.tuple (namesD p.a),.tuple (namesD p.b),.int p.t,.int p.o,.int p.c]
theorem pc_tells {H:Hp}{r:Addr}{p:Pce}(h:PcAt H r p):∃ k,Tells H k (pcD p) (.ref r):=by
 obtain ⟨a,b,h1,h2,h3⟩:=h
 exact ⟨r + a + b + 1,tells_tuple.mpr ⟨r,_,rfl,(far3 r a b).1,h1,tellsAll_cons.mpr ⟨_,_,rfl,tells_tuple.mpr ⟨a,_,rfl,(far3 r a b).2.1,h2,tells_names p.a⟩,tellsAll_cons.mpr ⟨_,_,rfl,tells_tuple.mpr ⟨b,_,rfl,(far3 r a b).2.2,h3,tells_names p.b⟩,
  tellsAll_cons.mpr ⟨_,_,rfl,tells_int.mpr rfl,tellsAll_cons.mpr ⟨_,_,rfl,tells_int.mpr rfl,tellsAll_cons.mpr ⟨_,_,rfl,tells_int.mpr rfl,tellsAll_nil.mpr rfl⟩⟩⟩⟩⟩⟩⟩
theorem bd_pc {p:Pce}(o:PcOk p):Fit (pcD p):=by
 have i1:=o.t1; have i2:=o.t9; have i3:=o.o1; have i4:=o.o9; have i5:=o.c1; have i6:=o.c9
 refine (Bd.tuple (n:=13) (p:=1) (m:=5) (ds:=[.tuple (namesD p.a),.tuple (namesD p.b),.int p.t,.int p.o,.int p.c]) (fun x hx=>?_) (Nat.le_refl 5)).mono (by decide) (by decide)
 simp only [List.mem_cons,List.not_mem_nil,or_false] at hx
 rcases hx with rfl | rfl | rfl | rfl | rfl
 ·exact bd_names o.a.ok (Nat.le_trans o.a.l4 (by decide))
 ·exact bd_names o.b.ok (Nat.le_trans o.b.l4 (by decide))
 ·exact (bd_int (by omega)).mono (by decide) (by decide)
 ·exact (bd_int (by omega)).mono (by decide) (by decide)
 ·exact (bd_int (by omega)).mono (by decide) (by decide)
end K39
namespace K39
open PySem L2 HT PySem.W
section
variable {P:Program}{w:World}{K:PySem.W.Frag}{mg:Str->Option Value}{base:Heap}
def clubMeth (i:Nat):Stmt:=match top 34 with
 | .ClassDef _ _ _ b _ _ _ _ _ _ _=>b.getD i (.Pass ⟨0,0,0,0⟩)
 | _=>.Pass ⟨0,0,0,0⟩
def DfM (P:Program) (w:World) (K:PySem.W.Frag) (mg:Str->Option Value) (base:Heap) (k:Nat) (C:Addr) (m:Str) (ps:List Str) (sp:Sp):Prop :=
 Cls K C/\∃ f fd,FnOk P w K mg base CX0 k f fd ps sp/\Binds K fd ps []/\Meth K C m f
structure Clb (K:PySem.W.Frag) (C:Addr):Prop where
 c:Cls K C
 ns:NoAttr K C "states"
 nl:NoAttr K C "left"
abbrev Rows:=List (Nat × Pce)
abbrev Rwr:=Str × Str × Int
def RwAt (H:Hp) (v:V) (x:Nat × Pce):Prop:=∃ u r,v=.ref u/\H u=some (.tup [.int x.1,.ref r])/\PcAt H r x.2
theorem RwAt.up {H H':Hp}{v:V}{x:Nat × Pce}(h:RwAt H v x) (s:∀ b xs,H b=some (.tup xs)->H' b=some (.tup xs)):RwAt H' v x:=by
 obtain ⟨u,r,h1,h2,h3⟩:=h
 exact ⟨u,r,h1,s _ _ h2,h3.up s⟩
def RwrAt (H:Hp) (v:V) (r:Rwr):Prop:=∃ a,v=.ref a/\H a=some (.tup [.str r.1,.str r.2.1,.int r.2.2])
theorem RwrAt.up {H H':Hp}{v:V}{r:Rwr}(h:RwrAt H v r) (s:∀ b xs,H b=some (.tup xs)->H' b=some (.tup xs)):RwrAt H' v r:=by
 obtain ⟨a,h1,h2⟩:=h
 exact ⟨a,h1,s _ _ h2⟩
theorem Paired.mono {α β:Type}{R S:α->β->Prop}:∀ {as:List α}{bs:List β},Paired R as bs->(∀ a b,R a b->S a b)->Paired S as bs
 | _,_,.nil,_=>.nil
 | _,_,.cons h t,f=>.cons (f _ _ h) (Paired.mono t f)
structure Cs where
 crew:List Rwr
 rows:Rows
 n:Nat
def StA (H:Hp) (v:V) (S:Cs):Prop:=∃ (st cr sd:Addr) (ws us:List V),v=.ref st/\H st=some (.tup [.ref cr,.ref sd,.int S.n])/\H cr=some (.tup ws)/\Paired (RwrAt H) ws S.crew/\H sd=some (.tup us)/\Paired (RwAt H) us S.rows
theorem StA.up {H H':Hp}{v:V}{S:Cs}(h:StA H v S) (s:∀ b xs,H b=some (.tup xs)->H' b=some (.tup xs)):StA H' v S:=by
 obtain ⟨st,cr,sd,ws,us,h1,h2,h3,h4,h5,h6⟩:=h
 exact ⟨st,cr,sd,ws,us,h1,s _ _ h2,s _ _ h3,Paired.mono h4 fun _ _ z=>z.up s,s _ _ h5,Paired.mono h6 fun _ _ z=>z.up s⟩
def ClubG (C:Addr) (H:Hp) (cb sl ll:Addr) (sts lfs:List Cs):Prop:=∃ (dx:Addr) (vs ws:List V),H cb=some (.ins C dx [("states",.ref sl),("left",.ref ll)])/\sl≠cb/\ll≠cb/\ll≠sl /\
 H sl=some (.lst vs)/\H ll=some (.lst ws)/\Paired (StA H) vs sts/\Paired (StA H) ws lfs
theorem ClubG.same {C:Addr}{H H':Hp}{cb sl ll:Addr}{sts lfs:List Cs}(h:ClubG C H cb sl ll sts lfs) (s:Same H H'):ClubG C H' cb sl ll sts lfs:=by
 obtain ⟨dx,vs,ws,c1,c2,c3,c4,c5,c6,c7,c8⟩:=h
 exact ⟨dx,vs,ws,s _ _ c1,c2,c3,c4,s _ _ c5,s _ _ c6,Paired.mono c7 fun _ _ z=>z.up fun _ _ e=>s _ _ e,Paired.mono c8 fun _ _ z=>z.up fun _ _ e=>s _ _ e⟩
theorem none_of_same {H H':Hp}{a:Addr}(s:Same H H') (h:H' a=none):H a=none:=by
 cases e:H a with
 | none=>rfl
 | some o=>rw [s _ _ e] at h; cases h
abbrev sInit:Stmt:=clubMeth 0
abbrev sEnter:Stmt:=clubMeth 3
abbrev sTell:Stmt:=clubMeth 7
abbrev sStr:Stmt:=clubMeth 8
abbrev sBack:Stmt:=clubMeth 9
abbrev sAgain:Stmt:=clubMeth 10
abbrev sRwrs:Stmt:=clubMeth 11
abbrev sPcs:Stmt:=clubMeth 12
abbrev sTrs:Stmt:=clubMeth 13
theorem scInit:FnScope ["self"] ["self"] (defScope sInit):=⟨rfl,rfl,rfl,by decide +kernel,rfl,by decide +kernel,by decide +kernel⟩
def spInit (C:Addr):Sp:=fun vs H Q _=>∃ cb dx,vs=[.ref cb]/\H cb=some (.ins C dx [])/\∀ sl ll H',(∀ b o,b≠cb->H b=some o->H' b=some o)->H sl=none->H ll=none->ClubG C H' cb sl ll [⟨[],[],0⟩] []->Q .non H'
theorem ok_init {f:Addr}{fd:FuncData}{C:Addr}(F:Fun K "__init__" "Club.__init__" sInit f fd) (CC:Clb K C):FnOk P w K mg base CX0 1 f fd ["self"] (spInit C):=by
 refine F.ok scInit (fun vs H Q E h=>?_) (fun cdv A outer s H vs Q E hr h=>?_)
 ·obtain ⟨cb,dx,rfl,_⟩:=h
  rfl
 ·obtain ⟨cb,dx,rfl,hc,hQ⟩:=h
  refine ⟨_,pss_cons (ps_fld (pv 0) (pe_lst (pa_cons (pe_tup (pa_cons (pe_tup pa_nil) (pa_cons (pe_tup pa_nil) (pa_cons pe_int pa_nil)))) pa_nil)) rfl) (pss_one (ps_fld (pv 0) (pe_lst pa_nil) rfl)),?_⟩
  refine ⟨by show 0<=sizeLine; decide,fun t1 h1=>?_⟩
  have s1:=same_new h1 (.tup [])
  have w1:upd H t1 (.tup []) t1=some (.tup []):=upd_same
  try dsimp only
  generalize upd H t1 (.tup [])=M1 at *
  refine ⟨by show 0<=sizeLine; decide,fun t2 h2=>?_⟩
  have s2:=same_new h2 (.tup [])
  have w2:upd M1 t2 (.tup []) t2=some (.tup []):=upd_same
  try dsimp only
  generalize upd M1 t2 (.tup [])=M2 at *
  refine ⟨by show 3<=sizeLine; decide,fun t3 h3=>?_⟩
  have s3:=same_new h3 (.tup [.ref t1,.ref t2,.int 0])
  have w3:upd M2 t3 (.tup [.ref t1,.ref t2,.int 0]) t3=some (.tup [.ref t1,.ref t2,.int 0]):=upd_same
  try dsimp only
  generalize upd M2 t3 (.tup [.ref t1,.ref t2,.int 0])=M3 at *
  refine ⟨by show 1<=sizeLine; decide,fun sl hsl=>?_⟩
  have s4:=same_new hsl (.lst [.ref t3])
  have w4:upd M3 sl (.lst [.ref t3]) sl=some (.lst [.ref t3]):=upd_same
  have s14:Same H (upd M3 sl (.lst [.ref t3])):=((s1.trans s2).trans s3).trans s4
  have hsl0:H sl=none:=by
   cases e:H sl with
   | none=>rfl
   | some o=>rw [((s1.trans s2).trans s3) _ _ e] at hsl; cases hsl
  try dsimp only
  generalize upd M3 sl (.lst [.ref t3])=M4 at *
  have hc4:=s14 _ _ hc
  refine ⟨_,rfl,cb,C,dx,[],rfl,hc4,CC.c,CC.ns,by decide,?_⟩
  have nsc:sl≠cb:=fun z=>by rw [z,hc] at hsl0; cases hsl0
  have k5:∀ b o,b≠cb->M4 b=some o->upd M4 cb (.ins C dx (putF "states" (.ref sl) [])) b=some o:=fun b o n e=>by rw [upd_ne n]; exact e
  have w5:upd M4 cb (.ins C dx (putF "states" (.ref sl) [])) cb=some (.ins C dx (putF "states" (.ref sl) [])):=upd_same
  try dsimp only
  generalize upd M4 cb (.ins C dx (putF "states" (.ref sl) []))=M5 at *
  refine ⟨by show 0<=sizeLine; decide,fun ll hll=>?_⟩
  have s6:=same_new hll (.lst [])
  have w6:upd M5 ll (.lst []) ll=some (.lst []):=upd_same
  try dsimp only
  generalize upd M5 ll (.lst [])=M6 at *
  refine ⟨_,rfl,cb,C,dx,_,rfl,s6 _ _ w5,CC.c,CC.nl,(show 1 < 1000 by decide),?_⟩
  have kH:∀ b o,b≠cb->H b=some o->upd M6 cb (.ins C dx (putF "left" (.ref ll) (putF "states" (.ref sl) []))) b=some o:=fun b o n e=>by rw [upd_ne n]; exact s6 _ _ (k5 _ _ n (s14 _ _ e))
  have k4:∀ b o,b≠cb->M4 b=some o->upd M6 cb (.ins C dx (putF "left" (.ref ll) (putF "states" (.ref sl) []))) b=some o:=fun b o n e=>by rw [upd_ne n]; exact s6 _ _ (k5 _ _ n e)
  have nT:∀ b xs,M4 b=some (.tup xs)->b≠cb:=fun b xs e z=>by rw [z,hc4] at e; cases e
  have v1:=((s2.trans s3).trans s4) _ _ w1
  have v2:=(s3.trans s4) _ _ w2
  have v3:=s4 _ _ w3
  have hll0:H ll=none:=by
   cases e:H ll with
   | none=>rfl
   | some o => by_cases z : ll = cb
               ·rw [z,w5] at hll; cases hll
               ·rw [k5 _ _ z (s14 _ _ e)] at hll; cases hll
  have nlc:ll≠cb:=fun z=>by rw [z,w5] at hll; cases hll
  have nls:ll≠sl:=fun z=>by rw [z,k5 _ _ nsc w4] at hll; cases hll
  exact hQ sl ll _ kH hsl0 hll0 ⟨dx,[.ref t3],[],upd_same,nsc,nlc,nls,k4 _ _ nsc w4,by rw [upd_ne nlc]; exact w6,.cons ⟨t3,t1,t2,[],[],rfl,k4 _ _ (nT _ _ v3) v3,k4 _ _ (nT _ _ v1) v1,.nil,k4 _ _ (nT _ _ v2) v2,.nil⟩ .nil,.nil⟩
theorem scEnter:FnScope ["self","crew","standing","following"] ["self","crew","standing","following"] (defScope sEnter):=⟨rfl,rfl,rfl,by decide +kernel,rfl,by decide +kernel,by decide +kernel⟩
def Kp3 (a b c:Addr) (H H':Hp):Prop:=∀ x o,x≠a->x≠b->x≠c->H x=some o->H' x=some o
theorem paired_len {α β:Type}{R:α->β->Prop}:∀ {as:List α}{bs:List β},Paired R as bs->as.length=bs.length
 | _,_,.nil=>rfl
 | _,_,.cons _ t=>by simp [paired_len t]
theorem paired_last {α β:Type}{R:α->β->Prop}:∀ {as:List α}{bs:List β}{b:β},Paired R as (bs ++ [b])->∃ as' a,as=as' ++ [a]/\Paired R as' bs/\R a b
 | _,[],_,.cons h .nil=>⟨[],_,rfl,.nil,h⟩
 | _,_ :: bs,_,.cons h t=>by
  obtain ⟨as',a,rfl,h1,h2⟩:=paired_last (bs:=bs) t
  exact ⟨_ :: as',a,rfl,.cons h h1,h2⟩
end
end K39
namespace K39
open PySem L2 HT PySem.W
section
variable {P:Program}{w:World}{K:PySem.W.Frag}{mg:Str->Option Value}{base:Heap}
theorem scTell:FnScope ["self","piece","crew","standing","following"] ["self","piece"] (defScope sTell):=⟨rfl,rfl,rfl,by decide +kernel,rfl,by decide +kernel,by decide +kernel⟩
end
end K39
namespace K39
open PySem L2 HT PySem.W
section
variable {P:Program}{w:World}{K:PySem.W.Frag}{mg:Str->Option Value}{base:Heap}
theorem scStr:FnScope ["self","number","crew","standing","following"] ["self","number"] (defScope sStr):=⟨rfl,rfl,rfl,by decide +kernel,rfl,by decide +kernel,by decide +kernel⟩
def nmSt:List (Str × NameKind):=[(".0",.local),("told",.local),("number",.free)]
theorem ndSt:(["told","number"]:List Str).Nodup:=by decide +kernel
theorem ndOp:(["other","piece"]:List Str).Nodup:=by decide +kernel
def cutR (rows:Rows) (k:Int):Rows:=rows.filter fun x=>!decide ((x.1:Int)=k)
def hasR (rows:Rows) (k:Int):Bool:=rows.any fun x=>decide ((x.1:Int)=k)
theorem in_nats {k:Int}(ns:Rows):inV (.int k) (ns.map fun x=>V.int x.1)=hasR ns k:=by
 unfold inV hasR
 rw [List.any_map]
 congr 1
theorem flat_nats (ns:Rows):(ns.map fun x=>V.int x.1).all flatV=true:=by
 rw [List.all_eq_true]
 intro v hv
 obtain ⟨x,_,rfl⟩:=List.mem_map.mp hv
 rfl
theorem scRwrs:FnScope ["self"] ["self"] (defScope sRwrs):=⟨rfl,rfl,rfl,by decide +kernel,rfl,by decide +kernel,by decide +kernel⟩
theorem scPcs:FnScope ["self"] ["self"] (defScope sPcs):=⟨rfl,rfl,rfl,by decide +kernel,rfl,by decide +kernel,by decide +kernel⟩
end
end K39
namespace K39
open PySem L2 HT PySem.W
open Classical in
noncomputable def toldF (p q:Pce):Option Tr4:=if h:∃ m y,Xp p q m y then some (trOf p q h.choose h.choose_spec.choose) else none
theorem toldF_is {p q:Pce}{r:Option Tr4}(P:Crews p) (h:Told p q r):r=toldF p q:=by
 refine h.uniq P ?_
 unfold toldF
 split
 ·rename_i h
  exact .inl ⟨_,_,h.choose_spec.choose_spec,rfl⟩
 ·rename_i h
  exact .inr ⟨fun m y x=>h ⟨m,y,x⟩,rfl⟩
abbrev Row3:=Nat × Nat × Tr4
def row1 (i j:Nat):Option Tr4->List Row3
 | none=>[]
 | some t=>[(i,j,t)]
noncomputable def rwG (x:Nat × Pce):Rows->List Row3
 | []=>[]
 | y :: ys=>row1 x.1 y.1 (toldF x.2 y.2) ++ rwG x ys
noncomputable def alG:Rows->List Row3
 | []=>[]
 | x :: xs=>rwG x xs ++ alG xs
def Rw3At (H:Hp) (v:V) (r:Row3):Prop:=∃ a q,v=.ref a/\H a=some (.tup [.int r.1,.int r.2.1,.ref q])/\TrAt H q r.2.2
theorem TrAt.up {H H':Hp}{q:Addr}{r:Tr4}(h:TrAt H q r) (s:∀ b xs,H b=some (.tup xs)->H' b=some (.tup xs)):TrAt H' q r:=by
 obtain ⟨l,h1,h2⟩:=h
 exact ⟨l,s _ _ h1,s _ _ h2⟩
theorem Rw3At.up {H H':Hp}{v:V}{r:Row3}(h:Rw3At H v r) (s:∀ b xs,H b=some (.tup xs)->H' b=some (.tup xs)):Rw3At H' v r:=by
 obtain ⟨a,q,h1,h2,h3⟩:=h
 exact ⟨a,q,h1,s _ _ h2,h3.up s⟩
section
variable {P:Program}{w:World}{K:PySem.W.Frag}{mg:Str->Option Value}{base:Heap}
theorem scTrs:FnScope ["self","found","standing","at","one","piece","other","later","trial"] ["self"] (defScope sTrs):=⟨rfl,rfl,rfl,by decide +kernel,rfl,by decide +kernel,by decide +kernel⟩
end
end K39
namespace K39
open PySem L2 HT PySem.W
section
variable {P:Program}{w:World}{K:PySem.W.Frag}{mg:Str->Option Value}{base:Heap}
theorem in_strs (x:Str) (ns:List Str):inV (.str x) (ns.map V.str)=decide (x∈ns):=by
 unfold inV
 rw [List.any_map]
 induction ns with
 | nil=>rfl
 | cons a l ih =>
  rw [List.any_cons,ih]
  have:eqV (V.str a) (.str x)=decide (a=x):=rfl
  show (eqV (V.str a) (.str x) || _)=_
  rw [this]
  by_cases e:a=x
  ·subst e; simp
  ·have e':¬ x=a:=fun z=>e z.symm
   simp [e,e']
theorem flat_strs (ns:List Str):(ns.map V.str).all flatV=true:=by
 rw [List.all_eq_true]
 intro v hv
 obtain ⟨x,_,rfl⟩:=List.mem_map.mp hv
 rfl
end
end K39
namespace K39
open PySem L2 HT PySem.W
section
variable {P:Program}{w:World}{K:PySem.W.Frag}{mg:Str->Option Value}{base:Heap}
end
end K39
namespace K39
open PySem L2 HT PySem.W
def trD (r:Tr4):PyData:=.tuple [.str r.1,.str r.2.1,.tuple [.int r.2.2.1,.int r.2.2.2]]
def TrOk (r:Tr4):Prop:=okN r.1/\okN r.2.1/\r.2.2.1.natAbs < 2 ^ 200/\r.2.2.2.natAbs < 2 ^ 200
theorem bd_tr {r:Tr4}(h:TrOk r):Bd 10 2 (trD r):=by
 obtain ⟨h1,h2,h3,h4⟩:=h
 have b1:Bd 3 1 (.tuple [.int r.2.2.1,.int r.2.2.2]):=by
  refine (Bd.tuple (n:=1) (p:=0) (m:=2) (ds:=[.int r.2.2.1,.int r.2.2.2]) (fun x hx=>?_) (Nat.le_refl 2)).mono (by decide) (by decide)
  simp only [List.mem_cons,List.not_mem_nil,or_false] at hx
  rcases hx with rfl | rfl
  ·exact bd_int h3
  ·exact bd_int h4
 refine (Bd.tuple (n:=3) (p:=1) (m:=3) (ds:=[.str r.1,.str r.2.1,.tuple [.int r.2.2.1,.int r.2.2.2]]) (fun x hx=>?_) (Nat.le_refl 3)).mono (by decide) (by decide)
 simp only [List.mem_cons,List.not_mem_nil,or_false] at hx
 rcases hx with rfl | rfl | rfl
 ·exact (bd_str h1.1 h1.2.1).mono (by decide) (by decide)
 ·exact (bd_str h2.1 h2.2.1).mono (by decide) (by decide)
 ·exact b1
theorem tr_ok {p q:Pce}{m y:Str}(o1:PcOk p) (o2:PcOk q) (x:Xp p q m y):TrOk (trOf p q m y):=by
 have okm:=o1.a.ok m x.hm
 have oky:=o1.b.ok y x.hy
 have i1:=o1.c1; have i2:=o1.c9; have i3:=o2.c1; have i4:=o2.c9
 have i5:=o1.t1; have i6:=o1.t9; have i7:=o1.o1; have i8:=o1.o9
 have j5:=o2.t1; have j6:=o2.t9; have j7:=o2.o1; have j8:=o2.o9
 have m1:((p.o - p.t) * q.c).natAbs < 2 ^ 70:=mul_abs (a:=35) (b:=35) (by omega) (by omega)
 have m2:((q.o - q.t) * p.c).natAbs < 2 ^ 70:=mul_abs (a:=35) (b:=35) (by omega) (by omega)
 have m3:(p.c * q.c).natAbs < 2 ^ 70:=mul_abs (a:=35) (b:=35) (by omega) (by omega)
 have ld:(dif p q).natAbs < 2 ^ 80:=by unfold dif; omega
 have ft:∀ d:Int,d.natAbs < 2 ^ 80->(frTop d (p.c * q.c)).natAbs < 2 ^ 200:=fun d hd=>by have:=frTop_le (t:=d) (b:=p.c * q.c); omega
 have fb:∀ d:Int,(frBot d (p.c * q.c)).natAbs < 2 ^ 200:=fun d=>by have:=frBot_le (t:=d) (b:=p.c * q.c); omega
 unfold trOf
 dsimp only
 split
 ·exact ⟨okm,oky,ft _ ld,fb _⟩
 ·split
  ·exact ⟨oky,okm,ft _ (by omega),fb _⟩
  ·refine ⟨?_,?_,(show (0:Int).natAbs < 2 ^ 200 by decide),(show (1:Int).natAbs < 2 ^ 200 by decide)⟩
   ·show okN (if ltStr y m=true then y else m)
    split
    ·exact oky
    ·exact okm
   ·show okN (if ltStr y m=true then m else y)
    split
    ·exact okm
    ·exact oky
def Far (H:Hp) (d:PyData) (v:V):Prop:=∃ k0:Nat,∀ k:Nat,k0<=k->Tells H k d v
def FarL (H:Hp) (ds:List PyData) (vs:List V):Prop:=∃ k0:Nat,∀ k:Nat,k0<=k->TellsAll H k ds vs
theorem far_of {k0 a k:Nat}(h:Nat.add (Nat.add k0 a) 1<=k):k0<=k/\a≠k:=by
 have h:k0 + a + 1<=k:=h
 exact ⟨by omega,by omega⟩
theorem Far.one {H:Hp}{d:PyData}{v:V}(h:Far H d v):∃ k,Tells H k d v:=let ⟨k,t⟩:=h; ⟨k,t k (Nat.le_refl k)⟩
theorem far_str {H:Hp}(x:Str):Far H (.str x) (.str x):=⟨0,fun _ _=>tells_str.mpr rfl⟩
theorem far_int {H:Hp}(i:Int):Far H (.int i) (.int i):=⟨0,fun _ _=>tells_int.mpr rfl⟩
theorem farL_nil {H:Hp}:FarL H [] []:=⟨0,fun _ _=>tellsAll_nil.mpr rfl⟩
theorem farL_cons {H:Hp}{d:PyData}{v:V}{ds:List PyData}{vs:List V}(h:Far H d v) (t:FarL H ds vs):FarL H (d :: ds) (v :: vs):=by
 obtain ⟨k1,t1⟩:=h
 obtain ⟨k2,t2⟩:=t
 exact ⟨k1 + k2,fun k hk=>tellsAll_cons.mpr ⟨_,_,rfl,t1 k (by omega),t2 k (by omega)⟩⟩
theorem far_tup {H:Hp}{a:Addr}{ds:List PyData}{vs:List V}(h:H a=some (.tup vs)) (t:FarL H ds vs):Far H (.tuple ds) (.ref a):=by
 obtain ⟨k0,t⟩:=t
 exact ⟨Nat.add (Nat.add k0 a) 1,fun k hk=>tells_tuple.mpr ⟨a,vs,rfl,(far_of (k0:=k0) hk).2,h,t _ (far_of (k0:=k0) (a:=a) hk).1⟩⟩
theorem far_lst {H:Hp}{a:Addr}{ds:List PyData}{vs:List V}(h:H a=some (.lst vs)) (t:FarL H ds vs):Far H (.list ds) (.ref a):=by
 obtain ⟨k0,t⟩:=t
 exact ⟨Nat.add (Nat.add k0 a) 1,fun k hk=>tells_list.mpr ⟨a,vs,rfl,(far_of (k0:=k0) hk).2,h,t _ (far_of (k0:=k0) (a:=a) hk).1⟩⟩
theorem farL_pair {α:Type}{H:Hp}{R:V->α->Prop}{f:α->PyData}(g:∀ v x,R v x->Far H (f x) v):∀ {ws:List V}{L:List α},Paired R ws L->FarL H (L.map f) ws
 | _,_,.nil=>farL_nil
 | _,_,.cons h t=>farL_cons (g _ _ h) (farL_pair g t)
theorem farL_names {H:Hp}(ns:List Str):FarL H (namesD ns) (ns.map V.str):=⟨0,fun _ _=>tells_names ns⟩
def pwD (x:Nat × Pce):PyData:=.tuple [.int x.1,pcD x.2]
def r3D (r:Row3):PyData:=.tuple [.int r.1,.int r.2.1,trD r.2.2]
theorem far_pc {H:Hp}{r:Addr}{p:Pce}(h:PcAt H r p):Far H (pcD p) (.ref r):=by
 obtain ⟨a,b,h1,h2,h3⟩:=h
 exact far_tup h1 (farL_cons (far_tup h2 (farL_names _)) (farL_cons (far_tup h3 (farL_names _)) (farL_cons (far_int _) (farL_cons (far_int _) (farL_cons (far_int _) farL_nil)))))
theorem far_pw {H:Hp}(v:V) (x:Nat × Pce) (h:RwAt H v x):Far H (pwD x) v:=by
 obtain ⟨u,r,rfl,h1,h2⟩:=h
 exact far_tup h1 (farL_cons (far_int _) (farL_cons (far_pc h2) farL_nil))
theorem far_r3 {H:Hp}(v:V) (x:Row3) (h:Rw3At H v x):Far H (r3D x) v:=by
 obtain ⟨a,q,rfl,h1,l,h2,h3⟩:=h
 exact far_tup h1 (farL_cons (far_int _) (farL_cons (far_int _) (farL_cons (far_tup h2 (farL_cons (far_str _) (farL_cons (far_str _) (farL_cons (far_tup h3 (farL_cons (far_int _) (farL_cons (far_int _) farL_nil))) farL_nil)))) farL_nil)))
theorem eqv_map {α:Type} [DecidableEq α] {f:α->PyData}(h:∀ a b,PyData.eqv (f a) (f b)=decide (a=b)):∀ a b:List α,PyData.eqvAll (a.map f) (b.map f)=decide (a=b)
 | [],[]=>by simp [PyData.eqvAll]
 | [],_ :: _=>by simp [PyData.eqvAll]
 | _ :: _,[]=>by simp [PyData.eqvAll]
 | x :: a,y :: b=>by
  rw [List.map_cons,List.map_cons,PyData.eqvAll,eqv_map h a b,h]
  by_cases e:x=y
  ·subst e; simp
  ·simp [e]
theorem eqv_mapL {α:Type} [DecidableEq α] {f:α->PyData}(h:∀ a b,PyData.eqv (f a) (f b)=decide (a=b)) (a b:List α):PyData.eqv (.list (a.map f)) (.list (b.map f))=decide (a=b):=by rw [<- eqv_map h]; rw [PyData.eqv]
instance:DecidableEq Pce:=fun p q=>decidable_of_iff (p.a=q.a/\p.b=q.b/\p.t=q.t/\p.o=q.o/\p.c=q.c) (by cases p; cases q; simp)
theorem eqv_pc (p q:Pce):PyData.eqv (pcD p) (pcD q)=decide (p=q):=by
 obtain ⟨a1,a2,a3,a4,a5⟩:=p
 obtain ⟨b1,b2,b3,b4,b5⟩:=q
 unfold pcD
 have h1:=eqv_names a1 b1
 have h2:=eqv_names a2 b2
 by_cases e1:a1=b1 <;> by_cases e2:a2=b2 <;> by_cases e3:a3=b3 <;> by_cases e4:a4=b4 <;> by_cases e5:a5=b5 <;> simp [PyData.eqv,PyData.eqvAll,h1,h2,e1,e2,e3,e4,e5] <;> simp_all [PyData.eqv]
theorem eqv_pw (a b:Nat × Pce):PyData.eqv (pwD a) (pwD b)=decide (a=b):=by
 obtain ⟨a1,a2⟩:=a
 obtain ⟨b1,b2⟩:=b
 unfold pwD
 by_cases e1:a1=b1 <;> by_cases e2:a2=b2 <;> simp [PyData.eqv,PyData.eqvAll,eqv_pc,e1,e2,Int.natCast_inj]
theorem eqv_tr (a b:Tr4):PyData.eqv (trD a) (trD b)=decide (a=b):=by
 obtain ⟨a1,a2,a3,a4⟩:=a
 obtain ⟨b1,b2,b3,b4⟩:=b
 unfold trD
 by_cases e1:a1=b1 <;> by_cases e2:a2=b2 <;> by_cases e3:a3=b3 <;> by_cases e4:a4=b4 <;> simp [PyData.eqv,PyData.eqvAll,e1,e2,e3,e4]
theorem eqv_r3 (a b:Row3):PyData.eqv (r3D a) (r3D b)=decide (a=b):=by
 obtain ⟨a1,a2,a3⟩:=a
 obtain ⟨b1,b2,b3⟩:=b
 unfold r3D
 by_cases e1:a1=b1 <;> by_cases e2:a2=b2 <;> by_cases e3:a3=b3 <;> simp [PyData.eqv,PyData.eqvAll,eqv_tr,e1,e2,e3,Int.natCast_inj]
def RwOk (r:Rwr):Prop:=okN r.1/\okN r.2.1/\r.2.2.natAbs < 2 ^ 200
structure CsOk (S:Cs):Prop where
 crew:∀ r∈S.crew,RwOk r
 rows:∀ x∈S.rows,PcOk x.2/\Crews x.2
 num:∀ x∈S.rows,x.1<=100000
 lc:S.crew.length<=8
 lr:S.rows.length<=40
theorem bd_pw {x:Nat × Pce}(h:PcOk x.2) (hn:x.1<=100000):Bd 2001 16 (pwD x):=by
 refine (Bd.tuple (n:=1000) (p:=15) (m:=2) (ds:=[.int x.1,pcD x.2]) (fun y hy=>?_) (Nat.le_refl 2)).mono (by decide) (by decide)
 simp only [List.mem_cons,List.not_mem_nil,or_false] at hy
 rcases hy with rfl | rfl
 ·exact (bd_int (by omega)).mono (by decide) (by decide)
 ·exact bd_pc h
theorem bd_rows {l:Rows}(h:∀ x∈l,PcOk x.2/\Crews x.2) (hn:∀ x∈l,x.1<=100000) (hl:l.length<=100):Bd 200101 17 (.list (l.map pwD)):=by
 refine (Bd.list (n:=2001) (p:=16) (m:=100) (fun x hx=>?_) (by rw [List.length_map]; exact hl)).mono (by decide) (by decide)
 obtain ⟨r,hr,rfl⟩:=List.mem_map.mp hx
 exact bd_pw (h r hr).1 (hn r hr)
theorem row1_mem {i j:Nat}{o:Option Tr4}{r:Row3}(h:r∈row1 i j o):∃ t,o=some t/\r=(i,j,t):=by
 cases o with
 | none=>cases h
 | some t=>exact ⟨t,rfl,by simpa [row1] using h⟩
theorem toldF_ok {p q:Pce}(o1:PcOk p) (o2:PcOk q) {t:Tr4}(h:toldF p q=some t):TrOk t:=by
 unfold toldF at h
 split at h
 ·rename_i x
  cases h
  exact tr_ok o1 o2 x.choose_spec.choose_spec
 ·cases h
theorem rwG_ok {x:Nat × Pce}(hx:PcOk x.2) (nx:x.1<=100000) {r:Row3}:∀ {l:Rows},(∀ y∈l,PcOk y.2)->(∀ y∈l,y.1<=100000)->r∈rwG x l->r.1<=100000/\r.2.1<=100000/\TrOk r.2.2
 | [],_,_,h=>by cases h
 | y :: l,ho,hn,h=>by
  rcases List.mem_append.mp h with h | h
  ·obtain ⟨t,e,rfl⟩:=row1_mem h
   exact ⟨nx,hn y (.head _),toldF_ok hx (ho y (.head _)) e⟩
  ·exact rwG_ok hx nx (fun z hz=>ho z (.tail _ hz)) (fun z hz=>hn z (.tail _ hz)) h
theorem alG_ok {r:Row3}:∀ {l:Rows},(∀ y∈l,PcOk y.2)->(∀ y∈l,y.1<=100000)->r∈alG l->r.1<=100000/\r.2.1<=100000/\TrOk r.2.2
 | [],_,_,h=>by cases h
 | y :: l,ho,hn,h=>by
  rcases List.mem_append.mp h with h | h
  ·exact rwG_ok (ho y (.head _)) (hn y (.head _)) (fun z hz=>ho z (.tail _ hz)) (fun z hz=>hn z (.tail _ hz)) h
  ·exact alG_ok (fun z hz=>ho z (.tail _ hz)) (fun z hz=>hn z (.tail _ hz)) h
theorem lay_al {l:Rows}(ho:∀ x∈l,PcOk x.2/\Crews x.2) (hn:∀ x∈l,x.1<=100000):Lay (.list ((alG l).map r3D)):=by
 refine (Bd.list (n:=31) (p:=3) (m:=(alG l).length) (fun x hx=>?_) (by rw [List.length_map]; exact Nat.le_refl _)).lay (by decide)
 obtain ⟨r,hr,rfl⟩:=List.mem_map.mp hx
 obtain ⟨h1,h2,h3⟩:=alG_ok (fun y hy=>(ho y hy).1) hn hr
 refine (Bd.tuple (n:=10) (p:=2) (m:=3) (ds:=[.int r.1,.int r.2.1,trD r.2.2]) (fun x hx=>?_) (Nat.le_refl 3)).mono (by decide) (by decide)
 simp only [List.mem_cons,List.not_mem_nil,or_false] at hx
 rcases hx with rfl | rfl | rfl
 ·exact (bd_int (by omega)).mono (by decide) (by decide)
 ·exact (bd_int (by omega)).mono (by decide) (by decide)
 ·exact bd_tr h3
theorem CsOk.layR {S:Cs}(h:CsOk S):Lay (.list (S.rows.map pwD)):=(bd_rows h.rows h.num (Nat.le_trans h.lr (by decide))).lay (by decide)
theorem CsOk.layT {S:Cs}(h:CsOk S):Lay (.list ((alG S.rows).map r3D)):=lay_al h.rows h.num
section
variable {P:Program}{w:World}{K:PySem.W.Frag}{mg:Str->Option Value}{base:Heap}
end
end K39
namespace L2
open PySem PySem.Spec PyProof.Rows
inductive IsiI (H:Hp) (Q:VK):List V->Prop
 | mk {k:Addr} {v:V} {n:String} {d:PyData} (t:Tells H k d v) (h:n="int"\/n="bool"\/n="str"\/n="tuple"\/n="list") (q:Q (.bl (isT d n)) H):IsiI H Q [v,.ty n]
def rIsi:List V->Hp->VK->Prop:=fun vs H Q=>IsiI H Q vs
def kChI (tc:TE) (r':R2) (y:V) (σ:St) (Q:VK) (H:Hp):V->Prop
 | .bl true=>tc σ H fun z H4=>r' y z H4 Q
 | .bl false=>Q (.bl false) H
 | _=>False
def kChain (r r':R2) (ta tb tc:TE):TE:=fun σ H Q=>ta σ H fun x H1=>tb σ H1 fun y H2=>r x y H2 fun z H3=>kChI tc r' y σ Q H3 z
inductive BlsI (f:List Bool->Bool) (H:Hp) (Q:VK):List V->Prop
 | mk {p:Addr} {bs:List Bool} (h:H p=some (.lst (bs.map V.bl))) (q:Q (.bl (f bs)) H):BlsI f H Q [.ref p]
def rBls (f:List Bool->Bool):List V->Hp->VK->Prop:=fun vs H Q=>BlsI f H Q vs
inductive ZiK (K:PySem.W.Frag) (R:It->Hp->Prop) (H:Hp):List V->Prop
 | mk {a b:Addr} {xs ys:List V} (h1:H a=some (.tup xs)) (h2:H b=some (.tup ys)) (q:R (Itz K a b) H):ZiK K R H [.ref a,.ref b]
def iZ (K:PySem.W.Frag) (ta:TA):TI:=fun σ H R=>ta σ H fun vs H1=>ZiK K R H1 vs
def kLs (g:Str->Str->V) (Q:VK) (H:Hp):V->V->Prop
 | .str i,.str j=>Q (g i j) H
 | _,_=>False
def rLs (g:Str->Str->V):R2:=fun x y H Q=>kLs g Q H x y
theorem oLs {X:Cx}:OpR X (compareOp .Lt) (rLs fun i j=>.bl (decide (i.cps.toList < j.cps.toList))):=op_lt_str.wk fun x y H Q q=>by
 cases x <;> cases y <;> first | exact ⟨_,_,rfl,rfl,q⟩ | cases q
theorem bootAny:bootBuiltins "any"=some (.builtin "any"):=by decide +kernel
section
variable {X:Cx}{a b c:Expr}{ta tb tc:TE}{tv:TA}
theorem cIsi:CallR X (.builtin "isinstance") rIsi:=call_isin.wk fun x H Q q=>by
 cases q with
 | mk t h q=>exact ⟨_,_,_,_,rfl,t,h,q⟩
theorem cAll (hc:X.calm=true:=by rfl):CallR X (.builtin "all") (rBls fun bs=>bs.all id):=(call_all hc).wk fun x H Q q=>by
 cases q with
 | mk h q=>exact ⟨_,_,rfl,SqL.of h,q⟩
theorem cAny (hc:X.calm=true:=by rfl):CallR X (.builtin "any") (rBls fun bs=>bs.any id):=(call_any hc).wk fun x H Q q=>by
 cases q with
 | mk h q=>exact ⟨_,_,rfl,SqL.of h,q⟩
theorem piZ (K:PySem.W.Frag) {elts:List Expr}{kk:Nat}{tp:Pos}{e1 e2:Expr}{p pos:Pos}(hg:Gl X "zip") (hm:X.mg "zip"=none) (ha:PA X [e1,e2] tv) (hK:X.K=K:=by rfl) (hs:starEach [e1,e2] X.env=[(false,eval e1 X.env),(false,eval e2 X.env)]:=by rfl) (hs2:starEach [e2] X.env=[(false,eval e2 X.env)]:=by rfl) :
  PI X (.Tuple elts kk tp) (.Call (.Name "zip" p) [e1,e2] [] pos) (iZ K tv):=by
 subst hK
 intro pins s σ H R I q
 refine Call_ (ld_blt I hg hm boot_zipE (PyProof.Rows.callWith_type1 (thn (ha pos pins s σ H _ I q) fun us s1 ⟨vs,H1,I1,r1,q1⟩=>?_) (by rw [hs,hs2]) (by rw [hs2]; rfl)))
 cases q1 with
 | @mk a b xs ys hq1 hq2 q =>
  obtain ⟨u1,u2,rfl,ru1,ru2⟩:=vals2 r1
  cases (show u1=Value.ref a from ru1)
  cases (show u2=Value.ref b from ru2)
  obtain ⟨its1,rv1,p1,_⟩:=I1.tuple (SqT.of hq1)
  obtain ⟨its2,rv2,p2,_⟩:=I1.tuple (SqT.of hq2)
  have la:a < s1.heap.objs.size:=by obtain ⟨o,e,_⟩:=(show s1.heap.IsTuple a its1.toArray from p1); exact Heap.lt_size e
  have lb:b < s1.heap.objs.size:=by obtain ⟨o,e,_⟩:=(show s1.heap.IsTuple b its2.toArray from p2); exact Heap.lt_size e
  refine call_zipT (show s1.heap.IsTuple a its1.toArray from p1) (show s1.heap.IsTuple b its2.toArray from p2) fun h' a1 a2 a3 a4 a5 kp=>wpAny_pyIter_zip a1 ?_
  refine ⟨_,[s1.heap.objs.size + 4,s1.heap.objs.size + 2,s1.heap.objs.size + 3,s1.heap.objs.size,s1.heap.objs.size + 1],_,_,H1,rfl,I1.kept (t':=s1.toks) kp,turn_zipT _ _ _ _ _ a b (zipApart_new la lb),⟨a1,a2,⟨_,_,a3⟩,a4,a5⟩,fun c hc=>?_,q⟩
  have ge:s1.heap.objs.size<=c:=by
   simp only [List.mem_cons,List.not_mem_nil,or_false] at hc
   rcases hc with rfl | rfl | rfl | rfl | rfl
   ·exact Nat.le_add_right _ _
   ·exact Nat.le_add_right _ _
   ·exact Nat.le_add_right _ _
   ·exact Nat.le_refl _
   ·exact Nat.le_add_right _ _
  exact I1.fpOk ge (I1.hok.fresh ge)
theorem pt_Ch {op op':CmpOp}{r r':R2}{pos:Pos}(ho:OpR X (compareOp op) r) (ho':OpR X (compareOp op') r') (ha:PE X a ta) (hb:PE X b tb) (hc:PE X c tc)
  (hm:lastMarks [op,op'] [b,c]=false:=by with_unfolding_all rfl):PT X (.Compare a [op,op'] [b,c] pos) (kTest (kChain r r' ta tb tc)):=by
 intro pins s σ H Q I h
 refine isTrue_chain (thn (ha pins s σ H _ I h) fun v s1 ⟨x,H1,I1,r1,q1⟩=>test_link (thn (hb pins s1 σ H1 _ I1 q1) fun u s2 ⟨y,H2,I2,r2,q2⟩ =>
  thn (ho pins s2 σ H2 x y v u _ I2 r1 r2 q2) fun d s3 ⟨z,H3,I3,r3,q3⟩=>?_)) hm
 cases z with
 | bl k =>
  cases r3
  refine wpAny_truthy_bool ?_
  cases k with
  | false =>
   obtain ⟨_,e,q4⟩:=kB_is (show kB Q H3 (.bl false) from q3)
   cases e
   exact ite_ff ⟨H3,I3,q4⟩
  | true =>
   refine ite_tt (test_last (thn (hc pins s3 σ H3 _ I3 q3) fun w' s4 ⟨z',H4,I4,r4,q4⟩=>thn (ho' pins s4 σ H4 y z' u w' _ I4 r2 r4 q4) fun e s5 ⟨z5,H5,I5,r5,q5⟩=>?_))
   obtain ⟨k5,e5,q6⟩:=kB_is q5
   subst e5
   cases r5
   exact wpAny_truthy_bool ⟨H5,I5,q6⟩
 | _=>cases q3
theorem pe_Ch {op op':CmpOp}{r r':R2}{pos:Pos}(ho:OpR X (compareOp op) r) (ho':OpR X (compareOp op') r') (ha:PE X a ta) (hb:PE X b tb) (hc:PE X c tc)
  (hm:lastMarks [op,op'] [b,c]=false:=by with_unfolding_all rfl):PE X (.Compare a [op,op'] [b,c] pos) (kChain r r' ta tb tc):=by
 intro pins s σ H Q I h
 refine Compare_chain (thn (ha pins s σ H _ I h) fun v s1 ⟨x,H1,I1,r1,q1⟩=>chain_link (thn (hb pins s1 σ H1 _ I1 q1) fun u s2 ⟨y,H2,I2,r2,q2⟩ =>
  thn (ho pins s2 σ H2 x y v u _ I2 r1 r2 q2) fun d s3 ⟨z,H3,I3,r3,q3⟩=>?_)) hm
 cases z with
 | bl k =>
  cases r3
  refine wpAny_truthy_bool ?_
  cases k with
  | false=>exact ite_ff ⟨.bl false,H3,I3,rfl,q3⟩
  | true=>exact ite_tt (chain_last (thn (hc pins s3 σ H3 _ I3 q3) fun w' s4 ⟨z',H4,I4,r4,q4⟩=>ho' pins s4 σ H4 y z' u w' Q I4 r2 r4 q4))
 | _=>cases q3
end
theorem lcZ {K:PySem.W.Frag}{a b D:Addr}{g:TG}{te:TE}{σ0:St}{H1:Hp}{Q:VK}{xs ys:List V}{n:Nat}(P:Nat->V->Prop) (Fr:St->Prop) (hD:H1 D=none) (h1:H1 a=some (.tup xs)) (h2:H1 b=some (.tup ys)) (lx:n<=xs.length) (ly:n<=ys.length) (le:xs.length=n\/ys.length=n) (hn:n<=1000) (f0:Fr σ0)
  (st:∀ i σ M T x y (Y:V->St->Hp->Prop),Fr σ->xs[i]?=some x->ys[i]?=some y->M T=some (.tup [x,y])->(∀ z σ2 M2,Fr σ2->Same M M2->P i z->Y z σ2 M2)->g (.ref T) σ M fun σ2 H3=>te σ2 H3 fun y H5=>Y y σ2 H5)
  (q:∀ zs M,Same H1 M->M D=some (.lst zs)->zs.length=n->(∀ i z,zs[i]?=some z->P i z)->Q (.ref D) M):LCok (Itz K a b) g tYes te σ0 H1 Q D:=by
 refine lc_pairsM (n:=n) (u:=fun i=>xs.getD i .non) (v:=fun i=>ys.getD i .non) (fun i zs σ M=>Fr σ/\Same H1 M/\zs.length=i/\∀ j z,zs[j]?=some z->P j z) hD hn ⟨f0,same_new hD _,rfl,fun _ _ h=>nomatch h⟩ (fun i zs σ M hi hy ⟨_,s,_⟩=>⟨fun e=>⟨xs,ys,SqT.of (s _ _ h1),SqT.of (s _ _ h2),by omega⟩,fun l=>?_⟩) ?_ fun zs σ M hy ⟨_,s,l,p⟩=>q zs M s hy l p
 ·have ex:xs[i]?=some (xs.getD i .non):=by rw [List.getD_eq_getElem?_getD,List.getElem?_eq_getElem (by omega)]; rfl
  have ey:ys[i]?=some (ys.getD i .non):=by rw [List.getD_eq_getElem?_getD,List.getElem?_eq_getElem (by omega)]; rfl
  refine ⟨⟨xs,ys,_,_,SqT.of (s _ _ h1),SqT.of (s _ _ h2),ex,ey⟩,fun x H' ⟨T,x1,y1,e0,e1,e2,e3,e4⟩=>⟨T,e0,e1,?_⟩⟩
  have a1:=e3 _ (SqT.of (s _ _ h1))
  have a2:=e4 _ (SqT.of (s _ _ h2))
  rw [ex] at a1; rw [ey] at a2
  cases a1; cases a2
  exact e2
 ·rintro i zs σ M T hi hy ⟨fr,s,l,p⟩ hT
  have ex:xs[i]?=some (xs.getD i .non):=by rw [List.getD_eq_getElem?_getD,List.getElem?_eq_getElem (by omega)]; rfl
  have ey:ys[i]?=some (ys.getD i .non):=by rw [List.getD_eq_getElem?_getD,List.getElem?_eq_getElem (by omega)]; rfl
  have sT:=same_new hT (.tup [xs.getD i .non,ys.getD i .non])
  refine st i σ _ T _ _ (fun y σ2 H5=>_/\_) fr ex ey upd_same fun z σ2 M2 f2 s2 hz=>⟨s2 _ _ (sT _ _ hy),f2,fun b o e=>?_,by rw [List.length_append,List.length_singleton,l],fun j y hj=>?_⟩
  ·rw [upd_ne (fun z=>by rw [z,hD] at e; cases e)]
   exact s2 _ _ (sT _ _ (s _ _ e))
  ·rcases Nat.lt_or_ge j zs.length with lt | ge
   ·rw [List.getElem?_append_left lt] at hj
    exact p j y hj
   ·rw [List.getElem?_append_right ge] at hj
    have:j - zs.length=0:=by
     have:=(List.getElem?_eq_some_iff.mp hj).1
     simp only [List.length_singleton] at this
     omega
    rw [this] at hj
    rw [show j=i by omega]
    cases hj
    exact hz
end L2
namespace K39
open PySem L2 HT PySem.W
inductive CrwI (H:Hp) (Q:VK):List V->Prop
 | mk {a:Addr} {A:List Str} (h:H a=some (.tup (A.map V.str))) (o:CrOk A) (u:Up A) (q:∀ M,Same H M->Q (.bl true) M):CrwI H Q [.ref a]
def CrwC:Sp:=fun vs H Q _=>CrwI H Q vs
inductive MesI (H:Hp) (Q:VK):List V->Prop
 | mk {i:Int} (h1:1<=i) (h9:i<=1000000000) (q:∀ M,Same H M->Q (.bl true) M):MesI H Q [.int i]
def MesC:Sp:=fun vs H Q _=>MesI H Q vs
inductive PieI (H:Hp) (Q:VK):List V->Prop
 | mk {r:Addr} {p:Pce} (h:PcAt H r p) (o:PcOk p) (c:Crews p) (q:∀ M,Same H M->Q (.bl true) M):PieI H Q [.ref r]
def PieC:Sp:=fun vs H Q _=>PieI H Q vs
theorem cut_from1 {us:List V}(h:1<=us.length):cutV us (some 1) none=us.drop 1:=by
 unfold cutV
 rw [show ((1:Int))=((1:Nat):Int) by omega,HT.sIx_nat,HT.sIx_none,show min 1 us.length=1 by omega,List.take_of_length_le (by simp)]
theorem all_true {α:Type}(l:List α):(l.map fun _=>true).all id=true:=by
 rw [List.all_eq_true]
 intro b hb
 obtain ⟨_,_,rfl⟩:=List.mem_map.mp hb
 rfl
theorem cr_tells {H:Hp}{a:Addr}{A:List Str}(h:H a=some (.tup (A.map V.str))):Tells H (a + 1) (.tuple (namesD A)) (.ref a):=tells_tuple.mpr ⟨a,_,rfl,Nat.ne_of_lt (Nat.lt_succ_self a),h,tells_names A⟩
section
variable {P:Program}{w:World}{K:PySem.W.Frag}{mg:Str->Option Value}{base:Heap}
theorem ok_crewT {f:Addr}{fd:FuncData}(F:Fun K "is_crew" "is_crew" sCrew f fd) (T:Txt mg) (DN:Df P w K mg base 1 "is_name" ["thing"] (AskC pName)):FnOk P w K mg base CX0 2 f fd ["thing"] CrwC:=by
 refine F.ok scC (fun vs H Q E h=>by cases h; rfl) (fun cdv A outer s H vs Q E hr h=>?_)
 obtain ⟨tm,hMC⟩:=T.MC
 refine ⟨_,pss_cons (psIf (PW.pt (pwOr (pt_not (pt_V (pe_callB cIsi rfl T.isi PyProof.Rows.boot_isinstance (pa_cons (pC 0) (pa_cons (pe_bltn (v:=.ty "tuple") rfl T.tuple PyProof.Rows.boot_tuple rfl) pa_nil)))))
    (pw_or1 (pt_not (pt_Ch (oK op_le) (oK op_le) pe_int (pe_callB cLen rfl T.len PySem.boot_len (pa_cons (pC 0) pa_nil)) (pe_glob (v:=.int 4) rfl hMC ⟨tm,rfl⟩)))))) pss_never pss_nil)
   (pss_cons (psIf (pt_not (pt_V (pe_callB cAll rfl T.all PyProof.Rows.boot_all (pa_cons (pe_lc (N:=["name"]) (g:=gName 0) (tc:=tYes) (te:=kCall (AskC pName) E0 (tCons (vC 0) tNil)) rfl (piT K (pC 0)) (BlkOk.closed rfl (by decide +kernel) (by decide +kernel) (by decide +kernel))
     (fun _ _ _=>pg_name (i:=0) (nd1 _) rfl (Or.inl rfl)) (fun _ _ _=>pts_nil) (fun _ _ _=>pD DN hr (pa_cons (pC 0) pa_nil))) pa_nil)))) pss_never pss_nil)
   (pss_one (ps_ret (pe_callB cAll rfl T.all PyProof.Rows.boot_all (pa_cons (pe_lc (N:=["name","behind"]) (g:=UnT 2 (gC (gName 0) (gC (gName 1) gN))) (tc:=tYes) (te:=tOp (rLs fun i j=>.bl (decide (i.cps.toList < j.cps.toList))) (vC 0) (vC 1)) rfl (piZ K rfl T.zip (pa_cons (pC 0) (pa_cons (pe_slice sl2 (pC 0) (po_C pe_int) po_none) pa_nil))) (BlkOk.closed rfl (by decide +kernel) (by decide +kernel) (by decide +kernel))
     (fun _ _ _=>pgT 2 (pgC (pg_name (i:=0) ndNB rfl (Or.inl rfl)) (pgC (pg_name (i:=1) ndNB rfl (Or.inl rfl)) pgN))) (fun _ _ _=>pts_nil) (fun _ _ _=>pe_cmpR oLs (pC 0) (pC 1) (nomark _))) pa_nil))))),?_⟩
 obtain @⟨a,A,h,o,u,q⟩:=h
 have l1:=o.l1; have l4:=o.l4
 have lA:(A.map V.str).length=A.length:=List.length_map _
 refine IsiI.mk (cr_tells h) (.inr (.inr (.inr (.inl rfl)))) (LenC.t h ?_)
 show kChI _ _ _ _ _ _ (.bl (decide ((1:Int)<=((A.map V.str).length:Int))))
 rw [decide_eq_true (by omega)]
 show kIf _ _ (!decide (((A.map V.str).length:Int)<=4))
 rw [decide_eq_true (by omega)]
 refine TiK.mk h fun D hD=>lcM (fun _ v b=>v=.bl b) (fun _:Str=>true) (fun σ=>∃ v,σ=[v]) hD (wkT h) pairI (by omega) ⟨_,rfl⟩ (fun _ _ _ _ _ e=>e) ?_ fun ys M s w pr=>?_
 ·rintro σ M x n Y ⟨v,rfl⟩ s rfl hn hy
  refine AskI.mk (k:=0) (tells_str.mpr rfl) ((bd_str (o.ok n hn).1 (o.ok n hn).2.1).mono (by decide) (by decide)) fun M2 s2=>hy _ _ _ ⟨_,rfl⟩ s2 ?_
  rw [(o.ok n hn).2.2]
 rw [pairE pr] at w
 refine BlsI.mk w ?_
 rw [all_true]
 refine SlI.t (s _ _ h) (fun z=>?_) fun p M2 s2 w2 n2=>?_
 ·have:=z.1
  rw [show (some (1:Int))=some ((1:Nat):Int) from rfl,HT.sIx_nat] at this
  omega
 rw [cut_from1 (by omega)] at w2
 have h2:=(s.trans s2) _ _ h
 refine ZiK.mk h2 w2 fun D2 hD2=>lcZ (n:=A.length - 1) (fun _ z=>z=.bl true) (fun σ=>∃ v w,σ=[v,w]) hD2 h2 w2 (by omega) (by rw [List.length_drop]; omega) (.inr (by rw [List.length_drop]; omega)) (by omega) ⟨_,_,rfl⟩ ?_ fun zs M3 s3 w3 lz hz=>?_
 ·rintro i σ M T x y Y ⟨v,w,rfl⟩ ex ey hT hy
  rw [List.getElem?_drop] at ey
  rw [List.getElem?_map] at ex ey
  obtain ⟨n,en,rfl⟩:=Option.map_eq_some_iff.mp ex
  obtain ⟨m,em,rfl⟩:=Option.map_eq_some_iff.mp ey
  refine UnT.mk hT rfl (hy _ _ _ ⟨_,_,rfl⟩ (Same.refl _) ?_)
  have hm:=(List.getElem?_eq_some_iff.mp em).1
  have:=(List.pairwise_iff_getElem.mp u) i (1 + i) (by omega) hm (by omega)
  rw [List.getElem?_eq_getElem hm] at em
  rw [List.getElem?_eq_getElem (by omega)] at en
  cases en; cases em
  exact congrArg V.bl this
 ·have e:zs=(List.range zs.length).map fun _=>V.bl true:=List.ext_getElem (by simp) fun i h1 h2=>by rw [hz i _ (List.getElem?_eq_getElem h1)]; simp
  rw [show ((List.range zs.length).map fun _=>V.bl true)=((List.range zs.length).map fun _=>true).map V.bl by rw [List.map_map]; rfl] at e
  rw [e] at w3
  refine BlsI.mk w3 ?_
  rw [all_true]
  exact q M3 ((s.trans s2).trans s3)
theorem ok_mesT {f:Addr}{fd:FuncData}(F:Fun K "is_measure" "is_measure" sMeas f fd) (T:Txt mg) (DW:Df P w K mg base 1 "is_whole" ["thing"] (AskC pWhole)):FnOk P w K mg base CX0 2 f fd ["thing"] MesC:=by
 refine F.ok scMs (fun vs H Q E h=>by cases h; rfl) (fun cdv A outer s H vs Q E hr h=>?_)
 obtain ⟨th,hHV⟩:=T.LG
 refine ⟨_,pss_one (ps_ret (peAnd (pD DW hr (pa_cons (pC 0) pa_nil)) (pe_one (pe_Ch (oK op_le) (oK op_le) pe_int (pC 0) (pe_glob (v:=.int 1000000000) rfl hHV ⟨th,rfl⟩))))),?_⟩
 obtain @⟨i,h1,h9,q⟩:=h
 refine AskI.mk (k:=0) (d:=.int i) (tells_int.mpr rfl) ((bd_int (Nat.lt_of_le_of_lt (show i.natAbs<=1000000000 by omega) (by decide))).mono (by decide) (by decide)) fun M s=>?_
 show kChI _ _ _ _ _ _ (.bl (decide (1<=i)))
 rw [decide_eq_true h1]
 have:=q M s
 rw [<- decide_eq_true h9] at this
 exact this
theorem ok_pieT {f:Addr}{fd:FuncData}(F:Fun K "is_piece" "is_piece" sPiece f fd) (T:Txt mg) (DC:Df P w K mg base 2 "is_crew" ["thing"] CrwC) (DM:Df P w K mg base 2 "is_measure" ["thing"] MesC):FnOk P w K mg base CX0 3 f fd ["thing"] PieC:=by
 refine F.ok scPc (fun vs H Q E h=>by cases h; rfl) (fun cdv A outer s H vs Q E hr h=>?_)
 refine ⟨_,pss_cons (psIf (PW.pt (pwOr (pt_not (pt_V (pe_callB cIsi rfl T.isi PyProof.Rows.boot_isinstance (pa_cons (pC 0) (pa_cons (pe_bltn (v:=.ty "tuple") rfl T.tuple PyProof.Rows.boot_tuple rfl) pa_nil)))))
    (pw_or1 (pt_C oN (pe_callB cLen rfl T.len PySem.boot_len (pa_cons (pC 0) pa_nil)) pe_int (nomark _))))) pss_never pss_nil)
   (pss_cons (ps_asg (pC 0) (pgT 5 (pgC (pg_name (i:=1) scPc.nd rfl (Or.inl rfl)) (pgC (pg_name (i:=2) scPc.nd rfl (Or.inr rfl)) (pgC (pg_name (i:=3) scPc.nd rfl (Or.inl rfl)) (pgC (pg_name (i:=4) scPc.nd rfl (Or.inl rfl)) (pgC (pg_name (i:=5) scPc.nd rfl (Or.inl rfl)) pgN)))))))
   (pss_cons (psIf (PW.pt (pwOr (pt_not (pt_V (pD DC hr (pa_cons (pC 1) pa_nil)))) (pwOr (pt_not (pt_V (pD DC hr (pa_cons (pC 2) pa_nil))))
    (pw_or1 (pt_C oN (pe_callB cLen rfl T.len PySem.boot_len (pa_cons (pC 1) pa_nil)) (pe_callB cLen rfl T.len PySem.boot_len (pa_cons (pC 2) pa_nil)) (nomark _)))))) pss_never pss_nil)
   (pss_cons (psIf (pt_V (pe_callB cAny rfl T.any bootAny (pa_cons (pe_lc (N:=["name","second"]) (g:=gName 0) (tc:=tYes) (te:=tOp (rInC false) (vC 0) (vC 1)) rfl (piT K (pC 1)) (BlkOk.one (v:="name") (fr:="second") (j:=2) (nm:=nmPc) rfl rfl rfl rfl (by decide +kernel) (by decide +kernel) (by decide +kernel) (by decide +kernel) (by decide +kernel))
     (fun _ _ _=>pg_name (i:=0) ndNS rfl (Or.inl rfl)) (fun _ _ _=>pts_nil) (fun _ _ _=>pe_cmpR oIn (pC 0) (pC 1) (by with_unfolding_all rfl))) pa_nil))) pss_never pss_nil)
   (pss_one (ps_ret (peAnd (pD DM hr (pa_cons (pC 3) pa_nil)) (peAnd (pD DM hr (pa_cons (pC 4) pa_nil)) (pe_one (pD DM hr (pa_cons (pC 5) pa_nil))))))))))  ,?_⟩
 obtain @⟨r,p,h,o,c,q⟩:=h
 obtain ⟨kk,tl⟩:=pc_tells h
 obtain ⟨a,b,h1,h2,h3⟩:=h
 refine IsiI.mk tl (.inr (.inr (.inr (.inl rfl)))) (LenC.t h1 (UnT.mk h1 rfl (CrwI.mk h2 o.a c.a fun M1 s1=>CrwI.mk (s1 _ _ h3) o.b c.b fun M2 s2=>?_)))
 have s12:=s1.trans s2
 refine LenC.t (s12 _ _ h2) (LenC.t (s12 _ _ h3) ?_)
 show kIf _ _ (!decide (((p.a.map V.str).length:Int)=((p.b.map V.str).length:Int)))
 rw [decide_eq_true (by rw [List.length_map,List.length_map,c.le])]
 refine TiK.mk (s12 _ _ h2) fun D hD=>lcM (fun _ v b=>v=.bl b) (fun _:Str=>false) (fun σ=>∃ v,σ=[v,some (.ref b)]) hD (wkT (s12 _ _ h2)) pairI (by rw [List.length_map]; exact Nat.le_trans o.a.l4 (by decide)) ⟨_,rfl⟩ (fun _ _ _ _ _ e=>e) ?_ fun ys M s w pr=>?_
 ·rintro σ M x n Y ⟨v,rfl⟩ s rfl hn hy
  refine InI.t ((s12.trans s) _ _ h3) rfl (flat_strs _) (hy _ _ _ ⟨_,rfl⟩ (Same.refl _) ?_)
  rw [if_neg (by decide),in_strs,decide_eq_false (c.no n hn)]
 rw [pairE pr] at w
 refine BlsI.mk w ?_
 rw [show (p.a.map fun _=>false).any id=false by rw [List.any_map]; exact List.any_eq_false.mpr fun _ _ h=>nomatch h]
 exact MesI.mk o.t1 o.t9 fun M3 s3=>MesI.mk o.o1 o.o9 fun M4 s4=>MesI.mk o.c1 o.c9 fun M5 s5=>q M5 ((s12.trans s).trans (s3.trans (s4.trans s5)))
end
end K39
namespace K39
open PySem L2 HT PySem.W
section
variable {P:Program}{w:World}{K:PySem.W.Frag}{mg:Str->Option Value}{base:Heap}
variable {X:Cx}{k:Nat}{x m:Str}{C:Addr}{ps:List Str}{sp:Sp}{o e:Expr}{es:List Expr}{ta:TE}{t:TA}{p apos pos:Pos}{pl:Sem Bool}
theorem pM (D:DfM X.prog X.w X.K X.mg X.base k C m ps sp) (hr:Room k X.A) (he:PE X o ta) (ha:PA X (e :: es) t)
  (hst:starEach (e :: es) X.env=(false,eval e X.env) :: starEach es X.env:=by rfl) (hpl:(backTo pos (starEach es X.env)).any (·.1)=false:=by rfl)
  (ht:eval (.Call (.Attribute o m apos) (e :: es) [] pos) X.env=(do
   let ov <- eval o X.env
   standAt apos.atName
   let (f,first) <- holding [ov] (getMethod ov m pl)
   callWith pos f first (backTo pos (starEach (e :: es) X.env)) (backToKw pos (keywordEach [] X.env))):=by rfl) :
  PE X (.Call (.Attribute o m apos) (e :: es) [] pos) (kMeth C m sp E0 ta t):=by
 obtain ⟨c,f,fd,F,b,hm⟩:=D
 exact peMeth (pl:=pl) he c hm F hr b pass0 ha hst hpl ht
theorem pM0 (D:DfM X.prog X.w X.K X.mg X.base k C m ps sp) (hr:Room k X.A) (he:PE X o ta)
  (ht:eval (.Call (.Attribute o m apos) [] [] pos) X.env=(do
   let ov <- eval o X.env
   standAt apos.atName
   let (f,first) <- holding [ov] (getMethod ov m pl)
   callWith pos f first (backTo pos (starEach [] X.env)) (backToKw pos (keywordEach [] X.env))):=by rfl) :
  PE X (.Call (.Attribute o m apos) [] [] pos) (kMeth C m sp E0 ta tNil):=by
 obtain ⟨c,f,fd,F,b,hm⟩:=D
 exact peMeth0 (pl:=pl) he c hm F hr b pass0 ht
inductive EnterI (C:Addr) (H:Hp) (Q:VK):List V->Prop
 | mk {cb sl ll cr sd:Addr} {ws us:List V} {n:Nat} {crew:List Rwr} {rows:Rows} {sts lfs:List Cs} (c:ClubG C H cb sl ll sts lfs) (l:sts.length<=900) (h1:H cr=some (.tup ws)\/H cr=some (.lst ws)) (p1:Paired (RwrAt H) ws crew) (h2:H sd=some (.tup us)\/H sd=some (.lst us)) (p2:Paired (RwAt H) us rows)
  (q:∀ ll' H',Kp3 cb sl ll H H'->H ll'=none->ClubG C H' cb sl ll' (sts ++ [⟨crew,rows,n⟩]) []->Q .non H'):EnterI C H Q [.ref cb,.ref cr,.ref sd,.int n]
def EnterC (C:Addr):Sp:=fun vs H Q _=>EnterI C H Q vs
abbrev Deed (C:Addr) (H:Hp) (cb sl ll:Addr) (sts:List Cs) (S:Cs) (Q:Hp->Prop):Prop:=∀ ll' H',Kp3 cb sl ll H H'->H ll'=none->ClubG C H' cb sl ll' (sts ++ [S]) []->Q H'
inductive TellI (C:Addr) (H:Hp) (Q:VK):List V->Prop
 | mk {cb sl ll r:Addr} {p:Pce} {S:Cs} {sts lfs:List Cs} (c:ClubG C H cb sl ll (sts ++ [S]) lfs) (l:sts.length<=890) (ls:S.rows.length<=39) (h:PcAt H r p) (o:PcOk p) (cr:Crews p)
  (q:Deed C H cb sl ll (sts ++ [S]) ⟨S.crew,S.rows ++ [(S.n,p)],S.n + 1⟩ (Q (.int S.n))):TellI C H Q [.ref cb,.ref r]
def TellC (C:Addr):Sp:=fun vs H Q _=>TellI C H Q vs
structure Lst (H:Hp) (C cb sl st cr sd dx:Addr) (fs:List (Str × V)) (vs ws us:List V) (S:Cs):Prop where
 i:H cb=some (.ins C dx fs)
 f:fs.lookup ("states":Str)=some (V.ref sl)
 l:H sl=some (.lst (vs ++ [.ref st]))
 t:H st=some (.tup [.ref cr,.ref sd,.int S.n])
 c:H cr=some (.tup ws)
 pc:Paired (RwrAt H) ws S.crew
 d:H sd=some (.tup us)
 pd:Paired (RwAt H) us S.rows
 m:∀ x:Str,x ≠ "states"->x ≠ "left"->fs.lookup x=none
theorem ClubG.lst {C:Addr}{H:Hp}{cb sl ll:Addr}{sts lfs:List Cs}{S:Cs}(h:ClubG C H cb sl ll (sts ++ [S]) lfs):∃ st cr sd dx fs vs ws us,Lst H C cb sl st cr sd dx fs vs ws us S:=by
 obtain ⟨dx,vs,ws,c1,c2,c3,c4,c5,c6,c7,c8⟩:=h
 obtain ⟨vs',_,rfl,c7',st,cr,sd,ws0,us,rfl,e1,e2,e2',e3,e4⟩:=paired_last c7
 refine ⟨st,cr,sd,dx,_,vs',ws0,us,c1,rfl,c5,e1,e2,e2',e3,e4,fun x h1 h2=>?_⟩
 have a1:(x == Str.ofString "states")=false:=by rw [beq_eq_false_iff_ne]; exact h1
 have a2:(x == Str.ofString "left")=false:=by rw [beq_eq_false_iff_ne]; exact h2
 simp only [List.lookup,a1,a2]
theorem Lst.same {H H':Hp}{C cb sl st cr sd dx:Addr}{fs:List (Str × V)}{vs ws us:List V}{S:Cs}(h:Lst H C cb sl st cr sd dx fs vs ws us S) (s:Same H H'):Lst H' C cb sl st cr sd dx fs vs ws us S :=
 ⟨s _ _ h.i,h.f,s _ _ h.l,s _ _ h.t,s _ _ h.c,Paired.mono h.pc fun _ _ z=>z.up fun _ _ e=>s _ _ e,s _ _ h.d,Paired.mono h.pd fun _ _ z=>z.up fun _ _ e=>s _ _ e,h.m⟩
theorem Deed.same {C:Addr}{H H1:Hp}{cb sl ll:Addr}{sts:List Cs}{S:Cs}{Q:Hp->Prop}(s:Same H H1) (q:Deed C H cb sl ll sts S Q):Deed C H1 cb sl ll sts S Q:=fun ll' H' k' f' C'=>q ll' H' (fun b o n1 n2 n3 e=>k' _ _ n1 n2 n3 (s _ _ e)) (none_of_same s f') C'
theorem len1 {α:Type}{l:List α}{a:α}{n:Nat}(h:l.length<=n):(l ++ [a]).length<=n + 1:=by rw [List.length_append,List.length_singleton]; omega
theorem ok_tellC {f:Addr}{fd:FuncData}{C:Addr}(F:Fun K "tell" "Club.tell" sTell f fd) (T:Txt mg) (hM:∃ t,mg "MOST_PIECES"=some (.int 40 t)) (CC:Clb K C) (DI:Df P w K mg base 3 "is_piece" ["thing"] PieC) (DE:DfM P w K mg base 1 C "enter" ["self","crew","standing","following"] (EnterC C)):FnOk P w K mg base CX0 4 f fd ["self","piece"] (TellC C):=by
 refine F.ok scTell (fun vs H Q E h=>by cases h; rfl) (fun cdv A outer s H vs Q E hr h=>?_)
 obtain ⟨tk,hM⟩:=hM
 refine ⟨_,pss_cons (ps_asg (pe_ix ixL2 (peF K (pC 0)) (pe_un uNeg pe_int) (fun _ _=>rfl)) (pgT 3 (pgC (pg_name (i:=2) scTell.nd rfl (Or.inl rfl)) (pgC (pg_name (i:=3) scTell.nd rfl (Or.inl rfl)) (pgC (pg_name (i:=4) scTell.nd rfl (Or.inl rfl)) pgN)))))
   (pss_cons (psIf (pt_not (pt_V (pD DI hr (pa_cons (pC 1) pa_nil)))) pss_never pss_nil)
   (pss_cons (psIf (pt_C (oK op_ge) (pe_callB cLen rfl T.len PySem.boot_len (pa_cons (pC 3) pa_nil)) (pe_glob (v:=.int 40) rfl hM ⟨_,rfl⟩) (nomark _)) pss_never pss_nil)
   (pss_cons (ps_expr (pM DE (hr.mono (by decide)) (pC 0) (pa_cons (pC 2) (pa_cons (pe_op oCt (pC 3) (peT (pa_cons (peT (pa_cons (pC 4) (pa_cons (pC 1) pa_nil))) pa_nil))) (pa_cons (pe_op (oK op_add) (pC 4) pe_int) pa_nil)))))
   (pss_one (ps_ret (pC 4)))))),?_⟩
 cases h with
 | @mk cb sl ll r p S sts lfs c l ls h o cp q =>
  obtain ⟨st,cr,sd,dx,fs,vs,ws,us,L⟩:=c.lst
  refine FldC.mk L.i CC.c CC.ns L.f (IxL.mk L.l (atI_last _ _) (UnT.mk L.t rfl (PieI.mk h o cp fun H1 s1=>?_)))
  have lus:=paired_len L.pd
  refine LenC.t (s1 _ _ L.d) (ifN (fun z=>absurd z (by omega)) (InsC.mk (s1 _ _ L.i) (L.m _ (by decide) (by decide)) (NewO.mk rfl fun p1 M1 z1 w1 _=>NewO.mk rfl fun p2 M2 z2 w2 _=>?_)))
  have s2:=s1.trans (z1.trans z2)
  refine CatI.any (s2 _ _ L.d) w2 (by simp) (by rw [List.length_singleton]; omega) fun x M3 z3 w3=>?_
  have s3:=s2.trans z3
  have L3:=L.same s3
  refine EnterI.mk (n:=S.n + 1) (rows:=S.rows ++ [(S.n,p)]) (c.same s3) (Nat.le_trans (len1 l) (by decide)) (.inl L3.c) L3.pc (.inl w3) (Paired.snoc L3.pd ⟨p1,r,rfl,(z2.trans z3) _ _ w1,h.up (H':=M3) fun b xs e=>s3 _ _ e⟩) ?_
  exact q.same s3
end
end K39
namespace K39
open PySem L2 HT PySem.W
section
variable {P:Program}{w:World}{K:PySem.W.Frag}{mg:Str->Option Value}{base:Heap}
theorem ok_enterC {f:Addr}{fd:FuncData}{C:Addr}(F:Fun K "enter" "Club.enter" sEnter f fd) (T:Txt mg) (CC:Clb K C):FnOk P w K mg base CX0 1 f fd ["self","crew","standing","following"] (EnterC C):=by
 refine F.ok scEnter (fun vs H Q E h=>by cases h; rfl) (fun cdv A outer s H vs Q E hr h=>?_)
 refine ⟨_,pss_cons (ps_expr (peBM PySem.F.slot_list_append PySem.F.type_list_append mtApp (peF K (pC 0)) (pa_cons (peT (pa_cons (pe_callTy cTup rfl T.tuple PyProof.Rows.boot_tuple (pa_cons (pC 1) pa_nil)) (pa_cons (pe_callTy cTup rfl T.tuple PyProof.Rows.boot_tuple (pa_cons (pC 2) pa_nil)) (pa_cons (pC 3) pa_nil)))) pa_nil))) (pss_one (ps_fld (pC 0) (peL pa_nil) rfl)),?_⟩
 cases h with
 | @mk cb sl ll cr sd ws us n crew rows sts lfs c l h1 p1 h2 p2 q =>
  obtain ⟨dx,vs,xs,c1,c2,c3,c4,c5,c6,c7,c8⟩:=c
  have lv:=paired_len c7
  refine FldC.mk c1 CC.c CC.ns rfl ⟨IsL.mk c5,TupI.s h1 fun cr' M0 s0 w0=>TupI.s (h2.imp (s0 _ _) (s0 _ _)) fun sd' M1 s1 w1=>NewO.mk rfl fun t M2 s2 w2 _=>?_⟩
  have s02:=(s0.trans s1).trans s2
  refine AppC.mk (s02 _ _ c5) (by omega) fun M3 k3 w3=>NewO.mk rfl fun l2 M4 s4 w4 n4=>⟨cb,C,dx,_,rfl,s4 _ _ (k3 _ _ c2.symm (s02 _ _ c1)),CC.c,CC.nl,(show 2 < 1000 by decide),?_⟩
  have kM:∀ b xs,M2 b=some (.tup xs)->upd M4 cb (.ins C dx [("states",.ref sl),("left",.ref l2)]) b=some (.tup xs):=fun b xs e=>by
   rw [upd_ne (fun z=>by rw [z,s02 _ _ c1] at e; cases e)]
   exact s4 _ _ (k3 _ _ (fun z=>by rw [z,s02 _ _ c5] at e; cases e) e)
  have n1:l2≠cb:=fun z=>by rw [z,k3 _ _ c2.symm (s02 _ _ c1)] at n4; cases n4
  have n2:l2≠sl:=fun z=>by rw [z,w3] at n4; cases n4
  refine q l2 _ (fun b o n1 n2 _ e=>by rw [upd_ne n1]; exact s4 _ _ (k3 _ _ n2 (s02 _ _ e))) ?_ ⟨dx,vs ++ [.ref t],[],upd_same,c2,n1,n2,by rw [upd_ne c2]; exact s4 _ _ w3,by rw [upd_ne n1]; exact w4,
   Paired.snoc (Paired.mono c7 fun _ _ z=>z.up fun b xs e=>kM _ _ (s02 _ _ e)) ⟨t,cr',sd',ws,us,rfl,kM _ _ w2,kM _ _ ((s1.trans s2) _ _ w0),Paired.mono p1 fun _ _ z=>z.up fun b xs e=>kM _ _ (s02 _ _ e),kM _ _ (s2 _ _ w1),Paired.mono p2 fun _ _ z=>z.up fun b xs e=>kM _ _ (s02 _ _ e)⟩,.nil⟩
  cases e:H l2 with
  | none=>rfl
  | some o=>rw [k3 _ _ n2 (s02 _ _ e)] at n4; cases n4
inductive StrI (C:Addr) (H:Hp) (Q:VK):List V->Prop
 | mk {cb sl ll:Addr} {k:Int} {S:Cs} {sts lfs:List Cs} (c:ClubG C H cb sl ll (sts ++ [S]) lfs) (l:sts.length<=890) (ls:S.rows.length<=90) (y:hasR S.rows k=true) (q:Deed C H cb sl ll (sts ++ [S]) ⟨S.crew,cutR S.rows k,S.n⟩ (Q .non)):StrI C H Q [.ref cb,.int k]
def StrC (C:Addr):Sp:=fun vs H Q _=>StrI C H Q vs
theorem ok_strC {f:Addr}{fd:FuncData}{C:Addr}(F:Fun K "strike" "Club.strike" sStr f fd) (CC:Clb K C) (DE:DfM P w K mg base 1 C "enter" ["self","crew","standing","following"] (EnterC C)):FnOk P w K mg base CX0 2 f fd ["self","number"] (StrC C):=by
 refine F.ok scStr (fun vs H Q E h=>by cases h; rfl) (fun cdv A outer s H vs Q E hr h=>?_)
 refine ⟨_,pss_cons (ps_asg (pe_ix ixL2 (peF K (pC 0)) (pe_un uNeg pe_int) (fun _ _=>rfl)) (pgT 3 (pgC (pg_name (i:=2) scStr.nd rfl (Or.inl rfl)) (pgC (pg_name (i:=3) scStr.nd rfl (Or.inl rfl)) (pgC (pg_name (i:=4) scStr.nd rfl (Or.inl rfl)) pgN)))))
   (pss_cons (psIf (pt_C oNin (pC 1) (pe_lc (N:=["other","piece"]) (g:=UnT 2 (gC (gName 0) (gC (gName 1) gN))) (tc:=tYes) (te:=vC 0) rfl (piT K (pC 3)) (BlkOk.closed rfl (by decide +kernel) (by decide +kernel) (by decide +kernel))
    (fun _ _ _=>pgT 2 (pgC (pg_name (i:=0) ndOp rfl (Or.inl rfl)) (pgC (pg_name (i:=1) ndOp rfl (Or.inl rfl)) pgN))) (fun _ _ _=>pts_nil) (fun _ _ _=>pC 0)) rfl) pss_never pss_nil)
   (pss_one (ps_expr (pM DE hr (pC 0) (pa_cons (pC 2) (pa_cons (pe_lc (N:=["told","number"]) (g:=gName 0) (tc:=kTest (tOp (rKq not) (tOp IxT (vC 0) (tC (.int 0))) (vC 1))) (te:=vC 0) rfl (piT K (pC 3))
    (BlkOk.one (v:="told") (fr:="number") (j:=1) (nm:=nmSt) rfl rfl rfl rfl (by decide +kernel) (by decide +kernel) (by decide +kernel) (by decide +kernel) (by decide +kernel))
    (fun _ _ _=>pg_name (i:=0) ndSt rfl (Or.inl rfl)) (fun _ _ _=>pts_one (pt_C oN (pe_ix ixT2 (pC 0) pe_int (fun _ _=>rfl)) (pC 1) (nomark _))) (fun _ _ _=>pC 0)) (pa_cons (pC 4) pa_nil))))))),?_⟩
 cases h with
 | @mk cb sl ll k S sts lfs c l ls y q =>
  obtain ⟨st,cr,sd,dx,fs,vs,ws,us,L⟩:=c.lst
  have lus:=pairL L.pd
  refine FldC.mk L.i CC.c CC.ns L.f (IxL.mk L.l (atI_last _ _) (UnT.mk L.t rfl (TiK.mk L.d fun D hD=>lcM (fun _ v (b:Nat)=>v=.int b) (fun x:Nat × Pce=>x.1) (fun σ=>∃ v v',σ=[v,v']) hD (wkT L.d) L.pd (by omega) ⟨_,_,rfl⟩ (fun _ _ _ _ _ e=>e) ?_ ?_)))
  ·rintro σ M x a Y ⟨v,v',rfl⟩ s ⟨u,r,rfl,h1,h2⟩ _ hy
   exact UnT.mk (s _ _ h1) rfl (hy _ _ _ ⟨_,_,rfl⟩ (Same.refl _) rfl)
  intro ys M s1 hM pr
  have ey:=pairE pr
  rw [List.map_map] at ey
  rw [show ys=S.rows.map fun x=>V.int x.1 from ey] at hM
  refine InI.l hM rfl (flat_nats S.rows) ?_
  rw [if_pos rfl,in_nats,y]
  refine InsC.mk (s1 _ _ L.i) (L.m _ (by decide) (by decide)) (TiK.mk (s1 _ _ L.d) fun D2 hD2=>lcR RwAt (fun x:Nat × Pce=>if (fun x:Nat × Pce=>!decide ((x.1:Int)=k)) x=true then some x else none) (fun σ=>∃ v,σ=[v,some (.int k)]) hD2 (wkT (s1 _ _ L.d)) (L.same s1).pd (by omega) ⟨_,rfl⟩ (fun _ _ _ _ t h=>h.up t) ?_ ?_)
  ·rintro σ M' x a N Y ⟨v,rfl⟩ s ⟨u,r,rfl,h1,h2⟩ _ hn hy
   refine IxT.mk (s _ _ h1) (atI_nat (j:=0) rfl) ?_
   by_cases e:(a.1:Int)=k
   ·rw [if_neg (by simp [e])] at hn
    exact (ite_no (by simp [e]) (hn rfl _ _ ⟨_,rfl⟩ (Same.refl _)))
   ·rw [if_pos (by simp [e])] at hy
    exact (ite_yes (by simp [e]) (hy _ _ _ _ rfl ⟨_,rfl⟩ (Same.refl _) ⟨u,r,rfl,s _ _ h1,h2.up fun b xs e=>s _ _ e⟩))
  ·intro ys M2 s2 hM2 pys
   rw [fmF] at pys
   have s02:=s1.trans s2
   have L2:=L.same s02
   refine EnterI.mk (c.same s02) (Nat.le_trans (len1 l) (by decide)) (.inl L2.c) L2.pc (.inr hM2) pys ?_
   exact q.same s02
inductive LstsI (C:Addr) {α:Type} (R:Hp->V->α->Prop) (f:Cs->List α) (H:Hp) (Q:VK):List V->Prop
 | mk {cb sl ll:Addr} {S:Cs} {sts lfs:List Cs} (c:ClubG C H cb sl ll (sts ++ [S]) lfs) (q:∀ l us M,Same H M->M l=some (.lst us)->H l=none->Paired (R M) us (f S)->Q (.ref l) M):LstsI C R f H Q [.ref cb]
def PcsC (C:Addr):Sp:=fun vs H Q _=>LstsI C RwAt Cs.rows H Q vs
theorem ok_pcsC {f:Addr}{fd:FuncData}{C:Addr}(F:Fun K "pieces" "Club.pieces" sPcs f fd) (T:Txt mg) (CC:Clb K C):FnOk P w K mg base CX0 1 f fd ["self"] (PcsC C):=by
 refine F.ok scPcs (fun vs H Q E h=>by cases h; rfl) (fun cdv A outer s H vs Q E hr h=>?_)
 refine ⟨_,pss_one (ps_ret (pe_callTy cLst rfl T.list PyProof.Rows.boot_list (pa_cons (pe_ix ixT2 (pe_ix ixL2 (peF K (pC 0)) (pe_un uNeg pe_int) (fun _ _=>rfl)) pe_int (fun _ _=>rfl)) pa_nil))),?_⟩
 obtain ⟨c,q⟩:=h
 obtain ⟨st,cr,sd,dx,fs,vs,ws,us,L⟩:=c.lst
 exact FldC.mk L.i CC.c CC.ns L.f (IxL.mk L.l (atI_last _ _) (IxT.mk L.t (atI_nat (j:=1) rfl) (LstI.t L.d fun l M s hl n=>q l _ M s hl n (L.same s).pd)))
end
end K39
namespace K39
open PySem L2 HT PySem.W
section
variable {P:Program}{w:World}{K:PySem.W.Frag}{mg:Str->Option Value}{base:Heap}
inductive TnI (H:Hp) (Q:VK):List V->Prop
 | mk {r1 r2:Addr} {p q:Pce} (h1:PcAt H r1 p) (h2:PcAt H r2 q) (o1:PcOk p) (o2:PcOk q) (c:Crews p) (z:∀ v H',Same H H'->DueV H' v (toldF p q)->Q v H'):TnI H Q [.ref r1,.ref r2]
def TnC:Sp:=fun vs H Q _=>TnI H Q vs
theorem TnC.old (vs:List V) (H:Hp) (Q:VK) (E:XK) (h:TnC vs H Q E):TnP vs H Q E:=by
 obtain ⟨h1,h2,o1,o2,c,z⟩:=h
 exact TnT.mk ⟨h1,h2,o1,o2,c⟩ fun v r H' s t d=>z v H' s (by rw [<- toldF_is c t]; exact d)
inductive TrsI (C:Addr) (H:Hp) (Q:VK):List V->Prop
 | mk {cb sl ll:Addr} {S:Cs} {sts lfs:List Cs} (c:ClubG C H cb sl ll (sts ++ [S]) lfs) (ok:∀ x∈S.rows,PcOk x.2/\Crews x.2) (n:S.rows.length<=40) (q:∀ l ws M,Same H M->M l=some (.lst ws)->H l=none->Paired (Rw3At M) ws (alG S.rows)->Q (.ref l) M):TrsI C H Q [.ref cb]
def TrsC (C:Addr):Sp:=fun vs H Q _=>TrsI C H Q vs
theorem rw3_up {H H':Hp}{ws:List V}{L:List Row3}(t:Tk H H') (h:Paired (Rw3At H) ws L):Paired (Rw3At H') ws L:=Paired.mono h fun _ _ z=>z.up t
theorem keepT {l:Addr}{xs:List V}{H H':Hp}(h:H l=some (.lst xs)) (k:Keep l H H'):Tk H H':=fun b ys e=>k _ _ (fun z=>by rw [z,h] at e; cases e) e
theorem cut_from {us:List V}{i:Nat}(h:i < us.length):cutV us (some ((i:Int) + 1)) none=us.drop (i + 1):=by
 unfold cutV
 rw [show ((i:Int) + 1)=((i + 1:Nat):Int) by omega,HT.sIx_nat,HT.sIx_none,show min (i + 1) us.length=i + 1 by omega,List.take_of_length_le (by simp)]
theorem ok_trsC {f:Addr}{fd:FuncData}{C:Addr}(F:Fun K "trials" "Club.trials" sTrs f fd) (T:Txt mg) (DP:DfM P w K mg base 1 C "pieces" ["self"] (PcsC C)) (DT:Df P w K mg base 4 "trial_or_none" ["one","other"] TnC):FnOk P w K mg base CX0 5 f fd ["self"] (TrsC C):=by
 refine F.ok scTrs (fun vs H Q E h=>by cases h; rfl) (fun cdv A outer s H vs Q E hr h=>?_)
 refine ⟨_,pss_cons (ps_set (i:=1) scTrs.nd rfl (Or.inl rfl) (peL pa_nil))
   (pss_cons (ps_set (i:=2) scTrs.nd rfl (Or.inl rfl) (pM0 DP (hr.mono (by decide)) (pC 0)))
   (pss_cons (psFor PassesOwn.never rfl (piE K rfl T.enum (pa_cons (pC 2) pa_nil)) (pgT 2 (pgC (pg_name (i:=3) scTrs.nd rfl (Or.inl rfl)) (pgC (pgT 2 (pgC (pg_name (i:=4) scTrs.nd rfl (Or.inl rfl)) (pgC (pg_name (i:=5) scTrs.nd rfl (Or.inl rfl)) pgN))) pgN)))
    (pss_one (psFor PassesOwn.never rfl (piL K (pe_slice sl2 (pC 2) (po_C (pe_op (oK op_add) (pC 3) pe_int)) po_none)) (pgT 2 (pgC (pg_name (i:=6) scTrs.nd rfl (Or.inl rfl)) (pgC (pg_name (i:=7) scTrs.nd rfl (Or.inl rfl)) pgN)))
     (pss_cons (ps_set (i:=8) scTrs.nd rfl (Or.inl rfl) (pD DT hr (pa_cons (pC 5) (pa_cons (pC 7) pa_nil))))
     (pss_one (psIf (pt_C oNnot (pC 8) pe_non (nomark _)) (pss_one (ps_expr (peBM PySem.F.slot_list_append PySem.F.type_list_append mtApp (pC 1) (pa_cons (peT (pa_cons (pC 4) (pa_cons (pC 6) (pa_cons (pC 8) pa_nil)))) pa_nil)))) pss_nil))))))
   (pss_one (ps_ret (pC 1))))),?_⟩
 cases h with
 | @mk cb sl ll S sts lfs c ok n q =>
  obtain ⟨_,_,_,dx,fs,_,_,_,L⟩:=c.lst
  refine NewO.mk rfl fun l M1 s1 w1 n1=>InsC.mk (s1 _ _ L.i) (L.m _ (by decide) (by decide)) (LstsI.mk (c.same s1) fun l2 us M2 s2 w2 n2 pr=>EiK.mk w2 ?_)
  have w12:=s2 _ _ w1
  have n12:l2≠l:=fun z=>by rw [z,w1] at n2; cases n2
  have lus:=pairL pr
  clear c L
  have key:∀ {H:Hp},Keep l M2 H->H l2=some (.lst us):=fun k=>k _ _ n12 w2
  refine loopE (fun i σ M=>(∃ v3 v4 v5 v6 v7 v8,σ=[some (.ref cb),some (.ref l),some (.ref l2),v3,v4,v5,v6,v7,v8])/\Keep l M2 M/\∃ ws L,M l=some (.lst ws)/\Paired (Rw3At M) ws L/\L ++ alG (S.rows.drop i)=alG S.rows/\L.length<=40 * i) ⟨⟨_,_,_,_,_,_,rfl⟩,Keep.refl _ _,[],[],w12,.nil,rfl,Nat.zero_le _⟩ (fun i σ M h=>key h.2.1) ?_ ?_
  ·rintro i x σ M D T M3 hx ⟨⟨v3,v4,v5,v6,v7,v8,rfl⟩,kp,ws,L,hL,pw,eL,lL⟩ ⟨nx,_⟩ s3 hT _
   obtain ⟨a,ea,u,r,rfl,hu,hP⟩:=pairG pr i _ hx
   have hi:=(List.getElem?_eq_some_iff.mp ea).1
   obtain rfl:S.rows[i]=a:=Option.some.inj ((List.getElem?_eq_getElem hi).symm.trans ea)
   have tk:Tk M2 M3:=fun b xs e=>s3 _ _ (keepT w12 kp _ _ e)
   have k3:Keep l M2 M3:=kp.trans s3.keep
   have dp:S.rows.drop i=S.rows[i] :: S.rows.drop (i + 1):=List.drop_eq_getElem_cons hi
   rw [dp] at eL
   have okp:=ok _ (List.getElem_mem hi)
   refine UnT.mk hT rfl (UnT.mk (tk _ _ hu) rfl (SlI.l (key k3) fun p M4 s4 hp np=>LiK.mk hp ?_))
   rw [cut_from (by omega)] at hp
   have nq:p≠l:=fun z=>by rw [z,s3 _ _ hL] at np; cases np
   have tk4:Tk M2 M4:=fun b xs e=>s4 _ _ (tk _ _ e)
   have l4:=s4 _ _ (s3 _ _ hL)
   refine loopL (xs:=us.drop (i + 1)) (fun m σ M=>(∃ v6 v7 v8,σ=[some (.ref cb),some (.ref l),some (.ref l2),some (.int i),some (.int S.rows[i].1),some (.ref r),v6,v7,v8])/\Keep l M4 M/\∃ ws L,M l=some (.lst ws)/\Paired (Rw3At M) ws L/\(L ++ rwG S.rows[i] ((S.rows.drop (i + 1)).drop m)) ++ alG (S.rows.drop (i + 1))=alG S.rows/\L.length<=40 * i + m)
    ⟨⟨_,_,_,rfl⟩,Keep.refl _ _,ws,L,l4,rw3_up (fun b xs e=>s4 _ _ (s3 _ _ e)) pw,by rw [List.append_assoc]; exact eL,by omega⟩ (fun m σ M h=>h.2.1 _ _ nq hp) ?_ ?_
   ·rintro m x σ M5 D hx ⟨⟨v6,v7,v8,rfl⟩,k5,ws,L,hL,pw,eL,lL⟩ ⟨nx,_⟩
    rw [List.getElem?_drop] at hx
    obtain ⟨b,eb,u',r',rfl,hu',hP'⟩:=pairG pr _ _ hx
    have hj:=(List.getElem?_eq_some_iff.mp eb).1
    obtain rfl:S.rows[i + 1 + m]=b:=Option.some.inj ((List.getElem?_eq_getElem hj).symm.trans eb)
    have tk5:Tk M2 M5:=fun b xs e=>keepT l4 k5 _ _ (tk4 _ _ e)
    have okq:=ok _ (List.getElem_mem hj)
    refine UnT.mk (tk5 _ _ hu') rfl (TnI.mk (hP.up tk5) (hP'.up tk5) okp.1 okq.1 okp.2 fun v M6 s6 dv=>?_)
    have dd:(S.rows.drop (i + 1)).drop m=S.rows[i + 1 + m] :: (S.rows.drop (i + 1)).drop (m + 1):=by
     rw [List.drop_drop,List.drop_drop,show i + 1 + (m + 1)=(i + 1 + m) + 1 by omega]
     exact List.drop_eq_getElem_cons hj
    rw [dd] at eL
    have e2:((L ++ row1 S.rows[i].1 S.rows[i + 1 + m].1 (toldF S.rows[i].2 S.rows[i + 1 + m].2)) ++ rwG S.rows[i] ((S.rows.drop (i + 1)).drop (m + 1))) ++ alG (S.rows.drop (i + 1))=alG S.rows:=by
     rw [<- eL,List.append_assoc L]; rfl
    have k6:Keep l M4 M6:=k5.trans s6.keep
    cases et:toldF S.rows[i].2 S.rows[i + 1 + m].2 with
    | none =>
     rw [et] at dv e2
     cases dv
     rw [show row1 S.rows[i].1 S.rows[i + 1 + m].1 none=[] from rfl,List.append_nil] at e2
     exact nx _ _ ⟨⟨_,_,_,rfl⟩,k6,ws,L,s6 _ _ hL,rw3_up s6.tk' pw,e2,by omega⟩
    | some t =>
     rw [et] at dv e2
     obtain ⟨y,rfl,ty⟩:=dv
     refine ⟨IsL.mk (s6 _ _ hL),NewO.mk rfl fun z M7 s7 w7 _=>AppC.mk (s7 _ _ (s6 _ _ hL)) ?_ fun M8 k8 w8=>nx _ _ ⟨⟨_,_,_,rfl⟩,(k6.trans s7.keep).trans k8,_,L ++ [(S.rows[i].1,S.rows[i + 1 + m].1,t)],w8,?_,e2,?_⟩⟩
     ·have:=pairL pw
      omega
     ·have t8:=keepT (s7 _ _ (s6 _ _ hL)) k8
      exact pairS ⟨z,y,rfl,t8 _ _ w7,(ty.same s7).up t8⟩ (rw3_up (fun b xs e=>t8 _ _ (s7 _ _ (s6 _ _ e))) pw)
     ·rw [List.length_append,List.length_singleton]; omega
   ·rintro σ M5 ⟨⟨v6,v7,v8,rfl⟩,k5,ws,L,hL,pw,eL,lL⟩
    have ll:(us.drop (i + 1)).length=(S.rows.drop (i + 1)).length:=by rw [List.length_drop,List.length_drop,lus]
    rw [ll,List.drop_length,show rwG S.rows[i] []=[] from rfl,List.append_nil] at eL
    refine nx _ _ ⟨⟨_,_,_,_,_,_,rfl⟩,(k3.trans s4.keep).trans k5,ws,L,hL,pw,eL,?_⟩
    rw [ll,List.length_drop] at lL
    omega
  ·rintro σ M ⟨⟨v3,v4,v5,v6,v7,v8,rfl⟩,kp,ws,L,hL,pw,eL,_⟩
   rw [lus,List.drop_length,show alG []=[] from rfl,List.append_nil] at eL
   rw [eL] at pw
   refine q l ws M (fun b o e=>kp _ _ (fun z=>by rw [z,n1] at e; cases e) (s2 _ _ (s1 _ _ e))) hL n1 pw
end
end K39
namespace K39
open PySem L2
section
variable {P:Program}{w:World}{K:PySem.W.Frag}{mg:Str->Option Value}{base:Heap}
end
end K39
namespace K39
open PySem L2
section
variable {P:Program}{w:World}{K:PySem.W.Frag}{mg:Str->Option Value}{base:Heap}
end
end K39
namespace K39
open PySem L2
abbrev Td:=Str × Str × Int × Int
def TrT (H:Hp) (u:V) (t:Td):Prop:=∃ p q,u=.ref p/\H p=some (.tup [.str t.1,.str t.2.1,.ref q])/\H q=some (.tup [.int t.2.2.1,.int t.2.2.2])
def TK (H H':Hp):Prop:=∀ b xs,H b=some (.tup xs)->H' b=some (.tup xs)
theorem Same.tk {H H':Hp}(h:Same H H'):TK H H':=fun b xs e=>h b _ e
theorem TrT.mono {H H':Hp}{u:V}{t:Td}(h:TrT H u t) (k:TK H H'):TrT H' u t:=let ⟨p,q,e,h1,h2⟩:=h; ⟨p,q,e,k _ _ h1,k _ _ h2⟩
abbrev TrsT (H:Hp):List V->List Td->Prop:=Paired (TrT H)
theorem TrsT.mono {H H':Hp}{us:List V}{ts:List Td}(h:TrsT H us ts) (k:TK H H'):TrsT H' us ts:=Paired.mapP h fun _ _ z=>z.mono k
section
variable {κ:Type} [DecidableEq κ]
theorem nodup_le:∀ {ks us:List κ},ks.Nodup->(∀ k∈ks,k∈us)->ks.length<=us.length
 | [],_,_,_=>Nat.zero_le _
 | k :: ks,us,nd,sub=>by
  have hk:k∈us:=sub k List.mem_cons_self
  have nd':=List.nodup_cons.mp nd
  have ih:=nodup_le (ks:=ks) (us:=us.erase k) nd'.2 fun x hx=>(List.mem_erase_of_ne (fun z:x=k=>nd'.1 (z ▸ hx))).mpr (sub x (List.mem_cons_of_mem _ hx))
  rw [List.length_erase_of_mem hk] at ih
  have:0 < us.length:=List.length_pos_of_mem hk
  simp only [List.length_cons]
  omega
theorem nodup_snoc {ks:List κ}{k:κ}(nd:ks.Nodup) (h:¬ k∈ks):(ks ++ [k]).Nodup:=by
 rw [List.nodup_append]
 exact ⟨nd,by simp,fun a ha b hb z=>h (by rw [<- List.mem_singleton.mp hb,<- z]; exact ha)⟩
end
end K39
namespace L2
open PySem PySem.Spec PyProof.Rows
theorem keepT' {l:Addr}{xs:List V}{H H':Hp}(h:H l=some (.lst xs)) (k:Keep l H H'):Tk H H':=fun b ys e=>k _ _ (fun z=>by rw [z,h] at e; cases e) e
inductive HasI (f:Bool->Bool) (H:Hp) (Q:VK) (y:V):V->Prop
 | mk {a:Addr} {o:Option V} (g:DGet H a y o) (q:Q (.bl (f o.isSome)) H):HasI f H Q y (.ref a)
def rHas (f:Bool->Bool):R2:=fun y x H Q=>HasI f H Q y x
inductive PutI (v:V) (H:Hp) (Q:Hp->Prop):V->V->Prop
 | k {a:Addr} {kvs:List (Key × V)} {k:Key} (e:H a=some (.dK kvs)) (l:kvs.length<=10000) (q:∀ M,Keep a H M->M a=some (.dK (putK kvs k v))->Q M):PutI v H Q (.ref a) (kV k)
 | t {a b:Addr} {kvs:List (List Key × V)} {k:List Key} (e:H a=some (.dT kvs)) (eb:H b=some (.tup (k.map kV))) (l:kvs.length<=10000) (q:∀ M,Keep a H M->M a=some (.dT (putK kvs k v))->Q M):PutI v H Q (.ref a) (.ref b)
def kPut (td ty tv:TE):TS:=fun D σ H=>tv σ H fun v H1=>td σ H1 fun x H2=>ty σ H2 fun y H3=>PutI v H3 (fun M=>D.nx σ M) x y
theorem PutI.old {v x y:V}{H:Hp}{Q:Hp->Prop}(h:PutI v H Q x y):∃ a M,x=.ref a/\DPut H a y v M/\Q M:=by
 cases h with
 | k e l q=>exact ⟨_,_,rfl,DPut.k e (Nat.lt_of_le_of_lt l (by decide)),q _ (Keep.at _) upd_same⟩
 | t e eb l q=>exact ⟨_,_,rfl,DPut.t e eb (Nat.lt_of_le_of_lt l (by decide)),q _ (Keep.at _) upd_same⟩
inductive D1I (b:Bool) (H:Hp) (Q:VK):V->Prop
 | mk {z:Str} (q:∀ p M,Same H M->M p=some (.dT [([.inr z,.inl b],.bl true)])->H p=none->Q (.ref p) M):D1I b H Q (.str z)
def kD1 (i:Nat) (b:Bool):TE:=fun σ H Q=>vC i σ H fun x H1=>D1I b H1 Q x
inductive TruI (H:Hp) (Q:Bool->Hp->Prop):V->Prop
 | mk {a:Addr} {xs:List V} (h:H a=some (.lst xs)) (q:Q (!xs.isEmpty) H):TruI H Q (.ref a)
def kTru (i:Nat):TT:=fun σ H Q=>vC i σ H fun x H1=>TruI H1 Q x
inductive OrI (tb:TE) (σ:St) (H:Hp) (Q:VK):V->Prop
 | mk {c d:Bool} (h:∀ Q':VK,Q' (.bl d) H->tb σ H Q') (q:Q (.bl (c || d)) H):OrI tb σ H Q (.bl c)
def kOrD (ta tb:TE):TE:=fun σ H Q=>ta σ H fun x H1=>OrI tb σ H1 Q x
section
variable {X:Cx}{o i a b:Expr}{td ty tv ta tb:TE}{pos pos':Pos}{rest:List Expr}{value:Expr}
theorem oDin (hu:X.A.units + 1 < cLine):OpR X (compareOp .In) (rHas id):=fun pins s σ H x y v u Q I rx ry q=>by
 cases q with
 | @mk a o g q =>
  obtain rfl:u=Value.ref a:=ry
  exact d_in hu I g rx fun s3 I3=>⟨.bl o.isSome,H,I3,rfl,q⟩
theorem oDni (hu:X.A.units + 1 < cLine):OpR X (compareOp .NotIn) (rHas not):=fun pins s σ H x y v u Q I rx ry q=>by
 cases q with
 | @mk a o g q =>
  obtain rfl:u=Value.ref a:=ry
  exact d_notIn hu I g rx fun s3 I3=>⟨.bl (!o.isSome),H,I3,rfl,q⟩
theorem psPut (hu:X.A.units + 1 < cLine) (ho:PE X o td) (hi:PE X i ty) (hv:PE X value tv) (hs:swapsWith value (some (.Subscript o i pos')) pos.line X.env=pure false) :
  PS X (.Assign [.Subscript o i pos'] value pos) (kPut td ty tv):=by
 intro pins s σ H D I h
 refine wpAny_Assign_Subscript (thn (hv pins s σ H _ I h) fun r s1 ⟨v,H1,I1,rv,q1⟩=>thn (ho pins s1 σ H1 _ I1 q1) fun u s2 ⟨x,H2,I2,rx,q2⟩=>thn (hi pins s2 σ H2 _ I2 q2) fun iv s3 ⟨y,H3,I3,ry,q⟩=>?_) hs
 obtain ⟨a,H4,ex,g,q3⟩:=q.old
 subst ex
 obtain rfl:u=Value.ref a:=rx
 exact d_setItem hu I3 g ry rv fun s4 I4=>⟨σ,H4,I4,q3⟩
theorem peD1 {i:Nat}{bb:Bool}{k v:Expr}(hu:X.A.units + 1 < cLine) (hk:PE X k (kTup (tCons (vC i) (tCons (tC (.bl bb)) tNil)))) (hv:PE X v (tC (.bl true))):PE X (.Dict [some k] [v] pos) (kD1 i bb) :=
 (pe_disp1 hu hk hv (fun _ _ _ _ imp h=>imp _ _ h) (fun σ H Q Q' imp h=>vC.imp h fun x h=>by
  obtain ⟨l,q⟩:=h
  exact ⟨l,fun p M s e n=>imp _ _ (q p M s e n)⟩)).wk fun σ H Q h=>by
  intro p hp
  have h:vC i σ H (fun x H1=>D1I bb H1 Q x):=h
  show vC i σ (upd H p (.dT [])) _
  unfold vC at *
  cases e:gv σ i with
  | none=>rw [e] at h; cases h
  | some x =>
   rw [e] at h
   obtain @⟨z,q⟩:=h
   have s1:=same_new hp (.dT [])
   have w1:upd H p (.dT []) p=some (.dT []):=upd_same
   refine NewO.mk rfl fun b M s2 w2 n2=>⟨[.inr z,.inl bb],b,rfl,s2 _ _ w1,w2,?_⟩
   exact q p _ (fun y o e=>by rw [upd_ne (fun z=>by rw [z,hp] at e; cases e)]; exact s2 _ _ (s1 _ _ e)) upd_same hp
theorem ptTru {x:Str}{p:Pos}(i:Nat) (h:PE X (.Name x p) (vC i)):PT X (.Name x p) (kTru i):=(pt_truth h (fun _=>rfl)).wk fun σ H Q q=>vC.imp q fun x q=>by
 cases q with
 | mk h q=>exact ⟨_,.inl ⟨_,SqL.of h,rfl⟩,q⟩
theorem peOrD (ha:PE X a ta) (hb:PE X (.BoolOp .Or (b :: rest) pos) tb):PE X (.BoolOp .Or (a :: b :: rest) pos) (kOrD ta tb):=by
 intro pins s σ H Q I h
 refine BoolOp_or (thn (ha pins s σ H _ I h) fun v s1 ⟨x,H1,I1,r1,q⟩=>?_)
 cases q with
 | @mk c d hd q =>
  cases r1
  refine wpAny_truthy_bool ?_
  cases c with
  | true=>exact ⟨.bl true,H1,I1,rfl,q⟩
  | false=>exact hb pins s1 σ H1 Q I1 (hd Q q)
end
end L2
namespace K39
open PySem L2 HT PySem.W
section
variable {A B S:Type}
def turn (g:A->List B->B->A × List B) (s:A × List B):A × List B:=match s.2.getLast? with
 | none=>s
 | some b=>g s.1 s.2.dropLast b
def run (g:A->List B->B->A × List B) (s:A × List B):Nat->A × List B
 | 0=>s
 | n + 1=>turn g (run g s n)
theorem run_stop {g:A->List B->B->A × List B}{s:A × List B}{n:Nat}(h:(run g s n).2=[]):∀ k,run g s (n + k)=run g s n
 | 0=>rfl
 | k + 1=>by
  show turn g (run g s (n + k))=_
  rw [run_stop h k]
  unfold turn
  rw [h]; rfl
theorem run_uniq {g:A->List B->B->A × List B}{s:A × List B}{n m:Nat}{a b:A}(h:run g s n=(a,[])) (k:run g s m=(b,[])):a=b:=by
 rcases Nat.le_total n m with l | l
 ·obtain ⟨j,rfl⟩:=Nat.le.dest l
  rw [run_stop (by rw [h]) j,h] at k
  exact congrArg Prod.fst k
 ·obtain ⟨j,rfl⟩:=Nat.le.dest l
  rw [run_stop (by rw [k]) j,k] at h
  exact (congrArg Prod.fst h).symm
theorem run_snoc {g:A->List B->B->A × List B}{s:A × List B}{n:Nat}{a:A}{L:List B}{b:B}(h:run g s n=(a,L ++ [b])):run g s (n + 1)=g a L b:=by
 show turn g (run g s n)=_
 rw [h]
 unfold turn
 rw [List.getLast?_concat,List.dropLast_concat]
def up (f:S->Nat->S) (s:S):Nat->S
 | 0=>s
 | i + 1=>f (up f s i) i
noncomputable def endF [Nonempty A] (g:A->List B->B->A × List B) (s:A × List B):A:=Classical.epsilon fun a=>∃ n,run g s n=(a,[])
theorem endF_is [Nonempty A] {g:A->List B->B->A × List B}{s:A × List B}{n:Nat}{a:A}(h:run g s n=(a,[])):a=endF g s:=by
 obtain ⟨m,k⟩:=Classical.epsilon_spec (p:=fun a=>∃ n,run g s n=(a,[])) ⟨a,n,h⟩
 exact run_uniq h k
end
abbrev sClear:Stmt:=top 25
abbrev sLed:Stmt:=top 26
abbrev sFrom:Stmt:=top 27
abbrev sVer:Stmt:=top 28
abbrev Tr:=Str × Str × Bool
def absT (t:Td):Tr:=(t.1,t.2.1,decide (0 < t.2.2.1))
def ledTo (t:Tr) (n:Str):Option Str:=if n=t.1 then some t.2.1 else if n=t.2.1/\t.2.2=false then some t.1 else none
def optV:Option Str->V
 | some m=>.str m
 | none=>.non
def nmT (T:List Tr):List Str:=T.flatMap fun t=>[t.1,t.2.1]
theorem nmT_len:∀ T:List Tr,(nmT T).length=2 * T.length
 | []=>rfl
 | t :: T=>by
  show ([t.1,t.2.1] ++ nmT T).length=_
  rw [List.length_append,nmT_len T,List.length_cons,List.length_cons,List.length_cons,List.length_nil]; omega
theorem led_nm {T:List Tr}{t:Tr}{i:Nat}{n m:Str}(h:T[i]?=some t) (e:ledTo t n=some m):m∈nmT T:=by
 refine List.mem_flatMap.mpr ⟨t,List.mem_of_getElem? h,?_⟩
 unfold ledTo at e
 split at e
 ·cases e; simp
 ·split at e
  ·cases e; simp
  ·cases e
inductive ClrI (H:Hp) (Q:VK):List V->Prop
 | mk {u:V} {t:Td} (h:TrT H u t) (q:Q (.bl (absT t).2.2) H):ClrI H Q [u]
def ClrC:Sp:=fun vs H Q _=>ClrI H Q vs
inductive LedI (H:Hp) (Q:VK):List V->Prop
 | mk {u:V} {t:Td} {n:Str} (h:TrT H u t) (q:Q (optV (ledTo (absT t) n)) H):LedI H Q [u,.str n]
def LedC:Sp:=fun vs H Q _=>LedI H Q vs
abbrev Pl:=Str × Bool
def keyOf (k:Pl):List Key:=[.inr k.1,.inl k.2]
theorem keyOf_inj {a b:Pl}(h:keyOf a=keyOf b):a=b:=by
 obtain ⟨a1,a2⟩:=a
 obtain ⟨b1,b2⟩:=b
 unfold keyOf at h
 injection h with h1 h2
 injection h2 with h2 _
 injection h1 with h1
 injection h2 with h2
 subst h1 h2
 rfl
section
variable {κ:Type} [DecidableEq κ] {key:κ->List Key}
def tabK (key:κ->List Key) (ks:List κ):List (List Key × V):=ks.map fun k=>(key k,.bl true)
theorem any_tab (inj:∀ a b,key a=key b->a=b) (k:κ):∀ ks:List κ,((tabK key ks).any fun kv=>decide (kv.1=key k))=decide (k∈ks)
 | []=>rfl
 | x :: ks=>by
  show (decide (key x=key k) || (tabK key ks).any fun kv=>decide (kv.1=key k))=_
  rw [any_tab inj k ks]
  by_cases e:x=k
  ·subst e; simp
  ·rw [decide_eq_false (fun z=>e (inj _ _ z)),Bool.false_or]
   have e':¬ k=x:=fun z=>e z.symm
   simp [e']
theorem val_tab (inj:∀ a b,key a=key b->a=b) (ks:List κ) (k:κ):(valV (tabK key ks) (key k)).isSome=decide (k∈ks):=by
 rw [<- valV_any,any_tab inj]
theorem put_tab (inj:∀ a b,key a=key b->a=b) {ks:List κ}{k:κ}(h:¬ k∈ks):putK (tabK key ks) (key k) (.bl true)=tabK key (ks ++ [k]):=by
 unfold putK
 rw [if_neg (by rw [any_tab inj]; simpa using h)]
 simp [tabK]
def memB (k:κ) (ks:List κ):Bool:=decide (k∈ks)
theorem memY {k:κ}{ks:List κ}(h:k∈ks):memB k ks=true:=decide_eq_true h
theorem memN {k:κ}{ks:List κ}(h:¬ k∈ks):memB k ks=false:=decide_eq_false h
theorem val_mem (inj:∀ a b,key a=key b->a=b) (ks:List κ) (k:κ):(valV (tabK key ks) (key k)).isSome=memB k ks:=val_tab inj ks k
theorem len_tab (ks:List κ):(tabK key ks).length=ks.length:=by simp [tabK]
end
theorem kinj:∀ a b:Pl,keyOf a=keyOf b->a=b:=fun _ _ h=>keyOf_inj h
abbrev tab (ks:List Pl):List (List Key × V):=tabK keyOf ks
abbrev PS2:=List Pl × List Pl
def pOne (T:List Tr) (k:Pl) (s:PS2) (i:Nat):PS2:=match (T[i]?).bind fun t=>(ledTo t k.1).map fun m=>(m,k.2 || t.2.2) with
 | none=>s
 | some m=>if m∈s.1 then s else (s.1 ++ [m],s.2 ++ [m])
def pTurn (T:List Tr) (ks qs:List Pl) (k:Pl):PS2:=up (pOne T k) (ks,qs) T.length
noncomputable def plF (T:List Tr) (st:Str):List Pl:=endF (pTurn T) ([(st,false)],[(st,false)])
structure Pv (T:List Tr) (st:Str) (ks:List Pl):Prop where
 nd:ks.Nodup
 sub:∀ k∈ks,k.1∈st :: nmT T
theorem Pv.len {T:List Tr}{st:Str}{ks:List Pl}(h:Pv T st ks):ks.length<=2 * (1 + 2 * T.length):=by
 have:=nodup_le (us:=(st :: nmT T).map (fun n=>(n,false)) ++ (st :: nmT T).map fun n=>(n,true)) h.nd fun k hk=>by
  have m:=List.mem_map_of_mem (f:=fun n:Str=>(n,k.2)) (h.sub k hk)
  rw [show (k.1,k.2)=k from rfl] at m
  rw [List.mem_append]
  cases e:k.2 with
  | false=>rw [e] at m; exact .inl m
  | true=>rw [e] at m; exact .inr m
 rw [List.length_append,List.length_map,List.length_map,List.length_cons,nmT_len] at this
 omega
theorem Pv.snoc {T:List Tr}{st:Str}{ks:List Pl}(h:Pv T st ks) {m:Pl}(hm:m.1∈nmT T) (n:m ∉ ks):Pv T st (ks ++ [m]):=⟨nodup_snoc h.nd n,fun k hk=>by
 rcases List.mem_append.mp hk with z | z
 ·exact h.sub k z
 ·rw [List.mem_singleton.mp z]; exact .tail _ hm⟩
def WAt (H:Hp):List V->List Pl->Prop:=Paired fun u k=>∃ b,u=.ref b/\H b=some (.tup [.str k.1,.bl k.2])
theorem WAt.mono {H H':Hp}{us:List V}{qs:List Pl}(h:WAt H us qs) (k:TK H H'):WAt H' us qs:=Paired.mapP h fun _ _ z=>let ⟨b,e,z⟩:=z; ⟨b,e,k _ _ z⟩
theorem paired_cut {α β:Type}{R:α->β->Prop}:∀ {as:List α}{bs:List β}{a:α},Paired R (as ++ [a]) bs->∃ bs' b,bs=bs' ++ [b]/\Paired R as bs'/\R a b
 | [],_,a,.cons h .nil=>⟨[],_,rfl,.nil,h⟩
 | _ :: as,_,a,.cons h t=>by
  obtain ⟨bs',b,e,h1,h2⟩:=paired_cut (as:=as) t
  exact ⟨_ :: bs',b,by rw [e]; rfl,.cons h h1,h2⟩
inductive FroI (H:Hp) (Q:VK):List V->Prop
 | mk {a:Addr} {us:List V} {ts:List Td} {st:Str} (h:H a=some (.lst us)) (t:TrsT H us ts) (l:ts.length<=100) (q:∀ p M,Same H M->M p=some (.dT (tab (plF (ts.map absT) st)))->Q (.ref p) M):FroI H Q [.ref a,.str st]
def FroC:Sp:=fun vs H Q _=>FroI H Q vs
def vOf (ab be al:Bool):Str:=if ab && be then "ring" else if ab then "more" else if be then "less" else if al then "alike" else "open"
noncomputable def verF (T:List Tr) (x y:Str):Str:=vOf (memB (y,true) (plF T x)) (memB (x,true) (plF T y)) (memB (y,false) (plF T x))
inductive VerI (H:Hp) (Q:VK):List V->Prop
 | mk {a:Addr} {us:List V} {ts:List Td} {x y:Str} (h:H a=some (.lst us)) (t:TrsT H us ts) (l:ts.length<=100) (q:∀ M,Same H M->Q (.str (verF (ts.map absT) x y)) M):VerI H Q [.ref a,.str x,.str y]
def VerC:Sp:=fun vs H Q _=>VerI H Q vs
section
variable {P:Program}{w:World}{K:PySem.W.Frag}{mg:Str->Option Value}{base:Heap}
theorem ok_clearC {f:Addr}{fd:FuncData}(F:Fun K "is_clear" "is_clear" sClear f fd):FnOk P w K mg base CX0 1 f fd ["trial"] ClrC:=by
 have sc:FnScope ["trial"] ["trial"] (defScope sClear):=⟨rfl,rfl,rfl,by decide +kernel,rfl,by decide +kernel,by decide +kernel⟩
 refine F.ok sc (fun vs H Q E h=>by cases h; rfl) (fun cdv A outer s H vs Q E hr h=>?_)
 refine ⟨_,pss_one (ps_ret (pe_cmpR (oK op_gt) (pe_ix ixT2 (pe_ix ixT2 (pC 0) pe_int (fun _ _=>rfl)) pe_int (fun _ _=>rfl)) pe_int (nomark _))),?_⟩
 obtain ⟨⟨p,q,rfl,h1,h2⟩,hq⟩:=h
 exact IxT.mk h1 (atI_nat (j:=2) rfl) (IxT.mk h2 (atI_nat (j:=0) rfl) hq)
theorem ok_ledC {f:Addr}{fd:FuncData}(F:Fun K "led_to" "led_to" sLed f fd) (DC:Df P w K mg base 1 "is_clear" ["trial"] ClrC):FnOk P w K mg base CX0 2 f fd ["trial","name"] LedC:=by
 have sc:FnScope ["trial","name"] ["trial","name"] (defScope sLed):=⟨rfl,rfl,rfl,by decide +kernel,rfl,by decide +kernel,by decide +kernel⟩
 refine F.ok sc (fun vs H Q E h=>by cases h; rfl) (fun cdv A outer s H vs Q E hr h=>?_)
 refine ⟨_,pss_cons (psIf (pt_C oQ (pC 1) (pe_ix ixT2 (pC 0) pe_int (fun _ _=>rfl)) (nomark _)) (pss_one (ps_ret (pe_ix ixT2 (pC 0) pe_int (fun _ _=>rfl)))) pss_nil)
   (pss_cons (psIf (PW.pt (pwAnd (pt_C oQ (pC 1) (pe_ix ixT2 (pC 0) pe_int (fun _ _=>rfl)) (nomark _)) (pw_and1 (pt_not (pt_V (pD DC hr (pa_cons (pC 0) pa_nil))))))) (pss_one (ps_ret (pe_ix ixT2 (pC 0) pe_int (fun _ _=>rfl)))) pss_nil)
   (pss_one (ps_ret pe_non))),?_⟩
 obtain @⟨u,t,n,⟨p,z,rfl,h1,h2⟩,q⟩:=h
 unfold ledTo at q
 refine IxT.mk h1 (atI_nat (j:=0) rfl) (ifD (fun e=>IxT.mk h1 (atI_nat (j:=1) rfl) ?_) fun e=>IxT.mk h1 (atI_nat (j:=1) rfl) (ifD (fun e2=>ClrI.mk ⟨p,z,rfl,h1,h2⟩ ?_) fun e2=>?_))
 ·rw [if_pos (show n=(absT t).1 from e)] at q
  exact q
 ·rw [if_neg (show ¬ n=(absT t).1 from e)] at q
  show kIf _ _ (!(absT t).2.2)
  cases hc:(absT t).2.2 with
  | true =>
   rw [if_neg (fun z=>by rw [hc] at z; cases z.2)] at q
   exact q
  | false =>
   rw [if_pos ⟨(show n=(absT t).2.1 from e2),hc⟩] at q
   exact IxT.mk h1 (atI_nat (j:=0) rfl) q
 ·rw [if_neg (show ¬ n=(absT t).1 from e),if_neg (fun z=>e2 z.1)] at q
  exact q
theorem ok_fromC {f:Addr}{fd:FuncData}(F:Fun K "places_from" "places_from" sFrom f fd) (DC:Df P w K mg base 1 "is_clear" ["trial"] ClrC) (DL:Df P w K mg base 2 "led_to" ["trial","name"] LedC):FnOk P w K mg base CX0 3 f fd ["trials","start"] FroC:=by
 have sc:FnScope ["trials","start","places","waiting","name","clear","trial","place"] ["trials","start"] (defScope sFrom):=⟨rfl,rfl,rfl,by decide +kernel,rfl,by decide +kernel,by decide +kernel⟩
 refine F.ok sc (fun vs H Q E h=>by cases h; rfl) (fun cdv A outer s H vs Q E hr h=>?_)
 have hu:=hu_of hr
 refine ⟨_,pss_cons (ps_set (i:=2) sc.nd rfl (Or.inl rfl) (peD1 hu (peT (pa_cons (pC 1) (pa_cons pe_bl pa_nil))) pe_bl))
   (pss_cons (ps_set (i:=3) sc.nd rfl (Or.inl rfl) (peL (pa_cons (peT (pa_cons (pC 1) (pa_cons pe_bl pa_nil))) pa_nil)))
   (pss_cons (psWhile PassesOwn.never (ptTru 3 (pC 3))
    (pss_cons (ps_asg (peBM0 PySem.F.slot_list_pop PySem.F.type_list_pop mtPop (pC 3)) (pgT 2 (pgC (pg_name (i:=4) sc.nd rfl (Or.inl rfl)) (pgC (pg_name (i:=5) sc.nd rfl (Or.inl rfl)) pgN))))
    (pss_one (psFor PassesOwn.never rfl (piL K (pC 0)) (pg_name (i:=6) sc.nd rfl (Or.inl rfl))
     (pss_cons (ps_set (i:=7) sc.nd rfl (Or.inl rfl) (peT (pa_cons (pD DL hr (pa_cons (pC 6) (pa_cons (pC 4) pa_nil))) (pa_cons (peOrD (pC 5) (pe_one (pD DC (hr.mono (by decide)) (pa_cons (pC 6) pa_nil)))) pa_nil))))
     (pss_one (psIf (PW.pt (pwAnd (pt_C oNnot (pe_ix ixT2 (pC 7) pe_int (fun _ _=>rfl)) pe_non (nomark _)) (pw_and1 (pt_C (oDni hu) (pC 7) (pC 2) rfl))))
      (pss_cons (psPut hu (pC 2) (pC 7) pe_bl rfl) (pss_one (ps_expr (peBM PySem.F.slot_list_append PySem.F.type_list_append mtApp (pC 3) (pa_cons (pC 7) pa_nil))))) pss_nil)))))))
   (pss_one (ps_ret (pC 2))))),?_⟩
 obtain @⟨a,us,ts,st,hS,hT,hl,q⟩:=h
 refine D1I.mk fun p M1 s1 w1 n1=>NewO.mk rfl fun k M2 s2 w2 _=>NewO.mk rfl fun l M3 s3 w3 n3=>?_
 have s13:=(s1.trans s2).trans s3
 have hlp:l≠p:=fun z=>by rw [z,s2 _ _ w1] at n3; cases n3
 have nl:H l=none:=(s1.trans s2).noneC n3
 have lT:(ts.map absT).length=ts.length:=List.length_map _
 have lut:us.length=ts.length:=Paired.length hT
 refine whileK (fun m σ M=>∃ n c t pl ks qs ws,σ=[some (.ref a),some (.str st),some (.ref p),some (.ref l),n,c,t,pl]/\Same H M/\M p=some (.dT (tab ks))/\M l=some (.lst ws)/\WAt M ws qs/\(∃ j,run (pTurn (ts.map absT)) ([(st,false)],[(st,false)]) j=(ks,qs))/\Pv (ts.map absT) st ks/\ws.length<=ks.length/\m=2 * (2 * (1 + 2 * ts.length) - ks.length) + ws.length) _
  ⟨_,_,_,_,[(st,false)],[(st,false)],[.ref k],rfl,s13,(s2.trans s3) _ _ w1,w3,.cons ⟨k,rfl,s3 _ _ w2⟩ .nil,⟨0,rfl⟩,⟨by simp,fun k hk=>by rw [List.mem_singleton.mp hk]; exact .head _⟩,Nat.le_refl _,rfl⟩ ?_
 rintro m σ M D' ⟨n,c,t,pl,ks,qs,ws,rfl,sm,hP,hL,hW,⟨j,hj⟩,g,lw,rfl⟩ ⟨nx,rt,_⟩
 refine TruI.mk hL ?_
 rcases List.eq_nil_or_concat ws with rfl | ⟨L,u,rfl⟩
 ·cases hW
  have e:=endF_is hj
  refine q p M sm ?_
  rw [show plF (ts.map absT) st=ks from e.symm]
  exact hP
 rw [List.concat_eq_append] at hL hW lw ⊢
 obtain ⟨qs',k0,rfl,hW',b0,rfl,hb0⟩:=paired_cut hW
 have hj':=run_snoc hj
 rw [show (L ++ [V.ref b0]).isEmpty=false by cases L <;> rfl]
 refine ⟨IsL.mk hL,PopC.mk hL fun M4 k4 w4=>?_⟩
 have tk4:=keepT' hL k4
 have sm4:Same H M4:=fun y o e=>k4 _ _ (fun z=>by rw [z,nl] at e; cases e) (sm _ _ e)
 rw [List.length_append,List.length_singleton] at lw
 refine UnT.mk (tk4 _ _ hb0) rfl (LiK.mk (sm4 _ _ hS) (loopL (fun i σ M=>(∃ t pl,σ=[some (.ref a),some (.str st),some (.ref p),some (.ref l),some (.str k0.1),some (.bl k0.2),t,pl])/\Same H M/\∃ ks2 qs2 ws2,M p=some (.dT (tab ks2))/\M l=some (.lst ws2)/\WAt M ws2 qs2/\up (pOne (ts.map absT) k0) (ks,qs') i=(ks2,qs2)/\Pv (ts.map absT) st ks2/\ks.length<=ks2.length/\ws2.length + ks.length=L.length + ks2.length)
  ⟨⟨_,_,rfl⟩,sm4,ks,qs',L,k4 _ _ hlp.symm hP,w4,WAt.mono hW' tk4,rfl,g,Nat.le_refl _,rfl⟩ (fun i σ M h=>h.2.1 _ _ hS) ?_ ?_))
 ·rintro i x σ M5 D2 hx ⟨⟨t,pl,rfl⟩,s5,ks2,qs2,ws2,hP2,hL2,hW2,eu,g2,l1,l2⟩ ⟨nx2,_⟩
  obtain ⟨td,htd,tr⟩:=Paired.get' hT hx
  have tr2:=tr.mono (Same.tk s5)
  have htd':(ts.map absT)[i]?=some (absT td):=by rw [List.getElem?_map,htd]; rfl
  have bd:=g2.len
  refine LedI.mk tr2 (OrI.mk (d:=(absT td).2.2) (fun Q' h=>ClrI.mk tr2 h) (NewO.mk rfl fun pl2 M6 s6 w6 _=>IxT.mk w6 (atI_nat (j:=0) rfl) ?_))
  have s56:=s5.trans s6
  have hW3:=hW2.mono (Same.tk s6)
  have e1:∀ s:PS2,pOne (ts.map absT) k0 s i=match (ledTo (absT td) k0.1).map fun m=>(m,k0.2 || (absT td).2.2) with
   | none=>s
   | some m=>if m∈s.1 then s else (s.1 ++ [m],s.2 ++ [m]):=fun s=>by unfold pOne; rw [htd']; rfl
  have eu':up (pOne (ts.map absT) k0) (ks,qs') (i + 1)=pOne (ts.map absT) k0 (ks2,qs2) i:=by rw [<- eu]; rfl
  rw [e1] at eu'
  cases hm:ledTo (absT td) k0.1 with
  | none =>
   rw [hm] at eu'
   exact nx2 _ _ ⟨⟨_,_,rfl⟩,s56,ks2,qs2,ws2,s6 _ _ hP2,s6 _ _ hL2,hW3,eu',g2,l1,l2⟩
  | some m =>
   rw [hm] at w6 eu'
   refine HasI.mk (DGet.t (k:=keyOf (m,k0.2 || (absT td).2.2)) (s6 _ _ hP2) w6) ?_
   by_cases hin:(m,k0.2 || (absT td).2.2)∈ks2
   ·rw [val_mem kinj,memY hin]
    exact nx2 _ _ ⟨⟨_,_,rfl⟩,s56,ks2,qs2,ws2,s6 _ _ hP2,s6 _ _ hL2,hW3,eu'.trans (if_pos hin),g2,l1,l2⟩
   rw [val_mem kinj,memN hin]
   refine PutI.t (k:=keyOf (m,k0.2 || (absT td).2.2)) (s6 _ _ hP2) w6 (by rw [len_tab]; omega) fun M7 k7 w7=>?_
   rw [put_tab kinj hin] at w7
   have hL7:=k7 _ _ hlp (s6 _ _ hL2)
   refine ⟨IsL.mk hL7,AppC.mk hL7 (by omega) fun M8 k8 w8=>?_⟩
   have t7:TK M6 M8:=fun b xs e=>k8 _ _ (fun z=>by rw [z,s6 _ _ hL2] at e; cases e) (k7 _ _ (fun z=>by rw [z,s6 _ _ hP2] at e; cases e) e)
   exact nx2 _ _ ⟨⟨_,_,rfl⟩,fun y o e=>k8 _ _ (fun z=>by rw [z,nl] at e; cases e) (k7 _ _ (fun z=>by rw [z,n1] at e; cases e) (s56 _ _ e)),ks2 ++ [(m,k0.2 || (absT td).2.2)],qs2 ++ [(m,k0.2 || (absT td).2.2)],_,k8 _ _ hlp.symm w7,w8,Paired.snoc (hW3.mono t7) ⟨pl2,rfl,t7 _ _ w6⟩,eu'.trans (if_neg hin),g2.snoc (led_nm htd' hm) hin,by rw [List.length_append]; omega,by simp only [List.length_append,List.length_singleton]; omega⟩
 ·rintro σ M5 ⟨⟨t,pl,rfl⟩,s5,ks2,qs2,ws2,hP2,hL2,hW2,eu,g2,l1,l2⟩
  have bd:=g2.len
  refine nx _ _ ⟨_,?_,_,_,_,_,ks2,qs2,ws2,rfl,s5,hP2,hL2,hW2,⟨j + 1,hj'.trans (by unfold pTurn; rw [lT,<- lut]; exact eu)⟩,g2,by omega,rfl⟩
  rw [List.length_concat]
  omega
theorem ok_verC {f:Addr}{fd:FuncData}(F:Fun K "verdict" "verdict" sVer f fd) (DF:Df P w K mg base 3 "places_from" ["trials","start"] FroC):FnOk P w K mg base CX0 4 f fd ["trials","one","other"] VerC:=by
 have sc:FnScope ["trials","one","other","from_one","above","below"] ["trials","one","other"] (defScope sVer):=⟨rfl,rfl,rfl,by decide +kernel,rfl,by decide +kernel,by decide +kernel⟩
 refine F.ok sc (fun vs H Q E h=>by cases h; rfl) (fun cdv A outer s H vs Q E hr h=>?_)
 have hu:=hu_of hr
 refine ⟨_,pss_cons (ps_set (i:=3) sc.nd rfl (Or.inl rfl) (pD DF hr (pa_cons (pC 0) (pa_cons (pC 1) pa_nil))))
   (pss_cons (ps_set (i:=4) sc.nd rfl (Or.inl rfl) (pe_cmpR (oDin hu) (peT (pa_cons (pC 2) (pa_cons pe_bl pa_nil))) (pC 3) rfl))
   (pss_cons (ps_set (i:=5) sc.nd rfl (Or.inl rfl) (pe_cmpR (oDin hu) (peT (pa_cons (pC 1) (pa_cons pe_bl pa_nil))) (pD DF hr (pa_cons (pC 0) (pa_cons (pC 2) pa_nil))) rfl))
   (pss_cons (psIf (PW.pt (pwAnd (pt_V (pC 4)) (pw_and1 (pt_V (pC 5))))) (pss_one (ps_ret pe_str)) pss_nil)
   (pss_cons (psIf (pt_V (pC 4)) (pss_one (ps_ret pe_str)) pss_nil)
   (pss_cons (psIf (pt_V (pC 5)) (pss_one (ps_ret pe_str)) pss_nil)
   (pss_cons (psIf (pt_C (oDin hu) (peT (pa_cons (pC 2) (pa_cons pe_bl pa_nil))) (pC 3) rfl) (pss_one (ps_ret pe_str)) pss_nil)
   (pss_one (ps_ret pe_str)))))))),?_⟩
 obtain @⟨a,us,ts,x,y,hS,hT,hl,q⟩:=h
 refine FroI.mk hS hT hl fun p M1 s1 w1=>NewO.mk rfl fun k1 M2 s2 w2 _=>HasI.mk (DGet.t (k:=keyOf (y,true)) (s2 _ _ w1) w2) (NewO.mk rfl fun k3 M3 s3 w3 _=>?_)
 have s13:=(s1.trans s2).trans s3
 refine FroI.mk (s13 _ _ hS) (hT.mono (Same.tk s13)) hl fun p4 M4 s4 w4=>HasI.mk (DGet.t (k:=keyOf (x,true)) w4 (s4 _ _ w3)) ?_
 have s14:=s13.trans s4
 have w14:=((s2.trans s3).trans s4) _ _ w1
 rw [val_mem kinj,val_mem kinj]
 have q:=fun M s=>q M (s14.trans s)
 unfold verF at q
 generalize memB (y,true) (plF (ts.map absT) x)=ab at *
 generalize memB (x,true) (plF (ts.map absT) y)=be at *
 cases ab <;> cases be
 ·refine NewO.mk rfl fun k5 M5 s5 w5 _=>HasI.mk (DGet.t (k:=keyOf (y,false)) (s5 _ _ w14) w5) ?_
  rw [val_mem kinj]
  have q:=q M5 s5
  generalize memB (y,false) (plF (ts.map absT) x)=al at *
  cases al <;> exact q
 ·exact q _ (Same.refl _)
 ·exact q _ (Same.refl _)
 ·exact q _ (Same.refl _)
end
end K39
namespace K39
open PySem L2 HT PySem.W
section
variable {P:Program}{w:World}{K:PySem.W.Frag}{mg:Str->Option Value}{base:Heap}
abbrev sVd:Stmt:=clubMeth 14
def Kp2 (a b:Addr) (H H':Hp):Prop:=∀ x o,x≠a->x≠b->H x=some o->H' x=some o
inductive BackI (C:Addr) (H:Hp) (Q:VK):List V->Prop
 | mk {cb sl ll:Addr} {S:Cs} {sts lfs:List Cs} (c:ClubG C H cb sl ll (sts ++ [S]) lfs) (n:sts≠[]) (l:lfs.length<=900) (q:∀ H',Kp2 sl ll H H'->ClubG C H' cb sl ll sts (lfs ++ [S])->Q .non H'):BackI C H Q [.ref cb]
def BackC (C:Addr):Sp:=fun vs H Q _=>BackI C H Q vs
inductive AgnI (C:Addr) (H:Hp) (Q:VK):List V->Prop
 | mk {cb sl ll:Addr} {S:Cs} {sts lfs:List Cs} (c:ClubG C H cb sl ll sts (lfs ++ [S])) (l:sts.length<=900) (q:∀ H',Kp2 sl ll H H'->ClubG C H' cb sl ll (sts ++ [S]) lfs->Q .non H'):AgnI C H Q [.ref cb]
def AgnC (C:Addr):Sp:=fun vs H Q _=>AgnI C H Q vs
theorem flds (x:Str) (a b:V) (h1:x ≠ "states") (h2:x ≠ "left"):([("states",a),("left",b)]:List (Str × V)).lookup x=none:=by
 have a1:(x == Str.ofString "states")=false:=by rw [beq_eq_false_iff_ne]; exact h1
 have a2:(x == Str.ofString "left")=false:=by rw [beq_eq_false_iff_ne]; exact h2
 simp only [List.lookup,a1,a2]
theorem moved {C:Addr}{H H':Hp}{cb dx a b:Addr}{vs ws:List V}{sts lfs:List Cs}(h1:H cb=some (.ins C dx [("states",.ref a),("left",.ref b)])) (n1:a≠cb) (n2:b≠cb) (n3:b≠a) (k:Kp2 a b H H')
  (tup:∀ x xs,H x=some (.tup xs)->x≠a/\x≠b) (e1:H' a=some (.lst vs)) (e2:H' b=some (.lst ws)) (p1:Paired (StA H) vs sts) (p2:Paired (StA H) ws lfs):ClubG C H' cb a b sts lfs:=by
 have up:∀ v S,StA H v S->StA H' v S:=fun v S z=>z.up fun x xs e=>k x _ (tup x xs e).1 (tup x xs e).2 e
 exact ⟨dx,vs,ws,k _ _ n1.symm n2.symm h1,n1,n2,n3,e1,e2,Paired.mono p1 up,Paired.mono p2 up⟩
theorem ok_backC {f:Addr}{fd:FuncData}{C:Addr}(F:Fun K "back" "Club.back" sBack f fd) (T:Txt mg) (CC:Clb K C):FnOk P w K mg base CX0 1 f fd ["self"] (BackC C):=by
 have sc:FnScope ["self"] ["self"] (defScope sBack):=⟨rfl,rfl,rfl,by decide +kernel,rfl,by decide +kernel,by decide +kernel⟩
 refine F.ok sc (fun vs H Q E h=>by cases h; rfl) (fun cdv A outer s H vs Q E hr h=>?_)
 refine ⟨_,pss_cons (psIf (pt_C oQ (pe_callB cLen rfl T.len PySem.boot_len (pa_cons (peF K (pC 0)) pa_nil)) pe_int (nomark _)) pss_never pss_nil)
  (pss_one (ps_expr (peBM PySem.F.slot_list_append PySem.F.type_list_append mtApp (peF K (pC 0)) (pa_cons (peBM0 PySem.F.slot_list_pop PySem.F.type_list_pop mtPop (peF K (pC 0))) pa_nil)))),?_⟩
 cases h with
 | @mk cb sl ll S sts lfs c n l q =>
  obtain ⟨dx,vs,ws,c1,c2,c3,c4,c5,c6,c7,c8⟩:=c
  obtain ⟨vs',v,rfl,p1,p2⟩:=paired_last c7
  have lv:=paired_len p1
  have lw:=paired_len c8
  have nv:sts.length≠0:=fun z=>n (List.eq_nil_of_length_eq_zero z)
  refine FldC.mk c1 CC.c CC.ns rfl (LenC.l c5 (ifN (fun z=>?_) ?_))
  ·rw [List.length_append,List.length_singleton] at z; omega
  refine FldC.mk c1 CC.c CC.nl rfl ⟨IsL.mk c6,FldC.mk c1 CC.c CC.ns rfl ⟨IsL.mk c5,PopC.mk c5 fun M1 k1 w1=>?_⟩⟩
  refine AppC.mk (k1 _ _ c4 c6) (by omega) fun M2 k2 w2=>q M2 (fun x o n1 n2 e=>k2 _ _ n2 (k1 _ _ n1 e)) ?_
  refine moved c1 c2 c3 c4 (fun x o n1 n2 e=>k2 _ _ n2 (k1 _ _ n1 e)) (fun x xs e=>⟨fun z=>by (rw [z,c5] at e; cases e),fun z=>by (rw [z,c6] at e; cases e)⟩) (k2 _ _ c4.symm w1) w2 p1 (Paired.snoc c8 p2)
theorem ok_agnC {f:Addr}{fd:FuncData}{C:Addr}(F:Fun K "again" "Club.again" sAgain f fd) (T:Txt mg) (CC:Clb K C):FnOk P w K mg base CX0 1 f fd ["self"] (AgnC C):=by
 have sc:FnScope ["self"] ["self"] (defScope sAgain):=⟨rfl,rfl,rfl,by decide +kernel,rfl,by decide +kernel,by decide +kernel⟩
 refine F.ok sc (fun vs H Q E h=>by cases h; rfl) (fun cdv A outer s H vs Q E hr h=>?_)
 refine ⟨_,pss_cons (psIf (pt_C oQ (pe_callB cLen rfl T.len PySem.boot_len (pa_cons (peF K (pC 0)) pa_nil)) pe_int (nomark _)) pss_never pss_nil)
  (pss_one (ps_expr (peBM PySem.F.slot_list_append PySem.F.type_list_append mtApp (peF K (pC 0)) (pa_cons (peBM0 PySem.F.slot_list_pop PySem.F.type_list_pop mtPop (peF K (pC 0))) pa_nil)))),?_⟩
 cases h with
 | @mk cb sl ll S sts lfs c l q =>
  obtain ⟨dx,vs,ws,c1,c2,c3,c4,c5,c6,c7,c8⟩:=c
  obtain ⟨ws',v,rfl,p1,p2⟩:=paired_last c8
  have lv:=paired_len c7
  refine FldC.mk c1 CC.c CC.nl rfl (LenC.l c6 (ifN (fun z=>?_) ?_))
  ·rw [List.length_append,List.length_singleton] at z; omega
  refine FldC.mk c1 CC.c CC.ns rfl ⟨IsL.mk c5,FldC.mk c1 CC.c CC.nl rfl ⟨IsL.mk c6,PopC.mk c6 fun M1 k1 w1=>?_⟩⟩
  refine AppC.mk (k1 _ _ c4.symm c5) (by omega) fun M2 k2 w2=>q M2 (fun x o n1 n2 e=>k2 _ _ n1 (k1 _ _ n2 e)) ?_
  exact moved c1 c2 c3 c4 (fun x o n1 n2 e=>k2 _ _ n1 (k1 _ _ n2 e)) (fun x xs e=>⟨fun z=>by (rw [z,c5] at e; cases e),fun z=>by (rw [z,c6] at e; cases e)⟩) w2 (k2 _ _ c4 w1) (Paired.snoc c7 p2) p1
theorem pair_map {α β γ:Type}{R:α->β->Prop}{f:γ->β}:∀ {as:List α}{cs:List γ},Paired (fun a c=>R a (f c)) as cs->Paired R as (cs.map f)
 | _,_,.nil=>.nil
 | _,_,.cons h t=>.cons h (pair_map t)
inductive VdI (C:Addr) (H:Hp) (Q:VK):List V->Prop
 | mk {cb sl ll:Addr} {S:Cs} {sts lfs:List Cs} {x y:Str} (c:ClubG C H cb sl ll (sts ++ [S]) lfs) (ok:∀ x∈S.rows,PcOk x.2/\Crews x.2) (n:S.rows.length<=40) (q:∀ M,Same H M->Q (.str (verF (((alG S.rows).take 40).map fun r=>absT r.2.2) x y)) M):VdI C H Q [.ref cb,.str x,.str y]
def VdC (C:Addr):Sp:=fun vs H Q _=>VdI C H Q vs
theorem rwG_len (x:Nat × Pce):∀ l:Rows,(rwG x l).length<=l.length
 | []=>Nat.le_refl _
 | y :: l=>by
  have h:=rwG_len x l
  have h1:(row1 x.1 y.1 (toldF x.2 y.2)).length<=1:=by cases toldF x.2 y.2 <;> simp [row1]
  show (row1 x.1 y.1 (toldF x.2 y.2) ++ rwG x l).length<=_
  rw [List.length_append,List.length_cons]; omega
theorem paired_take {α β:Type}{R:α->β->Prop}:∀ {as:List α}{bs:List β}(n:Nat),Paired R as bs->Paired R (as.take n) (bs.take n)
 | _,_,0,_=>.nil
 | _,_,_ + 1,.nil=>.nil
 | _,_,n + 1,.cons h t=>.cons h (paired_take n t)
theorem cut_40 (us:List V):cutV us none (some (40:Int))=us.take 40:=by
 unfold cutV
 rw [HT.sIx_none,show ((40:Int))=((40:Nat):Int) from rfl,HT.sIx_nat,List.drop_zero]
 by_cases h:us.length<=40
 ·rw [Nat.min_eq_right h,Nat.sub_zero,List.take_of_length_le (Nat.le_refl _),List.take_of_length_le h]
 ·rw [Nat.min_eq_left (by omega),Nat.sub_zero]
theorem ok_vdC {f:Addr}{fd:FuncData}{C:Addr}(F:Fun K "verdict" "Club.verdict" sVd f fd) (hM:∃ t,mg "MOST_TRIALS"=some (.int 40 t)) (DT:DfM P w K mg base 5 C "trials" ["self"] (TrsC C)) (DV:Df P w K mg base 4 "verdict_trials" ["trials","one","other"] VerC):FnOk P w K mg base CX0 6 f fd ["self","one","other"] (VdC C):=by
 have sc:FnScope ["self","one","other"] ["self","one","other"] (defScope sVd):=⟨rfl,rfl,rfl,by decide +kernel,rfl,by decide +kernel,by decide +kernel⟩
 have nd:(["earlier","later","trial"]:List Str).Nodup:=by decide +kernel
 refine F.ok sc (fun vs H Q E h=>by cases h; rfl) (fun cdv A outer s H vs Q E hr h=>?_)
 obtain ⟨tk,hM⟩:=hM
 refine ⟨_,pss_one (ps_ret (pD DV (hr.mono (by decide)) (pa_cons (pe_lc (N:=["earlier","later","trial"]) (g:=UnT 3 (gC (gName 0) (gC (gName 1) (gC (gName 2) gN)))) (tc:=tYes) (te:=vC 2) rfl (piL K (pe_slice sl2 (pM0 DT hr (pC 0)) po_none (po_C (pe_glob (v:=.int 40) rfl hM ⟨_,rfl⟩))))
   (BlkOk.closed rfl (by decide +kernel) (by decide +kernel) (by decide +kernel)) (fun _ _ _=>pgT 3 (pgC (pg_name (i:=0) nd rfl (Or.inl rfl)) (pgC (pg_name (i:=1) nd rfl (Or.inl rfl)) (pgC (pg_name (i:=2) nd rfl (Or.inl rfl)) pgN)))) (fun _ _ _=>pts_nil) (fun _ _ _=>pC 2)) (pa_cons (pC 1) (pa_cons (pC 2) pa_nil))))),?_⟩
 cases h with
 | @mk cb sl ll S sts lfs x y c ok n q =>
  obtain ⟨_,_,_,dx,fs,_,_,_,L⟩:=c.lst
  refine InsC.mk L.i (L.m _ (by decide) (by decide)) (TrsI.mk c ok n fun l ws M1 s1 w1 n1 pr=>SlI.l w1 fun p M2 s2 w2 n2=>LiK.mk w2 fun D hD=>?_)
  rw [cut_40] at w2
  have pt:=paired_take 40 pr
  have lp:=pairL pt
  refine lcM (fun H v (r:Row3)=>TrT H v r.2.2) (fun r=>r) (fun σ=>∃ a b c,σ=[a,b,c]) hD (wkL w2) pt (by rw [List.length_take]; omega) ⟨_,_,_,rfl⟩ (fun H H' v b t h=>?_) ?_ ?_
  ·obtain ⟨p,z,e,h1,h2⟩:=h
   exact ⟨p,z,e,t _ _ h1,t _ _ h2⟩
  ·rintro σ M v r Y ⟨a,b,c,rfl⟩ s ⟨u,z,rfl,h1,l,h2,h3⟩ _ hy
   exact UnT.mk (s _ _ (s2 _ _ h1)) rfl (hy _ _ _ ⟨_,_,_,rfl⟩ (Same.refl _) ⟨z,l,rfl,s _ _ (s2 _ _ h2),s _ _ (s2 _ _ h3)⟩)
  ·intro ys M s3 w3 py
   rw [List.map_id'] at py
   refine VerI.mk (ts:=((alG S.rows).take 40).map (fun r=>r.2.2)) w3 ?_ (by rw [List.length_map,List.length_take]; omega) fun M4 s4=>?_
   ·exact pair_map py
   ·rw [List.map_map]
    exact q _ (((s1.trans s2).trans s3).trans s4)
end
end K39
namespace L2
open PySem PySem.Spec PyProof.Rows PySem.W
section
variable {prog:Program}{w:World}{A:Around}{E:Value->Shared->Prop}{h:Heap}{g:Array GenState}{d:Drawn}{t:Nat}{os:OsState}
variable {nm q:Str}{C N:Addr}{bs bm bmB:List Value}{hdct:Bool}{sn:List Str}{sub:List Value}{ab:Bool}{col:Option Bool}{dd:Option Addr}{k0 k1 k2 k3 k5:Option Value}{B newId initId:String}
theorem type_call_initT (F:ExcBaseFacts B newId initId bmB) (T:OwnTail h bmB bm) {mN:Str->Option Value}{rest:List Value}{fI:Addr}{oI:Obj}{Q:Fin->Shared->Prop}
  (hC:h.get? C=some (excClassObj nm q C N bs bm hdct sn sub ab col dd k0 k1 k2 k3 k5 newId)) (hn:h.Ns N mN) (hi:mN "__init__"=some (.ref fI))
  (hfI:h.get? fI=some oI) (hfc:oI.cls=.type "function")
  (hq:∀ h' e,Heap.MadeExcOf h h' e (.ref C) rest ->
   wpAny (model prog w) A (call (.ref fI) (.ref e :: rest)) (fun r s'=>r=.none/\Q (.done (.ret (.ref e))) s') E ⟨h',g,d,t,os⟩) (hrest:rest.length<=sizeLine) :
  wpAny (model prog w) A (Builtin.«type.__call__» ⟨.ref C :: rest,[]⟩) Q E ⟨h,g,d,t,os⟩:=by
 repeat (first | with_reducible refine wpAny_loadPart_at hC ?_ | with_reducible refine wpAny_madeBy_exc hC ?_ | wp_step)
 refine codeAny_call_builtin_code (Code.quiet_builtin _ F.quiet) (wpAny_check_new_subT F T hC ?_)
 refine codeAny_exc_new_subT F T hC ?_ hrest
 show wpAny _ _ _ _ _ _
 have hC₁:=Heap.get?_push_of_some { cls:=.ref C,data:=.fields #[.ref h.objs.size,.none,.none,.none,.bool false,.none] }
  (Heap.get?_push_of_some { cls:=.type "tuple",data:=.seq rest.toArray } hC)
 have hfI₁:=Heap.get?_push_of_some { cls:=.ref C,data:=.fields #[.ref h.objs.size,.none,.none,.none,.bool false,.none] }
  (Heap.get?_push_of_some { cls:=.type "tuple",data:=.seq rest.toArray } hfI)
 have hn₁:((h.push { cls:=.type "tuple",data:=.seq rest.toArray }).push { cls:=.ref C,data:=.fields #[.ref h.objs.size,.none,.none,.none,.bool false,.none] }).Ns N mN :=
  let ⟨o,es,ep,e,r⟩:=hn; ⟨o,es,ep,Heap.get?_push_of_some _ (Heap.get?_push_of_some _ e),r⟩
 have hget:((h.push { cls:=.type "tuple",data:=.seq rest.toArray }).push
   { cls:=.ref C,data:=.fields #[.ref h.objs.size,.none,.none,.none,.bool false,.none] }).get? (h.objs.size + 1)=some
   { cls:=.ref C,data:=.fields #[.ref h.objs.size,.none,.none,.none,.bool false,.none] }:=by heap_get
 have hcC:(Value.ref C :: bm).contains (.ref C)=true:=by simp
 have T₁:=T.keeps (h':=(h.push { cls:=.type "tuple",data:=.seq rest.toArray }).push { cls:=.ref C,data:=.fields #[.ref h.objs.size,.none,.none,.none,.bool false,.none] })
  fun b o e=>Heap.get?_push_of_some _ (Heap.get?_push_of_some _ e)
 unfold isInstance
 repeat (first | with_reducible refine wpAny_loadPart_at hget ?_ | (with_reducible refine wpAny_isSubtype_exc hC₁ ?_; rw [hcC]) | wp_step)
 show wpAny _ _ (typeLookup (.ref C) _) _ _ _
 refine wpAny_typeLookup_tail hC₁ hn₁ T₁ F.mroIs F.init.lookup ?_
 rw [hi]
 refine wpAny_holding (wpAny_bind ?_)
 unfold bindSpecial
 refine wpAny_bind (wpAny_typeOf (T:="function") ⟨_,hfI₁,hfc⟩ ?_)
 rw [if_pos (by decide)]
 refine wpAny_pure (wpAny_bind (wpAny_mono (hq _ (h.objs.size + 1) ⟨fun b o hb=>Heap.get?_push_of_some _ (Heap.get?_push_of_some _ hb),Heap.get?_none_of_le (Nat.le_succ _),h.objs.size,hget,Heap.get?_none_of_le (Nat.le_refl _),?_⟩) (fun r s' hr=>?_) fun _ _ x=>x))
 ·exact Heap.get?_push_of_some _ (Heap.get?_push_at rfl rfl)
 ·obtain ⟨rfl,hQ⟩:=hr
  wp_walk
  exact hQ
theorem call_initT (F:ExcBaseFacts B newId initId bmB) (T:OwnTail h bmB bm) {mN:Str->Option Value}{rest:List Value}{fI:Addr}{oI:Obj}{Q:Value->Shared->Prop}
  (hC:h.get? C=some (excClassObj nm q C N bs bm hdct sn sub ab col dd k0 k1 k2 k3 k5 newId)) (hn:h.Ns N mN) (hi:mN "__init__"=some (.ref fI))
  (hfI:h.get? fI=some oI) (hfc:oI.cls=.type "function")
  (hq:∀ h' e,Heap.MadeExcOf h h' e (.ref C) rest ->
   wpAny (model prog w) (A.under (.builtin "type.__call__" ⟨.ref C :: rest,[]⟩)) (call (.ref fI) (.ref e :: rest)) (fun r s'=>r=.none/\Q (.ref e) s') E ⟨h',g,d,t,os⟩) (hrest:rest.length<=sizeLine) :
  wpAny (model prog w) A (call (.ref C) rest) Q E ⟨h,g,d,t,os⟩:=by
 have f1:=tc_lookup
 have f2:=tc_bind (.ref C)
 have hT:(⟨h,g,d,t,os⟩:Shared).TypeIs (.ref C) "type":=⟨_,hC,rfl⟩
 refine wpAny_call (codeAny_of_tree ?_)
 show wpAny _ _ (callAny (.ref C) _) _ _ _
 repeat (any_goals (first | assumption | with_reducible refine wpAny_loadPart_at hC ?_ | wp_step))
 refine ⟨rfl,?_⟩
 refine codeAny_call_builtin_at (Code.quiet_builtin _ (by decide +kernel)) entry_typeCall (wpAny_check_type_call_sub hC (type_call_initT F T hC hn hi hfI hfc (fun h' e hm=>?_) hrest))
 exact hq h' e hm
end
section
variable {M:Model}{A:Around}{E:Value->Shared->Prop}{env:Env}
variable {nm q:Str}{C N:Addr}{bs bm:List Value}{hdct:Bool}{sn:List Str}{sub:List Value}{ab:Bool}{col:Option Bool}{dd:Option Addr}{k0 k1 k2 k3 k5:Option Value}{newId:String}
theorem raiseStmt_any {s:Shared}{x:Sem Value}{Q:Flow->Shared->Prop}(hbase:bm.contains (.type "BaseException")=true) (hh:A.handled=none)
  (h:wpAny M A x (fun v s₁=>∃ e oe vs,v=.ref e/\s₁.heap.get? C=some (excClassObj nm q C N bs bm hdct sn sub ab col dd k0 k1 k2 k3 k5 newId) /\
   s₁.heap.get? e=some oe/\oe.cls=.ref C/\oe.data=.fields vs/\vs[1]?=some .none/\E (.ref e) s₁) E s) :
  wpAny M A (raiseStmt env (some x) none) Q E s:=by
 have hcB:(Value.ref C :: bm).contains (.type "BaseException")=true:=by rw [List.contains_cons,hbase,Bool.or_true]
 unfold raiseStmt
 refine wpAny_bind (wpAny_mono h (fun v s₁ h₁=>?_) fun _ _ x=>x)
 obtain ⟨e,⟨c0,d0,da0,sl0⟩,vs,rfl,hC,he,hcl,hda,hv1,hE⟩:=h₁
 dsimp only at hcl hda
 subst hcl hda
 obtain ⟨hp,g,d,tk,os⟩:=s₁
 repeat (first | with_reducible refine wpAny_loadPart_at he ?_ | with_reducible refine wpAny_loadPart_at hC ?_ | (with_reducible refine wpAny_isSubtype_exc hC ?_; rw [hcB]) | wp_step)
 rw [hv1]
 repeat wp_step
 exact wpAny_raiseNew_none hh hE
end
end L2
namespace L2
open PySem PySem.Spec PyProof.Rows PySem.W
def TrcD (h B:Heap) (e:Addr) (cls:Value) (dct:Option Addr) (fl:Value):Prop :=
 ∃ oe vs T oT ts,h.get? e=some oe/\oe.cls=cls/\oe.dict=dct/\oe.data=.fields vs/\vs[1]?=some (.ref T)/\vs[2]?=some .none/\B.get? T=none/\T≠e/\h.get? T=some oT/\oT.data=.fields ts/\ts[3]?=some fl
structure FlyD (B:Heap) (l:List Env) (e:Addr) (cls:Value) (dct:Option Addr) (fl:Value) (h:Heap):Prop where
 st:B.StaysIn h
 no:B.get? e=none
 fr:h.FunFrames B l
 tr:TrcD h B e cls dct fl
section
variable {M:Model}{A:Around}{E:Value->Shared->Prop}{s:Shared}{B:Heap}{env:Env}{outer:List Env}{L e:Addr}{cls fl:Value}{dct:Option Addr}{Q:Unit->Shared->Prop}
theorem entry_d {oe:Obj}{vs:Array Value}{head:Value}{had:Bool}(hfr:A.frames=some (env :: outer)) (hl:s.heap.FunFrames B (env :: outer)) (hf:env.frame=some L) (he:s.heap.get? e=some oe) (hkb:B.StaysIn s.heap) (hen:B.get? e=none) (hno:oe.dict=dct) (hd:oe.data=.fields vs) (h2:vs[2]?=some .none)
  (q:∀ h',FlyD B (env :: outer) e oe.cls dct (rawInt L) h'->s.heap.UpToSlots h'->Q () { s with heap:=h' }) :
  wpAny M A (do let a <- frameOf env; let pl <- entryPlaceOf L had; let b <- EntryCells.newEntry head a .none (rawInt L) .none pl; setField (.ref e) 1 b) Q E s:=by
 have sz:2 < vs.size:=(Array.getElem?_eq_some_iff.mp h2).1
 have notFr:e ∉ (env :: outer).filterMap (·.frame):=by
  intro z
  obtain ⟨_,u,hu,nf⟩:=hl.mem z
  rw [he] at hu
  cases hu
  exact nf vs hd
 refine wpAny_bind (wpAny_frameOf_fun hfr hl hf fun g so=>wpAny_bind (wpAny_entryPlaceOf fun pl isp=>?_))
 unfold EntryCells.newEntry newFields
 refine wpAny_bind (wpAny_newObj_type ?_ (isp.sizeOk5 _ _ _ _ _))
 generalize hTB:({ cls:=.type "traceback",dict:=none,data:=.fields ([head,.ref L,.none,rawInt L,.none] ++ (if pl.isEmpty then List.replicate 6 Value.none else pl)).toArray }:Obj)=tb
 have dTB:tb.data=.fields ([head,.ref L,.none,rawInt L,.none] ++ (if pl.isEmpty then List.replicate 6 Value.none else pl)).toArray:=by rw [<- hTB]
 have fTB:tb.isFreed=false:=Obj.isFreed_of_fields dTB
 have ge:g.get? e=some oe:=by rw [so.2.1 e notFr]; exact he
 have pe:(g.push tb).get? e=some oe:=Heap.get?_push_of_some tb ge
 have tne:g.objs.size≠e:=fun z=>by
  have:=Heap.lt_size ge
  rw [<- z] at this
  exact Nat.lt_irrefl _ this
 refine wpAny_setField pe hd (by omega) (q _ ?_ ?_)
 ·have d1:=Obj.data_mapFields hd (·.setIfInBounds 1 (Value.ref g.objs.size))
  have gB:B.StaysIn g:=fun b o hb=>by
   rw [so.2.1 b fun z=>by rw [(hl.mem z).1] at hb; cases hb]
   exact hkb b o hb
  have keep:∀ b o,b≠e->g.get? b=some o->((g.push tb).update e (Obj.mapFields (·.setIfInBounds 1 (Value.ref g.objs.size)))).get? b=some o:=fun b o ne hb=>by
   rw [Heap.get?_update_other _ _ (Ne.symm ne)]
   exact Heap.get?_push_of_some tb hb
  refine ⟨fun b o hb=>keep b o (fun z=>by rw [z,hen] at hb; cases hb) (gB b o hb),hen,hl.of_keeps fun b o hb nf=>?_,_,_,g.objs.size,tb,_,Heap.get?_update_self _ pe (Obj.isFreed_of_fields d1),Obj.cls_mapFields _ _,?_,d1,?_,?_,gB.fresh,tne,?_,dTB,?_⟩
  rotate_left
  ·rw [<- hno]; obtain ⟨_,_,dt,_⟩:=oe; cases dt <;> rfl
  rotate_right
  ·obtain ⟨sl,hs⟩:=so.2.2 b o hb
   exact ⟨_,keep b _ (fun z=>by rw [z,he] at hb; cases hb; exact nf vs hd) hs,rfl⟩
  ·rw [Array.getElem?_setIfInBounds_self]
   simp only [show 1 < vs.size by omega,if_true]
  ·rw [Array.getElem?_setIfInBounds_ne (by decide)]; exact h2
  ·rw [Heap.get?_update_other _ _ (Ne.symm tne)]; exact Heap.get?_push_size g fTB
  ·first | (simp; done) | (rcases isp with rfl | ⟨_,_,_,_,_,_,_,rfl⟩ <;> simp)
 ·intro b o hb nf
  obtain ⟨sl,hs⟩:=so.2.2 b o hb
  refine ⟨sl,?_⟩
  have ne:b≠e:=fun z=>by rw [z,he] at hb; cases hb; exact nf vs hd
  rw [Heap.get?_update_other _ _ (Ne.symm ne)]
  exact Heap.get?_push_of_some tb hs
theorem look_madeD {oe:Obj}{vs:Array Value}(hfr:A.frames=some (env :: outer)) (hf:env.frame=some L) (hkb:B.StaysIn s.heap) (hl:s.heap.FunFrames B (env :: outer)) (he:s.heap.get? e=some oe) (hc:oe.cls=cls) (hdc:oe.dict=dct) (hd:oe.data=.fields vs) (h1:vs[1]?=some .none) (h2:vs[2]?=some .none) (hen:B.get? e=none)
  (q:∀ h',FlyD B (env :: outer) e cls dct (rawInt L) h'->s.heap.UpToSlots h'->Q () { s with heap:=h' }):wpAny M A (noteFrame (.ref e) env) Q E s:=by
 subst hc
 unfold noteFrame
 simp only [hf]
 refine wpAny_bind (wpAny_field (x:=Value.none) he hd h1 ?_)
 rw [if_neg (by decide)]
 exact entry_d hfr hl hf he hkb hen hdc hd h2 q
theorem look_onD (hfr:A.frames=some (env :: outer)) (hf:env.frame=some L) (F:FlyD B (env :: outer) e cls dct .none s.heap)
  (q:∀ h',FlyD B (env :: outer) e cls dct (rawInt L) h'->s.heap.UpToSlots h'->Q () { s with heap:=h' }):wpAny M A (noteFrame (.ref e) env) Q E s:=by
 obtain ⟨st,no,fr,oe,vs,T,oT,ts,he,hc,hno,hd,v1,v2,tB,tne,hT,hdT,t3⟩:=F
 subst hc
 unfold noteFrame
 simp only [hf]
 refine wpAny_bind (wpAny_field he hd v1 ?_)
 rw [if_pos (by simp)]
 refine wpAny_bind (wpAny_field hT hdT t3 ?_)
 rw [if_neg (by simp [rawInt])]
 refine wpAny_bind (wpAny_setField hT hdT (Array.getElem?_eq_some_iff.mp t3).1 ?_)
 generalize hg:s.heap.update T (Obj.mapFields (·.setIfInBounds 3 Value.none))=g
 have els:∀ b,b≠T->g.get? b=s.heap.get? b:=fun b nb=>by rw [<- hg]; exact Heap.get?_update_other _ _ (Ne.symm nb)
 have rec':∀ b o,s.heap.get? b=some o->(∀ ws,o.data≠.fields ws)->b≠T:=fun b o hb nf z=>by
  rw [z,hT] at hb
  cases hb
  exact nf ts hdT
 have ups:s.heap.UpToSlots g:=fun b o hb nf=>⟨o.slots,by rw [els b (rec' b o hb nf)]; exact hb⟩
 refine entry_d (s:={ s with heap:=g }) hfr (fr.of_keeps fun b o hb nf=>⟨o,by rw [els b (rec' b o hb nf)]; exact hb,rfl⟩) hf (by rw [els e tne.symm]; exact he) (fun b o hb=>?_) no hno hd v2 fun h' F' u=>q h' F' (ups.trans u)
 rw [els b fun z=>by rw [z,tB] at hb; cases hb]
 exact st b o hb
theorem land_d {l:List Env}(F:FlyD B l e cls dct fl s.heap) (q:∀ h',FlyD B l e cls dct .none h'->s.heap.UpToSlots h'->Q () { s with heap:=h' }):wpAny M A (setFlight (.ref e) none) Q E s:=by
 obtain ⟨st,no,fr,oe,vs,T,oT,ts,he,hc,hno,hd,v1,v2,tB,tne,hT,hdT,t3⟩:=F
 have s3:3 < ts.size:=(Array.getElem?_eq_some_iff.mp t3).1
 unfold setFlight
 refine wpAny_bind (wpAny_field he hd v1 ?_)
 rw [if_pos (by simp)]
 refine wpAny_setField hT hdT s3 ?_
 generalize hg:s.heap.update T (Obj.mapFields (·.setIfInBounds 3 ((none:Option Addr).elim Value.none fun f=>rawInt f)))=g
 have els:∀ b,b≠T->g.get? b=s.heap.get? b:=fun b nb=>by rw [<- hg]; exact Heap.get?_update_other _ _ (Ne.symm nb)
 have rec':∀ b o,s.heap.get? b=some o->(∀ ws,o.data≠.fields ws)->b≠T:=fun b o hb nf z=>by
  rw [z,hT] at hb
  cases hb
  exact nf ts hdT
 have d3:=Obj.data_mapFields hdT (·.setIfInBounds 3 ((none:Option Addr).elim Value.none fun f=>rawInt f))
 refine q g ⟨fun b o hb=>?_,no,fr.of_keeps fun b o hb nf=>⟨o,by rw [els b (rec' b o hb nf)]; exact hb,rfl⟩,oe,vs,T,_,_,by rw [els e tne.symm]; exact he,hc,hno,hd,v1,v2,tB,tne,by rw [<- hg]; exact Heap.get?_update_self _ hT (Obj.isFreed_of_fields d3),d3,?_⟩ (fun b o hb nf=>⟨o.slots,by rw [els b (rec' b o hb nf)]; exact hb⟩)
 ·rw [els b fun z=>by rw [z,tB] at hb; cases hb]
  exact st b o hb
 ·simp [s3]
theorem leave_madeD {oe:Obj}{vs:Array Value}(hfr:A.frames=some (env :: outer)) (hf:env.frame=some L) (hkb:B.StaysIn s.heap) (hl:s.heap.FunFrames B (env :: outer)) (he:s.heap.get? e=some oe) (hc:oe.cls=cls) (hdc:oe.dict=dct) (hd:oe.data=.fields vs) (h1:vs[1]?=some .none) (h2:vs[2]?=some .none) (hen:B.get? e=none)
  (q:∀ h',FlyD B outer e cls dct .none h'->s.heap.UpToSlots h'->Q () { s with heap:=h' }):wpAny M A (leaving env (.ref e)) Q E s:=by
 unfold leaving
 refine wpAny_bind (look_madeD hfr hf hkb hl he hc hdc hd h1 h2 hen fun g G u=>land_d (s:={ s with heap:=g }) G fun h' G' u'=>q h' ⟨G'.st,G'.no,G'.fr.2.2,G'.tr⟩ (u.trans u'))
end
end L2
namespace L2
open PySem PySem.Spec PyProof.Rows PySem.W
def FlyG (l:List Env) (H:Hp) (a:Addr) (cls:Value) (dct:Option Addr) (h hs:Heap) (Hs:Hp):Prop :=
 ∃ B:Heap,FlyD B l a cls dct .none h/\(∀ b u,H b=some u->∃ o,B.get? b=some o) /\
  (∀ b o,hs.get? b=some o->Hs b=none->b ∉ frs l->B.get? b=some o)/\∀ b o,hs.get? b=some o->b ∉ frs l->∃ o',B.get? b=some o'
def CXG (P:Program) (w:World):CXT:=fun outer H s E e s'=>∃ a cls dct H',e=.ref a/\s'.os=s.os/\AllBare s'.gens/\Un (frs outer) [] H H' s.heap s'.heap/\HOk P w H' s'.heap/\E cls dct H'/\FlyG outer H' a cls dct s'.heap s.heap H
section
variable {X:Cx}{pins:List (Addr × Obj)}{σ:St}{H:Hp}{s:Shared}
structure FlyInG (X:Cx) (pins:List (Addr × Obj)) (H:Hp) (a:Addr) (cls:Value) (dct:Option Addr) (h:Heap):Prop where
 ex:∃ B:Heap,FlyD B X.stack a cls dct .none h/\(∀ b u,H b=some u->∃ o,B.get? b=some o)/\(∀ p∈X.pn ++ pins,B.get? p.1=some p.2) /\
  (∀ b o,X.s₀.heap.get? b=some o->X.H₀ b=none->b ∉ X.fs->b ∉ X.ex->B.get? b=some o)/\∀ b o,X.s₀.heap.get? b=some o->b ∉ X.fs->b ∉ X.ex->∃ o',B.get? b=some o'
theorem Inv.flyinG {H':Hp}{a:Addr}{cls:Value}{dct:Option Addr}{s':Shared}(I:Inv X pins σ H s) (F:FlyG X.stack H' a cls dct s'.heap s.heap H):FlyInG X pins H' a cls dct s'.heap:=by
 obtain ⟨B,hfl,trk,o1,o2⟩:=F
 refine ⟨B,hfl,trk,fun p hp=>?_,fun b o q n hb hx=>?_,fun b o q hb hx=>?_⟩
 ·obtain ⟨p1,p2,p3,p4,_⟩:=I.pin p hp
  exact o1 _ _ p1 p2 fun z=>(List.mem_cons.mp (I.stkSub _ z)).elim p3 p4
 ·exact o1 b o (I.base.keep b o q n hb hx) (I.base.free b o q n hx) (I.nostk q hb)
 ·obtain ⟨o',e⟩:=I.base.there b o q hx
  exact o2 b o' e (I.nostk q hb)
end
def LetsG (X:Cx) (W:Value->Option Addr->St->Hp->Prop):Prop :=
 ∀ (pins:List (Addr × Obj)) (σ:St) (H:Hp) (s:Shared) (e:Value) (s':Shared),Inv X pins σ H s->CXG X.prog X.w X.stack H s (fun cls dct H'=>W cls dct σ H') e s'->X.xe e s'
structure Mad (h:Heap) (e:Addr) (cls:Value) (dct:Option Addr):Prop where
 ex:∃ oe vs,h.get? e=some oe/\oe.cls=cls/\oe.dict=dct/\oe.data=.fields vs/\vs[1]?=some .none/\vs[2]?=some .none
def MakesG (X:Cx) (W:Value->Option Addr->St->Hp->Prop):Prop :=
 ∀ (pins:List (Addr × Obj)) (σ:St) (H:Hp) (s:Shared) (e:Addr) (cls:Value) (dct:Option Addr),Inv X pins σ H s->Mad s.heap e cls dct->H e=none->X.s₀.heap.get? e=none->e≠X.env.locals->(∀ x c,X.env.cells.lookup x=some c->c≠e)->(∀ p∈X.pn ++ pins,p.1≠e)->W cls dct σ H->X.xe (.ref e) s
section
variable {P:Program}{w:World}{K:PySem.W.Frag}{mg:Str->Option Value}{base:Heap}{N:List Str}{qual:Str}{scope:Scope}{f:Addr}{cd:Value}{A:Around}{outer:List Env}{s:Shared}{H:Hp}{E:XK}
end
end L2
namespace L2
open PySem PySem.Spec PyProof.Rows PySem.W
section
variable {P:Program}{w:World}{K:PySem.W.Frag}{mg:Str->Option Value}{base:Heap}{N:List Str}{qual:Str}{scope:Scope}{f:Addr}{cd:Value}{A:Around}{outer:List Env}{s:Shared}{H:Hp}{E:XK}
theorem makesG0:MakesG (cxOf (CXG P w) P w K mg base N qual scope f cd A outer s H E) (fun cls dct _ H'=>E cls dct H'):=by
 intro pins σ H1 s1 e cls dct I hx n0 ns nl nc np q
 have hin:∀ env∈(cxOf (CXG P w) P w K mg base N qual scope f cd A outer s H E).stack,∀ a,env.frame=some a->a∈e :: frs (cxOf (CXG P w) P w K mg base N qual scope f cd A outer s H E).stack:=fun env he a hf=>List.mem_cons_of_mem _ (List.mem_filterMap.mpr ⟨env,he,hf⟩)
 obtain ⟨oe,vs,he,hc,hdc,hd,v1,v2⟩:=hx.ex
 show wpAny _ _ (leaving _ (.ref e)) _ _ _
 have ns:s.heap.get? e=none:=ns
 refine leave_madeD (B:=hideAll s1.heap (e :: frs (cxOf (CXG P w) P w K mg base N qual scope f cd A outer s H E).stack)) I.ok.frames rfl (fun b o q=>of_hideAll _ q) (funFrames_hide I.stack hin) he hc hdc hd v1 v2 (hideAll_none _ (List.mem_cons_self ..)) fun h' x1 x4=>?_
 have kB:(hideAll s1.heap (e :: frs (cxOf (CXG P w) P w K mg base N qual scope f cd A outer s H E).stack)).StaysIn s1.heap:=fun b o q=>of_hideAll _ q
 have hid:∀ b o,s1.heap.get? b=some o->b≠e->b ∉ frs (cxOf (CXG P w) P w K mg base N qual scope f cd A outer s H E).stack->(hideAll s1.heap (e :: frs (cxOf (CXG P w) P w K mg base N qual scope f cd A outer s H E).stack)).get? b=some o:=fun b o g n1 n2=>hideAll_get _ g fun z=>(List.mem_cons.mp z).elim n1 n2
 have trk:∀ b u,H1 b=some u->∃ o,(hideAll s1.heap (e :: frs (cxOf (CXG P w) P w K mg base N qual scope f cd A outer s H E).stack)).get? b=some o:=fun b u eb=>by
  obtain ⟨o,ho⟩:=objOk_there (I.hok b u eb)
  exact ⟨o,hid b o ho (fun z=>by rw [z,n0] at eb; cases eb) fun z=>by rw [I.stkFree b z] at eb; cases eb⟩
 have hp:∀ p∈[] ++ pins,(hideAll s1.heap (e :: frs (cxOf (CXG P w) P w K mg base N qual scope f cd A outer s H E).stack)).get? p.1=some p.2:=fun p hq=>by
  obtain ⟨p1,p2,p3,p4,_⟩:=I.pin p hq
  exact hid _ _ p1 (np p hq) fun z=>(List.mem_cons.mp (I.stkSub _ z)).elim p3 p4
 have o1:∀ b o,s.heap.get? b=some o->H b=none->b ∉ frs outer->b ∉ ([]:List Addr)->(hideAll s1.heap (e :: frs (cxOf (CXG P w) P w K mg base N qual scope f cd A outer s H E).stack)).get? b=some o:=fun b o q n hb hx=>hid _ _ (I.base.keep b o q n hb hx) (fun z=>by rw [z,ns] at q; cases q) (I.nostk q hb)
 have o2:∀ b o,s.heap.get? b=some o->b ∉ frs outer->b ∉ ([]:List Addr)->∃ o',(hideAll s1.heap (e :: frs (cxOf (CXG P w) P w K mg base N qual scope f cd A outer s H E).stack)).get? b=some o':=fun b o q hb hx=>by
  obtain ⟨o',eo⟩:=I.base.there b o q hx
  exact ⟨o',hid _ _ eo (fun z=>by rw [z,ns] at q; cases q) (I.nostk q hb)⟩
 have J':=I.flown kB x1.st x4 trk hp o1 o2
 exact ⟨e,cls,dct,H1,rfl,J'.os,J'.bare,J'.base,J'.hok,q,_,x1,trk,fun b o q n hb=>o1 b o q n hb (by intro z; cases z),fun b o q hb=>o2 b o q hb (by intro z; cases z)⟩
end
section
variable {X:Cx}{W:Value->Option Addr->St->Hp->Prop}
theorem run_fnG {k:Nat}{f:Addr}{fd:FuncData}{ps:List Str}{sp:Sp}{ds:List Value}{dvs:List V}{pins:List (Addr × Obj)}{σ:St}{H:Hp}{s:Shared}{Q:VK}{us:List Value}{vs:List V}(F:FnOk X.prog X.w X.K X.mg X.base (CXG X.prog X.w) k f fd ps sp) (hr:Room k X.A) (hb:Binds X.K fd ps ds) (hd:Vals dvs ds) (hL:LetsG X W)
  (I:Inv X pins σ H s) (r:Vals vs us) (h:sp (vs ++ dvs) H Q (fun cls dct H'=>W cls dct σ H')):wpAny (model X.prog X.w) X.A (call (.ref f) us) (EP X pins σ Q) X.xe s:=by
 have r2:Vals (vs ++ dvs) (us ++ ds):=r.append hd
 have hl:(us ++ ds).length=ps.length:=by rw [<- r2.length]; exact F.len _ _ _ _ h
 refine wpAny_call (codeAny_mono (F.run X.A X.stack s H ⟨us,[]⟩ (us ++ ds) (vs ++ dvs) Q _ hr I.env0 (hb s us I.kIn hl) r2 h) fun r s' hq=>?_)
 cases r with
 | error e=>exact hL pins σ H s e s' I hq
 | ok fl =>
  cases fl with
  | ret u=>exact I.after hq
  | next=>exact False.elim hq
  | brk=>exact False.elim hq
  | cont=>exact False.elim hq
end
theorem Fun.okG {P:Program}{w:World}{K:PySem.W.Frag}{mg:Str->Option Value}{base:Heap}{x qual:Str}{st:Stmt}{f:Addr}{fd:FuncData}{N ps:List Str}{k:Nat}{sp:Sp}(F:Fun K x qual st f fd) (S:FnScope N ps (defScope st)) (len:∀ vs H Q E,sp vs H Q E->vs.length=ps.length)
  (hbody:∀ (cdv:Value) (A:Around) (outer:List Env) (s:Shared) (H:Hp) (vs:List V) (Q:VK) (E:XK),Room k (A.deeper (envOfC qual (defScope st) s.heap.objs.size f cdv))->sp vs H Q E ->
   ∃ t,PSs (cxOf (CXG P w) P w K mg base N qual (defScope st) f cdv A outer s H E) (defBody st) t/\t { nx:=fun _ H'=>Q .non H',rt:=Q } (start N vs) H):FnOk P w K mg base (CXG P w) (k + 1) f fd ps sp:=by
 obtain ⟨oc,od,kV,doc,pm,an,cdv,ct,osl,rfl,lk,hcd⟩:=F.ex
 exact fn_of lk hcd S len fun A outer s H vs Q E hr hsp=>hbody cdv A outer s H vs Q E hr hsp
end L2
namespace L2
open PySem PySem.Spec PyProof.Rows PySem.W
abbrev Cx.tryG (X:Cx) (pins:List (Addr × Obj)) (W:Value->Option Addr->St->Hp->Prop):Cx :=
 { X with pn:=X.pn ++ pins,xe:=fun e s'=>∃ a cls dct σ H',e=.ref a/\Inv X pins σ H' s'/\FlyInG X pins H' a cls dct s'.heap/\W cls dct σ H' }
def ExcG (a:Addr) (cls:Value) (dct:Option Addr):HO:=.ext fun h=>∃ oe vs,h.get? a=some oe/\oe.cls=cls/\oe.dict=dct/\oe.data=.fields vs/\vs[2]?=some .none
section
variable {X:Cx}{pins:List (Addr × Obj)}{σ:St}{H:Hp}{s:Shared}{W:Value->Option Addr->St->Hp->Prop}
theorem Inv.tryG (I:Inv X pins σ H s) (W:Value->Option Addr->St->Hp->Prop):Inv (X.tryG pins W) [] σ H s :=
 ⟨⟨I.ok.mod,I.ok.kind,I.ok.glob,I.ok.blt,I.ok.above,I.ok.inj,I.ok.has,I.ok.cab,I.ok.hd,I.ok.frames,I.ok.stk,I.ok.exf,I.ok.bs,I.ok.bsz,I.ok.noex,I.ok.exfs,I.ok.funs,I.ok.frf⟩,I.os,I.bare,I.base,I.loc,I.cell,I.free,I.freeC,fun p hp=>I.pin p (by simpa using hp),I.hok,I.len⟩
theorem Inv.untryG {pins':List (Addr × Obj)}(I:Inv (X.tryG pins W) pins' σ H s):Inv X pins σ H s :=
 ⟨⟨I.ok.mod,I.ok.kind,I.ok.glob,I.ok.blt,I.ok.above,I.ok.inj,I.ok.has,I.ok.cab,I.ok.hd,I.ok.frames,I.ok.stk,I.ok.exf,I.ok.bs,I.ok.bsz,I.ok.noex,I.ok.exfs,I.ok.funs,I.ok.frf⟩,I.os,I.bare,I.base,I.loc,I.cell,I.free,I.freeC,fun p hp=>I.pin p (List.mem_append_left _ hp),I.hok,I.len⟩
theorem SP.untryG {D:Ends}{f:Flow}{s':Shared}{pins':List (Addr × Obj)}(h:SP (X.tryG pins W) pins' D f s'):SP X pins D f s':=by
 cases f with
 | next=>obtain ⟨σ',H',I,q⟩:=h; exact ⟨σ',H',I.untryG,q⟩
 | brk=>obtain ⟨σ',H',I,q⟩:=h; exact ⟨σ',H',I.untryG,q⟩
 | cont=>obtain ⟨σ',H',I,q⟩:=h; exact ⟨σ',H',I.untryG,q⟩
 | ret u=>obtain ⟨v,σ',H',I,r,q⟩:=h; exact ⟨v,σ',H',I.untryG,r,q⟩
theorem letsGT:LetsG (X.tryG pins W) W:=by
 rintro pins' σ H s e s' I ⟨a,cls,dct,H',rfl,os,bare,un,hok,q,F⟩
 have J:=I.call' os un hok bare (fun b z=>absurd z (by simp))
 obtain ⟨B,hfl,trk,hp,o1,o2⟩:=(I.flyinG F).ex
 exact ⟨a,cls,dct,σ,H',rfl,J.untryG,⟨B,hfl,trk,fun p h=>hp p (List.mem_append_left _ h),o1,o2⟩,q⟩
end
def tTryAsG (K:Frag) (C:Addr) (i:Nat) (tb:(Value->Option Addr->St->Hp->Prop)->TS) (ts:Addr->TS):TS:=fun D σ H =>
 tb (fun cls dct σ' H'=>exmOne K cls (.ref C)=some true/\∀ a,H' a=none->ts a { nx:=fun σ2 H2=>D.nx (σ2.set i none) H2,rt:=D.rt,bk:=fun σ2 H2=>D.bk (σ2.set i none) H2,ct:=fun σ2 H2=>D.ct (σ2.set i none) H2 } (σ'.set i (some (.ref a))) (upd H' a (ExcG a cls dct))) D σ H
theorem ps_tryAsG {X:Cx}{body suite:List Stmt}{b0:Stmt}{x n:Str}{C:Addr}{i:Nat}{xp hp pos:Pos}{tb:(Value->Option Addr->St->Hp->Prop)->TS}{ts:Addr->TS}(hstk:X.stack=X.env :: X.outer) (hfr:X.env.frame=some X.env.locals) (hex:X.ex=[]) (hN:X.N.Nodup) (hi:X.N[i]?=some n) (hk:X.env.scope.names.lookup n=some .local)
  (hg:Gl X x) (hm:X.mg x=some (.ref C)) (hb:∀ pins W,PSs (X.tryG pins W) body (tb W)) (hs:∀ a,PSs (X.hnd a) (b0 :: suite) (ts a)) (hdb:(x == ("__debug__":Str))=false:=by decide) :
  PS X (.Try body [.ExceptHandler (some (.Name x xp)) (some n) (b0 :: suite) hp] [] [] pos) (tTryAsG X.K C i tb ts):=by
 intro pins s σ H D I h
 refine wpAny_Try_except ?_
 refine wpAny_mono (hb pins _ [] s σ H D (I.tryG _) h) (fun f s1 q=>?_) fun e s1 q=>?_
 ·have q':=q.untryG
  cases f with
  | next=>exact wpAny_pure q'
  | brk=>exact q'
  | cont=>exact q'
  | ret u=>exact q'
 ·obtain ⟨a,cls,dct,σ',H',rfl,I1,⟨B,hfl,trk,hp',o1,o2⟩,w1,w2⟩:=q
  have frm:X.A.frames=some (X.env :: X.outer):=by rw [<- hstk]; exact I.ok.frames
  rw [hstk] at hfl
  refine look_onD frm hfr hfl fun h1 G1 u1=>?_
  have I2:=I1.flown hfl.st G1.st u1 trk hp' o1 o2
  refine land_d (s:={ s1 with heap:=h1 }) G1 fun h2 G2 u2=>?_
  have I3:=I2.flown G1.st G2.st u2 trk hp' o1 o2
  refine wpAny_handleBy_cons (codeAny_handlers_test ?_) (fun z=>nomatch z)
  refine ld_glob (X:=X.hnd a) (I3.hnd a) hg hm ?_ hdb
  obtain ⟨oe,vs,T,oT,ts',he,hc,r⟩:=G2.tr
  have lt:Looks (model X.prog X.w) h2 (typeOf (.ref a)) cls:=by
   rw [<- hc]
   exact (Looks.ld he).andThen .now
  refine (exm_one (M:=model X.prog X.w) (K:=X.K) (h:=h2) (I3.kIn) lt w1).here ?_
  refine codeAny_handlers_suite_as ?_
  refine land_d (s:={ s1 with heap:=h2 }) G2 fun h3 G3 u3=>?_
  have I4:=I3.flown G2.st G3.st u3 trk hp' o1 o2
  have nH:H' a=none:=by
   cases e:H' a with
   | none=>rfl
   | some u=>obtain ⟨o,ho⟩:=trk a u e; rw [hfl.no] at ho; cases ho
  obtain ⟨oe3,vs3,T3,oT3,ts3,he3,hc3,hno3,hd3,v31,v32,r3⟩:=G3.tr
  have nfr:a ∉ frs (X.env :: X.outer):=fun z=>by
   obtain ⟨_,o,ho,nf⟩:=G3.fr.mem z
   rw [he3] at ho; cases ho
   exact nf _ hd3
  have inl:X.env.locals∈frs (X.env :: X.outer):=by rw [frs,List.filterMap_cons,hfr]; exact List.mem_cons_self
  have sub:∀ b,b∈X.fs->b∈frs (X.env :: X.outer):=fun b hb=>by rw [frs,List.filterMap_cons,hfr]; exact List.mem_cons_of_mem _ hb
  have n0:X.s₀.heap.get? a=none:=by
   cases e:X.s₀.heap.get? a with
   | none=>rfl
   | some o =>
    obtain ⟨o',ho'⟩:=o2 a o e (fun z=>nfr (sub a z)) (by rw [hex]; simp)
    rw [hfl.no] at ho'; cases ho'
  have I5:=I4.track (a:=a) (o:=ExcG a cls dct) nH n0 (fun z=>nfr (z ▸ inl)) (fun y c ec z=>by
   obtain ⟨v,oc,hoc,hdc⟩:=I4.cell y c ec
   rw [z] at hoc
   have hoc':h3.get? a=some oc:=hoc
   rw [he3] at hoc'; cases hoc'
   rw [hd3] at hdc; cases hdc) (fun p hp z=>by
   have:=hp' p hp
   rw [z,hfl.no] at this; cases this) ⟨⟨oe3,vs3,he3,hc3,hno3,hd3,v32⟩,⟨_,he3⟩,fun g1 g2 ⟨oe,vs,e,r⟩ k=>⟨oe,vs,k _ e,r⟩⟩
  refine store_ok2 I5 hN hi (.inl hk) (show RelV (V.ref a) (Value.ref a) from rfl) (fun s6 I6 _=>?_) (.inr hk)
  refine wpAny_mono (hs a pins s6 _ _ _ (I6.hnd a) (w2 a nH)) (fun f s7 q=>?_) fun _ _ z=>False.elim z
  have un:∀ {σ7:St} {H7:Hp},Inv (X.hnd a) pins σ7 H7 s7->Inv X pins σ7 H7 s7:=fun J=>J.unhnd I.ok.hd I.ok.frames
  cases f with
  | next =>
   obtain ⟨σ7,H7,J,q⟩:=q
   exact goes_ok (un J) hN hi hk fun s' J'=>⟨_,_,J',q⟩
  | brk =>
   obtain ⟨σ7,H7,J,q⟩:=q
   exact goes_ok (un J) hN hi hk fun s' J'=>⟨_,_,J',q⟩
  | cont =>
   obtain ⟨σ7,H7,J,q⟩:=q
   exact goes_ok (un J) hN hi hk fun s' J'=>⟨_,_,J',q⟩
  | ret u =>
   obtain ⟨v,σ7,H7,J,r,q⟩:=q
   exact goes_ok (un J) hN hi hk fun s' J'=>⟨v,_,_,J',r,q⟩
end L2
namespace L2
open PySem PySem.Spec PyProof.Rows PySem.W
def ExcAtG (a C d:Addr) (h:Heap):Prop:=∃ oe vs od,h.get? a=some oe/\oe.cls=.ref C/\oe.dict=some d/\oe.data=.fields vs/\h.get? d=some od
section
variable {prog:Program}{w:World}{A:Around}{E:Value->Shared->Prop}{K:Frag}{h:Heap}{g:Array GenState}{d:Drawn}{t:Nat}{os:OsState}{a C dc:Addr}
theorem excInstG {oe od:Obj}{vs:Array Value}(h1:h.get? a=some oe) (h2:oe.cls=.ref C) (h3:oe.dict=some dc) (h4:oe.data=.fields vs) (h5:h.get? dc=some od):InstAt h a oe C (some od):=by
 refine ⟨h1,h2,?_,?_⟩
 ·obtain ⟨_,_,dt,_⟩:=oe
  have:dt=.fields vs:=h4
  subst this
  rfl
 ·rw [h3]; exact h5
theorem exc_checkG {nameV:Value}{Q:Unit->Shared->Prop}(X:K.In h) (F:ExcK K C) (p:ExcAtG a C dc h) (q:Q () ⟨h,g,d,t,os⟩):wpAny (model prog w) A (checkBuiltinCall "BaseException.__getattribute__" ⟨[.ref a,nameV],[]⟩) Q E ⟨h,g,d,t,os⟩:=by
 obtain ⟨oe,vs,od,h1,h2,h3,h4,h5⟩:=p
 have L0:Looks (model prog w) h (typeOf (.ref a)) (.ref C):=h2 ▸ (Looks.ld h1).andThen .now
 have L1:=looks_mroIn (M:=model prog w) X F.be
 have hk:builtinKind "BaseException.__getattribute__"=some .slot:=by decide +kernel
 have hs:splitId "BaseException.__getattribute__"=some ("BaseException","__getattribute__"):=by decide +kernel
 have ha:=PySem.F.args_bexc_ga (.ref a) nameV
 simp only [checkBuiltinCall,hk,hs]
 refine wpAny_bind ?_
 unfold isInstance
 repeat (first | with_reducible refine L0.at ?_ | with_reducible refine L1.at ?_ | wp_step)
 exact q
end
end L2
namespace L2
open PySem PySem.Spec PyProof.Rows PySem.W
section
variable {prog:Program}{w:World}{A:Around}{E:Value->Shared->Prop}{K:Frag}{h:Heap}{g:Array GenState}{d:Drawn}{t:Nat}{os:OsState}{a C dc:Addr}{oe od:Obj}{name:Str}{v:Value}
theorem exc_entryM {tk:Tok}{Q:Fin->Shared->Prop}(X:K.In h) (I:InstAt h a oe C (some od)) (hf:findObj K C (some od) name=some (.value v)) (q:Q (.done (.ret v)) ⟨h,g,d,t,os⟩) :
  wpAny (model prog w) A (Builtin.«object.__getattribute__» ⟨[.ref a,.str name tk],[]⟩) Q E ⟨h,g,d,t,os⟩:=by
 have L0:=I.type (M:=model prog w)
 have L1:=looks_find (M:=model prog w) X I hf
 refine wpAny_bind (wpAny_pure (wpAny_bind (wpAny_pure (wpAny_bind (L0.at (wpAny_bind (L1.at ?_)))))))
 exact wpAny_pure q
theorem exc_byM {tk:Tok}{b c:Bool}{vs:Array Value}{Q:Value->Shared->Prop}(X:K.In h) (F:ExcK K C) (h1:h.get? a=some oe) (h2:oe.cls=.ref C) (h3:oe.dict=some dc) (h4:oe.data=.fields vs) (h5:h.get? dc=some od)
  (hf:findObj K C (some od) name=some (.value v)) (hv:handedIn v=true) (q:Q v ⟨h,g,d,t,os⟩) :
  wpAny (model prog w) A (getAttrBy (.ref a) (.str name tk) b c) Q E ⟨h,g,d,t,os⟩:=by
 have p':ExcAtG a C dc h:=⟨oe,vs,od,h1,h2,h3,h4,h5⟩
 have L0:Looks (model prog w) h (typeOf (.ref a)) (.ref C):=h2 ▸ (Looks.ld h1).andThen .now
 have L1:=looks_findIn (M:=model prog w) X F.ga
 have L2:=looks_findIn (M:=model prog w) X F.no
 have b0:=PySem.F.excAttr_ValueError.ga.bind (.ref a)
 have n0:(onTheHeap (Value.ref C) && Value.builtin "BaseException.__getattribute__" == Value.builtin "object.__getattribute__")=false:=by
  have n1:(Value.builtin "BaseException.__getattribute__" == Value.builtin "object.__getattribute__")=false:=by decide +kernel
  rw [n1]; rfl
 cases b <;> cases c
 all_goals repeat (any_goals (first | assumption | with_reducible refine L0.at ?_ | with_reducible refine L1.at ?_ | with_reducible refine L2.at ?_ | wp_step))
 all_goals refine codeAny_call_builtin PySem.F.excAttr_ValueError.ga.plain PySem.F.entry_bexc_ga (exc_checkG X F p' (exc_entryM X (excInstG h1 h2 h3 h4 h5) hf ?_))
 all_goals show wpAny _ _ (handedOut v) _ _ _
 all_goals rw [handedOut_of hv]
 all_goals exact wpAny_pure q
end
end L2
namespace L2
open PySem PySem.Spec PyProof.Rows PySem.W
section
variable {prog:Program}{w:World}{A:Around}{E:Value->Shared->Prop}{K:Frag}{s:Shared}{x C:Addr}{ox:Obj}{od:Option Obj}{cd:ClassData}{name:Str}{v:Value}
theorem osa_exc {tk:Tok}{R:Result->Shared->Prop}(X:K.In s.heap) (I:InstAt s.heap x ox C od) (hc:clsIn K C=some cd) (hob:mroIn K C (.type "object")=some true) (hr:refuseLoop (.ref x) "__setattr__" cd.mro=pure ()) (ha:findIn K (.ref C) name=some none)
  (h:wpAny (model prog w) A.in1 (Builtin.ObjectAttr.storeInOwnDict (.ref x) (.ref C) (.str name tk) name v false)
   (fun fin s'=>match fin with | .done f=>R (.ok f) s' | .again c'=>c'.quiet=true/\codeAny (model prog w) A c' R s') (fun e s'=>R (.error e) s') s) :
  codeAny (model prog w) A (.call (.builtin "object.__setattr__") ⟨[.ref x,.str name tk,v],[]⟩) R s:=by
 have SF:=PySem.F.store_object
 have sub:Looks (model prog w) s.heap (isInstance (.ref x) (.type "object")) true:=I.type.andThen (looks_mroIn X hob)
 refine codeAny_call_builtin SF.slot.plain SF.entry (@check_slot (model prog w) _ _ s "object.__setattr__" "object" "__setattr__" (.ref x) [.str name tk,v] [] _ SF.kind SF.split sub (SF.args (.ref x) (.str name tk) v) ?_)
 have hm:Looks (model prog w) s.heap (mroOf (.ref C)) cd.mro:=(looks_clsIn X hc).andThen .now
 have L3:Looks (model prog w) s.heap (Builtin.ObjectAttr.storeTaker? none) none:=.now
 rw [osa_eq,refuse_eq]
 refine wpAny_bind (wpAny_bind (I.type.here (wpAny_bind (hm.here ?_))))
 rw [hr]
 refine wpAny_pure (wpAny_bind (I.type.here (wpAny_bind ((looks_findIn X ha).here (wpAny_bind (L3.here ?_))))))
 exact h
theorem store_exc {Q:Unit->Shared->Prop}(X:K.In s.heap) (I:InstAt s.heap x ox C none) (hdn:ox.dict=none) (hs:findIn K (.ref C) "__setattr__"=some (some (.builtin "object.__setattr__"))) (hc:clsIn K C=some cd) (hd:cd.hasDict=true) (hob:mroIn K C (.type "object")=some true) (hr:refuseLoop (.ref x) "__setattr__" cd.mro=pure ()) (ha:findIn K (.ref C) name=some none)
  (h:∀ h' t',h'.get? x=some { ox with dict:=some s.heap.objs.size }->h'.Ns1 s.heap.objs.size (fun y=>if y=name then some v else none)->(∀ b o,b≠x->s.heap.get? b=some o->h'.get? b=some o)->Q () { s with heap:=h',toks:=t' }) :
  wpAny (model prog w) A (setAttr (.ref x) name v) Q E s:=by
 refine set_plain X I hs (osa_exc (s:={ s with toks:=s.toks + 1 }) X I hc hob hr ha ?_)
 obtain ⟨hx,hcl,hn,-⟩:=I
 obtain ⟨hp,g,d,t,os⟩:=s
 obtain ⟨oc,odi,oda,osl⟩:=ox
 dsimp only at hcl hdn hx h
 subst hcl hdn
 refine wpAny_bind (wpAny_pure (wpAny_bind (wpAny_bind (wpAny_loadPart hx (wpAny_bind (PySem.W.Looks.here (s:=⟨hp,g,d,t + 1,os⟩) (looks_clsIn X hc) ?_))))))
 rw [hd]
 have hxs:x≠hp.objs.size:=Nat.ne_of_lt (Heap.lt_size hx)
 have hx₁:(hp.push { cls:=.type "dict",data:=.dict #[] }).get? x=some ⟨.ref C,none,oda,osl⟩:=Heap.get?_push_of_some _ hx
 have body:wpAny (model prog w) A.in1 (do
   let a <- alloc { cls:=.type "dict",data:=.dict #[] }
   update x fun o=>{ o with dict:=some a }
   pure (some a)) (fun r s'=>wpAny (model prog w) A.in1 (match r with | some d=>Builtin.ObjectAttr.storeInDict d (.str name t) name v | none=>Builtin.ObjectAttr.noDictFor (.ref x) (.ref C) name false) (fun fin s'=>match fin with | .done f=>(match (Except.ok f:Result) with | .ok (.ret _)=>Q () s' | .ok _=>False | .error e=>E e s') | .again c'=>c'.quiet=true/\codeAny (model prog w) A c' (fun r s'=>match r with | .ok (.ret _)=>Q () s' | .ok _=>False | .error e=>E e s') s') E s') E ⟨hp,g,d,t + 1,os⟩:=by
  refine wpAny_bind (wpAny_alloc' (wpAny_bind (wpAny_update' hx₁ (wpAny_pure ?_))))
  have hgd:((hp.push { cls:=.type "dict",data:=.dict #[] }).update x fun o=>{ o with dict:=some hp.objs.size }).get? hp.objs.size=some { cls:=.type "dict",data:=.dict #[] } :=
   (Heap.get?_update_ne _ _ _ _ hxs.symm).trans (Heap.get?_push_at rfl rfl)
  have hnd:((hp.push { cls:=.type "dict",data:=.dict #[] }).update x fun o=>{ o with dict:=some hp.objs.size }).Ns hp.objs.size (fun _=>none) :=
   ⟨_,#[],_,hgd,rfl,fun e he=>absurd he (by simp),fun _=>rfl⟩
  show wpAny _ _ (Builtin.ObjectAttr.storeInDict hp.objs.size (.str name t) name v) _ _ _
  unfold Builtin.ObjectAttr.storeInDict Builtin.ObjectAttr.newKeyGuard
  refine wpAny_bind (wpAny_pure (wpAny_bind (wpAny_nsSet1 (Heap.Ns1.of_empty hnd) fun h' hn' hs=>?_)))
  obtain ⟨oD,esD,epD,hoD,hdD,hcD⟩:=hn'.count (Within.cons name v Within.nil)
  refine wpAny_bind (wpAny_lookBehind hoD (by rw [hdD]; exact pastItsLine_dict (Nat.le_trans hcD (by rw [List.length_cons,List.length_nil,sizeLine_eq]; omega))) ?_)
  refine wpAny_pure (h h' _ ?_ hn' fun b o hbx hb=>?_)
  ·refine (hs.2 x hxs).trans (Heap.get?_update_self _ hx₁ ?_)
   have hfr:=(Heap.get?_some_iff.mp hx).2
   cases oda <;> first | rfl | exact hfr
  ·exact (hs.2 b (Nat.ne_of_lt (Heap.lt_size hb))).trans ((Heap.get?_update_ne _ _ _ _ hbx).trans (Heap.get?_push_of_some _ hb))
 cases oda with
 | cls c=>cases hn
 | _=>exact body
end
end L2
namespace L2
open PySem PySem.Spec PyProof.Rows PySem.W
abbrev excObj (cls:Value) (dct:Option Addr) (t:Addr):Obj:={ cls:=cls,dict:=dct,data:=.fields #[.ref t,.none,.none,.none,.bool false,.none] }
def ExcM (a:Addr) (cls:Value) (dct:Option Addr):HO:=.ext fun h=>∃ t,h.get? a=some (excObj cls dct t)
theorem excM_ok {P:Program}{w:World}{H:Hp}{h:Heap}{a t:Addr}{cls:Value}{dct:Option Addr}(h1:h.get? a=some (excObj cls dct t)):ObjOk P w H h a (ExcM a cls dct) :=
 ⟨⟨t,h1⟩,⟨_,h1⟩,fun g1 g2 ⟨t,e⟩ k=>⟨t,k _ e⟩⟩
structure ExcW (K:Frag) (C:Addr):Prop where
 sa:findIn K (.ref C) "__setattr__"=some (some (.builtin "object.__setattr__"))
 ob:mroIn K C (.type "object")=some true
 cd:∃ cd,clsIn K C=some cd/\cd.hasDict=true/\∀ self:Value,refuseLoop self "__setattr__" cd.mro=pure ()
section
variable {X:Cx}{pins:List (Addr × Obj)}{σ:St}{H:Hp}{s:Shared}{a C d:Addr}{fs:List (Str × V)}{f:Str}{v:V}{A:Around}{E:Value->Shared->Prop}
theorem setattr_exc {y:V}{u:Value}{Q:Unit->Shared->Prop}(I:Inv X pins σ H s) (e:H a=some (ExcM a (.ref C) none)) (c:ExcW X.K C) (n:NoAttr X.K C f) (ry:RelV y u)
  (h:∀ d s',H d=none->d≠a->Inv X pins σ (upd (upd H d (.xd [(f,y)])) a (ExcM a (.ref C) (some d))) s'->Q () s'):wpAny (model X.prog X.w) A (setAttr (.ref a) f u) Q E s:=by
 obtain ⟨⟨t,h1⟩,_⟩:=I.hok a _ e
 obtain ⟨cd,hc,hd,hr⟩:=c.cd
 have na:s.heap.objs.size≠a:=Nat.ne_of_gt (Heap.lt_size h1)
 refine store_exc I.kIn (excInst h1 rfl rfl rfl) rfl c.sa hc hd c.ob (hr _) n fun h' t' g1 g2 g3=>?_
 refine h s.heap.objs.size _ (I.hok.fresh (Nat.le_refl _)) na ?_
 obtain ⟨od,es,ep,ho,r⟩:=g2
 have nf:od.isFreed=false:=(Heap.get?_some_iff.mp ho).2
 have e1:(s.heap.push od).get? s.heap.objs.size=some od:=Heap.get?_push_size _ nf
 have I1:=I.laid (a:=s.heap.objs.size) (o:=.xd [(f,y)]) (h':=s.heap.push od) (t':=t') (fun b u q=>Heap.get?_push_of_some _ q) (Nat.le_refl _) ⟨_,⟨od,es,ep,e1,r⟩,fun g=>by
  show RelO (List.lookup g [(f,y)]) (if g=f then some u else none)
  by_cases q:g=f
  ·rw [q,if_pos rfl]; simp only [List.lookup,beq_self_eq_true]; exact ry
  ·rw [if_neg q]; have:(g == f)=false:=by simpa using q
   simp only [List.lookup,this]; exact True.intro⟩
 refine I1.write (x:=a) (e:=a) (h':=h') (t':=t') (by rw [upd_ne (Ne.symm na),e]; exact True.intro) (.inl rfl) (fun b u hb q=>?_) ⟨_,g1⟩ (excM_ok (t:=t) g1)
 rcases Heap.get?_push_cases q with ⟨rfl,rfl⟩ | q'
 ·exact ho
 ·exact g3 b u hb q'
theorem getattr_exc {b:Bool}{Q:Value->Shared->Prop}(I:Inv X pins σ H s) (e:H a=some (ExcG a (.ref C) (some d))) (ed:H d=some (.xd fs)) (c:ExcK X.K C) (hh:hasDictIn X.K C=true) (n:NoAttr X.K C f) (l:fs.lookup f=some v)
  (h:∀ u s',Inv X pins σ H s'->RelV v u->Q u s'):wpAny (model X.prog X.w) A (getAttr (.ref a) f b) Q E s:=by
 obtain ⟨⟨oe,vs,h1,h2,h3,h4,_⟩,_⟩:=I.hok a _ e
 obtain ⟨mA,hn,r⟩:=I.hok d _ ed
 obtain ⟨od,ho,hl⟩:=lookIn_ns hn
 obtain ⟨u,hu,ru⟩:=RelO.some_of (v:=v) (o:=mA f) (by rw [<- l]; exact r f)
 obtain ⟨hp,g,dd,t,os⟩:=s
 unfold getAttr
 refine wpAny_bind (wpAny_mkText ?_)
 exact exc_byM I.kIn c h1 h2 h3 h4 ho (findObj_own hh n rfl (by rw [hl,hu])) (handed_of ru) (h u _ (I.tok _) ru)
end
def tFldG (K:Frag) (ta:TE) (f:Str):TE:=fun σ H Q=>ta σ H fun x H1=>∃ a C d fs v,x=.ref a/\H1 a=some (ExcG a (.ref C) (some d))/\H1 d=some (.xd fs)/\ExcK K C/\hasDictIn K C=true/\NoAttr K C f/\fs.lookup f=some v/\Q v H1
def sFldG (K:Frag) (ta tv:TE) (f:Str):TS:=fun D σ H=>tv σ H fun y H1=>ta σ H1 fun x H2=>∃ a C,x=.ref a/\H2 a=some (ExcM a (.ref C) none)/\ExcW K C/\NoAttr K C f /\
 ∀ d,H2 d=none->d≠a->D.nx σ (upd (upd H2 d (.xd [(f,y)])) a (ExcM a (.ref C) (some d)))
section
variable {X:Cx}{o e value:Expr}{f:Str}{pos pos':Pos}{ta tv:TE}
theorem pe_fldG (he:PE X e ta) (hb:attributeBase e f X.env (eval e X.env)=eval e X.env):PE X (.Attribute e f pos) (tFldG X.K ta f):=by
 intro pins s σ H Q I h
 refine attr_of hb (thn (he pins s σ H _ I h) fun u s1 hz0=>?_)
 obtain ⟨x,H1,I1,rx,a,C,d,fs,v,ex,ea,ed,c,hh,n,l,q⟩:=hz0
 subst ex
 obtain rfl:u=Value.ref a:=rx
 exact getattr_exc I1 ea ed c hh n l fun u' s2 I2 ru=>⟨v,H1,I2,ru,q⟩
theorem ps_fldG (ha:PE X o ta) (hv:PE X value tv) (hs:swapsWith value (some (.Attribute o f pos')) pos.line X.env=pure false):PS X (.Assign [.Attribute o f pos'] value pos) (sFldG X.K ta tv f):=by
 intro pins s σ H D I h
 refine plainObj_wpAny_Assign_Attribute (thn (hv pins s σ H _ I h) fun u s1 hz0=>?_) hs
 obtain ⟨y,H1,I1,ry,q⟩:=hz0
 refine thn (ha pins s1 σ H1 _ I1 q) fun ov s2 hz1=>?_
 obtain ⟨x,H2,I2,rx,a,C,ex,ea,c,n,q2⟩:=hz1
 subst ex
 obtain rfl:ov=Value.ref a:=rx
 exact setattr_exc I2 ea c n ry fun d s3 nd na I3=>⟨σ,_,I3,q2 d nd na⟩
end
end L2
namespace L2
open PySem PySem.Spec PyProof.Rows PySem.W
section
variable {prog:Program}{w:World}{A:Around}{E:Value->Shared->Prop}{h:Heap}{g:Array GenState}{d:Drawn}{t:Nat}{os:OsState}
variable {nm q:Str}{C N:Addr}{bs bm bmB:List Value}{hdct:Bool}{sn:List Str}{sub:List Value}{ab:Bool}{col:Option Bool}{dd:Option Addr}{k0 k1 k2 k3 k5:Option Value}{B newId initId:String}
theorem init_exc (F:ExcBaseFacts B newId initId bmB) (T:OwnTail h bmB bm) {e t0:Addr}{rest:List Value}{Q:Value->Shared->Prop}
  (hC:h.get? C=some (excClassObj nm q C N bs bm hdct sn sub ab col dd k0 k1 k2 k3 k5 newId)) (he:h.get? e=some (excObj (.ref C) none t0)) (hrest:rest.length<=sizeLine)
  (hq:∀ h' t1,h'.get? e=some (excObj (.ref C) none t1)->(∀ b o,b≠e->h.get? b=some o->h'.get? b=some o)->Q .none ⟨h',g,d,t,os⟩) :
  wpAny (model prog w) A (call (.builtin initId) (.ref e :: rest)) Q E ⟨h,g,d,t,os⟩:=by
 refine wpAny_call (codeAny_call_builtin F.init.plain F.initEntry (wpAny_check_init_subT F T hC he rfl ?_))
 have he₁:(h.push { cls:=.type "tuple",data:=.seq rest.toArray }).get? e=some (excObj (.ref C) none t0):=Heap.get?_push_of_some _ he
 wp_walk
 refine hq _ h.objs.size ?_ fun b o hb q=>?_
 ·rw [Heap.get?_update_self _ he₁ rfl]
  rfl
 ·rw [Heap.get?_update_other _ _ (Ne.symm hb)]
  exact Heap.get?_push_of_some _ q
end
end L2
namespace L2
open PySem PySem.Spec PyProof.Rows PySem.W
def del (H:Hp) (a:Addr):Hp:=fun b=>if b=a then none else H b
theorem del_same {H:Hp}{a:Addr}:del H a a=none:=by unfold del; rw [if_pos rfl]
theorem del_ne {H:Hp}{a b:Addr}(h:b≠a):del H a b=H b:=by unfold del; rw [if_neg h]
theorem del_none {H:Hp}{a b:Addr}(h:H b=none):del H a b=none:=by unfold del; split <;> first | rfl | exact h
theorem upd_id {H:Hp}{a:Addr}{o:HO}(h:H a=some o):upd H a o=H:=by
 funext b; unfold upd; split
 ·rename_i e; rw [e,h]
 ·rfl
section
variable {X:Cx}{pins:List (Addr × Obj)}{σ:St}{H:Hp}{s:Shared}{a C R fI:Addr}{cls:Value}{dct:Option Addr}
theorem Inv.untrack {φ:Heap->Prop}(I:Inv X pins σ H s) (e:H a=some (.ext φ)):Inv X pins σ (del H a) s:=by
 refine ⟨I.ok,I.os,I.bare,⟨I.base.keep,I.base.slot,fun b u q m hx=>del_none (I.base.free b u q m hx),I.base.there,fun b xs z=>?_,fun b u v z=>?_,fun b ps z=>?_⟩,I.loc,I.cell,del_none I.free,fun x c z=>del_none (I.freeC x c z),fun p hp=>?_,fun b u z=>?_,I.len⟩
 ·have:=I.base.tups b xs z
  rw [del_ne (ne_of this e nofun)]; exact this
 ·have:=I.base.frzs b u v z
  rw [del_ne (ne_of this e nofun)]; exact this
 ·obtain ⟨m,this⟩:=I.base.tbls b ps z
  exact ⟨m,by rw [del_ne (ne_of this e nofun)]; exact this⟩
 ·obtain ⟨p1,p2,p3⟩:=I.pin p hp
  exact ⟨p1,del_none p2,p3⟩
 ·by_cases eb:b=a
  ·rw [eb,del_same] at z; cases z
  ·rw [del_ne eb] at z
   refine (I.hok b u z).stay (fun _ _ _ y=>y) (fun c y=>?_) (fun c xs y=>?_)
   ·rw [del_ne (ne_of y e nofun)]; exact y
   ·rw [del_ne (ne_of y e nofun)]; exact y
end
theorem ns_some_of {K:Frag}{h:Heap}{N:Addr}{mg:Str->Option Value}{n:Str}{v:Value}(X:K.In h) (G:h.Ns N mg) (e:nsIn K N n=some (some v)):mg n=some v:=by
 obtain ⟨o,es,ep,ho,hd,_,hf⟩:=G
 unfold nsIn at e
 split at e
 ·rename_i c d es' n' sl q
  have:=X _ _ q
  rw [ho] at this
  cases this
  cases hd
  split at e
  ·rename_i en he
   cases e
   rw [<- hf]
   unfold nsFind findBy
   rw [<- Array.find?_toList,he]
   rfl
  ·split at e <;> cases e
 ·cases e
def excInI (K:Frag) (C fI:Addr):Bool:=match K.lookup C with
 | some ⟨.type "type",_,.cls cd,sl⟩=>(match cd.mro,sl.toList with
  | .ref C' :: bm,[_,_,_,_,some (.builtin n),_]=>C' == C && n == "ValueError.__new__" && !cd.hasDel && tailIn K vErr bm && nsOkIn K cd.ns && nsIn K cd.ns "__init__" == some (some (.ref fI))
  | _,_=>false)
 | _=>false
structure ExcI (K:Frag) (C fI:Addr):Prop where
 is:excInI K C fI=true
 fn:isFn K (.ref fI)=true
 kp:keepIn K (.ref C)=true
theorem ExcI.own {K:Frag}{C fI:Addr}{h:Heap}(O:ExcI K C fI) (kin:K.In h):∃ tl N nm q bs hdct sn sub ab col dd k0 k1 k2 k3 k5 mN,h.get? C=some (excClassObj nm q C N bs tl hdct sn sub ab col dd k0 k1 k2 k3 k5 "ValueError.__new__")/\h.Ns N mN/\mN "__init__"=some (.ref fI)/\OwnTail h vErr tl:=by
 have q:=O.is
 unfold excInI at q
 split at q
 case h_2=>cases q
 case h_1 d0 c0 s0 look =>
  split at q
  case h_2=>cases q
  case h_1 C1 tl a0 a1 a2 a3 nw a5 em es =>
   obtain ⟨c1,c2,c3,c4,c5,c6,c7,c8,c9,c10,c11⟩:=c0
   obtain ⟨sl⟩:=s0
   simp only [Bool.and_eq_true,beq_iff_eq,Bool.not_eq_true'] at q
   obtain ⟨⟨⟨⟨⟨g1,g2⟩,g3⟩,g4⟩,g5⟩,g6⟩:=q
   dsimp only at em es g3 g5 g6
   subst g1 g2 g3 em es
   have n0:h.Ns c4 (h.nsMap c4):=.of_isNs (isNs_of_in kin g5)
   exact ⟨tl,c4,c1,c5,c2,c6,c7,c8,c9,c10,d0,a0,a1,a2,a3,a5,h.nsMap c4,kin _ _ look,n0,ns_some_of kin n0 g6,tail_of_in kin g4⟩
theorem fn_at {K:Frag}{h:Heap}{f:Addr}(kin:K.In h) (e:isFn K (.ref f)=true):∃ o,h.get? f=some o/\o.cls=.type "function":=by
 have e:(K.lookup f).map (·.cls)=some (.type "function"):=beq_iff_eq.mp e
 obtain ⟨o,ho,hc⟩:=Option.map_eq_some_iff.mp e
 exact ⟨o,kin _ _ ho,hc⟩
section
variable {X:Cx}{CX:CXT}{k:Nat}{C fI:Addr}{fd:FuncData}{ps:List Str}{sp:Sp}{dvs:List V}{ds:List Value}{E:XK}{pins:List (Addr × Obj)}{σ:St}{H:Hp}{s:Shared}
theorem Inv.madeX {h':Heap}{e:Addr}{rest:List Value}(I:Inv X pins σ H s) (hex:X.ex=[]) (mk:Heap.MadeExcOf s.heap h' e (.ref C) rest) :
  H e=none/\X.s₀.heap.get? e=none/\Inv X pins σ (upd H e (ExcM e (.ref C) none)) { s with heap:=h' }:=by
 have n1:H e=none:=by
  cases q:H e with
  | none=>rfl
  | some u=>obtain ⟨o,ho⟩:=objOk_there (I.hok e u q); rw [mk.new] at ho; cases ho
 have n2:X.s₀.heap.get? e=none:=by
  cases q:X.s₀.heap.get? e with
  | none=>rfl
  | some o=>obtain ⟨o',ho⟩:=I.base.there e o q (by rw [hex]; simp); rw [mk.new] at ho; cases ho
 obtain ⟨t,ht,_,_⟩:=mk.there
 refine ⟨n1,n2,Inv.track (I.kept (h':=h') (t':=s.toks) mk.keeps) n1 n2 (fun z=>?_) (fun x c ec z=>?_) (fun p hp z=>?_) (excM_ok ht)⟩
 ·obtain ⟨m,⟨o,es,ep,ho,_⟩,_⟩:=I.loc
  rw [<- z,mk.new] at ho; cases ho
 ·obtain ⟨v,o,ho,_⟩:=I.cell x c ec
  rw [z,mk.new] at ho; cases ho
 ·have:=(I.pin p hp).1
  rw [z,mk.new] at this; cases this
theorem run_makeI {Q:Addr->Hp->Prop}{us:List Value}{vs:List V}(O:ExcI X.K C fI) (F:FnOk X.prog X.w X.K X.mg X.base CX k fI fd ps sp) (hr:Room (k + 1) X.A) (hb:Binds X.K fd ps ds) (hd:Vals dvs ds) (hx:Passes CX X E) (hex:X.ex=[])
  (I:Inv X pins σ H s) (r:Vals vs us) (hz:vs.length<=sizeLine)
  (h:∀ a,H a=none->sp (.ref a :: (vs ++ dvs)) (upd H a (ExcM a (.ref C) none)) (fun v H2=>v=.non/\Q a H2) E) :
  wpAny (model X.prog X.w) X.A (call (.ref C) us) (fun u s'=>∃ a H2,u=.ref a/\X.s₀.heap.get? a=none/\Inv X pins σ H2 s'/\Q a H2) X.xe s:=by
 obtain ⟨tl,N,nm,q,bs,hdct,sn,sub,ab,col,dd,k0,k1,k2,k3,k5,mN,hC,hN,hi,T⟩:=O.own I.kIn
 obtain ⟨oI,hfI,hfc⟩:=fn_at I.kIn O.fn
 obtain ⟨hp,g,d,t,os⟩:=s
 refine call_initT PySem.F.excBase_ValueError T hC hN hi hfI hfc (fun h' e mk=>?_) (by rw [<- r.length]; exact hz)
 obtain ⟨n1,n2,I2⟩:=I.madeX hex mk
 have hq:=h e n1
 have r2:Vals (V.ref e :: (vs ++ dvs)) (Value.ref e :: (us ++ ds)):=.cons rfl (r.append hd)
 have hl:(Value.ref e :: us ++ ds).length=ps.length:=by
  have z:=r2.length
  rw [F.len _ _ _ _ hq] at z
  exact z.symm
 refine wpAny_call (codeAny_mono (F.run _ X.stack _ _ ⟨Value.ref e :: us,[]⟩ (Value.ref e :: (us ++ ds)) _ _ E (hr.make C us []) (I2.env0.make C us []) (hb _ (Value.ref e :: us) I2.kIn hl) r2 hq) fun r s' hq'=>?_)
 cases r with
 | error e=>exact hx pins σ _ _ e s' I2 hq'
 | ok fl =>
  cases fl with
  | ret u =>
   obtain ⟨v,H',I3,rv,ev,q3⟩:=I2.after hq'
   subst ev
   exact ⟨rv,e,H',rfl,n2,I3,q3⟩
  | next=>exact False.elim hq'
  | brk=>exact False.elim hq'
  | cont=>exact False.elim hq'
def tRaiseI (C:Addr) (sp:Sp) (dvs:List V) (E:XK) (W:Value->Option Addr->St->Hp->Prop) (t:TA):TS:=fun _ σ H=>t σ H fun vs H1=>vs.length<=sizeLine /\
 ∀ a,H1 a=none->sp (.ref a :: (vs ++ dvs)) (upd H1 a (ExcM a (.ref C) none)) (fun v H2=>v=.non/\∃ dct,H2 a=some (ExcM a (.ref C) dct)/\W (.ref C) dct σ (del H2 a)) E
theorem ps_raiseI {W:Value->Option Addr->St->Hp->Prop}{x:Str}{e:Expr}{es:List Expr}{t:TA}{np cpos pos:Pos}(hM:MakesG X W) (hc:X.calm=true) (O:ExcI X.K C fI) (F:FnOk X.prog X.w X.K X.mg X.base CX k fI fd ps sp) (hr:Room (k + 1) X.A) (hb:Binds X.K fd ps ds) (hd:Vals dvs ds) (hx:Passes CX X E) (hex:X.ex=[])
  (hg:Gl X x) (hm:X.mg x=some (.ref C)) (ha:PA X (e :: es) t) (hdb:(x == ("__debug__":Str))=false:=by decide)
  (he:starEach (e :: es) X.env=(false,eval e X.env) :: starEach es X.env:=by rfl) (hpl:(backTo cpos (starEach es X.env)).any (·.1)=false:=by rfl) :
  PS X (.Raise (some (.Call (.Name x np) (e :: es) [] cpos)) none pos) (tRaiseI C sp dvs E W t):=by
 intro pins s σ H D I h
 obtain ⟨tl,N,nm,q,bs,hdct,sn,sub,ab,col,dd,k0,k1,k2,k3,k5,mN,hC,hN,hi,T⟩:=O.own I.ok.mod.kin
 rw [arm_exec_Raise]
 refine wpAny_bind (wpAny_standAt (raiseStmt_any (C:=C) (nm:=nm) (q:=q) (N:=N) (bs:=bs) (bm:=tl) (hdct:=hdct) (sn:=sn) (sub:=sub) (ab:=ab) (col:=col) (dd:=dd) (k0:=k0) (k1:=k1) (k2:=k2) (k3:=k3) (k5:=k5) (newId:="ValueError.__new__")
  (T.hasType PySem.F.excBase_ValueError.hasBase) (I.ok.hd hc) (wpAny_bind (wpAny_mono (Q:=fun u s'=>∃ a H2,u=.ref a/\X.s₀.heap.get? a=none/\Inv X pins σ H2 s'/\∃ dct,H2 a=some (ExcM a (.ref C) dct)/\W (.ref C) dct σ (del H2 a)) ?_ (fun v s3 h3=>wpAny_bind (wpAny_standAt (wpAny_pure ?_))) fun _ _ x=>x))))
 ·refine wpAny_Call_Name_kw (ld_glob I hg hm ?_ hdb)
  refine PySem.W.callWith_K (h₀:=X.base) I.ok.mod.kin O.kp (thn (ha cpos pins s σ H _ I h) fun us s1 hz0=>?_) he hpl
  obtain ⟨vs,H1,I1,r,hz,q1⟩:=hz0
  refine ⟨I1.kIn,?_⟩
  exact run_makeI O F hr hb hd hx hex I1 r hz q1
 ·obtain ⟨a,H2,rfl,n0,I2,dct,ea,hw⟩:=h3
  obtain ⟨⟨t0,h1⟩,_⟩:=I2.hok a _ ea
  refine ⟨a,_,_,rfl,I2.bk _ _ hC,h1,rfl,rfl,rfl,?_⟩
  refine hM pins σ (del H2 a) s3 a (.ref C) dct (I2.untrack ea) ⟨⟨_,_,h1,rfl,rfl,rfl,rfl,rfl⟩⟩ del_same n0 (fun z=>?_) (fun y c ec z=>?_) (fun p hp z=>?_) hw
  ·have:=I2.free; rw [<- z,ea] at this; cases this
  ·have:=I2.freeC y c ec; rw [z,ea] at this; cases this
  ·have:=(I2.pin p hp).2.1; rw [z,ea] at this; cases this
end
end L2
namespace L2
open PySem PySem.Spec PyProof.Rows PySem.W
def tJoin:List TE->Str->TE
 | [],acc=>fun σ H Q=>acc.length<=sizeLine/\Q (.str acc) H
 | t :: ts,acc=>fun σ H Q=>t σ H fun x H1=>∃ y,x=.str y/\(acc ++ y).length<=sizeLine/\tJoin ts (acc ++ y) σ H1 Q
def fmtOf:V->Option Str
 | .int n=>if n.natAbs.log2 < 1920 then some (Str.ofString (toString n)) else none
 | .str x=>if x.length<=sizeLine then some x else none
 | _=>none
def tFmt (te:TE):TE:=fun σ H Q=>te σ H fun x H1=>∃ y,fmtOf x=some y/\Q (.str y) H1
section
variable {X:Cx}
theorem joins_of {pins:List (Addr × Obj)}{σ:St}{Q:VK}:∀ {es:List Expr}{ts:List TE},Paired (PE X) es ts->∀ (acc:Str) (H:Hp) (s:Shared),Inv X pins σ H s->tJoin ts acc σ H Q ->
  Joins (model X.prog X.w) X.A X.xe (evalEach es X.env) acc (fun out s1=>out.length<=sizeLine/\EP X pins σ Q (.str out s1.toks) { s1 with toks:=s1.toks + 1 }) s
 | _,_,.nil,acc,H,s,I,h=>⟨h.1,.str acc,H,I.tok _,⟨_,rfl⟩,h.2⟩
 | _,_,.cons p r,acc,H,s,I,h=>by
  refine thn (p pins s σ H _ I h) fun u s1 hz0=>?_
  obtain ⟨x,H1,I1,rx,y,ex,hl,q⟩:=hz0
  subst ex
  obtain ⟨t,rfl⟩:=rx
  exact ⟨y,t,rfl,hl,joins_of r _ H1 s1 I1 q⟩
theorem pe_joined {e1 e2:Expr}{es:List Expr}{ts:List TE}{pos:Pos}(hp:Paired (PE X) (e1 :: e2 :: es) ts):PE X (.JoinedStr (e1 :: e2 :: es) pos) (tJoin ts Str.empty):=by
 intro pins s σ H Q I h
 exact wpAny_JoinedStr (joins_of hp _ H s I h)
theorem pe_fmt {e:Expr}{te:TE}{pos:Pos}(he:PE X e te):PE X (.FormattedValue e (-1) none pos) (tFmt te):=by
 intro pins s σ H Q I h
 refine wpAny_FormattedValue_plain (thn (he pins s σ H _ I h) fun u s1 hz0=>?_)
 obtain ⟨x,H1,I1,rx,y,ey,q⟩:=hz0
 cases x with
 | int n =>
  obtain ⟨t,rfl⟩:=rx
  replace ey:(if n.natAbs.log2 < 1920 then some (Str.ofString (toString n)) else none)=some y:=ey
  split at ey
  ·rename_i hl
   cases ey
   exact wpAny_formatField_int hl ⟨.str (Str.ofString (toString n)),H1,I1.tok _,⟨_,rfl⟩,q⟩
  ·cases ey
 | str z =>
  obtain ⟨t,rfl⟩:=rx
  replace ey:(if z.length<=sizeLine then some z else none)=some y:=ey
  split at ey
  ·rename_i hl
   cases ey
   exact wpAny_formatField_str ⟨.str y,H1,I1,⟨_,rfl⟩,q⟩ ⟨.str y,H1,I1.tok _,⟨_,rfl⟩,q⟩ hl
  ·cases ey
 | _=>cases ey
end
end L2
namespace L2
open PySem PySem.Spec PyProof.Rows PySem.W
structure InitB (K:Frag) (R:Addr):Prop where
 ga:specialIn K (.ref R) "__getattribute__"=some (some (.builtin "type.__getattribute__"))
 rd:readsIn K R (.type "type")=true
 fc:findCls K (.ref R) (.type "type") "__init__"=some (.val (.builtin "ValueError.__init__"))
def tInitB (K:Frag) (C fI:Addr) (te tf:TE):TE:=fun σ H Q=>te σ H fun x H1=>tf σ H1 fun y H2=>∃ a,x=.ref a/\H2 a=some (ExcM a (.ref C) none)/\ExcI K C fI/\Q .non H2
theorem pe_initB {X:Cx}{x:Str}{R C fI:Addr}{e f:Expr}{te tf:TE}{np apos pos:Pos}{pl:Sem Bool}(B:InitB X.K R) (hg:Gl X x) (hm:X.mg x=some (.ref R)) (he:PE X e te) (hf:PE X f tf)
  (ht:eval (.Call (.Attribute (.Name x np) "__init__" apos) [e,f] [] pos) X.env=(do
   let ov <- eval (.Name x np) X.env
   standAt apos.atName
   let (f',first) <- holding [ov] (getMethod ov "__init__" pl)
   callWith pos f' first (backTo pos (starEach [e,f] X.env)) (backToKw pos (keywordEach [] X.env))):=by rfl)
  (htr:backTo pos (starEach [e,f] X.env)=[(false,eval e X.env),(false,eval f X.env)]:=by rfl) (hdb:(x == ("__debug__":Str))=false:=by decide) :
  PE X (.Call (.Attribute (.Name x np) "__init__" apos) [e,f] [] pos) (tInitB X.K C fI te tf):=by
 intro pins s σ H Q I h
 refine PySem.W.methodCall_KW (pl:=pl) (ld_glob I hg hm ?_ hdb) ht
 refine method_cls I.kIn B.ga (cls_value I.kIn B.rd B.fc rfl ?_)
 have J:=I.tok (s.toks + 1)
 rw [htr]
 refine Calls.callWith_builtin rfl (Calls.evalArgs_plain (Calls.spliced_cons (thn (he pins _ σ H _ J h) fun u s1 hz0=>?_)))
 obtain ⟨v,H1,I1,rv,q1⟩:=hz0
 refine Calls.spliced_cons (thn (hf pins s1 σ H1 _ I1 q1) fun u2 s2 hz1=>?_)
 obtain ⟨y,H2,I2,ry,a,ev,ea,O,q2⟩:=hz1
 refine Calls.spliced_nil ?_
 subst ev
 obtain rfl:u=Value.ref a:=rv
 obtain ⟨tl,N,nm,q,bs,hdct,sn,sub,ab,col,dd,k0,k1,k2,k3,k5,mN,hC,hN,hi,T⟩:=O.own I2.kIn
 obtain ⟨⟨t0,h1⟩,_⟩:=I2.hok a _ ea
 obtain ⟨hp,g,d,t,os⟩:=s2
 refine init_exc PySem.F.excBase_ValueError T hC h1 (by rw [List.length_singleton,sizeLine_eq]; omega) fun h' t1 g1 g2=>⟨.non,H2,?_,rfl,q2⟩
 have:=I2.write (x:=a) (e:=a) (o:=ExcM a (.ref C) none) (h':=h') (t':=t) (by rw [ea]; exact True.intro) (.inl rfl) (fun b u hb z=>g2 b u hb z) ⟨_,g1⟩ (excM_ok g1)
 rwa [upd_id ea] at this
end L2
namespace K39
open PySem L2 HT PySem.W
def tmMeth:Stmt:=match top 3 with
 | .ClassDef _ _ _ b _ _ _ _ _ _ _=>b.getD 0 (.Pass ⟨0,0,0,0⟩)
 | _=>.Pass ⟨0,0,0,0⟩
abbrev sTm:Stmt:=tmMeth
theorem scTm:FnScope ["self","many"] ["self","many"] (defScope sTm):=⟨rfl,rfl,rfl,by decide +kernel,rfl,by decide +kernel,by decide +kernel⟩
theorem text_few {n:Nat}(h:n<=40320):fmtOf (.int n)=some (Str.ofString (toString (n:Int)))/\(Str.ofString (toString (n:Int))).length<=10:=by
 have h1:(n:Int).natAbs < 10 ^ 5:=by omega
 have e:=int_text_length_le10 (a:=(n:Int)) (k:=5) (by decide) h1
 refine ⟨?_,?_⟩
 ·show (if (n:Int).natAbs.log2 < 1920 then _ else _)=_
  rw [if_pos]
  have:(n:Int).natAbs=n:=Int.natAbs_natCast n
  rw [this]
  by_cases z:n=0
  ·rw [z]; decide
  ·exact (Nat.log2_lt z).mpr (Nat.lt_of_le_of_lt h (Nat.lt_of_lt_of_le (by decide:40320 < 2 ^ 16) (Nat.pow_le_pow_right (by decide) (by decide))))
 ·rw [ofString_length]; omega
section
variable {P:Program}{w:World}{K:PySem.W.Frag}{mg:Str->Option Value}{base:Heap}
def spTm (C:Addr):Sp:=fun vs H Q _=>∃ (a:Addr) (n:Nat),vs=[.ref a,.int n]/\n<=40320/\H a=some (ExcM a (.ref C) none)/\∀ d,H d=none->d≠a->Q .non (upd (upd H d (.xd [("many",.int n)])) a (ExcM a (.ref C) (some d)))
theorem ok_tm {f:Addr}{fd:FuncData}{C R:Addr}(F:Fun K "__init__" "TooMany.__init__" sTm f fd) (O:ExcI K C f) (OW:ExcW K C) (nm:NoAttr K C "many") (B:InitB K R) (mr:mg "RowError"=some (.ref R)):FnOk P w K mg base CX0 1 f fd ["self","many"] (spTm C):=by
 refine F.ok scTm (fun vs H Q E h=>?_) (fun cdv A outer s H vs Q E hr h=>?_)
 ·obtain ⟨a,n,rfl,_⟩:=h
  rfl
 ·obtain ⟨a,n,rfl,hn,ha,q⟩:=h
  refine ⟨_,pss_cons (ps_expr (pe_initB (C:=C) (fI:=f) B rfl mr (pv 0) (pe_joined (.cons pe_str (.cons (pe_fmt (pv 1)) .nil))))) (pss_one (ps_fldG (pv 0) (pv 1) rfl)),?_⟩
  have l2:((Str.empty ++ "too many: ") ++ Str.ofString (toString (n:Int))).length<=sizeLine:=by
   have:=(text_few hn).2
   rw [strLen_append,sizeLine_eq]
   have e:(Str.empty ++ ("too many: ":Str)).length=10:=by decide +kernel
   omega
  exact ⟨_,rfl,_,rfl,by rw [sizeLine_eq]; decide +kernel,_,rfl,_,(text_few hn).1,_,rfl,l2,l2,a,rfl,ha,O,_,rfl,_,rfl,a,C,rfl,ha,OW,nm,q⟩
end
theorem same_del {H:Hp}{a d:Addr}{o1 o2 o3:HO}(ha:H a=none) (hd:upd H a o1 d=none) (na:d≠a):Same H (del (upd (upd (upd H a o1) d o2) a o3) a)/\H d=none/\del (upd (upd (upd H a o1) d o2) a o3) a d=some o2:=by
 rw [upd_ne na] at hd
 refine ⟨fun b o e=>?_,hd,?_⟩
 ·have n1:b≠a:=ne_of_none e ha
  have n2:b≠d:=ne_of_none e hd
  rw [del_ne n1,upd_ne n1,upd_ne n2,upd_ne n1]; exact e
 ·rw [del_ne na,upd_ne na,upd_same]
end K39
namespace L2
open PySem PySem.Spec PyProof.Rows PySem.W
section
variable {X:Cx}{W:Value->Option Addr->St->Hp->Prop}
def tMethG (C:Addr) (m:Str) (sp:Sp) (W:Value->Option Addr->St->Hp->Prop) (ta:TE) (t:TA):TE:=fun σ H Q=>ta σ H fun x H1=>∃ a dx fs,x=.ref a/\H1 a=some (.ins C dx fs)/\fs.lookup m=none /\
 t σ H1 fun vs H2=>sp (x :: vs) H2 Q fun cls dct H'=>W cls dct σ H'
def DfMG (P:Program) (w:World) (K:PySem.W.Frag) (mg:Str->Option Value) (base:Heap) (k:Nat) (C:Addr) (m:Str) (ps:List Str) (sp:Sp):Prop :=
 Cls K C/\∃ f fd,FnOk P w K mg base (CXG P w) k f fd ps sp/\Binds K fd ps []/\Meth K C m f
variable {k:Nat}{C:Addr}{m:Str}{ps:List Str}{sp:Sp}{o e:Expr}{es:List Expr}{ta:TE}{t:TA}{apos pos:Pos}
theorem pe_dmG {pl:Sem Bool}(D:DfMG X.prog X.w X.K X.mg X.base k C m ps sp) (hr:Room k X.A) (hL:LetsG X W) (he:PE X o ta) (ha:PA X (e :: es) t)
  (hst:starEach (e :: es) X.env=(false,eval e X.env) :: starEach es X.env:=by rfl) (hpl:(backTo pos (starEach es X.env)).any (·.1)=false:=by rfl)
  (ht:eval (.Call (.Attribute o m apos) (e :: es) [] pos) X.env=(do
   let ov <- eval o X.env
   standAt apos.atName
   let (f,first) <- holding [ov] (getMethod ov m pl)
   callWith pos f first (backTo pos (starEach (e :: es) X.env)) (backToKw pos (keywordEach [] X.env))):=by rfl) :
  PE X (.Call (.Attribute o m apos) (e :: es) [] pos) (tMethG C m sp W ta t):=by
 intro pins s σ H Q I h
 obtain ⟨c,f,fd,F,hb,hm⟩:=D
 refine PySem.W.methodCall_KW (pl:=pl) (thn (he pins s σ H _ I h) fun u s1 hz0=>?_) ht
 obtain ⟨x,H1,I1,rx,a,dx,fs,ex,ea,l,q⟩:=hz0
 subst ex
 obtain rfl:u=Value.ref a:=rx
 refine getmeth_ok I1 ea c hm l ?_
 refine PySem.W.callWith_K (first:=[.ref a]) (h₀:=X.base) I.ok.mod.kin hm.kp (thn (ha pos pins s1 σ H1 _ I1 q) fun us s2 hz0=>?_) hst hpl
 obtain ⟨vs,H2,I2,r,q2⟩:=hz0
 refine ⟨I2.kIn,?_⟩
 exact run_fnG (us:=.ref a :: us) (vs:=.ref a :: vs) (dvs:=[]) (ds:=[]) F hr hb .nil hL I2 (.cons rfl r) (by rw [List.append_nil]; exact q2)
end
end L2
namespace L2
open PySem PySem.Spec PyProof.Rows PySem.W
section
variable {X:Cx}
end
section
variable {X:Cx}
end
end L2
namespace L2
open PySem HT PySem.W
end L2
namespace K39
open PySem L2 HT PySem.W
section
variable {P:Program}{w:World}{K:PySem.W.Frag}{mg:Str->Option Value}{base:Heap}
inductive FulI (C:Addr) (H:Hp) (R:Prop):List V->Prop
 | mk {cb sl ll r:Addr} {p:Pce} {S:Cs} {sts lfs:List Cs} (c:ClubG C H cb sl ll (sts ++ [S]) lfs) (ls:S.rows.length=40) (h:PcAt H r p) (o:PcOk p) (cr:Crews p) (q:R):FulI C H R [.ref cb,.ref r]
def TellX (C CM:Addr):Sp:=fun vs H _ E=>FulI C H (∀ dd H',Same H H'->H dd=none->H' dd=some (.xd [("many",.int 41)])->E (.ref CM) (some dd) H') vs
theorem ok_tellX {f fI:Addr}{fd fdI:FuncData}{C CM:Addr}(F:Fun K "tell" "Club.tell" sTell f fd) (T:Txt mg) (hM:∃ t,mg "MOST_PIECES"=some (.int 40 t)) (CC:Clb K C) (mc:mg "TooMany"=some (.ref CM)) (OM:ExcI K CM fI) (FI:FnOk P w K mg base CX0 1 fI fdI ["self","many"] (spTm CM)) (bI:Binds K fdI ["self","many"] [])
  (DI:Df P w K mg base 3 "is_piece" ["thing"] PieC):FnOk P w K mg base (CXG P w) 4 f fd ["self","piece"] (TellX C CM):=by
 refine F.okG scTell (fun vs H Q E h=>by cases h; rfl) (fun cdv A outer s H vs Q E hr h=>?_)
 obtain ⟨tk,hM⟩:=hM
 have hr2:=hr.mono (j:=2) (by decide)
 refine ⟨_,pss_cons (ps_asg (pe_ix ixL2 (peF K (pC 0)) (pe_un uNeg pe_int) (fun _ _=>rfl)) (pgT 3 (pgC (pg_name (i:=2) scTell.nd rfl (Or.inl rfl)) (pgC (pg_name (i:=3) scTell.nd rfl (Or.inl rfl)) (pgC (pg_name (i:=4) scTell.nd rfl (Or.inl rfl)) pgN)))))
   (pss_cons (psIf (pt_not (pt_V (pD DI hr (pa_cons (pC 1) pa_nil)))) pss_never pss_nil)
   (pss_cons (psIf (pt_C (oK op_ge) (pe_callB cLen rfl T.len PySem.boot_len (pa_cons (pC 3) pa_nil)) (pe_glob (v:=.int 40) rfl hM ⟨_,rfl⟩) (nomark _))
    (pss_one (ps_raiseI (W:=fun cls dct _ H'=>E cls dct H') (E:=E0) makesG0 rfl OM FI hr2 bI .nil (fun _ _ _ _ _ _ _ z=>z.elim) rfl rfl mc (pa_cons (pe_op (oK op_add) (pe_callB cLen rfl T.len PySem.boot_len (pa_cons (pC 3) pa_nil)) pe_int) pa_nil))) pss_nil) pss_never)),?_⟩
 obtain @⟨cb,sl,ll,r,p,S,sts,lfs,c,ls,h,o,cp,q⟩:=h
 obtain ⟨st,cr,sd,dx,fs,vs,ws,us,L⟩:=c.lst
 refine FldC.mk L.i CC.c CC.ns L.f (IxL.mk L.l (atI_last _ _) (UnT.mk L.t rfl (PieI.mk h o cp fun H1 s1=>?_)))
 have lus:=paired_len L.pd
 refine LenC.t (s1 _ _ L.d) (ifY (by omega) (LenC.t (s1 _ _ L.d) ⟨by show 1<=sizeLine; decide,fun x hx=>?_⟩))
 refine ⟨x,41,by rw [lus,ls]; rfl,by decide,upd_same,fun dd hd na=>⟨rfl,some dd,upd_same,?_⟩⟩
 obtain ⟨z1,z2,z3⟩:=same_del (o2:=.xd [("many",.int 41)]) (o3:=ExcM x (.ref CM) (some dd)) hx hd na
 exact q dd _ (s1.trans z1) (none_of_same s1 z2) z3
abbrev sMany:Stmt:=top 43
structure ExcT (K:Frag) (mg:Str->Option Value) (C:Addr):Prop where
 at':mg "TooMany"=some (.ref C)
 ex:ExcK K C
 xm:exmOne K (.ref C) (.ref C)=some true
 hd:hasDictIn K C=true
 na:NoAttr K C "many"
def ManyC (C:Addr):Sp:=fun vs H Q _=>FulI C H (∀ H',Same H H'->Q (.int 41) H') vs
theorem ok_many {f:Addr}{fd:FuncData}{C CM:Addr}(F:Fun K "_law_many" "_law_many" sMany f fd) (N:ExcT K mg CM) (DT:DfMG P w K mg base 4 C "tell" ["self","piece"] (TellX C CM)):FnOk P w K mg base CX0 5 f fd ["club","piece"] (ManyC C):=by
 have sc:FnScope ["club","piece","many","e"] ["club","piece"] (defScope sMany):=⟨rfl,rfl,rfl,by decide +kernel,rfl,by decide +kernel,by decide +kernel⟩
 refine F.ok sc (fun vs H Q E h=>by cases h; rfl) (fun cdv A outer s H vs Q E hr h=>?_)
 refine ⟨_,pss_cons (ps_set (i:=2) sc.nd rfl (Or.inl rfl) pe_int)
   (pss_cons (ps_tryAsG (i:=3) (C:=CM) (tb:=fun W=>tDrop (tMethG C "tell" (TellX C CM) W (vC 0) (tCons (vC 1) tNil)))
    (ts:=fun a=>tAsg (tFldG K (vC 3) "many") (gName 2))
    rfl rfl rfl sc.nd rfl rfl rfl N.at'
    (fun pins W=>pss_one (ps_expr (pe_dmG DT hr letsGT (pC 0) (pa_cons (pC 1) pa_nil))))
    (fun a=>pss_one (ps_set (i:=2) sc.nd rfl (Or.inl rfl) (pe_fldG (pC 3) rfl))))
   (pss_one (ps_ret (pC 2)))),?_⟩
 obtain @⟨cb,sl,ll,r,p,S,sts,lfs,c,ls,h,o,cp,q⟩:=h
 obtain ⟨st,cr,sd,dx,fs,vs,ws,us,L⟩:=c.lst
 refine ⟨cb,dx,fs,rfl,L.i,L.m _ (by decide) (by decide),.mk c ls h o cp fun dd H' s1 nd hd=>⟨N.xm,fun x hx=>?_⟩⟩
 have s2:=same_new hx (ExcG x (.ref CM) (some dd))
 have hx2:upd H' x (ExcG x (.ref CM) (some dd)) x=some (ExcG x (.ref CM) (some dd)):=upd_same
 exact ⟨x,CM,dd,_,_,rfl,hx2,s2 _ _ hd,N.ex,N.hd,N.na,rfl,q _ (s1.trans s2)⟩
end
end K39
namespace K39
open PySem L2
abbrev sLFr:Stmt:=top 38
section
variable {P:Program}{w:World}{K:PySem.W.Frag}{mg:Str->Option Value}{base:Heap}
def spLf:Sp:=fun vs H Q _=>∃ t b:Int,vs=[.int t,.int b]/\0 < b/\b.natAbs < 2 ^ 150/\t.natAbs < 2 ^ 150/\∀ p,H p=none->Q (.ref p) (upd H p (.tup [.int (frTop t b),.int (frBot t b)]))
theorem scLF:FnScope ["top","bottom","one","other"] ["top","bottom"] (defScope sLFr):=⟨rfl,rfl,rfl,by decide +kernel,rfl,by decide +kernel,by decide +kernel⟩
theorem ok_lfr {f:Addr}{fd:FuncData}(F:Fun K "_law_fraction" "_law_fraction" sLFr f fd) (T:Txt mg):FnOk P w K mg base CX0 1 f fd ["top","bottom"] spLf:=by
 refine F.ok scLF (fun vs H Q E h=>?_) (fun cdv A outer s H vs Q E hr h=>?_)
 ·obtain ⟨t,b,rfl,_⟩:=h
  rfl
 ·obtain ⟨t,b,rfl,b0,b1,t1,q⟩:=h
  refine ⟨_,pss_cons (ps_par (i:=2) (j:=3) rfl scLF.nd rfl rfl (by decide) rfl rfl (pa_cons (pe_callB call_abs rfl T.abs boot_absE (pa_cons (pv 0) pa_nil)) (pa_cons (pv 1) pa_nil)) rfl)
   (pss_cons (ps_while PassesOwn.never (pt_cmpR op_ne (pv 3) pe_int (nomark _)) (pss_one (ps_par (i:=2) (j:=3) rfl scLF.nd rfl rfl (by decide) rfl rfl (pa_cons (pv 3) (pa_cons (pe_op op_mod (pv 2) (pv 3)) pa_nil)) rfl)))
   (pss_one (ps_ret (pe_tup (pa_cons (pe_op op_fdivB (pv 0) (pv 2)) (pa_cons (pe_op op_fdivB (pv 1) (pv 2)) pa_nil)))))),?_⟩
  refine ⟨_,rfl,_,rfl,_,rfl,_,_,rfl,?_⟩
  refine while_by (fun σ' H'=>H'=H/\∃ m n:Nat,σ'=[some (.int t),some (.int b),some (.int m),some (.int n)]/\0 < m + n/\Nat.gcd m n=Nat.gcd t.natAbs b.natAbs/\m < 2 ^ 150/\n < 2 ^ 150)
   (fun σ' _=>match σ' with | [_,_,_,some (.int n)]=>n.toNat | _=>0) ?_ ?_ ?_
  ·refine ⟨rfl,t.natAbs,b.natAbs,?_,by omega,rfl,t1,b1⟩
   show [some (V.int t),some (V.int b),some (V.int (if t < 0 then -t else t)),some (V.int b)]=_
   rw [abs_nat,show ((b.natAbs:Nat):Int)=b by omega]
  ·rintro σ' H' ⟨rfl,m,n,rfl,m0,hg,hm,hn⟩
   refine ⟨_,rfl,rfl,_,rfl,?_⟩
   refine ite2 (fun c=>?_) (fun c=>?_)
   ·have n0:0 < n:=by
     have:n≠0:=fun z=>v_ne c (by rw [z]; rfl)
     omega
    refine ⟨_,rfl,_,rfl,_,rfl,_,_,rfl,rfl,by omega,_,_,rfl,⟨rfl,n,m % n,?_,by omega,by rw [gcd_turn]; exact hg,hn,Nat.lt_of_le_of_lt (Nat.mod_le _ _) hm⟩,?_⟩
    ·show [some (V.int t),some (V.int b),some (V.int (n:Int)),some (V.int ((m:Int) % (n:Int)))]=_
     rw [mod_nat]
    ·show ((m:Int) % (n:Int)).toNat < (n:Int).toNat
     rw [mod_nat]
     have:=Nat.mod_lt m n0
     omega
   ·have n0:n=0:=by
     have e5:V.int (n:Int)=V.int 0:=v_eq c
     injection e5 with e5
     omega
    subst n0
    rw [Nat.gcd_zero_right] at hg
    have bd:(0:Int) < (m:Int)/\(m:Int) < 2 ^ 200:=⟨by omega,lt_big hm⟩
    refine ⟨_,rfl,_,rfl,_,_,rfl,rfl,bd,_,rfl,_,rfl,_,_,rfl,rfl,bd,by show 2<=sizeLine; decide,fun p hp=>?_⟩
    have:=q p hp
    unfold frTop frBot at this
    rw [<- hg] at this
    exact this
  ·rintro σ' H' Q1 Q2 imp ⟨v,hv,sc,b',e3,h⟩
   exact ⟨v,hv,sc,b',e3,imp _ _ h⟩
end
end K39
namespace K39
open PySem L2 HT PySem.W
theorem eqv_lnames (a b:List Str):PyData.eqv (.list (namesD a)) (.list (namesD b))=decide (a=b):=by
 have:=eqv_names a b
 simp only [PyData.eqv] at this ⊢
 exact this
theorem lst_tells {H:Hp}{a:Addr}{A:List Str}(h:H a=some (.lst (A.map V.str))):Tells H (a + 1) (.list (namesD A)) (.ref a) :=
 tells_list.mpr ⟨a,_,rfl,(fun z=>absurd z (Nat.ne_of_lt (Nat.lt_succ_self a))),h,tells_names A⟩
theorem bd_lnames {c:List Str}(hc:∀ n∈c,okN n) (hl:c.length<=12):Bd 13 1 (.list (namesD c)):=by
 refine (Bd.list (n:=1) (p:=0) (m:=12) (fun x hx=>?_) (by unfold namesD; rw [List.length_map]; exact hl)).mono (by decide) (by decide)
 obtain ⟨n,hn,rfl⟩:=List.mem_map.mp hx
 exact bd_str (hc n hn).1 (hc n hn).2.1
theorem notin_ok {a b:List Str}(h:∀ n∈a,okN n):∀ n∈notin a b,okN n:=fun n hn=>h n (List.mem_filter.mp hn).1
theorem notin_len {a b:List Str}:(notin a b).length<=a.length:=List.length_filter_le _ _
section
variable {P:Program}{w:World}{K:PySem.W.Frag}{mg:Str->Option Value}{base:Heap}
theorem nin_comp {H1:Hp}{L a r b:Addr}{A B:List Str}{xs:List V}{k:Int}{Q:VK}(v:Option V) (hL:H1 L=none) (h:H1 a=some (.tup (A.map V.str))) (hr:H1 r=some (.tup xs)) (hx:atI xs k=some (.ref b)) (hb:H1 b=some (.tup (B.map V.str))) (hl:A.length<=1000)
  (q:∀ J,Same H1 J->J L=some (.lst ((notin A B).map V.str))->Q (.ref L) J) :
  LCok (Itt K a) (gName 0) (tTest (tOp (rIn K true) (tVar 0) (tOp (rIxT K) (tVar 1) (tC (.int k))))) (tVar 0) [v,some (.ref r)] H1 Q L:=by
 refine lc_fill (n:=A.length) (f:=fun i=>(A.map V.str).getD i .non) (fun j ys σ' J=>(∃ v,σ'=[v,some (.ref r)])/\Same H1 J/\ys=(notin (A.take j) B).map V.str) hL hl ⟨⟨_,rfl⟩,same_upd (Same.refl _) hL,rfl⟩ ?_ ?_ ?_
 ·rintro j ys σ' J hj hy ⟨_,sj,_⟩
  have:=itt_tup (K:=K) (SqT.of (sj _ _ h)) j (by rw [List.length_map]; exact hj)
  rw [List.length_map] at this
  exact this
 ·rintro j ys σ' J hj hy ⟨⟨v,rfl⟩,sj,rfl⟩
  rw [strs_get hj]
  refine ⟨_,rfl,_,rfl,r,xs,k,_,rfl,rfl,SqT.of (sj _ _ hr),hx,b,_,rfl,.inr (SqT.of (sj _ _ hb)),rfl,flat_strs B,_,rfl,?_⟩
  rw [show (if true=true then !inV (V.str A[j]) (B.map V.str) else inV (V.str A[j]) (B.map V.str)) = !decide (A[j]∈B) from congrArg (!·) (in_strs _ _),take_get hj]
  unfold notin
  rw [flt_snoc]
  by_cases e:A[j]∈B
  ·refine ite_no (by simp [e]) ?_
   refine ⟨hy,⟨_,rfl⟩,sj,?_⟩
   rw [if_neg (by simp [e])]
  ·refine ite_yes (by simp [e]) ?_
   refine ⟨_,rfl,hy,⟨_,rfl⟩,same_upd sj hL,?_⟩
   rw [if_pos (by simp [e]),List.map_append]
   rfl
 ·rintro ys σ' J hy ⟨_,sj,rfl⟩
  rw [List.take_length] at hy
  exact q J sj hy
abbrev sLt:Stmt:=top 41
def nmLo:List (Str × NameKind):=[(".0",.local),("name",.local),("other",.free)]
def nmLn:List (Str × NameKind):=[(".0",.local),("name",.local),("one",.free)]
theorem ndLo:(["name","other"]:List Str).Nodup:=by decide +kernel
theorem ndLn:(["name","one"]:List Str).Nodup:=by decide +kernel
def spLt:Sp:=fun vs H Q _=>∃ (r1 r2:Addr) (p q:Pce),vs=[.ref r1,.ref r2]/\PcAt H r1 p/\PcAt H r2 q/\PcOk p/\PcOk q/\Crews p/\Crews q/\∀ v r H',Same H H'->Told p q r->DueV H' v r->Q v H'
theorem scLt:FnScope ["one","other","out","came","gone","new","top","by"] ["one","other"] (defScope sLt):=⟨rfl,rfl,rfl,by decide +kernel,rfl,by decide +kernel,by decide +kernel⟩
theorem wq {c:Int}(h1:1<=c) (h2:c<=1000000000):-2 ^ 64 < c/\c < 2 ^ 64/\c.natAbs < 2 ^ 35:=by omega
theorem wr {a b:Int}(a1:1<=a) (a2:a<=1000000000) (b1:1<=b) (b2:b<=1000000000):(a - b).natAbs < 2 ^ 35:=by omega
theorem ws {a b:Int}(m1:a.natAbs < 2 ^ 70) (m2:b.natAbs < 2 ^ 70):(a - b).natAbs < 2 ^ 80:=Nat.lt_of_le_of_lt (Int.natAbs_sub_le a b) (Nat.lt_trans (Nat.add_lt_add m1 m2) (by decide))
theorem wt {x:Int}(h:x.natAbs < 2 ^ 80):(if x < 0 then -x else x).natAbs < 2 ^ 150:=by
 split
 ·rw [Int.natAbs_neg]; exact Nat.lt_trans h (by decide)
 ·exact Nat.lt_trans h (by decide)
theorem ok_lt {f:Addr}{fd:FuncData}(F:Fun K "_law_trial" "_law_trial" sLt f fd) (T:Txt mg) (DF:Df P w K mg base 1 "_law_fraction" ["top","bottom"] spLf):FnOk P w K mg base CX0 2 f fd ["one","other"] spLt:=by
 refine F.ok scLt (fun vs H Q E h=>?_) (fun cdv A outer s H vs Q E hr h=>?_)
 ·obtain ⟨r1,r2,p,q,rfl,_⟩:=h
  rfl
 ·obtain ⟨r1,r2,p,q,rfl,h1,h2,o1,o2,cp,cq,hQ⟩:=h
  refine ⟨_,pss_cons (ps_setLC (i0:=2) (N:=["name","other"]) (g:=gName 0) (tc:=tTest (tOp (rIn K true) (tVar 0) (tOp (rIxT K) (tVar 1) (tC (.int 0))))) (te:=tVar 0) scLt.nd rfl (Or.inl rfl) rfl (pi_tup (pe_ix ix_tup (pv 0) pe_int (fun _ _=>rfl)))
    (BlkOk.one (v:="name") (fr:="other") (j:=1) (nm:=nmLo) rfl rfl rfl rfl (by decide +kernel) (by decide +kernel) (by decide +kernel) (by decide +kernel) (by decide +kernel))
    (fun _ _ _=>pg_name (i:=0) ndLo rfl (Or.inl rfl)) (fun _ _ _=>pts_one (pt_cmpR op_notIn_seq (pv 0) (pe_ix ix_tup (pv 1) pe_int (fun _ _=>rfl)) (by with_unfolding_all rfl))) (fun _ _ _=>pv 0))
   (pss_cons (ps_setLC (i0:=3) (N:=["name","one"]) (g:=gName 0) (tc:=tTest (tOp (rIn K true) (tVar 0) (tOp (rIxT K) (tVar 1) (tC (.int 0))))) (te:=tVar 0) scLt.nd rfl (Or.inl rfl) rfl (pi_tup (pe_ix ix_tup (pv 1) pe_int (fun _ _=>rfl)))
    (BlkOk.one (v:="name") (fr:="one") (j:=0) (nm:=nmLn) rfl rfl rfl rfl (by decide +kernel) (by decide +kernel) (by decide +kernel) (by decide +kernel) (by decide +kernel))
    (fun _ _ _=>pg_name (i:=0) ndLn rfl (Or.inl rfl)) (fun _ _ _=>pts_one (pt_cmpR op_notIn_seq (pv 0) (pe_ix ix_tup (pv 1) pe_int (fun _ _=>rfl)) (by with_unfolding_all rfl))) (fun _ _ _=>pv 0))
   (pss_cons (ps_setLC (i0:=4) (N:=["name","other"]) (g:=gName 0) (tc:=tTest (tOp (rIn K true) (tVar 0) (tOp (rIxT K) (tVar 1) (tC (.int 1))))) (te:=tVar 0) scLt.nd rfl (Or.inl rfl) rfl (pi_tup (pe_ix ix_tup (pv 0) pe_int (fun _ _=>rfl)))
    (BlkOk.one (v:="name") (fr:="other") (j:=1) (nm:=nmLo) rfl rfl rfl rfl (by decide +kernel) (by decide +kernel) (by decide +kernel) (by decide +kernel) (by decide +kernel))
    (fun _ _ _=>pg_name (i:=0) ndLo rfl (Or.inl rfl)) (fun _ _ _=>pts_one (pt_cmpR op_notIn_seq (pv 0) (pe_ix ix_tup (pv 1) pe_int (fun _ _=>rfl)) (by with_unfolding_all rfl))) (fun _ _ _=>pv 0))
   (pss_cons (ps_setLC (i0:=5) (N:=["name","one"]) (g:=gName 0) (tc:=tTest (tOp (rIn K true) (tVar 0) (tOp (rIxT K) (tVar 1) (tC (.int 1))))) (te:=tVar 0) scLt.nd rfl (Or.inl rfl) rfl (pi_tup (pe_ix ix_tup (pv 1) pe_int (fun _ _=>rfl)))
    (BlkOk.one (v:="name") (fr:="one") (j:=0) (nm:=nmLn) rfl rfl rfl rfl (by decide +kernel) (by decide +kernel) (by decide +kernel) (by decide +kernel) (by decide +kernel))
    (fun _ _ _=>pg_name (i:=0) ndLn rfl (Or.inl rfl)) (fun _ _ _=>pts_one (pt_cmpR op_notIn_seq (pv 0) (pe_ix ix_tup (pv 1) pe_int (fun _ _=>rfl)) (by with_unfolding_all rfl))) (fun _ _ _=>pv 0))
   (pss_cons (ps_if (PW.pt (pw_or (pt_cmpR op_ne (pe_callB call_len_seq rfl T.len PySem.boot_len (pa_cons (pv 2) pa_nil)) pe_int (nomark _)) (pw_or (pt_cmpR op_ne (pe_callB call_len_seq rfl T.len PySem.boot_len (pa_cons (pv 3) pa_nil)) pe_int (nomark _)) (pw_or (pt_cmpR (op_neD hr.units) (pv 4) (pv 3) (nomark _)) (pw_or1 (pt_cmpR (op_neD hr.units) (pv 5) (pv 2) (nomark _))))))) (pss_one (ps_ret pe_non)) pss_nil)
   (pss_cons (ps_set (i:=6) scLt.nd rfl (Or.inl rfl) (pe_op op_mul (pe_op op_sub (pe_ix ix_tup (pv 0) pe_int (fun _ _=>rfl)) (pe_ix ix_tup (pv 0) pe_int (fun _ _=>rfl))) (pe_ix ix_tup (pv 1) pe_int (fun _ _=>rfl))))
   (pss_cons (ps_set (i:=6) scLt.nd rfl (Or.inl rfl) (pe_op op_sub (pv 6) (pe_op op_mul (pe_op op_sub (pe_ix ix_tup (pv 1) pe_int (fun _ _=>rfl)) (pe_ix ix_tup (pv 1) pe_int (fun _ _=>rfl))) (pe_ix ix_tup (pv 0) pe_int (fun _ _=>rfl)))))
   (pss_cons (ps_set (i:=7) scLt.nd rfl (Or.inl rfl) (pe_df DF hr (pa_cons (pe_callB call_abs rfl T.abs boot_absE (pa_cons (pv 6) pa_nil)) (pa_cons (pe_op op_mul (pe_ix ix_tup (pv 0) pe_int (fun _ _=>rfl)) (pe_ix ix_tup (pv 1) pe_int (fun _ _=>rfl))) pa_nil))))
   (pss_cons (ps_if (pt_cmpR op_gt (pv 6) pe_int (nomark _)) (pss_one (ps_ret (pe_tup (pa_cons (pe_ix ix_list (pv 2) pe_int (fun _ _=>rfl)) (pa_cons (pe_ix ix_list (pv 3) pe_int (fun _ _=>rfl)) (pa_cons (pv 7) pa_nil)))))) pss_nil)
   (pss_cons (ps_if (pt_cmpR op_lt (pv 6) pe_int (nomark _)) (pss_one (ps_ret (pe_tup (pa_cons (pe_ix ix_list (pv 3) pe_int (fun _ _=>rfl)) (pa_cons (pe_ix ix_list (pv 2) pe_int (fun _ _=>rfl)) (pa_cons (pv 7) pa_nil)))))) pss_nil)
   (pss_one (ps_ret (pe_op op_catT (pe_callTy call_tuple_of rfl T.tuple PyProof.Rows.boot_tuple (pa_cons (pe_callB call_sortedS rfl T.sorted PyProof.Rows.boot_sorted (pa_cons (pe_lst (pa_cons (pe_ix ix_list (pv 2) pe_int (fun _ _=>rfl)) (pa_cons (pe_ix ix_list (pv 3) pe_int (fun _ _=>rfl)) pa_nil))) pa_nil)) pa_nil)) (pe_tup (pa_cons (pv 7) pa_nil)))))))))))))),?_⟩
  obtain ⟨a,b,e1,e2,e3⟩:=id h1
  obtain ⟨c,d,g1,g2,g3⟩:=id h2
  have a4:=o1.a.l4
  have b4:=o1.b.l4
  have c4:=o2.a.l4
  have d4:=o2.b.l4
  refine seqH fun DH1 hD1=>?_
  refine ixT rfl (SqT.of e1) (atI_nat (j:=0) rfl) ⟨a,rfl,⟨_,SqT.of e2⟩,fun L1 hL1=>?_⟩
  refine nin_comp none hL1 e2 g1 (atI_nat (j:=0) rfl) g2 (Nat.le_trans a4 (by decide)) fun J1 s1 w1=>?_
  refine hD1 _ _ ?_
  refine seqH fun DH2 hD2=>?_
  refine ixT rfl (SqT.of (s1 _ _ g1)) (atI_nat (j:=0) rfl) ⟨c,rfl,⟨_,SqT.of (s1 _ _ g2)⟩,fun L2 hL2=>?_⟩
  refine nin_comp none hL2 (s1 _ _ g2) (s1 _ _ e1) (atI_nat (j:=0) rfl) (s1 _ _ e2) (Nat.le_trans c4 (by decide)) fun J2 s2 w2=>?_
  refine hD2 _ _ ?_
  have s02:=s1.trans s2
  refine seqH fun DH3 hD3=>?_
  refine ixT rfl (SqT.of (s02 _ _ e1)) (atI_nat (j:=1) rfl) ⟨b,rfl,⟨_,SqT.of (s02 _ _ e3)⟩,fun L3 hL3=>?_⟩
  refine nin_comp none hL3 (s02 _ _ e3) (s02 _ _ g1) (atI_nat (j:=1) rfl) (s02 _ _ g3) (Nat.le_trans b4 (by decide)) fun J3 s3 w3=>?_
  refine hD3 _ _ ?_
  have s03:=s02.trans s3
  refine seqH fun DH4 hD4=>?_
  refine ixT rfl (SqT.of (s03 _ _ g1)) (atI_nat (j:=1) rfl) ⟨d,rfl,⟨_,SqT.of (s03 _ _ g3)⟩,fun L4 hL4=>?_⟩
  refine nin_comp none hL4 (s03 _ _ g3) (s03 _ _ e1) (atI_nat (j:=1) rfl) (s03 _ _ e3) (Nat.le_trans d4 (by decide)) fun J s4 w4=>?_
  refine hD4 _ _ ?_
  have s0:=s03.trans s4
  have v1:=((s2.trans s3).trans s4) _ _ w1
  have v2:=(s3.trans s4) _ _ w2
  have v3:=s4 _ _ w3
  have noth:(∀ m y,Xp p q m y->False)->Q .non J:=fun h=>hQ .non none J s0 (.inr ⟨fun m y x=>h m y x,rfl⟩) rfl
  have lay:∀ {u v:List Str},(∀ n∈u,okN n)->u.length<=4->Lay (.list (namesD (notin u v))):=fun hu hl=>(bd_lnames (notin_ok hu) (Nat.le_trans notin_len (Nat.le_trans hl (by decide)))).lay (by decide)
  refine ⟨_,rfl,L1,_,rfl,.inl (SqL.of v1),rfl,_,rfl,?_⟩
  rw [dec_vint,List.length_map]
  refine ite2 (fun z=>noth fun m y x=>?_) (fun z=>?_)
  ·rw [(x.diff cp).1] at z; simp at z
  have z1:(notin p.a q.a).length=1:=by
   by_cases h:(notin p.a q.a).length=1
   ·exact h
   ·exact absurd (by rw [decide_eq_false (by omega)]; rfl) z
  refine ⟨_,rfl,L2,_,rfl,.inl (SqL.of v2),rfl,_,rfl,?_⟩
  rw [dec_vint,List.length_map]
  refine ite2 (fun z=>noth fun m y x=>?_) (fun z=>?_)
  ·rw [(x.diff cp).2.1] at z; simp at z
  have z2:(notin q.a p.a).length=1:=by
   by_cases h:(notin q.a p.a).length=1
   ·exact h
   ·exact absurd (by rw [decide_eq_false (by omega)]; rfl) z
  refine ⟨_,rfl,_,rfl,_,_,_,_,lst_tells v3,lst_tells v2,lay o1.b.ok b4,lay o2.a.ok c4,_,rfl,?_⟩
  rw [eqv_lnames]
  refine ite2 (fun z=>noth fun m y x=>?_) (fun z=>?_)
  ·rw [(x.diff cp).2.1,(x.diff cp).2.2.1] at z; simp at z
  have z3:notin p.b q.b=notin q.a p.a:=by simpa using z
  refine ⟨_,rfl,_,rfl,_,_,_,_,lst_tells w4,lst_tells v1,lay o2.b.ok d4,lay o1.a.ok a4,_,rfl,?_⟩
  rw [eqv_lnames]
  refine ite2 (fun z=>noth fun m y x=>?_) (fun z=>?_)
  ·rw [(x.diff cp).1,(x.diff cp).2.2.2] at z; simp at z
  have z4:notin q.b p.b=notin p.a q.a:=by simpa using z
  obtain ⟨m,em⟩:=List.length_eq_one_iff.mp z1
  obtain ⟨y,ey⟩:=List.length_eq_one_iff.mp z2
  have x:Xp p q m y:=xp_of cp cq em ey (z3.trans ey) (z4.trans em)
  rw [em] at v1
  rw [ey] at v2
  have my:m≠y:=fun z=>cp.no _ x.hm (z ▸ x.hy)
  have i1:=o1.c1
  have i2:=o1.c9
  have i3:=o2.c1
  have i4:=o2.c9
  have i5:=o1.t1
  have i6:=o1.t9
  have i7:=o1.o1
  have i8:=o1.o9
  have j5:=o2.t1
  have j6:=o2.t9
  have j7:=o2.o1
  have j8:=o2.o9
  obtain ⟨p1,p2,p3⟩:=wq i1 i2
  obtain ⟨r1,r2,r3⟩:=wq i3 i4
  refine ixT rfl (SqT.of (s0 _ _ e1)) (atI_nat (j:=3) rfl) (ixT rfl (SqT.of (s0 _ _ e1)) (atI_nat (j:=2) rfl) ⟨_,_,rfl,rfl,ixT rfl (SqT.of (s0 _ _ g1)) (atI_nat (j:=4) rfl) ⟨_,_,rfl,rfl,.inr ⟨r1,r2⟩,?_⟩⟩)
  refine ⟨_,rfl,ixT rfl (SqT.of (s0 _ _ g1)) (atI_nat (j:=3) rfl) (ixT rfl (SqT.of (s0 _ _ g1)) (atI_nat (j:=2) rfl) ⟨_,_,rfl,rfl,ixT rfl (SqT.of (s0 _ _ e1)) (atI_nat (j:=4) rfl) ⟨_,_,rfl,rfl,.inr ⟨p1,p2⟩,_,_,rfl,rfl,?_⟩⟩)⟩
  have m1:((p.o - p.t) * q.c).natAbs < 2 ^ 70:=mul_abs (a:=35) (b:=35) (wr i7 i8 i5 i6) r3
  have m2:((q.o - q.t) * p.c).natAbs < 2 ^ 70:=mul_abs (a:=35) (b:=35) (wr j7 j8 j5 j6) p3
  have m3:(p.c * q.c).natAbs < 2 ^ 70:=mul_abs (a:=35) (b:=35) p3 r3
  have cc:0 < p.c * q.c:=Int.mul_pos i1 i3
  have ld:(dif p q).natAbs < 2 ^ 80:=ws m1 m2
  refine ⟨_,rfl,_,rfl,ixT rfl (SqT.of (s0 _ _ e1)) (atI_nat (j:=4) rfl) (ixT rfl (SqT.of (s0 _ _ g1)) (atI_nat (j:=4) rfl) ⟨_,_,rfl,rfl,.inr ⟨r1,r2⟩,?_⟩)⟩
  refine ⟨_,_,rfl,cc,Nat.lt_trans m3 (by decide),wt ld,fun u hu=>?_⟩
  try dsimp only
  generalize hD':(if (p.o - p.t) * q.c - (q.o - q.t) * p.c < 0 then -((p.o - p.t) * q.c - (q.o - q.t) * p.c) else (p.o - p.t) * q.c - (q.o - q.t) * p.c)=D
  have hD:(if dif p q < 0 then -dif p q else dif p q)=D:=hD'
  have s5:=same_upd (o:=.tup [.int (frTop D (p.c * q.c)),.int (frBot D (p.c * q.c))]) (Same.refl J) hu
  have w5:upd J u (.tup [.int (frTop D (p.c * q.c)),.int (frBot D (p.c * q.c))]) u=some (.tup [.int (frTop D (p.c * q.c)),.int (frBot D (p.c * q.c))]):=upd_same
  try dsimp only
  generalize upd J u (.tup [.int (frTop D (p.c * q.c)),.int (frBot D (p.c * q.c))])=J5 at *
  have v1':=s5 _ _ v1
  have v2':=s5 _ _ v2
  refine ⟨_,rfl,_,_,rfl,rfl,_,rfl,?_⟩
  refine ite2 (fun z=>?_) (fun z=>?_)
  ·have dp:0 < dif p q:=of_decide_eq_true z
   have eD:D=dif p q:=by rw [<- hD,if_neg (by omega)]
   have et:trOf p q m y=(m,y,frTop D (p.c * q.c),frBot D (p.c * q.c)):=by unfold trOf; simp only [if_pos dp,eD]
   refine ixL rfl (SqL.of v1') (atI_nat (j:=0) rfl) (ixL rfl (SqL.of v2') (atI_nat (j:=0) rfl) ⟨_,rfl,by show 3<=sizeLine; decide,fun r hr=>?_⟩)
   have s6:=same_upd (o:=.tup [.str m,.str y,.ref u]) (Same.refl J5) hr
   refine hQ _ (some _) _ ((s0.trans s5).trans s6) (.inl ⟨m,y,x,rfl⟩) ⟨r,rfl,?_⟩
   rw [et]
   exact ⟨u,upd_same,s6 _ _ w5⟩
  have nd:¬ 0 < dif p q:=fun h=>z (decide_eq_true h)
  refine ⟨_,rfl,_,_,rfl,rfl,_,rfl,?_⟩
  refine ite2 (fun z=>?_) (fun z=>?_)
  ·have dn:dif p q < 0:=of_decide_eq_true z
   have eD:D=-dif p q:=by rw [<- hD,if_pos dn]
   have et:trOf p q m y=(y,m,frTop D (p.c * q.c),frBot D (p.c * q.c)):=by unfold trOf; simp only [if_neg nd,if_pos dn,eD]
   refine ixL rfl (SqL.of v2') (atI_nat (j:=0) rfl) (ixL rfl (SqL.of v1') (atI_nat (j:=0) rfl) ⟨_,rfl,by show 3<=sizeLine; decide,fun r hr=>?_⟩)
   have s6:=same_upd (o:=.tup [.str y,.str m,.ref u]) (Same.refl J5) hr
   refine hQ _ (some _) _ ((s0.trans s5).trans s6) (.inl ⟨m,y,x,rfl⟩) ⟨r,rfl,?_⟩
   rw [et]
   exact ⟨u,upd_same,s6 _ _ w5⟩
  ·have nn:¬ dif p q < 0:=fun h=>z (decide_eq_true h)
   have eD:D=0:=by rw [<- hD,if_neg nn]; omega
   obtain ⟨f0,f1⟩:=fr_zero (b:=p.c * q.c) cc
   rw [eD,f0,f1] at w5
   refine ixL rfl (SqL.of v1') (atI_nat (j:=0) rfl) (ixL rfl (SqL.of v2') (atI_nat (j:=0) rfl) ⟨by show 2<=sizeLine; decide,fun l hl=>?_⟩)
   have s6:=same_upd (o:=.lst [.str m,.str y]) (Same.refl J5) hl
   have w6:upd J5 l (.lst [.str m,.str y]) l=some (.lst (([m,y]:List Str).map V.str)):=upd_same
   try dsimp only
   generalize upd J5 l (.lst [.str m,.str y])=J6 at *
   refine ⟨l,[m,y],rfl,SqL.of w6,(by simp only [List.length_cons,List.length_nil]; decide),fun l2 C hl2 pm so=>?_⟩
   have hC:C=[if ltStr y m=true then y else m,if ltStr y m=true then m else y]:=by
    have ndm:([m,y]:List Str).Nodup:=by simp [my]
    have uC:=sorted_pw so (pm.nodup_iff.mpr ndm)
    by_cases c:ltStr y m=true
    ·rw [if_pos c,if_pos c]
     exact sorted_uniq uC (by simp [c]) (pm.trans (List.Perm.swap _ _ _))
    ·rw [if_neg c,if_neg c]
     have c2:ltStr m y=true:=(ltS_tot my).resolve_right c
     exact sorted_uniq uC (by simp [c2]) pm
   have s7:=same_upd (o:=.lst (C.map V.str)) (Same.refl J6) hl2
   have w7:upd J6 l2 (.lst (C.map V.str)) l2=some (.lst (C.map V.str)):=upd_same
   try dsimp only
   generalize upd J6 l2 (.lst (C.map V.str))=J7 at *
   refine ⟨l2,_,rfl,.inl ⟨SqL.of w7,fun t ht=>?_⟩⟩
   have s8:=same_upd (o:=.tup (C.map V.str)) (Same.refl J7) ht
   have w8:upd J7 t (.tup (C.map V.str)) t=some (.tup (C.map V.str)):=upd_same
   try dsimp only
   generalize upd J7 t (.tup (C.map V.str))=J8 at *
   refine ⟨_,rfl,by show 1<=sizeLine; decide,fun t1 ht1=>?_⟩
   have s9:=same_upd (o:=.tup [.ref u]) (Same.refl J8) ht1
   have w9:upd J8 t1 (.tup [.ref u]) t1=some (.tup [.ref u]):=upd_same
   try dsimp only
   generalize upd J8 t1 (.tup [.ref u])=J9 at *
   have lC:C.length=2:=by rw [hC]; rfl
   refine ⟨t,t1,_,_,rfl,rfl,SqT.of (s9 _ _ w8),SqT.of w9,by rw [hC]; simp,by rw [List.length_map,lC]; show 2 + 1<=sizeLine; decide,(fun z=>absurd z (by simp)),fun _ r hr=>?_⟩
   have s10:=same_upd (o:=.tup (C.map V.str ++ [.ref u])) (Same.refl J9) hr
   refine hQ _ (some _) _ ((((((s0.trans s5).trans s6).trans s7).trans s8).trans s9).trans s10) (.inl ⟨m,y,x,rfl⟩) ⟨r,rfl,?_⟩
   have et:trOf p q m y=(if ltStr y m=true then y else m,if ltStr y m=true then m else y,0,1):=by unfold trOf; simp only [if_neg nd,if_neg nn]
   rw [et]
   refine ⟨u,?_,((((s6.trans s7).trans s8).trans s9).trans s10) _ _ w5⟩
   rw [upd_same,hC]
   rfl
end
end K39
namespace K39
open PySem L2 HT PySem.W
section
variable {P:Program}{w:World}{K:PySem.W.Frag}{mg:Str->Option Value}{base:Heap}
abbrev sRgt:Stmt:=top 42
abbrev nRgt:List Str:=["club","pieces","due","k","one","piece","other","later","trial","trials"]
theorem scRgt:FnScope nRgt ["club","pieces"] (defScope sRgt):=⟨rfl,rfl,rfl,by decide +kernel,rfl,by decide +kernel,by decide +kernel⟩
inductive RgtI (C:Addr) (H:Hp) (Q:VK):List V->Prop
 | mk {cb sl ll pl:Addr} {us:List V} {S:Cs} {sts lfs:List Cs} (c:ClubG C H cb sl ll (sts ++ [S]) lfs) (ok:CsOk S) (h:H pl=some (.lst us)) (p:Paired (RwAt H) us S.rows) (q:∀ M,Same H M->Q (.bl true) M):RgtI C H Q [.ref cb,.ref pl]
def RgtC (C:Addr):Sp:=fun vs H Q _=>RgtI C H Q vs
def rgRow (i:Nat):Stmt:=(defBody sRgt).getD i (.Pass ⟨0,0,0,0⟩)
theorem rg_eq:defBody sRgt=[rgRow 0,rgRow 1,rgRow 2,rgRow 3,rgRow 4,rgRow 5]:=rfl
abbrev Xr (P:Program) (w:World) (K:PySem.W.Frag) (mg:Str->Option Value) (base:Heap) (f:Addr) (cdv:Value) (A:Around) (outer:List Env) (s:Shared) (H:Hp) (E:XK):Cx:=(cxOf CX0 P w K mg base nRgt "_law_right" (defScope sRgt) f cdv A outer s H E).nox
def lt2 (a b:Str):TE:=kTup (tCons (tC (.str a)) (tCons (tC (.str b)) tNil))
theorem rg4 {f:Addr}{cdv:Value}{A:Around}{outer:List Env}{s:Shared}{H:Hp}{E:XK}{C:Addr}(hr:Room 6 (A.deeper (PyProof.Rows.envOfC "_law_right" (defScope sRgt) s.heap.objs.size f cdv)))
  (DV:DfM P w K mg base 6 C "verdict" ["self","one","other"] (VdC C)) (DW:Df P w K mg base 4 "verdict_trials" ["trials","one","other"] VerC) :
  ∃ r,rgRow 4=r/\PS (Xr P w K mg base f cdv A outer s H E) r (kFor (iL K (kLst (tCons (lt2 "ann" "bo") (tCons (lt2 "bo" "cy") (tCons (lt2 "di" "ann") (tCons (lt2 "cy" "di") (tCons (lt2 "ann" "zed") tNil))))))) (UnT 2 (gC (gName 4) (gC (gName 6) gN)))
   (kIfS (kTest (tOp (rKq not) (kMeth C "verdict" (VdC C) E0 (vC 0) (tCons (vC 4) (tCons (vC 6) tNil))) (kCall VerC E0 (tCons (vC 9) (tCons (vC 4) (tCons (vC 6) tNil)))))) (tRet (tC (.bl false))) tNext)):=by
 obtain ⟨es,ps,tg,b,p0,e,h,hg,hb⟩:∃ es ps tg b p0,rgRow 4=.For tg (.List es ps) b [] p0/\PA (Xr P w K mg base f cdv A outer s H E) es (tCons (lt2 "ann" "bo") (tCons (lt2 "bo" "cy") (tCons (lt2 "di" "ann") (tCons (lt2 "cy" "di") (tCons (lt2 "ann" "zed") tNil))))) /\
   PG (Xr P w K mg base f cdv A outer s H E) tg (UnT 2 (gC (gName 4) (gC (gName 6) gN)))/\PSs (Xr P w K mg base f cdv A outer s H E) b (kIfS (kTest (tOp (rKq not) (kMeth C "verdict" (VdC C) E0 (vC 0) (tCons (vC 4) (tCons (vC 6) tNil))) (kCall VerC E0 (tCons (vC 9) (tCons (vC 4) (tCons (vC 6) tNil)))))) (tRet (tC (.bl false))) tNext) :=
  ⟨_,_,_,_,_,rfl,pa_cons (peT (pa_cons pe_str (pa_cons pe_str pa_nil))) (pa_cons (peT (pa_cons pe_str (pa_cons pe_str pa_nil))) (pa_cons (peT (pa_cons pe_str (pa_cons pe_str pa_nil))) (pa_cons (peT (pa_cons pe_str (pa_cons pe_str pa_nil))) (pa_cons (peT (pa_cons pe_str (pa_cons pe_str pa_nil))) pa_nil)))),
   pgT 2 (pgC (pg_name (i:=4) scRgt.nd rfl (Or.inl rfl)) (pgC (pg_name (i:=6) scRgt.nd rfl (Or.inl rfl)) pgN)),pss_one (psIf (pt_C oN (pM DV hr (pC 0) (pa_cons (pC 4) (pa_cons (pC 6) pa_nil))) (pD DW (hr.mono (by decide)) (pa_cons (pC 9) (pa_cons (pC 4) (pa_cons (pC 6) pa_nil)))) (nomark _)) (pss_one (ps_ret pe_bl)) pss_nil)⟩
 exact ⟨_,e,psFor PassesOwn.never rfl (piL K (peL h)) hg hb⟩
end
end K39
namespace K39
open PySem L2 HT PySem.W
section
variable {P:Program}{w:World}{K:PySem.W.Frag}{mg:Str->Option Value}{base:Heap}
theorem alG_half:∀ l:Rows,2 * (alG l).length + l.length<=l.length * l.length
 | []=>Nat.le_refl _
 | x :: l=>by
  have h1:=rwG_len x l
  have h2:=alG_half l
  show 2 * (rwG x l ++ alG l).length + (l.length + 1)<=(l.length + 1) * (l.length + 1)
  have e:(l.length + 1) * (l.length + 1)=l.length * l.length + 2 * l.length + 1:=by rw [Nat.add_mul,Nat.mul_add]; omega
  rw [List.length_append,e]; omega
theorem ok_rgtC {f:Addr}{fd:FuncData}{C:Addr}(F:Fun K "_law_right" "_law_right" sRgt f fd) (T:Txt mg) (CC:Clb K C) (DL:Df P w K mg base 2 "_law_trial" ["one","other"] spLt) (DP:DfM P w K mg base 1 C "pieces" ["self"] (PcsC C)) (DT:DfM P w K mg base 5 C "trials" ["self"] (TrsC C))
  (DV:DfM P w K mg base 6 C "verdict" ["self","one","other"] (VdC C)) (DW:Df P w K mg base 4 "verdict_trials" ["trials","one","other"] VerC):FnOk P w K mg base CX0 7 f fd ["club","pieces"] (RgtC C):=by
 refine F.ok scRgt (fun vs H Q E h=>by cases h; rfl) (fun cdv A outer s H vs Q E hr h=>?_)
 obtain ⟨r4,e4,q4⟩:=rg4 (P:=P) (w:=w) (K:=K) (mg:=mg) (base:=base) (outer:=outer) (s:=s) (H:=H) (E:=E) hr DV DW
 rw [rg_eq,e4]
 refine ⟨_,pss_cons (ps_set (i:=2) scRgt.nd rfl (Or.inl rfl) (peL pa_nil))
   (pss_cons (psFor PassesOwn.never rfl (piE K rfl T.enum (pa_cons (pC 1) pa_nil)) (pgT 2 (pgC (pg_name (i:=3) scRgt.nd rfl (Or.inl rfl)) (pgC (pgT 2 (pgC (pg_name (i:=4) scRgt.nd rfl (Or.inl rfl)) (pgC (pg_name (i:=5) scRgt.nd rfl (Or.inl rfl)) pgN))) pgN)))
    (pss_one (psFor PassesOwn.never rfl (piL K (pe_slice sl2 (pC 1) (po_C (pe_op (oK op_add) (pC 3) pe_int)) po_none)) (pgT 2 (pgC (pg_name (i:=6) scRgt.nd rfl (Or.inl rfl)) (pgC (pg_name (i:=7) scRgt.nd rfl (Or.inl rfl)) pgN)))
     (pss_cons (ps_set (i:=8) scRgt.nd rfl (Or.inl rfl) (pD DL (hr.mono (by decide)) (pa_cons (pC 5) (pa_cons (pC 7) pa_nil))))
     (pss_one (psIf (pt_C oNnot (pC 8) pe_non (nomark _)) (pss_one (ps_expr (peBM PySem.F.slot_list_append PySem.F.type_list_append mtApp (pC 2) (pa_cons (peT (pa_cons (pC 4) (pa_cons (pC 6) (pa_cons (pC 8) pa_nil)))) pa_nil)))) pss_nil))))))
   (pss_cons (psIf (PW.pt (pwOr (pt_C (oNe hr.units) (pM0 DP (hr.mono (by decide)) (pC 0)) (pC 1) (nomark _)) (pw_or1 (pt_C (oNe hr.units) (pM0 DT (hr.mono (by decide)) (pC 0)) (pC 2) (nomark _))))) pss_never pss_nil)
   (pss_cons (ps_set (i:=9) scRgt.nd rfl (Or.inl rfl) (pe_slice sl2 (pe_lc (N:=["row"]) (g:=gName 0) (tc:=tYes) (te:=tOp IxT (vC 0) (tC (.int 2))) rfl (piL K (pC 2)) (BlkOk.closed rfl (by decide +kernel) (by decide +kernel) (by decide +kernel))
     (fun _ _ _=>pg_name (i:=0) (nd1 _) rfl (Or.inl rfl)) (fun _ _ _=>pts_nil) (fun _ _ _=>pe_ix ixT2 (pC 0) pe_int (fun _ _=>rfl))) po_none (po_C pe_int)))
   (pss_cons q4
   (pss_one (ps_ret pe_bl)))))),?_⟩
 clear q4 e4
 obtain @⟨cb,sl,ll,pl,us,S,sts,lfs,c,ok,h,pr,q⟩:=h
 obtain ⟨_,_,_,dx,fs,_,_,_,L⟩:=c.lst
 have lus:=pairL pr
 have lr:=ok.lr
 refine NewO.mk rfl fun l M1 s1 w1 n1=>EiK.mk (s1 _ _ h) ?_
 have npl:pl≠l:=fun z=>by rw [z,n1] at h; cases h
 have key:∀ {H':Hp},Keep l M1 H'->H' pl=some (.lst us):=fun k=>k _ _ npl (s1 _ _ h)
 refine loopE (fun i σ M=>(∃ v3 v4 v5 v6 v7 v8 v9,σ=[some (.ref cb),some (.ref pl),some (.ref l),v3,v4,v5,v6,v7,v8,v9])/\Keep l M1 M/\∃ ws L,M l=some (.lst ws)/\Paired (Rw3At M) ws L/\L ++ alG (S.rows.drop i)=alG S.rows/\L.length<=40 * i) ⟨⟨_,_,_,_,_,_,_,rfl⟩,Keep.refl _ _,[],[],w1,.nil,rfl,Nat.zero_le _⟩ (fun i σ M h=>key h.2.1) ?_ ?_
 ·rintro i x σ M D T M3 hx ⟨⟨v3,v4,v5,v6,v7,v8,v9,rfl⟩,kp,ws,L,hL,pw,eL,lL⟩ ⟨nx,_⟩ s3 hT _
  obtain ⟨a,ea,u,r,rfl,hu,hP⟩:=pairG pr i _ hx
  have hi:=(List.getElem?_eq_some_iff.mp ea).1
  obtain rfl:S.rows[i]=a:=Option.some.inj ((List.getElem?_eq_getElem hi).symm.trans ea)
  have tk:Tk H M3:=fun b xs e=>s3 _ _ (keepT w1 kp _ _ (s1 _ _ e))
  have k3:Keep l M1 M3:=kp.trans s3.keep
  have dp:S.rows.drop i=S.rows[i] :: S.rows.drop (i + 1):=List.drop_eq_getElem_cons hi
  rw [dp] at eL
  have okp:=ok.rows _ (List.getElem_mem hi)
  refine UnT.mk hT rfl (UnT.mk (tk _ _ hu) rfl (SlI.l (key k3) fun p M4 s4 hp np=>LiK.mk hp ?_))
  rw [cut_from (by omega)] at hp
  have nq:p≠l:=fun z=>by rw [z,s3 _ _ hL] at np; cases np
  have tk4:Tk H M4:=fun b xs e=>s4 _ _ (tk _ _ e)
  have l4:=s4 _ _ (s3 _ _ hL)
  refine loopL (xs:=us.drop (i + 1)) (fun m σ M=>(∃ v6 v7 v8 v9,σ=[some (.ref cb),some (.ref pl),some (.ref l),some (.int i),some (.int S.rows[i].1),some (.ref r),v6,v7,v8,v9])/\Keep l M4 M/\∃ ws L,M l=some (.lst ws)/\Paired (Rw3At M) ws L/\(L ++ rwG S.rows[i] ((S.rows.drop (i + 1)).drop m)) ++ alG (S.rows.drop (i + 1))=alG S.rows/\L.length<=40 * i + m)
   ⟨⟨_,_,_,_,rfl⟩,Keep.refl _ _,ws,L,l4,rw3_up (fun b xs e=>s4 _ _ (s3 _ _ e)) pw,by rw [List.append_assoc]; exact eL,by omega⟩ (fun m σ M h=>h.2.1 _ _ nq hp) ?_ ?_
  ·rintro m x σ M5 D hx ⟨⟨v6,v7,v8,v9,rfl⟩,k5,ws,L,hL,pw,eL,lL⟩ ⟨nx,_⟩
   rw [List.getElem?_drop] at hx
   obtain ⟨b,eb,u',r',rfl,hu',hP'⟩:=pairG pr _ _ hx
   have hj:=(List.getElem?_eq_some_iff.mp eb).1
   obtain rfl:S.rows[i + 1 + m]=b:=Option.some.inj ((List.getElem?_eq_getElem hj).symm.trans eb)
   have tk5:Tk H M5:=fun b xs e=>keepT l4 k5 _ _ (tk4 _ _ e)
   have okq:=ok.rows _ (List.getElem_mem hj)
   refine UnT.mk (tk5 _ _ hu') rfl ⟨r,r',_,_,rfl,hP.up tk5,hP'.up tk5,okp.1,okq.1,okp.2,okq.2,fun v o M6 s6 td dv=>?_⟩
   rw [toldF_is okp.2 td] at dv
   have dd:(S.rows.drop (i + 1)).drop m=S.rows[i + 1 + m] :: (S.rows.drop (i + 1)).drop (m + 1):=by
    rw [List.drop_drop,List.drop_drop,show i + 1 + (m + 1)=(i + 1 + m) + 1 by omega]
    exact List.drop_eq_getElem_cons hj
   rw [dd] at eL
   have e2:((L ++ row1 S.rows[i].1 S.rows[i + 1 + m].1 (toldF S.rows[i].2 S.rows[i + 1 + m].2)) ++ rwG S.rows[i] ((S.rows.drop (i + 1)).drop (m + 1))) ++ alG (S.rows.drop (i + 1))=alG S.rows:=by
    rw [<- eL,List.append_assoc L]; rfl
   have k6:Keep l M4 M6:=k5.trans s6.keep
   cases et:toldF S.rows[i].2 S.rows[i + 1 + m].2 with
   | none =>
    rw [et] at dv e2
    cases dv
    rw [show row1 S.rows[i].1 S.rows[i + 1 + m].1 none=[] from rfl,List.append_nil] at e2
    exact nx _ _ ⟨⟨_,_,_,_,rfl⟩,k6,ws,L,s6 _ _ hL,rw3_up s6.tk' pw,e2,by omega⟩
   | some t =>
    rw [et] at dv e2
    obtain ⟨y,rfl,ty⟩:=dv
    refine ⟨IsL.mk (s6 _ _ hL),NewO.mk rfl fun z M7 s7 w7 _=>AppC.mk (s7 _ _ (s6 _ _ hL)) ?_ fun M8 k8 w8=>nx _ _ ⟨⟨_,_,_,_,rfl⟩,(k6.trans s7.keep).trans k8,_,L ++ [(S.rows[i].1,S.rows[i + 1 + m].1,t)],w8,?_,e2,?_⟩⟩
    ·have:=pairL pw
     omega
    ·have t8:=keepT (s7 _ _ (s6 _ _ hL)) k8
     exact pairS ⟨z,y,rfl,t8 _ _ w7,(ty.same s7).up t8⟩ (rw3_up (fun b xs e=>t8 _ _ (s7 _ _ (s6 _ _ e))) pw)
    ·rw [List.length_append,List.length_singleton]; omega
  ·rintro σ M5 ⟨⟨v6,v7,v8,v9,rfl⟩,k5,ws,L,hL,pw,eL,lL⟩
   have ll':(us.drop (i + 1)).length=(S.rows.drop (i + 1)).length:=by rw [List.length_drop,List.length_drop,lus]
   rw [ll',List.drop_length,show rwG S.rows[i] []=[] from rfl,List.append_nil] at eL
   refine nx _ _ ⟨⟨_,_,_,_,_,_,_,rfl⟩,(k3.trans s4.keep).trans k5,ws,L,hL,pw,eL,?_⟩
   rw [ll',List.length_drop] at lL
   omega
 ·rintro σ M ⟨⟨v3,v4,v5,v6,v7,v8,v9,rfl⟩,kp,ws,LL,hL,pw,eL,_⟩
  rw [lus,List.drop_length,show alG []=[] from rfl,List.append_nil] at eL
  rw [eL] at pw
  clear eL
  have kH:Same H M:=fun b o e=>kp _ _ (fun z=>by rw [z,n1] at e; cases e) (s1 _ _ e)
  have cM:=c.same kH
  have LM:=L.same kH
  have prM:Paired (RwAt M) us S.rows:=Paired.mono pr fun _ _ z=>z.up kH.tk'
  refine InsC.mk LM.i (LM.m _ (by decide) (by decide)) (LstsI.mk cM fun l1 us1 J1 z1 y1 _ p1=>?_)
  refine EqI.mk (far_lst y1 (farL_pair far_pw p1)).one (far_lst (z1 _ _ (kH _ _ h)) (farL_pair far_pw (Paired.mono prM fun _ _ z=>z.up z1.tk'))).one ok.layR ok.layR ?_
  rw [eqv_mapL eqv_pw,decide_eq_true rfl]
  refine InsC.mk (z1 _ _ LM.i) (LM.m _ (by decide) (by decide)) (TrsI.mk (cM.same z1) ok.rows ok.lr fun l2 us2 J2 z2 y2 _ p2=>?_)
  have z02:=z1.trans z2
  refine EqI.mk (far_lst y2 (farL_pair far_r3 p2)).one (far_lst (z02 _ _ hL) (farL_pair far_r3 (rw3_up z02.tk' pw))).one ok.layT ok.layT ?_
  rw [eqv_mapL eqv_r3,decide_eq_true rfl]
  have lw:=pairL pw
  have la:=alG_half S.rows
  refine LiK.mk (z02 _ _ hL) fun D hD=>lcM (fun H v (t:Td)=>TrT H v t) (fun r:Row3=>r.2.2) (fun σ=>∃ v,σ=[v]) hD (wkL (z02 _ _ hL)) (rw3_up z02.tk' pw) ?_ ⟨_,rfl⟩ (fun H H' v b t h=>?_) ?_ ?_
  ·have:S.rows.length * S.rows.length<=40 * S.rows.length:=Nat.mul_le_mul_right _ lr
   omega
  ·obtain ⟨p,z,e,h1,h2⟩:=h
   exact ⟨p,z,e,t _ _ h1,t _ _ h2⟩
  ·rintro σ M' v r Y ⟨a,rfl⟩ s ⟨u,z,rfl,h1,l,h2,h3⟩ _ hy
   exact IxT.mk (s _ _ h1) (atI_nat (j:=2) rfl) (hy _ _ _ ⟨_,rfl⟩ (Same.refl _) ⟨z,l,rfl,s _ _ h2,s _ _ h3⟩)
  intro ys J3 z3 y3 p3
  refine SlI.l y3 fun tl J4 z4 y4 n4=>?_
  rw [cut_40] at y4
  have pt:TrsT J4 (ys.take 40) (((alG S.rows).map fun r=>r.2.2).take 40):=paired_take 40 (Paired.mono p3 fun _ _ h=>h.mono fun b xs e=>z4 _ _ e)
  have z04:=(z02.trans z3).trans z4
  have lt:=pairL pt
  have l40:(((alG S.rows).map fun r=>r.2.2).take 40).length<=100:=by rw [List.length_take]; omega
  refine NewO.mk rfl fun t1 J5 x1 w1' _=>NewO.mk rfl fun t2 J6 x2 w2 _=>NewO.mk rfl fun t3 J7 x3 w3 _=>NewO.mk rfl fun t4 J8 x4 w4 _=>NewO.mk rfl fun t5 J9 x5 w5 _=>NewO.mk rfl fun lx J10 x6 w6 _=>LiK.mk w6 ?_
  have x16:=((((x1.trans x2).trans x3).trans x4).trans x5).trans x6
  have zz:=z04.trans x16
  have cJ:=cM.same zz
  have LJ:=LM.same zz
  have hy:=x16 _ _ y4
  have ptJ:TrsT J10 (ys.take 40) (((alG S.rows).map fun r=>r.2.2).take 40):=Paired.mono pt fun _ _ h=>h.mono fun b xs e=>x16 _ _ e
  have two:∀ (i:Nat) (x:V),([.ref t1,.ref t2,.ref t3,.ref t4,.ref t5]:List V)[i]?=some x->∃ (t:Addr) (a b:Str),x=.ref t/\J10 t=some (.tup [.str a,.str b]):=by
   intro i x e
   match i,e with
   | 0,e=>cases e; exact ⟨_,_,_,rfl,(((((x2.trans x3).trans x4).trans x5).trans x6)) _ _ w1'⟩
   | 1,e=>cases e; exact ⟨_,_,_,rfl,((((x3.trans x4).trans x5).trans x6)) _ _ w2⟩
   | 2,e=>cases e; exact ⟨_,_,_,rfl,(((x4.trans x5).trans x6)) _ _ w3⟩
   | 3,e=>cases e; exact ⟨_,_,_,rfl,((x5.trans x6)) _ _ w4⟩
   | 4,e=>cases e; exact ⟨_,_,_,rfl,x6 _ _ w5⟩
   | n + 5,e=>simp at e
  refine loopL (fun m σ M'=>(∃ v3 v4 v5 v6 v7 v8,σ=[some (.ref cb),some (.ref pl),some (.ref l),v3,v4,v5,v6,v7,v8,some (.ref tl)])/\Same J10 M') ⟨⟨_,_,_,_,_,_,rfl⟩,Same.refl _⟩ (fun m σ M' h=>h.2 _ _ w6) ?_ ?_
  ·rintro m x σ M5 D hx ⟨⟨v3,v4,v5,v6,v7,v8,rfl⟩,sM⟩ ⟨nx,_⟩
   obtain ⟨t,a,b,rfl,ht⟩:=two m x hx
   refine UnT.mk (sM _ _ ht) rfl (InsC.mk (sM _ _ LJ.i) (LJ.m _ (by decide) (by decide)) (VdI.mk (cJ.same sM) ok.rows ok.lr fun M6 s6=>VerI.mk (s6 _ _ (sM _ _ hy)) (Paired.mono ptJ fun _ _ h=>h.mono fun b xs e=>s6 _ _ (sM _ _ e)) l40 fun M7 s7=>?_))
   show kIf _ _ (!decide (verF (((alG S.rows).take 40).map fun r=>absT r.2.2) a b=verF ((((alG S.rows).map fun r=>r.2.2).take 40).map absT) a b))
   rw [<- List.map_take,List.map_map,decide_eq_true (show verF (((alG S.rows).take 40).map fun r=>absT r.2.2) a b=verF (((alG S.rows).take 40).map (absT ∘ fun r=>r.2.2)) a b from rfl)]
   exact nx _ _ ⟨⟨_,_,_,_,_,_,rfl⟩,(sM.trans s6).trans s7⟩
  ·rintro σ M5 ⟨⟨v3,v4,v5,v6,v7,v8,rfl⟩,sM⟩
   exact q _ ((kH.trans zz).trans sM)
end
end K39
namespace K39
open PySem L2 HT PySem.W
theorem ClubG.keep {C x:Addr}{H H':Hp}{cb sl ll:Addr}{sts lfs:List Cs}(h:ClubG C H cb sl ll sts lfs) (k:Keep x H H') (n1:x≠cb) (n2:x≠sl) (n3:x≠ll) (t:Tk H H'):ClubG C H' cb sl ll sts lfs:=by
 obtain ⟨dx,vs,ws,c1,c2,c3,c4,c5,c6,c7,c8⟩:=h
 exact ⟨dx,vs,ws,k _ _ n1.symm c1,c2,c3,c4,k _ _ n2.symm c5,k _ _ n3.symm c6,Paired.mono c7 fun _ _ z=>z.up t,Paired.mono c8 fun _ _ z=>z.up t⟩
theorem deck_isL {H:Hp}{k:Addr}{c:Int}(h:DeckAt H k c):∃ xs,H k=some (HO.lst xs):=by
 obtain ⟨⟨_,_,h1,_⟩,_⟩:=h
 exact ⟨_,h1⟩
structure Iw (H:Hp) (C cb sl p:Addr) (cs:List V) (M:Hp) (pl ll k:Addr) (us:List V) (c:Int) (sts lfs:List Cs) (R:Rows):Prop where
 cl:ClubG C M cb sl ll sts lfs
 hp:M pl=some (.lst us)
 pr:Paired (RwAt M) us R
 hc:M p=some (.lst cs)
 d:DeckAt M k c
 n1:p≠sl
 n2:p≠ll
 n3:p≠pl
 n4:pl≠sl
 n5:pl≠ll
 k1:k≠sl
 k2:k≠ll
 k3:k≠p
 k4:k≠pl
 hs:Same H M
 o1:H k=none
 o2:H pl=none
 o3:H cb=none
 o4:H sl=none
 o5:H ll=none
section
variable {H:Hp}{C cb sl p:Addr}{cs:List V}{M M':Hp}{pl ll k:Addr}{us:List V}{c:Int}{sts lfs:List Cs}{R:Rows}
theorem ClubG.icb {sts lfs:List Cs}(h:ClubG C M cb sl ll sts lfs):∃ dx fs,M cb=some (.ins C dx fs):=by
 obtain ⟨dx,vs,ws,c1,_⟩:=h
 exact ⟨dx,_,c1⟩
theorem ClubG.isl {sts lfs:List Cs}(h:ClubG C M cb sl ll sts lfs):(∃ vs,M sl=some (.lst vs))/\∃ vs,M ll=some (.lst vs):=by
 obtain ⟨dx,vs,ws,c1,_,_,_,c5,c6,_⟩:=h
 exact ⟨⟨_,c5⟩,_,c6⟩
theorem Iw.ncb (h:Iw H C cb sl p cs M pl ll k us c sts lfs R):pl≠cb/\p≠cb/\k≠cb:=by
 obtain ⟨dx,fs,e⟩:=h.cl.icb
 refine ⟨fun z=>?_,fun z=>?_,fun z=>?_⟩
 ·have:=h.hp; rw [z,e] at this; cases this
 ·have:=h.hc; rw [z,e] at this; cases this
 ·obtain ⟨xs,q⟩:=deck_isL h.d
  rw [z,e] at q; cases q
theorem Iw.same (h:Iw H C cb sl p cs M pl ll k us c sts lfs R) (s:Same M M'):Iw H C cb sl p cs M' pl ll k us c sts lfs R :=
 ⟨h.cl.same s,s _ _ h.hp,Paired.mono h.pr fun _ _ z=>z.up s.tk',s _ _ h.hc,deck_same h.d s,h.n1,h.n2,h.n3,h.n4,h.n5,h.k1,h.k2,h.k3,h.k4,h.hs.trans s,h.o1,h.o2,h.o3,h.o4,h.o5⟩
theorem Iw.deal {c':Int}(h:Iw H C cb sl p cs M pl ll k us c sts lfs R) (q:Keep k M M') (d:DeckAt M' k c'):Iw H C cb sl p cs M' pl ll k us c' sts lfs R:=by
 have t:=keep_tup h.d q
 exact ⟨h.cl.keep q h.ncb.2.2 h.k1 h.k2 t,q _ _ h.k4.symm h.hp,Paired.mono h.pr fun _ _ z=>z.up t,q _ _ h.k3.symm h.hc,d,h.n1,h.n2,h.n3,h.n4,h.n5,h.k1,h.k2,h.k3,h.k4,fun y o e=>q _ _ (fun z=>by rw [z,h.o1] at e; cases e) (h.hs _ _ e),h.o1,h.o2,h.o3,h.o4,h.o5⟩
theorem Iw.deed {ll':Addr}{sts' lfs':List Cs}(h:Iw H C cb sl p cs M pl ll k us c sts lfs R) (q:Kp3 cb sl ll M M') (f:ll'=ll\/M ll'=none) (cl:ClubG C M' cb sl ll' sts' lfs'):Iw H C cb sl p cs M' pl ll' k us c sts' lfs' R:=by
 obtain ⟨n,m,kc⟩:=h.ncb
 obtain ⟨dx,fs,e⟩:=h.cl.icb
 obtain ⟨⟨vs,e1⟩,ws,e2⟩:=h.cl.isl
 have t:Tk M M':=fun b xs z=>q _ _ (fun y=>by rw [y,e] at z; cases z) (fun y=>by rw [y,e1] at z; cases z) (fun y=>by rw [y,e2] at z; cases z) z
 obtain ⟨xs,ed⟩:=deck_isL h.d
 have nl:∀ y o,y≠ll->M y=some o->y≠ll':=fun y o n z w=>by
  rcases f with f | f
  ·exact n (w.trans f)
  ·rw [<- w,z] at f; cases f
 refine ⟨cl,q _ _ n h.n4 h.n5 h.hp,Paired.mono h.pr fun _ _ z=>z.up t,q _ _ m h.n1 h.n2 h.hc,h.d.keep fun o z=>q _ _ kc h.k1 h.k2 z,h.n1,nl _ _ h.n2 h.hc,h.n3,h.n4,nl _ _ h.n5 h.hp,h.k1,nl _ _ h.k2 ed,h.k3,h.k4,
  fun y o e=>q _ _ (fun z=>by rw [z,h.o3] at e; cases e) (fun z=>by rw [z,h.o4] at e; cases e) (fun z=>by rw [z,h.o5] at e; cases e) (h.hs _ _ e),h.o1,h.o2,h.o3,h.o4,?_⟩
 rcases f with f | f
 ·rw [f]; exact h.o5
 ·exact none_of_same h.hs f
theorem Iw.list {us':List V}{R':Rows}(h:Iw H C cb sl p cs M pl ll k us c sts lfs R) (q:Keep pl M M') (e:M' pl=some (.lst us')) (pr:Paired (RwAt M') us' R'):Iw H C cb sl p cs M' pl ll k us' c sts lfs R':=by
 have t:Tk M M':=fun b xs z=>q _ _ (fun y=>by rw [y,h.hp] at z; cases z) z
 exact ⟨h.cl.keep q h.ncb.1 h.n4 h.n5 t,e,pr,q _ _ h.n3 h.hc,h.d.keep fun o z=>q _ _ h.k4 z,h.n1,h.n2,h.n3,h.n4,h.n5,h.k1,h.k2,h.k3,h.k4,fun y o e=>q _ _ (fun z=>by rw [z,h.o2] at e; cases e) (h.hs _ _ e),h.o1,h.o2,h.o3,h.o4,h.o5⟩
theorem Iw.other {pl':Addr}{us':List V}{R':Rows}(h:Iw H C cb sl p cs M pl ll k us c sts lfs R) (n:M pl'=none) (s:Same M M') (e:M' pl'=some (.lst us')) (pr:Paired (RwAt M') us' R'):Iw H C cb sl p cs M' pl' ll k us' c sts lfs R':=by
 obtain ⟨⟨vs,e1⟩,ws,e2⟩:=h.cl.isl
 obtain ⟨xs,ed⟩:=deck_isL h.d
 have nn:∀ y o,M y=some o->y≠pl':=fun y o e z=>by rw [z,n] at e; cases e
 exact ⟨h.cl.same s,e,pr,s _ _ h.hc,deck_same h.d s,h.n1,h.n2,nn _ _ h.hc,(nn _ _ e1).symm,(nn _ _ e2).symm,h.k1,h.k2,h.k3,nn _ _ ed,h.hs.trans s,h.o1,none_of_same h.hs n,h.o3,h.o4,h.o5⟩
theorem Iw.cells {p':Addr}{cs':List V}(h:Iw H C cb sl p cs M pl ll k us c sts lfs R) (n:M p'=none) (s:Same M M') (e:M' p'=some (.lst cs')):Iw H C cb sl p' cs' M' pl ll k us c sts lfs R:=by
 obtain ⟨⟨vs,e1⟩,ws,e2⟩:=h.cl.isl
 obtain ⟨xs,ed⟩:=deck_isL h.d
 have nn:∀ y o,M y=some o->y≠p':=fun y o e z=>by rw [z,n] at e; cases e
 exact ⟨h.cl.same s,s _ _ h.hp,Paired.mono h.pr fun _ _ z=>z.up s.tk',e,deck_same h.d s,(nn _ _ e1).symm,(nn _ _ e2).symm,(nn _ _ h.hp).symm,h.n4,h.n5,h.k1,h.k2,nn _ _ ed,h.k4,h.hs.trans s,h.o1,h.o2,h.o3,h.o4,h.o5⟩
theorem Iw.deck {k':Addr}{c':Int}(h:Iw H C cb sl p cs M pl ll k us c sts lfs R) (n:M k'=none) (s:Same M M') (d:DeckAt M' k' c'):Iw H C cb sl p cs M' pl ll k' us c' sts lfs R:=by
 obtain ⟨⟨vs,e1⟩,ws,e2⟩:=h.cl.isl
 have nn:∀ y o,M y=some o->k'≠y:=fun y o e z=>by rw [<- z,n] at e; cases e
 exact ⟨h.cl.same s,s _ _ h.hp,Paired.mono h.pr fun _ _ z=>z.up s.tk',s _ _ h.hc,d,h.n1,h.n2,h.n3,h.n4,h.n5,nn _ _ e1,nn _ _ e2,nn _ _ h.hc,nn _ _ h.hp,h.hs.trans s,none_of_same h.hs n,h.o2,h.o3,h.o4,h.o5⟩
end
structure R40 (R:Rows) (n:Nat):Prop where
 num:∀ x∈R,x.1 < n
 nd:(R.map (·.1)).Nodup
 pc:∀ x∈R,PcOk x.2/\Crews x.2
theorem cut_mid {a b:Rows}{x:Nat × Pce}(h:((a ++ x :: b).map (·.1)).Nodup):cutR (a ++ x :: b) (x.1:Int)=a ++ b/\(a ++ x :: b).filter (fun y=>!decide (y=x))=a ++ b:=by
 rw [List.map_append,List.map_cons] at h
 obtain ⟨h1,h2,h3⟩:=List.nodup_append.mp h
 have h4:=(List.nodup_cons.mp h2).1
 have na:∀ y∈a,y.1≠x.1:=fun y hy e=>h3 _ (List.mem_map_of_mem hy) _ (List.mem_cons_self) e
 have nb:∀ y∈b,y.1≠x.1:=fun y hy e=>h4 (e ▸ List.mem_map_of_mem (f:=fun y:Nat × Pce=>y.1) hy)
 have f1:∀ l:Rows,(∀ y∈l,y.1≠x.1)->l.filter (fun y=>!decide ((y.1:Int)=(x.1:Int)))=l:=fun l hl=>List.filter_eq_self.mpr fun y hy=>by
  have:=hl y hy
  simp; omega
 have f2:∀ l:Rows,(∀ y∈l,y.1≠x.1)->l.filter (fun y=>!decide (y=x))=l:=fun l hl=>List.filter_eq_self.mpr fun y hy=>by
  have:=hl y hy
  simp; rintro rfl; exact this rfl
 unfold cutR
 constructor
 ·rw [List.filter_append,List.filter_cons,f1 a na,f1 b nb]; simp
 ·rw [List.filter_append,List.filter_cons,f2 a na,f2 b nb]; simp
theorem R40.turn {a b:Rows}{x:Nat × Pce}{n:Nat}{p:Pce}(h:R40 (a ++ x :: b) n) (o:PcOk p) (cr:Crews p):R40 (a ++ b ++ [(n,p)]) (n + 1):=by
 have sub:∀ y∈a ++ b,y∈a ++ x :: b:=fun y hy=>by
  rcases List.mem_append.mp hy with z | z
  ·exact List.mem_append_left _ z
  ·exact List.mem_append_right _ (List.mem_cons_of_mem _ z)
 have nd:((a ++ b).map (·.1)).Nodup:=h.nd.sublist ((List.Sublist.append_left (List.sublist_cons_self _ _) _).map _)
 refine ⟨fun y hy=>?_,?_,fun y hy=>?_⟩
 ·rcases List.mem_append.mp hy with z | z
  ·have:=h.num y (sub y z); omega
  ·rw [List.mem_singleton.mp z]; exact Nat.lt_succ_self n
 ·rw [List.map_append]
  refine nodup_snoc nd fun z=>?_
  obtain ⟨y,hy,e⟩:=List.mem_map.mp z
  have:=h.num y (sub y hy)
  exact absurd e (Nat.ne_of_lt this)
 ·rcases List.mem_append.mp hy with z | z
  ·exact h.pc y (sub y z)
  ·rw [List.mem_singleton.mp z]; exact ⟨o,cr⟩
theorem has_mid {a b:Rows}{x:Nat × Pce}:hasR (a ++ x :: b) (x.1:Int)=true:=by
 unfold hasR
 rw [List.any_append,List.any_cons,decide_eq_true rfl,Bool.true_or,Bool.or_true]
end K39
namespace K39
open PySem L2 HT PySem.W
def DfC (P:Program) (w:World) (K:PySem.W.Frag) (mg:Str->Option Value) (base:Heap) (C:Addr):Prop:=∃ f fd,Mk K C f/\FnOk P w K mg base CX0 1 f fd ["self"] (spInit C)/\Binds K fd ["self"] []/\mg "Club"=some (.ref C)
inductive MkI (C:Addr) (H:Hp) (Q:VK):Prop
 | mk (q:∀ cb sl ll M,Same H M->H cb=none->H sl=none->H ll=none->ClubG C M cb sl ll ([] ++ [⟨[],[],0⟩]) []->Q (.ref cb) M):MkI C H Q
theorem pClub {X:Cx}{C:Addr}{p pos:Pos}(D:DfC X.prog X.w X.K X.mg X.base C) (hr:Room 2 X.A) (hg:Gl X "Club":=by rfl):PE X (.Call (.Name "Club" p) [] [] pos) (fun σ H Q=>MkI C H Q):=by
 obtain ⟨f,fd,M,F,b,m⟩:=D
 refine (pe_make0 M F hr hg m b .nil pass0).wk fun σ H Q q=>?_
 intro cb dx hcb hdx nd
 have old:∀ {y:Addr},upd (upd H dx (.own cb)) cb (.ins C dx []) y=none->H y=none:=fun {y} e=>by
  by_cases z1:y=cb
  ·rw [z1,upd_same] at e; cases e
  ·rw [upd_ne z1] at e
   by_cases z2:y=dx
   ·rw [z2,upd_same] at e; cases e
   ·rw [upd_ne z2] at e; exact e
 refine ⟨cb,dx,rfl,upd_same,fun sl ll M k ns nl c=>⟨rfl,?_⟩⟩
 obtain ⟨q⟩:=q
 exact q cb sl ll M (fun y o e=>k y o (fun z=>by rw [z,hcb] at e; cases e) (by rw [upd_ne (fun z=>by rw [z,hcb] at e; cases e),upd_ne (fun z=>by rw [z,hdx] at e; cases e)]; exact e)) hcb (old ns) (old nl) c
theorem PickC.old (vs:List V) (H:Hp) (Q:VK) (E:XK) (h:PickC vs H Q E):spPick vs H Q E:=by
 obtain ⟨d,hc,h1,h2,q⟩:=h
 exact ⟨_,_,_,rfl,d,hc,h1,h2,q⟩
theorem DkC.old (vs:List V) (H:Hp) (Q:VK) (E:XK) (h:DkC vs H Q E):spDeck vs H Q E:=by
 obtain ⟨h,q⟩:=h
 exact ⟨_,_,rfl,h,q⟩
abbrev sLaw:Stmt:=top 44
abbrev nLaw:List Str:=["script","deck","names","club","pieces","k","piece","count","cell","row","many","turn"]
theorem scLaw:FnScope nLaw ["script"] (defScope sLaw):=⟨rfl,rfl,rfl,by decide +kernel,rfl,by decide +kernel,by decide +kernel⟩
def nmOt:List (Str × NameKind):=[(".0",.local),("other",.local),("row",.free)]
theorem ndOt:(["other","row"]:List Str).Nodup:=by decide +kernel
theorem R40.snoc {R:Rows}{n:Nat}{p:Pce}(h:R40 R n) (o:PcOk p) (cr:Crews p):R40 (R ++ [(n,p)]) (n + 1):=by
 refine ⟨fun y hy=>?_,?_,fun y hy=>?_⟩
 ·rcases List.mem_append.mp hy with z | z
  ·have:=h.num y z; omega
  ·rw [List.mem_singleton.mp z]; exact Nat.lt_succ_self n
 ·rw [List.map_append]
  refine nodup_snoc h.nd fun z=>?_
  obtain ⟨y,hy,e⟩:=List.mem_map.mp z
  exact absurd e (Nat.ne_of_lt (h.num y hy))
 ·rcases List.mem_append.mp hy with z | z
  ·exact h.pc y z
  ·rw [List.mem_singleton.mp z]; exact ⟨o,cr⟩
theorem R40.lay {R:Rows}{n:Nat}(h:R40 R n) (hn:n<=100000) (l:R.length<=100):Lay (.list (R.map pwD)):=(bd_rows h.pc (fun x hx=>Nat.le_trans (Nat.le_of_lt (h.num x hx)) hn) l).lay (by decide)
theorem Iw.rows {H:Hp}{C cb sl p:Addr}{cs:List V}{M:Hp}{pl ll k:Addr}{us:List V}{c:Int}{sts sts' lfs:List Cs}{R:Rows}(h:Iw H C cb sl p cs M pl ll k us c sts lfs R) (e:sts=sts'):Iw H C cb sl p cs M pl ll k us c sts' lfs R:=e ▸ h
theorem R40.cs {R:Rows}{n m:Nat}(h:R40 R n) (hn:n<=100000) (l:R.length<=40):CsOk ⟨[],R,m⟩:=⟨fun _ z=>(nomatch z),h.pc,fun x hx=>Nat.le_trans (Nat.le_of_lt (h.num x hx)) hn,Nat.zero_le _,l⟩
theorem kp3_tk {C cb sl ll:Addr}{M M':Hp}{sts lfs:List Cs}(c:ClubG C M cb sl ll sts lfs) (k:Kp3 cb sl ll M M'):Tk M M':=fun b xs z=>by
 obtain ⟨dx,fs,e⟩:=c.icb
 obtain ⟨⟨vs,e1⟩,ws,e2⟩:=c.isl
 exact k _ _ (fun y=>by rw [y,e] at z; cases z) (fun y=>by rw [y,e1] at z; cases z) (fun y=>by rw [y,e2] at z; cases z) z
theorem cut_at {α:Type}{T:List α}{m:Nat}(h:m < T.length):T.take (m + 1)=T.take m ++ [T[m]]/\(T.drop m).reverse=(T.drop (m + 1)).reverse ++ [T[m]]:=by
 refine ⟨(List.take_append_getElem h).symm,?_⟩
 rw [List.drop_eq_getElem_cons h,List.reverse_cons]
theorem wcd_mk {K:Frag}{C:Addr}{cd:ClassData}(h:clsIn K C=some cd) (h2:cd.hasDict=true) (h3:∀ self:Value,refuseLoop self "__setattr__" cd.mro=pure ()):∃ cd,clsIn K C=some cd/\cd.hasDict=true/\∀ self:Value,refuseLoop self "__setattr__" cd.mro=pure ():=⟨cd,h,h2,h3⟩
theorem r40_nil:R40 [] 0:=⟨fun _ z=>(nomatch z),List.nodup_nil,fun _ z=>(nomatch z)⟩
theorem first_int (ns:List Int):∃ c:Int,atI (ns.map V.int ++ [V.int 0]) 0=some (.int c):=by
 cases ns with
 | nil=>exact ⟨0,atI_nat (j:=0) rfl⟩
 | cons c ns=>exact ⟨c,atI_nat (j:=0) rfl⟩
section
variable {P:Program}{w:World}{K:PySem.W.Frag}{mg:Str->Option Value}{base:Heap}
def spLaw (K:PySem.W.Frag):Sp:=fun vs H Q _=>∃ (a:Addr) (ns:List Int),vs=[.ref a]/\SqL K H a (ns.map V.int)/\ns.length<=63/\∀ H',Q (.bl true) H'
theorem ok_law {f C:Addr}{fd:FuncData}(F:Fun K "law" "law" sLaw f fd) (T:Txt mg) (DD:Df P w K mg base 1 "_law_deck" ["cell","turn"] DkC) (DP:Df P w K mg base 1 "_law_pick" ["deck","many"] PickC) (DPc:Df P w K mg base 2 "_law_piece" ["deck","names"] PcC) (DX:Df P w K mg base 2 "_law_exchanged" ["deck","piece"] LxC) (DK:DfC P w K mg base C) (DT:DfM P w K mg base 4 C "tell" ["self","piece"] (TellC C)) (DS:DfM P w K mg base 2 C "strike" ["self","number"] (StrC C))
  (DB:DfM P w K mg base 1 C "back" ["self"] (BackC C)) (DA:DfM P w K mg base 1 C "again" ["self"] (AgnC C)) (DG:DfM P w K mg base 1 C "pieces" ["self"] (PcsC C)) (DR:Df P w K mg base 7 "_law_right" ["club","pieces"] (RgtC C)) (DM:Df P w K mg base 5 "_law_many" ["club","piece"] (ManyC C)):FnOk P w K mg base CX0 8 f fd ["script"] (spLaw K):=by
 refine F.ok scLaw (fun vs H Q E h=>by obtain ⟨a,ns,rfl,_⟩:=h; rfl) (fun cdv A outer s H vs Q E hr h=>?_)
 have hr5:=hr.mono (j:=5) (by decide)
 have hr4:=hr.mono (j:=4) (by decide)
 have hr2:=hr.mono (j:=2) (by decide)
 have hr1:=hr.mono (j:=1) (by decide)
 refine ⟨_,pss_cons (ps_set (i:=1) scLaw.nd rfl (Or.inl rfl) (pD DD hr1 (pa_cons (pe_ix ixL2 (pe_op (oCs K) (pC 0) (peL (pa_cons pe_int pa_nil))) pe_int (fun _ _=>rfl)) (pa_cons pe_int pa_nil))))
  (pss_cons (ps_set (i:=2) scLaw.nd rfl (Or.inl rfl) (peL (pa_cons pe_str (pa_cons pe_str (pa_cons pe_str (pa_cons pe_str (pa_cons pe_str pa_nil)))))))
  (pss_cons (ps_set (i:=3) scLaw.nd rfl (Or.inl rfl) (pClub DK hr2))
  (pss_cons (ps_set (i:=4) scLaw.nd rfl (Or.inl rfl) (peL pa_nil))
  (pss_cons (psFor PassesOwn.never rfl (piR rfl T.range (pa_cons pe_int pa_nil)) (pg_name (i:=5) scLaw.nd rfl (Or.inl rfl))
   (pss_cons (ps_set (i:=6) scLaw.nd rfl (Or.inl rfl) (pD DPc hr2 (pa_cons (pC 1) (pa_cons (pC 2) pa_nil))))
   (pss_cons (psIf (PW.pt (pwAnd (pt_C (oNe hr.units) (pC 4) (peL pa_nil) (nomark _)) (pw_and1 (pt_C (oK op_gt) (pD DP hr1 (pa_cons (pC 1) (pa_cons pe_int pa_nil))) pe_int (nomark _)))))
    (pss_one (ps_set (i:=6) scLaw.nd rfl (Or.inl rfl) (pD DX hr2 (pa_cons (pC 1) (pa_cons (pe_ix ixT2 (pe_ix ixL2 (pC 4) (pD DP hr1 (pa_cons (pC 1) (pa_cons (pe_callB cLen rfl T.len PySem.boot_len (pa_cons (pC 4) pa_nil)) pa_nil))) (fun _ _=>rfl)) pe_int (fun _ _=>rfl)) pa_nil))))) pss_nil)
   (pss_cons (psIf (pt_C oN (pM DT hr4 (pC 3) (pa_cons (pC 6) pa_nil)) (pC 5) (nomark _)) pss_never pss_nil)
   (pss_one (ps_expr (peBM PySem.F.slot_list_append PySem.F.type_list_append mtApp (pC 4) (pa_cons (peT (pa_cons (pC 5) (pa_cons (pC 6) pa_nil))) pa_nil))))))))
  (pss_cons (ps_set (i:=7) scLaw.nd rfl (Or.inl rfl) pe_int)
  (pss_cons (psFor PassesOwn.never rfl (piCells K 0 (l:=some 1) (h:=some 7) (pC 0) (po_some pe_int) (po_some pe_int) (fun _ _ _ q=>⟨_,rfl,q⟩) (fun _ _ _ q=>⟨_,rfl,q⟩) (peL (pa_cons pe_int pa_nil))) (pg_name (i:=8) scLaw.nd rfl (Or.inl rfl))
   (pss_cons (ps_set (i:=1) scLaw.nd rfl (Or.inl rfl) (pD DD hr1 (pa_cons (pC 8) (pa_cons pe_int pa_nil))))
   (pss_cons (psIf (PW.pt (pwOr (pt_not (pt_V (pD DR hr (pa_cons (pC 3) (pa_cons (pC 4) pa_nil))))) (pwOr (pt_C oN (pD DM hr5 (pa_cons (pC 3) (pa_cons (pe_ix ixT2 (pe_ix ixL2 (pC 4) pe_int (fun _ _=>rfl)) pe_int (fun _ _=>rfl)) pa_nil))) pe_int (nomark _)) (pw_or1 (pt_C (oNe hr.units) (pM0 DG hr1 (pC 3)) (pC 4) (nomark _)))))) pss_never pss_nil)
   (pss_cons (ps_set (i:=9) scLaw.nd rfl (Or.inr rfl) (pe_ix ixL2 (pC 4) (pD DP hr1 (pa_cons (pC 1) (pa_cons (pe_callB cLen rfl T.len PySem.boot_len (pa_cons (pC 4) pa_nil)) pa_nil))) (fun _ _=>rfl)))
   (pss_cons (ps_expr (pM DS hr2 (pC 3) (pa_cons (pe_ix ixT2 (pC 9) pe_int (fun _ _=>rfl)) pa_nil)))
   (pss_cons (ps_set (i:=6) scLaw.nd rfl (Or.inl rfl) (pD DX hr2 (pa_cons (pC 1) (pa_cons (pe_ix ixT2 (pC 9) pe_int (fun _ _=>rfl)) pa_nil))))
   (pss_cons (psIf (pt_C oN (pM DT hr4 (pC 3) (pa_cons (pC 6) pa_nil)) (pC 7) (nomark _)) pss_never pss_nil)
   (pss_cons (ps_set (i:=4) scLaw.nd rfl (Or.inl rfl) (pe_op oCt (pe_lc (N:=["other","row"]) (g:=gName 0) (tc:=kTest (tOp (rEqC not) (vC 0) (vC 1))) (te:=vC 0) rfl (piL K (pC 4))
     (BlkOk.one (v:="other") (fr:="row") (j:=9) (nm:=nmOt) rfl rfl rfl rfl (by decide +kernel) (by decide +kernel) (by decide +kernel) (by decide +kernel) (by decide +kernel))
     (fun _ _ _=>pg_name (i:=0) ndOt rfl (Or.inl rfl)) (fun _ _ _=>pts_one (pt_C (oNe hr.units) (pC 0) (pC 1) (nomark _))) (fun _ _ _=>pC 0)) (peL (pa_cons (peT (pa_cons (pC 7) (pa_cons (pC 6) pa_nil))) pa_nil))))
   (pss_cons (ps_set (i:=7) scLaw.nd rfl (Or.inl rfl) (pe_op (oK op_add) (pC 7) pe_int))
   (pss_cons (ps_set (i:=10) scLaw.nd rfl (Or.inl rfl) (pD DP hr1 (pa_cons (pC 1) (pa_cons pe_int pa_nil))))
   (pss_cons (psFor PassesOwn.never rfl (piR rfl T.range (pa_cons (pC 10) pa_nil)) (pg_name (i:=11) scLaw.nd rfl (Or.inl rfl)) (pss_one (ps_expr (pM0 DB hr1 (pC 3)))))
   (pss_one (psFor PassesOwn.never rfl (piR rfl T.range (pa_cons (pC 10) pa_nil)) (pg_name (i:=11) scLaw.nd rfl (Or.inl rfl)) (pss_one (ps_expr (pM0 DA hr1 (pC 3)))))))))))))))))
  (pss_one (ps_ret (pD DR hr (pa_cons (pC 3) (pa_cons (pC 4) pa_nil))))))))))),?_⟩
 obtain ⟨a,ns,rfl,hS,l63,q⟩:=h
 obtain ⟨c,ec⟩:=first_int ns
 refine NewO.mk rfl fun p0 M0 s0 w0 _=>CatS.mk (s0.seq hS) w0 (by rw [List.length_map]; show ns.length + 1<=10000; omega) fun p1 M1 s1 w1 _=>IxL.mk w1 ec (DkI.mk (by decide) fun k M2 nk s2 d2=>NewO.mk rfl fun nm M3 s3 w3 n3=>MkI.mk fun cb sl ll M4 s4 n1 n2 n2' c4=>NewO.mk rfl fun pl M5 s5 w5 n5=>RgK.mk (by decide) (by decide) ?_)
 have s02:=(s0.trans s1).trans s2
 have s03:=s02.trans s3
 have s05:=(s03.trans s4).trans s5
 obtain ⟨⟨vs,e1⟩,ws,e2⟩:=c4.isl
 obtain ⟨dl,ed⟩:=deck_isL d2
 have W0:Iw H C cb sl nm [.str "ann",.str "bo",.str "cy",.str "di",.str "ed"] M5 pl ll k [] 0 ([] ++ [⟨[],[],0⟩]) [] [] :=
  ⟨c4.same s5,w5,.nil,(s4.trans s5) _ _ w3,deck_same d2 ((s3.trans s4).trans s5),fun z=>by (rw [z,n2] at w3; cases w3),fun z=>by (rw [z,n2'] at w3; cases w3),fun z=>by (have:=s4 _ _ w3; rw [z,n5] at this; cases this),fun z=>by (rw [<- z,n5] at e1; cases e1),fun z=>by (rw [<- z,n5] at e2; cases e2),
   fun z=>by (have:=s3 _ _ ed; rw [z,n2] at this; cases this),fun z=>by (have:=s3 _ _ ed; rw [z,n2'] at this; cases this),fun z=>by (rw [z,n3] at ed; cases ed),fun z=>by (have:=(s3.trans s4) _ _ ed; rw [z,n5] at this; cases this),
   s05,none_of_same (s0.trans s1) nk,none_of_same (s03.trans s4) n5,none_of_same s03 n1,none_of_same s03 n2,none_of_same s03 n2'⟩
 clear d2 c4 w5 e1 e2 ed w3 n3 n5 n1 n2 n2'
 refine loopR (n:=40) (fun i σ M=>(∃ v5 v6,σ=[some (.ref a),some (.ref k),some (.ref nm),some (.ref cb),some (.ref pl),v5,v6,none,none,none,none,none])/\∃ ll us c sts R,Iw H C cb sl nm [.str "ann",.str "bo",.str "cy",.str "di",.str "ed"] M pl ll k us c (sts ++ [⟨[],R,i⟩]) [] R/\sts.length=i/\R.length=i/\R40 R i/\c<=80 * i)
  ⟨⟨_,_,rfl⟩,ll,_,_,[],[],W0,rfl,rfl,r40_nil,Int.le_refl _⟩ ?_ ?_
 ·rintro i σ M D' hi ⟨⟨v5,v6,rfl⟩,ll,us,c,sts,R,W,ls,lR,oR,hc⟩ ⟨nx,_⟩
  have lus:=pairL W.pr
  refine seqH fun DA hA=>PcI.mk (ns:=["ann","bo","cy","di","ed"]) W.d (by omega) W.k3.symm W.hc (by decide) (by decide) (by unfold okN; decide +kernel) (by decide +kernel) fun r pc c1 M1 k1 d1 u1 h1 o1 cr1=>hA _ _ (seqH fun DB hB=>?_)
  have W1:=W.deal k1 d1
  have fin:∀ {r pc c2 M2},Iw H C cb sl nm [.str "ann",.str "bo",.str "cy",.str "di",.str "ed"] M2 pl ll k us c2 (sts ++ [⟨[],R,i⟩]) [] R->PcAt M2 r pc->PcOk pc->Crews pc->c2<=c + 80 ->
    DB.nx [some (.ref a),some (.ref k),some (.ref nm),some (.ref cb),some (.ref pl),some (.int (0 + i)),some (.ref r),none,none,none,none,none] M2:=by
   intro r pc c2 M2 W2 h2 o2 cr2 hc2
   obtain ⟨_,_,_,dx,fs,_,_,_,L⟩:=W2.cl.lst
   refine hB _ _ (InsC.mk L.i (L.m _ (by decide) (by decide)) (TellI.mk W2.cl (by omega) (by show R.length<=39; omega) h2 o2 cr2 fun ll3 M3 k3 f3 c3=>?_))
   have W3:=W2.deed k3 (.inr f3) c3
   have h3:PcAt M3 r pc:=by
    obtain ⟨dx,fs,e⟩:=W2.cl.icb
    obtain ⟨⟨vs,e1⟩,ws,e2⟩:=W2.cl.isl
    exact h2.up fun b xs z=>k3 _ _ (fun y=>by rw [y,e] at z; cases z) (fun y=>by rw [y,e1] at z; cases z) (fun y=>by rw [y,e2] at z; cases z) z
   show kIf _ _ (!decide ((i:Int)=0 + i))
   rw [decide_eq_true (Int.zero_add _).symm]
   refine ⟨IsL.mk W3.hp,NewO.mk rfl fun t M4 s4 w4 _=>AppC.mk (s4 _ _ W3.hp) (by omega) fun M5 k5 w5=>nx _ _ ⟨⟨_,_,rfl⟩,ll3,us ++ [.ref t],c2,sts ++ [⟨[],R,i⟩],R ++ [(i,pc)],?_,?_,?_,?_,?_⟩⟩
   ·have W4:=W3.same s4
    have t5:Tk M4 M5:=keepT W4.hp k5
    rw [Int.zero_add] at w4
    exact (W4.list k5 w5 (pairS ⟨t,r,rfl,t5 _ _ w4,(h3.same s4).up t5⟩ (Paired.mono W4.pr fun _ _ z=>z.up t5))).rows rfl
   ·rw [List.length_append,List.length_singleton,ls]
   ·rw [List.length_append,List.length_singleton,lR]
   ·exact oR.snoc o2 cr2
   ·omega
  refine NewO.mk rfl fun p5 M2 s2 w2 _=>EqI.mk (far_lst (s2 _ _ W1.hp) (farL_pair far_pw (W1.same s2).pr)).one (far_lst w2 farL_nil).one (oR.lay (by omega) (by omega)) ⟨rfl,by decide +kernel⟩ ?_
  have W2:=W1.same s2
  rw [show PyData.eqv (.list (R.map pwD)) (.list [])=decide (R=[]) from eqv_mapL eqv_pw R []]
  by_cases e:R=[]
  ·rw [decide_eq_true e]
   exact fin W2 (h1.same s2) o1 cr1 (by omega)
  rw [decide_eq_false e]
  refine PickI.mk W2.d (by omega) (by decide) (by decide) fun r3 c3 M3 k3 d3 u3 g3 l3=>?_
  have W3:=W2.deal k3 d3
  have h3:=(h1.same s2).up (keep_tup W2.d k3)
  refine ifD (fun _=>?_) fun _=>fin W3 h3 o1 cr1 (by omega)
  have lp:0 < R.length:=List.length_pos_iff.mpr e
  refine LenC.l W3.hp (PickI.mk W3.d (by omega) (by rw [lus]; omega) (by rw [lus]; omega) fun r4 c4 M4 k4 d4 u4 g4 l4=>?_)
  have W4:=W3.deal k4 d4
  obtain ⟨hr4',ea⟩:=atI_lt g4 l4
  obtain ⟨x,ex,u,r,eu,hu,hP⟩:=pairG W4.pr r4.toNat _ (List.getElem?_eq_getElem hr4')
  rw [eu] at ea
  have ox:=oR.pc x (List.mem_of_getElem? ex)
  refine IxL.mk W4.hp ea (IxT.mk hu (atI_nat (j:=1) rfl) (LxI.mk W4.d (by omega) hP ox.1 ox.2 fun r6 p6 m y c6 M6 k6 d6 u6 h6 o6 x6=>?_))
  exact fin (W4.deal k6 d6) h6 o6 (x6.crews ox.2) (by omega)
 ·rintro σ M ⟨⟨v5,v6,rfl⟩,ll,us,c,sts,R,W,ls,lR,oR,hc⟩
  refine CellI.mk (W.hs.seq hS) fun p M1 cs s1 np hp lc=>?_
  have W1:=W.cells np s1 hp
  have l64:cs.length<=64:=by
   have:=cutV_length (ns.map V.int) (some 1) (some 7)
   rw [List.length_map] at this
   omega
  refine loopL (xs:=cs.map V.int) (fun i σ M=>∃ k pl ll us c sts R,(∃ v5 v6 v8 v9 v10 v11,σ=[some (.ref a),some (.ref k),some (.ref nm),some (.ref cb),some (.ref pl),v5,v6,some (.int ((40 + i:Nat):Int)),v8,v9,v10,v11])/\Iw H C cb sl p (cs.map V.int) M pl ll k us c (sts ++ [⟨[],R,40 + i⟩]) [] R/\40<=sts.length/\sts.length<=40 + 2 * i/\R.length=40/\R40 R (40 + i))
   ⟨k,pl,ll,us,c,sts,R,⟨_,_,_,_,_,_,rfl⟩,W1,by omega,by omega,lR,oR⟩ (fun i σ M ⟨_,_,_,_,_,_,_,_,W,_⟩=>W.hc) ?_ ?_
  ·clear W W1 oR
   rintro i cell σ M D' hx ⟨k,pl,ll,us,c,sts,R,⟨v5,v6,v8,v9,v10,v11,rfl⟩,W,l1,l2,lR,oR⟩ ⟨nx,_⟩
   have hi:=(List.getElem?_eq_some_iff.mp hx).1
   rw [List.length_map] at hi
   obtain ⟨cell,rfl⟩:∃ z:Int,cell=.int z:=by
    rw [List.getElem?_map] at hx
    cases e:cs[i]? with
    | none=>rw [e] at hx; cases hx
    | some z=>rw [e] at hx; exact ⟨z,(Option.some.inj hx).symm⟩
   have lus:=pairL W.pr
   have ck:CsOk ⟨[],R,40 + i⟩:=oR.cs (by omega) (by omega)
   refine seqH fun D0 h0=>DkI.mk (by decide) fun k' M1 nk s1 d1=>h0 _ _ (seqH fun D1 h1=>RgtI.mk (W.cl.same s1) ck (s1 _ _ W.hp) (Paired.mono W.pr fun _ _ z=>z.up s1.tk') fun M2 s2=>?_)
   have W2:=(W.deck nk s1 d1).same s2
   have l0:0 < us.length:=by omega
   obtain ⟨x0,ex0,u0,r0,eu0,hu0,hP0⟩:=pairG W2.pr 0 _ (List.getElem?_eq_getElem l0)
   have ea0:atI us 0=some (.ref u0):=by rw [<- eu0]; exact atI_nat (j:=0) (List.getElem?_eq_getElem l0)
   have ox0:=oR.pc x0 (List.mem_of_getElem? ex0)
   refine IxL.mk W2.hp ea0 (IxT.mk hu0 (atI_nat (j:=1) rfl) (FulI.mk W2.cl lR hP0 ox0.1 ox0.2 fun M3 s3=>?_))
   have W3:=W2.same s3
   obtain ⟨_,_,_,dx,fs,_,_,_,L⟩:=W3.cl.lst
   refine InsC.mk L.i (L.m _ (by decide) (by decide)) (LstsI.mk W3.cl fun l us4 M4 s4 w4 n4 p4=>EqI.mk (far_lst w4 (farL_pair far_pw p4)).one (far_lst (s4 _ _ W3.hp) (farL_pair far_pw (W3.same s4).pr)).one ck.layR ck.layR ?_)
   rw [eqv_mapL eqv_pw,decide_eq_true rfl]
   have W4:=W3.same s4
   clear W W2 W3 L
   refine h1 _ _ (seqH fun D2 h2=>LenC.l W4.hp (PickI.mk W4.d (by decide) (by rw [lus]; omega) (by rw [lus]; omega) fun r5 c5 M5 k5 d5 u5 g5 l5=>?_))
   have W5:=W4.deal k5 d5
   clear W4
   obtain ⟨hj,ea⟩:=atI_lt g5 l5
   obtain ⟨x,ex,u,r,eu,hu,hP⟩:=pairG W5.pr r5.toNat _ (List.getElem?_eq_getElem hj)
   rw [eu] at ea
   have mx:=List.mem_of_getElem? ex
   have ox:=oR.pc x mx
   refine IxL.mk W5.hp ea (h2 _ _ (seqH fun D3 h3=>?_))
   obtain ⟨A',B',rfl⟩:=List.append_of_mem mx
   obtain ⟨cut1,cut2⟩:=cut_mid oR.nd
   have lAB:(A' ++ B').length=39:=by
    rw [List.length_append,List.length_cons] at lR
    rw [List.length_append]; omega
   obtain ⟨_,_,_,dx5,fs5,_,_,_,L5⟩:=W5.cl.lst
   refine InsC.mk L5.i (L5.m _ (by decide) (by decide)) (IxT.mk hu (atI_nat (j:=0) rfl) (StrI.mk W5.cl (by omega) (by show (A' ++ x :: B').length<=90; omega) has_mid fun ll6 M6 k6 f6 c6=>h3 _ _ (seqH fun D4 h4=>?_)))
   have t6:=kp3_tk W5.cl k6
   have W6:=W5.deed k6 (.inr f6) c6
   rw [cut1] at W6
   clear W5 L5 c6
   refine IxT.mk (t6 _ _ hu) (atI_nat (j:=1) rfl) (LxI.mk W6.d (by omega) (hP.up t6) ox.1 ox.2 fun t7 p7 m y c7 M7 k7 d7 u7 h7 o7 x7=>h4 _ _ (seqH fun D5 h5=>?_))
   have t7':=keep_tup W6.d k7
   have W7:=W6.deal k7 d7
   clear W6
   obtain ⟨_,_,_,dx7,fs7,_,_,_,L7⟩:=W7.cl.lst
   have cr7:=x7.crews ox.2
   refine InsC.mk L7.i (L7.m _ (by decide) (by decide)) (TellI.mk W7.cl (by rw [List.length_append,List.length_singleton]; omega) (Nat.le_of_eq lAB) h7 o7 cr7 fun ll8 M8 k8 f8 c8=>?_)
   show kIf _ _ (!decide (((40 + i:Nat):Int)=((40 + i:Nat):Int)))
   rw [decide_eq_true rfl]
   have t8:=kp3_tk W7.cl k8
   have W8:=W7.deed k8 (.inr f8) c8
   clear W7 L7 c8
   have hu8:M8 u=some (.tup [.int x.1,.ref r]):=t8 _ _ (t7' _ _ (t6 _ _ hu))
   have hP8:PcAt M8 r x.2:=((hP.up t6).up t7').up t8
   have h8:PcAt M8 t7 p7:=h7.up t8
   have ly:∀ y∈A' ++ x :: B',L2.Lay (pwD y):=fun y hy=>(bd_pw (oR.pc y hy).1 (Nat.le_trans (Nat.le_of_lt (oR.num y hy)) (by omega))).lay (by decide)
   refine h5 _ _ (seqH fun D6 h6=>LiK.mk W8.hp fun Dx hDx=>lcR RwAt (fun y:Nat × Pce=>if (fun y:Nat × Pce=>!decide (y=x)) y=true then some y else none) (fun σ=>∃ v,σ=[v,some (.ref u)]) hDx (wkL W8.hp) W8.pr (by omega) ⟨_,rfl⟩ (fun _ _ _ _ t h=>h.up t) ?_ ?_)
   ·rintro σ M' v b N Y ⟨w,rfl⟩ s hv hb hn hy
    refine EqI.mk (far_pw _ _ (hv.up s.tk')).one (far_pw _ x ⟨u,r,rfl,s _ _ hu8,hP8.up s.tk'⟩).one (ly b hb) (ly x mx) ?_
    rw [eqv_pw]
    by_cases e:b=x
    ·rw [if_neg (by simp [e])] at hn
     rw [decide_eq_true e]
     exact hn rfl _ _ ⟨_,rfl⟩ (Same.refl _)
    ·rw [if_pos (by simp [e])] at hy
     rw [decide_eq_false e]
     exact hy _ _ _ _ rfl ⟨_,rfl⟩ (Same.refl _) (hv.up s.tk')
   intro ys M9 s9 w9 p9
   rw [fmF,cut2] at p9
   refine NewO.mk rfl fun t10 M10 s10 w10 _=>NewO.mk rfl fun l11 M11 s11 w11 _=>CatI.l ((s10.trans s11) _ _ w9) w11 (by rw [pairL p9,lAB,List.length_singleton]; decide) fun q12 M12 s12 w12 n12=>h6 _ _ (seqH fun D7 hD7=>hD7 _ _ (seqH fun D8 hD8=>?_))
   have s912:=((s9.trans s10).trans s11).trans s12
   have W12:=((((W8.same s9).same s10).same s11).other n12 s12 w12 (pairS (a:=(40 + i,p7)) ⟨t10,t7,rfl,(s11.trans s12) _ _ w10,h8.same s912⟩ (Paired.mono p9 fun _ _ z=>z.up ((s10.trans s11).trans s12).tk')))
   clear W8
   refine PickI.mk W12.d (by omega) (by decide) (by decide) fun r13 c13 M13 k13 d13 u13 g13 l13=>hD8 _ _ (seqH fun D9 hD9=>?_)
   have W13:=W12.deal k13 d13
   clear W12
   have oR':=oR.turn o7 cr7
   generalize eT:sts ++ [(⟨[],A' ++ x :: B',40 + i⟩:Cs)] ++ [⟨[],A' ++ B',40 + i⟩] ++ [⟨[],A' ++ B' ++ [(40 + i,p7)],40 + i + 1⟩]=T at W13
   have lT:T.length=sts.length + 3:=by rw [<- eT]; simp
   have g29:r13.toNat<=29:=by omega
   refine RgK.mk g13 (by omega) (loopR (fun j σ M=>(∃ v11,σ=[some (.ref a),some (.ref k'),some (.ref nm),some (.ref cb),some (.ref q12),v5,some (.ref t7),some (.int ((40 + i + 1:Nat):Int)),some (.int cell),some (.ref u),some (.int r13),v11])/\∃ m,m + j=T.length/\Iw H C cb sl p (cs.map V.int) M q12 ll8 k' (ys ++ [.ref t10]) c13 (T.take m) (T.drop m).reverse (A' ++ B' ++ [(40 + i,p7)]))
    ⟨⟨_,rfl⟩,T.length,rfl,by rw [List.take_length,List.drop_length]; exact W13⟩ ?_ ?_)
   ·rintro j σ M D' hj' ⟨⟨v11,rfl⟩,m,em,W⟩ ⟨nx,_⟩
    obtain ⟨m,rfl⟩:∃ m',m=m' + 1:=⟨m - 1,by omega⟩
    have hm:m < T.length:=by omega
    obtain ⟨e1,e2⟩:=cut_at hm
    rw [e1] at W
    obtain ⟨_,_,_,dx,fs,_,_,_,L⟩:=W.cl.lst
    refine InsC.mk L.i (L.m _ (by decide) (by decide)) (BackI.mk W.cl (fun z=>?_) (by rw [List.length_reverse,List.length_drop]; omega) fun M' k2 c2=>nx _ _ ⟨⟨_,rfl⟩,m,by omega,?_⟩)
    ·have:=congrArg List.length z
     rw [List.length_take,List.length_nil] at this
     omega
    ·rw [e2]
     exact W.deed (fun x o n1 n2 n3 e=>k2 _ _ n2 n3 e) (.inl rfl) c2
   ·rintro σ M ⟨⟨v11,rfl⟩,m,em,W⟩
    refine hD9 _ _ (RgK.mk g13 (by omega) (loopR (fun j σ M=>(∃ v11,σ=[some (.ref a),some (.ref k'),some (.ref nm),some (.ref cb),some (.ref q12),v5,some (.ref t7),some (.int ((40 + i + 1:Nat):Int)),some (.int cell),some (.ref u),some (.int r13),v11])/\∃ m,m + r13.toNat=T.length + j/\Iw H C cb sl p (cs.map V.int) M q12 ll8 k' (ys ++ [.ref t10]) c13 (T.take m) (T.drop m).reverse (A' ++ B' ++ [(40 + i,p7)]))
     ⟨⟨_,rfl⟩,m,em,W⟩ ?_ ?_))
    ·clear W em m
     rintro j σ M D' hj' ⟨⟨v11,rfl⟩,m,em,W⟩ ⟨nx,_⟩
     have hm:m < T.length:=by omega
     obtain ⟨e1,e2⟩:=cut_at hm
     rw [e2] at W
     obtain ⟨dx,vs,ws,c1,_⟩:=id W.cl
     refine InsC.mk c1 (flds _ _ _ (by decide) (by decide)) (AgnI.mk W.cl (by rw [List.length_take]; omega) fun M' k2 c2=>nx _ _ ⟨⟨_,rfl⟩,m + 1,by omega,?_⟩)
     rw [e1]
     exact W.deed (fun x o n1 n2 n3 e=>k2 _ _ n2 n3 e) (.inl rfl) c2
    ·clear W em m
     rintro σ M ⟨⟨v11,rfl⟩,m,em,W⟩
     obtain rfl:m=T.length:=by omega
     rw [List.take_length,List.drop_length,<- eT] at W
     refine nx _ _ ⟨k',q12,ll8,_,_,_,_,⟨_,_,_,_,_,_,rfl⟩,W,?_,?_,?_,oR'⟩
     ·rw [List.length_append,List.length_append]; omega
     ·rw [List.length_append,List.length_append,List.length_singleton,List.length_singleton]; omega
     ·rw [List.length_append,lAB]; rfl
  ·rintro σ M ⟨k,pl,ll,us,c,sts,R,⟨v5,v6,v8,v9,v10,v11,rfl⟩,W,l1,l2,lR,oR⟩
   rw [List.length_map] at oR
   exact RgtI.mk W.cl (oR.cs (by omega) (by omega)) W.hp W.pr fun M' _=>q M'
end
end K39
namespace K39
open PySem L2 PySem.W
structure StandsM (K:PySem.W.Frag) (C:Addr) (x q:Str) (st:Stmt) (f:Addr):Prop where
 a:PySem.W.findIn K (.ref C) x=some (some (.ref f))
 ex:∃ (oc:Value) (od:Option Addr) (kV doc pm:Value) (an:Option Addr) (cdv ct:Value) (osl:Array (Option Value)),
  K.lookup f=some ⟨oc,od,.func (PySem.W.fnOf x q (defArgs st) (defBody st) (defScope st) .none kV doc pm an cdv ct),osl⟩/\PySem.W.codeIn K cdv q=true
 n:PySem.W.isFn K (.ref f)=true
 k:PySem.W.keepIn K (.ref f)=true
section
variable {P:Program}{w:World}{K:PySem.W.Frag}{mg:Str->Option Value}{base:Heap}{C:Addr}{x q:Str}{st:Stmt}{f:Addr}{k:Nat}{ps:List Str}{sp:Sp}
theorem standsM {oc:Value}{od:Option Addr}{kV doc pm:Value}{an:Option Addr}{cdv ct:Value}{osl:Array (Option Value)}
  (a:PySem.W.findIn K (.ref C) x=some (some (.ref f))) (l:K.lookup f=some ⟨oc,od,.func (PySem.W.fnOf x q (defArgs st) (defBody st) (defScope st) .none kV doc pm an cdv ct),osl⟩) (c:PySem.W.codeIn K cdv q=true) (n:PySem.W.isFn K (.ref f)=true) (k:PySem.W.keepIn K (.ref f)=true):StandsM K C x q st f :=
 ⟨a,⟨oc,od,kV,doc,pm,an,cdv,ct,osl,l,c⟩,n,k⟩
theorem StandsM.fn (S:StandsM K C x q st f):∃ fd,Fun K x q st f fd:=by
 obtain ⟨oc,od,kV,doc,pm,an,cdv,ct,osl,l,c⟩:=S.ex
 exact ⟨_,fun_mk (st:=st) l c S.k⟩
theorem StandsM.meth (S:StandsM K C x q st f):Meth K C x f:=⟨S.a,S.n,S.k⟩
abbrev BdA (x q:Str) (st:Stmt) (ps:List Str):Prop:=∀ (kV doc pm:Value) (an:Option Addr) (cdv ct:Value) (us:List Value),us.length=ps.length->bindArgs (PySem.W.fnOf x q (defArgs st) (defBody st) (defScope st) .none kV doc pm an cdv ct) ⟨us,[]⟩=pure (ps.zip us)
structure Bnf (P:Program) (w:World) (K:PySem.W.Frag) (mg:Str->Option Value) (base:Heap):Prop where
 ex:∃ h:Heap,K.In h/\h.Ns mainGlobals mg
theorem Bnf.at {v:Value}(E:Bnf P w K mg base) (h:PySem.W.nsIn K mainGlobals x=some (some v)):mg x=some v:=by
 obtain ⟨_,X,G⟩:=E.ex
 exact PySem.W.mg_of X G h
theorem Bnf.no (E:Bnf P w K mg base) (h:PySem.W.nsIn K mainGlobals x=some none):mg x=none:=by
 obtain ⟨_,X,G⟩:=E.ex
 exact PySem.W.mg_none_of X G h
theorem Bnf.df (E:Bnf P w K mg base) (S:Stands K x st f) (hF:∀ fd,Fun K x x st f fd->FnOk P w K mg base CX0 k f fd ps sp) (hb:BdA x x st ps:=by intro _ _ _ _ _ _ us hl; rcases us with _ | ⟨a,_ | ⟨b,_ | ⟨c,_ | ⟨d,_ | ⟨e,us⟩⟩⟩⟩⟩ <;> first | (simp at hl; done) | rfl):Df P w K mg base k x ps sp:=by
 obtain ⟨fd,F⟩:=S.fn
 exact ⟨_,fd,hF fd F,F.binds hb,S.k,E.at S.a⟩
theorem Bnf.dx (E:Bnf P w K mg base) (S:Stands K x st f) (hF:∀ fd,Fun K x x st f fd->FnOk P w K mg base (CXE P w) k f fd ps sp) (hb:BdA x x st ps:=by intro _ _ _ _ _ _ us hl; rcases us with _ | ⟨a,_ | ⟨b,_ | ⟨c,_ | ⟨d,_ | ⟨e,us⟩⟩⟩⟩⟩ <;> first | (simp at hl; done) | rfl):DfX P w K mg base k x ps sp:=by
 obtain ⟨fd,F⟩:=S.fn
 exact ⟨_,fd,hF fd F,F.binds hb,S.k,E.at S.a⟩
theorem Bnf.dm (E:Bnf P w K mg base) (c:Cls K C) (S:StandsM K C x q st f) (hF:∀ fd,Fun K x q st f fd->FnOk P w K mg base CX0 k f fd ps sp) (hb:BdA x q st ps:=by intro _ _ _ _ _ _ us hl; rcases us with _ | ⟨a,_ | ⟨b,_ | ⟨c,_ | ⟨d,_ | ⟨e,us⟩⟩⟩⟩⟩ <;> first | (simp at hl; done) | rfl):DfM P w K mg base k C x ps sp:=by
 obtain ⟨fd,F⟩:=S.fn
 exact ⟨c,_,fd,hF fd F,F.binds hb,S.meth⟩
theorem Bnf.dmg (E:Bnf P w K mg base) (c:Cls K C) (S:StandsM K C x q st f) (hF:∀ fd,Fun K x q st f fd->FnOk P w K mg base (CXG P w) k f fd ps sp) (hb:BdA x q st ps:=by intro _ _ _ _ _ _ us hl; rcases us with _ | ⟨a,_ | ⟨b,_ | ⟨c,_ | ⟨d,_ | ⟨e,us⟩⟩⟩⟩⟩ <;> first | (simp at hl; done) | rfl):DfMG P w K mg base k C x ps sp:=by
 obtain ⟨fd,F⟩:=S.fn
 exact ⟨c,_,fd,hF fd F,F.binds hb,S.meth⟩
end
theorem all_mk {l:PySem.W.OpenLaw}{w:World}{K:PySem.W.Frag}{h:Heap}{mg:Str->Option Value}{fa f0 f1 f2 f3 f4 f5 f6 f7 f8 f9 f10 f11 f12 f13 f14 f15 f16 f17 f18 f19 f20 f21 f22 f23 f24 g0 g1 g2 g3 g4 g5 g6 g7 g8 g9 d0 d1 dr dC:Addr}{t0 t1 t2:Nat}{u0 u1:Nat}(X:K.In h) (G:h.Ns mainGlobals mg) (hfa:mg "law"=some (.ref fa))
  (s0:Stands K "is_whole" sWhole f0)
  (s1:Stands K "is_name" sName f1)
  (s2:Stands K "is_crew" sCrew f2)
  (s3:Stands K "is_measure" sMeas f3)
  (s4:Stands K "is_piece" sPiece f4)
  (s5:Stands K "fraction" sFr f5)
  (s6:Stands K "fraction_less" sFl f6)
  (s7:Stands K "margin" sMg f7)
  (s8:Stands K "exchanged" sEx f8)
  (s9:Stands K "exchanged_pair" sXp f9)
  (s10:Stands K "trial_of" sTr f10)
  (s11:Stands K "trial_or_none" sTn f11)
  (s12:Stands K "is_clear" sClear f12)
  (s13:Stands K "led_to" sLed f13)
  (s14:Stands K "places_from" sFrom f14)
  (s15:Stands K "verdict" sVer f15)
  (s16:Stands K "_law_deck" sDeck f16)
  (s17:Stands K "_law_pick" sPick f17)
  (s18:Stands K "_law_fraction" sLFr f18)
  (s19:Stands K "_law_piece" sPc f19)
  (s20:Stands K "_law_exchanged" sLx f20)
  (s21:Stands K "_law_trial" sLt f21)
  (s22:Stands K "_law_right" sRgt f22)
  (s23:Stands K "_law_many" sMany f23)
  (m0S:StandsM K dC "__init__" "Club.__init__" sInit g0)
  (m1S:StandsM K dC "enter" "Club.enter" sEnter g1)
  (m2S:StandsM K dC "tell" "Club.tell" sTell g2)
  (m3S:StandsM K dC "strike" "Club.strike" sStr g3)
  (m4S:StandsM K dC "back" "Club.back" sBack g4)
  (m5S:StandsM K dC "again" "Club.again" sAgain g5)
  (m6S:StandsM K dC "pieces" "Club.pieces" sPcs g6)
  (m7S:StandsM K dC "trials" "Club.trials" sTrs g7)
  (m8S:StandsM K dC "verdict" "Club.verdict" sVd g8)
  (m9S:StandsM K d1 "__init__" "TooMany.__init__" sTm g9)
  {od an:Option Addr} {osl:Array (Option Value)} {oc kV doc pm cdv ct:Value} (a:PySem.W.nsIn K mainGlobals "law"=some (some (.ref f24))) (lk:K.lookup f24=some ⟨oc,od,.func (PySem.W.fnOf "law" "law" (defArgs sLaw) (defBody sLaw) (defScope sLaw) .none kV doc pm an cdv ct),osl⟩) (cc:PySem.W.codeIn K cdv "law"=true) (kk:PySem.W.keepIn K (.ref f24)=true)
  (c0:PySem.W.nsIn K mainGlobals "LONGEST_NAME"=some (some (.int 8 t0)))
  (c1:PySem.W.nsIn K mainGlobals "MOST_IN_CREW"=some (some (.int 4 t1)))
  (c2:PySem.W.nsIn K mainGlobals "LONGEST"=some (some (.int 1000000000 t2)))
  (x0:PySem.W.nsIn K mainGlobals "MOST_PIECES"=some (some (.int 40 u0)))
  (x1:PySem.W.nsIn K mainGlobals "MOST_TRIALS"=some (some (.int 40 u1)))
  (z0:PySem.W.nsIn K mainGlobals "ValueError"=some none)
  (z1:PySem.W.nsIn K mainGlobals "abs"=some none)
  (z2:PySem.W.nsIn K mainGlobals "all"=some none)
  (z3:PySem.W.nsIn K mainGlobals "any"=some none)
  (z4:PySem.W.nsIn K mainGlobals "bool"=some none)
  (z5:PySem.W.nsIn K mainGlobals "enumerate"=some none)
  (z6:PySem.W.nsIn K mainGlobals "int"=some none)
  (z7:PySem.W.nsIn K mainGlobals "isinstance"=some none)
  (z8:PySem.W.nsIn K mainGlobals "len"=some none)
  (z9:PySem.W.nsIn K mainGlobals "list"=some none)
  (z10:PySem.W.nsIn K mainGlobals "max"=some none)
  (z11:PySem.W.nsIn K mainGlobals "min"=some none)
  (z12:PySem.W.nsIn K mainGlobals "range"=some none)
  (z13:PySem.W.nsIn K mainGlobals "sorted"=some none)
  (z14:PySem.W.nsIn K mainGlobals "str"=some none)
  (z15:PySem.W.nsIn K mainGlobals "sum"=some none)
  (z16:PySem.W.nsIn K mainGlobals "tuple"=some none)
  (z17:PySem.W.nsIn K mainGlobals "zip"=some none)
  (n0:PySem.W.nsIn K mainGlobals "NoTrial"=some (some (.ref d0)))
  (n1:PySem.W.nsIn K mainGlobals "TooMany"=some (some (.ref d1)))
  (nC:PySem.W.nsIn K mainGlobals "Club"=some (some (.ref dC)))
  (nr:PySem.W.nsIn K mainGlobals "RowError"=some (some (.ref dr)))
  (nv:PySem.W.nsIn K mainGlobals "verdict_trials"=some (some (.ref f15)))
  (eT:PySem.W.excIn K d0 L2.vErr "ValueError.__new__"=true)
  (xmT:PySem.W.exmOne K (.ref d0) (.ref d0)=some true)
  (ei:excInI K d1 g9=true)
  (kpM:PySem.W.keepIn K (.ref d1)=true)
  (wsa:PySem.W.findIn K (.ref d1) "__setattr__"=some (some (.builtin "object.__setattr__")))
  (wcd:∃ cd,PySem.W.clsIn K d1=some cd/\cd.hasDict=true/\∀ self:Value,refuseLoop self "__setattr__" cd.mro=pure ())
  (nat:PySem.W.findIn K (.ref d1) "many"=some none)
  (hdM:PySem.W.hasDictIn K d1=true)
  (bga:PySem.W.specialIn K (.ref dr) "__getattribute__"=some (some (.builtin "type.__getattribute__")))
  (brd:PySem.W.readsIn K dr (.type "type")=true)
  (bfc:PySem.W.findCls K (.ref dr) (.type "type") "__init__"=some (.val (.builtin "ValueError.__init__")))
  (ga:PySem.W.findIn K (.ref d1) "__getattribute__"=some (some (.builtin "BaseException.__getattribute__")))
  (gn:PySem.W.findIn K (.ref d1) "__getattr__"=some none)
  (gc:PySem.W.findIn K (.ref d1) "__class__"=some (some (.builtin "object.__class__")))
  (mo:PySem.W.mroIn K d1 (.type "object")=some true)
  (mb:PySem.W.mroIn K d1 (.type "BaseException")=some true)
  (cs:(PySem.W.clsIn K d1).isSome=true)
  (xm:PySem.W.exmOne K (.ref d1) (.ref d1)=some true)
  (pg:PySem.W.plainGet K dC Str.empty=true)
  (hd:PySem.W.hasDictIn K dC=true)
  (po:PySem.W.plainOver K dC=true)
  (sat:PySem.W.findIn K (.ref dC) "__setattr__"=some (some (.builtin "object.__setattr__")))
  (aS:PySem.W.findIn K (.ref dC) "states"=some none)
  (aL2:PySem.W.findIn K (.ref dC) "left"=some none)
  (mk:PySem.W.makesIn K dC=true)
  (kp:PySem.W.keepIn K (.ref dC)=true)
  : ∃ fd:FuncData,(∀ (s:Shared) (v:Value),BindsTo s fd ⟨[v],[]⟩ [("script",v)])/\∀ base:Heap,K.In base->base.Ns mainGlobals mg->FnOk l.prog w K mg base CX0 8 fa fd ["script"] (spLaw K):=by
 have e:=hfa.symm.trans (PySem.W.mg_of X G a)
 cases e
 have FL:=fun_mk (st:=sLaw) lk cc kk
 refine ⟨PySem.W.fnOf "law" "law" (defArgs sLaw) (defBody sLaw) (defScope sLaw) .none kV doc pm an cdv ct,fun s v=>.of_eq rfl,fun base _ _=>?_⟩
 have E:Bnf l.prog w K mg base:=⟨h,X,G⟩
 have T:Txt mg:=⟨E.no z0,E.no z1,E.no z2,E.no z3,E.no z4,E.no z5,E.no z6,E.no z7,E.no z8,E.no z9,E.no z10,E.no z11,E.no z12,E.no z13,E.no z14,E.no z15,E.no z16,E.no z17,⟨_,E.at c0⟩,⟨_,E.at c1⟩,⟨_,E.at c2⟩⟩
 obtain ⟨_,GI⟩:=m9S.fn
 have bI:=GI.binds (ps:=["self","many"]) (by intro _ _ _ _ _ _ us hl; rcases us with _ | ⟨a,_ | ⟨b,_ | ⟨c,_ | ⟨d,us⟩⟩⟩⟩ <;> first | (simp at hl; done) | rfl)
 have OI:ExcI K d1 g9:=⟨ei,m9S.n,kpM⟩
 have FI:=ok_tm (P:=l.prog) (w:=w) (base:=base) (mg:=mg) GI OI ⟨wsa,mo,wcd⟩ nat ⟨bga,brd,bfc⟩ (E.at nr)
 have D_whole:=E.df s0 fun _ F=>ok_whole F T
 have D_name:=E.df s1 fun _ F=>ok_name F T
 have D_crew:=E.df s2 fun _ F=>ok_crewT F T (D_name.imp AskC.old)
 have D_meas:=E.df s3 fun _ F=>ok_mesT F T (D_whole.imp AskC.old)
 have D_piece:=E.df s4 fun _ F=>ok_pieT F T D_crew D_meas
 have D_fr:=E.df s5 fun _ F=>ok_fr F T
 have C_fr:=D_fr.imp FrC.old
 have D_fl:=E.df s6 fun _ F=>ok_flC F C_fr
 have D_mg:=E.df s7 fun _ F=>ok_mgC F C_fr
 have D_ex:=E.df s8 fun _ F=>ok_exC F T
 have D_xp:=E.dx s9 fun _ F=>ok_xpC F ⟨E.at n0,eT⟩ D_ex
 have D_tr:=E.dx s10 fun _ F=>ok_trC F T D_xp D_fl D_mg
 have D_tn:=E.df s11 fun _ F=>ok_tnC F (E.at n0) xmT D_tr
 have D_clear:=E.df s12 fun _ F=>ok_clearC F
 have D_led:=E.df s13 fun _ F=>ok_ledC F D_clear
 have D_from:=E.df s14 fun _ F=>ok_fromC F D_clear D_led
 have D_vt:Df l.prog w K mg base 4 "verdict_trials" ["trials","one","other"] VerC:=by
  obtain ⟨_,F⟩:=s15.fn
  exact ⟨_,_,ok_verC F D_from,F.binds (by intro _ _ _ _ _ _ us hl; rcases us with _ | ⟨a,_ | ⟨b,_ | ⟨c,_ | ⟨d,us⟩⟩⟩⟩ <;> first | (simp at hl; done) | rfl),s15.k,E.at nv⟩
 have D_deck:=E.df s16 fun _ F=>ok_deck F
 have D_pick:=E.df s17 fun _ F=>ok_pick F
 have C_pick:=D_pick.imp PickC.old
 have K_pick:=C_pick.imp PkC.old
 have D_lfr:=E.df s18 fun _ F=>ok_lfr F T
 have D_pc:=E.df s19 fun _ F=>ok_pcC F T K_pick
 have D_lx:=E.df s20 fun _ F=>ok_lxC F T K_pick
 have D_lt:=E.df s21 fun _ F=>ok_lt F T D_lfr
 have C_tn:=D_tn.imp TnC.old
 have C_deck:=D_deck.imp DkC.old
 have CC:Clb K dC:=⟨⟨pg,hd,po,sat⟩,aS,aL2⟩
 have D_enter:=E.dm CC.c m1S fun _ F=>ok_enterC F T CC
 have D_pcs:=E.dm CC.c m6S fun _ F=>ok_pcsC F T CC
 have D_trs:=E.dm CC.c m7S fun _ F=>ok_trsC F T D_pcs C_tn
 have D_tell:=E.dm CC.c m2S fun _ F=>ok_tellC F T ⟨_,E.at x0⟩ CC D_piece D_enter
 have D_tellC:=D_tell
 have D_tell:=E.dmg CC.c m2S fun _ F=>ok_tellX F T ⟨_,E.at x0⟩ CC (E.at n1) OI FI bI D_piece
 have D_strike:=E.dm CC.c m3S fun _ F=>ok_strC F CC D_enter
 have D_back:=E.dm CC.c m4S fun _ F=>ok_backC F T CC
 have D_again:=E.dm CC.c m5S fun _ F=>ok_agnC F T CC
 have D_vd:=E.dm CC.c m8S fun _ F=>ok_vdC F ⟨_,E.at x1⟩ D_trs D_vt
 have DK:DfC l.prog w K mg base dC:=by
  obtain ⟨_,F⟩:=m0S.fn
  exact ⟨_,_,⟨mk,m0S.a,m0S.n,kp⟩,ok_init F CC,F.binds (ps:=["self"]) (by intro _ _ _ _ _ _ us hl; rcases us with _ | ⟨a,_ | ⟨b,_ | ⟨c,_ | ⟨d,us⟩⟩⟩⟩ <;> first | (simp at hl; done) | rfl),E.at nC⟩
 have D_rgt:=E.df s22 fun _ F=>ok_rgtC F T CC D_lt D_pcs D_trs D_vd D_vt
 have D_many:=E.df s23 fun _ F=>ok_many F ⟨E.at n1,⟨ga,gn,gc,mo,mb,cs⟩,xm,hdM,nat⟩ D_tell
 exact ok_law FL T C_deck C_pick D_pc D_lx DK D_tellC D_strike D_back D_again D_pcs D_rgt D_many
theorem walk {l:PySem.W.OpenLaw}{q:Program}{loose:List Str}{XP:(Str->Option Value)->Heap->Prop}{YP:World->Heap->Prop}{d:DefRec}{K:Params->PySem.W.Frag}(hn:l.most=some 63) (hdf:d.params.defaults=[])
  (hY:∀ (w:World) (h:Heap),YP w h->(K w.params).In h)
  (F:∀ (w:World) (mg:Str->Option Value) (fa:Addr) (h:Heap),(K w.params).In h->h.Ns mainGlobals mg->mg d.name=some (.ref fa) ->
   ∃ fd:FuncData,(∀ (s:Shared) (u:Value),BindsTo s fd ⟨[u],[]⟩ [("script",u)])/\∀ base:Heap,(K w.params).In base->base.Ns mainGlobals mg->FnOk l.prog w (K w.params) mg base CX0 8 fa fd ["script"] (spLaw (K w.params))) :
  PySem.W.WalkO q loose XP YP l.row.toRowW d [] (fun f vs=>PySem.call f vs) :=
 L2.walk_of (n:=63) (k:=8) (x:="script") (CX:=fun _=>CX0) (sp:=fun w=>spLaw (K w.params)) hn (by decide) hdf ⟨rfl,by decide,by decide,rfl⟩ hY F (fun _ _ a ns hl _ hS=>⟨a,ns,rfl,hS,hl,fun _=>rfl⟩) fun _ _ _ _ _ z=>z
end K39
open PySem PySem.W PyProof.Rows
def PySem.W.Fast.tw17953167478813013095:=0
def PySem.W.Fast.tw5951985837668594287:=0
def PySem.W.Fast.tw7474168953071573399:=0
def PySem.W.Fast.tw3906889796067436109:=0
def PySem.W.Fast.tw16725177774494797257:=0
def PySem.W.Fast.tw13673359189063603726:=0
def PySem.W.Fast.tw12135648889330229962:=0
def PySem.W.Fast.tw6615765474713678374:=0
def PySem.W.Fast.tw395934958809657622:=0
def PySem.W.Fast.tw15982812724472246929:=0
def PySem.W.Fast.tw9615474212658255275:=0
def PySem.W.Fast.tw491026072780456578:=0
def PySem.W.Fast.tw10881727418767963242:=0
def PySem.W.Fast.tw12807871522675035418:=0
def PySem.W.Fast.tw2750099420608366485:=0
def PySem.W.Fast.tw14343039031273987444:=0
def PySem.W.Fast.tw10626640386282356250:=0
def PySem.W.Fast.tw17722119174517238956:=0
def PySem.W.Fast.tw887178502140501693:=0
def PySem.W.Fast.tw9143277145286331524:=0
def PySem.W.Fast.tw6683614570359704385:=0
def PySem.W.Fast.tw17995186644953022449:=0
def PySem.W.Fast.tw2829555762429740527:=0
def PySem.W.Fast.tw2987250361344528075:=0
def PySem.W.Fast.tw5087734078384198070:=0
def PySem.W.Fast.tw6288691288102292160:=0
def PySem.W.Fast.tw11949125576054615126:=0
def PySem.W.Fast.tw14718903795570719877:=0
def PySem.W.Fast.tw1208128776864077992:=0
def PySem.W.Fast.tw14242986416742321642:=0
def PySem.W.Fast.tw17883029739563193654:=0
def PySem.W.Fast.tw16643907107468758371:=0
def PySem.W.Fast.tw11302732445091347487:=0
def PySem.W.Fast.tw5014862793351887975:=0
def PySem.W.Fast.tw7737583942012671835:=0
def PySem.W.Fast.tw16840446870836615877:=0
def PySem.W.Fast.tw16951576816829642340:=0
def PySem.W.Fast.tw11001382491566282144:=0
def PySem.W.Fast.tw4864088736646620359:=0
def PySem.W.Fast.tw7478059738293055624:=0
def PySem.W.Fast.tw1605677762097042531:=0
def PySem.W.Fast.tw17344243541684580803:=0
def PySem.W.Fast.tw9153848723139958328:=0
def PySem.W.Fast.tw18051964894326455866:=0
def PySem.W.Fast.tw7003702400163562041:=0
def PySem.W.Fast.tw5401018630868165134:=0
def PySem.W.Fast.tw12615550801941286097:=0
def PySem.W.Fast.tw9511683066510117723:=0
def PySem.W.Fast.tw7002124028673254413:=0
def PySem.W.Fast.tw12053683447587396169:=0
def PySem.W.Fast.tw16670171806230087799:=0
def PySem.W.Fast.tw17589692599641036982:=0
def PySem.W.Fast.tw2955403519312796329:=0
def PySem.W.Fast.tw16508935652196339585:=0
def PySem.W.Fast.tw7509773143868235593:=0
def PySem.W.Fast.tw10009624234904594918:=0
def PySem.W.Fast.tw3176111342352410797:=0
def PySem.W.Fast.tw15447555526700106134:=0
def PySem.W.Fast.tw8191949570383617573:=0
def PySem.W.Fast.tw2893162526749407683:=0
def PySem.W.Fast.tw10251192592856403677:=0
def PySem.W.Fast.tw12816834754183895831:=0
def PySem.W.Fast.tw1364653382304798423:=0
def PySem.W.Fast.tw17682972866766371357:=0
def PySem.W.Fast.tw5183246519124306266:=0
def PySem.W.Fast.tw2205109247927985438:=0
def PySem.W.Fast.tw2740040591856734036:=0
def PySem.W.Fast.tw5377077669910928770:=0
def PySem.W.Fast.tw15493851798237490899:=0
def PySem.W.Fast.tw2411613084829571170:=0
def PySem.W.Fast.tw9065975333392050862:=0
def PySem.W.Fast.tw5538811132914932998:=0
def PySem.W.Fast.tw7721226534707594142:=0
def PySem.W.Fast.tw12524362744910876717:=0
def PySem.W.Fast.tw6077135297587400473:=0
def PySem.W.Fast.tw17777444258033965030:=0
def PySem.W.Fast.tw1597103502497839143:=0
def PySem.W.Fast.tw17132192107496277425:=0
def PySem.W.Fast.tw13744293661261707370:=0
def PySem.W.Fast.tw3958732714711356455:=0
def PySem.W.Fast.tw9585630784135046064:=0
def PySem.W.Fast.tw3932894315004231008:=0
def PySem.W.Fast.tw3541215721674285476:=0
def PySem.W.Fast.tw6419615349540370843:=0
def PySem.W.Fast.tw11850449465026015552:=0
def PySem.W.Fast.tw12196556318611253694:=0
def PySem.W.Fast.tw16626044813237416203:=0
def PySem.W.Fast.tw193850192897174740:=0
def PySem.W.Fast.tw14705079680088670518:=0
def PySem.W.Fast.tw12393254247354421416:=0
def PySem.W.Fast.tw10876783506235739058:=0
def PySem.W.Fast.tw6173196334641337872:=0
def PySem.W.Fast.tw15151921875622084969:=0
def PySem.W.Fast.tw1503488449686535538:=0
def PySem.W.Fast.tw14333888240492832095:=0
def PySem.W.Fast.tw12950867682839468546:=0
def PySem.W.Fast.tw8190798134148096981:=0
def PySem.W.Fast.tw15059770639055785726:=0
def PySem.W.Fast.tw11824020635753784595:=0
def PySem.W.Fast.tw17697607479299252955:=0
def PySem.W.Fast.tw16689283495634047507:=0
def PySem.W.Fast.tw17358913473964108070:=0
def PySem.W.Fast.tw9858567558472055163:=0
def PySem.W.Fast.tw8040386848715210567:=0
def PySem.W.Fast.tw14484824137080381035:=0
def PySem.W.Fast.tw10359324815551796291:=0
def PySem.W.Fast.tw9109020096480538122:=0
def PySem.W.Fast.tw8695090652877897646:=0
def PySem.W.Fast.tw7663834516791397348:=0
def PySem.W.Fast.tw12948406625838724724:=0
def PySem.W.Fast.tw18289536303583853765:=0
def PySem.W.Fast.tw6866354464280176658:=0
def PySem.W.Fast.tw12047058097150706587:=0
def PySem.W.Fast.tw6007481097279531013:=0
def PySem.W.Fast.tw10631006786163998553:=0
def PySem.W.Fast.tw13546882941492703386:=0
def PySem.W.Fast.tw2316940303565412195:=0
def PySem.W.Fast.tw1387845061257032659:=0
def PySem.W.Fast.tw12423598878488748842:=0
def PySem.W.Fast.tw4792122919011980013:=0
set_option maxRecDepth 100000 in
set_option maxHeartbeats 0 in
theorem PySem.Challenge.cw_rowtrim_k39_forty_pieces_holds : PySem.Challenge.rw_rowtrim_k39_forty_pieces.Holds := by
  w_on; (refine PySem.W.holds_law (by decide +kernel) fun said=>?_); k_head; (case hw=>w_witness2)
  k_fill
  refine K39.walk (l:=PySem.Challenge.rw_rowtrim_k39_forty_pieces) rfl rfl (fun w h Y=>PySem.W.kIn_of Y) ?F
  case F =>
    intro w mg fa h KX G hmg
    refine' K39.all_mk KX G hmg (K39.stands ?a0 ?l0 ?c0 ?k0) (K39.stands ?a1 ?l1 ?c1 ?k1) (K39.stands ?a2 ?l2 ?c2 ?k2) (K39.stands ?a3 ?l3 ?c3 ?k3) (K39.stands ?a4 ?l4 ?c4 ?k4) (K39.stands ?a5 ?l5 ?c5 ?k5) (K39.stands ?a6 ?l6 ?c6 ?k6) (K39.stands ?a7 ?l7 ?c7 ?k7) (K39.stands ?a8 ?l8 ?c8 ?k8) (K39.stands ?a9 ?l9 ?c9 ?k9) (K39.stands ?a10 ?l10 ?c10 ?k10) (K39.stands ?a11 ?l11 ?c11 ?k11) (K39.stands ?a12 ?l12 ?c12 ?k12) (K39.stands ?a13 ?l13 ?c13 ?k13) (K39.stands ?a14 ?l14 ?c14 ?k14) (K39.stands ?a15 ?l15 ?c15 ?k15) (K39.stands ?a16 ?l16 ?c16 ?k16) (K39.stands ?a17 ?l17 ?c17 ?k17) (K39.stands ?a18 ?l18 ?c18 ?k18) (K39.stands ?a19 ?l19 ?c19 ?k19) (K39.stands ?a20 ?l20 ?c20 ?k20) (K39.stands ?a21 ?l21 ?c21 ?k21) (K39.stands ?a22 ?l22 ?c22 ?k22) (K39.stands ?a23 ?l23 ?c23 ?k23) (K39.standsM ?p0 ?q0 ?r0 ?s0 ?t0) (K39.standsM ?p1 ?q1 ?r1 ?s1 ?t1) (K39.standsM ?p2 ?q2 ?r2 ?s2 ?t2) (K39.standsM ?p3 ?q3 ?r3 ?s3 ?t3) (K39.standsM ?p4 ?q4 ?r4 ?s4 ?t4) (K39.standsM ?p5 ?q5 ?r5 ?s5 ?t5) (K39.standsM ?p6 ?q6 ?r6 ?s6 ?t6) (K39.standsM ?p7 ?q7 ?r7 ?s7 ?t7) (K39.standsM ?p8 ?q8 ?r8 ?s8 ?t8) (K39.standsM ?p9 ?q9 ?r9 ?s9 ?t9) ?aL ?lL ?cL ?kL ?b0 ?b1 ?b2 ?x0 ?x1 ?z0 ?z1 ?z2 ?z3 ?z4 ?z5 ?z6 ?z7 ?z8 ?z9 ?z10 ?z11 ?z12 ?z13 ?z14 ?z15 ?z16 ?z17 ?n0 ?n1 ?h0 ?h1 ?h2 ?h3 ?h4 ?h5 ?h6 ?h7 ?h8 ?h9 ?h10 ?h11 ?h12 ?h13 ?h14 ?h15 ?h16 ?h17 ?h18 ?h19 ?h20 ?h21 ?h22 ?h23 ?h24 ?h25 ?h26 ?h27 ?h28
    (case a0 | l0 | c0 | k0 | a1 | l1 | c1 | k1 | a2 | l2 | c2 | k2 | a3 | l3 | c3 | k3 | a4 | l4 | c4 | k4 | a5 | l5 | c5 | k5 | a6 | l6 | c6 | k6 | a7 | l7 | c7 | k7 | a8 | l8 | c8 | k8 | a9 | l9 | c9 | k9 | a10 | l10 | c10 | k10 | a11 | l11 | c11 | k11 | a12 | l12 | c12 | k12 | a13 | l13 | c13 | k13 | a14 | l14 | c14 | k14 | a15 | l15 | c15 | k15 | a16 | l16 | c16 | k16 | a17 | l17 | c17 | k17 | a18 | l18 | c18 | k18 | a19 | l19 | c19 | k19 | a20 | l20 | c20 | k20 | a21 | l21 | c21 | k21 | a22 | l22 | c22 | k22 | a23 | l23 | c23 | k23 | n0 | n1 | h0 | h1 | h2 | p0 | q0 | r0 | s0 | t0 | p1 | q1 | r1 | s1 | t1 | p2 | q2 | r2 | s2 | t2 | p3 | q3 | r3 | s3 | t3 | p4 | q4 | r4 | s4 | t4 | p5 | q5 | r5 | s5 | t5 | p6 | q6 | r6 | s6 | t6 | p7 | q7 | r7 | s7 | t7 | p8 | q8 | r8 | s8 | t8 | p9 | q9 | r9 | s9 | t9 | x0 | x1 | aL | lL | cL | kL | b0 | b1 | b2 | z0 | z1 | z2 | z3 | z4 | z5 | z6 | z7 | z8 | z9 | z10 | z11 | z12 | z13 | z14 | z15 | z16 | z17=>k_is)
    (case h3=>k_exc)
    (case h4 | h20=>kts_exm)
    (case h5 | h10 | h11 | h12 | h13=>kernel_rfl)
    (case h6 | h7 | h9 | h14 | h15 | h16 | h17 | h18 | h21 | h22 | h23 | h24 | h25 | h26 | h27 | h28=>k_is)
    (case h8=>(refine' K39.wcd_mk ?w1 ?w2 ?w3); (case w1=>k_is); (case w2=>rfl); (case w3=>exact fun _=>rfl))
    (case h19=>(refine' Option.isSome_of_eq_some ?hh); (case hh=>k_is))
#print axioms PySem.Challenge.cw_rowtrim_k39_forty_pieces_holds
