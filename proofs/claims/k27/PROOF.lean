import PyProof.Rows.All
import Wide.All
import OpenK.AllK
import Wide.FinOn
import Lean
import PyProof.EqAt
import PyProof.EqKinds
import PyProof.TupleCall
import PyProof.ExcBaseAll.ValueError
import PySem.Challenge.RW_rowtrim_k27_whole_pieces_told_late
set_option Elab.async false
set_option linter.all false
set_option maxRecDepth 100000
namespace L2
open PySem PySem.Spec PyProof.Rows
abbrev Key:=Sum Bool Str
def isBoolOf (b:Bool):Value→Bool
  | .bool c=>b == c
  | _=>false
theorem isBoolOf_shape {b:Bool} {v:Value} (h:isBoolOf b v = true):v = .bool b:=by
  cases v <;> simp [isBoolOf] at h
  rw [h]
def boolN (b:Bool):Int:=if b then 1 else 0
theorem wpAny_pyHash_bool {prog:Program} {w:World} {A:Around} {E:Value→Shared→Prop} {s:Shared} {b:Bool} {Q:Int→Shared→Prop} (h:Q (boolN b) { s with toks:=s.toks + 1 }) :
    wpAny (model prog w) A (pyHash (.bool b)) Q E s:=by
  refine PySem.W.pyHash_slot (T:="bool") rfl F.slot_bool_hash entry_int_hash (args_int_hash _) (beq_builtin_none _) (.inl rfl) ?_
  have go:∀ i:Int,reduceHash i = boolN b→wpAny (model prog w) A.in1 (do ret (← mkInt i)) (fun fin s'=>∃ n t,fin = .done (.ret (.int n t))∧Q (reduceHash n) s') E s:=fun i e=>wpAny_bind (wpAny_mkInt (wpAny_pure ⟨_,_,rfl,by rw [e]; exact h⟩))
  cases b
  · exact go 0 rfl
  · exact go 1 rfl
def keyIs:Key→Value→Bool
  | .inl k,v=>isBoolOf k v
  | .inr x,v=>Value.isStrOf x v
def keyH (w:World):Key→Int
  | .inl k=>boolN k
  | .inr x=>hashStr w x
theorem keyIs_shape:∀ {k:Key} {v:Value},keyIs k v = true→(∃ b,k = Sum.inl b∧v = Value.bool b)∨(∃ x t,k = Sum.inr x∧v = Value.str x t)
  | .inl i,v,h=>.inl ⟨i,rfl,isBoolOf_shape h⟩
  | .inr x,v,h=>by
    obtain ⟨t,e⟩:=Value.isStrOf_shape (x:=x) (v:=v) h
    exact .inr ⟨x,t,rfl,e⟩
theorem keyIs_bool (b:Bool):keyIs (.inl b) (.bool b) = true:=by simp [keyIs,isBoolOf]
theorem keyIs_str (x:Str) (t:Tok):keyIs (.inr x) (.str x t) = true:=by simp [keyIs,Value.isStrOf]
theorem key_ll (a b:Bool):decide ((Sum.inl a:Key) = Sum.inl b) = (a == b):=by cases a <;> cases b <;> decide
theorem key_rr (a b:Str):decide ((Sum.inr a:Key) = Sum.inr b) = decide (a = b):=by
  by_cases e:a = b
  · subst e; simp
  · have h:¬ (Sum.inr a:Key) = Sum.inr b:=fun q=>e (Sum.inr.inj q)
    rw [decide_eq_false h,decide_eq_false e]
theorem key_lr (a:Bool) (b:Str):decide ((Sum.inl a:Key) = Sum.inr b) = false:=decide_eq_false (fun q=>nomatch q)
theorem key_rl (a:Str) (b:Bool):decide ((Sum.inr a:Key) = Sum.inl b) = false:=decide_eq_false (fun q=>nomatch q)
def mixKind (prog:Program) (w:World):PySem.KeyKind prog w Key where
  is:=keyIs
  hash:=keyH w
  inj:=fun v a b ha hb=>by
    rcases keyIs_shape ha with ⟨i,rfl,rfl⟩ | ⟨x,t,rfl,rfl⟩
    · rcases keyIs_shape hb with ⟨j,rfl,e⟩ | ⟨y,u,rfl,e⟩
      · injection e with e1; rw [e1]
      · exact nomatch e
    · rcases keyIs_shape hb with ⟨j,rfl,e⟩ | ⟨y,u,rfl,e⟩
      · exact nomatch e
      · injection e with e1 _; rw [e1]
  byValue:=fun k v h=>by
    rcases keyIs_shape h with ⟨i,rfl,rfl⟩ | ⟨x,t,rfl,rfl⟩ <;> rfl
  pyHash:=fun hv h=>by
    rcases keyIs_shape hv with ⟨i,rfl,rfl⟩ | ⟨x,t,rfl,rfl⟩
    · exact wpAny_pyHash_bool h
    · exact wpAny_pyHash_str h
  eqBool:=fun hu hv h=>by
    rcases keyIs_shape hu with ⟨i,rfl,rfl⟩ | ⟨x,t,rfl,rfl⟩
    · rcases keyIs_shape hv with ⟨j,rfl,rfl⟩ | ⟨y,u,rfl,rfl⟩
      · rw [key_ll] at h; exact SeqAt.EqAt.bool_bool i j _ _ _ _ h
      · rw [key_lr] at h; exact SeqAt.EqAt.bool_str i y u _ _ _ _ h
    · rcases keyIs_shape hv with ⟨j,rfl,rfl⟩ | ⟨y,u,rfl,rfl⟩
      · rw [key_rl] at h; exact SeqAt.EqAt.str_bool x t j _ _ _ _ h
      · rw [key_rr] at h; exact wpAny_eqBool_str h
  «strs»:=fun k x t v h=>by
    rcases keyIs_shape h with ⟨i,rfl,e⟩ | ⟨y,u,rfl,e⟩
    · exact nomatch e
    · injection e with e1 _
      subst e1
      cases v <;> rfl
theorem mixKind_bool (prog:Program) (w:World) (b:Bool):(mixKind prog w).is (.inl b) (.bool b) = true:=keyIs_bool b
theorem mixKind_str (prog:Program) (w:World) (x:Str) (t:Tok):(mixKind prog w).is (.inr x) (.str x t) = true:=keyIs_str x t
end L2
namespace L2
open PySem PySem.Spec PyProof.Rows
inductive V where
  | non | bl (b:Bool) | int (i:Int) | str (x:Str) | byt (b:Array UInt8) | flt (b:UInt64) | ref (a:Addr) | ty (n:String)
  deriving DecidableEq
def RelV:V→Value→Prop
  | .non,u=>u = Value.none
  | .bl b,u=>u = Value.bool b
  | .int i,u=>∃ t,u = Value.int i t
  | .str x,u=>∃ t,u = Value.str x t
  | .byt b,u=>∃ t,u = Value.bytes b t
  | .flt b,u=>∃ t,u = Value.float b t
  | .ref a,u=>u = Value.ref a
  | .ty n,u=>u = Value.type n
abbrev Vals:List V→List Value→Prop:=Paired RelV
theorem Vals.length {xs:List V} {us:List Value} (r:Vals xs us):xs.length = us.length:=Paired.length r
theorem Vals.get:∀ {xs:List V} {us:List Value} {i:Nat} {x:V},Vals xs us→xs[i]? = some x→∃ u,us[i]? = some u∧RelV x u
  | _,_,_,_,.nil,e=>by simp at e
  | _,_,0,_,.cons r _,e=>by simp at e; subst e; exact ⟨_,rfl,r⟩
  | _,_,i + 1,x,.cons _ t,e=>by
    obtain ⟨u,h1,h2⟩:=Vals.get (i:=i) (x:=x) t (by simpa using e)
    exact ⟨u,by simpa using h1,h2⟩
theorem Vals.set {x:V} {u:Value} (r:RelV x u):∀ {xs:List V} {us:List Value} (i:Nat),Vals xs us→Vals (xs.set i x) (us.set i u)
  | _,_,_,.nil=>.nil
  | _,_,0,.cons _ t=>.cons r t
  | _,_,i + 1,.cons q t=>.cons q (Vals.set r i t)
theorem Vals.append:∀ {xs ys:List V} {us ws:List Value},Vals xs us→Vals ys ws→Vals (xs ++ ys) (us ++ ws)
  | _,_,_,_,.nil,s=>s
  | _,_,_,_,.cons r t,s=>.cons r (Vals.append t s)
theorem Vals.take:∀ {xs:List V} {us:List Value} (n:Nat),Vals xs us→Vals (xs.take n) (us.take n)
  | _,_,0,_=>.nil
  | _,_,_ + 1,.nil=>.nil
  | _,_,n + 1,.cons r t=>.cons r (Vals.take n t)
theorem Vals.drop:∀ {xs:List V} {us:List Value} (n:Nat),Vals xs us→Vals (xs.drop n) (us.drop n)
  | _,_,0,r=>r
  | _,_,_ + 1,.nil=>.nil
  | _,_,n + 1,.cons _ t=>Vals.drop n t
theorem Vals.none_of:∀ {xs:List V} {us:List Value} {i:Nat},Vals xs us→xs[i]? = none→us[i]? = none:=fun {xs us i} r e=>by
  have h1:=r.length
  have h2:xs.length≤i:=List.getElem?_eq_none_iff.mp e
  exact List.getElem?_eq_none_iff.mpr (by omega)
def RelO:Option V→Option Value→Prop
  | some v,some u=>RelV v u
  | none,none=>True
  | _,_=>False
def KV {κ:Type}:List (κ × V)→List (κ × Value)→Prop:=Paired fun (p:κ × V) (q:κ × Value)=>p.1 = q.1∧RelV p.2 q.2
def kV:Key→V
  | .inl b=>.bl b
  | .inr x=>.str x
inductive HO where
  | lst (xs:List V)
  | tup (xs:List V)
  | dK (kvs:List (Key × V)) | dT (kvs:List (List Key × V))
  | set (S:Int→Bool) (n:Nat)
  | ins (C dx:Addr) (fs:List (Str × V))
  | own (x:Addr)
  | xd (fs:List (Str × V))
  | met (f x:Addr)
  | rng (lo hi:Int)
  | frz (o:Obj) (u:HO)
  | tbl (ps:Array Value)
  | ext (φ:Heap→Prop)
abbrev Hp:=Addr→Option HO
def upd (H:Hp) (a:Addr) (o:HO):Hp:=fun b=>if b = a then some o else H b
theorem upd_same {H:Hp} {a:Addr} {o:HO}:upd H a o a = some o:=by unfold upd; rw [if_pos rfl]
theorem upd_ne {H:Hp} {a b:Addr} {o:HO} (h:b≠a):upd H a o b = H b:=by unfold upd; rw [if_neg h]
theorem upd_upd {H:Hp} {a:Addr} {o u:HO}:upd (upd H a o) a u = upd H a u:=by
  funext b; unfold upd; split <;> rfl
def TupN (h:Heap) (a:Addr) (items:Array Value):Prop:=∃ o,h.get? a = some o∧o.cls = .type "tuple"∧o.dict = none∧∃ n,o.data = .seq items n
theorem TupN.isTup {h:Heap} {a:Addr} {items:Array Value} (x:TupN h a items):IsTup h a items:=let ⟨o,e,c,_,n,d⟩:=x; ⟨o,e,c,n,d⟩
theorem TupN.lt {h:Heap} {a:Addr} {items:Array Value} (x:TupN h a items):a < h.objs.size:=let ⟨o,e,_⟩:=x; Heap.lt_size e
theorem TupN.new (h:Heap) (items:Array Value):TupN (h.push { cls:=.type "tuple",data:=.seq items }) h.objs.size items:=⟨_,Heap.get?_push_size _ rfl,rfl,rfl,_,rfl⟩
theorem ne_of {H:Hp} {a b:Addr} {o u:HO} (h:H a = some o) (h':H b = some u) (d:o≠u):a≠b:=by
  intro e; subst e; rw [h] at h'; exact d (Option.some.inj h')
theorem ne_of_none {H:Hp} {a b:Addr} {o:HO} (h:H a = some o) (h':H b = none):a≠b:=by
  intro e; subst e; rw [h] at h'; cases h'
section
variable (P:Program) (w:World)
def ObjOk (H:Hp) (h:Heap) (a:Addr):HO→Prop
  | .lst xs=>xs.length≤sizeLine∧∃ (its:List Value) (n:Nat),Vals xs its∧h.get? a = some { cls:=.type "list",data:=.seq its.toArray n }
  | .tup xs=>xs.length≤sizeLine∧∃ its:List Value,Vals xs its∧TupN h a its.toArray
  | .dK kvs=>kvs.length≤sizeLine∧(a == sysModules) = false∧∃ vs,KV kvs vs∧h.DictOf (mixKind P w) a vs
  | .dT kvs=>kvs.length≤sizeLine∧(a == sysModules) = false∧∃ xs:List (List Key × Addr × Value),
      Paired (fun (p:List Key × V) (q:List Key × Addr × Value)=>p.1 = q.1∧H q.2.1 = some (.tup (p.1.map kV))∧RelV p.2 q.2.2) kvs xs ∧
      ∃ o es ep,h.get? a = some o∧o.ExactDict∧o.data = .dict es ep∧es.toList = xs.map (entryOfKey (tupleKind (mixKind P w)))∧(xs.map (·.1)).Nodup
  | .set S n=>h.SetOf (intKind P w) a S n
  | .ins C dx fs=>H dx = some (.own a)∧fs.length≤1000∧dx≠a∧h.get? a = some (PySem.W.instObj C dx) ∧
      ∃ mA,h.Ns1 dx mA∧(∀ f,RelO (fs.lookup f) (mA f))∧PySem.Within mA (fs.map (·.1))
  | .own _=>∃ o,h.get? a = some o
  | .xd fs=>∃ mA,h.Ns1 a mA∧∀ f,RelO (fs.lookup f) (mA f)
  | .rng lo hi=>∃ t u v,h.get? a = some { cls:=.type "range",data:=.fields #[.int lo t,.int hi u,.int 1 v] }
  | .frz o u=>h.get? a = some o∧ObjOk H h a u
  | .tbl ps=>h.get? a = some { cls:=.none,data:=.fields ps }
  | .met f x=>h.get? a = some (PySem.W.methodObj (.ref f) (.ref x))
  | .ext φ=>φ h∧(∃ o,h.get? a = some o)∧∀ h1 h2:Heap,φ h1→(∀ o,h1.get? a = some o→h2.get? a = some o)→φ h2
def HOk (H:Hp) (h:Heap):Prop:=∀ a o,H a = some o→ObjOk P w H h a o
end
section
variable {P:Program} {w:World} {H H':Hp} {h h':Heap} {a:Addr} {o:HO}
theorem ObjOk.lt (x:ObjOk P w H h a o):a < h.objs.size:=by
  cases o with
  | lst xs=>obtain ⟨_,_,_,_,e⟩:=x; exact Heap.lt_size e
  | tup xs=>obtain ⟨_,_,_,p⟩:=x; exact p.lt
  | dK kvs=>obtain ⟨_,_,_,_,o,_,_,e,_⟩:=x; exact Heap.lt_size e
  | dT kvs=>obtain ⟨_,_,_,_,o,_,_,e,_⟩:=x; exact Heap.lt_size e
  | set S n=>obtain ⟨o,_,_,_,e,_⟩:=x; exact Heap.lt_size e
  | ins C dx fs=>obtain ⟨_,_,_,e,_⟩:=x; exact Heap.lt_size e
  | own y=>obtain ⟨_,e⟩:=x; exact Heap.lt_size e
  | xd fs=>obtain ⟨_,⟨_,_,_,e,_⟩,_⟩:=x; exact Heap.lt_size e
  | rng lo hi=>obtain ⟨_,_,_,e⟩:=x; exact Heap.lt_size e
  | frz ob u=>obtain ⟨e,_⟩:=x; exact Heap.lt_size e
  | tbl ps=>exact Heap.lt_size (show h.get? a = some _ from x)
  | met f y=>exact Heap.lt_size (show h.get? a = some _ from x)
  | ext φ=>obtain ⟨_,⟨_,e⟩,_⟩:=x; exact Heap.lt_size e
theorem Paired.mapP {α β:Type} {F G:α→β→Prop}:∀ {l₁:List α} {l₂:List β},Paired F l₁ l₂→(∀ a b,F a b→G a b)→Paired G l₁ l₂
  | _,_,.nil,_=>.nil
  | _,_,.cons r t,f=>.cons (f _ _ r) (Paired.mapP t f)
theorem ObjOk.stay (x:ObjOk P w H h a o) (k:∀ b u,(b = a∨H b = some (.own a))→h.get? b = some u→h'.get? b = some u)
    (ho:∀ b,H b = some (.own a)→H' b = some (.own a)) (ht:∀ b xs,H b = some (.tup xs)→H' b = some (.tup xs)):ObjOk P w H' h' a o:=by
  induction o with
  | lst xs=>obtain ⟨z,its,n,r,e⟩:=x; exact ⟨z,its,n,r,k _ _ (.inl rfl) e⟩
  | tup xs=>obtain ⟨z,its,r,ob,e,c⟩:=x; exact ⟨z,its,r,ob,k _ _ (.inl rfl) e,c⟩
  | dK kvs=>obtain ⟨z,y,vs,r,ob,es,ep,e,c⟩:=x; exact ⟨z,y,vs,r,ob,es,ep,k _ _ (.inl rfl) e,c⟩
  | dT kvs =>
    obtain ⟨z,y,xs,r,ob,es,ep,e,c⟩:=x
    exact ⟨z,y,xs,Paired.mapP r fun p q z=>⟨z.1,ht _ _ z.2.1,z.2.2⟩,ob,es,ep,k _ _ (.inl rfl) e,c⟩
  | set S n=>obtain ⟨ob,es,ep,t,e,c⟩:=x; exact ⟨ob,es,ep,t,k _ _ (.inl rfl) e,c⟩
  | ins C dx fs =>
    obtain ⟨d,z,ne,e,mA,⟨od,es,ep,e2,c⟩,r⟩:=x
    exact ⟨ho _ d,z,ne,k _ _ (.inl rfl) e,mA,⟨od,es,ep,k _ _ (.inr d) e2,c⟩,r⟩
  | own y=>obtain ⟨ob,e⟩:=x; exact ⟨ob,k _ _ (.inl rfl) e⟩
  | xd fs=>obtain ⟨mA,⟨od,es,ep,e,c⟩,r⟩:=x; exact ⟨mA,⟨od,es,ep,k _ _ (.inl rfl) e,c⟩,r⟩
  | rng lo hi=>obtain ⟨t,u,v,e⟩:=x; exact ⟨t,u,v,k _ _ (.inl rfl) e⟩
  | frz ob u ih=>obtain ⟨e,q⟩:=x; exact ⟨k _ _ (.inl rfl) e,ih q⟩
  | tbl ps =>
    have e:h.get? a = some { cls:=.none,data:=.fields ps }:=x
    show h'.get? a = some { cls:=.none,data:=.fields ps }
    exact k a _ (.inl rfl) e
  | met f y =>
    have e:h.get? a = some (PySem.W.methodObj (.ref f) (.ref y)):=x
    show h'.get? a = some (PySem.W.methodObj (.ref f) (.ref y))
    exact k a _ (.inl rfl) e
  | ext φ=>obtain ⟨p,⟨o,e⟩,st⟩:=x; exact ⟨st _ _ p fun o q=>k _ _ (.inl rfl) q,⟨o,k _ _ (.inl rfl) e⟩,st⟩
theorem HOk.lt (x:HOk P w H h) (e:H a = some o):a < h.objs.size:=(x a o e).lt
theorem HOk.fresh (x:HOk P w H h) (e:h.objs.size≤a):H a = none:=by
  cases q:H a with
  | none=>rfl
  | some u=>exact absurd (Nat.lt_of_lt_of_le (x.lt q) e) (Nat.lt_irrefl _)
theorem HOk.kept (x:HOk P w H h) (k:∀ b u,h.get? b = some u→h'.get? b = some u):HOk P w H h':=fun a o e =>
  (x a o e).stay (fun b u _ q=>k b u q) (fun _ q=>q) fun _ _ q=>q
theorem HOk.laid (x:HOk P w H h) (k:∀ b u,h.get? b = some u→h'.get? b = some u) (hp:h.objs.size≤a) (new:ObjOk P w (upd H a o) h' a o):HOk P w (upd H a o) h':=fun b u e=>by
  have hn:=x.fresh hp
  by_cases hb:b = a
  · subst hb; rw [upd_same] at e; cases e; exact new
  · rw [upd_ne hb] at e
    exact (x b u e).stay (fun c v _ q=>k c v q) (fun c q=>by rw [upd_ne (ne_of_none q hn)]; exact q) fun c xs q=>by rw [upd_ne (ne_of_none q hn)]; exact q
end
def Rd (H:Hp) (a:Addr) (u:HO):Prop:=H a = some u∨∃ o,H a = some (.frz o u)
theorem Rd.of {H:Hp} {a:Addr} {u:HO} (h:H a = some u):Rd H a u:=.inl h
theorem Rd.ok {P:Program} {w:World} {H:Hp} {h:Heap} {a:Addr} {u:HO} (r:Rd H a u) (x:HOk P w H h):ObjOk P w H h a u:=by
  rcases r with r | ⟨o,r⟩
  · exact x a u r
  · obtain ⟨_,q⟩:=x a _ r
    exact q
def Mut:Option HO→Prop
  | some (.lst _)=>True
  | some (.dK _)=>True
  | some (.dT _)=>True
  | some (.set _ _)=>True
  | some (.ins _ _ _)=>True
  | some (.ext _)=>True
  | _=>False
section
variable {P:Program} {w:World} {H:Hp} {h h':Heap} {x e:Addr} {o':HO}
theorem HOk.write (ok:HOk P w H h) (mu:Mut (H x)) (he:e = x∨H e = some (.own x)) (k:∀ b u,b≠e→h.get? b = some u→h'.get? b = some u) (heo:∃ u,h'.get? e = some u)
    (new:ObjOk P w (upd H x o') h' x o'):HOk P w (upd H x o') h':=fun b u q=>by
  have nown:∀ c y,H c = some (.own y)→c≠x:=fun c y r z=>by subst z; rw [r] at mu; exact mu
  have ntup:∀ c xs,H c = some (.tup xs)→c≠x:=fun c xs r z=>by subst z; rw [r] at mu; exact mu
  by_cases hb:b = x
  · subst hb; rw [upd_same] at q; cases q; exact new
  · rw [upd_ne hb] at q
    by_cases hbe:b = e
    · have q':H b = some (.own x):=by
        rcases he with z | z
        · exact absurd (hbe.trans z) hb
        · rw [hbe]; exact z
      rw [q] at q'; cases q'
      obtain ⟨v,hv⟩:=heo
      exact ⟨v,by rw [hbe]; exact hv⟩
    · refine (ok b u q).stay (fun c v hc r=>k c v ?_ r) (fun c r=>by rw [upd_ne (nown c b r)]; exact r) fun c xs r=>by rw [upd_ne (ntup c xs r)]; exact r
      rcases hc with rfl | hc
      · exact hbe
      · rintro rfl
        rcases he with z | z
        · exact nown c b hc z
        · rw [hc] at z; cases z; exact hb rfl
end
structure Un (fs ex:List Addr) (H H':Hp) (h h':Heap):Prop where
  keep:∀ b o,h.get? b = some o→H b = none→b ∉ fs→b ∉ ex→h'.get? b = some o
  slot:∀ b o,h.get? b = some o→H b = none→b∈fs→b ∉ ex→∃ sl,h'.get? b = some { o with slots:=sl }
  free:∀ b o,h.get? b = some o→H b = none→b ∉ ex→H' b = none
  there:∀ b o,h.get? b = some o→b ∉ ex→∃ o',h'.get? b = some o'
  tups:∀ b xs,H b = some (.tup xs)→H' b = some (.tup xs)
  frzs:∀ b o u,H b = some (.frz o u)→H' b = some (.frz o u)
  tbls:∀ b ps,H b = some (.tbl ps)→∃ more,H' b = some (.tbl (ps ++ more))
section
variable {fs fs' ex ex':List Addr} {H H1 H2:Hp} {h h1 h2 h':Heap} {a x e:Addr} {o:HO}
theorem Un.any (u:Un fs ex H H1 h h1) {b:Addr} {ob:Obj} (q:h.get? b = some ob) (n:H b = none) (hx:b ∉ ex):∃ sl,h1.get? b = some { ob with slots:=sl }:=by
  by_cases hb:b∈fs
  · exact u.slot b ob q n hb hx
  · exact ⟨ob.slots,u.keep b ob q n hb hx⟩
theorem Un.trans (a:Un fs ex H H1 h h1) (b:Un fs ex H1 H2 h1 h2):Un fs ex H H2 h h2 where
  keep:=fun c ob q n hc hx=>b.keep c ob (a.keep c ob q n hc hx) (a.free c ob q n hx) hc hx
  slot:=fun c ob q n hc hx=>by
    obtain ⟨sl,e1⟩:=a.slot c ob q n hc hx
    obtain ⟨sl',e2⟩:=b.slot c _ e1 (a.free c ob q n hx) hc hx
    exact ⟨sl',e2⟩
  free:=fun c ob q n hx=>by
    obtain ⟨o',e1⟩:=a.there c ob q hx
    exact b.free c o' e1 (a.free c ob q n hx) hx
  there:=fun c ob q hx=>by
    obtain ⟨o',e1⟩:=a.there c ob q hx
    exact b.there c o' e1 hx
  tups:=fun c xs q=>b.tups c xs (a.tups c xs q)
  frzs:=fun c ob xs q=>b.frzs c ob xs (a.frzs c ob xs q)
  tbls:=fun c ps q=>by
    obtain ⟨m1,e1⟩:=a.tbls c ps q
    obtain ⟨m2,e2⟩:=b.tbls c _ e1
    exact ⟨m1 ++ m2,by rw [e2,Array.append_assoc]⟩
theorem Un.kept (k:∀ b u,h.get? b = some u→h'.get? b = some u):Un fs ex H H h h' :=
  ⟨fun b ob q _ _ _=>k b ob q,fun b ob q _ _ _=>⟨ob.slots,k b ob q⟩,fun _ _ _ n _=>n,fun b ob q _=>⟨ob,k b ob q⟩,fun _ _ q=>q,fun _ _ _ q=>q,fun _ ps q=>⟨#[],by rw [q]; simp⟩⟩
theorem Un.refl:Un fs ex H H h h:=Un.kept fun _ _ q=>q
theorem Un.laid (k:∀ b u,h.get? b = some u→h'.get? b = some u) (hp:h.objs.size≤a) (hn:H a = none):Un fs ex H (upd H a o) h h' where
  keep:=fun b u q _ _ _=>k b u q
  slot:=fun b u q _ _ _=>⟨u.slots,k b u q⟩
  free:=fun b u q n _=>by rw [upd_ne (Nat.ne_of_lt (Nat.lt_of_lt_of_le (Heap.lt_size q) hp))]; exact n
  there:=fun b u q _=>⟨u,k b u q⟩
  tups:=fun b xs q=>by rw [upd_ne (ne_of_none q hn)]; exact q
  frzs:=fun b u xs q=>by rw [upd_ne (ne_of_none q hn)]; exact q
  tbls:=fun b ps q=>⟨#[],by rw [upd_ne (ne_of_none q hn),q]; simp⟩
theorem Un.write (mu:Mut (H x)) (he:e = x∨H e = some (.own x)) (k:∀ b u,b≠e→h.get? b = some u→h'.get? b = some u) (heo:∃ u,h'.get? e = some u):Un fs ex H (upd H x o) h h':=by
  have hx:∀ b,H b = none→b≠x:=fun b n z=>by subst z; rw [n] at mu; exact mu
  have hb:∀ b,H b = none→b≠e:=fun b n z=>by
    subst z
    rcases he with r | r
    · exact hx b n r
    · rw [n] at r; cases r
  have hm:∀ b u,H b = some u→¬ Mut (some u)→b≠x:=fun b u q nm z=>by subst z; rw [q] at mu; exact nm mu
  refine ⟨fun b u q n _ _=>k b u (hb b n) q,fun b u q n _ _=>⟨u.slots,k b u (hb b n) q⟩,fun b u q n _=>by rw [upd_ne (hx b n)]; exact n,fun b u q _=>?_,
    fun b xs q=>by rw [upd_ne (hm b _ q fun z=>z)]; exact q,fun b u xs q=>by rw [upd_ne (hm b _ q fun z=>z)]; exact q,fun b ps q=>⟨#[],by rw [upd_ne (hm b _ q fun z=>z),q]; simp⟩⟩
  by_cases hbe:b = e
  · subst hbe; exact heo
  · exact ⟨u,k b u hbe q⟩
theorem Un.mono (u:Un fs ex H H1 h h1) (hs:∀ b∈fs,b∈fs') (hx:∀ b∈ex,b∈ex'):Un fs' ex' H H1 h h1 :=
  ⟨fun b ob q n hb he=>u.keep b ob q n (fun z=>hb (hs b z)) fun z=>he (hx b z),fun _ _ q n _ he=>u.any q n fun z=>he (hx _ z),fun b ob q n he=>u.free b ob q n fun z=>he (hx b z),fun b ob q he=>u.there b ob q fun z=>he (hx b z),u.tups,u.frzs,u.tbls⟩
end
def trk (h:Heap) (H:Hp):List Addr:=(List.range h.objs.size).filter fun a=>(H a).isSome
def hidT (h:Heap) (H:Hp):Heap:=PySem.W.hideAll h (trk h H)
theorem hidT_size (h:Heap) (H:Hp):(hidT h H).objs.size = h.objs.size:=PySem.W.hideAll_size _ _
theorem hidT_get {h:Heap} {H:Hp} {b:Addr} {o:Obj} (e:h.get? b = some o) (n:H b = none):(hidT h H).get? b = some o :=
  PySem.W.hideAll_get _ e fun hm=>by
    have q:(H b).isSome = true:=(List.mem_filter.mp hm).2
    rw [n] at q; simp at q
theorem of_hidT {h:Heap} {H:Hp} {b:Addr} {o:Obj} (e:(hidT h H).get? b = some o):h.get? b = some o∧H b = none:=by
  have e':h.get? b = some o:=PySem.W.of_hideAll (trk h H) e
  refine ⟨e',?_⟩
  cases q:H b with
  | none=>rfl
  | some x =>
    have hm:b∈trk h H:=List.mem_filter.mpr ⟨List.mem_range.mpr (Heap.lt_size e'),by simp [q]⟩
    have z:(hidT h H).get? b = none:=PySem.W.hideAll_none (trk h H) hm
    rw [z] at e; cases e
def allNews (g h:Heap) (L:Addr):List (Addr × Obj):=(List.range h.objs.size).filterMap fun a=>if a = L∨(g.get? a).isSome = true then none else (h.get? a).map fun o=>(a,o)
def rest (g h:Heap) (L d:Addr):List (Addr × Obj):=(allNews g h L).filter fun p=>decide (p.1≠d)
end L2
namespace L2
open PySem PySem.Spec PyProof.Rows
structure Mod (K:PySem.W.Frag) (mg:Str→Option Value) (base:Heap):Prop where
  kin:K.In base
  glob:base.Ns mainGlobals mg
  blt:∃ mb,base.Ns builtinsNs mb∧∀ x:Str,x ≠ "__name__"→mb x = bootBuiltins x
  nolimit:base.NoLimit
structure Cx where
  prog:Program
  w:World
  K:PySem.W.Frag
  mg:Str→Option Value
  base:Heap
  A:Around
  N:List Str
  s₀:Shared
  H₀:Hp
  env:Env
  outer:List Env
  stack:List Env
  ex:List Addr
  fn:Str→Bool
  calm:Bool
  pn:List (Addr × Obj)
  xe:Value→Shared→Prop
def frs (l:List Env):List Addr:=l.filterMap (·.frame)
abbrev Cx.fs (X:Cx):List Addr:=frs X.outer
def Vis (sc:Scope) (x:Str):Prop:=sc.names.lookup x = some .local∨sc.names.lookup x = some .cell∨sc.names.lookup x = some .free
def Loc (sc:Scope) (x:Str):Prop:=sc.names.lookup x = some .local∨sc.names.lookup x = some .cell
def Look (env:Env) (h:Heap) (m:Str→Option Value) (x:Str) (u:Value):Prop :=
  (env.kindOf x = some .local∧m x = some u)∨((env.kindOf x = some .cell∨env.kindOf x = some .free)∧∃ c,env.cells.lookup x = some c∧h.IsCell c (some u))
structure Cx.Ok (X:Cx):Prop where
  mod:Mod X.K X.mg X.base
  kind:X.env.scope.kind = .function
  glob:X.env.globals = mainGlobals
  blt:X.env.builtins = builtinsNs
  above:X.s₀.heap.objs.size≤X.env.locals
  inj:∀ x y c,X.env.cells.lookup x = some c→X.env.cells.lookup y = some c→x = y
  has:∀ x,(X.env.kindOf x = some .cell∨X.env.kindOf x = some .free)→∃ c,X.env.cells.lookup x = some c
  cab:∀ x c,X.fn x = true→X.env.cells.lookup x = some c→X.s₀.heap.objs.size≤c
  hd:X.calm = true→X.A.handled = none
  frames:X.A.frames = some X.stack
  stk:X.stack = X.outer∨(X.stack = X.env :: X.outer∧X.env.frame = some X.env.locals)
  exf:∀ b∈X.ex,b≠X.env.locals∧∀ x c,X.env.cells.lookup x = some c→c≠b
  bs:∀ b o,X.base.get? b = some o→X.s₀.heap.get? b = some o∧X.H₀ b = none
  bsz:X.base.objs.size≤X.s₀.heap.objs.size
  noex:∀ b o,X.base.get? b = some o→b ∉ X.ex
  exfs:∀ b∈X.ex,b ∉ X.fs
  funs:X.s₀.heap.FunFrames X.base X.outer
  frf:∀ b∈X.fs,X.H₀ b = none
structure Inv (X:Cx) (pins:List (Addr × Obj)) (σ:List (Option V)) (H:Hp) (s:Shared):Prop where
  ok:X.Ok
  os:s.os = X.s₀.os
  bare:AllBare s.gens
  base:Un X.fs X.ex X.H₀ H X.s₀.heap s.heap
  loc:∃ m,s.heap.Ns X.env.locals m∧∀ (i:Nat) (x:Str) (v:V),X.N[i]? = some x→σ[i]? = some (some v)→Vis X.env.scope x→∃ u,RelV v u∧Look X.env s.heap m x u
  cell:∀ x c,X.env.cells.lookup x = some c→∃ v,s.heap.IsCell c v
  free:H X.env.locals = none
  freeC:∀ x c,X.env.cells.lookup x = some c→H c = none
  pin:∀ p∈X.pn ++ pins,s.heap.get? p.1 = some p.2∧H p.1 = none∧p.1≠X.env.locals∧p.1 ∉ X.fs∧∀ v,p.2.data≠.cell v
  hok:HOk X.prog X.w H s.heap
  len:σ.length = X.N.length
section
variable {X:Cx} {pins:List (Addr × Obj)} {σ:List (Option V)} {H H':Hp} {s:Shared} {h':Heap}
theorem Cx.Ok.nofr (ok:X.Ok) {b:Addr} {o:Obj} (e:X.base.get? b = some o):b ∉ X.fs:=fun hb=>by
  have:=(ok.funs.mem hb).1
  rw [e] at this; cases this
theorem Inv.bs (I:Inv X pins σ H s):∀ b o,X.base.get? b = some o→s.heap.get? b = some o∧H b = none:=fun b o e =>
  ⟨I.base.keep b o (I.ok.bs b o e).1 (I.ok.bs b o e).2 (I.ok.nofr e) (I.ok.noex b o e),I.base.free b o (I.ok.bs b o e).1 (I.ok.bs b o e).2 (I.ok.noex b o e)⟩
theorem Inv.bk (I:Inv X pins σ H s):∀ b o,X.base.get? b = some o→s.heap.get? b = some o:=fun b o e=>(I.bs b o e).1
theorem Inv.mod (I:Inv X pins σ H s):Mod X.K X.mg X.base:=I.ok.mod
theorem Inv.kIn (I:Inv X pins σ H s):X.K.In s.heap:=I.ok.mod.kin.keeps I.bk
theorem Inv.nolimit (I:Inv X pins σ H s):s.heap.NoLimit:=I.ok.mod.nolimit.keeps I.bk
theorem Inv.fr (I:Inv X pins σ H s):∃ m,Fr X.base X.env.locals s.heap m :=
  let ⟨m,hn,_⟩:=I.loc
  ⟨m,hn,I.bk,Nat.le_trans I.ok.bsz I.ok.above⟩
theorem Inv.lt (I:Inv X pins σ H s):X.env.locals < s.heap.objs.size:=let ⟨_,hn,_⟩:=I.loc; hn.lt
theorem Inv.sz (I:Inv X pins σ H s):X.s₀.heap.objs.size≤s.heap.objs.size:=Nat.le_trans I.ok.above (Nat.le_of_lt I.lt)
theorem Inv.nofs (I:Inv X pins σ H s) {a:Addr} (h:s.heap.objs.size≤a):a ∉ X.fs:=fun hb=>by
  obtain ⟨_,o,ho,_⟩:=I.ok.funs.mem hb
  exact absurd (Nat.lt_of_lt_of_le (Heap.lt_size ho) (Nat.le_trans I.sz h)) (Nat.lt_irrefl _)
theorem Inv.cne (I:Inv X pins σ H s):∀ x c,X.env.cells.lookup x = some c→c≠X.env.locals:=fun x c e z=>by
  obtain ⟨v,o,ho,hd⟩:=I.cell x c e
  obtain ⟨m,⟨o',es,ep,ho',hd',_⟩,_⟩:=I.loc
  rw [z,ho'] at ho; cases ho; rw [hd'] at hd; cases hd
theorem Inv.funs (I:Inv X pins σ H s):s.heap.FunFrames X.base X.outer:=by
  have all:∀ (l:List Env),(∀ b∈frs l,b∈X.fs)→X.s₀.heap.FunFrames X.base l→s.heap.FunFrames X.base l:=by
    intro l
    induction l with
    | nil=>intro _ _; trivial
    | cons env r ih =>
      intro hs hl
      obtain ⟨hk,⟨L,o,hf,hn,ho,hd⟩,hr⟩:=hl
      have hL:L∈X.fs:=hs L (by unfold frs; rw [List.filterMap_cons,hf]; exact List.mem_cons_self)
      obtain ⟨sl,e⟩:=I.base.slot L o ho (I.ok.frf L hL) hL fun z=>I.ok.exfs L z hL
      exact ⟨hk,⟨L,_,hf,hn,e,hd⟩,ih (fun b hb=>hs b (by unfold frs; rw [List.filterMap_cons,hf]; exact List.mem_cons_of_mem _ hb)) hr⟩
  exact all X.outer (fun _ hb=>hb) I.ok.funs
theorem Inv.stack (I:Inv X pins σ H s):s.heap.FunFrames X.base X.stack:=by
  rcases I.ok.stk with e | ⟨e,hf⟩
  · rw [e]; exact I.funs
  · rw [e]
    obtain ⟨m,hn,_⟩:=I.loc
    refine .cons (by rw [I.ok.kind]; decide) hf hn ?_ I.funs
    exact Heap.get?_none_of_le (Nat.le_trans I.ok.bsz I.ok.above)
theorem Inv.stkSub (I:Inv X pins σ H s):∀ b∈frs X.stack,b∈X.env.locals :: X.fs:=fun b hb=>by
  rcases I.ok.stk with e | ⟨e,hf⟩
  · rw [e] at hb; exact List.mem_cons_of_mem _ hb
  · rw [e] at hb
    unfold frs at hb
    rw [List.filterMap_cons,hf] at hb
    exact hb
theorem Inv.stkFree (I:Inv X pins σ H s):∀ b∈frs X.stack,H b = none:=fun b hb=>by
  rcases List.mem_cons.mp (I.stkSub b hb) with e | hb
  · rw [e]; exact I.free
  · obtain ⟨_,o,ho,_⟩:=I.ok.funs.mem hb
    exact I.base.free b o ho (I.ok.frf b hb) fun z=>I.ok.exfs b z hb
theorem Inv.step {g':Array GenState} {t':Nat} {d':Drawn} {ch:List Addr} (I:Inv X pins σ H s)
    (hch:∀ b∈ch,(b∈X.ex∨X.s₀.heap.objs.size≤b)∧b≠X.env.locals∧(∀ x c,X.env.cells.lookup x = some c→c≠b)∧∀ p∈X.pn ++ pins,p.1≠b)
    (keep:∀ b o,b≠X.env.locals→b ∉ X.fs→b ∉ ch→s.heap.get? b = some o→H b = none→h'.get? b = some o)
    (slot:∀ b o,b≠X.env.locals→b∈X.fs→b ∉ ch→s.heap.get? b = some o→H b = none→∃ sl,h'.get? b = some { o with slots:=sl }) (free:∀ b o,b ∉ ch→s.heap.get? b = some o→H b = none→H' b = none)
    (there:∀ b o,b ∉ ch→s.heap.get? b = some o→∃ o',h'.get? b = some o')
    (tups:∀ b xs,H b = some (.tup xs)→H' b = some (.tup xs)) (frzs:∀ b o u,H b = some (.frz o u)→H' b = some (.frz o u)) (tbls:∀ b ps,H b = some (.tbl ps)→∃ more,H' b = some (.tbl (ps ++ more)))
    (ns:∀ m,s.heap.Ns X.env.locals m→h'.Ns X.env.locals m) (hok:HOk X.prog X.w H' h') (hg:AllBare g') :
    Inv X pins σ H' { s with heap:=h',gens:=g',drawn:=d',toks:=t' }:=by
  have neL:∀ b o,X.s₀.heap.get? b = some o→b≠X.env.locals:=fun b o e=>Nat.ne_of_lt (Nat.lt_of_lt_of_le (Heap.lt_size e) I.ok.above)
  have neC:∀ b o,X.s₀.heap.get? b = some o→b ∉ X.ex→b ∉ ch:=fun b o e hx hb=>by
    rcases (hch b hb).1 with z | z
    · exact hx z
    · exact absurd (Nat.lt_of_lt_of_le (Heap.lt_size e) z) (Nat.lt_irrefl _)
  have cellK:∀ x c,X.env.cells.lookup x = some c→∀ v,s.heap.IsCell c v→h'.IsCell c v:=fun x c e v ⟨o,ho,hd⟩=>by
    have nch:c ∉ ch:=fun z=>(hch c z).2.2.1 x c e rfl
    by_cases hc:c∈X.fs
    · obtain ⟨sl,q⟩:=slot c o (I.cne x c e) hc nch ho (I.freeC x c e)
      exact ⟨_,q,hd⟩
    · exact ⟨o,keep c o (I.cne x c e) hc nch ho (I.freeC x c e),hd⟩
  refine ⟨I.ok,I.os,hg,⟨fun b o e n hb hx=>?_,fun b o e n hb hx=>?_,fun b o e n hx=>?_,fun b o e hx=>?_,fun b xs e=>tups b xs (I.base.tups b xs e),fun b o xs e=>frzs b o xs (I.base.frzs b o xs e),fun b ps e=>?_⟩,?_,fun x c e=>?_,?_,fun x c e=>?_,fun p hp=>?_,hok,I.len⟩
  · exact keep b o (neL b o e) hb (neC b o e hx) (I.base.keep b o e n hb hx) (I.base.free b o e n hx)
  · obtain ⟨sl,e1⟩:=I.base.slot b o e n hb hx
    obtain ⟨sl',e2⟩:=slot b _ (neL b o e) hb (neC b o e hx) e1 (I.base.free b o e n hx)
    exact ⟨sl',e2⟩
  · obtain ⟨o',e1⟩:=I.base.there b o e hx
    exact free b o' (neC b o e hx) e1 (I.base.free b o e n hx)
  · obtain ⟨o',e1⟩:=I.base.there b o e hx
    exact there b o' (neC b o e hx) e1
  · obtain ⟨m1,e1⟩:=I.base.tbls b ps e
    obtain ⟨m2,e2⟩:=tbls b _ e1
    exact ⟨m1 ++ m2,by rw [e2,Array.append_assoc]⟩
  · obtain ⟨m,hn,hl⟩:=I.loc
    refine ⟨m,ns m hn,fun i x v e1 e2 e3=>?_⟩
    obtain ⟨u,r,l⟩:=hl i x v e1 e2 e3
    refine ⟨u,r,?_⟩
    rcases l with l | ⟨k,c,e,z⟩
    · exact .inl l
    · exact .inr ⟨k,c,e,cellK x c e _ z⟩
  · obtain ⟨v,z⟩:=I.cell x c e
    exact ⟨v,cellK x c e v z⟩
  · obtain ⟨m,⟨o,_,_,ho,_⟩,_⟩:=I.loc
    exact free _ o (fun z=>(hch _ z).2.1 rfl) ho I.free
  · obtain ⟨v,o,ho,hd⟩:=I.cell x c e
    exact free c o (fun z=>(hch c z).2.2.1 x c e rfl) ho (I.freeC x c e)
  · obtain ⟨e,n,ne,nf,d⟩:=I.pin p hp
    have nch:p.1 ∉ ch:=fun z=>(hch p.1 z).2.2.2 p hp rfl
    exact ⟨keep p.1 p.2 ne nf nch e n,free p.1 p.2 nch e n,ne,nf,d⟩
theorem Inv.un {t':Nat} (I:Inv X pins σ H s) (u:Un X.fs [] H H' s.heap h') (hok:HOk X.prog X.w H' h'):Inv X pins σ H' { s with heap:=h',toks:=t' }:=by
  obtain ⟨m,⟨o,es,ep,ho,r⟩,_⟩:=id I.loc
  obtain ⟨sl,hL⟩:=u.any ho I.free (by simp)
  exact I.step (g':=s.gens) (d':=s.drawn) (ch:=[]) (fun _ z=>nomatch z) (fun b o _ hb _ e n=>u.keep b o e n hb (by simp)) (fun b o _ hb _ e n=>u.slot b o e n hb (by simp)) (fun b o _ e n=>u.free b o e n (by simp)) (fun b o _ e=>u.there b o e (by simp)) u.tups u.frzs u.tbls (fun m' hm=>by
    obtain ⟨o',es',ep',ho',r'⟩:=hm
    rw [ho] at ho'; cases ho'
    exact ⟨_,es',ep',hL,r'⟩) hok I.bare
theorem Inv.call {g':Array GenState} {t':Nat} {d':Drawn} {ch:List Addr} (I:Inv X pins σ H s) (u:Un (frs X.stack) ch H H' s.heap h') (hok:HOk X.prog X.w H' h') (hg:AllBare g')
    (hch:∀ b∈ch,(b∈X.ex∨X.s₀.heap.objs.size≤b)∧b≠X.env.locals∧(∀ x c,X.env.cells.lookup x = some c→c≠b)∧∀ p∈X.pn ++ pins,p.1≠b) :
    Inv X pins σ H' { s with heap:=h',gens:=g',drawn:=d',toks:=t' }:=by
  obtain ⟨m,⟨o,es,ep,ho,r⟩,_⟩:=id I.loc
  obtain ⟨sl,hL⟩:=u.any ho I.free fun z=>(hch _ z).2.1 rfl
  exact I.step (ch:=ch) hch (fun b o hL hb hc e n=>u.keep b o e n (fun z=>(List.mem_cons.mp (I.stkSub b z)).elim hL hb) hc) (fun b o _ _ hc e n=>u.any e n hc) (fun b o hc e n=>u.free b o e n hc) (fun b o hc e=>u.there b o e hc) u.tups u.frzs u.tbls (fun m' hm=>by
    obtain ⟨o',es',ep',ho',r'⟩:=hm
    rw [ho] at ho'; cases ho'
    exact ⟨_,es',ep',hL,r'⟩) hok hg
theorem Inv.turned {t':Nat} {it:Addr} (I:Inv X pins σ H s) (k:∀ b o,b≠it→s.heap.get? b = some o→h'.get? b = some o) (hn:H it = none) (hL:it≠X.env.locals)
    (h1:it∈X.ex∨X.s₀.heap.objs.size≤it) (h2:∀ x c,X.env.cells.lookup x = some c→c≠it) (h3:∀ p∈X.pn ++ pins,p.1≠it):Inv X pins σ H { s with heap:=h',toks:=t' }:=by
  have nit:∀ b u,H b = some u→b≠it:=fun b u e z=>by rw [z,hn] at e; cases e
  refine I.step (g':=s.gens) (d':=s.drawn) (ch:=[it]) (fun b hb=>?_) (fun b o _ _ hc e _=>k b o (fun z=>hc (by simp [z])) e) (fun b o _ _ hc e _=>⟨o.slots,k b o (fun z=>hc (by simp [z])) e⟩) (fun _ _ _ _ n=>n)
    (fun b o hc e=>⟨o,k b o (fun z=>hc (by simp [z])) e⟩) (fun _ _ e=>e) (fun _ _ _ e=>e) (fun b ps e=>⟨#[],by rw [e]; simp⟩) (fun m hm=>?_) (fun b u e=>?_) I.bare
  · have e:b = it:=by simpa using hb
    subst e
    exact ⟨h1,hL,h2,h3⟩
  · obtain ⟨o,es,ep,ho,r⟩:=hm
    exact ⟨o,es,ep,k _ o (Ne.symm hL) ho,r⟩
  · refine (I.hok b u e).stay (fun c v hc q=>k c v ?_ q) (fun _ q=>q) fun _ _ q=>q
    rcases hc with z | z
    · rw [z]; exact nit b u e
    · exact nit c _ z
theorem Inv.tok (I:Inv X pins σ H s) (t:Nat):Inv X pins σ H { s with toks:=t }:=I.un (h':=s.heap) (t':=t) Un.refl I.hok
theorem Inv.kept {t':Nat} (I:Inv X pins σ H s) (k:∀ b u,s.heap.get? b = some u→h'.get? b = some u):Inv X pins σ H { s with heap:=h',toks:=t' }:=I.un (Un.kept k) (I.hok.kept k)
theorem Inv.laid {a:Addr} {o:HO} {t':Nat} (I:Inv X pins σ H s) (k:∀ b u,s.heap.get? b = some u→h'.get? b = some u) (hp:s.heap.objs.size≤a) (new:ObjOk X.prog X.w (upd H a o) h' a o) :
    Inv X pins σ (upd H a o) { s with heap:=h',toks:=t' }:=I.un (Un.laid k hp (I.hok.fresh hp)) (I.hok.laid k hp new)
theorem Inv.write {x e:Addr} {o:HO} {t':Nat} (I:Inv X pins σ H s) (mu:Mut (H x)) (he:e = x∨H e = some (.own x)) (k:∀ b u,b≠e→s.heap.get? b = some u→h'.get? b = some u) (heo:∃ u,h'.get? e = some u)
    (new:ObjOk X.prog X.w (upd H x o) h' x o):Inv X pins σ (upd H x o) { s with heap:=h',toks:=t' }:=I.un (Un.write mu he k heo) (I.hok.write mu he k heo new)
theorem Inv.pins_of {pins':List (Addr × Obj)} (I:Inv X pins σ H s) (h:∀ p∈pins',s.heap.get? p.1 = some p.2∧H p.1 = none∧p.1≠X.env.locals∧p.1 ∉ X.fs∧∀ v,p.2.data≠.cell v):Inv X pins' σ H s :=
  ⟨I.ok,I.os,I.bare,I.base,I.loc,I.cell,I.free,I.freeC,fun p hp=>(List.mem_append.mp hp).elim (fun z=>I.pin p (List.mem_append_left _ z)) (h p),I.hok,I.len⟩
theorem nodup_ix {N:List Str} (hN:N.Nodup) {i j:Nat} {x:Str} (a:N[i]? = some x) (b:N[j]? = some x):i = j:=by
  obtain ⟨h1,e1⟩:=List.getElem?_eq_some_iff.mp a
  obtain ⟨h2,e2⟩:=List.getElem?_eq_some_iff.mp b
  exact (List.getElem_inj hN).mp (e1.trans e2.symm)
theorem store_ok2 {M:Model} {A:Around} {E:Value→Shared→Prop} {i:Nat} {x:Str} {v:V} {u:Value} {Q:Unit→Shared→Prop} (I:Inv X pins σ H s) (hN:X.N.Nodup) (hi:X.N[i]? = some x) (hx:Loc X.env.scope x) (r:RelV v u)
    (h:∀ s',Inv X pins (σ.set i (some v)) H s'→(∃ a,Heap.SameBut a s.heap s'.heap∧(a = X.env.locals∨X.env.cells.lookup x = some a))→Q () s') (hf:X.fn x = true∨X.env.scope.names.lookup x = some .local:=by first | exact .inl rfl | exact .inr rfl | assumption):wpAny M A (storeName X.env x u) Q E s:=by
  obtain ⟨m,hn,hl⟩:=id I.loc
  have hcls:(X.env.scope.kind == .class || (X.env.scope.kind == .module && X.env.locals != X.env.globals)) = false:=by rw [I.ok.kind]; rfl
  have hiσ:i < σ.length:=by rw [I.len]; exact (List.getElem?_eq_some_iff.mp hi).1
  have cne:=I.cne
  have tracked:∀ {a:Addr} {h':Heap},(∃ o,s.heap.get? a = some o∧H a = none)→Heap.SameBut a s.heap h'→HOk X.prog X.w H h':=fun {a h'} ha hs b ob e=>by
    obtain ⟨_,_,hfree⟩:=ha
    refine (I.hok b ob e).stay (fun c w' hc q=>(hs.2 c ?_).trans q) (fun _ q=>q) fun _ _ q=>q
    rintro rfl
    rcases hc with rfl | hc
    · rw [hfree] at e; cases e
    · rw [hfree] at hc; cases hc
  rcases hx with hk | hk
  · refine wpAny_storeName_local hk hn (fun h' hn' hs=>?_) hcls
    obtain ⟨oL,_,_,hoL,_⟩:=id hn
    refine h _ ⟨I.ok,I.os,I.bare,⟨fun b o e n hb hx=>?_,fun b o e n hb hx=>?_,I.base.free,fun b o e hx=>?_,I.base.tups,I.base.frzs,I.base.tbls⟩,⟨_,hn',fun j y v' e1 e2 e3=>?_⟩,fun y c e=>?_,I.free,I.freeC,fun p hp=>?_,tracked ⟨oL,hoL,I.free⟩ hs,by simpa using I.len⟩ ⟨_,hs,.inl rfl⟩
    · exact (hs.2 b (Nat.ne_of_lt (Nat.lt_of_lt_of_le (Heap.lt_size e) I.ok.above))).trans (I.base.keep b o e n hb hx)
    · obtain ⟨sl,e1⟩:=I.base.slot b o e n hb hx
      exact ⟨sl,(hs.2 b (Nat.ne_of_lt (Nat.lt_of_lt_of_le (Heap.lt_size e) I.ok.above))).trans e1⟩
    · obtain ⟨o',e1⟩:=I.base.there b o e hx
      exact ⟨o',(hs.2 b (Nat.ne_of_lt (Nat.lt_of_lt_of_le (Heap.lt_size e) I.ok.above))).trans e1⟩
    · by_cases hj:j = i
      · subst hj
        rw [hi] at e1; cases e1
        rw [List.getElem?_set_self hiσ] at e2
        cases e2
        exact ⟨u,r,.inl ⟨hk,by simp⟩⟩
      · rw [List.getElem?_set_ne (Ne.symm hj)] at e2
        obtain ⟨u',r',q⟩:=hl j y v' e1 e2 e3
        refine ⟨u',r',?_⟩
        rcases q with ⟨k,e⟩ | ⟨k,c,e,z⟩
        · refine .inl ⟨k,?_⟩
          have:y≠x:=fun e=>hj (nodup_ix hN e1 (e ▸ hi))
          simp [this,e]
        · exact .inr ⟨k,c,e,z.sameBut hs (cne y c e)⟩
    · obtain ⟨w',z⟩:=I.cell y c e
      exact ⟨w',z.sameBut hs (cne y c e)⟩
    · obtain ⟨e,n,ne,nf,d⟩:=I.pin p hp
      exact ⟨(hs.2 p.1 ne).trans e,n,ne,nf,d⟩
  · have hfn:X.fn x = true:=by
      rcases hf with z | z
      · exact z
      · rw [z] at hk; cases hk
    obtain ⟨c,hc⟩:=I.ok.has x (.inl hk)
    obtain ⟨w',z⟩:=I.cell x c hc
    refine wpAny_storeName_cell I.ok.kind hk hc z (fun h' hc' hs=>?_)
    obtain ⟨oc,hoc,hocd⟩:=id z
    refine h { s with heap:=h' } ⟨I.ok,I.os,I.bare,⟨fun b o e n hb hx=>?_,fun b o e n hb hx=>?_,I.base.free,fun b o e hx=>?_,I.base.tups,I.base.frzs,I.base.tbls⟩,⟨m,hn.sameBut hs (Ne.symm (cne x c hc)),fun j y v' e1 e2 e3=>?_⟩,fun y c' e=>?_,I.free,I.freeC,fun p hp=>?_,tracked ⟨oc,hoc,I.freeC x c hc⟩ hs,by simpa using I.len⟩ ⟨c,hs,.inr hc⟩
    · exact (hs.2 b (Nat.ne_of_lt (Nat.lt_of_lt_of_le (Heap.lt_size e) (I.ok.cab x c hfn hc)))).trans (I.base.keep b o e n hb hx)
    · obtain ⟨sl,e1⟩:=I.base.slot b o e n hb hx
      exact ⟨sl,(hs.2 b (Nat.ne_of_lt (Nat.lt_of_lt_of_le (Heap.lt_size e) (I.ok.cab x c hfn hc)))).trans e1⟩
    · obtain ⟨o',e1⟩:=I.base.there b o e hx
      exact ⟨o',(hs.2 b (Nat.ne_of_lt (Nat.lt_of_lt_of_le (Heap.lt_size e) (I.ok.cab x c hfn hc)))).trans e1⟩
    · by_cases hj:j = i
      · subst hj
        rw [hi] at e1; cases e1
        rw [List.getElem?_set_self hiσ] at e2
        cases e2
        exact ⟨u,r,.inr ⟨.inl hk,c,hc,hc'⟩⟩
      · rw [List.getElem?_set_ne (Ne.symm hj)] at e2
        obtain ⟨u',r',q⟩:=hl j y v' e1 e2 e3
        refine ⟨u',r',?_⟩
        rcases q with q | ⟨k,c',e,z'⟩
        · exact .inl q
        · refine .inr ⟨k,c',e,z'.sameBut hs ?_⟩
          rintro rfl
          exact hj (nodup_ix hN e1 (I.ok.inj _ _ _ e hc ▸ hi))
    · by_cases hcc:c' = c
      · subst hcc; exact ⟨_,hc'⟩
      · obtain ⟨w2,z2⟩:=I.cell y c' e
        exact ⟨w2,z2.sameBut hs hcc⟩
    · obtain ⟨e,n,ne,nf,d⟩:=I.pin p hp
      refine ⟨(hs.2 p.1 ?_).trans e,n,ne,nf,d⟩
      intro q
      rw [q,hoc] at e
      have q':oc = p.2:=Option.some.inj e
      exact d w' (by rw [← q']; exact hocd)
theorem store_ok {M:Model} {A:Around} {E:Value→Shared→Prop} {i:Nat} {x:Str} {v:V} {u:Value} {Q:Unit→Shared→Prop} (I:Inv X pins σ H s) (hN:X.N.Nodup) (hi:X.N[i]? = some x) (hx:Loc X.env.scope x) (r:RelV v u)
    (h:∀ s',Inv X pins (σ.set i (some v)) H s'→Q () s') (hf:X.fn x = true∨X.env.scope.names.lookup x = some .local:=by first | exact .inl rfl | exact .inr rfl | assumption):wpAny M A (storeName X.env x u) Q E s :=
  store_ok2 I hN hi hx r (fun s' I' _=>h s' I') hf
theorem Inv.call' {s':Shared} {ch:List Addr} (I:Inv X pins σ H s) (ho:s'.os = s.os) (u:Un (frs X.stack) ch H H' s.heap s'.heap) (hok:HOk X.prog X.w H' s'.heap) (hg:AllBare s'.gens)
    (hch:∀ b∈ch,(b∈X.ex∨X.s₀.heap.objs.size≤b)∧b≠X.env.locals∧(∀ x c,X.env.cells.lookup x = some c→c≠b)∧∀ p∈X.pn ++ pins,p.1≠b):Inv X pins σ H' s':=by
  obtain ⟨h',g',d',t',o'⟩:=s'
  have e:o' = s.os:=ho
  subst e
  exact I.call (g':=g') (t':=t') (d':=d') u hok hg hch
end
abbrev XK:=Value→Option Addr→Hp→Prop
abbrev St:=List (Option V)
abbrev VK:=V→Hp→Prop
abbrev TE:=St→Hp→VK→Prop
abbrev TT:=St→Hp→(Bool→Hp→Prop)→Prop
abbrev TA:=St→Hp→(List V→Hp→Prop)→Prop
structure Ends where
  nx:St→Hp→Prop
  rt:VK
  bk:St→Hp→Prop:=fun _ _=>False
  ct:St→Hp→Prop:=fun _ _=>False
abbrev TS:=Ends→St→Hp→Prop
def EP (X:Cx) (pins:List (Addr × Obj)) (σ:St) (Q:VK) (u:Value) (s':Shared):Prop:=∃ v H',Inv X pins σ H' s'∧RelV v u∧Q v H'
def TP (X:Cx) (pins:List (Addr × Obj)) (σ:St) (Q:Bool→Hp→Prop) (b:Bool) (s':Shared):Prop:=∃ H',Inv X pins σ H' s'∧Q b H'
def AP (X:Cx) (pins:List (Addr × Obj)) (σ:St) (Q:List V→Hp→Prop) (us:List Value) (s':Shared):Prop:=∃ vs H',Inv X pins σ H' s'∧Vals vs us∧Q vs H'
def SP (X:Cx) (pins:List (Addr × Obj)) (D:Ends) (f:Flow) (s':Shared):Prop :=
  match f with
  | .next=>∃ σ' H',Inv X pins σ' H' s'∧D.nx σ' H'
  | .brk=>∃ σ' H',Inv X pins σ' H' s'∧D.bk σ' H'
  | .cont=>∃ σ' H',Inv X pins σ' H' s'∧D.ct σ' H'
  | .ret u=>∃ v σ' H',Inv X pins σ' H' s'∧RelV v u∧D.rt v H'
def PE (X:Cx) (e:Expr) (t:TE):Prop :=
  ∀ (pins:List (Addr × Obj)) (s:Shared) (σ:St) (H:Hp) (Q:VK),Inv X pins σ H s→t σ H Q→wpAny (model X.prog X.w) X.A (eval e X.env) (EP X pins σ Q) X.xe s
def PT (X:Cx) (e:Expr) (t:TT):Prop :=
  ∀ (pins:List (Addr × Obj)) (s:Shared) (σ:St) (H:Hp) (Q:Bool→Hp→Prop),Inv X pins σ H s→t σ H Q→wpAny (model X.prog X.w) X.A (isTrue e X.env (eval e X.env)) (TP X pins σ Q) X.xe s
def PW (X:Cx) (e:Expr) (t:TT):Prop :=
  ∀ (whole:Sem Value) (pins:List (Addr × Obj)) (s:Shared) (σ:St) (H:Hp) (Q:Bool→Hp→Prop),Inv X pins σ H s→t σ H Q→wpAny (model X.prog X.w) X.A (isTrue e X.env whole) (TP X pins σ Q) X.xe s
theorem PW.pt {X:Cx} {e:Expr} {t:TT} (h:PW X e t):PT X e t:=h _
def PA (X:Cx) (es:List Expr) (t:TA):Prop :=
  ∀ (pos:Pos) (pins:List (Addr × Obj)) (s:Shared) (σ:St) (H:Hp) (Q:List V→Hp→Prop),Inv X pins σ H s→t σ H Q→wpAny (model X.prog X.w) X.A (spliced (backTo pos (starEach es X.env))) (AP X pins σ Q) X.xe s
def PS (X:Cx) (st:Stmt) (t:TS):Prop :=
  ∀ (pins:List (Addr × Obj)) (s:Shared) (σ:St) (H:Hp) (D:Ends),Inv X pins σ H s→t D σ H→wpAny (model X.prog X.w) X.A (exec st X.env) (SP X pins D) X.xe s
def PSs (X:Cx) (st:List Stmt) (t:TS):Prop :=
  ∀ (pins:List (Addr × Obj)) (s:Shared) (σ:St) (H:Hp) (D:Ends),Inv X pins σ H s→t D σ H→wpAny (model X.prog X.w) X.A (execs st X.env) (SP X pins D) X.xe s
theorem thn {α:Type} {t:Sem α} {Q Q':α→Shared→Prop} {M:Model} {A:Around} {E:Value→Shared→Prop} {s:Shared} (h:wpAny M A t Q E s) (hQ:∀ a s,Q a s→Q' a s):wpAny M A t Q' E s:=wpAny_mono h hQ fun _ _ x=>x
end L2
namespace L2
open PySem PySem.Spec PyProof.Rows
section
variable {X:Cx}
def tVar (i:Nat):TE:=fun σ H Q=>∃ v,σ[i]? = some (some v)∧Q v H
def tC (v:V):TE:=fun _ H Q=>Q v H
theorem pe_var {i:Nat} {x:Str} {pos:Pos} (hN:X.N[i]? = some x) (hv:Vis X.env.scope x) (hd:(x == ("__debug__":Str)) = false:=by decide) (hcd:(x == ("__classdict__":Str)) = false:=by decide):PE X (.Name x pos) (tVar i):=by
  intro pins s σ H Q I h
  obtain ⟨v,e,h⟩:=h
  obtain ⟨m,hn,hl⟩:=I.loc
  obtain ⟨u,r,l⟩:=hl i x v hN e hv
  have fin:EP X pins σ Q u s:=⟨v,H,I,r,h⟩
  rcases l with ⟨hk,hm⟩ | ⟨hk,c,hc,hcell⟩
  · exact wpAny_Name (wpAny_loadName_local I.ok.kind hk hn hm fin) hd
  · rcases hk with hk | hk
    · exact wpAny_Name (wpAny_loadName_cell I.ok.kind hk hc hcell fin) hd
    · exact wpAny_Name (wpAny_loadName_free I.ok.kind hk hc hcell fin hcd) hd
theorem pe_int {i j pos}:PE X (.Constant (.int i) j pos) (tC (.int i)):=fun _ _ _ H _ I h=>wpAny_Constant_int ⟨.int i,H,I.tok _,⟨_,rfl⟩,h⟩
theorem pe_bl {b j pos}:PE X (.Constant (.bool b) j pos) (tC (.bl b)):=fun _ _ _ H _ I h=>Constant_bool ⟨.bl b,H,I,rfl,h⟩
theorem pe_non {j pos}:PE X (.Constant .none j pos) (tC .non):=fun _ _ _ H _ I h=>Constant_none ⟨.non,H,I,rfl,h⟩
theorem pe_str {x j pos}:PE X (.Constant (.str x) j pos) (tC (.str x)):=fun _ _ _ H _ I h=>Calls.Constant_str ⟨.str x,H,I.tok _,⟨_,rfl⟩,h⟩
def Gl (X:Cx) (x:Str):Prop:=X.env.kindOf x = some .globalImplicit
theorem ld_glob {E:Value→Shared→Prop} {pins:List (Addr × Obj)} {s:Shared} {σ:St} {H:Hp} {x:Str} {u:Value} {pos:Pos} {Q:Value→Shared→Prop} (I:Inv X pins σ H s) (hg:Gl X x) (hm:X.mg x = some u) (h:Q u s)
    (hd:(x == ("__debug__":Str)) = false:=by decide):wpAny (model X.prog X.w) X.A (eval (.Name x pos) X.env) Q E s :=
  Calls.Name_function_global I.ok.kind hg (Calls.loadGlobal_global (by rw [I.ok.glob]; exact I.mod.glob.keeps I.bk) hm h) hd
theorem ld_blt {E:Value→Shared→Prop} {pins:List (Addr × Obj)} {s:Shared} {σ:St} {H:Hp} {x:Str} {u:Value} {pos:Pos} {Q:Value→Shared→Prop} (I:Inv X pins σ H s) (hg:Gl X x) (hm:X.mg x = none) (hv:bootBuiltins x = some u) (h:Q u s)
    (hn:x ≠ "__name__":=by decide) (hd:(x == ("__debug__":Str)) = false:=by decide):wpAny (model X.prog X.w) X.A (eval (.Name x pos) X.env) Q E s:=by
  obtain ⟨mb,h1,h2⟩:=I.mod.blt
  exact Calls.Name_function_global I.ok.kind hg (Calls.loadGlobal_builtin (by rw [I.ok.glob]; exact I.mod.glob.keeps I.bk) hm (by rw [I.ok.blt]; exact h1.keeps I.bk) ((h2 x hn).trans hv) h) hd
theorem pe_glob {x:Str} {v:V} {u:Value} {pos:Pos} (hg:Gl X x) (hm:X.mg x = some u) (r:RelV v u) (hd:(x == ("__debug__":Str)) = false:=by decide):PE X (.Name x pos) (tC v) :=
  fun _ _ _ H _ I h=>ld_glob I hg hm ⟨v,H,I,r,h⟩ hd
theorem pe_bltn {x:Str} {v:V} {u:Value} {pos:Pos} (hg:Gl X x) (hm:X.mg x = none) (hv:bootBuiltins x = some u) (r:RelV v u) (hn:x ≠ "__name__":=by decide) (hd:(x == ("__debug__":Str)) = false:=by decide):PE X (.Name x pos) (tC v) :=
  fun _ _ _ H _ I h=>ld_blt I hg hm hv ⟨v,H,I,r,h⟩ hn hd
variable {a b:Expr} {ta tb:TE} {pos:Pos}
def PC (X:Cx) (op:CmpOp) (a b:Expr) (t:TE):Prop :=
  ∀ (pins:List (Addr × Obj)) (s:Shared) (σ:St) (H:Hp) (Q:VK),Inv X pins σ H s→t σ H Q →
    wpAny (model X.prog X.w) X.A (eval a X.env) (fun v s₁=>wpAny (model X.prog X.w) X.A (eval b X.env) (fun u s₂=>wpAny (model X.prog X.w) X.A (compareOp op v u) (EP X pins σ Q) X.xe s₂) X.xe s₁) X.xe s
theorem nobehind (b:Expr) {op:CmpOp} (h:op≠.In) (h2:op≠.NotIn):behindInMarks op b = false:=by
  have e1:(op == CmpOp.In) = false:=by cases op <;> first | rfl | exact absurd rfl h
  have e2:(op == CmpOp.NotIn) = false:=by cases op <;> first | rfl | exact absurd rfl h2
  cases b <;> simp [behindInMarks,e1,e2]
def tNotN (ta:TE):TE:=fun σ H Q=>ta σ H fun x H1=>Q (.bl (!decide (x = .non))) H1
theorem RelV.none_iff {x:V} {v:Value} (r:RelV x v):(v == Value.none) = decide (x = .non):=by
  cases x with
  | non=>cases r; rfl
  | bl _=>cases r; rfl
  | int _=>obtain ⟨t,rfl⟩:=r; rfl
  | str _=>obtain ⟨t,rfl⟩:=r; rfl
  | byt _=>obtain ⟨t,rfl⟩:=r; rfl
  | flt _=>obtain ⟨t,rfl⟩:=r; rfl
  | ref _=>cases r; rfl
  | ty _=>cases r; rfl
theorem pc_notN {j pos'} (ha:PE X a ta):PC X .IsNot a (.Constant .none j pos') (tNotN ta):=by
  intro pins s σ H Q I h
  refine thn (ha pins s σ H _ I h) fun v s1 ⟨x,H1,I1,r1,q1⟩=>?_
  exact Constant_none (isnot_none_gen ⟨.bl _,H1,I1,by rw [r1.none_iff]; rfl,q1⟩)
def tB (t:TE):TT:=fun σ H Q=>t σ H fun x H1=>∃ c,x = .bl c∧Q c H1
theorem pe_cmp {op:CmpOp} {t:TE} (h:PC X op a b t) (h1:behindInMarks op b = false:=by first | exact nobehind _ (by decide) (by decide) | rfl):PE X (.Compare a [op] [b] pos) t:=fun pins s σ H Q I hw=>wpAny_Compare1 (h pins s σ H Q I hw) h1
theorem pt_cmp {op:CmpOp} {t:TE} (h:PC X op a b t) (h1:behindInMarks op b = false:=by first | exact nobehind _ (by decide) (by decide) | rfl):PT X (.Compare a [op] [b] pos) (tB t):=by
  intro pins s σ H Q I hw
  refine wpAny_isTrue_Compare1 (thn (h pins s σ H _ I hw) fun v s1 h1=>thn h1 fun u s2 h2=>thn h2 fun c s3 ⟨x,H1,I1,r1,q1⟩=>?_) h1
  obtain ⟨d,rfl,q⟩:=q1
  cases r1
  exact wpAny_truthy_bool ⟨H1,I1,q⟩
theorem pt_val {e:Expr} {t:TE} (h:PE X e t) (he:∀ whole,isTrue e X.env whole = (do let v ← whole; standAt e.pos; holding [v] (truthy v)):=by intro _; rfl):PT X e (tB t):=by
  intro pins s σ H Q I hw
  refine isTrue_plain (thn (h pins s σ H _ I hw) fun v s1 ⟨x,H1,I1,r1,q1⟩=>?_) (he _)
  obtain ⟨d,rfl,q⟩:=q1
  cases r1
  exact wpAny_truthy_bool ⟨H1,I1,q⟩
variable {tA tB':TT} {rest:List Expr}
def tAnd (t u:TT):TT:=fun σ H Q=>t σ H fun c H1=>if c = true then u σ H1 Q else Q false H1
def tOr (t u:TT):TT:=fun σ H Q=>t σ H fun c H1=>if c = true then Q true H1 else u σ H1 Q
def tNot (t:TT):TT:=fun σ H Q=>t σ H fun c H1=>Q (!c) H1
theorem pw_and1 (ha:PT X a tA):PW X (.BoolOp .And [a] pos) tA:=by
  intro wh pins s σ H Q I h
  refine isTrue_and (thn (ha pins s σ H Q I h) fun c s1 e=>?_)
  cases c with
  | true=>exact isTrue_and_nil e
  | false=>exact e
theorem pw_or1 (ha:PT X a tA):PW X (.BoolOp .Or [a] pos) tA:=by
  intro wh pins s σ H Q I h
  refine isTrue_or (thn (ha pins s σ H Q I h) fun c s1 e=>?_)
  cases c with
  | false=>exact isTrue_or_nil e
  | true=>exact e
theorem pw_and (ha:PT X a tA) (hb:PW X (.BoolOp .And (b :: rest) pos) tB'):PW X (.BoolOp .And (a :: b :: rest) pos) (tAnd tA tB'):=by
  intro wh pins s σ H Q I h
  refine isTrue_and (thn (ha pins s σ H _ I h) fun c s1 ⟨H1,I1,q1⟩=>?_)
  cases c with
  | true=>exact hb wh pins s1 σ H1 Q I1 q1
  | false=>exact ⟨H1,I1,q1⟩
theorem pw_or (ha:PT X a tA) (hb:PW X (.BoolOp .Or (b :: rest) pos) tB'):PW X (.BoolOp .Or (a :: b :: rest) pos) (tOr tA tB'):=by
  intro wh pins s σ H Q I h
  refine isTrue_or (thn (ha pins s σ H _ I h) fun c s1 ⟨H1,I1,q1⟩=>?_)
  cases c with
  | true=>exact ⟨H1,I1,q1⟩
  | false=>exact hb wh pins s1 σ H1 Q I1 q1
theorem pt_not (ha:PT X a tA):PT X (.UnaryOp .Not a pos) (tNot tA):=by
  intro pins s σ H Q I h
  exact isTrue_not (ha pins s σ H (fun c H1=>Q (!c) H1) I h)
def tAndV (ta tb:TE):TE:=fun σ H Q=>ta σ H fun x H1=>∃ c,x = .bl c∧if c = true then tb σ H1 Q else Q (.bl false) H1
def tNotV (ta:TE):TE:=fun σ H Q=>ta σ H fun x H1=>∃ c,x = .bl c∧Q (.bl (!c)) H1
theorem pe_one {op} {t:TE} (h:PE X a t):PE X (.BoolOp op [a] pos) t:=fun pins s σ H Q I hw=>BoolOp_one (h pins s σ H Q I hw)
theorem pe_and (ha:PE X a ta) (hb:PE X (.BoolOp .And (b :: rest) pos) tb):PE X (.BoolOp .And (a :: b :: rest) pos) (tAndV ta tb):=by
  intro pins s σ H Q I h
  refine BoolOp_and (thn (ha pins s σ H _ I h) fun v s1 ⟨x,H1,I1,r1,q1⟩=>?_)
  obtain ⟨c,rfl,q1⟩:=q1
  cases r1
  refine wpAny_truthy_bool ?_
  cases c with
  | true=>exact hb pins s1 σ H1 Q I1 q1
  | false=>exact ⟨.bl false,H1,I1,rfl,q1⟩
theorem pe_not (ha:PE X a ta):PE X (.UnaryOp .Not a pos) (tNotV ta):=by
  intro pins s σ H Q I h
  refine UnaryOp_ (thn (ha pins s σ H _ I h) fun v s1 ⟨x,H1,I1,r1,q1⟩=>?_)
  obtain ⟨c,rfl,q1⟩:=q1
  cases r1
  exact not_of (wpAny_truthy_bool ⟨.bl (!c),H1,I1,rfl,q1⟩)
def tIf (t:TT) (ta tb:TE):TE:=fun σ H Q=>t σ H fun c H1=>if c = true then ta σ H1 Q else tb σ H1 Q
theorem pe_ifExp {c:Expr} (hc:PT X c tA) (ha:PE X a ta) (hb:PE X b tb):PE X (.IfExp c a b pos) (tIf tA ta tb):=by
  intro pins s σ H Q I h
  refine wpAny_IfExp (thn (hc pins s σ H _ I h) fun d s1 ⟨H1,I1,q1⟩=>?_)
  cases d with
  | true=>exact ha pins s1 σ H1 Q I1 q1
  | false=>exact hb pins s1 σ H1 Q I1 q1
end
end L2
namespace L2
open PySem PySem.Spec PyProof.Rows
def SqL (K:PySem.W.Frag) (H:Hp) (a:Addr) (xs:List V):Prop :=
  Rd H a (.lst xs) ∨
    ∃ (o:Obj) (its:Array Value) (n:Nat),K.lookup a = some o∧o.cls = .type "list"∧o.dict = none∧o.data = .seq its n∧its.size≤sizeLine∧Vals xs its.toList
def SqT (K:PySem.W.Frag) (H:Hp) (a:Addr) (xs:List V):Prop :=
  Rd H a (.tup xs) ∨
    ∃ (o:Obj) (its:Array Value) (n:Nat),K.lookup a = some o∧o.cls = .type "tuple"∧o.data = .seq its n∧its.size≤sizeLine∧Vals xs its.toList
def absV:Value→Option V
  | .none=>some .non
  | .bool b=>some (.bl b)
  | .int i _=>some (.int i)
  | .str x _=>some (.str x)
  | .bytes b _=>some (.byt b)
  | .float b _=>some (.flt b)
  | .ref a=>some (.ref a)
  | .type n=>some (.ty n)
  | _=>none
theorem RelV.abs {x:V} {u:Value} (r:RelV x u):absV u = some x:=by
  cases x with
  | non=>cases r; rfl
  | bl _=>cases r; rfl
  | int _=>obtain ⟨t,rfl⟩:=r; rfl
  | str _=>obtain ⟨t,rfl⟩:=r; rfl
  | byt _=>obtain ⟨t,rfl⟩:=r; rfl
  | flt _=>obtain ⟨t,rfl⟩:=r; rfl
  | ref _=>cases r; rfl
  | ty _=>cases r; rfl
theorem RelV.inj {x y:V} {u:Value} (r:RelV x u) (q:RelV y u):x = y:=Option.some.inj (r.abs.symm.trans q.abs)
theorem Vals.inj:∀ {xs ys:List V} {us:List Value},Vals xs us→Vals ys us→xs = ys
  | _,_,_,.nil,.nil=>rfl
  | _,_,_,.cons r t,.cons r' t'=>by rw [r.inj r',Vals.inj t t']
section
variable {X:Cx} {pins:List (Addr × Obj)} {σ:St} {H:Hp} {s:Shared} {a:Addr} {xs ys:List V}
theorem SqL.of {K:PySem.W.Frag} (h:H a = some (.lst xs)):SqL K H a xs:=.inl (.inl h)
theorem SqT.of {K:PySem.W.Frag} (h:H a = some (.tup xs)):SqT K H a xs:=.inl (.inl h)
theorem Inv.list (I:Inv X pins σ H s) (h:SqL X.K H a xs):∃ its:List Value,Vals xs its∧PlainL s.heap a its.toArray∧xs.length≤sizeLine:=by
  rcases h with h | ⟨o,its,n,hk,hc,hd,hs,hz,r⟩
  · obtain ⟨z,its,n,r,e⟩:=h.ok I.hok
    exact ⟨its,r,⟨_,n,e,rfl,rfl,rfl⟩,z⟩
  · refine ⟨its.toList,r,⟨o,n,I.kIn a o hk,hc,hd,by simpa using hs⟩,?_⟩
    have e:=r.length
    simp only [Array.length_toList] at e
    omega
theorem Inv.tuple (I:Inv X pins σ H s) (h:SqT X.K H a xs):∃ its:List Value,Vals xs its∧IsTup s.heap a its.toArray∧xs.length≤sizeLine:=by
  rcases h with h | ⟨o,its,n,hk,hc,hs,hz,r⟩
  · obtain ⟨z,its,r,p⟩:=h.ok I.hok
    exact ⟨its,r,p.isTup,z⟩
  · refine ⟨its.toList,r,⟨o,I.kIn a o hk,hc,n,by simpa using hs⟩,?_⟩
    have e:=r.length
    simp only [Array.length_toList] at e
    omega
theorem Inv.list_inj (I:Inv X pins σ H s) (h:SqL X.K H a xs) (h':SqL X.K H a ys):xs = ys:=by
  obtain ⟨its,r,⟨o,n,e,_,_,d⟩,_⟩:=I.list h
  obtain ⟨its',r',⟨o',n',e',_,_,d'⟩,_⟩:=I.list h'
  rw [e] at e'; cases e'
  rw [d] at d'
  injection d' with d1 _
  have:its = its':=by simpa using congrArg Array.toList d1
  subst this
  exact r.inj r'
theorem Inv.tuple_inj (I:Inv X pins σ H s) (h:SqT X.K H a xs) (h':SqT X.K H a ys):xs = ys:=by
  obtain ⟨its,r,⟨o,e,_,n,d⟩,_⟩:=I.tuple h
  obtain ⟨its',r',⟨o',e',_,n',d'⟩,_⟩:=I.tuple h'
  rw [e] at e'; cases e'
  rw [d] at d'
  injection d' with d1 _
  have:its = its':=by simpa using congrArg Array.toList d1
  subst this
  exact r.inj r'
end
abbrev Cx.wish (X:Cx) (E:Value→Shared→Prop):Cx:={ X with xe:=E }
abbrev Cx.nox (X:Cx):Cx:=X.wish fun _ _=>False
theorem Cx.Ok.wish {X:Cx} (ok:X.Ok) (E:Value→Shared→Prop):(X.wish E).Ok :=
  ⟨ok.mod,ok.kind,ok.glob,ok.blt,ok.above,ok.inj,ok.has,ok.cab,ok.hd,ok.frames,ok.stk,ok.exf,ok.bs,ok.bsz,ok.noex,ok.exfs,ok.funs,ok.frf⟩
theorem Cx.Ok.unwish {X:Cx} {E:Value→Shared→Prop} (ok:(X.wish E).Ok):X.Ok :=
  ⟨ok.mod,ok.kind,ok.glob,ok.blt,ok.above,ok.inj,ok.has,ok.cab,ok.hd,ok.frames,ok.stk,ok.exf,ok.bs,ok.bsz,ok.noex,ok.exfs,ok.funs,ok.frf⟩
section
variable {X:Cx} {pins:List (Addr × Obj)} {σ:St} {H:Hp} {s:Shared} {E:Value→Shared→Prop}
theorem Inv.wish (I:Inv X pins σ H s) (E:Value→Shared→Prop):Inv (X.wish E) pins σ H s:=⟨I.ok.wish E,I.os,I.bare,I.base,I.loc,I.cell,I.free,I.freeC,I.pin,I.hok,I.len⟩
theorem Inv.unwish (I:Inv (X.wish E) pins σ H s):Inv X pins σ H s:=⟨I.ok.unwish,I.os,I.bare,I.base,I.loc,I.cell,I.free,I.freeC,I.pin,I.hok,I.len⟩
theorem SP.unwish {D:Ends} {f:Flow} {s':Shared} (h:SP (X.wish E) pins D f s'):SP X pins D f s':=by
  cases f with
  | next=>obtain ⟨σ',H',I,q⟩:=h; exact ⟨σ',H',I.unwish,q⟩
  | brk=>obtain ⟨σ',H',I,q⟩:=h; exact ⟨σ',H',I.unwish,q⟩
  | cont=>obtain ⟨σ',H',I,q⟩:=h; exact ⟨σ',H',I.unwish,q⟩
  | ret u=>obtain ⟨v,σ',H',I,r,q⟩:=h; exact ⟨v,σ',H',I.unwish,r,q⟩
theorem PE.nox {e:Expr} {t:TE} (h:PE X.nox e t):PE X e t:=fun pins s σ H Q I hw =>
  wpAny_mono (h pins s σ H Q (I.wish _) hw) (fun _ _ ⟨v,H',I',r,q⟩=>⟨v,H',I'.unwish,r,q⟩) fun _ _ z=>False.elim z
theorem PT.nox {e:Expr} {t:TT} (h:PT X.nox e t):PT X e t:=fun pins s σ H Q I hw =>
  wpAny_mono (h pins s σ H Q (I.wish _) hw) (fun _ _ ⟨H',I',q⟩=>⟨H',I'.unwish,q⟩) fun _ _ z=>False.elim z
theorem PSs.nox {st:List Stmt} {t:TS} (h:PSs X.nox st t):PSs X st t:=fun pins s σ H D I hw =>
  wpAny_mono (h pins s σ H D (I.wish _) hw) (fun _ _ q=>q.unwish) fun _ _ z=>False.elim z
end
section
variable {X:Cx} {st:Stmt} {rest:List Stmt} {t u:TS} {e:Expr} {te:TE} {pos:Pos}
def tNext:TS:=fun D σ H=>D.nx σ H
def tSeq (t u:TS):TS:=fun D σ H=>t { D with nx:=u D } σ H
theorem pss_nil:PSs X [] tNext:=fun _ _ σ H _ I h=>wpAny_execs_nil ⟨σ,H,I,h⟩
theorem pss_cons (h1:PS X st t) (h2:PSs X rest u):PSs X (st :: rest) (tSeq t u):=by
  intro pins s σ H D I h
  refine wpAny_execs_cons (thn (h1 pins s σ H { D with nx:=u D } I h) fun f s1 q=>?_)
  cases f with
  | next =>
    obtain ⟨σ',H',I',q⟩:=q
    exact h2 pins s1 σ' H' D I' q
  | ret v=>exact q
  | brk=>exact q
  | cont=>exact q
theorem pss_one (h1:PS X st t):PSs X [st] t:=by
  intro pins s σ H D I h
  refine wpAny_execs_cons (thn (h1 pins s σ H D I h) fun f s1 q=>?_)
  cases f with
  | next=>exact wpAny_execs_nil q
  | ret v=>exact q
  | brk=>exact q
  | cont=>exact q
theorem Inv.quiet {pins:List (Addr × Obj)} {σ:St} {H:Hp} {s:Shared} (I:Inv X pins σ H s):interactive X.env = false:=by simp [interactive,I.ok.kind]
def tDrop (te:TE):TS:=fun D σ H=>te σ H fun _ H1=>D.nx σ H1
theorem ps_expr (he:PE X e te) (hs:swapsWith e none pos.line X.env = pure false:=by rfl):PS X (.Expr e pos) (tDrop te):=by
  intro pins s σ H D I h
  exact wpAny_Expr_any (thn (he pins s σ H _ I h) fun v s1 ⟨x,H1,I1,r1,q1⟩=>⟨σ,H1,I1,q1⟩) I.quiet hs
def tRet (te:TE):TS:=fun D σ H=>te σ H D.rt
theorem ps_ret (he:PE X e te):PS X (.Return (some e) pos) (tRet te):=by
  intro pins s σ H D I h
  exact wpAny_Return_some (thn (he pins s σ H _ I h) fun v s1 ⟨x,H1,I1,r1,q1⟩=>⟨x,σ,H1,I1,r1,q1⟩)
def tIfS (c:TT) (t u:TS):TS:=fun D σ H=>c σ H fun b H1=>if b = true then t D σ H1 else u D σ H1
theorem ps_if {c:Expr} {a b:List Stmt} {tc:TT} (hc:PT X c tc) (ha:PSs X a t) (hb:PSs X b u):PS X (.If c a b pos) (tIfS tc t u):=by
  intro pins s σ H D I h
  refine wpAny_If (thn (hc pins s σ H _ I h) fun d s1 ⟨H1,I1,q1⟩=>?_)
  cases d with
  | true=>exact ha pins s1 σ H1 D I1 q1
  | false=>exact hb pins s1 σ H1 D I1 q1
def tNever:TS:=fun _ _ _=>False
theorem pss_never {sts:List Stmt}:PSs X sts tNever:=fun _ _ _ _ _ _ h=>h.elim
end
abbrev TG:=V→St→Hp→(St→Hp→Prop)→Prop
abbrev TGs:=List V→St→Hp→(St→Hp→Prop)→Prop
def PG (X:Cx) (target:Expr) (t:TG):Prop :=
  ∀ (pins:List (Addr × Obj)) (s:Shared) (σ:St) (H:Hp) (v:V) (u:Value) (Q:St→Hp→Prop),Inv X pins σ H s→RelV v u→t v σ H Q →
    wpAny (model X.prog X.w) X.A (assign target X.env u) (fun _ s'=>∃ σ' H',Inv X pins σ' H' s'∧Q σ' H') X.xe s
def PGs (X:Cx) (ts:List Expr) (t:TGs):Prop :=
  ∀ (pins:List (Addr × Obj)) (s:Shared) (σ:St) (H:Hp) (vs:List V) (us:List Value) (Q:St→Hp→Prop),Inv X pins σ H s→Vals vs us→t vs σ H Q →
    wpAny (model X.prog X.w) X.A (assignInOrder ((assignEach ts X.env).map (·.2)) us) (fun _ s'=>∃ σ' H',Inv X pins σ' H' s'∧Q σ' H') X.xe s
abbrev TSet:=V→V→V→Hp→(Hp→Prop)→Prop
def PSet (X:Cx) (t:TSet):Prop :=
  ∀ (pins:List (Addr × Obj)) (s:Shared) (σ:St) (H:Hp) (o i v:V) (ov iv u:Value) (Q:Hp→Prop),Inv X pins σ H s→RelV o ov→RelV i iv→RelV v u→t o i v H Q →
    wpAny (model X.prog X.w) X.A (setItem ov iv u) (fun _ s'=>∃ H',Inv X pins σ H' s'∧Q H') X.xe s
section
variable {X:Cx} {pos:Pos}
def gName (i:Nat):TG:=fun v σ H Q=>Q (σ.set i (some v)) H
theorem pg_name {i:Nat} {x:Str} (hN:X.N.Nodup) (hi:X.N[i]? = some x) (hx:Loc X.env.scope x) (hf:X.fn x = true∨X.env.scope.names.lookup x = some .local:=by first | exact .inl rfl | exact .inr rfl | assumption):PG X (.Name x pos) (gName i):=by
  intro pins s σ H v u Q I r h
  exact wpAny_assign_Name (store_ok I hN hi hx r (fun s' I'=>⟨_,H,I',h⟩) hf)
def gNil:TGs:=fun vs σ H Q=>vs = []∧Q σ H
def gCons (t:TG) (u:TGs):TGs:=fun vs σ H Q=>∃ v r,vs = v :: r∧t v σ H fun σ' H'=>u r σ' H' Q
theorem pgs_nil:PGs X [] gNil:=by
  intro pins s σ H vs us Q I r h
  obtain ⟨e,h⟩:=h
  subst e
  cases r
  exact assignInOrder_nil ⟨σ,H,I,h⟩
theorem pgs_cons {e:Expr} {es:List Expr} {t:TG} {u:TGs} (h1:PG X e t) (h2:PGs X es u)
    (hs:(assignEach (e :: es) X.env).map (·.2) = assign e X.env :: (assignEach es X.env).map (·.2):=by rfl):PGs X (e :: es) (gCons t u):=by
  intro pins s σ H vs us Q I r h
  obtain ⟨v,vr,e1,h⟩:=h
  subst e1
  cases r with
  | cons r rr =>
    rw [hs]
    refine assignInOrder_cons (thn (h1 pins s σ H _ _ _ I r h) fun _ s1 ⟨σ1,H1,I1,q1⟩=>?_)
    exact h2 pins s1 σ1 H1 _ _ Q I1 rr q1
def gTup (K:PySem.W.Frag) (n:Nat) (t:TGs):TG:=fun v σ H Q=>∃ a xs,v = .ref a∧SqT K H a xs∧xs.length = n∧t xs σ H Q
theorem pg_tup {es:List Expr} {k:Nat} {t:TGs} {n:Nat} (hc:X.calm = true) (h:PGs X es t)
    (hn:(assignEach es X.env).length = n:=by rfl) (hst:(assignEach es X.env).findIdx? (·.1) = none:=by rfl):PG X (.Tuple es k pos) (gTup X.K n t):=by
  intro pins s σ H v u Q I r hw
  obtain ⟨a,xs,e1,hq,hl,hw⟩:=hw
  subst e1
  cases r
  obtain ⟨its,rv,ht,hz⟩:=I.tuple hq
  refine assign_Tuple_tuple (I.ok.hd hc) ht (by simp [hn,← hl,rv.length]) hst fun h' hx=>?_
  have I1:Inv X pins σ H { s with heap:=h' }:=I.kept (t':=s.toks) fun b o e=>hx b o (Nat.ne_of_lt (Heap.lt_size e)) e
  exact h pins _ σ H xs _ Q I1 (by simpa using rv) hw
def gSub (to ti:TE) (t:TSet):TG:=fun v σ H Q=>to σ H fun o H1=>ti σ H1 fun i H2=>t o i v H2 fun H3=>Q σ H3
theorem pg_sub {o i:Expr} {to ti:TE} {t:TSet} (ho:PE X o to) (hi:PE X i ti) (hs:PSet X t)
    (ha:∀ v,assign (.Subscript o i pos) X.env v = (do
      let ov ← holding [v] (eval o X.env)
      let iv ← holding [v,ov] (eval i X.env)
      standAt pos
      holding [v,ov,iv] (setItem ov iv v)
      release [v,ov,iv] []):=by intro _; rfl):PG X (.Subscript o i pos) (gSub to ti t):=by
  intro pins s σ H v u Q I r h
  rw [ha]
  refine wpAny_bind (wpAny_holding (thn (ho pins s σ H _ I h) fun ov s1 ⟨x,H1,I1,r1,q1⟩=>?_))
  refine wpAny_bind (wpAny_holding (thn (hi pins s1 σ H1 _ I1 q1) fun iv s2 ⟨y,H2,I2,r2,q2⟩=>?_))
  refine wpAny_bind (wpAny_standAt (wpAny_bind (wpAny_holding (thn (hs pins s2 σ H2 x y v ov iv u _ I2 r1 r2 r q2) fun _ s3 ⟨H3,I3,q3⟩=>?_))))
  exact wpAny_release ⟨σ,H3,I3,q3⟩
def tAsg (te:TE) (g:TG):TS:=fun D σ H=>te σ H fun x H1=>g x σ H1 D.nx
theorem ps_asg {tg e:Expr} {te:TE} {g:TG} (he:PE X e te) (hg:PG X tg g) (hs:swapsWithSole [tg] e pos.line X.env = pure false:=by rfl) (hw:swappedStores [tg] e X.env = pure none:=by rfl)
    (h1:(assignEach [tg] X.env).map (·.2) = [assign tg X.env]:=by rfl):PS X (.Assign [tg] e pos) (tAsg te g):=by
  intro pins s σ H D I h
  refine wpAny_Assign_stores (thn (he pins s σ H _ I h) fun v s1 ⟨x,H1,I1,r1,q1⟩=>?_) hs hw
  rw [h1]
  exact thn (hg pins s1 σ H1 x v _ I1 r1 q1) fun _ s2 q=>q
theorem ps_set {i:Nat} {x:Str} {e:Expr} {te:TE} {pos':Pos} (hN:X.N.Nodup) (hi:X.N[i]? = some x) (hx:Loc X.env.scope x) (he:PE X e te) (hs:swapsWith e (some (.Name x pos')) pos.line X.env = pure false:=by rfl) (hf:X.fn x = true∨X.env.scope.names.lookup x = some .local:=by first | exact .inl rfl | exact .inr rfl | assumption) :
    PS X (.Assign [.Name x pos'] e pos) (tAsg te (gName i)):=by
  intro pins s σ H D I h
  refine wpAny_Assign_Name (thn (he pins s σ H _ I h) fun v s1 ⟨y,H1,I1,r1,q1⟩=>?_) hs
  exact store_ok I1 hN hi hx r1 (fun s2 I2=>⟨_,H1,I2,q1⟩) hf
def tPar (i j:Nat) (ta:TA):TS:=fun D σ H=>ta σ H fun vs H1=>∃ v w,vs = [v,w]∧D.nx ((σ.set i (some v)).set j (some w)) H1
theorem ps_par {i j:Nat} {x y:Str} {a b:Expr} {ta:TA} {px py pt:Pos} {kt k2 pt2} (hc:X.calm = true) (hN:X.N.Nodup) (hi:X.N[i]? = some x) (hj:X.N[j]? = some y) (hij:i≠j)
    (hx:X.env.scope.names.lookup x = some .local) (hy:X.env.scope.names.lookup y = some .local) (ha:PA X [a,b] ta)
    (hw:swappedStores [.Tuple [.Name x px,.Name y py] kt pt] (.Tuple [a,b] k2 pt2) X.env = pure (some [x,y]))
    (hs:swapsWithSole [.Tuple [.Name x px,.Name y py] kt pt] (.Tuple [a,b] k2 pt2) pos.line X.env = pure false:=by rfl) :
    PS X (.Assign [.Tuple [.Name x px,.Name y py] kt pt] (.Tuple [a,b] k2 pt2) pos) (tPar i j ta):=by
  intro pins s σ H D I h
  rw [exec_Assign_arm]
  refine wpAny_bind (wpAny_standAt ?_)
  rw [hs]
  refine wpAny_bind (wpAny_pure ?_)
  rw [if_neg (by decide)]
  refine wpAny_bind (Tuple_ (thn (ha _ pins s σ H _ I h) fun us s1 ⟨vs,H1,I1,r1,q1⟩=>?_))
  obtain ⟨v,w,e1,q1⟩:=q1
  subst e1
  obtain ⟨u1,u2,rfl,rv,rw'⟩:∃ u1 u2,us = [u1,u2]∧RelV v u1∧RelV w u2:=by
    cases r1 with
    | cons p q =>
      cases q with
      | cons p' q' =>
        cases q'
        exact ⟨_,_,rfl,p,p'⟩
  refine wpAny_newObj_type ?_ (by show 2≤sizeLine; decide)
  have I2:Inv X pins σ H1 { s1 with heap:=s1.heap.push { cls:=.type "tuple",data:=.seq [u1,u2].toArray } }:=I1.kept (t':=s1.toks) fun b o e=>Heap.get?_push_of_some _ e
  rw [hw]
  refine wpAny_bind (wpAny_pure ?_)
  show wpAny (model X.prog X.w) X.A (do rule "assign.swapped-stores"; let items ← unpackItems (.ref s1.heap.objs.size) 2 none; assignInOrder [fun v=>bindName X.env y v,fun v=>bindName X.env x v] items.reverse; pure Flow.next) _ _ _
  refine wpAny_bind (wpAny_rule (wpAny_bind (unpackItems_tuple (items:=#[u1,u2]) (I.ok.hd hc) (IsTup.new s1.heap _) fun h' hx'=>?_)))
  have I3:=I2.kept (h':=h') (t':=s1.toks) fun b o e=>hx' b o (Nat.ne_of_lt (Heap.lt_size e)) e
  show wpAny _ _ (assignInOrder [fun v=>bindName X.env y v,fun v=>bindName X.env x v] [u2,u1] >>= fun _=>pure Flow.next) _ _ _
  refine wpAny_bind (assignInOrder_cons (wpAny_bindName (store_ok I3 hN hj (.inl hy) rw' (fun s2 I4=>?_) (.inr hy))))
  refine assignInOrder_cons (wpAny_bindName (store_ok I4 hN hi (.inl hx) rv (fun s3 I5=>assignInOrder_nil (wpAny_pure ?_)) (.inr hx)))
  rw [List.set_comm _ _ (Ne.symm hij)] at I5
  exact ⟨_,H1,I5,q1⟩
end
section
variable {X:Cx} {pos:Pos}
def tWhile (c:TT) (tb:TS):TS:=fun D σ H=>∃ W:Nat→St→Hp→Prop,(∃ m,W m σ H)∧∀ m σ H,W m σ H →
  c σ H fun b H1=>if b = true then ∃ N:St→Hp→Prop,(∀ σ' H',N σ' H'→∃ m',m' < m∧W m' σ' H')∧tb { D with nx:=N,ct:=N,bk:=D.nx } σ H1 else D.nx σ H1
theorem ps_while {c:Expr} {body:List Stmt} {tc:TT} {tb:TS} (hp:PassesOwn (model X.prog X.w) X.A X.env X.xe) (hc:PT X c tc) (hb:PSs X body tb):PS X (.While c body [] pos) (tWhile tc tb):=by
  intro pins s σ H D I h
  obtain ⟨W,⟨m0,w0⟩,turn⟩:=h
  refine wpAny_While (codeAny_whileLoop (fun n s'=>∃ σ' H',Inv X pins σ' H' s'∧W n σ' H') ?_ m0 ⟨σ,H,I,w0⟩)
  rintro n s1 ⟨σ1,H1,I1,w1⟩
  refine wpAny_passesOwn hp (thn (hc pins s1 σ1 H1 _ I1 (turn n σ1 H1 w1)) fun b s2 ⟨H2,I2,q2⟩=>?_)
  cases b with
  | true =>
    obtain ⟨N,hN,q2⟩:=q2
    rw [if_pos rfl]
    refine wpAny_passesOwn hp (thn (hb pins s2 σ1 H2 _ I2 q2) fun f s3 q3=>?_)
    cases f with
    | next =>
      obtain ⟨σ3,H3,I3,n3⟩:=q3
      obtain ⟨m',hm,w3⟩:=hN σ3 H3 n3
      exact ⟨m',hm,σ3,H3,I3,w3⟩
    | cont =>
      obtain ⟨σ3,H3,I3,n3⟩:=q3
      obtain ⟨m',hm,w3⟩:=hN σ3 H3 n3
      exact ⟨m',hm,σ3,H3,I3,w3⟩
    | brk=>exact q3
    | ret v=>exact q3
  | false =>
    rw [if_neg Bool.false_ne_true]
    exact wpAny_execs_nil ⟨σ1,H2,I2,q2⟩
end
structure It where
  go:Nat→Hp→Prop
  yld:Nat→Hp→V→Hp→Prop
  stop:Nat→Hp→Prop
def FpOk (X:Cx) (pins:List (Addr × Obj)) (H:Hp) (b:Addr):Prop :=
  H b = none∧b≠X.env.locals∧b ∉ X.fs∧(b∈X.ex∨X.s₀.heap.objs.size≤b)∧(∀ x c,X.env.cells.lookup x = some c→c≠b)∧∀ p∈X.pn ++ pins,p.1≠b
theorem Inv.fpOk {X:Cx} {pins:List (Addr × Obj)} {σ:St} {H H':Hp} {s:Shared} {b:Addr} (I:Inv X pins σ H s) (hb:s.heap.objs.size≤b) (hn:H' b = none):FpOk X pins H' b:=by
  refine ⟨hn,Nat.ne_of_gt (Nat.lt_of_lt_of_le I.lt hb),I.nofs hb,.inr (Nat.le_trans I.sz hb),fun x c e z=>?_,fun p hp z=>?_⟩
  · obtain ⟨v,q⟩:=I.cell x c e
    exact absurd (Nat.lt_of_lt_of_le q.lt (by rw [z]; exact hb)) (Nat.lt_irrefl _)
  · exact absurd (Nat.lt_of_lt_of_le (Heap.lt_size (I.pin p hp).1) (by rw [z]; exact hb)) (Nat.lt_irrefl _)
structure Turn (P:Program) (w:World) (K:PySem.W.Frag) (tg:Expr) (J:It) (fp:List Addr) (it:Addr) (tn:Nat→Heap→Prop):Prop where
  mem:it∈fp
  obj:∀ i h,tn i h→∀ b∈fp,∃ o,h.get? b = some o∧∀ v,o.data≠.cell v
  keep:∀ i h h',tn i h→(∀ b∈fp,∀ o,h.get? b = some o→h'.get? b = some o)→tn i h'
  item:∀ (X:Cx),X.prog = P→X.w = w→X.K = K→X.calm = true→∀ (i:Nat) (pins:List (Addr × Obj)) (s:Shared) (σ:St) (H:Hp) (E:Value→Shared→Prop),Inv X pins σ H s→(∀ b∈fp,FpOk X pins H b)→tn i s.heap→J.go i H →
    wpAny (model P w) X.A (pyNext (.ref it)) (fun r s1=>∃ u,r = some u ∧
      wpAny (model P w) X.A (letOwnedTupleGo tg (.ref it) u) (fun _ s2=>∃ x H',Inv X pins σ H' s2∧RelV x u∧J.yld i H x H'∧tn (i + 1) s2.heap∧∀ b∈fp,H' b = none) E s1) E s
  done:∀ (X:Cx),X.prog = P→X.w = w→X.K = K→X.calm = true→∀ (i:Nat) (pins:List (Addr × Obj)) (s:Shared) (σ:St) (H:Hp) (E:Value→Shared→Prop),Inv X pins σ H s→(∀ b∈fp,FpOk X pins H b)→tn i s.heap→J.stop i H →
    wpAny (model P w) X.A (pyNext (.ref it)) (fun r s1=>r = none∧Inv X pins σ H s1) E s
  self:∀ (A:Around) (i:Nat) (s:Shared) (Q:Value→Shared→Prop) (E:Value→Shared→Prop),tn i s.heap→Q (.ref it) s→wpAny (model P w) A (pyIter (.ref it)) Q E s
abbrev TI:=St→Hp→(It→Hp→Prop)→Prop
def PIE (X:Cx) (pins:List (Addr × Obj)) (σ:St) (tg:Expr) (R:It→Hp→Prop) (itv:Value) (s2:Shared):Prop :=
  ∃ (it:Addr) (fp:List Addr) (tn:Nat→Heap→Prop) (J:It) (H':Hp),itv = .ref it∧Inv X pins σ H' s2∧Turn X.prog X.w X.K tg J fp it tn∧tn 0 s2.heap∧(∀ b∈fp,FpOk X pins H' b)∧R J H'
def PI (X:Cx) (tg iter:Expr) (wi:TI):Prop :=
  ∀ (pins:List (Addr × Obj)) (s:Shared) (σ:St) (H:Hp) (R:It→Hp→Prop),Inv X pins σ H s→wi σ H R →
    wpAny (model X.prog X.w) X.A (eval iter X.env) (fun v s1=>wpAny (model X.prog X.w) X.A (pyIter v) (PIE X pins σ tg R) X.xe s1) X.xe s
theorem go_of {M:Model} {A:Around} {E:Value→Shared→Prop} {s:Shared} {tg:Expr} {it:Addr} {u:Value} {o:Obj} {n:String} {vs:Array Value} {Q:Unit→Shared→Prop} (ho:s.heap.get? it = some o) (hc:o.cls = .type n) (hd:o.data = .fields vs)
    (hn:["enumerate","zip","dict_itemiterator","dict_reverseitemiterator","odict_iterator","itertools.zip_longest","itertools.pairwise"].contains n = false) (hQ:Q () s):wpAny M A (letOwnedTupleGo tg (.ref it) u) Q E s:=by
  unfold letOwnedTupleGo
  cases tg <;> first
    | exact wpAny_pure hQ
    | (cases u <;> first
        | exact wpAny_pure hQ
        | (refine wpAny_bind (wpAny_load ho ?_)
           rw [hc,hd]
           show wpAny M A (if (["enumerate","zip","dict_itemiterator","dict_reverseitemiterator","odict_iterator","itertools.zip_longest","itertools.pairwise"].contains n && vs[0]? == some (rawInt _)) = true then _ else _) Q E s
           rw [if_neg (by intro h; rw [hn,Bool.false_and] at h; cases h)]
           exact wpAny_pure hQ))
def Itl (K:PySem.W.Frag) (a:Addr):It :=
  ⟨fun i H=>∃ xs x,SqL K H a xs∧xs[i]? = some x,fun i H x H'=>H' = H∧∀ xs,SqL K H a xs→xs[i]? = some x,fun i H=>∃ xs,SqL K H a xs∧xs.length≤i⟩
def Itt (K:PySem.W.Frag) (a:Addr):It :=
  ⟨fun i H=>∃ xs x,SqT K H a xs∧xs[i]? = some x,fun i H x H'=>H' = H∧∀ xs,SqT K H a xs→xs[i]? = some x,fun i H=>∃ xs,SqT K H a xs∧xs.length≤i⟩
def Itr (lo:Int) (n:Nat):It:=⟨fun i _=>i < n,fun i H x H'=>H' = H∧x = .int (lo + i),fun i _=>n≤i⟩
theorem turn_list {P:Program} {w:World} {K:PySem.W.Frag} {tg:Expr} (a it:Addr):Turn P w K tg (Itl K a) [it] it (fun i h=>h.IsListIter it a i) where
  mem:=by simp
  obj:=fun i h st b hb=>by
    have e:b = it:=by simpa using hb
    subst e
    obtain ⟨o,e,c,d⟩:=st
    exact ⟨o,e,fun v z=>by rw [d] at z; cases z⟩
  keep:=fun i h h' st k=>st.at fun o e=>k it (by simp) o e
  item:=by
    intro X hP hw hK hc i pins s σ H E I hf st hg
    subst hP hw hK
    obtain ⟨xs,x,hq,hx⟩:=hg
    obtain ⟨its,rv,p,hz⟩:=I.list hq
    obtain ⟨u,hu,ru⟩:=rv.get hx
    obtain ⟨f0,f1,f2,f3,f4,f5⟩:=hf it (by simp)
    refine wpAny_pyNext_list_item st p.isList (x:=u) (by simpa using hu) fun h' st' sb=>?_
    have I1:Inv X pins σ H { s with heap:=h' }:=I.turned (t':=s.toks) (fun b o hb e=>(sb.2 b hb).trans e) f0 f1 f3 f4 f5
    obtain ⟨o,e,c,d⟩:=id st'
    exact ⟨u,rfl,go_of (s:={ s with heap:=h' }) e c d (by decide) ⟨x,H,I1,ru,⟨rfl,fun ys hy=>by rw [I.list_inj hy hq]; exact hx⟩,st',fun b hb=>(hf b hb).1⟩⟩
  done:=by
    intro X hP hw hK hc i pins s σ H E I hf st hg
    subst hP hw hK
    obtain ⟨xs,hq,hx⟩:=hg
    obtain ⟨its,rv,p,hz⟩:=I.list hq
    obtain ⟨f0,f1,f2,f3,f4,f5⟩:=hf it (by simp)
    have hl:=rv.length
    exact wpAny_pyNext_list_end (I.ok.hd hc) st p.isList (by simp; omega) fun h' eb=>⟨rfl,I.turned (t':=s.toks) (fun b o hb e=>eb b o hb e) f0 f1 f3 f4 f5⟩
  self:=fun _ _ _ _ _ st h=>wpAny_pyIter_listiter st h
theorem turn_tuple {P:Program} {w:World} {K:PySem.W.Frag} {tg:Expr} (a it:Addr):Turn P w K tg (Itt K a) [it] it (fun i h=>h.IsTupleIter it a i) where
  mem:=by simp
  obj:=fun i h st b hb=>by
    have e:b = it:=by simpa using hb
    subst e
    obtain ⟨o,e,c,d⟩:=st
    exact ⟨o,e,fun v z=>by rw [d] at z; cases z⟩
  keep:=fun i h h' st k=>st.at fun o e=>k it (by simp) o e
  item:=by
    intro X hP hw hK hc i pins s σ H E I hf st hg
    subst hP hw hK
    obtain ⟨xs,x,hq,hx⟩:=hg
    obtain ⟨its,rv,p,hz⟩:=I.tuple hq
    obtain ⟨u,hu,ru⟩:=rv.get hx
    obtain ⟨f0,f1,f2,f3,f4,f5⟩:=hf it (by simp)
    refine wpAny_pyNext_tuple_item st (show s.heap.IsTuple a its.toArray from p) (x:=u) (by simpa using hu) fun h' st' sb=>?_
    have I1:Inv X pins σ H { s with heap:=h' }:=I.turned (t':=s.toks) (fun b o hb e=>(sb.2 b hb).trans e) f0 f1 f3 f4 f5
    obtain ⟨o,e,c,d⟩:=id st'
    exact ⟨u,rfl,go_of (s:={ s with heap:=h' }) e c d (by decide) ⟨x,H,I1,ru,⟨rfl,fun ys hy=>by rw [I.tuple_inj hy hq]; exact hx⟩,st',fun b hb=>(hf b hb).1⟩⟩
  done:=by
    intro X hP hw hK hc i pins s σ H E I hf st hg
    subst hP hw hK
    obtain ⟨xs,hq,hx⟩:=hg
    obtain ⟨its,rv,p,hz⟩:=I.tuple hq
    obtain ⟨f0,f1,f2,f3,f4,f5⟩:=hf it (by simp)
    have hl:=rv.length
    exact wpAny_pyNext_tuple_end (I.ok.hd hc) st (show s.heap.IsTuple a its.toArray from p) (by simp; omega) fun h' eb=>⟨rfl,I.turned (t':=s.toks) (fun b o hb e=>eb b o hb e) f0 f1 f3 f4 f5⟩
  self:=fun _ _ _ _ _ st h=>wpAny_pyIter_tupleiter st h
theorem turn_range {P:Program} {w:World} {K:PySem.W.Frag} {tg:Expr} (it:Addr) (lo:Int) (n:Nat):Turn P w K tg (Itr lo n) [it] it (fun i h=>IsRangeIter h it (lo + (i:Nat) * 1) ((n:Int) - (i:Nat)) 1) where
  mem:=by simp
  obj:=fun i h st b hb=>by
    have e:b = it:=by simpa using hb
    subst e
    exact ⟨_,st,fun v z=>by
      have z':Data.fields _ = Data.cell v:=z
      cases z'⟩
  keep:=fun i h h' st k=>k it (by simp) _ st
  item:=by
    intro X hP hw hK hc i pins s σ H E I hf st hg
    subst hP hw hK
    obtain ⟨f0,f1,f2,f3,f4,f5⟩:=hf it (by simp)
    have W:=Walks.range (prog:=X.prog) (w:=X.w) (I.ok.hd hc) it lo 1 n
    refine W.item i s _ _ hg st fun v h' tk hv st' kk=>?_
    obtain ⟨t,rfl⟩:=hv
    have I1:Inv X pins σ H { s with heap:=h',toks:=tk }:=I.turned (fun b o hb e=>kk b o (by simpa using hb) e) f0 f1 f3 f4 f5
    refine ⟨_,rfl,go_of (s:={ s with heap:=h',toks:=tk }) (n:="range_iterator") st' rfl rfl (by decide) ⟨.int (lo + i),H,I1,⟨t,?_⟩,⟨rfl,rfl⟩,st',fun b hb=>(hf b hb).1⟩⟩
    rw [Int.mul_one]
  done:=by
    intro X hP hw hK hc i pins s σ H E I hf st hg
    subst hP hw hK
    obtain ⟨f0,f1,f2,f3,f4,f5⟩:=hf it (by simp)
    exact wpAny_pyNext_range_end (I.ok.hd hc) st (by have:n≤i:=hg; omega) fun h' eb=>⟨rfl,I.turned (t':=s.toks) (fun b o hb e=>eb b o hb e) f0 f1 f3 f4 f5⟩
  self:=fun _ _ _ _ _ st h=>wpAny_pyIter_rangeiter st h
end L2
namespace L2
open PySem PySem.Spec PyProof.Rows
section
variable {X:Cx} {tg:Expr}
def iList (K:PySem.W.Frag) (tl:TE):TI:=fun σ H R=>tl σ H fun x H1=>∃ a,x = .ref a∧(∃ xs,SqL K H1 a xs)∧R (Itl K a) H1
def iTup (K:PySem.W.Frag) (tl:TE):TI:=fun σ H R=>tl σ H fun x H1=>∃ a,x = .ref a∧(∃ xs,SqT K H1 a xs)∧R (Itt K a) H1
theorem pi_list {l:Expr} {tl:TE} (hl:PE X l tl):PI X tg l (iList X.K tl):=by
  intro pins s σ H R I h
  refine thn (hl pins s σ H _ I h) fun v s1 ⟨x,H1,I1,r1,q1⟩=>?_
  obtain ⟨a,e,⟨xs,hq⟩,q⟩:=q1
  subst e
  cases r1
  obtain ⟨its,rv,p,hz⟩:=I1.list hq
  refine wpAny_pyIter_list p.isList ?_
  refine ⟨s1.heap.objs.size,[s1.heap.objs.size],_,_,H1,rfl,I1.kept (t':=s1.toks) fun b o e=>Heap.get?_push_of_some _ e,turn_list a _,⟨_,Heap.get?_push_size _ rfl,rfl,rfl⟩,fun b hb=>?_,q⟩
  have e:b = s1.heap.objs.size:=by simpa using hb
  subst e
  exact I1.fpOk (Nat.le_refl _) (I1.hok.fresh (Nat.le_refl _))
theorem pi_tup {l:Expr} {tl:TE} (hl:PE X l tl):PI X tg l (iTup X.K tl):=by
  intro pins s σ H R I h
  refine thn (hl pins s σ H _ I h) fun v s1 ⟨x,H1,I1,r1,q1⟩=>?_
  obtain ⟨a,e,⟨xs,hq⟩,q⟩:=q1
  subst e
  cases r1
  obtain ⟨its,rv,p,hz⟩:=I1.tuple hq
  refine wpAny_pyIter_tuple (show s1.heap.IsTuple a its.toArray from p) ?_
  refine ⟨s1.heap.objs.size,[s1.heap.objs.size],_,_,H1,rfl,I1.kept (t':=s1.toks) fun b o e=>Heap.get?_push_of_some _ e,turn_tuple a _,⟨_,Heap.get?_push_size _ rfl,rfl,rfl⟩,fun b hb=>?_,q⟩
  have e:b = s1.heap.objs.size:=by simpa using hb
  subst e
  exact I1.fpOk (Nat.le_refl _) (I1.hok.fresh (Nat.le_refl _))
theorem range_it {pins:List (Addr × Obj)} {σ:St} {H:Hp} {s:Shared} {R:It→Hp→Prop} {E:Value→Shared→Prop} {lo hi:Int} {t u v:Tok} {tk:Nat} (I:Inv X pins σ H s) (h1:-(2 ^ 62)≤lo) (h2:lo < 2 ^ 62) (h3:-(2 ^ 62)≤hi) (h4:hi < 2 ^ 62)
    (q:R (Itr lo (hi - lo).toNat) H):wpAny (model X.prog X.w) X.A (pyIter (.ref s.heap.objs.size)) (PIE X pins σ tg R) E { s with heap:=s.heap.push { cls:=.type "range",data:=.fields #[.int lo t,.int hi u,.int 1 v] },toks:=tk }:=by
  refine wpAny_pyIter_range (IsRange.new ..) (small_one h1 h2 h3 h4) ?_
  have I1:Inv X pins σ H { s with heap:=s.heap.push { cls:=.type "range",data:=.fields #[.int lo t,.int hi u,.int 1 v] },toks:=tk }:=I.kept fun b o e=>Heap.get?_push_of_some _ e
  refine ⟨(s.heap.push { cls:=.type "range",data:=.fields #[.int lo t,.int hi u,.int 1 v] }).objs.size,[(s.heap.push { cls:=.type "range",data:=.fields #[.int lo t,.int hi u,.int 1 v] }).objs.size],_,_,H,rfl,
    I1.kept (t':=tk) fun b o e=>Heap.get?_push_of_some _ e,turn_range _ lo (hi - lo).toNat,?_,fun b hb=>?_,q⟩
  · have e1:lo + ((0:Nat):Int) * 1 = lo:=by simp
    have e2:(((hi - lo).toNat:Nat):Int) - ((0:Nat):Int) = Builtin.Range.rangeSize lo hi 1:=by rw [rangeSize_one]; split <;> omega
    show IsRangeIter _ _ (lo + ((0:Nat):Int) * 1) ((((hi - lo).toNat:Nat):Int) - ((0:Nat):Int)) 1
    rw [e1,e2]
    exact Heap.get?_push_size _ rfl
  · have e:b = (s.heap.push { cls:=.type "range",data:=.fields #[.int lo t,.int hi u,.int 1 v] }).objs.size:=by simpa using hb
    subst e
    exact I1.fpOk (Nat.le_refl _) (I1.hok.fresh (Nat.le_refl _))
def iRng1 (ta:TA):TI:=fun σ H R=>ta σ H fun vs H1=>∃ j:Int,vs = [.int j]∧-(2 ^ 62)≤j∧j < 2 ^ 62∧R (Itr 0 j.toNat) H1
theorem pi_range1 {a:Expr} {ta:TA} {p pos:Pos} (hg:Gl X "range") (hm:X.mg "range" = none) (ha:PA X [a] ta) (hs:starEach [a] X.env = [(false,eval a X.env)]:=by rfl):PI X tg (.Call (.Name "range" p) [a] [] pos) (iRng1 ta):=by
  intro pins s σ H R I h
  refine Call_ (ld_blt I hg hm boot_range (PyProof.Rows.callWith_type1 (thn (ha pos pins s σ H _ I h) fun us s1 ⟨vs,H1,I1,r1,q1⟩=>?_) hs rfl))
  obtain ⟨j,e,q1,q2,q⟩:=q1
  subst e
  cases r1 with
  | cons r rr =>
    cases rr
    obtain ⟨t,rfl⟩:=r
    exact call_range_1 (range_it I1 (by omega) (by omega) q1 q2 (by simpa using q))
def tFor (wi:TI) (g:TG) (tb:TS):TS:=fun D σ H=>wi σ H fun J H1=>∃ W:Nat→Nat→St→Hp→Prop,(∃ m,W 0 m σ H1)∧∀ i m σ H,W i m σ H →
  (J.stop i H∧D.nx σ H)∨(J.go i H∧∃ N:St→Hp→Prop,(∀ σ' H',N σ' H'→∃ m',m' < m∧W (i + 1) m' σ' H')∧∀ x H',J.yld i H x H'→g x σ H' fun σ2 H2=>tb { D with nx:=N,ct:=N,bk:=D.nx } σ2 H2)
def pinsAt (fp:List Addr) (h:Heap):List (Addr × Obj):=fp.filterMap fun b=>(h.get? b).map fun o=>(b,o)
theorem mem_pinsAt {fp:List Addr} {h:Heap} {b:Addr} {o:Obj} (hb:b∈fp) (e:h.get? b = some o):(b,o)∈pinsAt fp h:=List.mem_filterMap.mpr ⟨b,hb,by rw [e]; rfl⟩
theorem of_pinsAt {fp:List Addr} {h:Heap} {p:Addr × Obj} (hp:p∈pinsAt fp h):p.1∈fp∧h.get? p.1 = some p.2:=by
  obtain ⟨b,hb,e⟩:=List.mem_filterMap.mp hp
  cases q:h.get? b with
  | none=>rw [q] at e; cases e
  | some o =>
    rw [q] at e
    have e':(b,o) = p:=Option.some.inj e
    subst e'
    exact ⟨hb,q⟩
theorem Inv.pinned {pins:List (Addr × Obj)} {σ:St} {H:Hp} {s:Shared} {fp:List Addr} (I:Inv X pins σ H s) (hf:∀ b∈fp,FpOk X pins H b) (ho:∀ b∈fp,∃ o,s.heap.get? b = some o∧∀ v,o.data≠.cell v):Inv X (pins ++ pinsAt fp s.heap) σ H s :=
  I.pins_of fun p hp=>(List.mem_append.mp hp).elim (fun z=>I.pin p (List.mem_append_right _ z)) fun z=>by
    obtain ⟨hb,e⟩:=of_pinsAt z
    obtain ⟨f0,f1,f2,_⟩:=hf p.1 hb
    obtain ⟨o,e',d⟩:=ho p.1 hb
    rw [e] at e'; cases e'
    exact ⟨e,f0,f1,f2,d⟩
theorem Inv.unpinned {pins pl:List (Addr × Obj)} {σ:St} {H:Hp} {s:Shared} (I:Inv X (pins ++ pl) σ H s):Inv X pins σ H s:=I.pins_of fun p hp=>I.pin p (List.mem_append_right _ (List.mem_append_left _ hp))
theorem ps_for {iter:Expr} {body:List Stmt} {wi:TI} {g:TG} {tb:TS} {pos:Pos} (hp:PassesOwn (model X.prog X.w) X.A X.env X.xe) (hc:X.calm = true) (hi:PI X tg iter wi) (hg:PG X tg g) (hb:PSs X body tb)
    (hs:∀ x,foldedSetIterable iter X.env x = pure x:=by intro _; rfl):PS X (.For tg iter body [] pos) (tFor wi g tb):=by
  intro pins s σ H D I h
  refine wpAny_For (thn (hi pins s σ H _ I h) fun v s1 h1=>thn h1 fun itv s2 h2=>?_) hs
  obtain ⟨it,fp,tn,J,H2,e,I2,T,st2,f2,W,⟨m0,w0⟩,turn⟩:=h2
  subst e
  -- what stays true of the iterator's objects through the loop
  have stat:∀ {H':Hp},(∀ b∈fp,H' b = none)→∀ b∈fp,FpOk X pins H' b:=fun hn b hb=>⟨hn b hb,(f2 b hb).2⟩
  refine codeAny_forLoop_any (fun n s'=>∃ i σ' H',Inv X pins σ' H' s'∧tn i s'.heap∧(∀ b∈fp,H' b = none)∧W i n σ' H') ?_ m0 ⟨0,σ,H2,I2,st2,fun b hb=>(f2 b hb).1,w0⟩
  rintro n s3 ⟨i,σ3,H3,I3,st3,fr3,w3⟩
  rcases turn i n σ3 H3 w3 with ⟨stop,qn⟩ | ⟨go,N,hN,step⟩
  · refine wpAny_passesOwn hp (thn (T.done X rfl rfl rfl hc i pins s3 σ3 H3 X.xe I3 (stat fr3) st3 stop) fun r s4 ⟨hr,I4⟩=>?_)
    subst hr
    exact wpAny_execs_nil ⟨σ3,H3,I4,qn⟩
  · refine wpAny_passesOwn hp (thn (T.item X rfl rfl rfl hc i pins s3 σ3 H3 X.xe I3 (stat fr3) st3 go) fun r s4 ⟨u,hr,h4⟩=>?_)
    subst hr
    refine wpAny_passesOwn hp (thn h4 fun _ s5 ⟨x,H5,I5,r5,y5,st5,fr5⟩=>?_)
    have I5':=I5.pinned (stat fr5) (T.obj _ _ st5)
    refine wpAny_passesOwn hp (thn (hg _ s5 σ3 H5 x u _ I5' r5 (step x H5 y5)) fun _ s6 ⟨σ6,H6,I6,q6⟩=>?_)
    refine wpAny_passesOwn hp (thn (hb _ s6 σ6 H6 _ I6 q6) fun f s7 q7=>?_)
    have again:∀ {σ7:St} {H7:Hp},Inv X (pins ++ pinsAt fp s5.heap) σ7 H7 s7→N σ7 H7→∃ m,m < n∧∃ i σ' H',Inv X pins σ' H' s7∧tn i s7.heap∧(∀ b∈fp,H' b = none)∧W i m σ' H':=fun {σ7 H7} I7 n7=>by
      obtain ⟨m',hm,w7⟩:=hN σ7 H7 n7
      refine ⟨m',hm,i + 1,σ7,H7,I7.unpinned,T.keep _ _ _ st5 fun b hb o e=>(I7.pin (b,o) (List.mem_append_right _ (List.mem_append_right _ (mem_pinsAt hb e)))).1,fun b hb=>?_,w7⟩
      obtain ⟨o,e,d⟩:=T.obj _ _ st5 b hb
      exact (I7.pin (b,o) (List.mem_append_right _ (List.mem_append_right _ (mem_pinsAt hb e)))).2.1
    cases f with
    | next=>obtain ⟨σ7,H7,I7,n7⟩:=q7; exact again I7 n7
    | cont=>obtain ⟨σ7,H7,I7,n7⟩:=q7; exact again I7 n7
    | brk=>obtain ⟨σ7,H7,I7,q7⟩:=q7; exact ⟨σ7,H7,I7.unpinned,q7⟩
    | ret v=>obtain ⟨x7,σ7,H7,I7,r7,q7⟩:=q7; exact ⟨x7,σ7,H7,I7.unpinned,r7,q7⟩
end
theorem for_list {K:PySem.W.Frag} {a:Addr} {xs:List V} {g:TG} {tb:TS} {D:Ends} {σ:St} {H:Hp} (Pv:Nat→St→Hp→Prop) (h0:Pv 0 σ H) (hl:∀ i σ H,i≤xs.length→Pv i σ H→SqL K H a xs)
    (hs:∀ i x σ H,xs[i]? = some x→Pv i σ H→g x σ H fun σ2 H2=>tb { D with nx:=Pv (i + 1),ct:=Pv (i + 1),bk:=D.nx } σ2 H2) (hd:∀ σ H,Pv xs.length σ H→D.nx σ H) :
    ∃ W:Nat→Nat→St→Hp→Prop,(∃ m,W 0 m σ H)∧∀ i m σ H,W i m σ H →
      ((Itl K a).stop i H∧D.nx σ H)∨((Itl K a).go i H∧∃ N:St→Hp→Prop,(∀ σ' H',N σ' H'→∃ m',m' < m∧W (i + 1) m' σ' H')∧∀ x H',(Itl K a).yld i H x H'→g x σ H' fun σ2 H2=>tb { D with nx:=N,ct:=N,bk:=D.nx } σ2 H2):=by
  refine ⟨fun i m σ H=>m = xs.length - i∧i≤xs.length∧Pv i σ H,⟨xs.length,by simp,Nat.zero_le _,h0⟩,?_⟩
  rintro i m σ H ⟨rfl,hi,p⟩
  have q:=hl i σ H hi p
  by_cases hlt:i < xs.length
  · refine .inr ⟨⟨xs,xs[i],q,by simp [hlt]⟩,Pv (i + 1),fun σ' H' p'=>⟨xs.length - (i + 1),by omega,rfl,hlt,p'⟩,fun x H' y=>?_⟩
    obtain ⟨e,y⟩:=y
    subst e
    exact hs i x σ _ (y xs q) p
  · have e:i = xs.length:=by omega
    subst e
    exact .inl ⟨⟨xs,q,Nat.le_refl _⟩,hd σ H p⟩
theorem for_tup {K:PySem.W.Frag} {a:Addr} {xs:List V} {g:TG} {tb:TS} {D:Ends} {σ:St} {H:Hp} (Pv:Nat→St→Hp→Prop) (h0:Pv 0 σ H) (hl:∀ i σ H,i≤xs.length→Pv i σ H→SqT K H a xs)
    (hs:∀ i x σ H,xs[i]? = some x→Pv i σ H→g x σ H fun σ2 H2=>tb { D with nx:=Pv (i + 1),ct:=Pv (i + 1),bk:=D.nx } σ2 H2) (hd:∀ σ H,Pv xs.length σ H→D.nx σ H) :
    ∃ W:Nat→Nat→St→Hp→Prop,(∃ m,W 0 m σ H)∧∀ i m σ H,W i m σ H →
      ((Itt K a).stop i H∧D.nx σ H)∨((Itt K a).go i H∧∃ N:St→Hp→Prop,(∀ σ' H',N σ' H'→∃ m',m' < m∧W (i + 1) m' σ' H')∧∀ x H',(Itt K a).yld i H x H'→g x σ H' fun σ2 H2=>tb { D with nx:=N,ct:=N,bk:=D.nx } σ2 H2):=by
  refine ⟨fun i m σ H=>m = xs.length - i∧i≤xs.length∧Pv i σ H,⟨xs.length,by simp,Nat.zero_le _,h0⟩,?_⟩
  rintro i m σ H ⟨rfl,hi,p⟩
  have q:=hl i σ H hi p
  by_cases hlt:i < xs.length
  · refine .inr ⟨⟨xs,xs[i],q,by simp [hlt]⟩,Pv (i + 1),fun σ' H' p'=>⟨xs.length - (i + 1),by omega,rfl,hlt,p'⟩,fun x H' y=>?_⟩
    obtain ⟨e,y⟩:=y
    subst e
    exact hs i x σ _ (y xs q) p
  · have e:i = xs.length:=by omega
    subst e
    exact .inl ⟨⟨xs,q,Nat.le_refl _⟩,hd σ H p⟩
theorem for_range {lo:Int} {n:Nat} {g:TG} {tb:TS} {D:Ends} {σ:St} {H:Hp} (Pv:Nat→St→Hp→Prop) (h0:Pv 0 σ H)
    (hs:∀ i σ H,i < n→Pv i σ H→g (.int (lo + i)) σ H fun σ2 H2=>tb { D with nx:=Pv (i + 1),ct:=Pv (i + 1),bk:=D.nx } σ2 H2) (hd:∀ σ H,Pv n σ H→D.nx σ H) :
    ∃ W:Nat→Nat→St→Hp→Prop,(∃ m,W 0 m σ H)∧∀ i m σ H,W i m σ H →
      ((Itr lo n).stop i H∧D.nx σ H)∨((Itr lo n).go i H∧∃ N:St→Hp→Prop,(∀ σ' H',N σ' H'→∃ m',m' < m∧W (i + 1) m' σ' H')∧∀ x H',(Itr lo n).yld i H x H'→g x σ H' fun σ2 H2=>tb { D with nx:=N,ct:=N,bk:=D.nx } σ2 H2):=by
  refine ⟨fun i m σ H=>m = n - i∧i≤n∧Pv i σ H,⟨n,by simp,Nat.zero_le _,h0⟩,?_⟩
  rintro i m σ H ⟨rfl,hi,p⟩
  by_cases hlt:i < n
  · refine .inr ⟨hlt,Pv (i + 1),fun σ' H' p'=>⟨n - (i + 1),by omega,rfl,hlt,p'⟩,fun x H' y=>?_⟩
    obtain ⟨e,y⟩:=y
    subst e y
    exact hs i σ _ hlt p
  · have e:i = n:=by omega
    subst e
    exact .inl ⟨Nat.le_refl _,hd σ H p⟩
theorem while_by {c:TT} {tb:TS} {D:Ends} {σ:St} {H:Hp} (Pv:St→Hp→Prop) (μ:St→Hp→Nat) (h0:Pv σ H)
    (hs:∀ σ H,Pv σ H→c σ H fun b H1=>if b = true then tb { D with nx:=fun σ' H'=>Pv σ' H'∧μ σ' H' < μ σ H,ct:=fun σ' H'=>Pv σ' H'∧μ σ' H' < μ σ H,bk:=D.nx } σ H1 else D.nx σ H1)
    (mono:∀ σ H Q Q',(∀ b H1,Q b H1→Q' b H1)→c σ H Q→c σ H Q'):tWhile c tb D σ H:=by
  refine ⟨fun m σ H=>m = μ σ H∧Pv σ H,⟨_,rfl,h0⟩,?_⟩
  rintro m σ H ⟨rfl,p⟩
  refine mono σ H _ _ (fun b H1 q=>?_) (hs σ H p)
  cases b with
  | true=>exact ⟨_,fun σ' H' ⟨p',l⟩=>⟨_,l,rfl,p'⟩,q⟩
  | false=>exact q
end L2
namespace L2
open PySem PySem.Spec PyProof.Rows
abbrev R2:=V→V→Hp→VK→Prop
def OpR (X:Cx) (f:Value→Value→Sem Value) (r:R2):Prop :=
  ∀ (pins:List (Addr × Obj)) (s:Shared) (σ:St) (H:Hp) (x y:V) (v u:Value) (Q:VK),Inv X pins σ H s→RelV x v→RelV y u→r x y H Q →
    wpAny (model X.prog X.w) X.A (f v u) (EP X pins σ Q) X.xe s
def UnR (X:Cx) (f:Value→Sem Value) (r:V→Hp→VK→Prop):Prop :=
  ∀ (pins:List (Addr × Obj)) (s:Shared) (σ:St) (H:Hp) (x:V) (v:Value) (Q:VK),Inv X pins σ H s→RelV x v→r x H Q →
    wpAny (model X.prog X.w) X.A (f v) (EP X pins σ Q) X.xe s
def CallR (X:Cx) (f:Value) (r:List V→Hp→VK→Prop):Prop :=
  ∀ (pins:List (Addr × Obj)) (s:Shared) (σ:St) (H:Hp) (xs:List V) (us:List Value) (Q:VK),Inv X pins σ H s→Vals xs us→r xs H Q →
    wpAny (model X.prog X.w) X.A (call f us) (EP X pins σ Q) X.xe s
def TruR (X:Cx) (r:V→Hp→(Bool→Hp→Prop)→Prop):Prop :=
  ∀ (pins:List (Addr × Obj)) (s:Shared) (σ:St) (H:Hp) (x:V) (v:Value) (Q:Bool→Hp→Prop),Inv X pins σ H s→RelV x v→r x H Q →
    wpAny (model X.prog X.w) X.A (truthy v) (TP X pins σ Q) X.xe s
def tOp (r:R2) (ta tb:TE):TE:=fun σ H Q=>ta σ H fun x H1=>tb σ H1 fun y H2=>r x y H2 Q
def tUn (r:V→Hp→VK→Prop) (ta:TE):TE:=fun σ H Q=>ta σ H fun x H1=>r x H1 Q
def rI (C:Int→Int→Prop) (g:Int→Int→V):R2:=fun x y H Q=>∃ i j,x = .int i∧y = .int j∧C i j∧Q (g i j) H
def rI0 (g:Int→Int→V):R2:=fun x y H Q=>∃ i j,x = .int i∧y = .int j∧Q (g i j) H
def rU (g:Int→V):V→Hp→VK→Prop:=fun x H Q=>∃ i,x = .int i∧Q (g i) H
section
variable {X:Cx} {a b c:Expr} {ta tb tc:TE} {pos:Pos}
theorem binT (ha:PE X a ta) (hb:PE X b tb) {pins:List (Addr × Obj)} {s:Shared} {σ:St} {H:Hp} {R:V→V→Hp→Prop} (I:Inv X pins σ H s)
    (h:ta σ H fun x H1=>tb σ H1 fun y H2=>R x y H2) {Q:Value→Shared→Prop} {f:Value→Value→Sem Value}
    (hf:∀ v u s2 x y H2,Inv X pins σ H2 s2→RelV x v→RelV y u→R x y H2→wpAny (model X.prog X.w) X.A (f v u) Q X.xe s2) :
    wpAny (model X.prog X.w) X.A (eval a X.env) (fun v s₁=>wpAny (model X.prog X.w) X.A (eval b X.env) (fun u s₂=>wpAny (model X.prog X.w) X.A (f v u) Q X.xe s₂) X.xe s₁) X.xe s:=by
  refine thn (ha pins s σ H _ I h) fun v s1 ⟨x,H1,I1,r1,q1⟩=>?_
  refine thn (hb pins s1 σ H1 _ I1 q1) fun u s2 ⟨y,H2,I2,r2,q2⟩=>?_
  exact hf v u s2 x y H2 I2 r1 r2 q2
theorem pe_op {op:Operator} {r:R2} (ho:OpR X (binaryOp op) r) (ha:PE X a ta) (hb:PE X b tb):PE X (.BinOp a op b pos) (tOp r ta tb):=by
  intro pins s σ H Q I h
  exact wpAny_BinOp (binT ha hb I h fun v u s2 x y H2 I2 rx ry q=>ho pins s2 σ H2 x y v u Q I2 rx ry q)
theorem pe_un {op:UnaryOp} {r:V→Hp→VK→Prop} (ho:UnR X (unaryOp op) r) (ha:PE X a ta):PE X (.UnaryOp op a pos) (tUn r ta):=by
  intro pins s σ H Q I h
  exact UnaryOp_ (thn (ha pins s σ H _ I h) fun v s1 ⟨x,H1,I1,r1,q1⟩=>ho pins s1 σ H1 x v Q I1 r1 q1)
theorem opI {f:Value→Value→Sem Value} {C:Int→Int→Prop} {g:Int→Int→Int}
    (rule:∀ (i j:Int) (t u:Tok) (s:Shared) (Q:Value→Shared→Prop) (E:Value→Shared→Prop),C i j→Q (.int (g i j) s.toks) { s with toks:=s.toks + 1 }→wpAny (model X.prog X.w) X.A (f (.int i t) (.int j u)) Q E s) :
    OpR X f (rI C fun i j=>.int (g i j)):=by
  intro pins s σ H x y v u Q I rx ry h
  obtain ⟨i,j,rfl,rfl,hc,q⟩:=h
  obtain ⟨t,rfl⟩:=rx
  obtain ⟨t',rfl⟩:=ry
  exact rule i j t t' s _ _ hc ⟨.int (g i j),H,I.tok _,⟨_,rfl⟩,q⟩
theorem opI0 {f:Value→Value→Sem Value} {g:Int→Int→Int}
    (rule:∀ (i j:Int) (t u:Tok) (s:Shared) (Q:Value→Shared→Prop) (E:Value→Shared→Prop),Q (.int (g i j) s.toks) { s with toks:=s.toks + 1 }→wpAny (model X.prog X.w) X.A (f (.int i t) (.int j u)) Q E s) :
    OpR X f (rI0 fun i j=>.int (g i j)):=by
  intro pins s σ H x y v u Q I rx ry h
  obtain ⟨i,j,rfl,rfl,q⟩:=h
  obtain ⟨t,rfl⟩:=rx
  obtain ⟨t',rfl⟩:=ry
  exact rule i j t t' s _ _ ⟨.int (g i j),H,I.tok _,⟨_,rfl⟩,q⟩
theorem opB0 {f:Value→Value→Sem Value} {g:Int→Int→Bool}
    (rule:∀ (i j:Int) (t u:Tok) (s:Shared) (Q:Value→Shared→Prop) (E:Value→Shared→Prop),Q (.bool (g i j)) s→wpAny (model X.prog X.w) X.A (f (.int i t) (.int j u)) Q E s) :
    OpR X f (rI0 fun i j=>.bl (g i j)):=by
  intro pins s σ H x y v u Q I rx ry h
  obtain ⟨i,j,rfl,rfl,q⟩:=h
  obtain ⟨t,rfl⟩:=rx
  obtain ⟨t',rfl⟩:=ry
  exact rule i j t t' s _ _ ⟨.bl (g i j),H,I,rfl,q⟩
def CDiv (i j:Int):Prop:=0 < j∧j < 1073741824
def CPow (i j:Int):Prop:=0≤j∧j≤1000000∧i.natAbs < 2 ^ 64
def CMul (i j:Int):Prop:=(-(2 ^ 64) < i∧i < 2 ^ 64)∨(-(2 ^ 64) < j∧j < 2 ^ 64)
theorem CMul.ok {i j:Int} (h:CMul i j):IntMulOk i j:=by
  rcases h with ⟨h1,h2⟩ | ⟨h1,h2⟩
  · exact .of_left (intBits_le_64 h1 h2)
  · exact .of_right (intBits_le_64 h1 h2)
theorem op_add:OpR X (binaryOp .Add) (rI0 fun i j=>.int (i + j)):=opI0 fun _ _ _ _ _ _ _ q=>add_int q
theorem op_sub:OpR X (binaryOp .Sub) (rI0 fun i j=>.int (i - j)):=opI0 fun _ _ _ _ _ _ _ q=>sub_int q
theorem op_mul:OpR X (binaryOp .Mult) (rI CMul fun i j=>.int (i * j)):=opI fun _ _ _ _ _ _ _ hc q=>mul_int q hc.ok
theorem op_fdiv:OpR X (binaryOp .FloorDiv) (rI CDiv fun i j=>.int (i / j)):=opI fun i j _ _ _ _ _ hc q=>by
  have h1:(0:Int) < j:=hc.1
  have h2:j < 1073741824:=hc.2
  exact floordiv_int (by omega) (by rw [Int.fdiv_eq_ediv_of_nonneg i (by omega)]; exact q) (.inl (PyProof.noPylong_small (by omega)))
theorem op_mod:OpR X (binaryOp .Mod) (rI (fun _ j=>0 < j) fun i j=>.int (i % j)):=opI fun i j _ _ _ _ _ hc q=>by
  have h1:(0:Int) < j:=hc
  exact mod_int' (by omega) (by rw [Int.fmod_eq_emod_of_nonneg i (by omega)]; exact q)
theorem op_pow:OpR X (binaryOp .Pow) (rI CPow fun i j=>.int (i ^ j.toNat)):=opI fun _ _ _ _ _ _ _ hc q=>pow_int_small hc.1 hc.2.1 hc.2.2 q
theorem unI {f:Value→Sem Value} {g:Int→Int}
    (rule:∀ (i:Int) (t:Tok) (s:Shared) (Q:Value→Shared→Prop) (E:Value→Shared→Prop),Q (.int (g i) s.toks) { s with toks:=s.toks + 1 }→wpAny (model X.prog X.w) X.A (f (.int i t)) Q E s) :
    UnR X f (rU fun i=>.int (g i)):=by
  intro pins s σ H x v Q I rx h
  obtain ⟨i,rfl,q⟩:=h
  obtain ⟨t,rfl⟩:=rx
  exact rule i t s _ _ ⟨.int (g i),H,I.tok _,⟨_,rfl⟩,q⟩
theorem un_neg:UnR X (unaryOp .USub) (rU fun i=>.int (-i)):=unI fun _ _ _ _ _ q=>neg_int q
end
def scal:V→V→Bool
  | .non,.non=>true | .non,.int _=>true | .int _,.non=>true | .non,.bl _=>true | .bl _,.non=>true | .non,.str _=>true | .str _,.non=>true
  | .int _,.int _=>true | .bl _,.bl _=>true | .str _,.str _=>true | .byt _,.byt _=>true
  | .int _,.str _=>true | .str _,.int _=>true | .bl _,.str _=>true | .str _,.bl _=>true
  | _,_=>false
def rEq:R2:=fun x y H Q=>scal x y = true∧Q (.bl (decide (x = y))) H
def rNe:R2:=fun x y H Q=>scal x y = true∧Q (.bl (!decide (x = y))) H
theorem dec_int {i j:Int}:decide (V.int i = V.int j) = (i == j):=by
  rw [Bool.eq_iff_iff]
  simp
theorem dec_bl {i j:Bool}:decide (V.bl i = V.bl j) = (i == j):=by
  rw [Bool.eq_iff_iff]
  simp
theorem dec_str {i j:Str}:decide (V.str i = V.str j) = (i == j):=by
  rw [Bool.eq_iff_iff]
  simp
theorem dec_byt {i j:Array UInt8}:decide (V.byt i = V.byt j) = (i.toList == j.toList):=by
  rw [Bool.eq_iff_iff]
  cases i
  cases j
  simp
section
variable {X:Cx} {a b c:Expr} {ta tb tc:TE} {pos:Pos}
theorem fin_bl {pins:List (Addr × Obj)} {σ:St} {H:Hp} {s:Shared} {Q:VK} {k k':Bool} (I:Inv X pins σ H s) (q:Q (.bl k) H) (e:k = k'):EP X pins σ Q (.bool k') s:=by
  subst e
  exact ⟨.bl k,H,I,rfl,q⟩
theorem op_eq:OpR X (compareOp .Eq) rEq:=by
  intro pins s σ H x y v u Q I rx ry h
  obtain ⟨hs,q⟩:=h
  cases x with
  | non =>
    cases rx
    cases y with
    | non=>cases ry; exact PySem.EqNone.eq_none_none (fin_bl I q (by simp))
    | bl j=>cases ry; exact PySem.EqNone.eq_none_bool (fin_bl I q (by simp))
    | int j=>obtain ⟨t',rfl⟩:=ry; exact PySem.EqNone.eq_none_int (fin_bl I q (by simp))
    | str j=>obtain ⟨t',rfl⟩:=ry; exact PySem.EqNone.eq_none_str (fin_bl I q (by simp))
    | _=>exact absurd (show false = true from hs) Bool.false_ne_true
  | bl i =>
    cases rx
    cases y with
    | non=>cases ry; exact PySem.EqNone.eq_bool_none (fin_bl I q (by simp))
    | bl j=>cases ry; exact eq_bool (fin_bl I q dec_bl)
    | str j=>obtain ⟨t',rfl⟩:=ry; exact PySem.EqMixed.eq_bool_str (fin_bl I q (by simp))
    | _=>exact absurd (show false = true from hs) Bool.false_ne_true
  | int i =>
    obtain ⟨t,rfl⟩:=rx
    cases y with
    | non=>cases ry; exact PySem.EqNone.eq_int_none (fin_bl I q (by simp))
    | int j=>obtain ⟨t',rfl⟩:=ry; exact eq_int (fin_bl I q dec_int)
    | str j=>obtain ⟨t',rfl⟩:=ry; exact PySem.EqMixed.eq_int_str (fin_bl I q (by simp))
    | _=>exact absurd (show false = true from hs) Bool.false_ne_true
  | str i =>
    obtain ⟨t,rfl⟩:=rx
    cases y with
    | non=>cases ry; exact PySem.EqNone.eq_str_none (fin_bl I q (by simp))
    | bl j=>cases ry; exact PySem.EqMixed.eq_str_bool (fin_bl I q (by simp))
    | int j=>obtain ⟨t',rfl⟩:=ry; exact PySem.EqMixed.eq_str_int (fin_bl I q (by simp))
    | str j=>obtain ⟨t',rfl⟩:=ry; exact eq_str (fin_bl I q dec_str)
    | _=>exact absurd (show false = true from hs) Bool.false_ne_true
  | byt i =>
    obtain ⟨t,rfl⟩:=rx
    cases y with
    | byt j=>obtain ⟨t',rfl⟩:=ry; exact PySem.W.eq_bytes (fin_bl I q dec_byt)
    | _=>exact absurd (show false = true from hs) Bool.false_ne_true
  | _=>cases y <;> exact absurd (show false = true from hs) Bool.false_ne_true
theorem op_ne:OpR X (compareOp .NotEq) rNe:=by
  intro pins s σ H x y v u Q I rx ry h
  obtain ⟨hs,q⟩:=h
  cases x with
  | non =>
    cases rx
    cases y with
    | non=>cases ry; exact PySem.EqNone.ne_none_none (fin_bl I q (by simp))
    | bl j=>cases ry; exact PySem.EqNone.ne_none_bool (fin_bl I q (by simp))
    | int j=>obtain ⟨t',rfl⟩:=ry; exact PySem.EqNone.ne_none_int (fin_bl I q (by simp))
    | str j=>obtain ⟨t',rfl⟩:=ry; exact PySem.EqNone.ne_none_str (fin_bl I q (by simp))
    | _=>exact absurd (show false = true from hs) Bool.false_ne_true
  | bl i =>
    cases rx
    cases y with
    | non=>cases ry; exact PySem.EqNone.ne_bool_none (fin_bl I q (by simp))
    | bl j=>cases ry; exact ne_bool (fin_bl I q (congrArg not dec_bl))
    | str j=>obtain ⟨t',rfl⟩:=ry; exact PySem.EqMixed.ne_bool_str (fin_bl I q (by simp))
    | _=>exact absurd (show false = true from hs) Bool.false_ne_true
  | int i =>
    obtain ⟨t,rfl⟩:=rx
    cases y with
    | non=>cases ry; exact PySem.EqNone.ne_int_none (fin_bl I q (by simp))
    | int j=>obtain ⟨t',rfl⟩:=ry; exact ne_int (fin_bl I q (congrArg not dec_int))
    | str j=>obtain ⟨t',rfl⟩:=ry; exact PySem.EqMixed.ne_int_str (fin_bl I q (by simp))
    | _=>exact absurd (show false = true from hs) Bool.false_ne_true
  | str i =>
    obtain ⟨t,rfl⟩:=rx
    cases y with
    | non=>cases ry; exact PySem.EqNone.ne_str_none (fin_bl I q (by simp))
    | bl j=>cases ry; exact PySem.EqMixed.ne_str_bool (fin_bl I q (by simp))
    | int j=>obtain ⟨t',rfl⟩:=ry; exact PySem.EqMixed.ne_str_int (fin_bl I q (by simp))
    | str j=>obtain ⟨t',rfl⟩:=ry; exact ne_str (fin_bl I q (congrArg not dec_str))
    | _=>exact absurd (show false = true from hs) Bool.false_ne_true
  | byt i =>
    obtain ⟨t,rfl⟩:=rx
    cases y with
    | byt j=>obtain ⟨t',rfl⟩:=ry; exact PySem.W.ne_bytes (fin_bl I q (congrArg not dec_byt))
    | _=>exact absurd (show false = true from hs) Bool.false_ne_true
  | _=>cases y <;> exact absurd (show false = true from hs) Bool.false_ne_true
theorem op_lt:OpR X (compareOp .Lt) (rI0 fun i j=>.bl (decide (i < j))):=opB0 fun _ _ _ _ _ _ _ q=>lt_int q
theorem op_le:OpR X (compareOp .LtE) (rI0 fun i j=>.bl (decide (i≤j))):=opB0 fun _ _ _ _ _ _ _ q=>le_int q
theorem op_gt:OpR X (compareOp .Gt) (rI0 fun i j=>.bl (decide (j < i))):=opB0 fun _ _ _ _ _ _ _ q=>gt_int q
theorem op_ge:OpR X (compareOp .GtE) (rI0 fun i j=>.bl (decide (j≤i))):=opB0 fun _ _ _ _ _ _ _ q=>ge_int q
theorem op_lt_str:OpR X (compareOp .Lt) (fun x y H Q=>∃ i j,x = .str i∧y = .str j∧Q (.bl (decide (i.cps.toList < j.cps.toList))) H):=by
  intro pins s σ H x y v u Q I rx ry h
  obtain ⟨i,j,rfl,rfl,q⟩:=h
  obtain ⟨t,rfl⟩:=rx
  obtain ⟨t',rfl⟩:=ry
  exact lt_str (fin_bl I q rfl)
theorem op_isN:OpR X (compareOp .Is) (fun x y H Q=>y = .non∧Q (.bl (decide (x = .non))) H):=by
  intro pins s σ H x y v u Q I rx ry h
  obtain ⟨rfl,q⟩:=h
  cases ry
  refine is_none_gen (fin_bl I q ?_)
  cases x <;> first
    | (cases rx; rfl)
    | (obtain ⟨t,rfl⟩:=rx; rfl)
theorem op_notN:OpR X (compareOp .IsNot) (fun x y H Q=>y = .non∧Q (.bl (!decide (x = .non))) H):=by
  intro pins s σ H x y v u Q I rx ry h
  obtain ⟨rfl,q⟩:=h
  cases ry
  refine isnot_none_gen (fin_bl I q ?_)
  cases x <;> first
    | (cases rx; rfl)
    | (obtain ⟨t,rfl⟩:=rx; rfl)
theorem OpR.or {f:Value→Value→Sem Value} {r r':R2} (h:OpR X f r) (h':OpR X f r'):OpR X f (fun x y H Q=>r x y H Q∨r' x y H Q):=by
  intro pins s σ H x y v u Q I rx ry q
  rcases q with q | q
  · exact h pins s σ H x y v u Q I rx ry q
  · exact h' pins s σ H x y v u Q I rx ry q
theorem nomark (b:Expr) {op:CmpOp} (h:op≠.In:=by decide) (h2:op≠.NotIn:=by decide):behindInMarks op b = false:=by
  have e1:(op == CmpOp.In) = false:=by cases op <;> first | rfl | exact absurd rfl h
  have e2:(op == CmpOp.NotIn) = false:=by cases op <;> first | rfl | exact absurd rfl h2
  cases b <;> simp [behindInMarks,e1,e2]
theorem pe_cmpR {op:CmpOp} {r:R2} (ho:OpR X (compareOp op) r) (ha:PE X a ta) (hb:PE X b tb) (hm:behindInMarks op b = false):PE X (.Compare a [op] [b] pos) (tOp r ta tb):=by
  intro pins s σ H Q I h
  exact wpAny_Compare1 (binT ha hb I h fun v u s2 x y H2 I2 rx ry q=>ho pins s2 σ H2 x y v u Q I2 rx ry q) hm
def tTest (t:TE):TT:=fun σ H Q=>t σ H fun x H'=>∃ k,x = .bl k∧Q k H'
theorem pt_cmpR {op:CmpOp} {r:R2} (ho:OpR X (compareOp op) r) (ha:PE X a ta) (hb:PE X b tb) (hm:behindInMarks op b = false):PT X (.Compare a [op] [b] pos) (tTest (tOp r ta tb)):=by
  intro pins s σ H Q I h
  refine wpAny_isTrue_Compare1 (thn (ha pins s σ H _ I h) fun v s1 ⟨x,H1,I1,r1,q1⟩=>thn (hb pins s1 σ H1 _ I1 q1) fun u s2 ⟨y,H2,I2,r2,q2⟩ =>
    thn (ho pins s2 σ H2 x y v u _ I2 r1 r2 q2) fun c s3 ⟨z,H3,I3,r3,k,e,q3⟩=>?_) hm
  subst e
  cases r3
  exact wpAny_truthy_bool ⟨H3,I3,q3⟩
def tChain (r r':R2) (ta tb tc:TE):TE:=fun σ H Q=>ta σ H fun x H1=>tb σ H1 fun y H2=>r x y H2 fun z H3=>∃ k,z = .bl k ∧
  (if k = true then tc σ H3 fun w' H4=>r' y w' H4 Q else Q (.bl false) H3)
theorem pe_chain {op op':CmpOp} {r r':R2} (ho:OpR X (compareOp op) r) (ho':OpR X (compareOp op') r') (ha:PE X a ta) (hb:PE X b tb) (hc:PE X c tc)
    (hm:lastMarks [op,op'] [b,c] = false:=by with_unfolding_all rfl):PE X (.Compare a [op,op'] [b,c] pos) (tChain r r' ta tb tc):=by
  intro pins s σ H Q I h
  refine Compare_chain (thn (ha pins s σ H _ I h) fun v s1 ⟨x,H1,I1,r1,q1⟩=>chain_link (thn (hb pins s1 σ H1 _ I1 q1) fun u s2 ⟨y,H2,I2,r2,q2⟩ =>
    thn (ho pins s2 σ H2 x y v u _ I2 r1 r2 q2) fun d s3 ⟨z,H3,I3,r3,k,e,q3⟩=>?_)) hm
  subst e
  cases r3
  refine wpAny_truthy_bool ?_
  cases k with
  | false=>exact ite_ff ⟨.bl false,H3,I3,rfl,q3⟩
  | true=>exact ite_tt (chain_last (thn (hc pins s3 σ H3 _ I3 q3) fun w' s4 ⟨z',H4,I4,r4,q4⟩=>ho' pins s4 σ H4 y z' u w' Q I4 r2 r4 q4))
theorem pt_chain {op op':CmpOp} {r r':R2} (ho:OpR X (compareOp op) r) (ho':OpR X (compareOp op') r') (ha:PE X a ta) (hb:PE X b tb) (hc:PE X c tc)
    (hm:lastMarks [op,op'] [b,c] = false:=by with_unfolding_all rfl):PT X (.Compare a [op,op'] [b,c] pos) (tTest (tChain r r' ta tb tc)):=by
  intro pins s σ H Q I h
  refine isTrue_chain (thn (ha pins s σ H _ I h) fun v s1 ⟨x,H1,I1,r1,q1⟩=>test_link (thn (hb pins s1 σ H1 _ I1 q1) fun u s2 ⟨y,H2,I2,r2,q2⟩ =>
    thn (ho pins s2 σ H2 x y v u _ I2 r1 r2 q2) fun d s3 ⟨z,H3,I3,r3,k,e,q3⟩=>?_)) hm
  subst e
  cases r3
  refine wpAny_truthy_bool ?_
  cases k with
  | false =>
    obtain ⟨k',e',q'⟩:=q3
    cases e'
    exact ite_ff ⟨H3,I3,q'⟩
  | true =>
    refine ite_tt (test_last (thn (hc pins s3 σ H3 _ I3 q3) fun w' s4 ⟨z',H4,I4,r4,q4⟩=>thn (ho' pins s4 σ H4 y z' u w' _ I4 r2 r4 q4) fun d' s5 ⟨z2,H5,I5,r5,k2,e2,q5⟩=>?_))
    subst e2
    cases r5
    exact wpAny_truthy_bool ⟨H5,I5,q5⟩
def TruV (K:PySem.W.Frag) (x:V) (H:Hp) (k:Bool):Prop :=
  match x with
  | .non=>k = false
  | .bl b=>k = b
  | .int i=>k = (i != 0)
  | .str y=>y.length≤sizeLine∧k = ((y.length:Int) != 0)
  | .byt y=>y.size≤sizeLine∧k = ((y.size:Int) != 0)
  | .ref p=>(∃ xs,SqL K H p xs∧k = !xs.isEmpty)∨(∃ xs,SqT K H p xs∧k = !xs.isEmpty)∨∃ kvs,H p = some (.dK kvs)∧k = !kvs.isEmpty
  | _=>False
theorem isEmpty_kv {κ:Type} {kvs:List (κ × V)} {vs:List (κ × Value)} (r:KV kvs vs):(!vs.isEmpty) = !kvs.isEmpty:=by
  cases r <;> rfl
theorem isEmpty_of {xs:List V} {its:List Value} (r:Vals xs its):(!its.toArray.isEmpty) = !xs.isEmpty:=by
  cases r <;> simp
theorem line63:(sizeLine:Nat) < 2 ^ 63:=by rw [sizeLine_eq]; decide
theorem tru_ok:TruR X (fun x H Q=>∃ k,TruV X.K x H k∧Q k H):=by
  intro pins s σ H x v Q I rx h
  obtain ⟨k,e,q⟩:=h
  have hl:=line63
  have hs:sizeLine = 16777216:=sizeLine_eq
  cases x with
  | non =>
    cases rx
    have e':k = false:=e
    subst e'
    exact truthy_none ⟨H,I,q⟩
  | bl b =>
    cases rx
    have e':k = b:=e
    subst e'
    exact wpAny_truthy_bool ⟨H,I,q⟩
  | int i =>
    obtain ⟨t,rfl⟩:=rx
    have e':k = (i != 0):=e
    subst e'
    exact PySem.P.truthy_int ⟨H,I,q⟩
  | str y =>
    obtain ⟨t,rfl⟩:=rx
    obtain ⟨hy,e'⟩:y.length≤sizeLine∧k = ((y.length:Int) != 0):=e
    subst e'
    exact PySem.P.truthy_str (by omega) ⟨H,I.tok _,q⟩
  | byt y =>
    obtain ⟨t,rfl⟩:=rx
    obtain ⟨hy,e'⟩:y.size≤sizeLine∧k = ((y.size:Int) != 0):=e
    subst e'
    exact PySem.W.truthy_bytes (by omega) ⟨H,I.tok _,q⟩
  | ref p =>
    cases rx
    have e':(∃ xs,SqL X.K H p xs∧k = !xs.isEmpty)∨(∃ xs,SqT X.K H p xs∧k = !xs.isEmpty)∨∃ kvs,H p = some (.dK kvs)∧k = !kvs.isEmpty:=e
    rcases e' with ⟨xs,hx,e'⟩ | ⟨xs,hx,e'⟩ | ⟨kvs,hx,e'⟩
    · subst e'
      obtain ⟨its,r,pl,hz⟩:=I.list hx
      have hlen:=r.length
      exact wpAny_truthy_list pl.isList (by simp only [List.size_toArray]; omega) ⟨H,I.tok _,by rw [isEmpty_of r]; exact q⟩
    · subst e'
      obtain ⟨its,r,pl,hz⟩:=I.tuple hx
      have hlen:=r.length
      exact truthy_tuple pl (by simp only [List.size_toArray]; omega) ⟨H,I.tok _,by rw [isEmpty_of r]; exact q⟩
    · subst e'
      obtain ⟨hz,hS,vs,r,m⟩:kvs.length≤sizeLine∧(p == sysModules) = false∧∃ vs,KV kvs vs∧s.heap.DictOf (mixKind X.prog X.w) p vs:=I.hok p _ hx
      have hlen:kvs.length = vs.length:=Paired.length r
      exact wpAny_truthy_dict hS m (by omega) ⟨H,I.tok _,by rw [isEmpty_kv r]; exact q⟩
  | _=>exact (show False from e).elim
theorem pt_truth (ha:PE X a ta) (he:∀ whole,isTrue a X.env whole = (do let v ← whole; standAt a.pos; holding [v] (truthy v))) :
    PT X a (fun σ H Q=>ta σ H fun x H'=>∃ k,TruV X.K x H' k∧Q k H'):=by
  intro pins s σ H Q I h
  exact isTrue_plain (thn (ha pins s σ H _ I h) fun v s1 ⟨x,H1,I1,r1,q1⟩=>tru_ok pins s1 σ H1 x v Q I1 r1 q1) (he _)
theorem vals1 {x:V} {us:List Value} (r:Vals [x] us):∃ u,us = [u]∧RelV x u:=by
  cases r with
  | cons r1 r2=>cases r2; exact ⟨_,rfl,r1⟩
theorem vals2 {x y:V} {us:List Value} (r:Vals [x,y] us):∃ u w',us = [u,w']∧RelV x u∧RelV y w':=by
  cases r with
  | cons r1 r2 =>
    cases r2 with
    | cons r3 r4=>cases r4; exact ⟨_,_,rfl,r1,r3⟩
theorem call_abs:CallR X (.builtin "abs") (fun xs H Q=>∃ i,xs = [.int i]∧Q (.int (if i < 0 then -i else i)) H):=by
  intro pins s σ H xs us Q I r h
  obtain ⟨i,rfl,q⟩:=h
  obtain ⟨u,rfl,t,rfl⟩:=vals1 r
  exact call_abs_int fun u tk=>⟨.int (if i < 0 then -i else i),H,I.tok _,⟨_,rfl⟩,q⟩
theorem call_min2 (hc:X.calm = true):CallR X (.builtin "min") (fun xs H Q=>∃ i j,xs = [.int i,.int j]∧Q (.int (if j < i then j else i)) H):=by
  intro pins s σ H xs us Q I r h
  obtain ⟨i,j,rfl,q⟩:=h
  obtain ⟨u,w',rfl,⟨t,rfl⟩,⟨t',rfl⟩⟩:=vals2 r
  refine min_two_ints (I.ok.hd hc) fun h' tk k=>⟨_,H,I.kept k,?_,q⟩
  by_cases hj:j < i
  · rw [if_pos hj,if_pos hj]; exact ⟨_,rfl⟩
  · rw [if_neg hj,if_neg hj]; exact ⟨_,rfl⟩
end
end L2
namespace L2
open PySem PySem.Spec PyProof.Rows
structure ObjM (h:Heap) (x dx C:Addr) (mA:Str→Option Value):Prop where
  obj:h.get? x = some (PySem.W.instObj C dx)
  ns:h.Ns1 dx mA
  ne:dx≠x
theorem lookIn_ns {h:Heap} {dx:Addr} {mA:Str→Option Value} (n:h.Ns1 dx mA):∃ od,h.get? dx = some od∧∀ name,PySem.W.lookIn name od = some (mA name):=by
  obtain ⟨o,es,ep,ho,hd,hk,_,hm⟩:=n
  refine ⟨o,ho,fun name=>?_⟩
  have e:=hm name
  unfold nsFind findBy at e
  rw [← Array.find?_toList] at e
  unfold PySem.W.lookIn
  rw [hd]
  dsimp only
  split
  · rename_i y q
    rw [q] at e
    exact congrArg some e
  · rename_i q
    rw [q] at e
    have a:es.toList.any (·.refKey) = false:=by
      rw [List.any_eq_false]
      intro y hy
      obtain ⟨z,t,hkey⟩:=hk y (Array.mem_toList_iff.mp hy)
      simp [DictEntry.refKey,hkey]
    have a':¬ es.toList.any (·.refKey) = true:=by rw [a]; exact Bool.false_ne_true
    rw [if_neg a']
    exact congrArg some e
theorem ObjM.look {h:Heap} {x dx C:Addr} {mA:Str→Option Value} (I:ObjM h x dx C mA):∃ od,PySem.W.InstAt h x (PySem.W.instObj C dx) C (some od)∧∀ name,PySem.W.lookIn name od = some (mA name) :=
  let ⟨od,ho,hl⟩:=lookIn_ns I.ns
  ⟨od,⟨I.obj,rfl,rfl,ho⟩,hl⟩
section
variable {prog:Program} {w:World} {A:Around} {E:Value→Shared→Prop} {s:Shared} {K:PySem.W.Frag} {x dx C f:Addr} {mA:Str→Option Value} {name:Str} {v:Value}
theorem get_map {expr:Bool} {Q:Value→Shared→Prop} (X:K.In s.heap) (I:ObjM s.heap x dx C mA) (hg:PySem.W.plainGet K C name = true) (hh:PySem.W.hasDictIn K C = true)
    (ha:PySem.W.findIn K (.ref C) name = some none) (hv:mA name = some v) (hv':PySem.W.handedIn v = true) (h:Q v { s with toks:=s.toks + 1 }) :
    wpAny (model prog w) A (getAttr (.ref x) name expr) Q E s:=by
  obtain ⟨od,J,hl⟩:=I.look
  exact PySem.W.get_value X J (PySem.W.plainGet_of hg).1 (PySem.W.findObj_own hh ha rfl (by rw [hl,hv])) hv' h
theorem get_meth {pl:Sem Bool} {Q:Value × List Value→Shared→Prop} (X:K.In s.heap) (I:ObjM s.heap x dx C mA) (hg:PySem.W.plainGet K C name = true)
    (hf:PySem.W.findIn K (.ref C) name = some (some (.ref f))) (ht:PySem.W.isFn K (.ref f) = true) (hv:mA name = none) (h:Q (.ref f,[.ref x]) s) :
    wpAny (model prog w) A (getMethod (.ref x) name pl) Q E s:=by
  obtain ⟨od,J,hl⟩:=I.look
  exact PySem.W.method_fn X J (PySem.W.plainGet_of hg).1 (PySem.W.plainGet_of hg).2 hf (beq_iff_eq.mp ht) (by show (PySem.W.lookIn name od).map (·.isSome) = some false; rw [hl,hv]; rfl) h
theorem set_map {ns:List Str} {Q:Unit→Shared→Prop} (X:K.In s.heap) (I:ObjM s.heap x dx C mA)
    (hs:PySem.W.findIn K (.ref C) "__setattr__" = some (some (.builtin "object.__setattr__"))) (hp:PySem.W.plainOver K C = true) (ht:PySem.W.takerIn K C name = some none) (hh:PySem.W.hasDictIn K C = true)
    (hw:PySem.Within mA ns) (hsz:ns.length≤sizeLine)
    (h:∀ h',ObjM h' x dx C (fun y=>if y = name then some v else mA y)→Heap.SameBut dx s.heap h'→Q () { s with heap:=h',toks:=s.toks + 2 }) :
    wpAny (model prog w) A (setAttr (.ref x) name v) Q E s:=by
  obtain ⟨od,J,hl⟩:=I.look
  refine PySem.W.set_plain X J hs (PySem.W.osa_open (s:={ s with toks:=s.toks + 1 }) (r:=none) X J hp ht fun b=>?_)
  obtain ⟨cd,hc,hd'⟩:=PySem.W.any_some hh
  have hx:s.heap.get? x = some ⟨.ref C,some dx,.plain,#[]⟩:=I.obj
  refine wpAny_bind (wpAny_pure (wpAny_bind (wpAny_bind (wpAny_loadPart hx (wpAny_bind (PySem.W.Looks.here (s:={ s with toks:=s.toks + 1 }) (PySem.W.looks_clsIn X hc) ?_))))))
  rw [hd']
  refine wpAny_pure (a:=some dx) (wpAny_bind (wpAny_pure (wpAny_bind ?_)))
  refine wpAny_nsSet1 (s:={ s with toks:=s.toks + 1 }) I.ns fun h' hn2 hs2=>?_
  obtain ⟨oD,esD,epD,hoD,hdD,hcD⟩:=hn2.count (PySem.Within.cons name v hw)
  refine wpAny_bind (wpAny_lookBehind hoD (by rw [hdD]; exact pastItsLine_dict (Nat.le_trans hcD (by rw [List.length_cons]; omega))) ?_)
  exact wpAny_pure (h _ ⟨(hs2.2 _ (Ne.symm I.ne)).trans I.obj,hn2,I.ne⟩ hs2)
theorem make_map {R:Result→Shared→Prop} {vs:List Value} {kw:List (Str × Value)} (X:K.In s.heap) (hm:PySem.W.makesIn K C = true)
    (hi:PySem.W.findIn K (.ref C) "__init__" = some (some (.ref f))) (hf:PySem.W.typeIn K (.ref f) = some (.type "function"))
    (h:codeAny (model prog w) (A.under (.builtin "type.__call__" ⟨.ref C :: vs,kw⟩)) (.call (.ref f) ⟨.ref (s.heap.objs.size + 1) :: vs,kw⟩) (PySem.W.InitBack (s.heap.objs.size + 1) R)
      { s with heap:=(s.heap.push PySem.W.emptyDict).push (PySem.W.instObj C s.heap.objs.size) }) :
    codeAny (model prog w) A (.call (.ref C) ⟨vs,kw⟩) R s:=by
  obtain ⟨hh,g,d,t,os⟩:=s
  exact PySem.W.make_core (PySem.W.makes_of X hm) (PySem.W.looks_findIn X hi) (fun self=>PySem.W.bind_fn X self hf) (.inl rfl) h
end
def putF (f:Str) (v:V):List (Str × V)→List (Str × V)
  | []=>[(f,v)]
  | (g,x) :: r=>if g = f then (g,v) :: r else (g,x) :: putF f v r
theorem lookup_putF (f g:Str) (v:V):∀ fs:List (Str × V),(putF f v fs).lookup g = if g = f then some v else fs.lookup g
  | []=>by
    show List.lookup g [(f,v)] = _
    by_cases h:g = f
    · have hb:(g == f) = true:=beq_iff_eq.mpr h
      simp only [List.lookup,hb,if_pos h]
    · have hb:(g == f) = false:=beq_eq_false_iff_ne.mpr h
      simp only [List.lookup,hb,if_neg h]
  | (k,x) :: r=>by
    have ih:=lookup_putF f g v r
    rw [show putF f v ((k,x) :: r) = (if k = f then (k,v) :: r else (k,x) :: putF f v r) from rfl]
    by_cases hk:k = f
    · rw [if_pos hk]
      by_cases h:g = k
      · have hb:(g == k) = true:=beq_iff_eq.mpr h
        simp only [List.lookup,hb,if_pos (h.trans hk)]
      · have hb:(g == k) = false:=beq_eq_false_iff_ne.mpr h
        simp only [List.lookup,hb,if_neg (fun e:g = f=>h (e.trans hk.symm))]
    · rw [if_neg hk]
      by_cases h:g = k
      · have hb:(g == k) = true:=beq_iff_eq.mpr h
        simp only [List.lookup,hb,if_neg (fun e:g = f=>hk (h.symm.trans e))]
      · have hb:(g == k) = false:=beq_eq_false_iff_ne.mpr h
        simp only [List.lookup,hb]
        exact ih
theorem keys_putF (f:Str) (v:V):∀ fs:List (Str × V),f∈(putF f v fs).map (·.1)∧∀ g,g∈fs.map (·.1)→g∈(putF f v fs).map (·.1)
  | []=>⟨by simp [putF],fun g h=>by simp at h⟩
  | (k,x) :: r=>by
    obtain ⟨i1,i2⟩:=keys_putF f v r
    rw [show putF f v ((k,x) :: r) = (if k = f then (k,v) :: r else (k,x) :: putF f v r) from rfl]
    by_cases hk:k = f
    · rw [if_pos hk]
      subst hk
      exact ⟨by simp,fun g h=>by simpa using h⟩
    · rw [if_neg hk]
      refine ⟨?_,fun g h=>?_⟩
      · rw [List.map_cons]
        exact List.mem_cons_of_mem _ i1
      · rw [List.map_cons] at h ⊢
        rcases List.mem_cons.mp h with e | e
        · exact List.mem_cons.mpr (.inl e)
        · exact List.mem_cons_of_mem _ (i2 g e)
theorem length_putF (f:Str) (v:V):∀ fs:List (Str × V),(putF f v fs).length≤fs.length + 1
  | []=>by simp [putF]
  | (k,x) :: r=>by
    have ih:=length_putF f v r
    rw [show putF f v ((k,x) :: r) = (if k = f then (k,v) :: r else (k,x) :: putF f v r) from rfl]
    by_cases hk:k = f
    · rw [if_pos hk,List.length_cons,List.length_cons]; omega
    · rw [if_neg hk,List.length_cons,List.length_cons]; omega
theorem RelO.some_of {v:V} {o:Option Value} (r:RelO (some v) o):∃ u,o = some u∧RelV v u:=by
  cases o with
  | none=>exact (show False from r).elim
  | some u=>exact ⟨u,rfl,r⟩
theorem RelO.none_of {o:Option Value} (r:RelO none o):o = none:=by
  cases o with
  | none=>rfl
  | some u=>exact (show False from r).elim
theorem handed_of {v:V} {u:Value} (r:RelV v u):PySem.W.handedIn u = true:=by
  cases v with
  | non=>cases (show u = Value.none from r); rfl
  | bl b=>cases (show u = Value.bool b from r); rfl
  | int i=>obtain ⟨t,e⟩:=(show ∃ t,u = Value.int i t from r); cases e; rfl
  | str x=>obtain ⟨t,e⟩:=(show ∃ t,u = Value.str x t from r); cases e; rfl
  | byt b=>obtain ⟨t,e⟩:=(show ∃ t,u = Value.bytes b t from r); cases e; rfl
  | flt b=>obtain ⟨t,e⟩:=(show ∃ t,u = Value.float b t from r); cases e; rfl
  | ref a=>cases (show u = Value.ref a from r); rfl
  | ty n=>cases (show u = Value.type n from r); rfl
section
variable {P:Program} {w:World} {H H':Hp} {h h':Heap} {a C dx:Addr} {fs fs':List (Str × V)}
theorem ins_get (hok:HOk P w H h) (e:H a = some (.ins C dx fs)):∃ mA,ObjM h a dx C mA∧(∀ f,RelO (fs.lookup f) (mA f))∧PySem.Within mA (fs.map (·.1))∧fs.length≤1000∧H dx = some (.own a):=by
  obtain ⟨d,z,ne,ob,mA,n,r,q⟩:=(show ObjOk P w H h a (.ins C dx fs) from hok a _ e)
  exact ⟨mA,⟨ob,n,ne⟩,r,q,z,d⟩
end
structure Cls (K:PySem.W.Frag) (C:Addr):Prop where
  pg:PySem.W.plainGet K C Str.empty = true
  hd:PySem.W.hasDictIn K C = true
  po:PySem.W.plainOver K C = true
  sa:PySem.W.findIn K (.ref C) "__setattr__" = some (some (.builtin "object.__setattr__"))
theorem Cls.get {K:PySem.W.Frag} {C:Addr} (c:Cls K C) (f:Str):PySem.W.plainGet K C f = true:=c.pg
def NoAttr (K:PySem.W.Frag) (C:Addr) (f:Str):Prop:=PySem.W.findIn K (.ref C) f = some none
theorem NoAttr.taker {K:PySem.W.Frag} {C:Addr} {f:Str} (n:NoAttr K C f):PySem.W.takerIn K C f = some none:=by
  unfold PySem.W.takerIn
  rw [show PySem.W.findIn K (.ref C) f = some none from n]
  rfl
structure Meth (K:PySem.W.Frag) (C:Addr) (m:Str) (f:Addr):Prop where
  at_:PySem.W.findIn K (.ref C) m = some (some (.ref f))
  fn:PySem.W.isFn K (.ref f) = true
  kp:PySem.W.keepIn K (.ref f) = true
section
variable {X:Cx} {pins:List (Addr × Obj)} {σ:St} {H:Hp} {s:Shared} {a C dx:Addr} {fs:List (Str × V)} {f:Str} {v:V} {A:Around} {E:Value→Shared→Prop}
theorem getattr_ok {b:Bool} {Q:Value→Shared→Prop} (I:Inv X pins σ H s) (e:H a = some (.ins C dx fs)) (c:Cls X.K C) (n:NoAttr X.K C f) (l:fs.lookup f = some v)
    (h:∀ u s',Inv X pins σ H s'→RelV v u→Q u s'):wpAny (model X.prog X.w) A (getAttr (.ref a) f b) Q E s:=by
  obtain ⟨mA,O,r,_,_,_⟩:=ins_get I.hok e
  obtain ⟨u,hu,ru⟩:=RelO.some_of (v:=v) (o:=mA f) (by rw [← l]; exact r f)
  exact get_map I.kIn O (c.get f) c.hd n hu (handed_of ru) (h u _ (I.tok _) ru)
theorem getmeth_ok {m:Str} {g:Addr} {pl:Sem Bool} {Q:Value × List Value→Shared→Prop} (I:Inv X pins σ H s) (e:H a = some (.ins C dx fs)) (c:Cls X.K C) (k:Meth X.K C m g) (l:fs.lookup m = none)
    (h:Q (.ref g,[.ref a]) s):wpAny (model X.prog X.w) A (getMethod (.ref a) m pl) Q E s:=by
  obtain ⟨mA,O,r,_,_,_⟩:=ins_get I.hok e
  have hn:mA m = none:=RelO.none_of (by rw [← l]; exact r m)
  exact get_meth I.kIn O (c.get m) k.at_ k.fn hn h
theorem setattr_ok {y:V} {u:Value} {Q:Unit→Shared→Prop} (I:Inv X pins σ H s) (e:H a = some (.ins C dx fs)) (c:Cls X.K C) (n:NoAttr X.K C f) (hl:fs.length < 1000) (ry:RelV y u)
    (h:∀ s',Inv X pins σ (upd H a (.ins C dx (putF f y fs))) s'→Q () s'):wpAny (model X.prog X.w) A (setAttr (.ref a) f u) Q E s:=by
  obtain ⟨mA,O,r,wi,_,ho⟩:=ins_get I.hok e
  have hz:(fs.map (·.1)).length≤sizeLine:=by rw [List.length_map,sizeLine_eq]; omega
  refine set_map I.kIn O c.sa c.po n.taker c.hd wi hz fun h' O' sb=>h _ ?_
  have hd:∃ o,h'.get? dx = some o:=let ⟨o,_,_,e',_⟩:=O'.ns; ⟨o,e'⟩
  refine I.write (x:=a) (e:=dx) (by rw [e]; exact True.intro) (.inr ho) (fun b q hb z=>(sb.2 b hb).trans z) hd ?_
  refine ⟨by rw [upd_ne O.ne]; exact ho,?_,O.ne,O'.obj,_,O'.ns,fun g=>?_,fun g hg=>?_⟩
  · have:=length_putF f y fs; omega
  · show RelO ((putF f y fs).lookup g) (if g = f then some u else mA g)
    rw [lookup_putF]
    by_cases q:g = f
    · rw [if_pos q,if_pos q]; exact ry
    · rw [if_neg q,if_neg q]; exact r g
  · by_cases q:g = f
    · rw [q]; exact (keys_putF f y fs).1
    · refine (keys_putF f y fs).2 g (wi g fun z=>hg ?_)
      show (if g = f then some u else mA g) = none
      rw [if_neg q]; exact z
theorem Inv.made (I:Inv X pins σ H s):Inv X pins σ (upd (upd H s.heap.objs.size (.own (s.heap.objs.size + 1))) (s.heap.objs.size + 1) (.ins C s.heap.objs.size []))
    { s with heap:=(s.heap.push PySem.W.emptyDict).push (PySem.W.instObj C s.heap.objs.size) }:=by
  have e1:(s.heap.push PySem.W.emptyDict).get? s.heap.objs.size = some PySem.W.emptyDict:=Heap.get?_push_size s.heap rfl
  have e2:((s.heap.push PySem.W.emptyDict).push (PySem.W.instObj C s.heap.objs.size)).get? (s.heap.objs.size + 1) = some (PySem.W.instObj C s.heap.objs.size):=by
    have:=Heap.get?_push_size (s.heap.push PySem.W.emptyDict) (o:=PySem.W.instObj C s.heap.objs.size) rfl
    rwa [Heap.size_push] at this
  have e3:(s.heap.push PySem.W.emptyDict).Ns s.heap.objs.size (fun _=>none):=⟨PySem.W.emptyDict,#[],_,e1,rfl,(fun e he=>absurd he (by simp)),fun _=>rfl⟩
  have I1:=I.laid (a:=s.heap.objs.size) (o:=.own (s.heap.objs.size + 1)) (h':=s.heap.push PySem.W.emptyDict) (t':=s.toks) (fun b u q=>Heap.get?_push_of_some _ q) (Nat.le_refl _) ⟨_,e1⟩
  refine I1.laid (a:=s.heap.objs.size + 1) (o:=.ins C s.heap.objs.size []) (t':=s.toks) (fun b u q=>Heap.get?_push_of_some _ q) (Nat.le_of_eq (Heap.size_push _ _)) ?_
  have ne:s.heap.objs.size≠s.heap.objs.size + 1:=Nat.ne_of_lt (Nat.lt_succ_self _)
  refine ⟨by rw [upd_ne ne,upd_same],Nat.zero_le _,ne,e2,fun _=>none,(Heap.Ns1.of_empty e3).at fun o q=>Heap.get?_push_of_some _ q,fun _=>True.intro,fun y hy=>absurd rfl hy⟩
theorem attr_of {prog:Program} {w:World} {env:Env} {e:Expr} {f:Str} {pos:Pos} {s:Shared} {Q:Value→Shared→Prop} (hb:attributeBase e f env (eval e env) = eval e env)
    (h:wpAny (model prog w) A (eval e env) (fun o s₁=>wpAny (model prog w) A (getAttr o f true) Q E s₁) E s):wpAny (model prog w) A (eval (.Attribute e f pos) env) Q E s :=
  Attribute_any_ h (by rw [arm_eval_Attribute,hb])
end
def tFld (K:PySem.W.Frag) (ta:TE) (f:Str):TE:=fun σ H Q=>ta σ H fun x H1=>∃ a C dx fs v,x = .ref a∧H1 a = some (.ins C dx fs)∧Cls K C∧NoAttr K C f∧fs.lookup f = some v∧Q v H1
def sFld (K:PySem.W.Frag) (ta tv:TE) (f:Str):TS:=fun D σ H=>tv σ H fun y H1=>ta σ H1 fun x H2=>∃ a C dx fs,x = .ref a∧H2 a = some (.ins C dx fs)∧Cls K C∧NoAttr K C f∧fs.length < 1000 ∧
  D.nx σ (upd H2 a (.ins C dx (putF f y fs)))
section
variable {X:Cx} {o e value:Expr} {f:Str} {pos pos' tpos:Pos} {ta tv:TE}
theorem pe_fld (he:PE X e ta) (hb:attributeBase e f X.env (eval e X.env) = eval e X.env):PE X (.Attribute e f pos) (tFld X.K ta f):=by
  intro pins s σ H Q I h
  refine attr_of hb (thn (he pins s σ H _ I h) fun u s1 ⟨x,H1,I1,rx,a,C,dx,fs,v,ex,ea,c,n,l,q⟩=>?_)
  subst ex
  obtain rfl:u = Value.ref a:=rx
  exact getattr_ok I1 ea c n l fun u' s2 I2 ru=>⟨v,H1,I2,ru,q⟩
theorem ps_fld (ha:PE X o ta) (hv:PE X value tv) (hs:swapsWith value (some (.Attribute o f pos')) pos.line X.env = pure false):PS X (.Assign [.Attribute o f pos'] value pos) (sFld X.K ta tv f):=by
  intro pins s σ H D I h
  refine plainObj_wpAny_Assign_Attribute (thn (hv pins s σ H _ I h) fun u s1 ⟨y,H1,I1,ry,q⟩=>thn (ha pins s1 σ H1 _ I1 q) fun ov s2 ⟨x,H2,I2,rx,a,C,dx,fs,ex,ea,c,n,l,q2⟩=>?_) hs
  subst ex
  obtain rfl:ov = Value.ref a:=rx
  exact setattr_ok I2 ea c n l ry fun s3 I3=>⟨σ,_,I3,q2⟩
end
section
variable {X:Cx} {pins:List (Addr × Obj)} {σ:St} {H:Hp} {s:Shared} {A:Around} {E:Value→Shared→Prop} {Q:Value→Shared→Prop} {c:Value} {b:Bool}
inductive TyOf (K:PySem.W.Frag) (H:Hp):V→Value→Prop where
  | non:TyOf K H .non (.type "NoneType")
  | bl (x:Bool):TyOf K H (.bl x) (.type "bool")
  | int (i:Int):TyOf K H (.int i) (.type "int")
  | str (x:Str):TyOf K H (.str x) (.type "str")
  | flt (x:UInt64):TyOf K H (.flt x) (.type "float")
  | lst {a:Addr} {xs:List V} (e:H a = some (.lst xs)):TyOf K H (.ref a) (.type "list")
  | frz {a:Addr} {o:Obj} {xs:List V} (e:H a = some (.frz o (.lst xs))):TyOf K H (.ref a) (.type "list")
  | tup {a:Addr} {xs:List V} (e:H a = some (.tup xs)):TyOf K H (.ref a) (.type "tuple")
  | dK {a:Addr} {kvs:List (Key × V)} (e:H a = some (.dK kvs)):TyOf K H (.ref a) (.type "dict")
  | dT {a:Addr} {kvs:List (List Key × V)} (e:H a = some (.dT kvs)):TyOf K H (.ref a) (.type "dict")
  | ins {a C dx:Addr} {fs:List (Str × V)} (e:H a = some (.ins C dx fs)) (cl:Cls K C) (ha:PySem.W.findIn K (.ref C) "__class__" = some (some (.builtin "object.__class__")))
      (hn:PySem.W.specialIn K (.builtin "object.__class__") "__get__" = some (some (.builtin "getset_descriptor.__get__"))) (htk:PySem.W.takesIn K (.builtin "object.__class__") = some true)
      (hm:PySem.W.mroIn K C (.type "object") = some true):TyOf K H (.ref a) (.ref C)
theorem isinst_ok {x:V} {u t:Value} (I:Inv X pins σ H s) (rx:RelV x u) (ty:TyOf X.K H x t) (e:PySem.W.kitOne X.K t c = some b) (h:∀ tk,Q (.bool b) { s with toks:=tk }) :
    wpAny (model X.prog X.w) A (call (.builtin "isinstance") [u,c]) Q E s:=by
  cases ty with
  | non=>cases (show u = Value.none from rx); exact PySem.W.kia_one PySem.W.kitx_none I.kIn True.intro e (fun z=>nomatch z) h
  | bl y=>cases (show u = Value.bool y from rx); exact PySem.W.kia_one PySem.W.kitx_bool I.kIn True.intro e (fun z=>nomatch z) h
  | int i=>obtain ⟨t,q⟩:=(show ∃ t,u = Value.int i t from rx); cases q; exact PySem.W.kia_one PySem.W.kitx_int I.kIn True.intro e (fun z=>nomatch z) h
  | str y=>obtain ⟨t,q⟩:=(show ∃ t,u = Value.str y t from rx); cases q; exact PySem.W.kia_one PySem.W.kitx_str I.kIn True.intro e (fun z=>nomatch z) h
  | flt y=>obtain ⟨t,q⟩:=(show ∃ t,u = Value.float y t from rx); cases q; exact PySem.W.kia_one PySem.W.kitx_float I.kIn True.intro e (fun z=>nomatch z) h
  | @lst a xs ea =>
    cases (show u = Value.ref a from rx)
    obtain ⟨_,_,n,_,h1⟩:=(show ObjOk X.prog X.w H s.heap a (.lst xs) from I.hok a _ ea)
    exact PySem.W.kia_one PySem.W.kitx_list I.kIn ⟨_,h1,rfl⟩ e (fun z=>nomatch z) h
  | @frz a ob xs ea =>
    cases (show u = Value.ref a from rx)
    obtain ⟨_,_,_,n,_,h1⟩:=(show ObjOk X.prog X.w H s.heap a (.frz ob (.lst xs)) from I.hok a _ ea)
    exact PySem.W.kia_one PySem.W.kitx_list I.kIn ⟨_,h1,rfl⟩ e (fun z=>nomatch z) h
  | @tup a xs ea =>
    cases (show u = Value.ref a from rx)
    obtain ⟨_,_,_,p⟩:=(show ObjOk X.prog X.w H s.heap a (.tup xs) from I.hok a _ ea)
    obtain ⟨o,h1,h2,_⟩:=p
    exact PySem.W.kia_one PySem.W.kitx_tuple I.kIn ⟨o,h1,h2⟩ e (fun z=>nomatch z) h
  | @dK a kvs ea =>
    cases (show u = Value.ref a from rx)
    obtain ⟨_,_,vs,_,p⟩:=(show ObjOk X.prog X.w H s.heap a (.dK kvs) from I.hok a _ ea)
    obtain ⟨o,es,ep,h1,h2,_⟩:=p
    exact PySem.W.kia_one PySem.W.kitx_dict I.kIn ⟨o,h1,h2.1⟩ e (fun z=>nomatch z) h
  | @dT a kvs ea =>
    cases (show u = Value.ref a from rx)
    obtain ⟨_,_,xs,_,o,es,ep,h1,h2,_⟩:=(show ObjOk X.prog X.w H s.heap a (.dT kvs) from I.hok a _ ea)
    exact PySem.W.kia_one PySem.W.kitx_dict I.kIn ⟨o,h1,h2.1⟩ e (fun z=>nomatch z) h
  | @ins a C dx fs ea cl ha hn htk hm =>
    cases (show u = Value.ref a from rx)
    obtain ⟨mA,O,_⟩:=ins_get I.hok ea
    obtain ⟨od,J,_⟩:=O.look
    exact PySem.W.kia_one (PySem.W.kitx_own (cl.get _) cl.hd ha hn htk hm) I.kIn J e (fun z=>nomatch z) h
end
end L2
namespace L2
open PySem PySem.Spec PyProof.Rows
structure Room (k:Nat) (A:Around):Prop where
  hd:A.handled = none
  dp:A.depth + 3 * k + 5 < recursionLimit
  un:A.units + 16 * k + 200 < cLine
  gd:A.guards = some []
theorem Room.mono {j k:Nat} {A:Around} (r:Room k A) (h:j≤k):Room j A:=⟨r.hd,by have:=r.dp; omega,by have:=r.un; omega,r.gd⟩
theorem Room.deeper {k:Nat} {A:Around} (r:Room (k + 1) A) (env:Env):Room k (A.deeper env) :=
  ⟨r.hd,by have:=r.dp; show A.depth + 1 + 3 * k + 5 < _; omega,by have:=r.un; show A.units + 3 + 16 * k + 200 < _; omega,r.gd⟩
theorem Room.in1 {k:Nat} {A:Around} (r:Room (k + 1) A):Room k A.in1 :=
  ⟨r.hd,by have:=r.dp; show A.depth + 3 * k + 5 < _; omega,by have:=r.un; show A.units + 1 + 16 * k + 200 < _; omega,r.gd⟩
theorem make_depth {A:Around} {C:Addr} {us:List Value} {kw:List (Str × Value)}:(A.under (.builtin "type.__call__" ⟨.ref C :: us,kw⟩)).depth = A.depth + 1:=by
  first | rfl | simp [Around.under,Code.weight,Code.isCreation,Code.isGuard,Code.isCaller,Code.frames,Code.isFrame,guardIds]
theorem make_units {A:Around} {C:Addr} {us:List Value} {kw:List (Str × Value)}:(A.under (.builtin "type.__call__" ⟨.ref C :: us,kw⟩)).units = A.units + 1:=by
  first | rfl | simp [Around.under,Code.cUnits,Code.frames,Code.isFrame]
theorem make_guards {A:Around} {C:Addr} {us:List Value} {kw:List (Str × Value)} (h:A.guards = some []):(A.under (.builtin "type.__call__" ⟨.ref C :: us,kw⟩)).guards = some []:=by
  first | exact h | simp [Around.under,Code.guards,Code.isGuard,guardIds,pushGuards,h]
theorem Room.make {k:Nat} {A:Around} (r:Room (k + 1) A) (C:Addr) (us:List Value) (kw:List (Str × Value)):Room k (A.under (.builtin "type.__call__" ⟨.ref C :: us,kw⟩)) :=
  ⟨r.hd,by have:=r.dp; rw [make_depth]; omega,by have:=r.un; rw [make_units]; omega,make_guards r.gd⟩
theorem Room.depth {k:Nat} {A:Around} (r:Room k A):A.depth < recursionLimit:=by have:=r.dp; omega
theorem Room.units {k:Nat} {A:Around} (r:Room k A):A.units + 64 < cLine:=by have:=r.un; omega
def tNil:TA:=fun _ H Q=>Q [] H
def tCons (ta:TE) (tr:TA):TA:=fun σ H Q=>ta σ H fun x H1=>tr σ H1 fun xs H2=>Q (x :: xs) H2
section
variable {X:Cx} {e:Expr} {es:List Expr} {te:TE} {t:TA} {pos:Pos}
theorem pa_nil:PA X [] tNil:=fun _ _ _ _ H Q I h=>Calls.spliced_nil ⟨[],H,I,.nil,h⟩
theorem pa_cons (ha:PE X e te) (hr:PA X es t) (hs:starEach (e :: es) X.env = (false,eval e X.env) :: starEach es X.env:=by rfl):PA X (e :: es) (tCons te t):=by
  intro pos pins s σ H Q I h
  rw [hs]
  show wpAny _ _ (spliced ((false,eval e X.env) :: backTo pos (starEach es X.env))) _ _ s
  refine Calls.spliced_cons (thn (ha pins s σ H _ I h) fun u s1 ⟨x,H1,I1,r1,q1⟩=>?_)
  exact thn (hr pos pins s1 σ H1 _ I1 q1) fun us s2 ⟨xs,H2,I2,r2,q2⟩=>⟨x :: xs,H2,I2,.cons r1 r2,q2⟩
def tTup (t:TA):TE:=fun σ H Q=>t σ H fun xs H1=>xs.length≤sizeLine∧∀ p,H1 p = none→Q (.ref p) (upd H1 p (.tup xs))
def tLst (t:TA):TE:=fun σ H Q=>t σ H fun xs H1=>xs.length≤sizeLine∧∀ p,H1 p = none→Q (.ref p) (upd H1 p (.lst xs))
theorem pe_tup {x1} (h:PA X es t):PE X (.Tuple es x1 pos) (tTup t):=by
  intro pins s σ H Q I hq
  refine wpAny_Tuple_spliced (thn (h pos pins s σ H _ I hq) fun us s1 ⟨xs,H1,I1,r,z,q⟩=>⟨by rw [← r.length]; exact z,?_⟩)
  have hf:H1 s1.heap.objs.size = none:=I1.hok.fresh (Nat.le_refl _)
  refine ⟨.ref s1.heap.objs.size,upd H1 s1.heap.objs.size (.tup xs),I1.laid (t':=s1.toks) (fun b u e=>Heap.get?_push_of_some _ e) (Nat.le_refl _) ?_,rfl,q _ hf⟩
  exact ⟨z,us,r,⟨_,Heap.get?_push_size _ rfl,rfl,rfl,_,rfl⟩⟩
theorem pe_lst (h:PA X es t):PE X (.List es pos) (tLst t):=by
  intro pins s σ H Q I hq
  refine wpAny_List_spliced (thn (h pos pins s σ H _ I hq) fun us s1 ⟨xs,H1,I1,r,z,q⟩=>⟨by rw [← r.length]; exact z,?_⟩)
  have hf:H1 s1.heap.objs.size = none:=I1.hok.fresh (Nat.le_refl _)
  refine ⟨.ref s1.heap.objs.size,upd H1 s1.heap.objs.size (.lst xs),I1.laid (t':=s1.toks) (fun b u e=>Heap.get?_push_of_some _ e) (Nat.le_refl _) ?_,rfl,q _ hf⟩
  exact ⟨z,us,0,r,Heap.get?_push_size _ rfl⟩
end
abbrev Sp:=List V→Hp→VK→XK→Prop
abbrev CXT:=List Env→Hp→Shared→XK→Value→Shared→Prop
structure Env0 (P:Program) (w:World) (K:PySem.W.Frag) (mg:Str→Option Value) (base:Heap) (A:Around) (outer:List Env) (s:Shared) (H:Hp):Prop where
  frames:A.frames = some outer
  mod:Mod K mg base
  bs:∀ b o,base.get? b = some o→s.heap.get? b = some o∧H b = none
  bsz:base.objs.size≤s.heap.objs.size
  funs:s.heap.FunFrames base outer
  frf:∀ b∈frs outer,H b = none
  hok:HOk P w H s.heap
  bare:AllBare s.gens
def CE (outer:List Env) (P:Program) (w:World) (H:Hp) (s:Shared) (Q:VK) (u:Value) (s':Shared):Prop :=
  ∃ v H',s'.os = s.os∧AllBare s'.gens∧Un (frs outer) [] H H' s.heap s'.heap∧HOk P w H' s'.heap∧RelV v u∧Q v H'
def CR (CX:CXT) (outer:List Env) (P:Program) (w:World) (H:Hp) (s:Shared) (Q:VK) (E:XK) (r:Result) (s':Shared):Prop :=
  match r with
  | .ok (.ret u)=>CE outer P w H s Q u s'
  | .ok _=>False
  | .error e=>CX outer H s E e s'
structure FnOk (P:Program) (w:World) (K:PySem.W.Frag) (mg:Str→Option Value) (base:Heap) (CX:CXT) (k:Nat) (f:Addr) (fd:FuncData) (ps:List Str) (sp:Sp):Prop where
  len:∀ vs H Q E,sp vs H Q E→vs.length = ps.length
  run:∀ (A:Around) (outer:List Env) (s:Shared) (H:Hp) (args:Args) (us:List Value) (vs:List V) (Q:VK) (E:XK),Room k A→Env0 P w K mg base A outer s H→BindsTo s fd args (ps.zip us)→Vals vs us→sp vs H Q E →
    codeAny (model P w) A (.call (.ref f) args) (CR CX outer P w H s Q E) s
theorem FnOk.mono {P:Program} {w:World} {K:PySem.W.Frag} {mg:Str→Option Value} {base:Heap} {CX:CXT} {j k:Nat} {f:Addr} {fd:FuncData} {ps:List Str} {sp:Sp} (F:FnOk P w K mg base CX j f fd ps sp) (h:j≤k) :
    FnOk P w K mg base CX k f fd ps sp:=⟨F.len,fun A outer s H args us vs Q E hr=>F.run A outer s H args us vs Q E (hr.mono h)⟩
theorem FnOk.imp {P:Program} {w:World} {K:PySem.W.Frag} {mg:Str→Option Value} {base:Heap} {CX:CXT} {k:Nat} {f:Addr} {fd:FuncData} {ps:List Str} {sp sp':Sp} (F:FnOk P w K mg base CX k f fd ps sp)
    (h:∀ vs H Q E,sp' vs H Q E→sp vs H Q E):FnOk P w K mg base CX k f fd ps sp' :=
  ⟨fun vs H Q E q=>F.len vs H Q E (h _ _ _ _ q),fun A outer s H args us vs Q E hr he hb hv hs=>F.run A outer s H args us vs Q E hr he hb hv (h _ _ _ _ hs)⟩
theorem Env0.make {P:Program} {w:World} {K:PySem.W.Frag} {mg:Str→Option Value} {base:Heap} {A:Around} {outer:List Env} {s:Shared} {H:Hp} (e:Env0 P w K mg base A outer s H) (C:Addr) (us:List Value) (kw:List (Str × Value)) :
    Env0 P w K mg base (A.under (.builtin "type.__call__" ⟨.ref C :: us,kw⟩)) outer s H:=⟨by first | exact e.frames | (simpa [Around.under,Code.envs,Code.isFrame,pushEnvs] using e.frames),e.mod,e.bs,e.bsz,e.funs,e.frf,e.hok,e.bare⟩
theorem Env0.in1 {P:Program} {w:World} {K:PySem.W.Frag} {mg:Str→Option Value} {base:Heap} {A:Around} {outer:List Env} {s:Shared} {H:Hp} (e:Env0 P w K mg base A outer s H) :
    Env0 P w K mg base A.in1 outer s H:=⟨e.frames,e.mod,e.bs,e.bsz,e.funs,e.frf,e.hok,e.bare⟩
section
variable {X:Cx} {pins:List (Addr × Obj)} {σ:St} {H:Hp} {s s':Shared}
theorem Inv.env0 (I:Inv X pins σ H s):Env0 X.prog X.w X.K X.mg X.base X.A X.stack s H :=
  ⟨I.ok.frames,I.ok.mod,I.bs,Nat.le_trans I.ok.bsz I.sz,I.stack,I.stkFree,I.hok,I.bare⟩
theorem Inv.after {Q:VK} {u:Value} (I:Inv X pins σ H s) (h:CE X.stack X.prog X.w H s Q u s'):EP X pins σ Q u s':=by
  obtain ⟨v,H',os,bare,un,hok,r,q⟩:=h
  obtain ⟨hh,g,d,t,os'⟩:=s'
  obtain rfl:os' = s.os:=os
  exact ⟨v,H',I.call (h':=hh) (g':=g) (d':=d) (t':=t) (ch:=[]) un hok bare (fun b z=>absurd z (by simp)),r,q⟩
end
def tCall (sp:Sp) (dvs:List V) (E:XK) (t:TA):TE:=fun σ H Q=>t σ H fun vs H1=>sp (vs ++ dvs) H1 Q E
def tMeth (C:Addr) (m:Str) (sp:Sp) (dvs:List V) (E:XK) (ta:TE) (t:TA):TE:=fun σ H Q=>ta σ H fun x H1=>∃ a dx fs,x = .ref a∧H1 a = some (.ins C dx fs)∧fs.lookup m = none ∧
  t σ H1 fun vs H2=>sp (x :: (vs ++ dvs)) H2 Q E
def tMake (C:Addr) (sp:Sp) (dvs:List V) (E:XK) (t:TA):TE:=fun σ H Q=>t σ H fun vs H1=>∀ x dx,H1 x = none→H1 dx = none→dx≠x →
  sp (.ref x :: (vs ++ dvs)) (upd (upd H1 dx (.own x)) x (.ins C dx [])) (fun v H2=>v = .non∧Q (.ref x) H2) E
def Binds (K:PySem.W.Frag) (fd:FuncData) (ps:List Str) (ds:List Value):Prop :=
  ∀ (s:Shared) (us:List Value),K.In s.heap→(us ++ ds).length = ps.length→BindsTo s fd ⟨us,[]⟩ (ps.zip (us ++ ds))
theorem Binds.all {K:PySem.W.Frag} {fd:FuncData} {ps:List Str} (h:∀ us:List Value,us.length = ps.length→bindArgs fd ⟨us,[]⟩ = pure (ps.zip us)):Binds K fd ps []:=fun s us _ hl=>by
  rw [List.append_nil] at hl ⊢
  exact .of_eq (h us hl)
def Passes (CX:CXT) (X:Cx) (E:XK):Prop:=∀ (pins:List (Addr × Obj)) (σ:St) (H:Hp) (s:Shared) (e:Value) (s':Shared),Inv X pins σ H s→CX X.stack H s E e s'→X.xe e s'
section
variable {X:Cx} {CX:CXT} {k:Nat} {f C:Addr} {fd:FuncData} {ps:List Str} {sp:Sp} {dvs:List V} {ds:List Value} {E:XK} {x m:Str} {p pos apos:Pos} {e o:Expr} {es:List Expr} {ta:TE} {t:TA}
theorem run_fn {pins:List (Addr × Obj)} {σ:St} {H:Hp} {s:Shared} {Q:VK} {us:List Value} {vs:List V} (F:FnOk X.prog X.w X.K X.mg X.base CX k f fd ps sp) (hr:Room k X.A) (hb:Binds X.K fd ps ds) (hd:Vals dvs ds) (hx:Passes CX X E)
    (I:Inv X pins σ H s) (r:Vals vs us) (h:sp (vs ++ dvs) H Q E):wpAny (model X.prog X.w) X.A (call (.ref f) us) (EP X pins σ Q) X.xe s:=by
  have r2:Vals (vs ++ dvs) (us ++ ds):=r.append hd
  have hl:(us ++ ds).length = ps.length:=by rw [← r2.length]; exact F.len _ _ _ _ h
  refine wpAny_call (codeAny_mono (F.run X.A X.stack s H ⟨us,[]⟩ (us ++ ds) (vs ++ dvs) Q E hr I.env0 (hb s us I.kIn hl) r2 h) fun r s' hq=>?_)
  cases r with
  | error e=>exact hx pins σ H s e s' I hq
  | ok fl =>
    cases fl with
    | ret u=>exact I.after hq
    | next=>exact False.elim hq
    | brk=>exact False.elim hq
    | cont=>exact False.elim hq
theorem pe_call (F:FnOk X.prog X.w X.K X.mg X.base CX k f fd ps sp) (hr:Room k X.A) (hg:Gl X x) (hm:X.mg x = some (.ref f)) (hk:PySem.W.keepIn X.K (.ref f) = true) (hb:Binds X.K fd ps ds) (hd:Vals dvs ds) (hx:Passes CX X E)
    (ha:PA X (e :: es) t) (hdb:(x == ("__debug__":Str)) = false:=by decide) (he:starEach (e :: es) X.env = (false,eval e X.env) :: starEach es X.env:=by rfl) (hpl:(backTo pos (starEach es X.env)).any (·.1) = false:=by rfl) :
    PE X (.Call (.Name x p) (e :: es) [] pos) (tCall sp dvs E t):=by
  intro pins s σ H Q I h
  refine wpAny_Call_Name_kw (ld_glob I hg hm ?_ hdb)
  refine PySem.W.callWith_K (h₀:=X.base) I.ok.mod.kin hk (thn (ha pos pins s σ H _ I h) fun us s1 ⟨vs,H1,I1,r,q⟩=>⟨I1.kIn,?_⟩) he hpl
  exact run_fn F hr hb hd hx I1 r q
theorem pe_meth {pl:Sem Bool} (he:PE X o ta) (c:Cls X.K C) (hm:Meth X.K C m f) (F:FnOk X.prog X.w X.K X.mg X.base CX k f fd ps sp) (hr:Room k X.A) (hb:Binds X.K fd ps ds) (hd:Vals dvs ds) (hx:Passes CX X E) (ha:PA X (e :: es) t)
    (hst:starEach (e :: es) X.env = (false,eval e X.env) :: starEach es X.env:=by rfl) (hpl:(backTo pos (starEach es X.env)).any (·.1) = false:=by rfl)
    (ht:eval (.Call (.Attribute o m apos) (e :: es) [] pos) X.env = (do
      let ov ← eval o X.env
      standAt apos.atName
      let (f,first) ← holding [ov] (getMethod ov m pl)
      callWith pos f first (backTo pos (starEach (e :: es) X.env)) (backToKw pos (keywordEach [] X.env))):=by rfl) :
    PE X (.Call (.Attribute o m apos) (e :: es) [] pos) (tMeth C m sp dvs E ta t):=by
  intro pins s σ H Q I h
  refine PySem.W.methodCall_KW (pl:=pl) (thn (he pins s σ H _ I h) fun u s1 ⟨x,H1,I1,rx,a,dx,fs,ex,ea,l,q⟩=>?_) ht
  subst ex
  obtain rfl:u = Value.ref a:=rx
  refine getmeth_ok I1 ea c hm l ?_
  refine PySem.W.callWith_K (first:=[.ref a]) (h₀:=X.base) I.ok.mod.kin hm.kp (thn (ha pos pins s1 σ H1 _ I1 q) fun us s2 ⟨vs,H2,I2,r,q2⟩=>⟨I2.kIn,?_⟩) hst hpl
  exact run_fn (us:=.ref a :: us) (vs:=.ref a :: vs) F hr hb hd hx I2 (.cons rfl r) q2
theorem pe_meth0 {pl:Sem Bool} (he:PE X o ta) (c:Cls X.K C) (hm:Meth X.K C m f) (F:FnOk X.prog X.w X.K X.mg X.base CX k f fd ps sp) (hr:Room k X.A) (hb:Binds X.K fd ps ds) (hd:Vals dvs ds) (hx:Passes CX X E)
    (ht:eval (.Call (.Attribute o m apos) [] [] pos) X.env = (do
      let ov ← eval o X.env
      standAt apos.atName
      let (f,first) ← holding [ov] (getMethod ov m pl)
      callWith pos f first (backTo pos (starEach [] X.env)) (backToKw pos (keywordEach [] X.env))):=by rfl) :
    PE X (.Call (.Attribute o m apos) [] [] pos) (tMeth C m sp dvs E ta tNil):=by
  intro pins s σ H Q I h
  refine PySem.W.methodCall_KW (pl:=pl) (thn (he pins s σ H _ I h) fun u s1 ⟨x,H1,I1,rx,a,dx,fs,ex,ea,l,q⟩=>?_) ht
  subst ex
  obtain rfl:u = Value.ref a:=rx
  refine getmeth_ok I1 ea c hm l ?_
  exact PySem.W.callWith_K0 (first:=[.ref a]) I1.kIn hm.kp (run_fn (us:=[.ref a]) (vs:=[.ref a]) F hr hb hd hx I1 (.cons rfl .nil) q)
structure Mk (K:PySem.W.Frag) (C f:Addr):Prop where
  makes:PySem.W.makesIn K C = true
  init:PySem.W.findIn K (.ref C) "__init__" = some (some (.ref f))
  fn:PySem.W.isFn K (.ref f) = true
  kp:PySem.W.keepIn K (.ref C) = true
theorem run_make {pins:List (Addr × Obj)} {σ:St} {H:Hp} {s:Shared} {Q:VK} {us:List Value} {vs:List V} (M:Mk X.K C f) (F:FnOk X.prog X.w X.K X.mg X.base CX k f fd ps sp) (hr:Room (k + 1) X.A) (hb:Binds X.K fd ps ds) (hd:Vals dvs ds)
    (hx:Passes CX X E) (I:Inv X pins σ H s) (r:Vals vs us)
    (h:∀ x dx,H x = none→H dx = none→dx≠x→sp (.ref x :: (vs ++ dvs)) (upd (upd H dx (.own x)) x (.ins C dx [])) (fun v H2=>v = .non∧Q (.ref x) H2) E) :
    wpAny (model X.prog X.w) X.A (call (.ref C) us) (EP X pins σ Q) X.xe s:=by
  have hq:=h (s.heap.objs.size + 1) s.heap.objs.size (I.hok.fresh (Nat.le_succ _)) (I.hok.fresh (Nat.le_refl _)) (Nat.ne_of_lt (Nat.lt_succ_self _))
  have I2:=Inv.made (C:=C) I
  have r2:Vals (V.ref (s.heap.objs.size + 1) :: (vs ++ dvs)) (Value.ref (s.heap.objs.size + 1) :: (us ++ ds)):=.cons rfl (r.append hd)
  have hl:(Value.ref (s.heap.objs.size + 1) :: us ++ ds).length = ps.length:=by
    have e:=r2.length
    rw [F.len _ _ _ _ hq] at e
    exact e.symm
  refine wpAny_call (make_map (f:=f) I.kIn M.makes M.init (beq_iff_eq.mp M.fn) (codeAny_mono (F.run _ X.stack _ _ ⟨Value.ref (s.heap.objs.size + 1) :: us,[]⟩ (Value.ref (s.heap.objs.size + 1) :: (us ++ ds)) _ _ E (hr.make C us [])
    (I2.env0.make C us []) (hb _ (Value.ref (s.heap.objs.size + 1) :: us) I2.kIn hl) r2 hq) fun r s' hq'=>?_))
  cases r with
  | error e=>exact hx pins σ _ _ e s' I2 hq'
  | ok fl =>
    cases fl with
    | ret u =>
      obtain ⟨v,H',I3,rv,ev,q3⟩:=I2.after hq'
      subst ev
      exact ⟨rv,⟨V.ref (s.heap.objs.size + 1),H',I3,rfl,q3⟩⟩
    | next=>exact False.elim hq'
    | brk=>exact False.elim hq'
    | cont=>exact False.elim hq'
theorem pe_make0 (M:Mk X.K C f) (F:FnOk X.prog X.w X.K X.mg X.base CX k f fd ps sp) (hr:Room (k + 1) X.A) (hg:Gl X x) (hm:X.mg x = some (.ref C)) (hb:Binds X.K fd ps ds) (hd:Vals dvs ds) (hx:Passes CX X E)
    (hdb:(x == ("__debug__":Str)) = false:=by decide):PE X (.Call (.Name x p) [] [] pos) (tMake C sp dvs E tNil):=by
  intro pins s σ H Q I h
  refine wpAny_Call_Name_kw (ld_glob I hg hm ?_ hdb)
  exact PySem.W.callWith_K0 I.kIn M.kp (run_make (us:=[]) M F hr hb hd hx I .nil h)
end
section
variable {X:Cx} {CX:CXT} {k:Nat} {f C:Addr} {fd:FuncData} {ps ks:List Str} {sp:Sp} {E:XK} {x m:Str} {p pos apos kpos:Pos} {e o:Expr} {es:List Expr} {kws:List Keyword} {te ta:TE} {t tk:TA} {nm:Option Str}
variable {g:List Value→List Value→List Value} {gV:List V→List V→List V}
end
structure FnScope (N P:List Str) (sc:Scope):Prop where
  kind:sc.kind = .function
  co:sc.isCoroutine = false
  gen:sc.isGenerator = false
  nd:N.Nodup
  pre:N.take P.length = P
  par:∀ x∈P,sc.names.lookup x = some .local∨sc.names.lookup x = some .cell
  nofree:∀ y∈sc.names,y.2≠.free
theorem bindL_out {kindOf:Str→Option NameKind} {x:Str}:∀ {binds:List (Str × Value)} {m:Str→Option Value},(∀ v,(x,v) ∉ binds)→bindL kindOf binds m x = m x
  | [],_,_=>rfl
  | (n,v) :: r,m,h=>by
    unfold bindL
    rw [bindL_out fun w hw=>h w (List.mem_cons_of_mem _ hw)]
    split
    · have:x≠n:=by rintro rfl; exact h v List.mem_cons_self
      simp [this]
    · rfl
theorem bindC_out {kindOf:Str→Option NameKind} {x:Str}:∀ {binds:List (Str × Value)} {m:Str→Option Value},(∀ v,(x,v) ∉ binds)→bindC kindOf binds m x = m x
  | [],_,_=>rfl
  | (n,v) :: r,m,h=>by
    unfold bindC
    rw [bindC_out fun w hw=>h w (List.mem_cons_of_mem _ hw)]
    split
    · rfl
    · have:x≠n:=by rintro rfl; exact h v List.mem_cons_self
      simp [this]
theorem bindL_get {kindOf:Str→Option NameKind} {x:Str} {v:Value}:∀ {P:List Str} {vs:List Value} {i:Nat} {m:Str→Option Value},P.Nodup→P[i]? = some x→vs[i]? = some v→kindOf x = some .local →
    bindL kindOf (P.zip vs) m x = some v
  | [],_,_,_,_,h,_,_=>by simp at h
  | _ :: _,[],_,_,_,_,h,_=>by simp at h
  | p :: P,w :: vs,0,m,nd,h1,h2,hk=>by
    simp at h1 h2; subst h1; subst h2
    show bindL kindOf ((p,w) :: P.zip vs) m p = _
    unfold bindL
    rw [bindL_out fun v hv=>(List.nodup_cons.mp nd).1 (List.of_mem_zip hv).1,if_pos hk]
    simp
  | p :: P,w :: vs,i + 1,m,nd,h1,h2,hk=>by
    show bindL kindOf ((p,w) :: P.zip vs) m x = _
    unfold bindL
    exact bindL_get (i:=i) (List.nodup_cons.mp nd).2 (by simpa using h1) (by simpa using h2) hk
theorem bindC_get {kindOf:Str→Option NameKind} {x:Str} {v:Value}:∀ {P:List Str} {vs:List Value} {i:Nat} {m:Str→Option Value},P.Nodup→P[i]? = some x→vs[i]? = some v→kindOf x≠some .local →
    bindC kindOf (P.zip vs) m x = some v
  | [],_,_,_,_,h,_,_=>by simp at h
  | _ :: _,[],_,_,_,_,h,_=>by simp at h
  | p :: P,w :: vs,0,m,nd,h1,h2,hk=>by
    simp at h1 h2; subst h1; subst h2
    show bindC kindOf ((p,w) :: P.zip vs) m p = _
    unfold bindC
    rw [bindC_out fun v hv=>(List.nodup_cons.mp nd).1 (List.of_mem_zip hv).1,if_neg hk]
    simp
  | p :: P,w :: vs,i + 1,m,nd,h1,h2,hk=>by
    show bindC kindOf ((p,w) :: P.zip vs) m x = _
    unfold bindC
    exact bindC_get (i:=i) (List.nodup_cons.mp nd).2 (by simpa using h1) (by simpa using h2) hk
def start (N:List Str) (vs:List V):St:=vs.map some ++ List.replicate (N.length - vs.length) none
def cxOf (CX:CXT) (P:Program) (w:World) (K:PySem.W.Frag) (mg:Str→Option Value) (base:Heap) (N:List Str) (qual:Str) (scope:Scope) (f:Addr) (cd:Value) (A:Around) (outer:List Env) (s:Shared) (H:Hp) (E:XK):Cx where
  prog:=P
  w:=w
  K:=K
  mg:=mg
  base:=base
  A:=A.deeper (envOfC qual scope s.heap.objs.size f cd)
  N:=N
  s₀:=s
  H₀:=H
  env:=envOfC qual scope s.heap.objs.size f cd
  outer:=outer
  stack:=envOfC qual scope s.heap.objs.size f cd :: outer
  ex:=[]
  calm:=true
  fn:=fun _=>true
  pn:=[]
  xe:=fun e s'=>wpAny (model P w) (A.deeper (envOfC qual scope s.heap.objs.size f cd)) (leaving (envOfC qual scope s.heap.objs.size f cd) e) (fun _ s''=>CX outer H s E e s'') (fun e' s''=>CX outer H s E e' s'') s'
theorem cell_has {sc:Scope} {n:Nat} {x:Str} (h:sc.names.lookup x = some .cell):∃ c,(cellsFrom n sc.names []).lookup x = some c:=by
  have q:=PySem.W.cellsFrom_some sc.names n [] (.inl h)
  exact Option.isSome_iff_exists.mp q
theorem inv_start {CX:CXT} {P:Program} {w:World} {K:PySem.W.Frag} {mg:Str→Option Value} {base:Heap} {N ps:List Str} {qual:Str} {scope:Scope} {f:Addr} {cd:Value} {A:Around} {outer:List Env} {s s1:Shared} {H:Hp} {E:XK} {us:List Value} {vs:List V}
    (S:FnScope N ps scope) (hd:A.handled = none) (e0:Env0 P w K mg base A outer s H) (hl:vs.length = ps.length) (r:Vals vs us)
    (x:InCallC s s.heap.objs.size (bindL (envOfC qual scope s.heap.objs.size f cd).kindOf (ps.zip us) fun _=>none) (cellsFrom (s.heap.objs.size + 1) scope.names []) (bindC (envOfC qual scope s.heap.objs.size f cd).kindOf (ps.zip us) fun _=>none) s1) :
    Inv (cxOf CX P w K mg base N qual scope f cd A outer s H E) [] (start N vs) H s1:=by
  have hpl:ps.length≤N.length:=by have:=congrArg List.length S.pre; rw [List.length_take] at this; omega
  obtain ⟨h1,tk,rfl,hk⟩:=x.done
  have noA:∀ b:Addr,b ∉ (cxOf CX P w K mg base N qual scope f cd A outer s H E).ex:=fun b z=>absurd (show b∈([]:List Addr) from z) (by simp)
  refine ⟨⟨e0.mod,S.kind,rfl,rfl,Nat.le_refl _,fun y z c h1 h2=>?_,fun y hy=>?_,fun y c _ h=>?_,fun _=>hd,Around.frames_deeper e0.frames,.inr ⟨rfl,rfl⟩,fun b z=>absurd z (noA b),e0.bs,e0.bsz,fun b _ _=>noA b,fun b z=>absurd z (noA b),e0.funs,e0.frf⟩,
    rfl,e0.bare,Un.kept hk,⟨_,x.toInCall.ns,fun i y v h1 h2 h3=>?_⟩,fun y c h=>⟨_,x.cell y c h⟩,e0.hok.fresh (Nat.le_refl _),fun y c h=>?_,fun p hp=>absurd (show p∈([]:List (Addr × Obj)) from hp) (by simp),e0.hok.kept hk,?_⟩
  · exact name_of_addr x.apart (PySem.mem_of_lookup h1) (PySem.mem_of_lookup h2)
  · have hy:scope.names.lookup y = some .cell∨scope.names.lookup y = some .free:=hy
    rcases hy with hy | hy
    · exact cell_has hy
    · exact absurd rfl (S.nofree _ (PySem.mem_of_lookup hy))
  · exact Nat.le_of_lt (x.above y c (PySem.mem_of_lookup h))
  · have hi:i < vs.length:=by
      unfold start at h2
      by_cases hi:i < vs.length
      · exact hi
      · rw [List.getElem?_append_right (by simpa using hi)] at h2
        rw [List.getElem?_replicate] at h2
        split at h2 <;> cases h2
    have ha:vs[i]? = some v:=by
      unfold start at h2
      rw [List.getElem?_append_left (by simpa using hi),List.getElem?_map] at h2
      cases e:vs[i]? with
      | none=>rw [e] at h2; cases h2
      | some a=>rw [e] at h2; cases h2; rfl
    obtain ⟨u,hu,rv⟩:=r.get ha
    have hp:ps[i]? = some y:=by
      rw [← S.pre,List.getElem?_take_of_lt (by omega)]; exact h1
    have ndP:ps.Nodup:=by rw [← S.pre]; exact S.nd.sublist (List.take_sublist _ _)
    refine ⟨u,rv,?_⟩
    rcases S.par y (List.mem_of_getElem? hp) with k | k
    · exact .inl ⟨k,bindL_get ndP hp hu k⟩
    · obtain ⟨c,e⟩:=cell_has (n:=s.heap.objs.size + 1) k
      refine .inr ⟨.inl k,c,e,?_⟩
      have q:=x.cell y c e
      rw [bindC_get ndP hp hu (by show scope.names.lookup y≠_; rw [k]; decide)] at q
      exact q
  · exact e0.hok.fresh (Nat.le_of_lt (x.above y c (PySem.mem_of_lookup h)))
  · unfold start
    show _ = N.length
    rw [List.length_append,List.length_map,List.length_replicate]
    omega
theorem fn_of {CX:CXT} {P:Program} {w:World} {K:PySem.W.Frag} {mg:Str→Option Value} {base:Heap} {k:Nat} {f:Addr} {name qual:Str} {params:Arguments} {body:List Stmt} {scope:Scope} {dV kV doc pm cdv ct oc:Value} {an od:Option Addr}
    {osl:Array (Option Value)} {N ps:List Str} {sp:Sp} (lk:K.lookup f = some ⟨oc,od,.func (PySem.W.fnOf name qual params body scope dV kV doc pm an cdv ct),osl⟩) (hcd:PySem.W.codeIn K cdv qual = true) (S:FnScope N ps scope)
    (len:∀ vs H Q E,sp vs H Q E→vs.length = ps.length)
    (hbody:∀ (A:Around) (outer:List Env) (s:Shared) (H:Hp) (vs:List V) (Q:VK) (E:XK),Room k (A.deeper (envOfC qual scope s.heap.objs.size f cdv))→sp vs H Q E →
      ∃ t,PSs (cxOf CX P w K mg base N qual scope f cdv A outer s H E) body t∧t { nx:=fun _ H'=>Q .non H',rt:=Q } (start N vs) H) :
    FnOk P w K mg base CX (k + 1) f (PySem.W.fnOf name qual params body scope dV kV doc pm an cdv ct) ps sp:=by
  refine ⟨len,fun A outer s H args us vs Q E hr e0 hb r hsp=>?_⟩
  have hl:=len _ _ _ _ hsp
  have KX:K.In s.heap:=e0.mod.kin.keeps fun b o e=>(e0.bs b o e).1
  have lim:s.heap.NoLimit:=e0.mod.nolimit.keeps fun b o e=>(e0.bs b o e).1
  have hkind:∀ y∈ps.zip us,scope.names.lookup y.1 = some .local∨(scope.names.lookup y.1 = some .cell∧((cellsFrom (s.heap.objs.size + 1) scope.names []).lookup y.1).isSome = true):=fun ⟨n,v⟩ hy=>by
    rcases S.par n (List.of_mem_zip hy).1 with q | q
    · exact .inl q
    · exact .inr ⟨q,PySem.W.cellsFrom_some _ _ _ (.inl q)⟩
  refine codeAny_call_function hr.depth (KX _ _ lk) rfl S.co S.gen rfl (PySem.W.codeRec_of KX hcd) (hb _ _ _ _ ?_)
  refine wpAny_newFunctionEnv_cells S.kind hkind fun env he s1 x=>?_
  subst he
  refine ⟨lim.keeps x.toInCall.keep,codeAny_func ?_⟩
  obtain ⟨t,ht,hq⟩:=hbody A outer s H vs Q E (hr.deeper _) hsp
  have I:Inv (cxOf CX P w K mg base N qual scope f cdv A outer s H E) [] (start N vs) H s1:=inv_start S hr.hd e0 hl r x
  refine wpAny_mono (ht [] s1 (start N vs) H _ I hq) (fun fl s' hs=>?_) fun e s' hs=>hs
  have fin:∀ {σ':St} {H':Hp} {v:V} {u:Value},Inv (cxOf CX P w K mg base N qual scope f cdv A outer s H E) [] σ' H' s'→RelV v u→Q v H'→CE outer P w H s Q u s' :=
    fun {σ' H' v u} J rv q=>⟨v,H',J.os,J.bare,J.base,J.hok,rv,q⟩
  cases fl with
  | ret u =>
    obtain ⟨v,σ',H',J,rv,q⟩:=hs
    exact fin J rv q
  | next =>
    obtain ⟨σ',H',J,q⟩:=hs
    exact fin (v:=V.non) (u:=Value.none) J rfl q
  | brk =>
    obtain ⟨_,_,_,q⟩:=hs
    exact False.elim q
  | cont =>
    obtain ⟨_,_,_,q⟩:=hs
    exact False.elim q
end L2
namespace L2
open PySem PySem.Spec PyProof.Rows
section
variable {X:Cx} {x:Str} {p pos:Pos} {e:Expr} {es:List Expr} {t:TA} {id T:String} {r:List V→Hp→VK→Prop}
def tCB (r:List V→Hp→VK→Prop) (t:TA):TE:=fun σ H Q=>t σ H fun vs H1=>r vs H1 Q
theorem pe_callB (hc:CallR X (.builtin id) r) (hg:Gl X x) (hm:X.mg x = none) (hv:bootBuiltins x = some (.builtin id)) (ha:PA X (e :: es) t) (hn:x ≠ "__name__":=by decide) (hdb:(x == ("__debug__":Str)) = false:=by decide)
    (he:starEach (e :: es) X.env = (false,eval e X.env) :: starEach es X.env:=by rfl) (hpl:(backTo pos (starEach es X.env)).any (·.1) = false:=by rfl):PE X (.Call (.Name x p) (e :: es) [] pos) (tCB r t):=by
  intro pins s σ H Q I h
  refine wpAny_Call_Name_kw (ld_blt I hg hm hv ?_ hn hdb)
  exact PyProof.Rows.callWith_builtin1 (thn (ha pos pins s σ H _ I h) fun us s1 ⟨vs,H1,I1,r1,q1⟩=>hc pins s1 σ H1 vs us Q I1 r1 q1) he hpl
theorem pe_callTy (hc:CallR X (.type T) r) (hg:Gl X x) (hm:X.mg x = none) (hv:bootBuiltins x = some (.type T)) (ha:PA X (e :: es) t) (hn:x ≠ "__name__":=by decide) (hdb:(x == ("__debug__":Str)) = false:=by decide)
    (he:starEach (e :: es) X.env = (false,eval e X.env) :: starEach es X.env:=by rfl) (hpl:(backTo pos (starEach es X.env)).any (·.1) = false:=by rfl):PE X (.Call (.Name x p) (e :: es) [] pos) (tCB r t):=by
  intro pins s σ H Q I h
  refine wpAny_Call_Name_kw (ld_blt I hg hm hv ?_ hn hdb)
  exact PyProof.Rows.callWith_type1 (thn (ha pos pins s σ H _ I h) fun us s1 ⟨vs,H1,I1,r1,q1⟩=>hc pins s1 σ H1 vs us Q I1 r1 q1) he hpl
end
end L2
namespace HT
open PySem PyProof.Rows
section
open PySem.SeqAt
open PySem.AutoSeq1 (wpAny_loadPart')
open PySem.MeetsSeq PySem.MeetsSeq2 PySem.MeetsSeq3
end
section
variable {prog:Program} {w:World} {A:Around} {E:Value→Shared→Prop} {s:Shared}
theorem cat_tup {t b:Addr} {vs ws:List Value} {Q:Value→Shared→Prop} (ht:IsTup s.heap t vs.toArray) (hb:IsTup s.heap b ws.toArray) (hv:vs≠[])
    (h1:ws = []→Q (.ref t) s) (h2:ws≠[]→Q (.ref s.heap.objs.size) { s with heap:=s.heap.push { cls:=.type "tuple",data:=.seq (vs ++ ws).toArray } })
    (hsz:vs.length + ws.length≤sizeLine):wpAny (model prog w) A (binaryOp .Add (.ref t) (.ref b)) Q E s:=by
  obtain ⟨⟨cls,dd,data,sl⟩,ho,hc,n,hd⟩:=id ht
  obtain ⟨⟨cls2,dd2,data2,sl2⟩,ho2,hc2,n2,hd2⟩:=id hb
  simp only at hc hd hc2 hd2
  subst hc hd hc2 hd2
  have e:vs.toArray ++ ws.toArray = (vs ++ ws).toArray:=by simp
  by_cases hw:ws = []
  · exact concat_meets ⟨_,ho,rfl⟩ ⟨_,ho2,rfl⟩ noFill_tuple_add seq_tuple_add PySem.F.slot_tuple_add PySem.F.entry_tuple_add (PySem.F.args_tuple_add_2 _ _)
      (tuple_addW1 t b vs.toArray ws.toArray n n2 dd dd2 sl sl2 (by simpa using hv) (by simp [hw])) ⟨ho,ho2,h1 hw⟩
  · refine concat_meets ⟨_,ho,rfl⟩ ⟨_,ho2,rfl⟩ noFill_tuple_add seq_tuple_add PySem.F.slot_tuple_add PySem.F.entry_tuple_add (PySem.F.args_tuple_add_2 _ _)
      (tuple_addW2 t b vs.toArray ws.toArray n n2 dd dd2 sl sl2 (by simpa using hv) (by simpa using hw) (by rw [List.size_toArray,List.size_toArray]; exact hsz)) ⟨ho,ho2,?_⟩
    rw [e]
    exact h2 hw
def sIx (n d:Nat):Option Int→Nat
  | none=>d
  | some v=>if v < 0 then (v + (n:Int)).toNat else min v.toNat n
theorem sIx_none (n d:Nat):sIx n d none = d:=rfl
theorem sIx_nat (n d k:Nat):sIx n d (some (k:Int)) = min k n:=by
  show (if (k:Int) < 0 then ((k:Int) + (n:Int)).toNat else min (k:Int).toNat n) = min k n
  rw [if_neg (by omega),Int.toNat_natCast]
theorem sIx_le (n d:Nat) (hd:d≤n) (o:Option Int):sIx n d o≤n:=by
  cases o with
  | none=>exact hd
  | some v =>
    show (if v < 0 then (v + (n:Int)).toNat else min v.toNat n)≤n
    by_cases hv:v < 0
    · rw [if_pos hv]; omega
    · rw [if_neg hv]; exact Nat.min_le_right _ _
theorem clip_eq (v:Int) (n d:Nat):(if v < 0 then max (v + (n:Int)) 0 else min v (n:Int)) = ((sIx n d (some v):Nat):Int):=by
  show (if v < 0 then max (v + (n:Int)) 0 else min v (n:Int)) = (((if v < 0 then (v + (n:Int)).toNat else min v.toNat n):Nat):Int)
  by_cases hv:v < 0
  · simp only [if_pos hv]; omega
  · simp only [if_neg hv]; omega
theorem adjust_gen (lo hi:Option Int) (n:Nat):Builtin.Slice.sliceAdjust lo hi 1 (n:Int) = (((sIx n 0 lo:Nat):Int),((sIx n n hi:Nat):Int)):=by
  have h1:¬ ((1:Int) < 0):=by omega
  unfold Builtin.Slice.sliceAdjust
  simp only [h1,if_false]
  refine Prod.ext ?_ ?_
  · cases lo with
    | none=>rfl
    | some v=>exact clip_eq v n 0
  · cases hi with
    | none=>rfl
    | some v=>exact clip_eq v n n
theorem places_gen (i j:Nat):Builtin.Slice.slicePlaces (i:Int) (j:Int) 1 = j - i:=by
  unfold Builtin.Slice.slicePlaces
  have h1:(1:Int) > 0:=by omega
  simp only [h1,if_true,Int.ediv_one]
  split <;> omega
theorem slicePart_ {v:Value} {o:Option Int} {Q:Option Int→Shared→Prop} (p:IsPart v o) (h:Q o s):wpAny (model prog w) A (Builtin.Slice.slicePartIndex v) Q E s:=by
  cases p with
  | none=>exact slicePart_none h
  | int i t=>exact slicePart_int h
theorem sliceApplied_gen {sl:Addr} {vl vu:Value} {lo hi:Option Int} {n:Nat} {Q:Int × Int × Nat→Shared→Prop} (hs:s.heap.IsSliceOf sl vl vu .none) (pl:IsPart vl lo) (pu:IsPart vu hi)
    (h:Q (((sIx n 0 lo:Nat):Int),1,sIx n n hi - sIx n 0 lo) s):wpAny (model prog w) A (Builtin.Slice.sliceApplied (.ref sl) (pure (n:Int))) Q E s:=by
  obtain ⟨os,hos,hcs,hds⟩:=id hs
  unfold Builtin.Slice.sliceApplied Builtin.Slice.sliceFields
  refine wpAny_bind (wpAny_bind (wpAny_field hos hds (x:=vl) rfl (wpAny_bind (wpAny_field hos hds (x:=vu) rfl (wpAny_bind (wpAny_field hos hds (x:=.none) rfl (wpAny_pure ?_)))))))
  refine wpAny_bind (slicePart_none ?_)
  show wpAny _ _ (if ((1:Int) == 0) = true then _ else _) _ _ s
  rw [if_neg (by decide)]
  refine wpAny_bind (slicePart_ pl (wpAny_bind (slicePart_ pu (wpAny_bind (wpAny_pure ?_)))))
  show wpAny _ _ (match Builtin.Slice.sliceAdjust lo hi 1 (n:Int) with | (lo,hi)=>pure (lo,(1:Int),Builtin.Slice.slicePlaces lo hi 1)) _ _ s
  rw [adjust_gen lo hi n]
  show wpAny _ _ (pure (((sIx n 0 lo:Nat):Int),(1:Int),Builtin.Slice.slicePlaces ((sIx n 0 lo:Nat):Int) ((sIx n n hi:Nat):Int) 1)) _ _ s
  rw [places_gen]
  exact wpAny_pure h
theorem pick_gen (xs:Array Value) (i k:Nat):((List.range k).filterMap fun (m:Nat)=>xs[((i:Int) + (m:Int) * 1).toNat]?).toArray = ((xs.toList.drop i).take k).toArray:=by
  have e:(fun (m:Nat)=>xs[((i:Int) + (m:Int) * 1).toNat]?) = fun m=>xs[i + m]?:=by
    funext m
    have:((i:Int) + (m:Int) * 1).toNat = i + m:=by omega
    rw [this]
  rw [e]
  have:=pick_run xs i k
  rw [List.filterMap_map] at this
  have e2:((fun x=>xs[x]?) ∘ fun x=>i + x) = fun m=>xs[i + m]?:=rfl
  rw [e2] at this
  rw [this]
theorem getItem_tuple_cut {t sl:Addr} {items:Array Value} {vl vu:Value} {lo hi:Option Int} {Q:Value→Shared→Prop} (ht:IsTup s.heap t items) (hs:s.heap.IsSliceOf sl vl vu .none) (pl:IsPart vl lo) (pu:IsPart vu hi)
    (hw:¬ (sIx items.size 0 lo = 0∧sIx items.size items.size hi = items.size))
    (h:Q (.ref s.heap.objs.size) { s with heap:=s.heap.push { cls:=.type "tuple",data:=.seq ((items.toList.drop (sIx items.size 0 lo)).take (sIx items.size items.size hi - sIx items.size 0 lo)).toArray } })
    (hsz:items.size≤sizeLine):wpAny (model prog w) A (getItem (.ref t) (.ref sl)) Q E s:=by
  have htake:sizeOk (.seq ((items.toList.drop (sIx items.size 0 lo)).take (sIx items.size items.size hi - sIx items.size 0 lo)).toArray):=by
    show ((items.toList.drop (sIx items.size 0 lo)).take (sIx items.size items.size hi - sIx items.size 0 lo)).toArray.size≤sizeLine
    rw [List.size_toArray,List.length_take,List.length_drop,Array.length_toList]
    omega
  have hj:sIx items.size items.size hi≤items.size:=sIx_le _ _ (Nat.le_refl _) hi
  obtain ⟨os,hos,hcs,hds⟩:=id hs
  have hTs:s.TypeIs (.ref sl) "slice":=⟨os,hos,hcs⟩
  unfold getItem
  try with_reducible refine wpAny_holding ?_
  first | refine wpAny_bind (wpAny_pure ?_) | skip
  refine wpAny_bind (wpAny_sequenceKey ht.typeIs (by decide) ?_)
  refine wpAny_bind (wpAny_callSpecial?_slot (name:=Str.ofString "__getitem__") ht.typeIs PyProof.Rows.slot_tuple_getitem
    (wpAny_call_entry PyProof.Rows.slot_tuple_getitem ht.typeIs entry_tuple_getitem ?_ (args_tuple_getitem _ _)))
  show wpAny _ _ (Builtin.Tuple.tupleItemsOf (.ref t) >>= _) _ _ s
  refine wpAny_bind (tupleItemsOf_ ht ?_)
  refine wpAny_bind (wpAny_typeOf hTs ?_)
  rw [if_pos (by decide)]
  refine wpAny_bind (sliceApplied_gen hs pl pu ?_)
  have hno:¬ ((((sIx items.size 0 lo:Nat):Int) == 0 && (1:Int) == 1 && (sIx items.size items.size hi - sIx items.size 0 lo) == items.size) = true):=by
    intro q
    rw [Bool.and_eq_true,Bool.and_eq_true] at q
    have q1:((sIx items.size 0 lo:Nat):Int) = 0:=eq_of_beq q.1.1
    have q2:sIx items.size items.size hi - sIx items.size 0 lo = items.size:=eq_of_beq q.2
    exact hw ⟨by omega,by omega⟩
  show wpAny _ _ (if (((sIx items.size 0 lo:Nat):Int) == 0 && (1:Int) == 1 && (sIx items.size items.size hi - sIx items.size 0 lo) == items.size) = true then _ else _) _ _ s
  rw [if_neg hno,pick_gen]
  first
    | exact wpAny_bind (m:=Builtin.Tuple.tupleExact _) (wpAny_newObj_type (wpAny_pure ⟨_,rfl,wpAny_pure h⟩) htake)
    | exact wpAny_bind (m:=Builtin.Tuple.tupleExact _) (wpAny_newObj_type (wpAny_bind (wpAny_pure (wpAny_pure ⟨_,rfl,wpAny_pure h⟩))) htake)
    | exact wpAny_bind (wpAny_bind (m:=Builtin.Tuple.tupleExact _) (wpAny_newObj_type (wpAny_pure (wpAny_pure ⟨_,rfl,wpAny_pure h⟩)) htake))
    | exact wpAny_bind (wpAny_bind (m:=Builtin.Tuple.tupleExact _) (wpAny_newObj_type (wpAny_pure ⟨_,rfl,wpAny_pure h⟩) htake))
end
end HT
namespace L2
open PySem PySem.Spec PyProof.Rows
abbrev TO:=St→Hp→(Option Int→Hp→Prop)→Prop
def PO (X:Cx) (e:Option Expr) (t:TO):Prop :=
  ∀ (pins:List (Addr × Obj)) (s:Shared) (σ:St) (H:Hp) (Q:Option Int→Hp→Prop),Inv X pins σ H s→t σ H Q →
    wpAny (model X.prog X.w) X.A (evalPart e X.env) (fun u s'=>∃ o H',Inv X pins σ H' s'∧IsPart u o∧Q o H') X.xe s
def tNoPart:TO:=fun _ H Q=>Q none H
def tPart (t:TE):TO:=fun σ H Q=>t σ H fun x H1=>∃ i,x = .int i∧Q (some i) H1
section
variable {X:Cx} {e:Expr} {te:TE} {lo hi:Option Expr} {tl th:TO} {pos p2:Pos}
theorem po_none:PO X none tNoPart:=by
  intro pins s σ H Q I h
  rw [evalPart_none]
  exact wpAny_pure ⟨none,H,I,.none,h⟩
theorem po_some (h:PE X e te):PO X (some e) (tPart te):=by
  intro pins s σ H Q I hw
  rw [evalPart_some]
  refine thn (h pins s σ H _ I hw) fun u s1 ⟨x,H1,I1,r1,q1⟩=>?_
  obtain ⟨i,rfl,q⟩:=q1
  obtain ⟨t,rfl⟩:=r1
  exact ⟨some i,H1,I1,.int i t,q⟩
def SlR (X:Cx) (r:V→Option Int→Option Int→Hp→VK→Prop):Prop :=
  ∀ (pins:List (Addr × Obj)) (s:Shared) (σ:St) (H:Hp) (x:V) (v vl vu:Value) (lo hi:Option Int) (sl:Addr) (Q:VK),Inv X pins σ H s→RelV x v→s.heap.IsSliceOf sl vl vu .none→IsPart vl lo→IsPart vu hi→r x lo hi H Q →
    ∃ T id,typeLookup (.type T) "__getitem__" = pure (some (.builtin id))∧s.TypeIs v T∧wpAny (model X.prog X.w) X.A (getItem v (.ref sl)) (EP X pins σ Q) X.xe s
theorem SlR.or {r r':V→Option Int→Option Int→Hp→VK→Prop} (h:SlR X r) (h':SlR X r'):SlR X (fun x lo hi H Q=>r x lo hi H Q∨r' x lo hi H Q):=by
  intro pins s σ H x v vl vu lo hi sl Q I rx hs pl pu q
  rcases q with q | q
  · exact h pins s σ H x v vl vu lo hi sl Q I rx hs pl pu q
  · exact h' pins s σ H x v vl vu lo hi sl Q I rx hs pl pu q
def tSl (r:V→Option Int→Option Int→Hp→VK→Prop) (te:TE) (tl th:TO):TE:=fun σ H Q=>te σ H fun x H1=>tl σ H1 fun l H2=>th σ H2 fun u H3=>r x l u H3 Q
theorem pe_slice {r:V→Option Int→Option Int→Hp→VK→Prop} (hr:SlR X r) (he:PE X e te) (hl:PO X lo tl) (hu:PO X hi th):PE X (.Subscript e (.Slice lo hi none p2) pos) (tSl r te tl th):=by
  intro pins s σ H Q I h
  refine Subscript_ (thn (he pins s σ H _ I h) fun v s1 ⟨x,H1,I1,r1,q1⟩=>?_)
  refine wpAny_Slice (thn (hl pins s1 σ H1 _ I1 q1) fun vl s2 ⟨l,H2,I2,pl,q2⟩=>thn (hu pins s2 σ H2 _ I2 q2) fun vu s3 ⟨u,H3,I3,pu,q3⟩=>?_)
  rw [evalPart_none]
  refine wpAny_pure ?_
  have I4:Inv X pins σ H3 { s3 with heap:=s3.heap.push { cls:=.type "slice",data:=.fields #[vl,vu,.none] } }:=I3.kept (t':=s3.toks) fun b ob q=>Heap.get?_push_of_some _ q
  obtain ⟨T,id,hT,ht,hg⟩:=hr pins { s3 with heap:=s3.heap.push { cls:=.type "slice",data:=.fields #[vl,vu,.none] } } σ H3 x v vl vu l u s3.heap.objs.size Q I4 r1 (Heap.IsSliceOf.new ..) pl pu q3
  show wpAny (model X.prog X.w) X.A (subscriptTail e (.Slice lo hi none p2) v (.ref s3.heap.objs.size)) (EP X pins σ Q) X.xe { s3 with heap:=s3.heap.push { cls:=.type "slice",data:=.fields #[vl,vu,.none] } }
  exact tail_any (ops:=[.ref s3.heap.objs.size,v]) ht hT hg (by with_unfolding_all rfl)
def cutV (xs:List V) (lo hi:Option Int):List V:=(xs.drop (HT.sIx xs.length 0 lo)).take (HT.sIx xs.length xs.length hi - HT.sIx xs.length 0 lo)
theorem cutV_length (xs:List V) (lo hi:Option Int):(cutV xs lo hi).length≤xs.length:=by
  unfold cutV
  rw [List.length_take,List.length_drop]
  omega
def rSlT (K:PySem.W.Frag):V→Option Int→Option Int→Hp→VK→Prop:=fun x lo hi H Q=>∃ a xs,x = .ref a∧SqT K H a xs ∧
  ¬ (HT.sIx xs.length 0 lo = 0∧HT.sIx xs.length xs.length hi = xs.length)∧∀ p,H p = none→Q (.ref p) (upd H p (.tup (cutV xs lo hi)))
theorem sl_tup:SlR X (rSlT X.K):=by
  intro pins s σ H x v vl vu lo hi sl Q I rx hs pl pu h
  obtain ⟨a,xs,rfl,hx,hw,q⟩:=h
  cases rx
  obtain ⟨its,r,ht,hz⟩:=I.tuple hx
  have hlen:its.toArray.size = xs.length:=by rw [List.size_toArray]; exact r.length.symm
  refine ⟨"tuple",_,PyProof.Rows.slot_tuple_getitem.lookup,ht.typeIs,?_⟩
  refine HT.getItem_tuple_cut ht hs pl pu (by rw [hlen]; exact hw) ?_ (by rw [hlen]; exact hz)
  rw [hlen]
  refine ⟨.ref s.heap.objs.size,_,I.laid (t':=s.toks) (o:=.tup (cutV xs lo hi)) (fun b ob q=>Heap.get?_push_of_some _ q) (Nat.le_refl _) ?_,rfl,q _ (I.hok.fresh (Nat.le_refl _))⟩
  exact ⟨Nat.le_trans (cutV_length xs lo hi) hz,_,(r.drop (HT.sIx xs.length 0 lo)).take (HT.sIx xs.length xs.length hi - HT.sIx xs.length 0 lo),TupN.new _ _⟩
def rCatT (K:PySem.W.Frag):R2:=fun x y H Q=>∃ a b xs ys,x = .ref a∧y = .ref b∧SqT K H a xs∧SqT K H b ys∧xs≠[]∧xs.length + ys.length≤sizeLine ∧
  (ys = []→Q (.ref a) H)∧(ys≠[]→∀ p,H p = none→Q (.ref p) (upd H p (.tup (xs ++ ys))))
theorem Vals.nil_iff {xs:List V} {us:List Value} (r:Vals xs us):us = []↔xs = []:=by
  cases r with
  | nil=>simp
  | cons _ _=>simp
theorem op_catT:OpR X (binaryOp .Add) (rCatT X.K):=by
  intro pins s σ H x y v u Q I rx ry h
  obtain ⟨a,b,xs,ys,rfl,rfl,ha,hb,hx,hz,q1,q2⟩:=h
  cases rx
  cases ry
  obtain ⟨its,r1,p1,_⟩:=I.tuple ha
  obtain ⟨its2,r2,p2,_⟩:=I.tuple hb
  refine HT.cat_tup p1 p2 (fun z=>hx (r1.nil_iff.mp z)) (fun z=>⟨.ref a,H,I,rfl,q1 (r2.nil_iff.mp z)⟩) (fun z=>?_) (by rw [← r1.length,← r2.length]; exact hz)
  refine ⟨.ref s.heap.objs.size,_,I.laid (t':=s.toks) (o:=.tup (xs ++ ys)) (fun b ob q=>Heap.get?_push_of_some _ q) (Nat.le_refl _) ?_,rfl,q2 (fun w=>z (r2.nil_iff.mpr w)) _ (I.hok.fresh (Nat.le_refl _))⟩
  exact ⟨by rw [List.length_append]; exact hz,_,r1.append r2,TupN.new _ _⟩
end
end L2
namespace L2
open PySem PySem.Spec PyProof.Rows
def ixN (n:Nat) (i:Int):Option Nat:=if 0≤i then (if i < n then some i.toNat else none) else if -(n:Int)≤i then some (i + n).toNat else none
def atI {α:Type} (xs:List α) (i:Int):Option α:=(ixN xs.length i).bind fun j=>xs[j]?
theorem ixN_seq {n:Nat} {i:Int} {j:Nat} (h:ixN n i = some j):seqIndex? i n = some j∧j < n∧-(n:Int)≤i∧i < n:=by
  unfold ixN at h
  by_cases h0:0≤i
  · rw [if_pos h0] at h
    by_cases h1:i < n
    · rw [if_pos h1] at h
      have e:i.toNat = j:=Option.some.inj h
      exact ⟨by rw [seqIndex_of h0 h1,e],by omega,by omega,h1⟩
    · rw [if_neg h1] at h; cases h
  · rw [if_neg h0] at h
    by_cases h1:-(n:Int)≤i
    · rw [if_pos h1] at h
      have e:(i + n).toNat = j:=Option.some.inj h
      exact ⟨by rw [seqIndex_neg (by omega) h1,e],by omega,h1,by omega⟩
    · rw [if_neg h1] at h; cases h
theorem atI_get {α:Type} {xs:List α} {i:Int} {v:α} (h:atI xs i = some v):∃ j,seqIndex? i xs.length = some j∧xs[j]? = some v∧j < xs.length∧-(xs.length:Int)≤i∧i < xs.length:=by
  unfold atI at h
  cases e:ixN xs.length i with
  | none=>rw [e] at h; cases h
  | some j =>
    rw [e] at h
    obtain ⟨h1,h2,h3,h4⟩:=ixN_seq e
    exact ⟨j,h1,h,h2,h3,h4⟩
theorem atI_nat {α:Type} {xs:List α} {j:Nat} {v:α} (h:xs[j]? = some v):atI xs (j:Int) = some v:=by
  have hj:j < xs.length:=(List.getElem?_eq_some_iff.mp h).1
  have e:ixN xs.length (j:Int) = some j:=by
    unfold ixN
    rw [if_pos (by omega),if_pos (by omega)]; simp
  unfold atI; rw [e]; exact h
theorem atI_last {α:Type} (xs:List α) (v:α):atI (xs ++ [v]) (-1) = some v:=by
  have hl:(xs ++ [v]).length = xs.length + 1:=by simp
  have e:ixN (xs ++ [v]).length (-1) = some xs.length:=by
    unfold ixN
    rw [hl,if_neg (by decide),if_pos (by omega)]
    congr 1
    omega
  unfold atI
  rw [e]
  show (xs ++ [v])[xs.length]? = some v
  simp
def PlainIx (b:Expr):Prop:=∀ o i,subscripted b false o i = operate [o,i] (getItem o i)
def IxR (X:Cx) (r:R2):Prop :=
  ∀ (value slice:Expr) (pins:List (Addr × Obj)) (s:Shared) (σ:St) (H:Hp) (x y:V) (v u:Value) (Q:VK),Inv X pins σ H s→RelV x v→RelV y u→r x y H Q →
    subscripted slice false v u = operate [v,u] (getItem v u)→wpAny (model X.prog X.w) X.A (subscriptTail value slice v u) (EP X pins σ Q) X.xe s
def MtR (X:Cx) (id:String) (r:V→List V→Hp→VK→Prop):Prop :=
  ∀ (pins:List (Addr × Obj)) (s:Shared) (σ:St) (H:Hp) (x:V) (xs:List V) (v:Value) (us:List Value) (Q:VK),Inv X pins σ H s→RelV x v→Vals xs us→r x xs H Q →
    wpAny (model X.prog X.w) X.A (call (.builtin id) (v :: us)) (EP X pins σ Q) X.xe s
section
variable {X:Cx} {a b:Expr} {ta tb:TE} {pos:Pos}
theorem IxR.or {r r':R2} (h:IxR X r) (h':IxR X r'):IxR X (fun x y H Q=>r x y H Q∨r' x y H Q):=by
  intro value slice pins s σ H x y v u Q I rx ry q hs
  rcases q with q | q
  · exact h value slice pins s σ H x y v u Q I rx ry q hs
  · exact h' value slice pins s σ H x y v u Q I rx ry q hs
theorem MtR.or {id:String} {r r':V→List V→Hp→VK→Prop} (h:MtR X id r) (h':MtR X id r'):MtR X id (fun x xs H Q=>r x xs H Q∨r' x xs H Q):=by
  intro pins s σ H x xs v us Q I rx rs q
  rcases q with q | q
  · exact h pins s σ H x xs v us Q I rx rs q
  · exact h' pins s σ H x xs v us Q I rx rs q
theorem pe_ix {r:R2} (hr:IxR X r) (ha:PE X a ta) (hb:PE X b tb) (hs:PlainIx b):PE X (.Subscript a b pos) (tOp r ta tb):=by
  intro pins s σ H Q I h
  exact Subscript_ (binT ha hb I h fun v u s2 x y H2 I2 rx ry q=>hr a b pins s2 σ H2 x y v u Q I2 rx ry q (hs _ _))
def rIxL (K:PySem.W.Frag):R2:=fun x y H Q=>∃ p xs i v,x = .ref p∧y = .int i∧SqL K H p xs∧atI xs i = some v∧Q v H
def rIxT (K:PySem.W.Frag):R2:=fun x y H Q=>∃ p xs i v,x = .ref p∧y = .int i∧SqT K H p xs∧atI xs i = some v∧Q v H
theorem ix_list:IxR X (rIxL X.K):=by
  intro value slice pins s σ H x y v u Q I rx ry h hs
  obtain ⟨p,xs,i,z,rfl,rfl,hq,he,q⟩:=h
  cases rx
  obtain ⟨t,rfl⟩:=ry
  obtain ⟨its,r,pl,hz⟩:=I.list hq
  obtain ⟨j,h1,h2,h3,h4,h5⟩:=atI_get he
  obtain ⟨w,ew,rw'⟩:=r.get h2
  have hl:=r.length
  have hn:=line63
  have fin:EP X pins σ Q w s:=⟨z,H,I,rw',q⟩
  by_cases h0:0≤i
  · have hj:i.toNat = j:=by
      rw [seqIndex_of h0 h5] at h1
      exact Option.some.inj h1
    exact item_listR pl.isList h0 (by omega) (by rw [hj]; simpa using ew) fin hs
  · have hj:(i + (its.toArray.size:Int)).toNat = j:=by
      rw [seqIndex_neg (by omega) h4] at h1
      rw [List.size_toArray,← hl]
      exact Option.some.inj h1
    exact subscriptTail_builtinR (x:=w) pl.isList.typeIs slot_list_getitem.lookup
      (wpAny_getItem_list_neg (Q:=fun r s'=>r = w∧EP X pins σ Q r s') pl.isList (by omega) (by rw [List.size_toArray] <;> omega) (by omega) (by rw [hj]; simpa using ew) ⟨rfl,fin⟩) hs
theorem ix_tup:IxR X (rIxT X.K):=by
  intro value slice pins s σ H x y v u Q I rx ry h hs
  obtain ⟨p,xs,i,z,rfl,rfl,hq,he,q⟩:=h
  cases rx
  obtain ⟨t,rfl⟩:=ry
  obtain ⟨its,r,pl,hz⟩:=I.tuple hq
  obtain ⟨j,h1,h2,h3,h4,h5⟩:=atI_get he
  obtain ⟨w,ew,rw'⟩:=r.get h2
  have hl:=r.length
  have hn:=line63
  have fin:EP X pins σ Q w s:=⟨z,H,I,rw',q⟩
  exact subscriptTail_builtinR (x:=w) pl.typeIs slot_tuple_getitem.lookup
    (getItem_tuple (j:=j) (Q:=fun r s'=>r = w∧EP X pins σ Q r s') pl (by omega) (by omega) (by rw [List.size_toArray,← hl]; exact h1) (by simpa using ew) ⟨rfl,fin⟩) hs
theorem mapSeq_set (its:List Value) (n j:Nat) (u:Value):Obj.mapSeq (·.setIfInBounds j u) { cls:=.type "list",data:=.seq its.toArray n } = { cls:=.type "list",data:=.seq (its.set j u).toArray n }:=by
  simp [Obj.mapSeq]
theorem Inv.lst {pins:List (Addr × Obj)} {σ:St} {H:Hp} {s:Shared} {p:Addr} {xs:List V} (I:Inv X pins σ H s) (h:H p = some (.lst xs)) :
    ∃ (its:List Value) (n:Nat),Vals xs its∧s.heap.get? p = some { cls:=.type "list",data:=.seq its.toArray n }∧xs.length≤sizeLine:=by
  obtain ⟨z,its,n,r,e⟩:=I.hok p _ h
  exact ⟨its,n,r,e,z⟩
theorem Inv.lstUpd {pins:List (Addr × Obj)} {σ:St} {H:Hp} {s:Shared} {p:Addr} {xs ys:List V} {its its':List Value} {n n':Nat} {f:Obj→Obj} (I:Inv X pins σ H s) (h:H p = some (.lst xs))
    (ho:s.heap.get? p = some { cls:=.type "list",data:=.seq its.toArray n }) (hf:f { cls:=.type "list",data:=.seq its.toArray n } = { cls:=.type "list",data:=.seq its'.toArray n' }) (r:Vals ys its') (hz:ys.length≤sizeLine) (t:Nat) :
    Inv X pins σ (upd H p (.lst ys)) { s with heap:=s.heap.update p f,toks:=t }:=by
  have e:(s.heap.update p f).get? p = some { cls:=.type "list",data:=.seq its'.toArray n' }:=by
    rw [Heap.get?_update_self f ho (by rw [hf] <;> rfl),hf]
  refine I.write (x:=p) (e:=p) (by rw [h]; trivial) (.inl rfl) (fun b u hb q=>(Heap.get?_update_other _ _ (Ne.symm hb)).trans q) ⟨_,e⟩ ?_
  exact ⟨hz,its',n',r,e⟩
def rSetL:V→V→V→Hp→(Hp→Prop)→Prop:=fun o i v H Q=>∃ p xs k j,o = .ref p∧i = .int k∧H p = some (.lst xs)∧ixN xs.length k = some j∧Q (upd H p (.lst (xs.set j v)))
theorem set_list:PSet X rSetL:=by
  intro pins s σ H o i v ov iv u Q I ro ri rv h
  obtain ⟨p,xs,k,j,rfl,rfl,hp,hj,q⟩:=h
  cases ro
  obtain ⟨t,rfl⟩:=ri
  obtain ⟨its,n,r,ho,hz⟩:=I.lst hp
  obtain ⟨h1,h2,h3,h4⟩:=ixN_seq hj
  have hl:=r.length
  have hn:=line63
  have I':Inv X pins σ (upd H p (.lst (xs.set j v))) { s with heap:=s.heap.update p (Obj.mapSeq (·.setIfInBounds j u)) } :=
    I.lstUpd hp ho (mapSeq_set its n j u) (r.set rv j) (by rw [List.length_set]; exact hz) s.toks
  by_cases h0:0≤k
  · have hk:k.toNat = j:=by
      rw [seqIndex_of h0 h4] at h1
      exact Option.some.inj h1
    exact PySem.W.ki_setAt ho h0 (by omega) (by rw [List.size_toArray,← hl]; exact h4) (by rw [hk]; exact ⟨_,I',q⟩)
  · have hk:(k + (its.toArray.size:Int)).toNat = j:=by
      rw [seqIndex_neg (by omega) h3] at h1
      rw [List.size_toArray,← hl]
      exact Option.some.inj h1
    exact PySem.W.ki_setBack ho (by omega) (by rw [List.size_toArray,← hl]; exact h3) (by omega) (by rw [hk]; exact ⟨_,I',q⟩)
theorem slice_bounds (lo hi:Option Int) (n:Nat):(sliceBounds lo hi none n).1 = ((HT.sIx n 0 lo:Nat):Int)∧(sliceBounds lo hi none n).2.1 = ((HT.sIx n n hi:Nat):Int)∧(sliceBounds lo hi none n).2.2 = 1:=by
  refine ⟨?_,?_,rfl⟩
  · cases lo with
    | none=>simp [sliceBounds,HT.sIx]
    | some i =>
      simp only [sliceBounds,HT.sIx,Option.getD_none,show (1:Int) > 0 by decide,if_true]
      by_cases h:i < 0
      · simp only [h,if_true] <;> omega
      · simp only [h,if_false] <;> omega
  · cases hi with
    | none=>simp [sliceBounds,HT.sIx]
    | some i =>
      simp only [sliceBounds,HT.sIx,Option.getD_none,show (1:Int) > 0 by decide,if_true]
      by_cases h:i < 0
      · simp only [h,if_true] <;> omega
      · simp only [h,if_false] <;> omega
theorem slicePick_cut (its:List Value) (lo hi:Option Int):slicePick its.toArray lo hi none = ((its.drop (HT.sIx its.length 0 lo)).take (HT.sIx its.length its.length hi - HT.sIx its.length 0 lo)).toArray:=by
  obtain ⟨h1,h2,h3⟩:=slice_bounds lo hi its.toArray.size
  unfold slicePick
  rw [h1,h2,h3]
  simp only [sliceRange_one,pick_run,List.size_toArray] <;> rfl
def rSlL (K:PySem.W.Frag):V→Option Int→Option Int→Hp→VK→Prop:=fun x lo hi H Q=>∃ a xs,x = .ref a∧SqL K H a xs∧∀ p,H p = none→Q (.ref p) (upd H p (.lst (cutV xs lo hi)))
theorem sl_list:SlR X (rSlL X.K):=by
  intro pins s σ H x v vl vu lo hi sl Q I rx hs pl pu h
  obtain ⟨a,xs,rfl,hx,q⟩:=h
  cases rx
  obtain ⟨its,r,ht,hz⟩:=I.list hx
  have hlen:=r.length
  refine ⟨"list",_,slot_list_getitem.lookup,ht.isList.typeIs,?_⟩
  refine wpAny_getItem_list_slice ht.isList hs pl pu .none (by simp) ?_ (by rw [List.size_toArray] <;> omega)
  rw [slicePick_cut,← hlen]
  refine ⟨.ref s.heap.objs.size,_,I.laid (t':=s.toks) (o:=.lst (cutV xs lo hi)) (fun b ob q=>Heap.get?_push_of_some _ q) (Nat.le_refl _) ?_,rfl,q _ (I.hok.fresh (Nat.le_refl _))⟩
  exact ⟨Nat.le_trans (cutV_length xs lo hi) hz,_,0,(r.drop (HT.sIx xs.length 0 lo)).take (HT.sIx xs.length xs.length hi - HT.sIx xs.length 0 lo),Heap.get?_push_size _ rfl⟩
def flatV:V→Bool
  | .non=>true
  | .bl _=>true
  | .int _=>true
  | .str _=>true
  | _=>false
def eqV:V→V→Bool
  | .non,.non=>true
  | .bl a,.bl b=>a == b
  | .bl a,.int b=>(if a then 1 else 0) == b
  | .int a,.bl b=>a == (if b then 1 else 0)
  | .int a,.int b=>a == b
  | .str a,.str b=>a == b
  | _,_=>false
theorem eqAt_V {A:Around} {s:Shared} {y x:V} {u v:Value} (ry:RelV y u) (rx:RelV x v) (fy:flatV y = true) (fx:flatV x = true):SeqAt.EqAt A s u v (eqV y x):=by
  cases y with
  | non =>
    cases ry
    cases x with
    | non=>cases rx; exact SeqAt.EqAt.same _
    | bl b=>cases rx; exact SeqAt.EqAt.none_bool b
    | int b=>obtain ⟨t,rfl⟩:=rx; exact SeqAt.EqAt.none_int b t
    | str b=>obtain ⟨t,rfl⟩:=rx; exact SeqAt.EqAt.none_str b t
    | _=>exact absurd (show false = true from fx) Bool.false_ne_true
  | bl a =>
    cases ry
    cases x with
    | non=>cases rx; exact SeqAt.EqAt.bool_none a
    | bl b=>cases rx; exact SeqAt.EqAt.bool_bool a b
    | int b=>obtain ⟨t,rfl⟩:=rx; exact SeqAt.EqAt.bool_int a b t
    | str b=>obtain ⟨t,rfl⟩:=rx; exact SeqAt.EqAt.bool_str a b t
    | _=>exact absurd (show false = true from fx) Bool.false_ne_true
  | int a =>
    obtain ⟨t',rfl⟩:=ry
    cases x with
    | non=>cases rx; exact SeqAt.EqAt.int_none a t'
    | bl b=>cases rx; exact SeqAt.EqAt.int_bool a t' b
    | int b=>obtain ⟨t,rfl⟩:=rx; exact SeqAt.EqAt.int_int a t' b t
    | str b=>obtain ⟨t,rfl⟩:=rx; exact SeqAt.EqAt.int_str a t' b t
    | _=>exact absurd (show false = true from fx) Bool.false_ne_true
  | str a =>
    obtain ⟨t',rfl⟩:=ry
    cases x with
    | non=>cases rx; exact SeqAt.EqAt.str_none a t'
    | bl b=>cases rx; exact SeqAt.EqAt.str_bool a t' b
    | int b=>obtain ⟨t,rfl⟩:=rx; exact SeqAt.EqAt.str_int a t' b t
    | str b=>obtain ⟨t,rfl⟩:=rx; exact SeqAt.EqAt.str_str a t' b t
    | _=>exact absurd (show false = true from fx) Bool.false_ne_true
  | _=>exact absurd (show false = true from fy) Bool.false_ne_true
def eqU (x:V) (u:Value):Bool:=match u with
  | .none=>eqV .non x
  | .bool b=>eqV (.bl b) x
  | .int i _=>eqV (.int i) x
  | .str z _=>eqV (.str z) x
  | _=>false
theorem eqU_of {x y:V} {u:Value} (r:RelV y u) (f:flatV y = true):eqU x u = eqV y x:=by
  cases y with
  | non=>cases r; rfl
  | bl b=>cases r; rfl
  | int i=>obtain ⟨t,rfl⟩:=r; rfl
  | str z=>obtain ⟨t,rfl⟩:=r; rfl
  | _=>exact absurd (show false = true from f) Bool.false_ne_true
theorem any_eqU {x:V}:∀ {xs:List V} {us:List Value},Vals xs us→xs.all flatV = true→us.any (eqU x) = xs.any fun y=>eqV y x
  | _,_,.nil,_=>rfl
  | y :: xs,u :: us,.cons r t,f=>by
    rw [List.all_cons,Bool.and_eq_true] at f
    rw [List.any_cons,List.any_cons,eqU_of r f.1,any_eqU t f.2]
theorem mem_eqAt {A:Around} {s:Shared} {x:V} {v:Value} (rx:RelV x v) (fx:flatV x = true):∀ {xs:List V} {us:List Value},Vals xs us→xs.all flatV = true→∀ u∈us,SeqAt.EqAt A s u v (eqU x u)
  | _,_,.nil,_=>fun u hu=>by cases hu
  | y :: xs,u :: us,.cons r t,f=>fun u' hu=>by
    rw [List.all_cons,Bool.and_eq_true] at f
    rcases List.mem_cons.mp hu with rfl | hu
    · rw [eqU_of r f.1]; exact eqAt_V r rx f.1 fx
    · exact mem_eqAt rx fx t f.2 u' hu
def inV (x:V) (xs:List V):Bool:=xs.any fun y=>eqV y x
def rIn (K:PySem.W.Frag) (neg:Bool):R2:=fun x y H Q=>∃ p xs,y = .ref p∧(SqL K H p xs∨SqT K H p xs)∧flatV x = true∧xs.all flatV = true∧Q (.bl (if neg then !inV x xs else inV x xs)) H
theorem op_in_seq:OpR X (compareOp .In) (rIn X.K false):=by
  intro pins s σ H x y v u Q I rx ry h
  obtain ⟨p,xs,rfl,hq,fx,fs,q⟩:=h
  cases ry
  rcases hq with hq | hq
  · obtain ⟨its,r,pl,hz⟩:=I.list hq
    refine SeqAt.in_listAt (eqU x) pl.isList (fun w hw=>mem_eqAt rx fx r fs w (by simpa using hw)) ⟨.bl _,H,I,rfl,?_⟩
    rw [show its.toArray.any (eqU x) = its.any (eqU x) by simp,any_eqU r fs]
    exact q
  · obtain ⟨its,r,pl,hz⟩:=I.tuple hq
    refine SeqAt.in_tupleAt (eqU x) pl (fun w hw=>mem_eqAt rx fx r fs w (by simpa using hw)) ⟨.bl _,H,I,rfl,?_⟩
    rw [show its.toArray.any (eqU x) = its.any (eqU x) by simp,any_eqU r fs]
    exact q
theorem op_notIn_seq:OpR X (compareOp .NotIn) (rIn X.K true):=by
  intro pins s σ H x y v u Q I rx ry h
  obtain ⟨p,xs,rfl,hq,fx,fs,q⟩:=h
  cases ry
  rcases hq with hq | hq
  · obtain ⟨its,r,pl,hz⟩:=I.list hq
    refine SeqAt.notIn_listAt (eqU x) pl.isList (fun w hw=>mem_eqAt rx fx r fs w (by simpa using hw)) ⟨.bl _,H,I,rfl,?_⟩
    rw [show its.toArray.any (eqU x) = its.any (eqU x) by simp,any_eqU r fs]
    exact q
  · obtain ⟨its,r,pl,hz⟩:=I.tuple hq
    refine SeqAt.notIn_tupleAt (eqU x) pl (fun w hw=>mem_eqAt rx fx r fs w (by simpa using hw)) ⟨.bl _,H,I,rfl,?_⟩
    rw [show its.toArray.any (eqU x) = its.any (eqU x) by simp,any_eqU r fs]
    exact q
theorem call_len_seq:CallR X (.builtin "len") (fun xs H Q=>∃ p ys,xs = [.ref p]∧(SqL X.K H p ys∨SqT X.K H p ys)∧Q (.int ys.length) H):=by
  intro pins s σ H xs us Q I r h
  obtain ⟨p,ys,rfl,hq,q⟩:=h
  obtain ⟨u,rfl,rx⟩:=vals1 r
  cases rx
  have hn:=line63
  rcases hq with hq | hq
  · obtain ⟨its,r',pl,hz⟩:=I.list hq
    have hlen:=r'.length
    exact Calls.call_len_list pl.isList (by simp only [List.size_toArray] <;> omega) ⟨.int ys.length,H,I.tok _,⟨s.toks + 1,by rw [List.size_toArray,hlen]⟩,q⟩
  · obtain ⟨its,r',pl,hz⟩:=I.tuple hq
    have hlen:=r'.length
    exact len_tuple pl (by simp only [List.size_toArray] <;> omega) ⟨.int ys.length,H,I.tok _,⟨s.toks + 1,by rw [List.size_toArray,hlen]⟩,q⟩
theorem call_len_str:CallR X (.builtin "len") (fun xs H Q=>∃ z,xs = [.str z]∧z.length≤sizeLine∧Q (.int z.length) H):=by
  intro pins s σ H xs us Q I r h
  obtain ⟨z,rfl,hz,q⟩:=h
  obtain ⟨u,rfl,t,rfl⟩:=vals1 r
  have hn:=line63
  exact len_str (by omega) ⟨.int z.length,H,I.tok _,⟨_,rfl⟩,q⟩
theorem CallR.or {f:Value} {r r':List V→Hp→VK→Prop} (h:CallR X f r) (h':CallR X f r'):CallR X f (fun xs H Q=>r xs H Q∨r' xs H Q):=by
  intro pins s σ H xs us Q I rs q
  rcases q with q | q
  · exact h pins s σ H xs us Q I rs q
  · exact h' pins s σ H xs us Q I rs q
theorem call_list_of:CallR X (.type "list") (fun xs H Q=>∃ p ys,xs = [.ref p]∧(SqL X.K H p ys∨SqT X.K H p ys)∧∀ l,H l = none→Q (.ref l) (upd H l (.lst ys))):=by
  intro pins s σ H xs us Q I r h
  obtain ⟨p,ys,rfl,hq,q⟩:=h
  obtain ⟨u,rfl,rx⟩:=vals1 r
  cases rx
  have fin:∀ (its:List Value),Vals ys its→ys.length≤sizeLine→∀ (h':Heap) (c':Nat),(∀ b o',s.heap.get? b = some o'→h'.get? b = some o') →
      h'.get? s.heap.objs.size = some { cls:=.type "list",dict:=none,data:=.seq its.toArray c',slots:=#[] }→EP X pins σ Q (.ref s.heap.objs.size) { s with heap:=h' }:=fun its r' hz h' c' kp e =>
    ⟨.ref s.heap.objs.size,_,I.laid (t':=s.toks) kp (Nat.le_refl _) (show ObjOk X.prog X.w _ h' _ (.lst ys) from ⟨hz,its,c',r',e⟩),rfl,q _ (I.hok.fresh (Nat.le_refl _))⟩
  rcases hq with hq | hq
  · obtain ⟨its,r',pl,hz⟩:=I.list hq
    have hlen:=r'.length
    obtain ⟨o,ho,hc,n,hd⟩:=pl.isList
    exact call_list_seq p (.inl rfl) ho hc hd (fun h' c' kp e=>fin its r' hz h' c' kp e) (by simp only [List.size_toArray] <;> omega)
  · obtain ⟨its,r',pl,hz⟩:=I.tuple hq
    have hlen:=r'.length
    obtain ⟨o,ho,hc,n,hd⟩:=pl
    exact call_list_seq p (.inr rfl) ho hc hd (fun h' c' kp e=>fin its r' hz h' c' kp e) (by simp only [List.size_toArray] <;> omega)
theorem call_tuple_of:CallR X (.type "tuple") (fun xs H Q=>∃ p ys,xs = [.ref p]∧((SqL X.K H p ys∧∀ l,H l = none→Q (.ref l) (upd H l (.tup ys)))∨(SqT X.K H p ys∧Q (.ref p) H))):=by
  intro pins s σ H xs us Q I r h
  obtain ⟨p,ys,rfl,h⟩:=h
  obtain ⟨u,rfl,rx⟩:=vals1 r
  cases rx
  rcases h with ⟨hq,q⟩ | ⟨hq,q⟩
  · obtain ⟨its,r',pl,hz⟩:=I.list hq
    have hlen:=r'.length
    refine call_tuple_list pl.isList (fun h' kp=>?_) (by simp only [List.size_toArray] <;> omega)
    have I1:Inv X pins σ H { s with heap:=h' }:=I.kept (t':=s.toks) kp
    have I2:Inv X pins σ (upd H h'.objs.size (.tup ys)) { s with heap:=h'.push { cls:=.type "tuple",data:=.seq its.toArray } } :=
      I1.laid (t':=s.toks) (fun b o e=>Heap.get?_push_of_some _ e) (Nat.le_refl _) (show ObjOk X.prog X.w _ _ _ (.tup ys) from ⟨hz,its,r',TupN.new _ _⟩)
    exact ⟨.ref h'.objs.size,_,I2,rfl,q _ (I1.hok.fresh (Nat.le_refl _))⟩
  · obtain ⟨its,r',pl,hz⟩:=I.tuple hq
    exact call_tuple_same pl ⟨.ref p,H,I,rfl,q⟩
def tyV (K:PySem.W.Frag) (T:String) (x:V) (H:Hp):Prop:=match x with
  | .str _=>T = "str"
  | .int _=>T = "int"
  | .ref p=>(T = "list"∧∃ xs,SqL K H p xs)∨(T = "tuple"∧∃ o,K.lookup p = some o∧o.cls = .type "tuple"∧o.dict = none) ∨
      (T = "dict"∧((∃ kvs,H p = some (.dK kvs))∨∃ kvs,H p = some (.dT kvs)))∨(T = "set"∧∃ S n,H p = some (.set S n))
  | _=>False
theorem tyV_is {pins:List (Addr × Obj)} {σ:St} {H:Hp} {s:Shared} {T:String} {x:V} {v:Value} (I:Inv X pins σ H s) (r:RelV x v) (ty:tyV X.K T x H) :
    s.TypeIs v T∧∀ a,v = .ref a→∃ ob,s.heap.get? a = some ob∧ob.dict = none:=by
  cases x with
  | str z =>
    obtain ⟨t,rfl⟩:=r
    cases (show T = "str" from ty)
    exact ⟨typeIs_str s z t,fun _ e=>nomatch e⟩
  | int i =>
    obtain ⟨t,rfl⟩:=r
    cases (show T = "int" from ty)
    exact ⟨typeIs_int s i t,fun _ e=>nomatch e⟩
  | ref p =>
    cases r
    rcases ty with ⟨rfl,xs,hq⟩ | ⟨rfl,o,hk,hc,hd⟩ | ⟨rfl,hk⟩ | ⟨rfl,S,n,hk⟩
    · obtain ⟨its,_,pl,_⟩:=I.list hq
      refine ⟨pl.isList.typeIs,fun a e=>?_⟩
      cases e
      obtain ⟨o,n,e,c,hd,_⟩:=pl
      exact ⟨o,e,hd⟩
    · refine ⟨⟨o,I.kIn p o hk,hc⟩,fun a e=>?_⟩
      cases e
      exact ⟨o,I.kIn _ o hk,hd⟩
    · have z:∃ o,s.heap.get? p = some o∧o.ExactDict:=by
        rcases hk with ⟨kvs,hk⟩ | ⟨kvs,hk⟩
        · obtain ⟨_,_,_,_,o,_,_,e,ex,_⟩:=I.hok p _ hk
          exact ⟨o,e,ex⟩
        · obtain ⟨_,_,_,_,o,_,_,e,ex,_⟩:=I.hok p _ hk
          exact ⟨o,e,ex⟩
      obtain ⟨o,e,ex⟩:=z
      refine ⟨⟨o,e,ex.1⟩,fun a e2=>?_⟩
      cases e2
      exact ⟨o,e,ex.2.1⟩
    · obtain ⟨o,_,_,_,e,ex,_⟩:=I.hok p _ hk
      refine ⟨⟨o,e,ex.1⟩,fun a e2=>?_⟩
      cases e2
      exact ⟨o,e,ex.2.1⟩
  | _=>exact False.elim ty
def tBM0 (K:PySem.W.Frag) (T:String) (r:V→List V→Hp→VK→Prop) (to:TE):TE:=fun σ H Q=>to σ H fun x H1=>tyV K T x H1∧r x [] H1 Q
def tBM (K:PySem.W.Frag) (T:String) (r:V→List V→Hp→VK→Prop) (to:TE) (t:TA):TE:=fun σ H Q=>to σ H fun x H1=>tyV K T x H1∧t σ H1 fun xs H2=>r x xs H2 Q
variable {o e:Expr} {es:List Expr} {to:TE} {t:TA} {name:Str} {apos cpos:Pos} {T id:String} {r:V→List V→Hp→VK→Prop}
theorem pe_bm0 (pa:PlainAttrs T) (slot:Slot T name id) (hty:typeOf (.builtin id) = pure (.type "method_descriptor")) (hm:MtR X id r) (ho:PE X o to)
    (hbase:attributeBase o name X.env (eval o X.env) = eval o X.env:=by rfl) (hline:(apos.endLine == cpos.line) = true:=by rfl):PE X (.Call (.Attribute o name apos) [] [] cpos) (tBM0 X.K T r to):=by
  intro pins s σ H Q I h
  refine wpAny_Call_method0_late hbase hline (thn (ho pins s σ H _ I h) fun v s1 ⟨x,H1,I1,r1,ty,q1⟩=>?_)
  obtain ⟨h1,h2⟩:=tyV_is I1 r1 ty
  exact ⟨T,id,pa,slot,hty,h1,h2,Calls.callWith_builtin rfl (PySem.evalArgs_none (hm pins s1 σ H1 x [] v [] Q I1 r1 .nil q1))⟩
theorem pe_bm (pa:PlainAttrs T) (slot:Slot T name id) (hty:typeOf (.builtin id) = pure (.type "method_descriptor")) (hm:MtR X id r) (ho:PE X o to) (ha:PA X (e :: es) t)
    (hbase:attributeBase o name X.env (eval o X.env) = eval o X.env:=by rfl)
    (hfew:((backTo cpos (starEach (e :: es) X.env)).all (fun x=>!x.1) && (backToKw cpos (keywordEach [] X.env)).all (fun x=>x.1.isSome)
      && decide ((e :: es).length + ([]:List Keyword).length + (if ([]:List Keyword).isEmpty then 0 else 1) < 30)) = true:=by rfl)
    (hline:(apos.endLine == cpos.line) = true:=by rfl) (hs:starEach (e :: es) X.env = (false,eval e X.env) :: starEach es X.env:=by rfl) (hplain:(backTo cpos (starEach es X.env)).any (·.1) = false:=by rfl) :
    PE X (.Call (.Attribute o name apos) (e :: es) [] cpos) (tBM X.K T r to t):=by
  intro pins s σ H Q I h
  refine wpAny_Call_method_late hbase hfew hline rfl (thn (ho pins s σ H _ I h) fun v s1 ⟨x,H1,I1,r1,ty,q1⟩=>?_)
  obtain ⟨h1,h2⟩:=tyV_is I1 r1 ty
  refine ⟨T,id,pa,slot,hty,h1,h2,?_⟩
  have hA:=ha cpos pins s1 σ H1 _ I1 q1
  rw [hs] at hA ⊢
  refine Calls.callWith_builtin (by show (false || (backTo cpos (starEach es X.env)).any (·.1)) = false; rw [hplain] <;> rfl) (Calls.evalArgs_plain ?_)
  exact thn hA fun us s2 ⟨vs,H2,I2,r2,q2⟩=>hm pins s2 σ H2 x vs v us Q I2 r1 r2 q2
end
end L2
namespace L2
open PySem PySem.Spec PyProof.Rows
def MtM (X:Cx) (id:String) (r:V→List V→Hp→VK→Prop):Prop :=
  ∀ (pins:List (Addr × Obj)) (s:Shared) (σ:St) (H:Hp) (x:V) (xs:List V) (v:Value) (us:List Value) (Q:VK),Inv X pins σ H s→RelV x v→Vals xs us→r x xs H Q →
    wpAny (model X.prog X.w) X.A (call (.builtin id) (v :: us)) (EP X pins σ Q) X.xe s
theorem Vals.one:∀ {x:V} {us:List Value},Vals [x] us→∃ u,us = [u]∧RelV x u
  | _,_,.cons r .nil=>⟨_,rfl,r⟩
theorem Vals.two:∀ {x y:V} {us:List Value},Vals [x,y] us→∃ u v,us = [u,v]∧RelV x u∧RelV y v
  | _,_,_,.cons r (.cons q .nil)=>⟨_,_,rfl,r,q⟩
theorem Vals.zero:∀ {us:List Value},Vals [] us→us = []
  | _,.nil=>rfl
theorem Vals.dropLast {xs:List V} {us:List Value} (h:Vals xs us):Vals xs.dropLast us.dropLast:=by
  induction h with
  | nil=>exact .nil
  | cons r t ih =>
    cases t with
    | nil=>exact .nil
    | cons q t'=>exact .cons r ih
theorem Vals.eraseIdx:∀ {xs:List V} {us:List Value} (i:Nat),Vals xs us→Vals (xs.eraseIdx i) (us.eraseIdx i)
  | _,_,_,.nil=>.nil
  | _,_,0,.cons _ t=>t
  | _,_,i + 1,.cons r t=>.cons r (Vals.eraseIdx i t)
theorem Vals.reverse {xs:List V} {us:List Value} (h:Vals xs us):Vals xs.reverse us.reverse:=by
  induction h with
  | nil=>exact .nil
  | cons r t ih=>rw [List.reverse_cons,List.reverse_cons]; exact Vals.append ih (.cons r .nil)
theorem erase_last {α:Type} (l:List α):l.eraseIdx (l.length - 1) = l.dropLast:=by
  induction l with
  | nil=>rfl
  | cons a r ih =>
    cases r with
    | nil=>rfl
    | cons b r =>
      have e:(a :: b :: r).length - 1 = ((b :: r).length - 1) + 1:=by
        have h1:(a :: b :: r).length = r.length + 2:=rfl
        have h2:(b :: r).length = r.length + 1:=rfl
        omega
      rw [e,List.eraseIdx_cons_succ,ih]
      all_goals rfl
section
variable {X:Cx} {pins:List (Addr × Obj)} {σ:St} {H:Hp} {s:Shared} {l b:Addr} {xs ys zs:List V}
theorem Inv.lset {its its':List Value} {n:Nat} {f:Array Value→Array Value} {t':Nat} (I:Inv X pins σ H s) (hH:H l = some (.lst xs))
    (e:s.heap.get? l = some { cls:=.type "list",data:=.seq its.toArray n }) (hf:f its.toArray = its'.toArray) (hv:Vals ys its') (hz:ys.length≤sizeLine) :
    Inv X pins σ (upd H l (.lst ys)) { s with heap:=s.heap.update l (Obj.mapSeq f),toks:=t' }:=by
  have q:=PySem.IsL.update e f
  rw [hf] at q
  refine I.write (x:=l) (e:=l) (by rw [hH]; exact trivial) (.inl rfl) (fun b' u hb hu=>(Heap.get?_update_other s.heap (Obj.mapSeq f) (Ne.symm hb)).trans hu) ⟨_,q⟩ ?_
  exact ⟨hz,its',_,hv,q⟩
theorem Inv.lnew {its:List Value} {t':Nat} (I:Inv X pins σ H s) (hv:Vals ys its) (hz:ys.length≤sizeLine) :
    Inv X pins σ (upd H s.heap.objs.size (.lst ys)) { s with heap:=s.heap.push { cls:=.type "list",data:=.seq its.toArray },toks:=t' } :=
  I.laid (fun _ _ q=>Heap.get?_push_of_some _ q) (Nat.le_refl _) ⟨hz,its,0,hv,Heap.get?_push_size _ rfl⟩
theorem Inv.fresh (I:Inv X pins σ H s):H s.heap.objs.size = none:=I.hok.fresh (Nat.le_refl _)
theorem Inv.lstM (I:Inv X pins σ H s) (hH:H l = some (.lst xs)):xs.length≤sizeLine∧∃ (its:List Value) (n:Nat),Vals xs its∧xs.length = its.length∧s.heap.get? l = some { cls:=.type "list",data:=.seq its.toArray n }:=by
  obtain ⟨z,its,n,r,e⟩:=I.hok l _ hH
  exact ⟨z,its,n,r,r.length,e⟩
end
section
variable {X:Cx}
def rAppend:V→List V→Hp→VK→Prop:=fun x vs H Q=>∃ l xs y,x = .ref l∧vs = [y]∧H l = some (.lst xs)∧xs.length < sizeLine∧Q .non (upd H l (.lst (xs ++ [y])))
theorem mt_append:MtM X "list.append" rAppend:=by
  intro pins s σ H x vs v us Q I rx rv h
  obtain ⟨l,xs,y,rfl,rfl,hH,hz,q⟩:=h
  cases rx
  obtain ⟨u,rfl,ru⟩:=rv.one
  obtain ⟨z,its,n,r,hl,e⟩:=I.lstM hH
  refine call_meets F.slot_list_append ⟨_,e,rfl⟩ F.entry_list_append (F.args_list_append_2 _ _) (PySem.list_append l its.toArray n u (by rw [List.size_toArray]; omega)) ⟨e,?_⟩
  refine ⟨.non,_,I.lset (its':=its ++ [u]) hH e (by simp) (r.append (.cons ru .nil)) ?_,rfl,q⟩
  rw [List.length_append,List.length_singleton]
  omega
def rPop:V→List V→Hp→VK→Prop:=fun x vs H Q=>∃ l xs y,x = .ref l∧vs = []∧H l = some (.lst xs)∧xs[xs.length - 1]? = some y∧Q y (upd H l (.lst xs.dropLast))
theorem mt_pop:MtM X "list.pop" rPop:=by
  intro pins s σ H x vs v us Q I rx rv h
  obtain ⟨l,xs,y,rfl,rfl,hH,hy,q⟩:=h
  cases rx
  have hus:=rv.zero
  subst hus
  obtain ⟨z,its,n,r,hl,e⟩:=I.lstM hH
  obtain ⟨u,hu,ru⟩:=r.get hy
  have hy':its.toArray[its.toArray.size - 1]? = some u:=by
    show its.toArray[its.length - 1]? = some u
    rw [← Array.getElem?_toList,← hl]
    exact hu
  refine call_meets F.slot_list_pop ⟨_,e,rfl⟩ F.entry_list_pop (F.args_list_pop_1 _) (MeetsSeq.list_pop_last l its.toArray n u hy' (by rw [List.size_toArray]; omega)) ⟨e,?_⟩
  refine ⟨y,_,I.lset (its':=its.dropLast) hH e ?_ r.dropLast ?_,ru,q⟩
  · show its.toArray.eraseIdxIfInBounds (its.toArray.size - 1) = its.dropLast.toArray
    rw [List.size_toArray,List.eraseIdxIfInBounds_toArray,erase_last]
  · rw [List.length_dropLast]
    omega
def rCat:R2:=fun x y H Q=>∃ l b xs zs,x = .ref l∧y = .ref b∧H l = some (.lst xs)∧H b = some (.lst zs)∧xs.length + zs.length≤sizeLine∧∀ p,H p = none→Q (.ref p) (upd H p (.lst (xs ++ zs)))
theorem op_cat:OpR X (binaryOp .Add) rCat:=by
  intro pins s σ H x y v u Q I rx ry h
  obtain ⟨l,b,xs,zs,rfl,rfl,hH,hB,hz,q⟩:=h
  cases rx
  cases ry
  obtain ⟨z,its,n,r,hl,e⟩:=I.lstM hH
  obtain ⟨z2,its2,n2,r2,hl2,e2⟩:=I.lstM hB
  refine PySem.P.add_list e e2 ?_ (by rw [List.size_toArray,List.size_toArray]; omega)
  have ea:its.toArray ++ its2.toArray = (its ++ its2).toArray:=by simp
  rw [ea]
  exact ⟨.ref _,_,I.lnew (t':=s.toks) (r.append r2) (by rw [List.length_append]; omega),rfl,q _ I.fresh⟩
end
section
variable {prog:Program} {w:World} {A:Around} {E:Value→Shared→Prop} {s:Shared}
end
section
variable {X:Cx}
end
end L2
namespace Att
open PySem PySem.W PySem.Calls PyProof.Rows
theorem ints_of_wellAll {P:Params} {h:Heap}:∀ (ns:List Int) (vs:List Value),WellAll P h vs (ns.map WData.int)→IntsAre vs ns:=by
  intro ns
  induction ns with
  | nil =>
    intro vs w
    rw [List.map_nil] at w
    cases w
    exact .nil
  | cons n ns ih =>
    intro vs w
    rw [List.map_cons] at w
    cases w with
    | cons a b =>
      cases a
      exact .cons _ _ (ih _ b)
theorem script_of {l:OpenLaw} {n:Nat} (hn:l.most = some n) {P:Params} {h:Heap} {args:List WData} {vals:List Value}
    (hpre:l.row.toRowW.claim.pre args = true) (hwl:WellAll P h vals args) :
    ∃ a vs ns,vals = [Value.ref a]∧args = [WData.list (ns.map WData.int)]∧h.get? a = some { cls:=.type "list",data:=.seq vs.toArray }∧IntsAre vs ns∧ns.length≤n:=by
  have hsh:WShape.hasAll [] args [.list .int] = true:=(pre_splitW hpre).1
  have hc:l.pre.holds [] { args:=args } = true:=(pre_splitW hpre).2
  obtain ⟨d,r,rfl,h1,h2⟩:=hasAllW_cons hsh
  obtain rfl:=hasAllW_nil h2
  obtain ⟨xs,rfl,h3⟩:=hasW_list h1
  obtain ⟨ns,rfl⟩:=items_int h3
  have hlen:ns.length≤n:=by
    unfold OpenLaw.pre at hc
    have h4:(WTm.not (.lt (.lit (.int (n:Int))) (.len (.arg 0)))).holds [] { args:=[.list (ns.map .int)] } = true:=by
      have h4:=(holds_andW hc).1
      rw [hn] at h4
      exact h4
    have h5:=condW_of h4 (w_not (w_lt w_lit (w_len_list (w_arg rfl))))
    rw [List.length_map] at h5
    refine Nat.le_of_not_lt fun q=>?_
    have q':(n:Int) < ((ns.length:Nat):Int):=by omega
    first
      | (rw [decide_eq_true q'] at h5; exact absurd h5 (by decide))
      | (simp at h5; omega)
  cases hwl with
  | cons w1 w2 =>
    cases w2
    cases w1 with
    | list ho hall=>exact ⟨_,_,ns,rfl,rfl,ho,ints_of_wellAll ns _ hall,hlen⟩
theorem post_true (l:OpenLaw) (args:List WData):l.row.toRowW.claim.post args (.bool true) args = true :=
  postW_of (r:=l.row.toRowW) (X:=(true == true))
    (show WShape.has [] (.bool true) .bool = true by first | rfl | decide | simp [WShape.has,WShape.arms,WShape.armsAll])
    (show (WTm.eq .res (.lit (.bool true))).value [] { args:=args,res:=some (.bool true),after:=args } = some (.bool (true == true)) from w_eq_bool (w_res rfl) w_lit) rfl
theorem attach_call {l:OpenLaw} {n:Nat} {q:Program} {loose:List Str} {XP:(Str→Option Value)→Heap→Prop} {YP:World→Heap→Prop} {d:DefRec}
    (hn:l.most = some n) (hdf:d.params.defaults = [])
    (call:∀ (w:World) (s₀ s₁:Shared) (mg mb:Str→Option Value) (fa:Addr) (o:Obj) (pm cd doc:Value) (a:Addr) (vs:List Value) (ns:List Int),
      Ground q loose [] XP w s₀ mg mb s₁.heap→YP w s₁.heap →
      s₁.heap.get? fa = some o→o.data = .func (docDef d.name d.params d.body d.scope pm cd doc)→s₁.heap.CodeRec cd d.name→mg d.name = some (.ref fa) →
      s₁.heap.get? a = some { cls:=.type "list",data:=.seq vs.toArray }→IntsAre vs ns→ns.length≤n→s₁.gens = #[] →
      codeAny (model l.prog w) callerA (.call (.ref fa) ⟨[.ref a],[]⟩) (fun r s'=>r = .ok (.ret (.bool true))∧OldK s₁.heap s'.heap∧s'.os = s₁.os∧AllBare s'.gens) s₁) :
    WalkO q loose XP YP l.row.toRowW d [] (fun f vs=>PySem.call f vs):=by
  intro w s₀ s₁ mg mb G Y fa o pm cd doc dV kV ho hd hcd hD hmg hg args vals as hpre hlay hrd hwl hlo
  obtain rfl:dV = .none:=Dflts.none hD hdf
  obtain rfl:kV = .none:=Dflts.noKw hD
  obtain ⟨a,vs,ns,rfl,rfl,hobj,hints,hlen⟩:=script_of hn hpre hwl
  refine enter_call (codeAny_mono (call w s₀ s₁ mg mb fa o pm cd doc a vs ns G Y ho (fd_plain hd) hcd hmg hobj hints hlen hg) fun r s' hq=>?_)
  obtain ⟨rfl,h2,h3,h4⟩:=hq
  exact ⟨.inl ⟨.bool true,.bool true,[],rfl,fun _=>rfl,.bool true,post_true l _,fun _=>⟨List.Pairwise.nil,fun _ hm=>(nomatch hm)⟩⟩,h2,h3,h4⟩
section
variable {prog:Program} {w:World} {A:Around} {E:Value→Shared→Prop} {s:Shared} {K:Frag}
def ledger (h:Heap) (L d:Addr):List (Addr × Obj):=(List.range h.objs.size).filterMap fun a=>if a = L∨a = d then none else (h.get? a).map fun o=>(a,o)
end
end Att
namespace L2
open PySem PySem.Spec PyProof.Rows
theorem vals_ints:∀ {vs:List Value} {ns:List Int},IntsAre vs ns→Vals (ns.map V.int) vs
  | _,_,.nil=>.nil
  | _,_,.cons n t h=>.cons ⟨t,rfl⟩ (vals_ints h)
def Only (H:Hp):Prop:=∀ b,H b = none∨∃ o xs,H b = some (.frz o (.lst xs))
theorem law_call {P:Program} {w:World} {K:PySem.W.Frag} {mg mb:Str→Option Value} {CX:CXT} {k:Nat} {fa a:Addr} {fd:FuncData} {x:Str} {sp:Sp} {s₁:Shared} {vs:List Value} {ns:List Int}
    (KX:K.In s₁.heap) (hns:s₁.heap.Ns mainGlobals mg) (hb:s₁.heap.Ns builtinsNs mb) (hbb:∀ x:Str,x ≠ "__name__"→mb x = bootBuiltins x) (hlim:s₁.heap.NoLimit) (hg:s₁.gens = #[])
    (ha:s₁.heap.get? a = some { cls:=.type "list",data:=.seq vs.toArray }) (hi:IntsAre vs ns) (hl:ns.length≤sizeLine) (hr:Room k callerA)
    (F:∀ base:Heap,K.In base→base.Ns mainGlobals mg→FnOk P w K mg base CX k fa fd [x] sp) (hbind:∀ (s:Shared) (u:Value),BindsTo s fd ⟨[u],[]⟩ [(x,u)])
    (hsp:∀ H:Hp,Only H→SqL K H a (ns.map V.int)→sp [.ref a] H (fun v _=>v = .bl true) fun _ _ _=>False)
    (hCX:∀ H e s',CX [] H s₁ (fun _ _ _=>False) e s'→False) :
    codeAny (model P w) callerA (.call (.ref fa) ⟨[.ref a],[]⟩) (fun r s'=>r = .ok (.ret (.bool true))∧OldK s₁.heap s'.heap∧s'.os = s₁.os∧AllBare s'.gens) s₁:=by
  have rv:=vals_ints hi
  have lenV:=hi.length
  -- from an abstract heap in which nothing but the script may be tracked
  have core:∀ H:Hp,Only H→SqL K H a (ns.map V.int)→HOk P w H s₁.heap→(∀ b,H b≠none→b = a)→(H a≠none→K.lookup a = none) →
      codeAny (model P w) callerA (.call (.ref fa) ⟨[.ref a],[]⟩) (fun r s'=>r = .ok (.ret (.bool true))∧OldK s₁.heap s'.heap∧s'.os = s₁.os∧AllBare s'.gens) s₁:=by
    intro H hO hS hok hA hK
    have base_of:∀ {b:Addr} {o:Obj},s₁.heap.get? b = some o→H b = none→(hidT s₁.heap H).get? b = some o:=fun e n=>hidT_get e n
    have noA:∀ {b:Addr} {o:Obj} {es:Array DictEntry} {ep:Nat},s₁.heap.get? b = some o→o.data = .dict es ep→H b = none:=fun {b o es ep} e d=>by
      cases q:H b with
      | none=>rfl
      | some u =>
        have e':b = a:=hA b (by rw [q]; simp)
        subst e'
        rw [ha] at e; cases e
        have d':Data.seq vs.toArray _ = Data.dict es ep:=d
        cases d'
    have nsK:∀ {b:Addr} {m:Str→Option Value},s₁.heap.Ns b m→(hidT s₁.heap H).Ns b m:=fun {b m} ⟨o,es,ep,e,d,r⟩=>⟨o,es,ep,base_of e (noA e d),d,r⟩
    have hKb:K.In (hidT s₁.heap H):=fun b o e=>base_of (KX b o e) (by
      cases q:H b with
      | none=>rfl
      | some u =>
        have e':b = a:=hA b (by rw [q]; simp)
        subst e'
        rw [hK (by rw [q]; simp)] at e; cases e)
    have hM:Mod K mg (hidT s₁.heap H):=⟨hKb,nsK hns,⟨mb,nsK hb,hbb⟩,let ⟨mc,h1,h2⟩:=hlim; ⟨mc,nsK h1,h2⟩⟩
    have e0:Env0 P w K mg (hidT s₁.heap H) callerA [] s₁ H:=⟨rfl,hM,fun b o e=>of_hidT e,Nat.le_of_eq (hidT_size _ _),trivial,fun b hb=>absurd (show b∈([]:List Addr) from hb) (by simp),hok,.of_eq hg⟩
    refine codeAny_mono ((F _ hKb (nsK hns)).run callerA [] s₁ H ⟨[.ref a],[]⟩ [.ref a] [.ref a] _ _ hr e0 (hbind s₁ (.ref a)) (.cons rfl .nil) (hsp H hO hS)) fun r s' h=>?_
    cases r with
    | error e=>exact (hCX H e s' h).elim
    | ok fl =>
      cases fl with
      | next=>exact False.elim h
      | brk=>exact False.elim h
      | cont=>exact False.elim h
      | ret u =>
        obtain ⟨v,H',os,bare,un,hok',r',q⟩:=h
        have q':v = .bl true:=q
        subst q'
        obtain rfl:u = Value.bool true:=r'
        refine ⟨rfl,OldK.of_keep fun b o e=>?_,os,bare⟩
        cases q:H b with
        | none=>exact un.keep b o e q (by intro z; exact absurd (show b∈([]:List Addr) from z) (by simp)) (by simp)
        | some u =>
          rcases hO b with z | ⟨ob,xs,z⟩
          · rw [q] at z; cases z
          · have z2:=un.frzs b ob _ z
            obtain ⟨e1,_⟩:=hok b _ z
            obtain ⟨e2,_⟩:=hok' b _ z2
            rw [e] at e1; cases e1
            exact e2
  cases hk:K.lookup a with
  | some o =>
    -- the script is one of the module's own objects
    have e:=KX a o hk
    rw [ha] at e
    cases e
    refine core (fun _=>none) (fun _=>.inl rfl) (.inr ⟨_,vs.toArray,_,hk,rfl,rfl,rfl,by rw [List.size_toArray,lenV]; exact hl,by simpa using rv⟩) (fun b u z=>by have z':(none:Option HO) = some u:=z; cases z') (fun b z=>absurd rfl z) fun z=>absurd rfl z
  | none =>
    refine core (fun b=>if b = a then some (.frz { cls:=.type "list",data:=.seq vs.toArray } (.lst (ns.map V.int))) else none) (fun b=>?_) (.inl (.inr ⟨{ cls:=.type "list",data:=.seq vs.toArray },if_pos rfl⟩)) (fun b u z=>?_) (fun b z=>?_) fun _=>hk
    · by_cases hb:b = a
      · exact .inr ⟨_,_,if_pos hb⟩
      · exact .inl (if_neg hb)
    · by_cases hb:b = a
      · have z':=(if_pos hb).symm.trans z
        cases z'
        subst hb
        exact ⟨ha,by rw [List.length_map]; exact hl,vs,_,rv,ha⟩
      · have z':=(if_neg hb).symm.trans z
        cases z'
    · by_cases hb:b = a
      · exact hb
      · exact absurd (if_neg hb) z
end L2
namespace L2
open PySem PySem.Spec PyProof.Rows
theorem walk_of {l:PySem.W.OpenLaw} {n k:Nat} {q:Program} {loose:List Str} {XP:(Str→Option Value)→Heap→Prop} {YP:World→Heap→Prop} {d:DefRec} {K:Params→PySem.W.Frag} {CX:World→CXT} {sp:World→Sp} {x:Str}
    (hn:l.most = some n) (hn2:n≤sizeLine) (hdf:d.params.defaults = []) (hr:Room k callerA)
    (hY:∀ (w:World) (h:Heap),YP w h→(K w.params).In h)
    (F:∀ (w:World) (mg:Str→Option Value) (fa:Addr) (h:Heap),(K w.params).In h→h.Ns mainGlobals mg→mg d.name = some (.ref fa) →
      ∃ fd:FuncData,(∀ (s:Shared) (u:Value),BindsTo s fd ⟨[u],[]⟩ [(x,u)]) ∧
        ∀ base:Heap,(K w.params).In base→base.Ns mainGlobals mg→FnOk l.prog w (K w.params) mg base (CX w) k fa fd [x] (sp w))
    (hsp:∀ (w:World) (H:Hp) (a:Addr) (ns:List Int),ns.length≤n→Only H→SqL (K w.params) H a (ns.map V.int)→sp w [.ref a] H (fun v _=>v = .bl true) fun _ _ _=>False)
    (hCX:∀ (w:World) (H:Hp) (s:Shared) (e:Value) (s':Shared),CX w [] H s (fun _ _ _=>False) e s'→False) :
    PySem.W.WalkO q loose XP YP l.row.toRowW d [] (fun f vs=>PySem.call f vs):=by
  refine Att.attach_call hn hdf fun w s₀ s₁ mg mb fa o pm cd doc a vs ns G Y ho hd hcd hmg hobj hints hlen hg=>?_
  have KX:=hY w _ Y
  obtain ⟨fd,hb,hF⟩:=F w mg fa _ KX G.T.g hmg
  exact law_call KX G.T.g G.T.b G.T.builtins G.T.nolimit hg hobj hints (Nat.le_trans hlen hn2) hr hF hb (fun H hO hS=>hsp w H a ns hlen hO hS) fun H e s'=>hCX w H s₁ e s'
end L2
namespace L2
open PySem PySem.Spec PyProof.Rows
def defArgs (s:Stmt):Arguments:=match s with
  | .FunctionDef _ a _ _ _ _ _ _ _ _=>a
  | _=>{ posonlyargs:=[],args:=[],vararg:=none,kwonlyargs:=[],kw_defaults:=[],kwarg:=none,defaults:=[] }
def defBody (s:Stmt):List Stmt:=match s with
  | .FunctionDef _ _ b _ _ _ _ _ _ _=>b
  | _=>[]
def defScope (s:Stmt):Scope:=match s with
  | .FunctionDef _ _ _ _ _ _ sc _ _ _=>sc
  | _=>{ kind:=.function,names:=[],isGenerator:=false,isCoroutine:=false }
abbrev CX0:CXT:=fun _ _ _ _ _ _=>False
abbrev E0:XK:=fun _ _ _=>False
theorem pass0 {X:Cx}:Passes CX0 X E0:=fun _ _ _ _ _ _ _ h=>h.elim
structure Fun (K:PySem.W.Frag) (x qual:Str) (st:Stmt) (f:Addr) (fd:FuncData):Prop where
  ex:∃ (oc:Value) (od:Option Addr) (kV doc pm:Value) (an:Option Addr) (cdv ct:Value) (osl:Array (Option Value)),
    fd = PySem.W.fnOf x qual (defArgs st) (defBody st) (defScope st) .none kV doc pm an cdv ct∧K.lookup f = some ⟨oc,od,.func fd,osl⟩∧PySem.W.codeIn K cdv qual = true
  kp:PySem.W.keepIn K (.ref f) = true
section
variable {P:Program} {w:World} {K:PySem.W.Frag} {mg:Str→Option Value} {base:Heap}
theorem Fun.ok {x qual:Str} {st:Stmt} {f:Addr} {fd:FuncData} {N ps:List Str} {k:Nat} {sp:Sp} (F:Fun K x qual st f fd) (S:FnScope N ps (defScope st)) (len:∀ vs H Q E,sp vs H Q E→vs.length = ps.length)
    (hbody:∀ (cdv:Value) (A:Around) (outer:List Env) (s:Shared) (H:Hp) (vs:List V) (Q:VK) (E:XK),Room k (A.deeper (envOfC qual (defScope st) s.heap.objs.size f cdv))→sp vs H Q E →
      ∃ t,PSs (cxOf CX0 P w K mg base N qual (defScope st) f cdv A outer s H E).nox (defBody st) t∧t { nx:=fun _ H'=>Q .non H',rt:=Q } (start N vs) H):FnOk P w K mg base CX0 (k + 1) f fd ps sp:=by
  obtain ⟨oc,od,kV,doc,pm,an,cdv,ct,osl,rfl,lk,hcd⟩:=F.ex
  refine fn_of lk hcd S len fun A outer s H vs Q E hr hsp=>?_
  obtain ⟨t,h,q⟩:=hbody cdv A outer s H vs Q E hr hsp
  exact ⟨t,h.nox,q⟩
theorem Fun.binds {x qual:Str} {st:Stmt} {f:Addr} {fd:FuncData} {ps:List Str} (F:Fun K x qual st f fd)
    (h:∀ (kV doc pm:Value) (an:Option Addr) (cdv ct:Value) (us:List Value),us.length = ps.length→bindArgs (PySem.W.fnOf x qual (defArgs st) (defBody st) (defScope st) .none kV doc pm an cdv ct) ⟨us,[]⟩ = pure (ps.zip us)):Binds K fd ps []:=by
  obtain ⟨oc,od,kV,doc,pm,an,cdv,ct,osl,rfl,lk,hcd⟩:=F.ex
  exact .all (h kV doc pm an cdv ct)
theorem fun_mk {x qual:Str} {st:Stmt} {f:Addr} {oc:Value} {od an:Option Addr} {osl:Array (Option Value)} {kV doc pm cdv ct:Value} (l:K.lookup f = some ⟨oc,od,.func (PySem.W.fnOf x qual (defArgs st) (defBody st) (defScope st) .none kV doc pm an cdv ct),osl⟩)
    (c:PySem.W.codeIn K cdv qual = true) (k:PySem.W.keepIn K (.ref f) = true):Fun K x qual st f (PySem.W.fnOf x qual (defArgs st) (defBody st) (defScope st) .none kV doc pm an cdv ct):=⟨⟨oc,od,kV,doc,pm,an,cdv,ct,osl,rfl,l,c⟩,k⟩
end
theorem hu_of {A:Around} {k:Nat} (hr:Room k A):A.units + 1 < cLine:=Nat.lt_of_le_of_lt (Nat.add_le_add_left (by decide:1≤64) _) hr.units
theorem small1000 {n:Nat} (h:n≤1000):n < sizeLine:=Nat.lt_of_le_of_lt h (by decide)
section
variable {X:Cx}
theorem pv (i:Nat) {x:Str} {pos:Pos} (hN:X.N[i]? = some x:=by rfl) (hv:Vis X.env.scope x:=by first | exact Or.inl rfl | exact Or.inr (Or.inl rfl) | exact Or.inr (Or.inr rfl)) (hd:(x == ("__debug__":Str)) = false:=by decide)
    (hcd:(x == ("__classdict__":Str)) = false:=by decide):PE X (.Name x pos) (tVar i):=pe_var hN hv hd hcd
end
theorem iteF {A B:Prop} (h:B):if false = true then A else B:=by
  rw [if_neg Bool.false_ne_true]
  exact h
theorem iteT {A B:Prop} (h:A):if true = true then A else B:=by
  rw [if_pos rfl]
  exact h
theorem ite2 {c A B:Prop} [Decidable c] (h1:c→A) (h2:¬ c→B):if c then A else B:=by
  by_cases h:c
  · rw [if_pos h]
    exact h1 h
  · rw [if_neg h]
    exact h2 h
def Same (H H':Hp):Prop:=∀ b o,H b = some o→H' b = some o
theorem Same.refl (H:Hp):Same H H:=fun _ _ h=>h
theorem Same.trans {H H1 H2:Hp} (a:Same H H1) (b:Same H1 H2):Same H H2:=fun c o h=>b c o (a c o h)
theorem Same.free {H H':Hp} (e:Same H H') {l:Addr} (h:H' l = Option.none):H l = Option.none:=by
  cases q:H l with
  | none=>rfl
  | some o =>
    rw [e l o q] at h
    cases h
theorem Same.seq {K:PySem.W.Frag} {H H':Hp} {a:Addr} {xs:List V} (e:Same H H') (h:SqL K H a xs):SqL K H' a xs:=by
  rcases h with (h | ⟨o,h⟩) | h
  · exact .inl (.inl (e _ _ h))
  · exact .inl (.inr ⟨o,e _ _ h⟩)
  · exact .inr h
end L2
namespace L2
open PySem PySem.Spec PyProof.Rows
section
variable {κ:Type} [DecidableEq κ]
def valV (kvs:List (κ × V)) (k:κ):Option V:=(kvs.find? fun kv=>decide (kv.1 = k)).map (·.2)
def putK (kvs:List (κ × V)) (k:κ) (v:V):List (κ × V) :=
  if (kvs.any fun kv=>decide (kv.1 = k)) = true then kvs.map (fun kv=>if kv.1 = k then (kv.1,v) else kv) else kvs ++ [(k,v)]
def dropK (kvs:List (κ × V)) (k:κ):List (κ × V):=kvs.filter fun kv=>decide (kv.1≠k)
theorem valV_pos {p:κ × V} {r:List (κ × V)} {k:κ} (e:p.1 = k):valV (p :: r) k = some p.2:=by simp [valV,List.find?_cons,e]
theorem valV_neg {p:κ × V} {r:List (κ × V)} {k:κ} (e:¬ p.1 = k):valV (p :: r) k = valV r k:=by simp [valV,List.find?_cons,e]
theorem valV_any (k:κ):∀ kvs:List (κ × V),(kvs.any fun kv=>decide (kv.1 = k)) = (valV kvs k).isSome
  | []=>rfl
  | p :: r=>by
    rw [List.any_cons]
    by_cases e:p.1 = k
    · simp only [valV_pos e,decide_eq_true e,Bool.true_or,Option.isSome_some]
    · rw [valV_neg e,decide_eq_false e,Bool.false_or]; exact valV_any k r
theorem length_putK (kvs:List (κ × V)) (k:κ) (v:V):(putK kvs k v).length≤kvs.length + 1:=by
  unfold putK
  split
  · rw [List.length_map]; omega
  · rw [List.length_append,List.length_cons,List.length_nil]; omega
theorem RelO.isSome_eq {o:Option V} {u:Option Value} (r:RelO o u):o.isSome = u.isSome:=by
  cases o with
  | none=>cases u with
    | none=>rfl
    | some _=>exact (show False from r).elim
  | some _=>cases u with
    | none=>exact (show False from r).elim
    | some _=>rfl
theorem RelO.getD {o:Option V} {u:Option Value} {d:V} {d':Value} (r:RelO o u) (rd:RelV d d'):RelV (o.getD d) (u.getD d'):=by
  cases o with
  | none=>cases u with
    | none=>exact rd
    | some _=>exact (show False from r).elim
  | some _=>cases u with
    | none=>exact (show False from r).elim
    | some _=>exact r
theorem KV.val {kvs:List (κ × V)} {vs:List (κ × Value)} (r:KV kvs vs) (k:κ):RelO (valV kvs k) (valueAt vs k):=by
  unfold KV at r
  induction r with
  | nil=>exact True.intro
  | @cons p q ps qs h t ih =>
    obtain ⟨h1,h2⟩:=h
    by_cases e:p.1 = k
    · have e':q.1 = k:=h1.symm.trans e
      have b:valueAt (q :: qs) k = some q.2:=by simp [valueAt,List.find?_cons,e']
      rw [valV_pos e,b]; exact h2
    · have e':¬ q.1 = k:=fun z=>e (h1.trans z)
      have b:valueAt (q :: qs) k = valueAt qs k:=by simp [valueAt,List.find?_cons,e']
      rw [valV_neg e,b]; exact ih
theorem KV.any {kvs:List (κ × V)} {vs:List (κ × Value)} (r:KV kvs vs) (k:κ):(kvs.any fun kv=>decide (kv.1 = k)) = vs.any fun kv=>decide (kv.1 = k):=by
  unfold KV at r
  induction r with
  | nil=>rfl
  | cons h t ih=>rw [List.any_cons,List.any_cons,ih,h.1]
theorem KV.repl {kvs:List (κ × V)} {vs:List (κ × Value)} (r:KV kvs vs) (k:κ) {y:V} {u:Value} (ry:RelV y u) :
    KV (kvs.map fun kv=>if kv.1 = k then (kv.1,y) else kv) (vs.map fun kv=>if kv.1 = k then (kv.1,u) else kv):=by
  unfold KV at r ⊢
  induction r with
  | nil=>exact .nil
  | @cons p q ps qs h t ih =>
    rw [List.map_cons,List.map_cons]
    refine .cons ?_ ih
    obtain ⟨h1,h2⟩:=h
    by_cases e:p.1 = k
    · rw [if_pos e,if_pos (h1.symm.trans e)]; exact ⟨h1,ry⟩
    · rw [if_neg e,if_neg (fun z=>e (h1.trans z))]; exact ⟨h1,h2⟩
theorem KV.put {kvs:List (κ × V)} {vs:List (κ × Value)} (r:KV kvs vs) (k:κ) {y:V} {u:Value} (ry:RelV y u):KV (putK kvs k y) (stored vs k u):=by
  unfold putK stored
  rw [r.any k]
  by_cases e:(vs.any fun kv=>decide (kv.1 = k)) = true
  · rw [if_pos e,if_pos e]; exact r.repl k ry
  · rw [if_neg e,if_neg e]; exact Paired.snoc r ⟨rfl,ry⟩
theorem KV.drop {kvs:List (κ × V)} {vs:List (κ × Value)} (r:KV kvs vs) (k:κ):KV (dropK kvs k) (without vs k):=by
  unfold KV at r ⊢
  unfold dropK without
  induction r with
  | nil=>exact .nil
  | @cons p q ps qs h t ih =>
    obtain ⟨h1,h2⟩:=h
    rw [List.filter_cons,List.filter_cons]
    by_cases e:p.1 = k
    · have a:¬ decide (p.1≠k) = true:=by simp [e]
      have b:¬ decide (q.1≠k) = true:=by simp [h1.symm.trans e]
      rw [if_neg a,if_neg b]; exact ih
    · have e':¬ q.1 = k:=fun z=>e (h1.trans z)
      have a:decide (p.1≠k) = true:=by simp [e]
      have b:decide (q.1≠k) = true:=by simp [e']
      rw [if_pos a,if_pos b]; exact .cons ⟨h1,h2⟩ ih
theorem KV.keys {kvs:List (κ × V)} {vs:List (κ × Value)} (r:KV kvs vs):kvs.map (·.1) = vs.map (·.1):=by
  unfold KV at r
  induction r with
  | nil=>rfl
  | cons h t ih=>rw [List.map_cons,List.map_cons,ih,h.1]
theorem KV.length {kvs:List (κ × V)} {vs:List (κ × Value)} (r:KV kvs vs):kvs.length = vs.length:=Paired.length r
end
theorem kV_is {P:Program} {w:World} {k:Key} {u:Value} (r:RelV (kV k) u):(mixKind P w).is k u = true:=by
  cases k with
  | inl i=>obtain rfl:=(show u = Value.bool i from r); exact mixKind_bool P w i
  | inr x=>obtain ⟨t,e⟩:=(show ∃ t,u = Value.str x t from r); subst e; exact mixKind_str P w x t
theorem items_are {P:Program} {w:World}:∀ {ks:List Key} {us:List Value},Vals (ks.map kV) us→ItemsAre (mixKind P w) ks us
  | [],_,r=>by rw [List.map_nil] at r; cases r; exact .nil
  | k :: ks,_,r=>by
    rw [List.map_cons] at r
    cases r with
    | cons h t=>exact .cons (kV_is h) (items_are t)
abbrev KT (H:Hp):List (List Key × V)→List (List Key × Addr × Value)→Prop:=Paired fun p q=>p.1 = q.1∧H q.2.1 = some (.tup (p.1.map kV))∧RelV p.2 q.2.2
theorem KT.val {H:Hp} {kvs:List (List Key × V)} {xs:List (List Key × Addr × Value)} (r:KT H kvs xs) (k:List Key):RelO (valV kvs k) ((atKey xs k).map (·.2)):=by
  induction r with
  | nil=>exact True.intro
  | @cons p q ps qs h t ih =>
    obtain ⟨h1,_,h2⟩:=h
    by_cases e:p.1 = k
    · have e':q.1 = k:=h1.symm.trans e
      have b:atKey (q :: qs) k = some q.2:=by simp [atKey,List.find?_cons,e']
      rw [valV_pos e,b]; exact h2
    · have e':¬ q.1 = k:=fun z=>e (h1.trans z)
      have b:atKey (q :: qs) k = atKey qs k:=by simp [atKey,List.find?_cons,e']
      rw [valV_neg e,b]; exact ih
theorem KT.repl {H:Hp} {kvs:List (List Key × V)} {xs:List (List Key × Addr × Value)} (r:KT H kvs xs) (k:List Key) {y:V} {u:Value} (ry:RelV y u) :
    KT H (kvs.map fun kv=>if kv.1 = k then (kv.1,y) else kv) (xs.map (putAt k u)):=by
  induction r with
  | nil=>exact .nil
  | @cons p q ps qs h t ih =>
    rw [List.map_cons,List.map_cons]
    refine .cons ?_ ih
    obtain ⟨h1,h2,h3⟩:=h
    unfold putAt
    by_cases e:p.1 = k
    · rw [if_pos e,if_pos (h1.symm.trans e)]; exact ⟨h1,h2,ry⟩
    · rw [if_neg e,if_neg (fun z=>e (h1.trans z))]; exact ⟨h1,h2,h3⟩
theorem KT.put {H:Hp} {kvs:List (List Key × V)} {xs:List (List Key × Addr × Value)} (r:KT H kvs xs) (k:List Key) {b:Addr} {y:V} {u:Value} (hb:H b = some (.tup (k.map kV))) (ry:RelV y u) :
    KT H (putK kvs k y) (storedH xs k b u):=by
  have e:(kvs.any fun kv=>decide (kv.1 = k)) = (atKey xs k).isSome:=by
    rw [valV_any,(r.val k).isSome_eq,Option.isSome_map]
  unfold putK storedH
  rw [e]
  by_cases q:(atKey xs k).isSome = true
  · rw [if_pos q,if_pos q]; exact r.repl k ry
  · rw [if_neg q,if_neg q]; exact Paired.snoc r ⟨rfl,hb,ry⟩
theorem KT.keeps {H H':Hp} {kvs:List (List Key × V)} {xs:List (List Key × Addr × Value)} (r:KT H kvs xs) (ht:∀ b ys,H b = some (.tup ys)→H' b = some (.tup ys)):KT H' kvs xs :=
  Paired.mapP r fun _ _ z=>⟨z.1,ht _ _ z.2.1,z.2.2⟩
section
variable {P:Program} {w:World} {H:Hp} {h:Heap} {a:Addr}
theorem rd_of {u:HO} (ok:HOk P w H h) (e:Rd H a u):ObjOk P w H h a u:=e.ok ok
theorem dk_rd {kvs:List (Key × V)} (ok:HOk P w H h) (e:Rd H a (.dK kvs)):kvs.length≤sizeLine∧(a == sysModules) = false∧∃ vs,KV kvs vs∧h.DictOf (mixKind P w) a vs :=
  show ObjOk P w H h a (.dK kvs) from rd_of ok e
theorem dk_of {kvs:List (Key × V)} (ok:HOk P w H h) (e:H a = some (.dK kvs)):kvs.length≤sizeLine∧(a == sysModules) = false∧∃ vs,KV kvs vs∧h.DictOf (mixKind P w) a vs:=dk_rd ok (.inl e)
theorem key_of {ks:List Key} (ok:HOk P w H h) (e:H a = some (.tup (ks.map kV))):(tupleKind (mixKind P w)).is h ks a:=by
  obtain ⟨_,its,r,o,h1,h2,_,n,h3⟩:=(show ObjOk P w H h a (.tup (ks.map kV)) from ok a _ e)
  exact ⟨o,its.toArray,n,h1,h2,h3,by simpa using items_are r⟩
theorem dt_rd {kvs:List (List Key × V)} (ok:HOk P w H h) (e:Rd H a (.dT kvs)):kvs.length≤sizeLine∧(a == sysModules) = false ∧
    ∃ xs,KT H kvs xs∧h.DictOfH (tupleKind (mixKind P w)) a xs:=by
  obtain ⟨z,y,xs,r,o,es,ep,h1,h2,h3,h4,h5⟩:=(show ObjOk P w H h a (.dT kvs) from rd_of ok e)
  refine ⟨z,y,xs,r,o,es,ep,h1,h2,h3,h4,fun x hx=>?_,h5⟩
  have all:∀ {l:List (List Key × V)} {m:List (List Key × Addr × Value)},KT H l m→∀ x∈m,(tupleKind (mixKind P w)).is h x.1 x.2.1:=by
    intro l m q
    induction q with
    | nil=>intro x hx; exact nomatch hx
    | @cons p q ps qs hq t ih =>
      intro x hx
      rcases List.mem_cons.mp hx with e | hx
      · subst e
        exact key_of ok (by rw [← hq.1]; exact hq.2.1)
      · exact ih x hx
  exact all r x hx
theorem dt_of {kvs:List (List Key × V)} (ok:HOk P w H h) (e:H a = some (.dT kvs)):kvs.length≤sizeLine∧(a == sysModules) = false ∧
    ∃ xs,KT H kvs xs∧h.DictOfH (tupleKind (mixKind P w)) a xs:=dt_rd ok (.inl e)
end
def DGet (H:Hp) (a:Addr) (y:V) (r:Option V):Prop :=
  (∃ kvs k,Rd H a (.dK kvs)∧y = kV k∧r = valV kvs k)∨∃ kvs k b,Rd H a (.dT kvs)∧y = .ref b∧H b = some (.tup (k.map kV))∧r = valV kvs k
def DPut (H:Hp) (a:Addr) (y v:V) (H':Hp):Prop :=
  (∃ kvs k,H a = some (.dK kvs)∧y = kV k∧kvs.length < sizeLine∧H' = upd H a (.dK (putK kvs k v))) ∨
  ∃ kvs k b,H a = some (.dT kvs)∧y = .ref b∧H b = some (.tup (k.map kV))∧kvs.length < sizeLine∧H' = upd H a (.dT (putK kvs k v))
theorem DGet.k {H:Hp} {a:Addr} {kvs:List (Key × V)} {k:Key} (e:H a = some (.dK kvs)):DGet H a (kV k) (valV kvs k):=.inl ⟨kvs,k,.inl e,rfl,rfl⟩
theorem DGet.t {H:Hp} {a b:Addr} {kvs:List (List Key × V)} {k:List Key} (e:H a = some (.dT kvs)) (eb:H b = some (.tup (k.map kV))):DGet H a (.ref b) (valV kvs k):=.inr ⟨kvs,k,b,.inl e,rfl,eb,rfl⟩
theorem DPut.k {H:Hp} {a:Addr} {kvs:List (Key × V)} {k:Key} {v:V} (e:H a = some (.dK kvs)) (hl:kvs.length < sizeLine):DPut H a (kV k) v (upd H a (.dK (putK kvs k v))):=.inl ⟨kvs,k,e,rfl,hl,rfl⟩
theorem DPut.t {H:Hp} {a b:Addr} {kvs:List (List Key × V)} {k:List Key} {v:V} (e:H a = some (.dT kvs)) (eb:H b = some (.tup (k.map kV))) (hl:kvs.length < sizeLine) :
    DPut H a (.ref b) v (upd H a (.dT (putK kvs k v))):=.inr ⟨kvs,k,b,e,rfl,eb,hl,rfl⟩
section
variable {X:Cx} {pins:List (Addr × Obj)} {σ:St} {H:Hp} {s:Shared} {a:Addr} {y v:V} {u r:Value} {o:Option V} {A:Around} {E:Value→Shared→Prop}
theorem Inv.big (I:Inv X pins σ H s):sysModules < s.heap.objs.size:=by
  have h:mainGlobals < s.heap.objs.size:=(I.mod.glob.keeps I.bk).lt
  exact Nat.lt_trans (by decide) h
theorem d_in {Q:Value→Shared→Prop} (hu:A.units + 1 < cLine) (I:Inv X pins σ H s) (g:DGet H a y o) (ry:RelV y u) (h:∀ s',Inv X pins σ H s'→Q (.bool o.isSome) s') :
    wpAny (model X.prog X.w) A (compareOp .In u (.ref a)) Q E s:=by
  rcases g with ⟨kvs,k,e,ey,l⟩ | ⟨kvs,k,b,e,ey,eb,l⟩
  · subst ey
    obtain ⟨z,hd,vs,rel,dd⟩:=dk_rd I.hok e
    refine wpAny_in_of (kV_is ry) hd dd.mapOf ?_
    rw [← (rel.val k).isSome_eq,← l]
    exact h _ (I.tok _)
  · subst ey
    cases (show u = Value.ref b from ry)
    obtain ⟨z,hd,xs,rel,dd⟩:=dt_rd I.hok e
    refine wpAny_in_heap (tupleKind_room_in1 hu) (key_of I.hok eb) hd dd ?_
    have q:=(rel.val k).isSome_eq
    rw [Option.isSome_map] at q
    rw [← q,← l]
    exact h _ (I.tok _)
theorem d_notIn {Q:Value→Shared→Prop} (hu:A.units + 1 < cLine) (I:Inv X pins σ H s) (g:DGet H a y o) (ry:RelV y u) (h:∀ s',Inv X pins σ H s'→Q (.bool (!o.isSome)) s') :
    wpAny (model X.prog X.w) A (compareOp .NotIn u (.ref a)) Q E s:=by
  rcases g with ⟨kvs,k,e,ey,l⟩ | ⟨kvs,k,b,e,ey,eb,l⟩
  · subst ey
    obtain ⟨z,hd,vs,rel,dd⟩:=dk_rd I.hok e
    refine wpAny_notIn_of (kV_is ry) hd dd.mapOf ?_
    rw [← (rel.val k).isSome_eq,← l]
    exact h _ (I.tok _)
  · subst ey
    cases (show u = Value.ref b from ry)
    obtain ⟨z,hd,xs,rel,dd⟩:=dt_rd I.hok e
    refine wpAny_notIn_heap (tupleKind_room_in1 hu) (key_of I.hok eb) hd dd ?_
    have q:=(rel.val k).isSome_eq
    rw [Option.isSome_map] at q
    rw [← q,← l]
    exact h _ (I.tok _)
theorem d_write {h':Heap} {t':Nat} {ob:HO} (I:Inv X pins σ H s) (mu:Mut (H a)) (hs:Heap.SameBut a s.heap h') (he:∃ q,h'.get? a = some q) (new:ObjOk X.prog X.w (upd H a ob) h' a ob) :
    Inv X pins σ (upd H a ob) { s with heap:=h',toks:=t' } :=
  I.write (x:=a) (e:=a) mu (.inl rfl) (fun b q hb z=>(hs.2 b hb).trans z) he new
theorem dk_new {P:Program} {w:World} {H':Hp} {h':Heap} {kvs:List (Key × V)} {vs:List (Key × Value)} (z:kvs.length≤sizeLine) (hd:(a == sysModules) = false) (rel:KV kvs vs) (dd:h'.DictOf (mixKind P w) a vs) :
    ObjOk P w H' h' a (.dK kvs):=⟨z,hd,vs,rel,dd⟩
theorem d_setItem {H':Hp} {Q:Unit→Shared→Prop} (hu:A.units + 1 < cLine) (I:Inv X pins σ H s) (g:DPut H a y v H') (ry:RelV y u) (rv:RelV v r) (h:∀ s',Inv X pins σ H' s'→Q () s') :
    wpAny (model X.prog X.w) A (setItem (.ref a) u r) Q E s:=by
  rcases g with ⟨kvs,k,e,ey,l,eH⟩ | ⟨kvs,k,b,e,ey,eb,l,eH⟩
  · subst ey eH
    obtain ⟨z,hd,vs,rel,dd⟩:=dk_of I.hok e
    have hz:vs.length≤sizeLine:=by rw [← rel.length]; exact z
    have hl:(putK kvs k v).length≤sizeLine:=by have:=length_putK kvs k v; omega
    refine wpAny_setItem_pairs (hsz:=hz) (kV_is ry) dd fun h' dd' hs=>h _ ?_
    have he:∃ q,h'.get? a = some q:=let ⟨q,_,_,hq,_⟩:=dd'; ⟨q,hq⟩
    exact d_write I (by rw [e]; exact True.intro) hs he (dk_new hl hd (rel.put k rv) dd')
  · subst ey eH
    cases (show u = Value.ref b from ry)
    obtain ⟨z,hd,xs,rel,dd⟩:=dt_of I.hok e
    have hz:xs.length≤sizeLine:=by rw [← Paired.length rel]; exact z
    have hl:(putK kvs k v).length≤sizeLine:=by have:=length_putK kvs k v; omega
    refine wpAny_setItem_heap (hsz:=hz) (tupleKind_room_in1 hu) (key_of I.hok eb) dd fun h' dd' hs=>h _ ?_
    obtain ⟨q,es,ep,hq,h2,h3,h4,_,h5⟩:=dd'
    refine d_write I (by rw [e]; exact True.intro) hs ⟨q,hq⟩ ⟨hl,hd,_,(rel.put k eb rv).keeps fun c ys ec=>?_,q,es,ep,hq,h2,h3,h4,h5⟩
    rw [upd_ne (ne_of ec e (fun z=>nomatch z))]
    exact ec
end
section
variable {X:Cx} {pins:List (Addr × Obj)} {σ:St} {H:Hp} {s:Shared} {a:Addr} {kvs:List (Key × V)} {k:Key} {u:Value} {A:Around} {E:Value→Shared→Prop}
end
def tDIn (ty td:TE):TE:=fun σ H Q=>ty σ H fun y H1=>td σ H1 fun x H2=>∃ a o,x = .ref a∧DGet H2 a y o∧Q (.bl o.isSome) H2
def tDNotIn (ty td:TE):TE:=fun σ H Q=>ty σ H fun y H1=>td σ H1 fun x H2=>∃ a o,x = .ref a∧DGet H2 a y o∧Q (.bl (!o.isSome)) H2
def sDPut (td ty tv:TE):TS:=fun D σ H=>tv σ H fun v H1=>td σ H1 fun x H2=>ty σ H2 fun y H3=>∃ a H4,x = .ref a∧DPut H3 a y v H4∧D.nx σ H4
section
variable {X:Cx} {o i e value:Expr} {pos pos' tpos:Pos} {td ty tv:TE}
theorem pc_din (hu:X.A.units + 1 < cLine) (hi:PE X i ty) (ho:PE X o td):PC X .In i o (tDIn ty td):=by
  intro pins s σ H Q I h
  refine thn (hi pins s σ H _ I h) fun iv s1 ⟨y,H1,I1,ry,q1⟩=>thn (ho pins s1 σ H1 _ I1 q1) fun u s2 ⟨x,H2,I2,rx,a,ov,ex,g,q2⟩=>?_
  subst ex
  obtain rfl:u = Value.ref a:=rx
  exact d_in hu I2 g ry fun s3 I3=>⟨.bl ov.isSome,H2,I3,rfl,q2⟩
theorem pc_dnotin (hu:X.A.units + 1 < cLine) (hi:PE X i ty) (ho:PE X o td):PC X .NotIn i o (tDNotIn ty td):=by
  intro pins s σ H Q I h
  refine thn (hi pins s σ H _ I h) fun iv s1 ⟨y,H1,I1,ry,q1⟩=>thn (ho pins s1 σ H1 _ I1 q1) fun u s2 ⟨x,H2,I2,rx,a,ov,ex,g,q2⟩=>?_
  subst ex
  obtain rfl:u = Value.ref a:=rx
  exact d_notIn hu I2 g ry fun s3 I3=>⟨.bl (!ov.isSome),H2,I3,rfl,q2⟩
theorem ps_dput (hu:X.A.units + 1 < cLine) (ho:PE X o td) (hi:PE X i ty) (hv:PE X value tv) (hs:swapsWith value (some (.Subscript o i pos')) pos.line X.env = pure false) :
    PS X (.Assign [.Subscript o i pos'] value pos) (sDPut td ty tv):=by
  intro pins s σ H D I h
  refine wpAny_Assign_Subscript (thn (hv pins s σ H _ I h) fun r s1 ⟨v,H1,I1,rv,q1⟩=>thn (ho pins s1 σ H1 _ I1 q1) fun u s2 ⟨x,H2,I2,rx,q2⟩=>thn (hi pins s2 σ H2 _ I2 q2) fun iv s3 ⟨y,H3,I3,ry,a,H4,ex,g,q3⟩=>?_) hs
  subst ex
  obtain rfl:u = Value.ref a:=rx
  exact d_setItem hu I3 g ry rv fun s4 I4=>⟨σ,H4,I4,q3⟩
end
theorem dt_empty {P:Program} {w:World} {H:Hp} (h:Heap) (hb:sysModules < h.objs.size):ObjOk P w H (h.push { cls:=.type "dict",data:=.dict #[] }) h.objs.size (.dT []) :=
  ⟨Nat.zero_le _,beq_eq_false_iff_ne.mpr (Ne.symm (Nat.ne_of_lt hb)),[],.nil,_,#[],0,Heap.get?_push_size _ rfl,⟨rfl,rfl,rfl⟩,rfl,rfl,List.nodup_nil⟩
section
variable {X:Cx} {pos:Pos}
end
def tPairs:List (TE × TE)→St→Hp→(List (V × V)→Hp→Prop)→Prop
  | [],_,H,Q=>Q [] H
  | (tk,tv) :: r,σ,H,Q=>tk σ H fun x H1=>tv σ H1 fun y H2=>tPairs r σ H2 fun ps H3=>Q ((x,y) :: ps) H3
abbrev VV:List (V × V)→List (Value × Value)→Prop:=Paired fun p q=>RelV p.1 q.1∧RelV p.2 q.2
def PPs (X:Cx) (pos:Pos) (keys:List (Option Expr)) (values:List Expr) (trs:List (TE × TE)):Prop :=
  ∀ (pins:List (Addr × Obj)) (s:Shared) (σ:St) (H:Hp) (Q:List (V × V)→Hp→Prop),Inv X pins σ H s→tPairs trs σ H Q →
    wpAny (model X.prog X.w) X.A (evalPairs (pairTrees keys values X.env pos)) (fun vs s'=>∃ ps H',Inv X pins σ H' s'∧VV ps vs∧Q ps H') X.xe s
theorem pps_nil {X:Cx} {pos:Pos}:PPs X pos [] [] []:=fun pins s σ H Q I h=>pairTrees_nil_walk ⟨[],H,I,.nil,h⟩
theorem pps_cons {X:Cx} {pos:Pos} {k v:Expr} {ks:List (Option Expr)} {vs:List Expr} {tk tv:TE} {trs:List (TE × TE)} (hk:PE X k tk) (hv:PE X v tv) (hr:PPs X pos ks vs trs) :
    PPs X pos (some k :: ks) (v :: vs) ((tk,tv) :: trs):=fun pins s σ H Q I h =>
  pairTrees_cons_walk (thn (hk pins s σ H _ I h) fun u s1 ⟨x,H1,I1,rx,q1⟩=>thn (hv pins s1 σ H1 _ I1 q1) fun w2 s2 ⟨y,H2,I2,ry,q2⟩ =>
    thn (hr pins s2 σ H2 _ I2 q2) fun ws s3 ⟨ps,H3,I3,rel,q3⟩=>⟨(x,y) :: ps,H3,I3,.cons ⟨rx,ry⟩ rel,q3⟩)
structure M1 (X:Cx) (o:Expr) (m:Str) (apos:Pos) (e:Expr) (cpos:Pos):Prop where
  base:attributeBase o m X.env (eval o X.env) = eval o X.env
  few:((backTo cpos (starEach [e] X.env)).all (fun x=>!x.1) && (backToKw cpos (keywordEach [] X.env)).all (fun x=>x.1.isSome)
    && decide (([e]:List Expr).length + ([]:List Keyword).length + (if ([]:List Keyword).isEmpty then 0 else 1) < 30)) = true
  line:(apos.endLine == cpos.line) = true
  trees:backTo cpos (starEach [e] X.env) = [(false,eval e X.env)]
structure M2 (X:Cx) (o:Expr) (m:Str) (apos:Pos) (e f:Expr) (cpos:Pos):Prop where
  base:attributeBase o m X.env (eval o X.env) = eval o X.env
  few:((backTo cpos (starEach [e,f] X.env)).all (fun x=>!x.1) && (backToKw cpos (keywordEach [] X.env)).all (fun x=>x.1.isSome)
    && decide (([e,f]:List Expr).length + ([]:List Keyword).length + (if ([]:List Keyword).isEmpty then 0 else 1) < 30)) = true
  line:(apos.endLine == cpos.line) = true
  trees:backTo cpos (starEach [e,f] X.env) = [(false,eval e X.env),(false,eval f X.env)]
section
variable {X:Cx} {pins:List (Addr × Obj)} {σ:St} {H:Hp} {s:Shared} {a:Addr} {y d:V} {u r:Value} {o:Option V} {A:Around} {E:Value→Shared→Prop}
end
section
variable {X:Cx} {o e f:Expr} {apos cpos:Pos} {td ty tx:TE}
end
section
variable {X:Cx} {pins:List (Addr × Obj)} {σ:St} {H:Hp} {s:Shared} {a:Addr} {kvs:List (Key × V)} {A:Around} {E:Value→Shared→Prop}
end
section
variable {X:Cx} {pins:List (Addr × Obj)} {σ:St} {H:Hp} {s:Shared} {a:Addr} {y:V} {u:Value} {A:Around} {E:Value→Shared→Prop}
end
end L2
set_option maxHeartbeats 4000000
namespace L2
open PySem PySem.Spec PyProof.Rows
def closRev (env:Env):List (Str × NameKind)→List (Str × Addr)→List (Str × Addr)
  | [],acc=>acc
  | (n,k) :: r,acc=>closRev env r (if k == .free then (match env.cells.lookup n with | some c=>(n,c) :: acc | none=>acc) else acc)
abbrev closOf (scope:Scope) (env:Env):List (Str × Addr):=closRev env scope.names []
theorem forIn_clos {env:Env} {g:Str × NameKind→List (Str × Addr)→Sem (ForInStep (List (Str × Addr)))}
    (hg:∀ n k cs,g (n,k) cs = if (k == NameKind.free) = true then (cellOf env n >>= fun c=>pure (ForInStep.yield ((n,c) :: cs))) else pure (ForInStep.yield cs)) :
    ∀ (names:List (Str × NameKind)) (acc:List (Str × Addr)),(∀ y∈names,y.2 = .free→∃ c,env.cells.lookup y.1 = some c)→forIn names acc g = pure (closRev env names acc)
  | [],acc,_=>rfl
  | (n,k) :: r,acc,h=>by
    rw [List.forIn_cons,hg]
    have hr:∀ y∈r,y.2 = .free→∃ c,env.cells.lookup y.1 = some c:=fun y hy=>h y (List.mem_cons_of_mem _ hy)
    unfold closRev
    by_cases hk:(k == NameKind.free) = true
    · rw [if_pos hk,if_pos hk]
      obtain ⟨c,hc⟩:=h (n,k) List.mem_cons_self (by simpa using hk)
      have hc':env.cells.lookup n = some c:=hc
      have e:cellOf env n = pure c:=by unfold cellOf; rw [hc']
      rw [e,pure_bind,pure_bind,hc']
      exact forIn_clos hg r _ hr
    · rw [if_neg hk,if_neg hk,pure_bind]
      exact forIn_clos hg r _ hr
theorem closureFor_eq {scope:Scope} {env:Env} (h:∀ y∈scope.names,y.2 = .free→∃ c,env.cells.lookup y.1 = some c):closureFor scope env = pure (closOf scope env):=by
  unfold closureFor
  dsimp only
  rw [forIn_clos (env:=env) (fun n k cs=>by
    show (if (k == NameKind.free) = true then _ else _) = _
    split
    · rfl
    · rfl) scope.names [] h]
  rfl
theorem clos_old {env:Env} {x:Str} {c:Addr}:∀ (names:List (Str × NameKind)) (acc:List (Str × Addr)),(∀ y c,acc.lookup y = some c→env.cells.lookup y = some c)→(closRev env names acc).lookup x = some c→env.cells.lookup x = some c
  | [],acc,h,e=>h _ _ e
  | (n,k) :: r,acc,h,e=>by
    unfold closRev at e
    refine clos_old r _ ?_ e
    intro y d z
    split at z
    · split at z
      · rename_i c' hc'
        rw [List.lookup_cons] at z
        cases hy:y == n with
        | true =>
          rw [hy] at z
          have z':c' = d:=Option.some.inj z
          subst z'
          have:y = n:=by simpa using hy
          rw [this]; exact hc'
        | false=>rw [hy] at z; exact h _ _ z
      · exact h _ _ z
    · exact h _ _ z
theorem clos_keep {env:Env} {x:Str}:∀ (names:List (Str × NameKind)) (acc:List (Str × Addr)),(∃ c,acc.lookup x = some c)→∃ c,(closRev env names acc).lookup x = some c
  | [],acc,h=>h
  | (n,k) :: r,acc,h=>by
    unfold closRev
    refine clos_keep r _ ?_
    split
    · split
      · rw [List.lookup_cons]
        cases x == n with
        | true=>exact ⟨_,rfl⟩
        | false=>exact h
      · exact h
    · exact h
theorem clos_has {env:Env} {x:Str}:∀ (names:List (Str × NameKind)) (acc:List (Str × Addr)),(x,NameKind.free)∈names→(∃ c,env.cells.lookup x = some c)→∃ c,(closRev env names acc).lookup x = some c
  | [],acc,h,_=>nomatch h
  | (n,k) :: r,acc,h,hx=>by
    unfold closRev
    rcases List.mem_cons.mp h with e | e
    · cases e
      refine clos_keep r _ ?_
      obtain ⟨c,hc⟩:=hx
      rw [if_pos (by decide),hc]
      exact ⟨c,by rw [List.lookup_cons,beq_self_eq_true]⟩
    · exact clos_has r _ e hx
@[reducible] def Cx.blk (X:Cx) (N:List Str) (scope:Scope) (s:Shared) (H:Hp) (fp:List Addr):Cx :=
  { X with N:=N,s₀:=s,H₀:=H,env:=compEnvC scope (closOf scope X.env) s.heap.objs.size X.env,outer:=X.stack,stack:=X.stack,ex:=fp,fn:=fun _=>false,pn:=[],xe:=fun _ _=>False }
def pick (σ:St):Option Nat→Option V
  | none=>none
  | some j=>(σ[j]?).join
structure BlkOk (X:Cx) (scope:Scope) (N:List Str) (r:List (Option Nat)):Prop where
  kind:scope.kind = .function
  nocell:∀ y∈scope.names,y.2≠.cell
  own:∀ y∈scope.names,y.2 = .local→scope.names.lookup y.1 = some .local
  out:∀ y∈scope.names,y.2 = .free→X.env.scope.names.lookup y.1 = some .cell∨X.env.scope.names.lookup y.1 = some .free
  len:r.length = N.length
  free:∀ (i j:Nat) (x:Str),r[i]? = some (some j)→N[i]? = some x→X.N[j]? = some x∧(x,NameKind.free)∈scope.names∧scope.names.lookup x = some .free
theorem lookup_map_kind {f:Str × NameKind→Str × NameKind} (hf:∀ y,(f y).1 = y.1):∀ {names:List (Str × NameKind)} {x:Str} {k:NameKind},(names.map f).lookup x = some k→∃ k',names.lookup x = some k'∧(f (x,k')).2 = k
  | [],_,_,h=>by simp at h
  | (n,k0) :: r,x,k,h=>by
    rw [List.map_cons] at h
    have e1:(f (n,k0)).1 = n:=hf _
    have e2:f (n,k0) = (n,(f (n,k0)).2):=Prod.ext e1 rfl
    rw [e2,List.lookup_cons] at h
    cases hx:x == n with
    | true =>
      rw [hx] at h
      have hxn:x = n:=by simpa using hx
      subst hxn
      exact ⟨k0,by rw [List.lookup_cons,beq_self_eq_true],Option.some.inj h⟩
    | false =>
      rw [hx] at h
      obtain ⟨k',h1,h2⟩:=lookup_map_kind hf h
      exact ⟨k',by rw [List.lookup_cons,hx]; exact h1,h2⟩
theorem map_lookup_kind {f:Str × NameKind→Str × NameKind} (hf:∀ y,(f y).1 = y.1):∀ {names:List (Str × NameKind)} {x:Str} {k:NameKind},names.lookup x = some k→(names.map f).lookup x = some (f (x,k)).2
  | [],_,_,h=>by simp at h
  | (n,k0) :: r,x,k,h=>by
    rw [List.map_cons]
    have e1:(f (n,k0)).1 = n:=hf _
    have e2:f (n,k0) = (n,(f (n,k0)).2):=Prod.ext e1 rfl
    rw [e2,List.lookup_cons]
    rw [List.lookup_cons] at h
    cases hx:x == n with
    | true =>
      rw [hx] at h
      have hxn:x = n:=by simpa using hx
      subst hxn
      have:k0 = k:=Option.some.inj h
      subst this
      rfl
    | false =>
      rw [hx] at h
      exact map_lookup_kind hf h
theorem relabel_kind {scope:Scope} {env:Env} {x:Str} {k:NameKind} (hc:∀ y∈scope.names,y.2≠.cell) (h:(relabel scope env).names.lookup x = some k) (hk:k = .cell∨k = .free):scope.names.lookup x = some .free:=by
  have h':(scope.names.map fun (y:Str × NameKind)=>if (y.2 == NameKind.free && env.scope.kind == .function && env.kindOf y.1 == some .cell) = true then (y.1,NameKind.cell) else y).lookup x = some k:=h
  obtain ⟨k',h1,h2⟩:=lookup_map_kind (f:=fun y=>if (y.2 == NameKind.free && env.scope.kind == .function && env.kindOf y.1 == some .cell) = true then (y.1,NameKind.cell) else y) (fun y=>by split <;> rfl) h'
  dsimp only at h2
  split at h2
  · rename_i z
    have z1:(k' == NameKind.free) = true:=by
      simp only [Bool.and_eq_true] at z
      exact z.1.1
    have:k' = .free:=by simpa using z1
    rw [this] at h1; exact h1
  · have h2':k' = k:=h2
    subst h2'
    rcases hk with rfl | rfl
    · exact absurd rfl (hc _ (PySem.mem_of_lookup h1))
    · exact h1
theorem relabel_free {scope:Scope} {env:Env} {x:Str} (h:scope.names.lookup x = some .free):(relabel scope env).names.lookup x = some .cell∨(relabel scope env).names.lookup x = some .free:=by
  have q:=map_lookup_kind (f:=fun (y:Str × NameKind)=>if (y.2 == NameKind.free && env.scope.kind == .function && env.kindOf y.1 == some .cell) = true then (y.1,NameKind.cell) else y) (fun y=>by split <;> rfl) h
  have q':(relabel scope env).names.lookup x = _:=q
  rw [q']
  dsimp only
  split
  · exact .inl rfl
  · exact .inr rfl
section
variable {X:Cx}
def PTs (X:Cx) (ifs:List Expr) (t:TT):Prop :=
  ∀ (pins:List (Addr × Obj)) (s:Shared) (σ:St) (H:Hp) (Q:Bool→Hp→Prop),Inv X pins σ H s→t σ H Q →
    wpAny (model X.prog X.w) X.A (forIn ifs true fun c r=>if r = true then do let ok ← isTrue c X.env (eval c X.env); pure (ForInStep.yield ok) else pure (ForInStep.yield r)) (TP X pins σ Q) X.xe s
def tYes:TT:=fun _ H Q=>Q true H
theorem pts_nil:PTs X [] tYes:=fun pins s σ H Q I h=>wpAny_tests_nil ⟨H,I,h⟩
theorem pts_one {c:Expr} {t:TT} (hc:PT X c t):PTs X [c] t:=fun pins s σ H Q I h=>wpAny_tests_one (hc pins s σ H Q I h)
theorem compLoop_go {prog:Program} {w:World} {A:Around} {R:Result→Shared→Prop} {s:Shared} {elt target iter:Expr} {ifs:List Expr} {scope:Scope} {pos:Pos} {it acc:Value} {env:Env} (I:Nat→Shared→Prop)
    (turn:∀ n s,I n s→wpAny (model prog w) A (pyNext it) (fun r s₁=>match r with
      | none=>R (.ok .next) s₁
      | some v=>wpAny (model prog w) A (letOwnedTupleGo target it v) (fun _ s₁=>wpAny (model prog w) A (assign target env v) (fun _ s₂ =>
          wpAny (model prog w) A (forIn ifs true fun c r=>if r = true then do let ok ← isTrue c env (eval c env); pure (ForInStep.yield ok) else pure (ForInStep.yield r)) (fun ok s₃ =>
            if ok = true then wpAny (model prog w) A (eval elt env) (fun x s₄ =>
              wpAny (model prog w) A (call (.builtin "list.append") [acc,x]) (fun _ s₅=>∃ m,m < n∧I m s₅) (notedBy (model prog w) A env fun e s'=>R (.error e) s') s₄) (notedBy (model prog w) A env fun e s'=>R (.error e) s') s₃
            else ∃ m,m < n∧I m s₃) (notedBy (model prog w) A env fun e s'=>R (.error e) s') s₂) (notedBy (model prog w) A env fun e s'=>R (.error e) s') s₁)
        (notedBy (model prog w) A env fun e s'=>R (.error e) s') s₁) (notedBy (model prog w) A env fun e s'=>R (.error e) s') s)
    (n:Nat) (h:I n s) :
    codeAny (model prog w) A (.compLoop (.ListComp elt [⟨target,iter,ifs,0⟩] scope pos) 0 it acc env) R s:=by
  refine codeAny_loop rfl I (fun n s hI=>?_) n h
  show wpAny _ A ((compTurn (.ListComp elt [⟨target,iter,ifs,0⟩] scope pos) 0 it acc env).onRaise (fun x=>do noteFrame x env; theTreesLotGoes x)) _ _ s
  refine wpAny_noted ?_
  rw [compTurn_list]
  refine wpAny_bind (wpAny_standAt (wpAny_bind (wpAny_mono (turn n s hI) (fun r s₁ h₁=>?_) fun _ _ h'=>h')))
  cases r with
  | none=>exact wpAny_pure h₁
  | some v =>
    refine wpAny_bind (wpAny_mono h₁ (fun _ s₁' h₁'=>?_) fun _ _ h'=>h')
    refine wpAny_bind (wpAny_mono h₁' (fun _ s₂ h₂=>wpAny_bind (wpAny_mono h₂ (fun ok s₃ h₃=>?_) fun _ _ h'=>h')) fun _ _ h'=>h')
    cases ok with
    | false=>exact wpAny_pure ⟨rfl,h₃⟩
    | true =>
      exact wpAny_bind (wpAny_bind (wpAny_mono h₃ (fun x s₄ h₄=>wpAny_bind (wpAny_mono h₄ (fun _ s₅ h₅=>wpAny_pure (wpAny_pure ⟨rfl,h₅⟩)) fun _ _ h'=>h')) fun _ _ h'=>h'))
theorem blk_start {N:List Str} {scope:Scope} {r:List (Option Nat)} {pins:List (Addr × Obj)} {σ:St} {H:Hp} {s:Shared} {h4:Heap} {tk:Nat} {fp:List Addr} (S:BlkOk X scope N r) (I:Inv X pins σ H s) (hf:∀ b∈fp,FpOk X pins H b) (hlt:∀ b∈fp,b < s.heap.objs.size)
    (hns:h4.Ns s.heap.objs.size (fun x=>([]:List (Str × Value)).reverse.lookup x)) (hk:∀ b o,s.heap.get? b = some o→h4.get? b = some o) :
    Inv (X.blk N scope s H fp) [] (r.map (pick σ)) H { s with heap:=h4,toks:=tk }:=by
  have cold:∀ x c,(closOf scope X.env).lookup x = some c→X.env.cells.lookup x = some c:=fun x c e=>clos_old scope.names [] (fun _ _ z=>by simp at z) e
  have nostk:∀ b∈fp,b ∉ frs X.stack:=fun b hb z=>by
    obtain ⟨_,f1,f2,_⟩:=hf b hb
    rcases List.mem_cons.mp (I.stkSub b z) with e | e
    · exact f1 e
    · exact f2 e
  refine ⟨⟨I.ok.mod,S.kind,I.ok.glob,I.ok.blt,Nat.le_refl _,fun x y c h1 h2=>I.ok.inj x y c (cold x c h1) (cold y c h2),fun x hx=>?_,fun x c z=>absurd z (by simp),I.ok.hd,I.ok.frames,.inl rfl,
      fun b hb=>⟨Nat.ne_of_lt (hlt b hb),fun x c e=>(hf b hb).2.2.2.2.1 x c (cold x c e)⟩,I.bs,Nat.le_trans I.ok.bsz I.sz,fun b o e hb=>?_,nostk,I.stack,I.stkFree⟩,
    rfl,I.bare,Un.kept hk,⟨_,hns,fun i x v e1 e2 e3=>?_⟩,fun x c e=>?_,I.hok.fresh (Nat.le_refl _),fun x c e=>I.freeC x c (cold x c e),fun p hp=>absurd (show p∈([]:List (Addr × Obj)) from hp) (by simp),I.hok.kept hk,?_⟩
  · have hx':(relabel scope X.env).names.lookup x = some .cell∨(relabel scope X.env).names.lookup x = some .free:=hx
    have hfree:scope.names.lookup x = some .free:=by
      rcases hx' with z | z
      · exact relabel_kind S.nocell z (.inl rfl)
      · exact relabel_kind S.nocell z (.inr rfl)
    have hm:=PySem.mem_of_lookup hfree
    exact clos_has scope.names [] hm (I.ok.has x (S.out _ hm rfl))
  · obtain ⟨_,_,_,f3,_⟩:=hf b hb
    rcases f3 with z | z
    · exact I.ok.noex b o e z
    · exact absurd (Nat.lt_of_lt_of_le (Heap.lt_size (I.ok.bs b o e).1) z) (Nat.lt_irrefl _)
  · rw [List.getElem?_map] at e2
    cases hr:r[i]? with
    | none=>rw [hr] at e2; cases e2
    | some oj =>
      rw [hr] at e2
      cases oj with
      | none=>cases e2
      | some j =>
        have e2':pick σ (some j) = some v:=Option.some.inj e2
        obtain ⟨k1,k2,k3⟩:=S.free i j x hr e1
        have e4:σ[j]? = some (some v):=by
          have e2':(σ[j]?).join = some v:=e2'
          cases hj:σ[j]? with
          | none=>rw [hj] at e2'; cases e2'
          | some o=>rw [hj] at e2'; rw [show o = some v from e2']
        obtain ⟨m,hn,hl⟩:=I.loc
        have vis:Vis X.env.scope x:=by
          rcases S.out _ k2 rfl with z | z
          · exact .inr (.inl z)
          · exact .inr (.inr z)
        obtain ⟨u,ru,lk⟩:=hl j x v k1 e4 vis
        refine ⟨u,ru,.inr ⟨relabel_free k3,?_⟩⟩
        rcases lk with ⟨z,_⟩ | ⟨_,c,ec,ic⟩
        · have z':X.env.scope.names.lookup x = some .local:=z
          rcases S.out _ k2 rfl with y | y
          · rw [y] at z'; cases z'
          · rw [y] at z'; cases z'
        · obtain ⟨c',ec'⟩:=clos_has scope.names [] k2 ⟨c,ec⟩
          have:c' = c:=Option.some.inj ((cold x c' ec').symm.trans ec)
          subst this
          exact ⟨c',ec',ic.keeps hk⟩
  · obtain ⟨v,z⟩:=I.cell x c (cold x c e)
    exact ⟨v,z.keeps hk⟩
  · rw [List.length_map]; exact S.len
theorem blk_end {N:List Str} {scope:Scope} {pins:List (Addr × Obj)} {σ σ':St} {H H0 H':Hp} {s s0 s':Shared} {h':Heap} {fp:List Addr} (I:Inv X pins σ H s) (hf:∀ b∈fp,FpOk X pins H b)
    (u0:Un (frs X.stack) fp H H0 s.heap s0.heap) (hsz:s.heap.objs.size≤s0.heap.objs.size) (ho:s0.os = s.os) (J:Inv (X.blk N scope s0 H0 fp) [] σ' H' s') (hs:Heap.SameBut s0.heap.objs.size s'.heap h'):Inv X pins σ H' { s' with heap:=h' }:=by
  have u:Un (frs X.stack) fp H H' s.heap s'.heap:=u0.trans J.base
  have ne:∀ b o,s.heap.get? b = some o→b≠s0.heap.objs.size:=fun b o e=>Nat.ne_of_lt (Nat.lt_of_lt_of_le (Heap.lt_size e) hsz)
  have hC:H' s0.heap.objs.size = none:=J.free
  refine I.call' (s':={ s' with heap:=h' }) (ch:=fp) (J.os.trans ho) ⟨fun b o e n hb hx=>(hs.2 b (ne b o e)).trans (u.keep b o e n hb hx),fun b o e n hb hx=>?_,u.free,fun b o e hx=>?_,u.tups,u.frzs,u.tbls⟩ (fun b ob e=>?_) J.bare fun b hb=>⟨(hf b hb).2.2.2.1,(hf b hb).2.1,(hf b hb).2.2.2.2.1,(hf b hb).2.2.2.2.2⟩
  · obtain ⟨sl,e1⟩:=u.slot b o e n hb hx
    exact ⟨sl,(hs.2 b (ne b o e)).trans e1⟩
  · obtain ⟨o',e1⟩:=u.there b o e hx
    exact ⟨o',(hs.2 b (ne b o e)).trans e1⟩
  · refine (J.hok b ob e).stay (fun c w' hc q=>(hs.2 c ?_).trans q) (fun _ q=>q) fun _ _ q=>q
    rintro rfl
    rcases hc with rfl | hc
    · rw [hC] at e; cases e
    · rw [hC] at hc; cases hc
def LCok (J:It) (g:TG) (tc:TT) (te:TE) (σ0:St) (H1:Hp) (Q:VK) (D:Addr):Prop :=
  ∃ W:Nat→Nat→St→Hp→Prop,(∃ m,W 0 m σ0 (upd H1 D (.lst [])))∧∀ i m σ' H',W i m σ' H' →
    (J.stop i H'∧Q (.ref D) H')∨(J.go i H'∧∃ (N:St→Hp→Prop) (M:V→St→Hp→Prop),(∀ σ2 H4,N σ2 H4→∃ m',m' < m∧W (i + 1) m' σ2 H4) ∧
      (∀ y σ2 H5,M y σ2 H5→∃ xs m',H5 D = some (.lst xs)∧xs.length < sizeLine∧m' < m∧W (i + 1) m' σ2 (upd H5 D (.lst (xs ++ [y])))) ∧
      ∀ x H2,J.yld i H' x H2→g x σ' H2 fun σ2 H3=>tc σ2 H3 fun b H4=>if b = true then te σ2 H4 fun y H5=>M y σ2 H5 else N σ2 H4)
def tLC (wi:TI) (r:List (Option Nat)) (g:TG) (tc:TT) (te:TE):TE:=fun σ H Q=>wi σ H fun J H1=>∀ D,H1 D = none→LCok J g tc te (r.map (pick σ)) H1 Q D
theorem pe_lc {elt tg iter:Expr} {ifs:List Expr} {scope:Scope} {pos:Pos} {wi:TI} {N:List Str} {r:List (Option Nat)} {g:TG} {tc:TT} {te:TE} (hc:X.calm = true) (hi:PI X tg iter wi) (S:BlkOk X scope N r)
    (hg:∀ s H fp,PG (X.blk N scope s H fp) tg g) (ht:∀ s H fp,PTs (X.blk N scope s H fp) ifs tc) (he:∀ s H fp,PE (X.blk N scope s H fp) elt te)
    (hs:∀ x,foldedSetIterable iter X.env x = pure x:=by intro _; rfl):PE X (.ListComp elt [⟨tg,iter,ifs,0⟩] scope pos) (tLC wi r g tc te):=by
  intro pins s σ H Q I h
  rw [eval_ListComp]
  have hcl:closureFor scope X.env = pure (closOf scope X.env):=closureFor_eq fun y hy hk=>I.ok.has y.1 (S.out y hy hk)
  refine wpAny_comprehension_free (use:=none) rfl hs hcl S.kind S.own ?_
  show wpAny _ _ (eval iter X.env) _ _ s
  refine thn (hi pins s σ H _ I h) fun v s1 h1=>thn h1 fun itv s2 h2=>?_
  obtain ⟨it,fp,tn,J,H2,e,I2,T,st2,f2,q2⟩:=h2
  subst e
  have hD:H2 s2.heap.objs.size = none:=I2.hok.fresh (Nat.le_refl _)
  obtain ⟨W,⟨m0,w0⟩,turn⟩:=q2 _ hD
  have hlt2:∀ b∈fp,b < s2.heap.objs.size:=fun b hb=>by
    obtain ⟨o,e,_⟩:=T.obj _ _ st2 b hb
    exact Heap.lt_size e
  refine wpAny_newObj_type ?_
  generalize hs3:({ s2 with heap:=s2.heap.push { cls:=.type "list",dict:=none,data:=.seq ([]:List Value).toArray } }:Shared) = s3
  have k3:∀ b o,s2.heap.get? b = some o→s3.heap.get? b = some o:=fun b o e=>by rw [← hs3]; exact Heap.get?_push_of_some _ e
  have z3:s3.heap.objs.size = s2.heap.objs.size + 1:=by rw [← hs3]; exact Heap.size_push ..
  have u3:Un (frs X.stack) fp H2 (upd H2 s2.heap.objs.size (.lst [])) s2.heap s3.heap:=Un.laid k3 (Nat.le_refl _) hD
  have o3:s3.os = s2.os:=by rw [← hs3]
  have I3:Inv X pins σ (upd H2 s2.heap.objs.size (.lst [])) s3:=by
    rw [← hs3]
    exact I2.laid (t':=s2.toks) (fun b u e=>Heap.get?_push_of_some _ e) (Nat.le_refl _) ⟨Nat.zero_le _,[],0,.nil,Heap.get?_push_size _ rfl⟩
  have f3:∀ b∈fp,FpOk X pins (upd H2 s2.heap.objs.size (.lst [])) b:=fun b hb=>⟨by rw [upd_ne (Nat.ne_of_lt (hlt2 b hb))]; exact (f2 b hb).1,(f2 b hb).2⟩
  refine wpAny_newFunctionEnv S.nocell (by intro y hy; simp at hy) (fun h4 hns4 hsb4=>?_) S.kind
  have k4:∀ b o,s3.heap.get? b = some o→h4.get? b = some o:=fun b o e=>hsb4.extBut b o (Nat.ne_of_lt (Heap.lt_size e)) (Heap.get?_push_of_some _ e)
  have J4:Inv (X.blk N scope s3 (upd H2 s2.heap.objs.size (.lst [])) fp) [] (r.map (pick σ)) (upd H2 s2.heap.objs.size (.lst [])) { s3 with heap:=h4,toks:=s3.toks + ([]:List (Str × Value)).length } :=
    blk_start S I3 f3 (fun b hb=>by rw [z3]; exact Nat.lt_succ_of_lt (hlt2 b hb)) hns4 k4
  have st4:tn 0 h4:=T.keep _ _ _ st2 fun b _ o e=>k4 b o (k3 b o e)
  have stat:∀ {H':Hp},(∀ b∈fp,H' b = none)→∀ b∈fp,FpOk (X.blk N scope s3 (upd H2 s2.heap.objs.size (.lst [])) fp) [] H' b:=fun hn b hb =>
    ⟨hn b hb,(J4.ok.exf b hb).1,J4.ok.exfs b hb,.inl hb,(J4.ok.exf b hb).2,fun p hp=>absurd (show p∈([]:List (Addr × Obj)) from hp) (by simp)⟩
  generalize hY:X.blk N scope s3 (upd H2 s2.heap.objs.size (.lst [])) fp = Y at *
  have loop:∀ s4:Shared,s4 = { s3 with heap:=h4,toks:=s3.toks + ([]:List (Str × Value)).length } →
      codeAny (model X.prog X.w) X.A (.compLoop (.ListComp elt [⟨tg,iter,ifs,0⟩] scope pos) 0 (.ref it) (.ref s2.heap.objs.size) Y.env) (compPost (model X.prog X.w) X.A X.xe none (EP X pins σ Q) (.ref s2.heap.objs.size) s3.heap.objs.size) s4:=by
    rintro s4 rfl
    have yp:Y.prog = X.prog:=by rw [← hY]
    have yw:Y.w = X.w:=by rw [← hY]
    have yK:Y.K = X.K:=by rw [← hY]
    have yA:Y.A = X.A:=by rw [← hY]
    have yc:Y.calm = true:=by rw [← hY]; exact hc
    have hgY:PG Y tg g:=by rw [← hY]; exact hg _ _ _
    have htY:PTs Y ifs tc:=by rw [← hY]; exact ht _ _ _
    have heY:PE Y elt te:=by rw [← hY]; exact he _ _ _
    have yx:∀ e s',¬ Y.xe e s':=fun e s' z=>by rw [← hY] at z; exact z
    refine compLoop_go (fun n s'=>∃ i σ' H',Inv Y [] σ' H' s'∧tn i s'.heap∧(∀ b∈fp,H' b = none)∧W i n σ' H') ?_ m0 ⟨0,_,_,J4,st4,fun b hb=>(f3 b hb).1,w0⟩
    rintro n s5 ⟨i,σ5,H5,I5,st5,fr5,w5⟩
    rcases turn i n σ5 H5 w5 with ⟨stop,qn⟩ | ⟨go,Nn,Mm,hNn,hMm,step⟩
    · have d:=T.done Y yp yw yK yc i [] s5 σ5 H5 (notedBy (model X.prog X.w) X.A Y.env fun e s'=>compPost (model X.prog X.w) X.A X.xe none (EP X pins σ Q) (.ref s2.heap.objs.size) s3.heap.objs.size (.error e) s') I5 (stat fr5) st5 stop
      rw [yA] at d
      refine thn d fun rr s6 ⟨hr,I6⟩=>?_
      subst hr
      obtain ⟨m,hn,_⟩:=id I6.loc
      refine ⟨m,by rw [← hY] at hn; exact hn,fun h' hsb=>⟨.ref s2.heap.objs.size,H5,?_,rfl,qn⟩⟩
      rw [← hY] at I6
      exact blk_end I2 f2 u3 (by rw [z3]; exact Nat.le_succ _) o3 I6 hsb
    · have d:=T.item Y yp yw yK yc i [] s5 σ5 H5 (notedBy (model X.prog X.w) X.A Y.env fun e s'=>compPost (model X.prog X.w) X.A X.xe none (EP X pins σ Q) (.ref s2.heap.objs.size) s3.heap.objs.size (.error e) s') I5 (stat fr5) st5 go
      rw [yA] at d
      refine thn d fun rr s6 ⟨u,hr,h6⟩=>?_
      subst hr
      refine thn h6 fun _ s7 ⟨x,H7,I7,r7,y7,st7,fr7⟩=>?_
      have I7':=I7.pinned (stat fr7) (T.obj _ _ st7)
      have g7:=hgY _ s7 σ5 H7 x u _ I7' r7 (step x H7 y7)
      rw [yp,yw,yA] at g7
      refine wpAny_mono g7 (fun _ s8 ⟨σ8,H8,I8,q8⟩=>?_) fun e s' z=>(yx e s' z).elim
      have t8:=htY _ s8 σ8 H8 _ I8 q8
      rw [yp,yw,yA] at t8
      refine wpAny_mono t8 (fun ok s9 ⟨H9,I9,q9⟩=>?_) fun e s' z=>(yx e s' z).elim
      have again:∀ {s10:Shared} {H10:Hp} {m':Nat},Inv Y ([] ++ pinsAt fp s7.heap) σ8 H10 s10→m' < n→W (i + 1) m' σ8 H10→∃ m,m < n∧∃ i σ' H',Inv Y [] σ' H' s10∧tn i s10.heap∧(∀ b∈fp,H' b = none)∧W i m σ' H':=fun {s10 H10 m'} I10 hm w10=>by
        refine ⟨m',hm,i + 1,σ8,H10,I10.unpinned,T.keep _ _ _ st7 fun b hb o e=>(I10.pin (b,o) (List.mem_append_right _ (List.mem_append_right _ (mem_pinsAt hb e)))).1,fun b hb=>?_,w10⟩
        obtain ⟨o,e,d⟩:=T.obj _ _ st7 b hb
        exact (I10.pin (b,o) (List.mem_append_right _ (List.mem_append_right _ (mem_pinsAt hb e)))).2.1
      cases ok with
      | false =>
        rw [if_neg (by simp)] at q9 ⊢
        obtain ⟨m',hm,w9⟩:=hNn _ _ q9
        exact again I9 hm w9
      | true =>
        rw [if_pos rfl] at q9 ⊢
        have e9:=heY _ s9 σ8 H9 _ I9 q9
        rw [yp,yw,yA] at e9
        refine wpAny_mono e9 (fun uu s10 ⟨y,H10,I10,r10,hM⟩=>?_) fun e s' z=>(yx e s' z).elim
        obtain ⟨xs,m',hD10,hz,hm,w10⟩:=hMm _ _ _ hM
        have a10:=mt_append _ s10 σ8 H10 (.ref s2.heap.objs.size) [y] (.ref s2.heap.objs.size) [uu] (fun v Hq=>v = .non∧Hq = upd H10 s2.heap.objs.size (.lst (xs ++ [y]))) I10 rfl (.cons r10 .nil) ⟨_,xs,y,rfl,rfl,hD10,hz,rfl,rfl⟩
        rw [yp,yw,yA] at a10
        refine wpAny_mono a10 (fun _ s11 ⟨_,H11,I11,_,_,e11⟩=>?_) fun e s' z=>(yx e s' z).elim
        subst e11
        exact again I11 hm w10
  have hY':Y.env = { scope:=relabel scope X.env,locals:=s3.heap.objs.size,globals:=X.env.globals,cells:=closOf scope X.env,qual:=X.env.qual,func:=none,code:=X.env.code,frame:=X.env.frame,builtins:=X.env.builtins }:=by rw [← hY]; rfl
  rw [hY'] at loop
  exact codeAny_compStart_list (loop _ rfl) (T.self _ 0 _ _ _ st4 (loop _ rfl))
theorem lc_fill {J:It} {n:Nat} {f:Nat→V} {g:TG} {tc:TT} {te:TE} {σ0:St} {H1:Hp} {Q:VK} {D:Addr} (Iv:Nat→List V→St→Hp→Prop) (hD:H1 D = none) (hn:n≤1000)
    (h0:Iv 0 [] σ0 (upd H1 D (.lst [])))
    (hj:∀ i ys σ H,i≤n→H D = some (.lst ys)→Iv i ys σ H→(i = n→J.stop i H)∧(i < n→J.go i H∧∀ x H',J.yld i H x H'→H' = H∧x = f i))
    (hs:∀ i ys σ H,i < n→H D = some (.lst ys)→Iv i ys σ H→g (f i) σ H fun σ2 H3=>tc σ2 H3 fun b H4 =>
      if b = true then te σ2 H4 fun y H5=>H5 D = some (.lst ys)∧Iv (i + 1) (ys ++ [y]) σ2 (upd H5 D (.lst (ys ++ [y]))) else H4 D = some (.lst ys)∧Iv (i + 1) ys σ2 H4)
    (hd:∀ ys σ H,H D = some (.lst ys)→Iv n ys σ H→Q (.ref D) H):LCok J g tc te σ0 H1 Q D:=by
  refine ⟨fun i m σ H=>m = n - i∧i≤n∧∃ ys,H D = some (.lst ys)∧ys.length≤i∧Iv i ys σ H,⟨n,rfl,Nat.zero_le _,[],upd_same,Nat.le_refl _,h0⟩,?_⟩
  rintro i m σ H ⟨rfl,hi,ys,hy,hl,iv⟩
  obtain ⟨j1,j2⟩:=hj i ys σ H hi hy iv
  by_cases hlt:i < n
  · obtain ⟨go,yl⟩:=j2 hlt
    refine .inr ⟨go,fun σ2 H4=>H4 D = some (.lst ys)∧Iv (i + 1) ys σ2 H4,fun y σ2 H5=>H5 D = some (.lst ys)∧Iv (i + 1) (ys ++ [y]) σ2 (upd H5 D (.lst (ys ++ [y]))),fun σ2 H4 q=>?_,fun y σ2 H5 q=>?_,fun x H2 q=>?_⟩
    · exact ⟨n - (i + 1),by omega,rfl,hlt,ys,q.1,by omega,q.2⟩
    · exact ⟨ys,n - (i + 1),q.1,small1000 (by omega),by omega,rfl,hlt,ys ++ [y],upd_same,by rw [List.length_append,List.length_singleton]; omega,q.2⟩
    · obtain ⟨rfl,rfl⟩:=yl x H2 q
      exact hs i ys σ _ hlt hy iv
  · have e:i = n:=by omega
    subst e
    exact .inl ⟨j1 rfl,hd ys σ H hy iv⟩
end
end L2
namespace L2
open PySem PySem.Spec PyProof.Rows
mutual
def Tells (H:Hp) (k:Addr):PyData→V→Prop
  | .none,v=>v = .non
  | .bool b,v=>v = .bl b
  | .int i,v=>v = .int i
  | .str x,v=>v = .str x
  | .list ds,v=>∃ a vs,v = .ref a∧a≠k∧H a = some (.lst vs)∧TellsAll H k ds vs
  | .tuple ds,v=>∃ a vs,v = .ref a∧a≠k∧H a = some (.tup vs)∧TellsAll H k ds vs
  | .dict _,_=>False
def TellsAll (H:Hp) (k:Addr):List PyData→List V→Prop
  | [],vs=>vs = []
  | d :: ds,vs=>∃ v r,vs = v :: r∧Tells H k d v∧TellsAll H k ds r
end
def Keep (k:Addr) (H H':Hp):Prop:=∀ b o,b≠k→H b = some o→H' b = some o
theorem Keep.refl (k:Addr) (H:Hp):Keep k H H:=fun _ _ _ e=>e
theorem Keep.trans {k:Addr} {H H1 H2:Hp} (a:Keep k H H1) (b:Keep k H1 H2):Keep k H H2:=fun c o n e=>b c o n (a c o n e)
theorem Same.keep {k:Addr} {H H':Hp} (a:Same H H'):Keep k H H':=fun c o _ e=>a c o e
theorem same_new {H:Hp} {p:Addr} (h:H p = none) (o:HO):Same H (upd H p o):=fun b u q=>by rw [upd_ne (ne_of_none q h)]; exact q
theorem Keep.new {k:Addr} {H:Hp} {p:Addr} (h:H p = none) (o:HO):Keep k H (upd H p o):=(same_new h o).keep
theorem Keep.at {k:Addr} {H:Hp} (o:HO):Keep k H (upd H k o):=fun b u n e=>by rw [upd_ne n]; exact e
mutual
theorem Tells.keep {H H':Hp} {k:Addr} (K:Keep k H H'):∀ {d:PyData} {v:V},Tells H k d v→Tells H' k d v
  | .none,_,h=>by unfold Tells at h ⊢; exact h
  | .bool _,_,h=>by unfold Tells at h ⊢; exact h
  | .int _,_,h=>by unfold Tells at h ⊢; exact h
  | .str _,_,h=>by unfold Tells at h ⊢; exact h
  | .list ds,v,h=>by
    unfold Tells at h ⊢
    obtain ⟨a,vs,e,n,q,r⟩:=h
    exact ⟨a,vs,e,n,K a _ n q,TellsAll.keep K r⟩
  | .tuple ds,v,h=>by
    unfold Tells at h ⊢
    obtain ⟨a,vs,e,n,q,r⟩:=h
    exact ⟨a,vs,e,n,K a _ n q,TellsAll.keep K r⟩
  | .dict _,_,h=>by unfold Tells at h; exact h.elim
theorem TellsAll.keep {H H':Hp} {k:Addr} (K:Keep k H H'):∀ {ds:List PyData} {vs:List V},TellsAll H k ds vs→TellsAll H' k ds vs
  | [],_,h=>by unfold TellsAll at h ⊢; exact h
  | d :: ds,vs,h=>by
    unfold TellsAll at h ⊢
    obtain ⟨v,r,e,q,qs⟩:=h
    exact ⟨v,r,e,Tells.keep K q,TellsAll.keep K qs⟩
end
theorem tells_list {H:Hp} {k:Addr} {ds:List PyData} {v:V}:Tells H k (.list ds) v↔∃ a vs,v = .ref a∧a≠k∧H a = some (.lst vs)∧TellsAll H k ds vs:=by
  rw [Tells]
theorem tells_tuple {H:Hp} {k:Addr} {ds:List PyData} {v:V}:Tells H k (.tuple ds) v↔∃ a vs,v = .ref a∧a≠k∧H a = some (.tup vs)∧TellsAll H k ds vs:=by
  rw [Tells]
theorem tells_str {H:Hp} {k:Addr} {x:Str} {v:V}:Tells H k (.str x) v↔v = .str x:=by rw [Tells]
theorem tells_int {H:Hp} {k:Addr} {i:Int} {v:V}:Tells H k (.int i) v↔v = .int i:=by rw [Tells]
theorem tells_bool {H:Hp} {k:Addr} {b:Bool} {v:V}:Tells H k (.bool b) v↔v = .bl b:=by rw [Tells]
theorem tells_none {H:Hp} {k:Addr} {v:V}:Tells H k .none v↔v = .non:=by rw [Tells]
theorem tellsAll_nil {H:Hp} {k:Addr} {vs:List V}:TellsAll H k [] vs↔vs = []:=by rw [TellsAll]
theorem tellsAll_cons {H:Hp} {k:Addr} {d:PyData} {ds:List PyData} {vs:List V}:TellsAll H k (d :: ds) vs↔∃ v r,vs = v :: r∧Tells H k d v∧TellsAll H k ds r:=by rw [TellsAll]
theorem tellsAll_len {H:Hp} {k:Addr}:∀ {ds:List PyData} {vs:List V},TellsAll H k ds vs→vs.length = ds.length
  | [],_,h=>by rw [tellsAll_nil.mp h]; rfl
  | d :: ds,_,h=>by
    obtain ⟨v,r,rfl,_,q⟩:=tellsAll_cons.mp h
    simp [tellsAll_len q]
theorem tellsAll_get {H:Hp} {k:Addr}:∀ {ds:List PyData} {vs:List V} {i:Nat} {v:V},TellsAll H k ds vs→vs[i]? = some v→∃ d,ds[i]? = some d∧Tells H k d v
  | [],_,i,v,h,e=>by rw [tellsAll_nil.mp h] at e; simp at e
  | d :: ds,_,0,v,h,e=>by
    obtain ⟨w,r,rfl,q,_⟩:=tellsAll_cons.mp h
    simp at e; subst e
    exact ⟨d,rfl,q⟩
  | d :: ds,_,i + 1,v,h,e=>by
    obtain ⟨w,r,rfl,_,q⟩:=tellsAll_cons.mp h
    exact tellsAll_get (i:=i) q (by simpa using e)
theorem tellsAll_append {H:Hp} {k:Addr}:∀ {ds es:List PyData} {vs ws:List V},TellsAll H k ds vs→TellsAll H k es ws→TellsAll H k (ds ++ es) (vs ++ ws)
  | [],es,vs,ws,h,q=>by rw [tellsAll_nil.mp h]; exact q
  | d :: ds,es,vs,ws,h,q=>by
    obtain ⟨w,r,rfl,q1,q2⟩:=tellsAll_cons.mp h
    exact tellsAll_cons.mpr ⟨w,r ++ ws,rfl,q1,tellsAll_append q2 q⟩
theorem tellsAll_one {H:Hp} {k:Addr} {d:PyData} {v:V} (h:Tells H k d v):TellsAll H k [d] [v]:=tellsAll_cons.mpr ⟨v,[],rfl,h,tellsAll_nil.mpr rfl⟩
section
variable {X:Cx} {pins:List (Addr × Obj)} {σ:St} {H:Hp} {s:Shared}
mutual
theorem Tells.reads (I:Inv X pins σ H s) {k:Addr}:∀ {d:PyData} {v:V} {u:Value},Tells H k d v→RelV v u→∃ as,Reads s.heap u d as
  | .none,v,u,h,r=>by
    rw [tells_none] at h; subst h
    cases (show u = Value.none from r)
    exact ⟨_,.none⟩
  | .bool b,v,u,h,r=>by
    rw [tells_bool] at h; subst h
    cases (show u = Value.bool b from r)
    exact ⟨_,.bool b⟩
  | .int i,v,u,h,r=>by
    rw [tells_int] at h; subst h
    obtain ⟨t,rfl⟩:=(show ∃ t,u = Value.int i t from r)
    exact ⟨_,.int i t⟩
  | .str x,v,u,h,r=>by
    rw [tells_str] at h; subst h
    obtain ⟨t,rfl⟩:=(show ∃ t,u = Value.str x t from r)
    exact ⟨_,.str x t⟩
  | .list ds,v,u,h,r=>by
    obtain ⟨a,vs,rfl,_,e,q⟩:=tells_list.mp h
    cases (show u = Value.ref a from r)
    obtain ⟨_,its,n,rv,g⟩:=I.hok a _ e
    obtain ⟨as,ra⟩:=TellsAll.reads I q rv
    exact ⟨_,.list g rfl rfl (by simpa using ra)⟩
  | .tuple ds,v,u,h,r=>by
    obtain ⟨a,vs,rfl,_,e,q⟩:=tells_tuple.mp h
    cases (show u = Value.ref a from r)
    obtain ⟨_,its,rv,o,g,c,_,n,dt⟩:=I.hok a _ e
    obtain ⟨as,ra⟩:=TellsAll.reads I q rv
    exact ⟨_,.tuple g c dt (by simpa using ra)⟩
  | .dict _,_,_,h,_=>by unfold Tells at h; exact h.elim
theorem TellsAll.reads (I:Inv X pins σ H s) {k:Addr}:∀ {ds:List PyData} {vs:List V} {us:List Value},TellsAll H k ds vs→Vals vs us→∃ as,ReadsAll s.heap us ds as
  | [],_,us,h,r=>by
    rw [tellsAll_nil] at h; subst h
    cases r
    exact ⟨_,.nil⟩
  | d :: ds,_,us,h,r=>by
    obtain ⟨w,rr,rfl,q1,q2⟩:=tellsAll_cons.mp h
    cases r with
    | cons r1 r2 =>
      obtain ⟨as,a1⟩:=Tells.reads I q1 r1
      obtain ⟨bs,a2⟩:=TellsAll.reads I q2 r2
      exact ⟨_,.cons a1 a2⟩
end
end
def tyName:PyData→String
  | .none=>"NoneType"
  | .bool _=>"bool"
  | .int _=>"int"
  | .str _=>"str"
  | .list _=>"list"
  | .tuple _=>"tuple"
  | .dict _=>"dict"
theorem Tells.ty {H:Hp} {k:Addr} {K:PySem.W.Frag}:∀ {d:PyData} {v:V},Tells H k d v→TyOf K H v (.type (tyName d))
  | .none,v,h=>by rw [tells_none] at h; subst h; exact .non
  | .bool b,v,h=>by rw [tells_bool] at h; subst h; exact .bl b
  | .int i,v,h=>by rw [tells_int] at h; subst h; exact .int i
  | .str x,v,h=>by rw [tells_str] at h; subst h; exact .str x
  | .list ds,v,h=>by obtain ⟨a,vs,rfl,_,e,q⟩:=tells_list.mp h; exact .lst e
  | .tuple ds,v,h=>by obtain ⟨a,vs,rfl,_,e,q⟩:=tells_tuple.mp h; exact .tup e
  | .dict _,_,h=>by unfold Tells at h; exact h.elim
def isT:PyData→String→Bool
  | .bool _,n=>n == "bool" || n == "int"
  | d,n=>n == tyName d
theorem kit_isT (K:PySem.W.Frag) (d:PyData) (n:String) (hd:∀ kvs,d≠.dict kvs) (hn:n = "int"∨n = "bool"∨n = "str"∨n = "tuple"∨n = "list"):PySem.W.kitOne K (.type (tyName d)) (.type n) = some (isT d n):=by
  rcases hn with rfl | rfl | rfl | rfl | rfl <;> cases d <;> first | exact absurd rfl (hd _) | rfl | decide +kernel
section
variable {X:Cx}
def rIsin:List V→Hp→VK→Prop:=fun xs H Q=>∃ k x n d,xs = [x,.ty n]∧Tells H k d x∧(n = "int"∨n = "bool"∨n = "str"∨n = "tuple"∨n = "list")∧Q (.bl (isT d n)) H
theorem call_isin:CallR X (.builtin "isinstance") rIsin:=by
  intro pins s σ H xs us Q I r h
  obtain ⟨k,x,n,d,rfl,t,hn,q⟩:=h
  obtain ⟨u,u',rfl,r1,r2⟩:=vals2 r
  cases (show u' = Value.type n from r2)
  refine isinst_ok I r1 t.ty (kit_isT _ d n (fun kvs e=>?_) hn) fun tk=>⟨.bl _,H,I.tok tk,rfl,q⟩
  subst e
  unfold Tells at t
  exact t
def Lay (d:PyData):Prop:=d.canLay0 = true∧d.depth≤20
theorem op_eqD (hu:X.A.units + 64 < cLine):OpR X (compareOp .Eq) (fun x y H Q=>∃ k k' dx dy,Tells H k dx x∧Tells H k' dy y∧Lay dx∧Lay dy∧Q (.bl (PyData.eqv dx dy)) H):=by
  intro pins s σ H x y v u Q I rx ry h
  obtain ⟨k,k',dx,dy,tx,ty,lx,ly,q⟩:=h
  obtain ⟨as,ax⟩:=tx.reads I rx
  obtain ⟨bs,ay⟩:=ty.reads I ry
  refine SeqAt.compareEq_reads ax ay lx.1 ly.1 ?_ ⟨.bl _,H,I,rfl,q⟩
  have:=lx.2; have:min dx.depth dy.depth≤dx.depth:=Nat.min_le_left _ _
  omega
theorem op_neD (hu:X.A.units + 64 < cLine):OpR X (compareOp .NotEq) (fun x y H Q=>∃ k k' dx dy,Tells H k dx x∧Tells H k' dy y∧Lay dx∧Lay dy∧Q (.bl (!PyData.eqv dx dy)) H):=by
  intro pins s σ H x y v u Q I rx ry h
  obtain ⟨k,k',dx,dy,tx,ty,lx,ly,q⟩:=h
  obtain ⟨as,ax⟩:=tx.reads I rx
  obtain ⟨bs,ay⟩:=ty.reads I ry
  refine SeqAt.compareNe_reads ax ay lx.1 ly.1 ?_ ⟨.bl _,H,I,rfl,q⟩
  have:=lx.2; have:min dx.depth dy.depth≤dx.depth:=Nat.min_le_left _ _
  omega
theorem room_in {u a b:Nat} (h:u + 64 < cLine) (hb:b≤20):u + 1 + min a b < cLine:=by
  have:min a b≤b:=Nat.min_le_right _ _
  omega
def rInD (neg:Bool):R2:=fun x y H Q=>∃ k k' d ds,Tells H k d x∧(Tells H k' (.tuple ds) y∨Tells H k' (.list ds) y)∧Lay d∧PyData.canLayAll0 ds = true∧Q (.bl (if neg then !(ds.any fun z=>PyData.eqv z d) else ds.any fun z=>PyData.eqv z d)) H
theorem op_inD (hu:X.A.units + 64 < cLine):OpR X (compareOp .In) (rInD false):=by
  intro pins s σ H x y v u Q I rx ry h
  obtain ⟨k,k',d,ds,tx,ty,l,ls,q⟩:=h
  obtain ⟨as,ax⟩:=tx.reads I rx
  rcases ty with ty | ty
  · obtain ⟨bs,ay⟩:=ty.reads I ry
    exact SeqAt.in_tuple_reads ay ax ls l.1 (room_in hu l.2) ⟨.bl _,H,I,rfl,q⟩
  · obtain ⟨bs,ay⟩:=ty.reads I ry
    exact SeqAt.in_list_reads ay ax ls l.1 (room_in hu l.2) ⟨.bl _,H,I,rfl,q⟩
end
end L2
namespace L2
open PySem PySem.Spec PyProof.Rows
section
variable {X:Cx} {tg:Expr}
def Its (x:Str):It:=⟨fun i _=>i < x.cps.size,fun i H y H'=>H' = H∧∃ c,x.cps[i]? = some c∧y = .str ⟨#[c]⟩,fun i _=>i = x.cps.size⟩
theorem turn_walk {P:Program} {w:World} {K:PySem.W.Frag} {x:Str} {it:Addr} {St:Nat→Heap→Prop} {n:String} (hn:["enumerate","zip","dict_itemiterator","dict_reverseitemiterator","odict_iterator","itertools.zip_longest","itertools.pairwise"].contains n = false)
    (hw:∀ A':Around,A'.handled = none→Walks P w A' it [it] [it] x.cps.size (SignAt x) St) (hs:∀ i h,St i h→∃ o vs,h.get? it = some o∧o.cls = .type n∧o.data = .fields vs)
    (hself:∀ (A:Around) (i:Nat) (s:Shared) (Q:Value→Shared→Prop) (E:Value→Shared→Prop),St i s.heap→Q (.ref it) s→wpAny (model P w) A (pyIter (.ref it)) Q E s):Turn P w K tg (Its x) [it] it St where
  mem:=by simp
  obj:=fun i h st b hb=>by
    have e:b = it:=by simpa using hb
    subst e
    obtain ⟨o,vs,e,c,d⟩:=hs i h st
    exact ⟨o,e,fun v z=>by rw [d] at z; cases z⟩
  keep:=fun i h h' st k=>(hw {} rfl).frame i h h' st k
  item:=by
    intro X hP hw' hK hc i pins s σ H E I hf st hg
    subst hP hw' hK
    obtain ⟨f0,f1,f2,f3,f4,f5⟩:=hf it (by simp)
    refine (hw X.A (I.ok.hd hc)).item i s _ _ hg st fun v h' tk hv st' kk=>?_
    obtain ⟨c,u,hc',rfl⟩:=hv
    have I1:Inv X pins σ H { s with heap:=h',toks:=tk }:=I.turned (fun b o hb e=>kk b o (by simpa using hb) e) f0 f1 f3 f4 f5
    obtain ⟨o,vs,e,c2,d⟩:=hs _ _ st'
    exact ⟨_,rfl,go_of (s:={ s with heap:=h',toks:=tk }) e c2 d hn ⟨.str ⟨#[c]⟩,H,I1,⟨u,rfl⟩,⟨rfl,c,hc',rfl⟩,st',fun b hb=>(hf b hb).1⟩⟩
  done:=by
    intro X hP hw' hK hc i pins s σ H E I hf st hg
    subst hP hw' hK
    obtain ⟨f0,f1,f2,f3,f4,f5⟩:=hf it (by simp)
    have hg':i = x.cps.size:=hg
    subst hg'
    exact (hw X.A (I.ok.hd hc)).done s _ _ st fun h' tk kk=>⟨rfl,I.turned (fun b o hb e=>kk b o (by simpa using hb) e) f0 f1 f3 f4 f5⟩
  self:=hself
def iStr (tl:TE):TI:=fun σ H R=>tl σ H fun x H1=>∃ y,x = .str y∧R (Its y) H1
theorem pi_str {l:Expr} {tl:TE} (hl:PE X l tl):PI X tg l (iStr tl):=by
  intro pins s σ H R I h
  refine thn (hl pins s σ H _ I h) fun v s1 ⟨x,H1,I1,r1,q1⟩=>?_
  obtain ⟨y,e,q⟩:=q1
  subst e
  obtain ⟨t,rfl⟩:=r1
  have fin:∀ (o:Obj) (St:Nat→Heap→Prop),Turn X.prog X.w X.K tg (Its y) [s1.heap.objs.size] s1.heap.objs.size St→St 0 (s1.heap.push o)→PIE X pins σ tg R (.ref s1.heap.objs.size) { s1 with heap:=s1.heap.push o }:=fun o St T st=>by
    refine ⟨s1.heap.objs.size,[s1.heap.objs.size],St,_,H1,rfl,I1.kept (t':=s1.toks) fun b o e=>Heap.get?_push_of_some _ e,T,st,fun b hb=>?_,q⟩
    have e:b = s1.heap.objs.size:=by simpa using hb
    subst e
    exact I1.fpOk (Nat.le_refl _) (I1.hok.fresh (Nat.le_refl _))
  cases ha:y.cps.all (· < 128)
  · exact wpAny_pyIter_wide ha (fin _ _ (turn_walk (n:="str_iterator") (by decide) (fun A' hA=>Walks.strWide hA _ y t) (fun i h ⟨o,e,c,d⟩=>⟨o,_,e,c,d⟩) fun _ _ _ _ _ st hQ=>wpAny_pyIter_striter_wide st hQ) ⟨_,Heap.get?_push_size _ rfl,rfl,rfl⟩)
  · exact wpAny_pyIter_ascii ha (fin _ _ (turn_walk (n:="str_ascii_iterator") (by decide) (fun A' hA=>Walks.strAscii hA _ y t) (fun i h ⟨o,e,c,d⟩=>⟨o,_,e,c,d⟩) fun _ _ _ _ _ st hQ=>wpAny_pyIter_striter_ascii st hQ) ⟨_,Heap.get?_push_size _ rfl,rfl,rfl⟩)
theorem op_le_str:OpR X (compareOp .LtE) (fun x y H Q=>∃ i j,x = .str i∧y = .str j∧Q (.bl (!decide (j.cps.toList < i.cps.toList))) H):=by
  intro pins s σ H x y v u Q I rx ry h
  obtain ⟨i,j,rfl,rfl,q⟩:=h
  obtain ⟨t,rfl⟩:=rx
  obtain ⟨t',rfl⟩:=ry
  exact PySem.P.le_str ⟨.bl _,H,I,rfl,q⟩
theorem call_all (hc:X.calm = true):CallR X (.builtin "all") (fun xs H Q=>∃ (p:Addr) (bs:List Bool),xs = [.ref p]∧SqL X.K H p (bs.map V.bl)∧Q (.bl (bs.all id)) H):=by
  intro pins s σ H xs us Q I r h
  obtain ⟨p,bs,rfl,hq,q⟩:=h
  obtain ⟨u,rfl,rx⟩:=vals1 r
  cases (show u = Value.ref p from rx)
  obtain ⟨its,rv,pl,hz⟩:=I.list hq
  have hlt:p < s.heap.objs.size:=by obtain ⟨o,e,_⟩:=pl.isList; exact Heap.lt_size e
  refine call_all_walk (wpAny_pyIter_list pl.isList ?_)
  refine ⟨s.heap.objs.size,_,_,its.toArray.size,_,_,fun i=>bs.getD i false,rfl,Walks.list (prog:=X.prog) (w:=X.w) (A:=X.A.in1) (I.ok.hd hc) s.heap.objs.size p (Nat.ne_of_lt hlt) its.toArray,⟨⟨_,Heap.get?_push_size _ rfl,rfl,rfl⟩,pl.isList.at fun o e=>Heap.get?_push_of_some _ e⟩,?_,fun h' tk hk=>?_⟩
  · intro i v s' Q' E' hP hQ
    have hP':its[i]? = some v:=by simpa using hP
    have hl:=rv.length
    rw [List.length_map] at hl
    have hi:i < its.length:=(List.getElem?_eq_some_iff.mp hP').1
    obtain ⟨u,hu,ru⟩:=rv.get (i:=i) (x:=V.bl (bs.getD i false)) (by rw [List.getElem?_map,List.getElem?_eq_getElem (by omega)]; simp [List.getD,List.getElem?_eq_getElem (show i < bs.length by omega)])
    rw [hP'] at hu; cases hu
    cases (show v = Value.bool _ from ru)
    exact wpAny_truthy_bool hQ
  · refine ⟨.bl _,H,I.kept fun b o e=>hk b o (by simpa using Nat.ne_of_lt (Heap.lt_size e)) (Heap.get?_push_of_some _ e),rfl,?_⟩
    have hl:=rv.length
    rw [List.length_map] at hl
    have e:(List.range its.toArray.size).all (fun i=>bs.getD i false) = bs.all id:=by
      rw [List.size_toArray,← hl]
      have:(List.range bs.length).map (fun i=>bs.getD i false) = bs:=by
        apply List.ext_getElem
        · simp
        · intro i h1 h2; simp [List.getD,List.getElem?_eq_getElem h2]
      conv=>rhs; rw [← this]
      rw [List.all_map]; rfl
    rw [e]; exact q
theorem Vals.insertAt {xs:List V} {us:List Value} {y:V} {u:Value} (r:Vals xs us) (ry:RelV y u) (k:Nat):Vals (xs.take k ++ y :: xs.drop k) (us.take k ++ u :: us.drop k):=(r.take k).append (.cons ry (r.drop k))
theorem mt_insert:MtM X "list.insert" (fun x vs H Q=>∃ l xs i y,x = .ref l∧vs = [.int i,y]∧H l = some (.lst xs)∧xs.length < sizeLine∧0≤i∧i≤xs.length∧Q .non (upd H l (.lst (xs.take i.toNat ++ y :: xs.drop i.toNat)))):=by
  intro pins s σ H x vs v us Q I rx rv h
  obtain ⟨l,xs,i,y,rfl,rfl,hH,hz,h0,h1,q⟩:=h
  cases rx
  obtain ⟨ui,u,rfl,ri,ru⟩:=rv.two
  obtain ⟨t,rfl⟩:=ri
  obtain ⟨z,its,n,r,hl,e⟩:=I.lstM hH
  have hs:sizeLine = 16777216:=sizeLine_eq
  have hf:Builtin.List.listFitsIndex i = true:=fitsIndex_both (by omega) (by omega)
  refine call_meets F.slot_list_insert ⟨_,e,rfl⟩ F.entry_list_insert (F.args_list_insert_3 _ _ _) (AutoSeq1.list_insert_list_int_val_1 l its.toArray n i t u (by rw [hf]; simp) (by rw [List.size_toArray]; omega)) ⟨e,?_⟩
  refine ⟨.non,_,I.lset (its':=its.take i.toNat ++ u :: its.drop i.toNat) hH e ?_ (Vals.insertAt r ru i.toNat) ?_,rfl,q⟩
  · dsimp only
    rw [if_neg (by omega)]
    have e1:min i.toNat its.toArray.size = i.toNat:=by rw [List.size_toArray]; omega
    rw [e1]
    apply Array.ext'
    simp
    exact List.take_of_length_le (by simp)
  · simp only [List.length_append,List.length_take,List.length_cons,List.length_drop]
    omega
end
end L2
namespace L2
open PySem PySem.Spec PyProof.Rows
section
variable {X:Cx} {tg:Expr}
def SetO (P:Program) (w:World) (a:Addr) (S:Key→Bool) (n:Nat):HO:=.ext fun h=>h.SetOf (mixKind P w) a S n
end
end L2
namespace L2
open PySem
mutual
def wgt:PyData→Nat
  | .list ds=>1 + wgtAll ds
  | .tuple ds=>1 + wgtAll ds
  | .none | .bool _ | .int _ | .str _ | .dict _=>1
def wgtAll:List PyData→Nat
  | []=>0
  | d :: ds=>wgt d + wgtAll ds
end
mutual
def leafOk:PyData→Bool
  | .none | .bool _=>true
  | .int i=>decide (i.natAbs < 2 ^ 200)
  | .str x=>decide (x.length≤100) && PyData.strOk x
  | .list ds=>leafOkAll ds
  | .tuple ds=>leafOkAll ds
  | .dict _=>false
def leafOkAll:List PyData→Bool
  | []=>true
  | d :: ds=>leafOk d && leafOkAll ds
end
mutual
theorem leaf_lay:∀ d:PyData,leafOk d = true→d.canLay0 = true
  | .none,_=>by simp only [PyData.canLay0]
  | .bool _,_=>by simp only [PyData.canLay0]
  | .int _,_=>by simp only [PyData.canLay0]
  | .str x,h=>by
    rw [leafOk,Bool.and_eq_true] at h
    simp only [PyData.canLay0]; exact h.2
  | .list ds,h=>by rw [leafOk] at h; simp only [PyData.canLay0]; exact leaf_layAll ds h
  | .tuple ds,h=>by rw [leafOk] at h; simp only [PyData.canLay0]; exact leaf_layAll ds h
  | .dict _,h=>by rw [leafOk] at h; cases h
theorem leaf_layAll:∀ ds:List PyData,leafOkAll ds = true→PyData.canLayAll0 ds = true
  | [],_=>by simp only [PyData.canLayAll0]
  | d :: ds,h=>by
    rw [leafOkAll,Bool.and_eq_true] at h
    rw [PyData.canLayAll0,Bool.and_eq_true]
    exact ⟨leaf_lay d h.1,leaf_layAll ds h.2⟩
end
theorem int_log {i:Int} (h:i.natAbs < 2 ^ 200):i.natAbs.log2 < 200:=by
  by_cases h0:i.natAbs = 0
  · rw [h0]; decide +kernel
  · exact (Nat.log2_lt h0).mpr h
mutual
theorem leaf_show:∀ d:PyData,leafOk d = true→d.showable = true
  | .none,_=>by simp only [PyData.showable]
  | .bool _,_=>by simp only [PyData.showable]
  | .int i,h=>by
    rw [leafOk,decide_eq_true_eq] at h
    simp only [PyData.showable,decide_eq_true_eq]
    have:=int_log h
    omega
  | .str x,h=>by simp only [PyData.showable]
  | .list ds,h=>by rw [leafOk] at h; simp only [PyData.showable]; exact leaf_showAll ds h
  | .tuple ds,h=>by rw [leafOk] at h; simp only [PyData.showable]; exact leaf_showAll ds h
  | .dict _,h=>by rw [leafOk] at h; cases h
theorem leaf_showAll:∀ ds:List PyData,leafOkAll ds = true→PyData.showableAll ds = true
  | [],_=>by simp only [PyData.showableAll]
  | d :: ds,h=>by
    rw [leafOkAll,Bool.and_eq_true] at h
    rw [PyData.showableAll,Bool.and_eq_true]
    exact ⟨leaf_show d h.1,leaf_showAll ds h.2⟩
end
mutual
theorem leaf_len:∀ d:PyData,leafOk d = true→d.shown.length + 5≤1300 * wgt d
  | .none,_=>by simp only [PyData.shown,wgt]; decide +kernel
  | .bool b,_=>by simp only [PyData.shown,wgt]; cases b <;> decide +kernel
  | .int i,h=>by
    rw [leafOk,decide_eq_true_eq] at h
    simp only [PyData.shown,wgt]
    have:=int_text_length_le (k:=200) (by decide) (int_log h)
    have e:(Str.ofString (toString i)).length = (toString i).length:=by first | exact ofString_length _ | simp [Str.ofString,Str.length]
    show (Str.ofString (toString i)).length + 5≤1300 * 1
    omega
  | .str x,h=>by
    rw [leafOk,Bool.and_eq_true,decide_eq_true_eq] at h
    simp only [PyData.shown,wgt]
    have:=StrLaws.reprText_len x fun c hc=>by
      have q:=h.2
      unfold PyData.strOk at q
      rw [Array.all_eq_true'] at q
      have:=q c (by simpa using hc)
      have:=of_decide_eq_true this
      omega
    omega
  | .list ds,h=>by
    rw [leafOk] at h
    simp only [PyData.shown,wgt]
    have h1:=listText_len_le (PyData.shownAll ds)
    have h2:=leaf_lenAll ds h
    omega
  | .tuple ds,h=>by
    rw [leafOk] at h
    simp only [PyData.shown,wgt]
    have h1:=tupleText_len_le (PyData.shownAll ds)
    have h2:=leaf_lenAll ds h
    omega
  | .dict _,h=>by rw [leafOk] at h; cases h
theorem leaf_lenAll:∀ ds:List PyData,leafOkAll ds = true→((PyData.shownAll ds).map (·.length)).sum + 2 * (PyData.shownAll ds).length≤1300 * wgtAll ds
  | [],_=>by simp [PyData.shownAll]
  | d :: ds,h=>by
    rw [leafOkAll,Bool.and_eq_true] at h
    have h1:=leaf_len d h.1
    have h2:=leaf_lenAll ds h.2
    rw [PyData.shownAll,wgtAll,List.map_cons,List.sum_cons,List.length_cons]
    have h3:1≤wgt d:=by cases d <;> simp [wgt]
    omega
end
structure Bd (n p:Nat) (d:PyData):Prop where
  leaf:leafOk d = true
  w:wgt d≤n
  dp:d.depth≤p
abbrev Fit (d:PyData):Prop:=Bd 1000 15 d
theorem Bd.mono {n p m q:Nat} {d:PyData} (h:Bd n p d) (h1:n≤m) (h2:p≤q):Bd m q d:=⟨h.leaf,Nat.le_trans h.w h1,Nat.le_trans h.dp h2⟩
theorem Bd.lay {n p:Nat} {d:PyData} (h:Bd n p d) (hp:p≤20):Lay d:=⟨leaf_lay d h.leaf,Nat.le_trans h.dp hp⟩
theorem Fit.lay {d:PyData} (h:Fit d):Lay d:=Bd.lay h (by decide)
theorem leafAll_mem:∀ {ds:List PyData},leafOkAll ds = true↔∀ d∈ds,leafOk d = true
  | []=>by simp [leafOkAll]
  | d :: ds=>by rw [leafOkAll,Bool.and_eq_true,leafAll_mem]; simp
theorem wgt_pos (d:PyData):1≤wgt d:=by cases d <;> simp [wgt]
theorem wgt_mem:∀ {ds:List PyData} {d:PyData},d∈ds→wgt d≤wgtAll ds
  | e :: ds,d,h=>by
    rw [wgtAll]
    rcases List.mem_cons.mp h with rfl | h
    · omega
    · have:=wgt_mem h; omega
theorem wgt_len:∀ ds:List PyData,ds.length≤wgtAll ds
  | []=>Nat.zero_le _
  | d :: ds=>by rw [wgtAll,List.length_cons]; have:=wgt_pos d; have:=wgt_len ds; omega
theorem depth_mem:∀ {ds:List PyData} {d:PyData},d∈ds→d.depth≤PyData.depthAll ds
  | e :: ds,d,h=>by
    rw [PyData.depthAll]
    rcases List.mem_cons.mp h with rfl | h
    · omega
    · have:=depth_mem h; omega
theorem wgt_each {n:Nat}:∀ {ds:List PyData},(∀ d∈ds,wgt d≤n)→wgtAll ds≤n * ds.length
  | [],_=>by simp [wgtAll]
  | d :: ds,h=>by
    rw [wgtAll,List.length_cons,Nat.mul_succ]
    have h1:=h d List.mem_cons_self
    have h2:=wgt_each fun e he=>h e (List.mem_cons_of_mem _ he)
    omega
theorem depth_each {p:Nat}:∀ {ds:List PyData},(∀ d∈ds,d.depth≤p)→PyData.depthAll ds≤p
  | [],_=>by simp [PyData.depthAll]
  | d :: ds,h=>by
    rw [PyData.depthAll]
    have h1:=h d List.mem_cons_self
    have h2:=depth_each fun e he=>h e (List.mem_cons_of_mem _ he)
    omega
theorem Bd.list {n p m:Nat} {ds:List PyData} (h:∀ d∈ds,Bd n p d) (hl:ds.length≤m):Bd (1 + n * m) (p + 1) (.list ds):=by
  refine ⟨by rw [leafOk]; exact leafAll_mem.mpr fun d hd=>(h d hd).leaf,?_,?_⟩
  · rw [wgt]
    have:=wgt_each fun d hd=>(h d hd).w
    have:=Nat.mul_le_mul_left n hl
    omega
  · rw [PyData.depth]
    have:=depth_each fun d hd=>(h d hd).dp
    omega
theorem Bd.tuple {n p m:Nat} {ds:List PyData} (h:∀ d∈ds,Bd n p d) (hl:ds.length≤m):Bd (1 + n * m) (p + 1) (.tuple ds):=by
  refine ⟨by rw [leafOk]; exact leafAll_mem.mpr fun d hd=>(h d hd).leaf,?_,?_⟩
  · rw [wgt]
    have:=wgt_each fun d hd=>(h d hd).w
    have:=Nat.mul_le_mul_left n hl
    omega
  · rw [PyData.depth]
    have:=depth_each fun d hd=>(h d hd).dp
    omega
theorem Bd.inTuple {n p:Nat} {ds:List PyData} (h:Bd n p (.tuple ds)):(∀ d∈ds,Bd n p d)∧ds.length≤n:=by
  have h1:=h.leaf; have h2:=h.w; have h3:=h.dp
  rw [leafOk] at h1; rw [wgt] at h2; rw [PyData.depth] at h3
  refine ⟨fun d hd=>⟨leafAll_mem.mp h1 d hd,?_,?_⟩,?_⟩
  · have:=wgt_mem hd; omega
  · have:=depth_mem hd; omega
  · have:=wgt_len ds; omega
theorem Bd.strLen {n p:Nat} {x:Str} (h:Bd n p (.str x)):x.length≤100:=by
  have h1:=h.leaf
  rw [leafOk,Bool.and_eq_true,decide_eq_true_eq] at h1
  exact h1.1
theorem layAll_of {ds:List PyData} {n p:Nat} (h:∀ d∈ds,Bd n p d):PyData.canLayAll0 ds = true:=leaf_layAll ds (leafAll_mem.mpr fun d hd=>(h d hd).leaf)
theorem bd_str {x:Str} (h1:x.length≤100) (h2:PyData.strOk x = true):Bd 1 0 (.str x):=⟨by rw [leafOk,h2,decide_eq_true h1]; rfl,by simp [wgt],by simp [PyData.depth]⟩
theorem bd_int {i:Int} (h:i.natAbs < 2 ^ 200):Bd 1 0 (.int i):=⟨by rw [leafOk]; exact decide_eq_true h,by simp [wgt],by simp [PyData.depth]⟩
theorem Fit.shown {d:PyData} (h:Fit d):d.shown.length≤sizeLine:=by
  have:=leaf_len d h.leaf
  have:=h.w
  rw [sizeLine_eq]
  omega
theorem lc_map {J:It} {n:Nat} {f:Nat→V} {g:TG} {te:TE} {σ0:St} {H1:Hp} {Q:VK} {D:Addr} (Iv:Nat→List V→St→Hp→Prop) (hD:H1 D = none) (hn:n≤1000)
    (h0:Iv 0 [] σ0 (upd H1 D (.lst [])))
    (hj:∀ i ys σ H,i≤n→H D = some (.lst ys)→Iv i ys σ H→(i = n→J.stop i H)∧(i < n→J.go i H∧∀ x H',J.yld i H x H'→H' = H∧x = f i))
    (hs:∀ i ys σ H,i < n→H D = some (.lst ys)→Iv i ys σ H→g (f i) σ H fun σ2 H3=>te σ2 H3 fun y H5=>H5 D = some (.lst ys)∧Iv (i + 1) (ys ++ [y]) σ2 (upd H5 D (.lst (ys ++ [y]))))
    (hd:∀ ys σ H,H D = some (.lst ys)→Iv n ys σ H→Q (.ref D) H):LCok J g tYes te σ0 H1 Q D :=
  lc_fill Iv hD hn h0 hj (fun i ys σ H h1 h2 h3=>hs i ys σ H h1 h2 h3) hd
end L2
namespace L2
open PySem PySem.Spec PyProof.Rows
section
variable {X:Cx}
theorem ps_setLC {i0:Nat} {x0:Str} {pos' spos:Pos} {elt tg iter:Expr} {ifs:List Expr} {scope:Scope} {pos:Pos} {wi:TI} {N:List Str} {r:List (Option Nat)} {g:TG} {tc:TT} {te:TE} (hN:X.N.Nodup) (hi0:X.N[i0]? = some x0) (hx:Loc X.env.scope x0) (hc:X.calm = true) (hi:PI X tg iter wi) (S:BlkOk X scope N r)
    (hg:∀ s H fp,PG (X.blk N scope s H fp) tg g) (ht:∀ s H fp,PTs (X.blk N scope s H fp) ifs tc) (he:∀ s H fp,PE (X.blk N scope s H fp) elt te)
    (hsw:swapsWith (.ListComp elt [⟨tg,iter,ifs,0⟩] scope pos) (some (.Name x0 pos')) spos.line X.env = pure true:=by rfl)
    (hs:∀ x,foldedSetIterable iter X.env x = pure x:=by intro _; rfl) (hf:X.fn x0 = true∨X.env.scope.names.lookup x0 = some .local:=by first | exact .inl rfl | exact .inr rfl | assumption) :
    PS X (.Assign [.Name x0 pos'] (.ListComp elt [⟨tg,iter,ifs,0⟩] scope pos) spos) (tAsg (tLC wi r g tc te) (gName i0)):=by
  intro pins s σ H DD I h
  rw [exec_Assign_Name_used _ _ _ _ hsw]
  refine wpAny_bind (wpAny_standAt (wpAny_bind ?_))
  show wpAny _ X.A (do let _ ← comprehension (.ListComp elt [⟨tg,iter,ifs,0⟩] scope pos) scope X.env _ (newList []) false (eval iter X.env) (some (assign (.Name x0 pos') X.env))) _ _ s
  refine wpAny_bind (wpAny_mono (?_:wpAny _ X.A _ (fun _ s'=>SP X pins DD .next s') _ s) (fun _ s' hq=>wpAny_pure (wpAny_pure hq)) fun _ _ e=>e)
  have hcl:closureFor scope X.env = pure (closOf scope X.env):=closureFor_eq fun y hy hk=>I.ok.has y.1 (S.out y hy hk)
  refine wpAny_comprehension_free (use:=some (assign (.Name x0 pos') X.env)) rfl hs hcl S.kind S.own ?_
  show wpAny _ _ (eval iter X.env) _ _ s
  refine thn (hi pins s σ H _ I h) fun v s1 h1=>thn h1 fun itv s2 h2=>?_
  obtain ⟨it,fp,tn,J,H2,e,I2,T,st2,f2,q2⟩:=h2
  subst e
  have hD:H2 s2.heap.objs.size = none:=I2.hok.fresh (Nat.le_refl _)
  obtain ⟨W,⟨m0,w0⟩,turn⟩:=q2 _ hD
  have hlt2:∀ b∈fp,b < s2.heap.objs.size:=fun b hb=>by
    obtain ⟨o,e,_⟩:=T.obj _ _ st2 b hb
    exact Heap.lt_size e
  refine wpAny_newObj_type ?_
  generalize hs3:({ s2 with heap:=s2.heap.push { cls:=.type "list",dict:=none,data:=.seq ([]:List Value).toArray } }:Shared) = s3
  have k3:∀ b o,s2.heap.get? b = some o→s3.heap.get? b = some o:=fun b o e=>by rw [← hs3]; exact Heap.get?_push_of_some _ e
  have z3:s3.heap.objs.size = s2.heap.objs.size + 1:=by rw [← hs3]; exact Heap.size_push ..
  have u3:Un (frs X.stack) fp H2 (upd H2 s2.heap.objs.size (.lst [])) s2.heap s3.heap:=Un.laid k3 (Nat.le_refl _) hD
  have o3:s3.os = s2.os:=by rw [← hs3]
  have I3:Inv X pins σ (upd H2 s2.heap.objs.size (.lst [])) s3:=by
    rw [← hs3]
    exact I2.laid (t':=s2.toks) (fun b u e=>Heap.get?_push_of_some _ e) (Nat.le_refl _) ⟨Nat.zero_le _,[],0,.nil,Heap.get?_push_size _ rfl⟩
  have f3:∀ b∈fp,FpOk X pins (upd H2 s2.heap.objs.size (.lst [])) b:=fun b hb=>⟨by rw [upd_ne (Nat.ne_of_lt (hlt2 b hb))]; exact (f2 b hb).1,(f2 b hb).2⟩
  refine wpAny_newFunctionEnv S.nocell (by intro y hy; simp at hy) (fun h4 hns4 hsb4=>?_) S.kind
  have k4:∀ b o,s3.heap.get? b = some o→h4.get? b = some o:=fun b o e=>hsb4.extBut b o (Nat.ne_of_lt (Heap.lt_size e)) (Heap.get?_push_of_some _ e)
  have J4:Inv (X.blk N scope s3 (upd H2 s2.heap.objs.size (.lst [])) fp) [] (r.map (pick σ)) (upd H2 s2.heap.objs.size (.lst [])) { s3 with heap:=h4,toks:=s3.toks + ([]:List (Str × Value)).length } :=
    blk_start S I3 f3 (fun b hb=>by rw [z3]; exact Nat.lt_succ_of_lt (hlt2 b hb)) hns4 k4
  have st4:tn 0 h4:=T.keep _ _ _ st2 fun b _ o e=>k4 b o (k3 b o e)
  have stat:∀ {H':Hp},(∀ b∈fp,H' b = none)→∀ b∈fp,FpOk (X.blk N scope s3 (upd H2 s2.heap.objs.size (.lst [])) fp) [] H' b:=fun hn b hb =>
    ⟨hn b hb,(J4.ok.exf b hb).1,J4.ok.exfs b hb,.inl hb,(J4.ok.exf b hb).2,fun p hp=>absurd (show p∈([]:List (Addr × Obj)) from hp) (by simp)⟩
  generalize hY:X.blk N scope s3 (upd H2 s2.heap.objs.size (.lst [])) fp = Y at *
  have loop:∀ s4:Shared,s4 = { s3 with heap:=h4,toks:=s3.toks + ([]:List (Str × Value)).length } →
      codeAny (model X.prog X.w) X.A (.compLoop (.ListComp elt [⟨tg,iter,ifs,0⟩] scope pos) 0 (.ref it) (.ref s2.heap.objs.size) Y.env) (compPost (model X.prog X.w) X.A X.xe (some (assign (.Name x0 pos') X.env)) (fun _ s'=>SP X pins DD .next s') (.ref s2.heap.objs.size) s3.heap.objs.size) s4:=by
    rintro s4 rfl
    have yp:Y.prog = X.prog:=by rw [← hY]
    have yw:Y.w = X.w:=by rw [← hY]
    have yK:Y.K = X.K:=by rw [← hY]
    have yA:Y.A = X.A:=by rw [← hY]
    have yc:Y.calm = true:=by rw [← hY]; exact hc
    have hgY:PG Y tg g:=by rw [← hY]; exact hg _ _ _
    have htY:PTs Y ifs tc:=by rw [← hY]; exact ht _ _ _
    have heY:PE Y elt te:=by rw [← hY]; exact he _ _ _
    have yx:∀ e s',¬ Y.xe e s':=fun e s' z=>by rw [← hY] at z; exact z
    refine compLoop_go (fun n s'=>∃ i σ' H',Inv Y [] σ' H' s'∧tn i s'.heap∧(∀ b∈fp,H' b = none)∧W i n σ' H') ?_ m0 ⟨0,_,_,J4,st4,fun b hb=>(f3 b hb).1,w0⟩
    rintro n s5 ⟨i,σ5,H5,I5,st5,fr5,w5⟩
    rcases turn i n σ5 H5 w5 with ⟨stop,qn⟩ | ⟨go,Nn,Mm,hNn,hMm,step⟩
    · have d:=T.done Y yp yw yK yc i [] s5 σ5 H5 (notedBy (model X.prog X.w) X.A Y.env fun e s'=>compPost (model X.prog X.w) X.A X.xe (some (assign (.Name x0 pos') X.env)) (fun _ s'=>SP X pins DD .next s') (.ref s2.heap.objs.size) s3.heap.objs.size (.error e) s') I5 (stat fr5) st5 stop
      rw [yA] at d
      refine thn d fun rr s6 ⟨hr,I6⟩=>?_
      subst hr
      obtain ⟨m,hn,_⟩:=id I6.loc
      rw [← hY] at I6 hn
      have IX:Inv X pins σ H5 s6:=blk_end I2 f2 u3 (by rw [z3]; exact Nat.le_succ _) o3 I6 (Heap.SameBut.refl _ _)
      have hC:H5 s3.heap.objs.size = none:=I6.free
      obtain ⟨f0,f1,f2',f3',f4,f5⟩:=I3.fpOk (Nat.le_refl _) hC
      refine wpAny_assign_Name (store_ok2 IX hN hi0 hx (show RelV (V.ref s2.heap.objs.size) _ from rfl) (fun s7 I7 ⟨a,hsb7,ha⟩=>?_) hf)
      have hCa:s3.heap.objs.size≠a:=by
        rcases ha with rfl | ha
        · exact f1
        · exact fun z=>f4 _ _ ha z.symm
      refine ⟨m,Heap.Ns.sameBut hn hsb7 hCa,fun h' hsb=>⟨_,H5,I7.turned (t':=s7.toks) (it:=s3.heap.objs.size) (fun b o hb e=>hsb.extBut b o hb e) hC f1 f3' f4 f5,qn⟩⟩
    · have d:=T.item Y yp yw yK yc i [] s5 σ5 H5 (notedBy (model X.prog X.w) X.A Y.env fun e s'=>compPost (model X.prog X.w) X.A X.xe (some (assign (.Name x0 pos') X.env)) (fun _ s'=>SP X pins DD .next s') (.ref s2.heap.objs.size) s3.heap.objs.size (.error e) s') I5 (stat fr5) st5 go
      rw [yA] at d
      refine thn d fun rr s6 ⟨u,hr,h6⟩=>?_
      subst hr
      refine thn h6 fun _ s7 ⟨x,H7,I7,r7,y7,st7,fr7⟩=>?_
      have I7':=I7.pinned (stat fr7) (T.obj _ _ st7)
      have g7:=hgY _ s7 σ5 H7 x u _ I7' r7 (step x H7 y7)
      rw [yp,yw,yA] at g7
      refine wpAny_mono g7 (fun _ s8 ⟨σ8,H8,I8,q8⟩=>?_) fun e s' z=>(yx e s' z).elim
      have t8:=htY _ s8 σ8 H8 _ I8 q8
      rw [yp,yw,yA] at t8
      refine wpAny_mono t8 (fun ok s9 ⟨H9,I9,q9⟩=>?_) fun e s' z=>(yx e s' z).elim
      have again:∀ {s10:Shared} {H10:Hp} {m':Nat},Inv Y ([] ++ pinsAt fp s7.heap) σ8 H10 s10→m' < n→W (i + 1) m' σ8 H10→∃ m,m < n∧∃ i σ' H',Inv Y [] σ' H' s10∧tn i s10.heap∧(∀ b∈fp,H' b = none)∧W i m σ' H':=fun {s10 H10 m'} I10 hm w10=>by
        refine ⟨m',hm,i + 1,σ8,H10,I10.unpinned,T.keep _ _ _ st7 fun b hb o e=>(I10.pin (b,o) (List.mem_append_right _ (List.mem_append_right _ (mem_pinsAt hb e)))).1,fun b hb=>?_,w10⟩
        obtain ⟨o,e,d⟩:=T.obj _ _ st7 b hb
        exact (I10.pin (b,o) (List.mem_append_right _ (List.mem_append_right _ (mem_pinsAt hb e)))).2.1
      cases ok with
      | false =>
        rw [if_neg (by simp)] at q9 ⊢
        obtain ⟨m',hm,w9⟩:=hNn _ _ q9
        exact again I9 hm w9
      | true =>
        rw [if_pos rfl] at q9 ⊢
        have e9:=heY _ s9 σ8 H9 _ I9 q9
        rw [yp,yw,yA] at e9
        refine wpAny_mono e9 (fun uu s10 ⟨y,H10,I10,r10,hM⟩=>?_) fun e s' z=>(yx e s' z).elim
        obtain ⟨xs,m',hD10,hz,hm,w10⟩:=hMm _ _ _ hM
        have a10:=mt_append _ s10 σ8 H10 (.ref s2.heap.objs.size) [y] (.ref s2.heap.objs.size) [uu] (fun v Hq=>v = .non∧Hq = upd H10 s2.heap.objs.size (.lst (xs ++ [y]))) I10 rfl (.cons r10 .nil) ⟨_,xs,y,rfl,rfl,hD10,hz,rfl,rfl⟩
        rw [yp,yw,yA] at a10
        refine wpAny_mono a10 (fun _ s11 ⟨_,H11,I11,_,_,e11⟩=>?_) fun e s' z=>(yx e s' z).elim
        subst e11
        exact again I11 hm w10
  have hY':Y.env = { scope:=relabel scope X.env,locals:=s3.heap.objs.size,globals:=X.env.globals,cells:=closOf scope X.env,qual:=X.env.qual,func:=none,code:=X.env.code,frame:=X.env.frame,builtins:=X.env.builtins }:=by rw [← hY]; rfl
  rw [hY'] at loop
  exact codeAny_compStart_list (loop _ rfl) (T.self _ 0 _ _ _ st4 (loop _ rfl))
end
mutual
theorem Tells.keep2 {H H':Hp} {k x:Addr} (K:Keep x H H'):∀ {d:PyData} {v:V},Tells H k d v→Tells H x d v→Tells H' k d v
  | .none,_,h,_=>by unfold Tells at h ⊢; exact h
  | .bool _,_,h,_=>by unfold Tells at h ⊢; exact h
  | .int _,_,h,_=>by unfold Tells at h ⊢; exact h
  | .str _,_,h,_=>by unfold Tells at h ⊢; exact h
  | .list ds,v,h,h2=>by
    obtain ⟨a,vs,rfl,n,q,r⟩:=tells_list.mp h
    obtain ⟨a',vs',e,n',q',r'⟩:=tells_list.mp h2
    cases e
    rw [q] at q'
    cases q'
    exact tells_list.mpr ⟨a,vs,rfl,n,K a _ n' q,TellsAll.keep2 K r r'⟩
  | .tuple ds,v,h,h2=>by
    obtain ⟨a,vs,rfl,n,q,r⟩:=tells_tuple.mp h
    obtain ⟨a',vs',e,n',q',r'⟩:=tells_tuple.mp h2
    cases e
    rw [q] at q'
    cases q'
    exact tells_tuple.mpr ⟨a,vs,rfl,n,K a _ n' q,TellsAll.keep2 K r r'⟩
  | .dict _,_,h,_=>by unfold Tells at h; exact h.elim
theorem TellsAll.keep2 {H H':Hp} {k x:Addr} (K:Keep x H H'):∀ {ds:List PyData} {vs:List V},TellsAll H k ds vs→TellsAll H x ds vs→TellsAll H' k ds vs
  | [],_,h,_=>by unfold TellsAll at h ⊢; exact h
  | d :: ds,vs,h,h2=>by
    obtain ⟨v,r,rfl,q,qs⟩:=tellsAll_cons.mp h
    obtain ⟨v',r',e,q',qs'⟩:=tellsAll_cons.mp h2
    cases e
    exact tellsAll_cons.mpr ⟨v,r,rfl,Tells.keep2 K q q',TellsAll.keep2 K qs qs'⟩
end
def Fr (H0:Hp) (D:Addr) (H:Hp) (ds:List PyData) (vs:List V):Prop:=∀ k,(k = D∨∃ o,H0 k = some o)→TellsAll H k ds vs
theorem Fr.keep {H0 H H':Hp} {D x:Addr} {ds:List PyData} {vs:List V} (h:Fr H0 D H ds vs) (K:Keep x H H') (hx:x = D∨∃ o,H0 x = some o):Fr H0 D H' ds vs :=
  fun k hk=>TellsAll.keep2 K (h k hk) (h x hx)
theorem Fr.snoc {H0 H:Hp} {D:Addr} {ds:List PyData} {vs:List V} {d:PyData} {v:V} (h:Fr H0 D H ds vs) (q:∀ k,(k = D∨∃ o,H0 k = some o)→Tells H k d v):Fr H0 D H (ds ++ [d]) (vs ++ [v]) :=
  fun k hk=>tellsAll_append (h k hk) (tellsAll_one (q k hk))
end L2
namespace L2
open PySem PySem.Spec PyProof.Rows
section
variable {X:Cx} {pins:List (Addr × Obj)} {σ:St} {H:Hp} {s:Shared}
theorem Inv.turnedL {h':Heap} {t':Nat} {fp:List Addr} (I:Inv X pins σ H s) (hf:∀ b∈fp,FpOk X pins H b) (k:∀ b o,b ∉ fp→s.heap.get? b = some o→h'.get? b = some o):Inv X pins σ H { s with heap:=h',toks:=t' }:=by
  have away:∀ b u,H b = some u→b ∉ fp:=fun b u e z=>by
    rw [(hf b z).1] at e
    cases e
  refine I.step (g':=s.gens) (d':=s.drawn) (ch:=fp) (fun b hb=>⟨(hf b hb).2.2.2.1,(hf b hb).2.1,(hf b hb).2.2.2.2.1,(hf b hb).2.2.2.2.2⟩) (fun b o _ _ hc e _=>k b o hc e)
    (fun b o _ _ hc e _=>⟨o.slots,k b o hc e⟩) (fun _ _ _ _ n=>n) (fun b o hc e=>⟨o,k b o hc e⟩) (fun _ _ e=>e) (fun _ _ _ e=>e) (fun b ps e=>⟨#[],by rw [e]; simp⟩) (fun m hm=>?_) (fun b u e=>?_) I.bare
  · obtain ⟨o,es,ep,at1,rest⟩:=hm
    exact ⟨o,es,ep,k _ o (fun z=>(hf _ z).2.1 rfl) at1,rest⟩
  · refine (I.hok b u e).stay (fun c v hc q=>k c v ?_ q) (fun _ q=>q) fun _ _ q=>q
    rcases hc with z | z
    · rw [z]; exact away b u e
    · exact away c _ z
theorem Inv.out {h':Heap} {t':Nat} {fp:List Addr} {xs:List V} {us:List Value} (I:Inv X pins σ H s) (hf:∀ b∈fp,FpOk X pins H b) (lt:∀ b∈fp,b < s.heap.objs.size) (r:Vals xs us) (hz:xs.length≤sizeLine)
    (k:∀ b o,b ∉ fp→s.heap.get? b = some o→h'.get? b = some o) (hT:h'.get? s.heap.objs.size = some { cls:=.type "tuple",data:=.seq us.toArray }) :
    H s.heap.objs.size = none∧Inv X pins σ (upd H s.heap.objs.size (.tup xs)) { s with heap:=h',toks:=t' }∧∀ b∈fp,(upd H s.heap.objs.size (.tup xs)) b = none:=by
  have fresh:H s.heap.objs.size = none:=I.hok.fresh (Nat.le_refl _)
  have I1:Inv X pins σ (upd H s.heap.objs.size (.tup xs)) { s with heap:=s.heap.push { cls:=.type "tuple",data:=.seq us.toArray },toks:=s.toks } :=
    I.laid (fun b u e=>Heap.get?_push_of_some _ e) (Nat.le_refl _) ⟨hz,us,r,⟨_,Heap.get?_push_size _ rfl,rfl,rfl,_,rfl⟩⟩
  have hf1:∀ b∈fp,FpOk X pins (upd H s.heap.objs.size (.tup xs)) b:=fun b hb=>⟨by rw [upd_ne (Nat.ne_of_lt (lt b hb))]; exact (hf b hb).1,(hf b hb).2⟩
  refine ⟨fresh,I1.turnedL hf1 fun b o hb e=>?_,fun b hb=>(hf1 b hb).1⟩
  by_cases z:b = s.heap.objs.size
  · subst z
    have e':some ({ cls:=.type "tuple",data:=.seq us.toArray }:Obj) = some o:=(Heap.get?_push_size s.heap (o:={ cls:=.type "tuple",data:=.seq us.toArray }) rfl).symm.trans e
    rw [hT,e']
  · refine k b o hb ?_
    have lt2:b < (s.heap.push { cls:=.type "tuple",data:=.seq us.toArray }).objs.size:=Heap.lt_size e
    rw [Heap.size_push] at lt2
    have lt3:b < s.heap.objs.size:=Nat.lt_of_le_of_ne (Nat.le_of_lt_succ lt2) z
    cases q:s.heap.get? b with
    | some o' =>
      have:=Heap.get?_push_of_some ({ cls:=.type "tuple",data:=.seq us.toArray }:Obj) q
      rw [this] at e
      exact e
    | none =>
      exfalso
      have e2:(s.heap.push { cls:=.type "tuple",data:=.seq us.toArray }).get? b = none:=by
        first | exact Heap.get?_push_of_none _ q lt3 | simp [Heap.get?,Heap.push,Array.getElem?_push,Nat.ne_of_lt lt3] at q ⊢; exact q
      rw [e2] at e
      cases e
end
section
variable {prog:Program} {w:World} {A:Around} {E:Value→Shared→Prop} {s:Shared}
theorem nextT_item {J t:Addr} {n:Nat} {vs:Array Value} {y:Value} {Q:Value→Shared→Prop} (a1:s.heap.IsTupleIter J t n) (a2:s.heap.IsTuple t vs) (a3:vs[n]? = some y)
    (q:∀ h',h'.IsTupleIter J t (n + 1)→Heap.SameBut J s.heap h'→Q y { s with heap:=h' }):wpAny (model prog w) A (Builtin.SmallTypes.nextOf (.ref J)) Q E s:=by
  obtain ⟨jo,j1,j2,j3⟩:=id a1
  obtain ⟨to,t1,_,tn,t2⟩:=a2
  unfold Builtin.SmallTypes.nextOf
  refine wpAny_bind (wpAny_callSpecial?_slot (name:=Str.ofString "__next__") a1.typeIs F.slot_tuple_iterator_next (wpAny_call_entry F.slot_tuple_iterator_next a1.typeIs F.entry_tuple_iterator_next ?_ (F.args_tuple_iterator_next_1 _)))
  refine (wpAny_bind (wpAny_field j1 j3 (x:=.ref t) rfl ?_):wpAny _ _ (field (.ref J) 0 >>= _) _ _ s)
  refine (?_:wpAny _ _ (if (Value.ref t == Value.none) = true then _ else _) _ _ s)
  rw [if_neg (by simp)]
  refine (wpAny_bind (wpAny_field j1 j3 (x:=.int n 0) rfl ?_):wpAny _ _ (field (.ref J) 1 >>= _) _ _ s)
  refine (wpAny_bind (wpAny_seqItems t1 t2 ?_):wpAny _ _ (seqItems? (.ref t) >>= _) _ _ s)
  simp only [a3,Int.toNat_natCast]
  exact wpAny_bind (wpAny_setField j1 j3 (by simp) (wpAny_pure ⟨y,rfl,wpAny_pure (q _ ⟨_,Heap.get?_update_self _ j1 (Obj.isFreed_of_fields (Obj.data_mapFields j3 _)),(Obj.cls_mapFields ..).trans j2,by rw [Obj.data_mapFields j3]; simp [rawInt]⟩ (Heap.SameBut.update ..))⟩))
theorem nextT_end {J t:Addr} {n:Nat} {vs:Array Value} {Q:Value→Shared→Prop} (free:A.handled = none) (a1:s.heap.IsTupleIter J t n) (a2:s.heap.IsTuple t vs) (a3:vs[n]? = none)
    (q:∀ h' x,Heap.ExtBut J s.heap h'→(∃ o,h'.get? x = some o∧o.cls = .type "StopIteration")→E (.ref x) { s with heap:=h' }):wpAny (model prog w) A (Builtin.SmallTypes.nextOf (.ref J)) Q E s:=by
  obtain ⟨jo,j1,j2,j3⟩:=id a1
  obtain ⟨to,t1,_,tn,t2⟩:=a2
  unfold Builtin.SmallTypes.nextOf
  refine wpAny_bind (wpAny_callSpecial?_slot (name:=Str.ofString "__next__") a1.typeIs F.slot_tuple_iterator_next (wpAny_call_entry F.slot_tuple_iterator_next a1.typeIs F.entry_tuple_iterator_next ?_ (F.args_tuple_iterator_next_1 _)))
  refine (wpAny_bind (wpAny_field j1 j3 (x:=.ref t) rfl ?_):wpAny _ _ (field (.ref J) 0 >>= _) _ _ s)
  refine (?_:wpAny _ _ (if (Value.ref t == Value.none) = true then _ else _) _ _ s)
  rw [if_neg (by simp)]
  refine (wpAny_bind (wpAny_field j1 j3 (x:=.int n 0) rfl ?_):wpAny _ _ (field (.ref J) 1 >>= _) _ _ s)
  refine (wpAny_bind (wpAny_seqItems t1 t2 ?_):wpAny _ _ (seqItems? (.ref t) >>= _) _ _ s)
  simp only [a3,Int.toNat_natCast]
  refine wpAny_bind (wpAny_rule (wpAny_bind (wpAny_setField j1 j3 (by simp) ?_)))
  refine (wpAny_bind ?_:wpAny _ _ (newExc (.type "StopIteration") [] >>= _) _ _ _)
  simp only [newTuple,newExc]
  refine wpAny_bind (wpAny_newObj_type (wpAny_bind (m:=firstArgMember _ _) (wpAny_of_eq (a:=Value.none) (by first | rfl | (simp only [firstArgMember]; rfl)) (wpAny_newObj_type ?_ (by size_fits)))) (by size_fits))
  simp only [raiseNew]
  refine wpAny_bind (wpAny_handled ?_)
  first | rw [show A.in1.handled = none from free] | rw [free]
  exact wpAny_bind (wpAny_pure (wpAny_throw (q _ _ (((Heap.SameBut.update ..).extBut.push _).push _) ⟨_,Heap.get?_push_size _ rfl,rfl⟩)))
end
section
variable {prog:Program} {w:World} {A:Around} {E:Value→Shared→Prop} {s:Shared}
end
theorem boot_enumE:bootBuiltins "enumerate" = some (.type "enumerate"):=by decide +kernel
end L2
namespace L2
open PySem PySem.Spec PyProof.Rows
section
variable {prog:Program} {w:World} {A:Around} {E:Value→Shared→Prop} {s:Shared}
theorem tIter_ext {h h':Heap} {a b t:Addr} {i:Nat} (x:h.IsTupleIter a t i) (sb:Heap.SameBut b h h') (n:a≠b):h'.IsTupleIter a t i:=x.extBut sb.extBut n
theorem tTup_ext {h h':Heap} {a b:Addr} {vs:Array Value} (x:h.IsTuple a vs) (sb:Heap.SameBut b h h') (n:a≠b):h'.IsTuple a vs:=x.extBut sb.extBut n
theorem zipT_item {z TI TO i1 i2 t1 t2:Addr} {n1 n2:Nat} {xs ys:Array Value} {x y a b:Value} {Q:Value→Shared→Prop} (D:ZipApart z TI TO i1 i2 t1 t2) (c1:IsZip s.heap z TI TO .none) (c2:IsPair s.heap TI (.ref i1) (.ref i2)) (c3:IsPair s.heap TO a b)
    (c4:s.heap.IsTupleIter i1 t1 n1) (c5:s.heap.IsTupleIter i2 t2 n2) (c6:s.heap.IsTuple t1 xs) (c7:s.heap.IsTuple t2 ys) (c8:xs[n1]? = some x) (c9:ys[n2]? = some y)
    (q:∀ h',IsZip h' z TI TO (rawInt s.heap.objs.size)→IsPair h' TO x y→h'.IsTupleIter i1 t1 (n1 + 1)→h'.IsTupleIter i2 t2 (n2 + 1)→IsPair h' s.heap.objs.size x y→(∀ c o,c≠z→c≠TO→c≠i1→c≠i2→s.heap.get? c = some o→h'.get? c = some o)→Q (.ref s.heap.objs.size) { s with heap:=h' }) :
    wpAny (model prog w) A (Builtin.«zip.__next__» ⟨[.ref z],[]⟩) (fun fin s'=>∃ v,fin = .done (.ret v)∧Q v s') E s:=by
  refine (wpAny_bind (wpAny_field c1 rfl (x:=.bool false) rfl ?_):wpAny _ _ (field (.ref z) 2 >>= _) _ _ _)
  refine (wpAny_bind (wpAny_field c1 rfl (x:=.ref TI) rfl ?_):wpAny _ _ (field (.ref z) 3 >>= _) _ _ _); refine wpAny_bind (wpAny_seqItems c2 rfl ?_)
  refine (wpAny_bind ?_:wpAny _ _ (Builtin.SmallTypes.ownedTupleIsFree (.ref z) >>= _) _ _ _)
  unfold Builtin.SmallTypes.ownedTupleIsFree
  refine wpAny_bind (wpAny_field c1 rfl (x:=.none) rfl (wpAny_pure ?_))
  simp only [if_true]
  refine wpAny_bind (wpAny_rule ?_); refine wpAny_bind (wpAny_field c1 rfl (x:=.ref TO) rfl ?_); refine wpAny_bind (wpAny_setField_rec c1 (by simp) fun g1 k1 s1=>?_)
  have k1:IsZip g1 z TI TO .ellipsis:=k1
  refine wpAny_bind ?_
  simp only [List.forIn_cons,List.forIn_nil,List.zipIdx_cons,List.zipIdx_nil]
  refine wpAny_bind (wpAny_bind (wpAny_onRaise ?_))
  show wpAny _ _ (Builtin.SmallTypes.nextOf (.ref i1) >>= _) _ _ _; refine wpAny_bind (nextT_item (tIter_ext c4 s1 D.i1z) (tTup_ext c6 s1 D.l1z) c8 fun g2 k2 s2=>wpAny_pure ?_)
  have o2:IsPair g2 TO a b:=s2.extBut _ _ D.TOi1 (s1.extBut _ _ D.TOz c3)
  refine wpAny_bind (wpAny_seqItems o2 rfl ?_); refine wpAny_bind (wpAny_updateSeq_pair o2 fun g3 o3 s3=>?_); refine wpAny_bind (wpAny_letGo (wpAny_pure ?_))
  have o3:IsPair g3 TO x b:=o3
  refine wpAny_bind (wpAny_bind (wpAny_onRaise ?_))
  show wpAny _ _ (Builtin.SmallTypes.nextOf (.ref i2) >>= _) _ _ _; refine wpAny_bind (nextT_item (tIter_ext (tIter_ext (tIter_ext c5 s1 D.i2z) s2 D.i12.symm) s3 D.TOi2.symm) (tTup_ext (tTup_ext (tTup_ext c7 s1 D.l2z) s2 D.l2i1) s3 D.l2TO) c9 fun g4 k4 s4=>wpAny_pure ?_)
  have o4:IsPair g4 TO x b:=s4.extBut _ _ D.TOi2 o3
  refine wpAny_bind (wpAny_seqItems o4 rfl ?_); refine wpAny_bind (wpAny_updateSeq_pair o4 fun g5 o5 s5=>?_); refine wpAny_bind (wpAny_letGo (wpAny_pure (wpAny_pure ?_)))
  have o5:IsPair g5 TO x y:=o5
  refine wpAny_bind (wpAny_seqItems o5 rfl ?_); refine wpAny_bind (wpAny_newTuple ?_)
  have sz:g5.objs.size = s.heap.objs.size:=by rw [s5.1,s4.1,s3.1,s2.1,s1.1]
  have z5:IsZip g5 z TI TO .ellipsis:=s5.extBut _ _ D.TOz.symm (s4.extBut _ _ D.i2z.symm (s3.extBut _ _ D.TOz.symm (s2.extBut _ _ D.i1z.symm k1)))
  have j1:g5.IsTupleIter i1 t1 (n1 + 1):=tIter_ext (tIter_ext (tIter_ext k2 s3 D.TOi1.symm) s4 D.i12) s5 D.TOi1.symm
  have j2:g5.IsTupleIter i2 t2 (n2 + 1):=tIter_ext k4 s5 D.TOi2.symm
  have zl:z < g5.objs.size:=Heap.lt_size z5
  refine (wpAny_bind ?_:wpAny _ _ (Builtin.SmallTypes.ownedTupleHandOut (.ref z) (.ref g5.objs.size) >>= _) _ _ _)
  unfold Builtin.SmallTypes.ownedTupleHandOut
  refine wpAny_bind (wpAny_setField_rec (Heap.get?_push_of_some _ z5) (by simp) fun g7 z7 s7=>?_)
  have z7:IsZip g7 z TI TO (rawInt g5.objs.size):=z7
  refine wpAny_setField_rec z7 (by simp) fun g8 z8 s8=>wpAny_pure ⟨_,rfl,?_⟩
  have z8:IsZip g8 z TI TO (rawInt g5.objs.size):=z8
  have up:∀ c o,c≠z→g5.get? c = some o→g8.get? c = some o:=fun c o n e=>s8.extBut _ _ n (s7.extBut _ _ n (Heap.get?_push_of_some _ e))
  have T8:IsPair g8 g5.objs.size x y:=s8.extBut _ _ (Nat.ne_of_gt zl) (s7.extBut _ _ (Nat.ne_of_gt zl) (Heap.get?_push_size _ rfl))
  rw [sz] at z8 T8
  refine (?_:Q (.ref g5.objs.size) _)
  rw [sz]
  obtain ⟨v1,v2,v3⟩:=j1
  obtain ⟨w1,w2,w3⟩:=j2
  exact q g8 z8 (up _ _ D.TOz o5) ⟨v1,up _ _ D.i1z v2,v3⟩ ⟨w1,up _ _ D.i2z w2,w3⟩ T8 fun c o n1 n2 n3 n4 e=>up c o n1 (s5.extBut _ _ n2 (s4.extBut _ _ n4 (s3.extBut _ _ n2 (s2.extBut _ _ n3 (s1.extBut _ _ n1 e)))))
theorem zipT_end {z TI TO i1 i2 t1 t2:Addr} {n1 n2:Nat} {xs ys:Array Value} {a b:Value} {Q:Fin→Shared→Prop} (free:A.handled = none) (D:ZipApart z TI TO i1 i2 t1 t2) (c1:IsZip s.heap z TI TO .none) (c2:IsPair s.heap TI (.ref i1) (.ref i2)) (c3:IsPair s.heap TO a b)
    (c4:s.heap.IsTupleIter i1 t1 n1) (c5:s.heap.IsTupleIter i2 t2 n2) (c6:s.heap.IsTuple t1 xs) (c7:s.heap.IsTuple t2 ys) (c8:xs[n1]? = none∨ys[n2]? = none)
    (q:∀ h' x,(∀ c o,c≠z→c≠TO→c≠i1→c≠i2→s.heap.get? c = some o→h'.get? c = some o)→(∃ o,h'.get? x = some o∧o.cls = .type "StopIteration")→E (.ref x) { s with heap:=h' }) :
    wpAny (model prog w) A (Builtin.«zip.__next__» ⟨[.ref z],[]⟩) Q E s:=by
  have stopNe:∀ {g:Heap} {x:Addr} {o:Obj},IsZip g z TI TO .ellipsis→g.get? x = some o→o.cls = .type "StopIteration"→x≠z:=fun {g x o} k1 k2 k3 e=>by
    rw [e,k1] at k2
    cases k2
    exact absurd (show Value.type "zip" = Value.type "StopIteration" from k3) (by decide)
  refine (wpAny_bind (wpAny_field c1 rfl (x:=.bool false) rfl ?_):wpAny _ _ (field (.ref z) 2 >>= _) _ _ _)
  refine (wpAny_bind (wpAny_field c1 rfl (x:=.ref TI) rfl ?_):wpAny _ _ (field (.ref z) 3 >>= _) _ _ _); refine wpAny_bind (wpAny_seqItems c2 rfl ?_)
  refine (wpAny_bind ?_:wpAny _ _ (Builtin.SmallTypes.ownedTupleIsFree (.ref z) >>= _) _ _ _)
  unfold Builtin.SmallTypes.ownedTupleIsFree
  refine wpAny_bind (wpAny_field c1 rfl (x:=.none) rfl (wpAny_pure ?_))
  simp only [if_true]
  refine wpAny_bind (wpAny_rule ?_); refine wpAny_bind (wpAny_field c1 rfl (x:=.ref TO) rfl ?_); refine wpAny_bind (wpAny_setField_rec c1 (by simp) fun g1 k1 s1=>?_)
  have k1:IsZip g1 z TI TO .ellipsis:=k1
  refine wpAny_bind ?_
  simp only [List.forIn_cons,List.forIn_nil,List.zipIdx_cons,List.zipIdx_nil]
  refine wpAny_bind (wpAny_bind (wpAny_onRaise ?_))
  cases hx:xs[n1]? with
  | none =>
    show wpAny _ _ (Builtin.SmallTypes.nextOf (.ref i1) >>= _) _ _ _; refine wpAny_bind (nextT_end free (tIter_ext c4 s1 D.i1z) (tTup_ext c6 s1 D.l1z) hx fun g2 x s2 ⟨o,o1,o2⟩=>?_)
    have z2:IsZip g2 z TI TO .ellipsis:=s2 _ _ D.i1z.symm k1
    exact wpAny_setField_rec z2 (by simp) fun g3 _ s3=>q g3 x (fun c u n1 _ n3 _ e=>s3.extBut _ _ n1 (s2 _ _ n3 (s1.extBut _ _ n1 e))) ⟨o,s3.extBut _ _ (stopNe z2 o1 o2) o1,o2⟩
  | some x1 =>
    have hy:ys[n2]? = none:=by
      rcases c8 with e | e
      · rw [hx] at e; cases e
      · exact e
    show wpAny _ _ (Builtin.SmallTypes.nextOf (.ref i1) >>= _) _ _ _; refine wpAny_bind (nextT_item (tIter_ext c4 s1 D.i1z) (tTup_ext c6 s1 D.l1z) hx fun g2 k2 s2=>wpAny_pure ?_)
    have o2:IsPair g2 TO a b:=s2.extBut _ _ D.TOi1 (s1.extBut _ _ D.TOz c3)
    refine wpAny_bind (wpAny_seqItems o2 rfl ?_); refine wpAny_bind (wpAny_updateSeq_pair o2 fun g3 o3 s3=>?_); refine wpAny_bind (wpAny_letGo (wpAny_pure ?_))
    refine wpAny_bind (wpAny_bind (wpAny_onRaise ?_))
    show wpAny _ _ (Builtin.SmallTypes.nextOf (.ref i2) >>= _) _ _ _; refine wpAny_bind (nextT_end free (tIter_ext (tIter_ext (tIter_ext c5 s1 D.i2z) s2 D.i12.symm) s3 D.TOi2.symm) (tTup_ext (tTup_ext (tTup_ext c7 s1 D.l2z) s2 D.l2i1) s3 D.l2TO) hy fun g4 x s4 ⟨o,o1,o2'⟩=>?_)
    have z4:IsZip g4 z TI TO .ellipsis:=s4 _ _ D.i2z.symm (s3.extBut _ _ D.TOz.symm (s2.extBut _ _ D.i1z.symm k1))
    exact wpAny_setField_rec z4 (by simp) fun g5 _ s5=>q g5 x (fun c u n1 n2 n3 n4 e=>s5.extBut _ _ n1 (s4 _ _ n4 (s3.extBut _ _ n2 (s2.extBut _ _ n3 (s1.extBut _ _ n1 e))))) ⟨o,s5.extBut _ _ (stopNe z4 o1 o2') o1,o2'⟩
theorem meets_zipT (t1 t2:Addr) (xs ys:Array Value):Meets (Builtin.«zip.__new__» ⟨[.type "zip",.ref t1,.ref t2],[]⟩) (fun _ R s=>s.heap.IsTuple t1 xs∧s.heap.IsTuple t2 ys∧∀ h1 h2 h3 h4 h5:Heap,
      h1 = s.heap.push { cls:=.type "tuple_iterator",data:=.fields #[.ref t1,.int 0 0] }→h2 = h1.push { cls:=.type "tuple_iterator",data:=.fields #[.ref t2,.int 0 0] }→h3 = h2.push { cls:=.type "tuple",data:=.seq #[.ref s.heap.objs.size,.ref h1.objs.size] } →
      h4 = h3.push { cls:=.type "tuple",data:=.seq #[.none,.none] }→h5 = h4.push { cls:=.type "zip",data:=.fields #[.none,.bool false,.bool false,.ref h2.objs.size,.ref h3.objs.size] }→R (.ok (.ret (.ref h4.objs.size))) { s with heap:=h5 }) :=
  .of_wp fun prog w A R s h=>by
    obtain ⟨hp,g,d,tk,os⟩:=s
    obtain ⟨p1,p2,h⟩:=h
    have hsub:=sub_zip
    have q1:Heap.IsTuple (Shared.heap ⟨hp,g,d,tk,os⟩) t1 xs:=p1
    have q2:Heap.IsTuple (Shared.heap ⟨hp.push { cls:=.type "tuple_iterator",data:=.fields #[.ref t1,.int 0 0] },g,d,tk,os⟩) t2 ys:=Heap.IsTuple.push p2 _
    wp_walk using wpAny_pyIter_tuple q1,wpAny_pyIter_tuple q2
    exact ⟨_,rfl,h _ _ _ _ _ rfl rfl rfl rfl rfl⟩
theorem call_zipT {t1 t2:Addr} {xs ys:Array Value} {Q:Value→Shared→Prop} (p1:s.heap.IsTuple t1 xs) (p2:s.heap.IsTuple t2 ys)
    (q:∀ h',IsZip h' (s.heap.objs.size + 4) (s.heap.objs.size + 2) (s.heap.objs.size + 3) .none→IsPair h' (s.heap.objs.size + 2) (.ref s.heap.objs.size) (.ref (s.heap.objs.size + 1))→IsPair h' (s.heap.objs.size + 3) .none .none →
      h'.IsTupleIter s.heap.objs.size t1 0→h'.IsTupleIter (s.heap.objs.size + 1) t2 0→(∀ c o,s.heap.get? c = some o→h'.get? c = some o)→Q (.ref (s.heap.objs.size + 4)) { s with heap:=h' }) :
    wpAny (model prog w) A (call (.type "zip") [.ref t1,.ref t2]) Q E s:=by
  refine callType_new F.called_zip (by decide) (F.typeCall_zip_2 _ _) (F.newCall_zip_2 _ _) (fun obj=>F.args_object_init_3 obj _ _) F.entry_zip_new (meets_zipT t1 t2 xs ys) ⟨p1,p2,fun h1 h2 h3 h4 h5 e1 e2 e3 e4 e5=>?_⟩
  have m1:h1.objs.size = s.heap.objs.size + 1:=by rw [e1]; exact Heap.size_push ..
  have m2:h2.objs.size = s.heap.objs.size + 2:=by rw [e2,Heap.size_push,m1]
  have m3:h3.objs.size = s.heap.objs.size + 3:=by rw [e3,Heap.size_push,m2]
  have m4:h4.objs.size = s.heap.objs.size + 4:=by rw [e4,Heap.size_push,m3]
  have u5:∀ c o,h4.get? c = some o→h5.get? c = some o:=fun c o e=>by rw [e5]; exact Heap.get?_push_of_some _ e
  have u4:∀ c o,h3.get? c = some o→h4.get? c = some o:=fun c o e=>by rw [e4]; exact Heap.get?_push_of_some _ e
  have u3:∀ c o,h2.get? c = some o→h3.get? c = some o:=fun c o e=>by rw [e3]; exact Heap.get?_push_of_some _ e
  have u2:∀ c o,h1.get? c = some o→h2.get? c = some o:=fun c o e=>by rw [e2]; exact Heap.get?_push_of_some _ e
  have u1:∀ c o,s.heap.get? c = some o→h1.get? c = some o:=fun c o e=>by rw [e1]; exact Heap.get?_push_of_some _ e
  have f5:IsZip h5 (s.heap.objs.size + 4) (s.heap.objs.size + 2) (s.heap.objs.size + 3) .none:=by
    rw [← m4,← m3,← m2,e5]; exact Heap.get?_push_size _ rfl
  have f4:IsPair h4 (s.heap.objs.size + 3) .none .none:=by rw [← m3,e4]; exact Heap.get?_push_size _ rfl
  have f3:IsPair h3 (s.heap.objs.size + 2) (.ref s.heap.objs.size) (.ref (s.heap.objs.size + 1)):=by rw [← m2,← m1,e3]; exact Heap.get?_push_size _ rfl
  have f2:h2.IsTupleIter (s.heap.objs.size + 1) t2 0:=⟨_,by rw [← m1,e2]; exact Heap.get?_push_size _ rfl,rfl,rfl⟩
  have f1:h1.IsTupleIter s.heap.objs.size t1 0:=⟨_,by rw [e1]; exact Heap.get?_push_size _ rfl,rfl,rfl⟩
  rw [m4]
  obtain ⟨v1,v2,v3⟩:=f1
  obtain ⟨w1,w2,w3⟩:=f2
  exact ⟨⟨_,f5,rfl⟩,q h5 f5 (u5 _ _ (u4 _ _ f3)) (u5 _ _ f4) ⟨v1,u5 _ _ (u4 _ _ (u3 _ _ (u2 _ _ v2))),v3⟩ ⟨w1,u5 _ _ (u4 _ _ (u3 _ _ w2)),w3⟩ fun c o e=>u5 _ _ (u4 _ _ (u3 _ _ (u2 _ _ (u1 _ _ e))))⟩
end
def Itz (K:PySem.W.Frag) (a b:Addr):It:=⟨fun i H=>∃ xs ys x y,SqT K H a xs∧SqT K H b ys∧xs[i]? = some x∧ys[i]? = some y,
  fun i H v H'=>∃ T x y,H T = none∧v = .ref T∧H' = upd H T (.tup [x,y])∧(∀ xs,SqT K H a xs→xs[i]? = some x)∧∀ ys,SqT K H b ys→ys[i]? = some y,fun i H=>∃ xs ys,SqT K H a xs∧SqT K H b ys∧(xs.length≤i∨ys.length≤i)⟩
def ZipAt (z TI TO i1 i2 a b:Addr) (i:Nat) (h:Heap):Prop:=IsZip h z TI TO .none∧IsPair h TI (.ref i1) (.ref i2)∧(∃ x y,IsPair h TO x y)∧h.IsTupleIter i1 a i∧h.IsTupleIter i2 b i
theorem turn_zipT {P:Program} {w:World} {K:PySem.W.Frag} {elts:List Expr} {kk:Nat} {tp:Pos} (z TI TO i1 i2 a b:Addr) (D:ZipApart z TI TO i1 i2 a b):Turn P w K (.Tuple elts kk tp) (Itz K a b) [z,TI,TO,i1,i2] z (ZipAt z TI TO i1 i2 a b) where
  mem:=by simp
  obj:=fun i h st c hc=>by
    obtain ⟨z1,z2,⟨x,y,z3⟩,⟨o,o1,o2,o3⟩,⟨u,u1,u2,u3⟩⟩:=st
    simp only [List.mem_cons,List.not_mem_nil,or_false] at hc
    rcases hc with rfl | rfl | rfl | rfl | rfl
    · exact ⟨_,z1,fun v e=>by cases (show Data.fields _ = Data.cell v from e)⟩
    · exact ⟨_,z2,fun v e=>by cases (show Data.seq _ _ = Data.cell v from e)⟩
    · exact ⟨_,z3,fun v e=>by cases (show Data.seq _ _ = Data.cell v from e)⟩
    · exact ⟨o,o1,fun v e=>by rw [o3] at e; cases e⟩
    · exact ⟨u,u1,fun v e=>by rw [u3] at e; cases e⟩
  keep:=fun i h h' st kp=>by
    obtain ⟨z1,z2,⟨x,y,z3⟩,⟨o,o1,o2⟩,⟨u,u1,u2⟩⟩:=st
    exact ⟨kp z (by simp) _ z1,kp TI (by simp) _ z2,⟨x,y,kp TO (by simp) _ z3⟩,⟨o,kp i1 (by simp) o o1,o2⟩,⟨u,kp i2 (by simp) u u1,u2⟩⟩
  item:=by
    intro X hP hw hK hc i pins s σ H E I hf st hg
    subst hP hw hK
    obtain ⟨xs,ys,x,y,hq1,hq2,hx,hy⟩:=hg
    obtain ⟨its1,rv1,p1,_⟩:=I.tuple hq1
    obtain ⟨its2,rv2,p2,_⟩:=I.tuple hq2
    obtain ⟨u1,hu1,ru1⟩:=rv1.get hx
    obtain ⟨u2,hu2,ru2⟩:=rv2.get hy
    obtain ⟨z1,z2,⟨oa,ob,z3⟩,j1,j2⟩:=st
    have isZ:s.TypeIs (.ref z) "zip":=⟨_,z1,rfl⟩
    have lt:∀ c∈[z,TI,TO,i1,i2],c < s.heap.objs.size:=fun c hc=>by
      obtain ⟨_,w1,_⟩:=id j1
      obtain ⟨_,w2,_⟩:=id j2
      simp only [List.mem_cons,List.not_mem_nil,or_false] at hc
      rcases hc with rfl | rfl | rfl | rfl | rfl
      · exact Heap.lt_size z1
      · exact Heap.lt_size z2
      · exact Heap.lt_size z3
      · exact Heap.lt_size w1
      · exact Heap.lt_size w2
    unfold pyNext
    refine wpAny_bind (wpAny_attempt (wpAny_callSpecial?_slot (name:=Str.ofString "__next__") isZ F.slot_zip_next (wpAny_call_entry F.slot_zip_next isZ F.entry_zip_next
      (zipT_item D z1 z2 z3 j1 j2 (show s.heap.IsTuple a its1.toArray from p1) (show s.heap.IsTuple b its2.toArray from p2) (x:=u1) (y:=u2) (by simpa using hu1) (by simpa using hu2) fun h' a1 a2 a3 a4 a5 a7=>wpAny_pure ?_) (F.args_zip_next_1 _))))
    refine ⟨_,rfl,wpAny_letOwnedTupleGo_zip a1 fun h2 b1 sb2=>?_⟩
    have nT:s.heap.objs.size≠z:=Nat.ne_of_gt (lt z (by simp))
    have go2:∀ c o,c≠z→h'.get? c = some o→h2.get? c = some o:=fun c o n e=>(sb2.2 c n).trans e
    obtain ⟨f1,f2,f3⟩:=I.out (h':=h2) (t':=s.toks) (xs:=[x,y]) (us:=[u1,u2]) hf lt (.cons ru1 (.cons ru2 .nil)) (by show 2≤sizeLine; decide)
      (fun c o hc q=>go2 c o (fun e=>hc (by simp [e])) (a7 c o (fun e=>hc (by simp [e])) (fun e=>hc (by simp [e])) (fun e=>hc (by simp [e])) (fun e=>hc (by simp [e])) q)) (go2 _ _ nT a5)
    obtain ⟨v1,v2,v3⟩:=a3
    obtain ⟨w1,w2,w3⟩:=a4
    exact ⟨.ref s.heap.objs.size,_,f2,rfl,⟨_,x,y,f1,rfl,rfl,fun zs hzs=>by rw [I.tuple_inj hzs hq1]; exact hx,fun zs hzs=>by rw [I.tuple_inj hzs hq2]; exact hy⟩,
      ⟨b1,go2 _ _ D.TIz (a7 _ _ D.TIz D.TITO D.TIi1 D.TIi2 z2),⟨_,_,go2 _ _ D.TOz a2⟩,⟨v1,go2 _ _ D.i1z v2,v3⟩,⟨w1,go2 _ _ D.i2z w2,w3⟩⟩,f3⟩
  done:=by
    intro X hP hw hK hc i pins s σ H E I hf st hg
    subst hP hw hK
    obtain ⟨xs,ys,hq1,hq2,hxy⟩:=hg
    obtain ⟨its1,rv1,p1,_⟩:=I.tuple hq1
    obtain ⟨its2,rv2,p2,_⟩:=I.tuple hq2
    obtain ⟨z1,z2,⟨oa,ob,z3⟩,j1,j2⟩:=st
    have isZ:s.TypeIs (.ref z) "zip":=⟨_,z1,rfl⟩
    have l1:=rv1.length
    have l2:=rv2.length
    have ends:its1.toArray[i]? = none∨its2.toArray[i]? = none:=by
      rcases hxy with e | e
      · left; simp; omega
      · right; simp; omega
    unfold pyNext
    refine wpAny_bind (wpAny_attempt (wpAny_callSpecial?_slot (name:=Str.ofString "__next__") isZ F.slot_zip_next (wpAny_call_entry F.slot_zip_next isZ F.entry_zip_next
      (zipT_end (I.ok.hd hc) D z1 z2 z3 j1 j2 (show s.heap.IsTuple a its1.toArray from p1) (show s.heap.IsTuple b its2.toArray from p2) ends fun h' x kp ⟨o,o1,o2⟩=>?_) (F.args_zip_next_1 _))))
    refine wpAny_bind (wpAny_isInstance (T:="StopIteration") (b:=true) ⟨o,o1,o2⟩ isSubtype_stop (wpAny_pure ⟨rfl,?_⟩))
    exact I.turnedL (t':=s.toks) hf fun c o hc q=>kp c o (fun e=>hc (by simp [e])) (fun e=>hc (by simp [e])) (fun e=>hc (by simp [e])) (fun e=>hc (by simp [e])) q
  self:=fun _ _ _ _ _ st q=>wpAny_pyIter_zip st.1 q
theorem boot_zipE:bootBuiltins "zip" = some (.type "zip"):=by decide +kernel
def iZipT (K:PySem.W.Frag) (ta:TA):TI:=fun σ H R=>ta σ H fun vs H1=>∃ a b,vs = [.ref a,.ref b]∧(∃ xs,SqT K H1 a xs)∧(∃ ys,SqT K H1 b ys)∧R (Itz K a b) H1
theorem pi_zipT {X:Cx} {elts:List Expr} {kk:Nat} {tp:Pos} {e1 e2:Expr} {ta:TA} {p pos:Pos} (hg:Gl X "zip") (hm:X.mg "zip" = none) (ha:PA X [e1,e2] ta) (hs:starEach [e1,e2] X.env = [(false,eval e1 X.env),(false,eval e2 X.env)]:=by rfl) (hs2:starEach [e2] X.env = [(false,eval e2 X.env)]:=by rfl) :
    PI X (.Tuple elts kk tp) (.Call (.Name "zip" p) [e1,e2] [] pos) (iZipT X.K ta):=by
  intro pins s σ H R I h
  refine Call_ (ld_blt I hg hm boot_zipE (PyProof.Rows.callWith_type1 (thn (ha pos pins s σ H _ I h) fun us s1 ⟨vs,H1,I1,r1,q1⟩=>?_) (by rw [hs,hs2]) (by rw [hs2]; rfl)))
  obtain ⟨a,b,e,⟨xs,hq1⟩,⟨ys,hq2⟩,q⟩:=q1
  subst e
  obtain ⟨u1,u2,rfl,ru1,ru2⟩:=vals2 r1
  cases (show u1 = Value.ref a from ru1)
  cases (show u2 = Value.ref b from ru2)
  obtain ⟨its1,rv1,p1,_⟩:=I1.tuple hq1
  obtain ⟨its2,rv2,p2,_⟩:=I1.tuple hq2
  have la:a < s1.heap.objs.size:=by obtain ⟨o,e,_⟩:=(show s1.heap.IsTuple a its1.toArray from p1); exact Heap.lt_size e
  have lb:b < s1.heap.objs.size:=by obtain ⟨o,e,_⟩:=(show s1.heap.IsTuple b its2.toArray from p2); exact Heap.lt_size e
  refine call_zipT (show s1.heap.IsTuple a its1.toArray from p1) (show s1.heap.IsTuple b its2.toArray from p2) fun h' a1 a2 a3 a4 a5 kp=>wpAny_pyIter_zip a1 ?_
  refine ⟨_,[s1.heap.objs.size + 4,s1.heap.objs.size + 2,s1.heap.objs.size + 3,s1.heap.objs.size,s1.heap.objs.size + 1],_,_,H1,rfl,I1.kept (t':=s1.toks) kp,turn_zipT _ _ _ _ _ a b (zipApart_new la lb),⟨a1,a2,⟨_,_,a3⟩,a4,a5⟩,fun c hc=>?_,q⟩
  have ge:s1.heap.objs.size≤c:=by
    simp only [List.mem_cons,List.not_mem_nil,or_false] at hc
    rcases hc with rfl | rfl | rfl | rfl | rfl
    · exact Nat.le_add_right _ _
    · exact Nat.le_add_right _ _
    · exact Nat.le_add_right _ _
    · exact Nat.le_refl _
    · exact Nat.le_add_right _ _
  exact I1.fpOk ge (I1.hok.fresh ge)
theorem lc_pairs {J:It} {n:Nat} {u v:Nat→V} {g:TG} {tc:TT} {te:TE} {σ0:St} {H1:Hp} {Q:VK} {D:Addr} (Iv:Nat→List V→St→Hp→Prop) (hD:H1 D = none) (hn:n≤1000)
    (h0:Iv 0 [] σ0 (upd H1 D (.lst [])))
    (hj:∀ i ys σ H,i≤n→H D = some (.lst ys)→Iv i ys σ H→(i = n→J.stop i H)∧(i < n→J.go i H∧∀ x H',J.yld i H x H'→∃ T,H T = none∧x = .ref T∧H' = upd H T (.tup [u i,v i])))
    (hs:∀ i ys σ H T,i < n→H D = some (.lst ys)→Iv i ys σ H→H T = none→g (.ref T) σ (upd H T (.tup [u i,v i])) fun σ2 H3=>tc σ2 H3 fun b H4 =>
      if b = true then te σ2 H4 fun y H5=>H5 D = some (.lst ys)∧Iv (i + 1) (ys ++ [y]) σ2 (upd H5 D (.lst (ys ++ [y]))) else H4 D = some (.lst ys)∧Iv (i + 1) ys σ2 H4)
    (hd:∀ ys σ H,H D = some (.lst ys)→Iv n ys σ H→Q (.ref D) H):LCok J g tc te σ0 H1 Q D:=by
  refine ⟨fun i m σ H=>m = n - i∧i≤n∧∃ ys,H D = some (.lst ys)∧ys.length≤i∧Iv i ys σ H,⟨n,rfl,Nat.zero_le _,[],upd_same,Nat.le_refl _,h0⟩,?_⟩
  rintro i m σ H ⟨rfl,hi,ys,hy,hl,iv⟩
  obtain ⟨j1,j2⟩:=hj i ys σ H hi hy iv
  rcases Nat.lt_or_ge i n with lt | ge
  · obtain ⟨go,yl⟩:=j2 lt
    refine .inr ⟨go,fun σ2 H4=>H4 D = some (.lst ys)∧Iv (i + 1) ys σ2 H4,fun y σ2 H5=>H5 D = some (.lst ys)∧Iv (i + 1) (ys ++ [y]) σ2 (upd H5 D (.lst (ys ++ [y]))),fun σ2 H4 q=>?_,fun y σ2 H5 q=>?_,fun x H2 q=>?_⟩
    · exact ⟨n - (i + 1),by omega,rfl,lt,ys,q.1,by omega,q.2⟩
    · exact ⟨ys,n - (i + 1),q.1,small1000 (by omega),by omega,rfl,lt,ys ++ [y],upd_same,by rw [List.length_append,List.length_singleton]; omega,q.2⟩
    · obtain ⟨T,f1,rfl,rfl⟩:=yl x H2 q
      exact hs i ys σ H T lt hy iv f1
  · have e:i = n:=by omega
    subst e
    exact .inl ⟨j1 rfl,hd ys σ H hy iv⟩
end L2
namespace L2
open PySem PySem.Spec PyProof.Rows
section
variable {X:Cx} {tg:Expr}
theorem call_any (hc:X.calm = true):CallR X (.builtin "any") (fun xs H Q=>∃ (p:Addr) (bs:List Bool),xs = [.ref p]∧SqL X.K H p (bs.map V.bl)∧Q (.bl (bs.any id)) H):=by
  intro pins s σ H xs us Q I r h
  obtain ⟨p,bs,rfl,hq,q⟩:=h
  obtain ⟨u,rfl,rx⟩:=vals1 r
  cases (show u = Value.ref p from rx)
  obtain ⟨its,rv,pl,hz⟩:=I.list hq
  have hlt:p < s.heap.objs.size:=by obtain ⟨o,e,_⟩:=pl.isList; exact Heap.lt_size e
  refine call_any_walk (wpAny_pyIter_list pl.isList ?_)
  refine ⟨s.heap.objs.size,_,_,its.toArray.size,_,_,fun i=>bs.getD i false,rfl,Walks.list (prog:=X.prog) (w:=X.w) (A:=X.A.in1) (I.ok.hd hc) s.heap.objs.size p (Nat.ne_of_lt hlt) its.toArray,⟨⟨_,Heap.get?_push_size _ rfl,rfl,rfl⟩,pl.isList.at fun o e=>Heap.get?_push_of_some _ e⟩,?_,fun h' tk hk=>?_⟩
  · intro i v s' Q' E' hP hQ
    have hP':its[i]? = some v:=by simpa using hP
    have hl:=rv.length
    rw [List.length_map] at hl
    have hi:i < its.length:=(List.getElem?_eq_some_iff.mp hP').1
    obtain ⟨u,hu,ru⟩:=rv.get (i:=i) (x:=V.bl (bs.getD i false)) (by rw [List.getElem?_map,List.getElem?_eq_getElem (by omega)]; simp [List.getD,List.getElem?_eq_getElem (show i < bs.length by omega)])
    rw [hP'] at hu; cases hu
    cases (show v = Value.bool _ from ru)
    exact wpAny_truthy_bool hQ
  · refine ⟨.bl _,H,I.kept fun b o e=>hk b o (by simpa using Nat.ne_of_lt (Heap.lt_size e)) (Heap.get?_push_of_some _ e),rfl,?_⟩
    have hl:=rv.length
    rw [List.length_map] at hl
    have e:(List.range its.toArray.size).any (fun i=>bs.getD i false) = bs.any id:=by
      rw [List.size_toArray,← hl]
      have:(List.range bs.length).map (fun i=>bs.getD i false) = bs:=by
        apply List.ext_getElem
        · simp
        · intro i h1 h2; simp [List.getD,List.getElem?_eq_getElem h2]
      conv=>rhs; rw [← this]
      rw [List.any_map]; rfl
    rw [e]; exact q
end
theorem cut_tail {xs:List V} (h:1≤xs.length):cutV xs (some 1) none = xs.drop 1:=by
  unfold cutV
  have e1:HT.sIx xs.length 0 (some 1) = 1:=by
    have:=HT.sIx_nat xs.length 0 1
    rw [show ((1:Nat):Int) = 1 from rfl] at this
    rw [this]; omega
  rw [e1,HT.sIx_none,List.take_of_length_le (by rw [List.length_drop]; exact Nat.le_refl _)]
theorem lc_pairsM {J:It} {n:Nat} {u v:Nat→V} {g:TG} {te:TE} {σ0:St} {H1:Hp} {Q:VK} {D:Addr} (Iv:Nat→List V→St→Hp→Prop) (hD:H1 D = none) (hn:n≤1000)
    (h0:Iv 0 [] σ0 (upd H1 D (.lst [])))
    (hj:∀ i ys σ H,i≤n→H D = some (.lst ys)→Iv i ys σ H→(i = n→J.stop i H)∧(i < n→J.go i H∧∀ x H',J.yld i H x H'→∃ T,H T = none∧x = .ref T∧H' = upd H T (.tup [u i,v i])))
    (hs:∀ i ys σ H T,i < n→H D = some (.lst ys)→Iv i ys σ H→H T = none→g (.ref T) σ (upd H T (.tup [u i,v i])) fun σ2 H3=>te σ2 H3 fun y H5=>H5 D = some (.lst ys)∧Iv (i + 1) (ys ++ [y]) σ2 (upd H5 D (.lst (ys ++ [y]))))
    (hd:∀ ys σ H,H D = some (.lst ys)→Iv n ys σ H→Q (.ref D) H):LCok J g tYes te σ0 H1 Q D :=
  lc_pairs Iv hD hn h0 hj (fun i ys σ H T h1 h2 h3 h4=>hs i ys σ H T h1 h2 h3 h4) hd
mutual
theorem Tells.fresh {H:Hp} {k e:Addr} (he:H e = none):∀ {d:PyData} {v:V},Tells H k d v→Tells H e d v
  | .none,_,h=>by unfold Tells at h ⊢; exact h
  | .bool _,_,h=>by unfold Tells at h ⊢; exact h
  | .int _,_,h=>by unfold Tells at h ⊢; exact h
  | .str _,_,h=>by unfold Tells at h ⊢; exact h
  | .list ds,v,h=>by
    obtain ⟨a,vs,rfl,_,q,r⟩:=tells_list.mp h
    exact tells_list.mpr ⟨a,vs,rfl,(fun z=>by rw [z,he] at q; cases q),q,TellsAll.fresh' he r⟩
  | .tuple ds,v,h=>by
    obtain ⟨a,vs,rfl,_,q,r⟩:=tells_tuple.mp h
    exact tells_tuple.mpr ⟨a,vs,rfl,(fun z=>by rw [z,he] at q; cases q),q,TellsAll.fresh' he r⟩
  | .dict _,_,h=>by unfold Tells at h; exact h.elim
theorem TellsAll.fresh' {H:Hp} {k e:Addr} (he:H e = none):∀ {ds:List PyData} {vs:List V},TellsAll H k ds vs→TellsAll H e ds vs
  | [],_,h=>by unfold TellsAll at h ⊢; exact h
  | d :: ds,vs,h=>by
    obtain ⟨v,r,rfl,q,qs⟩:=tellsAll_cons.mp h
    exact tellsAll_cons.mpr ⟨v,r,rfl,Tells.fresh he q,TellsAll.fresh' he qs⟩
end
theorem TellsAll.fresh {H:Hp} {k e:Addr} {ds:List PyData} {vs:List V} (h:TellsAll H k ds vs) (he:H e = none):TellsAll H e ds vs:=TellsAll.fresh' he h
end L2
namespace L2
open PySem PySem.Spec PyProof.Rows
theorem strs_vals:∀ {ss:List Str} {us:List Value},Vals (ss.map V.str) us→StrsAre us ss
  | [],_,r=>by cases r; exact .nil
  | x :: ss,_,r=>by
    cases r with
    | cons r1 r2 =>
      obtain ⟨t,rfl⟩:=r1
      exact .cons x t (strs_vals r2)
theorem vals_strs:∀ {us:List Value} {ss:List Str},StrsAre us ss→Vals (ss.map V.str) us
  | _,_,.nil=>.nil
  | _,_,.cons x t h=>.cons ⟨t,rfl⟩ (vals_strs h)
section
variable {X:Cx}
theorem call_sortedS:CallR X (.builtin "sorted") (fun xs H Q=>∃ (p:Addr) (ss:List Str),xs = [.ref p]∧SqL X.K H p (ss.map V.str)∧ss.length < 64∧∀ (l:Addr) (ss':List Str),H l = none→ss'.Perm ss→sortedS ss' = true→Q (.ref l) (upd H l (.lst (ss'.map V.str)))):=by
  intro pins s σ H xs us Q I r h
  obtain ⟨p,ss,rfl,hq,h64,q⟩:=h
  obtain ⟨u,rfl,rx⟩:=vals1 r
  cases (show u = Value.ref p from rx)
  obtain ⟨its,rv,pl,hz⟩:=I.list hq
  have hl:=rv.length
  rw [List.length_map] at hl
  refine sorted_strs pl.isList (strs_vals rv) (by omega) fun out ss' a1 a2 a3=>?_
  obtain ⟨e,he⟩:=sortedAll_at s.heap its out
  have fresh:H (s.heap.objs.size + 1) = none:=I.hok.fresh (Nat.le_succ _)
  have hl2:=a2.length_eq
  refine ⟨.ref (s.heap.objs.size + 1),upd H (s.heap.objs.size + 1) (.lst (ss'.map V.str)),I.laid (t':=s.toks) (fun b o eb=>sortedAll_old eb) (Nat.le_succ _) ⟨?_,out.toList,e,vals_strs a1,?_⟩,rfl,q _ ss' fresh a2 a3⟩
  · rw [List.length_map]; exact Nat.le_of_lt (small1000 (by omega))
  · rw [he]
end
end L2
namespace HT
open PySem PyProof.Rows
section
variable {prog:Program} {w:World} {A:Around} {E:Value→Shared→Prop} {s:Shared}
end
end HT
namespace L2
open PySem PySem.Spec PyProof.Rows
section
variable {X:Cx}
end
end L2
namespace HT
open PySem PyProof.Rows
section
variable {prog:Program} {w:World} {A:Around} {E:Value→Shared→Prop} {s:Shared}
end
end HT
namespace L2
open PySem PySem.Spec PyProof.Rows
section
variable {X:Cx}
end
end L2
namespace L2
open PySem PySem.Spec PyProof.Rows
section
variable {prog:Program} {w:World} {A:Around} {E:Value→Shared→Prop} {s:Shared}
end
section
variable {X:Cx}
end
end L2
namespace HT
open PySem PySem.Spec PyProof.Rows
def RawD (h:Heap) (d:Addr) (es:Array DictEntry) (ep:Nat):Prop:=∃ o,h.get? d = some o∧o.ExactDict∧o.data = .dict es ep
theorem RawD.at {h h':Heap} {d:Addr} {es:Array DictEntry} {ep:Nat} (x:RawD h d es ep) (e:∀ o,h.get? d = some o→h'.get? d = some o):RawD h' d es ep:=let ⟨o,h1,h2⟩:=x; ⟨o,e o h1,h2⟩
theorem RawD.lt {h:Heap} {d:Addr} {es:Array DictEntry} {ep:Nat} (x:RawD h d es ep):d < h.objs.size:=let ⟨o,h1,_⟩:=x; Heap.lt_size h1
section
variable {prog:Program} {w:World} {A:Around} {E:Value→Shared→Prop} {s:Shared} {d c:Addr} {es:Array DictEntry} {ep i:Nat}
theorem RawD.type (x:RawD s.heap d es ep):s.TypeIs (.ref d) "dict":=let ⟨o,h1,h2,_⟩:=x; ⟨o,h1,h2.1⟩
end
end HT
namespace L2
open PySem PySem.Spec PyProof.Rows
section
variable {X:Cx} {pins:List (Addr × Obj)} {σ:St} {H:Hp} {s:Shared}
theorem Paired.get' {α β:Type} {F:α→β→Prop}:∀ {l₁:List α} {l₂:List β} {i:Nat} {a:α},Paired F l₁ l₂→l₁[i]? = some a→∃ b,l₂[i]? = some b∧F a b
  | _,_,_,_,.nil,e=>by simp at e
  | _,_,0,_,.cons h _,e=>by simp at e; subst e; exact ⟨_,rfl,h⟩
  | _,_,i + 1,_,.cons _ t,e=>by simpa using Paired.get' (i:=i) t (by simpa using e)
end
end L2
namespace L2
open PySem PySem.Spec PyProof.Rows
section
variable {X:Cx}
def tDisp1 (tk tv:TE):TE:=fun σ H Q=>∀ p,H p = none→tk σ (upd H p (.dT [])) fun y H1=>tv σ H1 fun v H2=>∃ k b,y = .ref b∧H2 p = some (.dT [])∧H2 b = some (.tup (k.map kV))∧Q (.ref p) (upd H2 p (.dT [(k,v)]))
def disQ (p:Addr) (Q:VK) (ps:List (V × V)) (H2:Hp):Prop:=∃ y v,ps = [(y,v)]∧∃ k b,y = .ref b∧H2 p = some (.dT [])∧H2 b = some (.tup (k.map kV))∧Q (.ref p) (upd H2 p (.dT [(k,v)]))
theorem store_one {pins:List (Addr × Obj)} {σ:St} {H:Hp} {s:Shared} {p:Addr} {ps:List (V × V)} {ws:List (Value × Value)} {Q:VK} (hu:X.A.units + 1 < cLine) (I:Inv X pins σ H s) (rel:VV ps ws) (q:disQ p Q ps H) :
    wpAny (model X.prog X.w) X.A (storeAll p ws) (fun _ s2=>EP X pins σ Q (.ref p) s2) X.xe s:=by
  obtain ⟨y,v,rfl,k,b,rfl,e3,e4,q2⟩:=q
  match ws,rel with
  | [(w1,w2)],.cons r .nil =>
    obtain ⟨r1,r2⟩:=r
    have e1:w1 = Value.ref b:=r1
    subst e1
    obtain ⟨z,nm,xs,rl,dd⟩:=dt_of I.hok e3
    cases rl
    unfold storeAll
    simp only [List.forIn_cons,List.forIn_nil]
    refine wpAny_bind (wpAny_bind ?_)
    refine wpAny_dictSet_heap (hsz:=by simp) (knd:=tupleKind (mixKind X.prog X.w)) (show X.A.units < cLine by omega) (key_of I.hok e4) dd fun h' dd' hs=>?_
    refine wpAny_pure (wpAny_pure ?_)
    obtain ⟨o,es,ep,hq,h2,h3,h4,_,h5⟩:=dd'
    refine ⟨.ref p,_,d_write I (by rw [e3]; exact True.intro) hs ⟨o,hq⟩ (ob:=.dT [(k,v)]) ⟨by show 1≤sizeLine; decide,nm,_,Paired.cons ⟨rfl,?_,r2⟩ .nil,o,es,ep,hq,h2,h3,h4,h5⟩,rfl,q2⟩
    rw [upd_ne (ne_of e4 e3 (fun z=>nomatch z))]
    exact e4
theorem pe_disp1 {pos:Pos} {k v:Expr} {tk tv:TE} (hu:X.A.units + 1 < cLine) (hk:PE X k tk) (hv:PE X v tv) (mono:∀ σ H (Q Q':VK),(∀ x H1,Q x H1→Q' x H1)→tv σ H Q→tv σ H Q') (mono':∀ σ H (Q Q':VK),(∀ x H1,Q x H1→Q' x H1)→tk σ H Q→tk σ H Q'):PE X (.Dict [some k] [v] pos) (tDisp1 tk tv):=by
  intro pins s σ H Q I q
  have I1:=I.laid (a:=s.heap.objs.size) (o:=.dT []) (h':=s.heap.push { cls:=.type "dict",data:=.dict #[] }) (t':=s.toks) (fun _ _ q=>Heap.get?_push_of_some _ q) (Nat.le_refl _) (dt_empty s.heap I.big)
  have q1:=q _ (I.hok.fresh (Nat.le_refl s.heap.objs.size))
  have pp:PPs X pos [some k] [v] [(tk,tv)]:=pps_cons hk hv pps_nil
  have q2:tPairs [(tk,tv)] σ (upd H s.heap.objs.size (.dT [])) (disQ s.heap.objs.size Q):=by
    show tk σ _ fun x H1=>tv σ H1 fun y H2=>disQ s.heap.objs.size Q [(x,y)] H2
    exact mono' _ _ _ _ (fun x H1 h=>mono _ _ _ _ (fun y H2 h2=>⟨x,y,rfl,h2⟩) h) q1
  refine wpAny_Dict_any (by rfl) (by rfl) (fun z=>by cases z) (by show 1≤15; decide) ?_
  exact thn (pp pins _ σ _ _ I1 q2) fun ws s2 ⟨ps,H2,I2,rel,qq⟩=>store_one hu I2 rel qq
end
end L2
namespace L2
open PySem PySem.Spec PyProof.Rows
section
variable {X:Cx}
end
end L2
namespace L2
open PySem PySem.Spec PyProof.Rows
section
variable {prog:Program} {w:World} {A:Around} {E:Value→Shared→Prop} {s:Shared}
theorem meets_enumL (t:Addr) (o:Obj) (vs:Array Value) (n:Nat) (hc:o.cls = .type "list") (hd:o.data = .seq vs n) :
    Meets (Builtin.«enumerate.__new__» ⟨[.type "enumerate",.ref t],[]⟩) (fun _ R s=>s.heap.get? t = some o ∧
      R (.ok (.ret (.ref (s.heap.push { cls:=.type "list_iterator",data:=.fields #[.ref t,.int 0 0] }).objs.size)))
        { s with heap:=(s.heap.push { cls:=.type "list_iterator",data:=.fields #[.ref t,.int 0 0] }).push { cls:=.type "enumerate",data:=.fields #[.none,.bool false,.ref s.heap.objs.size,rawInt 0,.none,.none] } }) :=
  .of_wp fun prog w A R s h=>by
    obtain ⟨hp,g,d,tk,os⟩:=s
    obtain ⟨at1,h⟩:=h
    have hsub:=sub_enumerate
    have isT:Heap.IsList (Shared.heap ⟨hp,g,d,tk,os⟩) t vs:=⟨_,at1,hc,n,hd⟩
    obtain ⟨oc,od,oda,osl⟩:=o
    cases (show oc = Value.type "list" from hc)
    cases (show oda = Data.seq vs n from hd)
    wp_walk using AutoSeq1.wpAny_loadPart' at1
    refine wpAny_stack_any fun st=>wpAny_pure ?_
    split
    · rename_i c _ _ _ _ _
      cases (c == Value.type "enumerate") <;> (wp_walk using AutoSeq1.wpAny_loadPart' at1,wpAny_pyIter_list isT; exact ⟨_,rfl,h⟩)
    · wp_walk using AutoSeq1.wpAny_loadPart' at1,wpAny_pyIter_list isT
      exact ⟨_,rfl,h⟩
theorem call_enumL {t:Addr} {vs:Array Value} {Q:Value→Shared→Prop} (isT:s.heap.IsList t vs)
    (q:∀ h',IsEnum h' (s.heap.objs.size + 1) s.heap.objs.size 0 .none→h'.IsListIter s.heap.objs.size t 0→(∀ b o,s.heap.get? b = some o→h'.get? b = some o)→Q (.ref (s.heap.objs.size + 1)) { s with heap:=h' }) :
    wpAny (model prog w) A (call (.type "enumerate") [.ref t]) Q E s:=by
  obtain ⟨o,at1,hc,n,hd⟩:=isT
  refine callType_new F.called_enumerate (by decide) (F.typeCall_enumerate_1 _) (F.newCall_enumerate_1 _) (fun obj=>F.args_object_init_2 obj _) F.entry_enumerate_new (meets_enumL t o vs n hc hd) ⟨at1,?_⟩
  have sz:(s.heap.push { cls:=.type "list_iterator",data:=.fields #[.ref t,.int 0 0] }).objs.size = s.heap.objs.size + 1:=Heap.size_push ..
  refine (?_:_∧_)
  rw [sz]
  have isE:IsEnum ((s.heap.push { cls:=.type "list_iterator",data:=.fields #[.ref t,.int 0 0] }).push { cls:=.type "enumerate",data:=.fields #[.none,.bool false,.ref s.heap.objs.size,rawInt 0,.none,.none] }) (s.heap.objs.size + 1) s.heap.objs.size 0 .none:=by
    rw [← sz]
    exact Heap.get?_push_size _ rfl
  exact ⟨⟨_,isE,rfl⟩,q _ isE ⟨_,Heap.get?_push_of_some _ (Heap.get?_push_size _ rfl),rfl,rfl⟩ fun b o e=>Heap.get?_push_of_some _ (Heap.get?_push_of_some _ e)⟩
end
def Iel (K:PySem.W.Frag) (a:Addr):It:=⟨fun i H=>∃ xs x,SqL K H a xs∧xs[i]? = some x,fun i H y H'=>∃ T x,H T = none∧y = .ref T∧H' = upd H T (.tup [.int i,x])∧∀ xs,SqL K H a xs→xs[i]? = some x,fun i H=>∃ xs,SqL K H a xs∧i = xs.length⟩
theorem turn_enumL {P:Program} {w:World} {K:PySem.W.Frag} {elts:List Expr} {kk:Nat} {tp:Pos} (a e it:Addr) (hei:e≠it):Turn P w K (.Tuple elts kk tp) (Iel K a) [e,it] e (fun i h=>(∃ old,IsEnum h e it i old)∧h.IsListIter it a i) where
  mem:=by simp
  obj:=fun i h st b hb=>by
    obtain ⟨⟨old,e1⟩,⟨o,o1,o2,o3⟩⟩:=st
    simp only [List.mem_cons,List.not_mem_nil,or_false] at hb
    rcases hb with rfl | rfl
    · exact ⟨_,e1,fun v z=>by
        have z':Data.fields _ = Data.cell v:=z
        cases z'⟩
    · exact ⟨o,o1,fun v z=>by rw [o3] at z; cases z⟩
  keep:=fun i h h' st kp=>by
    obtain ⟨⟨old,e1⟩,⟨o,o1,o2⟩⟩:=st
    exact ⟨⟨old,kp e (by simp) _ e1⟩,⟨o,kp it (by simp) o o1,o2⟩⟩
  item:=by
    intro X hP hw hK hc i pins s σ H E I hf st hg
    subst hP hw hK
    obtain ⟨xs,x,hq,hx⟩:=hg
    obtain ⟨its,rv,p,hz⟩:=I.list hq
    obtain ⟨u,hu,ru⟩:=rv.get hx
    obtain ⟨⟨old,e1⟩,st2⟩:=st
    obtain ⟨jo,j1,j2,j3⟩:=id st2
    have p':s.heap.IsList a its.toArray:=p.isList
    obtain ⟨to,t1,t2,_⟩:=id p'
    have nit:a≠it:=fun z=>by
      rw [z,j1] at t1; cases t1
      rw [j2] at t2
      exact absurd t2 (by decide)
    have nea:e≠a:=fun z=>by
      rw [← z,e1] at t1; cases t1
      exact absurd (show Value.type "enumerate" = Value.type "list" from t2) (by decide)
    have lt:∀ b∈[e,it],b < s.heap.objs.size:=fun b hb=>by
      simp only [List.mem_cons,List.not_mem_nil,or_false] at hb
      rcases hb with rfl | rfl
      · exact Heap.lt_size e1
      · exact Heap.lt_size j1
    have hil:i < its.length:=(List.getElem?_eq_some_iff.mp hu).1
    refine wpAny_pyNext_enum_itemD (Draws.list (A:=X.A.in1) (I.ok.hd hc) it a nit its.toArray) e1 ⟨st2,p'⟩ (by simpa using hil) hei (by simp [hei,nea]) fun x' h' tk hP ho hs' hT hsz hk=>?_
    have ex:x' = u:=by
      have:its[i]? = some x':=by simpa using hP
      rw [hu] at this; exact (Option.some.inj this).symm
    subst ex
    refine ⟨_,rfl,wpAny_letOwnedTupleGo_enum ho fun h2 he2 sb2=>?_⟩
    have nT:s.heap.objs.size≠e:=Nat.ne_of_gt (lt e (by simp))
    obtain ⟨f1,f2,f3⟩:=I.out (h':=h2) (t':=tk + 1) (xs:=[.int i,x]) (us:=[.int i tk,x']) hf lt (.cons ⟨tk,rfl⟩ (.cons ru .nil)) (by show 2≤sizeLine; decide)
      (fun b o hb q=>(sb2.2 b (fun z=>hb (by simp [z]))).trans (hk b o (fun z=>hb (by simp [z])) (fun z=>hb (by simp [z])) q)) ((sb2.2 _ nT).trans hT)
    obtain ⟨⟨io,i1,i2⟩,_⟩:=hs'
    exact ⟨.ref s.heap.objs.size,_,f2,rfl,⟨_,x,f1,rfl,rfl,fun ys hy=>by rw [I.list_inj hy hq]; exact hx⟩,⟨⟨x',by simpa using he2⟩,⟨io,(sb2.2 it hei.symm).trans i1,i2⟩⟩,f3⟩
  done:=by
    intro X hP hw hK hc i pins s σ H E I hf st hg
    subst hP hw hK
    obtain ⟨xs,hq,hx⟩:=hg
    obtain ⟨its,rv,p,hz⟩:=I.list hq
    obtain ⟨⟨old,e1⟩,st2⟩:=st
    obtain ⟨jo,j1,j2,j3⟩:=id st2
    have p':s.heap.IsList a its.toArray:=p.isList
    obtain ⟨to,t1,t2,_⟩:=id p'
    have nit:a≠it:=fun z=>by
      rw [z,j1] at t1; cases t1
      rw [j2] at t2
      exact absurd t2 (by decide)
    have hl:=rv.length
    have ei:i = its.toArray.size:=by rw [List.size_toArray]; omega
    refine wpAny_pyNext_enum_endD (Draws.list (A:=X.A.in1) (I.ok.hd hc) it a nit its.toArray) e1 (by rw [← ei]; exact ⟨st2,p'⟩) fun h' eb=>⟨rfl,I.turnedL (t':=s.toks) hf fun b o hb q=>eb b o (fun z=>hb (by simp [z])) q⟩
  self:=fun _ _ _ _ _ st q=>by
    obtain ⟨⟨old,e1⟩,_⟩:=st
    exact wpAny_pyIter_enum e1 q
def iEnumL (K:PySem.W.Frag) (ta:TA):TI:=fun σ H R=>ta σ H fun vs H1=>∃ a,vs = [.ref a]∧(∃ xs,SqL K H1 a xs)∧R (Iel K a) H1
theorem pi_enumL {X:Cx} {elts:List Expr} {kk:Nat} {tp:Pos} {a:Expr} {ta:TA} {p pos:Pos} (hg:Gl X "enumerate") (hm:X.mg "enumerate" = none) (ha:PA X [a] ta) (hs:starEach [a] X.env = [(false,eval a X.env)]:=by rfl) :
    PI X (.Tuple elts kk tp) (.Call (.Name "enumerate" p) [a] [] pos) (iEnumL X.K ta):=by
  intro pins s σ H R I h
  refine Call_ (ld_blt I hg hm boot_enumE (PyProof.Rows.callWith_type1 (thn (ha pos pins s σ H _ I h) fun us s1 ⟨vs,H1,I1,r1,q1⟩=>?_) hs rfl))
  obtain ⟨ad,e,⟨xs,hq⟩,q⟩:=q1
  subst e
  obtain ⟨u,rfl,ru⟩:=vals1 r1
  cases (show u = Value.ref ad from ru)
  obtain ⟨its,rv,tp',hz⟩:=I1.list hq
  refine call_enumL (show s1.heap.IsList ad its.toArray from tp'.isList) fun h' isE isI kp=>wpAny_pyIter_enum isE ?_
  refine ⟨_,[s1.heap.objs.size + 1,s1.heap.objs.size],_,_,H1,rfl,I1.kept (t':=s1.toks) kp,turn_enumL ad _ _ (Nat.succ_ne_self _),⟨⟨_,isE⟩,isI⟩,fun b hb=>?_,q⟩
  simp only [List.mem_cons,List.not_mem_nil,or_false] at hb
  rcases hb with rfl | rfl
  · exact I1.fpOk (Nat.le_succ _) (I1.hok.fresh (Nat.le_succ _))
  · exact I1.fpOk (Nat.le_refl _) (I1.hok.fresh (Nat.le_refl _))
theorem for_enumL {K:PySem.W.Frag} {a:Addr} {xs:List V} {g:TG} {tb:TS} {D:Ends} {σ:St} {H:Hp} (Pv:Nat→St→Hp→Prop) (h0:Pv 0 σ H) (hl:∀ i σ H,i≤xs.length→Pv i σ H→SqL K H a xs)
    (hs:∀ i x σ H T,xs[i]? = some x→Pv i σ H→H T = none→g (.ref T) σ (upd H T (.tup [.int i,x])) fun σ2 H2=>tb { D with nx:=Pv (i + 1),ct:=Pv (i + 1),bk:=D.nx } σ2 H2) (hd:∀ σ H,Pv xs.length σ H→D.nx σ H) :
    ∃ W:Nat→Nat→St→Hp→Prop,(∃ m,W 0 m σ H)∧∀ i m σ H,W i m σ H →
      ((Iel K a).stop i H∧D.nx σ H)∨((Iel K a).go i H∧∃ N:St→Hp→Prop,(∀ σ' H',N σ' H'→∃ m',m' < m∧W (i + 1) m' σ' H')∧∀ x H',(Iel K a).yld i H x H'→g x σ H' fun σ2 H2=>tb { D with nx:=N,ct:=N,bk:=D.nx } σ2 H2):=by
  refine ⟨fun i m σ H=>m = xs.length - i∧i≤xs.length∧Pv i σ H,⟨xs.length,by simp,Nat.zero_le _,h0⟩,?_⟩
  rintro i m σ H ⟨rfl,hi,iv⟩
  have sq:=hl i σ H hi iv
  rcases Nat.lt_or_ge i xs.length with lt | ge
  · refine .inr ⟨⟨xs,xs[i],sq,by simp [lt]⟩,Pv (i + 1),fun σ' H' p'=>⟨xs.length - (i + 1),by omega,rfl,lt,p'⟩,fun x H' y=>?_⟩
    obtain ⟨T,z,f1,rfl,rfl,f2⟩:=y
    exact hs i z σ H T (f2 xs sq) iv f1
  · have e:i = xs.length:=by omega
    subst e
    exact .inl ⟨⟨xs,sq,rfl⟩,hd σ H iv⟩
end L2
namespace HT
open PySem PySem.Spec PyProof.Rows
section
variable {prog:Program} {w:World} {A:Around} {E:Value→Shared→Prop} {s:Shared}
end
section
variable {prog:Program} {w:World} {A:Around} {R:Result→Shared→Prop} {I:Addr} {fp wr:List Addr} {n:Nat} {P:Nat→Value→Prop} {St:Nat→Heap→Prop}
end
end HT
namespace L2
open PySem PySem.Spec PyProof.Rows
section
variable {X:Cx} {pins:List (Addr × Obj)} {σ:St} {H:Hp} {s:Shared}
end
end L2
namespace L2
open PySem PySem.Spec PyProof.Rows
section
variable {X:Cx} {pins:List (Addr × Obj)} {σ:St} {H:Hp} {s:Shared}
end
end L2
namespace L2
open PySem PySem.Spec PyProof.Rows
section
variable {X:Cx}
def rCatS (K:PySem.W.Frag):R2:=fun x y H Q=>∃ l b xs zs,x = .ref l∧y = .ref b∧SqL K H l xs∧SqL K H b zs∧xs.length + zs.length≤sizeLine∧∀ p,H p = none→Q (.ref p) (upd H p (.lst (xs ++ zs)))
theorem op_catS:OpR X (binaryOp .Add) (rCatS X.K):=by
  intro pins s σ H x y v u Q I rx ry h
  obtain ⟨l,b,xs,zs,rfl,rfl,hH,hB,hz,q⟩:=h
  cases rx
  cases ry
  obtain ⟨its,r,pl,_⟩:=I.list hH
  obtain ⟨its2,r2,pl2,_⟩:=I.list hB
  have l1:=r.length
  have l2:=r2.length
  obtain ⟨⟨c1,d1,a1,s1⟩,e1,h1,n1,k1⟩:=id pl.isList
  obtain ⟨⟨c2,d2,a2,s2⟩,e2,h2,n2,k2⟩:=id pl2.isList
  cases (show c1 = Value.type "list" from h1)
  cases (show a1 = Data.seq its.toArray n1 from k1)
  cases (show c2 = Value.type "list" from h2)
  cases (show a2 = Data.seq its2.toArray n2 from k2)
  refine concat_meets ⟨_,e1,rfl⟩ ⟨_,e2,rfl⟩ noFill_list_add seq_list_add PySem.F.slot_list_add PySem.F.entry_list_add (PySem.F.args_list_add_2 _ _) (list_addW l b its.toArray its2.toArray n1 n2 d1 d2 s1 s2 (by rw [List.size_toArray,List.size_toArray]; omega)) ⟨e1,e2,?_⟩
  rw [show its.toArray ++ its2.toArray = (its ++ its2).toArray by simp]
  exact ⟨.ref _,_,I.lnew (t':=s.toks) (r.append r2) (by rw [List.length_append]; omega),rfl,q _ I.fresh⟩
end
end L2
namespace HT
open PySem PySem.Spec PyProof.Rows L2
section
variable {prog:Program} {w:World} {A:Around} {R:Result→Shared→Prop} {I:Addr} {fp wr:List Addr} {G:Array GenState→Array GenState→Prop} {n:Nat} {P:Nat→Value→Prop} {St:Nat→Shared→Prop}
end
end HT
namespace HT
open PySem PySem.Spec PyProof.Rows L2
section
variable {prog:Program} {w:World} {A:Around} {E:Value→Shared→Prop} {s:Shared}
end
end HT
namespace L2
open PySem PySem.Spec PyProof.Rows HT
section
variable {X:Cx}
end
end L2
namespace L2
open PySem PySem.Spec PyProof.Rows
section
variable {X:Cx} {pins:List (Addr × Obj)} {σ:St} {H:Hp} {s:Shared}
end
end L2
namespace L2
open PySem PySem.Spec PyProof.Rows
section
variable {X:Cx} {a b:Expr} {ta tb:TE} {pos:Pos} {rest:List Expr}
end
end L2
namespace L2
open PySem PySem.Spec PyProof.Rows
section
variable {X:Cx}
end
end L2
namespace HT
open PySem PySem.Spec PyProof.Rows L2
def LtAt (A:Around) (s:Shared) (y x:Value) (b:Bool):Prop :=
  ∀ (prog:Program) (w:World) (E:Value→Shared→Prop) (Q:Value→Shared→Prop),Q (.bool b) s→wpAny (model prog w) A (richCompare .Lt y x) Q E s
inductive Lex (A:Around) (s:Shared):List Value→List Value→Bool→Prop
  | nn:Lex A s [] [] false
  | nc {y:Value} {ys:List Value}:Lex A s [] (y :: ys) true
  | cn {x:Value} {xs:List Value}:Lex A s (x :: xs) [] false
  | eq {x y:Value} {xs ys:List Value} {r:Bool}:SeqAt.EqAt A s x y true→Lex A s xs ys r→Lex A s (x :: xs) (y :: ys) r
  | lt {x y:Value} {xs ys:List Value} {r:Bool}:SeqAt.EqAt A s x y false→LtAt A s x y r→Lex A s (x :: xs) (y :: ys) r
section
open PySem.SeqAt
open PySem.AutoSeq1 (wpAny_loadPart')
open PySem.MeetsSeq PySem.MeetsSeq2 PySem.MeetsSeq3
theorem lex_end {A:Around} {s:Shared} {vs ws:List Value} {r:Bool} (h:Lex A s vs ws r) (hz:vs.zip ws = []):r = decide (vs.length < ws.length):=by
  cases h with
  | nn=>rfl
  | nc=>exact (decide_eq_true (by simp)).symm
  | cn=>exact (decide_eq_false (by simp)).symm
  | eq _ _=>rw [List.zip_cons_cons] at hz; cases hz
  | lt _ _=>rw [List.zip_cons_cons] at hz; cases hz
theorem tuple_lt_lex (l b:Addr) (items items2:Array Value) (n n2:Nat) (dd dd2:Option Addr) (sl sl2:Array (Option Value)) (r:Bool) :
    Meets (Builtin.«tuple.__lt__» ⟨[.ref l,.ref b],[]⟩)
      (fun A R s=>s.heap.get? l = some { cls:=.type "tuple",dict:=dd,data:=.seq items n,slots:=sl }∧s.heap.get? b = some { cls:=.type "tuple",dict:=dd2,data:=.seq items2 n2,slots:=sl2 }∧Lex A.in1 s items.toList items2.toList r∧R (.ok (.ret (.bool r))) s) :=
  fun prog w A R s h=>by
    obtain ⟨hp,g,d,tk,os⟩:=s; obtain ⟨hl,hb,hx,h⟩:=h
    have f2:=AutoSeq1.sub_tuple_tuple
    wp_walk using wpAny_loadPart' hl,wpAny_loadPart' hb,wpAny_forIn_list _ (fun rest b s'=>b.1 = none∧s' = ⟨hp,g,d,tk,os⟩∧∃ (vs ws:List Value),rest = vs.zip ws∧vs.length + items2.size = ws.length + items.size∧Lex A.in1 ⟨hp,g,d,tk,os⟩ vs ws r) _
    case turn =>
      rintro ⟨y,x⟩ rest b s' ⟨hb',rfl,vs,ws,hz,hlen,lx⟩
      cases lx with
      | nn=>rw [List.zip_nil_left] at hz; cases hz
      | nc=>rw [List.zip_nil_left] at hz; cases hz
      | cn=>rw [List.zip_nil_right] at hz; cases hz
      | eq he lx' =>
        rw [List.zip_cons_cons] at hz
        injection hz with hyx hrest
        injection hyx with hy hx
        subst hy hx
        simp only [List.length_cons] at hlen
        refine wpAny_bind (he prog w _ _ ?_)
        wp_walk
        exact ⟨rfl,rfl,_,_,hrest,by omega,lx'⟩
      | lt he hlt =>
        rw [List.zip_cons_cons] at hz
        injection hz with hyx hrest
        injection hyx with hy hx
        subst hy hx
        refine wpAny_bind (he prog w _ _ ?_)
        have hri:=hlt prog w
        wp_walk using hri
        exact h
    case fin =>
      rintro ⟨b1,b2⟩ s' ⟨hb',rfl,vs,ws,hz,hlen,lx⟩
      simp only at hb'
      subst hb'
      have hv:=lex_end lx hz.symm
      rw [hv] at h
      wp_walk
      have e:decide (vs.length < ws.length) = decide (items.size < items2.size):=by
        rw [decide_eq_decide]; omega
      rw [e] at h
      simpa [Builtin.Tuple.tupleCompareSizes] using h
    case h =>
      exact ⟨rfl,rfl,items.toList,items2.toList,rfl,by simp; omega,hx⟩
theorem lt_loop (l b:Addr) (items items2:Array Value) (n n2:Nat) (dd dd2:Option Addr) (sl sl2:Array (Option Value)) (r:Bool) (k:Nat) :
    ∀ i:Nat,items.size - i = k→Meets (Builtin.«list.__eq__.loop» ⟨[.ref l,.ref b,rawInt i,rawInt 0],[]⟩)
      (fun A R s=>s.heap.get? l = some { cls:=.type "list",dict:=dd,data:=.seq items n,slots:=sl }∧s.heap.get? b = some { cls:=.type "list",dict:=dd2,data:=.seq items2 n2,slots:=sl2 }∧i≤items.size∧i≤items2.size ∧
        Lex A.in1 s (items.toList.drop i) (items2.toList.drop i) r∧R (.ok (.ret (.bool r))) s):=by
  have stop:∀ (i:Nat),(items[((i:Nat):Int).toNat]? = none∨items2[((i:Nat):Int).toNat]? = none)→Meets (Builtin.«list.__eq__.loop» ⟨[.ref l,.ref b,rawInt i,rawInt 0],[]⟩)
      (fun A R s=>s.heap.get? l = some { cls:=.type "list",dict:=dd,data:=.seq items n,slots:=sl }∧s.heap.get? b = some { cls:=.type "list",dict:=dd2,data:=.seq items2 n2,slots:=sl2 }∧i≤items.size∧i≤items2.size ∧
        Lex A.in1 s (items.toList.drop i) (items2.toList.drop i) r∧R (.ok (.ret (.bool r))) s):=fun i hn prog w A R s h=>by
    obtain ⟨hp,g,d,tk,os⟩:=s; obtain ⟨hl,hb,z1,z2,hx,h⟩:=h
    have hz:(items.toList.drop i).zip (items2.toList.drop i) = []:=by
      rcases hn with hn | hn
      · have:items.toList.drop i = []:=by
          simp at hn; simp; omega
        rw [this,List.zip_nil_left]
      · have:items2.toList.drop i = []:=by
          simp at hn; simp; omega
        rw [this,List.zip_nil_right]
    have hv:=lex_end hx hz
    rw [List.length_drop,List.length_drop,Array.length_toList,Array.length_toList] at hv
    have e:r = decide (items.size < items2.size):=by
      rw [hv,decide_eq_decide]; omega
    wp_walk using wpAny_loadPart' hl,wpAny_loadPart' hb
    rw [e] at h
    cases h1:items[((i:Nat):Int).toNat]? with
    | none =>
      cases h2:items2[((i:Nat):Int).toNat]? with
      | none =>
        wp_walk using wpAny_loadPart' hl,wpAny_loadPart' hb
        exact h
      | some y =>
        wp_walk using wpAny_loadPart' hl,wpAny_loadPart' hb
        exact h
    | some x =>
      cases h2:items2[((i:Nat):Int).toNat]? with
      | none =>
        wp_walk using wpAny_loadPart' hl,wpAny_loadPart' hb
        exact h
      | some y=>rw [h1,h2] at hn; rcases hn with z | z <;> cases z
  induction k with
  | zero =>
    intro i hk
    exact stop i (.inl (by simp; omega))
  | succ k ih =>
    intro i hk
    have hlt:i < items.size:=by omega
    by_cases hlt2:i < items2.size
    · intro prog w A R s h
      obtain ⟨hp,g,d,tk,os⟩:=s; obtain ⟨hl,hb,z1,z2,hx,h⟩:=h
      have hi1:items[((i:Nat):Int).toNat]? = some items[i]:=by simp [hlt]
      have hi2:items2[((i:Nat):Int).toNat]? = some items2[i]:=by simp [hlt2]
      have d1:items.toList.drop i = items[i] :: items.toList.drop (i + 1):=by rw [List.drop_eq_getElem_cons (by simpa using hlt)]; simp
      have d2:items2.toList.drop i = items2[i] :: items2.toList.drop (i + 1):=by rw [List.drop_eq_getElem_cons (by simpa using hlt2)]; simp
      rw [d1,d2] at hx
      have hc:((i:Int) + 1) = ((i + 1:Nat):Int):=by push_cast; rfl
      wp_walk using wpAny_loadPart' hl,wpAny_loadPart' hb
      rw [hi1,hi2]
      cases hx with
      | eq he lx =>
        refine wpAny_bind (he prog w _ _ ?_)
        wp_walk
        rw [hc]
        exact ⟨plainId_quiet plain_eq_loop _,codeAny_builtin entry_eq_loop (by
          rw [Around.under_plainId plain_eq_loop _]
          exact ih (i + 1) (by omega) prog w A R _ ⟨hl,hb,hlt,hlt2,lx,h⟩)⟩
      | lt he hr =>
        refine wpAny_bind (he prog w _ _ ?_)
        wp_walk using wpAny_loadPart' hl,wpAny_loadPart' hb
        rw [hi1,hi2]
        have hri:=hr prog w
        wp_walk using hri
        exact h
    · exact stop i (.inr (by simp; omega))
theorem list_lt_lex (l b:Addr) (items items2:Array Value) (n n2:Nat) (dd dd2:Option Addr) (sl sl2:Array (Option Value)) (r:Bool) :
    Meets (Builtin.«list.__lt__» ⟨[.ref l,.ref b],[]⟩)
      (fun A R s=>s.heap.get? l = some { cls:=.type "list",dict:=dd,data:=.seq items n,slots:=sl }∧s.heap.get? b = some { cls:=.type "list",dict:=dd2,data:=.seq items2 n2,slots:=sl2 }∧Lex A.in1 s items.toList items2.toList r∧R (.ok (.ret (.bool r))) s):=by
  intro prog w A R s h
  obtain ⟨hp,g,d,tk,os⟩:=s; obtain ⟨hl,hb,hx,h⟩:=h
  have f3:=AutoSeq1.sub_list_list
  wp_walk using wpAny_loadPart' hl,wpAny_loadPart' hb
  exact ⟨plainId_quiet plain_eq_loop _,codeAny_builtin entry_eq_loop (by
    rw [Around.under_plainId plain_eq_loop _]
    exact lt_loop l b items items2 n n2 dd dd2 sl sl2 r _ 0 rfl prog w A R _ ⟨hl,hb,Nat.zero_le _,Nat.zero_le _,hx,h⟩)⟩
end
section
variable {A:Around} {s:Shared}
theorem lt_list {l b:Addr} {items items2:Array Value} {r:Bool} (hl:s.heap.IsList l items) (hb:s.heap.IsList b items2) (hx:Lex A.in1 s items.toList items2.toList r) (hu:A.units < cLine):LtAt A s (.ref l) (.ref b) r:=fun prog w E Q q=>by
  obtain ⟨⟨cls,dd,data,sl⟩,ho,hc,n,hd⟩:=id hl
  obtain ⟨⟨cls2,dd2,data2,sl2⟩,ho2,hc2,n2,hd2⟩:=id hb
  simp only at hc hd hc2 hd2
  subst hc hd hc2 hd2
  exact richCompare_meets_room (op:=.Lt) ⟨_,ho,rfl⟩ ⟨_,ho2,rfl⟩ PySem.F.slot_list_lt PySem.F.entry_list_lt (PySem.F.args_list_lt_2 _ _) (list_lt_lex l b items items2 n n2 dd dd2 sl sl2 r)
    ⟨ho,ho2,hx,show Value.bool r≠Value.notImplemented∧Q (.bool r) s from ⟨(fun x=>nomatch x),q⟩⟩ hu
theorem lt_tup {l b:Addr} {items items2:Array Value} {r:Bool} (hl:IsTup s.heap l items) (hb:IsTup s.heap b items2) (hx:Lex A.in1 s items.toList items2.toList r) (hu:A.units < cLine):LtAt A s (.ref l) (.ref b) r:=fun prog w E Q q=>by
  obtain ⟨⟨cls,dd,data,sl⟩,ho,hc,n,hd⟩:=id hl
  obtain ⟨⟨cls2,dd2,data2,sl2⟩,ho2,hc2,n2,hd2⟩:=id hb
  simp only at hc hd hc2 hd2
  subst hc hd hc2 hd2
  exact richCompare_meets_room (op:=.Lt) ⟨_,ho,rfl⟩ ⟨_,ho2,rfl⟩ PySem.F.slot_tuple_lt PySem.F.entry_tuple_lt (PySem.F.args_tuple_lt_2 _ _) (tuple_lt_lex l b items items2 n n2 dd dd2 sl sl2 r)
    ⟨ho,ho2,hx,show Value.bool r≠Value.notImplemented∧Q (.bool r) s from ⟨(fun x=>nomatch x),q⟩⟩ hu
theorem LtAt.int (a:Int) (t:Tok) (c:Int) (u:Tok):LtAt A s (.int a t) (.int c u) (decide (a < c)):=fun prog w E Q h=>(lt_int h:wpAny (model prog w) A (compareOp .Lt (.int a t) (.int c u)) Q E s)
theorem LtAt.str (a:Str) (t:Tok) (c:Str) (u:Tok):LtAt A s (.str a t) (.str c u) (decide (a.cps.toList < c.cps.toList)):=fun prog w E Q h=>(lt_str h:wpAny (model prog w) A (compareOp .Lt (.str a t) (.str c u)) Q E s)
def ltStr (a b:Str):Bool:=decide (a.cps.toList < b.cps.toList)
def lexS:List Str→List Str→Bool
  | [],[]=>false
  | [],_ :: _=>true
  | _ :: _,[]=>false
  | x :: xs,y :: ys=>if x = y then lexS xs ys else ltStr x y
theorem lex_strs:∀ {vs ws:List Value} {ss zs:List Str},StrsAre vs ss→StrsAre ws zs→Lex A s vs ws (lexS ss zs)
  | _,_,_,_,.nil,.nil=>.nn
  | _,_,_,_,.nil,.cons _ _ _=>.nc
  | _,_,_,_,.cons _ _ _,.nil=>.cn
  | _,_,_,_,.cons a t h,.cons c u h2=>by
    show Lex A s _ _ (if a = c then _ else _)
    have he:=SeqAt.EqAt.str_str (A:=A) (s:=s) a t c u
    by_cases e:a = c
    · rw [if_pos e]
      rw [show (a == c) = true by simpa using e] at he
      exact .eq he (lex_strs h h2)
    · rw [if_neg e]
      rw [show (a == c) = false by simpa using e] at he
      exact .lt he (LtAt.str a t c u)
end
end HT
namespace HT
open PySem PySem.Spec PyProof.Rows L2
def CmpS (prog:Program) (w:World) (A:Around) (P:Nat→Value→Prop) (St:Nat→Heap→Prop) (bt:Nat→Nat→Bool):Prop :=
  ∀ i j vi vj k (s:Shared) (Q:Value→Shared→Prop) (E:Value→Shared→Prop),St k s.heap→P i vi→P j vj→Q (.bool (bt i j)) s→wpAny (model prog w) A (richCompare .Lt vi vj) Q E s
section
variable {prog:Program} {w:World} {A:Around} {R:Result→Shared→Prop} {I:Addr} {fp wr:List Addr} {n:Nat} {P:Nat→Value→Prop} {St:Nat→Heap→Prop}
theorem minS_loop (W:Walks prog w A.in1 I fp wr n P St) (bt:Nat→Nat→Bool) (cmp:CmpS prog w A.in1 P St bt) (S:Addr) (out:S ∉ fp) (kw:List (Str × Value)) :
    ∀ (k j:Nat) (s:Shared) (vb:Value) (c:Nat),n - (j + 1) = k→j + 1≤n→St (j + 1) s.heap→P (argBest bt j) vb→s.heap.get? S = some { cls:=.type "list",dict:=none,data:=.seq #[vb,vb] c,slots:=#[] } →
    (∀ v h' tk,P (argBest bt (n - 1)) v→(∀ b o,b ∉ wr→b≠S→s.heap.get? b = some o→h'.get? b = some o)→R (.ok (.ret v)) { s with heap:=h',toks:=tk }) →
    codeAny (model prog w) A (.builtin "min.loop" ⟨[.ref I,.none,.ref S],kw⟩) R s:=by
  have away:S ∉ wr:=fun h=>out (W.sub _ h)
  have nm:(toString "min" ++ toString ".loop":String) = "min.loop":=by decide
  intro k
  induction k with
  | zero =>
    intro j s vb c hk hj st hb at1 q
    have en:j + 1 = n:=by omega
    refine codeAny_builtin F.entry_min_loop ?_; rw [Around.under_plainId F.plain_min_loop _]
    show wpAny _ A.in1 (seqItems? (.ref S) >>= _) _ _ s; refine wpAny_bind (wpAny_seqItems at1 rfl ?_); show wpAny _ A.in1 (tryCatch (pyNext (.ref I)) _ >>= _) _ _ s; refine wpAny_bind (wpAny_tryCatch (W.done s _ _ (en ▸ st) fun h' tk kp=>?_))
    show wpAny _ A.in1 (updateSeq S (fun _=>#[]) >>= _) _ _ _; refine wpAny_bind ?_; refine wpAny_updateSeq (kp S _ away at1) rfl (wpAny_bind (wpAny_letGo (wpAny_pure ?_)))
    exact q vb _ tk (by rw [← en]; exact hb) fun b o h1 h2 e=>(Heap.get?_update_other _ _ (Ne.symm h2)).trans (kp b o h1 e)
  | succ k ih =>
    intro j s vb c hk hj st hb at1 q
    have lt:j + 1 < n:=by omega
    refine codeAny_builtin F.entry_min_loop ?_; rw [Around.under_plainId F.plain_min_loop _]
    show wpAny _ A.in1 (seqItems? (.ref S) >>= _) _ _ s; refine wpAny_bind (wpAny_seqItems at1 rfl ?_); show wpAny _ A.in1 (tryCatch (pyNext (.ref I)) _ >>= _) _ _ s; refine wpAny_bind (wpAny_tryCatch (W.item (j + 1) s _ _ lt st fun v h' tk hP st' kp=>?_))
    have at2:=kp S _ away at1
    show wpAny _ A.in1 (tryCatch (holding [v,v] (richCompare .Lt v vb >>= _)) _ >>= _) _ _ _; refine wpAny_bind (wpAny_tryCatch (wpAny_holding (wpAny_bind (cmp (j + 1) (argBest bt j) v vb _ _ _ _ st' hP hb ?_))))
    refine wpAny_bind (wpAny_holding (wpAny_truthy_bool ?_)); refine wpAny_bind (wpAny_letGo (wpAny_pure ?_))
    cases better:bt (j + 1) (argBest bt j) with
    | true =>
      simp only [if_true]
      refine wpAny_bind ?_; refine wpAny_updateSeq at2 rfl (wpAny_bind (wpAny_letGo ?_))
      rw [nm]
      refine wpAny_pure ⟨plainId_quiet F.plain_min_loop _,ih (j + 1) _ v _ (by omega) lt (W.frame _ _ _ st' fun b hf o e=>(Heap.get?_update_other _ _ (fun h:S = b=>out (by rw [h]; exact hf))).trans e) (by simp only [argBest,better,if_true]; exact hP) (Heap.get?_update_self _ at2 rfl) fun v' h'' tk'' hP' kp'=>?_⟩
      exact q v' h'' tk'' hP' fun b o h1 h2 e=>kp' b o h1 h2 ((Heap.get?_update_other _ _ (Ne.symm h2)).trans (kp b o h1 e))
    | false =>
      simp only [Bool.false_eq_true,if_false]
      refine wpAny_bind (wpAny_letGo ?_)
      rw [nm]
      refine wpAny_pure ⟨plainId_quiet F.plain_min_loop _,ih (j + 1) _ vb c (by omega) lt st' (by simp only [argBest,better,Bool.false_eq_true,if_false]; exact hb) at2 fun v' h'' tk'' hP' kp'=>?_⟩
      exact q v' h'' tk'' hP' fun b o h1 h2 e=>kp' b o h1 h2 (kp b o h1 e)
theorem minS_first (W:Walks prog w A.in1 I fp wr n P St) (bt:Nat→Nat→Bool) (cmp:CmpS prog w A.in1 P St bt) (S:Addr) (out:S ∉ fp) (pos:0 < n) {s:Shared} {c:Nat} (st:St 0 s.heap)
    (at1:s.heap.get? S = some { cls:=.type "list",dict:=none,data:=.seq #[] c,slots:=#[] })
    (q:∀ v h' tk,P (argBest bt (n - 1)) v→(∀ b o,b ∉ wr→b≠S→s.heap.get? b = some o→h'.get? b = some o)→R (.ok (.ret v)) { s with heap:=h',toks:=tk }) :
    codeAny (model prog w) A (.builtin "min.loop" ⟨[.ref I,.none,.ref S],[]⟩) R s:=by
  have away:S ∉ wr:=fun h=>out (W.sub _ h)
  have nm:(toString "min" ++ toString ".loop":String) = "min.loop":=by decide
  refine codeAny_builtin F.entry_min_loop ?_; rw [Around.under_plainId F.plain_min_loop _]
  show wpAny _ A.in1 (seqItems? (.ref S) >>= _) _ _ s; refine wpAny_bind (wpAny_seqItems at1 rfl ?_); show wpAny _ A.in1 (tryCatch (pyNext (.ref I)) _ >>= _) _ _ s; refine wpAny_bind (wpAny_tryCatch (W.item 0 s _ _ pos st fun v h' tk hP st' kp=>?_))
  have at2:=kp S _ away at1
  show wpAny _ A.in1 (updateSeq S (fun _=>#[v,v]) >>= _) _ _ _; refine wpAny_bind ?_; refine wpAny_updateSeq at2 rfl ?_; rw [nm]
  refine wpAny_pure ⟨plainId_quiet F.plain_min_loop _,minS_loop W bt cmp S out _ _ 0 _ v _ rfl pos (W.frame _ _ _ st' fun b hf o e=>(Heap.get?_update_other _ _ (fun h:S = b=>out (by rw [h]; exact hf))).trans e) hP (Heap.get?_update_self _ at2 rfl) fun v' h'' tk'' hP' kp'=>?_⟩
  exact q v' h'' tk'' hP' fun b o h1 h2 e=>kp' b o h1 h2 ((Heap.get?_update_other _ _ (Ne.symm h2)).trans (kp b o h1 e))
end
section
variable {prog:Program} {w:World} {A:Around} {E:Value→Shared→Prop} {s:Shared}
end
end HT
namespace HT
open PySem PySem.Spec PyProof.Rows L2
theorem ltS_irr (a:Str):ltStr a a = false:=decide_eq_false (List.lt_irrefl _)
theorem ltS_trans {a b c:Str} (h1:ltStr a b = true) (h2:ltStr b c = true):ltStr a c = true:=decide_eq_true (List.lt_trans (of_decide_eq_true h1) (of_decide_eq_true h2))
theorem ltS_tot {a b:Str} (h:a≠b):ltStr a b = true∨ltStr b a = true:=by
  by_cases h1:a.cps.toList < b.cps.toList
  · exact .inl (decide_eq_true h1)
  · by_cases h2:b.cps.toList < a.cps.toList
    · exact .inr (decide_eq_true h2)
    · exfalso
      apply h
      have e:a.cps.toList = b.cps.toList:=List.le_antisymm (List.not_lt.mp h2) (List.not_lt.mp h1)
      obtain ⟨x⟩:=a
      obtain ⟨y⟩:=b
      have:x = y:=Array.toList_inj.mp e
      rw [this]
theorem lexS_cons (x y:Str) (xs ys:List Str):lexS (x :: xs) (y :: ys) = if x = y then lexS xs ys else ltStr x y:=rfl
theorem lexS_irr:∀ a:List Str,lexS a a = false
  | []=>rfl
  | x :: a=>by rw [lexS_cons,if_pos rfl]; exact lexS_irr a
def pairLt (a b:Int × List Str):Bool:=if a.1 = b.1 then lexS a.2 b.2 else decide (a.1 < b.1)
theorem eqv_strs:∀ a b:List Str,PyData.eqvAll (a.map .str) (b.map .str) = decide (a = b)
  | [],[]=>by simp [PyData.eqvAll]
  | [],_ :: _=>by simp [PyData.eqvAll]
  | _ :: _,[]=>by simp [PyData.eqvAll]
  | x :: a,y :: b=>by
    rw [List.map_cons,List.map_cons,PyData.eqvAll,eqv_strs a b]
    by_cases e:x = y
    · subst e; simp [PyData.eqv]
    · have:(x == y) = false:=by simpa using e
      simp [PyData.eqv,e]
theorem eqv_strL (a b:List Str):PyData.eqv (.list (a.map .str)) (.list (b.map .str)) = decide (a = b):=by rw [← eqv_strs]; rw [PyData.eqv]
end HT
namespace L2
open PySem PySem.Spec PyProof.Rows HT
structure Pr4 where
  t:Addr
  l:Addr
  n:Int
  o:List Str
def Pr4.key (x:Pr4):Int × List Str:=(x.n,x.o)
def PrH (h:Heap) (x:Pr4):Prop:=∃ (tok:Tok) (its:List Value),IsTup h x.t #[.int x.n tok,.ref x.l]∧h.IsList x.l its.toArray∧StrsAre its x.o
theorem PrH.keep {h h':Heap} {x:Pr4} (p:PrH h x) (k1:∀ o,h.get? x.t = some o→h'.get? x.t = some o) (k2:∀ o,h.get? x.l = some o→h'.get? x.l = some o):PrH h' x:=by
  obtain ⟨tok,its,⟨o,e,r⟩,⟨o2,e2,r2⟩,hs⟩:=p
  exact ⟨tok,its,⟨o,k1 o e,r⟩,⟨o2,k2 o2 e2,r2⟩,hs⟩
theorem strs_reads {h:Heap}:∀ {vs:List Value} {ss:List Str},StrsAre vs ss→∃ as,ReadsAll h vs (ss.map .str) as
  | _,_,.nil=>⟨_,.nil⟩
  | _,_,.cons y t hs=>by
    obtain ⟨as,h2⟩:=strs_reads (h:=h) hs
    exact ⟨_,.cons (.str y t) h2⟩
theorem PrH.lt {s:Shared} {A:Around} {x y:Pr4} (px:PrH s.heap x) (py:PrH s.heap y) (ox:∀ z∈x.o,PyData.strOk z = true) (oy:∀ z∈y.o,PyData.strOk z = true) (hu:A.units + 20 < cLine):LtAt A s (.ref x.t) (.ref y.t) (pairLt x.key y.key):=by
  obtain ⟨t1,i1,h1,l1,s1⟩:=px
  obtain ⟨t2,i2,h2,l2,s2⟩:=py
  refine lt_tup h1 h2 ?_ (by omega)
  show Lex A.in1 s [.int x.n t1,.ref x.l] [.int y.n t2,.ref y.l] _
  unfold pairLt Pr4.key
  have hi:=SeqAt.EqAt.int_int (A:=A.in1) (s:=s) x.n t1 y.n t2
  by_cases e:x.n = y.n
  · rw [if_pos e]
    rw [show (x.n == y.n) = true by simpa using e] at hi
    refine .eq hi ?_
    have lay:∀ {ss:List Str},(∀ z∈ss,PyData.strOk z = true)→PyData.canLay0 (.list (ss.map .str)) = true:=fun {ss} h=>by
      rw [PyData.canLay0]
      induction ss with
      | nil=>rw [List.map_nil,PyData.canLayAll0]
      | cons n ns ih =>
        rw [List.map_cons,PyData.canLayAll0,Bool.and_eq_true]
        exact ⟨by rw [PyData.canLay0]; exact h n List.mem_cons_self,ih fun m hm=>h m (List.mem_cons_of_mem _ hm)⟩
    have dep:∀ ss:List Str,(PyData.list (ss.map .str)).depth≤1:=fun ss=>by
      rw [PyData.depth]
      have:PyData.depthAll (ss.map .str)≤0:=depth_each fun d hd=>by
        obtain ⟨z,_,rfl⟩:=List.mem_map.mp hd
        simp [PyData.depth]
      omega
    obtain ⟨as1,r1⟩:=strs_reads (h:=s.heap) s1
    obtain ⟨as2,r2⟩:=strs_reads (h:=s.heap) s2
    obtain ⟨ob1,g1,c1,n1,d1⟩:=l1
    obtain ⟨ob2,g2,c2,n2,d2⟩:=l2
    have rd1:Reads s.heap (.ref x.l) (.list (x.o.map .str)) _:=.list g1 c1 d1 (by simpa using r1)
    have rd2:Reads s.heap (.ref y.l) (.list (y.o.map .str)) _:=.list g2 c2 d2 (by simpa using r2)
    have hl:=SeqAt.eqAt_reads _ _ A.in1 s _ _ _ _ rd1 rd2 (lay ox) (lay oy) (by have:=dep x.o; have:A.in1.units≤A.units + 8:=(by first | exact Nat.le_refl _ | (show A.units + _≤_; omega)); have:=Nat.min_le_left (PyData.list (x.o.map .str)).depth (PyData.list (y.o.map .str)).depth; omega)
    by_cases eo:x.o = y.o
    · have e1:PyData.eqv (.list (x.o.map .str)) (.list (y.o.map .str)) = true:=by rw [eqv_strL,decide_eq_true eo]
      rw [e1] at hl
      rw [eo,lexS_irr]
      exact .eq hl .nn
    · have e1:PyData.eqv (.list (x.o.map .str)) (.list (y.o.map .str)) = false:=by rw [eqv_strL,decide_eq_false eo]
      rw [e1] at hl
      refine .lt hl ?_
      exact lt_list ⟨ob1,g1,c1,n1,d1⟩ ⟨ob2,g2,c2,n2,d2⟩ (by simpa using lex_strs s1 s2) (by have:A.in1.units≤A.units + 8:=(by first | exact Nat.le_refl _ | (show A.units + _≤_; omega)); omega)
  · rw [if_neg e]
    rw [show (x.n == y.n) = false by simpa using e] at hi
    exact .lt hi (LtAt.int x.n t1 y.n t2)
section
variable {X:Cx}
end
end L2
namespace L2
open PySem PySem.Spec PyProof.Rows
section
variable {X:Cx}
end
end L2
namespace L2
open PySem PySem.Spec PyProof.Rows
section
variable {X:Cx}
def rCatN (K:PySem.W.Frag):R2:=fun x y H Q=>∃ a b xs ys,x = .ref a∧y = .ref b∧SqT K H a xs∧SqT K H b ys∧ys≠[]∧xs.length + ys.length≤sizeLine ∧
  (xs = []→Q (.ref b) H)∧(xs≠[]→∀ p,H p = none→Q (.ref p) (upd H p (.tup (xs ++ ys))))
theorem op_catN:OpR X (binaryOp .Add) (rCatN X.K):=by
  intro pins s σ H x y v u Q I rx ry h
  obtain ⟨a,b,xs,ys,rfl,rfl,ha,hb,hy,hz,q1,q2⟩:=h
  by_cases hx:xs = []
  · cases rx
    cases ry
    obtain ⟨its,r1,p1,_⟩:=I.tuple ha
    obtain ⟨its2,r2,p2,_⟩:=I.tuple hb
    obtain ⟨⟨cls,dd,data,sl⟩,ho,hc,n,hd⟩:=id p1
    obtain ⟨⟨cls2,dd2,data2,sl2⟩,ho2,hc2,n2,hd2⟩:=id p2
    simp only at hc hd hc2 hd2
    subst hc hd hc2 hd2
    have e0:its = []:=by rw [hx] at r1; cases r1; rfl
    exact concat_meets ⟨_,ho,rfl⟩ ⟨_,ho2,rfl⟩ noFill_tuple_add seq_tuple_add PySem.F.slot_tuple_add PySem.F.entry_tuple_add (PySem.F.args_tuple_add_2 _ _)
      (tuple_addW0 a b its.toArray its2.toArray n n2 dd dd2 sl sl2 (by rw [e0]; rfl)) ⟨ho,ho2,⟨.ref b,H,I,rfl,q1 hx⟩⟩
  · exact op_catT pins s σ H (.ref a) (.ref b) v u Q I rx ry ⟨a,b,xs,ys,rfl,rfl,ha,hb,hx,hz,fun e=>absurd e hy,fun _=>q2 hx⟩
end
end L2
namespace L2
open PySem PySem.Spec PyProof.Rows
section
variable {X:Cx}
end
end L2
namespace L2
open PySem PySem.Spec PyProof.Rows HT
section
variable {X:Cx}
end
end L2
namespace L2
open PySem PySem.Spec PyProof.Rows
section
variable {X:Cx}
end
end L2
namespace L2
open PySem PySem.Spec PyProof.Rows HT
section
variable {X:Cx} {tg:Expr}
end
end L2
namespace L2
open PySem PySem.Spec PyProof.Rows HT
section
variable {prog:Program} {w:World} {K:Type} [DecidableEq K] {knd:HeapKind prog w K} {a b:Addr}
end
section
variable {X:Cx}
theorem KT.keys {H:Hp}:∀ {kvs:List (List Key × V)} {xs:List (List Key × Addr × Value)},KT H kvs xs→kvs.map (·.1) = xs.map (·.1)
  | _,_,.nil=>rfl
  | _,_,.cons h t=>by rw [List.map_cons,List.map_cons,h.1,KT.keys t]
end
end L2
namespace L2
open PySem PySem.Spec PyProof.Rows
abbrev F0:Value→Shared→Prop:=fun _ _=>False
section
variable {prog:Program} {w:World} {A:Around} {R:Result→Shared→Prop} {s:Shared}
abbrev two (elt tg iter:Expr) (ifs:List Expr) (tg2 iter2:Expr) (ifs2:List Expr) (scope:Scope) (pos:Pos):Expr:=.ListComp elt [⟨tg,iter,ifs,0⟩,⟨tg2,iter2,ifs2,0⟩] scope pos
end
section
variable {X:Cx}
end
end L2
namespace L2
open PySem PySem.Spec PyProof.Rows
section
variable {X:Cx}
end
end L2
namespace L2
open PySem PySem.Spec PyProof.Rows HT
theorem eqv_strT (a b:List Str):PyData.eqv (.tuple (a.map .str)) (.tuple (b.map .str)) = decide (a = b):=by rw [← eqv_strs]; rw [PyData.eqv]
structure Pr5 where
  t:Addr
  l:Addr
  n:Int
  o:List Str
def Pr5.key (x:Pr5):Int × List Str:=(x.n,x.o)
def PrTH (h:Heap) (x:Pr5):Prop:=∃ (tok:Tok) (its:List Value),IsTup h x.t #[.int x.n tok,.ref x.l]∧IsTup h x.l its.toArray∧StrsAre its x.o
theorem PrTH.keep {h h':Heap} {x:Pr5} (p:PrTH h x) (k1:∀ o,h.get? x.t = some o→h'.get? x.t = some o) (k2:∀ o,h.get? x.l = some o→h'.get? x.l = some o):PrTH h' x:=by
  obtain ⟨tok,its,⟨o,e,r⟩,⟨o2,e2,r2⟩,hs⟩:=p
  exact ⟨tok,its,⟨o,k1 o e,r⟩,⟨o2,k2 o2 e2,r2⟩,hs⟩
theorem PrTH.lt {s:Shared} {A:Around} {x y:Pr5} (px:PrTH s.heap x) (py:PrTH s.heap y) (ox:∀ z∈x.o,PyData.strOk z = true) (oy:∀ z∈y.o,PyData.strOk z = true) (hu:A.units + 20 < cLine):LtAt A s (.ref x.t) (.ref y.t) (pairLt x.key y.key):=by
  obtain ⟨t1,i1,h1,l1,s1⟩:=px
  obtain ⟨t2,i2,h2,l2,s2⟩:=py
  refine lt_tup h1 h2 ?_ (by omega)
  show Lex A.in1 s [.int x.n t1,.ref x.l] [.int y.n t2,.ref y.l] _
  unfold pairLt Pr5.key
  have hi:=SeqAt.EqAt.int_int (A:=A.in1) (s:=s) x.n t1 y.n t2
  by_cases e:x.n = y.n
  · rw [if_pos e]
    rw [show (x.n == y.n) = true by simpa using e] at hi
    refine .eq hi ?_
    have lay:∀ {ss:List Str},(∀ z∈ss,PyData.strOk z = true)→PyData.canLay0 (.tuple (ss.map .str)) = true:=fun {ss} h=>by
      rw [PyData.canLay0]
      induction ss with
      | nil=>rw [List.map_nil,PyData.canLayAll0]
      | cons n ns ih =>
        rw [List.map_cons,PyData.canLayAll0,Bool.and_eq_true]
        exact ⟨by rw [PyData.canLay0]; exact h n List.mem_cons_self,ih fun m hm=>h m (List.mem_cons_of_mem _ hm)⟩
    have dep:∀ ss:List Str,(PyData.tuple (ss.map .str)).depth≤1:=fun ss=>by
      rw [PyData.depth]
      have:PyData.depthAll (ss.map .str)≤0:=depth_each fun d hd=>by
        obtain ⟨z,_,rfl⟩:=List.mem_map.mp hd
        simp [PyData.depth]
      omega
    obtain ⟨as1,r1⟩:=strs_reads (h:=s.heap) s1
    obtain ⟨as2,r2⟩:=strs_reads (h:=s.heap) s2
    obtain ⟨ob1,g1,c1,n1,d1⟩:=l1
    obtain ⟨ob2,g2,c2,n2,d2⟩:=l2
    have rd1:Reads s.heap (.ref x.l) (.tuple (x.o.map .str)) _:=.tuple g1 c1 d1 (by simpa using r1)
    have rd2:Reads s.heap (.ref y.l) (.tuple (y.o.map .str)) _:=.tuple g2 c2 d2 (by simpa using r2)
    have hl:=SeqAt.eqAt_reads _ _ A.in1 s _ _ _ _ rd1 rd2 (lay ox) (lay oy) (by have:=dep x.o; have:A.in1.units≤A.units + 8:=(by first | exact Nat.le_refl _ | (show A.units + _≤_; omega)); have:=Nat.min_le_left (PyData.tuple (x.o.map .str)).depth (PyData.tuple (y.o.map .str)).depth; omega)
    by_cases eo:x.o = y.o
    · have e1:PyData.eqv (.tuple (x.o.map .str)) (.tuple (y.o.map .str)) = true:=by rw [eqv_strT,decide_eq_true eo]
      rw [e1] at hl
      rw [eo,lexS_irr]
      exact .eq hl .nn
    · have e1:PyData.eqv (.tuple (x.o.map .str)) (.tuple (y.o.map .str)) = false:=by rw [eqv_strT,decide_eq_false eo]
      rw [e1] at hl
      refine .lt hl ?_
      exact lt_tup ⟨ob1,g1,c1,n1,d1⟩ ⟨ob2,g2,c2,n2,d2⟩ (by simpa using lex_strs s1 s2) (by have:A.in1.units≤A.units + 8:=(by first | exact Nat.le_refl _ | (show A.units + _≤_; omega)); omega)
  · rw [if_neg e]
    rw [show (x.n == y.n) = false by simpa using e] at hi
    exact .lt hi (LtAt.int x.n t1 y.n t2)
section
variable {X:Cx}
end
end L2
namespace L2
open PySem PySem.Spec PyProof.Rows
section
variable {X:Cx}
end
end L2
namespace L2
open PySem PySem.Spec PyProof.Rows
section
variable {X:Cx}
end
end L2
namespace L2
open PySem PySem.Spec PyProof.Rows
section
variable {prog:Program} {w:World} {A:Around} {E:Value→Shared→Prop} {R:Result→Shared→Prop} {s:Shared}
end
section
variable {X:Cx}
end
end L2
namespace L2
open PySem PySem.Spec PyProof.Rows HT
section
variable {X:Cx}
end
end L2
namespace L2
open PySem PySem.Spec PyProof.Rows
section
variable {X:Cx}
end
end L2
namespace L2
open PySem PySem.Spec PyProof.Rows HT
section
variable {prog:Program} {w:World} {A:Around} {E:Value→Shared→Prop} {s:Shared}
theorem call_minS2 {a b:Value} {Q:Value→Shared→Prop}
    (h:wpAny (model prog w) A.in1 (pyIter (.ref s.heap.objs.size)) (fun it s2=>∃ I fp wr n P St bt,it = .ref I∧Walks prog w A.in1 I fp wr n P St∧St 0 s2.heap∧(∀ b∈fp,b < s2.heap.objs.size)∧0 < n∧CmpS prog w A.in1 P St bt ∧
      ∀ v h' tk,P (argBest bt (n - 1)) v→(∀ b o,b ∉ wr→s2.heap.get? b = some o→h'.get? b = some o)→Q v { s2 with heap:=h',toks:=tk }) E { s with heap:=s.heap.push { cls:=.type "tuple",data:=.seq #[a,b] } }) :
    wpAny (model prog w) A (call (.builtin "min") [a,b]) Q E s:=by
  have nm:(toString "min" ++ toString ".loop":String) = "min.loop":=by decide
  refine call_function_tree F.kind_min F.plain_min F.entry_min (F.args_min2 _ _) ?_; show wpAny _ A.in1 (Builtin.Builtins.bindParams "min" ["key","default"] 0 ⟨[],[]⟩ >>= _) _ _ s
  refine wpAny_bind (wpAny_of_eq (show Builtin.Builtins.bindParams "min" ["key","default"] 0 ⟨[],[]⟩ = pure [none,none] from rfl) ?_)
  show wpAny _ A.in1 (newTuple [a,b] >>= _) _ _ s
  refine wpAny_bind (wpAny_newObj_type (wpAny_bind (wpAny_mono h (fun it s2 h2=>?_) fun _ _ e=>e)))
  obtain ⟨I,fp,wr,n,P,St,bt,rfl,W,st,below,pos,cmp,q⟩:=h2
  refine wpAny_bind (wpAny_newObj_type ?_); rw [nm]
  have out:s2.heap.objs.size ∉ fp:=fun hm=>Nat.lt_irrefl _ (below _ hm)
  refine wpAny_pure ⟨plainId_quiet F.plain_min_loop _,minS_first W bt cmp s2.heap.objs.size out pos (W.frame _ _ _ st fun b _ o e=>Heap.get?_push_of_some _ e) (Heap.get?_push_size _ rfl) fun v h' tk hP hk=>?_⟩
  exact q v h' tk hP fun b o hbw e=>hk b o hbw (Nat.ne_of_lt (Heap.lt_size e)) (Heap.get?_push_of_some _ e)
end
section
variable {X:Cx}
end
end L2
namespace HT
open PySem PySem.Spec PyProof.Rows L2
def CmpG (prog:Program) (w:World) (A:Around) (P:Nat→Value→Prop) (St:Nat→Heap→Prop) (bt:Nat→Nat→Bool):Prop :=
  ∀ i j vi vj k (s:Shared) (Q:Value→Shared→Prop) (E:Value→Shared→Prop),St k s.heap→P i vi→P j vj→Q (.bool (bt i j)) s→wpAny (model prog w) A (richCompare .Gt vi vj) Q E s
section
variable {prog:Program} {w:World} {A:Around} {R:Result→Shared→Prop} {I:Addr} {fp wr:List Addr} {n:Nat} {P:Nat→Value→Prop} {St:Nat→Heap→Prop}
theorem maxS_loop (W:Walks prog w A.in1 I fp wr n P St) (bt:Nat→Nat→Bool) (cmp:CmpG prog w A.in1 P St bt) (S:Addr) (out:S ∉ fp) (kw:List (Str × Value)) :
    ∀ (k j:Nat) (s:Shared) (vb:Value) (c:Nat),n - (j + 1) = k→j + 1≤n→St (j + 1) s.heap→P (argBest bt j) vb→s.heap.get? S = some { cls:=.type "list",dict:=none,data:=.seq #[vb,vb] c,slots:=#[] } →
    (∀ v h' tk,P (argBest bt (n - 1)) v→(∀ b o,b ∉ wr→b≠S→s.heap.get? b = some o→h'.get? b = some o)→R (.ok (.ret v)) { s with heap:=h',toks:=tk }) →
    codeAny (model prog w) A (.builtin "max.loop" ⟨[.ref I,.none,.ref S],kw⟩) R s:=by
  have away:S ∉ wr:=fun h=>out (W.sub _ h)
  have nm:(toString "max" ++ toString ".loop":String) = "max.loop":=by decide
  intro k
  induction k with
  | zero =>
    intro j s vb c hk hj st hb at1 q
    have en:j + 1 = n:=by omega
    refine codeAny_builtin F.entry_max_loop ?_; rw [Around.under_plainId F.plain_max_loop _]
    show wpAny _ A.in1 (seqItems? (.ref S) >>= _) _ _ s; refine wpAny_bind (wpAny_seqItems at1 rfl ?_); show wpAny _ A.in1 (tryCatch (pyNext (.ref I)) _ >>= _) _ _ s; refine wpAny_bind (wpAny_tryCatch (W.done s _ _ (en ▸ st) fun h' tk kp=>?_))
    show wpAny _ A.in1 (updateSeq S (fun _=>#[]) >>= _) _ _ _; refine wpAny_bind ?_; refine wpAny_updateSeq (kp S _ away at1) rfl (wpAny_bind (wpAny_letGo (wpAny_pure ?_)))
    exact q vb _ tk (by rw [← en]; exact hb) fun b o h1 h2 e=>(Heap.get?_update_other _ _ (Ne.symm h2)).trans (kp b o h1 e)
  | succ k ih =>
    intro j s vb c hk hj st hb at1 q
    have lt:j + 1 < n:=by omega
    refine codeAny_builtin F.entry_max_loop ?_; rw [Around.under_plainId F.plain_max_loop _]
    show wpAny _ A.in1 (seqItems? (.ref S) >>= _) _ _ s; refine wpAny_bind (wpAny_seqItems at1 rfl ?_); show wpAny _ A.in1 (tryCatch (pyNext (.ref I)) _ >>= _) _ _ s; refine wpAny_bind (wpAny_tryCatch (W.item (j + 1) s _ _ lt st fun v h' tk hP st' kp=>?_))
    have at2:=kp S _ away at1
    show wpAny _ A.in1 (tryCatch (holding [v,v] (richCompare .Gt v vb >>= _)) _ >>= _) _ _ _; refine wpAny_bind (wpAny_tryCatch (wpAny_holding (wpAny_bind (cmp (j + 1) (argBest bt j) v vb _ _ _ _ st' hP hb ?_))))
    refine wpAny_bind (wpAny_holding (wpAny_truthy_bool ?_)); refine wpAny_bind (wpAny_letGo (wpAny_pure ?_))
    cases better:bt (j + 1) (argBest bt j) with
    | true =>
      simp only [if_true]
      refine wpAny_bind ?_; refine wpAny_updateSeq at2 rfl (wpAny_bind (wpAny_letGo ?_))
      rw [nm]
      refine wpAny_pure ⟨plainId_quiet F.plain_max_loop _,ih (j + 1) _ v _ (by omega) lt (W.frame _ _ _ st' fun b hf o e=>(Heap.get?_update_other _ _ (fun h:S = b=>out (by rw [h]; exact hf))).trans e) (by simp only [argBest,better,if_true]; exact hP) (Heap.get?_update_self _ at2 rfl) fun v' h'' tk'' hP' kp'=>?_⟩
      exact q v' h'' tk'' hP' fun b o h1 h2 e=>kp' b o h1 h2 ((Heap.get?_update_other _ _ (Ne.symm h2)).trans (kp b o h1 e))
    | false =>
      simp only [Bool.false_eq_true,if_false]
      refine wpAny_bind (wpAny_letGo ?_)
      rw [nm]
      refine wpAny_pure ⟨plainId_quiet F.plain_max_loop _,ih (j + 1) _ vb c (by omega) lt st' (by simp only [argBest,better,Bool.false_eq_true,if_false]; exact hb) at2 fun v' h'' tk'' hP' kp'=>?_⟩
      exact q v' h'' tk'' hP' fun b o h1 h2 e=>kp' b o h1 h2 (kp b o h1 e)
theorem maxS_first (W:Walks prog w A.in1 I fp wr n P St) (bt:Nat→Nat→Bool) (cmp:CmpG prog w A.in1 P St bt) (S:Addr) (out:S ∉ fp) (pos:0 < n) {s:Shared} {c:Nat} (st:St 0 s.heap)
    (at1:s.heap.get? S = some { cls:=.type "list",dict:=none,data:=.seq #[] c,slots:=#[] })
    (q:∀ v h' tk,P (argBest bt (n - 1)) v→(∀ b o,b ∉ wr→b≠S→s.heap.get? b = some o→h'.get? b = some o)→R (.ok (.ret v)) { s with heap:=h',toks:=tk }) :
    codeAny (model prog w) A (.builtin "max.loop" ⟨[.ref I,.none,.ref S],[]⟩) R s:=by
  have away:S ∉ wr:=fun h=>out (W.sub _ h)
  have nm:(toString "max" ++ toString ".loop":String) = "max.loop":=by decide
  refine codeAny_builtin F.entry_max_loop ?_; rw [Around.under_plainId F.plain_max_loop _]
  show wpAny _ A.in1 (seqItems? (.ref S) >>= _) _ _ s; refine wpAny_bind (wpAny_seqItems at1 rfl ?_); show wpAny _ A.in1 (tryCatch (pyNext (.ref I)) _ >>= _) _ _ s; refine wpAny_bind (wpAny_tryCatch (W.item 0 s _ _ pos st fun v h' tk hP st' kp=>?_))
  have at2:=kp S _ away at1
  show wpAny _ A.in1 (updateSeq S (fun _=>#[v,v]) >>= _) _ _ _; refine wpAny_bind ?_; refine wpAny_updateSeq at2 rfl ?_; rw [nm]
  refine wpAny_pure ⟨plainId_quiet F.plain_max_loop _,maxS_loop W bt cmp S out _ _ 0 _ v _ rfl pos (W.frame _ _ _ st' fun b hf o e=>(Heap.get?_update_other _ _ (fun h:S = b=>out (by rw [h]; exact hf))).trans e) hP (Heap.get?_update_self _ at2 rfl) fun v' h'' tk'' hP' kp'=>?_⟩
  exact q v' h'' tk'' hP' fun b o h1 h2 e=>kp' b o h1 h2 ((Heap.get?_update_other _ _ (Ne.symm h2)).trans (kp b o h1 e))
end
end HT
namespace L2
open PySem PySem.Spec PyProof.Rows HT
section
variable {prog:Program} {w:World} {A:Around} {E:Value→Shared→Prop} {s:Shared}
theorem call_maxS2 {a b:Value} {Q:Value→Shared→Prop}
    (h:wpAny (model prog w) A.in1 (pyIter (.ref s.heap.objs.size)) (fun it s2=>∃ I fp wr n P St bt,it = .ref I∧Walks prog w A.in1 I fp wr n P St∧St 0 s2.heap∧(∀ b∈fp,b < s2.heap.objs.size)∧0 < n∧CmpG prog w A.in1 P St bt ∧
      ∀ v h' tk,P (argBest bt (n - 1)) v→(∀ b o,b ∉ wr→s2.heap.get? b = some o→h'.get? b = some o)→Q v { s2 with heap:=h',toks:=tk }) E { s with heap:=s.heap.push { cls:=.type "tuple",data:=.seq #[a,b] } }) :
    wpAny (model prog w) A (call (.builtin "max") [a,b]) Q E s:=by
  have nm:(toString "max" ++ toString ".loop":String) = "max.loop":=by decide
  refine call_function_tree F.kind_max F.plain_max F.entry_max (F.args_max2 _ _) ?_; show wpAny _ A.in1 (Builtin.Builtins.bindParams "max" ["key","default"] 0 ⟨[],[]⟩ >>= _) _ _ s
  refine wpAny_bind (wpAny_of_eq (show Builtin.Builtins.bindParams "max" ["key","default"] 0 ⟨[],[]⟩ = pure [none,none] from rfl) ?_)
  show wpAny _ A.in1 (newTuple [a,b] >>= _) _ _ s
  refine wpAny_bind (wpAny_newObj_type (wpAny_bind (wpAny_mono h (fun it s2 h2=>?_) fun _ _ e=>e)))
  obtain ⟨I,fp,wr,n,P,St,bt,rfl,W,st,below,pos,cmp,q⟩:=h2
  refine wpAny_bind (wpAny_newObj_type ?_); rw [nm]
  have out:s2.heap.objs.size ∉ fp:=fun hm=>Nat.lt_irrefl _ (below _ hm)
  refine wpAny_pure ⟨plainId_quiet F.plain_max_loop _,maxS_first W bt cmp s2.heap.objs.size out pos (W.frame _ _ _ st fun b _ o e=>Heap.get?_push_of_some _ e) (Heap.get?_push_size _ rfl) fun v h' tk hP hk=>?_⟩
  exact q v h' tk hP fun b o hbw e=>hk b o hbw (Nat.ne_of_lt (Heap.lt_size e)) (Heap.get?_push_of_some _ e)
end
section
variable {X:Cx}
theorem call_min2S (hc:X.calm = true):CallR X (.builtin "min") (fun xs H Q=>∃ x y:Str,xs = [.str x,.str y]∧Q (.str (if ltStr y x = true then y else x)) H):=by
  intro pins s σ H xs us Q I r h
  obtain ⟨x,y,rfl,q⟩:=h
  obtain ⟨u,u',rfl,⟨t,rfl⟩,⟨t',rfl⟩⟩:=vals2 r
  have hT:(s.heap.push { cls:=.type "tuple",data:=.seq #[.str x t,.str y t'] }).IsTuple s.heap.objs.size #[.str x t,.str y t']:=⟨_,Heap.get?_push_size _ rfl,rfl,0,rfl⟩
  refine call_minS2 (wpAny_pyIter_tuple hT ?_)
  have z1:(s.heap.push { cls:=.type "tuple",data:=.seq #[.str x t,.str y t'] }).objs.size = s.heap.objs.size + 1:=Heap.size_push ..
  have W:=Walks.tuple (prog:=X.prog) (w:=X.w) (A:=X.A.in1) (I.ok.hd hc) (s.heap.objs.size + 1) s.heap.objs.size (Nat.ne_of_lt (Nat.lt_succ_self _)) #[.str x t,.str y t']
  rw [z1]
  refine ⟨s.heap.objs.size + 1,_,_,2,_,_,fun i j=>ltStr ([x,y].getD i x) ([x,y].getD j x),rfl,W,⟨⟨_,by rw [← z1]; exact Heap.get?_push_size _ rfl,rfl,rfl⟩,hT.push _⟩,?_,by decide,?_,fun v h' tk hP hk=>?_⟩
  · intro b hb
    show b < ((s.heap.push _).push _).objs.size
    rw [Heap.size_push,z1]
    simp only [List.mem_cons,List.not_mem_nil,or_false] at hb
    rcases hb with e | e
    · rw [e]; exact Nat.lt_succ_self _
    · rw [e]; exact Nat.lt_succ_of_lt (Nat.lt_succ_self _)
  · intro i j vi vj k s' Q' E' st hi hj hQ
    have two:∀ (i:Nat) (v:Value),(#[Value.str x t,.str y t']:Array Value)[i]? = some v→∃ t,v = .str ([x,y].getD i x) t:=fun i v e=>by
      match i,e with
      | 0,e=>cases e; exact ⟨_,rfl⟩
      | 1,e=>cases e; exact ⟨_,rfl⟩
      | n + 2,e=>simp at e
    obtain ⟨t1,rfl⟩:=two i vi hi
    obtain ⟨t2,rfl⟩:=two j vj hj
    exact (lt_str hQ:wpAny _ _ (compareOp .Lt _ _) _ _ _)
  · have hP':(#[Value.str x t,.str y t']:Array Value)[argBest (fun i j=>ltStr ([x,y].getD i x) ([x,y].getD j x)) 1]? = some v:=hP
    refine ⟨.str (if ltStr y x = true then y else x),H,I.kept (t':=tk) fun b o e=>hk b o (fun z=>?_) (Heap.get?_push_of_some _ (Heap.get?_push_of_some _ e)),?_,q⟩
    · have:=Heap.lt_size e
      rw [List.mem_singleton.mp z] at this
      exact absurd this (Nat.not_lt.mpr (Nat.le_succ _))
    · by_cases hb:ltStr y x = true
      · have e:argBest (fun i j=>ltStr ([x,y].getD i x) ([x,y].getD j x)) 1 = 1:=by simp [argBest,hb]
        rw [e] at hP'
        rw [if_pos hb]
        cases hP'
        exact ⟨_,rfl⟩
      · have e:argBest (fun i j=>ltStr ([x,y].getD i x) ([x,y].getD j x)) 1 = 0:=by simp [argBest,hb]
        rw [e] at hP'
        rw [if_neg hb]
        cases hP'
        exact ⟨_,rfl⟩
theorem call_max2S (hc:X.calm = true):CallR X (.builtin "max") (fun xs H Q=>∃ x y:Str,xs = [.str x,.str y]∧Q (.str (if ltStr x y = true then y else x)) H):=by
  intro pins s σ H xs us Q I r h
  obtain ⟨x,y,rfl,q⟩:=h
  obtain ⟨u,u',rfl,⟨t,rfl⟩,⟨t',rfl⟩⟩:=vals2 r
  have hT:(s.heap.push { cls:=.type "tuple",data:=.seq #[.str x t,.str y t'] }).IsTuple s.heap.objs.size #[.str x t,.str y t']:=⟨_,Heap.get?_push_size _ rfl,rfl,0,rfl⟩
  refine call_maxS2 (wpAny_pyIter_tuple hT ?_)
  have z1:(s.heap.push { cls:=.type "tuple",data:=.seq #[.str x t,.str y t'] }).objs.size = s.heap.objs.size + 1:=Heap.size_push ..
  have W:=Walks.tuple (prog:=X.prog) (w:=X.w) (A:=X.A.in1) (I.ok.hd hc) (s.heap.objs.size + 1) s.heap.objs.size (Nat.ne_of_lt (Nat.lt_succ_self _)) #[.str x t,.str y t']
  rw [z1]
  refine ⟨s.heap.objs.size + 1,_,_,2,_,_,fun i j=>ltStr ([x,y].getD j x) ([x,y].getD i x),rfl,W,⟨⟨_,by rw [← z1]; exact Heap.get?_push_size _ rfl,rfl,rfl⟩,hT.push _⟩,?_,by decide,?_,fun v h' tk hP hk=>?_⟩
  · intro b hb
    show b < ((s.heap.push _).push _).objs.size
    rw [Heap.size_push,z1]
    simp only [List.mem_cons,List.not_mem_nil,or_false] at hb
    rcases hb with e | e
    · rw [e]; exact Nat.lt_succ_self _
    · rw [e]; exact Nat.lt_succ_of_lt (Nat.lt_succ_self _)
  · intro i j vi vj k s' Q' E' st hi hj hQ
    have two:∀ (i:Nat) (v:Value),(#[Value.str x t,.str y t']:Array Value)[i]? = some v→∃ t,v = .str ([x,y].getD i x) t:=fun i v e=>by
      match i,e with
      | 0,e=>cases e; exact ⟨_,rfl⟩
      | 1,e=>cases e; exact ⟨_,rfl⟩
      | n + 2,e=>simp at e
    obtain ⟨t1,rfl⟩:=two i vi hi
    obtain ⟨t2,rfl⟩:=two j vj hj
    exact (PySem.P.gt_str hQ:wpAny _ _ (compareOp .Gt _ _) _ _ _)
  · have hP':(#[Value.str x t,.str y t']:Array Value)[argBest (fun i j=>ltStr ([x,y].getD j x) ([x,y].getD i x)) 1]? = some v:=hP
    refine ⟨.str (if ltStr x y = true then y else x),H,I.kept (t':=tk) fun b o e=>hk b o (fun z=>?_) (Heap.get?_push_of_some _ (Heap.get?_push_of_some _ e)),?_,q⟩
    · have:=Heap.lt_size e
      rw [List.mem_singleton.mp z] at this
      exact absurd this (Nat.not_lt.mpr (Nat.le_succ _))
    · by_cases hb:ltStr x y = true
      · have e:argBest (fun i j=>ltStr ([x,y].getD j x) ([x,y].getD i x)) 1 = 1:=by simp [argBest,hb]
        rw [e] at hP'
        rw [if_pos hb]
        cases hP'
        exact ⟨_,rfl⟩
      · have e:argBest (fun i j=>ltStr ([x,y].getD j x) ([x,y].getD i x)) 1 = 0:=by simp [argBest,hb]
        rw [e] at hP'
        rw [if_neg hb]
        cases hP'
        exact ⟨_,rfl⟩
end
end L2
namespace L2
open PySem PySem.Spec PyProof.Rows HT
section
variable {X:Cx} {pins:List (Addr × Obj)} {σ:St} {H:Hp} {s:Shared}
end
end L2
namespace L2
open PySem PySem.Spec PyProof.Rows PySem.W
def Trc (h B:Heap) (e:Addr) (cls fl:Value):Prop :=
  ∃ oe vs T oT ts,h.get? e = some oe∧oe.cls = cls∧oe.dict = none∧oe.data = .fields vs∧vs[1]? = some (.ref T)∧vs[2]? = some .none∧B.get? T = none∧T≠e∧h.get? T = some oT∧oT.data = .fields ts∧ts[3]? = some fl
structure FlyC (B:Heap) (l:List Env) (e:Addr) (cls fl:Value) (h:Heap):Prop where
  st:B.StaysIn h
  no:B.get? e = none
  fr:h.FunFrames B l
  tr:Trc h B e cls fl
section
variable {M:Model} {A:Around} {E:Value→Shared→Prop} {s:Shared} {B:Heap} {env:Env} {outer:List Env} {L e:Addr} {cls fl:Value} {Q:Unit→Shared→Prop}
theorem entry_c {oe:Obj} {vs:Array Value} {head:Value} {had:Bool} (hfr:A.frames = some (env :: outer)) (hl:s.heap.FunFrames B (env :: outer)) (hf:env.frame = some L) (he:s.heap.get? e = some oe) (hkb:B.StaysIn s.heap) (hen:B.get? e = none) (hno:oe.dict = none) (hd:oe.data = .fields vs) (h2:vs[2]? = some .none)
    (q:∀ h',FlyC B (env :: outer) e oe.cls (rawInt L) h'→s.heap.UpToSlots h'→Q () { s with heap:=h' }) :
    wpAny M A (do let a ← frameOf env; let pl ← entryPlaceOf L had; let b ← EntryCells.newEntry head a .none (rawInt L) .none pl; setField (.ref e) 1 b) Q E s:=by
  have sz:2 < vs.size:=(Array.getElem?_eq_some_iff.mp h2).1
  have notFr:e ∉ (env :: outer).filterMap (·.frame):=by
    intro z
    obtain ⟨_,u,hu,nf⟩:=hl.mem z
    rw [he] at hu
    cases hu
    exact nf vs hd
  refine wpAny_bind (wpAny_frameOf_fun hfr hl hf fun g so=>wpAny_bind (wpAny_entryPlaceOf fun pl isp=>?_))
  unfold EntryCells.newEntry newFields
  refine wpAny_bind (wpAny_newObj_type ?_ (isp.sizeOk5 _ _ _ _ _))
  generalize hTB:({ cls:=.type "traceback",dict:=none,data:=.fields ([head,.ref L,.none,rawInt L,.none] ++ (if pl.isEmpty then List.replicate 6 Value.none else pl)).toArray }:Obj) = tb
  have dTB:tb.data = .fields ([head,.ref L,.none,rawInt L,.none] ++ (if pl.isEmpty then List.replicate 6 Value.none else pl)).toArray:=by rw [← hTB]
  have fTB:tb.isFreed = false:=Obj.isFreed_of_fields dTB
  have ge:g.get? e = some oe:=by rw [so.2.1 e notFr]; exact he
  have pe:(g.push tb).get? e = some oe:=Heap.get?_push_of_some tb ge
  have tne:g.objs.size≠e:=fun z=>by
    have:=Heap.lt_size ge
    rw [← z] at this
    exact Nat.lt_irrefl _ this
  refine wpAny_setField pe hd (by omega) (q _ ?_ ?_)
  · have d1:=Obj.data_mapFields hd (·.setIfInBounds 1 (Value.ref g.objs.size))
    have gB:B.StaysIn g:=fun b o hb=>by
      rw [so.2.1 b fun z=>by rw [(hl.mem z).1] at hb; cases hb]
      exact hkb b o hb
    have keep:∀ b o,b≠e→g.get? b = some o→((g.push tb).update e (Obj.mapFields (·.setIfInBounds 1 (Value.ref g.objs.size)))).get? b = some o:=fun b o ne hb=>by
      rw [Heap.get?_update_other _ _ (Ne.symm ne)]
      exact Heap.get?_push_of_some tb hb
    refine ⟨fun b o hb=>keep b o (fun z=>by rw [z,hen] at hb; cases hb) (gB b o hb),hen,hl.of_keeps fun b o hb nf=>?_,_,_,g.objs.size,tb,_,Heap.get?_update_self _ pe (Obj.isFreed_of_fields d1),Obj.cls_mapFields _ _,?_,d1,?_,?_,gB.fresh,tne,?_,dTB,?_⟩
    rotate_left
    · rw [← hno]; obtain ⟨_,_,dt,_⟩:=oe; cases dt <;> rfl
    rotate_right
    · obtain ⟨sl,hs⟩:=so.2.2 b o hb
      exact ⟨_,keep b _ (fun z=>by rw [z,he] at hb; cases hb; exact nf vs hd) hs,rfl⟩
    · rw [Array.getElem?_setIfInBounds_self]
      simp only [show 1 < vs.size by omega,if_true]
    · rw [Array.getElem?_setIfInBounds_ne (by decide)]; exact h2
    · rw [Heap.get?_update_other _ _ (Ne.symm tne)]; exact Heap.get?_push_size g fTB
    · first | (simp; done) | (rcases isp with rfl | ⟨_,_,_,_,_,_,_,rfl⟩ <;> simp)
  · intro b o hb nf
    obtain ⟨sl,hs⟩:=so.2.2 b o hb
    refine ⟨sl,?_⟩
    have ne:b≠e:=fun z=>by rw [z,he] at hb; cases hb; exact nf vs hd
    rw [Heap.get?_update_other _ _ (Ne.symm ne)]
    exact Heap.get?_push_of_some tb hs
theorem look_made {h0:Heap} {args:List Value} (hfr:A.frames = some (env :: outer)) (hf:env.frame = some L) (hkb:B.StaysIn h0) (hl:h0.FunFrames B (env :: outer)) (mk:Heap.MadeExcOf h0 s.heap e cls args)
    (q:∀ h',FlyC B (env :: outer) e cls (rawInt L) h'→s.heap.UpToSlots h'→Q () { s with heap:=h' }):wpAny M A (noteFrame (.ref e) env) Q E s:=by
  obtain ⟨t,he,_,_⟩:=mk.there
  have hen:B.get? e = none:=fresh_of_stays hkb mk.new
  unfold noteFrame
  simp only [hf]
  refine wpAny_bind (wpAny_field (x:=Value.none) he rfl rfl ?_)
  rw [if_neg (by decide)]
  exact entry_c (oe:={ cls:=cls,data:=.fields #[.ref t,.none,.none,.none,.bool false,.none] }) hfr (hl.of_keeps fun b o hb _=>⟨o,mk.keeps b o hb,rfl⟩) hf he (fun b o hb=>mk.keeps b o (hkb b o hb)) hen rfl rfl rfl q
theorem look_on (hfr:A.frames = some (env :: outer)) (hf:env.frame = some L) (F:FlyC B (env :: outer) e cls .none s.heap)
    (q:∀ h',FlyC B (env :: outer) e cls (rawInt L) h'→s.heap.UpToSlots h'→Q () { s with heap:=h' }):wpAny M A (noteFrame (.ref e) env) Q E s:=by
  obtain ⟨st,no,fr,oe,vs,T,oT,ts,he,hc,hno,hd,v1,v2,tB,tne,hT,hdT,t3⟩:=F
  subst hc
  unfold noteFrame
  simp only [hf]
  refine wpAny_bind (wpAny_field he hd v1 ?_)
  rw [if_pos (by simp)]
  refine wpAny_bind (wpAny_field hT hdT t3 ?_)
  rw [if_neg (by simp [rawInt])]
  refine wpAny_bind (wpAny_setField hT hdT (Array.getElem?_eq_some_iff.mp t3).1 ?_)
  generalize hg:s.heap.update T (Obj.mapFields (·.setIfInBounds 3 Value.none)) = g
  have els:∀ b,b≠T→g.get? b = s.heap.get? b:=fun b nb=>by rw [← hg]; exact Heap.get?_update_other _ _ (Ne.symm nb)
  have rec':∀ b o,s.heap.get? b = some o→(∀ ws,o.data≠.fields ws)→b≠T:=fun b o hb nf z=>by
    rw [z,hT] at hb
    cases hb
    exact nf ts hdT
  have ups:s.heap.UpToSlots g:=fun b o hb nf=>⟨o.slots,by rw [els b (rec' b o hb nf)]; exact hb⟩
  refine entry_c (s:={ s with heap:=g }) hfr (fr.of_keeps fun b o hb nf=>⟨o,by rw [els b (rec' b o hb nf)]; exact hb,rfl⟩) hf (by rw [els e tne.symm]; exact he) (fun b o hb=>?_) no hno hd v2 fun h' F' u=>q h' F' (ups.trans u)
  rw [els b fun z=>by rw [z,tB] at hb; cases hb]
  exact st b o hb
theorem land_c {l:List Env} (F:FlyC B l e cls fl s.heap) (q:∀ h',FlyC B l e cls .none h'→s.heap.UpToSlots h'→Q () { s with heap:=h' }):wpAny M A (setFlight (.ref e) none) Q E s:=by
  obtain ⟨st,no,fr,oe,vs,T,oT,ts,he,hc,hno,hd,v1,v2,tB,tne,hT,hdT,t3⟩:=F
  have s3:3 < ts.size:=(Array.getElem?_eq_some_iff.mp t3).1
  unfold setFlight
  refine wpAny_bind (wpAny_field he hd v1 ?_)
  rw [if_pos (by simp)]
  refine wpAny_setField hT hdT s3 ?_
  generalize hg:s.heap.update T (Obj.mapFields (·.setIfInBounds 3 ((none:Option Addr).elim Value.none fun f=>rawInt f))) = g
  have els:∀ b,b≠T→g.get? b = s.heap.get? b:=fun b nb=>by rw [← hg]; exact Heap.get?_update_other _ _ (Ne.symm nb)
  have rec':∀ b o,s.heap.get? b = some o→(∀ ws,o.data≠.fields ws)→b≠T:=fun b o hb nf z=>by
    rw [z,hT] at hb
    cases hb
    exact nf ts hdT
  have d3:=Obj.data_mapFields hdT (·.setIfInBounds 3 ((none:Option Addr).elim Value.none fun f=>rawInt f))
  refine q g ⟨fun b o hb=>?_,no,fr.of_keeps fun b o hb nf=>⟨o,by rw [els b (rec' b o hb nf)]; exact hb,rfl⟩,oe,vs,T,_,_,by rw [els e tne.symm]; exact he,hc,hno,hd,v1,v2,tB,tne,by rw [← hg]; exact Heap.get?_update_self _ hT (Obj.isFreed_of_fields d3),d3,?_⟩ (fun b o hb nf=>⟨o.slots,by rw [els b (rec' b o hb nf)]; exact hb⟩)
  · rw [els b fun z=>by rw [z,tB] at hb; cases hb]
    exact st b o hb
  · simp [s3]
theorem leave_on (hfr:A.frames = some (env :: outer)) (hf:env.frame = some L) (F:FlyC B (env :: outer) e cls .none s.heap)
    (q:∀ h',FlyC B outer e cls .none h'→s.heap.UpToSlots h'→Q () { s with heap:=h' }):wpAny M A (leaving env (.ref e)) Q E s:=by
  unfold leaving
  refine wpAny_bind (look_on hfr hf F fun g G u=>land_c (s:={ s with heap:=g }) G fun h' G' u'=>q h' ⟨G'.st,G'.no,G'.fr.2.2,G'.tr⟩ (u.trans u'))
theorem leave_made {h0:Heap} {args:List Value} (hfr:A.frames = some (env :: outer)) (hf:env.frame = some L) (hkb:B.StaysIn h0) (hl:h0.FunFrames B (env :: outer)) (mk:Heap.MadeExcOf h0 s.heap e cls args)
    (q:∀ h',FlyC B outer e cls .none h'→s.heap.UpToSlots h'→Q () { s with heap:=h' }):wpAny M A (leaving env (.ref e)) Q E s:=by
  unfold leaving
  refine wpAny_bind (look_made hfr hf hkb hl mk fun g G u=>land_c (s:={ s with heap:=g }) G fun h' G' u'=>q h' ⟨G'.st,G'.no,G'.fr.2.2,G'.tr⟩ (u.trans u'))
end
end L2
namespace L2
open PySem PySem.Spec PyProof.Rows PySem.W
def Fly (l:List Env) (H:Hp) (a:Addr) (cls:Value) (h hs:Heap) (Hs:Hp):Prop :=
  ∃ B:Heap,FlyC B l a cls .none h∧(∀ b u,H b = some u→∃ o,B.get? b = some o) ∧
    (∀ b o,hs.get? b = some o→Hs b = none→b ∉ frs l→B.get? b = some o)∧∀ b o,hs.get? b = some o→b ∉ frs l→∃ o',B.get? b = some o'
theorem objOk_there {P:Program} {w:World} {H:Hp} {h:Heap} {a:Addr} {o:HO} (x:ObjOk P w H h a o):∃ u,h.get? a = some u:=by
  induction o with
  | lst xs=>obtain ⟨_,its,n,_,e⟩:=x; exact ⟨_,e⟩
  | tup xs=>obtain ⟨_,its,_,ob,e,_⟩:=x; exact ⟨_,e⟩
  | dK kvs=>obtain ⟨_,_,vs,_,ob,es,ep,e,_⟩:=x; exact ⟨_,e⟩
  | dT kvs=>obtain ⟨_,_,xs,_,ob,es,ep,e,_⟩:=x; exact ⟨_,e⟩
  | set S n=>obtain ⟨ob,es,ep,t,e,_⟩:=x; exact ⟨_,e⟩
  | ins C dx fs=>obtain ⟨_,_,_,e,_⟩:=x; exact ⟨_,e⟩
  | own y=>exact x
  | xd fs=>obtain ⟨mA,⟨od,es,ep,e,_⟩,_⟩:=x; exact ⟨_,e⟩
  | rng lo hi=>obtain ⟨t,u,v,e⟩:=x; exact ⟨_,e⟩
  | frz ob u ih=>exact ⟨_,x.1⟩
  | tbl ps=>exact ⟨_,(show h.get? a = some _ from x)⟩
  | met f y=>exact ⟨_,(show h.get? a = some _ from x)⟩
  | ext φ=>exact x.2.1
def CXE (P:Program) (w:World):CXT:=fun outer H s E e s'=>∃ a cls H',e = .ref a∧s'.os = s.os∧AllBare s'.gens∧Un (frs outer) [] H H' s.heap s'.heap∧HOk P w H' s'.heap∧E cls none H'∧Fly outer H' a cls s'.heap s.heap H
section
variable {X:Cx} {pins:List (Addr × Obj)} {σ:St} {H:Hp} {s:Shared}
theorem Inv.flown {B h':Heap} (I:Inv X pins σ H s) (kB:B.StaysIn s.heap) (kB':B.StaysIn h') (ups:s.heap.UpToSlots h') (trk:∀ b u,H b = some u→∃ o,B.get? b = some o)
    (hp:∀ p∈X.pn ++ pins,B.get? p.1 = some p.2) (o1:∀ b o,X.s₀.heap.get? b = some o→X.H₀ b = none→b ∉ X.fs→b ∉ X.ex→B.get? b = some o) (o2:∀ b o,X.s₀.heap.get? b = some o→b ∉ X.fs→b ∉ X.ex→∃ o',B.get? b = some o') :
    Inv X pins σ H { s with heap:=h' }:=by
  have fr:∀ b,b∈X.fs→∃ o,s.heap.get? b = some o∧∃ sl,h'.get? b = some { o with slots:=sl }:=fun b hb=>by
    obtain ⟨_,o,ho,hnf⟩:=I.funs.mem hb
    exact ⟨o,ho,ups b o ho hnf⟩
  refine ⟨I.ok,I.os,I.bare,⟨fun b o q n hb hx=>kB' b o (o1 b o q n hb hx),fun b o q n hb hx=>?_,I.base.free,fun b o q hx=>?_,I.base.tups,I.base.frzs,I.base.tbls⟩,?_,fun x c e=>?_,I.free,I.freeC,fun p hq=>?_,fun a o e=>?_,I.len⟩
  · obtain ⟨sl,e1⟩:=I.base.slot b o q n hb hx
    obtain ⟨o',e2,sl2,e3⟩:=fr b hb
    rw [e1] at e2; cases e2
    exact ⟨sl2,e3⟩
  · by_cases hb:b∈X.fs
    · obtain ⟨o',_,sl,e⟩:=fr b hb
      exact ⟨_,e⟩
    · obtain ⟨o',e⟩:=o2 b o q hb hx
      exact ⟨o',kB' _ _ e⟩
  · obtain ⟨m,hn,hl⟩:=I.loc
    refine ⟨m,ups.ns hn,fun i x v e1 e2 e3=>?_⟩
    obtain ⟨u,r,lk⟩:=hl i x v e1 e2 e3
    refine ⟨u,r,?_⟩
    rcases lk with lk | ⟨lk,c,ec,oc,hc,hd⟩
    · exact .inl lk
    · obtain ⟨sl,es⟩:=ups c oc hc fun vs z=>by rw [hd] at z; cases z
      exact .inr ⟨lk,c,ec,_,es,hd⟩
  · obtain ⟨v,oc,hc,hd⟩:=I.cell x c e
    obtain ⟨sl,es⟩:=ups c oc hc fun vs z=>by rw [hd] at z; cases z
    exact ⟨v,_,es,hd⟩
  · obtain ⟨_,p2⟩:=I.pin p hq
    exact ⟨kB' _ _ (hp p hq),p2⟩
  · refine (I.hok a o e).stay (fun b u hb eu=>?_) (fun _ z=>z) (fun _ _ z=>z)
    have ht:∃ u',H b = some u':=by
      rcases hb with rfl | hb
      · exact ⟨_,e⟩
      · exact ⟨_,hb⟩
    obtain ⟨u',ht⟩:=ht
    obtain ⟨o',ho'⟩:=trk b u' ht
    have:=kB _ _ ho'
    rw [eu] at this; cases this
    exact kB' _ _ ho'
structure FlyIn (X:Cx) (pins:List (Addr × Obj)) (H:Hp) (a:Addr) (cls:Value) (h:Heap):Prop where
  ex:∃ B:Heap,FlyC B X.stack a cls .none h∧(∀ b u,H b = some u→∃ o,B.get? b = some o)∧(∀ p∈X.pn ++ pins,B.get? p.1 = some p.2) ∧
    (∀ b o,X.s₀.heap.get? b = some o→X.H₀ b = none→b ∉ X.fs→b ∉ X.ex→B.get? b = some o)∧∀ b o,X.s₀.heap.get? b = some o→b ∉ X.fs→b ∉ X.ex→∃ o',B.get? b = some o'
theorem Inv.nostk (I:Inv X pins σ H s) {b:Addr} {o:Obj} (q:X.s₀.heap.get? b = some o) (hb:b ∉ X.fs):b ∉ frs X.stack:=fun z=>by
  rcases List.mem_cons.mp (I.stkSub b z) with e | e
  · have h1:=Heap.lt_size q
    rw [e] at h1
    exact absurd h1 (Nat.not_lt.mpr I.ok.above)
  · exact hb e
theorem Inv.flyin {H':Hp} {a:Addr} {cls:Value} {s':Shared} (I:Inv X pins σ H s) (F:Fly X.stack H' a cls s'.heap s.heap H):FlyIn X pins H' a cls s'.heap:=by
  obtain ⟨B,hfl,trk,o1,o2⟩:=F
  refine ⟨B,hfl,trk,fun p hp=>?_,fun b o q n hb hx=>?_,fun b o q hb hx=>?_⟩
  · obtain ⟨p1,p2,p3,p4,_⟩:=I.pin p hp
    exact o1 _ _ p1 p2 fun z=>(List.mem_cons.mp (I.stkSub _ z)).elim p3 p4
  · exact o1 b o (I.base.keep b o q n hb hx) (I.base.free b o q n hx) (I.nostk q hb)
  · obtain ⟨o',e⟩:=I.base.there b o q hx
    exact o2 b o' e (I.nostk q hb)
end
def Lets (X:Cx) (W:Value→St→Hp→Prop):Prop :=
  ∀ (pins:List (Addr × Obj)) (σ:St) (H:Hp) (s:Shared) (e:Value) (s':Shared),Inv X pins σ H s→CXE X.prog X.w X.stack H s (fun cls _ H'=>W cls σ H') e s'→X.xe e s'
def Makes (X:Cx) (W:Value→St→Hp→Prop):Prop :=
  ∀ (pins:List (Addr × Obj)) (σ:St) (H:Hp) (s:Shared) (h':Heap) (e:Addr) (cls:Value) (vs:List Value),Inv X pins σ H s→Heap.MadeExcOf s.heap h' e cls vs→W cls σ H→X.xe (.ref e) { s with heap:=h' }
section
variable {P:Program} {w:World} {K:PySem.W.Frag} {mg:Str→Option Value} {base:Heap} {N:List Str} {qual:Str} {scope:Scope} {f:Addr} {cd:Value} {A:Around} {outer:List Env} {s:Shared} {H:Hp} {E:XK}
theorem lets0:Lets (cxOf (CXE P w) P w K mg base N qual scope f cd A outer s H E) (fun cls _ H'=>E cls none H'):=by
  rintro pins σ H1 s1 e s' I ⟨a,cls,H',rfl,os,bare,un,hok,q,F⟩
  have J:=I.call' os un hok bare (fun b z=>absurd z (by simp))
  obtain ⟨B,hfl,trk,hp,o1,o2⟩:=(I.flyin F).ex
  show wpAny _ _ (leaving _ (.ref a)) _ _ s'
  refine leave_on I.ok.frames rfl hfl fun h' x1 x2=>?_
  have J':=J.flown hfl.st x1.st x2 trk hp o1 o2
  exact ⟨a,cls,H',rfl,J'.os,J'.bare,J'.base,J'.hok,q,B,x1,trk,fun b o q n hb=>o1 b o q n hb (by intro z; cases z),fun b o q hb=>o2 b o q hb (by intro z; cases z)⟩
theorem makes0:Makes (cxOf (CXE P w) P w K mg base N qual scope f cd A outer s H E) (fun cls _ H'=>E cls none H'):=by
  intro pins σ H1 s1 h1 e cls vs I hx q
  have hin:∀ env∈(cxOf (CXE P w) P w K mg base N qual scope f cd A outer s H E).stack,∀ a,env.frame = some a→a∈frs (cxOf (CXE P w) P w K mg base N qual scope f cd A outer s H E).stack:=fun env he a hf=>List.mem_filterMap.mpr ⟨env,he,hf⟩
  show wpAny _ _ (leaving _ (.ref e)) _ _ _
  refine leave_made (B:=hideAll s1.heap (frs (cxOf (CXE P w) P w K mg base N qual scope f cd A outer s H E).stack)) (h0:=s1.heap) I.ok.frames rfl (fun b o q=>of_hideAll _ q) (funFrames_hide I.stack hin) hx fun h' x1 x4=>?_
  have kB:(hideAll s1.heap (frs (cxOf (CXE P w) P w K mg base N qual scope f cd A outer s H E).stack)).StaysIn h1:=fun b o q=>hx.keeps _ _ (of_hideAll _ q)
  have I1:Inv _ pins σ H1 { s1 with heap:=h1 }:=I.kept (t':=s1.toks) fun b o e=>hx.keeps b o e
  have trk:∀ b u,H1 b = some u→∃ o,(hideAll s1.heap (frs (cxOf (CXE P w) P w K mg base N qual scope f cd A outer s H E).stack)).get? b = some o:=fun b u e=>by
    have hb:=(I.hok b u e).lt
    cases g:s1.heap.get? b with
    | none=>exact absurd g (by obtain ⟨o,ho⟩:=objOk_there (I.hok b u e); rw [ho]; simp)
    | some o=>exact ⟨o,hideAll_get _ g fun z=>by rw [I.stkFree b z] at e; cases e⟩
  have hp:∀ p∈[] ++ pins,(hideAll s1.heap (frs (cxOf (CXE P w) P w K mg base N qual scope f cd A outer s H E).stack)).get? p.1 = some p.2:=fun p hq=>by
    obtain ⟨p1,p2,p3,p4,_⟩:=I.pin p hq
    exact hideAll_get _ p1 fun z=>(List.mem_cons.mp (I.stkSub _ z)).elim p3 p4
  have o1:∀ b o,s.heap.get? b = some o→H b = none→b ∉ frs outer→b ∉ ([]:List Addr)→(hideAll s1.heap (frs (cxOf (CXE P w) P w K mg base N qual scope f cd A outer s H E).stack)).get? b = some o:=fun b o q n hb hx=>hideAll_get _ (I.base.keep b o q n hb hx) (I.nostk q hb)
  have o2:∀ b o,s.heap.get? b = some o→b ∉ frs outer→b ∉ ([]:List Addr)→∃ o',(hideAll s1.heap (frs (cxOf (CXE P w) P w K mg base N qual scope f cd A outer s H E).stack)).get? b = some o':=fun b o q hb hx=>by
    obtain ⟨o',e⟩:=I.base.there b o q hx
    exact ⟨o',hideAll_get _ e (I.nostk q hb)⟩
  have J':=I1.flown kB x1.st x4 trk hp o1 o2
  exact ⟨e,cls,H1,rfl,J'.os,J'.bare,J'.base,J'.hok,q,_,x1,trk,fun b o q n hb=>o1 b o q n hb (by intro z; cases z),fun b o q hb=>o2 b o q hb (by intro z; cases z)⟩
end
end L2
namespace L2
open PySem PySem.Spec PyProof.Rows PySem.W
abbrev vErr:List Value:=[.type "ValueError",.type "Exception",.type "BaseException",.type "object"]
structure ExcC (K:Frag) (mg:Str→Option Value) (x:Str) (C:Addr):Prop where
  at':mg x = some (.ref C)
  is:excIn K C vErr "ValueError.__new__" = true
theorem ExcC.own {K:Frag} {mg:Str→Option Value} {x:Str} {C:Addr} {h:Heap} (O:ExcC K mg x C) (kin:K.In h):OwnCls x C vErr "ValueError.__new__" mg h:=by
  have q:=O.is
  refine ⟨O.at',?_⟩
  unfold excIn at q
  split at q
  case h_2=>exact absurd q (by decide)
  case h_1 d0 c0 s0 look =>
    split at q
    case h_2=>exact absurd q (by decide)
    case h_1 C1 tl a0 a1 a2 a3 nw a5 em es =>
      rcases c0 with ⟨c1,c2,c3,c4,c5,c6,c7,c8,c9,c10,c11⟩
      rcases s0 with ⟨sl⟩
      simp only [Bool.and_eq_true,beq_iff_eq,Bool.not_eq_true'] at q
      obtain ⟨⟨⟨⟨⟨g1,g2⟩,g3⟩,g4⟩,g5⟩,g6⟩:=q
      dsimp only at em es g3 g5 g6
      subst g1 g2 g3 em es
      exact ⟨tl,c4,c1,c5,c2,c6,c7,c8,c9,c10,d0,a0,a1,a2,a3,a5,h.nsMap c4,kin _ _ look,.of_isNs (isNs_of_in kin g5),nsMap_none_of_in kin g5 g6,tail_of_in kin g4⟩
section
variable {X:Cx} {W:Value→St→Hp→Prop}
def tRaise (W:Value→St→Hp→Prop) (cls:Value) (t:TA):TS:=fun _ σ H=>t σ H fun vs H1=>vs.length≤sizeLine∧W cls σ H1
theorem ps_raise {x:Str} {C:Addr} {e:Expr} {es:List Expr} {t:TA} {np cpos pos:Pos} (hM:Makes X W) (hc:X.calm = true) (O:ExcC X.K X.mg x C) (hg:Gl X x) (ha:PA X (e :: es) t) (hdb:(x == ("__debug__":Str)) = false:=by decide)
    (he:starEach (e :: es) X.env = (false,eval e X.env) :: starEach es X.env:=by rfl) (hpl:(backTo cpos (starEach es X.env)).any (·.1) = false:=by rfl) :
    PS X (.Raise (some (.Call (.Name x np) (e :: es) [] cpos)) none pos) (tRaise W (.ref C) t):=by
  intro pins s σ H D I h
  have OB:=O.own I.ok.mod.kin
  obtain ⟨tl,N,nm,q,bs,hdct,sn,sub,ab,col,dd,k0,k1,k2,k3,k5,mN,hC,hN,hni,T⟩:=OB.obj
  refine wpAny_Raise_call_subT (C:=C) (nm:=nm) (q:=q) (N:=N) (bs:=bs) (bm:=tl) (hdct:=hdct) (sn:=sn) (sub:=sub) (ab:=ab) (col:=col) (dd:=dd) (k0:=k0) (k1:=k1) (k2:=k2) (k3:=k3) (k5:=k5)
    PySem.F.excBase_ValueError (mN:=mN) (T.hasType PySem.F.excBase_ValueError.hasBase) (I.ok.hd hc) (by rw [he]; show (false || (backTo cpos (starEach es X.env)).any (·.1)) = false; rw [hpl]; rfl) hni (ld_glob I hg O.at' ⟨rfl,?_⟩ hdb)
  have h2:=ha cpos pins s σ H _ I h
  rw [he] at h2 ⊢
  refine Calls.evalArgs_plain (wpAny_mono h2 (fun vs s₂ ⟨xs,H1,I1,r,z,q⟩=>⟨rfl,by rw [← r.length]; exact z,I1.bk _ _ hC,hN.keeps I1.bk,T.keeps I1.bk,fun h' e' mk=>?_⟩) fun _ _ y=>y)
  exact hM pins σ H1 s₂ h' e' (.ref C) vs I1 mk q
theorem run_fnX {CX:CXT} {k:Nat} {f:Addr} {fd:FuncData} {ps:List Str} {sp:Sp} {ds:List Value} {dvs:List V} {pins:List (Addr × Obj)} {σ:St} {H:Hp} {s:Shared} {Q:VK} {us:List Value} {vs:List V} (F:FnOk X.prog X.w X.K X.mg X.base (CXE X.prog X.w) k f fd ps sp) (hr:Room k X.A) (hb:Binds X.K fd ps ds) (hd:Vals dvs ds) (hL:Lets X W)
    (I:Inv X pins σ H s) (r:Vals vs us) (h:sp (vs ++ dvs) H Q (fun cls _ H'=>W cls σ H')):wpAny (model X.prog X.w) X.A (call (.ref f) us) (EP X pins σ Q) X.xe s:=by
  have r2:Vals (vs ++ dvs) (us ++ ds):=r.append hd
  have hl:(us ++ ds).length = ps.length:=by rw [← r2.length]; exact F.len _ _ _ _ h
  refine wpAny_call (codeAny_mono (F.run X.A X.stack s H ⟨us,[]⟩ (us ++ ds) (vs ++ dvs) Q _ hr I.env0 (hb s us I.kIn hl) r2 h) fun r s' hq=>?_)
  cases r with
  | error e=>exact hL pins σ H s e s' I hq
  | ok fl =>
    cases fl with
    | ret u=>exact I.after hq
    | next=>exact False.elim hq
    | brk=>exact False.elim hq
    | cont=>exact False.elim hq
def tCallX (sp:Sp) (dvs:List V) (W:Value→St→Hp→Prop) (t:TA):TE:=fun σ H Q=>t σ H fun vs H1=>sp (vs ++ dvs) H1 Q fun cls _ H'=>W cls σ H'
theorem pe_callX {k:Nat} {f:Addr} {fd:FuncData} {x:Str} {ps:List Str} {sp:Sp} {ds:List Value} {dvs:List V} {e:Expr} {es:List Expr} {t:TA} {p pos:Pos} (F:FnOk X.prog X.w X.K X.mg X.base (CXE X.prog X.w) k f fd ps sp) (hr:Room k X.A) (hg:Gl X x) (hm:X.mg x = some (.ref f)) (hk:PySem.W.keepIn X.K (.ref f) = true) (hb:Binds X.K fd ps ds) (hd:Vals dvs ds) (hL:Lets X W)
    (ha:PA X (e :: es) t) (hdb:(x == ("__debug__":Str)) = false:=by decide) (he:starEach (e :: es) X.env = (false,eval e X.env) :: starEach es X.env:=by rfl) (hpl:(backTo pos (starEach es X.env)).any (·.1) = false:=by rfl) :
    PE X (.Call (.Name x p) (e :: es) [] pos) (tCallX sp dvs W t):=by
  intro pins s σ H Q I h
  refine wpAny_Call_Name_kw (ld_glob I hg hm ?_ hdb)
  refine PySem.W.callWith_K (h₀:=X.base) I.ok.mod.kin hk (thn (ha pos pins s σ H _ I h) fun us s1 ⟨vs,H1,I1,r,q⟩=>⟨I1.kIn,?_⟩) he hpl
  exact run_fnX (CX:=CX0) F hr hb hd hL I1 r q
theorem PS.nox {st:Stmt} {t:TS} (h:PS X.nox st t):PS X st t:=fun pins s σ H D I hw =>
  wpAny_mono (h pins s σ H D (I.wish _) hw) (fun _ _ q=>q.unwish) fun _ _ z=>False.elim z
end
theorem Fun.okX {P:Program} {w:World} {K:PySem.W.Frag} {mg:Str→Option Value} {base:Heap} {x qual:Str} {st:Stmt} {f:Addr} {fd:FuncData} {N ps:List Str} {k:Nat} {sp:Sp} (F:Fun K x qual st f fd) (S:FnScope N ps (defScope st)) (len:∀ vs H Q E,sp vs H Q E→vs.length = ps.length)
    (hbody:∀ (cdv:Value) (A:Around) (outer:List Env) (s:Shared) (H:Hp) (vs:List V) (Q:VK) (E:XK),Room k (A.deeper (envOfC qual (defScope st) s.heap.objs.size f cdv))→sp vs H Q E →
      ∃ t,PSs (cxOf (CXE P w) P w K mg base N qual (defScope st) f cdv A outer s H E) (defBody st) t∧t { nx:=fun _ H'=>Q .non H',rt:=Q } (start N vs) H):FnOk P w K mg base (CXE P w) (k + 1) f fd ps sp:=by
  obtain ⟨oc,od,kV,doc,pm,an,cdv,ct,osl,rfl,lk,hcd⟩:=F.ex
  exact fn_of lk hcd S len fun A outer s H vs Q E hr hsp=>hbody cdv A outer s H vs Q E hr hsp
end L2
namespace L2
open PySem PySem.Spec PyProof.Rows PySem.W
abbrev Cx.tryC (X:Cx) (pins:List (Addr × Obj)) (W:Value→St→Hp→Prop):Cx :=
  { X with pn:=X.pn ++ pins,xe:=fun e s'=>∃ a cls σ H',e = .ref a∧Inv X pins σ H' s'∧FlyIn X pins H' a cls s'.heap∧W cls σ H' }
abbrev Cx.hnd (X:Cx) (a:Addr):Cx:={ X with A:=X.A.mark (some (.ref a)),calm:=false,xe:=fun _ _=>False }
def ExcO (a:Addr) (cls:Value):HO:=.ext fun h=>∃ oe vs,h.get? a = some oe∧oe.cls = cls∧oe.dict = none∧oe.data = .fields vs∧vs[2]? = some .none
section
variable {X:Cx} {pins:List (Addr × Obj)} {σ:St} {H:Hp} {s:Shared} {W:Value→St→Hp→Prop}
theorem Inv.tryC (I:Inv X pins σ H s) (W:Value→St→Hp→Prop):Inv (X.tryC pins W) [] σ H s :=
  ⟨⟨I.ok.mod,I.ok.kind,I.ok.glob,I.ok.blt,I.ok.above,I.ok.inj,I.ok.has,I.ok.cab,I.ok.hd,I.ok.frames,I.ok.stk,I.ok.exf,I.ok.bs,I.ok.bsz,I.ok.noex,I.ok.exfs,I.ok.funs,I.ok.frf⟩,I.os,I.bare,I.base,I.loc,I.cell,I.free,I.freeC,fun p hp=>I.pin p (by simpa using hp),I.hok,I.len⟩
theorem Inv.untry {pins':List (Addr × Obj)} (I:Inv (X.tryC pins W) pins' σ H s):Inv X pins σ H s :=
  ⟨⟨I.ok.mod,I.ok.kind,I.ok.glob,I.ok.blt,I.ok.above,I.ok.inj,I.ok.has,I.ok.cab,I.ok.hd,I.ok.frames,I.ok.stk,I.ok.exf,I.ok.bs,I.ok.bsz,I.ok.noex,I.ok.exfs,I.ok.funs,I.ok.frf⟩,I.os,I.bare,I.base,I.loc,I.cell,I.free,I.freeC,fun p hp=>I.pin p (List.mem_append_left _ hp),I.hok,I.len⟩
theorem Inv.hnd (I:Inv X pins σ H s) (a:Addr):Inv (X.hnd a) pins σ H s :=
  ⟨⟨I.ok.mod,I.ok.kind,I.ok.glob,I.ok.blt,I.ok.above,I.ok.inj,I.ok.has,I.ok.cab,(fun z=>nomatch z),I.ok.frames,I.ok.stk,I.ok.exf,I.ok.bs,I.ok.bsz,I.ok.noex,I.ok.exfs,I.ok.funs,I.ok.frf⟩,I.os,I.bare,I.base,I.loc,I.cell,I.free,I.freeC,I.pin,I.hok,I.len⟩
theorem Inv.unhnd (c:X.calm = true→X.A.handled = none) (f:X.A.frames = some X.stack) {a:Addr} (I:Inv (X.hnd a) pins σ H s):Inv X pins σ H s :=
  ⟨⟨I.ok.mod,I.ok.kind,I.ok.glob,I.ok.blt,I.ok.above,I.ok.inj,I.ok.has,I.ok.cab,c,f,I.ok.stk,I.ok.exf,I.ok.bs,I.ok.bsz,I.ok.noex,I.ok.exfs,I.ok.funs,I.ok.frf⟩,I.os,I.bare,I.base,I.loc,I.cell,I.free,I.freeC,I.pin,I.hok,I.len⟩
theorem SP.untry {D:Ends} {f:Flow} {s':Shared} {pins':List (Addr × Obj)} (h:SP (X.tryC pins W) pins' D f s'):SP X pins D f s':=by
  cases f with
  | next=>obtain ⟨σ',H',I,q⟩:=h; exact ⟨σ',H',I.untry,q⟩
  | brk=>obtain ⟨σ',H',I,q⟩:=h; exact ⟨σ',H',I.untry,q⟩
  | cont=>obtain ⟨σ',H',I,q⟩:=h; exact ⟨σ',H',I.untry,q⟩
  | ret u=>obtain ⟨v,σ',H',I,r,q⟩:=h; exact ⟨v,σ',H',I.untry,r,q⟩
theorem letsT:Lets (X.tryC pins W) W:=by
  rintro pins' σ H s e s' I ⟨a,cls,H',rfl,os,bare,un,hok,q,F⟩
  have J:=I.call' os un hok bare (fun b z=>absurd z (by simp))
  obtain ⟨B,hfl,trk,hp,o1,o2⟩:=(I.flyin F).ex
  exact ⟨a,cls,σ,H',rfl,J.untry,⟨B,hfl,trk,fun p h=>hp p (List.mem_append_left _ h),o1,o2⟩,q⟩
end
end L2
namespace L2
open PySem PySem.Spec PyProof.Rows PySem.W
def Hnd (A:Around) (h:Heap):Prop:=∃ a oa ws,A.handled = some (.ref a)∧h.get? a = some oa∧oa.data = .fields ws∧ws[2]? = some .none
section
variable {prog:Program} {w:World} {A:Around} {E:Value→Shared→Prop} {s:Shared}
end
end L2
namespace L2
open PySem PySem.Spec PyProof.Rows PySem.W
theorem Hnd.ext {A:Around} {h h':Heap} (x:Hnd A h) (k:∀ a,A.handled = some (.ref a)→∀ o,h.get? a = some o→h'.get? a = some o):Hnd A h':=by
  obtain ⟨a,oa,ws,e,ha,r⟩:=x
  exact ⟨a,oa,ws,e,k a e _ ha,r⟩
section
variable {prog:Program} {w:World} {A:Around} {E:Value→Shared→Prop} {s:Shared}
end
end L2
namespace L2
open PySem PySem.Spec PyProof.Rows PySem.W
section
variable {prog:Program} {w:World} {A:Around} {E:Value→Shared→Prop} {s:Shared}
end
section
variable {X:Cx}
def HasH (a:Addr) (H:Hp):Prop:=∃ cls,H a = some (ExcO a cls)
theorem HasH.hnd {a:Addr} {pins:List (Addr × Obj)} {σ:St} {H:Hp} {s:Shared} (h:HasH a H) (e:X.A.handled = some (.ref a)) (I:Inv X pins σ H s):Hnd X.A s.heap:=by
  obtain ⟨cls,ha⟩:=h
  obtain ⟨⟨oe,vs,h1,_,_,h3,h4⟩,_⟩:=I.hok a _ ha
  exact ⟨a,oe,vs,e,h1,h3,h4⟩
theorem HasH.same {a:Addr} {H H':Hp} (h:HasH a H) (s:Same H H'):HasH a H':=let ⟨c,e⟩:=h; ⟨c,s _ _ e⟩
end
end L2
namespace L2
open PySem PySem.Spec PyProof.Rows PySem.W
section
variable {X:Cx}
end
end L2
namespace L2
open PySem PySem.Spec PyProof.Rows PySem.W
section
variable {prog:Program} {w:World} {A:Around} {E:Value→Shared→Prop} {K:Frag} {h:Heap} {g:Array GenState} {d:Drawn} {t:Nat} {os:OsState} {a C:Addr}
end
end L2
namespace L2
open PySem PySem.Spec PyProof.Rows PySem.W
structure RoomH (k:Nat) (a:Addr) (A:Around):Prop where
  hd:A.handled = some (.ref a)
  dp:A.depth + 3 * k + 5 < recursionLimit
  un:A.units + 16 * k + 200 < cLine
  gd:A.guards = some []
theorem RoomH.of {k:Nat} {a:Addr} {A:Around} (r:Room k A):RoomH k a (A.mark (some (.ref a))):=⟨rfl,r.dp,r.un,r.gd⟩
theorem RoomH.mono {j k:Nat} {a:Addr} {A:Around} (r:RoomH k a A) (h:j≤k):RoomH j a A:=⟨r.hd,by have:=r.dp; omega,by have:=r.un; omega,r.gd⟩
theorem RoomH.deeper {k:Nat} {a:Addr} {A:Around} (r:RoomH (k + 1) a A) (env:Env):RoomH k a (A.deeper env) :=
  ⟨r.hd,by have:=r.dp; show A.depth + 1 + 3 * k + 5 < _; omega,by have:=r.un; show A.units + 3 + 16 * k + 200 < _; omega,r.gd⟩
theorem RoomH.units {k:Nat} {a:Addr} {A:Around} (r:RoomH k a A):A.units + 64 < cLine:=by have:=r.un; omega
structure FnOkH (P:Program) (w:World) (K:PySem.W.Frag) (mg:Str→Option Value) (base:Heap) (k:Nat) (f:Addr) (fd:FuncData) (ps:List Str) (sp:Addr→Sp):Prop where
  len:∀ a vs H Q E,sp a vs H Q E→vs.length = ps.length
  run:∀ (a:Addr) (A:Around) (outer:List Env) (s:Shared) (H:Hp) (args:Args) (us:List Value) (vs:List V) (Q:VK),RoomH k a A→Env0 P w K mg base A outer s H→BindsTo s fd args (ps.zip us)→Vals vs us→sp a vs H Q E0 →
    codeAny (model P w) A (.call (.ref f) args) (CR CX0 outer P w H s Q E0) s
end L2
namespace L2
open PySem PySem.Spec PyProof.Rows PySem.W
def tTry (K:Frag) (C:Addr) (tb:(Value→St→Hp→Prop)→TS) (ts:TS):TS:=fun D σ H =>
  tb (fun cls σ' H'=>exmOne K cls (.ref C) = some true∧ts D σ' H') D σ H
theorem ps_try {X:Cx} {body suite:List Stmt} {b0:Stmt} {x:Str} {C:Addr} {xp hp pos:Pos} {tb:(Value→St→Hp→Prop)→TS} {ts:TS} (hstk:X.stack = X.env :: X.outer) (hfr:X.env.frame = some X.env.locals)
    (hg:Gl X x) (hm:X.mg x = some (.ref C)) (hb:∀ pins W,PSs (X.tryC pins W) body (tb W)) (hs:∀ a,PSs (X.hnd a) (b0 :: suite) ts) (hdb:(x == ("__debug__":Str)) = false:=by decide) :
    PS X (.Try body [.ExceptHandler (some (.Name x xp)) none (b0 :: suite) hp] [] [] pos) (tTry X.K C tb ts):=by
  intro pins s σ H D I h
  refine wpAny_Try_except ?_
  refine wpAny_mono (hb pins _ [] s σ H D (I.tryC _) h) (fun f s1 q=>?_) fun e s1 q=>?_
  · have q':=q.untry
    cases f with
    | next=>exact wpAny_pure q'
    | brk=>exact q'
    | cont=>exact q'
    | ret u=>exact q'
  · obtain ⟨a,cls,σ',H',rfl,I1,⟨B,hfl,trk,hp',o1,o2⟩,w1,w2⟩:=q
    have frm:X.A.frames = some (X.env :: X.outer):=by rw [← hstk]; exact I.ok.frames
    rw [hstk] at hfl
    refine look_on frm hfr hfl fun h1 G1 u1=>?_
    have I2:=I1.flown hfl.st G1.st u1 trk hp' o1 o2
    refine land_c (s:={ s1 with heap:=h1 }) G1 fun h2 G2 u2=>?_
    have I3:=I2.flown G1.st G2.st u2 trk hp' o1 o2
    refine wpAny_handleBy_cons (codeAny_handlers_test ?_) (fun z=>nomatch z)
    refine ld_glob (X:=X.hnd a) (I3.hnd a) hg hm ?_ hdb
    obtain ⟨oe,vs,T,oT,ts',he,hc,r⟩:=G2.tr
    have lt:Looks (model X.prog X.w) h2 (typeOf (.ref a)) cls:=by
      rw [← hc]
      exact (Looks.ld he).andThen .now
    refine (exm_one (M:=model X.prog X.w) (K:=X.K) (h:=h2) (I3.kIn) lt w1).here ?_
    refine codeAny_handlers_suite ?_
    refine land_c (s:={ s1 with heap:=h2 }) G2 fun h3 G3 u3=>?_
    have I4:=I3.flown G2.st G3.st u3 trk hp' o1 o2
    refine wpAny_mono (hs a pins _ _ _ _ (I4.hnd a) w2) (fun f s7 q=>?_) fun _ _ z=>False.elim z
    have un:∀ {σ7:St} {H7:Hp},Inv (X.hnd a) pins σ7 H7 s7→Inv X pins σ7 H7 s7:=fun J=>J.unhnd I.ok.hd I.ok.frames
    cases f with
    | next=>obtain ⟨σ7,H7,J,q⟩:=q; exact ⟨_,_,un J,q⟩
    | brk=>obtain ⟨σ7,H7,J,q⟩:=q; exact ⟨_,_,un J,q⟩
    | cont=>obtain ⟨σ7,H7,J,q⟩:=q; exact ⟨_,_,un J,q⟩
    | ret u=>obtain ⟨v,σ7,H7,J,r,q⟩:=q; exact ⟨v,_,_,un J,r,q⟩
end L2
namespace L2
open PySem PySem.Spec PyProof.Rows PySem.W
end L2
namespace L2
open PySem PySem.Spec PyProof.Rows PySem.W
section
variable {prog:Program} {w:World} {A:Around} {E:Value→Shared→Prop} {s:Shared}
end
section
variable {prog:Program} {w:World} {A:Around} {R:Result→Shared→Prop}
end
end L2
namespace L2
open PySem PySem.Spec PyProof.Rows PySem.W
section
variable {prog:Program} {w:World} {A:Around} {s:Shared} {R:Result→Shared→Prop}
end
section
variable {prog:Program} {w:World} {A:Around} {E:Value→Shared→Prop} {s:Shared}
end
end L2
namespace L2
open PySem PySem.Spec PyProof.Rows PySem.W
section
variable {X:Cx} {pins:List (Addr × Obj)} {σ:St} {H H':Hp} {s:Shared} {h':Heap}
theorem Inv.many {t':Nat} (I:Inv X pins σ H s) (k:∀ b u,s.heap.get? b = some u→h'.get? b = some u) (sm:Same H H') (nw:∀ b o,H' b = some o→H b = none→s.heap.objs.size≤b∧ObjOk X.prog X.w H' h' b o):Inv X pins σ H' { s with heap:=h',toks:=t' }:=by
  refine I.un ⟨fun b u q _ _ _=>k b u q,fun b u q _ _ _=>⟨u.slots,k b u q⟩,fun b u q n _=>?_,fun b u q _=>⟨u,k b u q⟩,fun b xs q=>sm _ _ q,fun b o u q=>sm _ _ q,fun b ps q=>⟨#[],by rw [sm _ _ q]; simp⟩⟩ fun b o e=>?_
  · cases e:H' b with
    | none=>rfl
    | some o=>exact absurd (Heap.lt_size q) (Nat.not_lt.mpr (nw b o e n).1)
  · cases hb:H b with
    | none=>exact (nw b o e hb).2
    | some u' =>
      have z:=(sm _ _ hb).symm.trans e
      cases z
      exact (I.hok b _ hb).stay (fun c v _ q=>k c v q) (fun c q=>sm _ _ q) fun c xs q=>sm _ _ q
end
end L2
namespace L2
open PySem PySem.W PyProof.Rows
structure LtOk (lt:Nat→Nat→Bool):Prop where
  as:∀ a b,lt a b = true→lt b a = false
  tr:∀ a b c,lt b a = false→lt c b = false→lt c a = false
theorem LtOk.ir {lt:Nat→Nat→Bool} (O:LtOk lt) (a:Nat):lt a a = false:=by
  cases e:lt a a with
  | false=>rfl
  | true=>have:=O.as a a e; rw [e] at this; cases this
def pat (p:Array Nat) (k:Nat):Nat:=p.getD k 0
theorem pat_get {p q:Array Nat} {i j:Nat} (h:p[i]? = q[j]?):pat p i = pat q j:=by
  unfold pat
  rw [Array.getD_eq_getD_getElem?,Array.getD_eq_getD_getElem?,h]
theorem pat_rev {p:Array Nat} {i j:Nat} (hj:j≤p.size) (k:Nat):pat (kas_rev p i j) k = if i≤k∧k < j then pat p (i + j - 1 - k) else pat p k:=by
  have e:=getElem?_mirror_all (i:=i) hj k
  by_cases h:i≤k∧k < j
  · rw [if_pos h] at e ⊢; exact pat_get e
  · rw [if_neg h] at e ⊢; exact pat_get e
theorem pat_bub {p:Array Nat} {src d:Nat} (hs:src < p.size) (hd:d≤src) (k:Nat):pat (bubble p src d) k = if k = src - d then pat p src else if src - d < k∧k≤src then pat p (k - 1) else pat p k:=by
  have e:=getElem?_bubble hs d hd k
  by_cases h1:k = src - d
  · rw [if_pos h1] at e ⊢; exact pat_get e
  · rw [if_neg h1] at e ⊢
    by_cases h2:src - d < k∧k≤src
    · rw [if_pos h2] at e ⊢; exact pat_get e
    · rw [if_neg h2] at e ⊢; exact pat_get e
def PmN (n:Nat) (p:Array Nat):Prop:=p.toList.Perm (List.range n)
theorem PmN.size {n:Nat} {p:Array Nat} (h:PmN n p):p.size = n:=by
  have:=h.length_eq
  rwa [List.length_range,Array.length_toList] at this
theorem PmN.lt {n k:Nat} {p:Array Nat} (h:PmN n p) (hk:k < n):pat p k < n:=by
  have hk':k < p.size:=by rw [h.size]; exact hk
  have e:pat p k = p[k]:=by unfold pat; rw [Array.getD_eq_getD_getElem?,getElem?_pos p k hk']; rfl
  rw [e]
  exact List.mem_range.mp (h.mem_iff.mp (Array.mem_toList_iff.mpr (Array.getElem_mem hk')))
theorem PmN.rev {n:Nat} {p:Array Nat} (h:PmN n p) (i j:Nat):PmN n (kas_rev p i j):=(Array.perm_iff_toList_perm.mp (mirror_perm p i j _)).trans h
theorem PmN.bub {n:Nat} {p:Array Nat} (h:PmN n p) (i d:Nat):PmN n (bubble p i d):=(Array.perm_iff_toList_perm.mp (bubble_perm p i d)).trans h
section
variable {n:Nat} {lt:Nat→Nat→Bool} {cmp:Nat→Nat→(Bool→Shared→Prop)→Shared→Prop} {I:Shared→Prop}
def SoT (lt:Nat→Nat→Bool) (p:Array Nat) (k:Nat):Prop:=∀ i j,i≤j→j < k→lt (pat p j) (pat p i) = false
def WdT (lt:Nat→Nat→Bool) (p:Array Nat) (k:Nat):Prop:=∀ i j,i≤j→j < k→lt (pat p i) (pat p j) = false
def EqT (lt:Nat→Nat→Bool) (p:Array Nat) (a b:Nat):Prop:=∀ i j,a≤i→i < b→a≤j→j < b→lt (pat p i) (pat p j) = false
def Ans (n:Nat) (lt:Nat→Nat→Bool) (cmp:Nat→Nat→(Bool→Shared→Prop)→Shared→Prop) (I:Shared→Prop):Prop :=
  ∀ i j,i < n→j < n→∀ (C:Bool→Shared→Prop) s,I s→(∀ s',I s'→C (lt i j) s')→cmp i j C s
theorem so_step (O:LtOk lt) {p:Array Nat} {k:Nat} (h1:1≤k) (h:SoT lt p k) (hk:lt (pat p k) (pat p (k - 1)) = false):SoT lt p (k + 1):=by
  intro i j hij hj
  by_cases e:j = k
  · subst e
    by_cases e2:i = j
    · subst e2; exact O.ir _
    · exact O.tr _ (pat p (j - 1)) _ (h i (j - 1) (by omega) (by omega)) hk
  · exact h i j hij (by omega)
theorem wd_step (O:LtOk lt) {p:Array Nat} {k:Nat} (h1:1≤k) (h:WdT lt p k) (hk:lt (pat p (k - 1)) (pat p k) = false):WdT lt p (k + 1):=by
  intro i j hij hj
  by_cases e:j = k
  · subst e
    by_cases e2:i = j
    · subst e2; exact O.ir _
    · exact O.tr _ (pat p (j - 1)) _ hk (h i (j - 1) (by omega) (by omega))
  · exact h i j hij (by omega)
theorem asc_ok (O:LtOk lt) (hc:Ans n lt cmp I) {p:Array Nat} (hp:PmN n p):∀ (f a:Nat) {Q:Nat→Shared→Prop} {s:Shared},1≤a→a + f≤n→SoT lt p a→I s →
    (∀ m s',I s'→a≤m→m≤a + f→SoT lt p m→(m < a + f→lt (pat p m) (pat p (m - 1)) = true)→Q m s')→(kas_asc p f a).kasWp cmp Q s
  | 0,a,Q,s,h1,ha,so,hi,q=>q a s hi (by omega) (by omega) so (fun h=>by omega)
  | f + 1,a,Q,s,h1,ha,so,hi,q=>by
    show cmp (pat p a) (pat p (a - 1)) _ s
    refine hc _ _ (hp.lt (by omega)) (hp.lt (by omega)) _ s hi fun s' hi'=>?_
    cases e:lt (pat p a) (pat p (a - 1)) with
    | true=>exact q a s' hi' (by omega) (by omega) so (fun _=>e)
    | false=>exact asc_ok O hc hp f (a + 1) (by omega) (by omega) (so_step O h1 so e) hi' fun m s2 i2 l1 l2 s3 l3=>q m s2 i2 (by omega) (by omega) s3 (fun h=>l3 (by omega))
theorem wd_rev (O:LtOk lt) {p:Array Nat} (k a b:Nat) (hb:b≤p.size) (w:WdT lt p k) (e:EqT lt p a b) (hbk:b≤k):WdT lt (kas_rev p a b) k:=by
  intro i j hij hj
  rw [pat_rev hb,pat_rev hb]
  by_cases h1:a≤i∧i < b
  · rw [if_pos h1]
    by_cases h2:a≤j∧j < b
    · rw [if_pos h2]; exact e _ _ (by omega) (by omega) (by omega) (by omega)
    · rw [if_neg h2]; exact w _ _ (by omega) hj
  · rw [if_neg h1]
    by_cases h2:a≤j∧j < b
    · rw [if_pos h2]; exact w _ _ (by omega) (by omega)
    · rw [if_neg h2]; exact w _ _ hij hj
theorem pat_rev_out {p:Array Nat} {a b k:Nat} (hb:b≤p.size) (h:b≤k):pat (kas_rev p a b) k = pat p k:=by
  rw [pat_rev hb,if_neg (by omega)]
theorem desc_ok (O:LtOk lt) (hc:Ans n lt cmp I):∀ (f:Nat) (p:Array Nat) (a q:Nat) {Q:Array Nat × Nat × Nat→Shared→Prop} {s:Shared},PmN n p→q + 1≤a→a + f≤n→WdT lt p a→EqT lt p (a - (q + 1)) a→I s →
    (∀ p' m q' s',I s'→PmN n p'→a≤m→m≤a + f→q' + 1≤m→WdT lt p' m→EqT lt p' (m - (q' + 1)) m→Q (p',m,q') s')→(kas_desc f p a q).kasWp cmp Q s
  | 0,p,a,q,Q,s,hp,h1,ha,wd,eq,hi,k=>k p a q s hi hp (by omega) (by omega) h1 wd eq
  | f + 1,p,a,q,Q,s,hp,h1,ha,wd,eq,hi,k=>by
    have hz:=hp.size
    show cmp (pat p a) (pat p (a - 1)) _ s
    refine hc _ _ (hp.lt (by omega)) (hp.lt (by omega)) _ s hi fun s' hi'=>?_
    have one:∀ p':Array Nat,EqT lt p' (a + 1 - (0 + 1)) (a + 1):=fun p' i j h1 h2 h3 h4=>by
      have:i = j:=by omega
      subst this; exact O.ir _
    cases e:lt (pat p a) (pat p (a - 1)) with
    | true =>
      show KasT.kasWp cmp (if q > 0 then _ else _) Q s'
      by_cases hq:q > 0
      · rw [if_pos hq]
        have w2:=wd_rev O a _ a (by omega) wd eq (Nat.le_refl _)
        refine desc_ok O hc f _ (a + 1) 0 (hp.rev _ _) (by omega) (by omega) (wd_step O (by omega) w2 ?_) (one _) hi' fun p' m q' s2 i2 p2 l1 l2 l3 w3 e3=>k p' m q' s2 i2 p2 (by omega) (by omega) l3 w3 e3
        rw [pat_rev_out (by omega) (Nat.le_refl _),pat_rev (by omega),if_pos (by omega)]
        refine O.tr _ (pat p (a - 1)) _ (O.as _ _ e) ?_
        exact eq _ _ (by omega) (by omega) (by omega) (by omega)
      · rw [if_neg hq]
        exact desc_ok O hc f _ (a + 1) 0 hp (by omega) (by omega) (wd_step O (by omega) wd (O.as _ _ e)) (one _) hi' fun p' m q' s2 i2 p2 l1 l2 l3 w3 e3=>k p' m q' s2 i2 p2 (by omega) (by omega) l3 w3 e3
    | false =>
      show cmp (pat p (a - 1)) (pat p a) _ s'
      refine hc _ _ (hp.lt (by omega)) (hp.lt (by omega)) _ s' hi' fun s2 hi2=>?_
      cases e2:lt (pat p (a - 1)) (pat p a) with
      | true=>exact k p a q s2 hi2 hp (by omega) (by omega) h1 wd eq
      | false =>
        refine desc_ok O hc f p (a + 1) (q + 1) hp (by omega) (by omega) (wd_step O (by omega) wd e2) (fun i j i1 i2 j1 j2=>?_) hi2 fun p' m q' s2 i2 p2 l1 l2 l3 w3 e3=>k p' m q' s2 i2 p2 (by omega) (by omega) l3 w3 e3
        by_cases ia:i = a
        · by_cases ja:j = a
          · subst ia; subst ja; exact O.ir _
          · subst ia; exact O.tr _ (pat p (i - 1)) _ (eq _ _ (by omega) (by omega) (by omega) (by omega)) e
        · by_cases ja:j = a
          · subst ja; exact O.tr _ (pat p (j - 1)) _ e2 (eq _ _ (by omega) (by omega) (by omega) (by omega))
          · exact eq _ _ (by omega) (by omega) (by omega) (by omega)
theorem so_of_wd {p:Array Nat} {k:Nat} (hk:k≤p.size) (w:WdT lt p k):SoT lt (kas_rev p 0 k) k:=by
  intro i j hij hj
  rw [pat_rev hk,pat_rev hk,if_pos (by omega),if_pos (by omega)]
  exact w _ _ (by omega) (by omega)
abbrev CountQ (n:Nat) (lt:Nat→Nat→Bool) (I:Shared→Prop) (Q:Nat × Array Nat→Shared→Prop):Prop:=∀ m p' s',I s'→PmN n p'→1≤m→m≤n→SoT lt p' m→Q (m,p') s'
theorem tail3_ok (O:LtOk lt) (hc:Ans n lt cmp I) {p:Array Nat} {a:Nat} {Q:Nat × Array Nat→Shared→Prop} {s:Shared} (hp:PmN n p) (h1:1≤a) (ha:a≤n) (w:WdT lt p a) (hi:I s) (q:CountQ n lt I Q):(kas_tail3 a n p).kasWp cmp Q s:=by
  unfold kas_tail3
  rw [KasT.kasWp_bind]
  exact asc_ok O hc (hp.rev 0 a) (n - a) a h1 (by omega) (so_of_wd (by rw [hp.size]; exact ha) w) hi fun m s' i' l1 l2 so _=>q m _ s' i' (hp.rev 0 a) (by omega) (by omega) so
theorem descPart_ok (O:LtOk lt) (hc:Ans n lt cmp I) {p:Array Nat} {a:Nat} {Q:Nat × Array Nat→Shared→Prop} {s:Shared} (hp:PmN n p) (h1:1≤a) (ha:a + 1≤n) (w:WdT lt p (a + 1)) (hi:I s) (q:CountQ n lt I Q):(kas_descPart a n p).kasWp cmp Q s:=by
  unfold kas_descPart
  rw [KasT.kasWp_bind]
  refine desc_ok O hc (n - (a + 1)) p (a + 1) 0 hp (by omega) (by omega) w (fun i j i1 i2 j1 j2=>?_) hi fun p' m q' s' i' p2 l1 l2 l3 w3 e3=>?_
  · have:i = j:=by omega
    subst this; exact O.ir _
  · have hz:=p2.size
    dsimp only
    by_cases hq:q' > 0
    · rw [if_pos hq]
      exact tail3_ok O hc (p2.rev _ _) (by omega) (by omega) (wd_rev O m _ m (by omega) w3 e3 (Nat.le_refl _)) i' q
    · rw [if_neg hq]
      exact tail3_ok O hc p2 (by omega) (by omega) w3 i' q
theorem count_ok (O:LtOk lt) (hc:Ans n lt cmp I) {p:Array Nat} {Q:Nat × Array Nat→Shared→Prop} {s:Shared} (hp:PmN n p) (hn:2≤n) (hi:I s) (q:CountQ n lt I Q):(kas_count n p).kasWp cmp Q s:=by
  unfold kas_count
  rw [KasT.kasWp_bind]
  have hz:=hp.size
  refine asc_ok O hc hp (n - 1) 1 (Nat.le_refl _) (by omega) (fun i j hij hj=>?_) hi fun m s' i' l1 l2 so st=>?_
  · have:i = j:=by omega
    subst this; exact O.ir _
  · by_cases hm:m = n
    · rw [if_pos (by simp [hm])]
      exact q m p s' i' hp (by omega) (by omega) so
    · rw [if_neg (by simp [hm])]
      have st':=st (by omega)
      by_cases h1:m > 1
      · rw [if_pos h1]
        show cmp (pat p 0) (pat p (m - 1)) _ s'
        refine hc _ _ (hp.lt (by omega)) (hp.lt (by omega)) _ s' i' fun s2 i2=>?_
        cases e:lt (pat p 0) (pat p (m - 1)) with
        | true=>exact q m p s2 i2 hp (by omega) (by omega) so
        | false =>
          have eq:EqT lt p 0 m:=fun i j _ hi' _ hj'=>by
            by_cases hij:j≤i
            · exact so j i hij hi'
            · refine O.tr _ (pat p (m - 1)) _ ?_ (O.tr _ (pat p 0) _ e ?_)
              · exact so j (m - 1) (by omega) (by omega)
              · exact so 0 i (by omega) hi'
          have wd:WdT lt (kas_rev p 0 m) m:=wd_rev O m 0 m (by omega) (fun i j hij hj=>eq i j (by omega) (by omega) (by omega) hj) eq (Nat.le_refl _)
          refine descPart_ok O hc (hp.rev 0 m) (by omega) (by omega) (wd_step O (by omega) wd ?_) i2 q
          rw [pat_rev_out (by omega) (Nat.le_refl _),pat_rev (by omega),if_pos (by omega)]
          exact O.tr _ (pat p (m - 1)) _ (O.as _ _ st') (eq _ _ (by omega) (by omega) (by omega) (by omega))
      · rw [if_neg h1]
        have:m = 1:=by omega
        subst this
        refine descPart_ok O hc hp (by omega) (by omega) (wd_step O (Nat.le_refl _) (fun i j hij hj=>?_) (O.as _ _ st')) i' q
        have:i = j:=by omega
        subst this; exact O.ir _
theorem place_ok (O:LtOk lt) (hc:Ans n lt cmp I) {p:Array Nat} (hp:PmN n p) {k:Nat} (hk:k < n) (so:SoT lt p k):∀ (f l r:Nat) {Q:Nat→Shared→Prop} {s:Shared},l≤r→r≤k→r - l≤f→(∀ i,i < l→lt (pat p k) (pat p i) = false)→(∀ i,r≤i→i < k→lt (pat p i) (pat p k) = false)→I s →
    (∀ m s',I s'→m≤k→(∀ i,i < m→lt (pat p k) (pat p i) = false)→(∀ i,m≤i→i < k→lt (pat p i) (pat p k) = false)→Q m s')→(kas_place p k f l r).kasWp cmp Q s
  | 0,l,r,Q,s,h1,h2,h3,a,b,hi,q=>q l s hi (by omega) a (fun i h4 h5=>b i (by omega) h5)
  | f + 1,l,r,Q,s,h1,h2,h3,a,b,hi,q=>by
    unfold kas_place
    by_cases h:l ≥ r
    · rw [if_pos h]
      exact q l s hi (by omega) a (fun i h4 h5=>b i (by omega) h5)
    · rw [if_neg h]
      show cmp (pat p k) (pat p ((l + r) / 2)) _ s
      refine hc _ _ (hp.lt hk) (hp.lt (by omega)) _ s hi fun s' hi'=>?_
      cases e:lt (pat p k) (pat p ((l + r) / 2)) with
      | true =>
        refine place_ok O hc hp hk so f l ((l + r) / 2) (by omega) (by omega) (by omega) a (fun i h4 h5=>?_) hi' q
        exact O.tr _ (pat p ((l + r) / 2)) _ (O.as _ _ e) (so _ _ h4 h5)
      | false =>
        refine place_ok O hc hp hk so f ((l + r) / 2 + 1) r (by omega) (by omega) (by omega) (fun i h4=>?_) b hi' q
        exact O.tr _ (pat p ((l + r) / 2)) _ (so _ _ (by omega) (by omega)) e
theorem bin_ok (O:LtOk lt) (hc:Ans n lt cmp I):∀ (f:Nat) (p:Array Nat) (k:Nat) {Q:Array Nat→Shared→Prop} {s:Shared},PmN n p→k + f = n→SoT lt p k→I s→(∀ p' s',I s'→PmN n p'→SoT lt p' n→Q p' s')→(kas_bin f p k).kasWp cmp Q s
  | 0,p,k,Q,s,hp,hk,so,hi,q=>q p s hi hp (by rw [show n = k by omega]; exact so)
  | f + 1,p,k,Q,s,hp,hk,so,hi,q=>by
    unfold kas_bin
    rw [KasT.kasWp_bind]
    have hz:=hp.size
    refine place_ok O hc hp (by omega) so k 0 k (by omega) (Nat.le_refl _) (by omega) (fun i h=>by omega) (fun i h1 h2=>by omega) hi fun m s' i' l1 a b=>?_
    refine bin_ok O hc f _ (k + 1) (hp.bub _ _) (by omega) (fun i j hij hj=>?_) i' q
    have bu:=pat_bub (p:=p) (src:=k) (d:=k - m) (by omega) (by omega)
    rw [bu,bu]
    have e:k - (k - m) = m:=by omega
    rw [e]
    by_cases i1:i = m
    · rw [if_pos i1]
      by_cases j1:j = m
      · rw [if_pos j1]; exact O.ir _
      · rw [if_neg j1,if_pos (by omega)]; exact b _ (by omega) (by omega)
    · rw [if_neg i1]
      by_cases i2:m < i∧i≤k
      · rw [if_pos i2,if_neg (by omega),if_pos (by omega)]; exact so _ _ (by omega) (by omega)
      · rw [if_neg i2]
        by_cases j1:j = m
        · rw [if_pos j1]; exact a _ (by omega)
        · rw [if_neg j1]
          by_cases j2:m < j∧j≤k
          · rw [if_pos j2]; exact so _ _ (by omega) (by omega)
          · rw [if_neg j2]; exact so _ _ hij (by omega)
theorem sort_ok (O:LtOk lt) (hc:Ans n lt cmp I) (hn:2≤n) {Q:Array Nat→Shared→Prop} {s:Shared} (hi:I s) (q:∀ p' s',I s'→PmN n p'→SoT lt p' n→Q p' s'):(kas_sort n).kasWp cmp Q s:=by
  unfold kas_sort
  rw [KasT.kasWp_bind]
  refine count_ok O hc (show PmN n (List.toArray (List.range n)) from List.Perm.refl _) hn hi fun m p' s' i' p2 l1 l2 so=>?_
  dsimp only
  by_cases h:m < n
  · rw [if_pos h]
    have e:max m 1 = m:=by omega
    rw [e]
    exact bin_ok O hc (n - m) p' m p2 (by omega) so i' q
  · rw [if_neg h]
    exact q p' s' i' p2 (by rw [show n = m by omega]; exact so)
end
end L2
namespace HT
open PySem PySem.Spec PySem.W PyProof.Rows L2
section
variable {prog:Program} {w:World} {A:Around} {E:Value→Shared→Prop} {s:Shared}
def Grown (h h':Heap):Prop:=∀ b o,h.get? b = some o→h'.get? b = some o
def Asks (prog:Program) (w:World) (A:Around) (vs:List Value) (lt:Nat→Nat→Bool) (s:Shared):Prop :=
  ∃ κ:SortKind,(∀ Q:SortKind→Shared→Prop,Q κ s→wpAny (model prog w) A (keyKind' vs.toArray) Q (fun _ _=>False) s)∧Ans vs.length lt (kas_ask prog w A κ vs) (fun s'=>s' = s)
def inOrder (vs:List Value) (p:Array Nat):Array Value:=(p.toList.map fun i=>vs.getD i Value.none).toArray
theorem inOrder_range (vs:List Value):inOrder vs (List.toArray (List.range vs.length)) = vs.toArray:=by
  unfold inOrder
  congr 1
  refine List.ext_getElem? fun i=>?_
  rw [List.getElem?_map]
  show Option.map _ (List.range vs.length)[i]? = vs[i]?
  by_cases h:i < vs.length
  · rw [List.getElem?_range h,List.getElem?_eq_getElem h]
    show some (vs.getD i Value.none) = _
    rw [List.getD_eq_getElem?_getD,List.getElem?_eq_getElem h]; rfl
  · rw [List.getElem?_eq_none (by rw [List.length_range]; omega),List.getElem?_eq_none (by omega)]; rfl
theorem list_sort_any {a:Addr} {vs:List Value} {n:Nat} {lt:Nat→Nat→Bool} {P:PySem.Fin→Shared→Prop} (here:s.heap.get? a = some (seqObj "list" vs.toArray n)) (O:LtOk lt) (h64:vs.length < 64)
    (ask:2≤vs.length→∀ h',(∀ b o,b≠a→s.heap.get? b = some o→h'.get? b = some o)→Asks prog w A vs lt { s with heap:=h' })
    (fin:∀ p:Array Nat,PmN vs.length p→SoT lt p vs.length→P (.done (.ret .none)) { s with heap:=sortedHeap s.heap a vs (inOrder vs p) }) :
    wpAny (model prog w) A (Builtin.«list.sort» ⟨[.ref a],[]⟩) P E s:=by
  have low:a < s.heap.objs.size:=Heap.lt_size here
  have len:vs.toArray.size = vs.length:=List.size_toArray ..
  obtain ⟨c,emptied⟩:∃ c,(s.heap.update a (Obj.mapSeq fun _=>#[])).get? a = some (seqObj "list" #[] c):=⟨_,get?_update_seq here (fun _=>#[])⟩
  have others:∀ b o,b≠a→s.heap.get? b = some o→(((s.heap.update a (Obj.mapSeq fun _=>#[])).push (seqObj "tuple" vs.toArray 0)).push (seqObj "list" #[] 0)).get? b = some o:=fun b o ne e=>by
    refine Heap.get?_push_of_some _ (Heap.get?_push_of_some _ ?_)
    rw [Heap.get?_update_ne _ _ _ _ ne]; exact e
  have still:(((s.heap.update a (Obj.mapSeq fun _=>#[])).push (seqObj "tuple" vs.toArray 0)).push (seqObj "list" #[] 0)).get? a = some (seqObj "list" #[] c):=Heap.get?_push_of_some _ (Heap.get?_push_of_some _ emptied)
  rw [list_sort_plain]
  refine wpAny_bind (listItems_at here rfl (wpAny_bind (listUpdate_at here rfl ?_)))
  refine wpAny_bind (seqEpoch_at emptied rfl (wpAny_bind (wpAny_newTuple (wpAny_bind (wpAny_newList (wpAny_holding ?_))))))
  show wpAny (model prog w) A _ P E { s with heap:=((s.heap.update a (Obj.mapSeq fun _=>#[])).push (seqObj "tuple" vs.toArray 0)).push (seqObj "list" #[] 0) }
  dsimp only
  by_cases h2:vs.toArray.size < 2
  · rw [if_pos h2,if_pos h2]
    refine wpAny_bind (wpAny_pure ?_)
    rw [StateT.run_pure]
    refine wpAny_bind (wpAny_pure ?_)
    dsimp only
    refine wpAny_bind (seqEpoch_at still rfl ?_)
    refine wpAny_bind (listUpdate_at still rfl ?_ (hsz2:=by rw [Array.size_map]; show (pairsOf vs).size≤_; rw [pairsOf_size,sizeLine_eq]; omega))
    simp only [bne_self_eq_false,Bool.false_eq_true,if_false]
    have e:=fin (List.toArray (List.range vs.length)) (List.Perm.refl _) (fun i j hij hj=>by
      have:i = j:=by omega
      subst this; exact O.ir _)
    rw [inOrder_range] at e
    refine wpAny_pure ?_
    have e2:Array.map (·.2) (vs.toArray.zip vs.toArray) = vs.toArray:=by
      apply Array.toList_inj.mp
      rw [Array.toList_map,Array.toList_zip]
      exact List.map_snd_zip (Nat.le_refl _)
    show P _ { s with heap:=Heap.update _ a (Obj.mapSeq fun _=>Array.map (·.2) (vs.toArray.zip vs.toArray)) }
    rw [e2]
    exact e
  · rw [if_neg h2,if_neg h2]
    obtain ⟨κ,hk,ans⟩:=ask (by omega) _ others
    refine wpAny_bind (wpAny_mono (hk (fun k s'=>k = κ∧s' = _) ⟨rfl,rfl⟩) ?_ fun _ _ z=>z.elim)
    rintro _ _ ⟨rfl,rfl⟩
    refine wpAny_bind (wpAny_mono (kat_run (ks:=vs) (vs:=vs) (G:=fun p s'=>s' = _∧PmN vs.length p∧SoT lt p vs.length) (Q:=fun st s'=>∃ p,arrOf st = p.map (kas_item (vs.toArray.zip vs.toArray))∧failedOf st = none∧s' = _∧PmN vs.length p∧SoT lt p vs.length) rfl (by omega) h64
      (fun p st s' _ e1 e2 g=>⟨p,e1,e2,g⟩) (sort_ok O ans (by omega) rfl fun p s' e1 e2 e3=>⟨e1,e2,e3⟩)) ?_ fun _ _ z=>z)
    rintro ⟨⟨⟩,st⟩ s' ⟨p,e1,e2,rfl,pm,so⟩
    have e3:(arrOf st).map (·.2) = inOrder vs p:=kat_snds rfl e1
    have z:(inOrder vs p).size = vs.length:=by
      show ((p.toList.map fun i=>vs.getD i Value.none).toArray).size = _
      rw [List.size_toArray,List.length_map,Array.length_toList,pm.size]
    dsimp only at e2 e3 ⊢
    refine wpAny_bind (seqEpoch_at still rfl ?_)
    refine wpAny_bind (listUpdate_at still rfl ?_ (hsz2:=by rw [e3,z,sizeLine_eq]; omega))
    rw [e2,e3]
    simp only [bne_self_eq_false,Bool.false_eq_true,if_false]
    exact wpAny_pure (fin p pm so)
theorem sorted_any {l:Addr} {vs:List Value} {lt:Nat→Nat→Bool} {Q:Value→Shared→Prop} (hl:s.heap.IsList l vs.toArray) (O:LtOk lt) (h64:vs.length < 64)
    (ask:2≤vs.length→∀ h',Grown s.heap h'→Asks prog w A.in1.in1 vs lt { s with heap:=h' })
    (fin:∀ p:Array Nat,PmN vs.length p→SoT lt p vs.length→Q (.ref (s.heap.objs.size + 1)) { s with heap:=sortedAll s.heap vs (inOrder vs p) }) :
    wpAny (model prog w) A (call (.builtin "sorted") [.ref l]) Q E s:=by
  refine Calls.call_function_entry kind_sorted plain_sorted entry_sorted (args_sorted1 _) ?_
  unfold Builtin.«sorted»
  refine wpAny_bind (m:=checkCount "sorted" 1 1 _) (wpAny_pure (wpAny_bind (collect_list hl (wpAny_bind (wpAny_newList ?_)))))
  have z:((s.heap.push (seqObj "list" #[] 0)).update s.heap.objs.size (Obj.mapSeq (· ++ vs.toArray))).objs.size = s.heap.objs.size + 1:=by rw [Heap.size_update,size_push']
  have at1:(((s.heap.push (seqObj "list" #[] 0)).update s.heap.objs.size (Obj.mapSeq (· ++ vs.toArray))).push (seqObj "list" vs.toArray 0)).get? (s.heap.objs.size + 1) = some (seqObj "list" vs.toArray 0):=z ▸ Heap.get?_push_size _ rfl
  have old:∀ b o,s.heap.get? b = some o→b < s.heap.objs.size∧(((s.heap.push (seqObj "list" #[] 0)).update s.heap.objs.size (Obj.mapSeq (· ++ vs.toArray))).push (seqObj "list" vs.toArray 0)).get? b = some o:=fun b o e=>by
    have lo:b < s.heap.objs.size:=Heap.lt_size e
    refine ⟨lo,Heap.get?_push_of_some _ ?_⟩
    rw [Heap.get?_update_ne _ _ _ _ (Nat.ne_of_lt lo)]
    exact Heap.get?_push_of_some _ e
  show wpAny _ _ _ _ _ { s with heap:=((s.heap.push (seqObj "list" #[] 0)).update s.heap.objs.size (Obj.mapSeq (· ++ vs.toArray))).push (seqObj "list" vs.toArray 0) }
  rw [z]
  refine wpAny_bind (wpAny_holding (wpAny_call_entry slot_list_sort ⟨_,at1,rfl⟩ entry_list_sort ?_ (args_list_sort _)))
  refine list_sort_any at1 O h64 (fun h2 h' k=>?_) fun p pm so=>⟨_,rfl,wpAny_pure ⟨_,rfl,fin p pm so⟩⟩
  exact ask h2 h' fun b o e=>k b o (Nat.ne_of_lt (Nat.lt_succ_of_lt (old b o e).1)) (old b o e).2
theorem katlex_rest {b fin:Bool} {Q:Bool→Shared→Prop}:∀ {vs ws:List Value} {r:Bool} (i:Nat),Lex A s vs ws r→fin = decide (vs.length < ws.length)→Q r s→KatLex prog w A b fin Q (vs.zip ws) (i + 1) s
  | _,_,_,i,.nn,e,q=>by rw [e]; exact q
  | _,_,_,i,.nc,e,q=>by
    show Q _ _
    rw [e,decide_eq_true (by simp)]; exact q
  | _,_,_,i,.cn,e,q=>by
    show Q _ _
    rw [e,decide_eq_false (by simp)]; exact q
  | _,_,_,i,.eq h1 h2,e,q=>by
    refine kat_cons (h1 _ _ _ _ (kat_yes (katlex_rest (i + 1) h2 ?_ q)))
    rw [e]; simp
  | _,_,_,i,.lt (r:=r) h1 h2,e,q=>by
    refine kat_cons (h1 _ _ _ _ (kat_no ?_))
    rw [show (b && (i + 1 == 0)) = false by simp]
    exact kat_one _ _ (h2 _ _ _ _ q)
theorem katlex_str {a c:Str} {t u:Tok} {vs ws:List Value} {r:Bool} {Q:Bool→Shared→Prop} (h:Lex A s vs ws r) (q:Q (if a = c then r else ltStr a c) s) :
    KatLex prog w A true (decide ((Value.str a t :: vs).length < (Value.str c u :: ws).length)) Q ((Value.str a t :: vs).zip (Value.str c u :: ws)) 0 s:=by
  have he:=SeqAt.EqAt.str_str (A:=A) (s:=s) a t c u
  rw [List.zip_cons_cons]
  by_cases e:a = c
  · rw [if_pos e] at q
    rw [show (a == c) = true by simpa using e] at he
    exact kat_cons (he _ _ _ _ (kat_yes (katlex_rest 0 h (by simp) q)))
  · rw [if_neg e] at q
    rw [show (a == c) = false by simpa using e] at he
    exact kat_cons (he _ _ _ _ (kat_no (oneLt_str q)))
theorem looks_str {M:Model} {h:Heap} (a:Str) (t:Tok):Looks M h (typeOf (.str a t)) (.type "str"):=Looks.of_pure rfl
def TupsAt (h:Heap) (vs:List Value) (hd:Nat→Str) (rs:Nat→List Value):Prop:=∀ i,i < vs.length→∃ (a:Addr) (t:Tok),vs[i]? = some (.ref a)∧IsTup h a (Value.str (hd i) t :: rs i).toArray
theorem TupsAt.keeps {h h':Heap} {vs:List Value} {hd:Nat→Str} {rs:Nat→List Value} (x:TupsAt h vs hd rs) (g:Grown h h'):TupsAt h' vs hd rs:=fun i hi=>by
  obtain ⟨a,t,e,p⟩:=x i hi
  exact ⟨a,t,e,p.keeps g⟩
theorem tups_kat {h:Heap}:∀ {vs:List Value} {hd:Nat→Str} {rs:Nat→List Value},TupsAt h vs hd rs→∃ fs:List Value,KatTups h vs fs∧fs.length = vs.length∧∀ v∈fs,∃ a t,v = Value.str a t
  | [],_,_,_=>⟨[],.nil,rfl,fun v hv=>by cases hv⟩
  | v :: vs,hd,rs,x=>by
    obtain ⟨fs,k,l,al⟩:=tups_kat (vs:=vs) (hd:=fun i=>hd (i + 1)) (rs:=fun i=>rs (i + 1)) fun i hi=>by
      obtain ⟨a,t,e,p⟩:=x (i + 1) (by simp; omega)
      exact ⟨a,t,by simpa using e,p⟩
    obtain ⟨a,t,e,o,ho,hc,n,hdd⟩:=x 0 (by simp)
    cases (show v = Value.ref a by simpa using e)
    refine ⟨.str (hd 0) t :: fs,KatTups.cons ho hc hdd (by simp) k,by simp [l],fun z hz=>?_⟩
    rcases List.mem_cons.mp hz with rfl | hz
    · exact ⟨_,_,rfl⟩
    · exact al z hz
theorem asks_tups {vs:List Value} {hd:Nat→Str} {rs:Nat→List Value} {lt r:Nat→Nat→Bool} (h2:2≤vs.length) (x:TupsAt s.heap vs hd rs) (hx:∀ i j,i < vs.length→j < vs.length→Lex A s (rs i) (rs j) (r i j))
    (hlt:∀ i j,i < vs.length→j < vs.length→lt i j = if hd i = hd j then r i j else ltStr (hd i) (hd j)):Asks prog w A vs lt s:=by
  obtain ⟨fs,k,l,al⟩:=tups_kat x
  refine ⟨tuples' true,fun Q q=>kat_kind (T:=.type "str") k (by omega) (fun v hv=>?_) (by decide) q,fun i j hi hj C s' e q=>?_⟩
  · obtain ⟨a,t,rfl⟩:=al v hv
    exact looks_str a t
  · subst e
    have q':=q _ rfl
    rw [hlt i j hi hj] at q'
    obtain ⟨a,t,e1,o1,ho1,_,n1,d1⟩:=x i hi
    obtain ⟨b,u,e2,o2,ho2,_,n2,d2⟩:=x j hj
    show wpAny _ _ (keyLt' _ (vs.getD i Value.none) (vs.getD j Value.none)) C _ _
    rw [List.getD_eq_getElem?_getD,List.getD_eq_getElem?_getD,e1,e2]
    refine kat_lt ho1 d1 ho2 d2 ?_
    exact katlex_str (hx i j hi hj) q'
end
end HT
namespace HT
open PySem PySem.Spec PySem.W PyProof.Rows L2
structure Sto {κ:Type} (lt:κ→κ→Bool):Prop where
  irr:∀ a,lt a a = false
  trans:∀ a b c,lt a b = true→lt b c = true→lt a c = true
  tot:∀ a b,a≠b→lt a b = true∨lt b a = true
theorem Sto.ok {κ:Type} [DecidableEq κ] {lt:κ→κ→Bool} (S:Sto lt) (f:Nat→κ):LtOk fun i j=>lt (f i) (f j):=by
  have as:∀ a b,lt a b = true→lt b a = false:=fun a b h=>by
    cases e:lt b a with
    | false=>rfl
    | true=>have:=S.trans _ _ _ h e; rw [S.irr] at this; cases this
  refine ⟨fun a b h=>as _ _ h,fun a b c h1 h2=>?_⟩
  cases e:lt (f c) (f a) with
  | false=>rfl
  | true =>
    exfalso
    by_cases ab:f a = f b
    · rw [← ab,e] at h2; cases h2
    · rcases S.tot _ _ ab with h | h
      · rw [S.trans _ _ _ e h] at h2; cases h2
      · rw [h] at h1; cases h1
def ltI (a b:Int):Bool:=decide (a < b)
theorem stoI:Sto ltI:=⟨fun a=>decide_eq_false (by omega),fun a b c h1 h2=>decide_eq_true (by have:=of_decide_eq_true h1; have:=of_decide_eq_true h2; omega),fun a b h=>by
  by_cases e:a < b
  · exact .inl (decide_eq_true e)
  · exact .inr (decide_eq_true (by omega))⟩
theorem stoS:Sto ltStr:=⟨ltS_irr,fun _ _ _=>ltS_trans,fun _ _=>ltS_tot⟩
def lex2 {α β:Type} [DecidableEq α] (f:α→α→Bool) (g:β→β→Bool) (x y:α × β):Bool:=if x.1 = y.1 then g x.2 y.2 else f x.1 y.1
theorem Sto.lex {α β:Type} [DecidableEq α] {f:α→α→Bool} {g:β→β→Bool} (F:Sto f) (G:Sto g):Sto (lex2 f g):=by
  refine ⟨fun a=>by unfold lex2; rw [if_pos rfl]; exact G.irr _,fun a b c h1 h2=>?_,fun a b h=>?_⟩
  · unfold lex2 at *
    by_cases e1:a.1 = b.1
    · rw [if_pos e1] at h1
      by_cases e2:b.1 = c.1
      · rw [if_pos e2] at h2; rw [if_pos (e1.trans e2)]; exact G.trans _ _ _ h1 h2
      · rw [if_neg e2] at h2; rw [if_neg (by rw [e1]; exact e2),e1]; exact h2
    · rw [if_neg e1] at h1
      by_cases e2:b.1 = c.1
      · rw [if_neg (by rw [← e2]; exact e1),← e2]; exact h1
      · rw [if_neg e2] at h2
        have h3:=F.trans _ _ _ h1 h2
        rw [if_neg (fun z=>by rw [z,F.irr] at h3; cases h3)]; exact h3
  · unfold lex2
    by_cases e:a.1 = b.1
    · rw [if_pos e,if_pos e.symm]
      exact G.tot _ _ fun z=>h (Prod.ext e z)
    · rw [if_neg e,if_neg (fun z=>e z.symm)]
      exact F.tot _ _ e
def trLt:Str × Str × Int × Int→Str × Str × Int × Int→Bool:=lex2 ltStr (lex2 ltStr (lex2 ltI ltI))
theorem stoTr:Sto trLt:=stoS.lex (stoS.lex (stoI.lex stoI))
section
variable {A:Around} {s:Shared}
theorem eq_ints2 {b c:Addr} {m n m' n':Int} {t u t' u':Tok} (h1:IsTup s.heap b #[.int m t,.int n u]) (h2:IsTup s.heap c #[.int m' t',.int n' u']) (hu:A.units < cLine):SeqAt.EqAt A s (.ref b) (.ref c) (decide (m = m'∧n = n')):=by
  by_cases e:b = c
  · subst e
    obtain ⟨o,g,_,k,d⟩:=h1
    obtain ⟨o',g',_,k',d'⟩:=h2
    cases g.symm.trans g'
    rw [d] at d'
    injection d' with d1 d2
    have e3:m = m'∧n = n':=by
      have:=congrArg Array.toList d1
      injection this with a1 a2
      injection a2 with a3 a4
      injection a1 with a5 _
      injection a3 with a6 _
      exact ⟨a5,a6⟩
    rw [decide_eq_true e3]
    exact SeqAt.EqAt.same _
  · refine SeqAt.EqAt.of_refs e ?_
    have r:=SeqAt.RcAt.tuples (A:=A) (s:=s) (e:=fun j=>if j = 0 then m == m' else n == n') (show s.heap.IsTuple b #[.int m t,.int n u] from h1) (show s.heap.IsTuple c #[.int m' t',.int n' u'] from h2) hu (fun j j1 j2=>by
      match j,j1 with
      | 0,_=>exact SeqAt.EqAt.int_int m t m' t'
      | 1,_=>exact SeqAt.EqAt.int_int n u n' u')
    have e2:((List.range (min (#[Value.int m t,.int n u]:Array Value).size (#[Value.int m' t',.int n' u']:Array Value).size)).all (fun j=>if j = 0 then m == m' else n == n') && (#[Value.int m t,.int n u]:Array Value).size == (#[Value.int m' t',.int n' u']:Array Value).size) = decide (m = m'∧n = n'):=by
      show (((List.range 2).all fun j=>if j = 0 then m == m' else n == n') && true) = _
      rw [show List.range 2 = [0,1] from rfl,Bool.and_true]
      show ((m == m') && ((n == n') && true)) = _
      rw [Bool.and_true,Bool.eq_iff_iff]
      simp
    rw [e2] at r
    exact r
theorem lex_int (a:Int) (t:Tok) (c:Int) (u:Tok) {vs ws:List Value} {r:Bool} (h:Lex A s vs ws r):Lex A s (.int a t :: vs) (.int c u :: ws) (if a = c then r else ltI a c):=by
  have he:=SeqAt.EqAt.int_int (A:=A) (s:=s) a t c u
  by_cases e:a = c
  · rw [if_pos e]
    rw [show (a == c) = true by simpa using e] at he
    exact .eq he h
  · rw [if_neg e]
    rw [show (a == c) = false by simpa using e] at he
    exact .lt he (LtAt.int a t c u)
theorem lex_str (a:Str) (t:Tok) (c:Str) (u:Tok) {vs ws:List Value} {r:Bool} (h:Lex A s vs ws r):Lex A s (.str a t :: vs) (.str c u :: ws) (if a = c then r else ltStr a c):=by
  have he:=SeqAt.EqAt.str_str (A:=A) (s:=s) a t c u
  by_cases e:a = c
  · rw [if_pos e]
    rw [show (a == c) = true by simpa using e] at he
    exact .eq he h
  · rw [if_neg e]
    rw [show (a == c) = false by simpa using e] at he
    exact .lt he (LtAt.str a t c u)
theorem lex_pair {b c:Addr} {m n m' n':Int} {t u t' u':Tok} (h1:IsTup s.heap b #[.int m t,.int n u]) (h2:IsTup s.heap c #[.int m' t',.int n' u']) (hu:A.units + 2 < cLine):Lex A s [.ref b] [.ref c] (lex2 ltI ltI (m,n) (m',n')):=by
  have he:=eq_ints2 (A:=A) h1 h2 (by omega)
  by_cases e:m = m'∧n = n'
  · rw [decide_eq_true e] at he
    obtain ⟨rfl,rfl⟩:=e
    rw [(stoI.lex stoI).irr]
    exact .eq he .nn
  · rw [decide_eq_false e] at he
    refine .lt he (lt_tup h1 h2 ?_ (by omega))
    show Lex A.in1 s [.int m t,.int n u] [.int m' t',.int n' u'] (if m = m' then ltI n n' else ltI m m')
    have:=lex_int (A:=A.in1) (s:=s) m t m' t' (lex_int n u n' u' (.nn))
    by_cases e2:m = m'
    · rw [if_pos e2] at this ⊢
      rw [if_neg (fun z=>e ⟨e2,z⟩)] at this
      exact this
    · rw [if_neg e2] at this ⊢; exact this
end
end HT
namespace L2
open PySem PySem.Spec PySem.W PyProof.Rows HT
theorem perm_getD {α:Type} (L:List α) (d:α) {p:List Nat} (h:p.Perm (List.range L.length)):(p.map fun i=>L.getD i d).Perm L:=by
  have h1:=h.map fun i=>L.getD i d
  have e:(List.range L.length).map (fun i=>L.getD i d) = L:=by
    refine List.ext_getElem? fun i=>?_
    rw [List.getElem?_map]
    by_cases hi:i < L.length
    · rw [List.getElem?_range hi,List.getElem?_eq_getElem hi]
      show some (L.getD i d) = _
      rw [List.getD_eq_getElem?_getD,List.getElem?_eq_getElem hi]; rfl
    · rw [List.getElem?_eq_none (by rw [List.length_range]; omega),List.getElem?_eq_none (by omega)]; rfl
  rwa [e] at h1
theorem sorted_getD {α:Type} {L:List α} {d:α} {lt:α→α→Bool} {p:Array Nat} (pm:PmN L.length p) (so:SoT (fun i j=>lt (L.getD i d) (L.getD j d)) p L.length):(p.toList.map fun i=>L.getD i d).Pairwise fun e e'=>lt e' e = false:=by
  rw [List.pairwise_iff_getElem]
  intro i j hi hj hij
  rw [List.length_map,Array.length_toList] at hi hj
  have hz:=pm.size
  have at_:∀ k (hk:k < p.size),pat p k = p.toList[k]'(by rw [Array.length_toList]; exact hk):=fun k hk=>by
    unfold pat
    rw [Array.getD_eq_getD_getElem?,getElem?_pos p k hk,Array.getElem_toList]; rfl
  have:=so i j (by omega) (by omega)
  rw [at_ i hi,at_ j hj] at this
  rw [List.getElem_map,List.getElem_map]
  exact this
structure TupE (κ:Type) where
  a:Addr
  x:Str
  rest:List V
  key:κ
section
variable {X:Cx} {κ:Type}
theorem vals_tupE:∀ {L:List (TupE κ)} {us:List Value},Vals (L.map fun e=>V.ref e.a) us→us = L.map fun e=>Value.ref e.a
  | [],_,r=>by cases r; rfl
  | e :: L,_,r=>by
    cases r with
    | cons r1 r2 =>
      rw [List.map_cons,vals_tupE r2,show _ = Value.ref e.a from r1]
theorem tupE_vals:∀ (L:List (TupE κ)),Vals (L.map fun e=>V.ref e.a) (L.map fun e=>Value.ref e.a)
  | []=>.nil
  | e :: L=>.cons rfl (tupE_vals L)
theorem call_sortedTup [DecidableEq κ] {lt:κ→κ→Bool} (S:Sto lt) (dk:κ):CallR X (.builtin "sorted") (fun xs H Q=>∃ (p:Addr) (L:List (TupE κ)) (R:TupE κ→TupE κ→Bool),xs = [.ref p]∧SqL X.K H p (L.map fun e=>V.ref e.a)∧L.length < 64∧(∀ e∈L,SqT X.K H e.a (.str e.x :: e.rest)) ∧
    (∀ (pins:List (Addr × Obj)) (σ:St) (s:Shared),Inv X pins σ H s→∀ e∈L,∀ e'∈L,∀ us us':List Value,Vals e.rest us→Vals e'.rest us'→∀ h',Grown s.heap h'→Lex X.A.in1.in1 { s with heap:=h' } us us' (R e e')) ∧
    (∀ e∈L,∀ e'∈L,lt e.key e'.key = if e.x = e'.x then R e e' else ltStr e.x e'.x) ∧
    ∀ (l:Addr) (L':List (TupE κ)),H l = none→L'.Perm L→(L'.Pairwise fun e e'=>lt e'.key e.key = false)→Q (.ref l) (upd H l (.lst (L'.map fun e=>V.ref e.a)))):=by
  intro pins s σ H xs us Q I r h
  obtain ⟨p,L,R,rfl,hq,h64,hT,hR,hK,q⟩:=h
  obtain ⟨u,rfl,rx⟩:=vals1 r
  cases (show u = Value.ref p from rx)
  obtain ⟨its,rv,pl,hz⟩:=I.list hq
  cases vals_tupE rv
  have d:TupE κ:=⟨0,"",[],dk⟩
  have gt:∀ i,i < L.length→L.getD i d∈L:=fun i hi=>by
    rw [List.getD_eq_getElem?_getD,List.getElem?_eq_getElem hi]; exact List.getElem_mem hi
  have lz:(L.map fun e=>Value.ref e.a).length = L.length:=List.length_map _
  have ex:∀ i,∃ us:List Value,i < L.length→∃ t,Vals (L.getD i d).rest us∧IsTup s.heap (L.getD i d).a (Value.str (L.getD i d).x t :: us).toArray:=fun i=>by
    by_cases hi:i < L.length
    · obtain ⟨its,r,tp,_⟩:=I.tuple (hT _ (gt i hi))
      cases r with
      | cons r1 r2 =>
        obtain ⟨t,rfl⟩:=r1
        exact ⟨_,fun _=>⟨t,r2,tp⟩⟩
    · exact ⟨[],fun h=>absurd h hi⟩
  obtain ⟨rs,hrs⟩:=Classical.skolem.mp ex
  refine sorted_any pl.isList (S.ok fun i=>(L.getD i d).key) (by omega) (fun h2 h' g=>?_) fun pp pm so=>?_
  · refine asks_tups (s:={ s with heap:=h' }) (hd:=fun i=>(L.getD i d).x) (rs:=rs) (r:=fun i j=>R (L.getD i d) (L.getD j d)) h2 (fun i hi=>?_) (fun i j hi hj=>?_) (fun i j hi hj=>?_)
    · rw [lz] at hi
      obtain ⟨t,_,tp⟩:=hrs i hi
      refine ⟨(L.getD i d).a,t,?_,tp.keeps g⟩
      rw [List.getElem?_map,List.getD_eq_getElem?_getD,List.getElem?_eq_getElem hi]; rfl
    · rw [lz] at hi hj
      obtain ⟨_,v1,_⟩:=hrs i hi
      obtain ⟨_,v2,_⟩:=hrs j hj
      exact hR pins σ s I _ (gt i hi) _ (gt j hj) _ _ v1 v2 h' g
    · rw [lz] at hi hj
      exact hK _ (gt i hi) _ (gt j hj)
  · rw [lz] at pm so
    have e1:inOrder (L.map fun e=>Value.ref e.a) pp = ((pp.toList.map fun i=>L.getD i d).map fun e=>Value.ref e.a).toArray:=by
      unfold inOrder
      congr 1
      rw [List.map_map]
      refine List.map_congr_left fun i hi=>?_
      have hi':i < L.length:=List.mem_range.mp (pm.mem_iff.mp hi)
      show (L.map fun e=>Value.ref e.a).getD i Value.none = Value.ref (L.getD i d).a
      rw [List.getD_eq_getElem?_getD,List.getElem?_map,List.getD_eq_getElem?_getD,List.getElem?_eq_getElem hi']; rfl
    rw [e1]
    have p1:=perm_getD L d pm
    have p2:=sorted_getD (lt:=fun e e'=>lt e.key e'.key) pm so
    generalize pp.toList.map (fun i=>L.getD i d) = L' at p1 p2
    obtain ⟨e,he⟩:=sortedAll_at s.heap (L.map fun e=>Value.ref e.a) (L'.map fun e=>Value.ref e.a).toArray
    have fresh:H (s.heap.objs.size + 1) = none:=I.hok.fresh (Nat.le_succ _)
    have hl2:=p1.length_eq
    refine ⟨.ref (s.heap.objs.size + 1),upd H (s.heap.objs.size + 1) (.lst (L'.map fun e=>V.ref e.a)),I.laid (t':=s.toks) (fun b o eb=>sortedAll_old eb) (Nat.le_succ _) ⟨?_,L'.map fun e=>Value.ref e.a,e,tupE_vals L',?_⟩,rfl,q _ L' fresh p1 p2⟩
    · rw [List.length_map]; exact Nat.le_of_lt (small1000 (by omega))
    · rw [he]
end
end L2
namespace L2
open PySem PySem.Spec PySem.W PyProof.Rows HT
def TrE (H:Hp) (e:TupE (Str × Str × Int × Int)):Prop:=e.x = e.key.1∧∃ l,e.rest = [.str e.key.2.1,.ref l]∧H e.a = some (.tup [.str e.key.1,.str e.key.2.1,.ref l])∧H l = some (.tup [.int e.key.2.2.1,.int e.key.2.2.2])
section
variable {X:Cx}
theorem call_sortedTr (hu:X.A.units + 64 < cLine):CallR X (.builtin "sorted") (fun xs H Q=>∃ (p:Addr) (L:List (TupE (Str × Str × Int × Int))),xs = [.ref p]∧SqL X.K H p (L.map fun e=>V.ref e.a)∧L.length < 64∧(∀ e∈L,TrE H e) ∧
    ∀ (l:Addr) (L':List (TupE (Str × Str × Int × Int))),H l = none→L'.Perm L→(L'.Pairwise fun e e'=>trLt e'.key e.key = false)→Q (.ref l) (upd H l (.lst (L'.map fun e=>V.ref e.a)))):=by
  intro pins s σ H xs us Q I r h
  obtain ⟨p,L,rfl,hq,h64,hT,q⟩:=h
  refine call_sortedTup stoTr ("","",0,0) pins s σ H [.ref p] us Q I r ⟨p,L,fun e e'=>lex2 ltStr (lex2 ltI ltI) e.key.2 e'.key.2,rfl,hq,h64,fun e he=>?_,fun pins σ s I e he e' he' us us' r1 r2 h' g=>?_,fun e he e' he'=>?_,q⟩
  · obtain ⟨e1,l,e2,e3,_⟩:=hT e he
    rw [e1,e2]; exact SqT.of e3
  · obtain ⟨_,l,e2,_,e4⟩:=hT e he
    obtain ⟨_,l',g2,_,g4⟩:=hT e' he'
    rw [e2] at r1
    rw [g2] at r2
    cases r1 with
    | cons a1 a2 =>
      cases a2 with
      | cons b1 b2 =>
        cases b2
        cases r2 with
        | cons c1 c2 =>
          cases c2 with
          | cons d1 d2 =>
            cases d2
            obtain ⟨t,rfl⟩:=a1
            obtain ⟨t',rfl⟩:=c1
            cases b1
            cases d1
            obtain ⟨its,v1,p1,_⟩:=I.tuple (SqT.of e4)
            obtain ⟨its',v2,p2,_⟩:=I.tuple (SqT.of g4)
            cases v1 with
            | cons i1 i2 =>
              cases i2 with
              | cons i3 i4 =>
                cases i4
                cases v2 with
                | cons j1 j2 =>
                  cases j2 with
                  | cons j3 j4 =>
                    cases j4
                    obtain ⟨m1,rfl⟩:=i1
                    obtain ⟨m2,rfl⟩:=i3
                    obtain ⟨m3,rfl⟩:=j1
                    obtain ⟨m4,rfl⟩:=j3
                    have:=lex_str (A:=X.A.in1.in1) (s:={ s with heap:=h' }) e.key.2.1 t e'.key.2.1 t' (lex_pair (p1.keeps g) (p2.keeps g) (by show X.A.units + 1 + 1 + 2 < cLine; omega))
                    exact this
  · obtain ⟨e1,_⟩:=hT e he
    obtain ⟨g1,_⟩:=hT e' he'
    rw [e1,g1]; rfl
end
end L2
namespace K27
open PySem L2
section
variable {P:Program} {w:World} {K:PySem.W.Frag} {mg:Str→Option Value} {base:Heap}
def top (i:Nat):Stmt:=PySem.Challenge.pw_rowtrim_k27_whole_pieces_told_late.main.body.getD i (.Pass ⟨0,0,0,0⟩)
abbrev sWhole:Stmt:=top 10
abbrev sName:Stmt:=top 11
structure Txt (mg:Str→Option Value):Prop where
  ValueError:mg "ValueError" = none
  abs:mg "abs" = none
  all:mg "all" = none
  any:mg "any" = none
  bool:mg "bool" = none
  enum:mg "enumerate" = none
  int:mg "int" = none
  isi:mg "isinstance" = none
  len:mg "len" = none
  list:mg "list" = none
  max:mg "max" = none
  min:mg "min" = none
  range:mg "range" = none
  sorted:mg "sorted" = none
  str:mg "str" = none
  sum:mg "sum" = none
  tuple:mg "tuple" = none
  zip:mg "zip" = none
  LN:∃ t,mg "LONGEST_NAME" = some (.int 8 t)
  MC:∃ t,mg "MOST_IN_CREW" = some (.int 4 t)
  LG:∃ t,mg "LONGEST" = some (.int 1000000000 t)
def Df (P:Program) (w:World) (K:PySem.W.Frag) (mg:Str→Option Value) (base:Heap) (k:Nat) (x:Str) (ps:List Str) (sp:Sp):Prop :=
  ∃ f fd,FnOk P w K mg base CX0 k f fd ps sp∧Binds K fd ps []∧PySem.W.keepIn K (.ref f) = true∧mg x = some (.ref f)
theorem pe_df {X:Cx} {k:Nat} {x:Str} {ps:List Str} {sp:Sp} {e:Expr} {es:List Expr} {t:TA} {p pos:Pos} (D:Df X.prog X.w X.K X.mg X.base k x ps sp) (hr:Room k X.A) (ha:PA X (e :: es) t) (hg:Gl X x:=by rfl) (hdb:(x == ("__debug__":Str)) = false:=by decide)
    (he:starEach (e :: es) X.env = (false,eval e X.env) :: starEach es X.env:=by rfl) (hpl:(backTo pos (starEach es X.env)).any (·.1) = false:=by rfl):PE X (.Call (.Name x p) (e :: es) [] pos) (tCall sp [] E0 t):=by
  obtain ⟨f,fd,F,b,kp,m⟩:=D
  exact pe_call F hr hg m kp b .nil pass0 ha hdb he hpl
def spP (p:PyData→Bool):Sp:=fun vs H Q _=>∃ k d v,vs = [v]∧Tells H k d v∧Fit d∧∀ H',Same H H'→Q (.bl (p d)) H'
def pWhole:PyData→Bool
  | .int _=>true
  | _=>false
theorem isT_whole (d:PyData):(isT d "int" && !isT d "bool") = pWhole d:=by cases d <;> rfl
theorem scW:FnScope ["thing"] ["thing"] (defScope sWhole):=⟨rfl,rfl,rfl,by decide +kernel,rfl,by decide +kernel,by decide +kernel⟩
theorem ok_whole {f:Addr} {fd:FuncData} (F:Fun K "is_whole" "is_whole" sWhole f fd) (T:Txt mg):FnOk P w K mg base CX0 1 f fd ["thing"] (spP pWhole):=by
  refine F.ok scW (fun vs H Q E h=>?_) (fun cdv A outer s H vs Q E hr h=>?_)
  · obtain ⟨k,d,v,rfl,_⟩:=h
    rfl
  · obtain ⟨k,d,v,rfl,t,_,q⟩:=h
    refine ⟨_,pss_one (ps_ret (pe_and (pe_callB call_isin rfl T.isi PyProof.Rows.boot_isinstance (pa_cons (pv 0) (pa_cons (pe_bltn (v:=.ty "int") rfl T.int PyProof.Rows.boot_int rfl) pa_nil)))
      (pe_one (pe_not (pe_callB call_isin rfl T.isi PyProof.Rows.boot_isinstance (pa_cons (pv 0) (pa_cons (pe_bltn (v:=.ty "bool") rfl T.bool PyProof.Rows.boot_bool rfl) pa_nil))))))),?_⟩
    refine ⟨_,rfl,k,_,_,d,rfl,t,.inl rfl,_,rfl,?_⟩
    have e:=isT_whole d
    refine ite2 (fun c=>?_) (fun c=>?_)
    · refine ⟨_,rfl,k,_,_,d,rfl,t,.inr (.inl rfl),_,rfl,?_⟩
      rw [c,Bool.true_and] at e
      rw [e]
      exact q H (Same.refl _)
    · rw [show isT d "int" = false by simpa using c,Bool.false_and] at e
      rw [e]
      exact q H (Same.refl _)
theorem BlkOk.closed {X:Cx} {scope:Scope} {N:List Str} (hk:scope.kind = .function) (h1:∀ y∈scope.names,y.2≠.cell) (h2:∀ y∈scope.names,y.2 = .local→scope.names.lookup y.1 = some .local) (h3:∀ y∈scope.names,y.2≠.free):BlkOk X scope N (N.map fun _=>none) :=
  ⟨hk,h1,h2,fun y hy e=>absurd e (h3 y hy),List.length_map _,fun i j x e _=>by
    rw [List.getElem?_map] at e
    cases h:N[i]? with
    | none=>rw [h] at e; cases e
    | some z=>rw [h] at e; cases e⟩
theorem nd1 (x:Str):([x]:List Str).Nodup:=by simp
def sgn (c:Nat):Bool:=(!decide ((⟨#[c]⟩:Str).cps.toList < ("a":Str).cps.toList)) && (!decide (("z":Str).cps.toList < (⟨#[c]⟩:Str).cps.toList))
def pName:PyData→Bool
  | .str x=>(decide (1≤(x.length:Int)) && decide ((x.length:Int)≤8)) && (x.cps.toList.map sgn).all id
  | _=>false
theorem isT_str {d:PyData} (h:isT d "str" = true):∃ x,d = .str x:=by
  cases d with
  | str x=>exact ⟨x,rfl⟩
  | none=>cases h
  | bool b=>cases h
  | int i=>cases h
  | list ds=>cases h
  | tuple ds=>cases h
  | dict kvs=>cases h
theorem its_str (x:Str) (i:Nat) (H:Hp) (hi:i≤x.cps.size):(i = x.cps.size→(Its x).stop i H)∧(i < x.cps.size→(Its x).go i H∧∀ y H',(Its x).yld i H y H'→H' = H∧y = .str ⟨#[x.cps.getD i 0]⟩):=by
  refine ⟨fun e=>e,fun e=>⟨e,fun y H' q=>?_⟩⟩
  obtain ⟨q1,c,q2,q3⟩:=q
  refine ⟨q1,?_⟩
  rw [q3]
  simp [Array.getD,e,(Array.getElem?_eq_some_iff.mp q2).2]
theorem take_getD {x:Str} {i:Nat} (h:i < x.cps.size):x.cps.toList.take (i + 1) = x.cps.toList.take i ++ [x.cps.getD i 0]:=by
  rw [List.take_add_one]
  congr 1
  simp [Array.getD,h]
theorem scN:FnScope ["thing"] ["thing"] (defScope sName):=⟨rfl,rfl,rfl,by decide +kernel,rfl,by decide +kernel,by decide +kernel⟩
theorem ok_name {f:Addr} {fd:FuncData} (F:Fun K "is_name" "is_name" sName f fd) (T:Txt mg):FnOk P w K mg base CX0 1 f fd ["thing"] (spP pName):=by
  refine F.ok scN (fun vs H Q E h=>?_) (fun cdv A outer s H vs Q E hr h=>?_)
  · obtain ⟨k,d,v,rfl,_⟩:=h
    rfl
  · obtain ⟨k,d,v,rfl,t,hf,q⟩:=h
    obtain ⟨tl,hLN⟩:=T.LN
    refine ⟨_,pss_cons (ps_if (PW.pt (pw_or (pt_not (pt_val (pe_callB call_isin rfl T.isi PyProof.Rows.boot_isinstance (pa_cons (pv 0) (pa_cons (pe_bltn (v:=.ty "str") rfl T.str PyProof.Rows.boot_str rfl) pa_nil)))))
        (pw_or1 (pt_not (pt_chain op_le op_le pe_int (pe_callB call_len_str rfl T.len PySem.boot_len (pa_cons (pv 0) pa_nil)) (pe_glob (v:=.int 8) rfl hLN ⟨tl,rfl⟩))))))
        (pss_one (ps_ret pe_bl)) pss_nil)
      (pss_one (ps_ret (pe_callB (call_all rfl) rfl T.all PyProof.Rows.boot_all (pa_cons (pe_lc (N:=["letter"]) rfl (pi_str (pv 0)) (BlkOk.closed rfl (by decide +kernel) (by decide +kernel) (by decide +kernel))
        (fun _ _ _=>pg_name (i:=0) (nd1 _) rfl (Or.inl rfl)) (fun _ _ _=>pts_nil) (fun _ _ _=>pe_chain op_le_str op_le_str pe_str (pv 0) pe_str)) pa_nil)))),?_⟩
    refine ⟨_,rfl,k,_,_,d,rfl,t,.inr (.inr (.inl rfl)),_,rfl,?_⟩
    refine ite2 (fun c=>?_) (fun c=>?_)
    · refine iteT ?_
      have e:pName d = false:=by
        cases d with
        | str x=>cases c
        | _=>rfl
      have:=q H (Same.refl _)
      rw [e] at this
      exact this
    · obtain ⟨x,rfl⟩:=isT_str (d:=d) (by simpa using c)
      rw [tells_str] at t
      subst t
      have hl:=Bd.strLen hf
      refine ⟨_,rfl,x,rfl,Nat.le_trans hl (by decide),_,_,rfl,rfl,_,rfl,?_⟩
      show if decide (1≤(x.length:Int)) = true then _ else _
      refine ite2 (fun c1=>?_) (fun c1=>?_)
      · refine ⟨_,_,rfl,rfl,_,rfl,?_⟩
        refine ite2 (fun c2=>?_) (fun c2=>?_)
        · have e:pName (.str x) = false:=by
            have c2':decide ((x.length:Int)≤8) = false:=by simpa using c2
            show ((decide (1≤(x.length:Int)) && decide ((x.length:Int)≤8)) && _) = false
            rw [c2',Bool.and_false,Bool.false_and]
          have:=q H (Same.refl _)
          rw [e] at this
          exact this
        · have c2':decide ((x.length:Int)≤8) = true:=by simpa using c2
          refine ⟨_,rfl,x,rfl,fun D hD=>?_⟩
          refine lc_map (J:=Its x) (n:=x.cps.size) (f:=fun i=>.str ⟨#[x.cps.getD i 0]⟩) (fun i ys σ' H'=>ys = ((x.cps.toList.take i).map sgn).map V.bl∧(∃ v,σ' = [v])∧H' = upd H D (.lst ys)) hD (by have:x.cps.size = x.length:=rfl; omega)
            ⟨rfl,⟨none,rfl⟩,rfl⟩ (fun i ys σ' H' hi _ _=>its_str x i H' hi) ?_ ?_
          · rintro i ys σ' H' hi hy ⟨e1,⟨v,rfl⟩,rfl⟩
            refine ⟨_,rfl,_,_,rfl,rfl,_,rfl,?_⟩
            have step:∀ b,sgn (x.cps.getD i 0) = b→(upd H D (.lst ys)) D = some (.lst ys)∧((ys ++ [V.bl b]) = ((x.cps.toList.take (i + 1)).map sgn).map V.bl∧(∃ v,([some (V.str ⟨#[x.cps.getD i 0]⟩)]:St) = [v])∧upd (upd H D (.lst ys)) D (.lst (ys ++ [V.bl b])) = upd H D (.lst (ys ++ [V.bl b]))):=fun b hb=>by
              refine ⟨hy,?_,⟨_,rfl⟩,upd_upd⟩
              rw [take_getD hi,e1,List.map_append,List.map_append,← hb]
              rfl
            refine ite2 (fun c3=>?_) (fun c3=>?_)
            · refine ⟨_,_,rfl,rfl,?_⟩
              refine step _ ?_
              show (_ && _) = _
              rw [c3,Bool.true_and]
            · refine step false ?_
              show (_ && _) = _
              rw [show (!decide ((⟨#[x.cps.getD i 0]⟩:Str).cps.toList < ("a":Str).cps.toList)) = false by simpa using c3,Bool.false_and]
          · rintro ys σ' H' hy ⟨e1,⟨v,rfl⟩,rfl⟩
            rw [List.take_of_length_le (by simp)] at e1
            refine ⟨D,(x.cps.toList.map sgn),rfl,SqL.of (by rw [hy,e1]),?_⟩
            have:=q (upd H D (.lst ys)) (same_new hD _)
            rw [show pName (.str x) = (x.cps.toList.map sgn).all id by
              show ((decide (1≤(x.length:Int)) && decide ((x.length:Int)≤8)) && _) = _
              rw [c1,c2',Bool.true_and,Bool.true_and]] at this
            exact this
      · refine ⟨_,rfl,iteT ?_⟩
        have e:pName (.str x) = false:=by
          have c1':decide (1≤(x.length:Int)) = false:=by simpa using c1
          show ((decide (1≤(x.length:Int)) && decide ((x.length:Int)≤8)) && _) = false
          rw [c1',Bool.false_and,Bool.false_and]
        have:=q H (Same.refl _)
        rw [e] at this
        exact this
theorem v_ne {x y:V} (h:(!decide (x = y)) = true):x≠y:=fun e=>by rw [decide_eq_true e] at h; cases h
theorem v_eq {x y:V} (h:¬ (!decide (x = y)) = true):x = y:=by
  by_cases e:x = y
  · exact e
  · exact absurd (by rw [decide_eq_false e]; rfl) h
def isS (a:Str):PyData→Bool
  | .str x=>x == a
  | _=>false
theorem eqv_isS (a:Str) (z:PyData):PyData.eqv z (.str a) = isS a z:=by cases z <;> simp [PyData.eqv,isS]
theorem dec_vint (i j:Int):decide (V.int i = V.int j) = decide (i = j):=by
  by_cases h:i = j
  · rw [decide_eq_true h,decide_eq_true (by rw [h])]
  · rw [decide_eq_false h,decide_eq_false (fun z=>h (by injection z))]
def namesD (ns:List Str):List PyData:=ns.map .str
theorem tells_names {H:Hp} {k:Addr}:∀ ns:List Str,TellsAll H k (namesD ns) (ns.map .str)
  | []=>tellsAll_nil.mpr rfl
  | n :: ns=>tellsAll_cons.mpr ⟨_,_,rfl,tells_str.mpr rfl,tells_names ns⟩
theorem any_names (ns:List Str) (x:Str):(namesD ns).any (fun z=>PyData.eqv z (.str x)) = decide (x∈ns):=by
  induction ns with
  | nil=>simp [namesD]
  | cons n ns ih =>
    unfold namesD at ih ⊢
    rw [List.map_cons,List.any_cons,ih,eqv_isS]
    by_cases h:n = x
    · subst h; simp [isS]
    · have h':¬ x = n:=fun z=>h z.symm
      have hb:(n == x) = false:=by simpa using h
      simp [isS,hb,h']
abbrev sDeck:Stmt:=top 36
abbrev sPick:Stmt:=top 37
structure DeckAt (H:Hp) (k:Addr) (c:Int):Prop where
  ex:∃ a b:Int,H k = some (.lst [.int a,.int b,.int c])∧0≤b∧b < 2147483648
  c0:0≤c
theorem op_fdivB {X:Cx}:OpR X (binaryOp .FloorDiv) (rI (fun _ j=>0 < j∧j < 2 ^ 200) fun i j=>.int (i / j)):=opI fun i j _ _ _ _ _ hc q=>by
  refine PyProof.Rows.floordiv_int (by omega) ?_ (.inl (PyProof.noPylong_of_log2 ?_))
  · rw [Int.fdiv_eq_ediv_of_nonneg i (by omega)]
    exact q
  · have:j.natAbs.log2 < 200:=int_log (by omega)
    omega
theorem scD:FnScope ["cell","turn"] ["cell","turn"] (defScope sDeck):=⟨rfl,rfl,rfl,by decide +kernel,rfl,by decide +kernel,by decide +kernel⟩
def spPick:Sp:=fun vs H Q _=>∃ (k:Addr) (c many:Int),vs = [.ref k,.int many]∧DeckAt H k c∧c≤100000∧0 < many∧many≤10000000000000 ∧
  ∀ (r c':Int) (H':Hp),Keep k H H'→DeckAt H' k c'→c'≤c + 1→0≤r→r < many→Q (.int r) H'
theorem scP:FnScope ["deck","many","found","number"] ["deck","many"] (defScope sPick):=⟨rfl,rfl,rfl,by decide +kernel,rfl,by decide +kernel,by decide +kernel⟩
theorem ok_pick {f:Addr} {fd:FuncData} (F:Fun K "_law_pick" "_law_pick" sPick f fd):FnOk P w K mg base CX0 1 f fd ["deck","many"] spPick:=by
  refine F.ok scP (fun vs H Q E h=>?_) (fun cdv A outer s H vs Q E hr h=>?_)
  · obtain ⟨k,c,many,rfl,_⟩:=h
    rfl
  · obtain ⟨k,c,many,rfl,⟨⟨a,b,hk,b0,b1⟩,c0⟩,c1,m0,m1,q⟩:=h
    refine ⟨_,pss_cons (ps_if (pt_cmpR op_gt (pe_ix ix_list (pv 0) pe_int (fun _ _=>rfl)) pe_int (nomark _))
        (pss_cons (ps_set (i:=2) scP.nd rfl (Or.inl rfl) (pe_op op_mod (pe_ix ix_list (pv 0) pe_int (fun _ _=>rfl)) (pv 1)))
        (pss_cons (ps_asg (pe_op op_fdivB (pe_ix ix_list (pv 0) pe_int (fun _ _=>rfl)) (pv 1)) (pg_sub (pv 0) pe_int set_list))
        (pss_one (ps_ret (pv 2))))) pss_nil)
      (pss_cons (ps_asg (pe_op op_add (pe_ix ix_list (pv 0) pe_int (fun _ _=>rfl)) pe_int) (pg_sub (pv 0) pe_int set_list))
      (pss_cons (ps_set (i:=3) scP.nd rfl (Or.inl rfl) (pe_op op_mod (pe_op op_pow (pe_op op_add (pe_ix ix_list (pv 0) pe_int (fun _ _=>rfl)) (pe_op op_mul pe_int (pe_ix ix_list (pv 0) pe_int (fun _ _=>rfl)))) pe_int) pe_int))
      (pss_cons (ps_set (i:=2) scP.nd rfl (Or.inl rfl) (pe_op op_fdiv (pe_op op_mod (pe_op op_pow (pe_op op_add (pv 3) (pe_op op_mul pe_int (pe_ix ix_list (pv 0) pe_int (fun _ _=>rfl)))) pe_int) pe_int) pe_int))
      (pss_cons (ps_if (pt_cmpR op_gt (pv 1) pe_int (nomark _)) (pss_one (ps_ret (pe_op op_mod (pe_op op_add (pe_op op_mul (pv 2) pe_int) (pv 3)) (pv 1)))) pss_nil)
      (pss_one (ps_ret (pe_op op_mod (pv 2) (pv 1)))))))),?_⟩
    refine ⟨_,rfl,k,_,0,_,rfl,rfl,SqL.of hk,atI_nat (j:=0) rfl,_,_,rfl,rfl,_,rfl,?_⟩
    refine ite2 (fun c2=>?_) (fun c2=>?_)
    · refine ⟨_,rfl,k,_,0,_,rfl,rfl,SqL.of hk,atI_nat (j:=0) rfl,_,rfl,_,_,rfl,rfl,m0,?_⟩
      refine ⟨_,rfl,k,_,0,_,rfl,rfl,SqL.of hk,atI_nat (j:=0) rfl,_,rfl,_,_,rfl,rfl,⟨m0,by omega⟩,?_⟩
      refine ⟨_,rfl,k,_,0,0,rfl,rfl,hk,rfl,?_⟩
      refine ⟨_,rfl,q _ c _ (Keep.at _) ⟨⟨_,_,upd_same,b0,b1⟩,c0⟩ (by omega) (Int.emod_nonneg _ (by omega)) (Int.emod_lt_of_pos _ m0)⟩
    · refine ⟨_,rfl,k,_,2,_,rfl,rfl,SqL.of hk,atI_nat (j:=2) rfl,_,_,rfl,rfl,?_⟩
      refine ⟨_,rfl,k,_,2,2,rfl,rfl,hk,rfl,?_⟩
      have hk2:(upd H k (.lst [.int a,.int b,.int (c + 1)])) k = some (.lst [.int a,.int b,.int (c + 1)]):=upd_same
      show tSeq _ _ _ _ (upd H k (.lst [.int a,.int b,.int (c + 1)]))
      have kp:Keep k H (upd H k (.lst [.int a,.int b,.int (c + 1)])):=Keep.at _
      generalize upd H k (.lst [.int a,.int b,.int (c + 1)]) = H2 at *
      have fin:∀ r:Int,0≤r→r < many→Q (.int r) H2:=fun r h1 h2=>q r (c + 1) H2 kp ⟨⟨_,_,hk2,b0,b1⟩,by omega⟩ (Int.le_refl _) h1 h2
      refine ⟨_,rfl,k,_,1,_,rfl,rfl,SqL.of hk2,atI_nat (j:=1) rfl,_,rfl,k,_,2,_,rfl,rfl,SqL.of hk2,atI_nat (j:=2) rfl,_,_,rfl,rfl,.inl ⟨by decide,by decide⟩,_,_,rfl,rfl,_,_,rfl,rfl,⟨by decide,by decide,?_⟩,_,_,rfl,rfl,by show (0:Int) < 2147483647; decide,?_⟩
      · omega
      · generalize hN:(b + 15485867 * (c + 1)) ^ (5:Int).toNat % 2147483647 = number
        have n0:0≤number:=by rw [← hN]; exact Int.emod_nonneg _ (by decide)
        have n1:number < 2147483647:=by rw [← hN]; exact Int.emod_lt_of_pos _ (by decide)
        refine ⟨_,rfl,_,rfl,k,_,2,_,rfl,rfl,SqL.of hk2,atI_nat (j:=2) rfl,_,_,rfl,rfl,.inl ⟨by decide,by decide⟩,_,_,rfl,rfl,_,_,rfl,rfl,⟨by decide,by decide,?_⟩,_,_,rfl,rfl,by show (0:Int) < 2147483629; decide,_,_,rfl,rfl,⟨by decide,by decide⟩,?_⟩
        · omega
        · generalize hF:(number + 7919 * (c + 1)) ^ (3:Int).toNat % 2147483629 / 32 = found
          have f0:0≤found∧found < 2147483629:=by
            have e0:0≤(number + 7919 * (c + 1)) ^ (3:Int).toNat % 2147483629:=Int.emod_nonneg _ (by decide)
            have e1:(number + 7919 * (c + 1)) ^ (3:Int).toNat % 2147483629 < 2147483629:=Int.emod_lt_of_pos _ (by decide)
            rw [← hF]
            omega
          refine ⟨_,rfl,_,_,rfl,rfl,_,rfl,?_⟩
          refine ite2 (fun c3=>?_) (fun c3=>?_)
          · exact ⟨_,rfl,_,_,rfl,rfl,.inl ⟨by omega,by omega⟩,_,rfl,_,_,rfl,rfl,_,rfl,_,_,rfl,rfl,m0,fin _ (Int.emod_nonneg _ (by omega)) (Int.emod_lt_of_pos _ m0)⟩
          · exact ⟨_,rfl,_,rfl,_,_,rfl,rfl,m0,fin _ (Int.emod_nonneg _ (by omega)) (Int.emod_lt_of_pos _ m0)⟩
def okN (n:Str):Prop:=n.length≤100∧PyData.strOk n = true∧pName (.str n) = true
theorem DeckAt.keep {H H':Hp} {k:Addr} {c:Int} (h:DeckAt H k c) (e:∀ o,H k = some o→H' k = some o):DeckAt H' k c:=by
  obtain ⟨⟨a,b,h1,h2⟩,c0⟩:=h
  exact ⟨⟨a,b,e _ h1,h2⟩,c0⟩
theorem DeckAt.some {H:Hp} {k:Addr} {c:Int} (h:DeckAt H k c):∃ o,H k = some o:=let ⟨⟨_,_,h1,_⟩,_⟩:=h; ⟨_,h1⟩
theorem pa_texts {X:Cx}:∀ {es:List Expr} {vs:List V},Paired (fun (e:Expr) (v:V)=>∃ x j p,e = .Constant (.str x) j p∧v = .str x) es vs→PA X es (fun _ H Q=>Q vs H)
  | _,_,.nil=>pa_nil
  | _,_,.cons (a:=e) (b:=v) (l₁:=es) (l₂:=vs) ⟨x,j,p,he,hv⟩ r=>by
    subst he hv
    exact fun pos pins s σ H Q I h=>pa_cons pe_str (pa_texts r) rfl pos pins s σ H Q I h
def RowAt (H:Hp) (k:Addr) (d:PyData) (v:V):Prop:=∃ (p:Addr) (n s:Str) (w:Int),v = .ref p∧p≠k∧H p = some (.tup [.str n,.str s,.int w])∧d = .tuple [.str n,.str s,.int w]∧okN n∧okN s∧0≤w∧w≤2000000
def RowsAt (H:Hp) (k:Addr) (ds:List PyData) (us:List V):Prop:=us.length = ds.length∧∀ (i:Nat) d v,ds[i]? = some d→us[i]? = some v→RowAt H k d v
def KeepT (k:Addr) (H H':Hp):Prop:=∀ b xs,b≠k→H b = some (.tup xs)→H' b = some (.tup xs)
theorem RowAt.keep {H H':Hp} {k:Addr} {d:PyData} {v:V} (K:KeepT k H H') (h:RowAt H k d v):RowAt H' k d v:=by
  obtain ⟨p,n,s,w,h1,h2,h3,h4⟩:=h
  exact ⟨p,n,s,w,h1,h2,K _ _ h2 h3,h4⟩
theorem RowsAt.keep {H H':Hp} {k:Addr} {ds:List PyData} {us:List V} (K:KeepT k H H') (h:RowsAt H k ds us):RowsAt H' k ds us:=⟨h.1,fun i d v e1 e2=>(h.2 i d v e1 e2).keep K⟩
theorem RowAt.tells {H:Hp} {k:Addr} {d:PyData} {v:V} (h:RowAt H k d v):Tells H k d v:=by
  obtain ⟨p,n,s,w,rfl,h2,h3,rfl,_⟩:=h
  exact tells_tuple.mpr ⟨p,_,rfl,h2,h3,tellsAll_cons.mpr ⟨_,_,rfl,tells_str.mpr rfl,tellsAll_cons.mpr ⟨_,_,rfl,tells_str.mpr rfl,tellsAll_one (tells_int.mpr rfl)⟩⟩⟩
theorem tellsAll_of {H:Hp} {k:Addr}:∀ {ds:List PyData} {us:List V},us.length = ds.length→(∀ (i:Nat) d v,ds[i]? = some d→us[i]? = some v→Tells H k d v)→TellsAll H k ds us
  | [],us,h,_=>tellsAll_nil.mpr (List.length_eq_zero_iff.mp (by simpa using h))
  | d :: ds,[],h,_=>by simp at h
  | d :: ds,v :: us,h,f=>tellsAll_cons.mpr ⟨v,us,rfl,f 0 d v rfl rfl,tellsAll_of (by simpa using h) fun i e x e1 e2=>f (i + 1) e x (by simpa using e1) (by simpa using e2)⟩
theorem RowsAt.tells {H:Hp} {k:Addr} {ds:List PyData} {us:List V} (h:RowsAt H k ds us):TellsAll H k ds us:=tellsAll_of h.1 fun i d v e1 e2=>(h.2 i d v e1 e2).tells
theorem DeckAt.ne {H:Hp} {k p:Addr} {c:Int} (h:DeckAt H k c) (hp:H p = none):k≠p:=fun z=>by obtain ⟨o,ho⟩:=h.some; rw [z,hp] at ho; cases ho
theorem DeckAt.new {H:Hp} {k p:Addr} {c:Int} {o:HO} (h:DeckAt H k c) (hp:H p = none):DeckAt (upd H p o) k c:=h.keep fun u e=>by rw [upd_ne (h.ne hp)]; exact e
theorem none_of_keep {k p:Addr} {H H':Hp} (kk:Keep k H H') (n:p≠k) (h:H' p = none):H p = none:=by
  cases e:H p with
  | none=>rfl
  | some o=>rw [kk p o n e] at h; cases h
theorem atI_lt {α:Type} {xs:List α} {i:Int} (h0:0≤i) (h1:i < xs.length):∃ h:i.toNat < xs.length,atI xs i = some xs[i.toNat]:=by
  have h2:i.toNat < xs.length:=by omega
  have e:i = ((i.toNat:Nat):Int):=by omega
  refine ⟨h2,?_⟩
  have:=atI_nat (j:=i.toNat) (List.getElem?_eq_getElem h2)
  rw [← e] at this
  exact this
theorem map_insert (ss:List Str) (i:Nat) (x:Str):(ss.map V.str).take i ++ V.str x :: (ss.map V.str).drop i = (ss.take i ++ x :: ss.drop i).map V.str:=by
  rw [List.map_append,List.map_cons,List.map_take,List.map_drop]
theorem len_insert (ss:List Str) {i:Nat} (x:Str) (h:i≤ss.length):(ss.take i ++ x :: ss.drop i).length = ss.length + 1:=by
  simp only [List.length_append,List.length_take,List.length_cons,List.length_drop]
  omega
theorem ok_insert {ss:List Str} {x:Str} (i:Nat) (h:∀ s∈ss,okN s) (hx:okN x):∀ s∈ss.take i ++ x :: ss.drop i,okN s:=by
  intro s hs
  rcases List.mem_append.mp hs with hs | hs
  · exact h s (List.mem_of_mem_take hs)
  · rcases List.mem_cons.mp hs with rfl | hs
    · exact hx
    · exact h s (List.mem_of_mem_drop hs)
def wT:Nat→Nat
  | 0=>4
  | n + 1=>1 + wT n * 3
theorem itr_steps (n:Nat) (i:Nat) (H:Hp) (hi:i≤n):(i = n→(Itr 0 n).stop i H)∧(i < n→(Itr 0 n).go i H∧∀ x H',(Itr 0 n).yld i H x H'→H' = H∧x = .int i):=by
  refine ⟨fun e=>by show n≤i; omega,fun e=>⟨e,fun x H' y=>?_⟩⟩
  obtain ⟨e1,e2⟩:=y
  refine ⟨e1,?_⟩
  rw [e2,Int.zero_add]
def LeafV (x:V):Prop:=∃ d:PyData,Bd 1 0 d∧∀ (H:Hp) (k:Addr),Tells H k d x
def LeafL:List V→Prop
  | []=>True
  | x :: xs=>LeafV x∧LeafL xs
theorem leaf_all:∀ {xs:List V},LeafL xs→∃ ds:List PyData,ds.length = xs.length∧(∀ d∈ds,Bd 1 0 d)∧∀ (H:Hp) (k:Addr),TellsAll H k ds xs
  | [],_=>⟨[],rfl,by simp,fun _ _=>tellsAll_nil.mpr rfl⟩
  | x :: xs,⟨⟨d,h1,h2⟩,h⟩=>by
    obtain ⟨ds,e1,e2,e3⟩:=leaf_all h
    refine ⟨d :: ds,by simp [e1],fun z hz=>?_,fun H k=>tellsAll_cons.mpr ⟨x,xs,rfl,h2 H k,e3 H k⟩⟩
    rcases List.mem_cons.mp hz with rfl | hz
    · exact h1
    · exact e2 z hz
def FlatO (o:HO):Prop:=∃ xs,LeafL xs∧xs.length≤5∧(o = .tup xs∨o = .lst xs)
def FlatAt (H0 H:Hp) (u:V):Prop:=∃ p o,u = .ref p∧H0 p = none∧H p = some o∧FlatO o
theorem ll {x:V} {xs:List V} (h:LeafV x) (hs:LeafL xs):LeafL (x :: xs):=⟨h,hs⟩
theorem FlatAt.tells {H0 H:Hp} {u:V} (h:FlatAt H0 H u):∃ d,Bd 6 1 d∧∀ k o,H0 k = some o→Tells H k d u:=by
  obtain ⟨p,o,rfl,hp,ho,xs,hl,h5,e⟩:=h
  obtain ⟨ds,e1,e2,e3⟩:=leaf_all hl
  rcases e with rfl | rfl
  · exact ⟨.tuple ds,Bd.tuple (m:=5) e2 (by omega),fun k o hk=>tells_tuple.mpr ⟨p,xs,rfl,(ne_of_none hk hp).symm,ho,e3 _ _⟩⟩
  · exact ⟨.list ds,Bd.list (m:=5) e2 (by omega),fun k o hk=>tells_list.mpr ⟨p,xs,rfl,(ne_of_none hk hp).symm,ho,e3 _ _⟩⟩
theorem FlatAt.back {H0 H1 H:Hp} {u:V} (h:FlatAt H1 H u) (s:Same H0 H1):FlatAt H0 H u:=by
  obtain ⟨p,o,h1,h2,h3,h4⟩:=h
  refine ⟨p,o,h1,?_,h3,h4⟩
  cases e:H0 p with
  | none=>rfl
  | some x=>rw [s _ _ e] at h2; cases h2
theorem FlatAt.keep {H0 H H':Hp} {k:Addr} {u:V} (h:FlatAt H0 H u) (K:Keep k H H') (hk:∃ o,H0 k = some o):FlatAt H0 H' u:=by
  obtain ⟨p,o,h1,h2,h3,h4⟩:=h
  obtain ⟨o',ho'⟩:=hk
  exact ⟨p,o,h1,h2,K _ _ (ne_of_none ho' h2).symm h3,h4⟩
theorem seq_asg {te:TE} {g:TG} {u:TS} {D:Ends} {σ:St} {H:Hp} (h:te σ H fun x H1=>g x σ H1 (u D)):tSeq (tAsg te g) u D σ H:=h
structure Stands (K:PySem.W.Frag) (x:Str) (st:Stmt) (f:Addr):Prop where
  a:PySem.W.nsIn K mainGlobals x = some (some (.ref f))
  ex:∃ (oc:Value) (od:Option Addr) (kV doc pm:Value) (an:Option Addr) (cdv ct:Value) (osl:Array (Option Value)),
    K.lookup f = some ⟨oc,od,.func (PySem.W.fnOf x x (defArgs st) (defBody st) (defScope st) .none kV doc pm an cdv ct),osl⟩∧PySem.W.codeIn K cdv x = true
  k:PySem.W.keepIn K (.ref f) = true
theorem stands {K:PySem.W.Frag} {x:Str} {st:Stmt} {f:Addr} {oc:Value} {od:Option Addr} {kV doc pm:Value} {an:Option Addr} {cdv ct:Value} {osl:Array (Option Value)}
    (a:PySem.W.nsIn K mainGlobals x = some (some (.ref f))) (l:K.lookup f = some ⟨oc,od,.func (PySem.W.fnOf x x (defArgs st) (defBody st) (defScope st) .none kV doc pm an cdv ct),osl⟩) (c:PySem.W.codeIn K cdv x = true) (k:PySem.W.keepIn K (.ref f) = true):Stands K x st f :=
  ⟨a,⟨oc,od,kV,doc,pm,an,cdv,ct,osl,l,c⟩,k⟩
theorem Stands.fn {K:PySem.W.Frag} {x:Str} {st:Stmt} {f:Addr} (S:Stands K x st f):∃ fd,Fun K x x st f fd:=by
  obtain ⟨oc,od,kV,doc,pm,an,cdv,ct,osl,l,c⟩:=S.ex
  exact ⟨_,fun_mk (st:=st) l c S.k⟩
end
end K27
namespace K27
open PySem L2
abbrev sCrew:Stmt:=top 17
abbrev sMeas:Stmt:=top 18
abbrev sPiece:Stmt:=top 19
def strOf:PyData→Str
  | .str x=>x
  | _=>""
def ltS (a b:Str):Bool:=decide (a.cps.toList < b.cps.toList)
def rises (ns:List Str):List Bool:=List.zipWith ltS ns (ns.drop 1)
def pCrew:PyData→Bool
  | .tuple ds=>(decide (1≤(ds.length:Int)) && decide ((ds.length:Int)≤4)) && ((ds.map pName).all id && (rises (ds.map strOf)).all id)
  | _=>false
theorem isT_tuple {d:PyData} (h:isT d "tuple" = true):∃ ds,d = .tuple ds:=by
  cases d with
  | tuple ds=>exact ⟨ds,rfl⟩
  | none=>cases h
  | bool b=>cases h
  | int i=>cases h
  | list ds=>cases h
  | str x=>cases h
  | dict kvs=>cases h
theorem name_shape {d:PyData} (h:pName d = true):∃ x,d = .str x:=by
  cases d with
  | str x=>exact ⟨x,rfl⟩
  | _=>cases h
theorem names_xs {H:Hp} {k:Addr}:∀ {ds:List PyData} {xs:List V},TellsAll H k ds xs→(∀ d∈ds,pName d = true)→xs = (ds.map strOf).map V.str
  | [],xs,h,_=>tellsAll_nil.mp h
  | d :: ds,xs,h,hp=>by
    obtain ⟨v,r,rfl,t1,t2⟩:=tellsAll_cons.mp h
    obtain ⟨x,rfl⟩:=name_shape (hp d List.mem_cons_self)
    rw [tells_str] at t1
    subst t1
    rw [names_xs t2 fun e he=>hp e (List.mem_cons_of_mem _ he)]
    rfl
theorem getS {ns:List Str} {i:Nat} (h:i < ns.length):(ns.map V.str)[i]? = some (.str (ns.getD i "")):=by
  rw [List.getElem?_map,List.getElem?_eq_getElem h]
  simp [List.getD,h]
theorem zipW_getD {α β γ:Type} {f:α→β→γ} {as:List α} {bs:List β} {i:Nat} {a:α} {b:β} (c:γ) (h1:i < as.length) (h2:i < bs.length):(List.zipWith f as bs).getD i c = f (as.getD i a) (bs.getD i b):=by
  simp [List.getD,List.getElem?_zipWith,h1,h2]
section
variable {P:Program} {w:World} {K:PySem.W.Frag} {mg:Str→Option Value} {base:Heap}
theorem itt_tup {H:Hp} {a:Addr} {xs:List V} (h:SqT K H a xs) (i:Nat) (hi:i≤xs.length):(i = xs.length→(Itt K a).stop i H)∧(i < xs.length→(Itt K a).go i H∧∀ y H',(Itt K a).yld i H y H'→H' = H∧y = xs.getD i .non):=by
  refine ⟨fun e=>⟨xs,h,by omega⟩,fun e=>⟨⟨xs,xs[i],h,by simp [e]⟩,fun y H' q=>?_⟩⟩
  obtain ⟨q1,q2⟩:=q
  have:=q2 xs h
  exact ⟨q1,by simp [List.getD,this]⟩
theorem take_succ_getD {α:Type} {xs:List α} {i:Nat} {z:α} (h:i < xs.length):xs.take (i + 1) = xs.take i ++ [xs.getD i z]:=by
  rw [List.take_add_one]
  congr 1
  simp [List.getD,h]
theorem scC:FnScope ["thing"] ["thing"] (defScope sCrew):=⟨rfl,rfl,rfl,by decide +kernel,rfl,by decide +kernel,by decide +kernel⟩
theorem ndNB:(["name","behind"]:List Str).Nodup:=by decide +kernel
theorem ok_crew {f:Addr} {fd:FuncData} (F:Fun K "is_crew" "is_crew" sCrew f fd) (T:Txt mg) (DN:Df P w K mg base 1 "is_name" ["thing"] (spP pName)):FnOk P w K mg base CX0 2 f fd ["thing"] (spP pCrew):=by
  refine F.ok scC (fun vs H Q E h=>?_) (fun cdv A outer s H vs Q E hr h=>?_)
  · obtain ⟨k,d,v,rfl,_⟩:=h
    rfl
  · obtain ⟨k,d,v,rfl,t,hf,q⟩:=h
    obtain ⟨tm,hMC⟩:=T.MC
    refine ⟨_,pss_cons (ps_if (PW.pt (pw_or (pt_not (pt_val (pe_callB call_isin rfl T.isi PyProof.Rows.boot_isinstance (pa_cons (pv 0) (pa_cons (pe_bltn (v:=.ty "tuple") rfl T.tuple PyProof.Rows.boot_tuple rfl) pa_nil)))))
        (pw_or1 (pt_not (pt_chain op_le op_le pe_int (pe_callB call_len_seq rfl T.len PySem.boot_len (pa_cons (pv 0) pa_nil)) (pe_glob (v:=.int 4) rfl hMC ⟨tm,rfl⟩))))))
        (pss_one (ps_ret pe_bl)) pss_nil)
      (pss_cons (ps_if (pt_not (pt_val (pe_callB (call_all rfl) rfl T.all PyProof.Rows.boot_all (pa_cons (pe_lc (N:=["name"]) rfl (pi_tup (pv 0)) (BlkOk.closed rfl (by decide +kernel) (by decide +kernel) (by decide +kernel))
          (fun _ _ _=>pg_name (i:=0) (nd1 _) rfl (Or.inl rfl)) (fun _ _ _=>pts_nil) (fun _ _ _=>pe_df DN hr (pa_cons (pv 0) pa_nil))) pa_nil))))
        (pss_one (ps_ret pe_bl)) pss_nil)
      (pss_one (ps_ret (pe_callB (call_all rfl) rfl T.all PyProof.Rows.boot_all (pa_cons (pe_lc (N:=["name","behind"]) (g:=gTup K 2 (gCons (gName 0) (gCons (gName 1) gNil))) rfl (pi_zipT rfl T.zip (pa_cons (pv 0) (pa_cons (pe_slice sl_tup (pv 0) (po_some pe_int) po_none) pa_nil))) (BlkOk.closed rfl (by decide +kernel) (by decide +kernel) (by decide +kernel))
          (fun _ _ _=>pg_tup rfl (pgs_cons (pg_name (i:=0) ndNB rfl (Or.inl rfl)) (pgs_cons (pg_name (i:=1) ndNB rfl (Or.inl rfl)) pgs_nil))) (fun _ _ _=>pts_nil) (fun _ _ _=>pe_cmpR op_lt_str (pv 0) (pv 1) (nomark _))) pa_nil))))),?_⟩
    refine ⟨_,rfl,k,_,_,d,rfl,t,.inr (.inr (.inr (.inl rfl))),_,rfl,?_⟩
    have no:∀ H',Same H H'→pCrew d = false→Q (.bl false) H':=fun H' s' e=>by have:=q H' s'; rw [e] at this; exact this
    refine ite2 (fun c=>?_) (fun c=>?_)
    · refine iteT (no H (Same.refl _) ?_)
      cases d with
      | tuple ds=>cases c
      | _=>rfl
    · obtain ⟨ds,rfl⟩:=isT_tuple (d:=d) (by simpa using c)
      obtain ⟨a,xs,rfl,hk,ha,hxs⟩:=tells_tuple.mp t
      have hl:=tellsAll_len hxs
      have hfs:=(Bd.inTuple hf).1
      have pEq:pCrew (.tuple ds) = ((decide (1≤(ds.length:Int)) && decide ((ds.length:Int)≤4)) && ((ds.map pName).all id && (rises (ds.map strOf)).all id)):=rfl
      refine ⟨_,rfl,a,xs,rfl,.inr (SqT.of ha),_,_,rfl,rfl,_,rfl,?_⟩
      rw [hl]
      refine ite2 (fun c1=>?_) (fun c1=>?_)
      · have c1n:1≤ds.length:=by have:(1:Int)≤(ds.length:Int):=of_decide_eq_true c1; omega
        refine ⟨_,_,rfl,rfl,_,rfl,?_⟩
        refine ite2 (fun c2=>?_) (fun c2=>?_)
        · refine no H (Same.refl _) ?_
          rw [pEq,show decide ((ds.length:Int)≤4) = false by simpa using c2,Bool.and_false,Bool.false_and]
        · have c2':decide ((ds.length:Int)≤4) = true:=by simpa using c2
          have c2n:ds.length≤4:=by have:(ds.length:Int)≤4:=of_decide_eq_true c2'; omega
          refine ⟨_,rfl,a,rfl,⟨xs,SqT.of ha⟩,fun D hD=>?_⟩
          refine lc_map (n:=xs.length) (f:=fun i=>xs.getD i .non) (fun i ys σ' H'=>ys = ((ds.take i).map pName).map V.bl∧(∃ v,σ' = [v])∧Same H H') hD (by omega) ⟨rfl,⟨none,rfl⟩,same_new hD _⟩
            (fun i ys σ' H' hi _ iv=>itt_tup (SqT.of (iv.2.2 _ _ ha)) i hi) ?_ ?_
          · rintro i ys σ' H' hi hy ⟨e1,⟨v,rfl⟩,s'⟩
            obtain ⟨di,hdi,ti⟩:=tellsAll_get hxs (show xs[i]? = some (xs.getD i .non) by simp [List.getD,hi])
            refine ⟨_,rfl,k,di,_,rfl,ti.keep s'.keep,hfs di (List.mem_of_getElem? hdi),fun H5 s5=>⟨s5 _ _ hy,?_,⟨_,rfl⟩,fun b o e=>?_⟩⟩
            · rw [take_succ_getD (z:=PyData.none) (by omega),List.map_append,List.map_append,e1]
              simp [List.getD,hdi]
            · rw [upd_ne (ne_of_none e hD)]
              exact s5 b o (s' b o e)
          · rintro ys σ' H' hy ⟨e1,⟨v,rfl⟩,s'⟩
            rw [List.take_of_length_le (by omega)] at e1
            refine ⟨D,ds.map pName,rfl,SqL.of (by rw [hy,e1]),_,rfl,?_⟩
            refine ite2 (fun c3=>?_) (fun c3=>?_)
            · refine no H' s' ?_
              rw [pEq,show (ds.map pName).all id = false by simpa using c3,Bool.false_and,Bool.and_false]
            · have c3':(ds.map pName).all id = true:=by
                cases hb:(ds.map pName).all id with
                | true=>rfl
                | false=>rw [hb] at c3; exact absurd rfl c3
              have exs:=names_xs hxs fun d hd=>by
                rw [List.all_eq_true] at c3'
                exact c3' _ (List.mem_map_of_mem hd)
              generalize hns:ds.map strOf = ns at *
              have hnl:ns.length = ds.length:=by rw [← hns,List.length_map]
              subst exs
              have haH:=s' _ _ ha
              have hcut:cutV (ns.map V.str) (some 1) none = (ns.drop 1).map V.str:=by rw [cut_tail (by rw [List.length_map]; omega),List.map_drop]
              have hs1:HT.sIx (ns.map V.str).length 0 (some 1) = 1:=by
                have:=HT.sIx_nat (ns.map V.str).length 0 1
                rw [show ((1:Nat):Int) = 1 from rfl] at this
                rw [this,List.length_map]; omega
              refine ⟨_,rfl,_,rfl,_,rfl,a,_,rfl,SqT.of haH,fun z=>by rw [hs1] at z; exact absurd z.1 (by decide),fun p hp=>?_⟩
              rw [hcut]
              have haP:=same_new hp (.tup ((ns.drop 1).map V.str)) _ _ haH
              have hpP:(upd H' p (.tup ((ns.drop 1).map V.str))) p = some (.tup ((ns.drop 1).map V.str)):=upd_same
              have sP:Same H' (upd H' p (.tup ((ns.drop 1).map V.str))):=same_new hp _
              generalize upd H' p (.tup ((ns.drop 1).map V.str)) = Hp' at *
              have hdl:(ns.drop 1).length = ns.length - 1:=List.length_drop
              refine ⟨a,p,rfl,⟨_,SqT.of haP⟩,⟨_,SqT.of hpP⟩,fun D2 hD2=>?_⟩
              refine lc_pairsM (n:=ns.length - 1) (u:=fun i=>.str (ns.getD i "")) (v:=fun i=>.str ((ns.drop 1).getD i "")) (fun i ys σ2 J=>ys = ((rises ns).take i).map V.bl∧(∃ v w,σ2 = [v,w])∧Same Hp' J) hD2 (by omega) ⟨rfl,⟨none,none,rfl⟩,same_new hD2 _⟩
                (fun i ys σ2 J hi _ iv=>⟨fun e=>⟨_,_,SqT.of (iv.2.2 _ _ haP),SqT.of (iv.2.2 _ _ hpP),.inr (by rw [List.length_map]; omega)⟩,fun lt=>⟨⟨_,_,.str (ns.getD i ""),.str ((ns.drop 1).getD i ""),SqT.of (iv.2.2 _ _ haP),SqT.of (iv.2.2 _ _ hpP),getS (by omega),getS (by omega)⟩,fun x J' yl=>?_⟩⟩) ?_ ?_
              · obtain ⟨TT,x1,y1,f1,f2,f3,f4,f5⟩:=yl
                have g1:=f4 _ (SqT.of (iv.2.2 _ _ haP))
                have g2:=f5 _ (SqT.of (iv.2.2 _ _ hpP))
                rw [getS (by omega)] at g1 g2
                cases g1; cases g2
                exact ⟨TT,f1,f2,f3⟩
              · rintro i ys σ2 J TT hi hy2 ⟨e2,⟨v1,v2,rfl⟩,s2⟩ hTT
                refine ⟨TT,_,rfl,SqT.of upd_same,rfl,_,_,rfl,_,_,rfl,rfl,?_⟩
                have nD:D2≠TT:=fun z=>by rw [z,hTT] at hy2; cases hy2
                refine ⟨_,rfl,_,rfl,_,_,rfl,rfl,by rw [upd_ne nD]; exact hy2,?_,⟨_,_,rfl⟩,fun b o e=>?_⟩
                · rw [take_succ_getD (z:=false) (by rw [rises,List.length_zipWith,hdl]; omega),List.map_append,e2]
                  congr 1
                  show [V.bl (ltS _ _)] = [V.bl _]
                  rw [rises,zipW_getD _ (by omega) (by omega)]
                · have e3:=s2 b o e
                  rw [upd_ne (ne_of_none e hD2),upd_ne (ne_of_none e3 hTT)]; exact e3
              · rintro ys σ2 J hy2 ⟨e2,⟨v1,v2,rfl⟩,s2⟩
                rw [List.take_of_length_le (by rw [rises,List.length_zipWith]; omega)] at e2
                refine ⟨D2,rises ns,rfl,SqL.of (by rw [hy2,e2]),?_⟩
                have:=q J (s'.trans (sP.trans s2))
                rw [pEq,c1,c2',c3',Bool.true_and,Bool.true_and,Bool.true_and] at this
                exact this
      · refine ⟨_,rfl,iteT (no H (Same.refl _) ?_)⟩
        rw [pEq,show decide (1≤(ds.length:Int)) = false by simpa using c1,Bool.false_and,Bool.false_and]
end
end K27
namespace K27
open PySem L2
theorem BlkOk.one {X:Cx} {scope:Scope} {nm:List (Str × NameKind)} {v fr:Str} {j:Nat} (hN:X.N[j]? = some fr) (hk:scope.kind = .function) (hn:scope.names = nm) (h1:X.env.scope.names.lookup fr = some .cell) (c1:∀ y∈nm,y.2≠.cell) (c2:∀ y∈nm,y.2 = .local→nm.lookup y.1 = some .local)
    (c3:∀ y∈nm,y.2 = .free→y.1 = fr) (c4:(fr,NameKind.free)∈nm) (c5:nm.lookup fr = some .free):BlkOk X scope [v,fr] [none,some j] where
  kind:=hk
  nocell:=by rw [hn]; exact c1
  own:=by rw [hn]; exact c2
  out:=by
    rw [hn]
    intro y hy e
    rw [c3 y hy e]
    exact .inl h1
  len:=rfl
  free:=by
    intro i j' x e1 e2
    rw [hn]
    match i,e1,e2 with
    | 1,e1,e2=>cases e1; cases e2; exact ⟨hN,c4,c5⟩
    | n + 2,e1,e2=>simp at e1
section
variable {P:Program} {w:World} {K:PySem.W.Frag} {mg:Str→Option Value} {base:Heap}
def pMeas:PyData→Bool
  | .int i=>decide (1≤i) && decide (i≤1000000000)
  | _=>false
theorem scMs:FnScope ["thing"] ["thing"] (defScope sMeas):=⟨rfl,rfl,rfl,by decide +kernel,rfl,by decide +kernel,by decide +kernel⟩
theorem ok_meas {f:Addr} {fd:FuncData} (F:Fun K "is_measure" "is_measure" sMeas f fd) (T:Txt mg) (DW:Df P w K mg base 1 "is_whole" ["thing"] (spP pWhole)):FnOk P w K mg base CX0 2 f fd ["thing"] (spP pMeas):=by
  refine F.ok scMs (fun vs H Q E h=>?_) (fun cdv A outer s H vs Q E hr h=>?_)
  · obtain ⟨k,d,v,rfl,_⟩:=h
    rfl
  · obtain ⟨k,d,v,rfl,t,hf,q⟩:=h
    obtain ⟨th,hHV⟩:=T.LG
    refine ⟨_,pss_one (ps_ret (pe_and (pe_df DW hr (pa_cons (pv 0) pa_nil)) (pe_one (pe_chain op_le op_le pe_int (pv 0) (pe_glob (v:=.int 1000000000) rfl hHV ⟨th,rfl⟩))))),?_⟩
    refine ⟨_,rfl,k,d,v,rfl,t,hf,fun H1 s1=>⟨_,rfl,?_⟩⟩
    refine ite2 (fun c=>?_) (fun c=>?_)
    · cases d with
      | int i =>
        rw [tells_int] at t
        subst t
        refine ⟨_,rfl,_,_,rfl,rfl,_,rfl,?_⟩
        have q':=q H1 s1
        refine ite2 (fun c1=>?_) (fun c1=>?_)
        · refine ⟨_,_,rfl,rfl,?_⟩
          rw [show pMeas (.int i) = decide (i≤1000000000) by show (_ && _) = _; rw [c1,Bool.true_and]] at q'
          exact q'
        · rw [show pMeas (.int i) = false by show (_ && _) = _; rw [show decide (1≤i) = false by simpa using c1,Bool.false_and]] at q'
          exact q'
      | _=>cases c
    · have e:pMeas d = false:=by
        cases d with
        | int i=>exact absurd rfl c
        | _=>rfl
      have q':=q H1 s1
      rw [e] at q'
      exact q'
def crewOf:PyData→List Str
  | .tuple ds=>ds.map strOf
  | _=>[]
def pPiece:PyData→Bool
  | .tuple [f,s,t,o,c]=>(pCrew f && (pCrew s && decide ((crewOf f).length = (crewOf s).length))) && (!((crewOf f).map fun n=>decide (n∈crewOf s)).any id && (pMeas t && (pMeas o && pMeas c)))
  | _=>false
theorem pPiece_len {ds:List PyData} (h:ds.length≠5):pPiece (.tuple ds) = false:=by
  match ds,h with
  | [],_=>rfl
  | [_],_=>rfl
  | [_,_],_=>rfl
  | [_,_,_],_=>rfl
  | [_,_,_,_],_=>rfl
  | [_,_,_,_,_],h=>exact absurd rfl h
  | _ :: _ :: _ :: _ :: _ :: _ :: _,_=>rfl
theorem len5 {ds:List PyData} (h:ds.length = 5):∃ a b c d e,ds = [a,b,c,d,e]:=by
  match ds,h with
  | [a,b,c,d,e],_=>exact ⟨a,b,c,d,e,rfl⟩
theorem crew_shape {d:PyData} (h:pCrew d = true):∃ ns:List Str,d = .tuple (namesD ns)∧crewOf d = ns∧1≤ns.length∧ns.length≤4∧∀ n∈ns,pName (.str n) = true:=by
  cases d with
  | tuple ds =>
    have h':((decide (1≤(ds.length:Int)) && decide ((ds.length:Int)≤4)) && ((ds.map pName).all id && (rises (ds.map strOf)).all id)) = true:=h
    simp only [Bool.and_eq_true,decide_eq_true_eq] at h'
    obtain ⟨⟨h1,h2⟩,h3,h4⟩:=h'
    have all:∀ d∈ds,pName d = true:=fun d hd=>by
      rw [List.all_eq_true] at h3
      exact h3 _ (List.mem_map_of_mem hd)
    refine ⟨ds.map strOf,?_,rfl,by rw [List.length_map]; omega,by rw [List.length_map]; omega,fun n hn=>?_⟩
    · congr 1
      unfold namesD
      rw [List.map_map]
      have:∀ d∈ds,((PyData.str ∘ strOf) d) = d:=fun d hd=>by
        obtain ⟨x,rfl⟩:=name_shape (all d hd)
        rfl
      rw [List.map_congr_left this,List.map_id']
    · obtain ⟨d,hd,rfl⟩:=List.mem_map.mp hn
      have:=all d hd
      obtain ⟨x,rfl⟩:=name_shape this
      exact this
  | _=>cases h
def nmPc:List (Str × NameKind):=[(".0",.local),("name",.local),("second",.free)]
theorem ndNS:(["name","second"]:List Str).Nodup:=by decide +kernel
theorem scPc:FnScope ["thing","first","second","time","other","course"] ["thing"] (defScope sPiece):=⟨rfl,rfl,rfl,by decide +kernel,rfl,by decide +kernel,by decide +kernel⟩
theorem ok_piece {f:Addr} {fd:FuncData} (F:Fun K "is_piece" "is_piece" sPiece f fd) (T:Txt mg) (DC:Df P w K mg base 2 "is_crew" ["thing"] (spP pCrew)) (DM:Df P w K mg base 2 "is_measure" ["thing"] (spP pMeas)):FnOk P w K mg base CX0 3 f fd ["thing"] (spP pPiece):=by
  refine F.ok scPc (fun vs H Q E h=>?_) (fun cdv A outer s H vs Q E hr h=>?_)
  · obtain ⟨k,d,v,rfl,_⟩:=h
    rfl
  · obtain ⟨k,d,v,rfl,t,hf,q⟩:=h
    refine ⟨_,pss_cons (ps_if (PW.pt (pw_or (pt_not (pt_val (pe_callB call_isin rfl T.isi PyProof.Rows.boot_isinstance (pa_cons (pv 0) (pa_cons (pe_bltn (v:=.ty "tuple") rfl T.tuple PyProof.Rows.boot_tuple rfl) pa_nil)))))
        (pw_or1 (pt_cmpR op_ne (pe_callB call_len_seq rfl T.len PySem.boot_len (pa_cons (pv 0) pa_nil)) pe_int (nomark _)))))
        (pss_one (ps_ret pe_bl)) pss_nil)
      (pss_cons (ps_asg (pv 0) (pg_tup rfl (pgs_cons (pg_name (i:=1) scPc.nd rfl (Or.inl rfl)) (pgs_cons (pg_name (i:=2) scPc.nd rfl (Or.inr rfl)) (pgs_cons (pg_name (i:=3) scPc.nd rfl (Or.inl rfl)) (pgs_cons (pg_name (i:=4) scPc.nd rfl (Or.inl rfl)) (pgs_cons (pg_name (i:=5) scPc.nd rfl (Or.inl rfl)) pgs_nil)))))))
      (pss_cons (ps_if (PW.pt (pw_or (pt_not (pt_val (pe_df DC hr (pa_cons (pv 1) pa_nil)))) (pw_or (pt_not (pt_val (pe_df DC hr (pa_cons (pv 2) pa_nil))))
        (pw_or1 (pt_cmpR op_ne (pe_callB call_len_seq rfl T.len PySem.boot_len (pa_cons (pv 1) pa_nil)) (pe_callB call_len_seq rfl T.len PySem.boot_len (pa_cons (pv 2) pa_nil)) (nomark _))))))
        (pss_one (ps_ret pe_bl)) pss_nil)
      (pss_cons (ps_if (pt_val (pe_callB (call_any rfl) rfl T.any (by decide +kernel) (pa_cons (pe_lc (N:=["name","second"]) rfl (pi_tup (pv 1)) (BlkOk.one (v:="name") (fr:="second") (j:=2) (nm:=nmPc) rfl rfl rfl rfl (by decide +kernel) (by decide +kernel) (by decide +kernel) (by decide +kernel) (by decide +kernel))
          (fun _ _ _=>pg_name (i:=0) ndNS rfl (Or.inl rfl)) (fun _ _ _=>pts_nil) (fun _ _ _=>pe_cmpR (op_inD hr.units) (pv 0) (pv 1) (by with_unfolding_all rfl))) pa_nil)))
        (pss_one (ps_ret pe_bl)) pss_nil)
      (pss_one (ps_ret (pe_and (pe_df DM hr (pa_cons (pv 3) pa_nil)) (pe_and (pe_df DM hr (pa_cons (pv 4) pa_nil)) (pe_one (pe_df DM hr (pa_cons (pv 5) pa_nil))))))))))  ,?_⟩
    refine ⟨_,rfl,k,_,_,d,rfl,t,.inr (.inr (.inr (.inl rfl))),_,rfl,?_⟩
    have no:∀ H',Same H H'→pPiece d = false→Q (.bl false) H':=fun H' s' e=>by have:=q H' s'; rw [e] at this; exact this
    refine ite2 (fun c=>?_) (fun c=>?_)
    · refine iteT (no H (Same.refl _) ?_)
      cases d with
      | tuple ds=>cases c
      | _=>rfl
    · obtain ⟨ds,rfl⟩:=isT_tuple (d:=d) (by simpa using c)
      obtain ⟨a,xs,rfl,hk,ha,hxs⟩:=tells_tuple.mp t
      have hl:=tellsAll_len hxs
      refine ⟨_,rfl,a,xs,rfl,.inr (SqT.of ha),rfl,_,rfl,?_⟩
      refine ite2 (fun c1=>?_) (fun c1=>?_)
      · refine no H (Same.refl _) (pPiece_len fun z=>v_ne c1 (by rw [hl,z]; rfl))
      · have l5:ds.length = 5:=by
          have e5:V.int (xs.length:Int) = V.int 5:=v_eq c1
          injection e5 with e5
          omega
        obtain ⟨d1,d2,d3,d4,d5,rfl⟩:=len5 l5
        obtain ⟨x1,r1,rfl,t1,hxs⟩:=tellsAll_cons.mp hxs
        obtain ⟨x2,r2,rfl,t2,hxs⟩:=tellsAll_cons.mp hxs
        obtain ⟨x3,r3,rfl,t3,hxs⟩:=tellsAll_cons.mp hxs
        obtain ⟨x4,r4,rfl,t4,hxs⟩:=tellsAll_cons.mp hxs
        obtain ⟨x5,r5,rfl,t5,hxs⟩:=tellsAll_cons.mp hxs
        rw [tellsAll_nil] at hxs
        subst hxs
        have hfs:=(Bd.inTuple hf).1
        have pEq:pPiece (.tuple [d1,d2,d3,d4,d5]) = ((pCrew d1 && (pCrew d2 && decide ((crewOf d1).length = (crewOf d2).length))) && (!((crewOf d1).map fun n=>decide (n∈crewOf d2)).any id && (pMeas d3 && (pMeas d4 && pMeas d5)))):=rfl
        refine ⟨_,rfl,a,_,rfl,SqT.of ha,rfl,_,_,rfl,_,_,rfl,_,_,rfl,_,_,rfl,_,_,rfl,rfl,?_⟩
        refine ⟨_,rfl,k,d1,x1,rfl,t1,hfs d1 (by simp),fun H1 s1=>⟨_,rfl,?_⟩⟩
        refine ite2 (fun c2=>?_) (fun c2=>?_)
        · refine iteT (no H1 s1 ?_)
          rw [pEq,show pCrew d1 = false by simpa using c2,Bool.false_and,Bool.false_and]
        have c2':pCrew d1 = true:=by simpa using c2
        refine ⟨_,rfl,k,d2,x2,rfl,t2.keep s1.keep,hfs d2 (by simp),fun H2 s2=>⟨_,rfl,?_⟩⟩
        have s12:=s1.trans s2
        refine ite2 (fun c3=>?_) (fun c3=>?_)
        · refine iteT (no H2 s12 ?_)
          rw [pEq,show pCrew d2 = false by simpa using c3,Bool.false_and,Bool.and_false,Bool.false_and]
        have c3':pCrew d2 = true:=by simpa using c3
        obtain ⟨ns1,rfl,e1,l1,m1,nm1⟩:=crew_shape c2'
        obtain ⟨ns2,rfl,e2,l2,m2,nm2⟩:=crew_shape c3'
        obtain ⟨a1,y1,rfl,k1,ha1,hy1⟩:=tells_tuple.mp t1
        obtain ⟨a2,y2,rfl,k2,ha2,hy2⟩:=tells_tuple.mp t2
        have f1:y1.length = ns1.length:=by rw [tellsAll_len hy1,namesD,List.length_map]
        have f2:y2.length = ns2.length:=by rw [tellsAll_len hy2,namesD,List.length_map]
        rw [e1,e2,c2',c3',Bool.true_and,Bool.true_and] at pEq
        refine ⟨_,rfl,a1,y1,rfl,.inr (SqT.of (s12 _ _ ha1)),_,rfl,a2,y2,rfl,.inr (SqT.of (s12 _ _ ha2)),rfl,_,rfl,?_⟩
        rw [f1,f2]
        refine ite2 (fun c4=>?_) (fun c4=>?_)
        · refine no H2 s12 ?_
          rw [pEq,show decide (ns1.length = ns2.length) = false from decide_eq_false fun z=>v_ne c4 (by rw [z]),Bool.false_and]
        have c4':ns1.length = ns2.length:=by
          have e5:V.int (ns1.length:Int) = V.int (ns2.length:Int):=v_eq c4
          injection e5 with e5
          omega
        rw [decide_eq_true c4',Bool.true_and] at pEq
        have hin:∀ {J:Hp},Same H2 J→Tells J k (.tuple (namesD ns2)) (.ref a2):=fun sJ=>t2.keep (s12.trans sJ).keep
        have lay2:PyData.canLayAll0 (namesD ns2) = true:=layAll_of (Bd.inTuple (hfs _ (by simp:PyData.tuple (namesD ns2)∈_))).1
        refine ⟨_,rfl,a1,rfl,⟨y1,SqT.of (s12 _ _ ha1)⟩,fun D hD=>?_⟩
        refine lc_map (n:=y1.length) (f:=fun i=>y1.getD i .non) (fun i ys σ' J=>ys = ((ns1.take i).map fun n=>decide (n∈ns2)).map V.bl∧(∃ v,σ' = [v,some (.ref a2)])∧Same H2 J) hD (by omega) ⟨rfl,⟨none,rfl⟩,same_new hD _⟩
          (fun i ys σ' J hi _ iv=>itt_tup (SqT.of (iv.2.2 _ _ (s12 _ _ ha1))) i hi) ?_ ?_
        · rintro i ys σ' J hi hy ⟨q1,⟨v,rfl⟩,sJ⟩
          obtain ⟨di,hdi,ti⟩:=tellsAll_get hy1 (show y1[i]? = some (y1.getD i .non) by simp [List.getD,hi])
          have hni:i < ns1.length:=by omega
          have edi:di = .str (ns1.getD i ""):=by
            unfold namesD at hdi
            rw [List.getElem?_map,List.getElem?_eq_getElem hni] at hdi
            have:=(Option.some.inj hdi).symm
            rw [this]; simp [List.getD,hni]
          subst edi
          have tn:=tells_str.mp ti
          rw [tn]
          have hnm:ns1.getD i ""∈ns1:=by
            rw [show ns1.getD i "" = ns1[i] by simp [List.getD,hni]]
            exact List.getElem_mem hni
          have fitn:Fit (.str (ns1.getD i "")):=(Bd.inTuple (hfs _ (by simp:PyData.tuple (namesD ns1)∈_))).1 _ (List.mem_map_of_mem hnm)
          refine ⟨_,rfl,_,rfl,k,k,.str (ns1.getD i ""),namesD ns2,tells_str.mpr rfl,.inl (hin sJ),Fit.lay fitn,lay2,?_⟩
          refine ⟨hy,?_,⟨_,rfl⟩,fun b o e=>?_⟩
          · rw [take_succ_getD (z:=("":Str)) hni,List.map_append,List.map_append,q1]
            congr 1
            show [V.bl ((namesD ns2).any fun z=>PyData.eqv z (.str (ns1.getD i "")))] = _
            rw [any_names]
            rfl
          · rw [upd_ne (ne_of_none e hD)]; exact sJ b o e
        · rintro ys σ' J hy ⟨q1,⟨v,rfl⟩,sJ⟩
          rw [List.take_of_length_le (by omega)] at q1
          have sHJ:=s12.trans sJ
          refine ⟨D,ns1.map fun n=>decide (n∈ns2),rfl,SqL.of (by rw [hy,q1]),_,rfl,?_⟩
          refine ite2 (fun c5=>?_) (fun c5=>?_)
          · refine no J sHJ ?_
            rw [pEq,c5]; rfl
          have c5':(ns1.map fun n=>decide (n∈ns2)).any id = false:=by simpa using c5
          rw [c5',Bool.not_false,Bool.true_and] at pEq
          refine ⟨_,rfl,k,d3,x3,rfl,t3.keep sHJ.keep,hfs d3 (by simp),fun J1 u1=>⟨_,rfl,?_⟩⟩
          refine ite2 (fun c6=>?_) (fun c6=>?_)
          · refine ⟨_,rfl,k,d4,x4,rfl,t4.keep (sHJ.trans u1).keep,hfs d4 (by simp),fun J2 u2=>⟨_,rfl,?_⟩⟩
            refine ite2 (fun c7=>?_) (fun c7=>?_)
            · refine ⟨_,rfl,k,d5,x5,rfl,t5.keep ((sHJ.trans u1).trans u2).keep,hfs d5 (by simp),fun J3 u3=>?_⟩
              have:=q J3 (((sHJ.trans u1).trans u2).trans u3)
              rw [pEq,c6,c7,Bool.true_and,Bool.true_and] at this
              exact this
            · have:=q J2 ((sHJ.trans u1).trans u2)
              rw [pEq,show pMeas d4 = false by simpa using c7,Bool.false_and,Bool.and_false] at this
              exact this
          · have:=q J1 (sHJ.trans u1)
            rw [pEq,show pMeas d3 = false by simpa using c6,Bool.false_and] at this
            exact this
end
end K27
namespace K27
open PySem L2
abbrev sFr:Stmt:=top 12
abbrev sMg:Stmt:=top 20
theorem gcd_turn (m n:Nat):Nat.gcd n (m % n) = Nat.gcd m n:=by
  rw [Nat.gcd_comm n (m % n),← Nat.gcd_rec n m,Nat.gcd_comm]
theorem mod_nat (m n:Nat):((m:Int) % (n:Int)) = ((m % n:Nat):Int):=(Int.natCast_emod m n).symm
theorem abs_nat (t:Int):(if t < 0 then -t else t) = (t.natAbs:Int):=by
  split <;> omega
def frTop (t b:Int):Int:=t / (Nat.gcd t.natAbs b.natAbs:Int)
def frBot (t b:Int):Int:=b / (Nat.gcd t.natAbs b.natAbs:Int)
theorem gcd_pos {t b:Int} (h:0 < b):0 < Nat.gcd t.natAbs b.natAbs:=Nat.gcd_pos_of_pos_right _ (by omega)
theorem lt_big {m:Nat} (h:m < 2 ^ 150):(m:Int) < 2 ^ 200:=by
  have:m < 2 ^ 200:=Nat.lt_of_lt_of_le h (Nat.pow_le_pow_right (by decide) (by decide))
  exact_mod_cast this
section
variable {P:Program} {w:World} {K:PySem.W.Frag} {mg:Str→Option Value} {base:Heap}
def spFr:Sp:=fun vs H Q _=>∃ t b:Int,vs = [.int t,.int b]∧0 < b∧b.natAbs < 2 ^ 150∧t.natAbs < 2 ^ 150∧∀ p,H p = none→Q (.ref p) (upd H p (.tup [.int (frTop t b),.int (frBot t b)]))
theorem scFr:FnScope ["top","bottom","divisor","rest"] ["top","bottom"] (defScope sFr):=⟨rfl,rfl,rfl,by decide +kernel,rfl,by decide +kernel,by decide +kernel⟩
theorem boot_absE:bootBuiltins "abs" = some (.builtin "abs"):=by decide +kernel
theorem ok_fr {f:Addr} {fd:FuncData} (F:Fun K "fraction" "fraction" sFr f fd) (T:Txt mg):FnOk P w K mg base CX0 1 f fd ["top","bottom"] spFr:=by
  refine F.ok scFr (fun vs H Q E h=>?_) (fun cdv A outer s H vs Q E hr h=>?_)
  · obtain ⟨t,b,rfl,_⟩:=h
    rfl
  · obtain ⟨t,b,rfl,b0,b1,t1,q⟩:=h
    refine ⟨_,pss_cons (ps_par (i:=2) (j:=3) rfl scFr.nd rfl rfl (by decide) rfl rfl (pa_cons (pv 1) (pa_cons (pe_callB call_abs rfl T.abs boot_absE (pa_cons (pv 0) pa_nil)) pa_nil)) rfl)
      (pss_cons (ps_while PassesOwn.never (pt_cmpR op_gt (pv 3) pe_int (nomark _)) (pss_one (ps_par (i:=2) (j:=3) rfl scFr.nd rfl rfl (by decide) rfl rfl (pa_cons (pv 3) (pa_cons (pe_op op_mod (pv 2) (pv 3)) pa_nil)) rfl)))
      (pss_one (ps_ret (pe_tup (pa_cons (pe_op op_fdivB (pv 0) (pv 2)) (pa_cons (pe_op op_fdivB (pv 1) (pv 2)) pa_nil)))))),?_⟩
    refine ⟨_,rfl,_,rfl,_,rfl,_,_,rfl,?_⟩
    refine while_by (fun σ' H'=>H' = H∧∃ m n:Nat,σ' = [some (.int t),some (.int b),some (.int m),some (.int n)]∧0 < m∧Nat.gcd m n = Nat.gcd t.natAbs b.natAbs∧m < 2 ^ 150∧n < 2 ^ 150)
      (fun σ' _=>match σ' with | [_,_,_,some (.int n)]=>n.toNat | _=>0) ?_ ?_ ?_
    · refine ⟨rfl,b.natAbs,t.natAbs,?_,by omega,Nat.gcd_comm _ _,b1,t1⟩
      show [some (V.int t),some (V.int b),some (V.int b),some (V.int (if t < 0 then -t else t))] = _
      rw [abs_nat,show ((b.natAbs:Nat):Int) = b by omega]
    · rintro σ' H' ⟨rfl,m,n,rfl,m0,hg,hm,hn⟩
      refine ⟨_,rfl,_,_,rfl,rfl,_,rfl,?_⟩
      refine ite2 (fun c=>?_) (fun c=>?_)
      · have n0:0 < n:=by have:(0:Int) < (n:Int):=of_decide_eq_true c; omega
        refine ⟨_,rfl,_,rfl,_,rfl,_,_,rfl,rfl,by omega,_,_,rfl,⟨rfl,n,m % n,?_,n0,by rw [gcd_turn]; exact hg,hn,Nat.lt_of_le_of_lt (Nat.mod_le _ _) hm⟩,?_⟩
        · show [some (V.int t),some (V.int b),some (V.int (n:Int)),some (V.int ((m:Int) % (n:Int)))] = _
          rw [mod_nat]
        · show ((m:Int) % (n:Int)).toNat < (n:Int).toNat
          rw [mod_nat]
          have:=Nat.mod_lt m n0
          omega
      · have n0 : n = 0 := by have : ¬ (0 : Int) < (n : Int) := by simpa using c
                              omega
        subst n0
        rw [Nat.gcd_zero_right] at hg
        have bd:(0:Int) < (m:Int)∧(m:Int) < 2 ^ 200:=⟨by omega,lt_big hm⟩
        refine ⟨_,rfl,_,rfl,_,_,rfl,rfl,bd,_,rfl,_,rfl,_,_,rfl,rfl,bd,by show 2≤sizeLine; decide,fun p hp=>?_⟩
        have:=q p hp
        unfold frTop frBot at this
        rw [← hg] at this
        exact this
    · rintro σ' H' Q1 Q2 imp ⟨v,hv,i,j,e1,e2,b',e3,h⟩
      exact ⟨v,hv,i,j,e1,e2,b',e3,imp _ _ h⟩
def spMg (K:PySem.W.Frag):Sp:=fun vs H Q _=>∃ (a:Addr) (x y:V) (t o c:Int),vs = [.ref a]∧SqT K H a [x,y,.int t,.int o,.int c]∧0 < c∧c.natAbs < 2 ^ 150∧(o - t).natAbs < 2 ^ 150∧∀ p,H p = none→Q (.ref p) (upd H p (.tup [.int (frTop (o - t) c),.int (frBot (o - t) c)]))
theorem scMg:FnScope ["piece","first","second","time","other","course"] ["piece"] (defScope sMg):=⟨rfl,rfl,rfl,by decide +kernel,rfl,by decide +kernel,by decide +kernel⟩
theorem ok_mg {f:Addr} {fd:FuncData} (F:Fun K "margin" "margin" sMg f fd) (DF:Df P w K mg base 1 "fraction" ["top","bottom"] spFr):FnOk P w K mg base CX0 2 f fd ["piece"] (spMg K):=by
  refine F.ok scMg (fun vs H Q E h=>?_) (fun cdv A outer s H vs Q E hr h=>?_)
  · obtain ⟨a,x,y,t,o,c,rfl,_⟩:=h
    rfl
  · obtain ⟨a,x,y,t,o,c,rfl,hS,c0,c1,d1,q⟩:=h
    refine ⟨_,pss_cons (ps_asg (pv 0) (pg_tup rfl (pgs_cons (pg_name (i:=1) scMg.nd rfl (Or.inl rfl)) (pgs_cons (pg_name (i:=2) scMg.nd rfl (Or.inl rfl)) (pgs_cons (pg_name (i:=3) scMg.nd rfl (Or.inl rfl)) (pgs_cons (pg_name (i:=4) scMg.nd rfl (Or.inl rfl)) (pgs_cons (pg_name (i:=5) scMg.nd rfl (Or.inl rfl)) pgs_nil)))))))
      (pss_one (ps_ret (pe_df DF hr (pa_cons (pe_op op_sub (pv 4) (pv 3)) (pa_cons (pv 5) pa_nil))))),?_⟩
    refine ⟨_,rfl,a,_,rfl,hS,rfl,_,_,rfl,_,_,rfl,_,_,rfl,_,_,rfl,_,_,rfl,rfl,?_⟩
    exact ⟨_,rfl,_,rfl,_,_,rfl,rfl,_,rfl,o - t,c,rfl,c0,c1,d1,q⟩
end
end K27
namespace K27
open PySem L2 HT
theorem gcd_dvd_t (t b:Int):((Nat.gcd t.natAbs b.natAbs:Nat):Int) ∣ t:=Int.natAbs_dvd_natAbs.mp (by rw [Int.natAbs_natCast]; exact Nat.gcd_dvd_left _ _)
theorem gcd_dvd_b (t b:Int):((Nat.gcd t.natAbs b.natAbs:Nat):Int) ∣ b:=Int.natAbs_dvd_natAbs.mp (by rw [Int.natAbs_natCast]; exact Nat.gcd_dvd_right _ _)
theorem fr_mul {t b:Int} (hb:0 < b):frTop t b * b = t * frBot t b:=by
  unfold frTop frBot
  have g0:(0:Int) < ((Nat.gcd t.natAbs b.natAbs:Nat):Int):=by have:=gcd_pos (t:=t) hb; omega
  obtain ⟨x,hx⟩:=gcd_dvd_t t b
  obtain ⟨y,hy⟩:=gcd_dvd_b t b
  generalize ((Nat.gcd t.natAbs b.natAbs:Nat):Int) = g at *
  subst hx hy
  rw [Int.mul_ediv_cancel_left _ (by omega),Int.mul_ediv_cancel_left _ (by omega)]
  grind
theorem frBot_pos {t b:Int} (hb:0 < b):0 < frBot t b:=by
  unfold frBot
  have g0:(0:Int) < ((Nat.gcd t.natAbs b.natAbs:Nat):Int):=by have:=gcd_pos (t:=t) hb; omega
  obtain ⟨y,hy⟩:=gcd_dvd_b t b
  generalize ((Nat.gcd t.natAbs b.natAbs:Nat):Int) = g at *
  subst hy
  rw [Int.mul_ediv_cancel_left _ (by omega)]
  exact Int.pos_of_mul_pos_right hb g0
theorem fr_scale {k t b:Int} (hk:0 < k):frTop (k * t) (k * b) = frTop t b∧frBot (k * t) (k * b) = frBot t b:=by
  unfold frTop frBot
  have e:((Nat.gcd (k * t).natAbs (k * b).natAbs:Nat):Int) = k * ((Nat.gcd t.natAbs b.natAbs:Nat):Int):=by
    rw [Int.natAbs_mul,Int.natAbs_mul,Nat.gcd_mul_left,Int.natCast_mul]
    congr 1
    omega
  rw [e,Int.mul_ediv_mul_of_pos _ _ hk,Int.mul_ediv_mul_of_pos _ _ hk]
  exact ⟨rfl,rfl⟩
theorem fr_eq {a b c d:Int} (hb:0 < b) (hd:0 < d) (e:a * d = c * b):frTop a b = frTop c d∧frBot a b = frBot c d:=by
  obtain ⟨h1,h2⟩:=fr_scale (t:=a) (b:=b) hd
  obtain ⟨h3,h4⟩:=fr_scale (t:=c) (b:=d) hb
  have e1:d * a = b * c:=by rw [Int.mul_comm,e,Int.mul_comm]
  have e2:d * b = b * d:=Int.mul_comm _ _
  rw [← h1,← h2,e1,e2,h3,h4]
  exact ⟨rfl,rfl⟩
theorem frTop_le {t b:Int}:(frTop t b).natAbs≤t.natAbs:=Int.natAbs_ediv_le_natAbs _ _
theorem frBot_le {t b:Int}:(frBot t b).natAbs≤b.natAbs:=Int.natAbs_ediv_le_natAbs _ _
abbrev Up (l:List Str):Prop:=l.Pairwise fun a b=>ltStr a b = true
theorem ltS_asym {a b:Str} (h:ltStr a b = true):ltStr b a = false:=by
  cases e:ltStr b a with
  | false=>rfl
  | true=>have:=ltS_trans h e; rw [ltS_irr] at this; cases this
theorem ltS_ne {a b:Str} (h:ltStr a b = true):a≠b:=fun z=>by rw [z,ltS_irr] at h; cases h
theorem sorted_uniq {a b:List Str} (ha:Up a) (hb:Up b) (p:a.Perm b):a = b :=
  List.Perm.eq_of_pairwise (fun x y _ _ h1 h2=>by rw [ltS_asym h1] at h2; cases h2) ha hb p
theorem Up.nodup {l:List Str} (h:Up l):l.Nodup:=h.imp fun z=>ltS_ne z
theorem rising_pw:∀ {l:List Str} {p:Str},PyProof.Rows.risingS p l = true→(p :: l).Nodup→(p :: l).Pairwise fun a b=>ltStr a b = true
  | [],p,_,_=>by simp
  | x :: l,p,h,nd=>by
    have h':=(Bool.and_eq_true _ _ ▸ h:_∧_)
    have nd':=List.nodup_cons.mp nd
    have ih:=rising_pw h'.2 nd'.2
    have px:ltStr p x = true:=by
      have n:p≠x:=fun z=>nd'.1 (z ▸ List.mem_cons_self)
      rcases ltS_tot n with z | z
      · exact z
      · have:=h'.1
        rw [PyProof.Rows.ltCps_eq] at this
        unfold ltStr at z
        rw [z] at this
        cases this
    refine List.pairwise_cons.mpr ⟨fun y hy=>?_,ih⟩
    rcases List.mem_cons.mp hy with rfl | hy
    · exact px
    · exact ltS_trans px ((List.pairwise_cons.mp ih).1 y hy)
theorem sorted_pw {l:List Str} (h:PyProof.Rows.sortedS l = true) (nd:l.Nodup):l.Pairwise fun a b=>ltStr a b = true:=by
  cases l with
  | nil=>exact .nil
  | cons x l=>exact rising_pw h nd
structure Pce where
  a:List Str
  b:List Str
  t:Int
  o:Int
  c:Int
def PcAt (H:Hp) (r:Addr) (p:Pce):Prop:=∃ a b,H r = some (.tup [.ref a,.ref b,.int p.t,.int p.o,.int p.c])∧H a = some (.tup (p.a.map V.str))∧H b = some (.tup (p.b.map V.str))
theorem PcAt.up {H H':Hp} {r:Addr} {p:Pce} (h:PcAt H r p) (s:∀ b xs,H b = some (.tup xs)→H' b = some (.tup xs)):PcAt H' r p:=by
  obtain ⟨a,b,h1,h2,h3⟩:=h
  exact ⟨a,b,s _ _ h1,s _ _ h2,s _ _ h3⟩
theorem PcAt.same {H H':Hp} {r:Addr} {p:Pce} (h:PcAt H r p) (s:Same H H'):PcAt H' r p:=h.up fun _ _ e=>s _ _ e
structure CrOk (a:List Str):Prop where
  l1:1≤a.length
  l4:a.length≤4
  ok:∀ n∈a,okN n
structure PcOk (p:Pce):Prop where
  a:CrOk p.a
  b:CrOk p.b
  t1:1≤p.t
  t9:p.t≤1000000000
  o1:1≤p.o
  o9:p.o≤1000000000
  c1:1≤p.c
  c9:p.c≤1000000000
structure Crews (p:Pce):Prop where
  a:Up p.a
  b:Up p.b
  no:∀ n∈p.a,n ∉ p.b
  le:p.a.length = p.b.length
def exc (a:List Str) (m y:Str):List Str:=a.filter (fun n=>!decide (n = m)) ++ [y]
def Exch (a:List Str) (m y:Str) (c:List Str):Prop:=c.Perm (exc a m y)∧Up c
theorem Exch.uniq {a c d:List Str} {m y:Str} (h:Exch a m y c) (k:Exch a m y d):c = d:=sorted_uniq h.2 k.2 (h.1.trans k.1.symm)
theorem mem_exc {a:List Str} {m y x:Str}:x∈exc a m y↔(x∈a∧x≠m)∨x = y:=by
  unfold exc
  rw [List.mem_append,List.mem_filter,List.mem_singleton]
  simp
theorem exc_nodup {a:List Str} {m y:Str} (h:a.Nodup) (hy:y ∉ a):(exc a m y).Nodup:=by
  unfold exc
  rw [List.nodup_append]
  refine ⟨h.filter _,by simp,fun x hx z hz=>?_⟩
  rw [List.mem_singleton.mp hz]
  rintro rfl
  exact hy (List.mem_filter.mp hx).1
theorem exch_of {a c:List Str} {m y:Str} (h:a.Nodup) (hy:y ∉ a) (p:c.Perm (exc a m y)) (s:PyProof.Rows.sortedS c = true):Exch a m y c:=⟨p,sorted_pw s (p.nodup_iff.mpr (exc_nodup h hy))⟩
structure Xp (p q:Pce) (m y:Str):Prop where
  hm:m∈p.a
  hy:y∈p.b
  a:Exch p.a m y q.a
  b:Exch p.b y m q.b
theorem nodup_perm_of {a b:List Str} (ha:a.Nodup) (hb:b.Nodup) (h:∀ x,x∈a↔x∈b):a.Perm b:=(List.perm_ext_iff_of_nodup ha hb).mpr h
theorem Xp.symm {p q:Pce} {m y:Str} (P:Crews p) (x:Xp p q m y):Xp q p y m:=by
  have my:m≠y:=fun z=>P.no _ x.hm (z ▸ x.hy)
  have nya:y ∉ p.a:=fun z=>P.no _ z x.hy
  have nmb:m ∉ p.b:=P.no _ x.hm
  have e1:∀ z,z∈q.a↔(z∈p.a∧z≠m)∨z = y:=fun z=>by rw [x.a.1.mem_iff,mem_exc]
  have e2:∀ z,z∈q.b↔(z∈p.b∧z≠y)∨z = m:=fun z=>by rw [x.b.1.mem_iff,mem_exc]
  have m1:m ∉ q.a:=fun z=>by rcases (e1 m).mp z with z | z; exact z.2 rfl; exact my z
  have m2:y ∉ q.b:=fun z=>by rcases (e2 y).mp z with z | z; exact z.2 rfl; exact my z.symm
  refine ⟨(e1 y).mpr (.inr rfl),(e2 m).mpr (.inr rfl),⟨?_,P.a⟩,⟨?_,P.b⟩⟩
  · refine nodup_perm_of P.a.nodup (exc_nodup x.a.2.nodup m1) fun z=>?_
    rw [mem_exc,e1]
    constructor
    · intro hz
      by_cases zm:z = m
      · exact .inr zm
      · exact .inl ⟨.inl ⟨hz,zm⟩,fun w=>nya (w ▸ hz)⟩
    · rintro (⟨⟨h,_⟩ | h,h2⟩ | h)
      · exact h
      · exact absurd h h2
      · exact h ▸ x.hm
  · refine nodup_perm_of P.b.nodup (exc_nodup x.b.2.nodup m2) fun z=>?_
    rw [mem_exc,e2]
    constructor
    · intro hz
      by_cases zm:z = y
      · exact .inr zm
      · exact .inl ⟨.inl ⟨hz,zm⟩,fun w=>nmb (w ▸ hz)⟩
    · rintro (⟨⟨h,_⟩ | h,h2⟩ | h)
      · exact h
      · exact absurd h h2
      · exact h ▸ x.hy
theorem filter_one {a:List Str} (h:a.Nodup) {m:Str} {f:Str→Bool} (hm:m∈a) (hf:∀ x∈a,f x = true↔x = m):a.filter f = [m]:=by
  have hn:(a.filter f).Nodup:=h.filter _
  have hp:(a.filter f).Perm [m]:=nodup_perm_of hn (by simp) fun x=>by
    rw [List.mem_filter,List.mem_singleton]
    exact ⟨fun z=>(hf x z.1).mp z.2,fun z=>z ▸ ⟨hm,(hf m hm).mpr rfl⟩⟩
  exact List.perm_singleton.mp hp
def notin (a b:List Str):List Str:=a.filter fun n=>!decide (n∈b)
theorem notin_is {a b:List Str} (h:a.Nodup) {m:Str} (hm:m∈a) (hf:∀ x∈a,x ∉ b↔x = m):notin a b = [m]:=filter_one h hm fun x hx=>by rw [← hf x hx]; simp
theorem Xp.diff {p q:Pce} {m y:Str} (P:Crews p) (x:Xp p q m y):notin p.a q.a = [m]∧notin q.a p.a = [y]∧notin p.b q.b = [y]∧notin q.b p.b = [m]:=by
  have my:m≠y:=fun z=>P.no _ x.hm (z ▸ x.hy)
  have nya:y ∉ p.a:=fun z=>P.no _ z x.hy
  have nmb:m ∉ p.b:=P.no _ x.hm
  have e1:∀ z,z∈q.a↔(z∈p.a∧z≠m)∨z = y:=fun z=>by rw [x.a.1.mem_iff,mem_exc]
  have e2:∀ z,z∈q.b↔(z∈p.b∧z≠y)∨z = m:=fun z=>by rw [x.b.1.mem_iff,mem_exc]
  refine ⟨notin_is P.a.nodup x.hm fun z hz=>?_,notin_is x.a.2.nodup ((e1 y).mpr (.inr rfl)) fun z hz=>?_,notin_is P.b.nodup x.hy fun z hz=>?_,notin_is x.b.2.nodup ((e2 m).mpr (.inr rfl)) fun z hz=>?_⟩
  · rw [e1]
    refine ⟨fun h=>Classical.byContradiction fun w=>h (.inl ⟨hz,w⟩),?_⟩
    rintro rfl (h | h)
    · exact h.2 rfl
    · exact my h
  · refine ⟨fun h=>?_,fun h=>h ▸ nya⟩
    rcases (e1 z).mp hz with w | w
    · exact absurd w.1 h
    · exact w
  · rw [e2]
    refine ⟨fun h=>Classical.byContradiction fun w=>h (.inl ⟨hz,w⟩),?_⟩
    rintro rfl (h | h)
    · exact h.2 rfl
    · exact my h.symm
  · refine ⟨fun h=>?_,fun h=>h ▸ nmb⟩
    rcases (e2 z).mp hz with w | w
    · exact absurd w.1 h
    · exact w
theorem exc_length {a:List Str} {m y:Str} (nd:a.Nodup) (h:m∈a):(exc a m y).length = a.length:=by
  unfold exc
  rw [List.length_append,List.length_singleton]
  have e:a.filter (fun n=>!decide (n = m)) = a.erase m:=by
    rw [nd.erase_eq_filter]
    rfl
  rw [e,List.length_erase_of_mem h]
  have:0 < a.length:=List.length_pos_of_mem h
  omega
theorem Xp.crews {p q:Pce} {m y:Str} (P:Crews p) (x:Xp p q m y):Crews q:=by
  have my:m≠y:=fun z=>P.no _ x.hm (z ▸ x.hy)
  refine ⟨x.a.2,x.b.2,fun n hn hb=>?_,?_⟩
  · rw [x.a.1.mem_iff,mem_exc] at hn
    rw [x.b.1.mem_iff,mem_exc] at hb
    rcases hn with ⟨h1,h2⟩ | h1 <;> rcases hb with ⟨h3,h4⟩ | h3
    · exact P.no n h1 h3
    · exact h2 h3
    · exact h4 h1
    · exact my (h3.symm.trans h1)
  · rw [x.a.1.length_eq,x.b.1.length_eq,exc_length P.a.nodup x.hm,exc_length P.b.nodup x.hy]; exact P.le
theorem Xp.uniq {p q:Pce} {m y m' y':Str} (P:Crews p) (x:Xp p q m y) (x':Xp p q m' y'):m = m'∧y = y':=by
  have a:=x.diff P
  have b:=x'.diff P
  have h1:=a.1.symm.trans b.1
  have h2:=a.2.1.symm.trans b.2.1
  simp only [List.cons.injEq,and_true] at h1 h2
  exact ⟨h1,h2⟩
def dif (p q:Pce):Int:=(p.o - p.t) * q.c - (q.o - q.t) * p.c
def trOf (p q:Pce) (m y:Str):Str × Str × Int × Int :=
  let d:=dif p q
  let b:=p.c * q.c
  if 0 < d then (m,y,frTop d b,frBot d b) else if d < 0 then (y,m,frTop (-d) b,frBot (-d) b) else (if ltStr y m = true then y else m,if ltStr y m = true then m else y,0,1)
theorem dif_symm (p q:Pce):dif q p = - dif p q:=by unfold dif; omega
theorem trOf_symm {p q:Pce} {m y:Str} (h:m≠y):trOf q p y m = trOf p q m y:=by
  have e:q.c * p.c = p.c * q.c:=Int.mul_comm _ _
  unfold trOf
  simp only [dif_symm p q,e,Int.neg_neg]
  by_cases h1:0 < dif p q
  · rw [if_pos h1,if_neg (by omega),if_pos (by omega)]
  · by_cases h2:dif p q < 0
    · rw [if_neg h1,if_pos h2,if_pos (by omega)]
    · rw [if_neg h1,if_neg h2,if_neg (by omega),if_neg (by omega)]
      rcases ltS_tot h with z | z
      · rw [if_pos z,if_pos z,if_neg (by rw [ltS_asym z]; decide),if_neg (by rw [ltS_asym z]; decide)]
      · rw [if_pos z,if_pos z,if_neg (by rw [ltS_asym z]; decide),if_neg (by rw [ltS_asym z]; decide)]
def turnP (p:Pce):Pce:=⟨p.b,p.a,p.o,p.t,p.c⟩
theorem Crews.turn {p:Pce} (P:Crews p):Crews (turnP p):=⟨P.b,P.a,fun n hn h=>P.no n h hn,P.le.symm⟩
theorem PcOk.turn {p:Pce} (P:PcOk p):PcOk (turnP p):=⟨P.b,P.a,P.o1,P.o9,P.t1,P.t9,P.c1,P.c9⟩
theorem Xp.turn {p q:Pce} {m y:Str} (x:Xp p q m y):Xp (turnP p) (turnP q) y m:=⟨x.hy,x.hm,x.b,x.a⟩
theorem trOf_turn {p q:Pce} {m y:Str} (h:m≠y):trOf (turnP p) (turnP q) y m = trOf p q m y:=by
  have e:dif (turnP p) (turnP q) = - dif p q:=by
    show (p.t - p.o) * q.c - (q.t - q.o) * p.c = -((p.o - p.t) * q.c - (q.o - q.t) * p.c)
    rw [show p.t - p.o = -(p.o - p.t) by omega,show q.t - q.o = -(q.o - q.t) by omega,Int.neg_mul,Int.neg_mul]
    omega
  rw [← trOf_symm h]
  unfold trOf
  simp only [e,dif_symm p q]
  show (if 0 < -dif p q then _ else if -dif p q < 0 then (m,y,frTop _ (p.c * q.c),frBot _ (p.c * q.c)) else _) = _
  rw [Int.mul_comm q.c p.c]
  rfl
def Told (p q:Pce) (r:Option (Str × Str × Int × Int)):Prop:=(∃ m y,Xp p q m y∧r = some (trOf p q m y))∨((∀ m y,¬ Xp p q m y)∧r = none)
theorem Told.uniq {p q:Pce} {r r':Option (Str × Str × Int × Int)} (P:Crews p) (h:Told p q r) (h':Told p q r'):r = r':=by
  rcases h with ⟨m,y,x,rfl⟩ | ⟨n,rfl⟩ <;> rcases h' with ⟨m',y',x',rfl⟩ | ⟨n',rfl⟩
  · obtain ⟨rfl,rfl⟩:=x.uniq P x'; rfl
  · exact absurd x (n' _ _)
  · exact absurd x' (n _ _)
  · rfl
theorem Told.symm {p q:Pce} {r:Option (Str × Str × Int × Int)} (P:Crews p) (Qc:Crews q) (h:Told p q r):Told q p r:=by
  rcases h with ⟨m,y,x,rfl⟩ | ⟨n,rfl⟩
  · exact .inl ⟨y,m,x.symm P,by rw [trOf_symm (p:=p) (m:=m) (y:=y) (fun z=>P.no _ x.hm (z ▸ x.hy))]⟩
  · exact .inr ⟨fun m y x=>n _ _ (x.symm Qc),rfl⟩
theorem Told.turn {p q:Pce} {r:Option (Str × Str × Int × Int)} (P:Crews p) (h:Told p q r):Told (turnP p) (turnP q) r:=by
  rcases h with ⟨m,y,x,rfl⟩ | ⟨n,rfl⟩
  · exact .inl ⟨y,m,x.turn,by rw [trOf_turn (p:=p) (m:=m) (y:=y) (fun z=>P.no _ x.hm (z ▸ x.hy))]⟩
  · exact .inr ⟨fun m y x=>n y m x.turn,rfl⟩
theorem fr_dif {p q:Pce} (hp:0 < p.c) (hq:0 < q.c):frTop (frTop (p.o - p.t) p.c * frBot (q.o - q.t) q.c - frTop (q.o - q.t) q.c * frBot (p.o - p.t) p.c) (frBot (p.o - p.t) p.c * frBot (q.o - q.t) q.c) = frTop (dif p q) (p.c * q.c) ∧
    frBot (frTop (p.o - p.t) p.c * frBot (q.o - q.t) q.c - frTop (q.o - q.t) q.c * frBot (p.o - p.t) p.c) (frBot (p.o - p.t) p.c * frBot (q.o - q.t) q.c) = frBot (dif p q) (p.c * q.c):=by
  have m1:=fr_mul (t:=p.o - p.t) hp
  have m2:=fr_mul (t:=q.o - q.t) hq
  have b1:=frBot_pos (t:=p.o - p.t) hp
  have b2:=frBot_pos (t:=q.o - q.t) hq
  generalize frTop (p.o - p.t) p.c = T1 at *
  generalize frBot (p.o - p.t) p.c = B1 at *
  generalize frTop (q.o - q.t) q.c = T2 at *
  generalize frBot (q.o - q.t) q.c = B2 at *
  refine fr_eq (Int.mul_pos b1 b2) (Int.mul_pos hp hq) ?_
  unfold dif
  rw [Int.sub_mul,Int.sub_mul]
  have a1:T1 * B2 * (p.c * q.c) = (p.o - p.t) * q.c * (B1 * B2):=by
    calc T1 * B2 * (p.c * q.c) = (T1 * p.c) * (B2 * q.c):=by ac_rfl
      _ = ((p.o - p.t) * B1) * (B2 * q.c):=by rw [m1]
      _ = _:=by ac_rfl
  have a2:T2 * B1 * (p.c * q.c) = (q.o - q.t) * p.c * (B1 * B2):=by
    calc T2 * B1 * (p.c * q.c) = (T2 * q.c) * (B1 * p.c):=by ac_rfl
      _ = ((q.o - q.t) * B2) * (B1 * p.c):=by rw [m2]
      _ = _:=by ac_rfl
  rw [a1,a2]
theorem fr_neg {t b:Int} (hb:0 < b):frTop (-t) b = - frTop t b∧frBot (-t) b = frBot t b:=by
  have h:=fr_mul (t:=t) hb
  unfold frTop frBot
  rw [Int.natAbs_neg]
  refine ⟨?_,rfl⟩
  rw [Int.neg_ediv_of_dvd]
  exact gcd_dvd_t t b
theorem fr_sign {t b:Int} (hb:0 < b):(0 < frTop t b↔0 < t)∧(frTop t b < 0↔t < 0):=by
  have h:=fr_mul (t:=t) hb
  have hB:=frBot_pos (t:=t) hb
  generalize frTop t b = T at *
  generalize frBot t b = B at *
  have key:∀ {x y u v:Int},0 < u→0 < v→x * u = y * v→0 < x→0 < y:=fun hu hv e hx=>by
    have:=Int.mul_pos hx hu
    rw [e] at this
    exact Int.pos_of_mul_pos_left this hv
  refine ⟨⟨key hb hB h,key hB hb h.symm⟩,⟨fun z=>?_,fun z=>?_⟩⟩
  · have:=key (x:=-T) (y:=-t) hb hB (by rw [Int.neg_mul,Int.neg_mul,h]) (by omega)
    omega
  · have:=key (x:=-t) (y:=-T) hB hb (by rw [Int.neg_mul,Int.neg_mul,h]) (by omega)
    omega
end K27
namespace K27
open PySem L2
abbrev sPc:Stmt:=top 38
def nmTm:List (Str × NameKind):=[(".0",.local),("k",.local),("_law_pick",.globalImplicit),("deck",.free)]
theorem ndKD:(["k","deck"]:List Str).Nodup:=by decide +kernel
section
variable {P:Program} {w:World} {K:PySem.W.Frag} {mg:Str→Option Value} {base:Heap}
def spPc:Sp:=fun vs H Q _=>∃ (k:Addr) (c:Int) (p:Addr) (ns:List Str),vs = [.ref k,.ref p]∧DeckAt H k c∧c≤20000∧p≠k∧H p = some (.lst (ns.map V.str))∧2≤ns.length∧ns.length≤12∧(∀ n∈ns,okN n)∧ns.Nodup ∧
  ∀ (r:Addr) (pc:Pce) (c':Int) (H':Hp),Keep k H H'→DeckAt H' k c'→c'≤c + 60→PcAt H' r pc→PcOk pc→Crews pc→Q (.ref r) H'
theorem crews_of {ss sA sB:List Str} {m:Nat} (nd:ss.Nodup) (pA:sA.Perm (ss.take m)) (pB:sB.Perm ((ss.drop m).take m)) (oA:PyProof.Rows.sortedS sA = true) (oB:PyProof.Rows.sortedS sB = true):Up sA∧Up sB∧∀ n∈sA,n ∉ sB:=by
  have h1:(ss.take m).Nodup:=nd.sublist (List.take_sublist _ _)
  have h2:((ss.drop m).take m).Nodup:=(nd.sublist (List.drop_sublist _ _)).sublist (List.take_sublist _ _)
  refine ⟨sorted_pw oA (pA.nodup_iff.mpr h1),sorted_pw oB (pB.nodup_iff.mpr h2),fun n hA hB=>?_⟩
  have a:=pA.mem_iff.mp hA
  have b:=List.mem_of_mem_take (pB.mem_iff.mp hB)
  rw [← List.take_append_drop m ss,List.nodup_append] at nd
  exact nd.2.2 n a n b rfl
theorem insert_perm {ss ns:List Str} {i r:Nat} (h:ss.Perm (ns.take i)) (hi:i < ns.length):(ss.take r ++ ns[i] :: ss.drop r).Perm (ns.take (i + 1)):=by
  rw [List.take_add_one,List.getElem?_eq_getElem hi,Option.toList_some]
  refine List.perm_middle.trans ?_
  rw [List.take_append_drop]
  exact (List.Perm.cons _ h).trans (List.perm_append_singleton _ _).symm
theorem scPc6:FnScope ["deck","names","many","order","name","times","course","crews"] ["deck","names"] (defScope sPc):=⟨rfl,rfl,rfl,by decide +kernel,rfl,by decide +kernel,by decide +kernel⟩
theorem boot_minE:bootBuiltins "min" = some (.builtin "min"):=by decide +kernel
theorem boot_sortedE:bootBuiltins "sorted" = some (.builtin "sorted"):=by decide +kernel
theorem ok_pc {f:Addr} {fd:FuncData} (F:Fun K "_law_piece" "_law_piece" sPc f fd) (T:Txt mg) (DP:Df P w K mg base 1 "_law_pick" ["deck","many"] spPick):FnOk P w K mg base CX0 2 f fd ["deck","names"] spPc:=by
  refine F.ok scPc6 (fun vs H Q E h=>?_) (fun cdv A outer s H vs Q E hr h=>?_)
  · obtain ⟨k,c,p,ns,rfl,_⟩:=h
    rfl
  · obtain ⟨k,c,p,ns,rfl,hk,hc,hpk,hp,l2,l12,okn,ndn,q⟩:=h
    refine ⟨_,pss_cons (ps_set (i:=2) scPc6.nd rfl (Or.inl rfl) (pe_op op_add pe_int (pe_df DP hr (pa_cons (pv 0) (pa_cons (pe_callB (call_min2 rfl) rfl T.min boot_minE (pa_cons pe_int (pa_cons (pe_op op_fdiv (pe_callB call_len_seq rfl T.len PySem.boot_len (pa_cons (pv 1) pa_nil)) pe_int) pa_nil))) pa_nil)))))
      (pss_cons (ps_set (i:=3) scPc6.nd rfl (Or.inl rfl) (pe_lst pa_nil))
      (pss_cons (ps_for PassesOwn.never rfl (pi_list (pv 1)) (pg_name (i:=4) scPc6.nd rfl (Or.inl rfl))
        (pss_one (ps_expr (pe_bm PySem.F.plainAttrs_list PySem.F.slot_list_insert PySem.F.type_list_insert mt_insert (pv 3)
          (pa_cons (pe_df DP hr (pa_cons (pv 0) (pa_cons (pe_op op_add (pe_callB call_len_seq rfl T.len PySem.boot_len (pa_cons (pv 3) pa_nil)) pe_int) pa_nil))) (pa_cons (pv 4) pa_nil))))))
      (pss_cons (ps_setLC (i0:=5) scPc6.nd rfl (Or.inl rfl) rfl (pi_range1 rfl T.range (pa_cons pe_int pa_nil)) (BlkOk.one (v:="k") (fr:="deck") (j:=0) (nm:=nmTm) rfl rfl rfl rfl (by decide +kernel) (by decide +kernel) (by decide +kernel) (by decide +kernel) (by decide +kernel))
        (fun _ _ _=>pg_name (i:=0) ndKD rfl (Or.inl rfl)) (fun _ _ _=>pts_nil)
        (te:=tOp (rIxL K) (tLst (tCons (tOp (rI0 fun i j=>.int (i + j)) (tC (.int 1)) (tCall spPick [] E0 (tCons (tVar 1) (tCons (tC (.int 9)) tNil)))) (tCons (tOp (rI0 fun i j=>.int (i + j)) (tC (.int 300)) (tCall spPick [] E0 (tCons (tVar 1) (tCons (tC (.int 60)) tNil)))) (tCons (tOp (rI CPow fun i j=>.int (i ^ j.toNat)) (tC (.int 10)) (tC (.int 9))) tNil)))) (tCall spPick [] E0 (tCons (tVar 1) (tCons (tC (.int 3)) tNil))))
        (fun _ _ _=>pe_ix ix_list (pe_lst (pa_cons (pe_op op_add pe_int (pe_df DP hr (pa_cons (pv 1) (pa_cons pe_int pa_nil)))) (pa_cons (pe_op op_add pe_int (pe_df DP hr (pa_cons (pv 1) (pa_cons pe_int pa_nil)))) (pa_cons (pe_op op_pow pe_int pe_int) pa_nil)))) (pe_df DP hr (pa_cons (pv 1) (pa_cons pe_int pa_nil))) (fun _ _=>rfl)))
      (pss_cons (ps_set (i:=6) scPc6.nd rfl (Or.inl rfl) (pe_ix ix_list (pe_lst (pa_cons pe_int (pa_cons pe_int (pa_cons (pe_op op_add pe_int (pe_df DP hr (pa_cons (pv 0) (pa_cons pe_int pa_nil)))) (pa_cons (pe_op op_pow pe_int pe_int) pa_nil))))) (pe_df DP hr (pa_cons (pv 0) (pa_cons pe_int pa_nil))) (fun _ _=>rfl)))
      (pss_cons (ps_set (i:=7) scPc6.nd rfl (Or.inl rfl) (pe_tup (pa_cons (pe_callTy call_tuple_of rfl T.tuple PyProof.Rows.boot_tuple (pa_cons (pe_callB call_sortedS rfl T.sorted boot_sortedE (pa_cons (pe_slice sl_list (pv 3) po_none (po_some (pv 2))) pa_nil)) pa_nil))
        (pa_cons (pe_callTy call_tuple_of rfl T.tuple PyProof.Rows.boot_tuple (pa_cons (pe_callB call_sortedS rfl T.sorted boot_sortedE (pa_cons (pe_slice sl_list (pv 3) (po_some (pv 2)) (po_some (pe_op op_mul pe_int (pv 2)))) pa_nil)) pa_nil)) pa_nil))))
      (pss_one (ps_ret (pe_op op_catT (pv 7) (pe_tup (pa_cons (pe_ix ix_list (pv 5) pe_int (fun _ _=>rfl)) (pa_cons (pe_ix ix_list (pv 5) pe_int (fun _ _=>rfl)) (pa_cons (pv 6) pa_nil)))))))))))),?_⟩
    have hM:∃ M:Int,(if ((ns.map V.str).length:Int) / 2 < 4 then ((ns.map V.str).length:Int) / 2 else 4) = M∧1≤M∧M≤4∧2 * M≤ns.length:=by
      rw [List.length_map]
      refine ⟨_,rfl,?_⟩
      split <;> omega
    obtain ⟨M,hM,M1,M4,M2⟩:=hM
    refine ⟨_,rfl,_,rfl,p,_,rfl,.inl (SqL.of hp),_,_,rfl,rfl,⟨by decide,by decide⟩,_,_,rfl,k,c,_,rfl,hk,by omega,by rw [hM]; omega,by rw [hM]; omega,fun r c1 H1 k1 d1 e1 g1 l1=>⟨_,_,rfl,rfl,?_⟩⟩
    rw [hM] at l1
    obtain ⟨m,em⟩:∃ m:Nat,1 + r = (m:Int):=⟨(1 + r).toNat,by omega⟩
    have m1:1≤m:=by omega
    have m4:m≤4:=by omega
    have m2:2 * m≤ns.length:=by omega
    refine ⟨by show 0≤sizeLine; decide,fun fo hfo=>?_⟩
    have hkf:k≠fo:=d1.ne hfo
    have hfo':H fo = none:=none_of_keep k1 hkf.symm hfo
    have hp1:=k1 p _ hpk hp
    have hpf:p≠fo:=fun z=>by rw [z,hfo] at hp1; cases hp1
    refine ⟨_,rfl,p,rfl,⟨_,SqL.of (same_new hfo _ _ _ hp1)⟩,for_list (K:=K) (a:=p) (xs:=ns.map V.str) (fun i σ' H'=>∃ (v:Option V) (c':Int) (ss:List Str),σ' = [some (.ref k),some (.ref p),some (.int m),some (.ref fo),v,none,none,none]∧Keep k H H'∧H' p = some (.lst (ns.map V.str))∧DeckAt H' k c'∧c'≤c + 1 + i ∧
        H' fo = some (.lst (ss.map V.str))∧ss.length = i∧(∀ n∈ss,okN n)∧ss.Perm (ns.take i)) ?_ (fun i σ' H' _ ⟨_,_,_,_,_,h,_⟩=>SqL.of h) ?_ ?_⟩
    · refine ⟨none,c1,[],?_,k1.trans (Keep.new hfo _),same_new hfo _ _ _ hp1,d1.new hfo,by omega,upd_same,rfl,by simp,by simp⟩
      rw [← em]
      rfl
    · rintro i y σ' H' hi ⟨v,c',ss,rfl,kH,hP,dk,hc',hF,hss,oF,pm⟩
      have hil:i < ns.length:=by
        have:=(List.getElem?_eq_some_iff.mp hi).1
        simpa using this
      have hy:y = .str ns[i]:=by
        rw [List.getElem?_map,List.getElem?_eq_getElem hil] at hi
        exact (Option.some.inj hi).symm
      have hyok:okN ns[i]:=okn _ (List.getElem_mem hil)
      have hpm:=fun r=>insert_perm (r:=r) pm hil
      generalize ns[i] = nm at hy hyok hpm
      subst hy
      have sl:(ss.map V.str).length = i:=by rw [List.length_map]; exact hss
      refine ⟨_,rfl,.inl ⟨rfl,_,SqL.of hF⟩,?_⟩
      refine ⟨_,rfl,_,rfl,fo,_,rfl,.inl (SqL.of hF),_,_,rfl,rfl,k,c',_,rfl,dk,by omega,by rw [sl]; omega,by rw [sl]; omega,fun r2 c2 H2 k2 d2 e2 g2 l2'=>?_⟩
      rw [sl] at l2'
      have hF2:=k2 fo _ hkf.symm hF
      refine ⟨_,rfl,fo,_,r2,_,rfl,rfl,hF2,small1000 (by omega),g2,by rw [sl]; omega,?_⟩
      rw [map_insert]
      have hs2:=len_insert ss (i:=r2.toNat) nm (by omega)
      refine ⟨_,c2,_,rfl,fun b o n e=>by rw [upd_ne (ne_of_none e hfo')]; exact k2 b o n (kH b o n e),by rw [upd_ne hpf]; exact k2 p _ hpk hP,d2.keep (fun o e=>by rw [upd_ne hkf]; exact e),by omega,upd_same,by omega,ok_insert r2.toNat oF hyok,hpm _⟩
    · rintro σ' H' ⟨v,c',ss,rfl,kH,hP,dk,hc',hF,hss,oF,pm⟩
      rw [List.length_map] at hc' hss pm
      rw [List.take_length] at pm
      refine ⟨_,rfl,by decide,by decide,fun D hD=>?_⟩
      have nD:k≠D:=dk.ne hD
      refine lc_map (J:=Itr 0 2) (n:=2) (f:=fun i=>.int i) (fun i ys σ' J=>∃ (ts:List Int) (c2:Int),ys = ts.map V.int∧(∃ v,σ' = [v,some (.ref k)])∧Keep k H' J∧DeckAt J k c2∧c2≤c' + 3 * i∧ts.length = i∧∀ t∈ts,1≤t∧t≤1000000000) hD (by decide)
        ⟨[],c',rfl,⟨none,rfl⟩,Keep.new hD _,dk.new hD,by simp,rfl,by simp⟩ (fun i ys σ' J hi _ _=>itr_steps 2 i J hi) ?_ ?_
      · rintro i ys σ2 J hi hy ⟨ts,c2,rfl,⟨v2,rfl⟩,kJ,dJ,hc2,hts,bts⟩
        refine ⟨_,rfl,k,c2,9,rfl,dJ,by omega,by decide,by decide,fun ra ca Ja ka da ea ga la=>⟨_,_,rfl,rfl,?_⟩⟩
        refine ⟨_,rfl,k,ca,60,rfl,da,by omega,by decide,by decide,fun rb cb Jb kb db eb gb lb=>⟨_,_,rfl,rfl,?_⟩⟩
        refine ⟨_,_,rfl,rfl,⟨by decide,by decide,by decide⟩,by show 3≤sizeLine; decide,fun l hl=>?_⟩
        refine ⟨_,rfl,k,cb,3,rfl,db.new hl,by omega,by decide,by decide,fun rc cc Jc kc dc ec gc lc=>?_⟩
        have hlv:=kc l _ (db.ne hl).symm upd_same
        have hv:∃ t:Int,atI [V.int (1 + ra),V.int (300 + rb),V.int ((10:Int) ^ (9:Int).toNat)] rc = some (.int t)∧1≤t∧t≤1000000000:=by
          have:rc = 0∨rc = 1∨rc = 2:=by omega
          rcases this with rfl | rfl | rfl
          · exact ⟨_,atI_nat (j:=0) rfl,by omega,by omega⟩
          · exact ⟨_,atI_nat (j:=1) rfl,by omega,by omega⟩
          · exact ⟨_,atI_nat (j:=2) rfl,by decide,by decide⟩
        obtain ⟨t,ht,t1,t2⟩:=hv
        have kJc:Keep k J Jc:=(ka.trans kb).trans ((Keep.new hl _).trans kc)
        refine ⟨l,_,rc,_,rfl,rfl,SqL.of hlv,ht,kJc D _ nD.symm hy,ts ++ [t],cc,by simp,⟨_,rfl⟩,fun b o n e=>?_,dc.keep (fun o e=>by rw [upd_ne nD]; exact e),by omega,by simp [hts],fun x hx=>?_⟩
        · have nb:b≠D:=fun z=>by rw [z,hD] at e; cases e
          rw [upd_ne nb]
          exact kJc b o n (kJ b o n e)
        · rcases List.mem_append.mp hx with hx | hx
          · exact bts x hx
          · rw [List.mem_singleton.mp hx]; exact ⟨t1,t2⟩
      · rintro ys σ2 J hy ⟨ts,c2,rfl,⟨v2,rfl⟩,kJ,dJ,hc2,hts,bts⟩
        have ht2:∃ ta tb:Int,ts = [ta,tb]:=by
          match ts,hts with
          | [ta,tb],_=>exact ⟨ta,tb,rfl⟩
        obtain ⟨ta,tb,rfl⟩:=ht2
        have bta:=bts ta (by simp)
        have btb:=bts tb (by simp)
        refine ⟨_,rfl,k,c2,12,rfl,dJ,by omega,by decide,by decide,fun ra ca Ja ka da ea ga la=>⟨_,_,rfl,rfl,?_⟩⟩
        refine ⟨_,_,rfl,rfl,⟨by decide,by decide,by decide⟩,by show 4≤sizeLine; decide,fun l hl=>?_⟩
        refine ⟨_,rfl,k,ca,4,rfl,da.new hl,by omega,by decide,by decide,fun rc cc Jc kc dc ec gc lc=>?_⟩
        have hlv:=kc l _ (da.ne hl).symm upd_same
        have hv:∃ t:Int,atI [V.int 1,V.int 2000,V.int (1 + ra),V.int ((10:Int) ^ (9:Int).toNat)] rc = some (.int t)∧1≤t∧t≤1000000000:=by
          have:rc = 0∨rc = 1∨rc = 2∨rc = 3:=by omega
          rcases this with rfl | rfl | rfl | rfl
          · exact ⟨_,atI_nat (j:=0) rfl,by decide,by decide⟩
          · exact ⟨_,atI_nat (j:=1) rfl,by decide,by decide⟩
          · exact ⟨_,atI_nat (j:=2) rfl,by omega,by omega⟩
          · exact ⟨_,atI_nat (j:=3) rfl,by decide,by decide⟩
        obtain ⟨co,hco,co1,co2⟩:=hv
        have kJc:Keep k J Jc:=ka.trans ((Keep.new hl _).trans kc)
        refine ⟨l,_,rc,_,rfl,rfl,SqL.of hlv,hco,?_⟩
        have hFc:=kJc fo _ hkf.symm (kJ fo _ hkf.symm hF)
        have hDc:=kJc D _ nD.symm hy
        have kHc:Keep k H Jc:=(kH.trans kJ).trans kJc
        have ssl:2 * m≤ss.length:=by omega
        have cut1:cutV (ss.map V.str) none (some (m:Int)) = (ss.take m).map V.str:=by
          unfold cutV
          rw [HT.sIx_none,HT.sIx_nat,List.drop_zero,List.length_map,Nat.sub_zero,show min m ss.length = m by omega,List.map_take]
        have cut2:cutV (ss.map V.str) (some (m:Int)) (some (2 * (m:Int))) = ((ss.drop m).take m).map V.str:=by
          unfold cutV
          rw [show (2 * (m:Int)) = ((2 * m:Nat):Int) by omega,HT.sIx_nat,HT.sIx_nat,List.length_map,show min m ss.length = m by omega,show min (2 * m) ss.length = 2 * m by omega,show 2 * m - m = m by omega,List.map_take,List.map_drop]
        refine ⟨_,rfl,_,rfl,_,rfl,fo,_,rfl,SqL.of hFc,fun s1 hs1=>?_⟩
        rw [cut1]
        have u1:Same Jc (upd Jc s1 (.lst ((ss.take m).map V.str))):=same_new hs1 _
        have w1:(upd Jc s1 (.lst ((ss.take m).map V.str))) s1 = some (.lst ((ss.take m).map V.str)):=upd_same
        generalize upd Jc s1 (.lst ((ss.take m).map V.str)) = G1 at *
        refine ⟨s1,ss.take m,rfl,SqL.of w1,by rw [List.length_take]; omega,fun l1 ssA hl1 pmA soA=>?_⟩
        have u2:Same G1 (upd G1 l1 (.lst (ssA.map V.str))):=same_new hl1 _
        have w2:(upd G1 l1 (.lst (ssA.map V.str))) l1 = some (.lst (ssA.map V.str)):=upd_same
        try dsimp only
        generalize upd G1 l1 (.lst (ssA.map V.str)) = G2 at *
        refine ⟨l1,_,rfl,.inl ⟨SqL.of w2,fun t1 ht1=>?_⟩⟩
        have u3:Same G2 (upd G2 t1 (.tup (ssA.map V.str))):=same_new ht1 _
        have w3:(upd G2 t1 (.tup (ssA.map V.str))) t1 = some (.tup (ssA.map V.str)):=upd_same
        try dsimp only
        generalize upd G2 t1 (.tup (ssA.map V.str)) = G3 at *
        have v3:Same Jc G3:=(u1.trans u2).trans u3
        refine ⟨_,rfl,_,rfl,_,rfl,_,rfl,_,_,rfl,rfl,.inl ⟨by decide,by decide⟩,_,rfl,fo,_,rfl,SqL.of (v3 _ _ hFc),fun s2 hs2=>?_⟩
        rw [cut2]
        have u4:Same G3 (upd G3 s2 (.lst (((ss.drop m).take m).map V.str))):=same_new hs2 _
        have w4:(upd G3 s2 (.lst (((ss.drop m).take m).map V.str))) s2 = some (.lst (((ss.drop m).take m).map V.str)):=upd_same
        generalize upd G3 s2 (.lst (((ss.drop m).take m).map V.str)) = G4 at *
        refine ⟨s2,(ss.drop m).take m,rfl,SqL.of w4,by rw [List.length_take]; omega,fun l2' ssB hl2 pmB soB=>?_⟩
        have u5:Same G4 (upd G4 l2' (.lst (ssB.map V.str))):=same_new hl2 _
        have w5:(upd G4 l2' (.lst (ssB.map V.str))) l2' = some (.lst (ssB.map V.str)):=upd_same
        try dsimp only
        generalize upd G4 l2' (.lst (ssB.map V.str)) = G5 at *
        refine ⟨l2',_,rfl,.inl ⟨SqL.of w5,fun t2 ht2=>?_⟩⟩
        have u6:Same G5 (upd G5 t2 (.tup (ssB.map V.str))):=same_new ht2 _
        have w6:(upd G5 t2 (.tup (ssB.map V.str))) t2 = some (.tup (ssB.map V.str)):=upd_same
        try dsimp only
        generalize upd G5 t2 (.tup (ssB.map V.str)) = G6 at *
        have v6:Same G3 G6:=(u4.trans u5).trans u6
        refine ⟨by show 2≤sizeLine; decide,fun cr hcr=>?_⟩
        have u7:Same G6 (upd G6 cr (.tup [.ref t1,.ref t2])):=same_new hcr _
        have w7:(upd G6 cr (.tup [.ref t1,.ref t2])) cr = some (.tup [.ref t1,.ref t2]):=upd_same
        try dsimp only
        generalize upd G6 cr (.tup [.ref t1,.ref t2]) = G7 at *
        have v7:Same Jc G7:=(v3.trans v6).trans u7
        refine ⟨_,rfl,_,rfl,D,_,0,_,rfl,rfl,SqL.of (v7 _ _ hDc),atI_nat (j:=0) rfl,_,rfl,D,_,1,_,rfl,rfl,SqL.of (v7 _ _ hDc),atI_nat (j:=1) rfl,_,rfl,by show 3≤sizeLine; decide,fun tt htt=>?_⟩
        have u8:Same G7 (upd G7 tt (.tup [.int ta,.int tb,.int co])):=same_new htt _
        refine ⟨cr,tt,_,_,rfl,rfl,SqT.of (u8 _ _ w7),SqT.of upd_same,by simp,by show 2 + 3≤sizeLine; decide,(fun z=>absurd z (by simp)),fun _ rr hrr=>?_⟩
        have v9:Same Jc (upd (upd G7 tt (.tup [.int ta,.int tb,.int co])) rr (.tup ([.ref t1,.ref t2] ++ [.int ta,.int tb,.int co]))):=(v7.trans u8).trans (same_new hrr _)
        have v39:=(v6.trans u7).trans (u8.trans (same_new hrr (.tup ([.ref t1,.ref t2] ++ [.int ta,.int tb,.int co]))))
        have v69:=u7.trans (u8.trans (same_new hrr (.tup ([.ref t1,.ref t2] ++ [.int ta,.int tb,.int co]))))
        obtain ⟨ko,hko⟩:=dc.some
        have kne:∀ {G:Hp} {x:Addr},Same Jc G→G x = none→x≠k:=fun sG hx z=>by rw [z,sG _ _ hko] at hx; cases hx
        have lA:=pmA.length_eq
        have lB:=pmB.length_eq
        rw [List.length_take] at lA lB
        rw [List.length_drop] at lB
        obtain ⟨uA,uB,no⟩:=crews_of (pm.nodup_iff.mpr ndn) pmA pmB soA soB
        have A1:1≤ssA.length:=by omega
        have A4:ssA.length≤4:=by omega
        have B1:1≤ssB.length:=by omega
        have B4:ssB.length≤4:=by omega
        exact q rr ⟨ssA,ssB,ta,tb,co⟩ cc _ (kHc.trans v9.keep) (dc.keep fun o e=>v9 _ _ e) (by omega) ⟨t1,t2,upd_same,v39 _ _ w3,v69 _ _ w6⟩
          ⟨⟨A1,A4,fun n hn=>oF n (List.mem_of_mem_take (pmA.mem_iff.mp hn))⟩,⟨B1,B4,fun n hn=>oF n (List.mem_of_mem_drop (List.mem_of_mem_take (pmB.mem_iff.mp hn)))⟩,bta.1,bta.2,btb.1,btb.2,co1,co2⟩ ⟨uA,uB,no,(show ssA.length = ssB.length by omega)⟩
end
end K27
namespace K27
open PySem L2 HT
theorem dec_vstr (i j:Str):decide (V.str i = V.str j) = decide (i = j):=by
  by_cases e:i = j
  · rw [e]; simp
  · rw [decide_eq_false e,decide_eq_false (fun z=>e (by injection z))]
theorem strs_get {ss:List Str} {i:Nat} (h:i < ss.length):(ss.map V.str).getD i .non = .str ss[i]:=by
  rw [List.getD_eq_getElem?_getD,List.getElem?_map,List.getElem?_eq_getElem h]; rfl
theorem take_get {α:Type} {l:List α} {i:Nat} (h:i < l.length):l.take (i + 1) = l.take i ++ [l[i]]:=by
  rw [List.take_add_one,List.getElem?_eq_getElem h]; rfl
theorem same_upd {H H1:Hp} {p:Addr} {o:HO} (s:Same H H1) (n:H p = none):Same H (upd H1 p o):=fun b u e=>by
  rw [upd_ne (fun z=>by rw [z,n] at e; cases e)]; exact s _ _ e
theorem ite_yes {c:Prop} [Decidable c] {A B:Prop} (h:c) (a:A):if c then A else B:=by rw [if_pos h]; exact a
theorem ite_no {c:Prop} [Decidable c] {A B:Prop} (h:¬ c) (a:B):if c then A else B:=by rw [if_neg h]; exact a
theorem flt_snoc {f:Str→Bool} {l:List Str} {x:Str}:(l ++ [x]).filter f = if f x = true then l.filter f ++ [x] else l.filter f:=by
  rw [List.filter_append]
  by_cases h:f x = true
  · rw [if_pos h,List.filter_cons_of_pos h]; rfl
  · rw [if_neg h,List.filter_cons_of_neg h]; simp
section
variable {P:Program} {w:World} {K:PySem.W.Frag} {mg:Str→Option Value} {base:Heap}
theorem ne_comp {H1:Hp} {L a:Addr} {A:List Str} {x:Str} {Q:VK} (v:Option V) (hL:H1 L = none) (h:H1 a = some (.tup (A.map V.str))) (hl:A.length≤1000) (q:∀ J,Same H1 J→J L = some (.lst ((A.filter fun n=>!decide (n = x)).map V.str))→Q (.ref L) J) :
    LCok (Itt K a) (gName 0) (tTest (tOp rNe (tVar 0) (tVar 1))) (tVar 0) [v,some (.str x)] H1 Q L:=by
  refine lc_fill (n:=A.length) (f:=fun i=>(A.map V.str).getD i .non) (fun j ys σ' J=>(∃ v,σ' = [v,some (.str x)])∧Same H1 J∧ys = ((A.take j).filter fun n=>!decide (n = x)).map V.str) hL hl ⟨⟨_,rfl⟩,same_upd (Same.refl _) hL,rfl⟩ ?_ ?_ ?_
  · rintro j ys σ' J hj hy ⟨_,sj,_⟩
    have:=itt_tup (K:=K) (SqT.of (sj _ _ h)) j (by rw [List.length_map]; exact hj)
    rw [List.length_map] at this
    exact this
  · rintro j ys σ' J hj hy ⟨⟨v,rfl⟩,sj,rfl⟩
    rw [strs_get hj]
    refine ⟨_,rfl,_,rfl,rfl,_,rfl,?_⟩
    rw [dec_vstr,take_get hj,flt_snoc]
    by_cases e:A[j] = x
    · refine ite_no (by simp [e]) ?_
      refine ⟨hy,⟨_,rfl⟩,sj,?_⟩
      rw [if_neg (by simp [e])]
    · refine ite_yes (by simp [e]) ?_
      refine ⟨_,rfl,hy,⟨_,rfl⟩,same_upd sj hL,?_⟩
      rw [if_pos (by simp [e]),List.map_append]
      rfl
  · rintro ys σ' J hy ⟨_,sj,rfl⟩
    rw [List.take_length] at hy
    exact q J sj hy
abbrev sFl:Stmt:=top 13
def spFl (K:PySem.W.Frag):Sp:=fun vs H Q _=>∃ (a b:Addr) (t1 b1 t2 b2:Int),vs = [.ref a,.ref b]∧SqT K H a [.int t1,.int b1]∧SqT K H b [.int t2,.int b2]∧0 < b1∧0 < b2∧b1 < 2 ^ 60∧b2 < 2 ^ 60∧t1.natAbs < 2 ^ 60∧t2.natAbs < 2 ^ 60 ∧
  ∀ p,H p = none→Q (.ref p) (upd H p (.tup [.int (frTop (t1 * b2 - t2 * b1) (b1 * b2)),.int (frBot (t1 * b2 - t2 * b1) (b1 * b2))]))
theorem scFl:FnScope ["one","other"] ["one","other"] (defScope sFl):=⟨rfl,rfl,rfl,by decide +kernel,rfl,by decide +kernel,by decide +kernel⟩
theorem mul_abs {x y:Int} {a b:Nat} (hx:x.natAbs < 2 ^ a) (hy:y.natAbs < 2 ^ b):(x * y).natAbs < 2 ^ (a + b):=by
  rw [Int.natAbs_mul,Nat.pow_add]
  exact Nat.mul_lt_mul'' hx hy
theorem ok_fl {f:Addr} {fd:FuncData} (F:Fun K "fraction_less" "fraction_less" sFl f fd) (DF:Df P w K mg base 1 "fraction" ["top","bottom"] spFr):FnOk P w K mg base CX0 2 f fd ["one","other"] (spFl K):=by
  refine F.ok scFl (fun vs H Q E h=>?_) (fun cdv A outer s H vs Q E hr h=>?_)
  · obtain ⟨a,b,t1,b1,t2,b2,rfl,_⟩:=h
    rfl
  · obtain ⟨a,b,t1,b1,t2,b2,rfl,h1,h2,p1,p2,l1,l2,m1,m2,q⟩:=h
    refine ⟨_,pss_one (ps_ret (pe_df DF hr (pa_cons (pe_op op_sub (pe_op op_mul (pe_ix ix_tup (pv 0) pe_int (fun _ _=>rfl)) (pe_ix ix_tup (pv 1) pe_int (fun _ _=>rfl))) (pe_op op_mul (pe_ix ix_tup (pv 1) pe_int (fun _ _=>rfl)) (pe_ix ix_tup (pv 0) pe_int (fun _ _=>rfl))))
      (pa_cons (pe_op op_mul (pe_ix ix_tup (pv 0) pe_int (fun _ _=>rfl)) (pe_ix ix_tup (pv 1) pe_int (fun _ _=>rfl))) pa_nil)))),?_⟩
    have c1:CMul t1 b2:=.inr ⟨by omega,by omega⟩
    have c2:CMul t2 b1:=.inr ⟨by omega,by omega⟩
    have c3:CMul b1 b2:=.inr ⟨by omega,by omega⟩
    have z:(b1 * b2).natAbs < 2 ^ 120:=mul_abs (a:=60) (b:=60) (by omega) (by omega)
    have z1:(t1 * b2).natAbs < 2 ^ 120:=mul_abs (a:=60) (b:=60) (by omega) (by omega)
    have z2:(t2 * b1).natAbs < 2 ^ 120:=mul_abs (a:=60) (b:=60) (by omega) (by omega)
    refine ⟨_,rfl,a,_,0,_,rfl,rfl,h1,atI_nat (j:=0) rfl,_,rfl,b,_,1,_,rfl,rfl,h2,atI_nat (j:=1) rfl,_,_,rfl,rfl,c1,_,rfl,b,_,0,_,rfl,rfl,h2,atI_nat (j:=0) rfl,_,rfl,a,_,1,_,rfl,rfl,h1,atI_nat (j:=1) rfl,_,_,rfl,rfl,c2,_,_,rfl,rfl,?_⟩
    refine ⟨_,rfl,a,_,1,_,rfl,rfl,h1,atI_nat (j:=1) rfl,_,rfl,b,_,1,_,rfl,rfl,h2,atI_nat (j:=1) rfl,_,_,rfl,rfl,c3,?_⟩
    exact ⟨_,_,rfl,Int.mul_pos p1 p2,by omega,by omega,q⟩
abbrev sEx:Stmt:=top 21
def nmEx:List (Str × NameKind):=[(".0",.local),("name",.local),("leaves",.free)]
theorem ndEx:(["name","leaves"]:List Str).Nodup:=by decide +kernel
def spEx:Sp:=fun vs H Q _=>∃ (a:Addr) (A:List Str) (m y:Str),vs = [.ref a,.str m,.str y]∧H a = some (.tup (A.map V.str))∧A.length≤12 ∧
  ∀ (t:Addr) (C:List Str) (H':Hp),Same H H'→H' t = some (.tup (C.map V.str))→C.Perm (exc A m y)→PyProof.Rows.sortedS C = true→Q (.ref t) H'
theorem scEx:FnScope ["crew","leaves","enters"] ["crew","leaves","enters"] (defScope sEx):=⟨rfl,rfl,rfl,by decide +kernel,rfl,by decide +kernel,by decide +kernel⟩
theorem ok_ex {f:Addr} {fd:FuncData} (F:Fun K "exchanged" "exchanged" sEx f fd) (T:Txt mg):FnOk P w K mg base CX0 1 f fd ["crew","leaves","enters"] spEx:=by
  refine F.ok scEx (fun vs H Q E h=>?_) (fun cdv A outer s H vs Q E hr h=>?_)
  · obtain ⟨a,A,m,y,rfl,_⟩:=h
    rfl
  · obtain ⟨a,A,m,y,rfl,h1,l12,q⟩:=h
    refine ⟨_,pss_one (ps_ret (pe_callTy call_tuple_of rfl T.tuple PyProof.Rows.boot_tuple (pa_cons (pe_callB call_sortedS rfl T.sorted boot_sortedE (pa_cons (pe_op op_cat (pe_lc (N:=["name","leaves"]) (g:=gName 0) (tc:=tTest (tOp rNe (tVar 0) (tVar 1))) (te:=tVar 0) rfl (pi_tup (pv 0))
      (BlkOk.one (v:="name") (fr:="leaves") (j:=1) (nm:=nmEx) rfl rfl rfl rfl (by decide +kernel) (by decide +kernel) (by decide +kernel) (by decide +kernel) (by decide +kernel))
      (fun _ _ _=>pg_name (i:=0) ndEx rfl (Or.inl rfl)) (fun _ _ _=>pts_one (pt_cmpR op_ne (pv 0) (pv 1) (nomark _))) (fun _ _ _=>pv 0)) (pe_lst (pa_cons (pv 2) pa_nil))) pa_nil)) pa_nil))),?_⟩
    have lf:(A.filter fun n=>!decide (n = m)).length≤12:=Nat.le_trans (List.length_filter_le _ _) l12
    refine ⟨_,rfl,a,rfl,⟨_,SqT.of h1⟩,fun L hL=>?_⟩
    refine ne_comp none hL h1 (by omega) fun J sJ hJ=>?_
    refine ⟨_,rfl,by show 1≤sizeLine; decide,fun e he=>?_⟩
    have s2:=same_new he (.lst [.str y])
    have he2:upd J e (.lst [.str y]) e = some (.lst [.str y]):=upd_same
    generalize upd J e (.lst [.str y]) = J2 at *
    refine ⟨L,e,_,_,rfl,rfl,s2 _ _ hJ,he2,Nat.le_of_lt (small1000 (by rw [List.length_map]; simp only [List.length_singleton]; omega)),fun c hc=>?_⟩
    have em:(A.filter fun n=>!decide (n = m)).map V.str ++ [V.str y] = (exc A m y).map V.str:=by unfold exc; rw [List.map_append]; rfl
    rw [em]
    have s3:=same_new hc (.lst ((exc A m y).map V.str))
    have hc3:upd J2 c (.lst ((exc A m y).map V.str)) c = some (.lst ((exc A m y).map V.str)):=upd_same
    generalize upd J2 c (.lst ((exc A m y).map V.str)) = J3 at *
    refine ⟨c,exc A m y,rfl,SqL.of hc3,by unfold exc; rw [List.length_append,List.length_singleton]; omega,fun l C hl pm so=>?_⟩
    have s4:=same_new hl (.lst (C.map V.str))
    have hl4:upd J3 l (.lst (C.map V.str)) l = some (.lst (C.map V.str)):=upd_same
    try dsimp only
    generalize upd J3 l (.lst (C.map V.str)) = J4 at *
    refine ⟨l,_,rfl,.inl ⟨SqL.of hl4,fun t ht=>?_⟩⟩
    exact q t C _ ((((sJ.trans s2).trans s3).trans s4).trans (same_new ht _)) upd_same pm so
def exD (a b:List Str):PyData:=.tuple [.tuple (namesD a),.tuple (namesD b)]
theorem far3 (t a b:Nat):t≠t + a + b + 1∧a≠t + a + b + 1∧b≠t + a + b + 1:=by omega
theorem ex_tells {H:Hp} {t a b:Addr} {A B:List Str} (h1:H t = some (.tup [.ref a,.ref b])) (h2:H a = some (.tup (A.map V.str))) (h3:H b = some (.tup (B.map V.str))):Tells H (t + a + b + 1) (exD A B) (.ref t) :=
  tells_tuple.mpr ⟨t,_,rfl,(far3 t a b).1,h1,tellsAll_cons.mpr ⟨_,_,rfl,tells_tuple.mpr ⟨a,_,rfl,(far3 t a b).2.1,h2,tells_names A⟩,tellsAll_cons.mpr ⟨_,_,rfl,tells_tuple.mpr ⟨b,_,rfl,(far3 t a b).2.2,h3,tells_names B⟩,tellsAll_nil.mpr rfl⟩⟩⟩
theorem bd_names {c:List Str} (hc:∀ n∈c,okN n) (hl:c.length≤12):Bd 13 1 (.tuple (namesD c)):=by
  refine (Bd.tuple (n:=1) (p:=0) (m:=12) (fun x hx=>?_) (by unfold namesD; rw [List.length_map]; exact hl)).mono (by decide) (by decide)
  obtain ⟨n,hn,rfl⟩:=List.mem_map.mp hx
  exact bd_str (hc n hn).1 (hc n hn).2.1
theorem bd_ex {a b:List Str} (ha:∀ n∈a,okN n) (hb:∀ n∈b,okN n) (la:a.length≤12) (lb:b.length≤12):Bd 30 2 (exD a b):=by
  refine (Bd.tuple (n:=13) (p:=1) (m:=2) (ds:=[.tuple (namesD a),.tuple (namesD b)]) (fun x hx=>?_) (Nat.le_refl 2)).mono (by decide) (by decide)
  simp only [List.mem_cons,List.not_mem_nil,or_false] at hx
  rcases hx with rfl | rfl
  · exact bd_names ha la
  · exact bd_names hb lb
theorem eqv_names:∀ (a b:List Str),PyData.eqv (.tuple (namesD a)) (.tuple (namesD b)) = decide (a = b)
  | [],[]=>by simp [namesD,PyData.eqv,PyData.eqvAll]
  | [],_ :: _=>by simp [namesD,PyData.eqv,PyData.eqvAll]
  | _ :: _,[]=>by simp [namesD,PyData.eqv,PyData.eqvAll]
  | x :: a,y :: b=>by
    have ih:=eqv_names a b
    simp only [namesD,PyData.eqv,PyData.eqvAll,List.map_cons] at ih ⊢
    rw [ih]
    by_cases h1:x = y
    · by_cases h2:a = b <;> simp [h1,h2]
    · simp [h1]
theorem eqv_ex {a b c d:List Str}:PyData.eqv (exD a b) (exD c d) = decide (a = c∧b = d):=by
  have h1:=eqv_names a c
  have h2:=eqv_names b d
  simp only [exD,PyData.eqv,PyData.eqvAll] at h1 h2 ⊢
  rw [h1,h2]
  by_cases e1:a = c <;> by_cases e2:b = d <;> simp [e1,e2]
abbrev sXp:Stmt:=top 22
def spXp (CN:Addr):Sp:=fun vs H Q E=>∃ (r1 r2:Addr) (p q:Pce),vs = [.ref r1,.ref r2]∧PcAt H r1 p∧PcAt H r2 q∧PcOk p∧PcOk q∧Crews p ∧
  (((∀ m y,¬ Xp p q m y)∧∀ H',Same H H'→E (.ref CN) none H')∨∃ m y,Xp p q m y∧∀ t H',Same H H'→H' t = some (.tup [.str m,.str y])→Q (.ref t) H')
theorem scXp:FnScope ["one","other","mine","yours"] ["one","other"] (defScope sXp):=⟨rfl,rfl,rfl,by decide +kernel,rfl,by decide +kernel,by decide +kernel⟩
theorem ok_xp {f:Addr} {fd:FuncData} (F:Fun K "exchanged_pair" "exchanged_pair" sXp f fd) {CN:Addr} (ON:ExcC K mg "NoTrial" CN) (DX:Df P w K mg base 1 "exchanged" ["crew","leaves","enters"] spEx):FnOk P w K mg base (CXE P w) 2 f fd ["one","other"] (spXp CN):=by
  refine F.okX scXp (fun vs H Q E h=>?_) (fun cdv A outer s H vs Q E hr h=>?_)
  · obtain ⟨r1,r2,p,q,rfl,_⟩:=h
    rfl
  · obtain ⟨r1,r2,p,q,rfl,h1,h2,o1,o2,cp,hq⟩:=h
    refine ⟨_,pss_cons (PS.nox (ps_for PassesOwn.never rfl (pi_tup (pe_ix ix_tup (pv 0) pe_int (fun _ _=>rfl))) (pg_name (i:=2) scXp.nd rfl (Or.inl rfl))
        (pss_one (ps_for PassesOwn.never rfl (pi_tup (pe_ix ix_tup (pv 0) pe_int (fun _ _=>rfl))) (pg_name (i:=3) scXp.nd rfl (Or.inl rfl))
          (pss_one (ps_if (pt_cmpR (op_eqD hr.units) (pe_slice sl_tup (pv 1) po_none (po_some pe_int)) (pe_tup (pa_cons (pe_df DX hr (pa_cons (pe_ix ix_tup (pv 0) pe_int (fun _ _=>rfl)) (pa_cons (pv 2) (pa_cons (pv 3) pa_nil)))) (pa_cons (pe_df DX hr (pa_cons (pe_ix ix_tup (pv 0) pe_int (fun _ _=>rfl)) (pa_cons (pv 3) (pa_cons (pv 2) pa_nil)))) pa_nil))) (nomark _))
            (pss_one (ps_ret (pe_tup (pa_cons (pv 2) (pa_cons (pv 3) pa_nil))))) pss_nil))))))
      (pss_one (ps_raise (W:=fun cls _ H'=>E cls none H') makes0 rfl ON rfl (pa_cons pe_str pa_nil))),?_⟩
    obtain ⟨a,b,e1,e2,e3⟩:=h1
    obtain ⟨c,d,g1,g2,g3⟩:=h2
    have la4:=o1.a.l4
    have lb4:=o1.b.l4
    refine ⟨_,rfl,r1,_,0,_,rfl,rfl,SqT.of e1,atI_nat (j:=0) rfl,a,rfl,⟨_,SqT.of e2⟩,for_tup (K:=K) (a:=a) (xs:=p.a.map V.str) (fun i σ' H'=>∃ v2 v3,σ' = [some (.ref r1),some (.ref r2),v2,v3]∧Same H H'∧∀ m∈p.a.take i,∀ y,¬ Xp p q m y)
      ⟨none,none,rfl,Same.refl _,by simp⟩ (fun i σ' H' _ ⟨_,_,_,sm,_⟩=>SqT.of (sm _ _ e2)) ?_ ?_⟩
    · rintro i x σ' H1 hx ⟨v2,v3,rfl,sm,no⟩
      have hi:i < p.a.length:=by have:=(List.getElem?_eq_some_iff.mp hx).1; rwa [List.length_map] at this
      rw [List.getElem?_map,List.getElem?_eq_getElem hi] at hx
      cases hx
      have mm:=List.getElem_mem hi
      have tk:=take_get hi
      rw [tk]
      generalize p.a[i] = m at *
      refine ⟨_,rfl,r1,_,1,_,rfl,rfl,SqT.of (sm _ _ e1),atI_nat (j:=1) rfl,b,rfl,⟨_,SqT.of (sm _ _ e3)⟩,for_tup (K:=K) (a:=b) (xs:=p.b.map V.str) (fun j σ' H'=>∃ v3,σ' = [some (.ref r1),some (.ref r2),some (.str m),v3]∧Same H H'∧∀ y∈p.b.take j,¬ Xp p q m y)
        ⟨_,rfl,sm,by simp⟩ (fun i σ' H' _ ⟨_,_,sm,_⟩=>SqT.of (sm _ _ e3)) ?_ ?_⟩
      · rintro j x σ' H2 hx ⟨w3,rfl,s2,no2⟩
        have hj:j < p.b.length:=by have:=(List.getElem?_eq_some_iff.mp hx).1; rwa [List.length_map] at this
        rw [List.getElem?_map,List.getElem?_eq_getElem hj] at hx
        cases hx
        have my:=List.getElem_mem hj
        have tk2:=take_get hj
        generalize p.b[j] = y at *
        refine ⟨_,rfl,_,rfl,r2,_,rfl,SqT.of (s2 _ _ g1),(show ¬ (sIx 5 0 none = 0∧sIx 5 5 (some 2) = 5) by decide +kernel),fun sl hsl=>?_⟩
        have s3:=same_upd (o:=.tup [.ref c,.ref d]) (Same.refl H2) hsl
        have hs3:upd H2 sl (.tup [.ref c,.ref d]) sl = some (.tup [.ref c,.ref d]):=upd_same
        show tTup _ _ (upd H2 sl (.tup [.ref c,.ref d])) _
        generalize upd H2 sl (.tup [.ref c,.ref d]) = H3 at *
        have s03:=s2.trans s3
        refine ⟨_,rfl,r1,_,0,_,rfl,rfl,SqT.of (s03 _ _ e1),atI_nat (j:=0) rfl,_,rfl,_,rfl,a,p.a,m,y,rfl,s03 _ _ e2,by omega,fun t1 C1 H4 s4 ht1 pm1 so1=>?_⟩
        have s04:=s03.trans s4
        refine ⟨_,rfl,r1,_,1,_,rfl,rfl,SqT.of (s04 _ _ e1),atI_nat (j:=1) rfl,_,rfl,_,rfl,b,p.b,y,m,rfl,s04 _ _ e3,by omega,fun t2 C2 H5 s5 ht2 pm2 so2=>?_⟩
        have s05:=s04.trans s5
        refine ⟨by show 2≤sizeLine; decide,fun t ht=>?_⟩
        have s6:=same_upd (o:=.tup [.ref t1,.ref t2]) (Same.refl H5) ht
        have ht6:upd H5 t (.tup [.ref t1,.ref t2]) t = some (.tup [.ref t1,.ref t2]):=upd_same
        generalize upd H5 t (.tup [.ref t1,.ref t2]) = H6 at *
        have s06:=s05.trans s6
        have nya:y ∉ p.a:=fun z=>cp.no _ z my
        have nmb:m ∉ p.b:=cp.no _ mm
        have x1:Exch p.a m y C1:=exch_of cp.a.nodup nya pm1 so1
        have x2:Exch p.b y m C2:=exch_of cp.b.nodup nmb pm2 so2
        have ok1:∀ n∈C1,okN n:=fun n hn=>by
          rcases mem_exc.mp (pm1.mem_iff.mp hn) with z | z
          · exact o1.a.ok n z.1
          · rw [z]; exact o1.b.ok y my
        have ok2:∀ n∈C2,okN n:=fun n hn=>by
          rcases mem_exc.mp (pm2.mem_iff.mp hn) with z | z
          · exact o1.b.ok n z.1
          · rw [z]; exact o1.a.ok m mm
        have l1:C1.length≤12:=by
          rw [pm1.length_eq]; unfold exc; rw [List.length_append,List.length_singleton]
          have:=List.length_filter_le (fun n=>!decide (n = m)) p.a
          omega
        have l2:C2.length≤12:=by
          rw [pm2.length_eq]; unfold exc; rw [List.length_append,List.length_singleton]
          have:=List.length_filter_le (fun n=>!decide (n = y)) p.b
          omega
        have bq:=bd_ex o2.a.ok o2.b.ok (Nat.le_trans o2.a.l4 (by decide)) (Nat.le_trans o2.b.l4 (by decide))
        have bc:=bd_ex ok1 ok2 l1 l2
        refine ⟨_,_,exD q.a q.b,exD C1 C2,ex_tells (((s4.trans s5).trans s6) _ _ hs3) (s06 _ _ g2) (s06 _ _ g3),ex_tells ht6 ((s5.trans s6) _ _ ht1) (s6 _ _ ht2),bq.lay (by decide),bc.lay (by decide),_,rfl,?_⟩
        rw [eqv_ex]
        refine ite2 (fun z=>?_) (fun z=>?_)
        · obtain ⟨z1,z2⟩:=of_decide_eq_true z
          have xp:Xp p q m y:=⟨mm,my,z1 ▸ x1,z2 ▸ x2⟩
          rcases hq with ⟨none',_⟩ | ⟨m',y',x',hQ⟩
          · exact absurd xp (none' _ _)
          · obtain ⟨rfl,rfl⟩:=xp.uniq cp x'
            refine ⟨_,rfl,_,rfl,by show 2≤sizeLine; decide,fun u hu=>?_⟩
            exact hQ u _ (s06.trans (same_upd (Same.refl _) hu)) upd_same
        · refine ⟨_,rfl,s06,?_⟩
          rw [tk2]
          intro y' hy' x'
          rcases List.mem_append.mp hy' with h | h
          · exact no2 y' h x'
          · rw [List.mem_singleton.mp h] at x'
            exact z (decide_eq_true ⟨x'.a.uniq x1,x'.b.uniq x2⟩)
      · rintro σ' H2 ⟨w3,rfl,s2,no2⟩
        rw [List.length_map,List.take_length] at no2
        refine ⟨_,_,rfl,s2,?_⟩
        intro m' hm' y' x'
        rcases List.mem_append.mp hm' with h | h
        · exact no m' h y' x'
        · rw [List.mem_singleton.mp h] at x'
          exact no2 y' x'.hy x'
    · rintro σ' H1 ⟨v2,v3,rfl,sm,no⟩
      rw [List.length_map,List.take_length] at no
      rcases hq with ⟨_,hE⟩ | ⟨m,y,x,_⟩
      · exact ⟨by show 1≤sizeLine; decide,hE H1 sm⟩
      · exact absurd x (no m x.hm y)
end
end K27
namespace K27
open PySem L2 HT PySem.W
section
variable {P:Program} {w:World} {K:PySem.W.Frag} {mg:Str→Option Value} {base:Heap}
def DfX (P:Program) (w:World) (K:PySem.W.Frag) (mg:Str→Option Value) (base:Heap) (k:Nat) (x:Str) (ps:List Str) (sp:Sp):Prop :=
  ∃ f fd,FnOk P w K mg base (CXE P w) k f fd ps sp∧Binds K fd ps []∧PySem.W.keepIn K (.ref f) = true∧mg x = some (.ref f)
theorem pe_dfX {X:Cx} {W:Value→St→Hp→Prop} {k:Nat} {x:Str} {ps:List Str} {sp:Sp} {e:Expr} {es:List Expr} {t:TA} {p pos:Pos} (D:DfX X.prog X.w X.K X.mg X.base k x ps sp) (hr:Room k X.A) (hL:Lets X W) (ha:PA X (e :: es) t) (hg:Gl X x:=by rfl) (hdb:(x == ("__debug__":Str)) = false:=by decide)
    (he:starEach (e :: es) X.env = (false,eval e X.env) :: starEach es X.env:=by rfl) (hpl:(backTo pos (starEach es X.env)).any (·.1) = false:=by rfl):PE X (.Call (.Name x p) (e :: es) [] pos) (tCallX sp [] W t):=by
  obtain ⟨f,fd,F,b,kp,m⟩:=D
  exact pe_callX F hr hg m kp b .nil hL ha hdb he hpl
abbrev sTr:Stmt:=top 23
abbrev Tr4:=Str × Str × Int × Int
def TrAt (H:Hp) (q:Addr) (r:Tr4):Prop:=∃ l,H q = some (.tup [.str r.1,.str r.2.1,.ref l])∧H l = some (.tup [.int r.2.2.1,.int r.2.2.2])
theorem TrAt.same {H H':Hp} {q:Addr} {r:Tr4} (h:TrAt H q r) (s:Same H H'):TrAt H' q r:=by
  obtain ⟨l,h1,h2⟩:=h
  exact ⟨l,s _ _ h1,s _ _ h2⟩
def spTr (CN:Addr):Sp:=fun vs H Q E=>∃ (r1 r2:Addr) (p q:Pce),vs = [.ref r1,.ref r2]∧PcAt H r1 p∧PcAt H r2 q∧PcOk p∧PcOk q∧Crews p ∧
  (((∀ m y,¬ Xp p q m y)∧∀ H',Same H H'→E (.ref CN) none H')∨∃ m y,Xp p q m y∧∀ t H',Same H H'→TrAt H' t (trOf p q m y)→Q (.ref t) H')
theorem scTr:FnScope ["one","other","mine","yours","top","bottom"] ["one","other"] (defScope sTr):=⟨rfl,rfl,rfl,by decide +kernel,rfl,by decide +kernel,by decide +kernel⟩
theorem boot_maxE:bootBuiltins "max" = some (.builtin "max"):=by decide +kernel
theorem ok_tr {f:Addr} {fd:FuncData} (F:Fun K "trial_of" "trial_of" sTr f fd) (T:Txt mg) {CN:Addr} (DX:DfX P w K mg base 2 "exchanged_pair" ["one","other"] (spXp CN)) (DL:Df P w K mg base 2 "fraction_less" ["one","other"] (spFl K)) (DM:Df P w K mg base 2 "margin" ["piece"] (spMg K)):FnOk P w K mg base (CXE P w) 3 f fd ["one","other"] (spTr CN):=by
  refine F.okX scTr (fun vs H Q E h=>?_) (fun cdv A outer s H vs Q E hr h=>?_)
  · obtain ⟨r1,r2,p,q,rfl,_⟩:=h
    rfl
  · obtain ⟨r1,r2,p,q,rfl,h1,h2,o1,o2,cp,hq⟩:=h
    refine ⟨_,pss_cons (ps_asg (pe_dfX DX hr (W:=fun cls _ H'=>E cls none H') lets0 (pa_cons (pv 0) (pa_cons (pv 1) pa_nil))) (pg_tup rfl (pgs_cons (pg_name (i:=2) scTr.nd rfl (Or.inl rfl)) (pgs_cons (pg_name (i:=3) scTr.nd rfl (Or.inl rfl)) pgs_nil))))
      (PSs.nox (pss_cons (ps_asg (pe_df DL hr (pa_cons (pe_df DM hr (pa_cons (pv 0) pa_nil)) (pa_cons (pe_df DM hr (pa_cons (pv 1) pa_nil)) pa_nil))) (pg_tup rfl (pgs_cons (pg_name (i:=4) scTr.nd rfl (Or.inl rfl)) (pgs_cons (pg_name (i:=5) scTr.nd rfl (Or.inl rfl)) pgs_nil))))
      (pss_cons (ps_if (pt_cmpR op_gt (pv 4) pe_int (nomark _)) (pss_one (ps_ret (pe_tup (pa_cons (pv 2) (pa_cons (pv 3) (pa_cons (pe_tup (pa_cons (pv 4) (pa_cons (pv 5) pa_nil))) pa_nil)))))) pss_nil)
      (pss_cons (ps_if (pt_cmpR op_lt (pv 4) pe_int (nomark _)) (pss_one (ps_ret (pe_tup (pa_cons (pv 3) (pa_cons (pv 2) (pa_cons (pe_tup (pa_cons (pe_un un_neg (pv 4)) (pa_cons (pv 5) pa_nil))) pa_nil)))))) pss_nil)
      (pss_one (ps_ret (pe_tup (pa_cons (pe_callB (call_min2S rfl) rfl T.min boot_minE (pa_cons (pv 2) (pa_cons (pv 3) pa_nil))) (pa_cons (pe_callB (call_max2S rfl) rfl T.max boot_maxE (pa_cons (pv 2) (pa_cons (pv 3) pa_nil))) (pa_cons (pe_tup (pa_cons pe_int (pa_cons pe_int pa_nil))) pa_nil)))))))))),?_⟩
    refine ⟨_,rfl,_,rfl,r1,r2,p,q,rfl,h1,h2,o1,o2,cp,?_⟩
    rcases hq with ⟨no,hE⟩ | ⟨m,y,x,hQ⟩
    · exact .inl ⟨no,hE⟩
    refine .inr ⟨m,y,x,fun t H1 s1 ht=>?_⟩
    refine ⟨t,_,rfl,SqT.of ht,rfl,_,_,rfl,_,_,rfl,rfl,?_⟩
    have h1':=h1
    have h2':=h2
    obtain ⟨a,b,e1,_,_⟩:=h1'
    obtain ⟨c,d,g1,_,_⟩:=h2'
    have pc1:=o1.c1
    have pc9:=o1.c9
    have qc1:=o2.c1
    have qc9:=o2.c9
    have bdp:(p.o - p.t).natAbs < 2 ^ 60:=by have:=o1.t1; have:=o1.t9; have:=o1.o1; have:=o1.o9; omega
    have bdq:(q.o - q.t).natAbs < 2 ^ 60:=by have:=o2.t1; have:=o2.t9; have:=o2.o1; have:=o2.o9; omega
    refine ⟨_,rfl,r1,_,_,_,_,_,rfl,SqT.of (s1 _ _ e1),by omega,by omega,by omega,fun m1 hm1=>?_⟩
    have s2:=same_upd (o:=.tup [.int (frTop (p.o - p.t) p.c),.int (frBot (p.o - p.t) p.c)]) (Same.refl H1) hm1
    have w2:upd H1 m1 (.tup [.int (frTop (p.o - p.t) p.c),.int (frBot (p.o - p.t) p.c)]) m1 = some (.tup [.int (frTop (p.o - p.t) p.c),.int (frBot (p.o - p.t) p.c)]):=upd_same
    try dsimp only
    generalize upd H1 m1 (.tup [.int (frTop (p.o - p.t) p.c),.int (frBot (p.o - p.t) p.c)]) = H2 at *
    refine ⟨_,rfl,r2,_,_,_,_,_,rfl,SqT.of ((s1.trans s2) _ _ g1),by omega,by omega,by omega,fun m2 hm2=>?_⟩
    have s3:=same_upd (o:=.tup [.int (frTop (q.o - q.t) q.c),.int (frBot (q.o - q.t) q.c)]) (Same.refl H2) hm2
    have w3:upd H2 m2 (.tup [.int (frTop (q.o - q.t) q.c),.int (frBot (q.o - q.t) q.c)]) m2 = some (.tup [.int (frTop (q.o - q.t) q.c),.int (frBot (q.o - q.t) q.c)]):=upd_same
    try dsimp only
    generalize upd H2 m2 (.tup [.int (frTop (q.o - q.t) q.c),.int (frBot (q.o - q.t) q.c)]) = H3 at *
    have bp:=frBot_pos (t:=p.o - p.t) (b:=p.c) (by omega)
    have bq:=frBot_pos (t:=q.o - q.t) (b:=q.c) (by omega)
    have lp:=frBot_le (t:=p.o - p.t) (b:=p.c)
    have lq:=frBot_le (t:=q.o - q.t) (b:=q.c)
    have tp:=frTop_le (t:=p.o - p.t) (b:=p.c)
    have tq:=frTop_le (t:=q.o - q.t) (b:=q.c)
    refine ⟨m1,m2,_,_,_,_,rfl,SqT.of (s3 _ _ w2),SqT.of w3,bp,bq,by omega,by omega,by omega,by omega,fun z hz=>?_⟩
    obtain ⟨fd1,fd2⟩:=fr_dif (p:=p) (q:=q) (by omega) (by omega)
    rw [fd1,fd2]
    have cc:0 < p.c * q.c:=Int.mul_pos (by omega) (by omega)
    obtain ⟨sg1,sg2⟩:=fr_sign (t:=dif p q) cc
    have s4:=same_upd (o:=.tup [.int (frTop (dif p q) (p.c * q.c)),.int (frBot (dif p q) (p.c * q.c))]) (Same.refl H3) hz
    have w4:upd H3 z (.tup [.int (frTop (dif p q) (p.c * q.c)),.int (frBot (dif p q) (p.c * q.c))]) z = some (.tup [.int (frTop (dif p q) (p.c * q.c)),.int (frBot (dif p q) (p.c * q.c))]):=upd_same
    try dsimp only
    generalize upd H3 z (.tup [.int (frTop (dif p q) (p.c * q.c)),.int (frBot (dif p q) (p.c * q.c))]) = H4 at *
    have s14:=((s1.trans s2).trans s3).trans s4
    refine ⟨z,_,rfl,SqT.of w4,rfl,_,_,rfl,_,_,rfl,rfl,?_⟩
    have my:m≠y:=fun z=>cp.no _ x.hm (z ▸ x.hy)
    refine ⟨_,rfl,_,_,rfl,rfl,_,rfl,?_⟩
    refine ite2 (fun u=>?_) (fun u=>?_)
    · have dp:=sg1.mp (of_decide_eq_true u)
      have et:trOf p q m y = (m,y,frTop (dif p q) (p.c * q.c),frBot (dif p q) (p.c * q.c)):=by unfold trOf; simp only [if_pos dp]
      refine ⟨_,rfl,_,rfl,_,rfl,_,rfl,by show 2≤sizeLine; decide,fun l hl=>⟨by show 3≤sizeLine; decide,fun r hr=>?_⟩⟩
      have n:l≠r:=fun z=>by rw [← z,upd_same] at hr; cases hr
      refine hQ r _ ((s14.trans (same_upd (Same.refl _) hl)).trans (same_upd (Same.refl _) hr)) ?_
      rw [et]
      exact ⟨l,upd_same,by rw [upd_ne n]; exact upd_same⟩
    have nd:¬ 0 < dif p q:=fun z=>u (decide_eq_true (sg1.mpr z))
    refine ⟨_,rfl,_,_,rfl,rfl,_,rfl,?_⟩
    refine ite2 (fun u2=>?_) (fun u2=>?_)
    · have dn:=sg2.mp (of_decide_eq_true u2)
      obtain ⟨ng1,ng2⟩:=fr_neg (t:=dif p q) cc
      have et:trOf p q m y = (y,m,-frTop (dif p q) (p.c * q.c),frBot (dif p q) (p.c * q.c)):=by unfold trOf; simp only [if_neg nd,if_pos dn,ng1,ng2]
      refine ⟨_,rfl,_,rfl,_,rfl,_,rfl,_,rfl,by show 2≤sizeLine; decide,fun l hl=>⟨by show 3≤sizeLine; decide,fun r hr=>?_⟩⟩
      have n:l≠r:=fun z=>by rw [← z,upd_same] at hr; cases hr
      refine hQ r _ ((s14.trans (same_upd (Same.refl _) hl)).trans (same_upd (Same.refl _) hr)) ?_
      rw [et]
      exact ⟨l,upd_same,by rw [upd_ne n]; exact upd_same⟩
    · have nn:¬ dif p q < 0:=fun z=>u2 (decide_eq_true (sg2.mpr z))
      have et:trOf p q m y = (if ltStr y m = true then y else m,if ltStr m y = true then y else m,0,1):=by
        unfold trOf
        simp only [if_neg nd,if_neg nn]
        rcases ltS_tot my with z | z
        · rw [if_neg (by rw [ltS_asym z]; decide),if_neg (by rw [ltS_asym z]; decide),if_pos z]
        · rw [if_pos z,if_pos z,if_neg (by rw [ltS_asym z]; decide)]
      refine ⟨_,rfl,_,rfl,m,y,rfl,_,rfl,_,rfl,m,y,rfl,by show 2≤sizeLine; decide,fun l hl=>⟨by show 3≤sizeLine; decide,fun r hr=>?_⟩⟩
      have n:l≠r:=fun z=>by rw [← z,upd_same] at hr; cases hr
      refine hQ r _ ((s14.trans (same_upd (Same.refl _) hl)).trans (same_upd (Same.refl _) hr)) ?_
      rw [et]
      exact ⟨l,upd_same,by rw [upd_ne n]; exact upd_same⟩
end
end K27
namespace K27
open PySem L2 HT PySem.W
theorem deck_tup {H:Hp} {k:Addr} {c:Int} (d:DeckAt H k c):∀ xs,H k≠some (.tup xs):=fun xs z=>by
  obtain ⟨⟨_,_,h1,_⟩,_⟩:=d
  rw [h1] at z; cases z
theorem deck_same {H H':Hp} {k:Addr} {c:Int} (d:DeckAt H k c) (s:Same H H'):DeckAt H' k c:=d.keep fun o e=>s _ _ e
theorem keep_tup {H H':Hp} {k:Addr} {c:Int} (d:DeckAt H k c) (s:Keep k H H'):∀ b xs,H b = some (.tup xs)→H' b = some (.tup xs):=fun b xs e=>s _ _ (fun z=>deck_tup d xs (z ▸ e)) e
theorem exc_len {a:List Str} {m y:Str} (h:m∈a):(exc a m y).length≤a.length:=by
  unfold exc
  rw [List.length_append,List.length_singleton]
  have:=List.length_filter_lt_length_iff_exists (p:=fun n=>!decide (n = m)) (l:=a)
  have h2:=this.mpr ⟨m,h,by simp⟩
  omega
theorem exc_ok {a:List Str} {m y:Str} (h:∀ n∈a,okN n) (hy:okN y):∀ n∈exc a m y,okN n:=fun n hn=>by
  rcases mem_exc.mp hn with z | z
  · exact h n z.1
  · rw [z]; exact hy
theorem crok_exc {a c:List Str} {m y:Str} (o:CrOk a) (hm:m∈a) (hy:okN y) (pm:c.Perm (exc a m y)):CrOk c:=by
  refine ⟨?_,?_,fun n hn=>exc_ok o.ok hy n (pm.mem_iff.mp hn)⟩
  · rw [pm.length_eq]; unfold exc; rw [List.length_append,List.length_singleton]; omega
  · rw [pm.length_eq]; exact Nat.le_trans (exc_len hm) o.l4
theorem pick_str {A:List Str} {i:Int} (h0:0≤i) (h1:i < ((A.map V.str).length:Int)):∃ m∈A,atI (A.map V.str) i = some (.str m):=by
  obtain ⟨h,e⟩:=atI_lt h0 h1
  refine ⟨A[i.toNat]'(by rwa [List.length_map] at h),List.getElem_mem _,?_⟩
  rw [e,List.getElem_map]
section
variable {P:Program} {w:World} {K:PySem.W.Frag} {mg:Str→Option Value} {base:Heap}
abbrev sLx:Stmt:=top 39
def nmX1:List (Str × NameKind):=[(".0",.local),("name",.local),("one",.free)]
def nmX2:List (Str × NameKind):=[(".0",.local),("name",.local),("other",.free)]
def nmX3:List (Str × NameKind):=[(".0",.local),("k",.local),("_law_pick",.globalImplicit),("deck",.free)]
theorem ndX1:(["name","one"]:List Str).Nodup:=by decide +kernel
theorem ndX2:(["name","other"]:List Str).Nodup:=by decide +kernel
def spLx:Sp:=fun vs H Q _=>∃ (k r:Addr) (c:Int) (p:Pce),vs = [.ref k,.ref r]∧DeckAt H k c∧c≤40000∧PcAt H r p∧PcOk p∧Crews p ∧
  ∀ (t:Addr) (p':Pce) (m y:Str) (c':Int) (H':Hp),Keep k H H'→DeckAt H' k c'→c'≤c + 10→PcAt H' t p'→PcOk p'→Xp p p' m y→Q (.ref t) H'
theorem scLx:FnScope ["deck","piece","one","other","first","second","times"] ["deck","piece"] (defScope sLx):=⟨rfl,rfl,rfl,by decide +kernel,rfl,by decide +kernel,by decide +kernel⟩
theorem ok_lx {f:Addr} {fd:FuncData} (F:Fun K "_law_exchanged" "_law_exchanged" sLx f fd) (T:Txt mg) (DP:Df P w K mg base 1 "_law_pick" ["deck","many"] spPick):FnOk P w K mg base CX0 2 f fd ["deck","piece"] spLx:=by
  refine F.ok scLx (fun vs H Q E h=>?_) (fun cdv A outer s H vs Q E hr h=>?_)
  · obtain ⟨k,r,c,p,rfl,_⟩:=h
    rfl
  · obtain ⟨k,r,c,p,rfl,dk,hc,hp,op,cp,hQ⟩:=h
    refine ⟨_,pss_cons (ps_set (i:=2) scLx.nd rfl (Or.inr rfl) (pe_ix ix_tup (pe_ix ix_tup (pv 1) pe_int (fun _ _=>rfl)) (pe_df DP hr (pa_cons (pv 0) (pa_cons (pe_callB call_len_seq rfl T.len PySem.boot_len (pa_cons (pe_ix ix_tup (pv 1) pe_int (fun _ _=>rfl)) pa_nil)) pa_nil))) (fun _ _=>rfl)))
      (pss_cons (ps_set (i:=3) scLx.nd rfl (Or.inr rfl) (pe_ix ix_tup (pe_ix ix_tup (pv 1) pe_int (fun _ _=>rfl)) (pe_df DP hr (pa_cons (pv 0) (pa_cons (pe_callB call_len_seq rfl T.len PySem.boot_len (pa_cons (pe_ix ix_tup (pv 1) pe_int (fun _ _=>rfl)) pa_nil)) pa_nil))) (fun _ _=>rfl)))
      (pss_cons (ps_set (i:=4) scLx.nd rfl (Or.inl rfl) (pe_callTy call_tuple_of rfl T.tuple PyProof.Rows.boot_tuple (pa_cons (pe_callB call_sortedS rfl T.sorted boot_sortedE (pa_cons (pe_op op_cat (pe_lc (N:=["name","one"]) (g:=gName 0) (tc:=tTest (tOp rNe (tVar 0) (tVar 1))) (te:=tVar 0) rfl (pi_tup (pe_ix ix_tup (pv 1) pe_int (fun _ _=>rfl)))
        (BlkOk.one (v:="name") (fr:="one") (j:=2) (nm:=nmX1) rfl rfl rfl rfl (by decide +kernel) (by decide +kernel) (by decide +kernel) (by decide +kernel) (by decide +kernel))
        (fun _ _ _=>pg_name (i:=0) ndX1 rfl (Or.inl rfl)) (fun _ _ _=>pts_one (pt_cmpR op_ne (pv 0) (pv 1) (nomark _))) (fun _ _ _=>pv 0)) (pe_lst (pa_cons (pv 3) pa_nil))) pa_nil)) pa_nil)))
      (pss_cons (ps_set (i:=5) scLx.nd rfl (Or.inl rfl) (pe_callTy call_tuple_of rfl T.tuple PyProof.Rows.boot_tuple (pa_cons (pe_callB call_sortedS rfl T.sorted boot_sortedE (pa_cons (pe_op op_cat (pe_lc (N:=["name","other"]) (g:=gName 0) (tc:=tTest (tOp rNe (tVar 0) (tVar 1))) (te:=tVar 0) rfl (pi_tup (pe_ix ix_tup (pv 1) pe_int (fun _ _=>rfl)))
        (BlkOk.one (v:="name") (fr:="other") (j:=3) (nm:=nmX2) rfl rfl rfl rfl (by decide +kernel) (by decide +kernel) (by decide +kernel) (by decide +kernel) (by decide +kernel))
        (fun _ _ _=>pg_name (i:=0) ndX2 rfl (Or.inl rfl)) (fun _ _ _=>pts_one (pt_cmpR op_ne (pv 0) (pv 1) (nomark _))) (fun _ _ _=>pv 0)) (pe_lst (pa_cons (pv 2) pa_nil))) pa_nil)) pa_nil)))
      (pss_cons (ps_if (pt_cmpR op_eq (pe_df DP hr (pa_cons (pv 0) (pa_cons pe_int pa_nil))) pe_int (nomark _)) (pss_one (ps_ret (pe_op op_catT (pe_tup (pa_cons (pv 4) (pa_cons (pv 5) pa_nil))) (pe_slice sl_tup (pv 1) (po_some pe_int) po_none)))) pss_nil)
      (pss_cons (ps_set (i:=6) scLx.nd rfl (Or.inl rfl) (pe_callTy call_tuple_of rfl T.tuple PyProof.Rows.boot_tuple (pa_cons (pe_lc (N:=["k","deck"]) (g:=gName 0) (tc:=tYes) (te:=tOp (rI0 fun i j=>.int (i + j)) (tC (.int 1)) (tCall spPick [] E0 (tCons (tVar 1) (tCons (tC (.int 400)) tNil)))) rfl (pi_range1 rfl T.range (pa_cons pe_int pa_nil))
        (BlkOk.one (v:="k") (fr:="deck") (j:=0) (nm:=nmX3) rfl rfl rfl rfl (by decide +kernel) (by decide +kernel) (by decide +kernel) (by decide +kernel) (by decide +kernel))
        (fun _ _ _=>pg_name (i:=0) ndKD rfl (Or.inl rfl)) (fun _ _ _=>pts_nil) (fun _ _ _=>pe_op op_add pe_int (pe_df DP hr (pa_cons (pv 1) (pa_cons pe_int pa_nil))))) pa_nil)))
      (pss_one (ps_ret (pe_op op_catT (pe_op op_catT (pe_tup (pa_cons (pv 4) (pa_cons (pv 5) pa_nil))) (pv 6)) (pe_tup (pa_cons (pe_ix ix_list (pe_lst (pa_cons (pe_ix ix_tup (pv 1) pe_int (fun _ _=>rfl)) (pa_cons (pe_op op_add pe_int (pe_df DP hr (pa_cons (pv 0) (pa_cons pe_int pa_nil)))) pa_nil))) (pe_df DP hr (pa_cons (pv 0) (pa_cons pe_int pa_nil))) (fun _ _=>rfl)) pa_nil)))))))))),?_⟩
    obtain ⟨a,b,e1,e2,e3⟩:=id hp
    have a1:=op.a.l1
    have a4:=op.a.l4
    have b1:=op.b.l1
    have b4:=op.b.l4
    have la:(p.a.map V.str).length = p.a.length:=List.length_map _
    have lb:(p.b.map V.str).length = p.b.length:=List.length_map _
    refine ⟨_,rfl,r,_,0,_,rfl,rfl,SqT.of e1,atI_nat (j:=0) rfl,_,rfl,_,rfl,r,_,0,_,rfl,rfl,SqT.of e1,atI_nat (j:=0) rfl,a,_,rfl,.inr (SqT.of e2),k,c,_,rfl,dk,by omega,by omega,by omega,fun i1 c1 H1 k1 d1 u1 g1 l1=>?_⟩
    obtain ⟨m,hm,am⟩:=pick_str g1 l1
    have q1:=keep_tup dk k1
    refine ⟨a,_,i1,_,rfl,rfl,SqT.of (q1 _ _ e2),am,?_⟩
    refine ⟨_,rfl,r,_,1,_,rfl,rfl,SqT.of (q1 _ _ e1),atI_nat (j:=1) rfl,_,rfl,_,rfl,r,_,1,_,rfl,rfl,SqT.of (q1 _ _ e1),atI_nat (j:=1) rfl,b,_,rfl,.inr (SqT.of (q1 _ _ e3)),k,c1,_,rfl,d1,by omega,by omega,by omega,fun i2 c2 H2 k2 d2 u2 g2 l2=>?_⟩
    obtain ⟨y,hy,ay⟩:=pick_str g2 l2
    have q2:∀ b xs,H b = some (.tup xs)→H2 b = some (.tup xs):=fun b xs z=>keep_tup d1 k2 _ _ (q1 _ _ z)
    refine ⟨b,_,i2,_,rfl,rfl,SqT.of (q2 _ _ e3),ay,?_⟩
    have E1:=q2 _ _ e1
    have E2:=q2 _ _ e2
    have E3:=q2 _ _ e3
    have k02:Keep k H H2:=k1.trans k2
    refine ⟨_,rfl,r,_,0,_,rfl,rfl,SqT.of E1,atI_nat (j:=0) rfl,a,rfl,⟨_,SqT.of E2⟩,fun L1 hL1=>?_⟩
    refine ne_comp none hL1 E2 (by omega) fun J1 sJ1 hJ1=>?_
    refine ⟨_,rfl,by show 1≤sizeLine; decide,fun x1 hx1=>?_⟩
    have sa1:=same_new hx1 (.lst [.str y])
    have wa1:upd J1 x1 (.lst [.str y]) x1 = some (.lst [.str y]):=upd_same
    generalize upd J1 x1 (.lst [.str y]) = Ka1 at *
    refine ⟨L1,x1,_,_,rfl,rfl,sa1 _ _ hJ1,wa1,Nat.le_of_lt (small1000 (by rw [List.length_map]; have:=List.length_filter_le (fun n=>!decide (n = m)) p.a; simp only [List.length_singleton]; omega)),fun cl1 hc1=>?_⟩
    have em1:(p.a.filter fun n=>!decide (n = m)).map V.str ++ [V.str y] = (exc p.a m y).map V.str:=by unfold exc; rw [List.map_append]; rfl
    rw [em1]
    have sb1:=same_new hc1 (.lst ((exc p.a m y).map V.str))
    have wb1:upd Ka1 cl1 (.lst ((exc p.a m y).map V.str)) cl1 = some (.lst ((exc p.a m y).map V.str)):=upd_same
    generalize upd Ka1 cl1 (.lst ((exc p.a m y).map V.str)) = Kb1 at *
    refine ⟨cl1,exc p.a m y,rfl,SqL.of wb1,by have:=exc_len (y:=y) hm; omega,fun l1 C1 hl1 pm1 so1=>?_⟩
    have sc1:=same_new hl1 (.lst (C1.map V.str))
    have wc1:upd Kb1 l1 (.lst (C1.map V.str)) l1 = some (.lst (C1.map V.str)):=upd_same
    try dsimp only
    generalize upd Kb1 l1 (.lst (C1.map V.str)) = Kc1 at *
    refine ⟨l1,_,rfl,.inl ⟨SqL.of wc1,fun t1 ht1=>?_⟩⟩
    have sd1:=same_new ht1 (.tup (C1.map V.str))
    have wt1:upd Kc1 t1 (.tup (C1.map V.str)) t1 = some (.tup (C1.map V.str)):=upd_same
    try dsimp only
    generalize upd Kc1 t1 (.tup (C1.map V.str)) = G1 at *
    have s1:Same H2 G1:=(((sJ1.trans sa1).trans sb1).trans sc1).trans sd1
    have E1':=s1 _ _ E1
    have E3':=s1 _ _ E3
    refine ⟨_,rfl,r,_,1,_,rfl,rfl,SqT.of E1',atI_nat (j:=1) rfl,b,rfl,⟨_,SqT.of E3'⟩,fun L2 hL2=>?_⟩
    refine ne_comp none hL2 E3' (by omega) fun J2 sJ2 hJ2=>?_
    refine ⟨_,rfl,by show 1≤sizeLine; decide,fun x2 hx2=>?_⟩
    have sa2:=same_new hx2 (.lst [.str m])
    have wa2:upd J2 x2 (.lst [.str m]) x2 = some (.lst [.str m]):=upd_same
    generalize upd J2 x2 (.lst [.str m]) = Ka2 at *
    refine ⟨L2,x2,_,_,rfl,rfl,sa2 _ _ hJ2,wa2,Nat.le_of_lt (small1000 (by rw [List.length_map]; have:=List.length_filter_le (fun n=>!decide (n = y)) p.b; simp only [List.length_singleton]; omega)),fun cl2 hc2=>?_⟩
    have em2:(p.b.filter fun n=>!decide (n = y)).map V.str ++ [V.str m] = (exc p.b y m).map V.str:=by unfold exc; rw [List.map_append]; rfl
    rw [em2]
    have sb2:=same_new hc2 (.lst ((exc p.b y m).map V.str))
    have wb2:upd Ka2 cl2 (.lst ((exc p.b y m).map V.str)) cl2 = some (.lst ((exc p.b y m).map V.str)):=upd_same
    generalize upd Ka2 cl2 (.lst ((exc p.b y m).map V.str)) = Kb2 at *
    refine ⟨cl2,exc p.b y m,rfl,SqL.of wb2,by have:=exc_len (y:=m) hy; omega,fun l2 C2 hl2 pm2 so2=>?_⟩
    have sc2:=same_new hl2 (.lst (C2.map V.str))
    have wc2:upd Kb2 l2 (.lst (C2.map V.str)) l2 = some (.lst (C2.map V.str)):=upd_same
    try dsimp only
    generalize upd Kb2 l2 (.lst (C2.map V.str)) = Kc2 at *
    refine ⟨l2,_,rfl,.inl ⟨SqL.of wc2,fun t2 ht2=>?_⟩⟩
    have sd2:=same_new ht2 (.tup (C2.map V.str))
    have wt2:upd Kc2 t2 (.tup (C2.map V.str)) t2 = some (.tup (C2.map V.str)):=upd_same
    try dsimp only
    generalize upd Kc2 t2 (.tup (C2.map V.str)) = G2 at *
    have s2:Same G1 G2:=(((sJ2.trans sa2).trans sb2).trans sc2).trans sd2
    have s12:=s1.trans s2
    have D2:=deck_same d2 s12
    have W1:=s2 _ _ wt1
    have E1'':=s2 _ _ E1'
    have kG:Keep k H G2:=k02.trans s12.keep
    have nya:y ∉ p.a:=fun z=>cp.no _ z hy
    have nmb:m ∉ p.b:=cp.no _ hm
    have x1:Exch p.a m y C1:=exch_of cp.a.nodup nya pm1 so1
    have x2:Exch p.b y m C2:=exch_of cp.b.nodup nmb pm2 so2
    have xpp:∀ t o c:Int,Xp p ⟨C1,C2,t,o,c⟩ m y:=fun t o c=>⟨hm,hy,x1,x2⟩
    have ok1:CrOk C1:=crok_exc op.a hm (op.b.ok y hy) pm1
    have ok2:CrOk C2:=crok_exc op.b hy (op.a.ok m hm) pm2
    refine ⟨_,rfl,k,c2,4,rfl,D2,by omega,by decide,by decide,fun i3 c3 H3 k3 d3 u3 g3 l3=>⟨rfl,_,rfl,?_⟩⟩
    have q3:=keep_tup D2 k3
    have V1:=q3 _ _ W1
    have V2:=q3 _ _ wt2
    have F1:=q3 _ _ E1''
    have kH3:Keep k H H3:=kG.trans k3
    refine ite2 (fun _=>?_) (fun _=>?_)
    · refine ⟨_,rfl,_,rfl,by show 2≤sizeLine; decide,fun x1 hx1=>?_⟩
      have z1:=same_new hx1 (.tup [.ref t1,.ref t2])
      have y1:upd H3 x1 (.tup [.ref t1,.ref t2]) x1 = some (.tup [.ref t1,.ref t2]):=upd_same
      try dsimp only
      generalize upd H3 x1 (.tup [.ref t1,.ref t2]) = M1 at *
      refine ⟨_,rfl,_,rfl,r,_,rfl,SqT.of (z1 _ _ F1),(show ¬ (sIx 5 0 (some 2) = 0∧sIx 5 5 none = 5) by decide +kernel),fun x2 hx2=>?_⟩
      have z2:=same_new hx2 (.tup [.int p.t,.int p.o,.int p.c])
      have y2:upd M1 x2 (.tup [.int p.t,.int p.o,.int p.c]) x2 = some (.tup [.int p.t,.int p.o,.int p.c]):=upd_same
      refine ⟨x1,x2,_,_,rfl,rfl,SqT.of (z2 _ _ y1),SqT.of y2,by simp,by show 2 + 3≤sizeLine; decide,(fun z=>absurd z (by simp)),fun _ rr hrr=>?_⟩
      have z3:=(z1.trans z2).trans (same_new hrr (.tup ([.ref t1,.ref t2] ++ [.int p.t,.int p.o,.int p.c])))
      exact hQ rr ⟨C1,C2,p.t,p.o,p.c⟩ m y c3 _ (kH3.trans z3.keep) (deck_same d3 z3) (by omega) ⟨t1,t2,upd_same,z3 _ _ V1,z3 _ _ V2⟩ ⟨ok1,ok2,op.t1,op.t9,op.o1,op.o9,op.c1,op.c9⟩ (xpp _ _ _)
    refine ⟨_,rfl,by decide,by decide,fun D hD=>?_⟩
    have nD:k≠D:=d3.ne hD
    refine lc_map (J:=Itr 0 2) (n:=2) (f:=fun i=>.int i) (fun i ys σ' J=>∃ (ts:List Int) (c4:Int),ys = ts.map V.int∧(∃ v,σ' = [v,some (.ref k)])∧Keep k H3 J∧DeckAt J k c4∧c4≤c3 + i∧ts.length = i∧∀ t∈ts,1≤t∧t≤1000000000) hD (by decide)
        ⟨[],c3,rfl,⟨none,rfl⟩,Keep.new hD _,d3.new hD,by simp,rfl,by simp⟩ (fun i ys σ' J hi _ _=>itr_steps 2 i J hi) ?_ ?_
    · rintro i ys σ2 J hi hy ⟨ts,c4,rfl,⟨v2,rfl⟩,kJ,dJ,hc4,hts,bts⟩
      refine ⟨_,rfl,k,c4,400,rfl,dJ,by omega,by decide,by decide,fun ra ca Ja ka da ea ga la'=>⟨_,_,rfl,rfl,?_⟩⟩
      refine ⟨ka D _ nD.symm hy,ts ++ [1 + ra],ca,by simp,⟨_,rfl⟩,fun b o n e=>?_,da.keep (fun o e=>by rw [upd_ne nD]; exact e),by omega,by simp [hts],fun x hx=>?_⟩
      · have nb:b≠D:=fun z=>by rw [z,hD] at e; cases e
        rw [upd_ne nb]
        exact ka b o n (kJ b o n e)
      · rcases List.mem_append.mp hx with hx | hx
        · exact bts x hx
        · rw [List.mem_singleton.mp hx]; exact ⟨by omega,by omega⟩
    · rintro ys σ2 J hy ⟨ts,c4,rfl,⟨v2,rfl⟩,kJ,dJ,hc4,hts,bts⟩
      have ht2:∃ ta tb:Int,ts = [ta,tb]:=by
        match ts,hts with
        | [ta,tb],_=>exact ⟨ta,tb,rfl⟩
      obtain ⟨ta,tb,rfl⟩:=ht2
      have bta:=bts ta (by simp)
      have btb:=bts tb (by simp)
      have q4:=keep_tup d3 kJ
      refine ⟨D,_,rfl,.inl ⟨SqL.of hy,fun tt htt=>?_⟩⟩
      have z0:=same_new htt (.tup ([ta,tb].map V.int))
      have y0:upd J tt (.tup ([ta,tb].map V.int)) tt = some (.tup [.int ta,.int tb]):=upd_same
      try dsimp only
      generalize upd J tt (.tup ([ta,tb].map V.int)) = M0 at *
      have dM0:=deck_same dJ z0
      refine ⟨_,rfl,_,rfl,by show 2≤sizeLine; decide,fun x1 hx1=>?_⟩
      have z1:=same_new hx1 (.tup [.ref t1,.ref t2])
      have y1:upd M0 x1 (.tup [.ref t1,.ref t2]) x1 = some (.tup [.ref t1,.ref t2]):=upd_same
      try dsimp only
      generalize upd M0 x1 (.tup [.ref t1,.ref t2]) = M1 at *
      refine ⟨_,rfl,x1,tt,_,_,rfl,rfl,SqT.of y1,SqT.of (z1 _ _ y0),by simp,by show 2 + 2≤sizeLine; decide,(fun z=>absurd z (by simp)),fun _ x2 hx2=>?_⟩
      have z2:=same_new hx2 (.tup ([.ref t1,.ref t2] ++ [.int ta,.int tb]))
      have y2:upd M1 x2 (.tup ([.ref t1,.ref t2] ++ [.int ta,.int tb])) x2 = some (.tup [.ref t1,.ref t2,.int ta,.int tb]):=upd_same
      try dsimp only
      generalize upd M1 x2 (.tup ([.ref t1,.ref t2] ++ [.int ta,.int tb])) = M2 at *
      have z02:=(z0.trans z1).trans z2
      have q5:∀ b xs,H3 b = some (.tup xs)→M2 b = some (.tup xs):=fun b xs z=>z02 _ _ (q4 _ _ z)
      refine ⟨_,rfl,r,_,4,_,rfl,rfl,SqT.of (q5 _ _ F1),atI_nat (j:=4) rfl,_,rfl,k,c4,9,rfl,deck_same dJ z02,by omega,by decide,by decide,fun ra ca Ja ka da ea ga la'=>⟨_,_,rfl,rfl,by show 2≤sizeLine; decide,fun l hl=>?_⟩⟩
      refine ⟨_,rfl,k,ca,2,rfl,da.new hl,by omega,by decide,by decide,fun rc cc Jc kc dc ec gc lc=>?_⟩
      have hlv:=kc l _ (da.ne hl).symm upd_same
      have hv:∃ t:Int,atI [V.int p.c,V.int (1 + ra)] rc = some (.int t)∧1≤t∧t≤1000000000:=by
        have:rc = 0∨rc = 1:=by omega
        rcases this with rfl | rfl
        · exact ⟨_,atI_nat (j:=0) rfl,op.c1,op.c9⟩
        · exact ⟨_,atI_nat (j:=1) rfl,by omega,by omega⟩
      obtain ⟨co,hco,co1,co2⟩:=hv
      refine ⟨l,_,rc,_,rfl,rfl,SqL.of hlv,hco,by show 1≤sizeLine; decide,fun x3 hx3=>?_⟩
      have kM:Keep k M2 Jc:=ka.trans ((Keep.new hl _).trans kc)
      have q6:=keep_tup (deck_same dJ z02) kM
      have z3:=same_new hx3 (.tup [.int co])
      refine ⟨x2,x3,_,_,rfl,rfl,SqT.of (z3 _ _ (q6 _ _ y2)),SqT.of upd_same,by simp,by show 4 + 1≤sizeLine; decide,(fun z=>absurd z (by simp)),fun _ rr hrr=>?_⟩
      have z4:=z3.trans (same_new hrr (.tup ([.ref t1,.ref t2,.int ta,.int tb] ++ [.int co])))
      have q7:∀ b xs,H3 b = some (.tup xs)→upd (upd Jc x3 (.tup [.int co])) rr (.tup ([.ref t1,.ref t2,.int ta,.int tb] ++ [.int co])) b = some (.tup xs):=fun b xs z=>z4 _ _ (q6 _ _ (q5 _ _ z))
      exact hQ rr ⟨C1,C2,ta,tb,co⟩ m y cc _ (((kH3.trans kJ).trans z02.keep).trans (kM.trans z4.keep)) (deck_same dc z4) (by omega) ⟨t1,t2,upd_same,q7 _ _ V1,q7 _ _ V2⟩ ⟨ok1,ok2,bta.1,bta.2,btb.1,btb.2,co1,co2⟩ (xpp _ _ _)
end
end K27
namespace K27
open PySem L2 HT PySem.W
def pcD (p:Pce):PyData:=.tuple [.tuple (namesD p.a),.tuple (namesD p.b),.int p.t,.int p.o,.int p.c]
theorem pc_tells {H:Hp} {r:Addr} {p:Pce} (h:PcAt H r p):∃ k,Tells H k (pcD p) (.ref r):=by
  obtain ⟨a,b,h1,h2,h3⟩:=h
  exact ⟨r + a + b + 1,tells_tuple.mpr ⟨r,_,rfl,(far3 r a b).1,h1,tellsAll_cons.mpr ⟨_,_,rfl,tells_tuple.mpr ⟨a,_,rfl,(far3 r a b).2.1,h2,tells_names p.a⟩,tellsAll_cons.mpr ⟨_,_,rfl,tells_tuple.mpr ⟨b,_,rfl,(far3 r a b).2.2,h3,tells_names p.b⟩,
    tellsAll_cons.mpr ⟨_,_,rfl,tells_int.mpr rfl,tellsAll_cons.mpr ⟨_,_,rfl,tells_int.mpr rfl,tellsAll_cons.mpr ⟨_,_,rfl,tells_int.mpr rfl,tellsAll_nil.mpr rfl⟩⟩⟩⟩⟩⟩⟩
theorem bd_pc {p:Pce} (o:PcOk p):Fit (pcD p):=by
  have i1:=o.t1; have i2:=o.t9; have i3:=o.o1; have i4:=o.o9; have i5:=o.c1; have i6:=o.c9
  refine (Bd.tuple (n:=13) (p:=1) (m:=5) (ds:=[.tuple (namesD p.a),.tuple (namesD p.b),.int p.t,.int p.o,.int p.c]) (fun x hx=>?_) (Nat.le_refl 5)).mono (by decide) (by decide)
  simp only [List.mem_cons,List.not_mem_nil,or_false] at hx
  rcases hx with rfl | rfl | rfl | rfl | rfl
  · exact bd_names o.a.ok (Nat.le_trans o.a.l4 (by decide))
  · exact bd_names o.b.ok (Nat.le_trans o.b.l4 (by decide))
  · exact (bd_int (by omega)).mono (by decide) (by decide)
  · exact (bd_int (by omega)).mono (by decide) (by decide)
  · exact (bd_int (by omega)).mono (by decide) (by decide)
theorem strOf_names (a:List Str):(namesD a).map strOf = a:=by
  unfold namesD
  rw [List.map_map]
  exact List.map_id' a
theorem up_rises:∀ {a:List Str},Up a→(rises a).all id = true
  | [],_=>rfl
  | [x],_=>rfl
  | x :: y :: l,h=>by
    have e:rises (x :: y :: l) = ltS x y :: rises (y :: l):=rfl
    have h':=List.pairwise_cons.mp h
    rw [e,List.all_cons,up_rises h'.2,Bool.and_true]
    exact h'.1 y List.mem_cons_self
theorem crew_is {a:List Str} (o:CrOk a) (u:Up a):pCrew (.tuple (namesD a)) = true:=by
  show ((decide (1≤((namesD a).length:Int)) && decide (((namesD a).length:Int)≤4)) && (((namesD a).map pName).all id && (rises ((namesD a).map strOf)).all id)) = true
  have l:(namesD a).length = a.length:=by unfold namesD; exact List.length_map _
  have h1:=o.l1
  have h4:=o.l4
  rw [strOf_names,up_rises u,l,decide_eq_true (by omega),decide_eq_true (by omega),Bool.and_true,Bool.true_and,Bool.and_true,List.all_eq_true]
  intro b hb
  obtain ⟨d,hd,rfl⟩:=List.mem_map.mp hb
  obtain ⟨n,hn,rfl⟩:=List.mem_map.mp hd
  exact (o.ok n hn).2.2
theorem pc_piece {p:Pce} (op:PcOk p) (cp:Crews p):pPiece (pcD p) = true:=by
  show ((pCrew (.tuple (namesD p.a)) && (pCrew (.tuple (namesD p.b)) && decide ((crewOf (.tuple (namesD p.a))).length = (crewOf (.tuple (namesD p.b))).length))) && (!((crewOf (.tuple (namesD p.a))).map fun n=>decide (n∈crewOf (.tuple (namesD p.b)))).any id && (pMeas (.int p.t) && (pMeas (.int p.o) && pMeas (.int p.c))))) = true
  have ea:crewOf (.tuple (namesD p.a)) = p.a:=strOf_names p.a
  have eb:crewOf (.tuple (namesD p.b)) = p.b:=strOf_names p.b
  have m:∀ {i:Int},1≤i→i≤1000000000→pMeas (.int i) = true:=fun {i} h1 h2=>by
    show (decide (1≤i) && decide (i≤1000000000)) = true
    rw [decide_eq_true h1,decide_eq_true h2]; rfl
  have na:(p.a.map fun n=>decide (n∈p.b)).any id = false:=by
    rw [List.any_eq_false]
    intro b hb
    obtain ⟨n,hn,rfl⟩:=List.mem_map.mp hb
    rw [decide_eq_false (cp.no n hn)]
    decide
  rw [ea,eb,crew_is op.a cp.a,crew_is op.b cp.b,decide_eq_true cp.le,na,m op.t1 op.t9,m op.o1 op.o9,m op.c1 op.c9]
  rfl
end K27
namespace K27V
open PySem L2 K27
abbrev Td:=Str × Str × Int × Int
def TrAt (H:Hp) (u:V) (t:Td):Prop:=∃ p q,u = .ref p∧H p = some (.tup [.str t.1,.str t.2.1,.ref q])∧H q = some (.tup [.int t.2.2.1,.int t.2.2.2])
def TK (H H':Hp):Prop:=∀ b xs,H b = some (.tup xs)→H' b = some (.tup xs)
theorem Same.tk {H H':Hp} (h:Same H H'):TK H H':=fun b xs e=>h b _ e
theorem TrAt.mono {H H':Hp} {u:V} {t:Td} (h:TrAt H u t) (k:TK H H'):TrAt H' u t:=let ⟨p,q,e,h1,h2⟩:=h; ⟨p,q,e,k _ _ h1,k _ _ h2⟩
abbrev TrsAt (H:Hp):List V→List Td→Prop:=Paired (TrAt H)
theorem TrsAt.mono {H H':Hp} {us:List V} {ts:List Td} (h:TrsAt H us ts) (k:TK H H'):TrsAt H' us ts:=Paired.mapP h fun _ _ z=>z.mono k
theorem dec_vstr (i j:Str):decide (V.str i = V.str j) = decide (i = j):=by
  by_cases e:i = j
  · rw [e]; simp
  · rw [decide_eq_false e,decide_eq_false (fun z=>e (by injection z))]
section
variable {κ:Type} [DecidableEq κ]
theorem nodup_le:∀ {ks us:List κ},ks.Nodup→(∀ k∈ks,k∈us)→ks.length≤us.length
  | [],_,_,_=>Nat.zero_le _
  | k :: ks,us,nd,sub=>by
    have hk:k∈us:=sub k List.mem_cons_self
    have nd':=List.nodup_cons.mp nd
    have ih:=nodup_le (ks:=ks) (us:=us.erase k) nd'.2 fun x hx=>(List.mem_erase_of_ne (fun z:x = k=>nd'.1 (z ▸ hx))).mpr (sub x (List.mem_cons_of_mem _ hx))
    rw [List.length_erase_of_mem hk] at ih
    have:0 < us.length:=List.length_pos_of_mem hk
    simp only [List.length_cons]
    omega
theorem nodup_snoc {ks:List κ} {k:κ} (nd:ks.Nodup) (h:¬ k∈ks):(ks ++ [k]).Nodup:=by
  rw [List.nodup_append]
  exact ⟨nd,by simp,fun a ha b hb z=>h (by rw [← List.mem_singleton.mp hb,← z]; exact ha)⟩
end
theorem tk_upd {H H1:Hp} {a:Addr} {o:HO} (k:TK H H1) (n:∀ xs,H a≠some (.tup xs)):TK H (upd H1 a o):=fun b xs e=>by
  rw [upd_ne (fun z:b = a=>n xs (z ▸ e))]; exact k b xs e
theorem same_upd {H H1:Hp} {p:Addr} {o:HO} (s:Same H H1) (n:H p = none):Same H (upd H1 p o):=fun b u e=>by
  rw [upd_ne (ne_of_none e n)]; exact s b u e
theorem ite_yes {c:Prop} [Decidable c] {A B:Prop} (h:c) (a:A):if c then A else B:=by rw [if_pos h]; exact a
theorem ite_no {c:Prop} [Decidable c] {A B:Prop} (h:¬ c) (a:B):if c then A else B:=by rw [if_neg h]; exact a
theorem g_name {i:Nat} {v:V} {σ:St} {H:Hp} {Q:St→Hp→Prop} (h:Q (σ.set i (some v)) H):gName i v σ H Q:=h
theorem seq_of {t u:TS} {D:Ends} {σ:St} {H:Hp} (h:t { D with nx:=u D } σ H):tSeq t u D σ H:=h
end K27V
namespace K27V
open PySem L2 K27
abbrev sClear:Stmt:=top 25
abbrev sLed:Stmt:=top 26
abbrev Tr:=Str × Str × Bool
def absT (t:Td):Tr:=(t.1,t.2.1,decide (0 < t.2.2.1))
def ledTo (t:Tr) (n:Str):Option Str:=if n = t.1 then some t.2.1 else if n = t.2.1∧t.2.2 = false then some t.1 else none
def optV:Option Str→V
  | some m=>.str m
  | none=>.non
inductive Rch (ts:List Tr) (s:Str):Str→Bool→Prop
  | refl:Rch ts s s false
  | step {n m:Str} {c:Bool} {t:Tr}:Rch ts s n c→t∈ts→ledTo t n = some m→Rch ts s m (c || t.2.2)
section
variable {P:Program} {w:World} {K:PySem.W.Frag} {mg:Str→Option Value} {base:Heap}
def spClear:Sp:=fun vs H Q _=>∃ u t,vs = [u]∧TrAt H u t∧Q (.bl (absT t).2.2) H
theorem scCl:FnScope ["trial"] ["trial"] (defScope sClear):=⟨rfl,rfl,rfl,by decide +kernel,rfl,by decide +kernel,by decide +kernel⟩
theorem ok_clear {f:Addr} {fd:FuncData} (F:Fun K "is_clear" "is_clear" sClear f fd):FnOk P w K mg base CX0 1 f fd ["trial"] spClear:=by
  refine F.ok scCl (fun vs H Q E h=>?_) (fun cdv A outer s H vs Q E hr h=>?_)
  · obtain ⟨u,t,rfl,_⟩:=h
    rfl
  · obtain ⟨u,t,rfl,⟨p,q,rfl,h1,h2⟩,hq⟩:=h
    refine ⟨_,pss_one (ps_ret (pe_cmpR op_gt (pe_ix ix_tup (pe_ix ix_tup (pv 0) pe_int (fun _ _=>rfl)) pe_int (fun _ _=>rfl)) pe_int (nomark _))),?_⟩
    refine ⟨_,rfl,p,_,_,_,rfl,rfl,SqT.of h1,atI_nat rfl,q,_,_,_,rfl,rfl,SqT.of h2,atI_nat rfl,_,_,rfl,rfl,?_⟩
    exact hq
def spLed:Sp:=fun vs H Q _=>∃ u t n,vs = [u,.str n]∧TrAt H u t∧Q (optV (ledTo (absT t) n)) H
theorem scLd:FnScope ["trial","name"] ["trial","name"] (defScope sLed):=⟨rfl,rfl,rfl,by decide +kernel,rfl,by decide +kernel,by decide +kernel⟩
theorem ok_led {f:Addr} {fd:FuncData} (F:Fun K "led_to" "led_to" sLed f fd) (DC:Df P w K mg base 1 "is_clear" ["trial"] spClear):FnOk P w K mg base CX0 2 f fd ["trial","name"] spLed:=by
  refine F.ok scLd (fun vs H Q E h=>?_) (fun cdv A outer s H vs Q E hr h=>?_)
  · obtain ⟨u,t,n,rfl,_⟩:=h
    rfl
  · obtain ⟨u,t,n,rfl,hT,hq⟩:=h
    obtain ⟨p,q,rfl,h1,h2⟩:=id hT
    refine ⟨_,pss_cons (ps_if (pt_cmpR op_eq (pv 1) (pe_ix ix_tup (pv 0) pe_int (fun _ _=>rfl)) (nomark _)) (pss_one (ps_ret (pe_ix ix_tup (pv 0) pe_int (fun _ _=>rfl)))) pss_nil)
      (pss_cons (ps_if (PW.pt (pw_and (pt_cmpR op_eq (pv 1) (pe_ix ix_tup (pv 0) pe_int (fun _ _=>rfl)) (nomark _)) (pw_and1 (pt_not (pt_val (pe_df DC hr (pa_cons (pv 0) pa_nil))))))) (pss_one (ps_ret (pe_ix ix_tup (pv 0) pe_int (fun _ _=>rfl)))) pss_nil)
      (pss_one (ps_ret pe_non))),?_⟩
    refine ⟨_,rfl,_,rfl,p,_,_,_,rfl,rfl,SqT.of h1,atI_nat rfl,rfl,_,rfl,?_⟩
    rw [dec_vstr]
    refine ite2 (fun c=>?_) (fun c=>?_)
    · have e:n = t.1:=of_decide_eq_true c
      refine ⟨_,rfl,p,_,_,_,rfl,rfl,SqT.of h1,atI_nat rfl,?_⟩
      rw [show ledTo (absT t) n = some t.2.1 by unfold ledTo; rw [if_pos (show n = (absT t).1 from e)]; rfl] at hq
      exact hq
    · have e:¬ n = t.1:=fun z=>c (decide_eq_true z)
      refine ⟨_,rfl,_,rfl,p,_,_,_,rfl,rfl,SqT.of h1,atI_nat rfl,rfl,_,rfl,?_⟩
      rw [dec_vstr]
      have hq':=hq
      unfold ledTo at hq'
      rw [if_neg (show ¬ n = (absT t).1 from e)] at hq'
      refine ite2 (fun c2=>?_) (fun c2=>?_)
      · have e2:n = t.2.1:=of_decide_eq_true c2
        refine ⟨_,rfl,_,t,rfl,hT,_,rfl,?_⟩
        refine ite2 (fun c3=>?_) (fun c3=>?_)
        · refine ⟨_,rfl,p,_,_,_,rfl,rfl,SqT.of h1,atI_nat rfl,?_⟩
          rw [if_pos ⟨(show n = (absT t).2.1 from e2),by simpa using c3⟩] at hq'
          exact hq'
        · rw [if_neg (fun z=>c3 (by simpa using z.2))] at hq'
          exact hq'
      · rw [if_neg (fun z=>c2 (decide_eq_true (show n = t.2.1 from z.1)))] at hq'
        exact hq'
end
end K27V
namespace K27V
open PySem L2 K27
abbrev Pl:=Str × Bool
def keyOf (k:Pl):List Key:=[.inr k.1,.inl k.2]
theorem keyOf_inj {a b:Pl} (h:keyOf a = keyOf b):a = b:=by
  obtain ⟨a1,a2⟩:=a
  obtain ⟨b1,b2⟩:=b
  unfold keyOf at h
  injection h with h1 h2
  injection h2 with h2 _
  injection h1 with h1
  injection h2 with h2
  subst h1 h2
  rfl
section
variable {κ:Type} [DecidableEq κ] {key:κ→List Key}
def tabK (key:κ→List Key) (ks:List κ):List (List Key × V):=ks.map fun k=>(key k,.bl true)
theorem any_tab (inj:∀ a b,key a = key b→a = b) (k:κ):∀ ks:List κ,((tabK key ks).any fun kv=>decide (kv.1 = key k)) = decide (k∈ks)
  | []=>rfl
  | x :: ks=>by
    show (decide (key x = key k) || (tabK key ks).any fun kv=>decide (kv.1 = key k)) = _
    rw [any_tab inj k ks]
    by_cases e:x = k
    · subst e; simp
    · rw [decide_eq_false (fun z=>e (inj _ _ z)),Bool.false_or]
      have e':¬ k = x:=fun z=>e z.symm
      simp [e']
theorem val_tab (inj:∀ a b,key a = key b→a = b) (ks:List κ) (k:κ):(valV (tabK key ks) (key k)).isSome = decide (k∈ks):=by
  rw [← valV_any,any_tab inj]
theorem val_in (inj:∀ a b,key a = key b→a = b) {ks:List κ} {k:κ} (h:k∈ks):(valV (tabK key ks) (key k)).isSome = true:=by rw [val_tab inj]; simpa using h
theorem val_out (inj:∀ a b,key a = key b→a = b) {ks:List κ} {k:κ} (h:¬ k∈ks):(valV (tabK key ks) (key k)).isSome = false:=by rw [val_tab inj]; simpa using h
theorem put_tab (inj:∀ a b,key a = key b→a = b) {ks:List κ} {k:κ} (h:¬ k∈ks):putK (tabK key ks) (key k) (.bl true) = tabK key (ks ++ [k]):=by
  unfold putK
  rw [if_neg (by rw [any_tab inj]; simpa using h)]
  simp [tabK]
theorem len_tab (ks:List κ):(tabK key ks).length = ks.length:=by simp [tabK]
end
def univ (T:List Tr) (st:Str):List Pl:=(st :: T.flatMap fun t=>[t.1,t.2.1]).flatMap fun n=>[(n,false),(n,true)]
theorem univ_len (T:List Tr) (st:Str):(univ T st).length = 2 * (1 + 2 * T.length):=by
  have h2:∀ l:List Str,(l.flatMap fun n=>[(n,false),(n,true)]).length = 2 * l.length:=fun l=>by
    induction l with
    | nil=>rfl
    | cons a l ih=>rw [List.flatMap_cons,List.length_append,ih]; simp; omega
  have h3:∀ l:List Tr,(l.flatMap fun t=>[t.1,t.2.1]).length = 2 * l.length:=fun l=>by
    induction l with
    | nil=>rfl
    | cons a l ih=>rw [List.flatMap_cons,List.length_append,ih]; simp; omega
  unfold univ
  rw [h2,List.length_cons,h3]
  omega
theorem led_in {t:Tr} {n m:Str} (h:ledTo t n = some m):m = t.1∨m = t.2.1:=by
  unfold ledTo at h
  split at h
  · injection h with h; exact .inr h.symm
  · split at h
    · injection h with h; exact .inl h.symm
    · cases h
theorem rch_univ {T:List Tr} {st:Str} {n:Str} {c:Bool} (h:Rch T st n c):(n,c)∈univ T st:=by
  have key:∀ {n:Str} (c:Bool),n∈(st :: T.flatMap fun t=>[t.1,t.2.1])→(n,c)∈univ T st:=fun {n} c h=>List.mem_flatMap.mpr ⟨n,h,by cases c <;> simp⟩
  cases h with
  | refl=>exact key _ List.mem_cons_self
  | step h ht hl =>
    refine key _ (List.mem_cons_of_mem _ (List.mem_flatMap.mpr ⟨_,ht,?_⟩))
    rcases led_in hl with e | e <;> simp [e]
structure Good (T:List Tr) (st:Str) (ks qs:List Pl):Prop where
  beg:(st,false)∈ks
  rch:∀ k∈ks,Rch T st k.1 k.2
  nd:ks.Nodup
  sub:∀ k∈qs,k∈ks
  cl:∀ k∈ks,k∈qs∨∀ t∈T,∀ m,ledTo t k.1 = some m→(m,k.2 || t.2.2)∈ks
theorem Good.all {T:List Tr} {st:Str} {ks:List Pl} (g:Good T st ks []) (k:Pl):k∈ks↔Rch T st k.1 k.2:=by
  refine ⟨g.rch k,fun h=>?_⟩
  have:∀ {n c},Rch T st n c→(n,c)∈ks:=fun {n c} h=>by
    induction h with
    | refl=>exact g.beg
    | step h ht hl ih =>
      rcases g.cl _ ih with z | z
      · simp at z
      · exact z _ ht _ hl
  exact this h
structure Mid (T:List Tr) (st:Str) (n:Str) (c:Bool) (i:Nat) (ks qs:List Pl):Prop where
  beg:(st,false)∈ks
  rch:∀ k∈ks,Rch T st k.1 k.2
  nd:ks.Nodup
  sub:∀ k∈qs,k∈ks
  me:(n,c)∈ks
  cl:∀ k∈ks,k = (n,c)∨k∈qs∨∀ t∈T,∀ m,ledTo t k.1 = some m→(m,k.2 || t.2.2)∈ks
  cli:∀ j t,j < i→T[j]? = some t→∀ m,ledTo t n = some m→(m,c || t.2.2)∈ks
theorem Good.turn {T:List Tr} {st:Str} {ks qs:List Pl} {k:Pl} (g:Good T st ks (qs ++ [k])):Mid T st k.1 k.2 0 ks qs where
  beg:=g.beg
  rch:=g.rch
  nd:=g.nd
  sub:=fun x hx=>g.sub x (List.mem_append_left _ hx)
  me:=g.sub k (by simp)
  cl:=fun x hx=>by
    rcases g.cl x hx with z | z
    · rcases List.mem_append.mp z with z | z
      · exact .inr (.inl z)
      · exact .inl (List.mem_singleton.mp z)
    · exact .inr (.inr z)
  cli:=fun j t h=>absurd h (Nat.not_lt_zero _)
theorem Mid.done {T:List Tr} {st:Str} {n:Str} {c:Bool} {ks qs:List Pl} (g:Mid T st n c T.length ks qs):Good T st ks qs where
  beg:=g.beg
  rch:=g.rch
  nd:=g.nd
  sub:=g.sub
  cl:=fun k hk=>by
    rcases g.cl k hk with z | z | z
    · refine .inr fun t ht m hm=>?_
      subst z
      obtain ⟨j,hj⟩:=List.getElem?_of_mem ht
      exact g.cli j t (List.getElem?_eq_some_iff.mp hj).1 hj m hm
    · exact .inl z
    · exact .inr z
theorem Mid.skip {T:List Tr} {st:Str} {n:Str} {c:Bool} {i:Nat} {ks qs:List Pl} {t:Tr} (g:Mid T st n c i ks qs) (ht:T[i]? = some t) (h:∀ m,ledTo t n = some m→(m,c || t.2.2)∈ks):Mid T st n c (i + 1) ks qs where
  beg:=g.beg
  rch:=g.rch
  nd:=g.nd
  sub:=g.sub
  me:=g.me
  cl:=g.cl
  cli:=fun j u hj hu m hm=>by
    by_cases e:j = i
    · subst e; rw [ht] at hu; cases hu; exact h m hm
    · exact g.cli j u (by omega) hu m hm
theorem Mid.more {T:List Tr} {st:Str} {n m:Str} {c:Bool} {i:Nat} {ks qs:List Pl} {t:Tr} (g:Mid T st n c i ks qs) (ht:T[i]? = some t) (hm:ledTo t n = some m) (new:¬ (m,c || t.2.2)∈ks) :
    Mid T st n c (i + 1) (ks ++ [(m,c || t.2.2)]) (qs ++ [(m,c || t.2.2)]) where
  beg:=List.mem_append_left _ g.beg
  rch:=fun k hk=>by
    rcases List.mem_append.mp hk with z | z
    · exact g.rch k z
    · rw [List.mem_singleton.mp z]
      exact .step (g.rch _ g.me) (List.mem_of_getElem? ht) hm
  nd:=nodup_snoc g.nd new
  sub:=fun k hk=>by
    rcases List.mem_append.mp hk with z | z
    · exact List.mem_append_left _ (g.sub k z)
    · exact List.mem_append_right _ z
  me:=List.mem_append_left _ g.me
  cl:=fun k hk=>by
    rcases List.mem_append.mp hk with z | z
    · rcases g.cl k z with y | y | y
      · exact .inl y
      · exact .inr (.inl (List.mem_append_left _ y))
      · exact .inr (.inr fun t ht m hm=>List.mem_append_left _ (y t ht m hm))
    · exact .inr (.inl (List.mem_append_right _ z))
  cli:=fun j u hj hu m' hm'=>by
    by_cases e:j = i
    · subst e; rw [ht] at hu; cases hu
      rw [hm] at hm'; cases hm'
      exact List.mem_append_right _ (by simp)
    · exact List.mem_append_left _ (g.cli j u (by omega) hu m' hm')
theorem bound {T:List Tr} {st:Str} {ks:List Pl} (nd:ks.Nodup) (h:∀ k∈ks,Rch T st k.1 k.2):ks.length≤2 * (1 + 2 * T.length):=by
  rw [← univ_len T st]
  exact nodup_le nd fun k hk=>rch_univ (h k hk)
end K27V
namespace K27V
open PySem L2 K27
abbrev sFrom:Stmt:=top 27
abbrev sVer:Stmt:=top 28
section
variable {P:Program} {w:World} {K:PySem.W.Frag} {mg:Str→Option Value} {base:Heap}
abbrev tab (ks:List Pl):List (List Key × V):=tabK keyOf ks
theorem kinj:∀ a b:Pl,keyOf a = keyOf b→a = b:=fun _ _ h=>keyOf_inj h
def WAt (H:Hp):List V→List Pl→Prop:=Paired fun u k=>∃ b,u = .ref b∧H b = some (.tup [.str k.1,.bl k.2])
theorem WAt.mono {H H':Hp} {us:List V} {qs:List Pl} (h:WAt H us qs) (k:TK H H'):WAt H' us qs:=Paired.mapP h fun _ _ ⟨b,e,z⟩=>⟨b,e,k _ _ z⟩
theorem WAt.cut {H:Hp}:∀ {us:List V} {qs:List Pl} {u:V},WAt H (us ++ [u]) qs→∃ qs' k b,qs = qs' ++ [k]∧WAt H us qs'∧u = .ref b∧H b = some (.tup [.str k.1,.bl k.2])
  | [],_,u,.cons ⟨b,e,z⟩ .nil=>⟨[],_,b,rfl,.nil,e,z⟩
  | _ :: us,_,u,.cons h t=>by
    obtain ⟨qs',k,b,e,h1,h2,h3⟩:=WAt.cut (us:=us) t
    exact ⟨_ :: qs',k,b,by rw [e]; rfl,.cons h h1,h2,h3⟩
def dlen (H:Hp) (p:Addr):Nat:=match H p with
  | some (.dT kvs)=>kvs.length
  | _=>0
def llen (H:Hp) (p:Addr):Nat:=match H p with
  | some (.lst xs)=>xs.length
  | _=>0
def spFrom (K:PySem.W.Frag):Sp:=fun vs H Q _=>∃ a us ts st,vs = [.ref a,.str st]∧SqL K H a us∧TrsAt H us ts∧ts.length≤100 ∧
  ∀ p ks H',H p = none→Same H H'→H' p = some (.dT (tab ks))→(∀ k,k∈ks↔Rch (ts.map absT) st k.1 k.2)→Q (.ref p) H'
theorem scFm:FnScope ["trials","start","places","waiting","name","clear","trial","place"] ["trials","start"] (defScope sFrom):=⟨rfl,rfl,rfl,by decide +kernel,rfl,by decide +kernel,by decide +kernel⟩
def tOrD (ta tb:TE):TE:=fun σ H Q=>ta σ H fun x H1=>∃ c,x = .bl c∧∃ d,(∀ Q':VK,Q' (.bl d) H1→tb σ H1 Q')∧Q (.bl (c || d)) H1
theorem pe_orD {X:Cx} {a b:Expr} {pos:Pos} {ta tb:TE} {rest:List Expr} (ha:PE X a ta) (hb:PE X (.BoolOp .Or (b :: rest) pos) tb):PE X (.BoolOp .Or (a :: b :: rest) pos) (tOrD ta tb):=by
  intro pins s σ H Q I h
  refine PyProof.Rows.BoolOp_or (thn (ha pins s σ H _ I h) fun v s1 ⟨x,H1,I1,r1,c,e,d,hd,q⟩=>?_)
  subst e
  cases r1
  refine wpAny_truthy_bool ?_
  cases c with
  | true=>exact ⟨.bl true,H1,I1,rfl,q⟩
  | false=>exact hb pins s1 σ H1 Q I1 (hd Q q)
theorem ok_from {f:Addr} {fd:FuncData} (F:Fun K "places_from" "places_from" sFrom f fd) (DC:Df P w K mg base 1 "is_clear" ["trial"] spClear) (DL:Df P w K mg base 2 "led_to" ["trial","name"] spLed) :
    FnOk P w K mg base CX0 3 f fd ["trials","start"] (spFrom K):=by
  refine F.ok scFm (fun vs H Q E h=>?_) (fun cdv A outer s H vs Q E hr h=>?_)
  · obtain ⟨a,us,ts,st,rfl,_⟩:=h
    rfl
  · obtain ⟨a,us,ts,st,rfl,hS,hT,hl,hq⟩:=h
    have hu:=hu_of hr
    have hrC:Room 1 _:=hr.mono (by decide:1≤2)
    refine ⟨_,pss_cons (ps_set (i:=2) scFm.nd rfl (Or.inl rfl) (pe_disp1 hu (pe_tup (pa_cons (pv 1) (pa_cons pe_bl pa_nil))) pe_bl (fun _ _ _ _ imp h=>imp _ _ h) ?m1))
      (pss_cons (ps_set (i:=3) scFm.nd rfl (Or.inl rfl) (pe_lst (pa_cons (pe_tup (pa_cons (pv 1) (pa_cons pe_bl pa_nil))) pa_nil)))
      (pss_cons (ps_while PassesOwn.never (pt_truth (pv 3) (fun _=>rfl))
        (pss_cons (ps_asg (pe_bm0 PySem.F.plainAttrs_list PySem.F.slot_list_pop PySem.F.type_list_pop mt_pop (pv 3)) (pg_tup rfl (pgs_cons (pg_name (i:=4) scFm.nd rfl (Or.inl rfl)) (pgs_cons (pg_name (i:=5) scFm.nd rfl (Or.inl rfl)) pgs_nil))))
        (pss_one (ps_for PassesOwn.never rfl (pi_list (pv 0)) (pg_name (i:=6) scFm.nd rfl (Or.inl rfl))
          (pss_cons (ps_set (i:=7) scFm.nd rfl (Or.inl rfl) (pe_tup (pa_cons (pe_df DL hr (pa_cons (pv 6) (pa_cons (pv 4) pa_nil))) (pa_cons (pe_orD (pv 5) (pe_one (pe_df DC hrC (pa_cons (pv 6) pa_nil)))) pa_nil))))
          (pss_one (ps_if (PW.pt (pw_and (pt_cmp (pc_notN (pe_ix ix_tup (pv 7) pe_int (fun _ _=>rfl)))) (pw_and1 (pt_cmp (pc_dnotin hu (pv 7) (pv 2))))))
            (pss_cons (ps_dput hu (pv 2) (pv 7) pe_bl rfl) (pss_one (ps_expr (pe_bm PySem.F.plainAttrs_list PySem.F.slot_list_append PySem.F.type_list_append mt_append (pv 3) (pa_cons (pv 7) pa_nil))))) pss_nil)))))))
      (pss_one (ps_ret (pv 2))))),?_⟩
    case m1 =>
      rintro σ' H' Q1 Q2 imp ⟨v,hv,z,h⟩
      exact ⟨v,hv,z,fun p hp=>imp _ _ (h p hp)⟩
    intro p hp
    refine ⟨_,rfl,by show 2≤sizeLine; decide,fun k hk=>?_⟩
    have hkp:k≠p:=fun z=>by rw [z,upd_same] at hk; cases hk
    have hk':H k = none:=by rw [upd_ne hkp] at hk; exact hk
    refine ⟨keyOf (st,false),k,rfl,by rw [upd_ne hkp.symm,upd_same],upd_same,?_⟩
    refine ⟨_,rfl,by show 2≤sizeLine; decide,fun k2 hk2=>?_⟩
    refine ⟨by show 1≤sizeLine; decide,fun l hl2=>?_⟩
    have hk2p:k2≠p:=fun z=>by rw [z,upd_same] at hk2; cases hk2
    have hk2k:k2≠k:=fun z=>by rw [z,upd_ne hkp,upd_same] at hk2; cases hk2
    have hk2':H k2 = none:=by rw [upd_ne hk2p,upd_ne hk2k,upd_ne hk2p] at hk2; exact hk2
    have hlk2:l≠k2:=fun z=>by rw [z,upd_same] at hl2; cases hl2
    have hlp:l≠p:=fun z=>by rw [z,upd_ne hk2p.symm,upd_same] at hl2; cases hl2
    have hlk:l≠k:=fun z=>by rw [z,upd_ne hk2k.symm,upd_ne hkp,upd_same] at hl2; cases hl2
    have hl':H l = none:=by rw [upd_ne hlk2,upd_ne hlp,upd_ne hlk,upd_ne hlp] at hl2; exact hl2
    have sm0:=same_upd (o:=.lst [V.ref k2]) (same_upd (o:=.tup [V.str st,V.bl false]) (same_upd (o:=.dT [(keyOf (st,false),V.bl true)]) (same_upd (o:=.tup [V.str st,V.bl false]) (same_upd (o:=.dT []) (Same.refl H) hp) hk') hp) hk2') hl'
    have e1:upd (upd (upd (upd (upd H p (.dT [])) k (.tup [V.str st,V.bl false])) p (.dT [(keyOf (st,false),V.bl true)])) k2 (.tup [V.str st,V.bl false])) l (.lst [V.ref k2]) p = some (.dT (tab [(st,false)])):=by
      rw [upd_ne hlp.symm,upd_ne hk2p.symm,upd_same]; rfl
    have e2:upd (upd (upd (upd (upd H p (.dT [])) k (.tup [V.str st,V.bl false])) p (.dT [(keyOf (st,false),V.bl true)])) k2 (.tup [V.str st,V.bl false])) l (.lst [V.ref k2]) l = some (.lst [V.ref k2]):=upd_same
    have e3:upd (upd (upd (upd (upd H p (.dT [])) k (.tup [V.str st,V.bl false])) p (.dT [(keyOf (st,false),V.bl true)])) k2 (.tup [V.str st,V.bl false])) l (.lst [V.ref k2]) k2 = some (.tup [V.str st,V.bl false]):=by
      rw [upd_ne hlk2.symm,upd_same]
    dsimp only
    refine g_name (seq_of ?_)
    refine while_by (fun σ' H'=>∃ (n c t pl:Option V) (ks qs:List Pl) (ws:List V),σ' = [some (.ref a),some (.str st),some (.ref p),some (.ref l),n,c,t,pl]∧Same H H'∧H' p = some (.dT (tab ks))∧H' l = some (.lst ws)∧WAt H' ws qs∧Good (ts.map absT) st ks qs∧ws.length≤ks.length)
      (fun _ H'=>2 * (2 * (1 + 2 * ts.length) - dlen H' p) + llen H' l) ?_ ?_ ?_
    · refine ⟨none,none,none,none,[(st,false)],[(st,false)],[V.ref k2],rfl,sm0,e1,e2,.cons ⟨k2,rfl,e3⟩ .nil,⟨by simp,?_,by simp,by simp,fun k hk=>.inl hk⟩,Nat.le_refl _⟩
      intro x hx
      rw [List.mem_singleton.mp hx]
      exact .refl
    · rintro σ' H' ⟨n,c,t,pl,ks,qs,ws,rfl,sm,hP,hL,hW,g,lw⟩
      refine ⟨_,rfl,_,.inl ⟨_,SqL.of hL,rfl⟩,?_⟩
      rcases List.eq_nil_or_concat ws with e | ⟨L,u,e⟩
      · subst e
        cases hW
        refine iteF ?_
        exact ⟨_,rfl,hq p ks H' hp sm hP g.all⟩
      · rw [List.concat_eq_append] at e
        subst e
        obtain ⟨qs',k0,b0,rfl,hW',rfl,hb0⟩:=hW.cut
        refine ite_yes (by cases L <;> rfl) ?_
        refine seq_asg ?_
        refine ⟨_,rfl,.inl ⟨rfl,_,SqL.of hL⟩,l,_,V.ref b0,rfl,rfl,hL,by simp,?_⟩
        have nbl:b0≠l:=ne_of hb0 hL (fun z=>nomatch z)
        have npl:p≠l:=hlp.symm
        have tk1:TK H' (upd H' l (.lst (L ++ [V.ref b0]).dropLast)):=tk_upd (fun _ _ e=>e) (fun xs z=>by rw [hL] at z; cases z)
        refine ⟨b0,_,rfl,SqT.of (by rw [upd_ne nbl]; exact hb0),rfl,_,_,rfl,_,_,rfl,rfl,?_⟩
        have sm1:Same H (upd H' l (.lst (L ++ [V.ref b0]).dropLast)):=same_upd sm hl'
        refine ⟨_,rfl,a,rfl,⟨_,sm1.seq hS⟩,for_list (xs:=us) (fun i σ' H2=>∃ (t pl:Option V) (ks2 qs2:List Pl) (ws2:List V),σ' = [some (.ref a),some (.str st),some (.ref p),some (.ref l),some (.str k0.1),some (.bl k0.2),t,pl]∧Same H H2 ∧
          H2 p = some (.dT (tab ks2))∧H2 l = some (.lst ws2)∧WAt H2 ws2 qs2∧Mid (ts.map absT) st k0.1 k0.2 i ks2 qs2∧ks.length≤ks2.length∧ws2.length + ks.length = L.length + ks2.length) ?_ ?_ ?_ ?_⟩
        · exact ⟨t,pl,ks,qs',L,rfl,sm1,by rw [upd_ne npl]; exact hP,by rw [upd_same]; simp,hW'.mono tk1,g.turn,Nat.le_refl _,rfl⟩
        · rintro i σ' H2 hi ⟨t,pl,ks2,qs2,ws2,rfl,sm2,_⟩
          exact sm2.seq hS
        · rintro i x σ' H2 hx ⟨t,pl,ks2,qs2,ws2,rfl,sm2,hP2,hL2,hW2,md,l1,l2⟩
          obtain ⟨td,htd,tr⟩:=Paired.get' hT hx
          have tr2:=tr.mono (Same.tk sm2)
          have htd':(ts.map absT)[i]? = some (absT td):=by rw [List.getElem?_map,htd]; rfl
          have bd:=bound md.nd md.rch
          rw [List.length_map] at bd
          refine ⟨_,rfl,_,rfl,x,td,k0.1,rfl,tr2,_,rfl,_,rfl,(absT td).2.2,fun Q' h=>⟨_,rfl,x,td,rfl,tr2,h⟩,?_⟩
          refine ⟨by show 2≤sizeLine; decide,fun pl2 hpl2=>?_⟩
          have sm3:Same H2 (upd H2 pl2 (.tup [optV (ledTo (absT td) k0.1),V.bl (k0.2 || (absT td).2.2)])):=same_upd (Same.refl _) hpl2
          have hP3:=sm3 _ _ hP2
          have hL3:=sm3 _ _ hL2
          have hX:upd H2 pl2 (.tup [optV (ledTo (absT td) k0.1),V.bl (k0.2 || (absT td).2.2)]) pl2 = some (.tup [optV (ledTo (absT td) k0.1),V.bl (k0.2 || (absT td).2.2)]):=upd_same
          have sm4:=sm2.trans sm3
          have hW3:=hW2.mono (Same.tk sm3)
          dsimp only
          generalize upd H2 pl2 (.tup [optV (ledTo (absT td) k0.1),V.bl (k0.2 || (absT td).2.2)]) = H3 at *
          refine ⟨_,rfl,pl2,_,_,_,rfl,rfl,SqT.of hX,atI_nat rfl,_,rfl,?_⟩
          cases hm:ledTo (absT td) k0.1 with
          | none =>
            refine iteF ?_
            refine iteF ?_
            exact ⟨_,_,ks2,qs2,ws2,rfl,sm4,hP3,hL3,hW3,md.skip htd' (fun m z=>by rw [hm] at z; cases z),l1,l2⟩
          | some m =>
            rw [hm] at hX
            refine iteT ?_
            refine ⟨_,rfl,_,rfl,p,_,rfl,DGet.t (k:=keyOf (m,k0.2 || (absT td).2.2)) hP3 hX,_,rfl,?_⟩
            by_cases hin:(m,k0.2 || (absT td).2.2)∈ks2
            · rw [val_in kinj hin]
              refine iteF ?_
              exact ⟨_,_,ks2,qs2,ws2,rfl,sm4,hP3,hL3,hW3,md.skip htd' (fun m' z=>by rw [hm] at z; cases z; exact hin),l1,l2⟩
            · rw [val_out kinj hin]
              refine iteT ?_
              refine ⟨_,rfl,_,rfl,p,_,rfl,DPut.t (k:=keyOf (m,k0.2 || (absT td).2.2)) hP3 hX (by rw [len_tab]; exact small1000 (by omega)),?_⟩
              rw [put_tab kinj hin]
              have hL4:upd H3 p (.dT (tab (ks2 ++ [(m,k0.2 || (absT td).2.2)]))) l = some (.lst ws2):=by rw [upd_ne hlp]; exact hL3
              refine ⟨_,rfl,.inl ⟨rfl,_,SqL.of hL4⟩,_,rfl,l,_,_,rfl,rfl,hL4,small1000 (by rw [List.length_append,List.length_singleton] at lw; omega),?_⟩
              have md':=md.more htd' hm hin
              have tk4:TK H3 (upd (upd H3 p (.dT (tab (ks2 ++ [(m,k0.2 || (absT td).2.2)])))) l (.lst (ws2 ++ [V.ref pl2]))):=tk_upd (tk_upd (fun _ _ e=>e) (fun xs z=>by rw [hP3] at z; cases z)) (fun xs z=>by rw [hL3] at z; cases z)
              refine ⟨_,_,ks2 ++ [(m,k0.2 || (absT td).2.2)],qs2 ++ [(m,k0.2 || (absT td).2.2)],_,rfl,same_upd (same_upd sm4 hp) hl',by rw [upd_ne npl,upd_same],upd_same,Paired.snoc (hW3.mono tk4) ⟨pl2,rfl,tk4 _ _ hX⟩,md',?_,?_⟩
              · rw [List.length_append]; omega
              · simp only [List.length_append,List.length_singleton]; omega
        · rintro σ' H2 ⟨t,pl,ks2,qs2,ws2,rfl,sm2,hP2,hL2,hW2,md,l1,l2⟩
          have bd:=bound md.nd md.rch
          rw [List.length_map] at bd
          refine ⟨⟨_,_,_,_,ks2,qs2,ws2,rfl,sm2,hP2,hL2,hW2,Mid.done (by rw [List.length_map]; rw [Paired.length hT] at md; exact md),by rw [List.length_append,List.length_singleton] at lw; omega⟩,?_⟩
          unfold dlen llen
          rw [hP2,hL2,hP,hL]
          simp only [len_tab,List.length_append,List.length_singleton]
          omega
    · rintro σ' H' Q1 Q2 imp ⟨v,hv,b,tr,h⟩
      exact ⟨v,hv,b,tr,imp _ _ h⟩
end
end K27V
namespace K27V
open PySem L2 K27
section
variable {P:Program} {w:World} {K:PySem.W.Frag} {mg:Str→Option Value} {base:Heap}
def vOf (ab be al:Bool):Str:=if ab && be then "ring" else if ab then "more" else if be then "less" else if al then "alike" else "open"
def Ver (T:List Tr) (one other:Str) (r:Str):Prop:=∃ ab be al:Bool,(ab = true↔Rch T one other true)∧(be = true↔Rch T other one true)∧(al = true↔Rch T one other false)∧r = vOf ab be al
def spVer (K:PySem.W.Frag):Sp:=fun vs H Q _=>∃ a us ts one other,vs = [.ref a,.str one,.str other]∧SqL K H a us∧TrsAt H us ts∧ts.length≤100 ∧
  ∀ r H',Same H H'→Ver (ts.map absT) one other r→Q (.str r) H'
theorem scVr:FnScope ["trials","one","other","from_one","above","below"] ["trials","one","other"] (defScope sVer):=⟨rfl,rfl,rfl,by decide +kernel,rfl,by decide +kernel,by decide +kernel⟩
theorem val_iff {ks:List Pl} {T:List Tr} {st:Str} (h:∀ k:Pl,k∈ks↔Rch T st k.1 k.2) (k:Pl):(valV (tab ks) (keyOf k)).isSome = true↔Rch T st k.1 k.2:=by
  rw [← h k]
  by_cases e:k∈ks
  · simp [val_in kinj e,e]
  · simp [val_out kinj e,e]
theorem ok_ver {f:Addr} {fd:FuncData} (F:Fun K "verdict" "verdict" sVer f fd) (DF:Df P w K mg base 3 "places_from" ["trials","start"] (spFrom K)) :
    FnOk P w K mg base CX0 4 f fd ["trials","one","other"] (spVer K):=by
  refine F.ok scVr (fun vs H Q E h=>?_) (fun cdv A outer s H vs Q E hr h=>?_)
  · obtain ⟨a,us,ts,one,other,rfl,_⟩:=h
    rfl
  · obtain ⟨a,us,ts,one,other,rfl,hS,hT,hl,hq⟩:=h
    have hu:=hu_of hr
    refine ⟨_,pss_cons (ps_set (i:=3) scVr.nd rfl (Or.inl rfl) (pe_df DF hr (pa_cons (pv 0) (pa_cons (pv 1) pa_nil))))
      (pss_cons (ps_set (i:=4) scVr.nd rfl (Or.inl rfl) (pe_cmp (pc_din hu (pe_tup (pa_cons (pv 2) (pa_cons pe_bl pa_nil))) (pv 3))))
      (pss_cons (ps_set (i:=5) scVr.nd rfl (Or.inl rfl) (pe_cmp (pc_din hu (pe_tup (pa_cons (pv 1) (pa_cons pe_bl pa_nil))) (pe_df DF hr (pa_cons (pv 0) (pa_cons (pv 2) pa_nil))))))
      (pss_cons (ps_if (PW.pt (pw_and (pt_val (pv 4)) (pw_and1 (pt_val (pv 5))))) (pss_one (ps_ret pe_str)) pss_nil)
      (pss_cons (ps_if (pt_val (pv 4)) (pss_one (ps_ret pe_str)) pss_nil)
      (pss_cons (ps_if (pt_val (pv 5)) (pss_one (ps_ret pe_str)) pss_nil)
      (pss_cons (ps_if (pt_cmp (pc_din hu (pe_tup (pa_cons (pv 2) (pa_cons pe_bl pa_nil))) (pv 3))) (pss_one (ps_ret pe_str)) pss_nil)
      (pss_one (ps_ret pe_str)))))))),?_⟩
    refine ⟨_,rfl,_,rfl,a,us,ts,one,rfl,hS,hT,hl,fun p ks H1 hp sm1 hP hk=>?_⟩
    refine ⟨_,rfl,by show 2≤sizeLine; decide,fun k1 hk1=>⟨_,rfl,p,_,rfl,DGet.t (k:=keyOf (other,true)) (same_upd (Same.refl _) hk1 _ _ hP) upd_same,?_⟩⟩
    have sm2:=sm1.trans (same_upd (o:=.tup [V.str other,V.bl true]) (Same.refl _) hk1)
    have hP2:=same_upd (o:=.tup [V.str other,V.bl true]) (Same.refl _) hk1 _ _ hP
    dsimp only
    generalize upd H1 k1 (.tup [V.str other,V.bl true]) = H2 at *
    refine ⟨_,rfl,by show 2≤sizeLine; decide,fun k2 hk2=>?_⟩
    have sm3:=sm2.trans (same_upd (o:=.tup [V.str one,V.bl true]) (Same.refl _) hk2)
    have hP3:=same_upd (o:=.tup [V.str one,V.bl true]) (Same.refl _) hk2 _ _ hP2
    have hK3:upd H2 k2 (.tup [V.str one,V.bl true]) k2 = some (.tup [V.str one,V.bl true]):=upd_same
    dsimp only
    generalize upd H2 k2 (.tup [V.str one,V.bl true]) = H3 at *
    refine ⟨_,rfl,_,rfl,a,us,ts,other,rfl,sm3.seq hS,hT.mono (Same.tk sm3),hl,fun p2 ks2 H4 hp2 sm4 hP4 hk4=>?_⟩
    refine ⟨p2,_,rfl,DGet.t (k:=keyOf (one,true)) hP4 (sm4 _ _ hK3),?_⟩
    have i1:=val_iff hk (other,true)
    have i2:=val_iff hk4 (one,true)
    have i3:=val_iff hk (other,false)
    have hP5:=sm4 _ _ hP3
    have sm5:=sm3.trans sm4
    generalize (valV (tab ks) (keyOf (other,true))).isSome = ab at *
    generalize (valV (tab ks2) (keyOf (one,true))).isSome = be at *
    have fin:=fun r H' s h=>hq r H' (sm5.trans s) ⟨ab,be,_,i1,i2,i3,h⟩
    refine ⟨_,rfl,_,rfl,?_⟩
    cases ab
    · refine iteF (iteF ?_)
      refine ⟨_,rfl,_,rfl,iteF ?_⟩
      refine ⟨_,rfl,_,rfl,?_⟩
      cases be
      · refine iteF ?_
        refine ⟨_,rfl,by show 2≤sizeLine; decide,fun k3 hk3=>⟨_,rfl,p,_,rfl,DGet.t (k:=keyOf (other,false)) (same_upd (Same.refl _) hk3 _ _ hP5) upd_same,_,rfl,?_⟩⟩
        have sm6:=same_upd (o:=.tup [V.str other,V.bl false]) (Same.refl _) hk3
        cases hal:(valV (tab ks) (keyOf (other,false))).isSome
        · exact iteF (fin _ _ sm6 (by rw [hal]; rfl))
        · exact iteT (fin _ _ sm6 (by rw [hal]; rfl))
      · exact iteT (fin _ _ (Same.refl _) rfl)
    · refine iteT ?_
      refine ⟨_,rfl,_,rfl,?_⟩
      cases be
      · refine iteF ?_
        exact ⟨_,rfl,_,rfl,iteT (fin _ _ (Same.refl _) rfl)⟩
      · exact iteT (fin _ _ (Same.refl _) rfl)
end
end K27V
namespace K27
open PySem L2 HT PySem.W
section
variable {P:Program} {w:World} {K:PySem.W.Frag} {mg:Str→Option Value} {base:Heap}
abbrev sTn:Stmt:=top 33
def DueV (H:Hp) (v:V):Option Tr4→Prop
  | none=>v = .non
  | some r=>∃ t,v = .ref t∧TrAt H t r
def spTn:Sp:=fun vs H Q _=>∃ (r1 r2:Addr) (p q:Pce),vs = [.ref r1,.ref r2]∧PcAt H r1 p∧PcAt H r2 q∧PcOk p∧PcOk q∧Crews p∧∀ v r H',Same H H'→Told p q r→DueV H' v r→Q v H'
theorem scTn:FnScope ["one","other"] ["one","other"] (defScope sTn):=⟨rfl,rfl,rfl,by decide +kernel,rfl,by decide +kernel,by decide +kernel⟩
theorem ok_tn {f:Addr} {fd:FuncData} (F:Fun K "trial_or_none" "trial_or_none" sTn f fd) {CN:Addr} (mn:mg "NoTrial" = some (.ref CN)) (xm:exmOne K (.ref CN) (.ref CN) = some true) (DT:DfX P w K mg base 3 "trial_of" ["one","other"] (spTr CN)):FnOk P w K mg base CX0 4 f fd ["one","other"] spTn:=by
  refine F.ok scTn (fun vs H Q E h=>?_) (fun cdv A outer s H vs Q E hr h=>?_)
  · obtain ⟨r1,r2,p,q,rfl,_⟩:=h
    rfl
  · obtain ⟨r1,r2,p,q,rfl,h1,h2,o1,o2,cp,hq⟩:=h
    refine ⟨_,pss_one (ps_try (C:=CN) (tb:=fun W=>tRet (tCallX (spTr CN) [] W (tCons (tVar 0) (tCons (tVar 1) tNil)))) (ts:=tRet (tC .non)) rfl rfl rfl mn
        (fun pins W=>pss_one (ps_ret (pe_dfX DT hr letsT (pa_cons (pv 0) (pa_cons (pv 1) pa_nil)))))
        (fun a=>pss_one (ps_ret pe_non))),?_⟩
    refine ⟨_,rfl,_,rfl,r1,r2,p,q,rfl,h1,h2,o1,o2,cp,?_⟩
    by_cases hx:∃ m y,Xp p q m y
    · obtain ⟨m,y,x⟩:=hx
      exact .inr ⟨m,y,x,fun qq H2 s2 TA=>hq _ (some _) H2 s2 (.inl ⟨m,y,x,rfl⟩) ⟨qq,rfl,TA⟩⟩
    · exact .inl ⟨fun m y x=>hx ⟨m,y,x⟩,fun H1 s0=>⟨xm,hq .non none H1 s0 (.inr ⟨fun m y x=>hx ⟨m,y,x⟩,rfl⟩) rfl⟩⟩
def clubMeth (i:Nat):Stmt:=match top 34 with
  | .ClassDef _ _ _ b _ _ _ _ _ _ _=>b.getD i (.Pass ⟨0,0,0,0⟩)
  | _=>.Pass ⟨0,0,0,0⟩
def DfM (P:Program) (w:World) (K:PySem.W.Frag) (mg:Str→Option Value) (base:Heap) (k:Nat) (C:Addr) (m:Str) (ps:List Str) (sp:Sp):Prop :=
  Cls K C∧∃ f fd,FnOk P w K mg base CX0 k f fd ps sp∧Binds K fd ps []∧Meth K C m f
theorem pe_dm {X:Cx} {k:Nat} {C:Addr} {m:Str} {ps:List Str} {sp:Sp} {o e:Expr} {es:List Expr} {ta:TE} {t:TA} {apos pos:Pos} {pl:Sem Bool} (D:DfM X.prog X.w X.K X.mg X.base k C m ps sp) (hr:Room k X.A) (he:PE X o ta) (ha:PA X (e :: es) t)
    (hst:starEach (e :: es) X.env = (false,eval e X.env) :: starEach es X.env:=by rfl) (hpl:(backTo pos (starEach es X.env)).any (·.1) = false:=by rfl)
    (ht:eval (.Call (.Attribute o m apos) (e :: es) [] pos) X.env = (do
      let ov ← eval o X.env
      standAt apos.atName
      let (f,first) ← holding [ov] (getMethod ov m pl)
      callWith pos f first (backTo pos (starEach (e :: es) X.env)) (backToKw pos (keywordEach [] X.env))):=by rfl) :
    PE X (.Call (.Attribute o m apos) (e :: es) [] pos) (tMeth C m sp [] E0 ta t):=by
  obtain ⟨c,f,fd,F,b,hm⟩:=D
  exact pe_meth (pl:=pl) he c hm F hr b .nil pass0 ha hst hpl ht
theorem pe_dm0 {X:Cx} {k:Nat} {C:Addr} {m:Str} {ps:List Str} {sp:Sp} {o:Expr} {ta:TE} {apos pos:Pos} {pl:Sem Bool} (D:DfM X.prog X.w X.K X.mg X.base k C m ps sp) (hr:Room k X.A) (he:PE X o ta)
    (ht:eval (.Call (.Attribute o m apos) [] [] pos) X.env = (do
      let ov ← eval o X.env
      standAt apos.atName
      let (f,first) ← holding [ov] (getMethod ov m pl)
      callWith pos f first (backTo pos (starEach [] X.env)) (backToKw pos (keywordEach [] X.env))):=by rfl) :
    PE X (.Call (.Attribute o m apos) [] [] pos) (tMeth C m sp [] E0 ta tNil):=by
  obtain ⟨c,f,fd,F,b,hm⟩:=D
  exact pe_meth0 (pl:=pl) he c hm F hr b .nil pass0 ht
structure Clb (K:PySem.W.Frag) (C:Addr):Prop where
  c:Cls K C
  ns:NoAttr K C "states"
  nl:NoAttr K C "left"
abbrev Rows:=List (Nat × Pce)
def RwAt (H:Hp) (v:V) (x:Nat × Pce):Prop:=∃ u r,v = .ref u∧H u = some (.tup [.int x.1,.ref r])∧PcAt H r x.2
theorem RwAt.up {H H':Hp} {v:V} {x:Nat × Pce} (h:RwAt H v x) (s:∀ b xs,H b = some (.tup xs)→H' b = some (.tup xs)):RwAt H' v x:=by
  obtain ⟨u,r,h1,h2,h3⟩:=h
  exact ⟨u,r,h1,s _ _ h2,h3.up s⟩
theorem Paired.mono {α β:Type} {R S:α→β→Prop}:∀ {as:List α} {bs:List β},Paired R as bs→(∀ a b,R a b→S a b)→Paired S as bs
  | _,_,.nil,_=>.nil
  | _,_,.cons h t,f=>.cons (f _ _ h) (Paired.mono t f)
def StA (H:Hp) (v:V) (S:Rows × Nat):Prop:=∃ (st cr sd:Addr) (us:List V),v = .ref st∧H st = some (.tup [.ref cr,.ref sd,.int S.2])∧H cr = some (.tup [])∧H sd = some (.tup us)∧Paired (RwAt H) us S.1
theorem StA.up {H H':Hp} {v:V} {S:Rows × Nat} (h:StA H v S) (s:∀ b xs,H b = some (.tup xs)→H' b = some (.tup xs)):StA H' v S:=by
  obtain ⟨st,cr,sd,us,h1,h2,h3,h4,h5⟩:=h
  exact ⟨st,cr,sd,us,h1,s _ _ h2,s _ _ h3,s _ _ h4,Paired.mono h5 fun _ _ z=>z.up s⟩
def ClubG (C:Addr) (H:Hp) (cb sl ll:Addr) (sts:List (Rows × Nat)) (lf:Nat):Prop:=∃ (dx:Addr) (vs ws:List V),H cb = some (.ins C dx [("states",.ref sl),("left",.ref ll)])∧sl≠cb∧ll≠cb∧ll≠sl ∧
  H sl = some (.lst vs)∧H ll = some (.lst ws)∧Paired (StA H) vs sts∧ws.length = lf
theorem ClubG.same {C:Addr} {H H':Hp} {cb sl ll:Addr} {sts:List (Rows × Nat)} {lf:Nat} (h:ClubG C H cb sl ll sts lf) (s:Same H H'):ClubG C H' cb sl ll sts lf:=by
  obtain ⟨dx,vs,ws,c1,c2,c3,c4,c5,c6,c7,c8⟩:=h
  exact ⟨dx,vs,ws,s _ _ c1,c2,c3,c4,s _ _ c5,s _ _ c6,Paired.mono c7 fun _ _ z=>z.up fun _ _ e=>s _ _ e,c8⟩
abbrev sInit:Stmt:=clubMeth 0
abbrev sEnter:Stmt:=clubMeth 3
abbrev sTell:Stmt:=clubMeth 7
abbrev sStr:Stmt:=clubMeth 8
abbrev sBack:Stmt:=clubMeth 9
abbrev sPcs:Stmt:=clubMeth 12
abbrev sTrs:Stmt:=clubMeth 13
abbrev sVd:Stmt:=clubMeth 14
theorem scInit:FnScope ["self"] ["self"] (defScope sInit):=⟨rfl,rfl,rfl,by decide +kernel,rfl,by decide +kernel,by decide +kernel⟩
def spInit (C:Addr):Sp:=fun vs H Q _=>∃ cb dx,vs = [.ref cb]∧H cb = some (.ins C dx [])∧∀ sl ll H',(∀ b o,b≠cb→H b = some o→H' b = some o)→H sl = none→H ll = none→ClubG C H' cb sl ll [([],0)] 0→Q .non H'
theorem ok_init {f:Addr} {fd:FuncData} {C:Addr} (F:Fun K "__init__" "Club.__init__" sInit f fd) (CC:Clb K C):FnOk P w K mg base CX0 1 f fd ["self"] (spInit C):=by
  refine F.ok scInit (fun vs H Q E h=>?_) (fun cdv A outer s H vs Q E hr h=>?_)
  · obtain ⟨cb,dx,rfl,_⟩:=h
    rfl
  · obtain ⟨cb,dx,rfl,hc,hQ⟩:=h
    refine ⟨_,pss_cons (ps_fld (pv 0) (pe_lst (pa_cons (pe_tup (pa_cons (pe_tup pa_nil) (pa_cons (pe_tup pa_nil) (pa_cons pe_int pa_nil)))) pa_nil)) rfl) (pss_one (ps_fld (pv 0) (pe_lst pa_nil) rfl)),?_⟩
    refine ⟨by show 0≤sizeLine; decide,fun t1 h1=>?_⟩
    have s1:=same_new h1 (.tup [])
    have w1:upd H t1 (.tup []) t1 = some (.tup []):=upd_same
    try dsimp only
    generalize upd H t1 (.tup []) = M1 at *
    refine ⟨by show 0≤sizeLine; decide,fun t2 h2=>?_⟩
    have s2:=same_new h2 (.tup [])
    have w2:upd M1 t2 (.tup []) t2 = some (.tup []):=upd_same
    try dsimp only
    generalize upd M1 t2 (.tup []) = M2 at *
    refine ⟨by show 3≤sizeLine; decide,fun t3 h3=>?_⟩
    have s3:=same_new h3 (.tup [.ref t1,.ref t2,.int 0])
    have w3:upd M2 t3 (.tup [.ref t1,.ref t2,.int 0]) t3 = some (.tup [.ref t1,.ref t2,.int 0]):=upd_same
    try dsimp only
    generalize upd M2 t3 (.tup [.ref t1,.ref t2,.int 0]) = M3 at *
    refine ⟨by show 1≤sizeLine; decide,fun sl hsl=>?_⟩
    have s4:=same_new hsl (.lst [.ref t3])
    have w4:upd M3 sl (.lst [.ref t3]) sl = some (.lst [.ref t3]):=upd_same
    have s14:Same H (upd M3 sl (.lst [.ref t3])):=((s1.trans s2).trans s3).trans s4
    have hsl0:H sl = none:=by
      cases e:H sl with
      | none=>rfl
      | some o=>rw [((s1.trans s2).trans s3) _ _ e] at hsl; cases hsl
    try dsimp only
    generalize upd M3 sl (.lst [.ref t3]) = M4 at *
    have hc4:=s14 _ _ hc
    refine ⟨_,rfl,cb,C,dx,[],rfl,hc4,CC.c,CC.ns,by decide,?_⟩
    have nsc:sl≠cb:=fun z=>by rw [z,hc] at hsl0; cases hsl0
    have k5:∀ b o,b≠cb→M4 b = some o→upd M4 cb (.ins C dx (putF "states" (.ref sl) [])) b = some o:=fun b o n e=>by rw [upd_ne n]; exact e
    have w5:upd M4 cb (.ins C dx (putF "states" (.ref sl) [])) cb = some (.ins C dx (putF "states" (.ref sl) [])):=upd_same
    try dsimp only
    generalize upd M4 cb (.ins C dx (putF "states" (.ref sl) [])) = M5 at *
    refine ⟨by show 0≤sizeLine; decide,fun ll hll=>?_⟩
    have s6:=same_new hll (.lst [])
    have w6:upd M5 ll (.lst []) ll = some (.lst []):=upd_same
    try dsimp only
    generalize upd M5 ll (.lst []) = M6 at *
    refine ⟨_,rfl,cb,C,dx,_,rfl,s6 _ _ w5,CC.c,CC.nl,(show 1 < 1000 by decide),?_⟩
    have kH:∀ b o,b≠cb→H b = some o→upd M6 cb (.ins C dx (putF "left" (.ref ll) (putF "states" (.ref sl) []))) b = some o:=fun b o n e=>by rw [upd_ne n]; exact s6 _ _ (k5 _ _ n (s14 _ _ e))
    have k4:∀ b o,b≠cb→M4 b = some o→upd M6 cb (.ins C dx (putF "left" (.ref ll) (putF "states" (.ref sl) []))) b = some o:=fun b o n e=>by rw [upd_ne n]; exact s6 _ _ (k5 _ _ n e)
    have nT:∀ b xs,M4 b = some (.tup xs)→b≠cb:=fun b xs e z=>by rw [z,hc4] at e; cases e
    have v1:=((s2.trans s3).trans s4) _ _ w1
    have v2:=(s3.trans s4) _ _ w2
    have v3:=s4 _ _ w3
    have hll0:H ll = none:=by
      cases e:H ll with
      | none=>rfl
      | some o => by_cases z : ll = cb
                  · rw [z,w5] at hll; cases hll
                  · rw [k5 _ _ z (s14 _ _ e)] at hll; cases hll
    have nlc:ll≠cb:=fun z=>by rw [z,w5] at hll; cases hll
    have nls:ll≠sl:=fun z=>by rw [z,k5 _ _ nsc w4] at hll; cases hll
    exact hQ sl ll _ kH hsl0 hll0 ⟨dx,[.ref t3],[],upd_same,nsc,nlc,nls,k4 _ _ nsc w4,by rw [upd_ne nlc]; exact w6,.cons ⟨t3,t1,t2,[],rfl,k4 _ _ (nT _ _ v3) v3,k4 _ _ (nT _ _ v1) v1,k4 _ _ (nT _ _ v2) v2,.nil⟩ .nil,rfl⟩
theorem scEnter:FnScope ["self","crew","standing","following"] ["self","crew","standing","following"] (defScope sEnter):=⟨rfl,rfl,rfl,by decide +kernel,rfl,by decide +kernel,by decide +kernel⟩
def Kp2 (a b:Addr) (H H':Hp):Prop:=∀ c o,c≠a→c≠b→H c = some o→H' c = some o
def spEnter (C:Addr):Sp:=fun vs H Q _=>∃ (cb sl ll cr sd:Addr) (us:List V) (n:Nat) (rows:Rows) (sts:List (Rows × Nat)) (lf:Nat),vs = [.ref cb,.ref cr,.ref sd,.int n]∧ClubG C H cb sl ll sts lf∧sts.length≤100∧H cr = some (.tup [])∧(H sd = some (.tup us)∨H sd = some (.lst us))∧us.length≤100∧Paired (RwAt H) us rows ∧
  ∀ ll' H',Kp2 cb sl H H'→H ll' = none→ClubG C H' cb sl ll' (sts ++ [(rows,n)]) 0→Q .non H'
theorem paired_len {α β:Type} {R:α→β→Prop}:∀ {as:List α} {bs:List β},Paired R as bs→as.length = bs.length
  | _,_,.nil=>rfl
  | _,_,.cons _ t=>by simp [paired_len t]
theorem paired_last {α β:Type} {R:α→β→Prop}:∀ {as:List α} {bs:List β} {b:β},Paired R as (bs ++ [b])→∃ as' a,as = as' ++ [a]∧Paired R as' bs∧R a b
  | _,[],_,.cons h .nil=>⟨[],_,rfl,.nil,h⟩
  | _,_ :: bs,_,.cons h t=>by
    obtain ⟨as',a,rfl,h1,h2⟩:=paired_last (bs:=bs) t
    exact ⟨_ :: as',a,rfl,.cons h h1,h2⟩
theorem ok_enter {f:Addr} {fd:FuncData} {C:Addr} (F:Fun K "enter" "Club.enter" sEnter f fd) (T:Txt mg) (CC:Clb K C):FnOk P w K mg base CX0 1 f fd ["self","crew","standing","following"] (spEnter C):=by
  refine F.ok scEnter (fun vs H Q E h=>?_) (fun cdv A outer s H vs Q E hr h=>?_)
  · obtain ⟨cb,sl,ll,cr,sd,us,n,rows,sts,lf,rfl,_⟩:=h
    rfl
  · obtain ⟨cb,sl,ll,cr,sd,us,n,rows,sts,lf,rfl,hC,u60,hcr,hsd,lu,pr,hQ⟩:=h
    refine ⟨_,pss_cons (ps_expr (pe_bm PySem.F.plainAttrs_list PySem.F.slot_list_append PySem.F.type_list_append mt_append (pe_fld (pv 0) rfl) (pa_cons (pe_tup (pa_cons (pe_callTy call_tuple_of rfl T.tuple PyProof.Rows.boot_tuple (pa_cons (pv 1) pa_nil)) (pa_cons (pe_callTy call_tuple_of rfl T.tuple PyProof.Rows.boot_tuple (pa_cons (pv 2) pa_nil)) (pa_cons (pv 3) pa_nil)))) pa_nil))) (pss_one (ps_fld (pv 0) (pe_lst pa_nil) rfl)),?_⟩
    obtain ⟨dx,vs,ws,c1,c2,c3,c4,c5,c6,c7,c8⟩:=hC
    have lv:=paired_len c7
    refine ⟨_,rfl,cb,C,dx,_,_,rfl,c1,CC.c,CC.ns,rfl,.inl ⟨rfl,_,SqL.of c5⟩,_,rfl,cr,_,rfl,.inr ⟨SqT.of hcr,_,rfl,sd,us,rfl,?_⟩⟩
    rcases hsd with hsd | hsd
    · refine .inr ⟨SqT.of hsd,?_⟩
      have s0:Same H H:=fun _ _ e=>e
      have hs0:=hsd
      refine ⟨_,rfl,by show 3≤sizeLine; decide,fun t ht=>?_⟩
      have s1:=s0.trans (same_new ht (.tup [.ref cr,.ref sd,.int n]))
      have hs1:=same_new ht (.tup [.ref cr,.ref sd,.int n]) _ _ hs0
      have w1:upd H t (.tup [.ref cr,.ref sd,.int n]) t = some (.tup [.ref cr,.ref sd,.int n]):=upd_same
      try dsimp only
      generalize upd H t (.tup [.ref cr,.ref sd,.int n]) = M1 at *
      have d2:=s1 _ _ c5
      have d1:=s1 _ _ c1
      refine ⟨sl,vs,.ref t,rfl,rfl,d2,small1000 (by omega),?_⟩
      have k2:∀ b o,b≠sl→M1 b = some o→upd M1 sl (.lst (vs ++ [.ref t])) b = some o:=fun b o n e=>by rw [upd_ne n]; exact e
      have w2:upd M1 sl (.lst (vs ++ [.ref t])) sl = some (.lst (vs ++ [.ref t])):=upd_same
      try dsimp only
      generalize upd M1 sl (.lst (vs ++ [.ref t])) = M2 at *
      refine ⟨by show 0≤sizeLine; decide,fun l2 hl2=>?_⟩
      have s3:=same_new hl2 (.lst [])
      have w3:upd M2 l2 (.lst []) l2 = some (.lst []):=upd_same
      try dsimp only
      generalize upd M2 l2 (.lst []) = M3 at *
      refine ⟨_,rfl,cb,C,dx,_,rfl,s3 _ _ (k2 _ _ c2.symm d1),CC.c,CC.nl,(show 2 < 1000 by decide),?_⟩
      have ep:putF "left" (.ref l2) [("states",.ref sl),("left",.ref ll)] = [(("states":Str),V.ref sl),("left",.ref l2)]:=rfl
      rw [ep]
      have kk:Kp2 cb sl H (upd M3 cb (.ins C dx [("states",.ref sl),("left",.ref l2)])):=fun b o n1 n2 e=>by rw [upd_ne n1]; exact s3 _ _ (k2 _ _ n2 (s1 _ _ e))
      have kM:∀ b xs,M1 b = some (.tup xs)→upd M3 cb (.ins C dx [("states",.ref sl),("left",.ref l2)]) b = some (.tup xs):=fun b xs e=>by
        rw [upd_ne (fun z=>by rw [z,d1] at e; cases e)]
        exact s3 _ _ (k2 _ _ (fun z=>by rw [z,d2] at e; cases e) e)
      have n1:l2≠cb:=fun z=>by rw [z,k2 _ _ c2.symm d1] at hl2; cases hl2
      have n2:l2≠sl:=fun z=>by rw [z,w2] at hl2; cases hl2
      have hl0:H l2 = none:=by
        cases e:H l2 with
        | none=>rfl
        | some o=>rw [k2 _ _ n2 (s1 _ _ e)] at hl2; cases hl2
      exact hQ l2 _ kk hl0 ⟨dx,vs ++ [.ref t],[],upd_same,c2,n1,n2,by rw [upd_ne c2]; exact s3 _ _ w2,by rw [upd_ne n1]; exact w3,
        Paired.snoc (Paired.mono c7 fun _ _ z=>z.up fun b xs e=>kM _ _ (s1 _ _ e)) ⟨t,cr,sd,us,rfl,kM _ _ w1,kM _ _ (s1 _ _ hcr),kM _ _ hs1,Paired.mono pr fun _ _ z=>z.up fun b xs e=>kM _ _ (s1 _ _ e)⟩,rfl⟩
    · refine .inl ⟨SqL.of hsd,fun sd' hsd'=>?_⟩
      have s0:=same_new hsd' (.tup us)
      have hs0:upd H sd' (.tup us) sd' = some (.tup us):=upd_same
      try dsimp only
      generalize upd H sd' (.tup us) = M0 at *
      refine ⟨_,rfl,by show 3≤sizeLine; decide,fun t ht=>?_⟩
      have s1:=s0.trans (same_new ht (.tup [.ref cr,.ref sd',.int n]))
      have hs1:=same_new ht (.tup [.ref cr,.ref sd',.int n]) _ _ hs0
      have w1:upd M0 t (.tup [.ref cr,.ref sd',.int n]) t = some (.tup [.ref cr,.ref sd',.int n]):=upd_same
      try dsimp only
      generalize upd M0 t (.tup [.ref cr,.ref sd',.int n]) = M1 at *
      have d2:=s1 _ _ c5
      have d1:=s1 _ _ c1
      refine ⟨sl,vs,.ref t,rfl,rfl,d2,small1000 (by omega),?_⟩
      have k2:∀ b o,b≠sl→M1 b = some o→upd M1 sl (.lst (vs ++ [.ref t])) b = some o:=fun b o n e=>by rw [upd_ne n]; exact e
      have w2:upd M1 sl (.lst (vs ++ [.ref t])) sl = some (.lst (vs ++ [.ref t])):=upd_same
      try dsimp only
      generalize upd M1 sl (.lst (vs ++ [.ref t])) = M2 at *
      refine ⟨by show 0≤sizeLine; decide,fun l2 hl2=>?_⟩
      have s3:=same_new hl2 (.lst [])
      have w3:upd M2 l2 (.lst []) l2 = some (.lst []):=upd_same
      try dsimp only
      generalize upd M2 l2 (.lst []) = M3 at *
      refine ⟨_,rfl,cb,C,dx,_,rfl,s3 _ _ (k2 _ _ c2.symm d1),CC.c,CC.nl,(show 2 < 1000 by decide),?_⟩
      have ep:putF "left" (.ref l2) [("states",.ref sl),("left",.ref ll)] = [(("states":Str),V.ref sl),("left",.ref l2)]:=rfl
      rw [ep]
      have kk:Kp2 cb sl H (upd M3 cb (.ins C dx [("states",.ref sl),("left",.ref l2)])):=fun b o n1 n2 e=>by rw [upd_ne n1]; exact s3 _ _ (k2 _ _ n2 (s1 _ _ e))
      have kM:∀ b xs,M1 b = some (.tup xs)→upd M3 cb (.ins C dx [("states",.ref sl),("left",.ref l2)]) b = some (.tup xs):=fun b xs e=>by
        rw [upd_ne (fun z=>by rw [z,d1] at e; cases e)]
        exact s3 _ _ (k2 _ _ (fun z=>by rw [z,d2] at e; cases e) e)
      have n1:l2≠cb:=fun z=>by rw [z,k2 _ _ c2.symm d1] at hl2; cases hl2
      have n2:l2≠sl:=fun z=>by rw [z,w2] at hl2; cases hl2
      have hl0:H l2 = none:=by
        cases e:H l2 with
        | none=>rfl
        | some o=>rw [k2 _ _ n2 (s1 _ _ e)] at hl2; cases hl2
      exact hQ l2 _ kk hl0 ⟨dx,vs ++ [.ref t],[],upd_same,c2,n1,n2,by rw [upd_ne c2]; exact s3 _ _ w2,by rw [upd_ne n1]; exact w3,
        Paired.snoc (Paired.mono c7 fun _ _ z=>z.up fun b xs e=>kM _ _ (s1 _ _ e)) ⟨t,cr,sd',us,rfl,kM _ _ w1,kM _ _ (s1 _ _ hcr),kM _ _ hs1,Paired.mono pr fun _ _ z=>z.up fun b xs e=>kM _ _ (s1 _ _ e)⟩,rfl⟩
end
end K27
namespace K27
open PySem L2 HT PySem.W
section
variable {P:Program} {w:World} {K:PySem.W.Frag} {mg:Str→Option Value} {base:Heap}
theorem scTell:FnScope ["self","piece","crew","standing","following"] ["self","piece"] (defScope sTell):=⟨rfl,rfl,rfl,by decide +kernel,rfl,by decide +kernel,by decide +kernel⟩
def spTell (C:Addr):Sp:=fun vs H Q _=>∃ (cb sl ll r:Addr) (p:Pce) (n:Nat) (rows:Rows) (sts:List (Rows × Nat)) (lf:Nat),vs = [.ref cb,.ref r]∧ClubG C H cb sl ll (sts ++ [(rows,n)]) lf∧sts.length≤90∧rows.length≤30∧n≤1000∧PcAt H r p∧PcOk p∧Crews p ∧
  ∀ ll' H',Kp2 cb sl H H'→H ll' = none→ClubG C H' cb sl ll' (sts ++ [(rows,n)] ++ [(rows ++ [(n,p)],n + 1)]) 0→Q (.int n) H'
theorem ok_tell {f:Addr} {fd:FuncData} {C:Addr} (F:Fun K "tell" "Club.tell" sTell f fd) (T:Txt mg) (hM:∃ t,mg "MOST_PIECES" = some (.int 40 t)) (CC:Clb K C) (DI:Df P w K mg base 3 "is_piece" ["thing"] (spP pPiece)) (DE:DfM P w K mg base 1 C "enter" ["self","crew","standing","following"] (spEnter C)):FnOk P w K mg base CX0 4 f fd ["self","piece"] (spTell C):=by
  refine F.ok scTell (fun vs H Q E h=>?_) (fun cdv A outer s H vs Q E hr h=>?_)
  · obtain ⟨cb,sl,ll,r,p,n,rows,sts,lf,rfl,_⟩:=h
    rfl
  · obtain ⟨cb,sl,ll,r,p,n,rows,sts,lf,rfl,hC,l90,l30,n1000,hP,op,cp,hQ⟩:=h
    have hr1:=hr.mono (j:=1) (by decide)
    obtain ⟨tk,hM⟩:=hM
    refine ⟨_,pss_cons (ps_asg (pe_ix ix_list (pe_fld (pv 0) rfl) (pe_un un_neg pe_int) (fun _ _=>rfl)) (pg_tup rfl (pgs_cons (pg_name (i:=2) scTell.nd rfl (Or.inl rfl)) (pgs_cons (pg_name (i:=3) scTell.nd rfl (Or.inl rfl)) (pgs_cons (pg_name (i:=4) scTell.nd rfl (Or.inl rfl)) pgs_nil)))))
      (pss_cons (ps_if (pt_not (pt_val (pe_df DI hr (pa_cons (pv 1) pa_nil)))) pss_never pss_nil)
      (pss_cons (ps_if (pt_cmpR op_ge (pe_callB call_len_seq rfl T.len PySem.boot_len (pa_cons (pv 3) pa_nil)) (pe_glob (v:=.int 40) rfl hM ⟨_,rfl⟩) (nomark _)) pss_never pss_nil)
      (pss_cons (ps_expr (pe_dm DE hr1 (pv 0) (pa_cons (pv 2) (pa_cons (pe_op op_catN (pv 3) (pe_tup (pa_cons (pe_tup (pa_cons (pv 4) (pa_cons (pv 1) pa_nil))) pa_nil))) (pa_cons (pe_op op_add (pv 4) pe_int) pa_nil)))))
      (pss_one (ps_ret (pv 4)))))),?_⟩
    obtain ⟨dx,vs,ws,c1,c2,c3,c4,c5,c6,c7,c8⟩:=id hC
    obtain ⟨vs',v,rfl,c7',st,cr,sd,us,rfl,e1,e2,e3,e4⟩:=paired_last c7
    have lus:=paired_len e4
    refine ⟨_,rfl,cb,C,dx,_,_,rfl,c1,CC.c,CC.ns,rfl,1,rfl,sl,_,-1,.ref st,rfl,rfl,SqL.of c5,atI_last _ _,st,_,rfl,SqT.of e1,rfl,_,_,rfl,_,_,rfl,_,_,rfl,rfl,?_⟩
    obtain ⟨kk,tl⟩:=pc_tells hP
    refine ⟨_,rfl,kk,_,_,rfl,tl,bd_pc op,fun H1 s1=>⟨_,rfl,?_⟩⟩
    rw [pc_piece op cp]
    refine ite_no (by decide) ?_
    have hC1:=hC.same s1
    refine ⟨_,rfl,sd,us,rfl,.inr (SqT.of (s1 _ _ e3)),_,_,rfl,rfl,_,rfl,?_⟩
    refine ite_no (fun z=>?_) ?_
    · have:=of_decide_eq_true z
      dsimp only at lus
      omega
    refine ⟨_,rfl,cb,dx,_,rfl,s1 _ _ c1,rfl,_,rfl,_,rfl,_,rfl,_,rfl,by show 2≤sizeLine; decide,fun u hu=>?_⟩
    have z1:=same_new hu (.tup [.int n,.ref r])
    have y1:upd H1 u (.tup [.int n,.ref r]) u = some (.tup [.int n,.ref r]):=upd_same
    try dsimp only
    generalize upd H1 u (.tup [.int n,.ref r]) = M1 at *
    refine ⟨by show 1≤sizeLine; decide,fun x1 hx1=>?_⟩
    have z2:=same_new hx1 (.tup [.ref u])
    have y2:upd M1 x1 (.tup [.ref u]) x1 = some (.tup [.ref u]):=upd_same
    try dsimp only
    generalize upd M1 x1 (.tup [.ref u]) = M2 at *
    have lw:(n:Int) + 1 = ((n + 1:Nat):Int):=by omega
    have fin:∀ (M3:Hp) (x:Addr),Same M2 M3→M3 x = some (.tup (us ++ [.ref u]))→spEnter C [.ref cb,.ref cr,.ref x,.int ((n:Int) + 1)] M3 (fun _ H'=>Q (.int n) H') (fun _ _ _=>False):=fun M3 x z3 y3=>by
      have zz:=s1.trans ((z1.trans z2).trans z3)
      refine ⟨cb,sl,ll,cr,x,us ++ [.ref u],n + 1,rows ++ [(n,p)],sts ++ [(rows,n)],lf,by rw [lw],hC.same zz,by rw [List.length_append,List.length_singleton]; omega,zz _ _ e2,.inl y3,by rw [List.length_append,List.length_singleton]; dsimp only at lus; omega,Paired.snoc (Paired.mono e4 fun _ _ q=>q.up fun b xs e=>zz _ _ e) ⟨u,r,rfl,(z2.trans z3) _ _ y1,hP.up fun b xs e=>zz _ _ e⟩,fun ll' H' k' f' C'=>?_⟩
      exact hQ ll' H' (fun b o n1 n2 e=>k' _ _ n1 n2 (zz _ _ e)) (by
        cases e:H ll' with
        | none=>rfl
        | some o=>rw [zz _ _ e] at f'; cases f') C'
    refine ⟨sd,x1,us,[.ref u],rfl,rfl,SqT.of ((z1.trans z2) _ _ (s1 _ _ e3)),SqT.of y2,by simp,Nat.le_of_lt (small1000 (by simp only [List.length_singleton]; dsimp only at lus; omega)),fun h0=>?_,fun _ x2 hx2=>?_⟩
    · have y3:M2 x1 = some (.tup (us ++ [.ref u])):=by rw [h0]; exact y2
      obtain ⟨b1,b2,b3,b4,b5,b6,b7,b8,b9,b0,d1,d2,d3,d4,d5,d6,d7,d8⟩:=(fin M2 x1 (fun _ _ e=>e) y3)
      exact ⟨_,rfl,_,_,rfl,rfl,b1,b2,b3,b4,b5,b6,b7,b8,b9,b0,d1,d2,d3,d4,d5,d6,d7,fun ll' H' k1 k2 k3=>⟨_,rfl,d8 ll' H' k1 k2 k3⟩⟩
    · have z3:=same_new hx2 (.tup (us ++ [.ref u]))
      have y3:upd M2 x2 (.tup (us ++ [.ref u])) x2 = some (.tup (us ++ [.ref u])):=upd_same
      try dsimp only
      obtain ⟨b1,b2,b3,b4,b5,b6,b7,b8,b9,b0,d1,d2,d3,d4,d5,d6,d7,d8⟩:=(fin _ x2 z3 y3)
      exact ⟨_,rfl,_,_,rfl,rfl,b1,b2,b3,b4,b5,b6,b7,b8,b9,b0,d1,d2,d3,d4,d5,d6,d7,fun ll' H' k1 k2 k3=>⟨_,rfl,d8 ll' H' k1 k2 k3⟩⟩
end
end K27
namespace K27
open PySem L2 HT PySem.W
section
variable {P:Program} {w:World} {K:PySem.W.Frag} {mg:Str→Option Value} {base:Heap}
theorem scBack:FnScope ["self"] ["self"] (defScope sBack):=⟨rfl,rfl,rfl,by decide +kernel,rfl,by decide +kernel,by decide +kernel⟩
def Kp3 (a b c:Addr) (H H':Hp):Prop:=∀ x o,x≠a→x≠b→x≠c→H x = some o→H' x = some o
def spBack (C:Addr):Sp:=fun vs H Q _=>∃ (cb sl ll:Addr) (S S':Rows × Nat) (sts:List (Rows × Nat)) (lf:Nat),vs = [.ref cb]∧ClubG C H cb sl ll (sts ++ [S] ++ [S']) lf∧sts.length≤100∧lf≤100 ∧
  ∀ H',Kp3 cb sl ll H H'→ClubG C H' cb sl ll (sts ++ [S]) (lf + 1)→Q .non H'
theorem ok_back {f:Addr} {fd:FuncData} {C:Addr} (F:Fun K "back" "Club.back" sBack f fd) (T:Txt mg) (CC:Clb K C):FnOk P w K mg base CX0 1 f fd ["self"] (spBack C):=by
  refine F.ok scBack (fun vs H Q E h=>?_) (fun cdv A outer s H vs Q E hr h=>?_)
  · obtain ⟨cb,sl,ll,S,S',sts,lf,rfl,_⟩:=h
    rfl
  · obtain ⟨cb,sl,ll,S,S',sts,lf,rfl,hC,l100,f100,hQ⟩:=h
    refine ⟨_,pss_cons (ps_if (pt_cmpR op_eq (pe_callB call_len_seq rfl T.len PySem.boot_len (pa_cons (pe_fld (pv 0) rfl) pa_nil)) pe_int (nomark _)) pss_never pss_nil)
      (pss_one (ps_expr (pe_bm PySem.F.plainAttrs_list PySem.F.slot_list_append PySem.F.type_list_append mt_append (pe_fld (pv 0) rfl) (pa_cons (pe_bm0 PySem.F.plainAttrs_list PySem.F.slot_list_pop PySem.F.type_list_pop mt_pop (pe_fld (pv 0) rfl)) pa_nil)))),?_⟩
    obtain ⟨dx,vs,ws,c1,c2,c3,c4,c5,c6,c7,c8⟩:=id hC
    obtain ⟨vs',v,rfl,c7',hv⟩:=paired_last c7
    have lv:=paired_len c7'
    rw [List.length_append,List.length_singleton] at lv
    refine ⟨_,rfl,cb,C,dx,_,_,rfl,c1,CC.c,CC.ns,rfl,sl,_,rfl,.inl (SqL.of c5),rfl,_,rfl,?_⟩
    refine ite_no (fun z=>?_) ?_
    · have z':=of_decide_eq_true z
      injection z' with z'
      rw [List.length_append,List.length_singleton] at z'
      omega
    refine ⟨_,rfl,cb,C,dx,_,_,rfl,c1,CC.c,CC.nl,rfl,.inl ⟨rfl,_,SqL.of c6⟩,_,rfl,cb,C,dx,_,_,rfl,c1,CC.c,CC.ns,rfl,.inl ⟨rfl,_,SqL.of c5⟩,sl,_,v,rfl,rfl,c5,by simp,?_⟩
    rw [show (vs' ++ [v]).dropLast = vs' by simp]
    have k1:∀ b o,b≠sl→H b = some o→upd H sl (.lst vs') b = some o:=fun b o n e=>by rw [upd_ne n]; exact e
    have w1:upd H sl (.lst vs') sl = some (.lst vs'):=upd_same
    try dsimp only
    generalize upd H sl (.lst vs') = M1 at *
    have d6:=k1 _ _ c4 c6
    refine ⟨ll,ws,v,rfl,rfl,d6,small1000 (by omega),?_⟩
    have tk:∀ b xs,H b = some (.tup xs)→upd M1 ll (.lst (ws ++ [v])) b = some (.tup xs):=fun b xs e=>by
      rw [upd_ne (fun z=>by rw [z,c6] at e; cases e)]
      exact k1 _ _ (fun z=>by rw [z,c5] at e; cases e) e
    exact hQ _ (fun x o n1 n2 n3 e=>by rw [upd_ne n3]; exact k1 _ _ n2 e) ⟨dx,vs',ws ++ [v],by rw [upd_ne c3.symm]; exact k1 _ _ c2.symm c1,c2,c3,c4,by rw [upd_ne c4.symm]; exact w1,upd_same,Paired.mono c7' fun _ _ z=>z.up tk,by rw [List.length_append,List.length_singleton,c8]⟩
theorem scStr:FnScope ["self","number","crew","standing","following"] ["self","number"] (defScope sStr):=⟨rfl,rfl,rfl,by decide +kernel,rfl,by decide +kernel,by decide +kernel⟩
def nmSt:List (Str × NameKind):=[(".0",.local),("told",.local),("number",.free)]
theorem ndSt:(["told","number"]:List Str).Nodup:=by decide +kernel
theorem ndOp:(["other","piece"]:List Str).Nodup:=by decide +kernel
def spStr (C:Addr):Sp:=fun vs H Q _=>∃ (cb sl ll:Addr) (k n:Nat) (rows:Rows) (sts:List (Rows × Nat)) (lf:Nat),vs = [.ref cb,.int k]∧ClubG C H cb sl ll (sts ++ [(rows,n)]) lf∧sts.length≤90∧rows.length≤90∧k∈rows.map (·.1) ∧
  ∀ ll' H',Kp2 cb sl H H'→H ll' = none→ClubG C H' cb sl ll' (sts ++ [(rows,n)] ++ [(rows.filter fun x=>!decide (x.1 = k),n)]) 0→Q .non H'
theorem paired_get {α β:Type} {R:α→β→Prop}:∀ {as:List α} {bs:List β},Paired R as bs→∀ (i:Nat) (h:i < bs.length),∃ a,as[i]? = some a∧R a bs[i]
  | _,_,.nil,i,h=>by cases h
  | _,_,.cons h t,0,_=>⟨_,rfl,h⟩
  | _,_,.cons h t,i + 1,hi=>by
    obtain ⟨a,e,r⟩:=paired_get t i (by simpa using hi)
    exact ⟨a,by simpa using e,by simpa using r⟩
theorem getD_some {us:List V} {i:Nat} {u:V} (h:us[i]? = some u):us.getD i .non = u:=by rw [List.getD_eq_getElem?_getD,h]; rfl
theorem num_comp {H1:Hp} {L a:Addr} {us:List V} {rows:Rows} {Q:VK} (hL:H1 L = none) (h:H1 a = some (.tup us)) (pr:Paired (RwAt H1) us rows) (hl:rows.length≤1000) (q:∀ J,Same H1 J→J L = some (.lst (rows.map fun x=>V.int x.1))→Q (.ref L) J) :
    LCok (Itt K a) (gTup K 2 (gCons (gName 0) (gCons (gName 1) gNil))) tYes (tVar 0) [none,none] H1 Q L:=by
  have lu:=paired_len pr
  refine lc_map (n:=us.length) (f:=fun i=>us.getD i .non) (fun j ys σ' J=>(∃ v v',σ' = [v,v'])∧Same H1 J∧ys = (rows.take j).map fun x=>V.int x.1) hL (by omega) ⟨⟨_,_,rfl⟩,same_upd (Same.refl _) hL,rfl⟩ (fun j ys σ' J hj hy ⟨_,sj,_⟩=>itt_tup (K:=K) (SqT.of (sj _ _ h)) j hj) ?_ ?_
  · rintro j ys σ' J hj hy ⟨⟨v,v',rfl⟩,sj,rfl⟩
    have hjr:j < rows.length:=by omega
    obtain ⟨u,eu,b,r,rfl,e1,_⟩:=paired_get pr j hjr
    rw [getD_some eu]
    refine ⟨b,_,rfl,SqT.of (sj _ _ e1),rfl,_,_,rfl,_,_,rfl,rfl,_,rfl,hy,⟨_,_,rfl⟩,same_upd sj hL,?_⟩
    rw [take_get hjr,List.map_append]; rfl
  · rintro ys σ' J hy ⟨_,sj,rfl⟩
    rw [lu,List.take_length] at hy
    exact q J sj hy
theorem flt_any {α:Type} (f:α→Bool) (l:List α) (x:α):(l ++ [x]).filter f = if f x = true then l.filter f ++ [x] else l.filter f:=by
  rw [List.filter_append]
  by_cases h:f x = true
  · rw [if_pos h,List.filter_cons_of_pos h]; rfl
  · rw [if_neg h,List.filter_cons_of_neg h]; simp
theorem told_comp {H1:Hp} {L a:Addr} {us:List V} {rows:Rows} {k:Nat} {Q:VK} (v:Option V) (hL:H1 L = none) (h:H1 a = some (.tup us)) (pr:Paired (RwAt H1) us rows) (hl:rows.length≤1000)
    (q:∀ ys J,Same H1 J→J L = some (.lst ys)→Paired (RwAt J) ys (rows.filter fun x=>!decide (x.1 = k))→Q (.ref L) J) :
    LCok (Itt K a) (gName 0) (tTest (tOp rNe (tOp (rIxT K) (tVar 0) (tC (.int 0))) (tVar 1))) (tVar 0) [v,some (.int k)] H1 Q L:=by
  have lu:=paired_len pr
  refine lc_fill (n:=us.length) (f:=fun i=>us.getD i .non) (fun j ys σ' J=>(∃ v,σ' = [v,some (.int k)])∧Same H1 J∧Paired (RwAt J) ys ((rows.take j).filter fun x=>!decide (x.1 = k))) hL (by omega) ⟨⟨_,rfl⟩,same_upd (Same.refl _) hL,.nil⟩ (fun j ys σ' J hj hy ⟨_,sj,_⟩=>itt_tup (K:=K) (SqT.of (sj _ _ h)) j hj) ?_ ?_
  · rintro j ys σ' J hj hy ⟨⟨v,rfl⟩,sj,pj⟩
    have hjr:j < rows.length:=by omega
    obtain ⟨u,eu,b,r,rfl,e1,e2⟩:=paired_get pr j hjr
    rw [getD_some eu]
    refine ⟨_,rfl,b,_,0,_,rfl,rfl,SqT.of (sj _ _ e1),atI_nat (j:=0) rfl,_,rfl,rfl,_,rfl,?_⟩
    rw [dec_vint,take_get hjr,flt_any]
    by_cases e:rows[j].1 = k
    · refine ite_no (by simp [e]) ?_
      refine ⟨hy,⟨_,rfl⟩,sj,?_⟩
      rw [if_neg (by simp [e])]
      exact pj
    · refine ite_yes (by simp; omega) ?_
      have tk':∀ c xs,J c = some (.tup xs)→upd J L (.lst (ys ++ [.ref b])) c = some (.tup xs):=fun c xs e=>by rw [upd_ne (fun z=>by rw [z,hy] at e; cases e)]; exact e
      refine ⟨_,rfl,hy,⟨_,rfl⟩,same_upd sj hL,?_⟩
      rw [if_pos (by simp [e])]
      exact Paired.snoc (Paired.mono pj fun _ _ z=>z.up tk') ⟨b,r,rfl,tk' _ _ (sj _ _ e1),e2.up fun c xs e=>tk' _ _ (sj _ _ e)⟩
  · rintro ys σ' J hy ⟨_,sj,pj⟩
    rw [lu,List.take_length] at pj
    exact q ys J sj hy pj
theorem in_nats {k:Nat} {ns:Rows} (h:k∈ns.map (·.1)):inV (.int k) (ns.map fun x=>V.int x.1) = true:=by
  obtain ⟨x,hx,rfl⟩:=List.mem_map.mp h
  unfold inV
  rw [List.any_eq_true]
  exact ⟨_,List.mem_map.mpr ⟨x,hx,rfl⟩,by simp [eqV]⟩
theorem flat_nats (ns:Rows):(ns.map fun x=>V.int x.1).all flatV = true:=by
  rw [List.all_eq_true]
  intro v hv
  obtain ⟨x,_,rfl⟩:=List.mem_map.mp hv
  rfl
theorem ok_str {f:Addr} {fd:FuncData} {C:Addr} (F:Fun K "strike" "Club.strike" sStr f fd) (CC:Clb K C) (DE:DfM P w K mg base 1 C "enter" ["self","crew","standing","following"] (spEnter C)):FnOk P w K mg base CX0 2 f fd ["self","number"] (spStr C):=by
  refine F.ok scStr (fun vs H Q E h=>?_) (fun cdv A outer s H vs Q E hr h=>?_)
  · obtain ⟨cb,sl,ll,k,n,rows,sts,lf,rfl,_⟩:=h
    rfl
  · obtain ⟨cb,sl,ll,k,n,rows,sts,lf,rfl,hC,l90,r90,hk,hQ⟩:=h
    refine ⟨_,pss_cons (ps_asg (pe_ix ix_list (pe_fld (pv 0) rfl) (pe_un un_neg pe_int) (fun _ _=>rfl)) (pg_tup rfl (pgs_cons (pg_name (i:=2) scStr.nd rfl (Or.inl rfl)) (pgs_cons (pg_name (i:=3) scStr.nd rfl (Or.inl rfl)) (pgs_cons (pg_name (i:=4) scStr.nd rfl (Or.inl rfl)) pgs_nil)))))
      (pss_cons (ps_if (pt_cmpR op_notIn_seq (pv 1) (pe_lc (N:=["other","piece"]) (g:=gTup K 2 (gCons (gName 0) (gCons (gName 1) gNil))) (tc:=tYes) (te:=tVar 0) rfl (pi_tup (pv 3)) (BlkOk.closed rfl (by decide +kernel) (by decide +kernel) (by decide +kernel))
        (fun _ _ _=>pg_tup rfl (pgs_cons (pg_name (i:=0) ndOp rfl (Or.inl rfl)) (pgs_cons (pg_name (i:=1) ndOp rfl (Or.inl rfl)) pgs_nil))) (fun _ _ _=>pts_nil) (fun _ _ _=>pv 0)) rfl) pss_never pss_nil)
      (pss_one (ps_expr (pe_dm DE hr (pv 0) (pa_cons (pv 2) (pa_cons (pe_lc (N:=["told","number"]) (g:=gName 0) (tc:=tTest (tOp rNe (tOp (rIxT K) (tVar 0) (tC (.int 0))) (tVar 1))) (te:=tVar 0) rfl (pi_tup (pv 3))
        (BlkOk.one (v:="told") (fr:="number") (j:=1) (nm:=nmSt) rfl rfl rfl rfl (by decide +kernel) (by decide +kernel) (by decide +kernel) (by decide +kernel) (by decide +kernel))
        (fun _ _ _=>pg_name (i:=0) ndSt rfl (Or.inl rfl)) (fun _ _ _=>pts_one (pt_cmpR op_ne (pe_ix ix_tup (pv 0) pe_int (fun _ _=>rfl)) (pv 1) (nomark _))) (fun _ _ _=>pv 0)) (pa_cons (pv 4) pa_nil))))))),?_⟩
    obtain ⟨dx,vs,ws,c1,c2,c3,c4,c5,c6,c7,c8⟩:=id hC
    obtain ⟨vs',v,rfl,c7',st,cr,sd,us,rfl,e1,e2,e3,e4⟩:=paired_last c7
    have lus:=paired_len e4
    dsimp only at lus e1 e4
    refine ⟨_,rfl,cb,C,dx,_,_,rfl,c1,CC.c,CC.ns,rfl,1,rfl,sl,_,-1,.ref st,rfl,rfl,SqL.of c5,atI_last _ _,st,_,rfl,SqT.of e1,rfl,_,_,rfl,_,_,rfl,_,_,rfl,rfl,?_⟩
    refine ⟨_,rfl,_,rfl,sd,rfl,⟨_,SqT.of e3⟩,fun L hL=>?_⟩
    refine num_comp hL e3 e4 (by omega) fun J sJ hJ=>?_
    refine ⟨L,_,rfl,.inl (SqL.of hJ),rfl,flat_nats rows,_,rfl,?_⟩
    rw [in_nats hk]
    refine ite_no (by decide) ?_
    refine ⟨_,rfl,cb,dx,_,rfl,sJ _ _ c1,rfl,_,rfl,_,rfl,sd,rfl,⟨_,SqT.of (sJ _ _ e3)⟩,fun L2 hL2=>?_⟩
    refine told_comp none hL2 (sJ _ _ e3) (Paired.mono e4 fun _ _ z=>z.up fun b xs e=>sJ _ _ e) (by omega) fun ys J2 s2 hJ2 pys=>?_
    have zz:=sJ.trans s2
    have ly:=paired_len pys
    have lf2:=List.length_filter_le (fun x:Nat × Pce=>!decide (x.1 = k)) rows
    refine ⟨_,rfl,cb,sl,ll,cr,L2,ys,n,_,sts ++ [(rows,n)],lf,rfl,hC.same zz,by rw [List.length_append,List.length_singleton]; omega,zz _ _ e2,.inr hJ2,by omega,pys,fun ll' H' k' f' C'=>?_⟩
    exact hQ ll' H' (fun b o n1 n2 e=>k' _ _ n1 n2 (zz _ _ e)) (by
      cases e:H ll' with
      | none=>rfl
      | some o=>rw [zz _ _ e] at f'; cases f') C'
end
end K27
namespace K27
open PySem L2 HT PySem.W
open Classical in
noncomputable def toldF (p q:Pce):Option Tr4:=if h:∃ m y,Xp p q m y then some (trOf p q h.choose h.choose_spec.choose) else none
theorem toldF_is {p q:Pce} {r:Option Tr4} (P:Crews p) (h:Told p q r):r = toldF p q:=by
  refine h.uniq P ?_
  unfold toldF
  split
  · rename_i h
    exact .inl ⟨_,_,h.choose_spec.choose_spec,rfl⟩
  · rename_i h
    exact .inr ⟨fun m y x=>h ⟨m,y,x⟩,rfl⟩
abbrev Row3:=Nat × Nat × Tr4
def row1 (i j:Nat):Option Tr4→List Row3
  | none=>[]
  | some t=>[(i,j,t)]
noncomputable def rwG (x:Nat × Pce):Rows→List Row3
  | []=>[]
  | y :: ys=>row1 x.1 y.1 (toldF x.2 y.2) ++ rwG x ys
noncomputable def alG:Rows→List Row3
  | []=>[]
  | x :: xs=>rwG x xs ++ alG xs
def Rw3At (H:Hp) (v:V) (r:Row3):Prop:=∃ a q,v = .ref a∧H a = some (.tup [.int r.1,.int r.2.1,.ref q])∧TrAt H q r.2.2
theorem TrAt.up {H H':Hp} {q:Addr} {r:Tr4} (h:TrAt H q r) (s:∀ b xs,H b = some (.tup xs)→H' b = some (.tup xs)):TrAt H' q r:=by
  obtain ⟨l,h1,h2⟩:=h
  exact ⟨l,s _ _ h1,s _ _ h2⟩
theorem Rw3At.up {H H':Hp} {v:V} {r:Row3} (h:Rw3At H v r) (s:∀ b xs,H b = some (.tup xs)→H' b = some (.tup xs)):Rw3At H' v r:=by
  obtain ⟨a,q,h1,h2,h3⟩:=h
  exact ⟨a,q,h1,s _ _ h2,h3.up s⟩
section
variable {P:Program} {w:World} {K:PySem.W.Frag} {mg:Str→Option Value} {base:Heap}
theorem scPcs:FnScope ["self"] ["self"] (defScope sPcs):=⟨rfl,rfl,rfl,by decide +kernel,rfl,by decide +kernel,by decide +kernel⟩
def spPcs (C:Addr):Sp:=fun vs H Q _=>∃ (cb sl ll:Addr) (rows:Rows) (n:Nat) (sts:List (Rows × Nat)) (lf:Nat),vs = [.ref cb]∧ClubG C H cb sl ll (sts ++ [(rows,n)]) lf∧∀ l us,H l = none→Paired (RwAt H) us rows→Q (.ref l) (upd H l (.lst us))
theorem ok_pcs {f:Addr} {fd:FuncData} {C:Addr} (F:Fun K "pieces" "Club.pieces" sPcs f fd) (T:Txt mg) (CC:Clb K C):FnOk P w K mg base CX0 1 f fd ["self"] (spPcs C):=by
  refine F.ok scPcs (fun vs H Q E h=>?_) (fun cdv A outer s H vs Q E hr h=>?_)
  · obtain ⟨cb,sl,ll,rows,n,sts,lf,rfl,_⟩:=h
    rfl
  · obtain ⟨cb,sl,ll,rows,n,sts,lf,rfl,hC,hQ⟩:=h
    refine ⟨_,pss_one (ps_ret (pe_callTy call_list_of rfl T.list PyProof.Rows.boot_list (pa_cons (pe_ix ix_tup (pe_ix ix_list (pe_fld (pv 0) rfl) (pe_un un_neg pe_int) (fun _ _=>rfl)) pe_int (fun _ _=>rfl)) pa_nil))),?_⟩
    obtain ⟨dx,vs,ws,c1,c2,c3,c4,c5,c6,c7,c8⟩:=id hC
    obtain ⟨vs',v,rfl,c7',st,cr,sd,us,rfl,e1,e2,e3,e4⟩:=paired_last c7
    exact ⟨_,rfl,cb,C,dx,_,_,rfl,c1,CC.c,CC.ns,rfl,1,rfl,sl,_,-1,.ref st,rfl,rfl,SqL.of c5,atI_last _ _,st,_,1,_,rfl,rfl,SqT.of e1,atI_nat (j:=1) rfl,sd,us,rfl,.inr (SqT.of e3),fun l hl=>hQ l us hl e4⟩
theorem scTrs:FnScope ["self","found","standing","at","one","piece","other","later","trial"] ["self"] (defScope sTrs):=⟨rfl,rfl,rfl,by decide +kernel,rfl,by decide +kernel,by decide +kernel⟩
def spTrs (C:Addr):Sp:=fun vs H Q _=>∃ (cb sl ll:Addr) (rows:Rows) (n:Nat) (sts:List (Rows × Nat)) (lf:Nat),vs = [.ref cb]∧ClubG C H cb sl ll (sts ++ [(rows,n)]) lf∧(∀ x∈rows,PcOk x.2∧Crews x.2)∧rows.length≤30 ∧
  ∀ l ws H',Same H H'→H' l = some (.lst ws)→Paired (Rw3At H') ws (alG rows)→Q (.ref l) H'
theorem ok_trs {f:Addr} {fd:FuncData} {C:Addr} (F:Fun K "trials" "Club.trials" sTrs f fd) (T:Txt mg) (DP:DfM P w K mg base 1 C "pieces" ["self"] (spPcs C)) (DT:Df P w K mg base 4 "trial_or_none" ["one","other"] spTn):FnOk P w K mg base CX0 5 f fd ["self"] (spTrs C):=by
  refine F.ok scTrs (fun vs H Q E h=>?_) (fun cdv A outer s H vs Q E hr h=>?_)
  · obtain ⟨cb,sl,ll,rows,n,sts,lf,rfl,_⟩:=h
    rfl
  · obtain ⟨cb,sl,ll,rows,n,sts,lf,rfl,hC,hok,l30,hQ⟩:=h
    have hr1:=hr.mono (j:=1) (by decide)
    refine ⟨_,pss_cons (ps_set (i:=1) scTrs.nd rfl (Or.inl rfl) (pe_lst pa_nil))
      (pss_cons (ps_set (i:=2) scTrs.nd rfl (Or.inl rfl) (pe_dm0 DP hr1 (pv 0)))
      (pss_cons (ps_for PassesOwn.never rfl (pi_enumL rfl T.enum (pa_cons (pv 2) pa_nil)) (pg_tup rfl (pgs_cons (pg_name (i:=3) scTrs.nd rfl (Or.inl rfl)) (pgs_cons (pg_tup rfl (pgs_cons (pg_name (i:=4) scTrs.nd rfl (Or.inl rfl)) (pgs_cons (pg_name (i:=5) scTrs.nd rfl (Or.inl rfl)) pgs_nil))) pgs_nil)))
        (pss_one (ps_for PassesOwn.never rfl (pi_list (pe_slice sl_list (pv 2) (po_some (pe_op op_add (pv 3) pe_int)) po_none)) (pg_tup rfl (pgs_cons (pg_name (i:=6) scTrs.nd rfl (Or.inl rfl)) (pgs_cons (pg_name (i:=7) scTrs.nd rfl (Or.inl rfl)) pgs_nil)))
          (pss_cons (ps_set (i:=8) scTrs.nd rfl (Or.inl rfl) (pe_df DT hr (pa_cons (pv 5) (pa_cons (pv 7) pa_nil))))
          (pss_one (ps_if (pt_cmpR op_notN (pv 8) pe_non (nomark _)) (pss_one (ps_expr (pe_bm PySem.F.plainAttrs_list PySem.F.slot_list_append PySem.F.type_list_append mt_append (pv 1) (pa_cons (pe_tup (pa_cons (pv 4) (pa_cons (pv 6) (pa_cons (pv 8) pa_nil)))) pa_nil)))) pss_nil))))))
      (pss_one (ps_ret (pv 1))))),?_⟩
    obtain ⟨dx,vs0,ws0,c1,_⟩:=id hC
    refine ⟨by show 0≤sizeLine; decide,fun l hl=>?_⟩
    have s1:=same_new hl (.lst [])
    have w1:upd H l (.lst []) l = some (.lst []):=upd_same
    try dsimp only
    generalize upd H l (.lst []) = M1 at *
    refine ⟨_,rfl,cb,dx,_,rfl,s1 _ _ c1,rfl,cb,sl,ll,rows,n,sts,lf,rfl,hC.same s1,fun l2 us hl2 pr0=>?_⟩
    have s2:=same_new hl2 (.lst us)
    have w2:upd M1 l2 (.lst us) l2 = some (.lst us):=upd_same
    have w1':=s2 _ _ w1
    have n12:l2≠l:=fun z=>by rw [z,w1] at hl2; cases hl2
    try dsimp only
    generalize upd M1 l2 (.lst us) = M2 at *
    have s02:=s1.trans s2
    have hS2:Paired (RwAt M2) us rows:=Paired.mono pr0 fun _ _ z=>z.up fun b xs e=>s2 _ _ e
    have lus:=paired_len pr0
    refine ⟨_,rfl,l2,rfl,⟨_,SqL.of w2⟩,for_enumL (K:=K) (a:=l2) (xs:=us) (fun i σ' H'=>∃ (v3 v4 v5 v6 v7 v8:Option V) (ws:List V) (L:List Row3),σ' = [some (.ref cb),some (.ref l),some (.ref l2),v3,v4,v5,v6,v7,v8]∧Keep l M2 H'∧H' l = some (.lst ws)∧Paired (Rw3At H') ws L∧L ++ alG (rows.drop i) = alG rows∧L.length≤30 * i)
      ⟨_,_,_,_,_,_,[],[],rfl,Keep.refl _ _,w1',.nil,rfl,by simp⟩ (fun i σ' H' _ h=>by obtain ⟨_,_,_,_,_,_,_,_,_,kp,_⟩:=h; exact SqL.of (kp _ _ n12 w2)) ?_ ?_⟩
    · rintro i x σ' H' T hx ⟨v3,v4,v5,v6,v7,v8,ws,L,rfl,kp,hL,pr,eL,lL⟩ hT
      have hiu:i < us.length:=(List.getElem?_eq_some_iff.mp hx).1
      have hi:i < rows.length:=by omega
      obtain ⟨_,hu,u,r,rfl,hu2,hPr⟩:=paired_get hS2 i hi
      rw [hu] at hx
      cases hx
      have tk:∀ {b xs},M2 b = some (.tup xs)→H' b = some (.tup xs):=fun {b xs} e=>kp _ _ (fun z=>by rw [z,w1'] at e; cases e) e
      have sT:=same_new hT (.tup [.int i,.ref u])
      have wT:upd H' T (.tup [.int i,.ref u]) T = some (.tup [.int i,.ref u]):=upd_same
      generalize upd H' T (.tup [.int i,.ref u]) = M3 at *
      have k3:Keep l M2 M3:=kp.trans sT.keep
      have dp:rows.drop i = rows[i] :: rows.drop (i + 1):=List.drop_eq_getElem_cons hi
      have okp:=hok rows[i] (List.getElem_mem hi)
      refine ⟨T,_,rfl,SqT.of wT,rfl,_,_,rfl,_,_,rfl,u,_,rfl,SqT.of (sT _ _ (tk hu2)),rfl,_,_,rfl,_,_,rfl,rfl,rfl,?_⟩
      refine ⟨_,rfl,_,rfl,_,_,rfl,rfl,_,rfl,l2,us,rfl,SqL.of (k3 _ _ n12 w2),fun q hq=>?_⟩
      have cutu:cutV us (some ((i:Int) + 1)) none = us.drop (i + 1):=by
        unfold cutV
        rw [show ((i:Int) + 1) = ((i + 1:Nat):Int) by omega,HT.sIx_nat,HT.sIx_none,show min (i + 1) us.length = i + 1 by omega,List.take_of_length_le (by simp)]
      rw [cutu]
      have sq:=same_new hq (.lst (us.drop (i + 1)))
      have wq:upd M3 q (.lst (us.drop (i + 1))) q = some (.lst (us.drop (i + 1))):=upd_same
      have nq:q≠l:=fun z=>by rw [z,sT _ _ hL] at hq; cases hq
      generalize upd M3 q (.lst (us.drop (i + 1))) = M4 at *
      have sT4:=sT.trans sq
      refine ⟨q,rfl,⟨_,SqL.of wq⟩,for_list (K:=K) (a:=q) (xs:=us.drop (i + 1)) (fun m σ' H'=>∃ (v6 v7 v8:Option V) (ws:List V) (L:List Row3),σ' = [some (.ref cb),some (.ref l),some (.ref l2),some (.int i),some (.int rows[i].1),some (.ref r),v6,v7,v8]∧Keep l M4 H'∧H' l = some (.lst ws)∧Paired (Rw3At H') ws L∧(L ++ rwG rows[i] ((rows.drop (i + 1)).drop m)) ++ alG (rows.drop (i + 1)) = alG rows∧L.length≤30 * i + m)
        ⟨_,_,_,ws,L,rfl,Keep.refl _ _,sT4 _ _ hL,Paired.mono pr fun a b h=>h.up fun b xs e=>sT4 _ _ e,by rw [dp] at eL; show (L ++ rwG rows[i] (rows.drop (i + 1))) ++ _ = _; rw [List.append_assoc]; exact eL,by omega⟩ (fun m σ' H' _ h=>by obtain ⟨_,_,_,_,_,_,kp',_⟩:=h; exact SqL.of (kp' _ _ nq wq)) ?_ ?_⟩
      · rintro m x σ' H5 hx ⟨w6,w7,w8,ws5,L5,rfl,k5,hL5,pr5,e5,l5⟩
        rw [List.getElem?_drop] at hx
        have hju:i + 1 + m < us.length:=(List.getElem?_eq_some_iff.mp hx).1
        have hj:i + 1 + m < rows.length:=by omega
        obtain ⟨_,hu',u',r',rfl,hu2',hPr'⟩:=paired_get hS2 (i + 1 + m) hj
        rw [hu'] at hx
        cases hx
        have tk5:∀ b xs,M2 b = some (.tup xs)→H5 b = some (.tup xs):=fun b xs e=>k5 _ _ (fun z=>by rw [z,w1'] at e; cases e) (sq _ _ (sT _ _ (tk e)))
        refine ⟨u',_,rfl,SqT.of (tk5 _ _ hu2'),rfl,_,_,rfl,_,_,rfl,rfl,?_⟩
        have okq:=hok rows[i + 1 + m] (List.getElem_mem hj)
        refine ⟨_,rfl,_,rfl,r,r',rows[i].2,rows[i + 1 + m].2,rfl,hPr.up tk5,hPr'.up tk5,okp.1,okq.1,okp.2,fun v rr H6 s6 td dv=>?_⟩
        have er:=toldF_is okp.2 td
        have dd:(rows.drop (i + 1)).drop m = rows[i + 1 + m] :: (rows.drop (i + 1)).drop (m + 1):=by
          rw [List.drop_drop,List.drop_drop,show i + 1 + (m + 1) = (i + 1 + m) + 1 by omega]
          exact List.drop_eq_getElem_cons hj
        rw [dd] at e5
        have e5':((L5 ++ row1 rows[i].1 rows[i + 1 + m].1 rr) ++ rwG rows[i] ((rows.drop (i + 1)).drop (m + 1))) ++ alG (rows.drop (i + 1)) = alG rows:=by
          rw [← e5,er,List.append_assoc L5]; rfl
        refine ⟨_,rfl,rfl,_,rfl,?_⟩
        have pr6:Paired (Rw3At H6) ws5 L5:=Paired.mono pr5 fun a b h=>h.up fun b xs e=>s6 _ _ e
        have k6:Keep l M4 H6:=k5.trans s6.keep
        cases rr with
        | none =>
          have:v = .non:=dv
          subst this
          refine ite_no (by decide) ?_
          exact ⟨_,_,_,ws5,L5,rfl,k6,s6 _ _ hL5,pr6,by rw [show row1 rows[i].1 rows[i + 1 + m].1 none = [] from rfl,List.append_nil] at e5'; exact e5',by omega⟩
        | some t =>
          obtain ⟨y,rfl,ty⟩:=dv
          refine ite_yes (by rw [decide_eq_false (by simp)]; rfl) ?_
          refine ⟨_,rfl,.inl ⟨rfl,_,SqL.of (s6 _ _ hL5)⟩,_,rfl,_,rfl,_,rfl,by show 3≤sizeLine; decide,fun a ha=>?_⟩
          have sa:=same_new ha (.tup [.int rows[i].1,.int rows[i + 1 + m].1,.ref y])
          have wa:upd H6 a (.tup [.int rows[i].1,.int rows[i + 1 + m].1,.ref y]) a = some (.tup [.int rows[i].1,.int rows[i + 1 + m].1,.ref y]):=upd_same
          have hLa:=sa _ _ (s6 _ _ hL5)
          generalize upd H6 a (.tup [.int rows[i].1,.int rows[i + 1 + m].1,.ref y]) = H7 at *
          have l5':=Paired.length pr5
          refine ⟨l,ws5,.ref a,rfl,rfl,hLa,small1000 (by omega),?_⟩
          have kt:∀ b xs,H7 b = some (.tup xs)→upd H7 l (.lst (ws5 ++ [.ref a])) b = some (.tup xs):=fun b xs e=>by rw [upd_ne (fun z=>by rw [z,hLa] at e; cases e)]; exact e
          refine ⟨_,_,_,ws5 ++ [.ref a],L5 ++ [(rows[i].1,rows[i + 1 + m].1,t)],rfl,fun b o n e=>by rw [upd_ne n]; exact sa _ _ (k6 _ _ n e),upd_same,Paired.snoc (Paired.mono pr6 fun a b h=>h.up fun b xs e=>kt _ _ (sa _ _ e)) ⟨a,y,rfl,kt _ _ wa,(ty.same sa).up kt⟩,e5',by rw [List.length_append,List.length_singleton]; omega⟩
      · rintro σ' H5 ⟨w6,w7,w8,ws5,L5,rfl,k5,hL5,pr5,e5,l5⟩
        rw [show (rows.drop (i + 1)).drop (us.drop (i + 1)).length = [] from List.drop_of_length_le (by rw [List.length_drop,List.length_drop]; omega)] at e5
        refine ⟨_,_,_,_,_,_,ws5,L5,rfl,fun b o n e=>k5 _ _ n (sq _ _ (k3 _ _ n e)),hL5,pr5,by rw [show rwG rows[i] [] = [] from rfl,List.append_nil] at e5; exact e5,by rw [List.length_drop] at l5; omega⟩
    · rintro σ' H' ⟨v3,v4,v5,v6,v7,v8,ws,L,rfl,kp,hL,pr,eL,lL⟩
      rw [lus,List.drop_length,show alG [] = [] from rfl,List.append_nil] at eL
      subst eL
      refine ⟨_,rfl,hQ l ws H' (fun b o e=>kp _ _ (fun z=>by rw [z,hl] at e; cases e) (s02 _ _ e)) hL pr⟩
end
end K27
namespace K27
open PySem L2 HT PySem.W
section
variable {P:Program} {w:World} {K:PySem.W.Frag} {mg:Str→Option Value} {base:Heap}
theorem scVd:FnScope ["self","one","other"] ["self","one","other"] (defScope sVd):=⟨rfl,rfl,rfl,by decide +kernel,rfl,by decide +kernel,by decide +kernel⟩
theorem ndVd:(["earlier","later","trial"]:List Str).Nodup:=by decide +kernel
noncomputable def trsOf (rows:Rows):List Tr4:=(alG rows).map (·.2.2)
noncomputable def absOf (rows:Rows):List K27V.Tr:=((trsOf rows).take 40).map K27V.absT
def spVd (C:Addr):Sp:=fun vs H Q _=>∃ (cb sl ll:Addr) (rows:Rows) (n:Nat) (sts:List (Rows × Nat)) (lf:Nat) (one other:Str),vs = [.ref cb,.str one,.str other]∧ClubG C H cb sl ll (sts ++ [(rows,n)]) lf∧(∀ x∈rows,PcOk x.2∧Crews x.2)∧rows.length≤30 ∧
  ∀ r H',Same H H'→K27V.Ver (absOf rows) one other r→Q (.str r) H'
theorem rows_trs {H:Hp}:∀ {ws:List V} {rs:List Row3},Paired (Rw3At H) ws rs→∃ us,us.length = ws.length∧K27V.TrsAt H us (rs.map (·.2.2))∧∀ i (h:i < ws.length),∃ a x y q,ws[i]? = some (.ref a)∧H a = some (.tup [.int x,.int y,.ref q])∧us[i]? = some (.ref q)
  | _,_,.nil=>⟨[],rfl,.nil,fun i h=>by cases h⟩
  | _,_,.cons ⟨a,q,e,h1,l,h2,h3⟩ t=>by
    subst e
    obtain ⟨us,e1,e2,e3⟩:=rows_trs t
    refine ⟨.ref q :: us,by simp [e1],.cons ⟨q,l,rfl,h2,h3⟩ e2,fun i hi=>?_⟩
    cases i with
    | zero=>exact ⟨a,_,_,q,rfl,h1,rfl⟩
    | succ i =>
      obtain ⟨a',x,y,q',z1,z2,z3⟩:=e3 i (by simpa using hi)
      exact ⟨a',x,y,q',by simpa using z1,z2,by simpa using z3⟩
theorem itl_list {H:Hp} {a:Addr} {xs:List V} (h:SqL K H a xs) (i:Nat) (hi:i≤xs.length):(i = xs.length→(Itl K a).stop i H)∧(i < xs.length→(Itl K a).go i H∧∀ y H',(Itl K a).yld i H y H'→H' = H∧y = xs.getD i .non):=by
  refine ⟨fun e=>⟨xs,h,by omega⟩,fun e=>⟨⟨xs,xs[i],h,by simp [e]⟩,fun y H' q=>?_⟩⟩
  obtain ⟨q1,q2⟩:=q
  have:=q2 xs h
  exact ⟨q1,by simp [List.getD,this]⟩
theorem paired_take {α β:Type} {R:α→β→Prop}:∀ {as:List α} {bs:List β} (n:Nat),Paired R as bs→Paired R (as.take n) (bs.take n)
  | _,_,0,_=>by simp; exact .nil
  | _,_,_ + 1,.nil=>.nil
  | _,_,n + 1,.cons h t=>.cons h (paired_take n t)
theorem tri_comp {H1:Hp} {L a:Addr} {ws:List V} {rs:List Row3} {Q:VK} (hL:H1 L = none) (h:H1 a = some (.lst ws)) (pr:Paired (Rw3At H1) ws rs) (hl:rs.length≤1000) (q:∀ us J,Same H1 J→J L = some (.lst us)→K27V.TrsAt J us (rs.map (·.2.2))→Q (.ref L) J) :
    LCok (Itl K a) (gTup K 3 (gCons (gName 0) (gCons (gName 1) (gCons (gName 2) gNil)))) tYes (tVar 2) [none,none,none] H1 Q L:=by
  have lw:=paired_len pr
  obtain ⟨us,e1,e2,e3⟩:=rows_trs pr
  have nLa:a≠L:=fun z=>by rw [z,hL] at h; cases h
  refine lc_map (n:=ws.length) (f:=fun i=>ws.getD i .non) (fun j ys σ' J=>(∃ v v' v2,σ' = [v,v',v2])∧Same H1 J∧ys = us.take j) hL (by omega) ⟨⟨_,_,_,rfl⟩,K27V.same_upd (Same.refl _) hL,rfl⟩ (fun j ys σ' J hj hy ⟨_,sj,_⟩=>itl_list (K:=K) (SqL.of (sj _ _ h)) j hj) ?_ ?_
  · rintro j ys σ' J hj hy ⟨⟨v,v',v2,rfl⟩,sj,rfl⟩
    obtain ⟨b,x,y,q,z1,z2,z3⟩:=e3 j hj
    rw [getD_some z1]
    have hju:j < us.length:=by omega
    refine ⟨b,_,rfl,SqT.of (sj _ _ z2),rfl,_,_,rfl,_,_,rfl,_,_,rfl,rfl,_,rfl,hy,⟨_,_,_,rfl⟩,K27V.same_upd sj hL,?_⟩
    rw [take_get hju]
    congr 1
    rw [List.getElem?_eq_getElem hju] at z3
    rw [Option.some.inj z3]
  · rintro ys σ' J hy ⟨_,sj,rfl⟩
    rw [← e1,List.take_length] at hy
    exact q us J sj hy (e2.mono fun b xs e=>sj _ _ e)
theorem ok_vd {f:Addr} {fd:FuncData} {C:Addr} (F:Fun K "verdict" "Club.verdict" sVd f fd) (hM:∃ t,mg "MOST_TRIALS" = some (.int 40 t)) (DT:DfM P w K mg base 5 C "trials" ["self"] (spTrs C)) (DV:Df P w K mg base 4 "verdict_trials" ["trials","one","other"] (K27V.spVer K)):FnOk P w K mg base CX0 6 f fd ["self","one","other"] (spVd C):=by
  refine F.ok scVd (fun vs H Q E h=>?_) (fun cdv A outer s H vs Q E hr h=>?_)
  · obtain ⟨cb,sl,ll,rows,n,sts,lf,one,other,rfl,_⟩:=h
    rfl
  · obtain ⟨cb,sl,ll,rows,n,sts,lf,one,other,rfl,hC,hok,l30,hQ⟩:=h
    have hr4:=hr.mono (j:=4) (by decide)
    obtain ⟨tk,hM⟩:=hM
    refine ⟨_,pss_one (ps_ret (pe_df DV hr4 (pa_cons (pe_lc (N:=["earlier","later","trial"]) (g:=gTup K 3 (gCons (gName 0) (gCons (gName 1) (gCons (gName 2) gNil)))) (tc:=tYes) (te:=tVar 2) rfl (pi_list (pe_slice sl_list (pe_dm0 DT hr (pv 0)) po_none (po_some (pe_glob (v:=.int 40) rfl hM ⟨_,rfl⟩)))) (BlkOk.closed rfl (by decide +kernel) (by decide +kernel) (by decide +kernel))
      (fun _ _ _=>pg_tup rfl (pgs_cons (pg_name (i:=0) ndVd rfl (Or.inl rfl)) (pgs_cons (pg_name (i:=1) ndVd rfl (Or.inl rfl)) (pgs_cons (pg_name (i:=2) ndVd rfl (Or.inl rfl)) pgs_nil)))) (fun _ _ _=>pts_nil) (fun _ _ _=>pv 2)) (pa_cons (pv 1) (pa_cons (pv 2) pa_nil))))),?_⟩
    obtain ⟨dx,vs0,ws0,c1,_⟩:=id hC
    refine ⟨_,rfl,cb,dx,_,rfl,c1,rfl,cb,sl,ll,rows,n,sts,lf,rfl,hC,hok,l30,fun l ws H1 s1 hl pr=>?_⟩
    refine ⟨_,rfl,l,ws,rfl,SqL.of hl,fun q hq=>?_⟩
    have cut:cutV ws none (some 40) = ws.take 40:=by
      unfold cutV
      rw [show (40:Int) = ((40:Nat):Int) from rfl,HT.sIx_nat,HT.sIx_none,List.drop_zero,Nat.sub_zero]
      by_cases h:40≤ws.length
      · rw [Nat.min_eq_left h]
      · rw [Nat.min_eq_right (by omega),List.take_length,List.take_of_length_le (by omega)]
    rw [cut]
    have s2:=same_new hq (.lst (ws.take 40))
    have w2:upd H1 q (.lst (ws.take 40)) q = some (.lst (ws.take 40)):=upd_same
    try dsimp only
    generalize upd H1 q (.lst (ws.take 40)) = H2 at *
    have pr2:Paired (Rw3At H2) (ws.take 40) ((alG rows).take 40):=paired_take 40 (Paired.mono pr fun _ _ z=>z.up fun b xs e=>s2 _ _ e)
    refine ⟨q,rfl,⟨_,SqL.of w2⟩,fun L hL=>?_⟩
    refine tri_comp hL w2 pr2 (by rw [List.length_take]; omega) fun us J sJ hJ tJ=>?_
    refine ⟨_,rfl,_,rfl,L,us,_,one,other,rfl,SqL.of hJ,tJ,by rw [List.length_map,List.length_take]; omega,fun r H' s' V=>?_⟩
    refine hQ r H' (((s1.trans s2).trans sJ).trans s') ?_
    unfold absOf trsOf
    rw [← List.map_take]
    exact V
end
end K27
namespace K27
open PySem L2 HT PySem.W
theorem told_has (p q:Pce):Told p q (toldF p q):=by
  unfold toldF
  split
  · rename_i h
    exact .inl ⟨_,_,h.choose_spec.choose_spec,rfl⟩
  · rename_i h
    exact .inr ⟨fun m y x=>h ⟨m,y,x⟩,rfl⟩
theorem toldF_symm {p q:Pce} (P:Crews p) (Q:Crews q):toldF p q = toldF q p:=toldF_is Q ((told_has p q).symm P Q)
theorem toldF_self {p:Pce} (P:Crews p):toldF p p = none:=by
  rcases told_has p p with ⟨m,y,x,_⟩ | ⟨_,e⟩
  · exfalso
    have:=(x.diff P).1
    have e:notin p.a p.a = []:=by unfold notin; rw [List.filter_eq_nil_iff]; intro a ha; simp [ha]
    rw [e] at this; cases this
  · exact e
noncomputable def tl (p q:Pce):List Tr4:=(toldF p q).toList
theorem tl_symm {p q:Pce} (P:Crews p) (Q:Crews q):tl p q = tl q p:=by unfold tl; rw [toldF_symm P Q]
theorem tl_self {p:Pce} (P:Crews p):tl p p = []:=by unfold tl; rw [toldF_self P]; rfl
noncomputable def cr (p:Pce) (qs:List Pce):List Tr4:=qs.flatMap (tl p)
noncomputable def tps:List Pce→List Tr4
  | []=>[]
  | p :: ps=>cr p ps ++ tps ps
theorem rwG_cr (x:Nat × Pce):∀ ys:Rows,(rwG x ys).map (·.2.2) = cr x.2 (ys.map (·.2))
  | []=>rfl
  | y :: ys=>by
    show (row1 x.1 y.1 (toldF x.2 y.2) ++ rwG x ys).map (·.2.2) = (tl x.2 y.2) ++ cr x.2 (ys.map (·.2))
    rw [List.map_append,rwG_cr x ys]
    congr 1
    unfold tl
    cases toldF x.2 y.2 <;> rfl
theorem trsOf_tps:∀ rows:Rows,trsOf rows = tps (rows.map (·.2))
  | []=>rfl
  | x :: xs=>by
    show (rwG x xs ++ alG xs).map (·.2.2) = cr x.2 (xs.map (·.2)) ++ tps (xs.map (·.2))
    rw [List.map_append,rwG_cr,← trsOf_tps xs]; rfl
theorem cr_perm (p:Pce) {a b:List Pce} (h:a.Perm b):(cr p a).Perm (cr p b):=by
  unfold cr
  induction h with
  | nil=>exact .refl _
  | cons x _ ih=>rw [List.flatMap_cons,List.flatMap_cons]; exact ih.append_left _
  | swap x y l =>
    rw [List.flatMap_cons,List.flatMap_cons,List.flatMap_cons,List.flatMap_cons,← List.append_assoc,← List.append_assoc]
    exact List.perm_append_comm.append_right _
  | trans _ _ i j=>exact i.trans j
theorem tps_perm {a b:List Pce} (h:a.Perm b):(∀ p∈a,Crews p)→(tps a).Perm (tps b):=by
  induction h with
  | nil=>exact fun _=>.refl _
  | cons x h ih=>exact fun c=>(cr_perm x h).append (ih fun p hp=>c p (List.mem_cons_of_mem _ hp))
  | swap x y l =>
    intro c
    show ((tl y x ++ cr y l) ++ (cr x l ++ tps l)).Perm ((tl x y ++ cr x l) ++ (cr y l ++ tps l))
    rw [tl_symm (c y (by simp)) (c x (by simp)),List.append_assoc,List.append_assoc]
    refine List.Perm.append_left _ ?_
    rw [← List.append_assoc,← List.append_assoc]
    exact List.perm_append_comm.append_right _
  | trans h _ i j=>exact fun c=>(i c).trans (j fun p hp=>c p (h.mem_iff.mpr hp))
noncomputable def crs (ps qs:List Pce):List Tr4:=ps.flatMap fun p=>cr p qs
theorem cr_append (p:Pce) (a b:List Pce):cr p (a ++ b) = cr p a ++ cr p b:=by unfold cr; rw [List.flatMap_append]
theorem tps_append:∀ (a b:List Pce),(tps (a ++ b)).Perm (tps a ++ tps b ++ crs a b)
  | [],b=>by show (tps b).Perm ([] ++ tps b ++ []); simp
  | p :: a,b=>by
    show (cr p (a ++ b) ++ tps (a ++ b)).Perm ((cr p a ++ tps a) ++ tps b ++ (cr p b ++ crs a b))
    rw [cr_append]
    refine ((tps_append a b).append_left _).trans ?_
    simp only [List.append_assoc]
    refine List.Perm.append_left _ ?_
    refine (List.perm_append_comm_assoc _ _ _).trans ?_
    refine List.Perm.append_left _ ?_
    exact List.perm_append_comm_assoc _ _ _
theorem crs_cons_r (p:Pce):∀ (a b:List Pce),(crs a (p :: b)).length = (a.flatMap fun q=>tl q p).length + (crs a b).length
  | [],b=>rfl
  | q :: a,b=>by
    show (cr q (p :: b) ++ crs a (p :: b)).length = (tl q p ++ a.flatMap fun q=>tl q p).length + (cr q b ++ crs a b).length
    have e:cr q (p :: b) = tl q p ++ cr q b:=rfl
    rw [e,List.length_append,List.length_append,List.length_append,List.length_append,crs_cons_r p a b]
    omega
theorem crs_self:∀ (a:List Pce),(∀ p∈a,Crews p)→(crs a a).length = 2 * (tps a).length
  | [],_=>rfl
  | p :: a,c=>by
    show (cr p (p :: a) ++ crs a (p :: a)).length = 2 * (cr p a ++ tps a).length
    have e:cr p (p :: a) = tl p p ++ cr p a:=rfl
    have e2:(a.flatMap fun q=>tl q p) = cr p a:=by
      unfold cr
      have:∀ l:List Pce,(∀ q∈l,Crews q)→(l.flatMap fun q=>tl q p) = l.flatMap (tl p):=fun l=>by
        induction l with
        | nil=>exact fun _=>rfl
        | cons q l ih=>intro h; rw [List.flatMap_cons,List.flatMap_cons,ih fun q hq=>h q (List.mem_cons_of_mem _ hq),tl_symm (h q (by simp)) (c p (by simp))]
      exact this a fun q hq=>c q (List.mem_cons_of_mem _ hq)
    rw [e,tl_self (c p (by simp)),List.nil_append,List.length_append,crs_cons_r,e2,crs_self a fun q hq=>c q (List.mem_cons_of_mem _ hq),List.length_append]
    omega
theorem crs_perm_r {a b:List Pce} (h:a.Perm b):∀ ps:List Pce,(crs ps a).Perm (crs ps b)
  | []=>.refl _
  | p :: ps=>by
    show (cr p a ++ crs ps a).Perm (cr p b ++ crs ps b)
    exact (cr_perm p h).append (crs_perm_r h ps)
theorem tps_twice {a b:List Pce} (h:b.Perm a) (c:∀ p∈a,Crews p):(tps (a ++ b)).length = 4 * (tps a).length:=by
  have e1:=(tps_append a b).length_eq
  have e2:=(tps_perm h fun p hp=>c p (h.mem_iff.mp hp)).length_eq
  have e3:=(crs_perm_r h a).length_eq
  have e4:=crs_self a c
  rw [List.length_append,List.length_append] at e1
  omega
theorem mem_cr {t:Tr4} {p:Pce} {l:List Pce}:t∈cr p l↔∃ q∈l,t∈tl p q:=by unfold cr; rw [List.mem_flatMap]
theorem mem_tps {t:Tr4}:∀ {a:List Pce} {p q:Pce},(∀ p∈a,Crews p)→p∈a→q∈a→t∈tl p q→t∈tps a
  | [],_,_,_,h,_,_=>by cases h
  | x :: a,p,q,c,hp,hq,ht=>by
    show t∈cr x a ++ tps a
    rw [List.mem_append]
    rcases List.mem_cons.mp hp with rfl | hp'
    · rcases List.mem_cons.mp hq with rfl | hq'
      · rw [tl_self (c _ hp)] at ht; cases ht
      · exact .inl (mem_cr.mpr ⟨q,hq',ht⟩)
    · rcases List.mem_cons.mp hq with rfl | hq'
      · exact .inl (mem_cr.mpr ⟨p,hp',by rw [tl_symm (c _ hq) (c _ hp)]; exact ht⟩)
      · exact .inr (mem_tps (fun p hp=>c p (List.mem_cons_of_mem _ hp)) hp' hq' ht)
theorem mem_twice {a b:List Pce} (h:b.Perm a) (c:∀ p∈a,Crews p) (t:Tr4):t∈tps (a ++ b)↔t∈tps a:=by
  rw [(tps_append a b).mem_iff,List.mem_append,List.mem_append]
  constructor
  · rintro ((h1 | h1) | h1)
    · exact h1
    · exact (tps_perm h fun p hp=>c p (h.mem_iff.mp hp)).mem_iff.mp h1
    · obtain ⟨p,hp,h2⟩:=List.mem_flatMap.mp h1
      obtain ⟨q,hq,h3⟩:=mem_cr.mp h2
      exact mem_tps c hp (h.mem_iff.mp hq) h3
  · exact fun h1=>.inl (.inl h1)
theorem rch_mono {T T':List K27V.Tr} (h:∀ t∈T,t∈T') {s n:Str} {c:Bool} (r:K27V.Rch T s n c):K27V.Rch T' s n c:=by
  induction r with
  | refl=>exact .refl
  | step _ ht hl ih=>exact .step ih (h _ ht) hl
theorem ver_congr {T T':List K27V.Tr} (h:∀ t,t∈T↔t∈T') {one other r r':Str} (v:K27V.Ver T one other r) (v':K27V.Ver T' one other r'):r = r':=by
  obtain ⟨ab,be,al,h1,h2,h3,rfl⟩:=v
  obtain ⟨ab',be',al',g1,g2,g3,rfl⟩:=v'
  have e:∀ {s n:Str} {c:Bool},K27V.Rch T s n c↔K27V.Rch T' s n c:=fun {s n c}=>⟨rch_mono fun t=>(h t).mp,rch_mono fun t=>(h t).mpr⟩
  rw [Bool.eq_iff_iff.mpr (h1.trans (e.trans g1.symm)),Bool.eq_iff_iff.mpr (h2.trans (e.trans g2.symm)),Bool.eq_iff_iff.mpr (h3.trans (e.trans g3.symm))]
def hasN (k:Nat) (r:Row3):Bool:=decide (r.1 = k) || decide (r.2.1 = k)
theorem row1_flt {k i j:Nat} (o:Option Tr4):(row1 i j o).filter (fun r=>!hasN k r) = if i = k∨j = k then [] else row1 i j o:=by
  cases o with
  | none=>show [] = _; split <;> rfl
  | some t =>
    show [(i,j,t)].filter _ = _
    by_cases h:i = k∨j = k
    · rw [if_pos h,List.filter_cons_of_neg]
      · rfl
      · rcases h with h | h <;> simp [hasN,h]
    · rw [if_neg h,List.filter_cons_of_pos]
      · rfl
      · simp only [not_or] at h
        simp [hasN,h.1,h.2]
theorem rwG_flt {k:Nat} {x:Nat × Pce}:∀ ys:Rows,(rwG x ys).filter (fun r=>!hasN k r) = if x.1 = k then [] else rwG x (ys.filter fun y=>!decide (y.1 = k))
  | []=>by show [] = _; split <;> rfl
  | y :: ys=>by
    show (row1 x.1 y.1 (toldF x.2 y.2) ++ rwG x ys).filter _ = _
    rw [List.filter_append,row1_flt,rwG_flt ys]
    by_cases h:x.1 = k
    · rw [if_pos (.inl h),if_pos h,if_pos h]; rfl
    · rw [if_neg h,if_neg h]
      by_cases h2:y.1 = k
      · rw [if_pos (.inr h2),List.filter_cons_of_neg (by simp [h2])]; rfl
      · rw [if_neg (by simp [h,h2]),List.filter_cons_of_pos (by simp [h2])]; rfl
theorem alG_flt {k:Nat}:∀ xs:Rows,(alG xs).filter (fun r=>!hasN k r) = alG (xs.filter fun y=>!decide (y.1 = k))
  | []=>rfl
  | x :: xs=>by
    show (rwG x xs ++ alG xs).filter _ = _
    rw [List.filter_append,rwG_flt,alG_flt xs]
    by_cases h:x.1 = k
    · rw [if_pos h,List.filter_cons_of_neg (by simp [h])]; rfl
    · rw [if_neg h,List.filter_cons_of_pos (by simp [h])]; rfl
theorem flt_both {α:Type} (f:α→Bool):∀ l:List α,(l.filter f).length + (l.filter fun x=>!f x).length = l.length
  | []=>rfl
  | x :: l=>by
    have:=flt_both f l
    cases e:f x with
    | true=>rw [List.filter_cons_of_pos e,List.filter_cons_of_neg (by simp [e])]; simp; omega
    | false=>rw [List.filter_cons_of_neg (by simp [e]),List.filter_cons_of_pos (by simp [e])]; simp; omega
end K27
namespace K27
open PySem L2 HT PySem.W
section
variable {P:Program} {w:World} {K:PySem.W.Frag} {mg:Str→Option Value} {base:Heap}
abbrev sShuf:Stmt:=top 40
theorem scShuf:FnScope ["deck","some","found","one"] ["deck","some"] (defScope sShuf):=⟨rfl,rfl,rfl,by decide +kernel,rfl,by decide +kernel,by decide +kernel⟩
def spShuf:Sp:=fun vs H Q _=>∃ (k p:Addr) (c:Int) (us:List V),vs = [.ref k,.ref p]∧DeckAt H k c∧c≤50000∧p≠k∧H p = some (.lst us)∧us.length≤20 ∧
  ∀ l ys c' H',Keep k H H'→DeckAt H' k c'→c'≤c + 20→H l = none→H' l = some (.lst ys)→ys.Perm us→Q (.ref l) H'
theorem insert_permV {α:Type} {ss ns:List α} {i r:Nat} (h:ss.Perm (ns.take i)) (hi:i < ns.length):(ss.take r ++ ns[i] :: ss.drop r).Perm (ns.take (i + 1)):=by
  refine List.perm_middle.trans ?_
  rw [List.take_append_drop,take_get hi]
  exact (List.Perm.cons _ h).trans (List.perm_append_singleton _ _).symm
theorem len_insertV {α:Type} (ss:List α) {i:Nat} (x:α) (h:i≤ss.length):(ss.take i ++ x :: ss.drop i).length = ss.length + 1:=by
  rw [List.length_append,List.length_cons,List.length_take,List.length_drop]; omega
theorem ok_shuf {f:Addr} {fd:FuncData} (F:Fun K "_law_shuffled" "_law_shuffled" sShuf f fd) (T:Txt mg) (DP:Df P w K mg base 1 "_law_pick" ["deck","many"] spPick):FnOk P w K mg base CX0 2 f fd ["deck","some"] spShuf:=by
  refine F.ok scShuf (fun vs H Q E h=>?_) (fun cdv A outer s H vs Q E hr h=>?_)
  · obtain ⟨k,p,c,us,rfl,_⟩:=h
    rfl
  · obtain ⟨k,p,c,us,rfl,dk,hc,npk,hp,l20,hQ⟩:=h
    refine ⟨_,pss_cons (ps_set (i:=2) scShuf.nd rfl (Or.inl rfl) (pe_lst pa_nil))
      (pss_cons (ps_for PassesOwn.never rfl (pi_list (pv 1)) (pg_name (i:=3) scShuf.nd rfl (Or.inl rfl)) (pss_one (ps_expr (pe_bm PySem.F.plainAttrs_list PySem.F.slot_list_insert PySem.F.type_list_insert mt_insert (pv 2) (pa_cons (pe_df DP hr (pa_cons (pv 0) (pa_cons (pe_op op_add (pe_callB call_len_seq rfl T.len PySem.boot_len (pa_cons (pv 2) pa_nil)) pe_int) pa_nil))) (pa_cons (pv 3) pa_nil))))))
      (pss_one (ps_ret (pv 2)))),?_⟩
    refine ⟨by show 0≤sizeLine; decide,fun fo hfo=>?_⟩
    have hkf:k≠fo:=dk.ne hfo
    have hpf:p≠fo:=fun z=>by rw [z,hfo] at hp; cases hp
    refine ⟨_,rfl,p,rfl,⟨_,SqL.of (same_new hfo _ _ _ hp)⟩,for_list (K:=K) (a:=p) (xs:=us) (fun i σ' H'=>∃ (v:Option V) (c':Int) (ss:List V),σ' = [some (.ref k),some (.ref p),some (.ref fo),v]∧Keep k H H'∧H' p = some (.lst us)∧DeckAt H' k c'∧c'≤c + i∧H' fo = some (.lst ss)∧ss.length = i∧ss.Perm (us.take i)) ?_ (fun i σ' H' _ ⟨_,_,_,_,_,h,_⟩=>SqL.of h) ?_ ?_⟩
    · exact ⟨_,c,[],rfl,Keep.new hfo _,same_new hfo _ _ _ hp,dk.new hfo,by omega,upd_same,rfl,by simp⟩
    · rintro i y σ' H' hi ⟨v,c',ss,rfl,kH,hO,dk',hc',hF,hss,pm⟩
      obtain ⟨hil,rfl⟩:=List.getElem?_eq_some_iff.mp hi
      have hpm:=fun r=>insert_permV (r:=r) pm hil
      generalize us[i] = x at hpm hi
      refine ⟨_,rfl,.inl ⟨rfl,_,SqL.of hF⟩,?_⟩
      refine ⟨_,rfl,_,rfl,fo,_,rfl,.inl (SqL.of hF),_,_,rfl,rfl,k,c',_,rfl,dk',by omega,by omega,by omega,fun r2 c2 H2 k2 d2 e2 g2 l2'=>?_⟩
      have hF2:=k2 fo _ hkf.symm hF
      refine ⟨_,rfl,fo,_,r2,_,rfl,rfl,hF2,small1000 (by omega),g2,by omega,?_⟩
      have hs2:=len_insertV ss (i:=r2.toNat) x (by omega)
      exact ⟨_,c2,_,rfl,fun b u n e=>by rw [upd_ne (ne_of_none e hfo)]; exact k2 b u n (kH b u n e),by rw [upd_ne hpf]; exact k2 p _ npk hO,d2.keep (fun u e=>by rw [upd_ne hkf]; exact e),by omega,upd_same,by omega,hpm _⟩
    · rintro σ' H' ⟨v,c',ss,rfl,kH,hO,dk',hc',hF,hss,pm⟩
      rw [List.take_length] at pm
      exact ⟨_,rfl,hQ fo ss c' H' kH dk' (by omega) hfo hF pm⟩
end
end K27
namespace K27
open PySem L2 HT PySem.W
section
variable {P:Program} {w:World} {K:PySem.W.Frag} {mg:Str→Option Value} {base:Heap}
def DfC (P:Program) (w:World) (K:PySem.W.Frag) (mg:Str→Option Value) (base:Heap) (C:Addr):Prop:=∃ f fd,Mk K C f∧FnOk P w K mg base CX0 1 f fd ["self"] (spInit C)∧Binds K fd ["self"] []∧mg "Club" = some (.ref C)
theorem pe_club {X:Cx} {C:Addr} {p pos:Pos} (D:DfC X.prog X.w X.K X.mg X.base C) (hr:Room 2 X.A) (hg:Gl X "Club":=by rfl):PE X (.Call (.Name "Club" p) [] [] pos) (tMake C (spInit C) [] E0 tNil):=by
  obtain ⟨f,fd,M,F,b,m⟩:=D
  exact pe_make0 M F hr hg m b .nil pass0
abbrev sMade:Stmt:=top 42
theorem scMade:FnScope ["deck","pieces","club","count","piece","way"] ["deck","pieces"] (defScope sMade):=⟨rfl,rfl,rfl,by decide +kernel,rfl,by decide +kernel,by decide +kernel⟩
def PcsAt (H:Hp):List V→List Pce→Prop:=Paired fun v q=>∃ r,v = .ref r∧PcAt H r q
theorem PcsAt.up {H H':Hp} {us:List V} {ps:List Pce} (h:PcsAt H us ps) (s:∀ b xs,H b = some (.tup xs)→H' b = some (.tup xs)):PcsAt H' us ps:=Paired.mono h fun _ _ ⟨r,e,z⟩=>⟨r,e,z.up s⟩
structure Made (rows:Rows) (n:Nat) (ps:List Pce):Prop where
  pm:(rows.map (·.2)).Perm ps
  nd:(rows.map (·.1)).Nodup
  lt:∀ x∈rows,x.1 < n
theorem pcs_perm {H:Hp} {us vs:List V} (h:vs.Perm us):∀ {ps:List Pce},PcsAt H us ps→∃ qs,PcsAt H vs qs∧qs.Perm ps:=by
  induction h with
  | nil=>exact fun h=>⟨_,h,.refl _⟩
  | cons x _ ih =>
    intro ps h
    cases h with
    | cons h t =>
      obtain ⟨qs,h1,h2⟩:=ih t
      exact ⟨_ :: qs,.cons h h1,h2.cons _⟩
  | swap x y l =>
    intro ps h
    cases h with
    | cons h t =>
      cases t with
      | cons h2 t=>exact ⟨_ :: _ :: _,.cons h2 (.cons h t),.swap ..⟩
  | trans _ _ i j =>
    intro ps h
    obtain ⟨qs,h1,h2⟩:=j h
    obtain ⟨rs,h3,h4⟩:=i h1
    exact ⟨rs,h3,h4.trans h2⟩
theorem none_back {k x:Addr} {H H':Hp} {c:Int} (kp:Keep k H H') (dk:DeckAt H' k c) (e:H' x = none):H x = none:=by
  cases z:H x with
  | none=>rfl
  | some o =>
    by_cases h:x = k
    · obtain ⟨o',e'⟩:=dk.some; rw [h,e'] at e; cases e
    · rw [kp _ _ h z] at e; cases e
def spMade (C:Addr):Sp:=fun vs H Q _=>∃ (k p:Addr) (c:Int) (us:List V) (ps:List Pce),vs = [.ref k,.ref p]∧DeckAt H k c∧c≤40000∧p≠k∧H p = some (.lst us)∧PcsAt H us ps∧(∀ q∈ps,PcOk q∧Crews q)∧ps.length≤8 ∧
  ∀ cb sl ll rows n sts lf c' H',Keep k H H'→DeckAt H' k c'→c'≤c + 40→H cb = none→H sl = none→H ll = none→ClubG C H' cb sl ll (sts ++ [(rows,n)]) lf→Made rows n ps→n≤16→sts.length≤24→Q (.ref cb) H'
structure Fm (k l cb:Addr) (H H':Hp) (ys:List V) (c:Int) (sl ll:Addr):Prop where
  kp:Keep k H H'
  dk:DeckAt H' k c
  cb0:H cb = none
  sl0:H sl = none
  ll0:H ll = none
  lc:l≠cb
  ls:l≠sl
  lll:l≠ll
  hl:H' l = some (.lst ys)
  lk:l≠k
theorem ClubG.keep {C k cb sl ll:Addr} {H H':Hp} {sts:List (Rows × Nat)} {lf:Nat} {c:Int} (h:ClubG C H cb sl ll sts lf) (d:DeckAt H k c) (kp:Keep k H H') (n1:k≠cb) (n2:k≠sl) (n3:k≠ll):ClubG C H' cb sl ll sts lf:=by
  obtain ⟨dx,vs,ws,c1,c2,c3,c4,c5,c6,c7,c8⟩:=h
  exact ⟨dx,vs,ws,kp _ _ n1.symm c1,c2,c3,c4,kp _ _ n2.symm c5,kp _ _ n3.symm c6,Paired.mono c7 fun _ _ z=>z.up fun b xs e=>kp _ _ (fun z=>by
    obtain ⟨⟨_,_,h1,_⟩,_⟩:=d
    rw [z,h1] at e; cases e) e,c8⟩
section
variable {k l cb sl ll:Addr} {H H' H2:Hp} {ys:List V} {c c0:Int}
theorem Fm.enter (f:Fm k l cb H H' ys c sl ll) (d0:DeckAt H k c0) {ll2:Addr} (kp:Kp2 cb sl H' H2) (e:H' ll2 = none):Fm k l cb H H2 ys c sl ll2:=by
  have n1:k≠cb:=d0.ne f.cb0
  have n2:k≠sl:=d0.ne f.sl0
  refine ⟨fun b o n z=>kp _ _ (fun y=>by rw [y,f.cb0] at z; cases z) (fun y=>by rw [y,f.sl0] at z; cases z) (f.kp _ _ n z),f.dk.keep fun o z=>kp _ _ n1 n2 z,f.cb0,f.sl0,none_back f.kp f.dk e,f.lc,f.ls,(fun z=>by rw [← z,f.hl] at e; cases e),kp _ _ f.lc f.ls f.hl,f.lk⟩
theorem Fm.back (f:Fm k l cb H H' ys c sl ll) (d0:DeckAt H k c0) (kp:Kp3 cb sl ll H' H2):Fm k l cb H H2 ys c sl ll:=by
  have n1:k≠cb:=d0.ne f.cb0
  have n2:k≠sl:=d0.ne f.sl0
  have n3:k≠ll:=d0.ne f.ll0
  exact ⟨fun b o n z=>kp _ _ (fun y=>by rw [y,f.cb0] at z; cases z) (fun y=>by rw [y,f.sl0] at z; cases z) (fun y=>by rw [y,f.ll0] at z; cases z) (f.kp _ _ n z),f.dk.keep fun o z=>kp _ _ n1 n2 n3 z,f.cb0,f.sl0,f.ll0,f.lc,f.ls,f.lll,kp _ _ f.lc f.ls f.lll f.hl,f.lk⟩
theorem Fm.pick (f:Fm k l cb H H' ys c sl ll) {c2:Int} (kp:Keep k H' H2) (d:DeckAt H2 k c2):Fm k l cb H H2 ys c2 sl ll:=⟨f.kp.trans kp,d,f.cb0,f.sl0,f.ll0,f.lc,f.ls,f.lll,kp _ _ f.lk f.hl,f.lk⟩
theorem Fm.tk (f:Fm k l cb H H' ys c sl ll) (d0:DeckAt H k c0) (b:Addr) (xs:List V) (e:H b = some (.tup xs)):H' b = some (.tup xs):=f.kp _ _ (fun z=>by
  obtain ⟨⟨_,_,h1,_⟩,_⟩:=d0
  rw [z,h1] at e; cases e) e
end
theorem nodup_snoc' {ks:List Nat} {k:Nat} (nd:ks.Nodup) (h:¬ k∈ks):(ks ++ [k]).Nodup:=by
  rw [List.nodup_append]
  exact ⟨nd,by simp,fun a ha b hb z=>h (by rw [← List.mem_singleton.mp hb,← z]; exact ha)⟩
theorem ok_made {f:Addr} {fd:FuncData} {C:Addr} (F:Fun K "_law_made" "_law_made" sMade f fd) (T:Txt mg) (DK:DfC P w K mg base C) (DS:Df P w K mg base 2 "_law_shuffled" ["deck","some"] spShuf) (DP:Df P w K mg base 1 "_law_pick" ["deck","many"] spPick)
    (DT:DfM P w K mg base 4 C "tell" ["self","piece"] (spTell C)) (DX:DfM P w K mg base 2 C "strike" ["self","number"] (spStr C)) (DB:DfM P w K mg base 1 C "back" ["self"] (spBack C)):FnOk P w K mg base CX0 5 f fd ["deck","pieces"] (spMade C):=by
  refine F.ok scMade (fun vs H Q E h=>?_) (fun cdv A outer s H vs Q E hr h=>?_)
  · obtain ⟨k,p,c,us,ps,rfl,_⟩:=h
    rfl
  · obtain ⟨k,p,c,us,ps,rfl,dk,hc,npk,hp,hps,hok,l8,hQ⟩:=h
    have hr1:=hr.mono (j:=1) (by decide)
    have hr2:=hr.mono (j:=2) (by decide)
    refine ⟨_,pss_cons (ps_set (i:=2) scMade.nd rfl (Or.inl rfl) (pe_club DK hr2))
      (pss_cons (ps_set (i:=3) scMade.nd rfl (Or.inl rfl) pe_int)
      (pss_cons (ps_for PassesOwn.never rfl (pi_list (pe_df DS hr2 (pa_cons (pv 0) (pa_cons (pv 1) pa_nil)))) (pg_name (i:=4) scMade.nd rfl (Or.inl rfl))
        (pss_cons (ps_if (pt_cmpR op_ne (pe_dm DT hr (pv 2) (pa_cons (pv 4) pa_nil)) (pv 3) (nomark _)) pss_never pss_nil)
        (pss_cons (ps_set (i:=3) scMade.nd rfl (Or.inl rfl) (pe_op op_add (pv 3) pe_int))
        (pss_cons (ps_set (i:=5) scMade.nd rfl (Or.inl rfl) (pe_df DP hr1 (pa_cons (pv 0) (pa_cons pe_int pa_nil))))
        (pss_one (ps_if (pt_cmpR op_eq (pv 5) pe_int (nomark _))
          (pss_cons (ps_expr (pe_dm DX hr2 (pv 2) (pa_cons (pe_op op_sub (pv 3) pe_int) pa_nil)))
          (pss_cons (ps_if (pt_cmpR op_ne (pe_dm DT hr (pv 2) (pa_cons (pv 4) pa_nil)) (pv 3) (nomark _)) pss_never pss_nil)
          (pss_one (ps_set (i:=3) scMade.nd rfl (Or.inl rfl) (pe_op op_add (pv 3) pe_int)))))
          (pss_one (ps_if (pt_cmpR op_eq (pv 5) pe_int (nomark _))
            (pss_cons (ps_expr (pe_dm0 DB hr1 (pv 2)))
            (pss_one (ps_if (pt_cmpR op_ne (pe_dm DT hr (pv 2) (pa_cons (pv 4) pa_nil)) (pe_op op_sub (pv 3) pe_int) (nomark _)) pss_never pss_nil))) pss_nil))))))))
      (pss_one (ps_ret (pv 2))))),?_⟩
    intro cb dx hx hd ncd
    have s1:Same H (upd H dx (.own cb)):=same_new hd _
    have hx1:upd H dx (.own cb) cb = none:=by rw [upd_ne (fun z=>ncd z.symm)]; exact hx
    have s2:Same H (upd (upd H dx (.own cb)) cb (.ins C dx [])):=s1.trans (same_new hx1 _)
    have nb:∀ x,upd (upd H dx (.own cb)) cb (.ins C dx []) x = none→H x = none:=fun x e=>by
      cases z:H x with
      | none=>rfl
      | some o=>rw [s2 _ _ z] at e; cases e
    refine ⟨cb,dx,rfl,upd_same,fun sl ll H1 k1 hsl hll hC=>⟨rfl,?_⟩⟩
    have S1:Same H H1:=fun b o e=>k1 _ _ (fun z=>by rw [z,hx] at e; cases e) (s2 _ _ e)
    have hcl:=hC
    obtain ⟨dx',_,_,_,_⟩:=hcl
    have dk1:DeckAt H1 k c:=dk.keep fun o e=>S1 _ _ e
    refine ⟨_,rfl,_,rfl,k,p,c,us,rfl,dk1,by omega,npk,S1 _ _ hp,by have:=paired_len hps; omega,fun l ys c' H2 k2 d2 e2 hl0 hl pm=>?_⟩
    have lu:=paired_len hps
    have ly:=pm.length_eq
    obtain ⟨qs,hqs,pq⟩:=pcs_perm pm hps
    have lq:=paired_len hqs
    have nkc:k≠cb:=dk.ne hx
    have nks:k≠sl:=dk.ne (nb _ hsl)
    have nkl:k≠ll:=dk.ne (nb _ hll)
    obtain ⟨dxc,vsc,wsc,cc1,cc2,cc3,cc4,cc5,cc6,cc7,cc8⟩:=id hC
    have F2:Fm k l cb H H2 ys c' sl ll:=⟨fun b o n e=>k2 _ _ n (S1 _ _ e),d2,hx,nb _ hsl,nb _ hll,(fun z=>by rw [z,cc1] at hl0; cases hl0),(fun z=>by rw [z,cc5] at hl0; cases hl0),(fun z=>by rw [z,cc6] at hl0; cases hl0),hl,(dk1.ne hl0).symm⟩
    have hC2:ClubG C H2 cb sl ll ([] ++ [([],0)]) 0:=hC.keep dk1 k2 nkc nks nkl
    refine ⟨l,rfl,⟨_,SqL.of hl⟩,for_list (K:=K) (a:=l) (xs:=ys) (fun i σ' H'=>∃ (v4 v5:Option V) (c2:Int) (sl ll:Addr) (rows:Rows) (n:Nat) (sts:List (Rows × Nat)) (lf:Nat),σ' = [some (.ref k),some (.ref p),some (.ref cb),some (.int n),v4,v5]∧Fm k l cb H H' ys c2 sl ll∧c2≤c' + i∧ClubG C H' cb sl ll (sts ++ [(rows,n)]) lf∧rows.map (·.2) = qs.take i∧(rows.map (·.1)).Nodup∧(∀ x∈rows,x.1 < n)∧n≤2 * i∧sts.length≤3 * i)
      ⟨_,_,c',sl,ll,[],0,[],0,rfl,F2,by omega,hC2,rfl,by simp,(fun x hx=>by cases hx),by omega,by simp⟩ (fun i σ' H' _ h=>by obtain ⟨_,_,_,_,_,_,_,_,_,_,h,_⟩:=h; exact SqL.of h.hl) ?_ ?_⟩
    · rintro i y σ' H3 hi ⟨v4,v5,c3,sl,ll,rows,n,sts,lf,rfl,f3,hc3,hC3,er,nd,lt,n2,s3⟩
      have hiy:i < ys.length:=(List.getElem?_eq_some_iff.mp hi).1
      have hiq:i < qs.length:=by omega
      obtain ⟨_,ey,r,rfl,hP⟩:=paired_get hqs i hiq
      rw [ey] at hi
      cases hi
      have okq:=hok qs[i] (pq.mem_iff.mp (List.getElem_mem hiq))
      have lr:rows.length = i:=by have:=congrArg List.length er; rw [List.length_map,List.length_take] at this; omega
      have hP3:∀ {c4:Int} {s4 l4:Addr} {H4:Hp},Fm k l cb H H4 ys c4 s4 l4→PcAt H4 r qs[i]:=fun g=>hP.up fun b xs e=>g.tk dk b xs e
      obtain ⟨dx3,_,_,c31,_⟩:=id hC3
      refine ⟨_,rfl,cb,dx3,_,rfl,c31,rfl,_,rfl,cb,sl,ll,r,qs[i],n,rows,sts,lf,rfl,hC3,by omega,by omega,by omega,hP3 f3,okq.1,okq.2,fun ll4 H4 k4 e4 hC4=>?_⟩
      have f4:=f3.enter dk k4 e4
      refine ⟨_,rfl,rfl,_,rfl,ite_no (by simp) ?_⟩
      refine ⟨_,rfl,_,_,rfl,rfl,?_⟩
      refine ⟨_,rfl,k,c3,5,rfl,f4.dk,by omega,by omega,by omega,fun w c5 H5 k5 d5 e5 g0 g5=>?_⟩
      have f5:=f4.pick k5 d5
      have hC5:=hC4.keep f4.dk k5 (dk.ne f4.cb0) (dk.ne f4.sl0) (dk.ne f4.ll0)
      have nn:∀ m:Nat,n≤m→((rows ++ [(m,qs[i])]).map (·.1)).Nodup:=fun m hm=>by
        rw [List.map_append]
        exact nodup_snoc' nd fun z=>by
          obtain ⟨x,hx,e⟩:=List.mem_map.mp z
          have:=lt x hx
          dsimp only at e
          omega
      have fin:∀ m:Nat,(rows ++ [(m,qs[i])]).map (·.2) = qs.take (i + 1):=fun m=>by rw [List.map_append,er,take_get hiq]; rfl
      have ltn:∀ m m':Nat,n≤m→m < m'→∀ x∈rows ++ [(m,qs[i])],x.1 < m':=fun m m' h1 h2 x hx=>by
        rcases List.mem_append.mp hx with h | h
        · have:=lt x h; omega
        · rw [List.mem_singleton.mp h]; exact h2
      have cn:((n:Int) + 1) = ((n + 1:Nat):Int):=by omega
      refine ⟨_,rfl,rfl,_,rfl,?_⟩
      obtain ⟨dx5,_,_,c51,_⟩:=id hC5
      by_cases w0:w = 0
      · subst w0
        refine ite_yes (by simp) ?_
        refine ⟨_,rfl,cb,dx5,_,rfl,c51,rfl,_,rfl,_,_,rfl,rfl,cb,sl,ll4,n,n + 1,rows ++ [(n,qs[i])],sts ++ [(rows,n)],0,(show [V.ref cb,V.int ((n:Int) + 1 - 1)] = [.ref cb,.int (n:Int)] by rw [show ((n:Int) + 1 - 1) = (n:Int) by omega]),hC5,by rw [List.length_append,List.length_singleton]; omega,by rw [List.length_append,List.length_singleton]; omega,by simp,fun ll6 H6 k6 e6 hC6=>?_⟩
        have f6:=f5.enter dk k6 e6
        have ef:((rows ++ [(n,qs[i])]).filter fun x=>!decide (x.1 = n)) = rows:=by
          rw [flt_any,if_neg (by simp)]
          exact List.filter_eq_self.mpr fun x hx=>by have:=lt x hx; simp; omega
        rw [ef] at hC6
        obtain ⟨dx6,_,_,c61,_⟩:=id hC6
        refine ⟨_,rfl,cb,dx6,_,rfl,c61,rfl,_,rfl,cb,sl,ll6,r,qs[i],n + 1,rows,_,0,rfl,hC6,by simp only [List.length_append,List.length_singleton]; omega,by omega,by omega,hP3 f6,okq.1,okq.2,fun ll7 H7 k7 e7 hC7=>?_⟩
        have f7:=f6.enter dk k7 e7
        refine ⟨_,rfl,rfl,_,rfl,ite_no (by show ¬ (!decide (V.int ((n + 1:Nat):Int) = V.int ((n:Int) + 1))) = true; rw [cn]; simp) ?_⟩
        refine ⟨_,rfl,_,_,rfl,rfl,?_⟩
        exact ⟨_,_,c5,sl,ll7,_,n + 1 + 1,_,0,by rw [show ((n + 1 + 1:Nat):Int) = (n:Int) + 1 + 1 by omega]; rfl,f7,by omega,hC7,fin (n + 1),nn (n + 1) (by omega),ltn (n + 1) (n + 1 + 1) (by omega) (by omega),by omega,by simp only [List.length_append,List.length_singleton]; omega⟩
      · refine ite_no (by simp [w0]) ?_
        refine ⟨_,rfl,rfl,_,rfl,?_⟩
        by_cases w1:w = 1
        · subst w1
          refine ite_yes (by simp) ?_
          refine ⟨_,rfl,cb,dx5,_,rfl,c51,rfl,cb,sl,ll4,(rows,n),_,sts,0,rfl,hC5,by omega,by omega,fun H6 k6 hC6=>?_⟩
          have f6:=f5.back dk k6
          obtain ⟨dx6,_,_,c61,_⟩:=id hC6
          refine ⟨_,rfl,cb,dx6,_,rfl,c61,rfl,_,rfl,cb,sl,ll4,r,qs[i],n,rows,sts,1,rfl,hC6,by omega,by omega,by omega,hP3 f6,okq.1,okq.2,fun ll7 H7 k7 e7 hC7=>?_⟩
          have f7:=f6.enter dk k7 e7
          refine ⟨_,rfl,_,_,rfl,rfl,rfl,_,rfl,ite_no (by show ¬ (!decide (V.int (n:Int) = V.int ((n:Int) + 1 - 1))) = true; rw [show ((n:Int) + 1 - 1) = (n:Int) by omega]; simp) ?_⟩
          exact ⟨_,_,c5,sl,ll7,_,n + 1,_,0,by rw [← cn]; rfl,f7,by omega,hC7,fin n,nn n (Nat.le_refl _),ltn n (n + 1) (Nat.le_refl _) (by omega),by omega,by rw [List.length_append,List.length_singleton]; omega⟩
        · refine ite_no (by simp [w1]) ?_
          exact ⟨_,_,c5,sl,ll4,_,n + 1,_,0,by rw [← cn]; rfl,f5,by omega,hC5,fin n,nn n (Nat.le_refl _),ltn n (n + 1) (Nat.le_refl _) (by omega),by omega,by rw [List.length_append,List.length_singleton]; omega⟩
    · rintro σ' H3 ⟨v4,v5,c3,sl,ll,rows,n,sts,lf,rfl,f3,hc3,hC3,er,nd,lt,n2,s3⟩
      have et:qs.take ys.length = qs:=List.take_of_length_le (by omega)
      rw [et] at er
      exact ⟨_,rfl,hQ cb sl ll rows n sts lf c3 H3 f3.kp f3.dk (by omega) f3.cb0 f3.sl0 f3.ll0 hC3 ⟨by rw [er]; exact pq,nd,lt⟩ (by omega) (by omega)⟩
end
end K27
namespace K27
open PySem L2 HT PySem.W
theorem BlkOk.two {X:Cx} {scope:Scope} {nm:List (Str × NameKind)} {v fr fs:Str} {j k:Nat} (hN:X.N[j]? = some fr) (hM:X.N[k]? = some fs) (hk:scope.kind = .function) (hn:scope.names = nm) (h1:X.env.scope.names.lookup fr = some .cell) (h2:X.env.scope.names.lookup fs = some .cell) (c1:∀ y∈nm,y.2≠.cell)
    (c2:∀ y∈nm,y.2 = .local→nm.lookup y.1 = some .local) (c3:∀ y∈nm,y.2 = .free→y.1 = fr∨y.1 = fs) (c4:(fr,NameKind.free)∈nm) (c5:nm.lookup fr = some .free) (c6:(fs,NameKind.free)∈nm) (c7:nm.lookup fs = some .free):BlkOk X scope [v,fr,fs] [none,some j,some k] where
  kind:=hk
  nocell:=by rw [hn]; exact c1
  own:=by rw [hn]; exact c2
  out:=by
    rw [hn]
    intro y hy e
    rcases c3 y hy e with z | z
    · rw [z]; exact .inl h1
    · rw [z]; exact .inl h2
  len:=rfl
  free:=by
    intro i j' x e1 e2
    rw [hn]
    match i,e1,e2 with
    | 1,e1,e2=>cases e1; cases e2; exact ⟨hN,c4,c5⟩
    | 2,e1,e2=>cases e1; cases e2; exact ⟨hM,c6,c7⟩
    | n + 3,e1,e2=>simp at e1
section
variable {P:Program} {w:World} {K:PySem.W.Frag} {mg:Str→Option Value} {base:Heap}
abbrev sTold:Stmt:=top 41
theorem scTold:FnScope ["club","names","verdicts","k","one"] ["club"] (defScope sTold):=⟨rfl,rfl,rfl,by decide +kernel,rfl,by decide +kernel,by decide +kernel⟩
def nmTo:List (Str × NameKind):=[(".0",.local),("other",.local),("club",.free),("one",.free)]
theorem ndTo:(["other","club","one"]:List Str).Nodup:=by decide +kernel
theorem ndRo:(["row"]:List Str).Nodup:=by decide +kernel
def six:List Str:=["ann","bo","cy","di","ed","fay"]
def prs:Nat→List (Str × Str)
  | 0=>[]
  | k + 1=>prs k ++ (six.take k).map fun o=>(six.getD k "",o)
abbrev VerL (rows:Rows):List Str→List (Str × Str)→Prop:=Paired fun r pr=>K27V.Ver (absOf rows) pr.1 pr.2 r
abbrev TrL (H:Hp):List V→List Tr4→Prop:=Paired fun u t=>∃ q,u = .ref q∧TrAt H q t
def spTold (C:Addr):Sp:=fun vs H Q _=>∃ (cb sl ll:Addr) (rows:Rows) (n:Nat) (sts:List (Rows × Nat)) (lf:Nat),vs = [.ref cb]∧ClubG C H cb sl ll (sts ++ [(rows,n)]) lf∧(∀ x∈rows,PcOk x.2∧Crews x.2)∧rows.length≤30∧(trsOf rows).length < 64 ∧
  ∀ t a b us ts vs' H',Same H H'→H a = none→H b = none→H' t = some (.tup [.ref a,.ref b])→H' a = some (.lst us)→TrL H' us ts→ts.Perm (trsOf rows)→ts.Pairwise (fun e e'=>trLt e' e = false)→H' b = some (.lst ((vs':List Str).map V.str))→VerL rows vs' (prs 6)→Q (.ref t) H'
theorem row_comp {H1:Hp} {L a:Addr} {ws:List V} {rs:List Row3} {Q:VK} (hL:H1 L = none) (h:H1 a = some (.lst ws)) (pr:Paired (Rw3At H1) ws rs) (hl:rs.length≤1000) (q:∀ us J,Same H1 J→J L = some (.lst us)→TrL J us (rs.map (·.2.2))→Q (.ref L) J) :
    LCok (Itl K a) (gName 0) tYes (tOp (rIxT K) (tVar 0) (tC (.int 2))) [none] H1 Q L:=by
  have lw:=paired_len pr
  obtain ⟨us,e1,e2,e3⟩:=rows_trs pr
  refine lc_map (n:=ws.length) (f:=fun i=>ws.getD i .non) (fun j ys σ' J=>(∃ v,σ' = [v])∧Same H1 J∧ys = us.take j) hL (by omega) ⟨⟨_,rfl⟩,K27V.same_upd (Same.refl _) hL,rfl⟩ (fun j ys σ' J hj hy ⟨_,sj,_⟩=>itl_list (K:=K) (SqL.of (sj _ _ h)) j hj) ?_ ?_
  · rintro j ys σ' J hj hy ⟨⟨v,rfl⟩,sj,rfl⟩
    obtain ⟨b,x,y,q,z1,z2,z3⟩:=e3 j hj
    rw [getD_some z1]
    have hju:j < us.length:=by omega
    refine ⟨_,rfl,b,_,2,_,rfl,rfl,SqT.of (sj _ _ z2),atI_nat (j:=2) rfl,hy,⟨_,rfl⟩,K27V.same_upd sj hL,?_⟩
    rw [take_get hju]
    congr 1
    rw [List.getElem?_eq_getElem hju] at z3
    rw [Option.some.inj z3]
  · rintro ys σ' J hy ⟨_,sj,rfl⟩
    rw [← e1,List.take_length] at hy
    exact q us J sj hy (Paired.mono e2 fun _ _ ⟨p,q,e,h1,h2⟩=>⟨p,e,q,sj _ _ h1,sj _ _ h2⟩)
theorem vd_comp {C:Addr} {H1:Hp} {L a cb sl ll:Addr} {os:List Str} {one:Str} {rows:Rows} {n:Nat} {sts:List (Rows × Nat)} {lf:Nat} {Q:VK} (hL:H1 L = none) (h:H1 a = some (.lst (os.map V.str))) (lo:os.length≤100) (hC:ClubG C H1 cb sl ll (sts ++ [(rows,n)]) lf) (hok:∀ x∈rows,PcOk x.2∧Crews x.2) (l30:rows.length≤30)
    (q:∀ (rs:List Str) J,Same H1 J→J L = some (.lst (rs.map V.str))→VerL rows rs (os.map fun o=>(one,o))→Q (.ref L) J) :
    LCok (Itl K a) (gName 0) tYes (tMeth C "verdict" (spVd C) [] E0 (tVar 1) (tCons (tVar 2) (tCons (tVar 0) tNil))) [none,some (.ref cb),some (.str one)] H1 Q L:=by
  refine lc_map (n:=(os.map V.str).length) (f:=fun i=>(os.map V.str).getD i .non) (fun j ys σ' J=>(∃ v,σ' = [v,some (.ref cb),some (.str one)])∧Same H1 J∧∃ rs:List Str,ys = rs.map V.str∧VerL rows rs ((os.take j).map fun o=>(one,o))) hL (by rw [List.length_map]; omega) ⟨⟨_,rfl⟩,K27V.same_upd (Same.refl _) hL,[],rfl,.nil⟩ (fun j ys σ' J hj hy ⟨_,sj,_⟩=>itl_list (K:=K) (SqL.of (sj _ _ h)) j hj) ?_ ?_
  · rintro j ys σ' J hj hy ⟨⟨v,rfl⟩,sj,rs,rfl,pr⟩
    have hjo:j < os.length:=by simpa using hj
    rw [strs_get hjo]
    obtain ⟨dx,_,_,c1,_⟩:=id hC
    refine ⟨_,rfl,cb,dx,_,rfl,sj _ _ c1,rfl,_,rfl,_,rfl,cb,sl,ll,rows,n,sts,lf,one,os[j],rfl,hC.same sj,hok,l30,fun r J2 s2 V=>?_⟩
    refine ⟨s2 _ _ hy,⟨_,rfl⟩,K27V.same_upd (sj.trans s2) hL,rs ++ [r],by rw [List.map_append]; rfl,?_⟩
    rw [take_get hjo,List.map_append]
    exact Paired.snoc pr V
  · rintro ys σ' J hy ⟨_,sj,rs,rfl,pr⟩
    rw [List.length_map,List.take_length] at pr
    exact q rs J sj hy pr
end
end K27
namespace K27
open PySem L2 HT PySem.W
section
variable {P:Program} {w:World} {K:PySem.W.Frag} {mg:Str→Option Value} {base:Heap}
theorem trl_es {H:Hp}:∀ {us:List V} {ts:List Tr4},TrL H us ts→∃ L:List (TupE (Str × Str × Int × Int)),us = L.map (fun e=>V.ref e.a)∧ts = L.map (·.key)∧∀ e∈L,TrE H e
  | _,_,.nil=>⟨[],rfl,rfl,fun e he=>by cases he⟩
  | _,_,.cons ⟨q,e,l,h1,h2⟩ t=>by
    subst e
    obtain ⟨L,e1,e2,e3⟩:=trl_es t
    rename_i t0 _ _
    refine ⟨⟨q,t0.1,[.str t0.2.1,.ref l],t0⟩ :: L,by rw [List.map_cons,e1],by rw [List.map_cons,e2],fun e he=>?_⟩
    rcases List.mem_cons.mp he with rfl | he
    · exact ⟨rfl,l,rfl,h1,h2⟩
    · exact e3 e he
theorem es_trl {H:Hp}:∀ {L:List (TupE (Str × Str × Int × Int))},(∀ e∈L,TrE H e)→TrL H (L.map fun e=>V.ref e.a) (L.map (·.key))
  | [],_=>.nil
  | e :: L,h=>by
    obtain ⟨_,l,_,h1,h2⟩:=h e (by simp)
    exact .cons ⟨e.a,rfl,l,h1,h2⟩ (es_trl fun e he=>h e (List.mem_cons_of_mem _ he))
theorem TrL.up {H H':Hp} {us:List V} {ts:List Tr4} (h:TrL H us ts) (s:∀ b xs,H b = some (.tup xs)→H' b = some (.tup xs)):TrL H' us ts:=Paired.mono h fun _ _ ⟨q,e,z⟩=>⟨q,e,z.up s⟩
theorem TrE.up {H H':Hp} {e:TupE (Str × Str × Int × Int)} (h:TrE H e) (s:∀ b xs,H b = some (.tup xs)→H' b = some (.tup xs)):TrE H' e:=by
  obtain ⟨h0,l,h1,h2,h3⟩:=h
  exact ⟨h0,l,h1,s _ _ h2,s _ _ h3⟩
theorem paired_app {α β:Type} {R:α→β→Prop}:∀ {as as':List α} {bs bs':List β},Paired R as bs→Paired R as' bs'→Paired R (as ++ as') (bs ++ bs')
  | _,_,_,_,.nil,h=>h
  | _,_,_,_,.cons h t,h'=>.cons h (paired_app t h')
theorem none_same {H H':Hp} {x:Addr} (s:Same H H') (e:H' x = none):H x = none:=by
  cases z:H x with
  | none=>rfl
  | some o=>rw [s _ _ z] at e; cases e
theorem ok_told {f:Addr} {fd:FuncData} {C:Addr} (F:Fun K "_law_told" "_law_told" sTold f fd) (T:Txt mg) (DT:DfM P w K mg base 5 C "trials" ["self"] (spTrs C)) (DV:DfM P w K mg base 6 C "verdict" ["self","one","other"] (spVd C)):FnOk P w K mg base CX0 7 f fd ["club"] (spTold C):=by
  refine F.ok scTold (fun vs H Q E h=>?_) (fun cdv A outer s H vs Q E hr h=>?_)
  · obtain ⟨cb,sl,ll,rows,n,sts,lf,rfl,_⟩:=h
    rfl
  · obtain ⟨cb,sl,ll,rows,n,sts,lf,rfl,hC,hok,l30,l64,hQ⟩:=h
    have hr5:=hr.mono (j:=5) (by decide)
    refine ⟨_,pss_cons (ps_set (i:=1) scTold.nd rfl (Or.inl rfl) (pe_lst (pa_texts (vs:=six.map V.str) (.cons ⟨_,_,_,rfl,rfl⟩ (.cons ⟨_,_,_,rfl,rfl⟩ (.cons ⟨_,_,_,rfl,rfl⟩ (.cons ⟨_,_,_,rfl,rfl⟩ (.cons ⟨_,_,_,rfl,rfl⟩ (.cons ⟨_,_,_,rfl,rfl⟩ .nil)))))))))
      (pss_cons (ps_set (i:=2) scTold.nd rfl (Or.inl rfl) (pe_lst pa_nil))
      (pss_cons (ps_for PassesOwn.never rfl (pi_enumL rfl T.enum (pa_cons (pv 1) pa_nil)) (pg_tup rfl (pgs_cons (pg_name (i:=3) scTold.nd rfl (Or.inl rfl)) (pgs_cons (pg_name (i:=4) scTold.nd rfl (Or.inr rfl)) pgs_nil)))
        (pss_one (ps_set (i:=2) scTold.nd rfl (Or.inl rfl) (pe_op op_cat (pv 2) (pe_lc (N:=["other","club","one"]) (g:=gName 0) (tc:=tYes) (te:=tMeth C "verdict" (spVd C) [] E0 (tVar 1) (tCons (tVar 2) (tCons (tVar 0) tNil))) rfl (pi_list (pe_slice sl_list (pv 1) po_none (po_some (pv 3))))
          (BlkOk.two (v:="other") (fr:="club") (fs:="one") (j:=0) (k:=4) (nm:=nmTo) rfl rfl rfl rfl rfl rfl (by decide +kernel) (by decide +kernel) (by decide +kernel) (by decide +kernel) (by decide +kernel) (by decide +kernel) (by decide +kernel))
          (fun _ _ _=>pg_name (i:=0) ndTo rfl (Or.inl rfl)) (fun _ _ _=>pts_nil) (fun _ _ _=>pe_dm DV hr (pv 1) (pa_cons (pv 2) (pa_cons (pv 0) pa_nil))))))))
      (pss_one (ps_ret (pe_tup (pa_cons (pe_callB (call_sortedTr hr.units) rfl T.sorted boot_sortedE (pa_cons (pe_lc (N:=["row"]) (g:=gName 0) (tc:=tYes) (te:=tOp (rIxT K) (tVar 0) (tC (.int 2))) rfl (pi_list (pe_dm0 DT hr5 (pv 0))) (BlkOk.closed rfl (by decide +kernel) (by decide +kernel) (by decide +kernel))
        (fun _ _ _=>pg_name (i:=0) ndRo rfl (Or.inl rfl)) (fun _ _ _=>pts_nil) (fun _ _ _=>pe_ix ix_tup (pv 0) pe_int (fun _ _=>rfl))) pa_nil)) (pa_cons (pv 2) pa_nil))))))),?_⟩
    obtain ⟨dx,vs0,ws0,c1,_⟩:=id hC
    refine ⟨by show 6≤sizeLine; decide,fun nm hnm=>?_⟩
    have s1:=same_new hnm (.lst (six.map V.str))
    have w1:upd H nm (.lst (six.map V.str)) nm = some (.lst (six.map V.str)):=upd_same
    try dsimp only
    generalize upd H nm (.lst (six.map V.str)) = M1 at *
    refine ⟨by show 0≤sizeLine; decide,fun vl hvl=>?_⟩
    have s2:=same_new hvl (.lst [])
    have w2:upd M1 vl (.lst []) vl = some (.lst []):=upd_same
    have w12:=s2 _ _ w1
    try dsimp only
    generalize upd M1 vl (.lst []) = M2 at *
    have s02:=s1.trans s2
    refine ⟨_,rfl,nm,rfl,⟨_,SqL.of w12⟩,for_enumL (K:=K) (a:=nm) (xs:=six.map V.str) (fun i σ' H'=>∃ (v3 v4:Option V) (vl:Addr) (rs:List Str),σ' = [some (.ref cb),some (.ref nm),some (.ref vl),v3,v4]∧Same M2 H'∧H' vl = some (.lst (rs.map V.str))∧VerL rows rs (prs i)∧rs.length≤6 * i∧H vl = none)
      ⟨_,_,vl,[],rfl,Same.refl _,w2,.nil,by simp,none_same s1 hvl⟩ (fun i σ' H' _ h=>by obtain ⟨_,_,_,_,_,sm,_⟩:=h; exact SqL.of (sm _ _ w12)) ?_ ?_⟩
    · rintro i x σ' H3 T hx ⟨v3,v4,vl,rs,rfl,s3,hv,vr,lr,vn⟩ hT
      have hi:i < six.length:=by
        have:=(List.getElem?_eq_some_iff.mp hx).1
        rwa [List.length_map] at this
      have hi6:i < 6:=hi
      have ex:x = .str (six.getD i ""):=by
        rw [List.getElem?_map,List.getElem?_eq_getElem hi] at hx
        rw [List.getD_eq_getElem?_getD,List.getElem?_eq_getElem hi]
        exact (Option.some.inj hx).symm
      subst ex
      have sT:=same_new hT (.tup [.int i,.str (six.getD i "")])
      have wT:upd H3 T (.tup [.int i,.str (six.getD i "")]) T = some (.tup [.int i,.str (six.getD i "")]):=upd_same
      try dsimp only
      generalize upd H3 T (.tup [.int i,.str (six.getD i "")]) = M3 at *
      have s23:=s3.trans sT
      refine ⟨T,_,rfl,SqT.of wT,rfl,_,_,rfl,_,_,rfl,rfl,?_⟩
      refine ⟨_,rfl,_,rfl,_,rfl,_,rfl,nm,_,rfl,SqL.of (s23 _ _ w12),fun q hq=>?_⟩
      have cut:cutV (six.map V.str) none (some (i:Int)) = (six.take i).map V.str:=by
        unfold cutV
        rw [HT.sIx_nat,HT.sIx_none,List.drop_zero,Nat.sub_zero,List.length_map,Nat.min_eq_left (Nat.le_of_lt hi),List.map_take]
      rw [cut]
      have sq:=same_new hq (.lst ((six.take i).map V.str))
      have wq:upd M3 q (.lst ((six.take i).map V.str)) q = some (.lst ((six.take i).map V.str)):=upd_same
      try dsimp only
      generalize upd M3 q (.lst ((six.take i).map V.str)) = M4 at *
      refine ⟨q,rfl,⟨_,SqL.of wq⟩,fun L hL=>?_⟩
      refine vd_comp hL wq (by rw [List.length_take]; omega) (hC.same (s02.trans (s23.trans sq))) hok l30 fun r2 J sJ hJ vr2=>?_
      have l2:=paired_len vr2
      rw [List.length_map,List.length_take] at l2
      refine ⟨vl,L,_,_,rfl,rfl,sJ _ _ (sq _ _ (sT _ _ hv)),hJ,Nat.le_of_lt (small1000 (by rw [List.length_map,List.length_map]; omega)),fun c hc=>?_⟩
      refine ⟨_,_,c,rs ++ r2,rfl,(s23.trans sq).trans (sJ.trans (same_new hc _)),by rw [List.map_append]; exact upd_same,paired_app vr vr2,by rw [List.length_append]; omega,none_same (s02.trans ((s23.trans sq).trans sJ)) hc⟩
    · rintro σ' H3 ⟨v3,v4,vl,rs,rfl,s3,hv,vr,lr,vn⟩
      have s03:=s02.trans s3
      refine ⟨_,rfl,cb,dx,_,rfl,s03 _ _ c1,rfl,cb,sl,ll,rows,n,sts,lf,rfl,hC.same s03,hok,l30,fun l ws H4 s4 hl pr=>?_⟩
      have la:(alG rows).length < 64:=by unfold trsOf at l64; rwa [List.length_map] at l64
      refine ⟨l,rfl,⟨_,SqL.of hl⟩,fun L hL=>?_⟩
      refine row_comp hL hl pr (by omega) fun us J sJ hJ tJ=>?_
      obtain ⟨LL,e1,e2,e3⟩:=trl_es tJ
      subst e1
      have lL:LL.length < 64:=by have:=congrArg List.length e2; rw [List.length_map,List.length_map] at this; omega
      refine ⟨L,LL,rfl,SqL.of hJ,lL,e3,fun l2 L' hl2 pm so=>?_⟩
      have s5:=same_new hl2 (.lst (L'.map fun e=>V.ref e.a))
      have w5:upd J l2 (.lst (L'.map fun e=>V.ref e.a)) l2 = some (.lst (L'.map fun e=>V.ref e.a)):=upd_same
      try dsimp only
      generalize upd J l2 (.lst (L'.map fun e=>V.ref e.a)) = J2 at *
      refine ⟨_,rfl,by show 2≤sizeLine; decide,fun t ht=>?_⟩
      have s6:=same_new ht (.tup [.ref l2,.ref vl])
      have s36:=(s4.trans sJ).trans (s5.trans s6)
      refine hQ t l2 vl (L'.map fun e=>V.ref e.a) (L'.map (·.key)) rs _ (s03.trans s36) (none_same ((s03.trans s4).trans sJ) hl2) vn upd_same (s6 _ _ w5) (es_trl fun e he=>K27.TrE.up (e3 e (pm.mem_iff.mp he)) fun b xs z=>(s5.trans s6) _ _ z) ?_ ?_ (s36 _ _ hv) vr
      · unfold trsOf; rw [e2]; exact pm.map _
      · exact List.pairwise_map.mpr so
end
end K27
namespace K27
open PySem L2 HT PySem.W
def trD (r:Tr4):PyData:=.tuple [.str r.1,.str r.2.1,.tuple [.int r.2.2.1,.int r.2.2.2]]
theorem eqv_tr (r:Tr4):PyData.eqv (trD r) (trD r) = true:=by
  unfold trD
  simp [PyData.eqv,PyData.eqvAll]
def TrOk (r:Tr4):Prop:=okN r.1∧okN r.2.1∧r.2.2.1.natAbs < 2 ^ 200∧r.2.2.2.natAbs < 2 ^ 200
theorem bd_tr {r:Tr4} (h:TrOk r):Bd 10 2 (trD r):=by
  obtain ⟨h1,h2,h3,h4⟩:=h
  have b1:Bd 3 1 (.tuple [.int r.2.2.1,.int r.2.2.2]):=by
    refine (Bd.tuple (n:=1) (p:=0) (m:=2) (ds:=[.int r.2.2.1,.int r.2.2.2]) (fun x hx=>?_) (Nat.le_refl 2)).mono (by decide) (by decide)
    simp only [List.mem_cons,List.not_mem_nil,or_false] at hx
    rcases hx with rfl | rfl
    · exact bd_int h3
    · exact bd_int h4
  refine (Bd.tuple (n:=3) (p:=1) (m:=3) (ds:=[.str r.1,.str r.2.1,.tuple [.int r.2.2.1,.int r.2.2.2]]) (fun x hx=>?_) (Nat.le_refl 3)).mono (by decide) (by decide)
  simp only [List.mem_cons,List.not_mem_nil,or_false] at hx
  rcases hx with rfl | rfl | rfl
  · exact (bd_str h1.1 h1.2.1).mono (by decide) (by decide)
  · exact (bd_str h2.1 h2.2.1).mono (by decide) (by decide)
  · exact b1
theorem tr_ok {p q:Pce} {m y:Str} (o1:PcOk p) (o2:PcOk q) (x:Xp p q m y):TrOk (trOf p q m y):=by
  have okm:=o1.a.ok m x.hm
  have oky:=o1.b.ok y x.hy
  have i1:=o1.c1; have i2:=o1.c9; have i3:=o2.c1; have i4:=o2.c9
  have i5:=o1.t1; have i6:=o1.t9; have i7:=o1.o1; have i8:=o1.o9
  have j5:=o2.t1; have j6:=o2.t9; have j7:=o2.o1; have j8:=o2.o9
  have m1:((p.o - p.t) * q.c).natAbs < 2 ^ 70:=mul_abs (a:=35) (b:=35) (by omega) (by omega)
  have m2:((q.o - q.t) * p.c).natAbs < 2 ^ 70:=mul_abs (a:=35) (b:=35) (by omega) (by omega)
  have m3:(p.c * q.c).natAbs < 2 ^ 70:=mul_abs (a:=35) (b:=35) (by omega) (by omega)
  have ld:(dif p q).natAbs < 2 ^ 80:=by unfold dif; omega
  have ft:∀ d:Int,d.natAbs < 2 ^ 80→(frTop d (p.c * q.c)).natAbs < 2 ^ 200:=fun d hd=>by have:=frTop_le (t:=d) (b:=p.c * q.c); omega
  have fb:∀ d:Int,(frBot d (p.c * q.c)).natAbs < 2 ^ 200:=fun d=>by have:=frBot_le (t:=d) (b:=p.c * q.c); omega
  unfold trOf
  dsimp only
  split
  · exact ⟨okm,oky,ft _ ld,fb _⟩
  · split
    · exact ⟨oky,okm,ft _ (by omega),fb _⟩
    · refine ⟨?_,?_,(show (0:Int).natAbs < 2 ^ 200 by decide),(show (1:Int).natAbs < 2 ^ 200 by decide)⟩
      · show okN (if ltStr y m = true then y else m)
        split
        · exact oky
        · exact okm
      · show okN (if ltStr y m = true then m else y)
        split
        · exact okm
        · exact oky
def rwD (r:Row3):PyData:=.tuple [.int r.1,.int r.2.1,trD r.2.2]
theorem far_of {k0 a k:Nat} (h:Nat.add (Nat.add k0 a) 1≤k):k0≤k∧a≠k:=by
  have h:k0 + a + 1≤k:=h
  exact ⟨by omega,by omega⟩
theorem far_of2 {t l k:Nat} (h:Nat.add (Nat.add t l) 1≤k):t≠k∧l≠k:=by
  have h:t + l + 1≤k:=h
  exact ⟨by omega,by omega⟩
theorem tr_far {H:Hp} {t:Addr} {r:Tr4} (h:TrAt H t r):∃ k0:Nat,∀ k:Nat,k0≤k→Tells H k (trD r) (.ref t):=by
  obtain ⟨l,h2,h3⟩:=h
  refine ⟨Nat.add (Nat.add t l) 1,fun k hk=>?_⟩
  exact tells_tuple.mpr ⟨t,_,rfl,(far_of2 hk).1,h2,tellsAll_cons.mpr ⟨_,_,rfl,tells_str.mpr rfl,tellsAll_cons.mpr ⟨_,_,rfl,tells_str.mpr rfl,tellsAll_cons.mpr ⟨_,_,rfl,
      tells_tuple.mpr ⟨l,_,rfl,(far_of2 hk).2,h3,tellsAll_cons.mpr ⟨_,_,rfl,tells_int.mpr rfl,tellsAll_cons.mpr ⟨_,_,rfl,tells_int.mpr rfl,tellsAll_nil.mpr rfl⟩⟩⟩,tellsAll_nil.mpr rfl⟩⟩⟩⟩
theorem rw_far {H:Hp} {v:V} {r:Row3} (h:Rw3At H v r):∃ k0:Nat,∀ k:Nat,k0≤k→Tells H k (rwD r) v:=by
  obtain ⟨a,q,rfl,h1,h2⟩:=h
  obtain ⟨k0,t⟩:=tr_far h2
  exact ⟨Nat.add (Nat.add k0 a) 1,fun k hk=>tells_tuple.mpr ⟨a,_,rfl,(far_of (k0:=k0) hk).2,h1,tellsAll_cons.mpr ⟨_,_,rfl,tells_int.mpr rfl,tellsAll_cons.mpr ⟨_,_,rfl,tells_int.mpr rfl,tellsAll_cons.mpr ⟨_,_,rfl,t k (far_of (k0:=k0) (a:=a) hk).1,tellsAll_nil.mpr rfl⟩⟩⟩⟩⟩
theorem rws_far {H:Hp}:∀ {ws:List V} {L:List Row3},Paired (Rw3At H) ws L→∃ k0:Nat,∀ k:Nat,k0≤k→TellsAll H k (L.map rwD) ws
  | _,_,.nil=>⟨0,fun k _=>tellsAll_nil.mpr rfl⟩
  | _,_,.cons h t=>by
    obtain ⟨k1,t1⟩:=rw_far h
    obtain ⟨k2,t2⟩:=rws_far t
    exact ⟨k1 + k2,fun k hk=>tellsAll_cons.mpr ⟨_,_,rfl,t1 k (by omega),t2 k (by omega)⟩⟩
theorem rws_tells {H:Hp} {a:Addr} {ws:List V} {L:List Row3} (h:H a = some (.lst ws)) (p:Paired (Rw3At H) ws L):∃ k,Tells H k (.list (L.map rwD)) (.ref a):=by
  obtain ⟨k0,t⟩:=rws_far p
  exact ⟨Nat.add (Nat.add k0 a) 1,tells_list.mpr ⟨a,ws,rfl,(far_of (k0:=k0) (Nat.le_refl _)).2,h,t _ (far_of (k0:=k0) (a:=a) (Nat.le_refl _)).1⟩⟩
theorem eqv_rws (L:List Row3):PyData.eqv (.list (L.map rwD)) (.list (L.map rwD)) = true:=by
  rw [PyData.eqv]
  induction L with
  | nil=>rfl
  | cons r L ih =>
    rw [List.map_cons,PyData.eqvAll,ih]
    have:PyData.eqv (rwD r) (rwD r) = true:=by
      have h:=eqv_tr r.2.2
      unfold rwD
      simp [PyData.eqv,PyData.eqvAll,h]
    rw [this]; rfl
theorem lay_rws {L:List Row3} (h:∀ r∈L,r.1 < 1000∧r.2.1 < 1000∧TrOk r.2.2) (hl:L.length≤40):Lay (.list (L.map rwD)):=by
  refine (Bd.list (n:=31) (p:=3) (m:=40) (fun x hx=>?_) (by rw [List.length_map]; exact hl)).lay (by decide)
  obtain ⟨r,hr,rfl⟩:=List.mem_map.mp hx
  obtain ⟨h1,h2,h3⟩:=h r hr
  refine (Bd.tuple (n:=10) (p:=2) (m:=3) (ds:=[.int r.1,.int r.2.1,trD r.2.2]) (fun x hx=>?_) (Nat.le_refl 3)).mono (by decide) (by decide)
  simp only [List.mem_cons,List.not_mem_nil,or_false] at hx
  rcases hx with rfl | rfl | rfl
  · exact (bd_int (by omega)).mono (by decide) (by decide)
  · exact (bd_int (by omega)).mono (by decide) (by decide)
  · exact bd_tr h3
def toldD (ts:List Tr4) (vs:List Str):PyData:=.tuple [.list (ts.map trD),.list (vs.map .str)]
theorem trl_far {H:Hp}:∀ {us:List V} {ts:List Tr4},TrL H us ts→∃ k0:Nat,∀ k:Nat,k0≤k→TellsAll H k (ts.map trD) us
  | _,_,.nil=>⟨0,fun k _=>tellsAll_nil.mpr rfl⟩
  | _,_,.cons ⟨q,e,h⟩ t=>by
    subst e
    obtain ⟨k1,t1⟩:=tr_far h
    obtain ⟨k2,t2⟩:=trl_far t
    exact ⟨k1 + k2,fun k hk=>tellsAll_cons.mpr ⟨_,_,rfl,t1 k (by omega),t2 k (by omega)⟩⟩
theorem strs_tells {H:Hp} {k:Addr}:∀ vs:List Str,TellsAll H k (vs.map .str) (vs.map V.str)
  | []=>tellsAll_nil.mpr rfl
  | v :: vs=>tellsAll_cons.mpr ⟨_,_,rfl,tells_str.mpr rfl,strs_tells vs⟩
theorem far_of4 {k0 a b c k:Nat} (h:Nat.add (Nat.add (Nat.add (Nat.add k0 a) b) c) 1≤k):k0≤k∧a≠k∧b≠k∧c≠k:=by
  have h:k0 + a + b + c + 1≤k:=h
  exact ⟨by omega,by omega,by omega,by omega⟩
theorem told_tells {H:Hp} {t a b:Addr} {us:List V} {ts:List Tr4} {vs:List Str} (h1:H t = some (.tup [.ref a,.ref b])) (h2:H a = some (.lst us)) (h3:TrL H us ts) (h4:H b = some (.lst (vs.map V.str))):∃ k,Tells H k (toldD ts vs) (.ref t):=by
  obtain ⟨k0,f⟩:=trl_far h3
  obtain ⟨g0,g1,g2,g3⟩:=far_of4 (k0:=k0) (a:=t) (b:=a) (c:=b) (Nat.le_refl _)
  exact ⟨Nat.add (Nat.add (Nat.add (Nat.add k0 t) a) b) 1,tells_tuple.mpr ⟨t,_,rfl,g1,h1,tellsAll_cons.mpr ⟨_,_,rfl,tells_list.mpr ⟨a,us,rfl,g2,h2,f _ g0⟩,tellsAll_cons.mpr ⟨_,_,rfl,tells_list.mpr ⟨b,_,rfl,g3,h4,strs_tells vs⟩,tellsAll_nil.mpr rfl⟩⟩⟩⟩
theorem eqv_trs:∀ L:List Tr4,PyData.eqvAll (L.map trD) (L.map trD) = true
  | []=>rfl
  | r :: L=>by rw [List.map_cons,PyData.eqvAll,eqv_trs L,eqv_tr]; rfl
theorem eqv_told (ts:List Tr4) (vs:List Str):PyData.eqv (toldD ts vs) (toldD ts vs) = true:=by
  unfold toldD
  have h1:PyData.eqv (.list (ts.map trD)) (.list (ts.map trD)) = true:=by rw [PyData.eqv]; exact eqv_trs ts
  have h2:PyData.eqv (.list (vs.map .str)) (.list (vs.map .str)) = true:=by rw [eqv_strL]; simp
  rw [PyData.eqv,PyData.eqvAll,PyData.eqvAll,PyData.eqvAll,h1,h2]; rfl
def vWord (s:Str):Prop:=∃ ab be al,s = K27V.vOf ab be al
theorem word_ok {s:Str} (h:vWord s):PyData.strOk s = true∧s.length≤100:=by
  obtain ⟨ab,be,al,rfl⟩:=h
  cases ab <;> cases be <;> cases al <;> exact ⟨by decide +kernel,by decide +kernel⟩
theorem verl_words {rows:Rows}:∀ {vs:List Str} {l:List (Str × Str)},VerL rows vs l→∀ v∈vs,vWord v
  | _,_,.nil,v,h=>by cases h
  | _,_,.cons ⟨ab,be,al,_,_,_,e⟩ t,v,h=>by
    rcases List.mem_cons.mp h with rfl | h
    · exact ⟨ab,be,al,e⟩
    · exact verl_words t v h
end K27
namespace K27
open PySem L2 HT PySem.W
theorem tl_ok {p q:Pce} (o1:PcOk p) (o2:PcOk q) {t:Tr4} (h:t∈tl p q):TrOk t:=by
  unfold tl at h
  rcases told_has p q with ⟨m,y,x,e⟩ | ⟨_,e⟩
  · rw [e] at h
    rw [List.mem_singleton.mp (show t∈[trOf p q m y] from h)]
    exact tr_ok o1 o2 x
  · rw [e] at h; cases h
theorem tps_ok {t:Tr4}:∀ {ps:List Pce},(∀ p∈ps,PcOk p)→t∈tps ps→TrOk t
  | [],_,h=>by cases h
  | p :: ps,c,h=>by
    rcases List.mem_append.mp (show t∈cr p ps ++ tps ps from h) with h | h
    · obtain ⟨q,hq,ht⟩:=mem_cr.mp h
      exact tl_ok (c p (by simp)) (c q (List.mem_cons_of_mem _ hq)) ht
    · exact tps_ok (fun p hp=>c p (List.mem_cons_of_mem _ hp)) h
theorem lay_told {ts:List Tr4} {vs:List Str} (h:∀ t∈ts,TrOk t) (lt:ts.length≤64) (hv:∀ v∈vs,vWord v) (lv:vs.length≤64):Lay (toldD ts vs):=by
  refine (Bd.tuple (n:=641) (p:=3) (m:=2) (ds:=[.list (ts.map trD),.list (vs.map .str)]) (fun x hx=>?_) (Nat.le_refl 2)).lay (by decide)
  simp only [List.mem_cons,List.not_mem_nil,or_false] at hx
  rcases hx with rfl | rfl
  · refine (Bd.list (n:=10) (p:=2) (m:=64) (fun x hx=>?_) (by rw [List.length_map]; exact lt)).mono (by decide) (by decide)
    obtain ⟨t,ht,rfl⟩:=List.mem_map.mp hx
    exact bd_tr (h t ht)
  · refine (Bd.list (n:=1) (p:=0) (m:=64) (fun x hx=>?_) (by rw [List.length_map]; exact lv)).mono (by decide) (by decide)
    obtain ⟨v,hv',rfl⟩:=List.mem_map.mp hx
    have:=word_ok (hv v hv')
    exact bd_str this.2 this.1
structure Tld (rows:Rows) (ts:List Tr4) (vs:List Str):Prop where
  pm:ts.Perm (trsOf rows)
  so:ts.Pairwise fun e e'=>trLt e' e = false
  vr:VerL rows vs (prs 6)
theorem verl_same {rows rows':Rows} (h:∀ t,t∈absOf rows↔t∈absOf rows'):∀ {vs vs':List Str} {l:List (Str × Str)},VerL rows vs l→VerL rows' vs' l→vs = vs'
  | _,_,_,.nil,.nil=>rfl
  | _,_,_,.cons h1 t1,.cons h2 t2=>by rw [ver_congr h h1 h2,verl_same h t1 t2]
theorem absOf_mem {rows:Rows} (l:(trsOf rows).length≤40) (t:K27V.Tr):t∈absOf rows↔∃ r∈tps (rows.map (·.2)),K27V.absT r = t:=by
  unfold absOf
  rw [List.take_of_length_le l,List.mem_map,trsOf_tps]
theorem sort_one {a b:List Tr4} (ha:a.Pairwise fun e e'=>trLt e' e = false) (hb:b.Pairwise fun e e'=>trLt e' e = false) (p:a.Perm b):a = b :=
  List.Perm.eq_of_pairwise (fun x y _ _ h1 h2=>by
    by_cases e:x = y
    · exact e
    · rcases stoTr.tot _ _ e with z | z
      · rw [z] at h2; cases h2
      · rw [z] at h1; cases h1) ha hb p
theorem Tld.same {rows rows':Rows} {ts ts':List Tr4} {vs vs':List Str} (x:Tld rows ts vs) (y:Tld rows' ts' vs') (pm:(rows.map (·.2)).Perm (rows'.map (·.2))) (c:∀ q∈rows.map (·.2),Crews q) (l:(trsOf rows).length≤40):ts = ts'∧vs = vs':=by
  have p:=tps_perm pm c
  have l':(trsOf rows').length≤40:=by rw [trsOf_tps,← p.length_eq,← trsOf_tps]; exact l
  refine ⟨sort_one x.so y.so (x.pm.trans ?_),verl_same (fun t=>?_) x.vr y.vr⟩
  · rw [trsOf_tps]; exact p.trans (by rw [← trsOf_tps]; exact y.pm.symm)
  · rw [absOf_mem l,absOf_mem l']
    exact ⟨fun ⟨r,h,e⟩=>⟨r,p.mem_iff.mp h,e⟩,fun ⟨r,h,e⟩=>⟨r,p.mem_iff.mpr h,e⟩⟩
theorem Tld.twice {rows rows':Rows} {ts ts':List Tr4} {vs vs':List Str} {ps qs:List Pce} (x:Tld rows ts vs) (y:Tld rows' ts' vs') (e1:(rows.map (·.2)).Perm ps) (e2:rows'.map (·.2) = rows.map (·.2) ++ ps) (c:∀ q∈ps,Crews q) (l:ts.length < 11):vs = vs'∧(trsOf rows').length≤40:=by
  have c':∀ q∈rows.map (·.2),Crews q:=fun q hq=>c q (e1.mem_iff.mp hq)
  have lt:(tps (rows.map (·.2))).length < 11:=by rw [← trsOf_tps,← x.pm.length_eq]; exact l
  have l4:(trsOf rows').length≤40:=by
    rw [trsOf_tps,e2,tps_twice e1.symm c']; omega
  refine ⟨verl_same (fun t=>?_) x.vr y.vr,l4⟩
  rw [absOf_mem (by rw [trsOf_tps]; omega),absOf_mem l4,e2]
  exact ⟨fun ⟨r,h,e⟩=>⟨r,(mem_twice e1.symm c' r).mpr h,e⟩,fun ⟨r,h,e⟩=>⟨r,(mem_twice e1.symm c' r).mp h,e⟩⟩
theorem trs_len {ps:List Pce}:∀ {n:Nat},ps.length≤n→2 * (tps ps).length≤n * n:=by
  induction ps with
  | nil=>intro n _; show 0≤_; omega
  | cons p ps ih =>
    intro n h
    obtain ⟨m,rfl⟩:∃ m,n = m + 1:=⟨n - 1,by simp at h; omega⟩
    have h':ps.length≤m:=by simp at h; omega
    have:=ih h'
    have cl:∀ l:List Pce,(cr p l).length≤l.length:=fun l=>by
      unfold cr
      induction l with
      | nil=>exact Nat.le_refl _
      | cons q l ih =>
        rw [List.flatMap_cons,List.length_append,List.length_cons]
        have:(tl p q).length≤1:=by unfold tl; cases toldF p q <;> simp
        omega
    show 2 * (cr p ps ++ tps ps).length≤_
    rw [List.length_append]
    have:=cl ps
    have e:(m + 1) * (m + 1) = m * m + 2 * m + 1:=by rw [Nat.succ_mul,Nat.mul_succ]; omega
    omega
end K27
namespace K27
open PySem L2 HT PySem.W
section
variable {P:Program} {w:World} {K:PySem.W.Frag} {mg:Str→Option Value} {base:Heap}
abbrev sLaw:Stmt:=top 43
abbrev nLaw:List Str:=["script","deck","names","pieces","turn","piece","first","due","cell","club","number","own","rest"]
def lawRow (i:Nat):Stmt:=(defBody sLaw).getD i (.Pass ⟨0,0,0,0⟩)
def loopRow (i:Nat):Stmt:=match lawRow 7 with
  | .For _ _ b _ _=>b.getD i (.Pass ⟨0,0,0,0⟩)
  | _=>.Pass ⟨0,0,0,0⟩
theorem scLaw:FnScope nLaw ["script"] (defScope sLaw):=⟨rfl,rfl,rfl,by decide +kernel,rfl,by decide +kernel,by decide +kernel⟩
def spLaw (K:PySem.W.Frag):Sp:=fun vs H Q _=>∃ (a:Addr) (ns:List Int),vs = [.ref a]∧SqL K H a (ns.map V.int)∧ns.length≤63∧∀ H',Q (.bl true) H'
def spDeckT:Sp:=fun vs H Q _=>∃ cell turn:Int,vs = [.int cell,.int turn]∧0≤turn∧∀ p H',H p = none→Same H H'→DeckAt H' p turn→Q (.ref p) H'
theorem ok_deckT {f:Addr} {fd:FuncData} (F:Fun K "_law_deck" "_law_deck" sDeck f fd):FnOk P w K mg base CX0 1 f fd ["cell","turn"] spDeckT:=by
  refine F.ok scD (fun vs H Q E h=>?_) (fun cdv A outer s H vs Q E hr h=>?_)
  · obtain ⟨cell,turn,rfl,_⟩:=h
    rfl
  · obtain ⟨cell,turn,rfl,t0,q⟩:=h
    refine ⟨_,pss_cons (ps_if (pt_cmpR op_ge (pv 0) (pe_op op_pow pe_int pe_int) (nomark _))
        (pss_one (ps_ret (pe_lst (pa_cons (pe_op op_sub (pv 0) (pe_op op_pow pe_int pe_int)) (pa_cons (pe_op op_mod (pv 0) pe_int) (pa_cons (pv 1) pa_nil)))))) pss_nil)
      (pss_one (ps_ret (pe_lst (pa_cons pe_int (pa_cons (pe_op op_mod (pv 0) pe_int) (pa_cons (pv 1) pa_nil)))))),?_⟩
    have hb:0≤cell % 2147483579∧cell % 2147483579 < 2147483648:=by omega
    refine ⟨_,rfl,_,_,rfl,rfl,⟨by decide,by decide,by decide⟩,_,_,rfl,rfl,_,rfl,?_⟩
    refine ite2 (fun c=>?_) (fun c=>?_)
    · refine ⟨_,rfl,_,_,rfl,rfl,⟨by decide,by decide,by decide⟩,_,_,rfl,rfl,_,rfl,_,_,rfl,rfl,by show (0:Int) < 2147483579; decide,_,rfl,by show 3≤sizeLine; decide,fun p hp=>?_⟩
      exact q p _ hp (same_new hp _) ⟨⟨_,_,upd_same,hb.1,hb.2⟩,t0⟩
    · refine ⟨_,rfl,_,_,rfl,rfl,by show (0:Int) < 2147483579; decide,_,rfl,by show 3≤sizeLine; decide,fun p hp=>?_⟩
      exact q p _ hp (same_new hp _) ⟨⟨_,_,upd_same,hb.1,hb.2⟩,t0⟩
theorem okSix:(∀ n∈six,okN n)∧six.Nodup:=⟨by unfold okN; decide +kernel,by decide +kernel⟩
theorem w0 {f:Addr} {cdv:Value} {A:Around} {outer:List Env} {s:Shared} {H:Hp} {E:XK} (hr:Room 7 (A.deeper (PyProof.Rows.envOfC "law" (defScope sLaw) s.heap.objs.size f cdv))) (DD:Df P w K mg base 1 "_law_deck" ["cell","turn"] spDeckT) (DC:Df P w K mg base 2 "_law_piece" ["deck","names"] spPc):∃ t0 t1 t2,PS (cxOf CX0 P w K mg base nLaw "law" (defScope sLaw) f cdv A outer s H E).nox (lawRow 0) t0∧PS (cxOf CX0 P w K mg base nLaw "law" (defScope sLaw) f cdv A outer s H E).nox (lawRow 1) t1∧PS (cxOf CX0 P w K mg base nLaw "law" (defScope sLaw) f cdv A outer s H E).nox (lawRow 2) t2∧∀ (D:Ends) (H1:Hp) (a:Addr) (ns:List Int) (v1 v2 v3 v4 v5 v6 v7 v8 v9 v10 v11 v12:Option V),SqL K H1 a (ns.map V.int)→ns.length≤63 →
    (∀ (k nm pl r:Addr) (p:Pce) (c:Int) H2,Same H1 H2→H1 k = none→H1 pl = none→DeckAt H2 k c→c≤60→nm≠k→pl≠k→pl≠nm→H2 nm = some (.lst (six.map V.str))→H2 pl = some (.lst [.ref r])→PcAt H2 r p→PcOk p→Crews p→D.nx [some (.ref a),some (.ref k),some (.ref nm),some (.ref pl),v4,v5,v6,v7,v8,v9,v10,v11,v12] H2) →
    tSeq t0 (tSeq t1 t2) D [some (.ref a),v1,v2,v3,v4,v5,v6,v7,v8,v9,v10,v11,v12] H1:=by
  have hr1:=hr.mono (j:=1) (by decide)
  have hr2:=hr.mono (j:=2) (by decide)
  refine ⟨_,_,_,ps_set (i:=1) scLaw.nd rfl (Or.inl rfl) (pe_df DD hr1 (pa_cons (pe_ix ix_list (pe_op op_catS (pv 0) (pe_lst (pa_cons pe_int pa_nil))) pe_int (fun _ _=>rfl)) (pa_cons pe_int pa_nil))),
    ps_set (i:=2) scLaw.nd rfl (Or.inl rfl) (pe_lst (pa_texts (vs:=six.map V.str) (.cons ⟨_,_,_,rfl,rfl⟩ (.cons ⟨_,_,_,rfl,rfl⟩ (.cons ⟨_,_,_,rfl,rfl⟩ (.cons ⟨_,_,_,rfl,rfl⟩ (.cons ⟨_,_,_,rfl,rfl⟩ (.cons ⟨_,_,_,rfl,rfl⟩ .nil)))))))),
    ps_set (i:=3) scLaw.nd rfl (Or.inl rfl) (pe_lst (pa_cons (pe_df DC hr2 (pa_cons (pv 1) (pa_cons (pv 2) pa_nil))) pa_nil)),?_⟩
  intro D H1 a ns v1 v2 v3 v4 v5 v6 v7 v8 v9 v10 v11 v12 hS hl nx
  refine ⟨_,rfl,by show 1≤sizeLine; decide,fun z hz=>?_⟩
  have s1:=same_new hz (.lst [.int 0])
  have w1:upd H1 z (.lst [.int 0]) z = some (.lst [.int 0]):=upd_same
  try dsimp only
  generalize upd H1 z (.lst [.int 0]) = M1 at *
  refine ⟨a,z,_,_,rfl,rfl,s1.seq hS,SqL.of w1,Nat.le_of_lt (small1000 (by rw [List.length_map]; simp only [List.length_singleton]; omega)),fun y hy=>?_⟩
  have s2:=same_new hy (.lst (ns.map V.int ++ [.int 0]))
  have w2:upd M1 y (.lst (ns.map V.int ++ [.int 0])) y = some (.lst (ns.map V.int ++ [.int 0])):=upd_same
  try dsimp only
  generalize upd M1 y (.lst (ns.map V.int ++ [.int 0])) = M2 at *
  obtain ⟨cell,hcell⟩:∃ cell:Int,(ns.map V.int ++ [V.int 0])[0]? = some (.int cell):=by
    cases ns with
    | nil=>exact ⟨0,rfl⟩
    | cons n ns=>exact ⟨n,rfl⟩
  refine ⟨y,_,0,_,rfl,rfl,SqL.of w2,atI_nat (j:=0) hcell,cell,0,rfl,Int.le_refl 0,fun k M3 hk s3 dk=>?_⟩
  refine ⟨by show 6≤sizeLine; decide,fun nm hnm=>?_⟩
  have s4:=same_new hnm (.lst (six.map V.str))
  have w4:upd M3 nm (.lst (six.map V.str)) nm = some (.lst (six.map V.str)):=upd_same
  have d4:=deck_same dk s4
  have nmk:nm≠k:=fun z=>dk.ne hnm z.symm
  try dsimp only
  generalize upd M3 nm (.lst (six.map V.str)) = M4 at *
  refine ⟨_,rfl,_,rfl,k,0,nm,six,rfl,d4,by decide,nmk,w4,by decide,by decide,okSix.1,okSix.2,fun r p c M5 k5 d5 e5 P5 op cp=>?_⟩
  refine ⟨by show 1≤sizeLine; decide,fun pl hpl=>?_⟩
  have s6:=same_new hpl (.lst [.ref r])
  have s04:=((s1.trans s2).trans s3).trans s4
  have w5:=k5 _ _ nmk w4
  have s05:Same H1 M5:=fun b o e=>k5 _ _ (fun z=>by
    have:=(s1.trans s2) _ _ e
    rw [z] at this
    rw [hk] at this
    cases this) (s04 _ _ e)
  exact nx k nm pl r p c _ (s05.trans s6) (none_same (s1.trans s2) hk) (none_same s05 hpl) (deck_same d5 s6) (by omega) nmk (fun z=>d5.ne hpl z.symm) (fun z=>by rw [z,w5] at hpl; cases hpl) (s6 _ _ w5) upd_same (P5.same s6) op cp
end
end K27
namespace K27
open PySem L2 HT PySem.W
section
variable {P:Program} {w:World} {K:PySem.W.Frag} {mg:Str→Option Value} {base:Heap}
theorem keep_tp {H H':Hp} {k:Addr} {c:Int} (d:DeckAt H k c) (kp:Keep k H H'):∀ b xs,H b = some (.tup xs)→H' b = some (.tup xs):=fun b xs e=>kp _ _ (fun z=>by
  obtain ⟨⟨_,_,h1,_⟩,_⟩:=d
  rw [z,h1] at e; cases e) e
theorem w3 {f:Addr} {cdv:Value} {A:Around} {outer:List Env} {s:Shared} {H:Hp} {E:XK} (hr:Room 7 (A.deeper (PyProof.Rows.envOfC "law" (defScope sLaw) s.heap.objs.size f cdv))) (T:Txt mg) (DP:Df P w K mg base 1 "_law_pick" ["deck","many"] spPick) (DC:Df P w K mg base 2 "_law_piece" ["deck","names"] spPc) (DX:Df P w K mg base 2 "_law_exchanged" ["deck","piece"] spLx):∃ t,PS (cxOf CX0 P w K mg base nLaw "law" (defScope sLaw) f cdv A outer s H E).nox (lawRow 3) t∧∀ (D:Ends) (H1:Hp) (v0 v4 v5 v6 v7 v8 v9 v10 v11 v12:Option V) (k nm pl r:Addr) (p:Pce) (c:Int),DeckAt H1 k c→c≤60→nm≠k→pl≠k→pl≠nm→H1 nm = some (.lst (six.map V.str))→H1 pl = some (.lst [.ref r])→PcAt H1 r p→PcOk p→Crews p →
    (∀ (us:List V) (ps:List Pce) (c2:Int) (w4 w5:Option V) H2,DeckAt H2 k c2→c2≤1000→H2 pl = some (.lst us)→PcsAt H2 us ps→(∀ q∈ps,PcOk q∧Crews q)→1≤ps.length→ps.length≤8→Kp2 k pl H1 H2→D.nx [v0,some (.ref k),some (.ref nm),some (.ref pl),w4,w5,v6,v7,v8,v9,v10,v11,v12] H2) →
    t D [v0,some (.ref k),some (.ref nm),some (.ref pl),v4,v5,v6,v7,v8,v9,v10,v11,v12] H1:=by
  have hr1:=hr.mono (j:=1) (by decide)
  have hr2:=hr.mono (j:=2) (by decide)
  refine ⟨_,ps_for PassesOwn.never rfl (pi_range1 rfl T.range (pa_cons (pe_df DP hr1 (pa_cons (pv 1) (pa_cons pe_int pa_nil))) pa_nil)) (pg_name (i:=4) scLaw.nd rfl (Or.inl rfl))
    (pss_cons (ps_set (i:=5) scLaw.nd rfl (Or.inl rfl) (pe_df DX hr2 (pa_cons (pv 1) (pa_cons (pe_ix ix_list (pv 3) (pe_df DP hr1 (pa_cons (pv 1) (pa_cons (pe_callB call_len_seq rfl T.len PySem.boot_len (pa_cons (pv 3) pa_nil)) pa_nil))) (fun _ _=>rfl)) pa_nil))))
    (pss_one (ps_expr (pe_bm PySem.F.plainAttrs_list PySem.F.slot_list_append PySem.F.type_list_append mt_append (pv 3) (pa_cons (pe_ifExp (pt_cmpR op_gt (pe_df DP hr1 (pa_cons (pv 1) (pa_cons pe_int pa_nil))) pe_int (nomark _)) (pv 5) (pe_df DC hr2 (pa_cons (pv 1) (pa_cons (pv 2) pa_nil)))) pa_nil))))),?_⟩
  intro D H1 v0 v4 v5 v6 v7 v8 v9 v10 v11 v12 k nm pl r p c dk hc nmk npk npn hnm hpl hP op cp nx
  refine ⟨_,rfl,k,c,8,rfl,dk,by omega,by decide,by decide,fun rr c1 H2 k2 d2 e2 g2 l2=>⟨_,rfl,by omega,by omega,?_⟩⟩
  have ok1:∀ q∈[p],PcOk q∧Crews q:=fun q hq=>by rw [List.mem_singleton.mp hq]; exact ⟨op,cp⟩
  refine for_range (lo:=0) (n:=rr.toNat) (fun i σ' H'=>∃ (us:List V) (ps:List Pce) (c2:Int) (w4 w5:Option V),σ' = [v0,some (.ref k),some (.ref nm),some (.ref pl),w4,w5,v6,v7,v8,v9,v10,v11,v12]∧Kp2 k pl H1 H'∧DeckAt H' k c2∧c2≤61 + 80 * i∧H' pl = some (.lst us)∧PcsAt H' us ps∧(∀ q∈ps,PcOk q∧Crews q)∧ps.length = 1 + i)
    ⟨_,_,c1,_,_,rfl,fun x o n1 _ e=>k2 _ _ n1 e,d2,by omega,k2 _ _ npk hpl,.cons ⟨r,rfl,hP.up (keep_tp dk k2)⟩ .nil,ok1,rfl⟩ ?_ ?_
  · rintro i σ' H3 hi ⟨us,ps,c2,w4,w5,rfl,kp,d3,e3,hL,hps,hok,ln⟩
    have i8:i < 8:=by omega
    have lu:=paired_len hps
    refine K27V.g_name ?_
    refine ⟨_,rfl,_,rfl,_,rfl,_,rfl,pl,us,rfl,.inl (SqL.of hL),k,c2,_,rfl,d3,by omega,by omega,by omega,fun j c4 H4 k4 d4 e4 g4 l4=>?_⟩
    have hL4:=k4 _ _ npk hL
    have hj:j.toNat < ps.length:=by omega
    obtain ⟨_,eu,q,rfl,Pq⟩:=paired_get hps j.toNat hj
    have okq:=hok _ (List.getElem_mem hj)
    refine ⟨pl,us,j,_,rfl,rfl,SqL.of hL4,(by rw [show j = ((j.toNat:Nat):Int) by omega]; exact atI_nat eu),k,q,c4,ps[j.toNat],rfl,d4,by omega,Pq.up (keep_tp d3 k4),okq.1,okq.2,fun t p' m y c5 H5 k5 d5 e5 P5 op5 xp=>?_⟩
    have hL5:=k5 _ _ npk hL4
    have hps5:PcsAt H5 us ps:=hps.up fun b xs e=>keep_tp d4 k5 _ _ (keep_tp d3 k4 _ _ e)
    have cp5:=xp.crews okq.2
    refine ⟨_,rfl,.inl ⟨rfl,_,SqL.of hL5⟩,?_⟩
    refine ⟨_,rfl,k,c5,6,rfl,d5,by omega,by decide,by decide,fun u c6 H6 k6 d6 e6 g6 l6=>?_⟩
    have hL6:=k6 _ _ npk hL5
    have hps6:PcsAt H6 us ps:=hps5.up fun b xs e=>keep_tp d5 k6 _ _ e
    have fin:∀ (H7:Hp) (t0 t:Addr) (p':Pce) (c7:Int),Kp2 k pl H6 H7→DeckAt H7 k c7→c7≤61 + 80 * (i + 1)→H7 pl = some (.lst us)→(∀ b xs,H6 b = some (.tup xs)→H7 b = some (.tup xs))→PcAt H7 t p'→PcOk p'→Crews p'→∃ (us':List V) (ps':List Pce) (c2:Int) (w4 w5:Option V),[v0,some (.ref k),some (.ref nm),some (.ref pl),some (.int (0 + i)),some (.ref t0),v6,v7,v8,v9,v10,v11,v12] = [v0,some (.ref k),some (.ref nm),some (.ref pl),w4,w5,v6,v7,v8,v9,v10,v11,v12]∧Kp2 k pl H1 (upd H7 pl (.lst (us ++ [.ref t])))∧DeckAt (upd H7 pl (.lst (us ++ [.ref t]))) k c2∧c2≤61 + 80 * ((i + 1:Nat):Int)∧upd H7 pl (.lst (us ++ [.ref t])) pl = some (.lst us')∧PcsAt (upd H7 pl (.lst (us ++ [.ref t]))) us' ps'∧(∀ q∈ps',PcOk q∧Crews q)∧ps'.length = 1 + (i + 1):=fun H7 t0 t p' c7 k7 d7 e7 h7 t7 P7 o7 cc7=>by
      have ku:∀ b xs,H7 b = some (.tup xs)→upd H7 pl (.lst (us ++ [.ref t])) b = some (.tup xs):=fun b xs e=>by rw [upd_ne (fun z=>by rw [z,h7] at e; cases e)]; exact e
      refine ⟨us ++ [.ref t],ps ++ [p'],c7,_,_,rfl,fun x o n1 n2 e=>?_,d7.keep fun o e=>by rw [upd_ne npk.symm]; exact e,by omega,upd_same,Paired.snoc (hps6.up fun b xs e=>ku _ _ (t7 _ _ e)) ⟨t,rfl,P7.up ku⟩,fun q hq=>?_,by rw [List.length_append,List.length_singleton]; omega⟩
      · rw [upd_ne n2]; exact k7 _ _ n1 n2 (k6 _ _ n1 (k5 _ _ n1 (k4 _ _ n1 (kp _ _ n1 n2 e))))
      · rcases List.mem_append.mp hq with h | h
        · exact hok q h
        · rw [List.mem_singleton.mp h]; exact ⟨o7,cc7⟩
    refine ⟨_,_,rfl,rfl,_,rfl,?_⟩
    refine ite2 (fun _=>?_) (fun _=>?_)
    · refine ⟨_,rfl,pl,us,.ref t,rfl,rfl,hL6,small1000 (by omega),?_⟩
      exact fin H6 t t p' c6 (fun _ _ _ _ e=>e) d6 (by omega) hL6 (fun _ _ e=>e) (P5.up (keep_tp d5 k6)) op5 cp5
    · refine ⟨_,rfl,_,rfl,k,c6,nm,six,rfl,d6,by omega,nmk,k6 _ _ nmk (k5 _ _ nmk (k4 _ _ nmk (kp _ _ nmk npn.symm hnm))),by decide,by decide,okSix.1,okSix.2,fun r7 p7 c7 H7 k7 d7 e7 P7 op7 cp7=>?_⟩
      have hL7:=k7 _ _ npk hL6
      refine ⟨pl,us,.ref r7,rfl,rfl,hL7,small1000 (by omega),?_⟩
      exact fin H7 t r7 p7 c7 (fun x o n1 _ e=>k7 _ _ n1 e) d7 (by omega) hL7 (keep_tp d6 k7) P7 op7 cp7
  · rintro σ' H3 ⟨us,ps,c2,w4,w5,rfl,kp,d3,e3,hL,hps,hok,ln⟩
    exact nx us ps c2 w4 w5 H3 d3 (by omega) hL hps hok (by omega) (by omega) kp
end
end K27
namespace K27
open PySem L2 HT PySem.W
section
variable {P:Program} {w:World} {K:PySem.W.Frag} {mg:Str→Option Value} {base:Heap}
structure Lw (C:Addr) (H:Hp) (k pl cb sl ll t a b:Addr) (c:Int) (us:List V) (ps:List Pce) (rows:Rows) (n:Nat) (sts:List (Rows × Nat)) (lf:Nat) (uT:List V) (ts:List Tr4) (vs:List Str):Prop where
  dk:DeckAt H k c
  npk:pl≠k
  hpl:H pl = some (.lst us)
  hps:PcsAt H us ps
  ok:∀ q∈ps,PcOk q∧Crews q
  l1:1≤ps.length
  l8:ps.length≤8
  cl:ClubG C H cb sl ll (sts ++ [(rows,n)]) lf
  md:Made rows n ps
  n16:n≤16
  s24:sts.length≤24
  pcb:pl≠cb
  psl:pl≠sl
  kcb:k≠cb
  ksl:k≠sl
  kll:k≠ll
  ht:H t = some (.tup [.ref a,.ref b])
  ha:H a = some (.lst uT)
  tr:TrL H uT ts
  hb:H b = some (.lst (vs.map V.str))
  tl:Tld rows ts vs
  ak:a≠k
  bk:b≠k
  acb:a≠cb
  asl:a≠sl
  bcb:b≠cb
  bsl:b≠sl
theorem Made.ok {rows:Rows} {n:Nat} {ps:List Pce} (m:Made rows n ps) (ok:∀ q∈ps,PcOk q∧Crews q):∀ x∈rows,PcOk x.2∧Crews x.2:=fun x hx=>ok x.2 (m.pm.mem_iff.mp (List.mem_map.mpr ⟨x,hx,rfl⟩))
theorem Made.len {rows:Rows} {n:Nat} {ps:List Pce} (m:Made rows n ps):rows.length = ps.length:=by have:=m.pm.length_eq; rwa [List.length_map] at this
theorem Made.trs {rows:Rows} {n:Nat} {ps:List Pce} (m:Made rows n ps) (l8:ps.length≤8):(trsOf rows).length≤32:=by
  rw [trsOf_tps]
  have:=trs_len (ps:=rows.map (·.2)) (n:=8) (by rw [List.length_map,m.len]; exact l8)
  omega
theorem w4 {f:Addr} {cdv:Value} {A:Around} {outer:List Env} {s:Shared} {H:Hp} {E:XK} (hr:Room 7 (A.deeper (PyProof.Rows.envOfC "law" (defScope sLaw) s.heap.objs.size f cdv))) {C:Addr} (DM:Df P w K mg base 5 "_law_made" ["deck","pieces"] (spMade C)) (DO:Df P w K mg base 7 "_law_told" ["club"] (spTold C)):∃ t4 t5 t6,PS (cxOf CX0 P w K mg base nLaw "law" (defScope sLaw) f cdv A outer s H E).nox (lawRow 4) t4∧PS (cxOf CX0 P w K mg base nLaw "law" (defScope sLaw) f cdv A outer s H E).nox (lawRow 5) t5∧PS (cxOf CX0 P w K mg base nLaw "law" (defScope sLaw) f cdv A outer s H E).nox (lawRow 6) t6∧∀ (D:Ends) (H1:Hp) (v0 v2 v4 v5 v6 v7 v8 v9 v10 v11 v12:Option V) (k pl:Addr) (us:List V) (ps:List Pce) (c:Int),DeckAt H1 k c→c≤1000→pl≠k→H1 pl = some (.lst us)→PcsAt H1 us ps→(∀ q∈ps,PcOk q∧Crews q)→1≤ps.length→ps.length≤8 →
    (∀ (cb sl ll t a b:Addr) (c2:Int) (rows:Rows) (n:Nat) (sts:List (Rows × Nat)) (lf:Nat) (uT:List V) (ts:List Tr4) (vs:List Str) H2,Lw C H2 k pl cb sl ll t a b c2 us ps rows n sts lf uT ts vs→c2≤1040→Keep k H1 H2→D.nx [v0,some (.ref k),v2,some (.ref pl),v4,v5,some (.ref cb),some (.ref t),v8,v9,v10,v11,v12] H2) →
    tSeq t4 (tSeq t5 t6) D [v0,some (.ref k),v2,some (.ref pl),v4,v5,v6,v7,v8,v9,v10,v11,v12] H1:=by
  have hr5:=hr.mono (j:=5) (by decide)
  refine ⟨_,_,_,ps_set (i:=6) scLaw.nd rfl (Or.inl rfl) (pe_df DM hr5 (pa_cons (pv 1) (pa_cons (pv 3) pa_nil))),ps_if (pt_cmpR op_isN (pv 6) pe_non (nomark _)) pss_never pss_nil,ps_set (i:=7) scLaw.nd rfl (Or.inl rfl) (pe_df DO hr (pa_cons (pv 6) pa_nil)),?_⟩
  intro D H1 v0 v2 v4 v5 v6 v7 v8 v9 v10 v11 v12 k pl us ps c dk hc npk hpl hps hok l1 l8 nx
  refine ⟨_,rfl,_,rfl,k,pl,c,us,ps,rfl,dk,by omega,npk,hpl,hps,hok,l8,fun cb sl ll rows n sts lf c2 H2 k2 d2 e2 cb0 sl0 ll0 hC md n16 s24=>?_⟩
  refine ⟨_,rfl,rfl,_,rfl,ite_no (by simp) ?_⟩
  have tr32:=md.trs l8
  refine ⟨_,rfl,cb,sl,ll,rows,n,sts,lf,rfl,hC,md.ok hok,by rw [md.len]; omega,by omega,fun t a b uT ts vs H3 s3 a0 b0 ht ha htr pm so hb vr=>?_⟩
  refine nx cb sl ll t a b c2 rows n sts lf uT ts vs H3 ?_ (by omega) (fun b o n e=>s3 _ _ (k2 _ _ n e))
  have hC3:=hC.same s3
  obtain ⟨dx,vv,ww,c1,c2',c3,c4,c5,c6,c7,c8⟩:=id hC
  obtain ⟨ok,hk⟩:=d2.some
  have ne:∀ {x y:Addr} {o:HO},H2 x = none→H2 y = some o→x≠y:=fun e1 e2 z=>by rw [z,e2] at e1; cases e1
  have hpl2:=k2 _ _ npk hpl
  exact ⟨deck_same d2 s3,npk,s3 _ _ hpl2,hps.up fun b xs e=>s3 _ _ (keep_tp dk k2 _ _ e),hok,l1,l8,hC3,md,n16,s24,(fun z=>by rw [z,cb0] at hpl; cases hpl),(fun z=>by rw [z,sl0] at hpl; cases hpl),dk.ne cb0,dk.ne sl0,dk.ne ll0,ht,ha,htr,hb,⟨pm,so,vr⟩,ne a0 hk,ne b0 hk,ne a0 c1,ne a0 c5,ne b0 c1,ne b0 c5⟩
end
end K27
namespace K27
open PySem L2 HT PySem.W
section
variable {P:Program} {w:World} {K:PySem.W.Frag} {mg:Str→Option Value} {base:Heap}
theorem told_eq {H:Hp} {t a b t2 a2 b2:Addr} {us us2:List V} {ts ts2:List Tr4} {vs vs2:List Str} {rows rows2:Rows} {n n2:Nat} {ps:List Pce} (h1:H t = some (.tup [.ref a,.ref b])) (h2:H a = some (.lst us)) (h3:TrL H us ts) (h4:H b = some (.lst (vs.map V.str))) (x:Tld rows ts vs)
    (g1:H t2 = some (.tup [.ref a2,.ref b2])) (g2:H a2 = some (.lst us2)) (g3:TrL H us2 ts2) (g4:H b2 = some (.lst (vs2.map V.str))) (y:Tld rows2 ts2 vs2) (m:Made rows n ps) (m2:Made rows2 n2 ps) (ok:∀ q∈ps,PcOk q∧Crews q) (l8:ps.length≤8) :
    ∃ k k' d,Tells H k d (.ref t2)∧Tells H k' d (.ref t)∧Lay d∧PyData.eqv d d = true:=by
  obtain ⟨e1,e2⟩:=y.same x (m2.pm.trans m.pm.symm) (fun q hq=>(ok q (m2.pm.mem_iff.mp hq)).2) (Nat.le_trans (m2.trs l8) (by decide))
  subst e1; subst e2
  obtain ⟨k,T1⟩:=told_tells g1 g2 g3 g4
  obtain ⟨k',T2⟩:=told_tells h1 h2 h3 h4
  refine ⟨k,k',_,T1,T2,lay_told (fun t ht=>?_) ?_ (verl_words y.vr) ?_,eqv_told _ _⟩
  · have:=y.pm.mem_iff.mp ht
    rw [trsOf_tps] at this
    exact tps_ok (fun q hq=>(ok q (m2.pm.mem_iff.mp hq)).1) this
  · rw [y.pm.length_eq]; exact Nat.le_trans (m2.trs l8) (by decide)
  · rw [paired_len y.vr]; decide
theorem x0 {f:Addr} {cdv:Value} {A:Around} {outer:List Env} {s:Shared} {H:Hp} {E:XK} (hr:Room 7 (A.deeper (PyProof.Rows.envOfC "law" (defScope sLaw) s.heap.objs.size f cdv))) {C:Addr} (DD:Df P w K mg base 1 "_law_deck" ["cell","turn"] spDeckT) (DM:Df P w K mg base 5 "_law_made" ["deck","pieces"] (spMade C)) (DO:Df P w K mg base 7 "_law_told" ["club"] (spTold C)):∃ t0 t1,PS (cxOf CX0 P w K mg base nLaw "law" (defScope sLaw) f cdv A outer s H E).nox (loopRow 0) t0∧PS (cxOf CX0 P w K mg base nLaw "law" (defScope sLaw) f cdv A outer s H E).nox (loopRow 1) t1∧∀ (D:Ends) (H1:Hp) (v0 v2 v4 v5 v9 v10 v11 v12:Option V) (cell:Int) (k pl cb sl ll t a b:Addr) (c:Int) (us:List V) (ps:List Pce) (rows:Rows) (n:Nat) (sts:List (Rows × Nat)) (lf:Nat) (uT:List V) (ts:List Tr4) (vs:List Str),Lw C H1 k pl cb sl ll t a b c us ps rows n sts lf uT ts vs →
    (∀ (cb2 sl2 ll2:Addr) (rows2:Rows) (n2:Nat) (sts2:List (Rows × Nat)) (lf2:Nat) H2,Same H1 H2→H1 cb2 = none→H1 sl2 = none→H1 ll2 = none→ClubG C H2 cb2 sl2 ll2 (sts2 ++ [(rows2,n2)]) lf2→Made rows2 n2 ps→n2≤16→sts2.length≤24→D.nx [v0,some (.ref k),v2,some (.ref pl),v4,v5,some (.ref cb),some (.ref t),some (.int cell),some (.ref cb2),v10,v11,v12] H2) →
    tSeq t0 t1 D [v0,some (.ref k),v2,some (.ref pl),v4,v5,some (.ref cb),some (.ref t),some (.int cell),v9,v10,v11,v12] H1:=by
  have hr5:=hr.mono (j:=5) (by decide)
  have hr1:=hr.mono (j:=1) (by decide)
  refine ⟨_,_,ps_set (i:=9) scLaw.nd rfl (Or.inl rfl) (pe_df DM hr5 (pa_cons (pe_df DD hr1 (pa_cons (pv 8) (pa_cons pe_int pa_nil))) (pa_cons (pv 3) pa_nil))),
    ps_if (PW.pt (pw_or (pt_cmpR op_isN (pv 9) pe_non (nomark _)) (pw_or1 (pt_cmpR (op_neD hr.units) (pe_df DO hr (pa_cons (pv 9) pa_nil)) (pv 7) (nomark _))))) pss_never pss_nil,?_⟩
  intro D H1 v0 v2 v4 v5 v9 v10 v11 v12 cell k pl cb sl ll t a b c us ps rows n sts lf uT ts vs L nx
  refine ⟨_,rfl,cell,710,rfl,by decide,fun k2 M1 hk s1 dk2=>?_⟩
  have npk2:pl≠k2:=fun z=>by have:=L.hpl; rw [z,hk] at this; cases this
  refine ⟨_,rfl,k2,pl,710,us,ps,rfl,dk2,by decide,npk2,s1 _ _ L.hpl,L.hps.up fun b xs e=>s1 _ _ e,L.ok,L.l8,fun cb2 sl2 ll2 rows2 n2 sts2 lf2 c2 M2 km d2 e2 cb0 sl0 ll0 hC md n16 s24=>?_⟩
  have s12:Same H1 M2:=fun b o e=>km _ _ (fun z=>by rw [z,hk] at e; cases e) (s1 _ _ e)
  refine ⟨_,rfl,rfl,_,rfl,ite_no (by simp) ?_⟩
  have t32:=md.trs L.l8
  refine ⟨_,rfl,cb2,sl2,ll2,rows2,n2,sts2,lf2,rfl,hC,md.ok L.ok,by rw [md.len]; have:=L.l8; omega,by omega,fun t2 a2 b2 us2 ts2 vs2 M3 s3 a0 b0 ht2 ha2 tr2 pm2 so2 hb2 vr2=>?_⟩
  have s13:=s12.trans s3
  obtain ⟨q1,q2,d,T1,T2,ly,ev⟩:=told_eq (s13 _ _ L.ht) (s13 _ _ L.ha) (L.tr.up fun b xs e=>s13 _ _ e) (s13 _ _ L.hb) L.tl ht2 ha2 tr2 hb2 ⟨pm2,so2,vr2⟩ L.md md L.ok L.l8
  refine ⟨_,rfl,q1,q2,d,d,T1,T2,ly,ly,_,rfl,?_⟩
  rw [ev]
  refine ite_no (by decide) ?_
  exact nx cb2 sl2 ll2 rows2 n2 sts2 lf2 M3 s13 (none_same s1 cb0) (none_same s1 sl0) (none_same s1 ll0) (hC.same s3) md n16 s24
theorem x2 {f:Addr} {cdv:Value} {A:Around} {outer:List Env} {s:Shared} {H:Hp} {E:XK} (hr:Room 7 (A.deeper (PyProof.Rows.envOfC "law" (defScope sLaw) s.heap.objs.size f cdv))) (T:Txt mg) {C:Addr} (DP:Df P w K mg base 1 "_law_pick" ["deck","many"] spPick) (DB:DfM P w K mg base 1 C "pieces" ["self"] (spPcs C)):∃ t,PS (cxOf CX0 P w K mg base nLaw "law" (defScope sLaw) f cdv A outer s H E).nox (loopRow 2) t∧∀ (D:Ends) (H1:Hp) (v0 v2 v4 v5 v6 v7 v8 v10 v11 v12:Option V) (k pl cb sl ll:Addr) (c:Int) (us:List V) (ps:List Pce) (rows:Rows) (n:Nat) (sts:List (Rows × Nat)) (lf:Nat),DeckAt H1 k c→c≤5000→pl≠k→H1 pl = some (.lst us)→us.length = ps.length→1≤ps.length→ps.length≤8→ClubG C H1 cb sl ll (sts ++ [(rows,n)]) lf→rows.length = ps.length →
    (∀ (i:Nat) (hi:i < rows.length) (r:Addr) (c2:Int) H2,Keep k H1 H2→DeckAt H2 k c2→c2≤c + 1→PcAt H2 r rows[i].2→D.nx [v0,some (.ref k),v2,some (.ref pl),v4,some (.ref r),v6,v7,v8,some (.ref cb),some (.int rows[i].1),v11,v12] H2) →
    t D [v0,some (.ref k),v2,some (.ref pl),v4,v5,v6,v7,v8,some (.ref cb),v10,v11,v12] H1:=by
  have hr1:=hr.mono (j:=1) (by decide)
  refine ⟨_,ps_asg (pe_ix ix_list (pe_dm0 DB hr1 (pv 9)) (pe_df DP hr1 (pa_cons (pv 1) (pa_cons (pe_callB call_len_seq rfl T.len PySem.boot_len (pa_cons (pv 3) pa_nil)) pa_nil))) (fun _ _=>rfl)) (pg_tup rfl (pgs_cons (pg_name (i:=10) scLaw.nd rfl (Or.inr rfl)) (pgs_cons (pg_name (i:=5) scLaw.nd rfl (Or.inl rfl)) pgs_nil))),?_⟩
  intro D H1 v0 v2 v4 v5 v6 v7 v8 v10 v11 v12 k pl cb sl ll c us ps rows n sts lf dk hc npk hpl lu l1 l8 hC lr nx
  obtain ⟨dx,_,_,c1,_⟩:=id hC
  refine ⟨_,rfl,cb,dx,_,rfl,c1,rfl,cb,sl,ll,rows,n,sts,lf,rfl,hC,fun l us2 hl pr=>?_⟩
  have s1:=same_new hl (.lst us2)
  have w1:upd H1 l (.lst us2) l = some (.lst us2):=upd_same
  have nlk:l≠k:=fun z=>dk.ne hl z.symm
  have d1:=deck_same dk s1
  try dsimp only
  generalize upd H1 l (.lst us2) = M1 at *
  refine ⟨_,rfl,_,rfl,pl,us,rfl,.inl (SqL.of (s1 _ _ hpl)),k,c,_,rfl,d1,by omega,by omega,by omega,fun j c2 M2 k2 d2 e2 g2 l2=>?_⟩
  have hj:j.toNat < rows.length:=by omega
  obtain ⟨_,eu,u,r,rfl,h1,h2⟩:=paired_get pr j.toNat hj
  have tk:∀ b xs,H1 b = some (.tup xs)→M2 b = some (.tup xs):=fun b xs e=>keep_tp d1 k2 _ _ (s1 _ _ e)
  refine ⟨l,us2,j,_,rfl,rfl,SqL.of (k2 _ _ nlk w1),(by rw [show j = ((j.toNat:Nat):Int) by omega]; exact atI_nat eu),u,_,rfl,SqT.of (tk _ _ h1),rfl,_,_,rfl,_,_,rfl,rfl,?_⟩
  exact nx j.toNat hj r c2 M2 (fun b o n e=>k2 _ _ n (s1 _ _ e)) d2 (by omega) (h2.up tk)
end
end K27
namespace K27
open PySem L2 HT PySem.W
section
variable {P:Program} {w:World} {K:PySem.W.Frag} {mg:Str→Option Value} {base:Heap}
def nmRw:List (Str × NameKind):=[(".0",.local),("row",.local),("number",.free)]
theorem ndRw:(["row","number"]:List Str).Nodup:=by decide +kernel
abbrev tcIn (K:PySem.W.Frag) (neg:Bool):TT:=tTest (tOp (rIn K neg) (tVar 1) (tSl (rSlT K) (tVar 0) tNoPart (tPart (tC (.int 2)))))
theorem in_two {k x y:Nat} (t:Tr4):inV (.int k) [.int x,.int y] = hasN k (x,y,t):=by
  unfold inV hasN
  have e:∀ i j:Nat,eqV (.int (i:Int)) (.int (j:Int)) = decide (i = j):=fun i j=>by
    by_cases h:i = j
    · subst h; simp [eqV]
    · rw [decide_eq_false h]
      simp [eqV]
      omega
  show (eqV (.int x) (.int k) || (eqV (.int y) (.int k) || false)) = _
  rw [e,e,Bool.or_false]
theorem own_comp (neg:Bool) {H1:Hp} {L a:Addr} {ws:List V} {rs:List Row3} {k:Nat} {Q:VK} (hL:H1 L = none) (h:H1 a = some (.lst ws)) (pr:Paired (Rw3At H1) ws rs) (hl:rs.length≤1000)
    (q:∀ ys J,Same H1 J→J L = some (.lst ys)→Paired (Rw3At J) ys (rs.filter fun r=>if neg then !hasN k r else hasN k r)→Q (.ref L) J) :
    LCok (Itl K a) (gName 0) (tcIn K neg) (tVar 0) [none,some (.int k)] H1 Q L:=by
  have lu:=paired_len pr
  refine lc_fill (n:=ws.length) (f:=fun i=>ws.getD i .non) (fun j ys σ' J=>(∃ v,σ' = [v,some (.int k)])∧Same H1 J∧Paired (Rw3At J) ys ((rs.take j).filter fun r=>if neg then !hasN k r else hasN k r)) hL (by omega) ⟨⟨_,rfl⟩,K27V.same_upd (Same.refl _) hL,.nil⟩ (fun j ys σ' J hj hy ⟨_,sj,_⟩=>itl_list (K:=K) (SqL.of (sj _ _ h)) j hj) ?_ ?_
  · rintro j ys σ' J hj hy ⟨⟨v,rfl⟩,sj,pj⟩
    have hjr:j < rs.length:=by omega
    obtain ⟨u,eu,b,r,rfl,e1,e2⟩:=paired_get pr j hjr
    rw [getD_some eu]
    refine ⟨_,rfl,_,rfl,_,rfl,b,_,rfl,SqT.of (sj _ _ e1),(show ¬ (sIx 3 0 none = 0∧sIx 3 3 (some 2) = 3) by decide +kernel),fun x hx=>?_⟩
    have sx:=same_new hx (.tup [.int rs[j].1,.int rs[j].2.1])
    have wx:upd J x (.tup [.int rs[j].1,.int rs[j].2.1]) x = some (.tup [.int rs[j].1,.int rs[j].2.1]):=upd_same
    have ec:cutV [V.int rs[j].1,V.int rs[j].2.1,V.ref r] none (some 2) = [.int rs[j].1,.int rs[j].2.1]:=rfl
    rw [ec]
    generalize upd J x (.tup [.int rs[j].1,.int rs[j].2.1]) = J2 at *
    have hy2:=sx _ _ hy
    have sj2:=sj.trans sx
    refine ⟨x,_,rfl,.inr (SqT.of wx),rfl,rfl,_,rfl,?_⟩
    rw [in_two rs[j].2.2,take_get hjr,flt_any]
    have pj2:Paired (Rw3At J2) ys ((rs.take j).filter fun r=>if neg then !hasN k r else hasN k r):=Paired.mono pj fun _ _ z=>z.up fun c xs e=>sx _ _ e
    by_cases e:(if neg = true then !hasN k rs[j] else hasN k rs[j]) = true
    · refine ite_yes e ?_
      have tk':∀ c xs,J2 c = some (.tup xs)→upd J2 L (.lst (ys ++ [.ref b])) c = some (.tup xs):=fun c xs e=>by rw [upd_ne (fun z=>by rw [z,hy2] at e; cases e)]; exact e
      refine ⟨_,rfl,hy2,⟨_,rfl⟩,K27V.same_upd sj2 hL,?_⟩
      rw [if_pos e]
      exact Paired.snoc (Paired.mono pj2 fun _ _ z=>z.up tk') ⟨b,r,rfl,tk' _ _ (sj2 _ _ e1),e2.up fun c xs e=>tk' _ _ (sj2 _ _ e)⟩
    · refine ite_no e ?_
      refine ⟨hy2,⟨_,rfl⟩,sj2,?_⟩
      rw [if_neg e]
      exact pj2
  · rintro ys σ' J hy ⟨_,sj,pj⟩
    rw [lu,List.take_length] at pj
    exact q ys J sj hy pj
theorem x3 {f:Addr} {cdv:Value} {A:Around} {outer:List Env} {s:Shared} {H:Hp} {E:XK} (hr:Room 7 (A.deeper (PyProof.Rows.envOfC "law" (defScope sLaw) s.heap.objs.size f cdv))) {C:Addr} (DT:DfM P w K mg base 5 C "trials" ["self"] (spTrs C)):∃ t3 t4,PS (cxOf CX0 P w K mg base nLaw "law" (defScope sLaw) f cdv A outer s H E).nox (loopRow 3) t3∧PS (cxOf CX0 P w K mg base nLaw "law" (defScope sLaw) f cdv A outer s H E).nox (loopRow 4) t4∧∀ (D:Ends) (H1:Hp) (v0 v1 v2 v3 v4 v5 v6 v7 v8 v11 v12:Option V) (cb sl ll:Addr) (rows:Rows) (n k:Nat) (sts:List (Rows × Nat)) (lf:Nat),ClubG C H1 cb sl ll (sts ++ [(rows,n)]) lf→(∀ x∈rows,PcOk x.2∧Crews x.2)→rows.length≤8→(alG rows).length≤40 →
    (∀ (o r:Addr) (yo yr:List V) H2,Same H1 H2→H2 o = some (.lst yo)→H2 r = some (.lst yr)→H1 o = none→H1 r = none→yo.length + yr.length = (alG rows).length→Paired (Rw3At H2) yr (alG (rows.filter fun x=>!decide (x.1 = k)))→D.nx [v0,v1,v2,v3,v4,v5,v6,v7,v8,some (.ref cb),some (.int k),some (.ref o),some (.ref r)] H2) →
    tSeq t3 t4 D [v0,v1,v2,v3,v4,v5,v6,v7,v8,some (.ref cb),some (.int k),v11,v12] H1:=by
  have hr5:=hr.mono (j:=5) (by decide)
  refine ⟨_,_,ps_setLC (i0:=11) (N:=["row","number"]) (g:=gName 0) (tc:=tcIn K false) (te:=tVar 0) scLaw.nd rfl (Or.inl rfl) rfl (pi_list (pe_dm0 DT hr5 (pv 9))) (BlkOk.one (v:="row") (fr:="number") (j:=10) (nm:=nmRw) rfl rfl rfl rfl (by decide +kernel) (by decide +kernel) (by decide +kernel) (by decide +kernel) (by decide +kernel))
      (fun _ _ _=>pg_name (i:=0) ndRw rfl (Or.inl rfl)) (fun _ _ _=>pts_one (pt_cmpR op_in_seq (pv 1) (pe_slice sl_tup (pv 0) po_none (po_some pe_int)) rfl)) (fun _ _ _=>pv 0),
    ps_setLC (i0:=12) (N:=["row","number"]) (g:=gName 0) (tc:=tcIn K true) (te:=tVar 0) scLaw.nd rfl (Or.inl rfl) rfl (pi_list (pe_dm0 DT hr5 (pv 9))) (BlkOk.one (v:="row") (fr:="number") (j:=10) (nm:=nmRw) rfl rfl rfl rfl (by decide +kernel) (by decide +kernel) (by decide +kernel) (by decide +kernel) (by decide +kernel))
      (fun _ _ _=>pg_name (i:=0) ndRw rfl (Or.inl rfl)) (fun _ _ _=>pts_one (pt_cmpR op_notIn_seq (pv 1) (pe_slice sl_tup (pv 0) po_none (po_some pe_int)) rfl)) (fun _ _ _=>pv 0),?_⟩
  intro D H1 v0 v1 v2 v3 v4 v5 v6 v7 v8 v11 v12 cb sl ll rows n k sts lf hC hok l8 la nx
  obtain ⟨dx,_,_,c1,_⟩:=id hC
  refine ⟨_,rfl,cb,dx,_,rfl,c1,rfl,cb,sl,ll,rows,n,sts,lf,rfl,hC,hok,by omega,fun l ws M1 s1 hl pr=>?_⟩
  refine ⟨l,rfl,⟨_,SqL.of hl⟩,fun o ho=>?_⟩
  refine own_comp false ho hl pr (by omega) fun yo M2 s2 hyo po=>?_
  have s12:=s1.trans s2
  refine ⟨_,rfl,cb,dx,_,rfl,s12 _ _ c1,rfl,cb,sl,ll,rows,n,sts,lf,rfl,hC.same s12,hok,by omega,fun l3 ws3 M3 s3 hl3 pr3=>?_⟩
  refine ⟨l3,rfl,⟨_,SqL.of hl3⟩,fun r hr0=>?_⟩
  refine own_comp true hr0 hl3 pr3 (by omega) fun yr M4 s4 hyr pr4=>?_
  have lo:=paired_len po
  have lr:=paired_len pr4
  have fb:=flt_both (hasN k) (alG rows)
  simp only [Bool.false_eq_true,if_false,if_true] at lo lr pr4
  rw [alG_flt] at pr4
  have lo':yo.length = ((alG rows).filter (hasN k)).length:=lo
  exact nx o r yo yr M4 ((s12.trans s3).trans s4) (s4 _ _ (s3 _ _ hyo)) hyr (none_same s1 ho) (none_same (s12.trans s3) hr0) (by omega) pr4
end
end K27
namespace K27
open PySem L2 HT PySem.W
theorem flt_none {l:Rows} {k:Nat} (h:k ∉ l.map (·.1)):(l.filter fun x=>!decide (x.1 = k)) = l:=List.filter_eq_self.mpr fun x hx=>by
  have:x.1≠k:=fun z=>h (List.mem_map.mpr ⟨x,hx,z⟩)
  simp [this]
theorem out_in:∀ {l:Rows} (i:Nat) (hi:i < l.length),(l.map (·.1)).Nodup→((l.filter fun x=>!decide (x.1 = l[i].1)) ++ [l[i]]).Perm l
  | x :: l,0,_,nd=>by
    have nd':=List.nodup_cons.mp (show (x.1 :: l.map (·.1)).Nodup from nd)
    show ((List.filter _ (x :: l)) ++ [x]).Perm (x :: l)
    rw [List.filter_cons_of_neg (by simp),show (l.filter fun y=>!decide (y.1 = (x :: l)[0].1)) = l from flt_none nd'.1]
    exact List.perm_append_singleton _ _
  | x :: l,i + 1,hi,nd=>by
    have nd':=List.nodup_cons.mp (show (x.1 :: l.map (·.1)).Nodup from nd)
    have hi':i < l.length:=by simpa using hi
    have ne:x.1≠l[i].1:=fun z=>nd'.1 (List.mem_map.mpr ⟨_,List.getElem_mem hi',z.symm⟩)
    have ih:=out_in i hi' nd'.2
    show ((List.filter (fun y=>!decide (y.1 = l[i].1)) (x :: l)) ++ [l[i]]).Perm (x :: l)
    rw [List.filter_cons_of_pos (by simp [ne])]
    exact ih.cons x
theorem Made.again {rows:Rows} {n:Nat} {ps:List Pce} (m:Made rows n ps) (i:Nat) (hi:i < rows.length):Made ((rows.filter fun x=>!decide (x.1 = rows[i].1)) ++ [(n,rows[i].2)]) (n + 1) ps:=by
  have p:=(out_in i hi m.nd).map (·.2)
  rw [List.map_append] at p
  refine ⟨?_,?_,fun x hx=>?_⟩
  · rw [List.map_append]; exact p.trans m.pm
  · rw [List.map_append]
    refine nodup_snoc' (List.Nodup.sublist ((List.filter_sublist).map _) m.nd) fun z=>?_
    obtain ⟨x,hx,e⟩:=List.mem_map.mp z
    have:=m.lt x (List.mem_filter.mp hx).1
    dsimp only at e
    omega
  · rcases List.mem_append.mp hx with h | h
    · have:=m.lt x (List.mem_filter.mp h).1; omega
    · rw [List.mem_singleton.mp h]; show n < n + 1; omega
theorem rwG_num {n:Nat} {x:Nat × Pce} (hx:x.1 < n) (ox:PcOk x.2):∀ {ys:Rows},(∀ y∈ys,y.1 < n)→(∀ y∈ys,PcOk y.2)→∀ r∈rwG x ys,r.1 < n∧r.2.1 < n∧TrOk r.2.2
  | [],_,_,r,hr=>by cases hr
  | y :: ys,h,o,r,hr=>by
    rcases List.mem_append.mp (show r∈row1 x.1 y.1 (toldF x.2 y.2) ++ rwG x ys from hr) with h1 | h1
    · have tk:∀ t∈(toldF x.2 y.2).toList,TrOk t:=fun t ht=>tl_ok ox (o y (by simp)) ht
      cases e:toldF x.2 y.2 with
      | none=>rw [e] at h1; cases h1
      | some t =>
        rw [e] at h1 tk
        rw [List.mem_singleton.mp (show r∈[(x.1,y.1,t)] from h1)]
        exact ⟨hx,h y (by simp),tk t (by simp)⟩
    · exact rwG_num hx ox (fun y hy=>h y (List.mem_cons_of_mem _ hy)) (fun y hy=>o y (List.mem_cons_of_mem _ hy)) r h1
theorem alG_num {n:Nat}:∀ {xs:Rows},(∀ y∈xs,y.1 < n)→(∀ y∈xs,PcOk y.2)→∀ r∈alG xs,r.1 < n∧r.2.1 < n∧TrOk r.2.2
  | [],_,_,r,hr=>by cases hr
  | x :: xs,h,o,r,hr=>by
    rcases List.mem_append.mp (show r∈rwG x xs ++ alG xs from hr) with h1 | h1
    · exact rwG_num (h x (by simp)) (o x (by simp)) (fun y hy=>h y (List.mem_cons_of_mem _ hy)) (fun y hy=>o y (List.mem_cons_of_mem _ hy)) r h1
    · exact alG_num (fun y hy=>h y (List.mem_cons_of_mem _ hy)) (fun y hy=>o y (List.mem_cons_of_mem _ hy)) r h1
theorem alG_len (rows:Rows):(alG rows).length = (trsOf rows).length:=by unfold trsOf; rw [List.length_map]
section
variable {P:Program} {w:World} {K:PySem.W.Frag} {mg:Str→Option Value} {base:Heap}
theorem x5 {f:Addr} {cdv:Value} {A:Around} {outer:List Env} {s:Shared} {H:Hp} {E:XK} (hr:Room 7 (A.deeper (PyProof.Rows.envOfC "law" (defScope sLaw) s.heap.objs.size f cdv))) (T:Txt mg) {C:Addr} (DS:DfM P w K mg base 2 C "strike" ["self","number"] (spStr C)) (DT:DfM P w K mg base 5 C "trials" ["self"] (spTrs C)) (DE:DfM P w K mg base 4 C "tell" ["self","piece"] (spTell C)) (DO:Df P w K mg base 7 "_law_told" ["club"] (spTold C)):∃ t5 t6 t7 t8,PS (cxOf CX0 P w K mg base nLaw "law" (defScope sLaw) f cdv A outer s H E).nox (loopRow 5) t5∧PS (cxOf CX0 P w K mg base nLaw "law" (defScope sLaw) f cdv A outer s H E).nox (loopRow 6) t6∧PS (cxOf CX0 P w K mg base nLaw "law" (defScope sLaw) f cdv A outer s H E).nox (loopRow 7) t7∧PS (cxOf CX0 P w K mg base nLaw "law" (defScope sLaw) f cdv A outer s H E).nox (loopRow 8) t8∧∀ (D:Ends) (H1:Hp) (v0 v1 v2 v3 v4 v6 v8:Option V) (cb sl ll rp t a b o r:Addr) (us uT yo yr:List V) (ps:List Pce) (rows rows1:Rows) (n n1:Nat) (sts:List (Rows × Nat)) (lf:Nat) (ts:List Tr4) (vs:List Str) (i:Nat) (hi:i < rows.length),
    ClubG C H1 cb sl ll (sts ++ [(rows,n)]) lf→Made rows n ps→Made rows1 n1 ps→(∀ q∈ps,PcOk q∧Crews q)→ps.length≤8→n≤16→sts.length≤24→PcAt H1 rp rows[i].2 →
    H1 t = some (.tup [.ref a,.ref b])→H1 a = some (.lst uT)→TrL H1 uT ts→H1 b = some (.lst (vs.map V.str))→Tld rows1 ts vs→a≠cb→a≠sl→b≠cb→b≠sl →
    H1 o = some (.lst yo)→H1 r = some (.lst yr)→yo.length + yr.length = (alG rows).length→Paired (Rw3At H1) yr (alG (rows.filter fun x=>!decide (x.1 = rows[i].1)))→o≠cb→o≠sl→r≠cb→r≠sl →
    (∀ H2,Kp2 cb sl H1 H2→D.nx [v0,v1,v2,v3,v4,some (.ref rp),v6,some (.ref t),v8,some (.ref cb),some (.int rows[i].1),some (.ref o),some (.ref r)] H2) →
    tSeq t5 (tSeq t6 (tSeq t7 t8)) D [v0,v1,v2,v3,v4,some (.ref rp),v6,some (.ref t),v8,some (.ref cb),some (.int rows[i].1),some (.ref o),some (.ref r)] H1:=by
  have hr5:=hr.mono (j:=5) (by decide)
  have hr4:=hr.mono (j:=4) (by decide)
  have hr2:=hr.mono (j:=2) (by decide)
  refine ⟨_,_,_,_,ps_expr (pe_dm DS hr2 (pv 9) (pa_cons (pv 10) pa_nil)),
    ps_if (PW.pt (pw_or (pt_cmpR (op_neD hr.units) (pe_dm0 DT hr5 (pv 9)) (pv 12) (nomark _)) (pw_or1 (pt_cmpR op_ne (pe_op op_add (pe_callB call_len_seq rfl T.len PySem.boot_len (pa_cons (pv 11) pa_nil)) (pe_callB call_len_seq rfl T.len PySem.boot_len (pa_cons (pv 12) pa_nil))) (pe_callB call_len_seq rfl T.len PySem.boot_len (pa_cons (pe_ix ix_tup (pv 7) pe_int (fun _ _=>rfl)) pa_nil)) (nomark _))))) pss_never pss_nil,
    ps_expr (pe_dm DE hr4 (pv 9) (pa_cons (pv 5) pa_nil)),ps_if (pt_cmpR (op_neD hr.units) (pe_df DO hr (pa_cons (pv 9) pa_nil)) (pv 7) (nomark _)) pss_never pss_nil,?_⟩
  intro D H1 v0 v1 v2 v3 v4 v6 v8 cb sl ll rp t a b o r us uT yo yr ps rows rows1 n n1 sts lf ts vs i hi hC md md1 hok l8 n16 s24 hP ht ha tr hb tl acb asl bcb bsl ho hr0 ll0 pyr ocb osl rcb rsl nx
  obtain ⟨dx,vv,ww,c1,c2,c3,c4,c5,c6,c7,c8⟩:=id hC
  have lr:=md.len
  have ho':=md.ok hok
  refine ⟨_,rfl,cb,dx,_,rfl,c1,rfl,_,rfl,cb,sl,ll,rows[i].1,n,rows,sts,lf,rfl,hC,by omega,by omega,List.mem_map.mpr ⟨_,List.getElem_mem hi,rfl⟩,fun ll2 H2 k2 e2 hC2=>?_⟩
  have tk2:∀ b xs,H1 b = some (.tup xs)→H2 b = some (.tup xs):=fun b xs e=>k2 _ _ (fun z=>by rw [z,c1] at e; cases e) (fun z=>by rw [z,c5] at e; cases e) e
  obtain ⟨dx2,_,_,d1,_⟩:=id hC2
  have fl:=List.length_filter_le (fun x:Nat × Pce=>!decide (x.1 = rows[i].1)) rows
  have ok2:∀ x∈rows.filter (fun x=>!decide (x.1 = rows[i].1)),PcOk x.2∧Crews x.2:=fun x hx=>ho' x (List.mem_filter.mp hx).1
  have num:=alG_num (n:=n) (fun y hy=>md.lt y (List.mem_filter.mp hy).1) (fun y hy=>(ok2 y hy).1)
  refine ⟨_,rfl,cb,dx2,_,rfl,d1,rfl,cb,sl,ll2,_,n,_,0,rfl,hC2,ok2,by omega,fun l3 ws3 H3 s3 hl3 pr3=>?_⟩
  have t32:(alG rows).length≤32:=by rw [alG_len]; exact md.trs l8
  obtain ⟨q1,T1⟩:=rws_tells hl3 pr3
  have hr3:=s3 _ _ (k2 _ _ rcb rsl hr0)
  obtain ⟨q2,T2⟩:=rws_tells hr3 (Paired.mono pyr fun _ _ z=>z.up fun b xs e=>s3 _ _ (tk2 _ _ e))
  have lyr:=paired_len pyr
  have ly:Lay (.list ((alG (rows.filter fun x=>!decide (x.1 = rows[i].1))).map rwD)):=lay_rws (fun r hr=>by
    obtain ⟨h1,h2,h3⟩:=num r hr
    exact ⟨by omega,by omega,h3⟩) (by omega)
  refine ⟨_,rfl,q1,q2,_,_,T1,T2,ly,ly,_,rfl,?_⟩
  rw [eqv_rws]
  refine ite_no (by decide) ?_
  have ho3:=s3 _ _ (k2 _ _ ocb osl ho)
  have ha3:=s3 _ _ (k2 _ _ acb asl ha)
  have lt:=paired_len tr
  have lts:ts.length = (alG rows).length:=by
    rw [tl.pm.length_eq,alG_len,trsOf_tps,trsOf_tps]
    exact (tps_perm (md1.pm.trans md.pm.symm) fun q hq=>(hok q (md1.pm.mem_iff.mp hq)).2).length_eq
  refine ⟨_,rfl,o,yo,rfl,.inl (SqL.of ho3),_,rfl,r,yr,rfl,.inl (SqL.of hr3),_,_,rfl,rfl,_,rfl,t,_,0,_,rfl,rfl,SqT.of (s3 _ _ (tk2 _ _ ht)),atI_nat (j:=0) rfl,a,uT,rfl,.inl (SqL.of ha3),rfl,_,rfl,?_⟩
  refine ite_no (by show ¬ (!decide (V.int ((yo.length:Int) + (yr.length:Int)) = V.int (uT.length:Int))) = true; rw [show ((yo.length:Int) + (yr.length:Int)) = (uT.length:Int) by omega]; simp) ?_
  have hC3:=hC2.same s3
  obtain ⟨dx3,_,_,d31,_,_,_,d35,_⟩:=id hC3
  have tk3:∀ b xs,H1 b = some (.tup xs)→H3 b = some (.tup xs):=fun b xs e=>s3 _ _ (tk2 _ _ e)
  have okp:=ho' _ (List.getElem_mem hi)
  refine ⟨_,rfl,cb,dx3,_,rfl,d31,rfl,_,rfl,cb,sl,ll2,rp,rows[i].2,n,_,_,0,rfl,hC3,by rw [List.length_append,List.length_singleton]; omega,by omega,by omega,hP.up tk3,okp.1,okp.2,fun ll4 H4 k4 e4 hC4=>?_⟩
  have md4:=md.again i hi
  have t4:=md4.trs l8
  have tk4:∀ b xs,H1 b = some (.tup xs)→H4 b = some (.tup xs):=fun b xs e=>k4 _ _ (fun z=>by rw [z,c1] at e; cases e) (fun z=>by rw [z,c5] at e; cases e) (tk3 _ _ e)
  refine ⟨_,rfl,cb,sl,ll4,_,n + 1,_,0,rfl,hC4,md4.ok hok,by rw [md4.len]; omega,by omega,fun t5 a5 b5 us5 ts5 vs5 H5 s5 a0 b0 ht5 ha5 tr5 pm5 so5 hb5 vr5=>?_⟩
  have ks:Kp2 cb sl H1 H5:=fun b o n1 n2 e=>s5 _ _ (k4 _ _ n1 n2 (s3 _ _ (k2 _ _ n1 n2 e)))
  obtain ⟨z1,z2,d,Z1,Z2,zl,ev⟩:=told_eq (s5 _ _ (tk4 _ _ ht)) (ks _ _ acb asl ha) (tr.up fun b xs e=>s5 _ _ (tk4 _ _ e)) (ks _ _ bcb bsl hb) tl ht5 ha5 tr5 hb5 ⟨pm5,so5,vr5⟩ md1 md4 hok l8
  refine ⟨_,rfl,z1,z2,d,d,Z1,Z2,zl,zl,_,rfl,?_⟩
  rw [ev]
  exact ite_no (by decide) (nx H5 ks)
end
end K27
namespace K27
open PySem L2 HT PySem.W
theorem eqv_vs (vs:List Str):PyData.eqv (.list (vs.map .str)) (.list (vs.map .str)) = true:=by rw [eqv_strL]; simp
theorem vs_tells {H:Hp} {b:Addr} {vs:List Str} (h:H b = some (.lst (vs.map V.str))):Tells H (b + 1) (.list (vs.map .str)) (.ref b):=tells_list.mpr ⟨b,_,rfl,(fun z=>absurd z (Nat.ne_of_lt (Nat.lt_succ_self b))),h,strs_tells vs⟩
theorem lay_vs {vs:List Str} (hv:∀ v∈vs,vWord v) (lv:vs.length≤64):Lay (.list (vs.map .str)):=by
  refine (Bd.list (n:=1) (p:=0) (m:=64) (fun x hx=>?_) (by rw [List.length_map]; exact lv)).lay (by decide)
  obtain ⟨v,hv',rfl⟩:=List.mem_map.mp hx
  have:=word_ok (hv v hv')
  exact bd_str this.2 this.1
section
variable {P:Program} {w:World} {K:PySem.W.Frag} {mg:Str→Option Value} {base:Heap}
theorem w8 {f:Addr} {cdv:Value} {A:Around} {outer:List Env} {s:Shared} {H:Hp} {E:XK} (hr:Room 7 (A.deeper (PyProof.Rows.envOfC "law" (defScope sLaw) s.heap.objs.size f cdv))) (T:Txt mg) {C:Addr} (DE:DfM P w K mg base 4 C "tell" ["self","piece"] (spTell C)) (DO:Df P w K mg base 7 "_law_told" ["club"] (spTold C)):∃ t',PS (cxOf CX0 P w K mg base nLaw "law" (defScope sLaw) f cdv A outer s H E).nox (lawRow 8) t'∧∀ (D:Ends) (H1:Hp) (v0 v1 v2 v4 v5 v8 v9 v10 v11 v12:Option V) (k pl cb sl ll t a b:Addr) (c:Int) (us:List V) (ps:List Pce) (rows:Rows) (n:Nat) (sts:List (Rows × Nat)) (lf:Nat) (uT:List V) (ts:List Tr4) (vs:List Str),Lw C H1 k pl cb sl ll t a b c us ps rows n sts lf uT ts vs →
    (∀ σ H2,D.nx σ H2)→t' D [v0,v1,v2,some (.ref pl),v4,v5,some (.ref cb),some (.ref t),v8,v9,v10,v11,v12] H1:=by
  have hr4:=hr.mono (j:=4) (by decide)
  refine ⟨_,ps_if (pt_cmpR op_lt (pe_callB call_len_seq rfl T.len PySem.boot_len (pa_cons (pe_ix ix_tup (pv 7) pe_int (fun _ _=>rfl)) pa_nil)) pe_int (nomark _))
    (pss_cons (ps_for PassesOwn.never rfl (pi_list (pv 3)) (pg_name (i:=5) scLaw.nd rfl (Or.inl rfl)) (pss_one (ps_expr (pe_dm DE hr4 (pv 6) (pa_cons (pv 5) pa_nil)))))
    (pss_one (ps_if (pt_cmpR (op_neD hr.units) (pe_ix ix_tup (pe_df DO hr (pa_cons (pv 6) pa_nil)) pe_int (fun _ _=>rfl)) (pe_ix ix_tup (pv 7) pe_int (fun _ _=>rfl)) (nomark _)) pss_never pss_nil))) pss_nil,?_⟩
  intro D H1 v0 v1 v2 v4 v5 v8 v9 v10 v11 v12 k pl cb sl ll t a b c us ps rows n sts lf uT ts vs L nx
  refine ⟨_,rfl,t,_,0,_,rfl,rfl,SqT.of L.ht,atI_nat (j:=0) rfl,a,uT,rfl,.inl (SqL.of L.ha),_,_,rfl,rfl,_,rfl,?_⟩
  refine ite2 (fun h11=>?_) (fun _=>nx _ _)
  have lt:=paired_len L.tr
  have l11:ts.length < 11:=by have:=of_decide_eq_true h11; omega
  have lus:=paired_len L.hps
  obtain ⟨dx0,vv0,ww0,c1,c2,c3,c4,c5,c6,c7,c8⟩:=id L.cl
  have l8:=L.l8
  have s24:=L.s24
  have n16:=L.n16
  refine ⟨_,rfl,pl,rfl,⟨_,SqL.of L.hpl⟩,for_list (K:=K) (a:=pl) (xs:=us) (fun i σ' H'=>∃ (w5:Option V) (ll':Addr) (rows':Rows) (sts':List (Rows × Nat)) (lf':Nat),σ' = [v0,v1,v2,some (.ref pl),v4,w5,some (.ref cb),some (.ref t),v8,v9,v10,v11,v12]∧Kp2 cb sl H1 H'∧ClubG C H' cb sl ll' (sts' ++ [(rows',n + i)]) lf'∧rows'.map (·.2) = rows.map (·.2) ++ ps.take i∧sts'.length≤24 + i)
    ⟨_,ll,rows,sts,lf,rfl,fun _ _ _ _ e=>e,L.cl,by simp,by omega⟩ (fun i σ' H' _ h=>by obtain ⟨_,_,_,_,_,_,kp,_⟩:=h; exact SqL.of (kp _ _ L.pcb L.psl L.hpl)) ?_ ?_⟩
  · rintro i y σ' H3 hi ⟨w5,ll',rows',sts',lf',rfl,kp,hC,er,s3⟩
    have hiu:i < us.length:=(List.getElem?_eq_some_iff.mp hi).1
    have hip:i < ps.length:=by omega
    obtain ⟨_,ey,r,rfl,hP⟩:=paired_get L.hps i hip
    rw [ey] at hi
    cases hi
    have okp:=L.ok _ (List.getElem_mem hip)
    have tk:∀ b xs,H1 b = some (.tup xs)→H3 b = some (.tup xs):=fun b xs e=>kp _ _ (fun z=>by rw [z,c1] at e; cases e) (fun z=>by rw [z,c5] at e; cases e) e
    obtain ⟨dx,_,_,d1,_⟩:=id hC
    have lr:rows'.length = rows.length + i:=by have:=congrArg List.length er; rw [List.length_map,List.length_append,List.length_map,List.length_take] at this; omega
    have lr0:=L.md.len
    refine K27V.g_name ?_
    refine ⟨_,rfl,cb,dx,_,rfl,d1,rfl,_,rfl,cb,sl,ll',r,ps[i],n + i,rows',sts',lf',rfl,hC,by omega,by omega,by omega,hP.up tk,okp.1,okp.2,fun ll4 H4 k4 e4 hC4=>?_⟩
    refine ⟨_,ll4,_,_,0,rfl,fun b o n1 n2 e=>k4 _ _ n1 n2 (kp _ _ n1 n2 e),hC4,?_,by rw [List.length_append,List.length_singleton]; omega⟩
    rw [List.map_append,er,take_get hip,List.append_assoc]; rfl
  · rintro σ' H3 ⟨w5,ll',rows',sts',lf',rfl,kp,hC,er,s3⟩
    rw [show ps.take us.length = ps from List.take_of_length_le (by omega)] at er
    have tk:∀ b xs,H1 b = some (.tup xs)→H3 b = some (.tup xs):=fun b xs e=>kp _ _ (fun z=>by rw [z,c1] at e; cases e) (fun z=>by rw [z,c5] at e; cases e) e
    have ok':∀ x∈rows',PcOk x.2∧Crews x.2:=fun x hx=>by
      have:x.2∈rows'.map (·.2):=List.mem_map.mpr ⟨x,hx,rfl⟩
      rw [er] at this
      rcases List.mem_append.mp this with h | h
      · exact L.ok _ (L.md.pm.mem_iff.mp h)
      · exact L.ok _ h
    have lr:rows'.length = rows.length + ps.length:=by have:=congrArg List.length er; rwa [List.length_map,List.length_append,List.length_map] at this
    have lr0:=L.md.len
    have cr:∀ q∈ps,Crews q:=fun q hq=>(L.ok q hq).2
    have l4:(trsOf rows').length≤40:=by
      have c':∀ q∈rows.map (·.2),Crews q:=fun q hq=>cr q (L.md.pm.mem_iff.mp hq)
      have h1:(tps (rows.map (·.2))).length < 11:=by rw [← trsOf_tps,← L.tl.pm.length_eq]; exact l11
      rw [trsOf_tps,er,tps_twice L.md.pm.symm c']; omega
    refine ⟨_,rfl,cb,sl,ll',rows',n + us.length,sts',lf',rfl,hC,ok',by omega,by omega,fun t5 a5 b5 us5 ts5 vs5 H5 s5 a0 b0 ht5 ha5 tr5 pm5 so5 hb5 vr5=>?_⟩
    obtain ⟨ev,_⟩:=Tld.twice (qs:=[]) L.tl ⟨pm5,so5,vr5⟩ L.md.pm er cr l11
    subst ev
    have hb3:=s5 _ _ (kp _ _ L.bcb L.bsl L.hb)
    have lv:=lay_vs (verl_words vr5) (by rw [paired_len vr5]; decide)
    refine ⟨t5,_,1,_,rfl,rfl,SqT.of ht5,atI_nat (j:=1) rfl,_,rfl,t,_,1,_,rfl,rfl,SqT.of (s5 _ _ (tk _ _ L.ht)),atI_nat (j:=1) rfl,_,_,_,_,vs_tells hb5,vs_tells hb3,lv,lv,_,rfl,?_⟩
    rw [eqv_vs]
    exact ite_no (by decide) (nx _ _)
end
end K27
namespace K27
open PySem L2 HT PySem.W
theorem sq1 {t u:TS} {D:Ends} {σ:St} {H:Hp} (h:t { D with nx:=u D } σ H):tSeq t u D σ H:=h
theorem sq2 {t u R:TS} {D:Ends} {σ:St} {H:Hp} (h:tSeq t u { D with nx:=R D } σ H):tSeq t (tSeq u R) D σ H:=h
theorem sq3 {t u v R:TS} {D:Ends} {σ:St} {H:Hp} (h:tSeq t (tSeq u v) { D with nx:=R D } σ H):tSeq t (tSeq u (tSeq v R)) D σ H:=h
theorem Lw.keep {C:Addr} {H H':Hp} {k pl cb sl ll t a b:Addr} {c c':Int} {us:List V} {ps:List Pce} {rows:Rows} {n:Nat} {sts:List (Rows × Nat)} {lf:Nat} {uT:List V} {ts:List Tr4} {vs:List Str} (L:Lw C H k pl cb sl ll t a b c us ps rows n sts lf uT ts vs) (kp:Keep k H H') (d:DeckAt H' k c'):Lw C H' k pl cb sl ll t a b c' us ps rows n sts lf uT ts vs :=
  ⟨d,L.npk,kp _ _ L.npk L.hpl,L.hps.up (keep_tp L.dk kp),L.ok,L.l1,L.l8,L.cl.keep L.dk kp L.kcb L.ksl L.kll,L.md,L.n16,L.s24,L.pcb,L.psl,L.kcb,L.ksl,L.kll,keep_tp L.dk kp _ _ L.ht,kp _ _ L.ak L.ha,L.tr.up (keep_tp L.dk kp),kp _ _ L.bk L.hb,L.tl,L.ak,L.bk,L.acb,L.asl,L.bcb,L.bsl⟩
theorem cut_in {xs:List V} {lo hi:Option Int} {x:V} (h:x∈cutV xs lo hi):x∈xs:=by
  unfold cutV at h
  exact List.mem_of_mem_drop (List.mem_of_mem_take h)
theorem cut_len (xs:List V) (lo hi:Option Int):(cutV xs lo hi).length≤xs.length:=by
  unfold cutV
  rw [List.length_take,List.length_drop]; omega
section
variable {P:Program} {w:World} {K:PySem.W.Frag} {mg:Str→Option Value} {base:Heap}
theorem seq_at {H H':Hp} {a:Addr} {xs:List V} (h:SqL K H a xs) (e:∀ o,H a = some o→H' a = some o):SqL K H' a xs:=by
  rcases h with (h | ⟨o,h⟩) | h
  · exact .inl (.inl (e _ h))
  · exact .inl (.inr ⟨o,e _ h⟩)
  · exact .inr h
theorem body_eq:defBody sLaw = [lawRow 0,lawRow 1,lawRow 2,lawRow 3,lawRow 4,lawRow 5,lawRow 6,lawRow 7,lawRow 8,lawRow 9]:=rfl
theorem ok_law {f:Addr} {fd:FuncData} {C:Addr} (F:Fun K "law" "law" sLaw f fd) (T:Txt mg) (DD:Df P w K mg base 1 "_law_deck" ["cell","turn"] spDeckT) (DP:Df P w K mg base 1 "_law_pick" ["deck","many"] spPick) (DC:Df P w K mg base 2 "_law_piece" ["deck","names"] spPc) (DX:Df P w K mg base 2 "_law_exchanged" ["deck","piece"] spLx)
    (DM:Df P w K mg base 5 "_law_made" ["deck","pieces"] (spMade C)) (DO:Df P w K mg base 7 "_law_told" ["club"] (spTold C)) (DB:DfM P w K mg base 1 C "pieces" ["self"] (spPcs C)) (DT:DfM P w K mg base 5 C "trials" ["self"] (spTrs C)) (DS:DfM P w K mg base 2 C "strike" ["self","number"] (spStr C)) (DE:DfM P w K mg base 4 C "tell" ["self","piece"] (spTell C)):FnOk P w K mg base CX0 8 f fd ["script"] (spLaw K):=by
  refine F.ok scLaw (fun vs H Q E h=>?_) (fun cdv A outer s H vs Q E hr h=>?_)
  · obtain ⟨a,ns,rfl,_⟩:=h
    rfl
  · obtain ⟨a,ns,rfl,hS,hl,q⟩:=h
    obtain ⟨t0,t1,t2,p0,p1,p2,go0⟩:=w0 (P:=P) (w:=w) (K:=K) (mg:=mg) (base:=base) (f:=f) (cdv:=cdv) (A:=A) (outer:=outer) (s:=s) (H:=H) (E:=E) hr DD DC
    obtain ⟨t3,p3,go3⟩:=w3 (P:=P) (w:=w) (K:=K) (mg:=mg) (base:=base) (f:=f) (cdv:=cdv) (A:=A) (outer:=outer) (s:=s) (H:=H) (E:=E) hr T DP DC DX
    obtain ⟨t4,t5,t6,p4,p5,p6,go4⟩:=w4 (P:=P) (w:=w) (K:=K) (mg:=mg) (base:=base) (f:=f) (cdv:=cdv) (A:=A) (outer:=outer) (s:=s) (H:=H) (E:=E) hr DM DO
    obtain ⟨y0,y1,r0,r1,gx0⟩:=x0 (P:=P) (w:=w) (K:=K) (mg:=mg) (base:=base) (f:=f) (cdv:=cdv) (A:=A) (outer:=outer) (s:=s) (H:=H) (E:=E) hr DD DM DO
    obtain ⟨y2,r2,gx2⟩:=x2 (P:=P) (w:=w) (K:=K) (mg:=mg) (base:=base) (f:=f) (cdv:=cdv) (A:=A) (outer:=outer) (s:=s) (H:=H) (E:=E) hr T DP DB
    obtain ⟨y3,y4,r3,r4,gx3⟩:=x3 (P:=P) (w:=w) (K:=K) (mg:=mg) (base:=base) (f:=f) (cdv:=cdv) (A:=A) (outer:=outer) (s:=s) (H:=H) (E:=E) hr DT
    obtain ⟨y5,y6,y7,y8,r5,r6,r7,r8,gx5⟩:=x5 (P:=P) (w:=w) (K:=K) (mg:=mg) (base:=base) (f:=f) (cdv:=cdv) (A:=A) (outer:=outer) (s:=s) (H:=H) (E:=E) hr T DS DT DE DO
    obtain ⟨t8,p8,go8⟩:=w8 (P:=P) (w:=w) (K:=K) (mg:=mg) (base:=base) (f:=f) (cdv:=cdv) (A:=A) (outer:=outer) (s:=s) (H:=H) (E:=E) hr T DE DO
    have pb:=pss_cons r0 (pss_cons r1 (pss_cons r2 (pss_cons r3 (pss_cons r4 (pss_cons r5 (pss_cons r6 (pss_cons r7 (pss_one r8))))))))
    rw [body_eq]
    refine ⟨_,pss_cons p0 (pss_cons p1 (pss_cons p2 (pss_cons p3 (pss_cons p4 (pss_cons p5 (pss_cons p6 (pss_cons (ps_for PassesOwn.never rfl (pi_list (pe_slice sl_list (pe_op op_catS (pe_slice sl_list (pv 0) (po_some pe_int) (po_some pe_int)) (pe_lst (pa_cons pe_int (pa_cons pe_int pa_nil)))) po_none (po_some pe_int))) (pg_name (i:=8) scLaw.nd rfl (Or.inl rfl)) pb) (pss_cons p8 (pss_one (ps_ret pe_bl)))))))))),?_⟩
    refine sq3 (go0 _ H a ns _ _ _ _ _ _ _ _ _ _ _ _ hS hl fun k nm pl r p c H1 s1 k0 pl0 dk hc nmk npk npn hnm hpl hP op cp=>?_)
    refine sq1 (go3 _ H1 _ _ _ _ _ _ _ _ _ _ k nm pl r p c dk hc nmk npk npn hnm hpl hP op cp fun us ps c2 w4' w5' H2 d2 e2 hpl2 hps hok l1 l8 kp2=>?_)
    refine sq3 (go4 _ H2 _ _ _ _ _ _ _ _ _ _ _ k pl us ps c2 d2 e2 npk hpl2 hps hok l1 l8 fun cb sl ll t a' b c3 rows n sts lf uT ts vs H3 L3 e3 k3=>?_)
    have na:∀ {o x},H a = some o→H x = none→a≠x:=fun e1 e2 z=>by rw [z,e2] at e1; cases e1
    have hS3:SqL K H3 a (ns.map V.int):=seq_at hS fun o e=>k3 _ _ (na e k0) (kp2 _ _ (na e k0) (na e pl0) (s1 _ _ e))
    refine sq1 ?_
    refine ⟨_,rfl,_,rfl,_,rfl,a,_,rfl,hS3,fun z1 hz1=>?_⟩
    have l1':=cut_len (ns.map V.int) (some 1) (some 4)
    rw [List.length_map] at l1'
    have i1:∀ x∈cutV (ns.map V.int) (some 1) (some 4),∃ c:Int,x = .int c:=fun x hx=>by
      obtain ⟨c,_,rfl⟩:=List.mem_map.mp (cut_in hx)
      exact ⟨c,rfl⟩
    generalize cutV (ns.map V.int) (some 1) (some 4) = xs1 at *
    have s4:=same_new hz1 (.lst xs1)
    have w4:upd H3 z1 (.lst xs1) z1 = some (.lst xs1):=upd_same
    generalize upd H3 z1 (.lst xs1) = H4 at *
    refine ⟨by show 2≤sizeLine; decide,fun z2 hz2=>?_⟩
    have s5:=same_new hz2 (.lst [.int 0,.int 1])
    have w5:upd H4 z2 (.lst [.int 0,.int 1]) z2 = some (.lst [.int 0,.int 1]):=upd_same
    generalize upd H4 z2 (.lst [.int 0,.int 1]) = H5 at *
    refine ⟨z1,z2,_,_,rfl,rfl,SqL.of (s5 _ _ w4),SqL.of w5,Nat.le_of_lt (small1000 (by simp only [List.length_cons,List.length_nil]; omega)),fun z3 hz3=>?_⟩
    have s6:=same_new hz3 (.lst (xs1 ++ [.int 0,.int 1]))
    have w6:upd H5 z3 (.lst (xs1 ++ [.int 0,.int 1])) z3 = some (.lst (xs1 ++ [.int 0,.int 1])):=upd_same
    generalize upd H5 z3 (.lst (xs1 ++ [.int 0,.int 1])) = H6 at *
    refine ⟨_,rfl,z3,_,rfl,SqL.of w6,fun LL hLL=>?_⟩
    have l2':=cut_len (xs1 ++ [.int 0,.int 1]) none (some 3)
    simp only [List.length_append,List.length_cons,List.length_nil] at l2'
    have i2:∀ x∈cutV (xs1 ++ [.int 0,.int 1]) none (some 3),∃ c:Int,x = .int c:=fun x hx=>by
      rcases List.mem_append.mp (cut_in hx) with h | h
      · exact i1 x h
      · simp only [List.mem_cons,List.not_mem_nil,or_false] at h
        rcases h with h | h
        · exact ⟨0,h⟩
        · exact ⟨1,h⟩
    generalize cutV (xs1 ++ [.int 0,.int 1]) none (some 3) = xs at *
    have s7:=same_new hLL (.lst xs)
    have w7:upd H6 LL (.lst xs) LL = some (.lst xs):=upd_same
    have L7:=L3.keep (((s4.trans s5).trans s6).trans s7).keep (deck_same L3.dk (((s4.trans s5).trans s6).trans s7))
    have nLk:LL≠k:=fun z=>(deck_same L3.dk ((s4.trans s5).trans s6)).ne hLL z.symm
    generalize upd H6 LL (.lst xs) = H7 at *
    refine ⟨LL,rfl,⟨_,SqL.of w7⟩,for_list (K:=K) (a:=LL) (xs:=xs) (fun i σ' H'=>∃ (v4 v5 v8 v9 v10 v11 v12:Option V) (c':Int),σ' = [some (.ref a),some (.ref k),some (.ref nm),some (.ref pl),v4,v5,some (.ref cb),some (.ref t),v8,v9,v10,v11,v12]∧Keep k H7 H'∧DeckAt H' k c'∧c'≤1040 + i)
      ⟨_,_,_,_,_,_,_,c3,rfl,Keep.refl _ _,L7.dk,by omega⟩ (fun i σ' H' _ h=>by obtain ⟨_,_,_,_,_,_,_,_,_,kp,_⟩:=h; exact SqL.of (kp _ _ nLk w7)) ?_ ?_⟩
    · rintro i y σ' H8 hi ⟨v4,v5,v8,v9,v10,v11,v12,c8,rfl,k8,d8,e8⟩
      have hix:i < xs.length:=(List.getElem?_eq_some_iff.mp hi).1
      obtain ⟨cell,rfl⟩:=i2 y (List.mem_of_getElem? hi)
      have L8:=L7.keep k8 d8
      refine K27V.g_name ?_
      refine sq2 (gx0 _ H8 _ _ _ _ _ _ _ _ cell k pl cb sl ll t a' b c8 us ps rows n sts lf uT ts vs L8 fun cb2 sl2 ll2 rows2 n2 sts2 lf2 H9 s9 cb0 sl0 ll0 hC9 md9 n9 st9=>?_)
      have d9:=deck_same d8 s9
      refine sq1 (gx2 _ H9 _ _ _ _ _ _ _ _ _ _ k pl cb2 sl2 ll2 c8 us ps rows2 n2 sts2 lf2 d9 (by omega) npk (s9 _ _ L8.hpl) (paired_len L8.hps) l1 l8 hC9 md9.len fun j hj r10 c10 H10 k10 d10 e10 P10=>?_)
      have nkc:k≠cb2:=d8.ne cb0
      have nks:k≠sl2:=d8.ne sl0
      have nkl:k≠ll2:=d8.ne ll0
      have hC10:=hC9.keep d9 k10 nkc nks nkl
      have l8':=L8.l8
      have t32:=md9.trs L8.l8
      refine sq2 (gx3 _ H10 _ _ _ _ _ _ _ _ _ _ _ cb2 sl2 ll2 rows2 n2 rows2[j].1 sts2 lf2 hC10 (md9.ok hok) (by rw [md9.len]; omega) (by rw [alG_len]; omega) fun o r yo yr H11 s11 ho hr11 o0 r0' ll11 pr11=>?_)
      obtain ⟨dxx,vvx,wwx,g1,g2,g3,g4,g5,g6,g7,g8⟩:=id hC10
      have nn:∀ {x y:Addr} {oo:HO},H10 x = none→H10 y = some oo→x≠y:=fun e1 e2 z=>by rw [z,e2] at e1; cases e1
      have mm:∀ {x y:Addr} {oo:HO},H8 y = none→H8 x = some oo→x≠y:=fun e1 e2 z=>by rw [z,e1] at e2; cases e2
      have up:∀ {x:Addr} {oo:HO},x≠k→H8 x = some oo→H11 x = some oo:=fun n e=>s11 _ _ (k10 _ _ n (s9 _ _ e))
      have ut:∀ b xs,H8 b = some (.tup xs)→H11 b = some (.tup xs):=fun b xs e=>s11 _ _ (keep_tp d9 k10 _ _ (s9 _ _ e))
      refine gx5 _ H11 _ _ _ _ _ _ _ cb2 sl2 ll2 r10 t a' b o r us uT yo yr ps rows2 rows n2 n sts2 lf2 ts vs j hj (hC10.same s11) md9 L8.md hok L8.l8 n9 st9 (P10.same s11) (ut _ _ L8.ht) (up L8.ak L8.ha) (L8.tr.up ut) (up L8.bk L8.hb) L8.tl (mm cb0 L8.ha) (mm sl0 L8.ha) (mm cb0 L8.hb) (mm sl0 L8.hb) ho hr11 ll11 pr11 (nn o0 g1) (nn o0 g5) (nn r0' g1) (nn r0' g5) fun H12 k12=>?_
      refine ⟨_,_,_,_,_,_,_,c10,rfl,fun b oo n e=>?_,d10.keep fun oo e=>k12 _ _ nkc nks (s11 _ _ e),by omega⟩
      have e8':=k8 _ _ n e
      exact k12 _ _ (mm cb0 e8') (mm sl0 e8') (up n e8')
    · rintro σ' H8 ⟨v4,v5,v8,v9,v10,v11,v12,c8,rfl,k8,d8,e8⟩
      refine sq1 (go8 _ H8 _ _ _ _ _ _ _ _ _ _ k pl cb sl ll t a' b c8 us ps rows n sts lf uT ts vs (L7.keep k8 d8) fun σ2 H9=>?_)
      exact q H9
end
end K27
namespace K27
open PySem L2
theorem lensV1 {us:List Value} (h:us.length = 1):∃ a,us = [a]:=List.length_eq_one_iff.mp h
theorem lensV2 {us:List Value} (h:us.length = 2):∃ a b,us = [a,b]:=by
  cases us with
  | nil=>cases h
  | cons a l=>obtain ⟨b,rfl⟩:=lensV1 (us:=l) (Nat.succ.inj h); exact ⟨a,b,rfl⟩
theorem lensV3 {us:List Value} (h:us.length = 3):∃ a b c,us = [a,b,c]:=by
  cases us with
  | nil=>cases h
  | cons a l=>obtain ⟨b,c,rfl⟩:=lensV2 (us:=l) (Nat.succ.inj h); exact ⟨a,b,c,rfl⟩
theorem lensV4 {us:List Value} (h:us.length = 4):∃ a b c d,us = [a,b,c,d]:=by
  cases us with
  | nil=>cases h
  | cons a l=>obtain ⟨b,c,d,rfl⟩:=lensV3 (us:=l) (Nat.succ.inj h); exact ⟨a,b,c,d,rfl⟩
structure StandsM (K:PySem.W.Frag) (C:Addr) (x q:Str) (st:Stmt) (f:Addr):Prop where
  a:PySem.W.findIn K (.ref C) x = some (some (.ref f))
  ex:∃ (oc:Value) (od:Option Addr) (kV doc pm:Value) (an:Option Addr) (cdv ct:Value) (osl:Array (Option Value)),
    K.lookup f = some ⟨oc,od,.func (PySem.W.fnOf x q (defArgs st) (defBody st) (defScope st) .none kV doc pm an cdv ct),osl⟩∧PySem.W.codeIn K cdv q = true
  n:PySem.W.isFn K (.ref f) = true
  k:PySem.W.keepIn K (.ref f) = true
theorem standsM {K:PySem.W.Frag} {C:Addr} {x q:Str} {st:Stmt} {f:Addr} {oc:Value} {od:Option Addr} {kV doc pm:Value} {an:Option Addr} {cdv ct:Value} {osl:Array (Option Value)}
    (a:PySem.W.findIn K (.ref C) x = some (some (.ref f))) (l:K.lookup f = some ⟨oc,od,.func (PySem.W.fnOf x q (defArgs st) (defBody st) (defScope st) .none kV doc pm an cdv ct),osl⟩) (c:PySem.W.codeIn K cdv q = true) (n:PySem.W.isFn K (.ref f) = true) (k:PySem.W.keepIn K (.ref f) = true):StandsM K C x q st f :=
  ⟨a,⟨oc,od,kV,doc,pm,an,cdv,ct,osl,l,c⟩,n,k⟩
theorem StandsM.fn {K:PySem.W.Frag} {C:Addr} {x q:Str} {st:Stmt} {f:Addr} (S:StandsM K C x q st f):∃ fd,Fun K x q st f fd:=by
  obtain ⟨oc,od,kV,doc,pm,an,cdv,ct,osl,l,c⟩:=S.ex
  exact ⟨_,fun_mk (st:=st) l c S.k⟩
theorem StandsM.meth {K:PySem.W.Frag} {C:Addr} {x q:Str} {st:Stmt} {f:Addr} (S:StandsM K C x q st f):Meth K C x f:=⟨S.a,S.n,S.k⟩
theorem all_mk {l:PySem.W.OpenLaw} {w:World} {K:PySem.W.Frag} {h:Heap} {mg:Str→Option Value} {fa f0 f1 f2 f3 f4 f5 f6 f7 f8 f9 f10 f11 f12 f13 f14 f15 f16 f17 f18 f19 f20 f21 f22 f23 g0 g1 g2 g3 g4 g5 g6 g7 dN dC:Addr} {t0 t1 t2:Nat} {u0 u1:Nat} (X:K.In h) (G:h.Ns mainGlobals mg) (hfa:mg "law" = some (.ref fa))
    (s0:Stands K "is_whole" sWhole f0)
    (s1:Stands K "is_name" sName f1)
    (s2:Stands K "is_crew" sCrew f2)
    (s3:Stands K "is_measure" sMeas f3)
    (s4:Stands K "is_piece" sPiece f4)
    (s5:Stands K "fraction" sFr f5)
    (s6:Stands K "fraction_less" sFl f6)
    (s7:Stands K "margin" sMg f7)
    (s8:Stands K "exchanged" sEx f8)
    (s9:Stands K "exchanged_pair" sXp f9)
    (s10:Stands K "trial_of" sTr f10)
    (s11:Stands K "trial_or_none" sTn f11)
    (s12:Stands K "is_clear" K27V.sClear f12)
    (s13:Stands K "led_to" K27V.sLed f13)
    (s14:Stands K "places_from" K27V.sFrom f14)
    (s15:Stands K "verdict" K27V.sVer f15)
    (s16:Stands K "_law_deck" sDeck f16)
    (s17:Stands K "_law_pick" sPick f17)
    (s18:Stands K "_law_piece" sPc f18)
    (s19:Stands K "_law_exchanged" sLx f19)
    (s20:Stands K "_law_shuffled" sShuf f20)
    (s21:Stands K "_law_told" sTold f21)
    (s22:Stands K "_law_made" sMade f22)
    (m0S:StandsM K dC "__init__" "Club.__init__" sInit g0)
    (m1S:StandsM K dC "enter" "Club.enter" sEnter g1)
    (m2S:StandsM K dC "tell" "Club.tell" sTell g2)
    (m3S:StandsM K dC "strike" "Club.strike" sStr g3)
    (m4S:StandsM K dC "back" "Club.back" sBack g4)
    (m5S:StandsM K dC "pieces" "Club.pieces" sPcs g5)
    (m6S:StandsM K dC "trials" "Club.trials" sTrs g6)
    (m7S:StandsM K dC "verdict" "Club.verdict" sVd g7)
    {od an:Option Addr} {osl:Array (Option Value)} {oc kV doc pm cdv ct:Value} (a:PySem.W.nsIn K mainGlobals "law" = some (some (.ref f23))) (lk:K.lookup f23 = some ⟨oc,od,.func (PySem.W.fnOf "law" "law" (defArgs sLaw) (defBody sLaw) (defScope sLaw) .none kV doc pm an cdv ct),osl⟩) (cc:PySem.W.codeIn K cdv "law" = true) (kk:PySem.W.keepIn K (.ref f23) = true)
    (c0:PySem.W.nsIn K mainGlobals "LONGEST_NAME" = some (some (.int 8 t0)))
    (c1:PySem.W.nsIn K mainGlobals "MOST_IN_CREW" = some (some (.int 4 t1)))
    (c2:PySem.W.nsIn K mainGlobals "LONGEST" = some (some (.int 1000000000 t2)))
    (x0:PySem.W.nsIn K mainGlobals "MOST_PIECES" = some (some (.int 40 u0)))
    (x1:PySem.W.nsIn K mainGlobals "MOST_TRIALS" = some (some (.int 40 u1)))
    (z0:PySem.W.nsIn K mainGlobals "ValueError" = some none)
    (z1:PySem.W.nsIn K mainGlobals "abs" = some none)
    (z2:PySem.W.nsIn K mainGlobals "all" = some none)
    (z3:PySem.W.nsIn K mainGlobals "any" = some none)
    (z4:PySem.W.nsIn K mainGlobals "bool" = some none)
    (z5:PySem.W.nsIn K mainGlobals "enumerate" = some none)
    (z6:PySem.W.nsIn K mainGlobals "int" = some none)
    (z7:PySem.W.nsIn K mainGlobals "isinstance" = some none)
    (z8:PySem.W.nsIn K mainGlobals "len" = some none)
    (z9:PySem.W.nsIn K mainGlobals "list" = some none)
    (z10:PySem.W.nsIn K mainGlobals "max" = some none)
    (z11:PySem.W.nsIn K mainGlobals "min" = some none)
    (z12:PySem.W.nsIn K mainGlobals "range" = some none)
    (z13:PySem.W.nsIn K mainGlobals "sorted" = some none)
    (z14:PySem.W.nsIn K mainGlobals "str" = some none)
    (z15:PySem.W.nsIn K mainGlobals "sum" = some none)
    (z16:PySem.W.nsIn K mainGlobals "tuple" = some none)
    (z17:PySem.W.nsIn K mainGlobals "zip" = some none)
    (nV:PySem.W.nsIn K mainGlobals "verdict_trials" = some (some (.ref f15)))
    (nN:PySem.W.nsIn K mainGlobals "NoTrial" = some (some (.ref dN)))
    (nC:PySem.W.nsIn K mainGlobals "Club" = some (some (.ref dC)))
    (e0:PySem.W.excIn K dN L2.vErr "ValueError.__new__" = true)
    (xm:PySem.W.exmOne K (.ref dN) (.ref dN) = some true)
    (pg:PySem.W.plainGet K dC Str.empty = true)
    (hd:PySem.W.hasDictIn K dC = true)
    (po:PySem.W.plainOver K dC = true)
    (sa:PySem.W.findIn K (.ref dC) "__setattr__" = some (some (.builtin "object.__setattr__")))
    (aS:PySem.W.findIn K (.ref dC) "states" = some none)
    (aL2:PySem.W.findIn K (.ref dC) "left" = some none)
    (mk:PySem.W.makesIn K dC = true)
    (kp:PySem.W.keepIn K (.ref dC) = true)
    : ∃ fd:FuncData,(∀ (s:Shared) (v:Value),BindsTo s fd ⟨[v],[]⟩ [("script",v)])∧∀ base:Heap,K.In base→base.Ns mainGlobals mg→FnOk l.prog w K mg base CX0 8 fa fd ["script"] (spLaw K):=by
  have e:=hfa.symm.trans (PySem.W.mg_of X G a)
  cases e
  have T:Txt mg:=⟨PySem.W.mg_none_of X G z0,PySem.W.mg_none_of X G z1,PySem.W.mg_none_of X G z2,PySem.W.mg_none_of X G z3,PySem.W.mg_none_of X G z4,PySem.W.mg_none_of X G z5,PySem.W.mg_none_of X G z6,PySem.W.mg_none_of X G z7,PySem.W.mg_none_of X G z8,PySem.W.mg_none_of X G z9,PySem.W.mg_none_of X G z10,PySem.W.mg_none_of X G z11,PySem.W.mg_none_of X G z12,PySem.W.mg_none_of X G z13,PySem.W.mg_none_of X G z14,PySem.W.mg_none_of X G z15,PySem.W.mg_none_of X G z16,PySem.W.mg_none_of X G z17,⟨_,PySem.W.mg_of X G c0⟩,⟨_,PySem.W.mg_of X G c1⟩,⟨_,PySem.W.mg_of X G c2⟩⟩
  have gN:=PySem.W.mg_of X G nN
  have CC:Clb K dC:=⟨⟨pg,hd,po,sa⟩,aS,aL2⟩
  obtain ⟨fd0,F0⟩:=s0.fn
  have b0:=F0.binds (ps:=["thing"]) fun _ _ _ _ _ _ us hl=>by obtain ⟨a0,rfl⟩:=lensV1 hl; rfl
  have m0:=PySem.W.mg_of X G s0.a
  obtain ⟨fd1,F1⟩:=s1.fn
  have b1:=F1.binds (ps:=["thing"]) fun _ _ _ _ _ _ us hl=>by obtain ⟨a0,rfl⟩:=lensV1 hl; rfl
  have m1:=PySem.W.mg_of X G s1.a
  obtain ⟨fd2,F2⟩:=s2.fn
  have b2:=F2.binds (ps:=["thing"]) fun _ _ _ _ _ _ us hl=>by obtain ⟨a0,rfl⟩:=lensV1 hl; rfl
  have m2:=PySem.W.mg_of X G s2.a
  obtain ⟨fd3,F3⟩:=s3.fn
  have b3:=F3.binds (ps:=["thing"]) fun _ _ _ _ _ _ us hl=>by obtain ⟨a0,rfl⟩:=lensV1 hl; rfl
  have m3:=PySem.W.mg_of X G s3.a
  obtain ⟨fd4,F4⟩:=s4.fn
  have b4:=F4.binds (ps:=["thing"]) fun _ _ _ _ _ _ us hl=>by obtain ⟨a0,rfl⟩:=lensV1 hl; rfl
  have m4:=PySem.W.mg_of X G s4.a
  obtain ⟨fd5,F5⟩:=s5.fn
  have b5:=F5.binds (ps:=["top","bottom"]) fun _ _ _ _ _ _ us hl=>by obtain ⟨a0,a1,rfl⟩:=lensV2 hl; rfl
  have m5:=PySem.W.mg_of X G s5.a
  obtain ⟨fd6,F6⟩:=s6.fn
  have b6:=F6.binds (ps:=["one","other"]) fun _ _ _ _ _ _ us hl=>by obtain ⟨a0,a1,rfl⟩:=lensV2 hl; rfl
  have m6:=PySem.W.mg_of X G s6.a
  obtain ⟨fd7,F7⟩:=s7.fn
  have b7:=F7.binds (ps:=["piece"]) fun _ _ _ _ _ _ us hl=>by obtain ⟨a0,rfl⟩:=lensV1 hl; rfl
  have m7:=PySem.W.mg_of X G s7.a
  obtain ⟨fd8,F8⟩:=s8.fn
  have b8:=F8.binds (ps:=["crew","leaves","enters"]) fun _ _ _ _ _ _ us hl=>by obtain ⟨a0,a1,a2,rfl⟩:=lensV3 hl; rfl
  have m8:=PySem.W.mg_of X G s8.a
  obtain ⟨fd9,F9⟩:=s9.fn
  have b9:=F9.binds (ps:=["one","other"]) fun _ _ _ _ _ _ us hl=>by obtain ⟨a0,a1,rfl⟩:=lensV2 hl; rfl
  have m9:=PySem.W.mg_of X G s9.a
  obtain ⟨fd10,F10⟩:=s10.fn
  have b10:=F10.binds (ps:=["one","other"]) fun _ _ _ _ _ _ us hl=>by obtain ⟨a0,a1,rfl⟩:=lensV2 hl; rfl
  have m10:=PySem.W.mg_of X G s10.a
  obtain ⟨fd11,F11⟩:=s11.fn
  have b11:=F11.binds (ps:=["one","other"]) fun _ _ _ _ _ _ us hl=>by obtain ⟨a0,a1,rfl⟩:=lensV2 hl; rfl
  have m11:=PySem.W.mg_of X G s11.a
  obtain ⟨fd12,F12⟩:=s12.fn
  have b12:=F12.binds (ps:=["trial"]) fun _ _ _ _ _ _ us hl=>by obtain ⟨a0,rfl⟩:=lensV1 hl; rfl
  have m12:=PySem.W.mg_of X G s12.a
  obtain ⟨fd13,F13⟩:=s13.fn
  have b13:=F13.binds (ps:=["trial","name"]) fun _ _ _ _ _ _ us hl=>by obtain ⟨a0,a1,rfl⟩:=lensV2 hl; rfl
  have m13:=PySem.W.mg_of X G s13.a
  obtain ⟨fd14,F14⟩:=s14.fn
  have b14:=F14.binds (ps:=["trials","start"]) fun _ _ _ _ _ _ us hl=>by obtain ⟨a0,a1,rfl⟩:=lensV2 hl; rfl
  have m14:=PySem.W.mg_of X G s14.a
  obtain ⟨fd15,F15⟩:=s15.fn
  have b15:=F15.binds (ps:=["trials","one","other"]) fun _ _ _ _ _ _ us hl=>by obtain ⟨a0,a1,a2,rfl⟩:=lensV3 hl; rfl
  have m15:=PySem.W.mg_of X G s15.a
  obtain ⟨fd16,F16⟩:=s16.fn
  have b16:=F16.binds (ps:=["cell","turn"]) fun _ _ _ _ _ _ us hl=>by obtain ⟨a0,a1,rfl⟩:=lensV2 hl; rfl
  have m16:=PySem.W.mg_of X G s16.a
  obtain ⟨fd17,F17⟩:=s17.fn
  have b17:=F17.binds (ps:=["deck","many"]) fun _ _ _ _ _ _ us hl=>by obtain ⟨a0,a1,rfl⟩:=lensV2 hl; rfl
  have m17:=PySem.W.mg_of X G s17.a
  obtain ⟨fd18,F18⟩:=s18.fn
  have b18:=F18.binds (ps:=["deck","names"]) fun _ _ _ _ _ _ us hl=>by obtain ⟨a0,a1,rfl⟩:=lensV2 hl; rfl
  have m18:=PySem.W.mg_of X G s18.a
  obtain ⟨fd19,F19⟩:=s19.fn
  have b19:=F19.binds (ps:=["deck","piece"]) fun _ _ _ _ _ _ us hl=>by obtain ⟨a0,a1,rfl⟩:=lensV2 hl; rfl
  have m19:=PySem.W.mg_of X G s19.a
  obtain ⟨fd20,F20⟩:=s20.fn
  have b20:=F20.binds (ps:=["deck","some"]) fun _ _ _ _ _ _ us hl=>by obtain ⟨a0,a1,rfl⟩:=lensV2 hl; rfl
  have m20:=PySem.W.mg_of X G s20.a
  obtain ⟨fd21,F21⟩:=s21.fn
  have b21:=F21.binds (ps:=["club"]) fun _ _ _ _ _ _ us hl=>by obtain ⟨a0,rfl⟩:=lensV1 hl; rfl
  have m21:=PySem.W.mg_of X G s21.a
  obtain ⟨fd22,F22⟩:=s22.fn
  have b22:=F22.binds (ps:=["deck","pieces"]) fun _ _ _ _ _ _ us hl=>by obtain ⟨a0,a1,rfl⟩:=lensV2 hl; rfl
  have m22:=PySem.W.mg_of X G s22.a
  obtain ⟨gd0,G0⟩:=m0S.fn
  have bb0:=G0.binds (ps:=["self"]) fun _ _ _ _ _ _ us hl=>by obtain ⟨a0,rfl⟩:=lensV1 hl; rfl
  obtain ⟨gd1,G1⟩:=m1S.fn
  have bb1:=G1.binds (ps:=["self","crew","standing","following"]) fun _ _ _ _ _ _ us hl=>by obtain ⟨a0,a1,a2,a3,rfl⟩:=lensV4 hl; rfl
  obtain ⟨gd2,G2⟩:=m2S.fn
  have bb2:=G2.binds (ps:=["self","piece"]) fun _ _ _ _ _ _ us hl=>by obtain ⟨a0,a1,rfl⟩:=lensV2 hl; rfl
  obtain ⟨gd3,G3⟩:=m3S.fn
  have bb3:=G3.binds (ps:=["self","number"]) fun _ _ _ _ _ _ us hl=>by obtain ⟨a0,a1,rfl⟩:=lensV2 hl; rfl
  obtain ⟨gd4,G4⟩:=m4S.fn
  have bb4:=G4.binds (ps:=["self"]) fun _ _ _ _ _ _ us hl=>by obtain ⟨a0,rfl⟩:=lensV1 hl; rfl
  obtain ⟨gd5,G5⟩:=m5S.fn
  have bb5:=G5.binds (ps:=["self"]) fun _ _ _ _ _ _ us hl=>by obtain ⟨a0,rfl⟩:=lensV1 hl; rfl
  obtain ⟨gd6,G6⟩:=m6S.fn
  have bb6:=G6.binds (ps:=["self"]) fun _ _ _ _ _ _ us hl=>by obtain ⟨a0,rfl⟩:=lensV1 hl; rfl
  obtain ⟨gd7,G7⟩:=m7S.fn
  have bb7:=G7.binds (ps:=["self","one","other"]) fun _ _ _ _ _ _ us hl=>by obtain ⟨a0,a1,a2,rfl⟩:=lensV3 hl; rfl
  have FL:=fun_mk (st:=sLaw) lk cc kk
  refine ⟨PySem.W.fnOf "law" "law" (defArgs sLaw) (defBody sLaw) (defScope sLaw) .none kV doc pm an cdv ct,fun s v=>.of_eq rfl,fun base _ _=>?_⟩
  have D_whole:Df l.prog w K mg base 1 "is_whole" ["thing"] (spP pWhole):=⟨_,_,ok_whole F0 T,b0,s0.k,m0⟩
  have D_name:Df l.prog w K mg base 1 "is_name" ["thing"] (spP pName):=⟨_,_,ok_name F1 T,b1,s1.k,m1⟩
  have D_crew:Df l.prog w K mg base 2 "is_crew" ["thing"] (spP pCrew):=⟨_,_,ok_crew F2 T D_name,b2,s2.k,m2⟩
  have D_meas:Df l.prog w K mg base 2 "is_measure" ["thing"] (spP pMeas):=⟨_,_,ok_meas F3 T D_whole,b3,s3.k,m3⟩
  have D_piece:Df l.prog w K mg base 3 "is_piece" ["thing"] (spP pPiece):=⟨_,_,ok_piece F4 T D_crew D_meas,b4,s4.k,m4⟩
  have D_fr:Df l.prog w K mg base 1 "fraction" ["top","bottom"] (spFr):=⟨_,_,ok_fr F5 T,b5,s5.k,m5⟩
  have D_fl:Df l.prog w K mg base 2 "fraction_less" ["one","other"] (spFl K):=⟨_,_,ok_fl F6 D_fr,b6,s6.k,m6⟩
  have D_mg:Df l.prog w K mg base 2 "margin" ["piece"] (spMg K):=⟨_,_,ok_mg F7 D_fr,b7,s7.k,m7⟩
  have D_ex:Df l.prog w K mg base 1 "exchanged" ["crew","leaves","enters"] (spEx):=⟨_,_,ok_ex F8 T,b8,s8.k,m8⟩
  have D_xp:DfX l.prog w K mg base 2 "exchanged_pair" ["one","other"] (spXp dN):=⟨_,_,ok_xp F9 ⟨gN,e0⟩ D_ex,b9,s9.k,m9⟩
  have D_tr:DfX l.prog w K mg base 3 "trial_of" ["one","other"] (spTr dN):=⟨_,_,ok_tr F10 T D_xp D_fl D_mg,b10,s10.k,m10⟩
  have D_tn:Df l.prog w K mg base 4 "trial_or_none" ["one","other"] (spTn):=⟨_,_,ok_tn F11 gN xm D_tr,b11,s11.k,m11⟩
  have D_clear:Df l.prog w K mg base 1 "is_clear" ["trial"] (K27V.spClear):=⟨_,_,K27V.ok_clear F12,b12,s12.k,m12⟩
  have D_led:Df l.prog w K mg base 2 "led_to" ["trial","name"] (K27V.spLed):=⟨_,_,K27V.ok_led F13 D_clear,b13,s13.k,m13⟩
  have D_from:Df l.prog w K mg base 3 "places_from" ["trials","start"] (K27V.spFrom K):=⟨_,_,K27V.ok_from F14 D_clear D_led,b14,s14.k,m14⟩
  have D_ver:Df l.prog w K mg base 4 "verdict" ["trials","one","other"] (K27V.spVer K):=⟨_,_,K27V.ok_ver F15 D_from,b15,s15.k,m15⟩
  have D_vt:Df l.prog w K mg base 4 "verdict_trials" ["trials","one","other"] (K27V.spVer K):=⟨_,_,K27V.ok_ver F15 D_from,b15,s15.k,PySem.W.mg_of X G nV⟩
  have D_deck:Df l.prog w K mg base 1 "_law_deck" ["cell","turn"] (spDeckT):=⟨_,_,ok_deckT F16,b16,s16.k,m16⟩
  have D_pick:Df l.prog w K mg base 1 "_law_pick" ["deck","many"] (spPick):=⟨_,_,ok_pick F17,b17,s17.k,m17⟩
  have D_pc:Df l.prog w K mg base 2 "_law_piece" ["deck","names"] (spPc):=⟨_,_,ok_pc F18 T D_pick,b18,s18.k,m18⟩
  have D_lx:Df l.prog w K mg base 2 "_law_exchanged" ["deck","piece"] (spLx):=⟨_,_,ok_lx F19 T D_pick,b19,s19.k,m19⟩
  have D_shuf:Df l.prog w K mg base 2 "_law_shuffled" ["deck","some"] (spShuf):=⟨_,_,ok_shuf F20 T D_pick,b20,s20.k,m20⟩
  have D_enter:DfM l.prog w K mg base 1 dC "enter" ["self","crew","standing","following"] (spEnter dC):=⟨CC.c,_,_,ok_enter G1 T CC,bb1,m1S.meth⟩
  have D_tell:DfM l.prog w K mg base 4 dC "tell" ["self","piece"] (spTell dC):=⟨CC.c,_,_,ok_tell G2 T ⟨_,PySem.W.mg_of X G x0⟩ CC D_piece D_enter,bb2,m2S.meth⟩
  have D_str:DfM l.prog w K mg base 2 dC "strike" ["self","number"] (spStr dC):=⟨CC.c,_,_,ok_str G3 CC D_enter,bb3,m3S.meth⟩
  have D_back:DfM l.prog w K mg base 1 dC "back" ["self"] (spBack dC):=⟨CC.c,_,_,ok_back G4 T CC,bb4,m4S.meth⟩
  have D_pcs:DfM l.prog w K mg base 1 dC "pieces" ["self"] (spPcs dC):=⟨CC.c,_,_,ok_pcs G5 T CC,bb5,m5S.meth⟩
  have D_trs:DfM l.prog w K mg base 5 dC "trials" ["self"] (spTrs dC):=⟨CC.c,_,_,ok_trs G6 T D_pcs D_tn,bb6,m6S.meth⟩
  have D_vd:DfM l.prog w K mg base 6 dC "verdict" ["self","one","other"] (spVd dC):=⟨CC.c,_,_,ok_vd G7 ⟨_,PySem.W.mg_of X G x1⟩ D_trs D_vt,bb7,m7S.meth⟩
  have DK:DfC l.prog w K mg base dC:=⟨_,_,⟨mk,m0S.a,m0S.n,kp⟩,ok_init G0 CC,bb0,PySem.W.mg_of X G nC⟩
  have D_made:Df l.prog w K mg base 5 "_law_made" ["deck","pieces"] (spMade dC):=⟨_,_,ok_made F22 T DK D_shuf D_pick D_tell D_str D_back,b22,s22.k,m22⟩
  have D_told:Df l.prog w K mg base 7 "_law_told" ["club"] (spTold dC):=⟨_,_,ok_told F21 T D_trs D_vd,b21,s21.k,m21⟩
  exact ok_law FL T D_deck D_pick D_pc D_lx D_made D_told D_pcs D_trs D_str D_tell
theorem walk {l:PySem.W.OpenLaw} {q:Program} {loose:List Str} {XP:(Str→Option Value)→Heap→Prop} {YP:World→Heap→Prop} {d:DefRec} {K:Params→PySem.W.Frag} (hn:l.most = some 63) (hdf:d.params.defaults = [])
    (hY:∀ (w:World) (h:Heap),YP w h→(K w.params).In h)
    (F:∀ (w:World) (mg:Str→Option Value) (fa:Addr) (h:Heap),(K w.params).In h→h.Ns mainGlobals mg→mg d.name = some (.ref fa) →
      ∃ fd:FuncData,(∀ (s:Shared) (u:Value),BindsTo s fd ⟨[u],[]⟩ [("script",u)])∧∀ base:Heap,(K w.params).In base→base.Ns mainGlobals mg→FnOk l.prog w (K w.params) mg base CX0 8 fa fd ["script"] (spLaw (K w.params))) :
    PySem.W.WalkO q loose XP YP l.row.toRowW d [] (fun f vs=>PySem.call f vs) :=
  L2.walk_of (n:=63) (k:=8) (x:="script") (CX:=fun _=>CX0) (sp:=fun w=>spLaw (K w.params)) hn (by decide) hdf ⟨rfl,by decide,by decide,rfl⟩ hY F (fun _ _ a ns hl _ hS=>⟨a,ns,rfl,hS,hl,fun _=>rfl⟩) fun _ _ _ _ _ z=>z
end K27
open PySem PySem.W PyProof.Rows
def PySem.W.Fast.tw2654113347496057628:Nat:=0
def PySem.W.Fast.tw12100801173322388772:Nat:=0
def PySem.W.Fast.tw9227331512558197398:Nat:=0
def PySem.W.Fast.tw17194746735134187820:Nat:=0
def PySem.W.Fast.tw12556876346515950111:Nat:=0
def PySem.W.Fast.tw356972348149873797:Nat:=0
def PySem.W.Fast.tw3440072416763177257:Nat:=0
def PySem.W.Fast.tw18398138733185553181:Nat:=0
def PySem.W.Fast.tw17558120104968633037:Nat:=0
def PySem.W.Fast.tw11748895440410699442:Nat:=0
def PySem.W.Fast.tw5519822368043071032:Nat:=0
def PySem.W.Fast.tw1495567023787114081:Nat:=0
def PySem.W.Fast.tw1432670904573007753:Nat:=0
set_option maxRecDepth 100000 in
set_option maxHeartbeats 0 in
theorem PySem.Challenge.cw_rowtrim_k27_whole_pieces_told_late_holds : PySem.Challenge.rw_rowtrim_k27_whole_pieces_told_late.Holds := by
  w_on; (refine PySem.W.holds_law (by decide +kernel) fun said=>?_); k_head; (case hw=>w_witness2)
  k_fill
  refine K27.walk (l:=PySem.Challenge.rw_rowtrim_k27_whole_pieces_told_late) rfl rfl (fun w h Y=>PySem.W.kIn_of Y) ?F
  case F =>
    intro w mg fa h KX G hmg
    refine' K27.all_mk KX G hmg (K27.stands ?a0 ?l0 ?c0 ?k0) (K27.stands ?a1 ?l1 ?c1 ?k1) (K27.stands ?a2 ?l2 ?c2 ?k2) (K27.stands ?a3 ?l3 ?c3 ?k3) (K27.stands ?a4 ?l4 ?c4 ?k4) (K27.stands ?a5 ?l5 ?c5 ?k5) (K27.stands ?a6 ?l6 ?c6 ?k6) (K27.stands ?a7 ?l7 ?c7 ?k7) (K27.stands ?a8 ?l8 ?c8 ?k8) (K27.stands ?a9 ?l9 ?c9 ?k9) (K27.stands ?a10 ?l10 ?c10 ?k10) (K27.stands ?a11 ?l11 ?c11 ?k11) (K27.stands ?a12 ?l12 ?c12 ?k12) (K27.stands ?a13 ?l13 ?c13 ?k13) (K27.stands ?a14 ?l14 ?c14 ?k14) (K27.stands ?a15 ?l15 ?c15 ?k15) (K27.stands ?a16 ?l16 ?c16 ?k16) (K27.stands ?a17 ?l17 ?c17 ?k17) (K27.stands ?a18 ?l18 ?c18 ?k18) (K27.stands ?a19 ?l19 ?c19 ?k19) (K27.stands ?a20 ?l20 ?c20 ?k20) (K27.stands ?a21 ?l21 ?c21 ?k21) (K27.stands ?a22 ?l22 ?c22 ?k22) (K27.standsM ?ma0 ?ml0 ?mc0 ?mn0 ?mk0) (K27.standsM ?ma1 ?ml1 ?mc1 ?mn1 ?mk1) (K27.standsM ?ma2 ?ml2 ?mc2 ?mn2 ?mk2) (K27.standsM ?ma3 ?ml3 ?mc3 ?mn3 ?mk3) (K27.standsM ?ma4 ?ml4 ?mc4 ?mn4 ?mk4) (K27.standsM ?ma5 ?ml5 ?mc5 ?mn5 ?mk5) (K27.standsM ?ma6 ?ml6 ?mc6 ?mn6 ?mk6) (K27.standsM ?ma7 ?ml7 ?mc7 ?mn7 ?mk7) ?aL ?lL ?cL ?kL ?cc0 ?cc1 ?cc2 ?x0 ?x1 ?z0 ?z1 ?z2 ?z3 ?z4 ?z5 ?z6 ?z7 ?z8 ?z9 ?z10 ?z11 ?z12 ?z13 ?z14 ?z15 ?z16 ?z17 ?h0 ?h1 ?h2 ?h3 ?h4 ?h5 ?h6 ?h7 ?h8 ?h9 ?h10 ?h11 ?h12
    (case a0=>k_is); (case l0=>k_is); (case c0=>k_is); (case k0=>k_is)
    (case a1=>k_is); (case l1=>k_is); (case c1=>k_is); (case k1=>k_is)
    (case a2=>k_is); (case l2=>k_is); (case c2=>k_is); (case k2=>k_is)
    (case a3=>k_is); (case l3=>k_is); (case c3=>k_is); (case k3=>k_is)
    (case a4=>k_is); (case l4=>k_is); (case c4=>k_is); (case k4=>k_is)
    (case a5=>k_is); (case l5=>k_is); (case c5=>k_is); (case k5=>k_is)
    (case a6=>k_is); (case l6=>k_is); (case c6=>k_is); (case k6=>k_is)
    (case a7=>k_is); (case l7=>k_is); (case c7=>k_is); (case k7=>k_is)
    (case a8=>k_is); (case l8=>k_is); (case c8=>k_is); (case k8=>k_is)
    (case a9=>k_is); (case l9=>k_is); (case c9=>k_is); (case k9=>k_is)
    (case a10=>k_is); (case l10=>k_is); (case c10=>k_is); (case k10=>k_is)
    (case a11=>k_is); (case l11=>k_is); (case c11=>k_is); (case k11=>k_is)
    (case a12=>k_is); (case l12=>k_is); (case c12=>k_is); (case k12=>k_is)
    (case a13=>k_is); (case l13=>k_is); (case c13=>k_is); (case k13=>k_is)
    (case a14=>k_is); (case l14=>k_is); (case c14=>k_is); (case k14=>k_is)
    (case a15=>k_is); (case l15=>k_is); (case c15=>k_is); (case k15=>k_is)
    (case a16=>k_is); (case l16=>k_is); (case c16=>k_is); (case k16=>k_is)
    (case a17=>k_is); (case l17=>k_is); (case c17=>k_is); (case k17=>k_is)
    (case a18=>k_is); (case l18=>k_is); (case c18=>k_is); (case k18=>k_is)
    (case a19=>k_is); (case l19=>k_is); (case c19=>k_is); (case k19=>k_is)
    (case a20=>k_is); (case l20=>k_is); (case c20=>k_is); (case k20=>k_is)
    (case a21=>k_is); (case l21=>k_is); (case c21=>k_is); (case k21=>k_is)
    (case a22=>k_is); (case l22=>k_is); (case c22=>k_is); (case k22=>k_is)
    (case h1=>k_is)
    (case h2=>k_is)
    (case ma0=>k_is); (case ml0=>k_is); (case mc0=>k_is); (case mn0=>k_is); (case mk0=>k_is)
    (case ma1=>k_is); (case ml1=>k_is); (case mc1=>k_is); (case mn1=>k_is); (case mk1=>k_is)
    (case ma2=>k_is); (case ml2=>k_is); (case mc2=>k_is); (case mn2=>k_is); (case mk2=>k_is)
    (case ma3=>k_is); (case ml3=>k_is); (case mc3=>k_is); (case mn3=>k_is); (case mk3=>k_is)
    (case ma4=>k_is); (case ml4=>k_is); (case mc4=>k_is); (case mn4=>k_is); (case mk4=>k_is)
    (case ma5=>k_is); (case ml5=>k_is); (case mc5=>k_is); (case mn5=>k_is); (case mk5=>k_is)
    (case ma6=>k_is); (case ml6=>k_is); (case mc6=>k_is); (case mn6=>k_is); (case mk6=>k_is)
    (case ma7=>k_is); (case ml7=>k_is); (case mc7=>k_is); (case mn7=>k_is); (case mk7=>k_is)
    (case x0=>k_is)
    (case x1=>k_is)
    (case aL=>k_is); (case lL=>k_is); (case cL=>k_is); (case kL=>k_is)
    (case cc0=>k_is); (case cc1=>k_is); (case cc2=>k_is)
    (case z0=>k_is); (case z1=>k_is); (case z2=>k_is); (case z3=>k_is); (case z4=>k_is); (case z5=>k_is); (case z6=>k_is); (case z7=>k_is); (case z8=>k_is); (case z9=>k_is); (case z10=>k_is); (case z11=>k_is); (case z12=>k_is); (case z13=>k_is); (case z14=>k_is); (case z15=>k_is); (case z16=>k_is); (case z17=>k_is)
    (case h0=>k_is)
    (case h3=>k_exc)
    (case h4=>kts_exm)
    (case h5=>k_is)
    (case h6=>k_is)
    (case h7=>k_is)
    (case h8=>k_is)
    (case h9=>k_is)
    (case h10=>k_is)
    (case h11=>k_is)
    (case h12=>k_is)
#print axioms PySem.Challenge.cw_rowtrim_k27_whole_pieces_told_late_holds
