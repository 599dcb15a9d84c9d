import PyProof.Rows.All
import Wide.All
import OpenK.AllK
import Wide.FinOn
import Lean
import PyProof.EqAt
import PyProof.EqKinds
import PyProof.TupleCall
import KE.KSortKey
import KE.KLam
import KE.KMinKey
import KE.KDictList
import KE.KSortTup
import PySem.Challenge.RW_warmshare_k36_whole_no_buying_is_cheaper
set_option bootstrap.genMatcherCode false
set_option genSizeOfSpec false
set_option Elab.async false
set_option linter.all false
set_option maxRecDepth 100000
namespace L2
open PySem PySem.Spec PyProof.Rows
noncomputable abbrev Key:=Sum Int Str
noncomputable def keyIs:Key→Value→Bool
  | .inl k,v=>Value.isInt k v
  | .inr x,v=>Value.isStrOf x v
noncomputable def keyH (w:World) : Key→Int
  | .inl k=>hashInt k
  | .inr x=>hashStr w x
theorem keyIs_shape:∀ {k:Key} {v:Value},keyIs k v = true→(∃ i t,k = Sum.inl i∧v = Value.int i t) ∨ (∃ x t,k = Sum.inr x∧v = Value.str x t)
  | .inl i,v,h=>by
    obtain ⟨t,e⟩:=Value.isInt_shape (k:=i) (v:=v) h
    exact .inl ⟨i,t,rfl,e⟩
  | .inr x,v,h=>by
    obtain ⟨t,e⟩:=Value.isStrOf_shape (x:=x) (v:=v) h
    exact .inr ⟨x,t,rfl,e⟩
theorem keyIs_int (i:Int) (t:Tok) : keyIs (.inl i) (.int i t) = true:=by simp [keyIs,Value.isInt]
theorem keyIs_str (x:Str) (t:Tok) : keyIs (.inr x) (.str x t) = true:=by simp [keyIs,Value.isStrOf]
theorem key_ll (a b:Int) : decide ((Sum.inl a:Key) = Sum.inl b) = (a == b):=by
  by_cases e:a = b
  · subst e; simp
  · have h:¬ (Sum.inl a:Key) = Sum.inl b:=fun q=>e (Sum.inl.inj q)
    rw [decide_eq_false h]
    exact (beq_eq_false_iff_ne.mpr e).symm
theorem key_rr (a b:Str) : decide ((Sum.inr a:Key) = Sum.inr b) = decide (a = b):=by
  by_cases e:a = b
  · subst e; simp
  · have h:¬ (Sum.inr a:Key) = Sum.inr b:=fun q=>e (Sum.inr.inj q)
    rw [decide_eq_false h,decide_eq_false e]
theorem key_lr (a:Int) (b:Str) : decide ((Sum.inl a:Key) = Sum.inr b) = false:=decide_eq_false (fun q=>nomatch q)
theorem key_rl (a:Str) (b:Int) : decide ((Sum.inr a:Key) = Sum.inl b) = false:=decide_eq_false (fun q=>nomatch q)
noncomputable def mixKind (prog:Program) (w:World) : PySem.KeyKind prog w Key where
  is:=keyIs
  hash:=keyH w
  inj:=fun v a b ha hb=>by
    rcases keyIs_shape ha with ⟨i,t,rfl,rfl⟩ | ⟨x,t,rfl,rfl⟩
    · rcases keyIs_shape hb with ⟨j,u,rfl,e⟩ | ⟨y,u,rfl,e⟩
      · injection e with e1 _; rw [e1]
      · exact nomatch e
    · rcases keyIs_shape hb with ⟨j,u,rfl,e⟩ | ⟨y,u,rfl,e⟩
      · exact nomatch e
      · injection e with e1 _; rw [e1]
  byValue:=fun k v h=>by
    rcases keyIs_shape h with ⟨i,t,rfl,rfl⟩ | ⟨x,t,rfl,rfl⟩ <;> rfl
  pyHash:=fun hv h=>by
    rcases keyIs_shape hv with ⟨i,t,rfl,rfl⟩ | ⟨x,t,rfl,rfl⟩
    · exact wpAny_pyHash_int h
    · exact wpAny_pyHash_str h
  eqBool:=fun hu hv h=>by
    rcases keyIs_shape hu with ⟨i,t,rfl,rfl⟩ | ⟨x,t,rfl,rfl⟩
    · rcases keyIs_shape hv with ⟨j,u,rfl,rfl⟩ | ⟨y,u,rfl,rfl⟩
      · rw [key_ll] at h; exact wpAny_eqBool_int h
      · rw [key_lr] at h; exact SeqAt.EqAt.int_str i t y u _ _ _ _ h
    · rcases keyIs_shape hv with ⟨j,u,rfl,rfl⟩ | ⟨y,u,rfl,rfl⟩
      · rw [key_rl] at h; exact SeqAt.EqAt.str_int x t j u _ _ _ _ h
      · rw [key_rr] at h; exact wpAny_eqBool_str h
  «strs»:=fun k x t v h=>by
    rcases keyIs_shape h with ⟨i,u,rfl,e⟩ | ⟨y,u,rfl,e⟩
    · exact nomatch e
    · injection e with e1 _
      subst e1
      cases v <;> rfl
theorem mixKind_int (prog:Program) (w:World) (i:Int) (t:Tok) : (mixKind prog w).is (.inl i) (.int i t) = true:=keyIs_int i t
theorem mixKind_str (prog:Program) (w:World) (x:Str) (t:Tok) : (mixKind prog w).is (.inr x) (.str x t) = true:=keyIs_str x t
end L2
namespace L2
open PySem PySem.Spec PyProof.Rows
inductive V where
  | non | bl (b:Bool) | int (i:Int) | str (x:Str) | byt (b:Array UInt8) | flt (b:UInt64) | ref (a:Addr) | ty (n:String)
  deriving DecidableEq
noncomputable def RelV:V→Value→Prop
  | .non,u=>u = Value.none
  | .bl b,u=>u = Value.bool b
  | .int i,u=>∃ t,u = Value.int i t
  | .str x,u=>∃ t,u = Value.str x t
  | .byt b,u=>∃ t,u = Value.bytes b t
  | .flt b,u=>∃ t,u = Value.float b t
  | .ref a,u=>u = Value.ref a
  | .ty n,u=>u = Value.type n
noncomputable abbrev Vals:List V→List Value→Prop:=Paired RelV
theorem Vals.length {xs:List V} {us:List Value} (r:Vals xs us) : xs.length = us.length:=Paired.length r
theorem Vals.get:∀ {xs:List V} {us:List Value} {i:Nat} {x:V},Vals xs us→xs[i]? = some x→∃ u,us[i]? = some u∧RelV x u
  | _,_,_,_,.nil,e=>by simp at e
  | _,_,0,_,.cons r _,e=>by simp at e; subst e; exact ⟨_,rfl,r⟩
  | _,_,i + 1,x,.cons _ t,e=>by
    obtain ⟨u,h1,h2⟩:=Vals.get (i:=i) (x:=x) t (by simpa using e)
    exact ⟨u,by simpa using h1,h2⟩
theorem Vals.set {x:V} {u:Value} (r:RelV x u) : ∀ {xs:List V} {us:List Value} (i:Nat),Vals xs us→Vals (xs.set i x) (us.set i u)
  | _,_,_,.nil=>.nil
  | _,_,0,.cons _ t=>.cons r t
  | _,_,i + 1,.cons q t=>.cons q (Vals.set r i t)
theorem Vals.append:∀ {xs ys:List V} {us ws:List Value},Vals xs us→Vals ys ws→Vals (xs ++ ys) (us ++ ws)
  | _,_,_,_,.nil,s=>s
  | _,_,_,_,.cons r t,s=>.cons r (Vals.append t s)
theorem Vals.take:∀ {xs:List V} {us:List Value} (n:Nat),Vals xs us→Vals (xs.take n) (us.take n)
  | _,_,0,_=>.nil
  | _,_,_ + 1,.nil=>.nil
  | _,_,n + 1,.cons r t=>.cons r (Vals.take n t)
theorem Vals.drop:∀ {xs:List V} {us:List Value} (n:Nat),Vals xs us→Vals (xs.drop n) (us.drop n)
  | _,_,0,r=>r
  | _,_,_ + 1,.nil=>.nil
  | _,_,n + 1,.cons _ t=>Vals.drop n t
theorem Vals.none_of:∀ {xs:List V} {us:List Value} {i:Nat},Vals xs us→xs[i]? = none→us[i]? = none:=fun {xs us i} r e=>by
  have h1:=r.length
  have h2:xs.length ≤ i:=List.getElem?_eq_none_iff.mp e
  exact List.getElem?_eq_none_iff.mpr (by lia)
noncomputable def RelO:Option V→Option Value→Prop
  | some v,some u=>RelV v u
  | none,none=>True
  | _,_=>False
noncomputable def KV {κ:Type} : List (κ × V)→List (κ × Value)→Prop:=Paired fun (p:κ × V) (q:κ × Value)=>p.1 = q.1∧RelV p.2 q.2
noncomputable def kV:Key→V
  | .inl i=>.int i
  | .inr x=>.str x
inductive HO where
  | lst (xs:List V)
  | tup (xs:List V)
  | dK (kvs:List (Key × V)) | dT (kvs:List (List Key × V))
  | set (S:Int→Bool) (n:Nat)
  | ins (C dx:Addr) (fs:List (Str × V))
  | own (x:Addr)
  | xd (fs:List (Str × V))
  | met (f x:Addr)
  | rng (lo hi:Int)
  | frz (o:Obj) (u:HO)
  | tbl (ps:Array Value)
  | ext (φ:Heap→Prop)
noncomputable abbrev Hp:=Addr→Option HO
noncomputable def upd (H:Hp) (a:Addr) (o:HO) : Hp:=fun b=>if b = a then some o else H b
theorem upd_same {H:Hp} {a:Addr} {o:HO} : upd H a o a = some o:=by unfold upd; rw [if_pos rfl]
theorem upd_ne {H:Hp} {a b:Addr} {o:HO} (h:b ≠ a) : upd H a o b = H b:=by unfold upd; rw [if_neg h]
theorem ne_of {H:Hp} {a b:Addr} {o u:HO} (h:H a = some o) (h':H b = some u) (d:o ≠ u) : a ≠ b:=by
  intro e; subst e; rw [h] at h'; exact d (Option.some.inj h')
theorem ne_of_none {H:Hp} {a b:Addr} {o:HO} (h:H a = some o) (h':H b = none) : a ≠ b:=by
  intro e; subst e; rw [h] at h'; cases h'
section
variable (P:Program) (w:World)
noncomputable def ObjOk (H:Hp) (h:Heap) (a:Addr) : HO→Prop
  | .lst xs=>xs.length ≤ sizeLine∧∃ (its:List Value) (n:Nat),Vals xs its∧h.get? a = some { cls:=.type "list",data:=.seq its.toArray n }
  | .tup xs=>xs.length ≤ sizeLine∧∃ its:List Value,Vals xs its∧IsTup h a its.toArray
  | .dK kvs=>kvs.length ≤ sizeLine∧(a == sysModules) = false∧∃ vs,KV kvs vs∧h.DictOf (mixKind P w) a vs
  | .dT kvs=>kvs.length ≤ sizeLine∧(a == sysModules) = false∧∃ xs:List (List Key × Addr × Value),
      Paired (fun (p:List Key × V) (q:List Key × Addr × Value)=>p.1 = q.1∧H q.2.1 = some (.tup (p.1.map kV))∧RelV p.2 q.2.2) kvs xs ∧
      ∃ o es ep,h.get? a = some o∧o.ExactDict∧o.data = .dict es ep∧es.toList = xs.map (entryOfKey (tupleKind (mixKind P w)))∧(xs.map (·.1)).Nodup
  | .set S n=>h.SetOf (intKind P w) a S n
  | .ins C dx fs=>H dx = some (.own a)∧fs.length ≤ 1000∧dx ≠ a∧h.get? a = some (PySem.W.instObj C dx) ∧
      ∃ mA,h.Ns1 dx mA∧(∀ f,RelO (fs.lookup f) (mA f))∧PySem.Within mA (fs.map (·.1))
  | .own _=>∃ o,h.get? a = some o
  | .xd fs=>∃ mA,h.Ns1 a mA∧∀ f,RelO (fs.lookup f) (mA f)
  | .rng lo hi=>∃ t u v,h.get? a = some { cls:=.type "range",data:=.fields #[.int lo t,.int hi u,.int 1 v] }
  | .frz o u=>h.get? a = some o∧ObjOk H h a u
  | .tbl qs=>∃ tb:Array Value,h.get? a = some { cls:=.none,data:=.fields tb }∧TriplesOk tb.toList ∧
      ∀ pos cv,codeAmong pos tb.toList = some cv→∃ c q t,cv = .ref c∧qs[0]? = some (.str q t)∧H c = some (.own a)∧h.CodeRec (.ref c) q
  | .met f x=>h.get? a = some (PySem.W.methodObj (.ref f) (.ref x))
  | .ext φ=>φ h∧(∃ o,h.get? a = some o)∧∀ h1 h2:Heap,φ h1→(∀ o,h1.get? a = some o→h2.get? a = some o)→φ h2
noncomputable def HOk (H:Hp) (h:Heap) : Prop:=∀ a o,H a = some o→ObjOk P w H h a o
end
section
variable {P:Program} {w:World} {H H':Hp} {h h':Heap} {a:Addr} {o:HO}
theorem ObjOk.lt (x:ObjOk P w H h a o) : a < h.objs.size:=by
  cases o with
  | lst xs=>obtain ⟨_,_,_,_,e⟩:=x; exact Heap.lt_size e
  | tup xs=>obtain ⟨_,_,_,p⟩:=x; exact p.lt
  | dK kvs=>obtain ⟨_,_,_,_,o,_,_,e,_⟩:=x; exact Heap.lt_size e
  | dT kvs=>obtain ⟨_,_,_,_,o,_,_,e,_⟩:=x; exact Heap.lt_size e
  | set S n=>obtain ⟨o,_,_,_,e,_⟩:=x; exact Heap.lt_size e
  | ins C dx fs=>obtain ⟨_,_,_,e,_⟩:=x; exact Heap.lt_size e
  | own y=>obtain ⟨_,e⟩:=x; exact Heap.lt_size e
  | xd fs=>obtain ⟨_,⟨_,_,_,e,_⟩,_⟩:=x; exact Heap.lt_size e
  | rng lo hi=>obtain ⟨_,_,_,e⟩:=x; exact Heap.lt_size e
  | frz ob u=>obtain ⟨e,_⟩:=x; exact Heap.lt_size e
  | tbl qs=>obtain ⟨_,e,_⟩:=x; exact Heap.lt_size e
  | met f y=>exact Heap.lt_size (show h.get? a = some _ from x)
  | ext φ=>obtain ⟨_,⟨_,e⟩,_⟩:=x; exact Heap.lt_size e
theorem Paired.mapP {α β:Type} {F G:α→β→Prop} : ∀ {l₁:List α} {l₂:List β},Paired F l₁ l₂→(∀ a b,F a b→G a b)→Paired G l₁ l₂
  | _,_,.nil,_=>.nil
  | _,_,.cons r t,f=>.cons (f _ _ r) (Paired.mapP t f)
theorem Paired.imp' {α β:Type} {F G:α→β→Prop} (f:∀ a b,F a b→G a b) {l₁:List α} {l₂:List β} (r:Paired F l₁ l₂) : Paired G l₁ l₂:=Paired.mapP r f
theorem ObjOk.stay (x:ObjOk P w H h a o) (k:∀ b u,(b = a ∨ H b = some (.own a))→h.get? b = some u→h'.get? b = some u)
    (ho:∀ b,H b = some (.own a)→H' b = some (.own a)) (ht:∀ b xs,H b = some (.tup xs)→H' b = some (.tup xs)) : ObjOk P w H' h' a o:=by
  induction o with
  | lst xs=>obtain ⟨z,its,n,r,e⟩:=x; exact ⟨z,its,n,r,k _ _ (.inl rfl) e⟩
  | tup xs=>obtain ⟨z,its,r,ob,e,c⟩:=x; exact ⟨z,its,r,ob,k _ _ (.inl rfl) e,c⟩
  | dK kvs=>obtain ⟨z,y,vs,r,ob,es,ep,e,c⟩:=x; exact ⟨z,y,vs,r,ob,es,ep,k _ _ (.inl rfl) e,c⟩
  | dT kvs =>
    obtain ⟨z,y,xs,r,ob,es,ep,e,c⟩:=x
    exact ⟨z,y,xs,Paired.mapP r fun p q z=>⟨z.1,ht _ _ z.2.1,z.2.2⟩,ob,es,ep,k _ _ (.inl rfl) e,c⟩
  | set S n=>obtain ⟨ob,es,ep,t,e,c⟩:=x; exact ⟨ob,es,ep,t,k _ _ (.inl rfl) e,c⟩
  | ins C dx fs =>
    obtain ⟨d,z,ne,e,mA,⟨od,es,ep,e2,c⟩,r⟩:=x
    exact ⟨ho _ d,z,ne,k _ _ (.inl rfl) e,mA,⟨od,es,ep,k _ _ (.inr d) e2,c⟩,r⟩
  | own y=>obtain ⟨ob,e⟩:=x; exact ⟨ob,k _ _ (.inl rfl) e⟩
  | xd fs=>obtain ⟨mA,⟨od,es,ep,e,c⟩,r⟩:=x; exact ⟨mA,⟨od,es,ep,k _ _ (.inl rfl) e,c⟩,r⟩
  | rng lo hi=>obtain ⟨t,u,v,e⟩:=x; exact ⟨t,u,v,k _ _ (.inl rfl) e⟩
  | frz ob u ih=>obtain ⟨e,q⟩:=x; exact ⟨k _ _ (.inl rfl) e,ih q⟩
  | tbl qs =>
    obtain ⟨m,e,t,f⟩:=x
    refine ⟨m,k _ _ (.inl rfl) e,t,fun pos cv z=>?_⟩
    obtain ⟨c,q,u,r,r2,o,c2,ob,vs,tk,e2,g,rest⟩:=f pos cv z
    cases e2
    exact ⟨c,q,u,r,r2,ho _ o,c,ob,vs,tk,rfl,k _ _ (.inr o) g,rest⟩
  | met f y =>
    have e:h.get? a = some (PySem.W.methodObj (.ref f) (.ref y)):=x
    show h'.get? a = some (PySem.W.methodObj (.ref f) (.ref y))
    exact k a _ (.inl rfl) e
  | ext φ=>obtain ⟨p,⟨o,e⟩,st⟩:=x; exact ⟨st _ _ p fun o q=>k _ _ (.inl rfl) q,⟨o,k _ _ (.inl rfl) e⟩,st⟩
theorem HOk.lt (x:HOk P w H h) (e:H a = some o) : a < h.objs.size:=(x a o e).lt
theorem HOk.fresh (x:HOk P w H h) (e:h.objs.size ≤ a) : H a = none:=by
  cases q:H a with
  | none=>rfl
  | some u=>exact absurd (Nat.lt_of_lt_of_le (x.lt q) e) (Nat.lt_irrefl _)
theorem HOk.kept (x:HOk P w H h) (k:∀ b u,h.get? b = some u→h'.get? b = some u) : HOk P w H h':=fun a o e =>
  (x a o e).stay (fun b u _ q=>k b u q) (fun _ q=>q) fun _ _ q=>q
theorem HOk.laid (x:HOk P w H h) (k:∀ b u,h.get? b = some u→h'.get? b = some u) (hp:h.objs.size ≤ a) (new:ObjOk P w (upd H a o) h' a o) : HOk P w (upd H a o) h':=fun b u e=>by
  have hn:=x.fresh hp
  by_cases hb:b = a
  · subst hb; rw [upd_same] at e; cases e; exact new
  · rw [upd_ne hb] at e
    exact (x b u e).stay (fun c v _ q=>k c v q) (fun c q=>by rw [upd_ne (ne_of_none q hn)]; exact q) fun c xs q=>by rw [upd_ne (ne_of_none q hn)]; exact q
end
noncomputable def Rd (H:Hp) (a:Addr) (u:HO) : Prop:=H a = some u ∨ ∃ o,H a = some (.frz o u)
theorem Rd.ok {P:Program} {w:World} {H:Hp} {h:Heap} {a:Addr} {u:HO} (r:Rd H a u) (x:HOk P w H h) : ObjOk P w H h a u:=by
  rcases r with r | ⟨o,r⟩
  · exact x a u r
  · obtain ⟨_,q⟩:=x a _ r
    exact q
noncomputable def Mut:Option HO→Prop
  | some (.lst _)=>True
  | some (.dK _)=>True
  | some (.dT _)=>True
  | some (.set _ _)=>True
  | some (.ins _ _ _)=>True
  | some (.ext _)=>True
  | _=>False
section
variable {P:Program} {w:World} {H:Hp} {h h':Heap} {x e:Addr} {o':HO}
theorem HOk.write (ok:HOk P w H h) (mu:Mut (H x)) (he:e = x ∨ H e = some (.own x)) (k:∀ b u,b ≠ e→h.get? b = some u→h'.get? b = some u) (heo:∃ u,h'.get? e = some u)
    (new:ObjOk P w (upd H x o') h' x o') : HOk P w (upd H x o') h':=fun b u q=>by
  have nown:∀ c y,H c = some (.own y)→c ≠ x:=fun c y r z=>by subst z; rw [r] at mu; exact mu
  have ntup:∀ c xs,H c = some (.tup xs)→c ≠ x:=fun c xs r z=>by subst z; rw [r] at mu; exact mu
  by_cases hb:b = x
  · subst hb; rw [upd_same] at q; cases q; exact new
  · rw [upd_ne hb] at q
    by_cases hbe:b = e
    · have q':H b = some (.own x):=by
        rcases he with z | z
        · exact absurd (hbe.trans z) hb
        · rw [hbe]; exact z
      rw [q] at q'; cases q'
      obtain ⟨v,hv⟩:=heo
      exact ⟨v,by rw [hbe]; exact hv⟩
    · refine (ok b u q).stay (fun c v hc r => k c v ?_ r) (fun c r => by rw [upd_ne (nown c b r)]; exact r) fun c xs r => by rw [upd_ne (ntup c xs r)]; exact r
      rcases hc with rfl | hc
      · exact hbe
      · rintro rfl
        rcases he with z | z
        · exact nown c b hc z
        · rw [hc] at z; cases z; exact hb rfl
end
structure Un (fs ex:List Addr) (H H':Hp) (h h':Heap) : Prop where
  keep:∀ b o,h.get? b = some o→H b = none→b ∉ fs→b ∉ ex→h'.get? b = some o
  slot:∀ b o,h.get? b = some o→H b = none→b ∈ fs→b ∉ ex→∃ sl,h'.get? b = some { o with slots:=sl }
  free:∀ b o,h.get? b = some o→H b = none→b ∉ ex→H' b = none
  there:∀ b o,h.get? b = some o→b ∉ ex→∃ o',h'.get? b = some o'
  tups:∀ b xs,H b = some (.tup xs)→H' b = some (.tup xs)
  frzs:∀ b o u,H b = some (.frz o u)→H' b = some (.frz o u)
  tbls:∀ b ps,H b = some (.tbl ps)→∃ more,H' b = some (.tbl (ps ++ more))
section
variable {fs fs' ex ex':List Addr} {H H1 H2:Hp} {h h1 h2 h':Heap} {a x e:Addr} {o:HO}
theorem Un.any (u:Un fs ex H H1 h h1) {b:Addr} {ob:Obj} (q:h.get? b = some ob) (n:H b = none) (hx:b ∉ ex) : ∃ sl,h1.get? b = some { ob with slots:=sl }:=by
  by_cases hb:b ∈ fs
  · exact u.slot b ob q n hb hx
  · exact ⟨ob.slots,u.keep b ob q n hb hx⟩
theorem Un.kept (k:∀ b u,h.get? b = some u→h'.get? b = some u) : Un fs ex H H h h':=
  ⟨fun b ob q _ _ _=>k b ob q,fun b ob q _ _ _=>⟨ob.slots,k b ob q⟩,fun _ _ _ n _=>n,fun b ob q _=>⟨ob,k b ob q⟩,fun _ _ q=>q,fun _ _ _ q=>q,fun _ ps q=>⟨#[],by rw [q]; simp⟩⟩
theorem Un.refl:Un fs ex H H h h:=Un.kept fun _ _ q=>q
theorem Un.laid (k:∀ b u,h.get? b = some u→h'.get? b = some u) (hp:h.objs.size ≤ a) (hn:H a = none) : Un fs ex H (upd H a o) h h' where
  keep:=fun b u q _ _ _=>k b u q
  slot:=fun b u q _ _ _=>⟨u.slots,k b u q⟩
  free:=fun b u q n _=>by rw [upd_ne (Nat.ne_of_lt (Nat.lt_of_lt_of_le (Heap.lt_size q) hp))]; exact n
  there:=fun b u q _=>⟨u,k b u q⟩
  tups:=fun b xs q=>by rw [upd_ne (ne_of_none q hn)]; exact q
  frzs:=fun b u xs q=>by rw [upd_ne (ne_of_none q hn)]; exact q
  tbls:=fun b ps q=>⟨#[],by rw [upd_ne (ne_of_none q hn),q]; simp⟩
theorem Un.write (mu:Mut (H x)) (he:e = x ∨ H e = some (.own x)) (k:∀ b u,b ≠ e→h.get? b = some u→h'.get? b = some u) (heo:∃ u,h'.get? e = some u) : Un fs ex H (upd H x o) h h':=by
  have hx:∀ b,H b = none→b ≠ x:=fun b n z=>by subst z; rw [n] at mu; exact mu
  have hb:∀ b,H b = none→b ≠ e:=fun b n z=>by
    subst z
    rcases he with r | r
    · exact hx b n r
    · rw [n] at r; cases r
  have hm:∀ b u,H b = some u→¬ Mut (some u)→b ≠ x:=fun b u q nm z=>by subst z; rw [q] at mu; exact nm mu
  refine ⟨fun b u q n _ _=>k b u (hb b n) q,fun b u q n _ _=>⟨u.slots,k b u (hb b n) q⟩,fun b u q n _=>by rw [upd_ne (hx b n)]; exact n,fun b u q _=>?_,
    fun b xs q=>by rw [upd_ne (hm b _ q fun z=>z)]; exact q,fun b u xs q=>by rw [upd_ne (hm b _ q fun z=>z)]; exact q,fun b ps q=>⟨#[],by rw [upd_ne (hm b _ q fun z=>z),q]; simp⟩⟩
  by_cases hbe:b = e
  · subst hbe; exact heo
  · exact ⟨u,k b u hbe q⟩
end
noncomputable def trk (h:Heap) (H:Hp) : List Addr:=(List.range h.objs.size).filter fun a=>(H a).isSome
noncomputable def hidT (h:Heap) (H:Hp) : Heap:=PySem.W.hideAll h (trk h H)
theorem hidT_size (h:Heap) (H:Hp) : (hidT h H).objs.size = h.objs.size:=PySem.W.hideAll_size _ _
theorem hidT_get {h:Heap} {H:Hp} {b:Addr} {o:Obj} (e:h.get? b = some o) (n:H b = none) : (hidT h H).get? b = some o:=
  PySem.W.hideAll_get _ e fun hm=>by
    have q:(H b).isSome = true:=(List.mem_filter.mp hm).2
    rw [n] at q; simp at q
theorem of_hidT {h:Heap} {H:Hp} {b:Addr} {o:Obj} (e:(hidT h H).get? b = some o) : h.get? b = some o∧H b = none:=by
  have e':h.get? b = some o:=PySem.W.of_hideAll (trk h H) e
  refine ⟨e',?_⟩
  cases q:H b with
  | none=>rfl
  | some x =>
    have hm:b ∈ trk h H:=List.mem_filter.mpr ⟨List.mem_range.mpr (Heap.lt_size e'),by simp [q]⟩
    have z:(hidT h H).get? b = none:=PySem.W.hideAll_none (trk h H) hm
    rw [z] at e; cases e
noncomputable def allNews (g h:Heap) (L:Addr) : List (Addr × Obj):=(List.range h.objs.size).filterMap fun a=>if a = L ∨ (g.get? a).isSome = true then none else (h.get? a).map fun o=>(a,o)
noncomputable def rest (g h:Heap) (L d:Addr) : List (Addr × Obj):=(allNews g h L).filter fun p=>decide (p.1 ≠ d)
end L2
namespace L2
open PySem PySem.Spec PyProof.Rows
structure Mod (K:PySem.W.Frag) (mg:Str→Option Value) (base:Heap) : Prop where
  kin:K.In base
  glob:base.Ns mainGlobals mg
  blt:∃ mb,base.Ns builtinsNs mb∧∀ x:Str,x ≠ "__name__"→mb x = bootBuiltins x
  nolimit:base.NoLimit
structure Cx where
  prog:Program
  w:World
  K:PySem.W.Frag
  mg:Str→Option Value
  base:Heap
  A:Around
  N:List Str
  s₀:Shared
  H₀:Hp
  env:Env
  outer:List Env
  stack:List Env
  ex:List Addr
  fn:Str→Bool
  calm:Bool
  pn:List (Addr × Obj)
  xe:Value→Shared→Prop
noncomputable def frs (l:List Env) : List Addr:=l.filterMap (·.frame)
noncomputable abbrev Cx.fs (X:Cx) : List Addr:=frs X.outer
noncomputable def Vis (sc:Scope) (x:Str) : Prop:=sc.names.lookup x = some .local ∨ sc.names.lookup x = some .cell ∨ sc.names.lookup x = some .free
noncomputable def Loc (sc:Scope) (x:Str) : Prop:=sc.names.lookup x = some .local ∨ sc.names.lookup x = some .cell
noncomputable def Look (env:Env) (h:Heap) (m:Str→Option Value) (x:Str) (u:Value) : Prop:=
  (env.kindOf x = some .local∧m x = some u) ∨ ((env.kindOf x = some .cell ∨ env.kindOf x = some .free)∧∃ c,env.cells.lookup x = some c∧h.IsCell c (some u))
structure Cx.Ok (X:Cx) : Prop where
  mod:Mod X.K X.mg X.base
  kind:X.env.scope.kind = .function
  glob:X.env.globals = mainGlobals
  blt:X.env.builtins = builtinsNs
  above:X.s₀.heap.objs.size ≤ X.env.locals
  inj:∀ x y c,X.env.cells.lookup x = some c→X.env.cells.lookup y = some c→x = y
  has:∀ x,(X.env.kindOf x = some .cell ∨ X.env.kindOf x = some .free)→∃ c,X.env.cells.lookup x = some c
  cab:∀ x c,X.fn x = true→X.env.cells.lookup x = some c→X.s₀.heap.objs.size ≤ c
  hd:X.calm = true→X.A.handled = none
  frames:X.A.frames = some X.stack
  stk:X.stack = X.outer ∨ (X.stack = X.env :: X.outer∧X.env.frame = some X.env.locals)
  exf:∀ b ∈ X.ex,b ≠ X.env.locals∧∀ x c,X.env.cells.lookup x = some c→c ≠ b
  bs:∀ b o,X.base.get? b = some o→X.s₀.heap.get? b = some o∧X.H₀ b = none
  bsz:X.base.objs.size ≤ X.s₀.heap.objs.size
  noex:∀ b o,X.base.get? b = some o→b ∉ X.ex
  exfs:∀ b ∈ X.ex,b ∉ X.fs
  funs:X.s₀.heap.FunFrames X.base X.outer
  frf:∀ b ∈ X.fs,X.H₀ b = none
structure Inv (X:Cx) (pins:List (Addr × Obj)) (σ:List (Option V)) (H:Hp) (s:Shared) : Prop where
  ok:X.Ok
  os:s.os = X.s₀.os
  bare:AllBare s.gens
  base:Un X.fs X.ex X.H₀ H X.s₀.heap s.heap
  loc:∃ m,s.heap.Ns X.env.locals m∧∀ (i:Nat) (x:Str) (v:V),X.N[i]? = some x→σ[i]? = some (some v)→Vis X.env.scope x→∃ u,RelV v u∧Look X.env s.heap m x u
  cell:∀ x c,X.env.cells.lookup x = some c→∃ v,s.heap.IsCell c v
  free:H X.env.locals = none
  freeC:∀ x c,X.env.cells.lookup x = some c→H c = none
  pin:∀ p ∈ X.pn ++ pins,s.heap.get? p.1 = some p.2∧H p.1 = none∧p.1 ≠ X.env.locals∧p.1 ∉ X.fs∧∀ v,p.2.data ≠ .cell v
  hok:HOk X.prog X.w H s.heap
  len:σ.length = X.N.length
section
variable {X:Cx} {pins:List (Addr × Obj)} {σ:List (Option V)} {H H':Hp} {s:Shared} {h':Heap}
theorem Cx.Ok.nofr (ok:X.Ok) {b:Addr} {o:Obj} (e:X.base.get? b = some o) : b ∉ X.fs:=fun hb=>by
  have:=(ok.funs.mem hb).1
  rw [e] at this; cases this
theorem Inv.bs (I:Inv X pins σ H s) : ∀ b o,X.base.get? b = some o→s.heap.get? b = some o∧H b = none:=fun b o e =>
  ⟨I.base.keep b o (I.ok.bs b o e).1 (I.ok.bs b o e).2 (I.ok.nofr e) (I.ok.noex b o e),I.base.free b o (I.ok.bs b o e).1 (I.ok.bs b o e).2 (I.ok.noex b o e)⟩
theorem Inv.bk (I:Inv X pins σ H s) : ∀ b o,X.base.get? b = some o→s.heap.get? b = some o:=fun b o e=>(I.bs b o e).1
theorem Inv.mod (I:Inv X pins σ H s) : Mod X.K X.mg X.base:=I.ok.mod
theorem Inv.kIn (I:Inv X pins σ H s) : X.K.In s.heap:=I.ok.mod.kin.keeps I.bk
theorem Inv.nolimit (I:Inv X pins σ H s) : s.heap.NoLimit:=I.ok.mod.nolimit.keeps I.bk
theorem Inv.fr (I:Inv X pins σ H s) : ∃ m,Fr X.base X.env.locals s.heap m:=
  let ⟨m,hn,_⟩:=I.loc
  ⟨m,hn,I.bk,Nat.le_trans I.ok.bsz I.ok.above⟩
theorem Inv.lt (I:Inv X pins σ H s) : X.env.locals < s.heap.objs.size:=let ⟨_,hn,_⟩:=I.loc; hn.lt
theorem Inv.sz (I:Inv X pins σ H s) : X.s₀.heap.objs.size ≤ s.heap.objs.size:=Nat.le_trans I.ok.above (Nat.le_of_lt I.lt)
theorem Inv.nofs (I:Inv X pins σ H s) {a:Addr} (h:s.heap.objs.size ≤ a) : a ∉ X.fs:=fun hb=>by
  obtain ⟨_,o,ho,_⟩:=I.ok.funs.mem hb
  exact absurd (Nat.lt_of_lt_of_le (Heap.lt_size ho) (Nat.le_trans I.sz h)) (Nat.lt_irrefl _)
theorem Inv.cne (I:Inv X pins σ H s) : ∀ x c,X.env.cells.lookup x = some c→c ≠ X.env.locals:=fun x c e z=>by
  obtain ⟨v,o,ho,hd⟩:=I.cell x c e
  obtain ⟨m,⟨o',es,ep,ho',hd',_⟩,_⟩:=I.loc
  rw [z,ho'] at ho; cases ho; rw [hd'] at hd; cases hd
theorem Inv.funs (I:Inv X pins σ H s) : s.heap.FunFrames X.base X.outer:=by
  have all:∀ (l:List Env),(∀ b ∈ frs l,b ∈ X.fs)→X.s₀.heap.FunFrames X.base l→s.heap.FunFrames X.base l:=by
    intro l
    induction l with
    | nil=>intro _ _; trivial
    | cons env r ih =>
      intro hs hl
      obtain ⟨hk,⟨L,o,hf,hn,ho,hd⟩,hr⟩:=hl
      have hL:L ∈ X.fs:=hs L (by unfold frs; rw [List.filterMap_cons,hf]; exact List.mem_cons_self)
      obtain ⟨sl,e⟩:=I.base.slot L o ho (I.ok.frf L hL) hL fun z=>I.ok.exfs L z hL
      exact ⟨hk,⟨L,_,hf,hn,e,hd⟩,ih (fun b hb=>hs b (by unfold frs; rw [List.filterMap_cons,hf]; exact List.mem_cons_of_mem _ hb)) hr⟩
  exact all X.outer (fun _ hb=>hb) I.ok.funs
theorem Inv.stack (I:Inv X pins σ H s) : s.heap.FunFrames X.base X.stack:=by
  rcases I.ok.stk with e | ⟨e,hf⟩
  · rw [e]; exact I.funs
  · rw [e]
    obtain ⟨m,hn,_⟩:=I.loc
    refine .cons (by rw [I.ok.kind]; decide) hf hn ?_ I.funs
    exact Heap.get?_none_of_le (Nat.le_trans I.ok.bsz I.ok.above)
theorem Inv.stkSub (I:Inv X pins σ H s) : ∀ b ∈ frs X.stack,b ∈ X.env.locals :: X.fs:=fun b hb=>by
  rcases I.ok.stk with e | ⟨e,hf⟩
  · rw [e] at hb; exact List.mem_cons_of_mem _ hb
  · rw [e] at hb
    unfold frs at hb
    rw [List.filterMap_cons,hf] at hb
    exact hb
theorem Inv.stkFree (I:Inv X pins σ H s) : ∀ b ∈ frs X.stack,H b = none:=fun b hb=>by
  rcases List.mem_cons.mp (I.stkSub b hb) with e | hb
  · rw [e]; exact I.free
  · obtain ⟨_,o,ho,_⟩:=I.ok.funs.mem hb
    exact I.base.free b o ho (I.ok.frf b hb) fun z=>I.ok.exfs b z hb
theorem Inv.step {g':Array GenState} {t':Nat} {d':Drawn} {ch:List Addr} (I:Inv X pins σ H s)
    (hch:∀ b ∈ ch,(b ∈ X.ex ∨ X.s₀.heap.objs.size ≤ b)∧b ≠ X.env.locals∧(∀ x c,X.env.cells.lookup x = some c→c ≠ b)∧∀ p ∈ X.pn ++ pins,p.1 ≠ b)
    (keep:∀ b o,b ≠ X.env.locals→b ∉ X.fs→b ∉ ch→s.heap.get? b = some o→H b = none→h'.get? b = some o)
    (slot:∀ b o,b ≠ X.env.locals→b ∈ X.fs→b ∉ ch→s.heap.get? b = some o→H b = none→∃ sl,h'.get? b = some { o with slots:=sl }) (free:∀ b o,b ∉ ch→s.heap.get? b = some o→H b = none→H' b = none)
    (there:∀ b o,b ∉ ch→s.heap.get? b = some o→∃ o',h'.get? b = some o')
    (tups:∀ b xs,H b = some (.tup xs)→H' b = some (.tup xs)) (frzs:∀ b o u,H b = some (.frz o u)→H' b = some (.frz o u)) (tbls:∀ b ps,H b = some (.tbl ps)→∃ more,H' b = some (.tbl (ps ++ more)))
    (ns:∀ m,s.heap.Ns X.env.locals m→h'.Ns X.env.locals m) (hok:HOk X.prog X.w H' h') (hg:AllBare g') :
    Inv X pins σ H' { s with heap:=h',gens:=g',drawn:=d',toks:=t' }:=by
  have neL:∀ b o,X.s₀.heap.get? b = some o→b ≠ X.env.locals:=fun b o e=>Nat.ne_of_lt (Nat.lt_of_lt_of_le (Heap.lt_size e) I.ok.above)
  have neC:∀ b o,X.s₀.heap.get? b = some o→b ∉ X.ex→b ∉ ch:=fun b o e hx hb=>by
    rcases (hch b hb).1 with z | z
    · exact hx z
    · exact absurd (Nat.lt_of_lt_of_le (Heap.lt_size e) z) (Nat.lt_irrefl _)
  have cellK:∀ x c,X.env.cells.lookup x = some c→∀ v,s.heap.IsCell c v→h'.IsCell c v:=fun x c e v ⟨o,ho,hd⟩=>by
    have nch:c ∉ ch:=fun z=>(hch c z).2.2.1 x c e rfl
    by_cases hc:c ∈ X.fs
    · obtain ⟨sl,q⟩:=slot c o (I.cne x c e) hc nch ho (I.freeC x c e)
      exact ⟨_,q,hd⟩
    · exact ⟨o,keep c o (I.cne x c e) hc nch ho (I.freeC x c e),hd⟩
  refine ⟨I.ok,I.os,hg,⟨fun b o e n hb hx=>?_,fun b o e n hb hx=>?_,fun b o e n hx=>?_,fun b o e hx=>?_,fun b xs e=>tups b xs (I.base.tups b xs e),fun b o xs e=>frzs b o xs (I.base.frzs b o xs e),fun b ps e=>?_⟩,?_,fun x c e=>?_,?_,fun x c e=>?_,fun p hp=>?_,hok,I.len⟩
  · exact keep b o (neL b o e) hb (neC b o e hx) (I.base.keep b o e n hb hx) (I.base.free b o e n hx)
  · obtain ⟨sl,e1⟩:=I.base.slot b o e n hb hx
    obtain ⟨sl',e2⟩:=slot b _ (neL b o e) hb (neC b o e hx) e1 (I.base.free b o e n hx)
    exact ⟨sl',e2⟩
  · obtain ⟨o',e1⟩:=I.base.there b o e hx
    exact free b o' (neC b o e hx) e1 (I.base.free b o e n hx)
  · obtain ⟨o',e1⟩:=I.base.there b o e hx
    exact there b o' (neC b o e hx) e1
  · obtain ⟨m1,e1⟩:=I.base.tbls b ps e
    obtain ⟨m2,e2⟩:=tbls b _ e1
    exact ⟨m1 ++ m2,by rw [e2,Array.append_assoc]⟩
  · obtain ⟨m,hn,hl⟩:=I.loc
    refine ⟨m,ns m hn,fun i x v e1 e2 e3=>?_⟩
    obtain ⟨u,r,l⟩:=hl i x v e1 e2 e3
    refine ⟨u,r,?_⟩
    rcases l with l | ⟨k,c,e,z⟩
    · exact .inl l
    · exact .inr ⟨k,c,e,cellK x c e _ z⟩
  · obtain ⟨v,z⟩:=I.cell x c e
    exact ⟨v,cellK x c e v z⟩
  · obtain ⟨m,⟨o,_,_,ho,_⟩,_⟩:=I.loc
    exact free _ o (fun z=>(hch _ z).2.1 rfl) ho I.free
  · obtain ⟨v,o,ho,hd⟩:=I.cell x c e
    exact free c o (fun z=>(hch c z).2.2.1 x c e rfl) ho (I.freeC x c e)
  · obtain ⟨e,n,ne,nf,d⟩:=I.pin p hp
    have nch:p.1 ∉ ch:=fun z=>(hch p.1 z).2.2.2 p hp rfl
    exact ⟨keep p.1 p.2 ne nf nch e n,free p.1 p.2 nch e n,ne,nf,d⟩
theorem Inv.un {t':Nat} (I:Inv X pins σ H s) (u:Un X.fs [] H H' s.heap h') (hok:HOk X.prog X.w H' h') : Inv X pins σ H' { s with heap:=h',toks:=t' }:=by
  obtain ⟨m,⟨o,es,ep,ho,r⟩,_⟩:=id I.loc
  obtain ⟨sl,hL⟩:=u.any ho I.free (by simp)
  exact I.step (g':=s.gens) (d':=s.drawn) (ch:=[]) (fun _ z=>nomatch z) (fun b o _ hb _ e n=>u.keep b o e n hb (by simp)) (fun b o _ hb _ e n=>u.slot b o e n hb (by simp)) (fun b o _ e n=>u.free b o e n (by simp)) (fun b o _ e=>u.there b o e (by simp)) u.tups u.frzs u.tbls (fun m' hm=>by
    obtain ⟨o',es',ep',ho',r'⟩:=hm
    rw [ho] at ho'; cases ho'
    exact ⟨_,es',ep',hL,r'⟩) hok I.bare
theorem Inv.call {g':Array GenState} {t':Nat} {d':Drawn} {ch:List Addr} (I:Inv X pins σ H s) (u:Un (frs X.stack) ch H H' s.heap h') (hok:HOk X.prog X.w H' h') (hg:AllBare g')
    (hch:∀ b ∈ ch,(b ∈ X.ex ∨ X.s₀.heap.objs.size ≤ b)∧b ≠ X.env.locals∧(∀ x c,X.env.cells.lookup x = some c→c ≠ b)∧∀ p ∈ X.pn ++ pins,p.1 ≠ b) :
    Inv X pins σ H' { s with heap:=h',gens:=g',drawn:=d',toks:=t' }:=by
  obtain ⟨m,⟨o,es,ep,ho,r⟩,_⟩:=id I.loc
  obtain ⟨sl,hL⟩:=u.any ho I.free fun z=>(hch _ z).2.1 rfl
  exact I.step (ch:=ch) hch (fun b o hL hb hc e n=>u.keep b o e n (fun z=>(List.mem_cons.mp (I.stkSub b z)).elim hL hb) hc) (fun b o _ _ hc e n=>u.any e n hc) (fun b o hc e n=>u.free b o e n hc) (fun b o hc e=>u.there b o e hc) u.tups u.frzs u.tbls (fun m' hm=>by
    obtain ⟨o',es',ep',ho',r'⟩:=hm
    rw [ho] at ho'; cases ho'
    exact ⟨_,es',ep',hL,r'⟩) hok hg
theorem Inv.turned {t':Nat} {it:Addr} (I:Inv X pins σ H s) (k:∀ b o,b ≠ it→s.heap.get? b = some o→h'.get? b = some o) (hn:H it = none) (hL:it ≠ X.env.locals)
    (h1:it ∈ X.ex ∨ X.s₀.heap.objs.size ≤ it) (h2:∀ x c,X.env.cells.lookup x = some c→c ≠ it) (h3:∀ p ∈ X.pn ++ pins,p.1 ≠ it) : Inv X pins σ H { s with heap:=h',toks:=t' }:=by
  have nit:∀ b u,H b = some u→b ≠ it:=fun b u e z=>by rw [z,hn] at e; cases e
  refine I.step (g':=s.gens) (d':=s.drawn) (ch:=[it]) (fun b hb=>?_) (fun b o _ _ hc e _=>k b o (fun z=>hc (by simp [z])) e) (fun b o _ _ hc e _=>⟨o.slots,k b o (fun z=>hc (by simp [z])) e⟩) (fun _ _ _ _ n=>n)
    (fun b o hc e=>⟨o,k b o (fun z=>hc (by simp [z])) e⟩) (fun _ _ e=>e) (fun _ _ _ e=>e) (fun b ps e=>⟨#[],by rw [e]; simp⟩) (fun m hm=>?_) (fun b u e=>?_) I.bare
  · have e : b = it := by simpa using hb
    subst e
    exact ⟨h1,hL,h2,h3⟩
  · obtain ⟨o,es,ep,ho,r⟩:=hm
    exact ⟨o,es,ep,k _ o (Ne.symm hL) ho,r⟩
  · refine (I.hok b u e).stay (fun c v hc q=>k c v ?_ q) (fun _ q=>q) fun _ _ q=>q
    rcases hc with z | z
    · rw [z]; exact nit b u e
    · exact nit c _ z
theorem Inv.tok (I:Inv X pins σ H s) (t:Nat) : Inv X pins σ H { s with toks:=t }:=I.un (h':=s.heap) (t':=t) Un.refl I.hok
theorem Inv.kept {t':Nat} (I:Inv X pins σ H s) (k:∀ b u,s.heap.get? b = some u→h'.get? b = some u) : Inv X pins σ H { s with heap:=h',toks:=t' }:=I.un (Un.kept k) (I.hok.kept k)
theorem Inv.laid {a:Addr} {o:HO} {t':Nat} (I:Inv X pins σ H s) (k:∀ b u,s.heap.get? b = some u→h'.get? b = some u) (hp:s.heap.objs.size ≤ a) (new:ObjOk X.prog X.w (upd H a o) h' a o) :
    Inv X pins σ (upd H a o) { s with heap:=h',toks:=t' }:=I.un (Un.laid k hp (I.hok.fresh hp)) (I.hok.laid k hp new)
theorem Inv.write {x e:Addr} {o:HO} {t':Nat} (I:Inv X pins σ H s) (mu:Mut (H x)) (he:e = x ∨ H e = some (.own x)) (k:∀ b u,b ≠ e→s.heap.get? b = some u→h'.get? b = some u) (heo:∃ u,h'.get? e = some u)
    (new:ObjOk X.prog X.w (upd H x o) h' x o) : Inv X pins σ (upd H x o) { s with heap:=h',toks:=t' }:=I.un (Un.write mu he k heo) (I.hok.write mu he k heo new)
theorem Inv.pins_of {pins':List (Addr × Obj)} (I:Inv X pins σ H s) (h:∀ p ∈ pins',s.heap.get? p.1 = some p.2∧H p.1 = none∧p.1 ≠ X.env.locals∧p.1 ∉ X.fs∧∀ v,p.2.data ≠ .cell v) : Inv X pins' σ H s:=
  ⟨I.ok,I.os,I.bare,I.base,I.loc,I.cell,I.free,I.freeC,fun p hp=>(List.mem_append.mp hp).elim (fun z=>I.pin p (List.mem_append_left _ z)) (h p),I.hok,I.len⟩
theorem nodup_ix {N:List Str} (hN:N.Nodup) {i j:Nat} {x:Str} (a:N[i]? = some x) (b:N[j]? = some x) : i = j:=by
  obtain ⟨h1,e1⟩:=List.getElem?_eq_some_iff.mp a
  obtain ⟨h2,e2⟩:=List.getElem?_eq_some_iff.mp b
  exact (List.getElem_inj hN).mp (e1.trans e2.symm)
theorem store_ok2 {M:Model} {A:Around} {E:Value→Shared→Prop} {i:Nat} {x:Str} {v:V} {u:Value} {Q:Unit→Shared→Prop} (I:Inv X pins σ H s) (hN:X.N.Nodup) (hi:X.N[i]? = some x) (hx:Loc X.env.scope x) (r:RelV v u)
    (h:∀ s',Inv X pins (σ.set i (some v)) H s'→(∃ a,Heap.SameBut a s.heap s'.heap∧(a = X.env.locals ∨ X.env.cells.lookup x = some a))→Q () s') (hf:X.fn x = true ∨ X.env.scope.names.lookup x = some .local:=by first | exact .inl rfl | exact .inr rfl | assumption) : wpAny M A (storeName X.env x u) Q E s:=by
  obtain ⟨m,hn,hl⟩:=id I.loc
  have hcls:(X.env.scope.kind == .class || (X.env.scope.kind == .module && X.env.locals != X.env.globals)) = false:=by rw [I.ok.kind]; rfl
  have hiσ:i < σ.length:=by rw [I.len]; exact (List.getElem?_eq_some_iff.mp hi).1
  have cne:=I.cne
  have tracked:∀ {a:Addr} {h':Heap},(∃ o,s.heap.get? a = some o∧H a = none)→Heap.SameBut a s.heap h'→HOk X.prog X.w H h':=fun {a h'} ha hs b ob e=>by
    obtain ⟨_,_,hfree⟩:=ha
    refine (I.hok b ob e).stay (fun c w' hc q=>(hs.2 c ?_).trans q) (fun _ q=>q) fun _ _ q=>q
    rintro rfl
    rcases hc with rfl | hc
    · rw [hfree] at e; cases e
    · rw [hfree] at hc; cases hc
  rcases hx with hk | hk
  · refine wpAny_storeName_local hk hn (fun h' hn' hs=>?_) hcls
    obtain ⟨oL,_,_,hoL,_⟩:=id hn
    refine h _ ⟨I.ok,I.os,I.bare,⟨fun b o e n hb hx=>?_,fun b o e n hb hx=>?_,I.base.free,fun b o e hx=>?_,I.base.tups,I.base.frzs,I.base.tbls⟩,⟨_,hn',fun j y v' e1 e2 e3=>?_⟩,fun y c e=>?_,I.free,I.freeC,fun p hp=>?_,tracked ⟨oL,hoL,I.free⟩ hs,by simpa using I.len⟩ ⟨_,hs,.inl rfl⟩
    · exact (hs.2 b (Nat.ne_of_lt (Nat.lt_of_lt_of_le (Heap.lt_size e) I.ok.above))).trans (I.base.keep b o e n hb hx)
    · obtain ⟨sl,e1⟩:=I.base.slot b o e n hb hx
      exact ⟨sl,(hs.2 b (Nat.ne_of_lt (Nat.lt_of_lt_of_le (Heap.lt_size e) I.ok.above))).trans e1⟩
    · obtain ⟨o',e1⟩:=I.base.there b o e hx
      exact ⟨o',(hs.2 b (Nat.ne_of_lt (Nat.lt_of_lt_of_le (Heap.lt_size e) I.ok.above))).trans e1⟩
    · by_cases hj:j = i
      · subst hj
        rw [hi] at e1; cases e1
        rw [List.getElem?_set_self hiσ] at e2
        cases e2
        exact ⟨u,r,.inl ⟨hk,by simp⟩⟩
      · rw [List.getElem?_set_ne (Ne.symm hj)] at e2
        obtain ⟨u',r',q⟩:=hl j y v' e1 e2 e3
        refine ⟨u',r',?_⟩
        rcases q with ⟨k,e⟩ | ⟨k,c,e,z⟩
        · refine .inl ⟨k,?_⟩
          have:y ≠ x:=fun e=>hj (nodup_ix hN e1 (e ▸ hi))
          simp [this,e]
        · exact .inr ⟨k,c,e,z.sameBut hs (cne y c e)⟩
    · obtain ⟨w',z⟩:=I.cell y c e
      exact ⟨w',z.sameBut hs (cne y c e)⟩
    · obtain ⟨e,n,ne,nf,d⟩:=I.pin p hp
      exact ⟨(hs.2 p.1 ne).trans e,n,ne,nf,d⟩
  · have hfn:X.fn x = true:=by
      rcases hf with z | z
      · exact z
      · rw [z] at hk; cases hk
    obtain ⟨c,hc⟩:=I.ok.has x (.inl hk)
    obtain ⟨w',z⟩:=I.cell x c hc
    refine wpAny_storeName_cell I.ok.kind hk hc z (fun h' hc' hs=>?_)
    obtain ⟨oc,hoc,hocd⟩:=id z
    refine h { s with heap:=h' } ⟨I.ok,I.os,I.bare,⟨fun b o e n hb hx=>?_,fun b o e n hb hx=>?_,I.base.free,fun b o e hx=>?_,I.base.tups,I.base.frzs,I.base.tbls⟩,⟨m,hn.sameBut hs (Ne.symm (cne x c hc)),fun j y v' e1 e2 e3=>?_⟩,fun y c' e=>?_,I.free,I.freeC,fun p hp=>?_,tracked ⟨oc,hoc,I.freeC x c hc⟩ hs,by simpa using I.len⟩ ⟨c,hs,.inr hc⟩
    · exact (hs.2 b (Nat.ne_of_lt (Nat.lt_of_lt_of_le (Heap.lt_size e) (I.ok.cab x c hfn hc)))).trans (I.base.keep b o e n hb hx)
    · obtain ⟨sl,e1⟩:=I.base.slot b o e n hb hx
      exact ⟨sl,(hs.2 b (Nat.ne_of_lt (Nat.lt_of_lt_of_le (Heap.lt_size e) (I.ok.cab x c hfn hc)))).trans e1⟩
    · obtain ⟨o',e1⟩:=I.base.there b o e hx
      exact ⟨o',(hs.2 b (Nat.ne_of_lt (Nat.lt_of_lt_of_le (Heap.lt_size e) (I.ok.cab x c hfn hc)))).trans e1⟩
    · by_cases hj:j = i
      · subst hj
        rw [hi] at e1; cases e1
        rw [List.getElem?_set_self hiσ] at e2
        cases e2
        exact ⟨u,r,.inr ⟨.inl hk,c,hc,hc'⟩⟩
      · rw [List.getElem?_set_ne (Ne.symm hj)] at e2
        obtain ⟨u',r',q⟩:=hl j y v' e1 e2 e3
        refine ⟨u',r',?_⟩
        rcases q with q | ⟨k,c',e,z'⟩
        · exact .inl q
        · refine .inr ⟨k,c',e,z'.sameBut hs ?_⟩
          rintro rfl
          exact hj (nodup_ix hN e1 (I.ok.inj _ _ _ e hc ▸ hi))
    · by_cases hcc:c' = c
      · subst hcc; exact ⟨_,hc'⟩
      · obtain ⟨w2,z2⟩:=I.cell y c' e
        exact ⟨w2,z2.sameBut hs hcc⟩
    · obtain ⟨e,n,ne,nf,d⟩:=I.pin p hp
      refine ⟨(hs.2 p.1 ?_).trans e,n,ne,nf,d⟩
      intro q
      rw [q,hoc] at e
      have q':oc = p.2:=Option.some.inj e
      exact d w' (by rw [← q']; exact hocd)
theorem store_ok {M:Model} {A:Around} {E:Value→Shared→Prop} {i:Nat} {x:Str} {v:V} {u:Value} {Q:Unit→Shared→Prop} (I:Inv X pins σ H s) (hN:X.N.Nodup) (hi:X.N[i]? = some x) (hx:Loc X.env.scope x) (r:RelV v u)
    (h:∀ s',Inv X pins (σ.set i (some v)) H s'→Q () s') (hf:X.fn x = true ∨ X.env.scope.names.lookup x = some .local:=by first | exact .inl rfl | exact .inr rfl | assumption) : wpAny M A (storeName X.env x u) Q E s:=
  store_ok2 I hN hi hx r (fun s' I' _=>h s' I') hf
theorem Inv.call' {s':Shared} {ch:List Addr} (I:Inv X pins σ H s) (ho:s'.os = s.os) (u:Un (frs X.stack) ch H H' s.heap s'.heap) (hok:HOk X.prog X.w H' s'.heap) (hg:AllBare s'.gens)
    (hch:∀ b ∈ ch,(b ∈ X.ex ∨ X.s₀.heap.objs.size ≤ b)∧b ≠ X.env.locals∧(∀ x c,X.env.cells.lookup x = some c→c ≠ b)∧∀ p ∈ X.pn ++ pins,p.1 ≠ b) : Inv X pins σ H' s':=by
  obtain ⟨h',g',d',t',o'⟩:=s'
  have e:o' = s.os:=ho
  subst e
  exact I.call (g':=g') (t':=t') (d':=d') u hok hg hch
end
noncomputable abbrev XK:=Value→Option Addr→Hp→Prop
noncomputable abbrev St:=List (Option V)
noncomputable abbrev VK:=V→Hp→Prop
noncomputable abbrev TE:=St→Hp→VK→Prop
noncomputable abbrev TT:=St→Hp→(Bool→Hp→Prop)→Prop
noncomputable abbrev TA:=St→Hp→(List V→Hp→Prop)→Prop
structure Ends where
  nx:St→Hp→Prop
  rt:VK
  bk:St→Hp→Prop:=fun _ _=>False
  ct:St→Hp→Prop:=fun _ _=>False
noncomputable abbrev TS:=Ends→St→Hp→Prop
noncomputable def EP (X:Cx) (pins:List (Addr × Obj)) (σ:St) (Q:VK) (u:Value) (s':Shared) : Prop:=∃ v H',Inv X pins σ H' s'∧RelV v u∧Q v H'
noncomputable def TP (X:Cx) (pins:List (Addr × Obj)) (σ:St) (Q:Bool→Hp→Prop) (b:Bool) (s':Shared) : Prop:=∃ H',Inv X pins σ H' s'∧Q b H'
noncomputable def AP (X:Cx) (pins:List (Addr × Obj)) (σ:St) (Q:List V→Hp→Prop) (us:List Value) (s':Shared) : Prop:=∃ vs H',Inv X pins σ H' s'∧Vals vs us∧Q vs H'
noncomputable def SP (X:Cx) (pins:List (Addr × Obj)) (D:Ends) (f:Flow) (s':Shared) : Prop:=
  match f with
  | .next=>∃ σ' H',Inv X pins σ' H' s'∧D.nx σ' H'
  | .brk=>∃ σ' H',Inv X pins σ' H' s'∧D.bk σ' H'
  | .cont=>∃ σ' H',Inv X pins σ' H' s'∧D.ct σ' H'
  | .ret u=>∃ v σ' H',Inv X pins σ' H' s'∧RelV v u∧D.rt v H'
noncomputable def PE (X:Cx) (e:Expr) (t:TE) : Prop:=
  ∀ (pins:List (Addr × Obj)) (s:Shared) (σ:St) (H:Hp) (Q:VK),Inv X pins σ H s→t σ H Q→wpAny (model X.prog X.w) X.A (eval e X.env) (EP X pins σ Q) X.xe s
noncomputable def PT (X:Cx) (e:Expr) (t:TT) : Prop:=
  ∀ (pins:List (Addr × Obj)) (s:Shared) (σ:St) (H:Hp) (Q:Bool→Hp→Prop),Inv X pins σ H s→t σ H Q→wpAny (model X.prog X.w) X.A (isTrue e X.env (eval e X.env)) (TP X pins σ Q) X.xe s
noncomputable def PW (X:Cx) (e:Expr) (t:TT) : Prop:=
  ∀ (whole:Sem Value) (pins:List (Addr × Obj)) (s:Shared) (σ:St) (H:Hp) (Q:Bool→Hp→Prop),Inv X pins σ H s→t σ H Q→wpAny (model X.prog X.w) X.A (isTrue e X.env whole) (TP X pins σ Q) X.xe s
theorem PW.pt {X:Cx} {e:Expr} {t:TT} (h:PW X e t) : PT X e t:=h _
noncomputable def PA (X:Cx) (es:List Expr) (t:TA) : Prop:=
  ∀ (pos:Pos) (pins:List (Addr × Obj)) (s:Shared) (σ:St) (H:Hp) (Q:List V→Hp→Prop),Inv X pins σ H s→t σ H Q→wpAny (model X.prog X.w) X.A (spliced (backTo pos (starEach es X.env))) (AP X pins σ Q) X.xe s
noncomputable def PS (X:Cx) (st:Stmt) (t:TS) : Prop:=
  ∀ (pins:List (Addr × Obj)) (s:Shared) (σ:St) (H:Hp) (D:Ends),Inv X pins σ H s→t D σ H→wpAny (model X.prog X.w) X.A (exec st X.env) (SP X pins D) X.xe s
noncomputable def PSs (X:Cx) (st:List Stmt) (t:TS) : Prop:=
  ∀ (pins:List (Addr × Obj)) (s:Shared) (σ:St) (H:Hp) (D:Ends),Inv X pins σ H s→t D σ H→wpAny (model X.prog X.w) X.A (execs st X.env) (SP X pins D) X.xe s
theorem thn {α:Type} {t:Sem α} {Q Q':α→Shared→Prop} {M:Model} {A:Around} {E:Value→Shared→Prop} {s:Shared} (h:wpAny M A t Q E s) (hQ:∀ a s,Q a s→Q' a s) : wpAny M A t Q' E s:=wpAny_mono h hQ fun _ _ x=>x
end L2
namespace L2
open PySem PySem.Spec PyProof.Rows
section
variable {X:Cx}
noncomputable def tVar (i:Nat) : TE:=fun σ H Q=>∃ v,σ[i]? = some (some v)∧Q v H
noncomputable def tC (v:V) : TE:=fun _ H Q=>Q v H
theorem pe_var {i:Nat} {x:Str} {pos:Pos} (hN:X.N[i]? = some x) (hv:Vis X.env.scope x) (hd:(x == ("__debug__" : Str)) = false:=by decide) (hcd:(x == ("__classdict__" : Str)) = false:=by decide) : PE X (.Name x pos) (tVar i):=by
  intro pins s σ H Q I h
  obtain ⟨v,e,h⟩:=h
  obtain ⟨m,hn,hl⟩:=I.loc
  obtain ⟨u,r,l⟩:=hl i x v hN e hv
  have fin:EP X pins σ Q u s:=⟨v,H,I,r,h⟩
  rcases l with ⟨hk,hm⟩ | ⟨hk,c,hc,hcell⟩
  · exact wpAny_Name (wpAny_loadName_local I.ok.kind hk hn hm fin) hd
  · rcases hk with hk | hk
    · exact wpAny_Name (wpAny_loadName_cell I.ok.kind hk hc hcell fin) hd
    · exact wpAny_Name (wpAny_loadName_free I.ok.kind hk hc hcell fin hcd) hd
theorem pe_int {i j pos} : PE X (.Constant (.int i) j pos) (tC (.int i)):=fun _ _ _ H _ I h=>wpAny_Constant_int ⟨.int i,H,I.tok _,⟨_,rfl⟩,h⟩
theorem pe_bl {b j pos} : PE X (.Constant (.bool b) j pos) (tC (.bl b)):=fun _ _ _ H _ I h=>Constant_bool ⟨.bl b,H,I,rfl,h⟩
theorem pe_non {j pos} : PE X (.Constant .none j pos) (tC .non):=fun _ _ _ H _ I h=>Constant_none ⟨.non,H,I,rfl,h⟩
theorem pe_str {x j pos} : PE X (.Constant (.str x) j pos) (tC (.str x)):=fun _ _ _ H _ I h=>Calls.Constant_str ⟨.str x,H,I.tok _,⟨_,rfl⟩,h⟩
noncomputable def Gl (X:Cx) (x:Str) : Prop:=X.env.kindOf x = some .globalImplicit
theorem ld_glob {E:Value→Shared→Prop} {pins:List (Addr × Obj)} {s:Shared} {σ:St} {H:Hp} {x:Str} {u:Value} {pos:Pos} {Q:Value→Shared→Prop} (I:Inv X pins σ H s) (hg:Gl X x) (hm:X.mg x = some u) (h:Q u s)
    (hd:(x == ("__debug__" : Str)) = false:=by decide) : wpAny (model X.prog X.w) X.A (eval (.Name x pos) X.env) Q E s:=
  Calls.Name_function_global I.ok.kind hg (Calls.loadGlobal_global (by rw [I.ok.glob]; exact I.mod.glob.keeps I.bk) hm h) hd
theorem ld_blt {E:Value→Shared→Prop} {pins:List (Addr × Obj)} {s:Shared} {σ:St} {H:Hp} {x:Str} {u:Value} {pos:Pos} {Q:Value→Shared→Prop} (I:Inv X pins σ H s) (hg:Gl X x) (hm:X.mg x = none) (hv:bootBuiltins x = some u) (h:Q u s)
    (hn:x ≠ "__name__":=by decide) (hd:(x == ("__debug__" : Str)) = false:=by decide) : wpAny (model X.prog X.w) X.A (eval (.Name x pos) X.env) Q E s:=by
  obtain ⟨mb,h1,h2⟩:=I.mod.blt
  exact Calls.Name_function_global I.ok.kind hg (Calls.loadGlobal_builtin (by rw [I.ok.glob]; exact I.mod.glob.keeps I.bk) hm (by rw [I.ok.blt]; exact h1.keeps I.bk) ((h2 x hn).trans hv) h) hd
theorem pe_glob {x:Str} {v:V} {u:Value} {pos:Pos} (hg:Gl X x) (hm:X.mg x = some u) (r:RelV v u) (hd:(x == ("__debug__" : Str)) = false:=by decide) : PE X (.Name x pos) (tC v):=
  fun _ _ _ H _ I h=>ld_glob I hg hm ⟨v,H,I,r,h⟩ hd
theorem pe_bltn {x:Str} {v:V} {u:Value} {pos:Pos} (hg:Gl X x) (hm:X.mg x = none) (hv:bootBuiltins x = some u) (r:RelV v u) (hn:x ≠ "__name__":=by decide) (hd:(x == ("__debug__" : Str)) = false:=by decide) : PE X (.Name x pos) (tC v):=
  fun _ _ _ H _ I h=>ld_blt I hg hm hv ⟨v,H,I,r,h⟩ hn hd
variable {a b:Expr} {ta tb:TE} {pos:Pos}
noncomputable def tB (t:TE) : TT:=fun σ H Q=>t σ H fun x H1=>∃ c,x = .bl c∧Q c H1
theorem pt_val {e:Expr} {t:TE} (h:PE X e t) (he:∀ whole,isTrue e X.env whole = (do let v ← whole; standAt e.pos; holding [v] (truthy v)):=by intro _; rfl) : PT X e (tB t):=by
  intro pins s σ H Q I hw
  refine isTrue_plain (thn (h pins s σ H _ I hw) fun v s1 ⟨x,H1,I1,r1,q1⟩=>?_) (he _)
  obtain ⟨d,rfl,q⟩:=q1
  cases r1
  exact wpAny_truthy_bool ⟨H1,I1,q⟩
variable {tA tB':TT} {rest:List Expr}
noncomputable def tAnd (t u:TT) : TT:=fun σ H Q=>t σ H fun c H1=>if c = true then u σ H1 Q else Q false H1
noncomputable def tOr (t u:TT) : TT:=fun σ H Q=>t σ H fun c H1=>if c = true then Q true H1 else u σ H1 Q
noncomputable def tNot (t:TT) : TT:=fun σ H Q=>t σ H fun c H1=>Q (!c) H1
theorem pw_and1 (ha:PT X a tA) : PW X (.BoolOp .And [a] pos) tA:=by
  intro wh pins s σ H Q I h
  refine isTrue_and (thn (ha pins s σ H Q I h) fun c s1 e=>?_)
  cases c with
  | true=>exact isTrue_and_nil e
  | false=>exact e
theorem pw_or1 (ha:PT X a tA) : PW X (.BoolOp .Or [a] pos) tA:=by
  intro wh pins s σ H Q I h
  refine isTrue_or (thn (ha pins s σ H Q I h) fun c s1 e=>?_)
  cases c with
  | false=>exact isTrue_or_nil e
  | true=>exact e
theorem pw_and (ha:PT X a tA) (hb:PW X (.BoolOp .And (b :: rest) pos) tB') : PW X (.BoolOp .And (a :: b :: rest) pos) (tAnd tA tB'):=by
  intro wh pins s σ H Q I h
  refine isTrue_and (thn (ha pins s σ H _ I h) fun c s1 ⟨H1,I1,q1⟩=>?_)
  cases c with
  | true=>exact hb wh pins s1 σ H1 Q I1 q1
  | false=>exact ⟨H1,I1,q1⟩
theorem pw_or (ha:PT X a tA) (hb:PW X (.BoolOp .Or (b :: rest) pos) tB') : PW X (.BoolOp .Or (a :: b :: rest) pos) (tOr tA tB'):=by
  intro wh pins s σ H Q I h
  refine isTrue_or (thn (ha pins s σ H _ I h) fun c s1 ⟨H1,I1,q1⟩=>?_)
  cases c with
  | true=>exact ⟨H1,I1,q1⟩
  | false=>exact hb wh pins s1 σ H1 Q I1 q1
theorem pt_not (ha:PT X a tA) : PT X (.UnaryOp .Not a pos) (tNot tA):=by
  intro pins s σ H Q I h
  exact isTrue_not (ha pins s σ H (fun c H1=>Q (!c) H1) I h)
noncomputable def tAndV (ta tb:TE) : TE:=fun σ H Q=>ta σ H fun x H1=>∃ c,x = .bl c∧if c = true then tb σ H1 Q else Q (.bl false) H1
noncomputable def tOrV (ta tb:TE) : TE:=fun σ H Q=>ta σ H fun x H1=>∃ c,x = .bl c∧if c = true then Q (.bl true) H1 else tb σ H1 Q
noncomputable def tNotV (ta:TE) : TE:=fun σ H Q=>ta σ H fun x H1=>∃ c,x = .bl c∧Q (.bl (!c)) H1
theorem pe_one {op} {t:TE} (h:PE X a t) : PE X (.BoolOp op [a] pos) t:=fun pins s σ H Q I hw=>BoolOp_one (h pins s σ H Q I hw)
theorem pe_and (ha:PE X a ta) (hb:PE X (.BoolOp .And (b :: rest) pos) tb) : PE X (.BoolOp .And (a :: b :: rest) pos) (tAndV ta tb):=by
  intro pins s σ H Q I h
  refine BoolOp_and (thn (ha pins s σ H _ I h) fun v s1 ⟨x,H1,I1,r1,q1⟩=>?_)
  obtain ⟨c,rfl,q1⟩:=q1
  cases r1
  refine wpAny_truthy_bool ?_
  cases c with
  | true=>exact hb pins s1 σ H1 Q I1 q1
  | false=>exact ⟨.bl false,H1,I1,rfl,q1⟩
theorem pe_or (ha:PE X a ta) (hb:PE X (.BoolOp .Or (b :: rest) pos) tb) : PE X (.BoolOp .Or (a :: b :: rest) pos) (tOrV ta tb):=by
  intro pins s σ H Q I h
  refine BoolOp_or (thn (ha pins s σ H _ I h) fun v s1 ⟨x,H1,I1,r1,q1⟩=>?_)
  obtain ⟨c,rfl,q1⟩:=q1
  cases r1
  refine wpAny_truthy_bool ?_
  cases c with
  | false=>exact hb pins s1 σ H1 Q I1 q1
  | true=>exact ⟨.bl true,H1,I1,rfl,q1⟩
theorem pe_not (ha:PE X a ta) : PE X (.UnaryOp .Not a pos) (tNotV ta):=by
  intro pins s σ H Q I h
  refine UnaryOp_ (thn (ha pins s σ H _ I h) fun v s1 ⟨x,H1,I1,r1,q1⟩=>?_)
  obtain ⟨c,rfl,q1⟩:=q1
  cases r1
  exact not_of (wpAny_truthy_bool ⟨.bl (!c),H1,I1,rfl,q1⟩)
end
end L2
namespace L2
open PySem PySem.Spec PyProof.Rows
noncomputable def SqL (K:PySem.W.Frag) (H:Hp) (a:Addr) (xs:List V) : Prop:=
  Rd H a (.lst xs) ∨
    ∃ (o:Obj) (its:Array Value) (n:Nat),K.lookup a = some o∧o.cls = .type "list"∧o.dict = none∧o.data = .seq its n∧its.size ≤ sizeLine∧Vals xs its.toList
noncomputable def SqT (K:PySem.W.Frag) (H:Hp) (a:Addr) (xs:List V) : Prop:=
  Rd H a (.tup xs) ∨
    ∃ (o:Obj) (its:Array Value) (n:Nat),K.lookup a = some o∧o.cls = .type "tuple"∧o.data = .seq its n∧its.size ≤ sizeLine∧Vals xs its.toList
noncomputable def absV:Value→Option V
  | .none=>some .non
  | .bool b=>some (.bl b)
  | .int i _=>some (.int i)
  | .str x _=>some (.str x)
  | .bytes b _=>some (.byt b)
  | .float b _=>some (.flt b)
  | .ref a=>some (.ref a)
  | .type n=>some (.ty n)
  | _=>none
theorem RelV.abs {x:V} {u:Value} (r:RelV x u) : absV u = some x:=by
  cases x with
  | non=>cases r; rfl
  | bl _=>cases r; rfl
  | int _=>obtain ⟨t,rfl⟩:=r; rfl
  | str _=>obtain ⟨t,rfl⟩:=r; rfl
  | byt _=>obtain ⟨t,rfl⟩:=r; rfl
  | flt _=>obtain ⟨t,rfl⟩:=r; rfl
  | ref _=>cases r; rfl
  | ty _=>cases r; rfl
theorem RelV.inj {x y:V} {u:Value} (r:RelV x u) (q:RelV y u) : x = y:=Option.some.inj (r.abs.symm.trans q.abs)
theorem Vals.inj:∀ {xs ys:List V} {us:List Value},Vals xs us→Vals ys us→xs = ys
  | _,_,_,.nil,.nil=>rfl
  | _,_,_,.cons r t,.cons r' t'=>by rw [r.inj r',Vals.inj t t']
section
variable {X:Cx} {pins:List (Addr × Obj)} {σ:St} {H:Hp} {s:Shared} {a:Addr} {xs ys:List V}
theorem SqL.of {K:PySem.W.Frag} (h:H a = some (.lst xs)) : SqL K H a xs:=.inl (.inl h)
theorem SqT.of {K:PySem.W.Frag} (h:H a = some (.tup xs)) : SqT K H a xs:=.inl (.inl h)
theorem Inv.list (I:Inv X pins σ H s) (h:SqL X.K H a xs) : ∃ its:List Value,Vals xs its∧PlainL s.heap a its.toArray∧xs.length ≤ sizeLine:=by
  rcases h with h | ⟨o,its,n,hk,hc,hd,hs,hz,r⟩
  · obtain ⟨z,its,n,r,e⟩:=h.ok I.hok
    exact ⟨its,r,⟨_,n,e,rfl,rfl,rfl⟩,z⟩
  · refine ⟨its.toList, r, ⟨o, n, I.kIn a o hk, hc, hd, by simpa using hs⟩, ?_⟩
    have e:=r.length
    simp only [Array.length_toList] at e
    lia
theorem Inv.tuple (I:Inv X pins σ H s) (h:SqT X.K H a xs) : ∃ its:List Value,Vals xs its∧IsTup s.heap a its.toArray∧xs.length ≤ sizeLine:=by
  rcases h with h | ⟨o,its,n,hk,hc,hs,hz,r⟩
  · obtain ⟨z,its,r,p⟩:=h.ok I.hok
    exact ⟨its,r,p,z⟩
  · refine ⟨its.toList, r, ⟨o, I.kIn a o hk, hc, n, by simpa using hs⟩, ?_⟩
    have e:=r.length
    simp only [Array.length_toList] at e
    lia
theorem Inv.list_inj (I:Inv X pins σ H s) (h:SqL X.K H a xs) (h':SqL X.K H a ys) : xs = ys:=by
  obtain ⟨its,r,⟨o,n,e,_,_,d⟩,_⟩:=I.list h
  obtain ⟨its',r',⟨o',n',e',_,_,d'⟩,_⟩:=I.list h'
  rw [e] at e'; cases e'
  rw [d] at d'
  injection d' with d1 _
  have:its = its':=by simpa using congrArg Array.toList d1
  subst this
  exact r.inj r'
end
noncomputable abbrev Cx.wish (X:Cx) (E:Value→Shared→Prop) : Cx:={ X with xe:=E }
noncomputable abbrev Cx.nox (X:Cx) : Cx:=X.wish fun _ _=>False
theorem Cx.Ok.wish {X:Cx} (ok:X.Ok) (E:Value→Shared→Prop) : (X.wish E).Ok:=
  ⟨ok.mod,ok.kind,ok.glob,ok.blt,ok.above,ok.inj,ok.has,ok.cab,ok.hd,ok.frames,ok.stk,ok.exf,ok.bs,ok.bsz,ok.noex,ok.exfs,ok.funs,ok.frf⟩
theorem Cx.Ok.unwish {X:Cx} {E:Value→Shared→Prop} (ok:(X.wish E).Ok) : X.Ok:=
  ⟨ok.mod,ok.kind,ok.glob,ok.blt,ok.above,ok.inj,ok.has,ok.cab,ok.hd,ok.frames,ok.stk,ok.exf,ok.bs,ok.bsz,ok.noex,ok.exfs,ok.funs,ok.frf⟩
section
variable {X:Cx} {pins:List (Addr × Obj)} {σ:St} {H:Hp} {s:Shared} {E:Value→Shared→Prop}
theorem Inv.wish (I:Inv X pins σ H s) (E:Value→Shared→Prop) : Inv (X.wish E) pins σ H s:=⟨I.ok.wish E,I.os,I.bare,I.base,I.loc,I.cell,I.free,I.freeC,I.pin,I.hok,I.len⟩
theorem Inv.unwish (I:Inv (X.wish E) pins σ H s) : Inv X pins σ H s:=⟨I.ok.unwish,I.os,I.bare,I.base,I.loc,I.cell,I.free,I.freeC,I.pin,I.hok,I.len⟩
theorem SP.unwish {D:Ends} {f:Flow} {s':Shared} (h:SP (X.wish E) pins D f s') : SP X pins D f s':=by
  cases f with
  | next=>obtain ⟨σ',H',I,q⟩:=h; exact ⟨σ',H',I.unwish,q⟩
  | brk=>obtain ⟨σ',H',I,q⟩:=h; exact ⟨σ',H',I.unwish,q⟩
  | cont=>obtain ⟨σ',H',I,q⟩:=h; exact ⟨σ',H',I.unwish,q⟩
  | ret u=>obtain ⟨v,σ',H',I,r,q⟩:=h; exact ⟨v,σ',H',I.unwish,r,q⟩
theorem PSs.nox {st:List Stmt} {t:TS} (h:PSs X.nox st t) : PSs X st t:=fun pins s σ H D I hw =>
  wpAny_mono (h pins s σ H D (I.wish _) hw) (fun _ _ q=>q.unwish) fun _ _ z=>False.elim z
end
section
variable {X:Cx} {st:Stmt} {rest:List Stmt} {t u:TS} {e:Expr} {te:TE} {pos:Pos}
noncomputable def tNext:TS:=fun D σ H=>D.nx σ H
noncomputable def tSeq (t u:TS) : TS:=fun D σ H=>t { D with nx:=u D } σ H
theorem pss_nil:PSs X [] tNext:=fun _ _ σ H _ I h=>wpAny_execs_nil ⟨σ,H,I,h⟩
theorem pss_cons (h1:PS X st t) (h2:PSs X rest u) : PSs X (st :: rest) (tSeq t u):=by
  intro pins s σ H D I h
  refine wpAny_execs_cons (thn (h1 pins s σ H { D with nx:=u D } I h) fun f s1 q=>?_)
  cases f with
  | next =>
    obtain ⟨σ',H',I',q⟩:=q
    exact h2 pins s1 σ' H' D I' q
  | ret v=>exact q
  | brk=>exact q
  | cont=>exact q
theorem pss_one (h1:PS X st t) : PSs X [st] t:=by
  intro pins s σ H D I h
  refine wpAny_execs_cons (thn (h1 pins s σ H D I h) fun f s1 q=>?_)
  cases f with
  | next=>exact wpAny_execs_nil q
  | ret v=>exact q
  | brk=>exact q
  | cont=>exact q
theorem Inv.quiet {pins:List (Addr × Obj)} {σ:St} {H:Hp} {s:Shared} (I:Inv X pins σ H s) : interactive X.env = false:=by simp [interactive,I.ok.kind]
noncomputable def tDrop (te:TE) : TS:=fun D σ H=>te σ H fun _ H1=>D.nx σ H1
theorem ps_expr (he:PE X e te) (hs:swapsWith e none pos.line X.env = pure false:=by rfl) : PS X (.Expr e pos) (tDrop te):=by
  intro pins s σ H D I h
  exact wpAny_Expr_any (thn (he pins s σ H _ I h) fun v s1 ⟨x,H1,I1,r1,q1⟩=>⟨σ,H1,I1,q1⟩) I.quiet hs
noncomputable def tRet (te:TE) : TS:=fun D σ H=>te σ H D.rt
theorem ps_ret (he:PE X e te) : PS X (.Return (some e) pos) (tRet te):=by
  intro pins s σ H D I h
  exact wpAny_Return_some (thn (he pins s σ H _ I h) fun v s1 ⟨x,H1,I1,r1,q1⟩=>⟨x,σ,H1,I1,r1,q1⟩)
noncomputable def tIfS (c:TT) (t u:TS) : TS:=fun D σ H=>c σ H fun b H1=>if b = true then t D σ H1 else u D σ H1
theorem ps_if {c:Expr} {a b:List Stmt} {tc:TT} (hc:PT X c tc) (ha:PSs X a t) (hb:PSs X b u) : PS X (.If c a b pos) (tIfS tc t u):=by
  intro pins s σ H D I h
  refine wpAny_If (thn (hc pins s σ H _ I h) fun d s1 ⟨H1,I1,q1⟩=>?_)
  cases d with
  | true=>exact ha pins s1 σ H1 D I1 q1
  | false=>exact hb pins s1 σ H1 D I1 q1
end
noncomputable abbrev TG:=V→St→Hp→(St→Hp→Prop)→Prop
noncomputable abbrev TGs:=List V→St→Hp→(St→Hp→Prop)→Prop
noncomputable def PG (X:Cx) (target:Expr) (t:TG) : Prop:=
  ∀ (pins:List (Addr × Obj)) (s:Shared) (σ:St) (H:Hp) (v:V) (u:Value) (Q:St→Hp→Prop),Inv X pins σ H s→RelV v u→t v σ H Q →
    wpAny (model X.prog X.w) X.A (assign target X.env u) (fun _ s'=>∃ σ' H',Inv X pins σ' H' s'∧Q σ' H') X.xe s
noncomputable def PGs (X:Cx) (ts:List Expr) (t:TGs) : Prop:=
  ∀ (pins:List (Addr × Obj)) (s:Shared) (σ:St) (H:Hp) (vs:List V) (us:List Value) (Q:St→Hp→Prop),Inv X pins σ H s→Vals vs us→t vs σ H Q →
    wpAny (model X.prog X.w) X.A (assignInOrder ((assignEach ts X.env).map (·.2)) us) (fun _ s'=>∃ σ' H',Inv X pins σ' H' s'∧Q σ' H') X.xe s
noncomputable abbrev TSet:=V→V→V→Hp→(Hp→Prop)→Prop
noncomputable def PSet (X:Cx) (t:TSet) : Prop:=
  ∀ (pins:List (Addr × Obj)) (s:Shared) (σ:St) (H:Hp) (o i v:V) (ov iv u:Value) (Q:Hp→Prop),Inv X pins σ H s→RelV o ov→RelV i iv→RelV v u→t o i v H Q →
    wpAny (model X.prog X.w) X.A (setItem ov iv u) (fun _ s'=>∃ H',Inv X pins σ H' s'∧Q H') X.xe s
noncomputable abbrev TIp:=V→V→Hp→VK→Prop
noncomputable def PIp (X:Cx) (op:Operator) (t:TIp) : Prop:=
  ∀ (pins:List (Addr × Obj)) (s:Shared) (σ:St) (H:Hp) (x y:V) (v u:Value) (Q:VK),Inv X pins σ H s→RelV x v→RelV y u→t x y H Q →
    wpAny (model X.prog X.w) X.A (inplaceOp op v u) (EP X pins σ Q) X.xe s
section
variable {X:Cx} {pos:Pos}
noncomputable def gName (i:Nat) : TG:=fun v σ H Q=>Q (σ.set i (some v)) H
theorem pg_name {i:Nat} {x:Str} (hN:X.N.Nodup) (hi:X.N[i]? = some x) (hx:Loc X.env.scope x) (hf:X.fn x = true ∨ X.env.scope.names.lookup x = some .local:=by first | exact .inl rfl | exact .inr rfl | assumption) : PG X (.Name x pos) (gName i):=by
  intro pins s σ H v u Q I r h
  exact wpAny_assign_Name (store_ok I hN hi hx r (fun s' I'=>⟨_,H,I',h⟩) hf)
noncomputable def gNil:TGs:=fun vs σ H Q=>vs = []∧Q σ H
noncomputable def gCons (t:TG) (u:TGs) : TGs:=fun vs σ H Q=>∃ v r,vs = v :: r∧t v σ H fun σ' H'=>u r σ' H' Q
theorem pgs_nil:PGs X [] gNil:=by
  intro pins s σ H vs us Q I r h
  obtain ⟨e,h⟩:=h
  subst e
  cases r
  exact assignInOrder_nil ⟨σ,H,I,h⟩
theorem pgs_cons {e:Expr} {es:List Expr} {t:TG} {u:TGs} (h1:PG X e t) (h2:PGs X es u)
    (hs:(assignEach (e :: es) X.env).map (·.2) = assign e X.env :: (assignEach es X.env).map (·.2):=by rfl) : PGs X (e :: es) (gCons t u):=by
  intro pins s σ H vs us Q I r h
  obtain ⟨v,vr,e1,h⟩:=h
  subst e1
  cases r with
  | cons r rr =>
    rw [hs]
    refine assignInOrder_cons (thn (h1 pins s σ H _ _ _ I r h) fun _ s1 ⟨σ1,H1,I1,q1⟩=>?_)
    exact h2 pins s1 σ1 H1 _ _ Q I1 rr q1
noncomputable def gSub (to ti:TE) (t:TSet) : TG:=fun v σ H Q=>to σ H fun o H1=>ti σ H1 fun i H2=>t o i v H2 fun H3=>Q σ H3
theorem pg_sub {o i:Expr} {to ti:TE} {t:TSet} (ho:PE X o to) (hi:PE X i ti) (hs:PSet X t)
    (ha:∀ v,assign (.Subscript o i pos) X.env v = (do
      let ov ← holding [v] (eval o X.env)
      let iv ← holding [v,ov] (eval i X.env)
      standAt pos
      holding [v,ov,iv] (setItem ov iv v)
      release [v,ov,iv] []):=by intro _; rfl) : PG X (.Subscript o i pos) (gSub to ti t):=by
  intro pins s σ H v u Q I r h
  rw [ha]
  refine wpAny_bind (wpAny_holding (thn (ho pins s σ H _ I h) fun ov s1 ⟨x,H1,I1,r1,q1⟩=>?_))
  refine wpAny_bind (wpAny_holding (thn (hi pins s1 σ H1 _ I1 q1) fun iv s2 ⟨y,H2,I2,r2,q2⟩=>?_))
  refine wpAny_bind (wpAny_standAt (wpAny_bind (wpAny_holding (thn (hs pins s2 σ H2 x y v ov iv u _ I2 r1 r2 r q2) fun _ s3 ⟨H3,I3,q3⟩=>?_))))
  exact wpAny_release ⟨σ,H3,I3,q3⟩
noncomputable def tAsg (te:TE) (g:TG) : TS:=fun D σ H=>te σ H fun x H1=>g x σ H1 D.nx
theorem ps_asg {tg e:Expr} {te:TE} {g:TG} (he:PE X e te) (hg:PG X tg g) (hs:swapsWithSole [tg] e pos.line X.env = pure false:=by rfl) (hw:swappedStores [tg] e X.env = pure none:=by rfl)
    (h1:(assignEach [tg] X.env).map (·.2) = [assign tg X.env]:=by rfl) : PS X (.Assign [tg] e pos) (tAsg te g):=by
  intro pins s σ H D I h
  refine wpAny_Assign_stores (thn (he pins s σ H _ I h) fun v s1 ⟨x,H1,I1,r1,q1⟩=>?_) hs hw
  rw [h1]
  exact thn (hg pins s1 σ H1 x v _ I1 r1 q1) fun _ s2 q=>q
theorem ps_set {i:Nat} {x:Str} {e:Expr} {te:TE} {pos':Pos} (hN:X.N.Nodup) (hi:X.N[i]? = some x) (hx:Loc X.env.scope x) (he:PE X e te) (hs:swapsWith e (some (.Name x pos')) pos.line X.env = pure false:=by rfl) (hf:X.fn x = true ∨ X.env.scope.names.lookup x = some .local:=by first | exact .inl rfl | exact .inr rfl | assumption) :
    PS X (.Assign [.Name x pos'] e pos) (tAsg te (gName i)):=by
  intro pins s σ H D I h
  refine wpAny_Assign_Name (thn (he pins s σ H _ I h) fun v s1 ⟨y,H1,I1,r1,q1⟩=>?_) hs
  exact store_ok I1 hN hi hx r1 (fun s2 I2=>⟨_,H1,I2,q1⟩) hf
noncomputable def tAug (i:Nat) (te:TE) (ti:TIp) : TS:=fun D σ H=>∃ x,σ[i]? = some (some x)∧te σ H fun y H1=>ti x y H1 fun z H2=>D.nx (σ.set i (some z)) H2
theorem ps_aug {i:Nat} {x:Str} {e:Expr} {te:TE} {op:Operator} {ti:TIp} {pos':Pos} (hN:X.N.Nodup) (hi:X.N[i]? = some x) (hx:Loc X.env.scope x) (he:PE X e te) (ho:PIp X op ti) (hf:X.fn x = true ∨ X.env.scope.names.lookup x = some .local:=by first | exact .inl rfl | exact .inr rfl | assumption) :
    PS X (.AugAssign (.Name x pos') op e pos) (tAug i te ti):=by
  intro pins s σ H D I h
  obtain ⟨v,e1,h⟩:=h
  obtain ⟨m,hn,hl⟩:=I.loc
  have vis:Vis X.env.scope x:=by rcases hx with k | k; exact .inl k; exact .inr (.inl k)
  obtain ⟨u,r,l⟩:=hl i x v hi e1 vis
  refine wpAny_AugAssign_Name ?_
  have go:wpAny (model X.prog X.w) X.A (eval e X.env) (fun w s₂=>wpAny (model X.prog X.w) X.A (inplaceOp op u w) (fun r s₃=>wpAny (model X.prog X.w) X.A (storeName X.env x r) (fun _=>SP X pins D .next) X.xe s₃) X.xe s₂) X.xe s:=by
    refine thn (he pins s σ H _ I h) fun w s1 ⟨y,H1,I1,r1,q1⟩=>?_
    refine thn (ho pins s1 σ H1 v y u w _ I1 r r1 q1) fun z s2 ⟨zv,H2,I2,r2,q2⟩=>?_
    exact store_ok I2 hN hi hx r2 (fun s3 I3=>⟨_,H2,I3,q2⟩) hf
  rcases l with ⟨hk,hm⟩ | ⟨hk,c,hc,hcell⟩
  · exact wpAny_loadName_local I.ok.kind hk hn hm go
  · rcases hk with hk | hk
    · exact wpAny_loadName_cell I.ok.kind hk hc hcell go
    · rcases hx with k | k
      · have:X.env.scope.names.lookup x = some .free:=hk
        rw [k] at this; cases this
      · have:X.env.scope.names.lookup x = some .free:=hk
        rw [k] at this; cases this
noncomputable def tAugS (to ti te:TE) (tget:V→V→Hp→VK→Prop) (tip:TIp) (tset:TSet) : TS:=fun D σ H=>to σ H fun o H1=>ti σ H1 fun i H2=>tget o i H2 fun x H3=>te σ H3 fun y H4=>tip x y H4 fun z H5=>tset o i z H5 fun H6=>D.nx σ H6
noncomputable def PGet (X:Cx) (t:V→V→Hp→VK→Prop) : Prop:=
  ∀ (pins:List (Addr × Obj)) (s:Shared) (σ:St) (H:Hp) (o i:V) (ov iv:Value) (Q:VK),Inv X pins σ H s→RelV o ov→RelV i iv→t o i H Q →
    wpAny (model X.prog X.w) X.A (getItem ov iv) (EP X pins σ Q) X.xe s
theorem ps_augS {o i e:Expr} {to ti te:TE} {tget:V→V→Hp→VK→Prop} {tip:TIp} {tset:TSet} {op:Operator} {tpos:Pos} (ho:PE X o to) (hi:PE X i ti) (hg:PGet X tget) (he:PE X e te) (hp:PIp X op tip) (hs:PSet X tset)
    (ha:∀ ov iv new,augStore i ov iv new = (do holding [new,ov,iv] (setItem ov iv new); release [new,ov,iv] []; pure .next):=by intros; rfl) : PS X (.AugAssign (.Subscript o i tpos) op e pos) (tAugS to ti te tget tip tset):=by
  intro pins s σ H D I h
  refine wpAny_AugAssign_SubscriptAny (thn (ho pins s σ H _ I h) fun ov s1 ⟨x1,H1,I1,r1,q1⟩=>?_) ha
  refine thn (hi pins s1 σ H1 _ I1 q1) fun iv s2 ⟨x2,H2,I2,r2,q2⟩=>?_
  refine thn (hg pins s2 σ H2 x1 x2 ov iv _ I2 r1 r2 q2) fun old s3 ⟨x3,H3,I3,r3,q3⟩=>?_
  refine thn (he pins s3 σ H3 _ I3 q3) fun v s4 ⟨x4,H4,I4,r4,q4⟩=>?_
  refine thn (hp pins s4 σ H4 x3 x4 old v _ I4 r3 r4 q4) fun new s5 ⟨x5,H5,I5,r5,q5⟩=>?_
  exact thn (hs pins s5 σ H5 x1 x2 x5 ov iv new _ I5 r1 r2 r5 q5) fun _ s6 ⟨H6,I6,q6⟩=>⟨σ,H6,I6,q6⟩
noncomputable def ipI (f:Int→Int→Int) : TIp:=fun x y H Q=>∃ i j,x = .int i∧y = .int j∧Q (.int (f i j)) H
theorem ip_add:PIp X .Add (ipI fun i j=>i + j):=by
  intro pins s σ H x y v u Q I r1 r2 h
  obtain ⟨i,j,e1,e2,q⟩:=h
  subst e1; subst e2
  obtain ⟨t,rfl⟩:=r1
  obtain ⟨t',rfl⟩:=r2
  exact iadd_int ⟨.int _,H,I.tok _,⟨_,rfl⟩,q⟩
theorem ip_sub:PIp X .Sub (ipI fun i j=>i - j):=by
  intro pins s σ H x y v u Q I r1 r2 h
  obtain ⟨i,j,e1,e2,q⟩:=h
  subst e1; subst e2
  obtain ⟨t,rfl⟩:=r1
  obtain ⟨t',rfl⟩:=r2
  exact isub_int ⟨.int _,H,I.tok _,⟨_,rfl⟩,q⟩
end
section
variable {X:Cx} {pos:Pos}
end
structure It where
  go:Nat→Hp→Prop
  yld:Nat→Hp→V→Hp→Prop
  stop:Nat→Hp→Prop
noncomputable def FpOk (X:Cx) (pins:List (Addr × Obj)) (H:Hp) (b:Addr) : Prop:=
  H b = none∧b ≠ X.env.locals∧b ∉ X.fs∧(b ∈ X.ex ∨ X.s₀.heap.objs.size ≤ b)∧(∀ x c,X.env.cells.lookup x = some c→c ≠ b)∧∀ p ∈ X.pn ++ pins,p.1 ≠ b
theorem Inv.fpOk {X:Cx} {pins:List (Addr × Obj)} {σ:St} {H H':Hp} {s:Shared} {b:Addr} (I:Inv X pins σ H s) (hb:s.heap.objs.size ≤ b) (hn:H' b = none) : FpOk X pins H' b:=by
  refine ⟨hn,Nat.ne_of_gt (Nat.lt_of_lt_of_le I.lt hb),I.nofs hb,.inr (Nat.le_trans I.sz hb),fun x c e z=>?_,fun p hp z=>?_⟩
  · obtain ⟨v,q⟩:=I.cell x c e
    exact absurd (Nat.lt_of_lt_of_le q.lt (by rw [z]; exact hb)) (Nat.lt_irrefl _)
  · exact absurd (Nat.lt_of_lt_of_le (Heap.lt_size (I.pin p hp).1) (by rw [z]; exact hb)) (Nat.lt_irrefl _)
structure Turn (P:Program) (w:World) (K:PySem.W.Frag) (tg:Expr) (J:It) (fp:List Addr) (it:Addr) (tn:Nat→Heap→Prop) : Prop where
  mem:it ∈ fp
  obj:∀ i h,tn i h→∀ b ∈ fp,∃ o,h.get? b = some o∧∀ v,o.data ≠ .cell v
  keep:∀ i h h',tn i h→(∀ b ∈ fp,∀ o,h.get? b = some o→h'.get? b = some o)→tn i h'
  item:∀ (X:Cx),X.prog = P→X.w = w→X.K = K→X.calm = true→∀ (i:Nat) (pins:List (Addr × Obj)) (s:Shared) (σ:St) (H:Hp) (E:Value→Shared→Prop),Inv X pins σ H s→(∀ b ∈ fp,FpOk X pins H b)→tn i s.heap→J.go i H →
    wpAny (model P w) X.A (pyNext (.ref it)) (fun r s1=>∃ u,r = some u ∧
      wpAny (model P w) X.A (letOwnedTupleGo tg (.ref it) u) (fun _ s2=>∃ x H',Inv X pins σ H' s2∧RelV x u∧J.yld i H x H'∧tn (i + 1) s2.heap∧∀ b ∈ fp,H' b = none) E s1) E s
  done:∀ (X:Cx),X.prog = P→X.w = w→X.K = K→X.calm = true→∀ (i:Nat) (pins:List (Addr × Obj)) (s:Shared) (σ:St) (H:Hp) (E:Value→Shared→Prop),Inv X pins σ H s→(∀ b ∈ fp,FpOk X pins H b)→tn i s.heap→J.stop i H →
    wpAny (model P w) X.A (pyNext (.ref it)) (fun r s1=>r = none∧Inv X pins σ H s1) E s
  self:∀ (A:Around) (i:Nat) (s:Shared) (Q:Value→Shared→Prop) (E:Value→Shared→Prop),tn i s.heap→Q (.ref it) s→wpAny (model P w) A (pyIter (.ref it)) Q E s
noncomputable abbrev TI:=St→Hp→(It→Hp→Prop)→Prop
noncomputable def PIE (X:Cx) (pins:List (Addr × Obj)) (σ:St) (tg:Expr) (R:It→Hp→Prop) (itv:Value) (s2:Shared) : Prop:=
  ∃ (it:Addr) (fp:List Addr) (tn:Nat→Heap→Prop) (J:It) (H':Hp),itv = .ref it∧Inv X pins σ H' s2∧Turn X.prog X.w X.K tg J fp it tn∧tn 0 s2.heap∧(∀ b ∈ fp,FpOk X pins H' b)∧R J H'
noncomputable def PI (X:Cx) (tg iter:Expr) (wi:TI) : Prop:=
  ∀ (pins:List (Addr × Obj)) (s:Shared) (σ:St) (H:Hp) (R:It→Hp→Prop),Inv X pins σ H s→wi σ H R →
    wpAny (model X.prog X.w) X.A (eval iter X.env) (fun v s1=>wpAny (model X.prog X.w) X.A (pyIter v) (PIE X pins σ tg R) X.xe s1) X.xe s
theorem go_of {M:Model} {A:Around} {E:Value→Shared→Prop} {s:Shared} {tg:Expr} {it:Addr} {u:Value} {o:Obj} {n:String} {vs:Array Value} {Q:Unit→Shared→Prop} (ho:s.heap.get? it = some o) (hc:o.cls = .type n) (hd:o.data = .fields vs)
    (hn:["enumerate","zip","dict_itemiterator","dict_reverseitemiterator","odict_iterator","itertools.zip_longest","itertools.pairwise"].contains n = false) (hQ:Q () s) : wpAny M A (letOwnedTupleGo tg (.ref it) u) Q E s:=by
  unfold letOwnedTupleGo
  cases tg <;> first
    | exact wpAny_pure hQ
    | (cases u <;> first
        | exact wpAny_pure hQ
        | (refine wpAny_bind (wpAny_load ho ?_)
           rw [hc,hd]
           show wpAny M A (if (["enumerate","zip","dict_itemiterator","dict_reverseitemiterator","odict_iterator","itertools.zip_longest","itertools.pairwise"].contains n && vs[0]? == some (rawInt _)) = true then _ else _) Q E s
           rw [if_neg (by intro h; rw [hn,Bool.false_and] at h; cases h)]
           exact wpAny_pure hQ))
noncomputable def Itl (K:PySem.W.Frag) (a:Addr) : It:=
  ⟨fun i H=>∃ xs x,SqL K H a xs∧xs[i]? = some x,fun i H x H'=>H' = H∧∀ xs,SqL K H a xs→xs[i]? = some x,fun i H=>∃ xs,SqL K H a xs∧xs.length ≤ i⟩
noncomputable def Itr (lo:Int) (n:Nat) : It:=⟨fun i _=>i < n,fun i H x H'=>H' = H∧x = .int (lo + i),fun i _=>n ≤ i⟩
theorem turn_list {P:Program} {w:World} {K:PySem.W.Frag} {tg:Expr} (a it:Addr) : Turn P w K tg (Itl K a) [it] it (fun i h=>h.IsListIter it a i) where
  mem:=by simp
  obj:=fun i h st b hb=>by
    have e:b = it:=by simpa using hb
    subst e
    obtain ⟨o,e,c,d⟩:=st
    exact ⟨o,e,fun v z=>by rw [d] at z; cases z⟩
  keep:=fun i h h' st k=>st.at fun o e=>k it (by simp) o e
  item:=by
    intro X hP hw hK hc i pins s σ H E I hf st hg
    subst hP hw hK
    obtain ⟨xs,x,hq,hx⟩:=hg
    obtain ⟨its,rv,p,hz⟩:=I.list hq
    obtain ⟨u,hu,ru⟩:=rv.get hx
    obtain ⟨f0,f1,f2,f3,f4,f5⟩:=hf it (by simp)
    refine wpAny_pyNext_list_item st p.isList (x:=u) (by simpa using hu) fun h' st' sb=>?_
    have I1:Inv X pins σ H { s with heap:=h' }:=I.turned (t':=s.toks) (fun b o hb e=>(sb.2 b hb).trans e) f0 f1 f3 f4 f5
    obtain ⟨o,e,c,d⟩:=id st'
    exact ⟨u,rfl,go_of (s:={ s with heap:=h' }) e c d (by decide) ⟨x,H,I1,ru,⟨rfl,fun ys hy=>by rw [I.list_inj hy hq]; exact hx⟩,st',fun b hb=>(hf b hb).1⟩⟩
  done:=by
    intro X hP hw hK hc i pins s σ H E I hf st hg
    subst hP hw hK
    obtain ⟨xs,hq,hx⟩:=hg
    obtain ⟨its,rv,p,hz⟩:=I.list hq
    obtain ⟨f0,f1,f2,f3,f4,f5⟩:=hf it (by simp)
    have hl:=rv.length
    exact wpAny_pyNext_list_end (I.ok.hd hc) st p.isList (by simp; lia) fun h' eb=>⟨rfl,I.turned (t':=s.toks) (fun b o hb e=>eb b o hb e) f0 f1 f3 f4 f5⟩
  self:=fun _ _ _ _ _ st h=>wpAny_pyIter_listiter st h
theorem turn_range {P:Program} {w:World} {K:PySem.W.Frag} {tg:Expr} (it:Addr) (lo:Int) (n:Nat) : Turn P w K tg (Itr lo n) [it] it (fun i h=>IsRangeIter h it (lo + (i:Nat) * 1) ((n:Int) - (i:Nat)) 1) where
  mem:=by simp
  obj:=fun i h st b hb=>by
    have e:b = it:=by simpa using hb
    subst e
    exact ⟨_,st,fun v z=>by
      have z':Data.fields _ = Data.cell v:=z
      cases z'⟩
  keep:=fun i h h' st k=>k it (by simp) _ st
  item:=by
    intro X hP hw hK hc i pins s σ H E I hf st hg
    subst hP hw hK
    obtain ⟨f0,f1,f2,f3,f4,f5⟩:=hf it (by simp)
    have W:=Walks.range (prog:=X.prog) (w:=X.w) (I.ok.hd hc) it lo 1 n
    refine W.item i s _ _ hg st fun v h' tk hv st' kk=>?_
    obtain ⟨t,rfl⟩:=hv
    have I1:Inv X pins σ H { s with heap:=h',toks:=tk }:=I.turned (fun b o hb e=>kk b o (by simpa using hb) e) f0 f1 f3 f4 f5
    refine ⟨_,rfl,go_of (s:={ s with heap:=h',toks:=tk }) (n:="range_iterator") st' rfl rfl (by decide) ⟨.int (lo + i),H,I1,⟨t,?_⟩,⟨rfl,rfl⟩,st',fun b hb=>(hf b hb).1⟩⟩
    rw [Int.mul_one]
  done:=by
    intro X hP hw hK hc i pins s σ H E I hf st hg
    subst hP hw hK
    obtain ⟨f0,f1,f2,f3,f4,f5⟩:=hf it (by simp)
    exact wpAny_pyNext_range_end (I.ok.hd hc) st (by have:n ≤ i:=hg; lia) fun h' eb=>⟨rfl,I.turned (t':=s.toks) (fun b o hb e=>eb b o hb e) f0 f1 f3 f4 f5⟩
  self:=fun _ _ _ _ _ st h=>wpAny_pyIter_rangeiter st h
end L2
namespace L2
open PySem PySem.Spec PyProof.Rows
section
variable {X:Cx} {tg:Expr}
noncomputable def iList (K:PySem.W.Frag) (tl:TE) : TI:=fun σ H R=>tl σ H fun x H1=>∃ a,x = .ref a∧(∃ xs,SqL K H1 a xs)∧R (Itl K a) H1
theorem pi_list {l:Expr} {tl:TE} (hl:PE X l tl) : PI X tg l (iList X.K tl):=by
  intro pins s σ H R I h
  refine thn (hl pins s σ H _ I h) fun v s1 ⟨x,H1,I1,r1,q1⟩=>?_
  obtain ⟨a,e,⟨xs,hq⟩,q⟩:=q1
  subst e
  cases r1
  obtain ⟨its,rv,p,hz⟩:=I1.list hq
  refine wpAny_pyIter_list p.isList ?_
  refine ⟨s1.heap.objs.size,[s1.heap.objs.size],_,_,H1,rfl,I1.kept (t':=s1.toks) fun b o e=>Heap.get?_push_of_some _ e,turn_list a _,⟨_,Heap.get?_push_size _ rfl,rfl,rfl⟩,fun b hb=>?_,q⟩
  have e:b = s1.heap.objs.size:=by simpa using hb
  subst e
  exact I1.fpOk (Nat.le_refl _) (I1.hok.fresh (Nat.le_refl _))
theorem range_it {pins:List (Addr × Obj)} {σ:St} {H:Hp} {s:Shared} {R:It→Hp→Prop} {E:Value→Shared→Prop} {lo hi:Int} {t u v:Tok} {tk:Nat} (I:Inv X pins σ H s) (h1 : -(2 ^ 62) ≤ lo) (h2:lo < 2 ^ 62) (h3 : -(2 ^ 62) ≤ hi) (h4:hi < 2 ^ 62)
    (q:R (Itr lo (hi - lo).toNat) H) : wpAny (model X.prog X.w) X.A (pyIter (.ref s.heap.objs.size)) (PIE X pins σ tg R) E { s with heap:=s.heap.push { cls:=.type "range",data:=.fields #[.int lo t,.int hi u,.int 1 v] },toks:=tk }:=by
  refine wpAny_pyIter_range (IsRange.new ..) (small_one h1 h2 h3 h4) ?_
  have I1:Inv X pins σ H { s with heap:=s.heap.push { cls:=.type "range",data:=.fields #[.int lo t,.int hi u,.int 1 v] },toks:=tk }:=I.kept fun b o e=>Heap.get?_push_of_some _ e
  refine ⟨(s.heap.push { cls:=.type "range",data:=.fields #[.int lo t,.int hi u,.int 1 v] }).objs.size,[(s.heap.push { cls:=.type "range",data:=.fields #[.int lo t,.int hi u,.int 1 v] }).objs.size],_,_,H,rfl,
    I1.kept (t':=tk) fun b o e=>Heap.get?_push_of_some _ e,turn_range _ lo (hi - lo).toNat,?_,fun b hb=>?_,q⟩
  · have e1 : lo + ((0 : Nat) : Int) * 1 = lo := by simp
    have e2:(((hi - lo).toNat:Nat) : Int) - ((0:Nat) : Int) = Builtin.Range.rangeSize lo hi 1:=by rw [rangeSize_one]; split <;> lia
    show IsRangeIter _ _ (lo + ((0:Nat) : Int) * 1) ((((hi - lo).toNat:Nat) : Int) - ((0:Nat) : Int)) 1
    rw [e1,e2]
    exact Heap.get?_push_size _ rfl
  · have e : b = (s.heap.push { cls := .type "range", data := .fields #[.int lo t, .int hi u, .int 1 v] }).objs.size := by simpa using hb
    subst e
    exact I1.fpOk (Nat.le_refl _) (I1.hok.fresh (Nat.le_refl _))
noncomputable def iRng1 (ta:TA) : TI:=fun σ H R=>ta σ H fun vs H1=>∃ j:Int,vs = [.int j]∧-(2 ^ 62) ≤ j∧j < 2 ^ 62∧R (Itr 0 j.toNat) H1
noncomputable def iRng2 (ta:TA) : TI:=fun σ H R=>ta σ H fun vs H1=>∃ i j:Int,vs = [.int i,.int j]∧(-(2 ^ 62) ≤ i∧i < 2 ^ 62∧-(2 ^ 62) ≤ j∧j < 2 ^ 62)∧R (Itr i (j - i).toNat) H1
theorem pi_range1 {a:Expr} {ta:TA} {p pos:Pos} (hg:Gl X "range") (hm:X.mg "range" = none) (ha:PA X [a] ta) (hs:starEach [a] X.env = [(false,eval a X.env)]:=by rfl) : PI X tg (.Call (.Name "range" p) [a] [] pos) (iRng1 ta):=by
  intro pins s σ H R I h
  refine Call_ (ld_blt I hg hm boot_range (PyProof.Rows.callWith_type1 (thn (ha pos pins s σ H _ I h) fun us s1 ⟨vs,H1,I1,r1,q1⟩=>?_) hs rfl))
  obtain ⟨j,e,q1,q2,q⟩:=q1
  subst e
  cases r1 with
  | cons r rr =>
    cases rr
    obtain ⟨t,rfl⟩:=r
    exact call_range_1 (range_it I1 (by lia) (by lia) q1 q2 (by simpa using q))
theorem pi_range2 {a b:Expr} {ta:TA} {p pos:Pos} (hg:Gl X "range") (hm:X.mg "range" = none) (ha:PA X [a,b] ta) (hs:starEach [a,b] X.env = [(false,eval a X.env),(false,eval b X.env)]:=by rfl) (hs2:starEach [b] X.env = [(false,eval b X.env)]:=by rfl) :
    PI X tg (.Call (.Name "range" p) [a,b] [] pos) (iRng2 ta):=by
  intro pins s σ H R I h
  refine Call_ (ld_blt I hg hm boot_range (PyProof.Rows.callWith_type1 (thn (ha pos pins s σ H _ I h) fun us s1 ⟨vs,H1,I1,r1,q1⟩=>?_) (by rw [hs,hs2]) (by rw [hs2]; rfl)))
  obtain ⟨i,j,e,⟨q1,q2,q3,q4⟩,q⟩:=q1
  subst e
  cases r1 with
  | cons r rr =>
    cases rr with
    | cons r' rr =>
      cases rr
      obtain ⟨t,rfl⟩:=r
      obtain ⟨t',rfl⟩:=r'
      exact call_range_2 (range_it I1 q1 q2 q3 q4 q)
noncomputable def tFor (wi:TI) (g:TG) (tb:TS) : TS:=fun D σ H=>wi σ H fun J H1=>∃ W:Nat→Nat→St→Hp→Prop,(∃ m,W 0 m σ H1)∧∀ i m σ H,W i m σ H →
  (J.stop i H∧D.nx σ H) ∨ (J.go i H∧∃ N:St→Hp→Prop,(∀ σ' H',N σ' H'→∃ m',m' < m∧W (i + 1) m' σ' H')∧∀ x H',J.yld i H x H'→g x σ H' fun σ2 H2=>tb { D with nx:=N,ct:=N,bk:=D.nx } σ2 H2)
noncomputable def pinsAt (fp:List Addr) (h:Heap) : List (Addr × Obj):=fp.filterMap fun b=>(h.get? b).map fun o=>(b,o)
theorem mem_pinsAt {fp:List Addr} {h:Heap} {b:Addr} {o:Obj} (hb:b ∈ fp) (e:h.get? b = some o) : (b,o) ∈ pinsAt fp h:=List.mem_filterMap.mpr ⟨b,hb,by rw [e]; rfl⟩
theorem of_pinsAt {fp:List Addr} {h:Heap} {p:Addr × Obj} (hp:p ∈ pinsAt fp h) : p.1 ∈ fp∧h.get? p.1 = some p.2:=by
  obtain ⟨b,hb,e⟩:=List.mem_filterMap.mp hp
  cases q:h.get? b with
  | none=>rw [q] at e; cases e
  | some o =>
    rw [q] at e
    have e':(b,o) = p:=Option.some.inj e
    subst e'
    exact ⟨hb,q⟩
theorem Inv.pinned {pins:List (Addr × Obj)} {σ:St} {H:Hp} {s:Shared} {fp:List Addr} (I:Inv X pins σ H s) (hf:∀ b ∈ fp,FpOk X pins H b) (ho:∀ b ∈ fp,∃ o,s.heap.get? b = some o∧∀ v,o.data ≠ .cell v) : Inv X (pins ++ pinsAt fp s.heap) σ H s:=
  I.pins_of fun p hp=>(List.mem_append.mp hp).elim (fun z=>I.pin p (List.mem_append_right _ z)) fun z=>by
    obtain ⟨hb,e⟩:=of_pinsAt z
    obtain ⟨f0,f1,f2,_⟩:=hf p.1 hb
    obtain ⟨o,e',d⟩:=ho p.1 hb
    rw [e] at e'; cases e'
    exact ⟨e,f0,f1,f2,d⟩
theorem Inv.unpinned {pins pl:List (Addr × Obj)} {σ:St} {H:Hp} {s:Shared} (I:Inv X (pins ++ pl) σ H s) : Inv X pins σ H s:=I.pins_of fun p hp=>I.pin p (List.mem_append_right _ (List.mem_append_left _ hp))
theorem ps_for {iter:Expr} {body:List Stmt} {wi:TI} {g:TG} {tb:TS} {pos:Pos} (hp:PassesOwn (model X.prog X.w) X.A X.env X.xe) (hc:X.calm = true) (hi:PI X tg iter wi) (hg:PG X tg g) (hb:PSs X body tb)
    (hs:∀ x,foldedSetIterable iter X.env x = pure x:=by intro _; rfl) : PS X (.For tg iter body [] pos) (tFor wi g tb):=by
  intro pins s σ H D I h
  refine wpAny_For (thn (hi pins s σ H _ I h) fun v s1 h1=>thn h1 fun itv s2 h2=>?_) hs
  obtain ⟨it,fp,tn,J,H2,e,I2,T,st2,f2,W,⟨m0,w0⟩,turn⟩:=h2
  subst e
  have stat:∀ {H':Hp},(∀ b ∈ fp,H' b = none)→∀ b ∈ fp,FpOk X pins H' b:=fun hn b hb=>⟨hn b hb,(f2 b hb).2⟩
  refine codeAny_forLoop_any (fun n s'=>∃ i σ' H',Inv X pins σ' H' s'∧tn i s'.heap∧(∀ b ∈ fp,H' b = none)∧W i n σ' H') ?_ m0 ⟨0,σ,H2,I2,st2,fun b hb=>(f2 b hb).1,w0⟩
  rintro n s3 ⟨i,σ3,H3,I3,st3,fr3,w3⟩
  rcases turn i n σ3 H3 w3 with ⟨stop,qn⟩ | ⟨go,N,hN,step⟩
  · refine wpAny_passesOwn hp (thn (T.done X rfl rfl rfl hc i pins s3 σ3 H3 X.xe I3 (stat fr3) st3 stop) fun r s4 ⟨hr,I4⟩=>?_)
    subst hr
    exact wpAny_execs_nil ⟨σ3,H3,I4,qn⟩
  · refine wpAny_passesOwn hp (thn (T.item X rfl rfl rfl hc i pins s3 σ3 H3 X.xe I3 (stat fr3) st3 go) fun r s4 ⟨u,hr,h4⟩=>?_)
    subst hr
    refine wpAny_passesOwn hp (thn h4 fun _ s5 ⟨x,H5,I5,r5,y5,st5,fr5⟩=>?_)
    have I5':=I5.pinned (stat fr5) (T.obj _ _ st5)
    refine wpAny_passesOwn hp (thn (hg _ s5 σ3 H5 x u _ I5' r5 (step x H5 y5)) fun _ s6 ⟨σ6,H6,I6,q6⟩=>?_)
    refine wpAny_passesOwn hp (thn (hb _ s6 σ6 H6 _ I6 q6) fun f s7 q7=>?_)
    have again:∀ {σ7:St} {H7:Hp},Inv X (pins ++ pinsAt fp s5.heap) σ7 H7 s7→N σ7 H7→∃ m,m < n∧∃ i σ' H',Inv X pins σ' H' s7∧tn i s7.heap∧(∀ b ∈ fp,H' b = none)∧W i m σ' H':=fun {σ7 H7} I7 n7=>by
      obtain ⟨m',hm,w7⟩:=hN σ7 H7 n7
      refine ⟨m',hm,i + 1,σ7,H7,I7.unpinned,T.keep _ _ _ st5 fun b hb o e=>(I7.pin (b,o) (List.mem_append_right _ (List.mem_append_right _ (mem_pinsAt hb e)))).1,fun b hb=>?_,w7⟩
      obtain ⟨o,e,d⟩:=T.obj _ _ st5 b hb
      exact (I7.pin (b,o) (List.mem_append_right _ (List.mem_append_right _ (mem_pinsAt hb e)))).2.1
    cases f with
    | next=>obtain ⟨σ7,H7,I7,n7⟩:=q7; exact again I7 n7
    | cont=>obtain ⟨σ7,H7,I7,n7⟩:=q7; exact again I7 n7
    | brk=>obtain ⟨σ7,H7,I7,q7⟩:=q7; exact ⟨σ7,H7,I7.unpinned,q7⟩
    | ret v=>obtain ⟨x7,σ7,H7,I7,r7,q7⟩:=q7; exact ⟨x7,σ7,H7,I7.unpinned,r7,q7⟩
end
end L2
namespace L2
open PySem PySem.Spec PyProof.Rows
noncomputable abbrev R2:=V→V→Hp→VK→Prop
noncomputable def OpR (X:Cx) (f:Value→Value→Sem Value) (r:R2) : Prop:=
  ∀ (pins:List (Addr × Obj)) (s:Shared) (σ:St) (H:Hp) (x y:V) (v u:Value) (Q:VK),Inv X pins σ H s→RelV x v→RelV y u→r x y H Q →
    wpAny (model X.prog X.w) X.A (f v u) (EP X pins σ Q) X.xe s
noncomputable def UnR (X:Cx) (f:Value→Sem Value) (r:V→Hp→VK→Prop) : Prop:=
  ∀ (pins:List (Addr × Obj)) (s:Shared) (σ:St) (H:Hp) (x:V) (v:Value) (Q:VK),Inv X pins σ H s→RelV x v→r x H Q →
    wpAny (model X.prog X.w) X.A (f v) (EP X pins σ Q) X.xe s
noncomputable def CallR (X:Cx) (f:Value) (r:List V→Hp→VK→Prop) : Prop:=
  ∀ (pins:List (Addr × Obj)) (s:Shared) (σ:St) (H:Hp) (xs:List V) (us:List Value) (Q:VK),Inv X pins σ H s→Vals xs us→r xs H Q →
    wpAny (model X.prog X.w) X.A (call f us) (EP X pins σ Q) X.xe s
noncomputable def tOp (r:R2) (ta tb:TE) : TE:=fun σ H Q=>ta σ H fun x H1=>tb σ H1 fun y H2=>r x y H2 Q
noncomputable def tUn (r:V→Hp→VK→Prop) (ta:TE) : TE:=fun σ H Q=>ta σ H fun x H1=>r x H1 Q
noncomputable def rI (C:Int→Int→Prop) (g:Int→Int→V) : R2:=fun x y H Q=>∃ i j,x = .int i∧y = .int j∧C i j∧Q (g i j) H
noncomputable def rI0 (g:Int→Int→V) : R2:=fun x y H Q=>∃ i j,x = .int i∧y = .int j∧Q (g i j) H
noncomputable def rU (g:Int→V) : V→Hp→VK→Prop:=fun x H Q=>∃ i,x = .int i∧Q (g i) H
section
variable {X:Cx} {a b c:Expr} {ta tb tc:TE} {pos:Pos}
theorem binT (ha:PE X a ta) (hb:PE X b tb) {pins:List (Addr × Obj)} {s:Shared} {σ:St} {H:Hp} {R:V→V→Hp→Prop} (I:Inv X pins σ H s)
    (h:ta σ H fun x H1=>tb σ H1 fun y H2=>R x y H2) {Q:Value→Shared→Prop} {f:Value→Value→Sem Value}
    (hf:∀ v u s2 x y H2,Inv X pins σ H2 s2→RelV x v→RelV y u→R x y H2→wpAny (model X.prog X.w) X.A (f v u) Q X.xe s2) :
    wpAny (model X.prog X.w) X.A (eval a X.env) (fun v s₁=>wpAny (model X.prog X.w) X.A (eval b X.env) (fun u s₂=>wpAny (model X.prog X.w) X.A (f v u) Q X.xe s₂) X.xe s₁) X.xe s:=by
  refine thn (ha pins s σ H _ I h) fun v s1 ⟨x,H1,I1,r1,q1⟩=>?_
  refine thn (hb pins s1 σ H1 _ I1 q1) fun u s2 ⟨y,H2,I2,r2,q2⟩=>?_
  exact hf v u s2 x y H2 I2 r1 r2 q2
theorem pe_op {op:Operator} {r:R2} (ho:OpR X (binaryOp op) r) (ha:PE X a ta) (hb:PE X b tb) : PE X (.BinOp a op b pos) (tOp r ta tb):=by
  intro pins s σ H Q I h
  exact wpAny_BinOp (binT ha hb I h fun v u s2 x y H2 I2 rx ry q=>ho pins s2 σ H2 x y v u Q I2 rx ry q)
theorem pe_un {op:UnaryOp} {r:V→Hp→VK→Prop} (ho:UnR X (unaryOp op) r) (ha:PE X a ta) : PE X (.UnaryOp op a pos) (tUn r ta):=by
  intro pins s σ H Q I h
  exact UnaryOp_ (thn (ha pins s σ H _ I h) fun v s1 ⟨x,H1,I1,r1,q1⟩=>ho pins s1 σ H1 x v Q I1 r1 q1)
theorem opI {f:Value→Value→Sem Value} {C:Int→Int→Prop} {g:Int→Int→Int}
    (rule:∀ (i j:Int) (t u:Tok) (s:Shared) (Q:Value→Shared→Prop) (E:Value→Shared→Prop),C i j→Q (.int (g i j) s.toks) { s with toks:=s.toks + 1 }→wpAny (model X.prog X.w) X.A (f (.int i t) (.int j u)) Q E s) :
    OpR X f (rI C fun i j=>.int (g i j)):=by
  intro pins s σ H x y v u Q I rx ry h
  obtain ⟨i,j,rfl,rfl,hc,q⟩:=h
  obtain ⟨t,rfl⟩:=rx
  obtain ⟨t',rfl⟩:=ry
  exact rule i j t t' s _ _ hc ⟨.int (g i j),H,I.tok _,⟨_,rfl⟩,q⟩
theorem opI0 {f:Value→Value→Sem Value} {g:Int→Int→Int}
    (rule:∀ (i j:Int) (t u:Tok) (s:Shared) (Q:Value→Shared→Prop) (E:Value→Shared→Prop),Q (.int (g i j) s.toks) { s with toks:=s.toks + 1 }→wpAny (model X.prog X.w) X.A (f (.int i t) (.int j u)) Q E s) :
    OpR X f (rI0 fun i j=>.int (g i j)):=by
  intro pins s σ H x y v u Q I rx ry h
  obtain ⟨i,j,rfl,rfl,q⟩:=h
  obtain ⟨t,rfl⟩:=rx
  obtain ⟨t',rfl⟩:=ry
  exact rule i j t t' s _ _ ⟨.int (g i j),H,I.tok _,⟨_,rfl⟩,q⟩
theorem opB0 {f:Value→Value→Sem Value} {g:Int→Int→Bool}
    (rule:∀ (i j:Int) (t u:Tok) (s:Shared) (Q:Value→Shared→Prop) (E:Value→Shared→Prop),Q (.bool (g i j)) s→wpAny (model X.prog X.w) X.A (f (.int i t) (.int j u)) Q E s) :
    OpR X f (rI0 fun i j=>.bl (g i j)):=by
  intro pins s σ H x y v u Q I rx ry h
  obtain ⟨i,j,rfl,rfl,q⟩:=h
  obtain ⟨t,rfl⟩:=rx
  obtain ⟨t',rfl⟩:=ry
  exact rule i j t t' s _ _ ⟨.bl (g i j),H,I,rfl,q⟩
noncomputable def CDiv (i j:Int) : Prop:=0 < j∧j < 1073741824
noncomputable def CPow (i j:Int) : Prop:=0 ≤ j∧j ≤ 1000000∧i.natAbs < 2 ^ 64
noncomputable def CMul (i j:Int) : Prop:=(-(2 ^ 64) < i∧i < 2 ^ 64) ∨ (-(2 ^ 64) < j∧j < 2 ^ 64)
theorem CMul.ok {i j:Int} (h:CMul i j) : IntMulOk i j:=by
  rcases h with ⟨h1,h2⟩ | ⟨h1,h2⟩
  · exact .of_left (intBits_le_64 h1 h2)
  · exact .of_right (intBits_le_64 h1 h2)
theorem op_add:OpR X (binaryOp .Add) (rI0 fun i j=>.int (i + j)):=opI0 fun _ _ _ _ _ _ _ q=>add_int q
theorem op_sub:OpR X (binaryOp .Sub) (rI0 fun i j=>.int (i - j)):=opI0 fun _ _ _ _ _ _ _ q=>sub_int q
theorem op_mul:OpR X (binaryOp .Mult) (rI CMul fun i j=>.int (i * j)):=opI fun _ _ _ _ _ _ _ hc q=>mul_int q hc.ok
theorem op_fdiv:OpR X (binaryOp .FloorDiv) (rI CDiv fun i j=>.int (i / j)):=opI fun i j _ _ _ _ _ hc q=>by
  have h1:(0:Int) < j:=hc.1
  have h2:j < 1073741824:=hc.2
  exact floordiv_int (by lia) (by rw [Int.fdiv_eq_ediv_of_nonneg i (by lia)]; exact q) (.inl (PyProof.noPylong_small (by lia)))
theorem op_mod:OpR X (binaryOp .Mod) (rI (fun _ j=>0 < j) fun i j=>.int (i % j)):=opI fun i j _ _ _ _ _ hc q=>by
  have h1:(0:Int) < j:=hc
  exact mod_int' (by lia) (by rw [Int.fmod_eq_emod_of_nonneg i (by lia)]; exact q)
theorem op_pow:OpR X (binaryOp .Pow) (rI CPow fun i j=>.int (i ^ j.toNat)):=opI fun _ _ _ _ _ _ _ hc q=>pow_int_small hc.1 hc.2.1 hc.2.2 q
theorem unI {f:Value→Sem Value} {g:Int→Int}
    (rule:∀ (i:Int) (t:Tok) (s:Shared) (Q:Value→Shared→Prop) (E:Value→Shared→Prop),Q (.int (g i) s.toks) { s with toks:=s.toks + 1 }→wpAny (model X.prog X.w) X.A (f (.int i t)) Q E s) :
    UnR X f (rU fun i=>.int (g i)):=by
  intro pins s σ H x v Q I rx h
  obtain ⟨i,rfl,q⟩:=h
  obtain ⟨t,rfl⟩:=rx
  exact rule i t s _ _ ⟨.int (g i),H,I.tok _,⟨_,rfl⟩,q⟩
theorem un_neg:UnR X (unaryOp .USub) (rU fun i=>.int (-i)):=unI fun _ _ _ _ _ q=>neg_int q
end
noncomputable def scal:V→V→Bool
  | .non,.non=>true | .non,.int _=>true | .int _,.non=>true | .non,.bl _=>true | .bl _,.non=>true | .non,.str _=>true | .str _,.non=>true
  | .int _,.int _=>true | .bl _,.bl _=>true | .str _,.str _=>true | .byt _,.byt _=>true
  | .int _,.str _=>true | .str _,.int _=>true | .bl _,.str _=>true | .str _,.bl _=>true
  | _,_=>false
noncomputable def rEq:R2:=fun x y H Q=>scal x y = true∧Q (.bl (decide (x = y))) H
noncomputable def rNe:R2:=fun x y H Q=>scal x y = true∧Q (.bl (!decide (x = y))) H
theorem dec_int {i j:Int} : decide (V.int i = V.int j) = (i == j):=by
  rw [Bool.eq_iff_iff]
  simp
theorem dec_bl {i j:Bool} : decide (V.bl i = V.bl j) = (i == j):=by
  rw [Bool.eq_iff_iff]
  simp
theorem dec_str {i j:Str} : decide (V.str i = V.str j) = (i == j):=by
  rw [Bool.eq_iff_iff]
  simp
theorem dec_byt {i j:Array UInt8} : decide (V.byt i = V.byt j) = (i.toList == j.toList):=by
  rw [Bool.eq_iff_iff]
  cases i
  cases j
  simp
section
variable {X:Cx} {a b c:Expr} {ta tb tc:TE} {pos:Pos}
theorem fin_bl {pins:List (Addr × Obj)} {σ:St} {H:Hp} {s:Shared} {Q:VK} {k k':Bool} (I:Inv X pins σ H s) (q:Q (.bl k) H) (e:k = k') : EP X pins σ Q (.bool k') s:=by
  subst e
  exact ⟨.bl k,H,I,rfl,q⟩
theorem op_eq:OpR X (compareOp .Eq) rEq:=by
  intro pins s σ H x y v u Q I rx ry h
  obtain ⟨hs,q⟩:=h
  cases x with
  | non =>
    cases rx
    cases y with
    | non=>cases ry; exact PySem.EqNone.eq_none_none (fin_bl I q (by simp))
    | bl j=>cases ry; exact PySem.EqNone.eq_none_bool (fin_bl I q (by simp))
    | int j=>obtain ⟨t',rfl⟩:=ry; exact PySem.EqNone.eq_none_int (fin_bl I q (by simp))
    | str j=>obtain ⟨t',rfl⟩:=ry; exact PySem.EqNone.eq_none_str (fin_bl I q (by simp))
    | _=>exact absurd (show false = true from hs) Bool.false_ne_true
  | bl i =>
    cases rx
    cases y with
    | non=>cases ry; exact PySem.EqNone.eq_bool_none (fin_bl I q (by simp))
    | bl j=>cases ry; exact eq_bool (fin_bl I q dec_bl)
    | str j=>obtain ⟨t',rfl⟩:=ry; exact PySem.EqMixed.eq_bool_str (fin_bl I q (by simp))
    | _=>exact absurd (show false = true from hs) Bool.false_ne_true
  | int i =>
    obtain ⟨t,rfl⟩:=rx
    cases y with
    | non=>cases ry; exact PySem.EqNone.eq_int_none (fin_bl I q (by simp))
    | int j=>obtain ⟨t',rfl⟩:=ry; exact eq_int (fin_bl I q dec_int)
    | str j=>obtain ⟨t',rfl⟩:=ry; exact PySem.EqMixed.eq_int_str (fin_bl I q (by simp))
    | _=>exact absurd (show false = true from hs) Bool.false_ne_true
  | str i =>
    obtain ⟨t,rfl⟩:=rx
    cases y with
    | non=>cases ry; exact PySem.EqNone.eq_str_none (fin_bl I q (by simp))
    | bl j=>cases ry; exact PySem.EqMixed.eq_str_bool (fin_bl I q (by simp))
    | int j=>obtain ⟨t',rfl⟩:=ry; exact PySem.EqMixed.eq_str_int (fin_bl I q (by simp))
    | str j=>obtain ⟨t',rfl⟩:=ry; exact eq_str (fin_bl I q dec_str)
    | _=>exact absurd (show false = true from hs) Bool.false_ne_true
  | byt i =>
    obtain ⟨t,rfl⟩:=rx
    cases y with
    | byt j=>obtain ⟨t',rfl⟩:=ry; exact PySem.W.eq_bytes (fin_bl I q dec_byt)
    | _=>exact absurd (show false = true from hs) Bool.false_ne_true
  | _=>cases y <;> exact absurd (show false = true from hs) Bool.false_ne_true
theorem op_ne:OpR X (compareOp .NotEq) rNe:=by
  intro pins s σ H x y v u Q I rx ry h
  obtain ⟨hs,q⟩:=h
  cases x with
  | non =>
    cases rx
    cases y with
    | non=>cases ry; exact PySem.EqNone.ne_none_none (fin_bl I q (by simp))
    | bl j=>cases ry; exact PySem.EqNone.ne_none_bool (fin_bl I q (by simp))
    | int j=>obtain ⟨t',rfl⟩:=ry; exact PySem.EqNone.ne_none_int (fin_bl I q (by simp))
    | str j=>obtain ⟨t',rfl⟩:=ry; exact PySem.EqNone.ne_none_str (fin_bl I q (by simp))
    | _=>exact absurd (show false = true from hs) Bool.false_ne_true
  | bl i =>
    cases rx
    cases y with
    | non=>cases ry; exact PySem.EqNone.ne_bool_none (fin_bl I q (by simp))
    | bl j=>cases ry; exact ne_bool (fin_bl I q (congrArg not dec_bl))
    | str j=>obtain ⟨t',rfl⟩:=ry; exact PySem.EqMixed.ne_bool_str (fin_bl I q (by simp))
    | _=>exact absurd (show false = true from hs) Bool.false_ne_true
  | int i =>
    obtain ⟨t,rfl⟩:=rx
    cases y with
    | non=>cases ry; exact PySem.EqNone.ne_int_none (fin_bl I q (by simp))
    | int j=>obtain ⟨t',rfl⟩:=ry; exact ne_int (fin_bl I q (congrArg not dec_int))
    | str j=>obtain ⟨t',rfl⟩:=ry; exact PySem.EqMixed.ne_int_str (fin_bl I q (by simp))
    | _=>exact absurd (show false = true from hs) Bool.false_ne_true
  | str i =>
    obtain ⟨t,rfl⟩:=rx
    cases y with
    | non=>cases ry; exact PySem.EqNone.ne_str_none (fin_bl I q (by simp))
    | bl j=>cases ry; exact PySem.EqMixed.ne_str_bool (fin_bl I q (by simp))
    | int j=>obtain ⟨t',rfl⟩:=ry; exact PySem.EqMixed.ne_str_int (fin_bl I q (by simp))
    | str j=>obtain ⟨t',rfl⟩:=ry; exact ne_str (fin_bl I q (congrArg not dec_str))
    | _=>exact absurd (show false = true from hs) Bool.false_ne_true
  | byt i =>
    obtain ⟨t,rfl⟩:=rx
    cases y with
    | byt j=>obtain ⟨t',rfl⟩:=ry; exact PySem.W.ne_bytes (fin_bl I q (congrArg not dec_byt))
    | _=>exact absurd (show false = true from hs) Bool.false_ne_true
  | _=>cases y <;> exact absurd (show false = true from hs) Bool.false_ne_true
theorem op_lt:OpR X (compareOp .Lt) (rI0 fun i j=>.bl (decide (i < j))):=opB0 fun _ _ _ _ _ _ _ q=>lt_int q
theorem op_le:OpR X (compareOp .LtE) (rI0 fun i j=>.bl (decide (i ≤ j))):=opB0 fun _ _ _ _ _ _ _ q=>le_int q
theorem op_gt:OpR X (compareOp .Gt) (rI0 fun i j=>.bl (decide (j < i))):=opB0 fun _ _ _ _ _ _ _ q=>gt_int q
theorem op_ge:OpR X (compareOp .GtE) (rI0 fun i j=>.bl (decide (j ≤ i))):=opB0 fun _ _ _ _ _ _ _ q=>ge_int q
theorem op_notN:OpR X (compareOp .IsNot) (fun x y H Q=>y = .non∧Q (.bl (!decide (x = .non))) H):=by
  intro pins s σ H x y v u Q I rx ry h
  obtain ⟨rfl,q⟩:=h
  cases ry
  refine isnot_none_gen (fin_bl I q ?_)
  cases x <;> first
    | (cases rx; rfl)
    | (obtain ⟨t,rfl⟩:=rx; rfl)
theorem OpR.or {f:Value→Value→Sem Value} {r r':R2} (h:OpR X f r) (h':OpR X f r') : OpR X f (fun x y H Q=>r x y H Q ∨ r' x y H Q):=by
  intro pins s σ H x y v u Q I rx ry q
  rcases q with q | q
  · exact h pins s σ H x y v u Q I rx ry q
  · exact h' pins s σ H x y v u Q I rx ry q
theorem nomark (b:Expr) {op:CmpOp} (h:op ≠ .In:=by decide) (h2:op ≠ .NotIn:=by decide) : behindInMarks op b = false:=by
  have e1:(op == CmpOp.In) = false:=by cases op <;> first | rfl | exact absurd rfl h
  have e2:(op == CmpOp.NotIn) = false:=by cases op <;> first | rfl | exact absurd rfl h2
  cases b <;> simp [behindInMarks,e1,e2]
theorem pe_cmpR {op:CmpOp} {r:R2} (ho:OpR X (compareOp op) r) (ha:PE X a ta) (hb:PE X b tb) (hm:behindInMarks op b = false) : PE X (.Compare a [op] [b] pos) (tOp r ta tb):=by
  intro pins s σ H Q I h
  exact wpAny_Compare1 (binT ha hb I h fun v u s2 x y H2 I2 rx ry q=>ho pins s2 σ H2 x y v u Q I2 rx ry q) hm
noncomputable def tTest (t:TE) : TT:=fun σ H Q=>t σ H fun x H'=>∃ k,x = .bl k∧Q k H'
theorem pt_cmpR {op:CmpOp} {r:R2} (ho:OpR X (compareOp op) r) (ha:PE X a ta) (hb:PE X b tb) (hm:behindInMarks op b = false) : PT X (.Compare a [op] [b] pos) (tTest (tOp r ta tb)):=by
  intro pins s σ H Q I h
  refine wpAny_isTrue_Compare1 (thn (ha pins s σ H _ I h) fun v s1 ⟨x,H1,I1,r1,q1⟩=>thn (hb pins s1 σ H1 _ I1 q1) fun u s2 ⟨y,H2,I2,r2,q2⟩ =>
    thn (ho pins s2 σ H2 x y v u _ I2 r1 r2 q2) fun c s3 ⟨z,H3,I3,r3,k,e,q3⟩=>?_) hm
  subst e
  cases r3
  exact wpAny_truthy_bool ⟨H3,I3,q3⟩
theorem line63:(sizeLine:Nat) < 2 ^ 63:=by rw [sizeLine_eq]; decide
theorem op_add_str:OpR X (binaryOp .Add) (fun x y H Q=>∃ i j,x = .str i∧y = .str j∧i.length + j.length ≤ sizeLine∧Q (.str (i ++ j)) H):=by
  intro pins s σ H x y v u Q I rx ry h
  obtain ⟨i,j,rfl,rfl,hz,q⟩:=h
  obtain ⟨t,rfl⟩:=rx
  obtain ⟨t',rfl⟩:=ry
  exact add_str (fun t' tk=>⟨.str (i ++ j),H,I.tok _,⟨_,rfl⟩,q⟩) hz
theorem vals1 {x:V} {us:List Value} (r:Vals [x] us) : ∃ u,us = [u]∧RelV x u:=by
  cases r with
  | cons r1 r2=>cases r2; exact ⟨_,rfl,r1⟩
theorem vals2 {x y:V} {us:List Value} (r:Vals [x,y] us) : ∃ u w',us = [u,w']∧RelV x u∧RelV y w':=by
  cases r with
  | cons r1 r2 =>
    cases r2 with
    | cons r3 r4=>cases r4; exact ⟨_,_,rfl,r1,r3⟩
theorem call_max2 (hc:X.calm = true) : CallR X (.builtin "max") (fun xs H Q=>∃ i j,xs = [.int i,.int j]∧Q (.int (if j > i then j else i)) H):=by
  intro pins s σ H xs us Q I r h
  obtain ⟨i,j,rfl,q⟩:=h
  obtain ⟨u,w',rfl,⟨t,rfl⟩,⟨t',rfl⟩⟩:=vals2 r
  refine max_two_ints (I.ok.hd hc) fun h' tk k=>⟨_,H,I.kept k,?_,q⟩
  by_cases hj:j > i
  · rw [if_pos hj,if_pos hj]; exact ⟨_,rfl⟩
  · rw [if_neg hj,if_neg hj]; exact ⟨_,rfl⟩
theorem call_min2 (hc:X.calm = true) : CallR X (.builtin "min") (fun xs H Q=>∃ i j,xs = [.int i,.int j]∧Q (.int (if j < i then j else i)) H):=by
  intro pins s σ H xs us Q I r h
  obtain ⟨i,j,rfl,q⟩:=h
  obtain ⟨u,w',rfl,⟨t,rfl⟩,⟨t',rfl⟩⟩:=vals2 r
  refine min_two_ints (I.ok.hd hc) fun h' tk k=>⟨_,H,I.kept k,?_,q⟩
  by_cases hj:j < i
  · rw [if_pos hj,if_pos hj]; exact ⟨_,rfl⟩
  · rw [if_neg hj,if_neg hj]; exact ⟨_,rfl⟩
theorem call_int1:CallR X (.type "int") (fun xs H Q=>(∃ i,xs = [.int i]∧Q (.int i) H) ∨ ∃ k,xs = [.bl k]∧Q (.int (if k then 1 else 0)) H):=by
  intro pins s σ H xs us Q I r h
  rcases h with ⟨i,rfl,q⟩ | ⟨k,rfl,q⟩
  · obtain ⟨u,rfl,t,rfl⟩:=vals1 r
    exact call_int_int ⟨.int i,H,I,⟨_,rfl⟩,q⟩
  · obtain ⟨u,rfl,r1⟩:=vals1 r
    cases r1
    exact call_int_bool ⟨.int (if k then 1 else 0),H,I.tok _,⟨_,rfl⟩,q⟩
noncomputable def LenV (K:PySem.W.Frag) (x:V) (H:Hp) (n:Nat) : Prop:=
  match x with
  | .str y=>y.length ≤ sizeLine∧n = y.length
  | .byt y=>y.size ≤ sizeLine∧n = y.size
  | .ref p=>(∃ xs,SqL K H p xs∧n = xs.length) ∨ ∃ xs,SqT K H p xs∧n = xs.length
  | _=>False
theorem call_len:CallR X (.builtin "len") (fun xs H Q=>∃ x n,xs = [x]∧LenV X.K x H n∧Q (.int n) H):=by
  intro pins s σ H xs us Q I r h
  obtain ⟨x,n,rfl,e,q⟩:=h
  obtain ⟨u,rfl,rx⟩:=vals1 r
  have hl:=line63
  have hs:sizeLine = 16777216:=sizeLine_eq
  cases x with
  | str y =>
    obtain ⟨t,rfl⟩:=rx
    obtain ⟨hy,e'⟩ : y.length ≤ sizeLine∧n = y.length:=e
    subst e'
    exact len_str (by lia) ⟨.int _,H,I.tok _,⟨_,rfl⟩,q⟩
  | byt y =>
    obtain ⟨t,rfl⟩:=rx
    obtain ⟨hy,e'⟩ : y.size ≤ sizeLine∧n = y.size:=e
    subst e'
    exact PySem.W.len_bytes (by lia) ⟨.int _,H,I.tok _,⟨_,rfl⟩,q⟩
  | ref p =>
    cases rx
    have e':(∃ xs,SqL X.K H p xs∧n = xs.length) ∨ ∃ xs,SqT X.K H p xs∧n = xs.length:=e
    rcases e' with ⟨xs,hx,e'⟩ | ⟨xs,hx,e'⟩
    · subst e'
      obtain ⟨its,r',pl,hz⟩:=I.list hx
      have hlen:=r'.length
      exact Calls.call_len_list pl.isList (by simp only [List.size_toArray]; lia) ⟨.int xs.length,H,I.tok _,⟨_,by simp only [List.size_toArray]; rw [hlen]⟩,q⟩
    · subst e'
      obtain ⟨its,r',pl,hz⟩:=I.tuple hx
      have hlen:=r'.length
      exact len_tuple pl (by simp only [List.size_toArray]; lia) ⟨.int xs.length,H,I.tok _,⟨_,by simp only [List.size_toArray]; rw [hlen]⟩,q⟩
  | _=>exact (show False from e).elim
end
end L2
namespace L2
open PySem PySem.Spec PyProof.Rows
structure ObjM (h:Heap) (x dx C:Addr) (mA:Str→Option Value) : Prop where
  obj:h.get? x = some (PySem.W.instObj C dx)
  ns:h.Ns1 dx mA
  ne:dx ≠ x
theorem lookIn_ns {h:Heap} {dx:Addr} {mA:Str→Option Value} (n:h.Ns1 dx mA) : ∃ od,h.get? dx = some od∧∀ name,PySem.W.lookIn name od = some (mA name):=by
  obtain ⟨o,es,ep,ho,hd,hk,_,hm⟩:=n
  refine ⟨o,ho,fun name=>?_⟩
  have e:=hm name
  unfold nsFind findBy at e
  rw [← Array.find?_toList] at e
  unfold PySem.W.lookIn
  rw [hd]
  dsimp only
  split
  · rename_i y q
    rw [q] at e
    exact congrArg some e
  · rename_i q
    rw [q] at e
    have a:es.toList.any (·.refKey) = false:=by
      rw [List.any_eq_false]
      intro y hy
      obtain ⟨z,t,hkey⟩:=hk y (Array.mem_toList_iff.mp hy)
      simp [DictEntry.refKey,hkey]
    have a':¬ es.toList.any (·.refKey) = true:=by rw [a]; exact Bool.false_ne_true
    rw [if_neg a']
    exact congrArg some e
theorem ObjM.look {h:Heap} {x dx C:Addr} {mA:Str→Option Value} (I:ObjM h x dx C mA) : ∃ od,PySem.W.InstAt h x (PySem.W.instObj C dx) C (some od)∧∀ name,PySem.W.lookIn name od = some (mA name):=
  let ⟨od,ho,hl⟩:=lookIn_ns I.ns
  ⟨od,⟨I.obj,rfl,rfl,ho⟩,hl⟩
section
variable {prog:Program} {w:World} {A:Around} {E:Value→Shared→Prop} {s:Shared} {K:PySem.W.Frag} {x dx C f:Addr} {mA:Str→Option Value} {name:Str} {v:Value}
end
theorem RelO.some_of {v:V} {o:Option Value} (r:RelO (some v) o) : ∃ u,o = some u∧RelV v u:=by
  cases o with
  | none=>exact (show False from r).elim
  | some u=>exact ⟨u,rfl,r⟩
section
variable {P:Program} {w:World} {H H':Hp} {h h':Heap} {a C dx:Addr} {fs fs':List (Str × V)}
theorem ins_get (hok:HOk P w H h) (e:H a = some (.ins C dx fs)) : ∃ mA,ObjM h a dx C mA∧(∀ f,RelO (fs.lookup f) (mA f))∧PySem.Within mA (fs.map (·.1))∧fs.length ≤ 1000∧H dx = some (.own a):=by
  obtain ⟨d,z,ne,ob,mA,n,r,q⟩:=(show ObjOk P w H h a (.ins C dx fs) from hok a _ e)
  exact ⟨mA,⟨ob,n,ne⟩,r,q,z,d⟩
end
structure Cls (K:PySem.W.Frag) (C:Addr) : Prop where
  pg:PySem.W.plainGet K C Str.empty = true
  hd:PySem.W.hasDictIn K C = true
  po:PySem.W.plainOver K C = true
  sa:PySem.W.findIn K (.ref C) "__setattr__" = some (some (.builtin "object.__setattr__"))
theorem Cls.get {K:PySem.W.Frag} {C:Addr} (c:Cls K C) (f:Str) : PySem.W.plainGet K C f = true:=c.pg
structure Con (K:PySem.W.Frag) (C:Addr) (f:Str) (v:V) (u:Value) : Prop where
  at_:PySem.W.findIn K (.ref C) f = some (some u)
  rel:RelV v u
  get:PySem.W.specialIn K u "__get__" = some none
  cp:PySem.W.copiedNames.contains f = false
structure Meth (K:PySem.W.Frag) (C:Addr) (m:Str) (f:Addr) : Prop where
  at_:PySem.W.findIn K (.ref C) m = some (some (.ref f))
  fn:PySem.W.isFn K (.ref f) = true
  kp:PySem.W.keepIn K (.ref f) = true
section
variable {X:Cx} {pins:List (Addr × Obj)} {σ:St} {H:Hp} {s:Shared} {a C dx:Addr} {fs:List (Str × V)} {f:Str} {v:V} {A:Around} {E:Value→Shared→Prop}
end
section
variable {X:Cx} {o e value:Expr} {f:Str} {pos pos' tpos:Pos} {ta tv:TE}
end
section
variable {X:Cx} {pins:List (Addr × Obj)} {σ:St} {H:Hp} {s:Shared} {A:Around} {E:Value→Shared→Prop} {Q:Value→Shared→Prop} {c:Value} {b:Bool}
inductive TyOf (K:PySem.W.Frag) (H:Hp) : V→Value→Prop where
  | non:TyOf K H .non (.type "NoneType")
  | bl (x:Bool) : TyOf K H (.bl x) (.type "bool")
  | int (i:Int) : TyOf K H (.int i) (.type "int")
  | str (x:Str) : TyOf K H (.str x) (.type "str")
  | flt (x:UInt64) : TyOf K H (.flt x) (.type "float")
  | lst {a:Addr} {xs:List V} (e:H a = some (.lst xs)) : TyOf K H (.ref a) (.type "list")
  | frz {a:Addr} {o:Obj} {xs:List V} (e:H a = some (.frz o (.lst xs))) : TyOf K H (.ref a) (.type "list")
  | tup {a:Addr} {xs:List V} (e:H a = some (.tup xs)) : TyOf K H (.ref a) (.type "tuple")
  | dK {a:Addr} {kvs:List (Key × V)} (e:H a = some (.dK kvs)) : TyOf K H (.ref a) (.type "dict")
  | dT {a:Addr} {kvs:List (List Key × V)} (e:H a = some (.dT kvs)) : TyOf K H (.ref a) (.type "dict")
  | ins {a C dx:Addr} {fs:List (Str × V)} (e:H a = some (.ins C dx fs)) (cl:Cls K C) (ha:PySem.W.findIn K (.ref C) "__class__" = some (some (.builtin "object.__class__")))
      (hn:PySem.W.specialIn K (.builtin "object.__class__") "__get__" = some (some (.builtin "getset_descriptor.__get__"))) (htk:PySem.W.takesIn K (.builtin "object.__class__") = some true)
      (hm:PySem.W.mroIn K C (.type "object") = some true) : TyOf K H (.ref a) (.ref C)
theorem isinst_ok {x:V} {u t:Value} (I:Inv X pins σ H s) (rx:RelV x u) (ty:TyOf X.K H x t) (e:PySem.W.kitOne X.K t c = some b) (h:∀ tk,Q (.bool b) { s with toks:=tk }) :
    wpAny (model X.prog X.w) A (call (.builtin "isinstance") [u,c]) Q E s:=by
  cases ty with
  | non=>cases (show u = Value.none from rx); exact PySem.W.kia_one PySem.W.kitx_none I.kIn True.intro e (fun z=>nomatch z) h
  | bl y=>cases (show u = Value.bool y from rx); exact PySem.W.kia_one PySem.W.kitx_bool I.kIn True.intro e (fun z=>nomatch z) h
  | int i=>obtain ⟨t,q⟩:=(show ∃ t,u = Value.int i t from rx); cases q; exact PySem.W.kia_one PySem.W.kitx_int I.kIn True.intro e (fun z=>nomatch z) h
  | str y=>obtain ⟨t,q⟩:=(show ∃ t,u = Value.str y t from rx); cases q; exact PySem.W.kia_one PySem.W.kitx_str I.kIn True.intro e (fun z=>nomatch z) h
  | flt y=>obtain ⟨t,q⟩:=(show ∃ t,u = Value.float y t from rx); cases q; exact PySem.W.kia_one PySem.W.kitx_float I.kIn True.intro e (fun z=>nomatch z) h
  | @lst a xs ea =>
    cases (show u = Value.ref a from rx)
    obtain ⟨_,_,n,_,h1⟩:=(show ObjOk X.prog X.w H s.heap a (.lst xs) from I.hok a _ ea)
    exact PySem.W.kia_one PySem.W.kitx_list I.kIn ⟨_,h1,rfl⟩ e (fun z=>nomatch z) h
  | @frz a ob xs ea =>
    cases (show u = Value.ref a from rx)
    obtain ⟨_,_,_,n,_,h1⟩:=(show ObjOk X.prog X.w H s.heap a (.frz ob (.lst xs)) from I.hok a _ ea)
    exact PySem.W.kia_one PySem.W.kitx_list I.kIn ⟨_,h1,rfl⟩ e (fun z=>nomatch z) h
  | @tup a xs ea =>
    cases (show u = Value.ref a from rx)
    obtain ⟨_,_,_,p⟩:=(show ObjOk X.prog X.w H s.heap a (.tup xs) from I.hok a _ ea)
    obtain ⟨o,h1,h2,_⟩:=p
    exact PySem.W.kia_one PySem.W.kitx_tuple I.kIn ⟨o,h1,h2⟩ e (fun z=>nomatch z) h
  | @dK a kvs ea =>
    cases (show u = Value.ref a from rx)
    obtain ⟨_,_,vs,_,p⟩:=(show ObjOk X.prog X.w H s.heap a (.dK kvs) from I.hok a _ ea)
    obtain ⟨o,es,ep,h1,h2,_⟩:=p
    exact PySem.W.kia_one PySem.W.kitx_dict I.kIn ⟨o,h1,h2.1⟩ e (fun z=>nomatch z) h
  | @dT a kvs ea =>
    cases (show u = Value.ref a from rx)
    obtain ⟨_,_,xs,_,o,es,ep,h1,h2,_⟩:=(show ObjOk X.prog X.w H s.heap a (.dT kvs) from I.hok a _ ea)
    exact PySem.W.kia_one PySem.W.kitx_dict I.kIn ⟨o,h1,h2.1⟩ e (fun z=>nomatch z) h
  | @ins a C dx fs ea cl ha hn htk hm =>
    cases (show u = Value.ref a from rx)
    obtain ⟨mA,O,_⟩:=ins_get I.hok ea
    obtain ⟨od,J,_⟩:=O.look
    exact PySem.W.kia_one (PySem.W.kitx_own (cl.get _) cl.hd ha hn htk hm) I.kIn J e (fun z=>nomatch z) h
end
end L2
namespace L2
open PySem PySem.Spec PyProof.Rows
structure Room (k:Nat) (A:Around) : Prop where
  hd:A.handled = none
  dp:A.depth + 3 * k + 5 < recursionLimit
  un:A.units + 16 * k + 200 < cLine
  gs:A.guards = some []
theorem Room.mono {j k:Nat} {A:Around} (r:Room k A) (h:j ≤ k) : Room j A:=⟨r.hd,by have:=r.dp; lia,by have:=r.un; lia,r.gs⟩
theorem Room.deeper {k:Nat} {A:Around} (r:Room (k + 1) A) (env:Env) : Room k (A.deeper env):=
  ⟨r.hd,by have:=r.dp; show A.depth + 1 + 3 * k + 5 < _; lia,by have:=r.un; show A.units + 3 + 16 * k + 200 < _; lia,r.gs⟩
theorem Room.depth {k:Nat} {A:Around} (r:Room k A) : A.depth < recursionLimit:=by have:=r.dp; lia
theorem Room.units {k:Nat} {A:Around} (r:Room k A) : A.units + 64 < cLine:=by have:=r.un; lia
noncomputable def tNil:TA:=fun _ H Q=>Q [] H
noncomputable def tCons (ta:TE) (tr:TA) : TA:=fun σ H Q=>ta σ H fun x H1=>tr σ H1 fun xs H2=>Q (x :: xs) H2
section
variable {X:Cx} {e:Expr} {es:List Expr} {te:TE} {t:TA} {pos:Pos}
theorem pa_nil:PA X [] tNil:=fun _ _ _ _ H Q I h=>Calls.spliced_nil ⟨[],H,I,.nil,h⟩
theorem pa_cons (ha:PE X e te) (hr:PA X es t) (hs:starEach (e :: es) X.env = (false,eval e X.env) :: starEach es X.env:=by rfl) : PA X (e :: es) (tCons te t):=by
  intro pos pins s σ H Q I h
  rw [hs]
  show wpAny _ _ (spliced ((false,eval e X.env) :: backTo pos (starEach es X.env))) _ _ s
  refine Calls.spliced_cons (thn (ha pins s σ H _ I h) fun u s1 ⟨x,H1,I1,r1,q1⟩=>?_)
  exact thn (hr pos pins s1 σ H1 _ I1 q1) fun us s2 ⟨xs,H2,I2,r2,q2⟩=>⟨x :: xs,H2,I2,.cons r1 r2,q2⟩
noncomputable def tTup (t:TA) : TE:=fun σ H Q=>t σ H fun xs H1=>xs.length ≤ sizeLine∧∀ p,H1 p = none→Q (.ref p) (upd H1 p (.tup xs))
noncomputable def tLst (t:TA) : TE:=fun σ H Q=>t σ H fun xs H1=>xs.length ≤ sizeLine∧∀ p,H1 p = none→Q (.ref p) (upd H1 p (.lst xs))
theorem pe_tup {x1} (h:PA X es t) : PE X (.Tuple es x1 pos) (tTup t):=by
  intro pins s σ H Q I hq
  refine wpAny_Tuple_spliced (thn (h pos pins s σ H _ I hq) fun us s1 ⟨xs,H1,I1,r,z,q⟩=>⟨by rw [← r.length]; exact z,?_⟩)
  have hf:H1 s1.heap.objs.size = none:=I1.hok.fresh (Nat.le_refl _)
  refine ⟨.ref s1.heap.objs.size,upd H1 s1.heap.objs.size (.tup xs),I1.laid (t':=s1.toks) (fun b u e=>Heap.get?_push_of_some _ e) (Nat.le_refl _) ?_,rfl,q _ hf⟩
  exact ⟨z,us,r,⟨_,Heap.get?_push_size _ rfl,rfl,_,rfl⟩⟩
theorem pe_lst (h:PA X es t) : PE X (.List es pos) (tLst t):=by
  intro pins s σ H Q I hq
  refine wpAny_List_spliced (thn (h pos pins s σ H _ I hq) fun us s1 ⟨xs,H1,I1,r,z,q⟩=>⟨by rw [← r.length]; exact z,?_⟩)
  have hf:H1 s1.heap.objs.size = none:=I1.hok.fresh (Nat.le_refl _)
  refine ⟨.ref s1.heap.objs.size,upd H1 s1.heap.objs.size (.lst xs),I1.laid (t':=s1.toks) (fun b u e=>Heap.get?_push_of_some _ e) (Nat.le_refl _) ?_,rfl,q _ hf⟩
  exact ⟨z,us,0,r,Heap.get?_push_size _ rfl⟩
end
noncomputable abbrev Sp:=List V→Hp→VK→XK→Prop
noncomputable abbrev CXT:=List Env→Hp→Shared→XK→Value→Shared→Prop
structure Env0 (P:Program) (w:World) (K:PySem.W.Frag) (mg:Str→Option Value) (base:Heap) (A:Around) (outer:List Env) (s:Shared) (H:Hp) : Prop where
  frames:A.frames = some outer
  mod:Mod K mg base
  bs:∀ b o,base.get? b = some o→s.heap.get? b = some o∧H b = none
  bsz:base.objs.size ≤ s.heap.objs.size
  funs:s.heap.FunFrames base outer
  frf:∀ b ∈ frs outer,H b = none
  hok:HOk P w H s.heap
  bare:AllBare s.gens
noncomputable def CE (outer:List Env) (P:Program) (w:World) (H:Hp) (s:Shared) (Q:VK) (u:Value) (s':Shared) : Prop:=
  ∃ v H',s'.os = s.os∧AllBare s'.gens∧Un (frs outer) [] H H' s.heap s'.heap∧HOk P w H' s'.heap∧RelV v u∧Q v H'
noncomputable def CR (CX:CXT) (outer:List Env) (P:Program) (w:World) (H:Hp) (s:Shared) (Q:VK) (E:XK) (r:Result) (s':Shared) : Prop:=
  match r with
  | .ok (.ret u)=>CE outer P w H s Q u s'
  | .ok _=>False
  | .error e=>CX outer H s E e s'
structure FnOk (P:Program) (w:World) (K:PySem.W.Frag) (mg:Str→Option Value) (base:Heap) (CX:CXT) (k:Nat) (f:Addr) (fd:FuncData) (ps:List Str) (sp:Sp) : Prop where
  len:∀ vs H Q E,sp vs H Q E→vs.length = ps.length
  run:∀ (A:Around) (outer:List Env) (s:Shared) (H:Hp) (args:Args) (us:List Value) (vs:List V) (Q:VK) (E:XK),Room k A→Env0 P w K mg base A outer s H→BindsTo s fd args (ps.zip us)→Vals vs us→sp vs H Q E →
    codeAny (model P w) A (.call (.ref f) args) (CR CX outer P w H s Q E) s
theorem FnOk.imp {P:Program} {w:World} {K:PySem.W.Frag} {mg:Str→Option Value} {base:Heap} {CX:CXT} {k:Nat} {f:Addr} {fd:FuncData} {ps:List Str} {sp sp':Sp} (F:FnOk P w K mg base CX k f fd ps sp)
    (h:∀ vs H Q E,sp' vs H Q E→sp vs H Q E) : FnOk P w K mg base CX k f fd ps sp':=
  ⟨fun vs H Q E q=>F.len vs H Q E (h _ _ _ _ q),fun A outer s H args us vs Q E hr he hb hv hs=>F.run A outer s H args us vs Q E hr he hb hv (h _ _ _ _ hs)⟩
section
variable {X:Cx} {pins:List (Addr × Obj)} {σ:St} {H:Hp} {s s':Shared}
theorem Inv.env0 (I:Inv X pins σ H s) : Env0 X.prog X.w X.K X.mg X.base X.A X.stack s H:=
  ⟨I.ok.frames,I.ok.mod,I.bs,Nat.le_trans I.ok.bsz I.sz,I.stack,I.stkFree,I.hok,I.bare⟩
theorem Inv.after {Q:VK} {u:Value} (I:Inv X pins σ H s) (h:CE X.stack X.prog X.w H s Q u s') : EP X pins σ Q u s':=by
  obtain ⟨v,H',os,bare,un,hok,r,q⟩:=h
  obtain ⟨hh,g,d,t,os'⟩:=s'
  obtain rfl:os' = s.os:=os
  exact ⟨v,H',I.call (h':=hh) (g':=g) (d':=d) (t':=t) (ch:=[]) un hok bare (fun b z=>absurd z (by simp)),r,q⟩
end
noncomputable def tCall (sp:Sp) (dvs:List V) (E:XK) (t:TA) : TE:=fun σ H Q=>t σ H fun vs H1=>sp (vs ++ dvs) H1 Q E
noncomputable def Binds (K:PySem.W.Frag) (fd:FuncData) (ps:List Str) (ds:List Value) : Prop:=
  ∀ (s:Shared) (us:List Value),K.In s.heap→(us ++ ds).length = ps.length→BindsTo s fd ⟨us,[]⟩ (ps.zip (us ++ ds))
theorem Binds.all {K:PySem.W.Frag} {fd:FuncData} {ps:List Str} (h:∀ us:List Value,us.length = ps.length→bindArgs fd ⟨us,[]⟩ = pure (ps.zip us)) : Binds K fd ps []:=fun s us _ hl=>by
  rw [List.append_nil] at hl ⊢
  exact .of_eq (h us hl)
noncomputable def Passes (CX:CXT) (X:Cx) (E:XK) : Prop:=∀ (pins:List (Addr × Obj)) (σ:St) (H:Hp) (s:Shared) (e:Value) (s':Shared),Inv X pins σ H s→CX X.stack H s E e s'→X.xe e s'
section
variable {X:Cx} {CX:CXT} {k:Nat} {f C:Addr} {fd:FuncData} {ps:List Str} {sp:Sp} {dvs:List V} {ds:List Value} {E:XK} {x m:Str} {p pos apos:Pos} {e o:Expr} {es:List Expr} {ta:TE} {t:TA}
theorem run_fn {pins:List (Addr × Obj)} {σ:St} {H:Hp} {s:Shared} {Q:VK} {us:List Value} {vs:List V} (F:FnOk X.prog X.w X.K X.mg X.base CX k f fd ps sp) (hr:Room k X.A) (hb:Binds X.K fd ps ds) (hd:Vals dvs ds) (hx:Passes CX X E)
    (I:Inv X pins σ H s) (r:Vals vs us) (h:sp (vs ++ dvs) H Q E) : wpAny (model X.prog X.w) X.A (call (.ref f) us) (EP X pins σ Q) X.xe s:=by
  have r2:Vals (vs ++ dvs) (us ++ ds):=r.append hd
  have hl:(us ++ ds).length = ps.length:=by rw [← r2.length]; exact F.len _ _ _ _ h
  refine wpAny_call (codeAny_mono (F.run X.A X.stack s H ⟨us,[]⟩ (us ++ ds) (vs ++ dvs) Q E hr I.env0 (hb s us I.kIn hl) r2 h) fun r s' hq=>?_)
  cases r with
  | error e=>exact hx pins σ H s e s' I hq
  | ok fl =>
    cases fl with
    | ret u=>exact I.after hq
    | next=>exact False.elim hq
    | brk=>exact False.elim hq
    | cont=>exact False.elim hq
theorem pe_call (F:FnOk X.prog X.w X.K X.mg X.base CX k f fd ps sp) (hr:Room k X.A) (hg:Gl X x) (hm:X.mg x = some (.ref f)) (hk:PySem.W.keepIn X.K (.ref f) = true) (hb:Binds X.K fd ps ds) (hd:Vals dvs ds) (hx:Passes CX X E)
    (ha:PA X (e :: es) t) (hdb:(x == ("__debug__" : Str)) = false:=by decide) (he:starEach (e :: es) X.env = (false,eval e X.env) :: starEach es X.env:=by rfl) (hpl:(backTo pos (starEach es X.env)).any (·.1) = false:=by rfl) :
    PE X (.Call (.Name x p) (e :: es) [] pos) (tCall sp dvs E t):=by
  intro pins s σ H Q I h
  refine wpAny_Call_Name_kw (ld_glob I hg hm ?_ hdb)
  refine PySem.W.callWith_K (h₀:=X.base) I.ok.mod.kin hk (thn (ha pos pins s σ H _ I h) fun us s1 ⟨vs,H1,I1,r,q⟩=>⟨I1.kIn,?_⟩) he hpl
  exact run_fn F hr hb hd hx I1 r q
structure Mk (K:PySem.W.Frag) (C f:Addr) : Prop where
  makes:PySem.W.makesIn K C = true
  init:PySem.W.findIn K (.ref C) "__init__" = some (some (.ref f))
  fn:PySem.W.isFn K (.ref f) = true
  kp:PySem.W.keepIn K (.ref C) = true
end
noncomputable def PK (X:Cx) (kws:List Keyword) (t:TA) : Prop:=
  ∀ (pos:Pos) (pins:List (Addr × Obj)) (s:Shared) (σ:St) (H:Hp) (Q:List V→Hp→Prop),Inv X pins σ H s→t σ H Q→wpAny (model X.prog X.w) X.A (evalAll ((backToKw pos (keywordEach kws X.env)).map (·.2))) (AP X pins σ Q) X.xe s
section
variable {X:Cx} {CX:CXT} {k:Nat} {f C:Addr} {fd:FuncData} {ps ks:List Str} {sp:Sp} {E:XK} {x m:Str} {p pos apos kpos:Pos} {e o:Expr} {es:List Expr} {kws:List Keyword} {te ta:TE} {t tk:TA} {nm:Option Str}
theorem pk_nil:PK X [] tNil:=fun _ _ _ _ H Q I h=>wpAny_evalAll_nil ⟨[],H,I,.nil,h⟩
theorem pk_cons (ha:PE X e te) (hr:PK X kws t) : PK X (⟨nm,e,kpos⟩ :: kws) (tCons te t):=by
  intro pos pins s σ H Q I h
  show wpAny _ _ (evalAll ((do let v ← eval e X.env; standAt pos; pure v) :: (backToKw pos (keywordEach kws X.env)).map (·.2))) _ _ s
  refine wpAny_evalAll_cons (wpAny_bind (thn (ha pins s σ H _ I h) fun u s1 ⟨x,H1,I1,r1,q1⟩=>wpAny_bind (wpAny_standAt (wpAny_pure ?_))))
  exact thn (hr pos pins s1 σ H1 _ I1 q1) fun us s2 ⟨xs,H2,I2,r2,q2⟩=>⟨x :: xs,H2,I2,.cons r1 r2,q2⟩
structure KBinds (K:PySem.W.Frag) (fd:FuncData) (ps ks:List Str) (g:List Value→List Value→List Value) (gV:List V→List V→List V) : Prop where
  to:∀ (s:Shared) (us ws:List Value),K.In s.heap→(g us ws).length = ps.length→BindsTo s fd ⟨us,ks.zip ws⟩ (ps.zip (g us ws))
  rel:∀ {vs:List V} {us:List Value} {zs:List V} {ws:List Value},Vals vs us→Vals zs ws→Vals (gV vs zs) (g us ws)
variable {g:List Value→List Value→List Value} {gV:List V→List V→List V}
end
structure FnScope (N P:List Str) (sc:Scope) : Prop where
  kind:sc.kind = .function
  co:sc.isCoroutine = false
  gen:sc.isGenerator = false
  nd:N.Nodup
  pre:N.take P.length = P
  par:∀ x ∈ P,sc.names.lookup x = some .local ∨ sc.names.lookup x = some .cell
  nofree:∀ y ∈ sc.names,y.2 ≠ .free
theorem bindL_out {kindOf:Str→Option NameKind} {x:Str} : ∀ {binds:List (Str × Value)} {m:Str→Option Value},(∀ v,(x,v) ∉ binds)→bindL kindOf binds m x = m x
  | [],_,_=>rfl
  | (n,v) :: r,m,h=>by
    unfold bindL
    rw [bindL_out fun w hw=>h w (List.mem_cons_of_mem _ hw)]
    split
    · have : x ≠ n := by rintro rfl; exact h v List.mem_cons_self
      simp [this]
    · rfl
theorem bindC_out {kindOf:Str→Option NameKind} {x:Str} : ∀ {binds:List (Str × Value)} {m:Str→Option Value},(∀ v,(x,v) ∉ binds)→bindC kindOf binds m x = m x
  | [],_,_=>rfl
  | (n,v) :: r,m,h=>by
    unfold bindC
    rw [bindC_out fun w hw=>h w (List.mem_cons_of_mem _ hw)]
    split
    · rfl
    · have : x ≠ n := by rintro rfl; exact h v List.mem_cons_self
      simp [this]
theorem bindL_get {kindOf:Str→Option NameKind} {x:Str} {v:Value} : ∀ {P:List Str} {vs:List Value} {i:Nat} {m:Str→Option Value},P.Nodup→P[i]? = some x→vs[i]? = some v→kindOf x = some .local →
    bindL kindOf (P.zip vs) m x = some v
  | [],_,_,_,_,h,_,_=>by simp at h
  | _ :: _,[],_,_,_,_,h,_=>by simp at h
  | p :: P,w :: vs,0,m,nd,h1,h2,hk=>by
    simp at h1 h2; subst h1; subst h2
    show bindL kindOf ((p,w) :: P.zip vs) m p = _
    unfold bindL
    rw [bindL_out fun v hv=>(List.nodup_cons.mp nd).1 (List.of_mem_zip hv).1,if_pos hk]
    simp
  | p :: P,w :: vs,i + 1,m,nd,h1,h2,hk=>by
    show bindL kindOf ((p,w) :: P.zip vs) m x = _
    unfold bindL
    exact bindL_get (i:=i) (List.nodup_cons.mp nd).2 (by simpa using h1) (by simpa using h2) hk
theorem bindC_get {kindOf:Str→Option NameKind} {x:Str} {v:Value} : ∀ {P:List Str} {vs:List Value} {i:Nat} {m:Str→Option Value},P.Nodup→P[i]? = some x→vs[i]? = some v→kindOf x ≠ some .local →
    bindC kindOf (P.zip vs) m x = some v
  | [],_,_,_,_,h,_,_=>by simp at h
  | _ :: _,[],_,_,_,_,h,_=>by simp at h
  | p :: P,w :: vs,0,m,nd,h1,h2,hk=>by
    simp at h1 h2; subst h1; subst h2
    show bindC kindOf ((p,w) :: P.zip vs) m p = _
    unfold bindC
    rw [bindC_out fun v hv=>(List.nodup_cons.mp nd).1 (List.of_mem_zip hv).1,if_neg hk]
    simp
  | p :: P,w :: vs,i + 1,m,nd,h1,h2,hk=>by
    show bindC kindOf ((p,w) :: P.zip vs) m x = _
    unfold bindC
    exact bindC_get (i:=i) (List.nodup_cons.mp nd).2 (by simpa using h1) (by simpa using h2) hk
noncomputable def start (N:List Str) (vs:List V) : St:=vs.map some ++ List.replicate (N.length - vs.length) none
noncomputable def cxOf (CX:CXT) (P:Program) (w:World) (K:PySem.W.Frag) (mg:Str→Option Value) (base:Heap) (N:List Str) (qual:Str) (scope:Scope) (f:Addr) (cd:Value) (A:Around) (outer:List Env) (s:Shared) (H:Hp) (E:XK) : Cx where
  prog:=P
  w:=w
  K:=K
  mg:=mg
  base:=base
  A:=A.deeper (envOfC qual scope s.heap.objs.size f cd)
  N:=N
  s₀:=s
  H₀:=H
  env:=envOfC qual scope s.heap.objs.size f cd
  outer:=outer
  stack:=envOfC qual scope s.heap.objs.size f cd :: outer
  ex:=[]
  calm:=true
  fn:=fun _=>true
  pn:=[]
  xe:=fun e s'=>wpAny (model P w) (A.deeper (envOfC qual scope s.heap.objs.size f cd)) (leaving (envOfC qual scope s.heap.objs.size f cd) e) (fun _ s''=>CX outer H s E e s'') (fun e' s''=>CX outer H s E e' s'') s'
theorem cell_has {sc:Scope} {n:Nat} {x:Str} (h:sc.names.lookup x = some .cell) : ∃ c,(cellsFrom n sc.names []).lookup x = some c:=by
  have q:=PySem.W.cellsFrom_some sc.names n [] (.inl h)
  exact Option.isSome_iff_exists.mp q
theorem inv_start {CX:CXT} {P:Program} {w:World} {K:PySem.W.Frag} {mg:Str→Option Value} {base:Heap} {N ps:List Str} {qual:Str} {scope:Scope} {f:Addr} {cd:Value} {A:Around} {outer:List Env} {s s1:Shared} {H:Hp} {E:XK} {us:List Value} {vs:List V}
    (S:FnScope N ps scope) (hd:A.handled = none) (e0:Env0 P w K mg base A outer s H) (hl:vs.length = ps.length) (r:Vals vs us)
    (x:InCallC s s.heap.objs.size (bindL (envOfC qual scope s.heap.objs.size f cd).kindOf (ps.zip us) fun _=>none) (cellsFrom (s.heap.objs.size + 1) scope.names []) (bindC (envOfC qual scope s.heap.objs.size f cd).kindOf (ps.zip us) fun _=>none) s1) :
    Inv (cxOf CX P w K mg base N qual scope f cd A outer s H E) [] (start N vs) H s1:=by
  have hpl:ps.length ≤ N.length:=by have:=congrArg List.length S.pre; rw [List.length_take] at this; lia
  obtain ⟨h1,tk,rfl,hk⟩:=x.done
  have noA:∀ b:Addr,b ∉ (cxOf CX P w K mg base N qual scope f cd A outer s H E).ex:=fun b z=>absurd (show b ∈ ([] : List Addr) from z) (by simp)
  refine ⟨⟨e0.mod,S.kind,rfl,rfl,Nat.le_refl _,fun y z c h1 h2=>?_,fun y hy=>?_,fun y c _ h=>?_,fun _=>hd,Around.frames_deeper e0.frames,.inr ⟨rfl,rfl⟩,fun b z=>absurd z (noA b),e0.bs,e0.bsz,fun b _ _=>noA b,fun b z=>absurd z (noA b),e0.funs,e0.frf⟩,
    rfl,e0.bare,Un.kept hk,⟨_,x.toInCall.ns,fun i y v h1 h2 h3=>?_⟩,fun y c h=>⟨_,x.cell y c h⟩,e0.hok.fresh (Nat.le_refl _),fun y c h=>?_,fun p hp=>absurd (show p ∈ ([] : List (Addr × Obj)) from hp) (by simp),e0.hok.kept hk,?_⟩
  · exact name_of_addr x.apart (PySem.mem_of_lookup h1) (PySem.mem_of_lookup h2)
  · have hy:scope.names.lookup y = some .cell ∨ scope.names.lookup y = some .free:=hy
    rcases hy with hy | hy
    · exact cell_has hy
    · exact absurd rfl (S.nofree _ (PySem.mem_of_lookup hy))
  · exact Nat.le_of_lt (x.above y c (PySem.mem_of_lookup h))
  · have hi:i < vs.length:=by
      unfold start at h2
      by_cases hi:i < vs.length
      · exact hi
      · rw [List.getElem?_append_right (by simpa using hi)] at h2
        rw [List.getElem?_replicate] at h2
        split at h2 <;> cases h2
    have ha:vs[i]? = some v:=by
      unfold start at h2
      rw [List.getElem?_append_left (by simpa using hi),List.getElem?_map] at h2
      cases e:vs[i]? with
      | none=>rw [e] at h2; cases h2
      | some a=>rw [e] at h2; cases h2; rfl
    obtain ⟨u,hu,rv⟩:=r.get ha
    have hp:ps[i]? = some y:=by
      rw [← S.pre,List.getElem?_take_of_lt (by lia)]; exact h1
    have ndP:ps.Nodup:=by rw [← S.pre]; exact S.nd.sublist (List.take_sublist _ _)
    refine ⟨u,rv,?_⟩
    rcases S.par y (List.mem_of_getElem? hp) with k | k
    · exact .inl ⟨k,bindL_get ndP hp hu k⟩
    · obtain ⟨c,e⟩:=cell_has (n:=s.heap.objs.size + 1) k
      refine .inr ⟨.inl k,c,e,?_⟩
      have q:=x.cell y c e
      rw [bindC_get ndP hp hu (by show scope.names.lookup y ≠ _; rw [k]; decide)] at q
      exact q
  · exact e0.hok.fresh (Nat.le_of_lt (x.above y c (PySem.mem_of_lookup h)))
  · unfold start
    show _ = N.length
    rw [List.length_append,List.length_map,List.length_replicate]
    lia
theorem fn_of {CX:CXT} {P:Program} {w:World} {K:PySem.W.Frag} {mg:Str→Option Value} {base:Heap} {k:Nat} {f:Addr} {name qual:Str} {params:Arguments} {body:List Stmt} {scope:Scope} {dV kV doc pm cdv ct oc:Value} {an od:Option Addr}
    {osl:Array (Option Value)} {N ps:List Str} {sp:Sp} (lk:K.lookup f = some ⟨oc,od,.func (PySem.W.fnOf name qual params body scope dV kV doc pm an cdv ct),osl⟩) (hcd:PySem.W.codeIn K cdv qual = true) (S:FnScope N ps scope)
    (len:∀ vs H Q E,sp vs H Q E→vs.length = ps.length)
    (hbody:∀ (A:Around) (outer:List Env) (s:Shared) (H:Hp) (vs:List V) (Q:VK) (E:XK),Room k (A.deeper (envOfC qual scope s.heap.objs.size f cdv))→sp vs H Q E →
      ∃ t,PSs (cxOf CX P w K mg base N qual scope f cdv A outer s H E) body t∧t { nx:=fun _ H'=>Q .non H',rt:=Q } (start N vs) H) :
    FnOk P w K mg base CX (k + 1) f (PySem.W.fnOf name qual params body scope dV kV doc pm an cdv ct) ps sp:=by
  refine ⟨len,fun A outer s H args us vs Q E hr e0 hb r hsp=>?_⟩
  have hl:=len _ _ _ _ hsp
  have KX:K.In s.heap:=e0.mod.kin.keeps fun b o e=>(e0.bs b o e).1
  have lim:s.heap.NoLimit:=e0.mod.nolimit.keeps fun b o e=>(e0.bs b o e).1
  have hkind:∀ y ∈ ps.zip us,scope.names.lookup y.1 = some .local ∨ (scope.names.lookup y.1 = some .cell∧((cellsFrom (s.heap.objs.size + 1) scope.names []).lookup y.1).isSome = true):=fun ⟨n,v⟩ hy=>by
    rcases S.par n (List.of_mem_zip hy).1 with q | q
    · exact .inl q
    · exact .inr ⟨q,PySem.W.cellsFrom_some _ _ _ (.inl q)⟩
  refine codeAny_call_function hr.depth (KX _ _ lk) rfl S.co S.gen rfl (PySem.W.codeRec_of KX hcd) (hb _ _ _ _ ?_)
  refine wpAny_newFunctionEnv_cells S.kind hkind fun env he s1 x=>?_
  subst he
  refine ⟨lim.keeps x.toInCall.keep,codeAny_func ?_⟩
  obtain ⟨t,ht,hq⟩:=hbody A outer s H vs Q E (hr.deeper _) hsp
  have I:Inv (cxOf CX P w K mg base N qual scope f cdv A outer s H E) [] (start N vs) H s1:=inv_start S hr.hd e0 hl r x
  refine wpAny_mono (ht [] s1 (start N vs) H _ I hq) (fun fl s' hs=>?_) fun e s' hs=>hs
  have fin:∀ {σ':St} {H':Hp} {v:V} {u:Value},Inv (cxOf CX P w K mg base N qual scope f cdv A outer s H E) [] σ' H' s'→RelV v u→Q v H'→CE outer P w H s Q u s':=
    fun {σ' H' v u} J rv q=>⟨v,H',J.os,J.bare,J.base,J.hok,rv,q⟩
  cases fl with
  | ret u =>
    obtain ⟨v,σ',H',J,rv,q⟩:=hs
    exact fin J rv q
  | next =>
    obtain ⟨σ',H',J,q⟩:=hs
    exact fin (v:=V.non) (u:=Value.none) J rfl q
  | brk =>
    obtain ⟨_,_,_,q⟩:=hs
    exact False.elim q
  | cont =>
    obtain ⟨_,_,_,q⟩:=hs
    exact False.elim q
end L2
namespace L2
open PySem PySem.Spec PyProof.Rows
section
variable {X:Cx} {x:Str} {p pos:Pos} {e:Expr} {es:List Expr} {t:TA} {id T:String} {r:List V→Hp→VK→Prop}
noncomputable def tCB (r:List V→Hp→VK→Prop) (t:TA) : TE:=fun σ H Q=>t σ H fun vs H1=>r vs H1 Q
theorem pe_callB (hc:CallR X (.builtin id) r) (hg:Gl X x) (hm:X.mg x = none) (hv:bootBuiltins x = some (.builtin id)) (ha:PA X (e :: es) t) (hn:x ≠ "__name__":=by decide) (hdb:(x == ("__debug__" : Str)) = false:=by decide)
    (he:starEach (e :: es) X.env = (false,eval e X.env) :: starEach es X.env:=by rfl) (hpl:(backTo pos (starEach es X.env)).any (·.1) = false:=by rfl) : PE X (.Call (.Name x p) (e :: es) [] pos) (tCB r t):=by
  intro pins s σ H Q I h
  refine wpAny_Call_Name_kw (ld_blt I hg hm hv ?_ hn hdb)
  exact PyProof.Rows.callWith_builtin1 (thn (ha pos pins s σ H _ I h) fun us s1 ⟨vs,H1,I1,r1,q1⟩=>hc pins s1 σ H1 vs us Q I1 r1 q1) he hpl
theorem pe_callTy (hc:CallR X (.type T) r) (hg:Gl X x) (hm:X.mg x = none) (hv:bootBuiltins x = some (.type T)) (ha:PA X (e :: es) t) (hn:x ≠ "__name__":=by decide) (hdb:(x == ("__debug__" : Str)) = false:=by decide)
    (he:starEach (e :: es) X.env = (false,eval e X.env) :: starEach es X.env:=by rfl) (hpl:(backTo pos (starEach es X.env)).any (·.1) = false:=by rfl) : PE X (.Call (.Name x p) (e :: es) [] pos) (tCB r t):=by
  intro pins s σ H Q I h
  refine wpAny_Call_Name_kw (ld_blt I hg hm hv ?_ hn hdb)
  exact PyProof.Rows.callWith_type1 (thn (ha pos pins s σ H _ I h) fun us s1 ⟨vs,H1,I1,r1,q1⟩=>hc pins s1 σ H1 vs us Q I1 r1 q1) he hpl
end
end L2
namespace HT
open PySem PyProof.Rows
section
open PySem.SeqAt
open PySem.AutoSeq1 (wpAny_loadPart')
open PySem.MeetsSeq PySem.MeetsSeq2 PySem.MeetsSeq3
end
section
variable {prog:Program} {w:World} {A:Around} {E:Value→Shared→Prop} {s:Shared}
theorem cat_tup {t b:Addr} {vs ws:List Value} {Q:Value→Shared→Prop} (ht:IsTup s.heap t vs.toArray) (hb:IsTup s.heap b ws.toArray) (hv:vs ≠ [])
    (h1:ws = []→Q (.ref t) s) (h2:ws ≠ []→Q (.ref s.heap.objs.size) { s with heap:=s.heap.push { cls:=.type "tuple",data:=.seq (vs ++ ws).toArray } })
    (hsz:vs.length + ws.length ≤ sizeLine) : wpAny (model prog w) A (binaryOp .Add (.ref t) (.ref b)) Q E s:=by
  obtain ⟨⟨cls,dd,data,sl⟩,ho,hc,n,hd⟩:=id ht
  obtain ⟨⟨cls2,dd2,data2,sl2⟩,ho2,hc2,n2,hd2⟩:=id hb
  simp only at hc hd hc2 hd2
  subst hc hd hc2 hd2
  have e:vs.toArray ++ ws.toArray = (vs ++ ws).toArray:=by simp
  by_cases hw:ws = []
  · exact concat_meets ⟨_,ho,rfl⟩ ⟨_,ho2,rfl⟩ noFill_tuple_add seq_tuple_add PySem.F.slot_tuple_add PySem.F.entry_tuple_add (PySem.F.args_tuple_add_2 _ _)
      (tuple_addW1 t b vs.toArray ws.toArray n n2 dd dd2 sl sl2 (by simpa using hv) (by simp [hw])) ⟨ho,ho2,h1 hw⟩
  · refine concat_meets ⟨_,ho,rfl⟩ ⟨_,ho2,rfl⟩ noFill_tuple_add seq_tuple_add PySem.F.slot_tuple_add PySem.F.entry_tuple_add (PySem.F.args_tuple_add_2 _ _)
      (tuple_addW2 t b vs.toArray ws.toArray n n2 dd dd2 sl sl2 (by simpa using hv) (by simpa using hw) (by rw [List.size_toArray,List.size_toArray]; exact hsz)) ⟨ho,ho2,?_⟩
    rw [e]
    exact h2 hw
noncomputable def sIx (n d:Nat) : Option Int→Nat
  | none=>d
  | some v=>if v < 0 then (v + (n:Int)).toNat else min v.toNat n
theorem sIx_none (n d:Nat) : sIx n d none = d:=rfl
theorem sIx_nat (n d k:Nat) : sIx n d (some (k:Int)) = min k n:=by
  show (if (k:Int) < 0 then ((k:Int) + (n:Int)).toNat else min (k:Int).toNat n) = min k n
  rw [if_neg (by lia),Int.toNat_natCast]
theorem sIx_le (n d:Nat) (hd:d ≤ n) (o:Option Int) : sIx n d o ≤ n:=by
  cases o with
  | none=>exact hd
  | some v =>
    show (if v < 0 then (v + (n:Int)).toNat else min v.toNat n) ≤ n
    by_cases hv:v < 0
    · rw [if_pos hv]; lia
    · rw [if_neg hv]; exact Nat.min_le_right _ _
theorem clip_eq (v:Int) (n d:Nat) : (if v < 0 then max (v + (n:Int)) 0 else min v (n:Int)) = ((sIx n d (some v) : Nat) : Int):=by
  show (if v < 0 then max (v + (n:Int)) 0 else min v (n:Int)) = (((if v < 0 then (v + (n:Int)).toNat else min v.toNat n) : Nat) : Int)
  by_cases hv:v < 0
  · simp only [if_pos hv]; lia
  · simp only [if_neg hv]; lia
theorem adjust_gen (lo hi:Option Int) (n:Nat) : Builtin.Slice.sliceAdjust lo hi 1 (n:Int) = (((sIx n 0 lo:Nat) : Int),((sIx n n hi:Nat) : Int)):=by
  have h1:¬ ((1:Int) < 0):=by lia
  unfold Builtin.Slice.sliceAdjust
  simp only [h1,if_false]
  refine Prod.ext ?_ ?_
  · cases lo with
    | none=>rfl
    | some v=>exact clip_eq v n 0
  · cases hi with
    | none=>rfl
    | some v=>exact clip_eq v n n
theorem places_gen (i j:Nat) : Builtin.Slice.slicePlaces (i:Int) (j:Int) 1 = j - i:=by
  unfold Builtin.Slice.slicePlaces
  have h1:(1:Int) > 0:=by lia
  simp only [h1,if_true,Int.ediv_one]
  split <;> lia
theorem slicePart_ {v:Value} {o:Option Int} {Q:Option Int→Shared→Prop} (p:IsPart v o) (h:Q o s) : wpAny (model prog w) A (Builtin.Slice.slicePartIndex v) Q E s:=by
  cases p with
  | none=>exact slicePart_none h
  | int i t=>exact slicePart_int h
theorem sliceApplied_gen {sl:Addr} {vl vu:Value} {lo hi:Option Int} {n:Nat} {Q:Int × Int × Nat→Shared→Prop} (hs:s.heap.IsSliceOf sl vl vu .none) (pl:IsPart vl lo) (pu:IsPart vu hi)
    (h:Q (((sIx n 0 lo:Nat) : Int),1,sIx n n hi - sIx n 0 lo) s) : wpAny (model prog w) A (Builtin.Slice.sliceApplied (.ref sl) (pure (n:Int))) Q E s:=by
  obtain ⟨os,hos,hcs,hds⟩:=id hs
  unfold Builtin.Slice.sliceApplied Builtin.Slice.sliceFields
  refine wpAny_bind (wpAny_bind (wpAny_field hos hds (x:=vl) rfl (wpAny_bind (wpAny_field hos hds (x:=vu) rfl (wpAny_bind (wpAny_field hos hds (x:=.none) rfl (wpAny_pure ?_)))))))
  refine wpAny_bind (slicePart_none ?_)
  show wpAny _ _ (if ((1:Int) == 0) = true then _ else _) _ _ s
  rw [if_neg (by decide)]
  refine wpAny_bind (slicePart_ pl (wpAny_bind (slicePart_ pu (wpAny_bind (wpAny_pure ?_)))))
  show wpAny _ _ (match Builtin.Slice.sliceAdjust lo hi 1 (n:Int) with | (lo,hi)=>pure (lo,(1:Int),Builtin.Slice.slicePlaces lo hi 1)) _ _ s
  rw [adjust_gen lo hi n]
  show wpAny _ _ (pure (((sIx n 0 lo:Nat) : Int),(1:Int),Builtin.Slice.slicePlaces ((sIx n 0 lo:Nat) : Int) ((sIx n n hi:Nat) : Int) 1)) _ _ s
  rw [places_gen]
  exact wpAny_pure h
theorem pick_gen (xs:Array Value) (i k:Nat) : ((List.range k).filterMap fun (m:Nat)=>xs[((i:Int) + (m:Int) * 1).toNat]?).toArray = ((xs.toList.drop i).take k).toArray:=by
  have e:(fun (m:Nat)=>xs[((i:Int) + (m:Int) * 1).toNat]?) = fun m=>xs[i + m]?:=by
    funext m
    have:((i:Int) + (m:Int) * 1).toNat = i + m:=by lia
    rw [this]
  rw [e]
  have:=pick_run xs i k
  rw [List.filterMap_map] at this
  have e2:((fun x=>xs[x]?) ∘ fun x=>i + x) = fun m=>xs[i + m]?:=rfl
  rw [e2] at this
  rw [this]
theorem getItem_tuple_cut {t sl:Addr} {items:Array Value} {vl vu:Value} {lo hi:Option Int} {Q:Value→Shared→Prop} (ht:IsTup s.heap t items) (hs:s.heap.IsSliceOf sl vl vu .none) (pl:IsPart vl lo) (pu:IsPart vu hi)
    (hw:¬ (sIx items.size 0 lo = 0∧sIx items.size items.size hi = items.size))
    (h:Q (.ref s.heap.objs.size) { s with heap:=s.heap.push { cls:=.type "tuple",data:=.seq ((items.toList.drop (sIx items.size 0 lo)).take (sIx items.size items.size hi - sIx items.size 0 lo)).toArray } })
    (hsz:items.size ≤ sizeLine) : wpAny (model prog w) A (getItem (.ref t) (.ref sl)) Q E s:=by
  have htake:sizeOk (.seq ((items.toList.drop (sIx items.size 0 lo)).take (sIx items.size items.size hi - sIx items.size 0 lo)).toArray):=by
    show ((items.toList.drop (sIx items.size 0 lo)).take (sIx items.size items.size hi - sIx items.size 0 lo)).toArray.size ≤ sizeLine
    rw [List.size_toArray,List.length_take,List.length_drop,Array.length_toList]
    lia
  have hj:sIx items.size items.size hi ≤ items.size:=sIx_le _ _ (Nat.le_refl _) hi
  obtain ⟨os,hos,hcs,hds⟩:=id hs
  have hTs:s.TypeIs (.ref sl) "slice":=⟨os,hos,hcs⟩
  unfold getItem
  try with_reducible refine wpAny_holding ?_
  first | refine wpAny_bind (wpAny_pure ?_) | skip
  refine wpAny_bind (wpAny_sequenceKey ht.typeIs (by decide) ?_)
  refine wpAny_bind (wpAny_callSpecial?_slot (name:=Str.ofString "__getitem__") ht.typeIs PyProof.Rows.slot_tuple_getitem
    (wpAny_call_entry PyProof.Rows.slot_tuple_getitem ht.typeIs entry_tuple_getitem ?_ (args_tuple_getitem _ _)))
  show wpAny _ _ (Builtin.Tuple.tupleItemsOf (.ref t) >>= _) _ _ s
  refine wpAny_bind (tupleItemsOf_ ht ?_)
  refine wpAny_bind (wpAny_typeOf hTs ?_)
  rw [if_pos (by decide)]
  refine wpAny_bind (sliceApplied_gen hs pl pu ?_)
  have hno:¬ ((((sIx items.size 0 lo:Nat) : Int) == 0 && (1:Int) == 1 && (sIx items.size items.size hi - sIx items.size 0 lo) == items.size) = true):=by
    intro q
    rw [Bool.and_eq_true,Bool.and_eq_true] at q
    have q1:((sIx items.size 0 lo:Nat) : Int) = 0:=eq_of_beq q.1.1
    have q2:sIx items.size items.size hi - sIx items.size 0 lo = items.size:=eq_of_beq q.2
    exact hw ⟨by lia,by lia⟩
  show wpAny _ _ (if (((sIx items.size 0 lo:Nat) : Int) == 0 && (1:Int) == 1 && (sIx items.size items.size hi - sIx items.size 0 lo) == items.size) = true then _ else _) _ _ s
  rw [if_neg hno,pick_gen]
  first
    | exact wpAny_bind (m:=Builtin.Tuple.tupleExact _) (wpAny_newObj_type (wpAny_pure ⟨_,rfl,wpAny_pure h⟩) htake)
    | exact wpAny_bind (m:=Builtin.Tuple.tupleExact _) (wpAny_newObj_type (wpAny_bind (wpAny_pure (wpAny_pure ⟨_,rfl,wpAny_pure h⟩))) htake)
    | exact wpAny_bind (wpAny_bind (m:=Builtin.Tuple.tupleExact _) (wpAny_newObj_type (wpAny_pure (wpAny_pure ⟨_,rfl,wpAny_pure h⟩)) htake))
    | exact wpAny_bind (wpAny_bind (m:=Builtin.Tuple.tupleExact _) (wpAny_newObj_type (wpAny_pure ⟨_,rfl,wpAny_pure h⟩) htake))
end
end HT
namespace L2
open PySem PySem.Spec PyProof.Rows
noncomputable abbrev TO:=St→Hp→(Option Int→Hp→Prop)→Prop
noncomputable def PO (X:Cx) (e:Option Expr) (t:TO) : Prop:=
  ∀ (pins:List (Addr × Obj)) (s:Shared) (σ:St) (H:Hp) (Q:Option Int→Hp→Prop),Inv X pins σ H s→t σ H Q →
    wpAny (model X.prog X.w) X.A (evalPart e X.env) (fun u s'=>∃ o H',Inv X pins σ H' s'∧IsPart u o∧Q o H') X.xe s
noncomputable def tNoPart:TO:=fun _ H Q=>Q none H
noncomputable def tPart (t:TE) : TO:=fun σ H Q=>t σ H fun x H1=>∃ i,x = .int i∧Q (some i) H1
theorem intsAre_of {ns:List Int} : ∀ {us:List Value},Vals (ns.map V.int) us→IntsAre us ns:=by
  induction ns with
  | nil=>intro us r; rw [List.map_nil] at r; cases r; exact .nil
  | cons n ns ih =>
    intro us r
    rw [List.map_cons] at r
    cases r with
    | cons r1 r2 =>
      obtain ⟨t,e⟩:=r1
      subst e
      exact .cons n t (ih r2)
section
variable {X:Cx} {e:Expr} {te:TE} {lo hi:Option Expr} {tl th:TO} {pos p2:Pos}
theorem po_none:PO X none tNoPart:=by
  intro pins s σ H Q I h
  rw [evalPart_none]
  exact wpAny_pure ⟨none,H,I,.none,h⟩
theorem po_some (h:PE X e te) : PO X (some e) (tPart te):=by
  intro pins s σ H Q I hw
  rw [evalPart_some]
  refine thn (h pins s σ H _ I hw) fun u s1 ⟨x,H1,I1,r1,q1⟩=>?_
  obtain ⟨i,rfl,q⟩:=q1
  obtain ⟨t,rfl⟩:=r1
  exact ⟨some i,H1,I1,.int i t,q⟩
noncomputable def SlR (X:Cx) (r:V→Option Int→Option Int→Hp→VK→Prop) : Prop:=
  ∀ (pins:List (Addr × Obj)) (s:Shared) (σ:St) (H:Hp) (x:V) (v vl vu:Value) (lo hi:Option Int) (sl:Addr) (Q:VK),Inv X pins σ H s→RelV x v→s.heap.IsSliceOf sl vl vu .none→IsPart vl lo→IsPart vu hi→r x lo hi H Q →
    ∃ T id,typeLookup (.type T) "__getitem__" = pure (some (.builtin id))∧s.TypeIs v T∧wpAny (model X.prog X.w) X.A (getItem v (.ref sl)) (EP X pins σ Q) X.xe s
theorem SlR.or {r r':V→Option Int→Option Int→Hp→VK→Prop} (h:SlR X r) (h':SlR X r') : SlR X (fun x lo hi H Q=>r x lo hi H Q ∨ r' x lo hi H Q):=by
  intro pins s σ H x v vl vu lo hi sl Q I rx hs pl pu q
  rcases q with q | q
  · exact h pins s σ H x v vl vu lo hi sl Q I rx hs pl pu q
  · exact h' pins s σ H x v vl vu lo hi sl Q I rx hs pl pu q
noncomputable def tSl (r:V→Option Int→Option Int→Hp→VK→Prop) (te:TE) (tl th:TO) : TE:=fun σ H Q=>te σ H fun x H1=>tl σ H1 fun l H2=>th σ H2 fun u H3=>r x l u H3 Q
theorem pe_slice {r:V→Option Int→Option Int→Hp→VK→Prop} (hr:SlR X r) (he:PE X e te) (hl:PO X lo tl) (hu:PO X hi th) : PE X (.Subscript e (.Slice lo hi none p2) pos) (tSl r te tl th):=by
  intro pins s σ H Q I h
  refine Subscript_ (thn (he pins s σ H _ I h) fun v s1 ⟨x,H1,I1,r1,q1⟩=>?_)
  refine wpAny_Slice (thn (hl pins s1 σ H1 _ I1 q1) fun vl s2 ⟨l,H2,I2,pl,q2⟩=>thn (hu pins s2 σ H2 _ I2 q2) fun vu s3 ⟨u,H3,I3,pu,q3⟩=>?_)
  rw [evalPart_none]
  refine wpAny_pure ?_
  have I4:Inv X pins σ H3 { s3 with heap:=s3.heap.push { cls:=.type "slice",data:=.fields #[vl,vu,.none] } }:=I3.kept (t':=s3.toks) fun b ob q=>Heap.get?_push_of_some _ q
  obtain ⟨T,id,hT,ht,hg⟩:=hr pins { s3 with heap:=s3.heap.push { cls:=.type "slice",data:=.fields #[vl,vu,.none] } } σ H3 x v vl vu l u s3.heap.objs.size Q I4 r1 (Heap.IsSliceOf.new ..) pl pu q3
  show wpAny (model X.prog X.w) X.A (subscriptTail e (.Slice lo hi none p2) v (.ref s3.heap.objs.size)) (EP X pins σ Q) X.xe { s3 with heap:=s3.heap.push { cls:=.type "slice",data:=.fields #[vl,vu,.none] } }
  exact tail_any (ops:=[.ref s3.heap.objs.size,v]) ht hT hg (by with_unfolding_all rfl)
noncomputable def cutV (xs:List V) (lo hi:Option Int) : List V:=(xs.drop (HT.sIx xs.length 0 lo)).take (HT.sIx xs.length xs.length hi - HT.sIx xs.length 0 lo)
theorem cutV_length (xs:List V) (lo hi:Option Int) : (cutV xs lo hi).length ≤ xs.length:=by
  unfold cutV
  rw [List.length_take,List.length_drop]
  lia
noncomputable def rSlT (K:PySem.W.Frag) : V→Option Int→Option Int→Hp→VK→Prop:=fun x lo hi H Q=>∃ a xs,x = .ref a∧SqT K H a xs ∧
  ¬ (HT.sIx xs.length 0 lo = 0∧HT.sIx xs.length xs.length hi = xs.length)∧∀ p,H p = none→Q (.ref p) (upd H p (.tup (cutV xs lo hi)))
theorem sl_tup:SlR X (rSlT X.K):=by
  intro pins s σ H x v vl vu lo hi sl Q I rx hs pl pu h
  obtain ⟨a,xs,rfl,hx,hw,q⟩:=h
  cases rx
  obtain ⟨its,r,ht,hz⟩:=I.tuple hx
  have hlen:its.toArray.size = xs.length:=by rw [List.size_toArray]; exact r.length.symm
  refine ⟨"tuple",_,PyProof.Rows.slot_tuple_getitem.lookup,ht.typeIs,?_⟩
  refine HT.getItem_tuple_cut ht hs pl pu (by rw [hlen]; exact hw) ?_ (by rw [hlen]; exact hz)
  rw [hlen]
  refine ⟨.ref s.heap.objs.size,_,I.laid (t':=s.toks) (o:=.tup (cutV xs lo hi)) (fun b ob q=>Heap.get?_push_of_some _ q) (Nat.le_refl _) ?_,rfl,q _ (I.hok.fresh (Nat.le_refl _))⟩
  exact ⟨Nat.le_trans (cutV_length xs lo hi) hz,_,(r.drop (HT.sIx xs.length 0 lo)).take (HT.sIx xs.length xs.length hi - HT.sIx xs.length 0 lo),IsTup.new _ _⟩
noncomputable def rCatT (K:PySem.W.Frag) : R2:=fun x y H Q=>∃ a b xs ys,x = .ref a∧y = .ref b∧SqT K H a xs∧SqT K H b ys∧xs ≠ []∧xs.length + ys.length ≤ sizeLine ∧
  (ys = []→Q (.ref a) H)∧(ys ≠ []→∀ p,H p = none→Q (.ref p) (upd H p (.tup (xs ++ ys))))
theorem Vals.nil_iff {xs:List V} {us:List Value} (r:Vals xs us) : us = [] ↔ xs = []:=by
  cases r with
  | nil=>simp
  | cons _ _=>simp
theorem op_catT:OpR X (binaryOp .Add) (rCatT X.K):=by
  intro pins s σ H x y v u Q I rx ry h
  obtain ⟨a,b,xs,ys,rfl,rfl,ha,hb,hx,hz,q1,q2⟩:=h
  cases rx
  cases ry
  obtain ⟨its,r1,p1,_⟩:=I.tuple ha
  obtain ⟨its2,r2,p2,_⟩:=I.tuple hb
  refine HT.cat_tup p1 p2 (fun z=>hx (r1.nil_iff.mp z)) (fun z=>⟨.ref a,H,I,rfl,q1 (r2.nil_iff.mp z)⟩) (fun z=>?_) (by rw [← r1.length,← r2.length]; exact hz)
  refine ⟨.ref s.heap.objs.size,_,I.laid (t':=s.toks) (o:=.tup (xs ++ ys)) (fun b ob q=>Heap.get?_push_of_some _ q) (Nat.le_refl _) ?_,rfl,q2 (fun w=>z (r2.nil_iff.mpr w)) _ (I.hok.fresh (Nat.le_refl _))⟩
  exact ⟨by rw [List.length_append]; exact hz,_,r1.append r2,IsTup.new _ _⟩
end
end L2
namespace L2
open PySem PySem.Spec PyProof.Rows
noncomputable def ixN (n:Nat) (i:Int) : Option Nat:=if 0 ≤ i then (if i < n then some i.toNat else none) else if -(n:Int) ≤ i then some (i + n).toNat else none
noncomputable def atI {α:Type} (xs:List α) (i:Int) : Option α:=(ixN xs.length i).bind fun j=>xs[j]?
theorem ixN_seq {n:Nat} {i:Int} {j:Nat} (h:ixN n i = some j) : seqIndex? i n = some j∧j < n∧-(n:Int) ≤ i∧i < n:=by
  unfold ixN at h
  by_cases h0:0 ≤ i
  · rw [if_pos h0] at h
    by_cases h1:i < n
    · rw [if_pos h1] at h
      have e:i.toNat = j:=Option.some.inj h
      exact ⟨by rw [seqIndex_of h0 h1,e],by lia,by lia,h1⟩
    · rw [if_neg h1] at h; cases h
  · rw [if_neg h0] at h
    by_cases h1 : -(n:Int) ≤ i
    · rw [if_pos h1] at h
      have e:(i + n).toNat = j:=Option.some.inj h
      exact ⟨by rw [seqIndex_neg (by lia) h1,e],by lia,h1,by lia⟩
    · rw [if_neg h1] at h; cases h
theorem atI_get {α:Type} {xs:List α} {i:Int} {v:α} (h:atI xs i = some v) : ∃ j,seqIndex? i xs.length = some j∧xs[j]? = some v∧j < xs.length∧-(xs.length:Int) ≤ i∧i < xs.length:=by
  unfold atI at h
  cases e:ixN xs.length i with
  | none=>rw [e] at h; cases h
  | some j =>
    rw [e] at h
    obtain ⟨h1,h2,h3,h4⟩:=ixN_seq e
    exact ⟨j,h1,h,h2,h3,h4⟩
theorem atI_nat {α:Type} {xs:List α} {j:Nat} {v:α} (h:xs[j]? = some v) : atI xs (j:Int) = some v:=by
  have hj:j < xs.length:=(List.getElem?_eq_some_iff.mp h).1
  have e:ixN xs.length (j:Int) = some j:=by
    unfold ixN
    rw [if_pos (by lia),if_pos (by lia)]; simp
  unfold atI; rw [e]; exact h
noncomputable def PlainIx (b:Expr) : Prop:=∀ o i,subscripted b false o i = operate [o,i] (getItem o i)
noncomputable def IxR (X:Cx) (r:R2) : Prop:=
  ∀ (value slice:Expr) (pins:List (Addr × Obj)) (s:Shared) (σ:St) (H:Hp) (x y:V) (v u:Value) (Q:VK),Inv X pins σ H s→RelV x v→RelV y u→r x y H Q →
    subscripted slice false v u = operate [v,u] (getItem v u)→wpAny (model X.prog X.w) X.A (subscriptTail value slice v u) (EP X pins σ Q) X.xe s
noncomputable def MtR (X:Cx) (id:String) (r:V→List V→Hp→VK→Prop) : Prop:=
  ∀ (pins:List (Addr × Obj)) (s:Shared) (σ:St) (H:Hp) (x:V) (xs:List V) (v:Value) (us:List Value) (Q:VK),Inv X pins σ H s→RelV x v→Vals xs us→r x xs H Q →
    wpAny (model X.prog X.w) X.A (call (.builtin id) (v :: us)) (EP X pins σ Q) X.xe s
section
variable {X:Cx} {a b:Expr} {ta tb:TE} {pos:Pos}
theorem IxR.or {r r':R2} (h:IxR X r) (h':IxR X r') : IxR X (fun x y H Q=>r x y H Q ∨ r' x y H Q):=by
  intro value slice pins s σ H x y v u Q I rx ry q hs
  rcases q with q | q
  · exact h value slice pins s σ H x y v u Q I rx ry q hs
  · exact h' value slice pins s σ H x y v u Q I rx ry q hs
theorem pe_ix {r:R2} (hr:IxR X r) (ha:PE X a ta) (hb:PE X b tb) (hs:PlainIx b) : PE X (.Subscript a b pos) (tOp r ta tb):=by
  intro pins s σ H Q I h
  exact Subscript_ (binT ha hb I h fun v u s2 x y H2 I2 rx ry q=>hr a b pins s2 σ H2 x y v u Q I2 rx ry q (hs _ _))
noncomputable def rIxL (K:PySem.W.Frag) : R2:=fun x y H Q=>∃ p xs i v,x = .ref p∧y = .int i∧SqL K H p xs∧atI xs i = some v∧Q v H
noncomputable def rIxT (K:PySem.W.Frag) : R2:=fun x y H Q=>∃ p xs i v,x = .ref p∧y = .int i∧SqT K H p xs∧atI xs i = some v∧Q v H
noncomputable def rIxS:R2:=fun x y H Q=>∃ z i c,x = .str z∧y = .int i∧z.length ≤ sizeLine∧atI z.cps.toList i = some c∧Q (.str ⟨#[c]⟩) H
theorem ix_list:IxR X (rIxL X.K):=by
  intro value slice pins s σ H x y v u Q I rx ry h hs
  obtain ⟨p,xs,i,z,rfl,rfl,hq,he,q⟩:=h
  cases rx
  obtain ⟨t,rfl⟩:=ry
  obtain ⟨its,r,pl,hz⟩:=I.list hq
  obtain ⟨j,h1,h2,h3,h4,h5⟩:=atI_get he
  obtain ⟨w,ew,rw'⟩:=r.get h2
  have hl:=r.length
  have hn:=line63
  have fin:EP X pins σ Q w s:=⟨z,H,I,rw',q⟩
  by_cases h0:0 ≤ i
  · have hj:i.toNat = j:=by
      rw [seqIndex_of h0 h5] at h1
      exact Option.some.inj h1
    exact item_listR pl.isList h0 (by lia) (by rw [hj]; simpa using ew) fin hs
  · have hj:(i + (its.toArray.size:Int)).toNat = j:=by
      rw [seqIndex_neg (by lia) h4] at h1
      rw [List.size_toArray,← hl]
      exact Option.some.inj h1
    exact subscriptTail_builtinR (x:=w) pl.isList.typeIs slot_list_getitem.lookup
      (wpAny_getItem_list_neg (Q:=fun r s'=>r = w∧EP X pins σ Q r s') pl.isList (by lia) (by rw [List.size_toArray] <;> lia) (by lia) (by rw [hj]; simpa using ew) ⟨rfl,fin⟩) hs
theorem ix_tup:IxR X (rIxT X.K):=by
  intro value slice pins s σ H x y v u Q I rx ry h hs
  obtain ⟨p,xs,i,z,rfl,rfl,hq,he,q⟩:=h
  cases rx
  obtain ⟨t,rfl⟩:=ry
  obtain ⟨its,r,pl,hz⟩:=I.tuple hq
  obtain ⟨j,h1,h2,h3,h4,h5⟩:=atI_get he
  obtain ⟨w,ew,rw'⟩:=r.get h2
  have hl:=r.length
  have hn:=line63
  have fin:EP X pins σ Q w s:=⟨z,H,I,rw',q⟩
  exact subscriptTail_builtinR (x:=w) pl.typeIs slot_tuple_getitem.lookup
    (getItem_tuple (j:=j) (Q:=fun r s'=>r = w∧EP X pins σ Q r s') pl (by lia) (by lia) (by rw [List.size_toArray,← hl]; exact h1) (by simpa using ew) ⟨rfl,fin⟩) hs
theorem ix_str:IxR X rIxS:=by
  intro value slice pins s σ H x y v u Q I rx ry h hs
  obtain ⟨z,i,c,rfl,rfl,hz,he,q⟩:=h
  obtain ⟨t,rfl⟩:=rx
  obtain ⟨t',rfl⟩:=ry
  obtain ⟨j,h1,h2,h3,h4,h5⟩:=atI_get he
  have hl:z.cps.toList.length = z.length:=by simp [Str.length]
  rw [hl] at h1 h4 h5
  have hn:=line63
  exact tail_any (typeIs_str s z t) slot_str_getitem.lookup (getItem_str (c:=c) (by
    have e1:decide (i < -(2 ^ 63:Int)) = false:=decide_eq_false (by lia)
    have e2:decide (i ≥ 2 ^ 63) = false:=decide_eq_false (by lia)
    rw [e1,e2,Bool.or_false]) (by rw [h1]; simpa using h2) ⟨.str ⟨#[c]⟩,H,I.tok _,⟨_,rfl⟩,q⟩) hs
noncomputable def rIx (K:PySem.W.Frag) : R2:=fun x y H Q=>rIxL K x y H Q ∨ rIxT K x y H Q ∨ rIxS x y H Q
theorem ix_seq:IxR X (rIx X.K):=ix_list.or (ix_tup.or ix_str)
theorem mapSeq_set (its:List Value) (n j:Nat) (u:Value) : Obj.mapSeq (·.setIfInBounds j u) { cls:=.type "list",data:=.seq its.toArray n } = { cls:=.type "list",data:=.seq (its.set j u).toArray n }:=by
  simp [Obj.mapSeq]
theorem Inv.lst {pins:List (Addr × Obj)} {σ:St} {H:Hp} {s:Shared} {p:Addr} {xs:List V} (I:Inv X pins σ H s) (h:H p = some (.lst xs)) :
    ∃ (its:List Value) (n:Nat),Vals xs its∧s.heap.get? p = some { cls:=.type "list",data:=.seq its.toArray n }∧xs.length ≤ sizeLine:=by
  obtain ⟨z,its,n,r,e⟩:=I.hok p _ h
  exact ⟨its,n,r,e,z⟩
theorem Inv.lstUpd {pins:List (Addr × Obj)} {σ:St} {H:Hp} {s:Shared} {p:Addr} {xs ys:List V} {its its':List Value} {n n':Nat} {f:Obj→Obj} (I:Inv X pins σ H s) (h:H p = some (.lst xs))
    (ho:s.heap.get? p = some { cls:=.type "list",data:=.seq its.toArray n }) (hf:f { cls:=.type "list",data:=.seq its.toArray n } = { cls:=.type "list",data:=.seq its'.toArray n' }) (r:Vals ys its') (hz:ys.length ≤ sizeLine) (t:Nat) :
    Inv X pins σ (upd H p (.lst ys)) { s with heap:=s.heap.update p f,toks:=t }:=by
  have e:(s.heap.update p f).get? p = some { cls:=.type "list",data:=.seq its'.toArray n' }:=by
    rw [Heap.get?_update_self f ho (by rw [hf] <;> rfl),hf]
  refine I.write (x:=p) (e:=p) (by rw [h]; trivial) (.inl rfl) (fun b u hb q=>(Heap.get?_update_other _ _ (Ne.symm hb)).trans q) ⟨_,e⟩ ?_
  exact ⟨hz,its',n',r,e⟩
noncomputable def rSetL:V→V→V→Hp→(Hp→Prop)→Prop:=fun o i v H Q=>∃ p xs k j,o = .ref p∧i = .int k∧H p = some (.lst xs)∧ixN xs.length k = some j∧Q (upd H p (.lst (xs.set j v)))
theorem set_list:PSet X rSetL:=by
  intro pins s σ H o i v ov iv u Q I ro ri rv h
  obtain ⟨p,xs,k,j,rfl,rfl,hp,hj,q⟩:=h
  cases ro
  obtain ⟨t,rfl⟩:=ri
  obtain ⟨its,n,r,ho,hz⟩:=I.lst hp
  obtain ⟨h1,h2,h3,h4⟩:=ixN_seq hj
  have hl:=r.length
  have hn:=line63
  have I':Inv X pins σ (upd H p (.lst (xs.set j v))) { s with heap:=s.heap.update p (Obj.mapSeq (·.setIfInBounds j u)) }:=
    I.lstUpd hp ho (mapSeq_set its n j u) (r.set rv j) (by rw [List.length_set]; exact hz) s.toks
  by_cases h0:0 ≤ k
  · have hk:k.toNat = j:=by
      rw [seqIndex_of h0 h4] at h1
      exact Option.some.inj h1
    exact PySem.W.ki_setAt ho h0 (by lia) (by rw [List.size_toArray,← hl]; exact h4) (by rw [hk]; exact ⟨_,I',q⟩)
  · have hk:(k + (its.toArray.size:Int)).toNat = j:=by
      rw [seqIndex_neg (by lia) h3] at h1
      rw [List.size_toArray,← hl]
      exact Option.some.inj h1
    exact PySem.W.ki_setBack ho (by lia) (by rw [List.size_toArray,← hl]; exact h3) (by lia) (by rw [hk]; exact ⟨_,I',q⟩)
theorem slice_bounds (lo hi:Option Int) (n:Nat) : (sliceBounds lo hi none n).1 = ((HT.sIx n 0 lo:Nat) : Int)∧(sliceBounds lo hi none n).2.1 = ((HT.sIx n n hi:Nat) : Int)∧(sliceBounds lo hi none n).2.2 = 1:=by
  refine ⟨?_,?_,rfl⟩
  · cases lo with
    | none=>simp [sliceBounds,HT.sIx]
    | some i =>
      simp only [sliceBounds,HT.sIx,Option.getD_none,show (1:Int) > 0 by decide,if_true]
      by_cases h:i < 0
      · simp only [h,if_true] <;> lia
      · simp only [h,if_false] <;> lia
  · cases hi with
    | none=>simp [sliceBounds,HT.sIx]
    | some i =>
      simp only [sliceBounds,HT.sIx,Option.getD_none,show (1:Int) > 0 by decide,if_true]
      by_cases h:i < 0
      · simp only [h,if_true] <;> lia
      · simp only [h,if_false] <;> lia
theorem slicePick_cut (its:List Value) (lo hi:Option Int) : slicePick its.toArray lo hi none = ((its.drop (HT.sIx its.length 0 lo)).take (HT.sIx its.length its.length hi - HT.sIx its.length 0 lo)).toArray:=by
  obtain ⟨h1,h2,h3⟩:=slice_bounds lo hi its.toArray.size
  unfold slicePick
  rw [h1,h2,h3]
  simp only [sliceRange_one,pick_run,List.size_toArray] <;> rfl
noncomputable def rSlL (K:PySem.W.Frag) : V→Option Int→Option Int→Hp→VK→Prop:=fun x lo hi H Q=>∃ a xs,x = .ref a∧SqL K H a xs∧∀ p,H p = none→Q (.ref p) (upd H p (.lst (cutV xs lo hi)))
theorem sl_list:SlR X (rSlL X.K):=by
  intro pins s σ H x v vl vu lo hi sl Q I rx hs pl pu h
  obtain ⟨a,xs,rfl,hx,q⟩:=h
  cases rx
  obtain ⟨its,r,ht,hz⟩:=I.list hx
  have hlen:=r.length
  refine ⟨"list",_,slot_list_getitem.lookup,ht.isList.typeIs,?_⟩
  refine wpAny_getItem_list_slice ht.isList hs pl pu .none (by simp) ?_ (by rw [List.size_toArray] <;> lia)
  rw [slicePick_cut,← hlen]
  refine ⟨.ref s.heap.objs.size,_,I.laid (t':=s.toks) (o:=.lst (cutV xs lo hi)) (fun b ob q=>Heap.get?_push_of_some _ q) (Nat.le_refl _) ?_,rfl,q _ (I.hok.fresh (Nat.le_refl _))⟩
  exact ⟨Nat.le_trans (cutV_length xs lo hi) hz,_,0,(r.drop (HT.sIx xs.length 0 lo)).take (HT.sIx xs.length xs.length hi - HT.sIx xs.length 0 lo),Heap.get?_push_size _ rfl⟩
noncomputable def flatV:V→Bool
  | .non=>true
  | .bl _=>true
  | .int _=>true
  | .str _=>true
  | _=>false
theorem call_list_of:CallR X (.type "list") (fun xs H Q=>∃ p ys,xs = [.ref p]∧(SqL X.K H p ys ∨ SqT X.K H p ys)∧∀ l,H l = none→Q (.ref l) (upd H l (.lst ys))):=by
  intro pins s σ H xs us Q I r h
  obtain ⟨p,ys,rfl,hq,q⟩:=h
  obtain ⟨u,rfl,rx⟩:=vals1 r
  cases rx
  have fin:∀ (its:List Value),Vals ys its→ys.length ≤ sizeLine→∀ (h':Heap) (c':Nat),(∀ b o',s.heap.get? b = some o'→h'.get? b = some o') →
      h'.get? s.heap.objs.size = some { cls:=.type "list",dict:=none,data:=.seq its.toArray c',slots:=#[] }→EP X pins σ Q (.ref s.heap.objs.size) { s with heap:=h' }:=fun its r' hz h' c' kp e =>
    ⟨.ref s.heap.objs.size,_,I.laid (t':=s.toks) kp (Nat.le_refl _) (show ObjOk X.prog X.w _ h' _ (.lst ys) from ⟨hz,its,c',r',e⟩),rfl,q _ (I.hok.fresh (Nat.le_refl _))⟩
  rcases hq with hq | hq
  · obtain ⟨its,r',pl,hz⟩:=I.list hq
    have hlen:=r'.length
    obtain ⟨o,ho,hc,n,hd⟩:=pl.isList
    exact call_list_seq p (.inl rfl) ho hc hd (fun h' c' kp e=>fin its r' hz h' c' kp e) (by simp only [List.size_toArray] <;> lia)
  · obtain ⟨its,r',pl,hz⟩:=I.tuple hq
    have hlen:=r'.length
    obtain ⟨o,ho,hc,n,hd⟩:=pl
    exact call_list_seq p (.inr rfl) ho hc hd (fun h' c' kp e=>fin its r' hz h' c' kp e) (by simp only [List.size_toArray] <;> lia)
noncomputable def tyV (K:PySem.W.Frag) (T:String) (x:V) (H:Hp) : Prop:=match x with
  | .str _=>T = "str"
  | .int _=>T = "int"
  | .ref p=>(T = "list"∧∃ xs,SqL K H p xs) ∨ (T = "tuple"∧∃ o,K.lookup p = some o∧o.cls = .type "tuple"∧o.dict = none) ∨
      (T = "dict"∧((∃ kvs,H p = some (.dK kvs)) ∨ ∃ kvs,H p = some (.dT kvs))) ∨ (T = "set"∧∃ S n,H p = some (.set S n))
  | _=>False
theorem tyV_is {pins:List (Addr × Obj)} {σ:St} {H:Hp} {s:Shared} {T:String} {x:V} {v:Value} (I:Inv X pins σ H s) (r:RelV x v) (ty:tyV X.K T x H) :
    s.TypeIs v T∧∀ a,v = .ref a→∃ ob,s.heap.get? a = some ob∧ob.dict = none:=by
  cases x with
  | str z =>
    obtain ⟨t,rfl⟩:=r
    cases (show T = "str" from ty)
    exact ⟨typeIs_str s z t,fun _ e=>nomatch e⟩
  | int i =>
    obtain ⟨t,rfl⟩:=r
    cases (show T = "int" from ty)
    exact ⟨typeIs_int s i t,fun _ e=>nomatch e⟩
  | ref p =>
    cases r
    rcases ty with ⟨rfl,xs,hq⟩ | ⟨rfl,o,hk,hc,hd⟩ | ⟨rfl,hk⟩ | ⟨rfl,S,n,hk⟩
    · obtain ⟨its,_,pl,_⟩:=I.list hq
      refine ⟨pl.isList.typeIs,fun a e=>?_⟩
      cases e
      obtain ⟨o,n,e,c,hd,_⟩:=pl
      exact ⟨o,e,hd⟩
    · refine ⟨⟨o,I.kIn p o hk,hc⟩,fun a e=>?_⟩
      cases e
      exact ⟨o,I.kIn _ o hk,hd⟩
    · have z:∃ o,s.heap.get? p = some o∧o.ExactDict:=by
        rcases hk with ⟨kvs,hk⟩ | ⟨kvs,hk⟩
        · obtain ⟨_,_,_,_,o,_,_,e,ex,_⟩:=I.hok p _ hk
          exact ⟨o,e,ex⟩
        · obtain ⟨_,_,_,_,o,_,_,e,ex,_⟩:=I.hok p _ hk
          exact ⟨o,e,ex⟩
      obtain ⟨o,e,ex⟩:=z
      refine ⟨⟨o,e,ex.1⟩,fun a e2=>?_⟩
      cases e2
      exact ⟨o,e,ex.2.1⟩
    · obtain ⟨o,_,_,_,e,ex,_⟩:=I.hok p _ hk
      refine ⟨⟨o,e,ex.1⟩,fun a e2=>?_⟩
      cases e2
      exact ⟨o,e,ex.2.1⟩
  | _=>exact False.elim ty
noncomputable def tBM (K:PySem.W.Frag) (T:String) (r:V→List V→Hp→VK→Prop) (to:TE) (t:TA) : TE:=fun σ H Q=>to σ H fun x H1=>tyV K T x H1∧t σ H1 fun xs H2=>r x xs H2 Q
variable {o e:Expr} {es:List Expr} {to:TE} {t:TA} {name:Str} {apos cpos:Pos} {T id:String} {r:V→List V→Hp→VK→Prop}
theorem pe_bm (pa:PlainAttrs T) (slot:Slot T name id) (hty:typeOf (.builtin id) = pure (.type "method_descriptor")) (hm:MtR X id r) (ho:PE X o to) (ha:PA X (e :: es) t)
    (hbase:attributeBase o name X.env (eval o X.env) = eval o X.env:=by rfl)
    (hfew:((backTo cpos (starEach (e :: es) X.env)).all (fun x=>!x.1) && (backToKw cpos (keywordEach [] X.env)).all (fun x=>x.1.isSome)
      && decide ((e :: es).length + ([] : List Keyword).length + (if ([] : List Keyword).isEmpty then 0 else 1) < 30)) = true:=by rfl)
    (hline:(apos.endLine == cpos.line) = true:=by rfl) (hs:starEach (e :: es) X.env = (false,eval e X.env) :: starEach es X.env:=by rfl) (hplain:(backTo cpos (starEach es X.env)).any (·.1) = false:=by rfl) :
    PE X (.Call (.Attribute o name apos) (e :: es) [] cpos) (tBM X.K T r to t):=by
  intro pins s σ H Q I h
  refine wpAny_Call_method_late hbase hfew hline rfl (thn (ho pins s σ H _ I h) fun v s1 ⟨x,H1,I1,r1,ty,q1⟩=>?_)
  obtain ⟨h1,h2⟩:=tyV_is I1 r1 ty
  refine ⟨T,id,pa,slot,hty,h1,h2,?_⟩
  have hA:=ha cpos pins s1 σ H1 _ I1 q1
  rw [hs] at hA ⊢
  refine Calls.callWith_builtin (by show (false || (backTo cpos (starEach es X.env)).any (·.1)) = false; rw [hplain] <;> rfl) (Calls.evalArgs_plain ?_)
  exact thn hA fun us s2 ⟨vs,H2,I2,r2,q2⟩=>hm pins s2 σ H2 x vs v us Q I2 r1 r2 q2
end
end L2
namespace L2
open PySem PySem.Spec PyProof.Rows
noncomputable def MtM (X:Cx) (id:String) (r:V→List V→Hp→VK→Prop) : Prop:=
  ∀ (pins:List (Addr × Obj)) (s:Shared) (σ:St) (H:Hp) (x:V) (xs:List V) (v:Value) (us:List Value) (Q:VK),Inv X pins σ H s→RelV x v→Vals xs us→r x xs H Q →
    wpAny (model X.prog X.w) X.A (call (.builtin id) (v :: us)) (EP X pins σ Q) X.xe s
theorem Vals.one:∀ {x:V} {us:List Value},Vals [x] us→∃ u,us = [u]∧RelV x u
  | _,_,.cons r .nil=>⟨_,rfl,r⟩
theorem Vals.rep {xs:List V} {us:List Value} (h:Vals xs us) : ∀ k:Nat,Vals (List.replicate k xs).flatten (List.replicate k us).flatten
  | 0=>.nil
  | k + 1=>by
    rw [List.replicate_succ,List.replicate_succ,List.flatten_cons,List.flatten_cons]
    exact Vals.append h (Vals.rep h k)
theorem foldl_rep (its:List Value) : ∀ (k:Nat) (acc:List Value),
    List.foldl (fun x1 x2=>x1 ++ x2) acc.toArray (List.replicate k its.toArray) = (acc ++ (List.replicate k its).flatten).toArray
  | 0,acc=>by simp
  | k + 1,acc=>by
    have e:acc.toArray ++ its.toArray = (acc ++ its).toArray:=by simp
    have e2:(acc ++ its) ++ (List.replicate k its).flatten = acc ++ (List.replicate (k + 1) its).flatten:=by
      rw [List.replicate_succ,List.flatten_cons,List.append_assoc]
    rw [← e2,← foldl_rep its k (acc ++ its),← e,List.replicate_succ,List.foldl_cons]
section
variable {X:Cx} {pins:List (Addr × Obj)} {σ:St} {H:Hp} {s:Shared} {l b:Addr} {xs ys zs:List V}
theorem Inv.lset {its its':List Value} {n:Nat} {f:Array Value→Array Value} {t':Nat} (I:Inv X pins σ H s) (hH:H l = some (.lst xs))
    (e:s.heap.get? l = some { cls:=.type "list",data:=.seq its.toArray n }) (hf:f its.toArray = its'.toArray) (hv:Vals ys its') (hz:ys.length ≤ sizeLine) :
    Inv X pins σ (upd H l (.lst ys)) { s with heap:=s.heap.update l (Obj.mapSeq f),toks:=t' }:=by
  have q:=PySem.IsL.update e f
  rw [hf] at q
  refine I.write (x:=l) (e:=l) (by rw [hH]; exact trivial) (.inl rfl) (fun b' u hb hu=>(Heap.get?_update_other s.heap (Obj.mapSeq f) (Ne.symm hb)).trans hu) ⟨_,q⟩ ?_
  exact ⟨hz,its',_,hv,q⟩
theorem Inv.lnew {its:List Value} {t':Nat} (I:Inv X pins σ H s) (hv:Vals ys its) (hz:ys.length ≤ sizeLine) :
    Inv X pins σ (upd H s.heap.objs.size (.lst ys)) { s with heap:=s.heap.push { cls:=.type "list",data:=.seq its.toArray },toks:=t' }:=
  I.laid (fun _ _ q=>Heap.get?_push_of_some _ q) (Nat.le_refl _) ⟨hz,its,0,hv,Heap.get?_push_size _ rfl⟩
theorem Inv.fresh (I:Inv X pins σ H s) : H s.heap.objs.size = none:=I.hok.fresh (Nat.le_refl _)
theorem Inv.lstM (I:Inv X pins σ H s) (hH:H l = some (.lst xs)) : xs.length ≤ sizeLine∧∃ (its:List Value) (n:Nat),Vals xs its∧xs.length = its.length∧s.heap.get? l = some { cls:=.type "list",data:=.seq its.toArray n }:=by
  obtain ⟨z,its,n,r,e⟩:=I.hok l _ hH
  exact ⟨z,its,n,r,r.length,e⟩
theorem notLongL {n:Nat} (h:n ≤ sizeLine) : Builtin.List.listTooLong n = false:=by
  unfold Builtin.List.listTooLong
  exact decide_eq_false (by lia)
end
section
variable {X:Cx}
noncomputable def rAppend:V→List V→Hp→VK→Prop:=fun x vs H Q=>∃ l xs y,x = .ref l∧vs = [y]∧H l = some (.lst xs)∧xs.length < sizeLine∧Q .non (upd H l (.lst (xs ++ [y])))
theorem mt_append:MtM X "list.append" rAppend:=by
  intro pins s σ H x vs v us Q I rx rv h
  obtain ⟨l,xs,y,rfl,rfl,hH,hz,q⟩:=h
  cases rx
  obtain ⟨u,rfl,ru⟩:=rv.one
  obtain ⟨z,its,n,r,hl,e⟩:=I.lstM hH
  refine call_meets F.slot_list_append ⟨_,e,rfl⟩ F.entry_list_append (F.args_list_append_2 _ _) (PySem.list_append l its.toArray n u (by rw [List.size_toArray]; lia)) ⟨e,?_⟩
  refine ⟨.non,_,I.lset (its':=its ++ [u]) hH e (by simp) (r.append (.cons ru .nil)) ?_,rfl,q⟩
  rw [List.length_append,List.length_singleton]
  lia
noncomputable def rCat:R2:=fun x y H Q=>∃ l b xs zs,x = .ref l∧y = .ref b∧H l = some (.lst xs)∧H b = some (.lst zs)∧xs.length + zs.length ≤ sizeLine∧∀ p,H p = none→Q (.ref p) (upd H p (.lst (xs ++ zs)))
theorem op_cat:OpR X (binaryOp .Add) rCat:=by
  intro pins s σ H x y v u Q I rx ry h
  obtain ⟨l,b,xs,zs,rfl,rfl,hH,hB,hz,q⟩:=h
  cases rx
  cases ry
  obtain ⟨z,its,n,r,hl,e⟩:=I.lstM hH
  obtain ⟨z2,its2,n2,r2,hl2,e2⟩:=I.lstM hB
  refine PySem.P.add_list e e2 ?_ (by rw [List.size_toArray,List.size_toArray]; lia)
  have ea:its.toArray ++ its2.toArray = (its ++ its2).toArray:=by simp
  rw [ea]
  exact ⟨.ref _,_,I.lnew (t':=s.toks) (r.append r2) (by rw [List.length_append]; lia),rfl,q _ I.fresh⟩
noncomputable def rRep:R2:=fun x y H Q=>∃ l k xs,x = .ref l∧y = .int k∧H l = some (.lst xs)∧-(2 ^ 63) ≤ k∧k < 2 ^ 63∧xs.length * k.toNat ≤ sizeLine ∧
  ∀ p,H p = none→Q (.ref p) (upd H p (.lst (List.replicate k.toNat xs).flatten))
theorem len_rep {α:Type} (xs:List α) (k:Nat) : (List.replicate k xs).flatten.length = k * xs.length:=by
  induction k with
  | zero=>simp
  | succ k ih=>rw [List.replicate_succ,List.flatten_cons,List.length_append,ih,Nat.succ_mul,Nat.add_comm]
theorem op_rep:OpR X (binaryOp .Mult) rRep:=by
  intro pins s σ H x y v u Q I rx ry h
  obtain ⟨l,k,xs,rfl,rfl,hH,h1,h2,hz,q⟩:=h
  cases rx
  obtain ⟨t,rfl⟩:=ry
  obtain ⟨z,its,n,r,hl,e⟩:=I.lstM hH
  have hlen:its.toArray.size * k.toNat ≤ sizeLine:=by rw [List.size_toArray,← hl]; exact hz
  have hcap:¬ its.toArray.size * k.toNat > (2 ^ 63 - 1) / 8:=by
    have:(sizeLine:Nat) ≤ (2 ^ 63 - 1) / 8:=by decide
    lia
  have hfit:¬ (!Builtin.List.listFitsIndex k) = true:=by
    rw [fitsIndex_both h1 h2]
    exact Bool.false_ne_true
  have hlong:¬ Builtin.List.listTooLong (its.toArray.size * k.toNat) = true:=by
    rw [notLongL hlen]
    exact Bool.false_ne_true
  have hnew:List.foldl (fun x1 x2=>x1 ++ x2) #[] (List.replicate (if its.toArray.isEmpty = true then 0 else k.toNat) its.toArray) = (List.replicate k.toNat its).flatten.toArray:=by
    have f0:∀ m:Nat,List.foldl (fun x1 x2=>x1 ++ x2) #[] (List.replicate m its.toArray) = (List.replicate m its).flatten.toArray:=fun m=>by
      have:=foldl_rep its m []
      rw [List.nil_append] at this
      exact this
    rw [f0]
    cases its with
    | nil=>simp
    | cons a r'=>rw [if_neg (by simp)]
  refine wpAny_binaryOp_repeat_ref (T:="list") (U:="int") (by decide) ⟨_,e,rfl⟩ (fun s'=>typeIs_int s' k t) noFill_list_mul F.fills_int_mul F.slot_int_rmul repeat_list F.slot_int_index.lookup
    (call_meets F.slot_int_rmul (typeIs_int s k t) F.entry_int_rmul (F.args_int_rmul_2 _ _) (int___rmul___int_list k t l its.toArray n)
      ⟨e,rfl,⟨_,e,rfl⟩,call_meets F.slot_list_mul ⟨_,e,rfl⟩ F.entry_list_mul (F.args_list_mul_2 _ _) (AutoListH.list___mul___list_int_3 l its.toArray n k t hfit hcap hlong) ⟨e,?_⟩⟩)
  rw [hnew]
  exact ⟨.ref _,_,I.lnew (t':=s.toks) (r.rep k.toNat) (by rw [len_rep,Nat.mul_comm]; exact hz),rfl,q _ I.fresh⟩
end
section
variable {prog:Program} {w:World} {A:Around} {E:Value→Shared→Prop} {s:Shared}
end
section
variable {X:Cx}
end
end L2
namespace Att
open PySem PySem.W PySem.Calls PyProof.Rows
theorem ints_of_wellAll {P:Params} {h:Heap} : ∀ (ns:List Int) (vs:List Value),WellAll P h vs (ns.map WData.int)→IntsAre vs ns:=by
  intro ns
  induction ns with
  | nil =>
    intro vs w
    rw [List.map_nil] at w
    cases w
    exact .nil
  | cons n ns ih =>
    intro vs w
    rw [List.map_cons] at w
    cases w with
    | cons a b =>
      cases a
      exact .cons _ _ (ih _ b)
theorem script_of {l:OpenLaw} {n:Nat} (hn:l.most = some n) {P:Params} {h:Heap} {args:List WData} {vals:List Value}
    (hpre:l.row.toRowW.claim.pre args = true) (hwl:WellAll P h vals args) :
    ∃ a vs ns,vals = [Value.ref a]∧args = [WData.list (ns.map WData.int)]∧h.get? a = some { cls:=.type "list",data:=.seq vs.toArray }∧IntsAre vs ns∧ns.length ≤ n:=by
  have hsh:WShape.hasAll [] args [.list .int] = true:=(pre_splitW hpre).1
  have hc:l.pre.holds [] { args:=args } = true:=(pre_splitW hpre).2
  obtain ⟨d,r,rfl,h1,h2⟩:=hasAllW_cons hsh
  obtain rfl:=hasAllW_nil h2
  obtain ⟨xs,rfl,h3⟩:=hasW_list h1
  obtain ⟨ns,rfl⟩:=items_int h3
  have hlen:ns.length ≤ n:=by
    unfold OpenLaw.pre at hc
    have h4:(WTm.not (.lt (.lit (.int (n:Int))) (.len (.arg 0)))).holds [] { args:=[.list (ns.map .int)] } = true:=by
      have h4:=(holds_andW hc).1
      rw [hn] at h4
      exact h4
    have h5:=condW_of h4 (w_not (w_lt w_lit (w_len_list (w_arg rfl))))
    rw [List.length_map] at h5
    refine Nat.le_of_not_lt fun q=>?_
    have q':(n:Int) < ((ns.length:Nat) : Int):=by lia
    first
      | (rw [decide_eq_true q'] at h5; exact absurd h5 (by decide))
      | (simp at h5; lia)
  cases hwl with
  | cons w1 w2 =>
    cases w2
    cases w1 with
    | list ho hall=>exact ⟨_,_,ns,rfl,rfl,ho,ints_of_wellAll ns _ hall,hlen⟩
theorem post_true (l:OpenLaw) (args:List WData) : l.row.toRowW.claim.post args (.bool true) args = true:=
  postW_of (r:=l.row.toRowW) (X:=(true == true))
    (show WShape.has [] (.bool true) .bool = true by first | rfl | decide | simp [WShape.has,WShape.arms,WShape.armsAll])
    (show (WTm.eq .res (.lit (.bool true))).value [] { args:=args,res:=some (.bool true),after:=args } = some (.bool (true == true)) from w_eq_bool (w_res rfl) w_lit) rfl
theorem attach_call {l:OpenLaw} {n:Nat} {q:Program} {loose:List Str} {XP:(Str→Option Value)→Heap→Prop} {YP:World→Heap→Prop} {d:DefRec}
    (hn:l.most = some n) (hdf:d.params.defaults = [])
    (call:∀ (w:World) (s₀ s₁:Shared) (mg mb:Str→Option Value) (fa:Addr) (o:Obj) (pm cd doc:Value) (a:Addr) (vs:List Value) (ns:List Int),
      Ground q loose [] XP w s₀ mg mb s₁.heap→YP w s₁.heap →
      s₁.heap.get? fa = some o→o.data = .func (docDef d.name d.params d.body d.scope pm cd doc)→s₁.heap.CodeRec cd d.name→mg d.name = some (.ref fa) →
      s₁.heap.get? a = some { cls:=.type "list",data:=.seq vs.toArray }→IntsAre vs ns→ns.length ≤ n→s₁.gens = #[] →
      codeAny (model l.prog w) callerA (.call (.ref fa) ⟨[.ref a],[]⟩) (fun r s'=>r = .ok (.ret (.bool true))∧OldK s₁.heap s'.heap∧s'.os = s₁.os∧AllBare s'.gens) s₁) :
    WalkO q loose XP YP l.row.toRowW d [] (fun f vs=>PySem.call f vs):=by
  intro w s₀ s₁ mg mb G Y fa o pm cd doc dV kV ho hd hcd hD hmg hg args vals as hpre hlay hrd hwl hlo
  obtain rfl:dV = .none:=Dflts.none hD hdf
  obtain rfl:kV = .none:=Dflts.noKw hD
  obtain ⟨a,vs,ns,rfl,rfl,hobj,hints,hlen⟩:=script_of hn hpre hwl
  refine enter_call (codeAny_mono (call w s₀ s₁ mg mb fa o pm cd doc a vs ns G Y ho (fd_plain hd) hcd hmg hobj hints hlen hg) fun r s' hq=>?_)
  obtain ⟨rfl,h2,h3,h4⟩:=hq
  exact ⟨.inl ⟨.bool true,.bool true,[],rfl,fun _=>rfl,.bool true,post_true l _,fun _=>⟨List.Pairwise.nil,fun _ hm=>(nomatch hm)⟩⟩,h2,h3,h4⟩
section
variable {prog:Program} {w:World} {A:Around} {E:Value→Shared→Prop} {s:Shared} {K:Frag}
end
end Att
namespace L2
open PySem PySem.Spec PyProof.Rows
theorem vals_ints:∀ {vs:List Value} {ns:List Int},IntsAre vs ns→Vals (ns.map V.int) vs
  | _,_,.nil=>.nil
  | _,_,.cons n t h=>.cons ⟨t,rfl⟩ (vals_ints h)
end L2
namespace L2
open PySem PySem.Spec PyProof.Rows
end L2
namespace L2
open PySem PySem.Spec PyProof.Rows
noncomputable def defArgs (s:Stmt) : Arguments:=match s with
  | .FunctionDef _ a _ _ _ _ _ _ _ _=>a
  | _=>{ posonlyargs:=[],args:=[],vararg:=none,kwonlyargs:=[],kw_defaults:=[],kwarg:=none,defaults:=[] }
noncomputable def defBody (s:Stmt) : List Stmt:=match s with
  | .FunctionDef _ _ b _ _ _ _ _ _ _=>b
  | _=>[]
noncomputable def defScope (s:Stmt) : Scope:=match s with
  | .FunctionDef _ _ _ _ _ _ sc _ _ _=>sc
  | _=>{ kind:=.function,names:=[],isGenerator:=false,isCoroutine:=false }
noncomputable abbrev CX0:CXT:=fun _ _ _ _ _ _=>False
noncomputable abbrev E0:XK:=fun _ _ _=>False
theorem pass0 {X:Cx} : Passes CX0 X E0:=fun _ _ _ _ _ _ _ h=>h.elim
structure Fun (K:PySem.W.Frag) (x qual:Str) (st:Stmt) (f:Addr) (fd:FuncData) : Prop where
  ex:∃ (oc:Value) (od:Option Addr) (kV doc pm:Value) (an:Option Addr) (cdv ct:Value) (osl:Array (Option Value)),
    fd = PySem.W.fnOf x qual (defArgs st) (defBody st) (defScope st) .none kV doc pm an cdv ct∧K.lookup f = some ⟨oc,od,.func fd,osl⟩∧PySem.W.codeIn K cdv qual = true
  kp:PySem.W.keepIn K (.ref f) = true
section
variable {P:Program} {w:World} {K:PySem.W.Frag} {mg:Str→Option Value} {base:Heap}
theorem Fun.ok {x qual:Str} {st:Stmt} {f:Addr} {fd:FuncData} {N ps:List Str} {k:Nat} {sp:Sp} (F:Fun K x qual st f fd) (S:FnScope N ps (defScope st)) (len:∀ vs H Q E,sp vs H Q E→vs.length = ps.length)
    (hbody:∀ (cdv:Value) (A:Around) (outer:List Env) (s:Shared) (H:Hp) (vs:List V) (Q:VK) (E:XK),Room k (A.deeper (envOfC qual (defScope st) s.heap.objs.size f cdv))→sp vs H Q E →
      ∃ t,PSs (cxOf CX0 P w K mg base N qual (defScope st) f cdv A outer s H E).nox (defBody st) t∧t { nx:=fun _ H'=>Q .non H',rt:=Q } (start N vs) H) : FnOk P w K mg base CX0 (k + 1) f fd ps sp:=by
  obtain ⟨oc,od,kV,doc,pm,an,cdv,ct,osl,rfl,lk,hcd⟩:=F.ex
  refine fn_of lk hcd S len fun A outer s H vs Q E hr hsp=>?_
  obtain ⟨t,h,q⟩:=hbody cdv A outer s H vs Q E hr hsp
  exact ⟨t,h.nox,q⟩
theorem Fun.binds {x qual:Str} {st:Stmt} {f:Addr} {fd:FuncData} {ps:List Str} (F:Fun K x qual st f fd)
    (h:∀ (kV doc pm:Value) (an:Option Addr) (cdv ct:Value) (us:List Value),us.length = ps.length→bindArgs (PySem.W.fnOf x qual (defArgs st) (defBody st) (defScope st) .none kV doc pm an cdv ct) ⟨us,[]⟩ = pure (ps.zip us)) : Binds K fd ps []:=by
  obtain ⟨oc,od,kV,doc,pm,an,cdv,ct,osl,rfl,lk,hcd⟩:=F.ex
  exact .all (h kV doc pm an cdv ct)
theorem fun_mk {x qual:Str} {st:Stmt} {f:Addr} {oc:Value} {od an:Option Addr} {osl:Array (Option Value)} {kV doc pm cdv ct:Value} (l:K.lookup f = some ⟨oc,od,.func (PySem.W.fnOf x qual (defArgs st) (defBody st) (defScope st) .none kV doc pm an cdv ct),osl⟩)
    (c:PySem.W.codeIn K cdv qual = true) (k:PySem.W.keepIn K (.ref f) = true) : Fun K x qual st f (PySem.W.fnOf x qual (defArgs st) (defBody st) (defScope st) .none kV doc pm an cdv ct):=⟨⟨oc,od,kV,doc,pm,an,cdv,ct,osl,rfl,l,c⟩,k⟩
end
theorem hu_of {A:Around} {k:Nat} (hr:Room k A) : A.units + 1 < cLine:=Nat.lt_of_le_of_lt (Nat.add_le_add_left (by decide:1 ≤ 64) _) hr.units
theorem small1000 {n:Nat} (h:n ≤ 1000) : n < sizeLine:=Nat.lt_of_le_of_lt h (by decide)
section
variable {X:Cx}
theorem pv (i:Nat) {x:Str} {pos:Pos} (hN:X.N[i]? = some x:=by rfl) (hv:Vis X.env.scope x:=by first | exact Or.inl rfl | exact Or.inr (Or.inl rfl) | exact Or.inr (Or.inr rfl)) (hd:(x == ("__debug__" : Str)) = false:=by decide)
    (hcd:(x == ("__classdict__" : Str)) = false:=by decide) : PE X (.Name x pos) (tVar i):=pe_var hN hv hd hcd
end
theorem iteF {A B:Prop} (h:B) : if false = true then A else B:=by
  rw [if_neg Bool.false_ne_true]
  exact h
theorem iteT {A B:Prop} (h:A) : if true = true then A else B:=by
  rw [if_pos rfl]
  exact h
noncomputable def Same (H H':Hp) : Prop:=∀ b o,H b = some o→H' b = some o
theorem Same.refl (H:Hp) : Same H H:=fun _ _ h=>h
theorem Same.trans {H H1 H2:Hp} (a:Same H H1) (b:Same H1 H2) : Same H H2:=fun c o h=>b c o (a c o h)
theorem Same.free {H H':Hp} (e:Same H H') {l:Addr} (h:H' l = Option.none) : H l = Option.none:=by
  cases q:H l with
  | none=>rfl
  | some o =>
    rw [e l o q] at h
    cases h
theorem Same.seq {K:PySem.W.Frag} {H H':Hp} {a:Addr} {xs:List V} (e:Same H H') (h:SqL K H a xs) : SqL K H' a xs:=by
  rcases h with (h | ⟨o,h⟩) | h
  · exact .inl (.inl (e _ _ h))
  · exact .inl (.inr ⟨o,e _ _ h⟩)
  · exact .inr h
end L2
namespace L2
open PySem PySem.Spec PyProof.Rows
noncomputable def blk (X:Cx) (scope:Scope) (N':List Str) (cl:List (Str × Addr)) (fp:List Addr) (C:Addr) (s:Shared) (H:Hp) : Cx:=
  { X with N:=N',s₀:=s,H₀:=H,env:=compEnvC scope cl C X.env,outer:=X.stack,stack:=X.stack,ex:=fp,fn:=fun _=>false,pn:=[],xe:=fun _ _=>False }
noncomputable def compScB (sc0:Scope) (N0:List Str) (scope:Scope) (N':List Str) (fr:List (Option Nat)) : Bool:=
  decide (scope.kind = .function) && scope.names.all (fun y=>decide (y.2 ≠ .cell)) && scope.names.all (fun y=>decide (y.2 = .local→scope.names.lookup y.1 = some .local)) &&
  scope.names.all (fun y=>decide (y.2 = .free→(sc0.names.lookup y.1 = some .cell ∨ sc0.names.lookup y.1 = some .free))) && decide (fr.length = N'.length) &&
  (List.range N'.length).all (fun i=>match fr[i]?,N'[i]? with
    | some (some j),some x=>decide (N0[j]? = some x) && decide (scope.names.lookup x = some .free) && decide (sc0.names.lookup x = some .cell ∨ sc0.names.lookup x = some .free)
    | _,_=>true)
structure CompSc (sc0:Scope) (N0:List Str) (scope:Scope) (N':List Str) (fr:List (Option Nat)) : Prop where
  kind:scope.kind = .function
  nocell:∀ y ∈ scope.names,y.2 ≠ .cell
  names:∀ y ∈ scope.names,y.2 = .local→scope.names.lookup y.1 = some .local
  frees:∀ y ∈ scope.names,y.2 = .free→(sc0.names.lookup y.1 = some .cell ∨ sc0.names.lookup y.1 = some .free)
  len:fr.length = N'.length
  fix:∀ (i j:Nat) (x:Str),fr[i]? = some (some j)→N'[i]? = some x→N0[j]? = some x∧scope.names.lookup x = some .free∧(sc0.names.lookup x = some .cell ∨ sc0.names.lookup x = some .free)
theorem compSc_of {sc0:Scope} {N0:List Str} {scope:Scope} {N':List Str} {fr:List (Option Nat)} (h:compScB sc0 N0 scope N' fr = true) : CompSc sc0 N0 scope N' fr:=by
  unfold compScB at h
  rw [Bool.and_eq_true,Bool.and_eq_true,Bool.and_eq_true,Bool.and_eq_true,Bool.and_eq_true] at h
  obtain ⟨⟨⟨⟨⟨h1,h2⟩,h3⟩,h4⟩,h5⟩,h6⟩:=h
  refine ⟨of_decide_eq_true h1,fun y hy=>of_decide_eq_true (List.all_eq_true.mp h2 y hy),fun y hy=>of_decide_eq_true (List.all_eq_true.mp h3 y hy),fun y hy=>of_decide_eq_true (List.all_eq_true.mp h4 y hy),of_decide_eq_true h5,fun i j x e1 e2=>?_⟩
  have hi:i < N'.length:=(List.getElem?_eq_some_iff.mp e2).1
  have q:=List.all_eq_true.mp h6 i (List.mem_range.mpr hi)
  rw [e1,e2] at q
  dsimp only at q
  rw [Bool.and_eq_true,Bool.and_eq_true] at q
  exact ⟨of_decide_eq_true q.1.1,of_decide_eq_true q.1.2,of_decide_eq_true q.2⟩
noncomputable def clo (env:Env) : List (Str × NameKind)→List (Str × Addr)→List (Str × Addr)
  | [],cs=>cs
  | (n,k) :: r,cs=>if k = .free then clo env r ((n,(env.cells.lookup n).getD 0) :: cs) else clo env r cs
theorem mem_of_lookup {α:Type} : ∀ {l:List (Str × α)} {x:Str} {v:α},l.lookup x = some v→(x,v) ∈ l
  | [],_,_,h=>by simp at h
  | (y,w) :: r,x,v,h=>by
    cases hx:x == y with
    | true =>
      simp only [List.lookup_cons,hx] at h
      cases h
      rw [beq_iff_eq.mp hx]
      exact List.mem_cons_self
    | false =>
      simp only [List.lookup_cons,hx] at h
      exact List.mem_cons_of_mem _ (mem_of_lookup h)
theorem clo_mem {env:Env} : ∀ {l:List (Str × NameKind)} {cs:List (Str × Addr)} {p:Str × Addr},p ∈ clo env l cs→p ∈ cs ∨ (∃ y ∈ l,y.2 = .free∧p = (y.1,(env.cells.lookup y.1).getD 0))
  | [],_,_,h=>.inl h
  | (n,k) :: r,cs,p,h=>by
    unfold clo at h
    by_cases hk:k = .free
    · rw [if_pos hk] at h
      rcases clo_mem h with q | ⟨y,hy,e1,e2⟩
      · rcases List.mem_cons.mp q with q | q
        · exact .inr ⟨(n,k),List.mem_cons_self,hk,q⟩
        · exact .inl q
      · exact .inr ⟨y,List.mem_cons_of_mem _ hy,e1,e2⟩
    · rw [if_neg hk] at h
      rcases clo_mem h with q | ⟨y,hy,e1,e2⟩
      · exact .inl q
      · exact .inr ⟨y,List.mem_cons_of_mem _ hy,e1,e2⟩
theorem clo_keep {env:Env} : ∀ {l:List (Str × NameKind)} {cs:List (Str × Addr)} {p:Str × Addr},p ∈ cs→p ∈ clo env l cs
  | [],_,_,h=>h
  | (n,k) :: r,cs,p,h=>by
    unfold clo
    by_cases hk:k = .free
    · rw [if_pos hk]; exact clo_keep (List.mem_cons_of_mem _ h)
    · rw [if_neg hk]; exact clo_keep h
theorem clo_has {env:Env} : ∀ {l:List (Str × NameKind)} {cs:List (Str × Addr)} {x:Str},(x,NameKind.free) ∈ l→(x,(env.cells.lookup x).getD 0) ∈ clo env l cs
  | [],_,_,h=>nomatch h
  | (n,k) :: r,cs,x,h=>by
    unfold clo
    rcases List.mem_cons.mp h with q | q
    · cases q
      rw [if_pos rfl]
      exact clo_keep List.mem_cons_self
    · by_cases hk:k = .free
      · rw [if_pos hk]; exact clo_has q
      · rw [if_neg hk]; exact clo_has q
theorem lookup_of_mem {α:Type} : ∀ {l:List (Str × α)} {x:Str} {v:α},(x,v) ∈ l→∃ w,l.lookup x = some w
  | [],_,_,h=>nomatch h
  | (y,w) :: r,x,v,h=>by
    cases hx:x == y with
    | true=>exact ⟨w,by simp [List.lookup_cons,hx]⟩
    | false =>
      rcases List.mem_cons.mp h with q | q
      · cases q
        simp at hx
      · obtain ⟨w',e⟩:=lookup_of_mem q
        exact ⟨w',by simp [List.lookup_cons,hx,e]⟩
theorem closure_go {env:Env} : ∀ (l:List (Str × NameKind)) (cs:List (Str × Addr)),(∀ y ∈ l,y.2 = .free→∃ c,env.cells.lookup y.1 = some c) →
    (forIn l cs fun (x:Str × NameKind) (r:List (Str × Addr))=>(if (x.2 == NameKind.free) = true then do let a ← cellOf env x.1; pure (ForInStep.yield ((x.1,a) :: r)) else pure (ForInStep.yield r) : Sem (ForInStep (List (Str × Addr))))) = pure (clo env l cs)
  | [],cs,_=>rfl
  | (n,k) :: r,cs,h=>by
    rw [List.forIn_cons]
    by_cases hk:k = .free
    · subst hk
      obtain ⟨c,e⟩:=h (n,.free) List.mem_cons_self rfl
      have hc:cellOf env n = pure c:=by unfold cellOf; rw [e]
      have ih:=closure_go r ((n,c) :: cs) fun y hy=>h y (List.mem_cons_of_mem _ hy)
      simp only [beq_self_eq_true,if_true,hc]
      unfold clo
      rw [if_pos rfl,e]
      exact ih
    · have hb : (k == NameKind.free) = false := by simpa using hk
      have ih:=closure_go r cs fun y hy=>h y (List.mem_cons_of_mem _ hy)
      simp only [hb,Bool.false_eq_true,if_false]
      unfold clo
      rw [if_neg hk]
      exact ih
theorem closure_ok {scope:Scope} {env:Env} (h:∀ y ∈ scope.names,y.2 = .free→∃ c,env.cells.lookup y.1 = some c) : closureFor scope env = pure (clo env scope.names []):=by
  unfold closureFor
  have:=closure_go scope.names [] h
  first
    | (rw [this]; rfl)
    | (refine Eq.trans ?_ this; rfl)
    | (simp only [this]; rfl)
theorem clo_sub {env:Env} {l:List (Str × NameKind)} (h:∀ y ∈ l,y.2 = .free→∃ c,env.cells.lookup y.1 = some c) {x:Str} {c:Addr} (e:(clo env l []).lookup x = some c) : env.cells.lookup x = some c:=by
  rcases clo_mem (mem_of_lookup e) with q | ⟨y,hy,e1,e2⟩
  · exact nomatch q
  · obtain ⟨c',ec⟩:=h y hy e1
    have e3:x = y.1:=congrArg Prod.fst e2
    have e4:c = (env.cells.lookup y.1).getD 0:=congrArg Prod.snd e2
    rw [ec] at e4
    rw [e3,ec,e4]
    rfl
theorem relabel_free {scope:Scope} {env:Env} {x:Str} : scope.names.lookup x = some .free→(relabel scope env).names.lookup x = some .cell ∨ (relabel scope env).names.lookup x = some .free:=by
  show scope.names.lookup x = some .free→(scope.names.map _).lookup x = _ ∨ (scope.names.map _).lookup x = _
  induction scope.names with
  | nil=>intro h; simp at h
  | cons p r ih =>
    intro h
    obtain ⟨n,k⟩:=p
    rw [List.map_cons]
    cases hx:x == n with
    | true =>
      simp only [List.lookup_cons,hx] at h
      cases h
      dsimp only
      split
      · exact .inl (by simp [List.lookup_cons,hx])
      · exact .inr (by simp [List.lookup_cons,hx])
    | false =>
      simp only [List.lookup_cons,hx] at h
      dsimp only
      split <;> (simp only [List.lookup_cons,hx]; exact ih h)
theorem relabel_back {scope:Scope} {env:Env} {x:Str} (nc:∀ y ∈ scope.names,y.2 ≠ .cell) : ((relabel scope env).names.lookup x = some .cell ∨ (relabel scope env).names.lookup x = some .free)→scope.names.lookup x = some .free:=by
  show ((scope.names.map _).lookup x = _ ∨ (scope.names.map _).lookup x = _)→_
  revert nc
  induction scope.names with
  | nil=>intro _ h; simp at h
  | cons p r ih =>
    intro nc h
    obtain ⟨n,k⟩:=p
    rw [List.map_cons] at h
    have ih':=ih (fun y hy=>nc y (List.mem_cons_of_mem _ hy))
    cases hx:x == n with
    | true =>
      simp only [List.lookup_cons,hx]
      dsimp only at h
      by_cases hc:(k == NameKind.free && env.scope.kind == .function && env.kindOf n == some .cell) = true
      · simp only [Bool.and_eq_true] at hc
        have:k = .free:=by simpa using hc.1.1
        rw [this]
      · rw [if_neg hc] at h
        simp only [List.lookup_cons,hx] at h
        rcases h with h | h
        · cases h; exact absurd rfl (nc (n,.cell) List.mem_cons_self)
        · exact h
    | false =>
      simp only [List.lookup_cons,hx]
      dsimp only at h
      refine ih' ?_
      by_cases hc:(k == NameKind.free && env.scope.kind == .function && env.kindOf n == some .cell) = true
      · rw [if_pos hc] at h
        simpa only [List.lookup_cons,hx] using h
      · rw [if_neg hc] at h
        simpa only [List.lookup_cons,hx] using h
theorem Un.but {fs ex:List Addr} {H H':Hp} {h h1 h2:Heap} {C:Addr} (u:Un fs ex H H' h h1) (sb:Heap.SameBut C h1 h2) (hC:h.objs.size ≤ C) : Un fs ex H H' h h2:=by
  have ne:∀ b o,h.get? b = some o→b ≠ C:=fun b o e=>Nat.ne_of_lt (Nat.lt_of_lt_of_le (Heap.lt_size e) hC)
  refine ⟨fun b o e n hb hx=>(sb.2 b (ne b o e)).trans (u.keep b o e n hb hx),fun b o e n hb hx=>?_,u.free,fun b o e hx=>?_,u.tups,u.frzs,u.tbls⟩
  · obtain ⟨sl,q⟩:=u.slot b o e n hb hx
    exact ⟨sl,(sb.2 b (ne b o e)).trans q⟩
  · obtain ⟨o',q⟩:=u.there b o e hx
    exact ⟨o',(sb.2 b (ne b o e)).trans q⟩
theorem HOk.but {P:Program} {w:World} {H:Hp} {h1 h2:Heap} {C:Addr} (x:HOk P w H h1) (hC:H C = none) (sb:Heap.SameBut C h1 h2) : HOk P w H h2:=fun b ob e=>by
  refine (x b ob e).stay (fun c w' hc q=>(sb.2 c ?_).trans q) (fun _ q=>q) fun _ _ q=>q
  rintro rfl
  rcases hc with rfl | hc
  · rw [hC] at e; cases e
  · rw [hC] at hc; cases hc
noncomputable def frSt (fr:List (Option Nat)) (σ:St) : St:=fr.map fun o=>match o with | none=>none | some j=>(σ[j]?).getD none
theorem frSt_get {fr:List (Option Nat)} {σ:St} {i:Nat} {v:V} (e:(frSt fr σ)[i]? = some (some v)) : ∃ j,fr[i]? = some (some j)∧σ[j]? = some (some v):=by
  unfold frSt at e
  rw [List.getElem?_map] at e
  cases q:fr[i]? with
  | none=>rw [q] at e; cases e
  | some o =>
    rw [q] at e
    cases o with
    | none=>cases e
    | some j =>
      refine ⟨j,rfl,?_⟩
      have e':(σ[j]?).getD none = some v:=Option.some.inj e
      cases r:σ[j]? with
      | none=>rw [r] at e'; cases e'
      | some y=>rw [r] at e'; rw [← e']; rfl
section
variable {X:Cx} {pins:List (Addr × Obj)} {σ:St} {H:Hp} {s:Shared}
theorem blk_ok {scope:Scope} {N':List Str} {fr:List (Option Nat)} {fp:List Addr} (I:Inv X pins σ H s) (S:CompSc X.env.scope X.N scope N' fr) (hf:∀ b ∈ fp,FpOk X pins H b) (ho:∀ b ∈ fp,∃ o,s.heap.get? b = some o) :
    (blk X scope N' (clo X.env scope.names []) fp s.heap.objs.size s H).Ok:=by
  have has:∀ y ∈ scope.names,y.2 = .free→∃ c,X.env.cells.lookup y.1 = some c:=fun y hy hk=>I.ok.has y.1 (S.frees y hy hk)
  refine ⟨I.ok.mod,S.kind,I.ok.glob,I.ok.blt,Nat.le_refl _,fun x y c e1 e2=>I.ok.inj x y c (clo_sub has e1) (clo_sub has e2),fun x hx=>?_,fun x c hx=>(nomatch hx),I.ok.hd,I.ok.frames,.inl rfl,fun b hb=>⟨?_,fun x c e=>(hf b hb).2.2.2.2.1 x c (clo_sub has e)⟩,I.bs,Nat.le_trans I.ok.bsz I.sz,fun b o e hb=>?_,fun b hb hz=>?_,I.stack,I.stkFree⟩
  · have q:=relabel_back (env:=X.env) S.nocell (x:=x) hx
    exact lookup_of_mem (clo_has (mem_of_lookup q))
  · obtain ⟨o,e⟩:=ho b hb
    exact Nat.ne_of_lt (Heap.lt_size e)
  · rcases (hf b hb).2.2.2.1 with z | z
    · exact I.ok.noex b o e z
    · exact absurd (Nat.lt_of_lt_of_le (Heap.lt_size e) (Nat.le_trans I.ok.bsz z)) (Nat.lt_irrefl _)
  · rcases List.mem_cons.mp (I.stkSub b hz) with z | z
    · exact (hf b hb).2.1 z
    · exact (hf b hb).2.2.1 z
theorem blk_start {scope:Scope} {N':List Str} {fr:List (Option Nat)} {fp:List Addr} {h₁:Heap} {m₁:Str→Option Value} {tk:Nat} (I:Inv X pins σ H s) (S:CompSc X.env.scope X.N scope N' fr) (hf:∀ b ∈ fp,FpOk X pins H b) (ho:∀ b ∈ fp,∃ o,s.heap.get? b = some o)
    (hn:h₁.Ns s.heap.objs.size m₁) (hk:∀ b o,s.heap.get? b = some o→h₁.get? b = some o) :
    Inv (blk X scope N' (clo X.env scope.names []) fp s.heap.objs.size s H) [] (frSt fr σ) H { s with heap:=h₁,toks:=tk }:=by
  have has:∀ y ∈ scope.names,y.2 = .free→∃ c,X.env.cells.lookup y.1 = some c:=fun y hy hk=>I.ok.has y.1 (S.frees y hy hk)
  have cellK:∀ c v,s.heap.IsCell c v→h₁.IsCell c v:=fun c v ⟨o,e,d⟩=>⟨o,hk c o e,d⟩
  refine ⟨blk_ok I S hf ho,rfl,I.bare,Un.kept hk,⟨m₁,hn,fun i x v e1 e2 e3=>?_⟩,fun x c e=>?_,I.hok.fresh (Nat.le_refl _),fun x c e=>I.freeC x c (clo_sub has e),fun p hp=>(nomatch hp),I.hok.kept hk,?_⟩
  · obtain ⟨j,q1,q2⟩:=frSt_get e2
    obtain ⟨z1,z2,z3⟩:=S.fix i j x q1 e1
    obtain ⟨m,hm,hl⟩:=I.loc
    obtain ⟨u,ru,lk⟩:=hl j x v z1 q2 (.inr z3)
    refine ⟨u,ru,.inr ⟨relabel_free (env:=X.env) z2,?_⟩⟩
    rcases lk with ⟨k,_⟩ | ⟨k,c,e,z⟩
    · have k':X.env.scope.names.lookup x = some .local:=k
      rcases z3 with z3 | z3 <;> (rw [z3] at k'; cases k')
    · obtain ⟨c',ec⟩:=lookup_of_mem (clo_has (env:=X.env) (cs:=[]) (mem_of_lookup z2))
      have:=clo_sub has ec
      rw [e] at this
      cases this
      exact ⟨c,ec,cellK c _ z⟩
  · obtain ⟨v,z⟩:=I.cell x c (clo_sub has e)
    exact ⟨v,cellK c v z⟩
  · show (frSt fr σ).length = N'.length
    unfold frSt
    rw [List.length_map]
    exact S.len
end
noncomputable def PIfs (X:Cx) (ifs:List Expr) (t:TT) : Prop:=
  ∀ (pins:List (Addr × Obj)) (s:Shared) (σ:St) (H:Hp) (Q:Bool→Hp→Prop),Inv X pins σ H s→t σ H Q →
    wpAny (model X.prog X.w) X.A (forIn ifs true fun c r=>if r = true then do let ok ← isTrue c X.env (eval c X.env); pure (ForInStep.yield ok) else pure (ForInStep.yield r)) (TP X pins σ Q) X.xe s
noncomputable def tTrue:TT:=fun _ H Q=>Q true H
theorem pifs_nil {X:Cx} : PIfs X [] tTrue:=fun _ _ _ H _ I h=>wpAny_tests_nil ⟨H,I,h⟩
theorem pifs_one {X:Cx} {c:Expr} {t:TT} (h:PT X c t) : PIfs X [c] t:=fun pins s σ H Q I q=>wpAny_tests_one (h pins s σ H Q I q)
section
variable {prog:Program} {w:World} {A:Around} {R:Result→Shared→Prop} {s:Shared}
theorem compLoop_go {elt target iter:Expr} {ifs:List Expr} {scope:Scope} {pos:Pos} {it acc:Value} {env:Env} (I:Nat→Shared→Prop)
    (turn:∀ n s,I n s→wpAny (model prog w) A (pyNext it) (fun r s₁=>match r with
      | none=>R (.ok .next) s₁
      | some v=>wpAny (model prog w) A (letOwnedTupleGo target it v) (fun _ s₁'=>wpAny (model prog w) A (assign target env v) (fun _ s₂ =>
          wpAny (model prog w) A (forIn ifs true fun c r=>if r = true then do let ok ← isTrue c env (eval c env); pure (ForInStep.yield ok) else pure (ForInStep.yield r)) (fun ok s₃ =>
            if ok = true then wpAny (model prog w) A (eval elt env) (fun x s₄ =>
              wpAny (model prog w) A (call (.builtin "list.append") [acc,x]) (fun _ s₅=>∃ m,m < n∧I m s₅) (fun _ _=>False) s₄) (fun _ _=>False) s₃
            else ∃ m,m < n∧I m s₃) (fun _ _=>False) s₂) (fun _ _=>False) s₁') (fun _ _=>False) s₁) (fun _ _=>False) s)
    (n:Nat) (h:I n s) :
    codeAny (model prog w) A (.compLoop (.ListComp elt [⟨target,iter,ifs,0⟩] scope pos) 0 it acc env) R s:=by
  refine codeAny_loop rfl I (fun n s hI=>?_) n h
  show wpAny _ A ((compTurn (.ListComp elt [⟨target,iter,ifs,0⟩] scope pos) 0 it acc env).onRaise (fun x=>do noteFrame x env; theTreesLotGoes x)) _ _ s
  refine wpAny_noted ?_
  rw [compTurn_list]
  refine wpAny_mono (E:=fun _ _=>False) ?_ (fun _ _ q=>q) (fun _ _ f=>f.elim)
  refine wpAny_bind (wpAny_standAt (wpAny_bind (wpAny_mono (turn n s hI) (fun r s₁ h₁=>?_) fun _ _ h'=>h')))
  cases r with
  | none=>exact wpAny_pure h₁
  | some v =>
    refine wpAny_bind (wpAny_mono h₁ (fun _ s₁' h₁'=>?_) fun _ _ h'=>h')
    refine wpAny_bind (wpAny_mono h₁' (fun _ s₂ h₂=>wpAny_bind (wpAny_mono h₂ (fun ok s₃ h₃=>?_) fun _ _ h'=>h')) fun _ _ h'=>h')
    cases ok with
    | false=>exact wpAny_pure ⟨rfl,h₃⟩
    | true =>
      exact wpAny_bind (wpAny_bind (wpAny_mono h₃ (fun x s₄ h₄=>wpAny_bind (wpAny_mono h₄ (fun _ s₅ h₅=>wpAny_pure (wpAny_pure ⟨rfl,h₅⟩)) fun _ _ h'=>h')) fun _ _ h'=>h'))
end
noncomputable def LcW (J:It) (D:Addr) (g:TG) (tc:TT) (te:TE) (Q:Hp→Prop) (σ0:St) (H0:Hp) : Prop:=
  ∃ W:Nat→Nat→List V→St→Hp→Prop,(∃ m,W 0 m [] σ0 H0)∧∀ i m ys σ H,W i m ys σ H →
    ((J.stop i H∧Q H) ∨ (J.go i H∧∃ N:List V→St→Hp→Prop,(∀ ys' σ' H',N ys' σ' H'→∃ m',m' < m∧W (i + 1) m' ys' σ' H')∧∀ x H',J.yld i H x H'→g x σ H' fun σ2 H2=>tc σ2 H2 fun b H3 =>
      if b = true then te σ2 H3 fun v H4=>H4 D = some (.lst ys)∧ys.length < sizeLine∧N (ys ++ [v]) σ2 (upd H4 D (.lst (ys ++ [v])))
      else N ys σ2 H3))
noncomputable def tLC (wi:TI) (fr:List (Option Nat)) (g:TG) (tc:TT) (te:TE) : TE:=fun σ H Q=>wi σ H fun J H1=>∀ D,H1 D = none→LcW J D g tc te (Q (.ref D)) (frSt fr σ) (upd H1 D (.lst []))
theorem blk_loop {X:Cx} {tg iter elt:Expr} {ifs:List Expr} {scope:Scope} {pos:Pos} {g:TG} {tc:TT} {te:TE} {fp:List Addr} {it D:Addr} {tn:Nat→Heap→Prop} {J:It} {Q:Hp→Prop} {σ0:St} {H0:Hp} {s:Shared} {R:Result→Shared→Prop}
    (hxe:X.xe = fun _ _=>False) (hc:X.calm = true) (hpn:X.pn = []) (hex:X.ex = fp) (hg:PG X tg g) (ht:PIfs X ifs tc) (he:PE X elt te) (T:Turn X.prog X.w X.K tg J fp it tn)
    (hf:∀ b ∈ fp,b ≠ X.env.locals∧b ∉ X.fs∧∀ x c,X.env.cells.lookup x = some c→c ≠ b) (hW:LcW J D g tc te Q σ0 H0) (B:Inv X [] σ0 H0 s) (st:tn 0 s.heap) (fr:∀ b ∈ fp,H0 b = none)
    (fin:∀ σ H s',Inv X [] σ H s'→Q H→R (.ok .next) s') :
    codeAny (model X.prog X.w) X.A (.compLoop (.ListComp elt [⟨tg,iter,ifs,0⟩] scope pos) 0 (.ref it) (.ref D) X.env) R s:=by
  obtain ⟨W,⟨m0,w0⟩,turn⟩:=hW
  have stat:∀ {H':Hp},(∀ b ∈ fp,H' b = none)→∀ b ∈ fp,FpOk X [] H' b:=fun {H'} hn b hb =>
    ⟨hn b hb,(hf b hb).1,(hf b hb).2.1,.inl (by rw [hex]; exact hb),(hf b hb).2.2,fun p hp=>by rw [hpn] at hp; exact nomatch hp⟩
  refine compLoop_go (fun n s'=>∃ i ys σ' H',Inv X [] σ' H' s'∧tn i s'.heap∧(∀ b ∈ fp,H' b = none)∧W i n ys σ' H') ?_ m0 ⟨0,[],σ0,H0,B,st,fr,w0⟩
  rintro n s3 ⟨i,ys,σ3,H3,I3,st3,fr3,w3⟩
  rcases turn i n ys σ3 H3 w3 with ⟨stop,qn⟩ | ⟨go,N,hN,step⟩
  · refine thn (T.done X rfl rfl rfl hc i [] s3 σ3 H3 _ I3 (stat fr3) st3 stop) fun r s4 ⟨hr,I4⟩=>?_
    subst hr
    exact fin σ3 H3 s4 I4 qn
  · refine thn (T.item X rfl rfl rfl hc i [] s3 σ3 H3 _ I3 (stat fr3) st3 go) fun r s4 ⟨u,hr,h4⟩=>?_
    subst hr
    refine thn h4 fun _ s5 ⟨x,H5,I5,r5,y5,st5,fr5⟩=>?_
    have I5':=I5.pinned (stat fr5) (T.obj _ _ st5)
    have q1:=hg _ s5 σ3 H5 x u _ I5' r5 (step x H5 y5)
    rw [hxe] at q1
    refine thn q1 fun _ s6 ⟨σ6,H6,I6,q6⟩=>?_
    have q2:=ht _ s6 σ6 H6 _ I6 q6
    rw [hxe] at q2
    refine thn q2 fun ok s7 ⟨H7,I7,q7⟩=>?_
    have again:∀ {ys':List V} {σ8:St} {H8:Hp} {s8:Shared},Inv X ([] ++ pinsAt fp s5.heap) σ8 H8 s8→N ys' σ8 H8→∃ m,m < n∧∃ i ys σ' H',Inv X [] σ' H' s8∧tn i s8.heap∧(∀ b ∈ fp,H' b = none)∧W i m ys σ' H':=fun {ys' σ8 H8 s8} I8 n8=>by
      obtain ⟨m',hm,w8⟩:=hN ys' σ8 H8 n8
      refine ⟨m',hm,i + 1,ys',σ8,H8,I8.unpinned,T.keep _ _ _ st5 fun b hb o e=>(I8.pin (b,o) (List.mem_append_right _ (List.mem_append_right _ (mem_pinsAt hb e)))).1,fun b hb=>?_,w8⟩
      obtain ⟨o,e,d⟩:=T.obj _ _ st5 b hb
      exact (I8.pin (b,o) (List.mem_append_right _ (List.mem_append_right _ (mem_pinsAt hb e)))).2.1
    cases ok with
    | false=>exact again I7 q7
    | true =>
      have q3:=he _ s7 σ6 H7 _ I7 q7
      rw [hxe] at q3
      show wpAny _ _ (eval elt X.env) _ _ s7
      refine thn q3 fun xv s8 ⟨v,H8,I8,r8,hD8,hz8,n8⟩=>?_
      have q4:=mt_append (X:=X) _ s8 σ6 H8 (.ref D) [v] (.ref D) [xv] (fun _ H9=>N (ys ++ [v]) σ6 H9) I8 rfl (.cons r8 .nil) ⟨D,ys,v,rfl,rfl,hD8,hz8,n8⟩
      rw [hxe] at q4
      refine thn q4 fun _ s9 ⟨_,H9,I9,_,n9⟩=>?_
      exact again I9 n9
section
variable {X:Cx} {tg iter elt:Expr} {ifs:List Expr} {scope:Scope} {pos:Pos} {wi:TI} {g:TG} {tc:TT} {te:TE}
theorem blk_run {pins:List (Addr × Obj)} {σ:St} {H2:Hp} {s2:Shared} {it:Addr} {fp:List Addr} {tn:Nat→Heap→Prop} {J:It} {Q:Addr→Hp→Prop} {N':List Str} {fr:List (Option Nat)} {RR:Value→Addr→Result→Shared→Prop}
    (hc:X.calm = true) (S:CompSc X.env.scope X.N scope N' fr)
    (hg:∀ cl fp C s H,PG (blk X scope N' cl fp C s H) tg g) (ht:∀ cl fp C s H,PIfs (blk X scope N' cl fp C s H) ifs tc) (he:∀ cl fp C s H,PE (blk X scope N' cl fp C s H) elt te)
    (I2:Inv X pins σ H2 s2) (T:Turn X.prog X.w X.K tg J fp it tn) (st2:tn 0 s2.heap) (f2:∀ b ∈ fp,FpOk X pins H2 b)
    (h:∀ D,H2 D = none→LcW J D g tc te (Q D) (frSt fr σ) (upd H2 D (.lst [])))
    (fin:∀ D C s' m' H',s2.heap.objs.size ≤ C→C ≠ D→H' C = none→s'.heap.Ns C m'→(∀ h',Heap.SameBut C s'.heap h'→Inv X pins σ H' { s' with heap:=h' })→Q D H'→RR (.ref D) C (.ok .next) s') {E:Value→Shared→Prop} :
    wpAny (model X.prog X.w) X.A (newList []) (fun acc s₃=>wpAny (model X.prog X.w) X.A (newFunctionEnv scope X.env.globals (clo X.env scope.names []) [] X.env.qual none .none (some X.env)) (fun cenv s₄ =>
      codeAny (model X.prog X.w) X.A (.compStart (.ListComp elt [⟨tg,iter,ifs,0⟩] scope pos) 0 (.ref it) acc { cenv with scope:=relabel scope X.env }) (RR acc cenv.locals) s₄) E s₃) E s2:=by
  refine wpAny_newObj_type (wpAny_newFunctionEnv S.nocell (by intro y hy; simp at hy) (fun h₁ hns₁ hsb₁=>?_) S.kind)
  dsimp only at hns₁ hsb₁ ⊢
  have hD:H2 s2.heap.objs.size = none:=I2.hok.fresh (Nat.le_refl _)
  have I3:Inv X pins σ (upd H2 s2.heap.objs.size (.lst [])) { s2 with heap:=s2.heap.push { cls:=.type "list",dict:=none,data:=.seq ([] : List Value).toArray },toks:=s2.toks }:=I2.lnew (its:=[]) .nil (Nat.zero_le _)
  generalize hH2:s2.heap.push { cls:=.type "list",dict:=none,data:=.seq ([] : List Value).toArray } = HH at hns₁ hsb₁ I3 ⊢
  have hC:HH.objs.size = s2.heap.objs.size + 1:=by rw [← hH2,Heap.size_push]
  have old:∀ b o,HH.get? b = some o→h₁.get? b = some o:=fun b o e=>hsb₁.extBut b o (Nat.ne_of_lt (Heap.lt_size e)) (Heap.get?_push_of_some _ e)
  have old2:∀ b o,s2.heap.get? b = some o→HH.get? b = some o:=fun b o e=>hH2 ▸ Heap.get?_push_of_some _ e
  have ofp:∀ b ∈ fp,∃ o,s2.heap.get? b = some o:=fun b hb=>by
    obtain ⟨o,e,_⟩:=T.obj _ _ st2 b hb
    exact ⟨o,e⟩
  have neD:∀ b ∈ fp,b ≠ s2.heap.objs.size:=fun b hb=>by
    obtain ⟨o,e⟩:=ofp b hb
    exact Nat.ne_of_lt (Heap.lt_size e)
  have f3:∀ b ∈ fp,FpOk X pins (upd H2 s2.heap.objs.size (.lst [])) b:=fun b hb=>⟨by rw [upd_ne (neD b hb)]; exact (f2 b hb).1,(f2 b hb).2⟩
  have ofp3:∀ b ∈ fp,∃ o,HH.get? b = some o:=fun b hb=>by
    obtain ⟨o,e⟩:=ofp b hb
    exact ⟨o,old2 b o e⟩
  have B:=blk_start (h₁:=h₁) (tk:=s2.toks + ([] : List (Str × Value)).length) I3 S f3 ofp3 hns₁ old
  have st1:tn 0 h₁:=T.keep _ _ _ st2 fun b hb o e=>old b o (old2 b o e)
  have loop:codeAny (model X.prog X.w) X.A (.compLoop (.ListComp elt [⟨tg,iter,ifs,0⟩] scope pos) 0 (.ref it) (.ref s2.heap.objs.size) (compEnvC scope (clo X.env scope.names []) HH.objs.size X.env))
      (RR (.ref s2.heap.objs.size) HH.objs.size) { s2 with heap:=h₁,toks:=s2.toks + ([] : List (Str × Value)).length }:=by
    refine blk_loop (X:=blk X scope N' (clo X.env scope.names []) fp HH.objs.size { s2 with heap:=HH,toks:=s2.toks } (upd H2 s2.heap.objs.size (.lst []))) (fp:=fp) rfl hc rfl rfl (hg _ _ _ _ _) (ht _ _ _ _ _) (he _ _ _ _ _) T
      (fun b hb=>⟨(B.ok.exf b hb).1,B.ok.exfs b hb,(B.ok.exf b hb).2⟩) (h _ hD) B st1 (fun b hb=>(f3 b hb).1) fun σ4 H4 s4 I4 q4=>?_
    obtain ⟨m4,hn4,_⟩:=I4.loc
    refine fin _ HH.objs.size s4 m4 H4 (by rw [hC]; exact Nat.le_succ _) (by rw [hC]; exact Nat.succ_ne_self _) I4.free hn4 (fun h' sb=>?_) q4
    have u4:Un (frs X.stack) fp (upd H2 s2.heap.objs.size (.lst [])) H4 HH s4.heap:=I4.base
    exact I3.call' (s':={ s4 with heap:=h' }) I4.os (u4.but sb (Nat.le_refl _)) (I4.hok.but I4.free sb) I4.bare fun b hb=>⟨(f2 b hb).2.2.2.1,(f2 b hb).2.1,(f2 b hb).2.2.2.2.1,(f2 b hb).2.2.2.2.2⟩
  exact codeAny_compStart_list loop (T.self _ 0 _ _ _ st1 loop)
theorem pe_lc (N':List Str) (fr:List (Option Nat)) (hc:X.calm = true) (hi:PI X tg iter wi)
    (hg:∀ cl fp C s H,PG (blk X scope N' cl fp C s H) tg g) (ht:∀ cl fp C s H,PIfs (blk X scope N' cl fp C s H) ifs tc) (he:∀ cl fp C s H,PE (blk X scope N' cl fp C s H) elt te)
    {sc0:Scope} {N0:List Str} (hsc:X.env.scope = sc0:=by rfl) (hN:X.N = N0:=by rfl) (hok:compScB sc0 N0 scope N' fr = true:=by decide +kernel) (hs:∀ x,foldedSetIterable iter X.env x = pure x:=by intro _; rfl) :
    PE X (.ListComp elt [⟨tg,iter,ifs,0⟩] scope pos) (tLC wi fr g tc te):=by
  intro pins s σ H Q I h
  have S:CompSc X.env.scope X.N scope N' fr:=by rw [hsc,hN]; exact compSc_of hok
  have has:∀ y ∈ scope.names,y.2 = .free→∃ c,X.env.cells.lookup y.1 = some c:=fun y hy hk=>I.ok.has y.1 (S.frees y hy hk)
  rw [eval_ListComp]
  refine wpAny_comprehension_free (use:=none) rfl hs (closure_ok has) S.kind S.names (thn (hi pins s σ H _ I h) fun v s1 h1=>thn h1 fun itv s2 h2=>?_)
  obtain ⟨it,fp,tn,J,H2,rfl,I2,T,st2,f2,w2⟩:=h2
  refine blk_run (Q:=fun D=>Q (.ref D)) (RR:=fun acc C=>compPost (model X.prog X.w) X.A X.xe none (EP X pins σ Q) acc C) hc S hg ht he I2 T st2 f2 w2 fun D C s' m' H' h1 h2 h3 h4 h5 q=>?_
  exact ⟨m',h4,fun h' sb=>⟨.ref D,H',h5 h' sb,rfl,q⟩⟩
noncomputable def tSetLC (i:Nat) (t:TE) : TS:=fun D σ H=>t σ H fun v H1=>D.nx (σ.set i (some v)) H1
theorem ps_setLC {i:Nat} {y:Str} {py spos:Pos} (hNd:X.N.Nodup) (hy:X.N[i]? = some y) (hly:Loc X.env.scope y) (N':List Str) (fr:List (Option Nat)) (hc:X.calm = true) (hi:PI X tg iter wi)
    (hg:∀ cl fp C s H,PG (blk X scope N' cl fp C s H) tg g) (ht:∀ cl fp C s H,PIfs (blk X scope N' cl fp C s H) ifs tc) (he:∀ cl fp C s H,PE (blk X scope N' cl fp C s H) elt te)
    {sc0:Scope} {N0:List Str} (hsw:swapsWith (.ListComp elt [⟨tg,iter,ifs,0⟩] scope pos) (some (.Name y py)) spos.line X.env = pure true:=by rfl)
    (hsc:X.env.scope = sc0:=by rfl) (hN:X.N = N0:=by rfl) (hok:compScB sc0 N0 scope N' fr = true:=by decide +kernel) (hs:∀ x,foldedSetIterable iter X.env x = pure x:=by intro _; rfl)
    (hf:X.fn y = true ∨ X.env.scope.names.lookup y = some .local:=by first | exact .inl rfl | exact .inr rfl) :
    PS X (.Assign [.Name y py] (.ListComp elt [⟨tg,iter,ifs,0⟩] scope pos) spos) (tSetLC i (tLC wi fr g tc te)):=by
  intro pins s σ H D I h
  have S:CompSc X.env.scope X.N scope N' fr:=by rw [hsc,hN]; exact compSc_of hok
  have has:∀ y ∈ scope.names,y.2 = .free→∃ c,X.env.cells.lookup y.1 = some c:=fun y hy hk=>I.ok.has y.1 (S.frees y hy hk)
  rw [exec_Assign_Name_used _ _ _ _ hsw]
  refine wpAny_bind (wpAny_standAt (wpAny_bind ?_))
  show wpAny _ X.A (do let _ ← comprehension (.ListComp elt [⟨tg,iter,ifs,0⟩] scope pos) scope X.env _ (newList []) false (eval iter X.env) (some (assign (.Name y py) X.env))) _ _ s
  refine wpAny_bind (wpAny_mono (wpAny_comprehension_free (use:=some (assign (.Name y py) X.env)) (Q:=fun _ s'=>SP X pins D .next s') rfl hs (closure_ok has) S.kind S.names
    (thn (hi pins s σ H _ I h) fun v s1 h1=>thn h1 fun itv s2 h2=>?_)) (fun _ s' hq=>wpAny_pure (wpAny_pure hq)) fun _ _ e=>e)
  obtain ⟨it,fp,tn,J,H2,rfl,I2,T,st2,f2,w2⟩:=h2
  refine blk_run (Q:=fun B H1=>D.nx (σ.set i (some (.ref B))) H1) (RR:=fun acc C=>compPost (model X.prog X.w) X.A X.xe (some (assign (.Name y py) X.env)) (fun _ s'=>SP X pins D .next s') acc C) hc S hg ht he I2 T st2 f2 w2 fun B C s' m' H' h1 h2 h3 h4 h5 q=>?_
  have I5:Inv X pins σ H' { s' with heap:=s'.heap }:=h5 s'.heap (.refl ..)
  show wpAny _ X.A (assign (.Name y py) X.env (.ref B)) _ _ s'
  refine wpAny_assign_Name (store_ok2 (v:=.ref B) I5 hNd hy hly rfl (fun s6 I6 ⟨a,sb,ha⟩=>?_) hf)
  have nL:C ≠ X.env.locals:=Nat.ne_of_gt (Nat.lt_of_lt_of_le I2.lt h1)
  have nC:∀ x c,X.env.cells.lookup x = some c→c ≠ C:=fun x c e=>by
    obtain ⟨v,o,ho,_⟩:=I2.cell x c e
    exact Nat.ne_of_lt (Nat.lt_of_lt_of_le (Heap.lt_size ho) h1)
  have nP:∀ p ∈ X.pn ++ pins,p.1 ≠ C:=fun p hp=>by
    have e:=(I2.pin p hp).1
    exact Nat.ne_of_lt (Nat.lt_of_lt_of_le (Heap.lt_size e) h1)
  have na:a ≠ C:=by
    rcases ha with e | e
    · rw [e]; exact nL.symm
    · exact nC _ _ e
  refine ⟨m',h4.sameBut sb (Ne.symm na),fun h' sb'=>⟨σ.set i (some (.ref B)),H',?_,q⟩⟩
  exact I6.turned (t':=s6.toks) (fun b o hb e=>(sb'.2 b hb).trans e) h3 nL (.inr (Nat.le_trans I2.sz h1)) nC nP
end
end L2
namespace L2
open PySem PySem.Spec PyProof.Rows
section
variable {X:Cx}
noncomputable def rSum (K:PySem.W.Frag) : List V→Hp→VK→Prop:=fun xs H Q=>∃ (p:Addr) (ns:List Int),xs = [.ref p]∧SqL K H p (ns.map V.int)∧Q (.int ns.sum) H
theorem call_sumL (hc:X.calm = true) : CallR X (.builtin "sum") (rSum X.K):=by
  intro pins s σ H xs us Q I r h
  obtain ⟨p,ns,rfl,hp,q⟩:=h
  obtain ⟨u,rfl,ru⟩:=vals1 r
  cases ru
  obtain ⟨its,rv,pl,hz⟩:=I.list hp
  have hi:IntsAre its ns:=intsAre_of rv
  obtain ⟨zs,e⟩:=hi.allInts.items
  refine sum_intListG (I.ok.hd hc) (xs:=zs) (e ▸ pl.isList) fun h' tk t' hk=>⟨.int ns.sum,H,I.kept hk,⟨t',?_⟩,q⟩
  have e2:=congrArg Array.toList e
  have e3:numsOf (intItems zs).toList = ns:=by rw [← e]; exact hi.numsOf
  rw [nums_intItems] at e3
  rw [preSum_eq,List.take_of_length_le (by simp),e3]
noncomputable def rLen (K:PySem.W.Frag) : List V→Hp→VK→Prop:=fun xs H Q=>∃ x n,xs = [x]∧LenV K x H n∧Q (.int n) H
theorem call_lenK:CallR X (.builtin "len") (rLen X.K):=call_len
theorem small_len {n:Nat} (h:n ≤ 1000) : n ≤ sizeLine:=Nat.le_of_lt (small1000 h)
noncomputable def stepV {α:Type} (xs:List α) (lo hi st:Option Int) : List α:=(sliceRange (sliceBounds lo hi st xs.length).1 (sliceBounds lo hi st xs.length).2.1 (sliceBounds lo hi st xs.length).2.2).filterMap (fun j=>xs[j]?)
theorem vals_pick {xs:List V} {its:List Value} (r:Vals xs its) : ∀ js:List Nat,Vals (js.filterMap fun j=>xs[j]?) (js.filterMap fun j=>its[j]?)
  | []=>.nil
  | j :: js=>by
    rw [List.filterMap_cons,List.filterMap_cons]
    cases e:xs[j]? with
    | none=>rw [r.none_of e]; exact vals_pick r js
    | some x =>
      obtain ⟨u,e1,e2⟩:=r.get e
      rw [e1]
      exact .cons e2 (vals_pick r js)
theorem stepV_map {α β:Type} (f:α→β) (xs:List α) (lo hi st:Option Int) : stepV (xs.map f) lo hi st = (stepV xs lo hi st).map f:=by
  unfold stepV
  rw [List.length_map]
  generalize sliceRange _ _ _ = js
  induction js with
  | nil=>rfl
  | cons j js ih =>
    rw [List.filterMap_cons,List.filterMap_cons,List.getElem?_map]
    cases xs[j]? with
    | none=>simpa using ih
    | some x=>simpa using ih
theorem stepV_len {xs:List V} {its:List Value} (r:Vals xs its) (lo hi st:Option Int) : (stepV xs lo hi st).length ≤ xs.length:=by
  have h:=slicePick_size_le its.toArray lo hi st
  have e:Vals (stepV xs lo hi st) (slicePick its.toArray lo hi st).toList:=by
    unfold stepV slicePick
    rw [show its.toArray.size = xs.length from r.length.symm]
    have:=vals_pick r (sliceRange (sliceBounds lo hi st xs.length).1 (sliceBounds lo hi st xs.length).2.1 (sliceBounds lo hi st xs.length).2.2)
    simpa using this
  have e1:=e.length
  have e2:=r.length
  rw [e1,Array.length_toList]
  have h3:its.toArray.size = its.length:=List.size_toArray
  lia
noncomputable def tSlS (K:PySem.W.Frag) (te:TE) (tl th ts:TO) : TE:=fun σ H Q=>te σ H fun x H1=>tl σ H1 fun l H2=>th σ H2 fun u H3=>ts σ H3 fun st H4 =>
  ∃ a xs,x = .ref a∧SqL K H4 a xs∧st ≠ some 0∧∀ p,H4 p = none→Q (.ref p) (upd H4 p (.lst (stepV xs l u st)))
theorem pe_sliceS {e:Expr} {te:TE} {lo hi:Option Expr} {st:Expr} {tl th ts:TO} {p2 pos:Pos} (he:PE X e te) (hl:PO X lo tl) (hu:PO X hi th) (hs:PO X (some st) ts) : PE X (.Subscript e (.Slice lo hi (some st) p2) pos) (tSlS X.K te tl th ts):=by
  intro pins s σ H Q I h
  refine Subscript_ (thn (he pins s σ H _ I h) fun v s1 ⟨x,H1,I1,r1,q1⟩=>?_)
  refine wpAny_Slice (thn (hl pins s1 σ H1 _ I1 q1) fun vl s2 ⟨l,H2,I2,pl,q2⟩=>thn (hu pins s2 σ H2 _ I2 q2) fun vu s3 ⟨u,H3,I3,pu,q3⟩=>thn (hs pins s3 σ H3 _ I3 q3) fun vs s4 ⟨sv,H4,I4,ps,q4⟩=>?_)
  obtain ⟨a,xs,rfl,hx,h0,q⟩:=q4
  cases r1
  have I5:Inv X pins σ H4 { s4 with heap:=s4.heap.push { cls:=.type "slice",data:=.fields #[vl,vu,vs] } }:=I4.kept (t':=s4.toks) fun b ob q=>Heap.get?_push_of_some _ q
  obtain ⟨its,r,ht,hz⟩:=I5.list hx
  have hlen:=r.length
  have hg:wpAny (model X.prog X.w) X.A (getItem (.ref a) (.ref s4.heap.objs.size)) (EP X pins σ Q) X.xe { s4 with heap:=s4.heap.push { cls:=.type "slice",data:=.fields #[vl,vu,vs] } }:=by
    refine wpAny_getItem_list_slice ht.isList (Heap.IsSliceOf.new ..) pl pu ps h0 ?_ (by rw [List.size_toArray] <;> lia)
    refine ⟨.ref _,_,I5.laid (t':=s4.toks) (o:=.lst (stepV xs l u sv)) (fun b ob q=>Heap.get?_push_of_some _ q) (Nat.le_refl _) ?_,rfl,q _ (I5.hok.fresh (Nat.le_refl _))⟩
    refine ⟨Nat.le_trans (stepV_len r l u sv) hz,(slicePick its.toArray l u sv).toList,0,?_,?_⟩
    · unfold stepV slicePick
      rw [show its.toArray.size = xs.length from r.length.symm]
      have:=vals_pick r (sliceRange (sliceBounds l u sv xs.length).1 (sliceBounds l u sv xs.length).2.1 (sliceBounds l u sv xs.length).2.2)
      simpa using this
    · rw [Array.toArray_toList]
      exact Heap.get?_push_size _ rfl
  show wpAny (model X.prog X.w) X.A (subscriptTail e (.Slice lo hi (some st) p2) (.ref a) (.ref s4.heap.objs.size)) (EP X pins σ Q) X.xe { s4 with heap:=s4.heap.push { cls:=.type "slice",data:=.fields #[vl,vu,vs] } }
  exact tail_any (ops:=[.ref a,.ref s4.heap.objs.size]) ht.isList.typeIs slot_list_getitem.lookup hg (by with_unfolding_all rfl)
inductive EqT (K:PySem.W.Frag) (H:Hp) : Nat→V→V→Prop where
  | sc {n:Nat} {x:V} (f:flatV x = true) : EqT K H n x x
  | rf {n:Nat} {a:Addr} : EqT K H n (.ref a) (.ref a)
  | tup {n:Nat} {a b:Addr} {xs ys:List V} (h1:SqT K H a xs) (h2:SqT K H b ys) (hl:xs.length = ys.length) (h:∀ (i:Nat) (x y:V),xs[i]? = some x→ys[i]? = some y→EqT K H n x y) : EqT K H (n + 1) (.ref a) (.ref b)
  | lst {n:Nat} {a b:Addr} {xs ys:List V} (h1:SqL K H a xs) (h2:SqL K H b ys) (hl:xs.length = ys.length) (h:∀ (i:Nat) (x y:V),xs[i]? = some x→ys[i]? = some y→EqT K H n x y) : EqT K H (n + 1) (.ref a) (.ref b)
theorem call_rangeV:CallR X (.type "range") (fun xs H Q=>∃ j,xs = [.int j]∧∀ p,H p = none→Q (.ref p) (upd H p (.rng 0 j))):=by
  intro pins s σ H xs us Q I r h
  obtain ⟨j,rfl,q⟩:=h
  obtain ⟨u,rfl,t,rfl⟩:=vals1 r
  refine call_range_1 ⟨.ref s.heap.objs.size,_,I.laid (fun b ob q=>Heap.get?_push_of_some _ q) (Nat.le_refl _) ?_,rfl,q _ (I.hok.fresh (Nat.le_refl _))⟩
  exact ⟨_,_,_,Heap.get?_push_size _ rfl⟩
noncomputable def Its (a c:Int) (n:Nat) : It:=⟨fun i _=>i < n,fun i H x H'=>H' = H∧x = .int (a + (i:Nat) * c),fun i _=>n ≤ i⟩
theorem turn_steps {P:Program} {w:World} {K:PySem.W.Frag} {tg:Expr} (it:Addr) (a c:Int) (n:Nat) : Turn P w K tg (Its a c n) [it] it (fun i h=>IsRangeIter h it (a + (i:Nat) * c) ((n:Int) - (i:Nat)) c) where
  mem:=by simp
  obj:=fun i h st b hb=>by
    have e:b = it:=by simpa using hb
    subst e
    exact ⟨_,st,fun v z=>by
      have z':Data.fields _ = Data.cell v:=z
      cases z'⟩
  keep:=fun i h h' st k=>k it (by simp) _ st
  item:=by
    intro X hP hw hK hc i pins s σ H E I hf st hg
    subst hP hw hK
    obtain ⟨f0,f1,f2,f3,f4,f5⟩:=hf it (by simp)
    have W:=Walks.range (prog:=X.prog) (w:=X.w) (I.ok.hd hc) it a c n
    refine W.item i s _ _ hg st fun v h' tk hv st' kk=>?_
    obtain ⟨t,rfl⟩:=hv
    have I1:Inv X pins σ H { s with heap:=h',toks:=tk }:=I.turned (fun b o hb e=>kk b o (by simpa using hb) e) f0 f1 f3 f4 f5
    exact ⟨_,rfl,go_of (s:={ s with heap:=h',toks:=tk }) (n:="range_iterator") st' rfl rfl (by decide) ⟨.int (a + (i:Nat) * c),H,I1,⟨t,rfl⟩,⟨rfl,rfl⟩,st',fun b hb=>(hf b hb).1⟩⟩
  done:=by
    intro X hP hw hK hc i pins s σ H E I hf st hg
    subst hP hw hK
    obtain ⟨f0,f1,f2,f3,f4,f5⟩:=hf it (by simp)
    exact wpAny_pyNext_range_end (I.ok.hd hc) st (by have:n ≤ i:=hg; lia) fun h' eb=>⟨rfl,I.turned (t':=s.toks) (fun b o hb e=>eb b o hb e) f0 f1 f3 f4 f5⟩
  self:=fun _ _ _ _ _ st h=>wpAny_pyIter_rangeiter st h
end
end L2
namespace WS
noncomputable abbrev S3:=Int × Int × Int
noncomputable def mx (i j:Int) : Int:=if j > i then j else i
noncomputable def above1 (b:S3) (L:Int) : Int:=b.2.2 * mx 0 (b.2.1 - mx b.1 L)
noncomputable def at1 (b:S3) (L:Int) : Int:=if b.1 ≤ L∧L < b.2.1 then b.2.2 else 0
noncomputable def above (bs:List S3) (L:Int) : Int:=(bs.map fun b=>above1 b L).sum
noncomputable def atL (bs:List S3) (L:Int) : Int:=(bs.map fun b=>at1 b L).sum
noncomputable def hotB (hs:List S3) : List S3:=hs.map fun x=>(x.2.1,x.1,x.2.2)
noncomputable def coldB (g:Int) (cs:List S3) : List S3:=cs.map fun x=>(x.1 + g,x.2.1 + g,x.2.2)
theorem above1_step (b:S3) (L:Int) : above1 b L = above1 b (L + 1) + at1 b L:=by
  obtain ⟨lo,hi,r⟩:=b
  unfold above1 at1 mx
  dsimp only
  by_cases h1:lo ≤ L∧L < hi
  · rw [if_pos h1]
    have a1:(if L > lo then L else lo) = L:=by split <;> lia
    have a2:(if L + 1 > lo then L + 1 else lo) = L + 1:=by split <;> lia
    rw [a1,a2]
    have a3:(if hi - L > 0 then hi - L else 0) = hi - L:=by split <;> lia
    have a4:(if hi - (L + 1) > 0 then hi - (L + 1) else 0) = hi - L - 1:=by split <;> lia
    rw [a3,a4,show hi - L = (hi - L - 1) + 1 by lia,Int.mul_add,Int.mul_one]
    congr 2
    lia
  · rw [if_neg h1]
    have a:(if hi - (if L > lo then L else lo) > 0 then hi - (if L > lo then L else lo) else 0) = (if hi - (if L + 1 > lo then L + 1 else lo) > 0 then hi - (if L + 1 > lo then L + 1 else lo) else 0):=by
      by_cases c1:L > lo <;> by_cases c2:L + 1 > lo <;> simp only [c1,c2,if_true,if_false] <;> split <;> split <;> lia
    rw [a,Int.add_zero]
theorem above_step (L:Int) : ∀ bs:List S3,above bs L = above bs (L + 1) + atL bs L
  | []=>rfl
  | b :: bs=>by
    have ih:=above_step L bs
    unfold above atL at *
    rw [List.map_cons,List.map_cons,List.map_cons,List.sum_cons,List.sum_cons,List.sum_cons,ih,above1_step b L]
    lia
theorem above_top {L:Int} : ∀ {bs:List S3},(∀ b ∈ bs,b.2.1 ≤ L)→above bs L = 0
  | [],_=>rfl
  | b :: bs,h=>by
    have ih:=above_top (L:=L) (bs:=bs) fun x hx=>h x (List.mem_cons_of_mem _ hx)
    have hb:=h b List.mem_cons_self
    have e:above1 b L = 0:=by
      unfold above1 mx
      have:(if b.2.1 - (if L > b.1 then L else b.1) > 0 then b.2.1 - (if L > b.1 then L else b.1) else 0) = 0:=by split <;> split at * <;> lia
      rw [this,Int.mul_zero]
    unfold above at *
    rw [List.map_cons,List.sum_cons,ih,e]
    rfl
theorem atL_snoc (bs:List S3) (b:S3) (L:Int) : atL (bs ++ [b]) L = atL bs L + at1 b L:=by
  unfold atL
  rw [List.map_append,List.sum_append]
  simp
noncomputable def lackF (g:Int) (hs cs:List S3) (L:Int) : Int:=above (coldB g cs) L - above (hotB hs) L
theorem lackF_step (g:Int) (hs cs:List S3) (L:Int) : lackF g hs cs L = lackF g hs cs (L + 1) + atL (coldB g cs) L - atL (hotB hs) L:=by
  unfold lackF
  rw [above_step L (coldB g cs),above_step L (hotB hs)]
  lia
structure HotOk (x:S3) : Prop where
  lo:0 ≤ x.2.1
  lt:x.2.1 < x.1
  hi:x.1 ≤ 200
  r0:1 ≤ x.2.2
  r1:x.2.2 ≤ 1000000000
structure ColdOk (x:S3) : Prop where
  lo:0 ≤ x.1
  lt:x.1 < x.2.1
  hi:x.2.1 ≤ 200
  r0:1 ≤ x.2.2
  r1:x.2.2 ≤ 1000000000
theorem hotB_top {hs:List S3} (h:∀ x ∈ hs,HotOk x) : ∀ b ∈ hotB hs,b.2.1 ≤ 250:=fun b hb=>by
  obtain ⟨x,hx,rfl⟩:=List.mem_map.mp hb
  have:=(h x hx).hi
  show x.1 ≤ 250
  lia
theorem coldB_top {g:Int} {cs:List S3} (hg:g ≤ 50) (h:∀ x ∈ cs,ColdOk x) : ∀ b ∈ coldB g cs,b.2.1 ≤ 250:=fun b hb=>by
  obtain ⟨x,hx,rfl⟩:=List.mem_map.mp hb
  have:=(h x hx).hi
  show x.2.1 + g ≤ 250
  lia
theorem lackF_top {g:Int} {hs cs:List S3} (hg:g ≤ 50) (h1:∀ x ∈ hs,HotOk x) (h2:∀ x ∈ cs,ColdOk x) : lackF g hs cs 250 = 0:=by
  unfold lackF
  rw [above_top (coldB_top hg h2),above_top (hotB_top h1)]
  rfl
end WS
namespace L2
open PySem PySem.Spec PyProof.Rows
structure Fn (P:Program) (w:World) (K:PySem.W.Frag) (mg:Str→Option Value) (base:Heap) (x:Str) (k:Nat) (ps:List Str) (sp:Sp) : Prop where
  ex:∃ f fd,FnOk P w K mg base CX0 k f fd ps sp∧mg x = some (.ref f)∧PySem.W.keepIn K (.ref f) = true∧Binds K fd ps []
theorem pe_fn {X:Cx} {x:Str} {k:Nat} {ps:List Str} {sp:Sp} {p pos:Pos} {e:Expr} {es:List Expr} {t:TA} (F:Fn X.prog X.w X.K X.mg X.base x k ps sp) (hr:Room k X.A) (hg:Gl X x) (ha:PA X (e :: es) t)
    (hdb:(x == ("__debug__" : Str)) = false:=by decide) (he:starEach (e :: es) X.env = (false,eval e X.env) :: starEach es X.env:=by rfl) (hpl:(backTo pos (starEach es X.env)).any (·.1) = false:=by rfl) :
    PE X (.Call (.Name x p) (e :: es) [] pos) (tCall sp [] E0 t):=by
  obtain ⟨f,fd,G,hm,hk,hb⟩:=F.ex
  exact pe_call G hr hg hm hk hb .nil pass0 ha hdb he hpl
theorem fn_mk {P:Program} {w:World} {K:PySem.W.Frag} {mg:Str→Option Value} {base:Heap} {x qual:Str} {st:Stmt} {f:Addr} {fd:FuncData} {k:Nat} {ps:List Str} {sp:Sp} (F:Fun K x qual st f fd) (hm:mg x = some (.ref f)) (hb:Binds K fd ps []) (ok:FnOk P w K mg base CX0 k f fd ps sp) :
    Fn P w K mg base x k ps sp:=⟨f,fd,ok,hm,F.kp,hb⟩
theorem get_list {X:Cx} : PGet X (rIxL X.K):=by
  intro pins s σ H x y v u Q I rx ry h
  obtain ⟨p,xs,i,z,rfl,rfl,hq,he,q⟩:=h
  cases rx
  obtain ⟨t,rfl⟩:=ry
  obtain ⟨its,r,pl,hz⟩:=I.list hq
  obtain ⟨j,h1,h2,h3,h4,h5⟩:=atI_get he
  obtain ⟨w,ew,rw'⟩:=r.get h2
  have hl:=r.length
  have hn:=line63
  have fin:EP X pins σ Q w s:=⟨z,H,I,rw',q⟩
  by_cases h0:0 ≤ i
  · have hj:i.toNat = j:=by
      rw [seqIndex_of h0 h5] at h1
      exact Option.some.inj h1
    exact wpAny_getItem_list pl.isList h0 (by lia) (by rw [hj]; simpa using ew) fin
  · have hj:(i + (its.toArray.size:Int)).toNat = j:=by
      rw [seqIndex_neg (by lia) h4] at h1
      rw [List.size_toArray,← hl]
      exact Option.some.inj h1
    exact wpAny_getItem_list_neg pl.isList (by lia) (by rw [List.size_toArray] <;> lia) (by lia) (by rw [hj]; simpa using ew) fin
theorem same_new {H:Hp} {a:Addr} {o:HO} (h:H a = none) : Same H (upd H a o):=fun b u e=>by
  rw [upd_ne (ne_of_none e h)]; exact e
theorem Same.upd {H H':Hp} {a:Addr} {o:HO} (s:Same H H') (h:H a = none) : Same H (upd H' a o):=fun b u e=>by
  rw [upd_ne (ne_of_none e h)]; exact s b u e
end L2
namespace WS
open PySem L2
theorem paired_get {α β:Type} {F:α→β→Prop} : ∀ {l:List α} {r:List β} {i:Nat} {a:α},Paired F l r→l[i]? = some a→∃ b,r[i]? = some b∧F a b
  | _,_,_,_,.nil,e=>by simp at e
  | _,_,0,_,.cons h _,e=>by simp at e; subst e; exact ⟨_,rfl,h⟩
  | _,_,i + 1,a,.cons _ t,e=>by
    obtain ⟨b,h1,h2⟩:=paired_get (i:=i) (a:=a) t (by simpa using e)
    exact ⟨b,by simpa using h1,h2⟩
theorem take_snoc {α:Type} {l:List α} {i:Nat} {x:α} (e:l[i]? = some x) : l.take (i + 1) = l.take i ++ [x]:=by
  rw [List.take_add_one,e]; rfl
end WS
namespace L2
open PySem PySem.Spec PyProof.Rows
section
variable {X:Cx}
theorem pe_gI {x:Str} {i:Int} {pos:Pos} (hg:Gl X x) (h:∃ t,X.mg x = some (.int i t)) (hd:(x == ("__debug__" : Str)) = false:=by decide) : PE X (.Name x pos) (tC (.int i)):=by
  obtain ⟨t,e⟩:=h
  exact pe_glob hg e ⟨t,rfl⟩ hd
end
end L2
namespace L2
open PySem PySem.Spec PyProof.Rows
section
variable {X:Cx} {pins:List (Addr × Obj)} {σ:St} {H:Hp} {s:Shared} {h':Heap}
theorem Inv.turnT {t':Nat} {wr:List Addr} {T:Addr} {us:List Value} {vs:List V} (I:Inv X pins σ H s) (hf:∀ b ∈ wr,FpOk X pins H b) (k:∀ b o,b ∉ wr→s.heap.get? b = some o→h'.get? b = some o) (hT:s.heap.objs.size ≤ T) (ht:h'.IsTuple T us.toArray) (r:Vals vs us) (hz:vs.length ≤ sizeLine) :
    Inv X pins σ (upd H T (.tup vs)) { s with heap:=h',toks:=t' }:=by
  have hn:H T = none:=I.hok.fresh hT
  have nit:∀ b u,H b = some u→b ∉ wr:=fun b u e z=>by
    have:=(hf b z).1
    rw [this] at e; cases e
  refine I.step (g':=s.gens) (d':=s.drawn) (ch:=wr) (fun b hb=>⟨(hf b hb).2.2.2.1,(hf b hb).2.1,(hf b hb).2.2.2.2.1,(hf b hb).2.2.2.2.2⟩) (fun b o _ _ hc e _=>k b o hc e) (fun b o _ _ hc e _=>⟨o.slots,k b o hc e⟩)
    (fun b o hc e n=>?_) (fun b o hc e=>⟨o,k b o hc e⟩) (fun b xs e=>?_) (fun b o u e=>?_) (fun b ps e=>⟨#[],?_⟩) (fun m hm=>?_) (fun b u e=>?_) I.bare
  · rw [upd_ne (Nat.ne_of_lt (Nat.lt_of_lt_of_le (Heap.lt_size e) hT))]; exact n
  · rw [upd_ne (ne_of_none e hn)]; exact e
  · rw [upd_ne (ne_of_none e hn)]; exact e
  · rw [upd_ne (ne_of_none e hn)]; simpa using e
  · obtain ⟨o,es,ep,ho,r⟩:=hm
    exact ⟨o,es,ep,k _ o (fun z=>(hf _ z).2.1 rfl) ho,r⟩
  · by_cases hb:b = T
    · subst hb
      rw [upd_same] at e
      cases e
      exact ⟨hz,us,r,ht⟩
    · rw [upd_ne hb] at e
      refine (I.hok b u e).stay (fun c v hc q=>k c v ?_ q) (fun c q=>by rw [upd_ne (ne_of_none q hn)]; exact q) fun c xs q=>by rw [upd_ne (ne_of_none q hn)]; exact q
      rcases hc with z | z
      · rw [z]; exact nit b u e
      · exact nit c _ z
theorem Inv.turnedL {t':Nat} {wr:List Addr} (I:Inv X pins σ H s) (hf:∀ b ∈ wr,FpOk X pins H b) (k:∀ b o,b ∉ wr→s.heap.get? b = some o→h'.get? b = some o) : Inv X pins σ H { s with heap:=h',toks:=t' }:=by
  have nit:∀ b u,H b = some u→b ∉ wr:=fun b u e z=>by
    have:=(hf b z).1
    rw [this] at e; cases e
  refine I.step (g':=s.gens) (d':=s.drawn) (ch:=wr) (fun b hb=>⟨(hf b hb).2.2.2.1,(hf b hb).2.1,(hf b hb).2.2.2.2.1,(hf b hb).2.2.2.2.2⟩) (fun b o _ _ hc e _=>k b o hc e) (fun b o _ _ hc e _=>⟨o.slots,k b o hc e⟩)
    (fun b o hc e n=>n) (fun b o hc e=>⟨o,k b o hc e⟩) (fun b xs e=>e) (fun b o u e=>e) (fun b ps e=>⟨#[],by rw [e]; simp⟩) (fun m hm=>?_) (fun b u e=>?_) I.bare
  · obtain ⟨o,es,ep,ho,r⟩:=hm
    exact ⟨o,es,ep,k _ o (fun z=>(hf _ z).2.1 rfl) ho,r⟩
  · refine (I.hok b u e).stay (fun c v hc q=>k c v ?_ q) (fun _ q=>q) fun _ _ q=>q
    rcases hc with z | z
    · rw [z]; exact nit b u e
    · exact nit c _ z
end
noncomputable def ItP (Src:Hp→List (List V)→Prop) : It:=
  ⟨fun i H=>∃ rows row,Src H rows∧rows[i]? = some row,fun i H x H'=>∀ rows,Src H rows→∃ row p,rows[i]? = some row∧H p = none∧x = .ref p∧H' = upd H p (.tup row),fun i H=>∃ rows,Src H rows∧i = rows.length⟩
theorem turn_P {P:Program} {w:World} {K:PySem.W.Frag} {elts:List Expr} {kx:Nat} {pos:Pos} {e:Addr} {fp wr fpw:List Addr} {Src:Hp→List (List V)→Prop} {core:Nat→Heap→Prop}
    (me:e ∈ fp) (hwr:∀ b ∈ wr,b ∈ fp) (src1:∀ H r r',Src H r→Src H r'→r = r')
    (obj:∀ i h,core i h→∀ b ∈ fp,∃ o,h.get? b = some o∧∀ v,o.data ≠ .cell v)
    (keep:∀ i h h',core i h→(∀ b ∈ fp,∀ o,h.get? b = some o→h'.get? b = some o)→core i h')
    (self:∀ (A:Around) (i:Nat) (s:Shared) (Q:Value→Shared→Prop) (E:Value→Shared→Prop),core i s.heap→Q (.ref e) s→wpAny (model P w) A (pyIter (.ref e)) Q E s)
    (W:∀ (X:Cx),X.prog = P→X.w = w→X.K = K→X.calm = true→∀ (i:Nat) (pins:List (Addr × Obj)) (s:Shared) (σ:St) (H:Hp),Inv X pins σ H s→(∀ b ∈ fp,FpOk X pins H b)→core i s.heap→∀ rows,Src H rows →
      ∃ (n:Nat) (Pt:Nat→Array Value→Prop) (St':Nat→Heap→Prop) (Mid:Nat→Addr→Heap→Prop),WalksT P w X.A e fpw wr n Pt St' Mid∧n = rows.length∧St' i s.heap∧(∀ j vals,Pt j vals→∃ row us,rows[j]? = some row∧vals = us.toArray∧Vals row us∧row.length ≤ sizeLine)∧∀ j h,St' j h→core j h) :
    Turn P w K (.Tuple elts kx pos) (ItP Src) fp e core where
  mem:=me
  obj:=obj
  keep:=keep
  self:=self
  item:=by
    intro X hP hw hK hc i pins s σ H E I hf st hg
    obtain ⟨rows,row,hs,hr⟩:=hg
    obtain ⟨n,Pt,St',Mid,V,hn,st',hp,back⟩:=W X hP hw hK hc i pins s σ H I hf st rows hs
    have hi:i < n:=by rw [hn]; exact (List.getElem?_eq_some_iff.mp hr).1
    refine V.item i s _ E hi st' fun T vals h' tk pt hT ht mid kk=>?_
    obtain ⟨row',us,hr',rfl,rv,hz⟩:=hp i vals pt
    refine ⟨.ref T,rfl,?_⟩
    refine V.go elts kx pos i T { s with heap:=h',toks:=tk } _ E mid fun h2 st2 k2=>?_
    have nT:=V.apart i T h' mid
    have ht2:h2.IsTuple T us.toArray:=ht.at fun o q=>k2 T o nT q
    have I2:Inv X pins σ (upd H T (.tup row')) { s with heap:=h2,toks:=tk }:=I.turnT (fun b hb=>hf b (hwr b hb)) (fun b o hb q=>k2 b o hb (kk b o hb q)) hT ht2 rv hz
    refine ⟨.ref T,_,I2,rfl,fun rows2 hs2=>?_,back _ _ st2,fun b hb=>?_⟩
    · rw [src1 _ _ _ hs2 hs]
      exact ⟨row',T,hr',I.hok.fresh hT,rfl,rfl⟩
    · have hbT:b ≠ T:=by
        rintro rfl
        obtain ⟨o,ho,_⟩:=obj _ _ st b hb
        exact absurd (Nat.lt_of_lt_of_le (Heap.lt_size ho) hT) (Nat.lt_irrefl _)
      rw [upd_ne hbT]
      exact (hf b hb).1
  done:=by
    intro X hP hw hK hc i pins s σ H E I hf st hg
    obtain ⟨rows,hs,hr⟩:=hg
    obtain ⟨n,Pt,St',Mid,V,hn,st',hp,back⟩:=W X hP hw hK hc i pins s σ H I hf st rows hs
    rw [hr,← hn] at st'
    exact V.done s _ E st' fun h' tk kk=>⟨rfl,I.turnedL (fun b hb=>hf b (hwr b hb)) kk⟩
section
variable {X:Cx}
noncomputable def rMaxL (K:PySem.W.Frag) : List V→Hp→VK→Prop:=fun xs H Q=>∃ (p:Addr) (ns:List Int),xs = [.ref p]∧SqL K H p (ns.map V.int)∧ns ≠ []∧∀ m:Int,m ∈ ns→(∀ n ∈ ns,n ≤ m)→Q (.int m) H
noncomputable def rMinL (K:PySem.W.Frag) : List V→Hp→VK→Prop:=fun xs H Q=>∃ (p:Addr) (ns:List Int),xs = [.ref p]∧SqL K H p (ns.map V.int)∧ns ≠ []∧∀ m:Int,m ∈ ns→(∀ n ∈ ns,m ≤ n)→Q (.int m) H
theorem best_in {zs:Array (Int × Tok)} {k:Nat} {v:Value} (h:(intItems zs)[k]? = some v) : (∃ t,v = .int (numAt zs k) t)∧numAt zs k ∈ zs.toList.map (·.1):=by
  refine ⟨intItems_at h,?_⟩
  simp only [intItems,Array.getElem?_map,Option.map_eq_some_iff] at h
  obtain ⟨p,hp,rfl⟩:=h
  rw [numAt_eq]
  have hp':zs.toList[k]? = some p:=by rw [← hp]; simp
  rw [List.getD_eq_getElem?_getD,List.getElem?_map,hp']
  exact List.mem_map.mpr ⟨p,List.mem_of_getElem? hp',rfl⟩
theorem num_of_mem {zs:Array (Int × Tok)} {n:Int} (h:n ∈ zs.toList.map (·.1)) : ∃ j,j ≤ zs.size - 1∧numAt zs j = n:=by
  obtain ⟨j,hj⟩:=List.getElem?_of_mem h
  have hl:j < zs.size:=by have:=(List.getElem?_eq_some_iff.mp hj).1; simpa using this
  exact ⟨j,by lia,by rw [numAt_eq,List.getD_eq_getElem?_getD,hj]; rfl⟩
theorem call_maxL (hc:X.calm = true) : CallR X (.builtin "max") (rMaxL X.K):=by
  intro pins s σ H xs us Q I r h
  obtain ⟨p,ns,rfl,hp,hne,q⟩:=h
  obtain ⟨u,rfl,ru⟩:=vals1 r
  cases ru
  obtain ⟨its,rv,pl,hz⟩:=I.list hp
  have hi:IntsAre its ns:=intsAre_of rv
  obtain ⟨zs,e⟩:=hi.allInts.items
  have e3:zs.toList.map (·.1) = ns:=by rw [← nums_intItems,← e]; exact hi.numsOf
  have hsz:0 < zs.size:=by
    have:ns.length = zs.size:=by rw [← e3]; simp
    have:ns.length ≠ 0:=fun z=>hne (List.length_eq_zero_iff.mp z)
    lia
  refine max_intList (I.ok.hd hc) (xs:=zs) (e ▸ pl.isList) hsz fun v h' tk hv hk=>?_
  obtain ⟨⟨t,rfl⟩,hm⟩:=best_in hv
  refine ⟨.int _,H,I.kept hk,⟨t,rfl⟩,q _ (e3 ▸ hm) fun n hn=>?_⟩
  obtain ⟨j,hj,ej⟩:=num_of_mem (e3 ▸ hn)
  rw [← ej]
  exact (argBest_gt (numAt zs) (zs.size - 1)).2 j hj
theorem call_minL (hc:X.calm = true) : CallR X (.builtin "min") (rMinL X.K):=by
  intro pins s σ H xs us Q I r h
  obtain ⟨p,ns,rfl,hp,hne,q⟩:=h
  obtain ⟨u,rfl,ru⟩:=vals1 r
  cases ru
  obtain ⟨its,rv,pl,hz⟩:=I.list hp
  have hi:IntsAre its ns:=intsAre_of rv
  obtain ⟨zs,e⟩:=hi.allInts.items
  have e3:zs.toList.map (·.1) = ns:=by rw [← nums_intItems,← e]; exact hi.numsOf
  have hsz:0 < zs.size:=by
    have:ns.length = zs.size:=by rw [← e3]; simp
    have:ns.length ≠ 0:=fun z=>hne (List.length_eq_zero_iff.mp z)
    lia
  refine min_intList (I.ok.hd hc) (xs:=zs) (e ▸ pl.isList) hsz fun v h' tk hv hk=>?_
  obtain ⟨⟨t,rfl⟩,hm⟩:=best_in hv
  refine ⟨.int _,H,I.kept hk,⟨t,rfl⟩,q _ (e3 ▸ hm) fun n hn=>?_⟩
  obtain ⟨j,hj,ej⟩:=num_of_mem (e3 ▸ hn)
  rw [← ej]
  exact (argBest_lt (numAt zs) (zs.size - 1)).2 j hj
noncomputable def enumRows (xs:List V) : List (List V):=(List.range xs.length).map fun i=>[V.int (i:Nat),(xs[i]?).getD .non]
theorem enumRows_get {xs:List V} {i:Nat} {x:V} (h:xs[i]? = some x) : (enumRows xs)[i]? = some [.int (i:Nat),x]:=by
  unfold enumRows
  rw [List.getElem?_map,List.getElem?_range (List.getElem?_eq_some_iff.mp h).1,Option.map_some,h]
  rfl
theorem enumRows_len (xs:List V) : (enumRows xs).length = xs.length:=by unfold enumRows; simp
noncomputable def srcEnum (a:Addr) (H:Hp) (rows:List (List V)) : Prop:=∃ xs,H a = some (.lst xs)∧rows = enumRows xs
theorem turn_enum {P:Program} {w:World} {K:PySem.W.Frag} {elts:List Expr} {kx:Nat} {pos:Pos} (a e it:Addr) (hei:e ≠ it) :
    Turn P w K (.Tuple elts kx pos) (ItP (srcEnum a)) [e,it] e (fun i h=>(∃ old,IsEnum h e it i old)∧h.IsListIter it a i):=by
  refine turn_P (fpw:=[e,it,a]) (wr:=[e,it]) (by simp) (fun b hb=>hb) (fun H r r' ⟨xs,h1,h2⟩ ⟨ys,h3,h4⟩=>?_) (fun i h ⟨⟨old,he⟩,hit⟩ b hb=>?_) (fun i h h' ⟨⟨old,he⟩,hit⟩ k=>⟨⟨old,k e (by simp) _ he⟩,hit.at fun o q=>k it (by simp) o q⟩) (fun A i s Q E ⟨⟨old,he⟩,hit⟩ q=>wpAny_pyIter_enum he q) ?_
  · rw [h1] at h3; cases h3; rw [h2,h4]
  · rcases List.mem_cons.mp hb with rfl | hb
    · exact ⟨_,he,fun v z=>by have z':Data.fields _ = Data.cell v:=z; cases z'⟩
    · have : b = it := by simpa using hb
      subst this
      obtain ⟨o,ho,_,hd⟩:=hit
      exact ⟨o,ho,fun v z=>by rw [hd] at z; cases z⟩
  · intro X hP hw hK hc i pins s σ H I hf st rows ⟨xs,hx,hr⟩
    subst hP hw hK
    obtain ⟨z,its,n,rv,hl⟩:=I.hok a _ hx
    have hlist:s.heap.IsList a its.toArray:=⟨_,hl,rfl,n,rfl⟩
    have nae:a ≠ e:=fun q=>by have:=(hf e (by simp)).1; rw [← q,hx] at this; cases this
    have nai:a ≠ it:=fun q=>by have:=(hf it (by simp)).1; rw [← q,hx] at this; cases this
    refine ⟨its.toArray.size,_,_,_,WalksT.enumerate (I.ok.hd hc) e it a hei nae nai its.toArray,by rw [hr,enumRows_len,List.size_toArray,rv.length],⟨st.1,st.2,hlist⟩,fun j vals ⟨t,x,h1,h2⟩=>?_,fun j h ⟨h1,h2,_⟩=>⟨h1,h2⟩⟩
    have h1':its[j]? = some x:=by simpa using h1
    have hj:j < xs.length:=by rw [rv.length]; exact (List.getElem?_eq_some_iff.mp h1').1
    obtain ⟨u,g1,g2⟩:=rv.get (List.getElem?_eq_getElem hj)
    rw [h1'] at g1
    cases g1
    exact ⟨[.int (j:Nat),xs[j]],[.int j t,x],by rw [hr]; exact enumRows_get (List.getElem?_eq_getElem hj),h2,.cons ⟨t,rfl⟩ (.cons g2 .nil),small_len (Nat.le_of_ble_eq_true rfl)⟩
noncomputable def iEnum (ta:TA) : TI:=fun σ H R=>ta σ H fun vs H1=>∃ a xs,vs = [.ref a]∧H1 a = some (.lst xs)∧R (ItP (srcEnum a)) H1
theorem pi_enum {elts:List Expr} {kx:Nat} {tpos:Pos} {l:Expr} {ta:TA} {p pos:Pos} (hg:Gl X "enumerate") (hm:X.mg "enumerate" = none) (ha:PA X [l] ta) (hs:starEach [l] X.env = [(false,eval l X.env)]:=by rfl) : PI X (.Tuple elts kx tpos) (.Call (.Name "enumerate" p) [l] [] pos) (iEnum ta):=by
  intro pins s σ H R I h
  refine Call_ (ld_blt I hg hm PyProof.Rows.boot_enumerate (PyProof.Rows.callWith_type1 (thn (ha pos pins s σ H _ I h) fun us s1 ⟨vs,H1,I1,r1,q1⟩=>?_) hs rfl))
  obtain ⟨a,xs,rfl,hx,q⟩:=q1
  obtain ⟨u,rfl,ru⟩:=vals1 r1
  cases ru
  obtain ⟨z,its,n,rv,hl⟩:=I1.hok a _ hx
  refine call_enumerate_list (items:=its.toArray) ⟨_,hl,rfl,n,rfl⟩ fun h' he hit hsz hk=>?_
  refine wpAny_pyIter_enum he ?_
  have I2:Inv X pins σ H1 { s1 with heap:=h' }:=I1.kept (t':=s1.toks) hk
  refine ⟨s1.heap.objs.size + 1,[s1.heap.objs.size + 1,s1.heap.objs.size],_,_,H1,rfl,I2,turn_enum a _ _ (Nat.succ_ne_self _),⟨⟨_,he⟩,hit⟩,fun b hb=>?_,q⟩
  rcases List.mem_cons.mp hb with rfl | hb
  · exact I1.fpOk (Nat.le_succ _) (I1.hok.fresh (Nat.le_succ _))
  · have e : b = s1.heap.objs.size := by simpa using hb
    subst e
    exact I1.fpOk (Nat.le_refl _) (I1.hok.fresh (Nat.le_refl _))
noncomputable def zipRows (xs ys:List V) : List (List V):=(xs.zip ys).map fun p=>[p.1,p.2]
theorem zipRows_get {xs ys:List V} {i:Nat} {x y:V} (h:xs[i]? = some x) (h':ys[i]? = some y) : (zipRows xs ys)[i]? = some [x,y]:=by
  unfold zipRows
  rw [List.getElem?_map,List.getElem?_zip_eq_some (z:=(x,y)) |>.mpr ⟨h,h'⟩]
  rfl
theorem zipRows_len (xs ys:List V) : (zipRows xs ys).length = min xs.length ys.length:=by unfold zipRows; simp
noncomputable def srcZip (a b:Addr) (H:Hp) (rows:List (List V)) : Prop:=∃ xs ys,H a = some (.lst xs)∧H b = some (.lst ys)∧rows = zipRows xs ys
theorem turn_zip {P:Program} {w:World} {K:PySem.W.Frag} {elts:List Expr} {kx:Nat} {pos:Pos} (a b z TI TO i1 i2:Addr) (D:ZipApart z TI TO i1 i2 a b) :
    Turn P w K (.Tuple elts kx pos) (ItP (srcZip a b)) [z,TI,TO,i1,i2] z (fun i h=>IsZip h z TI TO .none∧IsPair h TI (.ref i1) (.ref i2)∧(∃ a b,IsPair h TO a b)∧h.IsListIter i1 a i∧h.IsListIter i2 b i):=by
  refine turn_P (fpw:=[z,TI,TO,i1,i2,a,b]) (wr:=[z,TO,i1,i2]) (by simp) (fun c hc=>by simp at hc ⊢; rcases hc with h | h | h | h <;> simp [h]) (fun H r r' ⟨xs,ys,h1,h2,h3⟩ ⟨xs',ys',h1',h2',h3'⟩=>?_) (fun i h ⟨h1,h2,⟨_,_,h3⟩,h4,h5⟩ c hc=>?_)
    (fun i h h' ⟨h1,h2,⟨u,v,h3⟩,h4,h5⟩ k=>⟨k z (by simp) _ h1,k TI (by simp) _ h2,⟨u,v,k TO (by simp) _ h3⟩,h4.at fun o q=>k i1 (by simp) o q,h5.at fun o q=>k i2 (by simp) o q⟩) (fun A i s Q E ⟨h1,_⟩ q=>wpAny_pyIter_zip h1 q) ?_
  · rw [h1] at h1'; rw [h2] at h2'; cases h1'; cases h2'; rw [h3,h3']
  · simp only [List.mem_cons,List.not_mem_nil,or_false] at hc
    rcases hc with rfl | rfl | rfl | rfl | rfl
    · exact ⟨_,h1,fun v z=>by have z':Data.fields _ = Data.cell v:=z; cases z'⟩
    · exact ⟨_,h2,fun v z=>by have z':Data.seq _ _ = Data.cell v:=z; cases z'⟩
    · exact ⟨_,h3,fun v z=>by have z':Data.seq _ _ = Data.cell v:=z; cases z'⟩
    · obtain ⟨o,ho,_,hd⟩:=h4
      exact ⟨o,ho,fun v z=>by rw [hd] at z; cases z⟩
    · obtain ⟨o,ho,_,hd⟩:=h5
      exact ⟨o,ho,fun v z=>by rw [hd] at z; cases z⟩
  · intro X hP hw hK hc i pins s σ H I hf st rows ⟨xs,ys,hx,hy,hr⟩
    subst hP hw hK
    obtain ⟨_,its,n,rv,hl⟩:=I.hok a _ hx
    obtain ⟨_,its',n',rv',hl'⟩:=I.hok b _ hy
    have hl1:s.heap.IsList a its.toArray:=⟨_,hl,rfl,n,rfl⟩
    have hl2:s.heap.IsList b its'.toArray:=⟨_,hl',rfl,n',rfl⟩
    obtain ⟨h1,h2,h3,h4,h5⟩:=st
    refine ⟨min its.toArray.size its'.toArray.size,_,_,_,WalksT.zip2 (I.ok.hd hc) z TI TO i1 i2 a b D its.toArray its'.toArray,by rw [hr,zipRows_len,List.size_toArray,List.size_toArray,rv.length,rv'.length],⟨h1,h2,h3,h4,h5,hl1,hl2⟩,fun j vals ⟨x,y,g1,g2,g3⟩=>?_,fun j h ⟨k1,k2,k3,k4,k5,_⟩=>⟨k1,k2,k3,k4,k5⟩⟩
    have g1':its[j]? = some x:=by simpa using g1
    have g2':its'[j]? = some y:=by simpa using g2
    have hj:j < xs.length:=by rw [rv.length]; exact (List.getElem?_eq_some_iff.mp g1').1
    have hj':j < ys.length:=by rw [rv'.length]; exact (List.getElem?_eq_some_iff.mp g2').1
    obtain ⟨u,k1,k2⟩:=rv.get (List.getElem?_eq_getElem hj)
    obtain ⟨u',k1',k2'⟩:=rv'.get (List.getElem?_eq_getElem hj')
    rw [g1'] at k1; cases k1
    rw [g2'] at k1'; cases k1'
    exact ⟨_,[x,y],by rw [hr]; exact zipRows_get (List.getElem?_eq_getElem hj) (List.getElem?_eq_getElem hj'),g3,.cons k2 (.cons k2' .nil),small_len (Nat.le_of_ble_eq_true rfl)⟩
noncomputable def iZip (ta:TA) : TI:=fun σ H R=>ta σ H fun vs H1=>∃ a b xs ys,vs = [.ref a,.ref b]∧H1 a = some (.lst xs)∧H1 b = some (.lst ys)∧R (ItP (srcZip a b)) H1
theorem pi_zip {elts:List Expr} {kx:Nat} {tpos:Pos} {l l2:Expr} {ta:TA} {p pos:Pos} (hg:Gl X "zip") (hm:X.mg "zip" = none) (ha:PA X [l,l2] ta) (hs:starEach [l,l2] X.env = [(false,eval l X.env),(false,eval l2 X.env)]:=by rfl) (hs2:starEach [l2] X.env = [(false,eval l2 X.env)]:=by rfl) : PI X (.Tuple elts kx tpos) (.Call (.Name "zip" p) [l,l2] [] pos) (iZip ta):=by
  intro pins s σ H R I h
  refine Call_ (ld_blt I hg hm PyProof.Rows.boot_zip (PyProof.Rows.callWith_type1 (thn (ha pos pins s σ H _ I h) fun us s1 ⟨vs,H1,I1,r1,q1⟩=>?_) (by rw [hs,hs2]) (by rw [hs2]; rfl)))
  obtain ⟨a,b,xs,ys,rfl,hx,hy,q⟩:=q1
  obtain ⟨u,u',rfl,ru,ru'⟩:=vals2 r1
  cases ru; cases ru'
  obtain ⟨_,its,n,rv,hl⟩:=I1.hok a _ hx
  obtain ⟨_,its',n',rv',hl'⟩:=I1.hok b _ hy
  refine call_zip_2 (xs:=its.toArray) (ys:=its'.toArray) ⟨_,hl,rfl,n,rfl⟩ ⟨_,hl',rfl,n',rfl⟩ fun h' hz hTI hTO hit1 hit2 hsz hk=>?_
  refine wpAny_pyIter_zip hz ?_
  have I2:Inv X pins σ H1 { s1 with heap:=h' }:=I1.kept (t':=s1.toks) hk
  refine ⟨s1.heap.objs.size + 4,[s1.heap.objs.size + 4,s1.heap.objs.size + 2,s1.heap.objs.size + 3,s1.heap.objs.size,s1.heap.objs.size + 1],_,_,H1,rfl,I2,turn_zip a b _ _ _ _ _ (zipApart_new (Heap.lt_size hl) (Heap.lt_size hl')),⟨hz,hTI,⟨_,_,hTO⟩,hit1,hit2⟩,fun c hc=>?_,q⟩
  have:s1.heap.objs.size ≤ c:=by
    simp only [List.mem_cons,List.not_mem_nil,or_false] at hc
    rcases hc with rfl | rfl | rfl | rfl | rfl
    · exact Nat.le_add_right _ _
    · exact Nat.le_add_right _ _
    · exact Nat.le_add_right _ _
    · exact Nat.le_refl _
    · exact Nat.le_add_right _ _
  exact I1.fpOk this (I1.hok.fresh this)
section
variable {prog:Program} {w:World} {A:Around} {E:Value→Shared→Prop} {s:Shared}
theorem draw_list {it t:Addr} {items:Array Value} (hne:t ≠ it) : ∀ (n i:Nat) (s:Shared) (Q:List Value→Shared→Prop),s.heap.IsListIter it t i→s.heap.IsList t items→i + n ≤ items.size →
    (∀ h',h'.IsListIter it t (i + n)→Heap.SameBut it s.heap h'→Q ((items.toList.drop i).take n) { s with heap:=h' })→wpAny (model prog w) A (draw (.ref it) n) Q E s
  | 0,i,s,Q,hit,_,_,hQ=>by
    show wpAny _ _ (pure []) Q E s
    exact wpAny_pure (by simpa using hQ s.heap hit (Heap.SameBut.refl ..))
  | n + 1,i,s,Q,hit,ht,hle,hQ=>by
    have hlt:i < items.size:=by lia
    show wpAny _ _ (pyNext (.ref it) >>= _) Q E s
    refine wpAny_bind (wpAny_pyNext_list_item hit ht (x:=items[i]) (by simp [hlt]) fun h₁ hit₁ hs₁=>?_)
    refine wpAny_bind (wpAny_holding (draw_list hne n (i + 1) _ _ hit₁ (ht.extBut hs₁.extBut hne) (by lia) fun h₂ hit₂ hs₂=>wpAny_pure ?_))
    have hd:items.toList.drop i = items[i] :: items.toList.drop (i + 1):=by simp [List.drop_eq_getElem_cons,hlt]
    have:=hQ h₂ (by rw [show i + (n + 1) = i + 1 + n by lia]; exact hit₂) (hs₁.trans hs₂)
    rw [hd,List.take_succ_cons] at this
    exact this
theorem unpackItems_list {t:Addr} {items:Array Value} {Q:List Value→Shared→Prop} (hh:A.handled = none) (ht:s.heap.IsList t items)
    (hQ:∀ h',Heap.ExtBut s.heap.objs.size s.heap h'→Q items.toList { s with heap:=h' }) : wpAny (model prog w) A (unpackItems (.ref t) items.size none) Q E s:=by
  have hlt:t ≠ s.heap.objs.size:=by obtain ⟨o,ho,_⟩:=ht; exact Nat.ne_of_lt (Heap.lt_size ho)
  unfold unpackItems
  refine wpAny_bind ?_
  unfold notIterableAtAll
  refine wpAny_bind (wpAny_specialOf ht.typeIs slot_list_iter.lookup ?_)
  refine wpAny_pure ?_
  simp only [Bool.false_eq_true,if_false]
  refine wpAny_bind (wpAny_holding (wpAny_pyIter_list ht ?_))
  refine wpAny_bind (wpAny_holding (draw_list hlt items.size 0 _ _ ⟨_,Heap.get?_push_size _ rfl,rfl,rfl⟩ (ht.at fun o e=>Heap.get?_push_of_some _ e) (by lia) fun h₁ hit₁ hs₁=>?_))
  have hall:List.take items.size (List.drop 0 items.toList) = items.toList:=by
    rw [List.drop_zero]; exact List.take_of_length_le (by simp)
  rw [hall]
  rw [if_neg (by simp)]
  have ht₁:h₁.IsList t items:=(ht.at fun o e=>Heap.get?_push_of_some _ e).extBut hs₁.extBut hlt
  refine wpAny_bind (wpAny_holding (wpAny_pyNext_list_end hh hit₁ ht₁ (by simp) fun h₂ he₂=>?_))
  simp only [Option.isSome_none,Bool.false_eq_true,if_false]
  refine wpAny_pure (hQ h₂ fun b o hb e=>he₂ b o hb (hs₁.extBut b o hb (Heap.get?_push_of_some _ e)))
theorem assign_Tuple_list {env:Env} {elts:List Expr} {x1} {pos:Pos} {t:Addr} {items:Array Value} {Q:Unit→Shared→Prop} (hh:A.handled = none) (ht:s.heap.IsList t items)
    (hn:(assignEach elts env).length = items.size) (hstar:(assignEach elts env).findIdx? (·.1) = none)
    (h:∀ h',Heap.ExtBut s.heap.objs.size s.heap h'→wpAny (model prog w) A (assignInOrder ((assignEach elts env).map (·.2)) items.toList) Q E { s with heap:=h' }) :
    wpAny (model prog w) A (assign (.Tuple elts x1 pos) env (.ref t)) Q E s:=by
  rw [assign_Tuple]
  refine wpAny_bind (wpAny_standAt ?_)
  unfold unpack
  rw [hn,hstar]
  exact wpAny_bind (wpAny_holding (unpackItems_list hh ht h))
end
noncomputable def gSeq (K:PySem.W.Frag) (n:Nat) (t:TGs) : TG:=fun v σ H Q=>∃ a xs,v = .ref a∧(SqT K H a xs ∨ SqL K H a xs)∧xs.length = n∧t xs σ H Q
theorem pg_seq {es:List Expr} {k:Nat} {t:TGs} {n:Nat} {pos:Pos} (hc:X.calm = true) (h:PGs X es t)
    (hn:(assignEach es X.env).length = n:=by rfl) (hst:(assignEach es X.env).findIdx? (·.1) = none:=by rfl) : PG X (.Tuple es k pos) (gSeq X.K n t):=by
  intro pins s σ H v u Q I r hw
  obtain ⟨a,xs,e1,hq,hl,hw⟩:=hw
  subst e1
  cases r
  rcases hq with hq | hq
  · obtain ⟨its,rv,ht,hz⟩:=I.tuple hq
    refine assign_Tuple_tuple (I.ok.hd hc) ht (by simp [hn,← hl,rv.length]) hst fun h' hx=>?_
    have I1:Inv X pins σ H { s with heap:=h' }:=I.kept (t':=s.toks) fun b o e=>hx b o (Nat.ne_of_lt (Heap.lt_size e)) e
    exact h pins _ σ H xs _ Q I1 (by simpa using rv) hw
  · obtain ⟨its,rv,ht,hz⟩:=I.list hq
    refine assign_Tuple_list (I.ok.hd hc) ht.isList (by simp [hn,← hl,rv.length]) hst fun h' hx=>?_
    have I1:Inv X pins σ H { s with heap:=h' }:=I.kept (t':=s.toks) fun b o e=>hx b o (Nat.ne_of_lt (Heap.lt_size e)) e
    exact h pins _ σ H xs _ Q I1 (by simpa using rv) hw
noncomputable def iRng3 (ta:TA) : TI:=fun σ H R=>ta σ H fun vs H1=>∃ i j:Int,vs = [.int i,.int j,.int (-1)]∧(-(2 ^ 62) ≤ i∧i < 2 ^ 62∧-(2 ^ 62) ≤ j∧j < 2 ^ 62)∧R (Its i (-1) (i - j).toNat) H1
end
end L2
namespace DL
open PySem L2
inductive D where
  | non | bl (b:Bool) | int (i:Int) | str (x:Str) | tup (xs:List D) | lst (xs:List D) | scr (ns:List Int)
  | dct (kvs:List ((Int × Int) × Int))
noncomputable def encD (kvs:List ((Int × Int) × Int)) : List (List Key × V):=kvs.map fun p=>([Sum.inl p.1.1,Sum.inl p.1.2],V.int p.2)
inductive Rep (K:PySem.W.Frag) (G:Hp) : V→D→Prop where
  | non:Rep K G .non .non
  | bl (b:Bool) : Rep K G (.bl b) (.bl b)
  | int (i:Int) : Rep K G (.int i) (.int i)
  | str (x:Str) : Rep K G (.str x) (.str x)
  | tup {a:Addr} {vs:List V} {ds:List D} (h:SqT K G a vs) (l:vs.length = ds.length) (r:∀ (i:Nat) (v:V) (d:D),vs[i]? = some v→ds[i]? = some d→Rep K G v d) : Rep K G (.ref a) (.tup ds)
  | scr {a:Addr} {ns:List Int} (h:SqL K G a (ns.map V.int)) : Rep K G (.ref a) (.scr ns)
  | dct {a:Addr} {kvs:List ((Int × Int) × Int)} (h:G a = some (.dT (encD kvs))) : Rep K G (.ref a) (.dct kvs)
  | lst {a:Addr} {vs:List V} {ds:List D} (h:G a = some (.lst vs)) (l:vs.length = ds.length) (r:∀ (i:Nat) (v:V) (d:D),vs[i]? = some v→ds[i]? = some d→Rep K G v d) : Rep K G (.ref a) (.lst ds)
noncomputable abbrev Reps (K:PySem.W.Frag) (G:Hp) : List V→List D→Prop:=Paired (Rep K G)
theorem paired_of {α β:Type} {F:α→β→Prop} : ∀ {l:List α} {r:List β},l.length = r.length→(∀ (i:Nat) (a:α) (b:β),l[i]? = some a→r[i]? = some b→F a b)→Paired F l r
  | [],[],_,_=>.nil
  | a :: l,b :: r,e,h=>.cons (h 0 a b rfl rfl) (paired_of (by simpa using e) fun i x y h1 h2=>h (i + 1) x y (by simpa using h1) (by simpa using h2))
theorem paired_at {α β:Type} {F:α→β→Prop} : ∀ {l:List α} {r:List β},Paired F l r→∀ (i:Nat) (a:α) (b:β),l[i]? = some a→r[i]? = some b→F a b
  | _,_,.nil,_,_,_,h,_=>by simp at h
  | _,_,.cons h _,0,_,_,h1,h2=>by simp at h1 h2; subst h1; subst h2; exact h
  | _,_,.cons _ t,i + 1,a,b,h1,h2=>paired_at t i a b (by simpa using h1) (by simpa using h2)
theorem paired_get' {α β:Type} {F:α→β→Prop} : ∀ {l:List α} {r:List β} {i:Nat} {b:β},Paired F l r→r[i]? = some b→∃ a,l[i]? = some a∧F a b
  | _,_,_,_,.nil,e=>by simp at e
  | _,_,0,_,.cons h _,e=>by simp at e; subst e; exact ⟨_,rfl,h⟩
  | _,_,i + 1,b,.cons _ t,e=>by
    obtain ⟨a,h1,h2⟩:=paired_get' (i:=i) (b:=b) t (by simpa using e)
    exact ⟨a,by simpa using h1,h2⟩
section
variable {K:PySem.W.Frag} {G G' H H':Hp} {v:V} {d:D} {ds:List D} {vs:List V}
theorem Rep.tup' {a:Addr} (h:SqT K G a vs) (r:Reps K G vs ds) : Rep K G (.ref a) (.tup ds):=.tup h (Paired.length r) (paired_at r)
theorem Rep.lst' {a:Addr} (h:G a = some (.lst vs)) (r:Reps K G vs ds) : Rep K G (.ref a) (.lst ds):=.lst h (Paired.length r) (paired_at r)
theorem Rep.tup_inv (h:Rep K G v (.tup ds)) : ∃ a vs,v = .ref a∧SqT K G a vs∧Reps K G vs ds:=by
  cases h with | tup h l r=>exact ⟨_,_,rfl,h,paired_of l r⟩
theorem Rep.lst_inv (h:Rep K G v (.lst ds)) : ∃ a vs,v = .ref a∧G a = some (.lst vs)∧Reps K G vs ds:=by
  cases h with | lst h l r=>exact ⟨_,_,rfl,h,paired_of l r⟩
theorem Rep.int_inv {i:Int} (h:Rep K G v (.int i)) : v = .int i:=by cases h; rfl
theorem Rep.bl_inv {b:Bool} (h:Rep K G v (.bl b)) : v = .bl b:=by cases h; rfl
theorem same_seqT {a:Addr} {xs:List V} (e:Same G G') (h:SqT K G a xs) : SqT K G' a xs:=by
  rcases h with (h | ⟨o,h⟩) | h
  · exact .inl (.inl (e _ _ h))
  · exact .inl (.inr ⟨o,e _ _ h⟩)
  · exact .inr h
theorem Rep.mono (s:Same G G') (h:Rep K G v d) : Rep K G' v d:=by
  induction h with
  | non=>exact .non
  | bl b=>exact .bl b
  | int i=>exact .int i
  | str x=>exact .str x
  | tup h l r ih=>exact .tup (same_seqT s h) l ih
  | lst h l r ih=>exact .lst (s _ _ h) l ih
  | scr h=>exact .scr (s.seq h)
  | dct h=>exact .dct (s _ _ h)
theorem Reps.mono (s:Same G G') (h:Reps K G vs ds) : Reps K G' vs ds:=Paired.imp' (fun _ _=>Rep.mono s) h
noncomputable def D.sc:D→Bool
  | .tup _=>false
  | .lst _=>false
  | .scr _=>false
  | .dct _=>false
  | _=>true
theorem Rep.sc (h:Rep K G v d) (e:d.sc = true) : Rep K G' v d:=by
  cases h with
  | non=>exact .non
  | bl b=>exact .bl b
  | int i=>exact .int i
  | str x=>exact .str x
  | tup h l r=>cases e
  | lst h l r=>cases e
  | scr h=>cases e
  | dct h=>cases e
end
inductive B where
  | p (d:D) | o (d:D) | n (t:Bool) (ds:List D)
noncomputable def B.val:B→D
  | .p d=>d
  | .o d=>d
  | .n true ds=>.tup ds
  | .n false ds=>.lst ds
noncomputable abbrev DEnv:=List (Option B)
noncomputable def dget:DEnv→Nat→Option B
  | [],_=>none
  | b :: _,0=>b
  | _ :: r,n + 1=>dget r n
noncomputable def dput:DEnv→Nat→B→DEnv
  | [],_,_=>[]
  | _ :: r,0,b=>some b :: r
  | c :: r,n + 1,b=>c :: dput r n b
noncomputable def frz1:Option B→Option B
  | none=>none
  | some b=>some (.p b.val)
noncomputable def frz:DEnv→DEnv
  | []=>[]
  | c :: r=>frz1 c :: frz r
theorem dput_len (b:B) : ∀ (ρ:DEnv) (i:Nat),(dput ρ i b).length = ρ.length
  | [],_=>rfl
  | _ :: _,0=>rfl
  | _ :: r,n + 1=>by show (dput r n b).length + 1 = r.length + 1; rw [dput_len b r n]
theorem frz_len:∀ (ρ:DEnv),(frz ρ).length = ρ.length
  | []=>rfl
  | _ :: r=>by show (frz r).length + 1 = _; rw [frz_len r]; rfl
theorem dget_put {b:B} : ∀ {ρ:DEnv} {i j:Nat} {c:B},dget (dput ρ i b) j = some c→(i = j∧j < ρ.length∧c = b) ∨ (i ≠ j∧dget ρ j = some c)
  | [],_,_,_,h=>by cases h
  | _ :: _,0,0,_,h=>.inl ⟨rfl,Nat.succ_pos _,(Option.some.inj h).symm⟩
  | _ :: _,0,j + 1,_,h=>.inr ⟨Nat.succ_ne_zero j |>.symm,h⟩
  | _ :: _,i + 1,0,_,h=>.inr ⟨Nat.succ_ne_zero i,h⟩
  | _ :: r,i + 1,j + 1,_,h=>by
    rcases dget_put (ρ:=r) (i:=i) (j:=j) h with ⟨h1,h2,h3⟩ | ⟨h1,h2⟩
    · exact .inl ⟨by rw [h1],Nat.succ_lt_succ h2,h3⟩
    · exact .inr ⟨fun e=>h1 (Nat.succ.inj e),h2⟩
theorem dget_frz:∀ {ρ:DEnv} {i:Nat} {c:B},dget (frz ρ) i = some c→∃ b,dget ρ i = some b∧c = .p b.val
  | [],_,_,h=>by cases h
  | none :: _,0,_,h=>by cases h
  | some b :: _,0,_,h=>⟨b,rfl,(Option.some.inj h).symm⟩
  | _ :: r,i + 1,_,h=>dget_frz (ρ:=r) h
theorem dget_lt:∀ {ρ:DEnv} {i:Nat} {c:B},dget ρ i = some c→i < ρ.length
  | [],_,_,h=>by cases h
  | _ :: _,0,_,_=>Nat.succ_pos _
  | _ :: r,i + 1,_,h=>Nat.succ_lt_succ (dget_lt (ρ:=r) h)
noncomputable def OwnAt (K:PySem.W.Frag) (G H:Hp) (a:Addr) (d:D) : Prop:=G a = none∧match d with
  | .lst ds=>∃ vs,H a = some (.lst vs)∧Reps K G vs ds
  | .dct kvs=>H a = some (.dT (encD kvs))
  | _=>False
noncomputable def Chg (H:Hp) (a:Addr) : Prop:=∃ o,H a = some o∧∀ xs,o ≠ .tup xs
theorem Chg.there {H:Hp} {a:Addr} (h:Chg H a) : H a ≠ none:=by obtain ⟨o,e,_⟩:=h; rw [e]; simp
structure Wd (H0 G0 H G:Hp) : Prop where
  hh:Same H0 H
  gg:Same G0 G
  gh:Same G H
  old:∀ a,Chg H0 a→G a = G0 a
theorem Wd.refl {H G:Hp} (s:Same G H) : Wd H G H G:=⟨Same.refl _,Same.refl _,s,fun _ _=>rfl⟩
theorem Wd.trans {H0 G0 H1 G1 H2 G2:Hp} (a:Wd H0 G0 H1 G1) (b:Wd H1 G1 H2 G2) : Wd H0 G0 H2 G2:=
  ⟨a.hh.trans b.hh,a.gg.trans b.gg,b.gh,fun x h=>by
    have h1:Chg H1 x:=by obtain ⟨o,e,n⟩:=h; exact ⟨o,a.hh _ _ e,n⟩
    rw [b.old x h1,a.old x h]⟩
theorem Wd.new {H0 G0 H G:Hp} {p:Addr} {o:HO} (w:Wd H0 G0 H G) (h:H p = none) : Wd H0 G0 (upd H p o) (upd G p o):=
  ⟨w.hh.upd (w.hh.free h),w.gg.upd (w.gg.free (w.gh.free h)),fun b u e=>by
    by_cases z:b = p
    · subst z; rw [upd_same] at e ⊢; exact e
    · rw [upd_ne z] at e ⊢; exact w.gh b u e,fun a ha=>by
    have z:a ≠ p:=fun e=>ha.there (e ▸ w.hh.free h)
    rw [upd_ne z,w.old a ha]⟩
theorem Wd.own {H0 G0 H G:Hp} {p:Addr} {o:HO} (w:Wd H0 G0 H G) (h0:H0 p = none) (h:G p = none) : Wd H0 G0 (upd H p o) G:=
  ⟨w.hh.upd h0,w.gg,w.gh.upd h,w.old⟩
theorem Wd.give {H0 G0 H G:Hp} {p:Addr} {o:HO} (w:Wd H0 G0 H G) (h0:H0 p = none ∨ ∃ xs,o = .tup xs) (h:G p = none) (e:H p = some o) : Wd H0 G0 H (upd G p o):=
  ⟨w.hh,w.gg.upd (w.gg.free h),fun b u k=>by
    by_cases z:b = p
    · subst z; rw [upd_same] at k; rw [e,k]
    · rw [upd_ne z] at k; exact w.gh b u k,fun a ha=>by
    have z:a ≠ p:=fun z=>by
      subst z
      obtain ⟨u,e1,n⟩:=ha
      rcases h0 with h0 | ⟨xs,h0⟩
      · rw [h0] at e1; cases e1
      · have:=w.hh _ _ e1
        rw [e] at this
        cases this
        exact n xs h0
    rw [upd_ne z,w.old a ha]⟩
theorem OwnAt.rep {K:PySem.W.Frag} {G H G2:Hp} {a:Addr} {d:D} (h:OwnAt K G H a d) (s:Same G G2) (e:∀ o,H a = some o→G2 a = some o) : Rep K G2 (.ref a) d:=by
  obtain ⟨g,k⟩:=h
  cases d with
  | lst ds =>
    obtain ⟨vs,e',r⟩:=k
    exact Rep.lst' (e _ e') (Reps.mono s r)
  | dct kvs=>exact .dct (e _ k)
  | non=>exact k.elim
  | bl _=>exact k.elim
  | int _=>exact k.elim
  | str _=>exact k.elim
  | tup _=>exact k.elim
  | scr _=>exact k.elim
noncomputable def BRes (K:PySem.W.Frag) (H G' H':Hp) (v:V) : B→Prop
  | .p d=>Rep K G' v d
  | .o d=>∃ a,v = .ref a∧H a = none∧OwnAt K G' H' a d
  | .n true ds=>∃ a as,v = .ref a∧SqT K G' a (as.map V.ref)∧as.Nodup∧Paired (fun x d=>H x = none∧OwnAt K G' H' x d) as ds
  | .n false _=>False
theorem BRes.ahead {K:PySem.W.Frag} {H0 H G' H':Hp} {v:V} {b:B} (s:Same H0 H) (h:BRes K H G' H' v b) : BRes K H0 G' H' v b:=by
  cases b with
  | p d=>exact h
  | o d=>obtain ⟨a,e,n,o⟩:=h; exact ⟨a,e,s.free n,o⟩
  | n t ds =>
    cases t with
    | false=>exact h
    | true =>
      obtain ⟨a,as,e,q,nd,pr⟩:=h
      exact ⟨a,as,e,q,nd,Paired.imp' (fun _ _ z=>⟨s.free z.1,z.2⟩) pr⟩
theorem Wd.all {H G H' G':Hp} (w:Wd H G H' G') : ∃ G2,Wd H G H' G2∧Same G' G2∧∀ a,H a = none→G' a = none→G2 a = H' a:=by
  classical
  have sG:Same G' (fun a=>if H a = none∧G' a = none then H' a else G' a):=fun a o h=>by
    show (if _ then H' a else G' a) = _
    rw [if_neg fun q=>by rw [q.2] at h; cases h]
    exact h
  refine ⟨fun a=>if H a = none∧G' a = none then H' a else G' a,⟨w.hh,w.gg.trans sG,fun a o h=>?_,fun a h=>?_⟩,sG,fun a h1 h2=>if_pos ⟨h1,h2⟩⟩
  · have h':(if H a = none∧G' a = none then H' a else G' a) = some o:=h
    split at h'
    · exact h'
    · exact w.gh _ _ h'
  · show (if H a = none∧G' a = none then H' a else G' a) = _
    rw [if_neg fun q=>h.there q.1]
    exact w.old a h
theorem BRes.give {K:PySem.W.Frag} {H G H' G':Hp} {v:V} {b:B} (w:Wd H G H' G') (h:BRes K H G' H' v b) : ∃ G2,Wd H G H' G2∧Rep K G2 v b.val:=by
  cases b with
  | p d=>exact ⟨G',w,h⟩
  | n t ds =>
    cases t with
    | false=>exact h.elim
    | true =>
      obtain ⟨a,as,rfl,q,nd,pr⟩:=h
      obtain ⟨G2,w2,s2,k2⟩:=w.all
      refine ⟨G2,w2,Rep.tup' (same_seqT s2 q) ?_⟩
      clear q nd
      induction pr with
      | nil=>exact .nil
      | cons f _ ih=>exact .cons (f.2.rep s2 fun o z=>by rw [k2 _ f.1 f.2.1]; exact z) ih
  | o d =>
    obtain ⟨a,rfl,n,k⟩:=h
    obtain ⟨G2,w2,s2,k2⟩:=w.all
    exact ⟨G2,w2,k.rep s2 fun o z=>by rw [k2 _ n k.1]; exact z⟩
noncomputable abbrev DT:=DEnv→(B→Prop)→Prop
noncomputable abbrev DTT:=DEnv→(Bool→Prop)→Prop
noncomputable abbrev DTA:=DEnv→(List D→Prop)→Prop
noncomputable def RepE (K:PySem.W.Frag) (G:Hp) (σ:St) (ρ:DEnv) : Prop:=∀ i d,dget ρ i = some (.p d)→∃ v,σ[i]? = some (some v)∧Rep K G v d
theorem RepE.mono {K:PySem.W.Frag} {G G':Hp} {σ:St} {ρ:DEnv} (s:Same G G') (h:RepE K G σ ρ) : RepE K G' σ ρ:=fun i d e=>by
  obtain ⟨v,h1,h2⟩:=h i d e
  exact ⟨v,h1,h2.mono s⟩
noncomputable def cE (K:PySem.W.Frag) (t:DT) : TE:=fun σ H Q=>∃ (G:Hp) (ρ:DEnv) (P:B→Prop),Same G H∧RepE K G σ ρ∧t ρ P∧∀ b v H' G',P b→Wd H G H' G'→BRes K H G' H' v b→Q v H'
noncomputable def cT (K:PySem.W.Frag) (t:DTT) : TT:=fun σ H Q=>∃ (G:Hp) (ρ:DEnv) (P:Bool→Prop),Same G H∧RepE K G σ ρ∧t ρ P∧∀ b H' G',P b→Wd H G H' G'→Q b H'
noncomputable def cA (K:PySem.W.Frag) (n:Nat) (t:DTA) : TA:=fun σ H Q=>∃ (G:Hp) (ρ:DEnv) (P:List D→Prop),Same G H∧RepE K G σ ρ∧t ρ P∧∀ ds vs H' G',P ds→ds.length = n→Wd H G H' G'→Reps K G' vs ds→Q vs H'
structure DE (X:Cx) (e:Expr) (t:DT) : Prop where
  pe:PE X e (cE X.K t)
structure DTe (X:Cx) (e:Expr) (t:DTT) : Prop where
  pt:PT X e (cT X.K t)
structure DW (X:Cx) (e:Expr) (t:DTT) : Prop where
  pw:PW X e (cT X.K t)
structure DA (X:Cx) (es:List Expr) (t:DTA) : Prop where
  pa:PA X es (cA X.K es.length t)
theorem PE.imp {X:Cx} {e:Expr} {t t':TE} (h:PE X e t) (i:∀ σ H Q,t' σ H Q→t σ H Q) : PE X e t':=fun pins s σ H Q I q=>h pins s σ H Q I (i σ H Q q)
theorem PT.imp {X:Cx} {e:Expr} {t t':TT} (h:PT X e t) (i:∀ σ H Q,t' σ H Q→t σ H Q) : PT X e t':=fun pins s σ H Q I q=>h pins s σ H Q I (i σ H Q q)
theorem PW.imp {X:Cx} {e:Expr} {t t':TT} (h:PW X e t) (i:∀ σ H Q,t' σ H Q→t σ H Q) : PW X e t':=fun wh pins s σ H Q I q=>h wh pins s σ H Q I (i σ H Q q)
theorem PA.imp {X:Cx} {es:List Expr} {t t':TA} (h:PA X es t) (i:∀ σ H Q,t' σ H Q→t σ H Q) : PA X es t':=fun pos pins s σ H Q I q=>h pos pins s σ H Q I (i σ H Q q)
theorem PS.imp {X:Cx} {st:Stmt} {t t':TS} (h:PS X st t) (i:∀ D σ H,t' D σ H→t D σ H) : PS X st t':=fun pins s σ H D I q=>h pins s σ H D I (i D σ H q)
theorem PSs.imp {X:Cx} {st:List Stmt} {t t':TS} (h:PSs X st t) (i:∀ D σ H,t' D σ H→t D σ H) : PSs X st t':=fun pins s σ H D I q=>h pins s σ H D I (i D σ H q)
theorem DE.of {X:Cx} {e:Expr} {t:TE} {t':DT} (h:PE X e t) (i:∀ σ H Q,cE X.K t' σ H Q→t σ H Q) : DE X e t':=⟨PE.imp h i⟩
theorem DTe.of {X:Cx} {e:Expr} {t:TT} {t':DTT} (h:PT X e t) (i:∀ σ H Q,cT X.K t' σ H Q→t σ H Q) : DTe X e t':=⟨PT.imp h i⟩
theorem DW.of {X:Cx} {e:Expr} {t:TT} {t':DTT} (h:PW X e t) (i:∀ σ H Q,cT X.K t' σ H Q→t σ H Q) : DW X e t':=⟨PW.imp h i⟩
theorem DA.of {X:Cx} {es:List Expr} {t:TA} {t':DTA} (h:PA X es t) (i:∀ σ H Q,cA X.K es.length t' σ H Q→t σ H Q) : DA X es t':=⟨PA.imp h i⟩
section
variable {X:Cx} {a b e:Expr} {ta tb te:DT} {pos:Pos}
noncomputable def dVar (i:Nat) : DT:=fun ρ Q=>match dget ρ i with
  | some (.p d)=>Q (.p d)
  | _=>False
theorem dv (i:Nat) {x:Str} (hN:X.N[i]? = some x:=by rfl) (hv:Vis X.env.scope x:=by first | exact Or.inl rfl | exact Or.inr (Or.inl rfl) | exact Or.inr (Or.inr rfl)) (hd:(x == ("__debug__" : Str)) = false:=by decide)
    (hcd:(x == ("__classdict__" : Str)) = false:=by decide) : DE X (.Name x pos) (dVar i):=
  DE.of (pe_var hN hv hd hcd) fun σ H Q ⟨G,ρ,P,s,r,h,k⟩=>by
    unfold dVar at h
    split at h
    · rename_i d e
      obtain ⟨v,h1,h2⟩:=r _ _ e
      exact ⟨v,h1,k _ v H G h (Wd.refl s) h2⟩
    · exact h.elim
noncomputable def dC (d:D) : DT:=fun _ Q=>Q (.p d)
noncomputable def CRep (K:PySem.W.Frag) (v:V) (d:D) : Prop:=∀ G,Rep K G v d
theorem de_c {v:V} {d:D} (h:PE X e (tC v)) (r:CRep X.K v d) : DE X e (dC d):=
  DE.of h fun σ H Q ⟨G,ρ,P,s,_,h,k⟩=>k _ v H G h (Wd.refl s) (r G)
theorem de_int {i:Int} {j} : DE X (.Constant (.int i) j pos) (dC (.int i)):=de_c pe_int fun _=>.int i
theorem de_bl {b:Bool} {j} : DE X (.Constant (.bool b) j pos) (dC (.bl b)):=de_c pe_bl fun _=>.bl b
theorem de_non {j} : DE X (.Constant .none j pos) (dC .non):=de_c pe_non fun _=>.non
theorem de_str {x:Str} {j} : DE X (.Constant (.str x) j pos) (dC (.str x)):=de_c pe_str fun _=>.str x
theorem go_on {K:PySem.W.Frag} {H G H1 G1:Hp} {P:B→Prop} {Q:VK} (k:∀ b v H' G',P b→Wd H G H' G'→BRes K H G' H' v b→Q v H') (w:Wd H G H1 G1) : ∀ b v H' G',P b→Wd H1 G1 H' G'→BRes K H1 G' H' v b→Q v H':=
  fun b v H' G' p w' r=>k b v H' G' p (w.trans w') (r.ahead w.hh)
noncomputable abbrev D2:=D→D→(B→Prop)→Prop
noncomputable def OpD (X:Cx) (f:Value→Value→Sem Value) (r:D2) : Prop:=∃ rv:R2,OpR X f rv ∧
  ∀ (H G:Hp) (x y:V) (dx dy:D) (P:B→Prop) (Q:VK),Same G H→Rep X.K G x dx→Rep X.K G y dy→r dx dy P→(∀ b v H' G',P b→Wd H G H' G'→BRes X.K H G' H' v b→Q v H')→rv x y H Q
noncomputable def dOp (r:D2) (ta tb:DT) : DT:=fun ρ Q=>ta ρ fun x=>tb ρ fun y=>r x.val y.val Q
theorem cE_two {K:PySem.W.Frag} {ta tb:DT} {r:D2} {rv:R2} (hr:∀ (H G:Hp) (x y:V) (dx dy:D) (P:B→Prop) (Q:VK),Same G H→Rep K G x dx→Rep K G y dy→r dx dy P→(∀ b v H' G',P b→Wd H G H' G'→BRes K H G' H' v b→Q v H')→rv x y H Q)
    (σ:St) (H:Hp) (Q:VK) : cE K (dOp r ta tb) σ H Q→tOp rv (cE K ta) (cE K tb) σ H Q:=by
  rintro ⟨G,ρ,P,s,re,h,k⟩
  refine ⟨G,ρ,_,s,re,h,fun b v H1 G1 p1 w1 r1=>?_⟩
  obtain ⟨G1',w1',r1'⟩:=r1.give w1
  refine ⟨G1',ρ,_,w1'.gh,re.mono w1'.gg,p1,fun b2 v2 H2 G2 p2 w2 r2=>?_⟩
  obtain ⟨G2',w2',r2'⟩:=r2.give w2
  exact hr H2 G2' v v2 b.val b2.val P Q w2'.gh (r1'.mono w2'.gg) r2' p2 (go_on k (w1'.trans w2'))
theorem de_op {op:Operator} {r:D2} (ho:OpD X (binaryOp op) r) (ha:DE X a ta) (hb:DE X b tb) : DE X (.BinOp a op b pos) (dOp r ta tb):=by
  obtain ⟨rv,h1,h2⟩:=ho
  exact DE.of (pe_op h1 ha.pe hb.pe) (cE_two h2)
theorem de_cmp {op:CmpOp} {r:D2} (ho:OpD X (compareOp op) r) (ha:DE X a ta) (hb:DE X b tb) (hm:behindInMarks op b = false) : DE X (.Compare a [op] [b] pos) (dOp r ta tb):=by
  obtain ⟨rv,h1,h2⟩:=ho
  exact DE.of (pe_cmpR h1 ha.pe hb.pe hm) (cE_two h2)
noncomputable def dI (g:Int→Int→D) : D2:=fun x y Q=>match x,y with
  | .int i,.int j=>Q (.p (g i j))
  | _,_=>False
noncomputable def dIC (C:Int→Int→Prop) (g:Int→Int→D) : D2:=fun x y Q=>match x,y with
  | .int i,.int j=>C i j∧Q (.p (g i j))
  | _,_=>False
theorem opd_I {f:Value→Value→Sem Value} {g:Int→Int→D} {gv:Int→Int→V} (h:OpR X f (rI0 gv)) (hg:∀ i j,CRep X.K (gv i j) (g i j)) : OpD X f (dI g):=by
  refine ⟨_,h,fun H G x y dx dy P Q s rx ry hr k=>?_⟩
  unfold dI at hr
  split at hr
  · cases rx; cases ry
    exact ⟨_,_,rfl,rfl,k _ _ H G hr (Wd.refl s) (hg _ _ _)⟩
  · exact hr.elim
theorem opd_IC {f:Value→Value→Sem Value} {C:Int→Int→Prop} {g:Int→Int→D} {gv:Int→Int→V} (h:OpR X f (rI C gv)) (hg:∀ i j,CRep X.K (gv i j) (g i j)) : OpD X f (dIC C g):=by
  refine ⟨_,h,fun H G x y dx dy P Q s rx ry hr k=>?_⟩
  unfold dIC at hr
  split at hr
  · cases rx; cases ry
    exact ⟨_,_,rfl,rfl,hr.1,k _ _ H G hr.2 (Wd.refl s) (hg _ _ _)⟩
  · exact hr.elim
theorem od_sub:OpD X (binaryOp .Sub) (dI fun i j=>.int (i - j)):=opd_I op_sub fun _ _ _=>.int _
theorem od_fdiv:OpD X (binaryOp .FloorDiv) (dIC CDiv fun i j=>.int (i / j)):=opd_IC op_fdiv fun _ _ _=>.int _
theorem od_mod:OpD X (binaryOp .Mod) (dIC (fun _ j=>0 < j) fun i j=>.int (i % j)):=opd_IC op_mod fun _ _ _=>.int _
theorem od_pow:OpD X (binaryOp .Pow) (dIC CPow fun i j=>.int (i ^ j.toNat)):=opd_IC op_pow fun _ _ _=>.int _
theorem od_lt:OpD X (compareOp .Lt) (dI fun i j=>.bl (decide (i < j))):=opd_I op_lt fun _ _ _=>.bl _
theorem od_le:OpD X (compareOp .LtE) (dI fun i j=>.bl (decide (i ≤ j))):=opd_I op_le fun _ _ _=>.bl _
theorem od_gt:OpD X (compareOp .Gt) (dI fun i j=>.bl (decide (j < i))):=opd_I op_gt fun _ _ _=>.bl _
theorem od_ge:OpD X (compareOp .GtE) (dI fun i j=>.bl (decide (j ≤ i))):=opd_I op_ge fun _ _ _=>.bl _
noncomputable def dEqS:D2:=fun x y Q=>match x,y with
  | .int i,.int j=>Q (.p (.bl (decide (i = j))))
  | .str i,.str j=>Q (.p (.bl (decide (i = j))))
  | .bl i,.bl j=>Q (.p (.bl (decide (i = j))))
  | _,_=>False
noncomputable def dNeS:D2:=fun x y Q=>match x,y with
  | .int i,.int j=>Q (.p (.bl (!decide (i = j))))
  | .str i,.str j=>Q (.p (.bl (!decide (i = j))))
  | .bl i,.bl j=>Q (.p (.bl (!decide (i = j))))
  | _,_=>False
theorem decV {α:Type} [DecidableEq α] {f:α→V} (hf:∀ a b,f a = f b→a = b) (i j:α) : decide (f i = f j) = decide (i = j):=by
  by_cases h:i = j
  · rw [h,decide_eq_true rfl,decide_eq_true rfl]
  · rw [decide_eq_false h,decide_eq_false fun e=>h (hf _ _ e)]
theorem od_eq:OpD X (compareOp .Eq) dEqS:=by
  refine ⟨_,op_eq,fun H G x y dx dy P Q s rx ry hr k=>?_⟩
  unfold dEqS at hr
  split at hr
  · cases rx; cases ry
    exact ⟨rfl,by rw [decV (fun _ _ e=>V.int.inj e)]; exact k _ _ H G hr (Wd.refl s) (.bl _)⟩
  · cases rx; cases ry
    exact ⟨rfl,by rw [decV (fun _ _ e=>V.str.inj e)]; exact k _ _ H G hr (Wd.refl s) (.bl _)⟩
  · cases rx; cases ry
    exact ⟨rfl,by rw [decV (fun _ _ e=>V.bl.inj e)]; exact k _ _ H G hr (Wd.refl s) (.bl _)⟩
  · exact hr.elim
theorem od_ne:OpD X (compareOp .NotEq) dNeS:=by
  refine ⟨_,op_ne,fun H G x y dx dy P Q s rx ry hr k=>?_⟩
  unfold dNeS at hr
  split at hr
  · cases rx; cases ry
    exact ⟨rfl,by rw [decV (fun _ _ e=>V.int.inj e)]; exact k _ _ H G hr (Wd.refl s) (.bl _)⟩
  · cases rx; cases ry
    exact ⟨rfl,by rw [decV (fun _ _ e=>V.str.inj e)]; exact k _ _ H G hr (Wd.refl s) (.bl _)⟩
  · cases rx; cases ry
    exact ⟨rfl,by rw [decV (fun _ _ e=>V.bl.inj e)]; exact k _ _ H G hr (Wd.refl s) (.bl _)⟩
  · exact hr.elim
noncomputable def dIsN:D2:=fun x y Q=>match y with
  | .non=>Q (.p (.bl (match x with | .non=>true | _=>false)))
  | _=>False
noncomputable def dNotN:D2:=fun x y Q=>match y with
  | .non=>Q (.p (.bl (match x with | .non=>false | _=>true)))
  | _=>False
theorem od_notN:OpD X (compareOp .IsNot) dNotN:=by
  refine ⟨_,op_notN,fun H G x y dx dy P Q s rx ry hr k=>?_⟩
  unfold dNotN at hr
  split at hr
  · cases ry
    refine ⟨rfl,k _ _ H G hr (Wd.refl s) ?_⟩
    cases rx <;> exact .bl _
  · exact hr.elim
noncomputable def dUn (r:D→(B→Prop)→Prop) (ta:DT) : DT:=fun ρ Q=>ta ρ fun x=>r x.val Q
noncomputable def dNeg:D→(B→Prop)→Prop:=fun x Q=>match x with
  | .int i=>Q (.p (.int (-i)))
  | _=>False
theorem de_neg (ha:DE X a ta) : DE X (.UnaryOp .USub a pos) (dUn dNeg ta):=
  DE.of (pe_un un_neg ha.pe) fun σ H Q ⟨G,ρ,P,s,re,h,k⟩=>by
    refine ⟨G,ρ,_,s,re,h,fun b v H1 G1 p1 w1 r1=>?_⟩
    obtain ⟨G1',w1',r1'⟩:=r1.give w1
    unfold dNeg at p1
    split at p1
    · rename_i i e
      rw [e] at r1'
      cases r1'
      exact ⟨_,rfl,k _ _ H1 G1' p1 w1' (.int _)⟩
    · exact p1.elim
noncomputable def dNotV (ta:DT) : DT:=fun ρ Q=>ta ρ fun x=>match x.val with
  | .bl c=>Q (.p (.bl (!c)))
  | _=>False
theorem bres_bl {K:PySem.W.Frag} {H G H' G':Hp} {v:V} {b:B} {c:Bool} (w:Wd H G H' G') (r:BRes K H G' H' v b) (e:b.val = .bl c) : v = .bl c:=by
  obtain ⟨G1,_,r1⟩:=r.give w
  rw [e] at r1
  exact r1.bl_inv
theorem de_not (ha:DE X a ta) : DE X (.UnaryOp .Not a pos) (dNotV ta):=
  DE.of (pe_not ha.pe) fun σ H Q ⟨G,ρ,P,s,re,h,k⟩=>by
    refine ⟨G,ρ,_,s,re,h,fun b v H1 G1 p1 w1 r1=>?_⟩
    split at p1
    · rename_i c e
      exact ⟨c,bres_bl w1 r1 e,k _ _ H1 G1 p1 w1 (.bl _)⟩
    · exact p1.elim
noncomputable def dAndV (ta tb:DT) : DT:=fun ρ Q=>ta ρ fun x=>match x.val with
  | .bl c=>(c = true→tb ρ Q)∧(c = false→Q (.p (.bl false)))
  | _=>False
noncomputable def dOrV (ta tb:DT) : DT:=fun ρ Q=>ta ρ fun x=>match x.val with
  | .bl c=>(c = true→Q (.p (.bl true)))∧(c = false→tb ρ Q)
  | _=>False
theorem de_one {op} {t:DT} (h:DE X a t) : DE X (.BoolOp op [a] pos) t:=⟨pe_one h.pe⟩
theorem de_and {rest:List Expr} (ha:DE X a ta) (hb:DE X (.BoolOp .And (b :: rest) pos) tb) : DE X (.BoolOp .And (a :: b :: rest) pos) (dAndV ta tb):=
  DE.of (pe_and ha.pe hb.pe) fun σ H Q ⟨G,ρ,P,s,re,h,k⟩=>by
    refine ⟨G,ρ,_,s,re,h,fun b v H1 G1 p1 w1 r1=>?_⟩
    split at p1
    · rename_i c e
      refine ⟨c,bres_bl w1 r1 e,?_⟩
      cases c with
      | true=>exact iteT ⟨G1,ρ,P,w1.gh,re.mono w1.gg,p1.1 rfl,go_on k w1⟩
      | false=>exact iteF (k _ _ H1 G1 (p1.2 rfl) w1 (.bl _))
    · exact p1.elim
theorem de_or {rest:List Expr} (ha:DE X a ta) (hb:DE X (.BoolOp .Or (b :: rest) pos) tb) : DE X (.BoolOp .Or (a :: b :: rest) pos) (dOrV ta tb):=
  DE.of (pe_or ha.pe hb.pe) fun σ H Q ⟨G,ρ,P,s,re,h,k⟩=>by
    refine ⟨G,ρ,_,s,re,h,fun b v H1 G1 p1 w1 r1=>?_⟩
    split at p1
    · rename_i c e
      refine ⟨c,bres_bl w1 r1 e,?_⟩
      cases c with
      | true=>exact iteT (k _ _ H1 G1 (p1.1 rfl) w1 (.bl _))
      | false=>exact iteF ⟨G1,ρ,P,w1.gh,re.mono w1.gg,p1.2 rfl,go_on k w1⟩
    · exact p1.elim
noncomputable def dTst (t:DT) : DTT:=fun ρ P=>t ρ fun x=>match x.val with
  | .bl c=>P c
  | _=>False
theorem dt_cmp {op:CmpOp} {r:D2} (ho:OpD X (compareOp op) r) (ha:DE X a ta) (hb:DE X b tb) (hm:behindInMarks op b = false) : DTe X (.Compare a [op] [b] pos) (dTst (dOp r ta tb)):=by
  obtain ⟨rv,h1,h2⟩:=ho
  refine DTe.of (pt_cmpR h1 ha.pe hb.pe hm) fun σ H Q ⟨G,ρ,P,s,re,h,k⟩=>?_
  refine cE_two h2 σ H _ ⟨G,ρ,_,s,re,h,fun b v H1 G1 p1 w1 r1=>?_⟩
  split at p1
  · rename_i c e
    exact ⟨c,bres_bl w1 r1 e,k _ H1 G1 p1 w1⟩
  · exact p1.elim
theorem dt_val (ha:DE X a ta) (he:∀ whole,isTrue a X.env whole = (do let v ← whole; standAt a.pos; holding [v] (truthy v)):=by intro _; rfl) : DTe X a (dTst ta):=
  DTe.of (pt_val ha.pe he) fun σ H Q ⟨G,ρ,P,s,re,h,k⟩=>by
    refine ⟨G,ρ,_,s,re,h,fun b v H1 G1 p1 w1 r1=>?_⟩
    split at p1
    · rename_i c e
      exact ⟨c,bres_bl w1 r1 e,k _ H1 G1 p1 w1⟩
    · exact p1.elim
noncomputable def dNot (t:DTT) : DTT:=fun ρ P=>t ρ fun c=>P (!c)
theorem dt_not {t:DTT} (ha:DTe X a t) : DTe X (.UnaryOp .Not a pos) (dNot t):=
  DTe.of (pt_not ha.pt) fun σ H Q ⟨G,ρ,P,s,re,h,k⟩=>⟨G,ρ,_,s,re,h,fun b H1 G1 p1 w1=>k _ H1 G1 p1 w1⟩
noncomputable def dAnd (t u:DTT) : DTT:=fun ρ P=>t ρ fun c=>(c = true→u ρ P)∧(c = false→P false)
noncomputable def dOr (t u:DTT) : DTT:=fun ρ P=>t ρ fun c=>(c = true→P true)∧(c = false→u ρ P)
theorem go_onT {K:PySem.W.Frag} {H G H1 G1:Hp} {P:Bool→Prop} {Q:Bool→Hp→Prop} (k:∀ b H' G',P b→Wd H G H' G'→Q b H') (w:Wd H G H1 G1) : ∀ b H' G',P b→Wd H1 G1 H' G'→Q b H':=
  fun b H' G' p w'=>k b H' G' p (w.trans w')
theorem cT_and {K:PySem.W.Frag} {t u:DTT} (σ:St) (H:Hp) (Q:Bool→Hp→Prop) : cT K (dAnd t u) σ H Q→tAnd (cT K t) (cT K u) σ H Q:=by
  rintro ⟨G,ρ,P,s,re,h,k⟩
  refine ⟨G,ρ,_,s,re,h,fun c H1 G1 p1 w1=>?_⟩
  cases c with
  | true=>exact iteT ⟨G1,ρ,P,w1.gh,re.mono w1.gg,p1.1 rfl,go_onT (K:=K) k w1⟩
  | false=>exact iteF (k _ H1 G1 (p1.2 rfl) w1)
theorem cT_or {K:PySem.W.Frag} {t u:DTT} (σ:St) (H:Hp) (Q:Bool→Hp→Prop) : cT K (dOr t u) σ H Q→tOr (cT K t) (cT K u) σ H Q:=by
  rintro ⟨G,ρ,P,s,re,h,k⟩
  refine ⟨G,ρ,_,s,re,h,fun c H1 G1 p1 w1=>?_⟩
  cases c with
  | true=>exact iteT (k _ H1 G1 (p1.1 rfl) w1)
  | false=>exact iteF ⟨G1,ρ,P,w1.gh,re.mono w1.gg,p1.2 rfl,go_onT (K:=K) k w1⟩
end
end DL
namespace DL
open PySem L2
section
variable {X:Cx} {a b c e:Expr} {ta tb tc te:DT} {pos:Pos} {es:List Expr}
noncomputable def dIfE (t:DTT) (ta tb:DT) : DT:=fun ρ Q=>t ρ fun c=>(c = true→ta ρ Q)∧(c = false→tb ρ Q)
noncomputable def dChain (r r':D2) (ta tb tc:DT) : DT:=fun ρ Q=>ta ρ fun x=>tb ρ fun y=>r x.val y.val fun z=>match z.val with
  | .bl c=>(c = true→tc ρ fun w=>r' y.val w.val Q)∧(c = false→Q (.p (.bl false)))
  | _=>False
theorem dw_and1 {t:DTT} (ha:DTe X a t) : DW X (.BoolOp .And [a] pos) t:=⟨pw_and1 ha.pt⟩
theorem dw_or1 {t:DTT} (ha:DTe X a t) : DW X (.BoolOp .Or [a] pos) t:=⟨pw_or1 ha.pt⟩
theorem dw_and {t u:DTT} {rest:List Expr} (ha:DTe X a t) (hb:DW X (.BoolOp .And (b :: rest) pos) u) : DW X (.BoolOp .And (a :: b :: rest) pos) (dAnd t u):=DW.of (pw_and ha.pt hb.pw) cT_and
theorem dw_or {t u:DTT} {rest:List Expr} (ha:DTe X a t) (hb:DW X (.BoolOp .Or (b :: rest) pos) u) : DW X (.BoolOp .Or (a :: b :: rest) pos) (dOr t u):=DW.of (pw_or ha.pt hb.pw) cT_or
theorem DW.dt {t:DTT} (h:DW X e t) : DTe X e t:=⟨PW.pt h.pw⟩
noncomputable def dNil:DTA:=fun _ P=>P []
noncomputable def dCons (te:DT) (t:DTA) : DTA:=fun ρ P=>te ρ fun b=>t ρ fun ds=>P (b.val :: ds)
theorem da_nil:DA X [] dNil:=DA.of pa_nil fun σ H Q ⟨G,ρ,P,s,re,h,k⟩=>k [] [] H G h rfl (Wd.refl s) .nil
theorem da_cons {t:DTA} (ha:DE X e te) (hr:DA X es t) (hs:starEach (e :: es) X.env = (false,eval e X.env) :: starEach es X.env:=by rfl) : DA X (e :: es) (dCons te t):=
  DA.of (pa_cons ha.pe hr.pa hs) fun σ H Q ⟨G,ρ,P,s,re,h,k⟩=>by
    refine ⟨G,ρ,_,s,re,h,fun b v H1 G1 p1 w1 r1=>?_⟩
    obtain ⟨G1',w1',r1'⟩:=r1.give w1
    refine ⟨G1',ρ,_,w1'.gh,re.mono w1'.gg,p1,fun ds vs H2 G2 p2 l2 w2 r2=>?_⟩
    exact k _ _ H2 G2 p2 (by show ds.length + 1 = es.length + 1; rw [l2]) (w1'.trans w2) (.cons (r1'.mono w2.gg) r2)
noncomputable def dTup (t:DTA) : DT:=fun ρ Q=>t ρ fun ds=>Q (.p (.tup ds))
noncomputable def dLst (t:DTA) : DT:=fun ρ Q=>t ρ fun ds=>Q (.o (.lst ds))
theorem own_new {K:PySem.W.Frag} {H G H1 G1:Hp} {vs:List V} {ds:List D} {p:Addr} (w:Wd H G H1 G1) (hp:H1 p = none) (r:Reps K G1 vs ds) : Wd H G (upd H1 p (.lst vs)) G1∧BRes K H G1 (upd H1 p (.lst vs)) (.ref p) (.o (.lst ds)):=
  ⟨w.own (w.hh.free hp) (w.gh.free hp),p,rfl,w.hh.free hp,w.gh.free hp,vs,upd_same,r⟩
theorem tup_new {K:PySem.W.Frag} {H G H1 G1:Hp} {vs:List V} {ds:List D} {p:Addr} (w:Wd H G H1 G1) (hp:H1 p = none) (r:Reps K G1 vs ds) : Wd H G (upd H1 p (.tup vs)) (upd G1 p (.tup vs))∧BRes K H (upd G1 p (.tup vs)) (upd H1 p (.tup vs)) (.ref p) (.p (.tup ds)):=
  ⟨w.new hp,Rep.tup' (SqT.of upd_same) (Reps.mono (same_new (w.gh.free hp)) r)⟩
theorem de_tup {t:DTA} {x1} (h:DA X es t) (hn:es.length ≤ 1000:=by exact Nat.le_of_ble_eq_true rfl) : DE X (.Tuple es x1 pos) (dTup t):=
  DE.of (pe_tup h.pa) fun σ H Q ⟨G,ρ,P,s,re,h,k⟩=>by
    refine ⟨G,ρ,_,s,re,h,fun ds vs H1 G1 p1 l1 w1 r1=>⟨small_len (by rw [Paired.length r1,l1]; exact hn),fun p hp=>?_⟩⟩
    obtain ⟨w2,r2⟩:=tup_new w1 hp r1
    exact k _ _ _ _ p1 w2 r2
theorem de_lst {t:DTA} (h:DA X es t) (hn:es.length ≤ 1000:=by exact Nat.le_of_ble_eq_true rfl) : DE X (.List es pos) (dLst t):=
  DE.of (pe_lst h.pa) fun σ H Q ⟨G,ρ,P,s,re,h,k⟩=>by
    refine ⟨G,ρ,_,s,re,h,fun ds vs H1 G1 p1 l1 w1 r1=>⟨small_len (by rw [Paired.length r1,l1]; exact hn),fun p hp=>?_⟩⟩
    obtain ⟨w2,r2⟩:=own_new w1 hp r1
    exact k _ _ _ _ p1 w2 r2
noncomputable abbrev DR:=List D→(B→Prop)→Prop
noncomputable def spD (K:PySem.W.Frag) (R:DR) : Sp:=fun vs H Q _=>∃ (ds:List D) (G:Hp) (P:B→Prop),Same G H∧Reps K G vs ds∧R ds P∧∀ b v H' G',P b→Wd H G H' G'→BRes K H G' H' v b→Q v H'
noncomputable abbrev FnD (P:Program) (w:World) (K:PySem.W.Frag) (mg:Str→Option Value) (base:Heap) (x:Str) (k:Nat) (ps:List Str) (R:DR) : Prop:=Fn P w K mg base x k ps (spD K R)
noncomputable def dCall (R:DR) (t:DTA) : DT:=fun ρ Q=>t ρ fun ds=>R ds Q
theorem de_fn {x:Str} {k:Nat} {ps:List Str} {R:DR} {p:Pos} {t:DTA} (F:FnD X.prog X.w X.K X.mg X.base x k ps R) (hr:Room k X.A) (hg:Gl X x) (ha:DA X (e :: es) t)
    (hdb:(x == ("__debug__" : Str)) = false:=by decide) (he:starEach (e :: es) X.env = (false,eval e X.env) :: starEach es X.env:=by rfl) (hpl:(backTo pos (starEach es X.env)).any (·.1) = false:=by rfl) :
    DE X (.Call (.Name x p) (e :: es) [] pos) (dCall R t):=
  DE.of (pe_fn F hr hg ha.pa hdb he hpl) fun σ H Q ⟨G,ρ,P,s,re,h,k⟩=>by
    refine ⟨G,ρ,_,s,re,h,fun ds vs H1 G1 p1 l1 w1 r1=>?_⟩
    show spD X.K R (vs ++ []) H1 Q E0
    rw [List.append_nil]
    exact ⟨ds,G1,P,w1.gh,r1,p1,go_on k w1⟩
noncomputable def CallD (X:Cx) (f:Value) (r:DR) : Prop:=∃ rv,CallR X f rv∧∀ (H G:Hp) (vs:List V) (ds:List D) (P:B→Prop) (Q:VK),Same G H→Reps X.K G vs ds→r ds P→(∀ b v H' G',P b→Wd H G H' G'→BRes X.K H G' H' v b→Q v H')→rv vs H Q
noncomputable def dCB (r:DR) (t:DTA) : DT:=fun ρ Q=>t ρ fun ds=>r ds Q
theorem cE_cb {K:PySem.W.Frag} {n:Nat} {t:DTA} {r:DR} {rv:List V→Hp→VK→Prop} (hr:∀ (H G:Hp) (vs:List V) (ds:List D) (P:B→Prop) (Q:VK),Same G H→Reps K G vs ds→r ds P→(∀ b v H' G',P b→Wd H G H' G'→BRes K H G' H' v b→Q v H')→rv vs H Q)
    (σ:St) (H:Hp) (Q:VK) : cE K (dCB r t) σ H Q→tCB rv (cA K n t) σ H Q:=by
  rintro ⟨G,ρ,P,s,re,h,k⟩
  exact ⟨G,ρ,_,s,re,h,fun ds vs H1 G1 p1 l1 w1 r1=>hr H1 G1 vs ds P Q w1.gh r1 p1 (go_on k w1)⟩
theorem de_callB {id:String} {x:Str} {p:Pos} {t:DTA} {r:DR} (hc:CallD X (.builtin id) r) (hg:Gl X x) (hm:X.mg x = none) (hv:bootBuiltins x = some (.builtin id)) (ha:DA X (e :: es) t) (hn:x ≠ "__name__":=by decide) (hdb:(x == ("__debug__" : Str)) = false:=by decide)
    (he:starEach (e :: es) X.env = (false,eval e X.env) :: starEach es X.env:=by rfl) (hpl:(backTo pos (starEach es X.env)).any (·.1) = false:=by rfl) : DE X (.Call (.Name x p) (e :: es) [] pos) (dCB r t):=by
  obtain ⟨rv,h1,h2⟩:=hc
  exact DE.of (pe_callB h1 hg hm hv ha.pa hn hdb he hpl) (cE_cb h2)
theorem de_callTy {T:String} {x:Str} {p:Pos} {t:DTA} {r:DR} (hc:CallD X (.type T) r) (hg:Gl X x) (hm:X.mg x = none) (hv:bootBuiltins x = some (.type T)) (ha:DA X (e :: es) t) (hn:x ≠ "__name__":=by decide) (hdb:(x == ("__debug__" : Str)) = false:=by decide)
    (he:starEach (e :: es) X.env = (false,eval e X.env) :: starEach es X.env:=by rfl) (hpl:(backTo pos (starEach es X.env)).any (·.1) = false:=by rfl) : DE X (.Call (.Name x p) (e :: es) [] pos) (dCB r t):=by
  obtain ⟨rv,h1,h2⟩:=hc
  exact DE.of (pe_callTy h1 hg hm hv ha.pa hn hdb he hpl) (cE_cb h2)
theorem reps1 {K:PySem.W.Frag} {G:Hp} {vs:List V} {d:D} (h:Reps K G vs [d]) : ∃ v,vs = [v]∧Rep K G v d:=by
  cases h with | cons h t=>cases t; exact ⟨_,rfl,h⟩
theorem reps2 {K:PySem.W.Frag} {G:Hp} {vs:List V} {d d':D} (h:Reps K G vs [d,d']) : ∃ v v',vs = [v,v']∧Rep K G v d∧Rep K G v' d':=by
  cases h with | cons h t=>obtain ⟨v',rfl,h'⟩:=reps1 t; exact ⟨_,_,rfl,h,h'⟩
theorem reps_ints {K:PySem.W.Frag} {G:Hp} : ∀ {ns:List Int} {vs:List V},Reps K G vs (ns.map D.int)→vs = ns.map V.int
  | [],_,h=>by cases h; rfl
  | n :: ns,_,h=>by cases h with | cons h t=>rw [h.int_inv,reps_ints t]; rfl
theorem ints_reps {K:PySem.W.Frag} {G:Hp} : ∀ (ns:List Int),Reps K G (ns.map V.int) (ns.map D.int)
  | []=>.nil
  | n :: ns=>.cons (.int n) (ints_reps ns)
noncomputable def dLen:DR:=fun ds P=>match ds with
  | [.lst xs]=>P (.p (.int xs.length))
  | [.tup xs]=>P (.p (.int xs.length))
  | [.scr ns]=>P (.p (.int ns.length))
  | [.str x]=>x.length ≤ sizeLine∧P (.p (.int x.length))
  | _=>False
theorem cd_len:CallD X (.builtin "len") dLen:=by
  refine ⟨_,call_lenK,fun H G vs ds P Q s r h k=>?_⟩
  unfold dLen at h
  split at h
  · obtain ⟨v,rfl,rv⟩:=reps1 r
    obtain ⟨a,us,rfl,e,rr⟩:=rv.lst_inv
    exact ⟨_,us.length,rfl,.inl ⟨us,SqL.of (s _ _ e),rfl⟩,by rw [Paired.length rr]; exact k _ _ H G h (Wd.refl s) (.int _)⟩
  · obtain ⟨v,rfl,rv⟩:=reps1 r
    obtain ⟨a,us,rfl,e,rr⟩:=rv.tup_inv
    exact ⟨_,us.length,rfl,.inr ⟨us,same_seqT s e,rfl⟩,by rw [Paired.length rr]; exact k _ _ H G h (Wd.refl s) (.int _)⟩
  · rename_i ns
    obtain ⟨v,rfl,rv⟩:=reps1 r
    cases rv with
    | scr e=>exact ⟨_,ns.length,rfl,.inl ⟨_,s.seq e,by simp⟩,k _ _ H G h (Wd.refl s) (.int _)⟩
  · rename_i x
    obtain ⟨v,rfl,rv⟩:=reps1 r
    cases rv
    exact ⟨_,x.length,rfl,⟨h.1,rfl⟩,k _ _ H G h.2 (Wd.refl s) (.int _)⟩
  · exact h.elim
noncomputable def dSum:DR:=fun ds P=>match ds with
  | [.lst xs]=>∃ ns:List Int,xs = ns.map D.int∧P (.p (.int ns.sum))
  | _=>False
theorem cd_sum (hc:X.calm = true) : CallD X (.builtin "sum") dSum:=by
  refine ⟨_,call_sumL hc,fun H G vs ds P Q s r h k=>?_⟩
  unfold dSum at h
  split at h
  · obtain ⟨ns,rfl,h⟩:=h
    obtain ⟨v,rfl,rv⟩:=reps1 r
    obtain ⟨a,us,rfl,e,rr⟩:=rv.lst_inv
    rw [reps_ints rr] at e
    exact ⟨a,ns,rfl,SqL.of (s _ _ e),k _ _ H G h (Wd.refl s) (.int _)⟩
  · exact h.elim
noncomputable def dII (g:Int→Int→Int) : DR:=fun ds P=>match ds with
  | [.int i,.int j]=>P (.p (.int (g i j)))
  | _=>False
theorem cd_II {f:Value} {g:Int→Int→Int} (h:CallR X f (fun xs H Q=>∃ i j,xs = [.int i,.int j]∧Q (.int (g i j)) H)) : CallD X f (dII g):=by
  refine ⟨_,h,fun H G vs ds P Q s r h k=>?_⟩
  unfold dII at h
  split at h
  · obtain ⟨v,v',rfl,r1,r2⟩:=reps2 r
    cases r1; cases r2
    exact ⟨_,_,rfl,k _ _ H G h (Wd.refl s) (.int _)⟩
  · exact h.elim
theorem cd_max2 (hc:X.calm = true) : CallD X (.builtin "max") (dII fun i j=>if j > i then j else i):=cd_II (call_max2 hc)
theorem cd_min2 (hc:X.calm = true) : CallD X (.builtin "min") (dII fun i j=>if j < i then j else i):=cd_II (call_min2 hc)
noncomputable def dAbs:DR:=fun ds P=>match ds with
  | [.int i]=>P (.p (.int (if i < 0 then -i else i)))
  | _=>False
noncomputable def dInt:DR:=fun ds P=>match ds with
  | [.int i]=>P (.p (.int i))
  | [.bl c]=>P (.p (.int (if c then 1 else 0)))
  | _=>False
theorem cd_int:CallD X (.type "int") dInt:=by
  refine ⟨_,call_int1,fun H G vs ds P Q s r h k=>?_⟩
  unfold dInt at h
  split at h
  · obtain ⟨v,rfl,r1⟩:=reps1 r
    cases r1
    exact .inl ⟨_,rfl,k _ _ H G h (Wd.refl s) (.int _)⟩
  · obtain ⟨v,rfl,r1⟩:=reps1 r
    cases r1
    exact .inr ⟨_,rfl,k _ _ H G h (Wd.refl s) (.int _)⟩
  · exact h.elim
noncomputable def dCopy:DR:=fun ds P=>match ds with
  | [.lst xs]=>P (.o (.lst xs))
  | [.tup xs]=>P (.o (.lst xs))
  | [.scr ns]=>P (.o (.lst (ns.map D.int)))
  | _=>False
theorem cd_list:CallD X (.type "list") dCopy:=by
  refine ⟨_,call_list_of,fun H G vs ds P Q s r h k=>?_⟩
  unfold dCopy at h
  split at h
  · obtain ⟨v,rfl,rv⟩:=reps1 r
    obtain ⟨a,us,rfl,e,rr⟩:=rv.lst_inv
    refine ⟨a,us,rfl,.inl (SqL.of (s _ _ e)),fun l hl=>?_⟩
    obtain ⟨w2,r2⟩:=own_new (Wd.refl s) hl rr
    exact k _ _ _ _ h w2 r2
  · obtain ⟨v,rfl,rv⟩:=reps1 r
    obtain ⟨a,us,rfl,e,rr⟩:=rv.tup_inv
    refine ⟨a,us,rfl,.inr (same_seqT s e),fun l hl=>?_⟩
    obtain ⟨w2,r2⟩:=own_new (Wd.refl s) hl rr
    exact k _ _ _ _ h w2 r2
  · rename_i ns
    obtain ⟨v,rfl,rv⟩:=reps1 r
    cases rv with
    | scr e =>
      refine ⟨_,_,rfl,.inl (s.seq e),fun l hl=>?_⟩
      obtain ⟨w2,r2⟩:=own_new (Wd.refl s) hl (ints_reps (K:=X.K) ns)
      exact k _ _ _ _ h w2 r2
  · exact h.elim
noncomputable def tyD:D→String
  | .non=>"NoneType"
  | .bl _=>"bool"
  | .int _=>"int"
  | .str _=>"str"
  | .tup _=>"tuple"
  | .lst _=>"list"
  | .scr _=>"list"
  | .dct _=>"dict"
noncomputable def isD (T:String) (d:D) : Bool:=match T with
  | "int"=>(match d with | .int _=>true | .bl _=>true | _=>false)
  | "bool"=>(match d with | .bl _=>true | _=>false)
  | "str"=>(match d with | .str _=>true | _=>false)
  | "tuple"=>(match d with | .tup _=>true | _=>false)
  | "list"=>(match d with | .lst _=>true | .scr _=>true | _=>false)
  | _=>false
noncomputable def dIx:D2:=fun x y Q=>match x,y with
  | .lst xs,.int i=>∃ d,atI xs i = some d∧Q (.p d)
  | .tup xs,.int i=>∃ d,atI xs i = some d∧Q (.p d)
  | .scr ns,.int i=>∃ n,atI ns i = some n∧Q (.p (.int n))
  | .str z,.int i=>∃ c,z.length ≤ sizeLine∧atI z.cps.toList i = some c∧Q (.p (.str ⟨#[c]⟩))
  | _,_=>False
theorem atI_rep {K:PySem.W.Frag} {G:Hp} {vs:List V} {ds:List D} {i:Int} {d:D} (r:Reps K G vs ds) (h:atI ds i = some d) : ∃ v,atI vs i = some v∧Rep K G v d:=by
  unfold atI at *
  rw [Paired.length r]
  cases e:ixN ds.length i with
  | none=>rw [e] at h; cases h
  | some j =>
    rw [e] at h
    exact paired_get' r h
theorem atI_map {α β:Type} (f:α→β) {xs:List α} {i:Int} {x:α} (h:atI xs i = some x) : atI (xs.map f) i = some (f x):=by
  unfold atI at *
  rw [List.length_map]
  cases e:ixN xs.length i with
  | none=>rw [e] at h; cases h
  | some j =>
    rw [e] at h
    have h':xs[j]? = some x:=h
    show (xs.map f)[j]? = _
    rw [List.getElem?_map,h']
    rfl
theorem de_ix (ha:DE X a ta) (hb:DE X b tb) (hs:PlainIx b:=by exact fun _ _=>rfl) : DE X (.Subscript a b pos) (dOp dIx ta tb):=
  DE.of (pe_ix ix_seq ha.pe hb.pe hs) (cE_two fun H G x y dx dy P Q s rx ry h k=>by
    unfold dIx at h
    split at h
    · cases ry
      obtain ⟨d,h1,h2⟩:=h
      obtain ⟨a,us,rfl,e,rr⟩:=rx.lst_inv
      obtain ⟨v,h3,h4⟩:=atI_rep rr h1
      exact .inl ⟨a,us,_,v,rfl,rfl,SqL.of (s _ _ e),h3,k _ _ H G h2 (Wd.refl s) h4⟩
    · cases ry
      obtain ⟨d,h1,h2⟩:=h
      obtain ⟨a,us,rfl,e,rr⟩:=rx.tup_inv
      obtain ⟨v,h3,h4⟩:=atI_rep rr h1
      exact .inr (.inl ⟨a,us,_,v,rfl,rfl,same_seqT s e,h3,k _ _ H G h2 (Wd.refl s) h4⟩)
    · cases ry
      obtain ⟨n,h1,h2⟩:=h
      cases rx with
      | scr e=>exact .inl ⟨_,_,_,.int n,rfl,rfl,s.seq e,atI_map _ h1,k _ _ H G h2 (Wd.refl s) (.int _)⟩
    · cases rx; cases ry
      obtain ⟨c,h0,h1,h2⟩:=h
      exact .inr (.inr ⟨_,_,c,rfl,rfl,h0,h1,k _ _ H G h2 (Wd.refl s) (.str _)⟩)
    · exact h.elim)
noncomputable abbrev DTO:=DEnv→(Option Int→Prop)→Prop
noncomputable def cO (K:PySem.W.Frag) (t:DTO) : TO:=fun σ H Q=>∃ (G:Hp) (ρ:DEnv) (P:Option Int→Prop),Same G H∧RepE K G σ ρ∧t ρ P∧∀ o H' G',P o→Wd H G H' G'→Q o H'
structure DO (X:Cx) (e:Option Expr) (t:DTO) : Prop where
  po:PO X e (cO X.K t)
noncomputable def dNoPart:DTO:=fun _ P=>P none
noncomputable def dPart (t:DT) : DTO:=fun ρ P=>t ρ fun b=>match b.val with
  | .int i=>P (some i)
  | _=>False
theorem bres_int {K:PySem.W.Frag} {H G H' G':Hp} {v:V} {b:B} {c:Int} (w:Wd H G H' G') (r:BRes K H G' H' v b) (e:b.val = .int c) : v = .int c:=by
  obtain ⟨G1,_,r1⟩:=r.give w
  rw [e] at r1
  exact r1.int_inv
theorem PO.imp {e:Option Expr} {t t':TO} (h:PO X e t) (i:∀ σ H Q,t' σ H Q→t σ H Q) : PO X e t':=fun pins s σ H Q I q=>h pins s σ H Q I (i σ H Q q)
theorem DO.of {e:Option Expr} {t:TO} {t':DTO} (h:PO X e t) (i:∀ σ H Q,cO X.K t' σ H Q→t σ H Q) : DO X e t':=⟨PO.imp h i⟩
theorem do_none:DO X none dNoPart:=DO.of po_none fun σ H Q ⟨G,ρ,P,s,re,h,k⟩=>k _ H G h (Wd.refl s)
theorem do_some (he:DE X e te) : DO X (some e) (dPart te):=DO.of (po_some he.pe) fun σ H Q ⟨G,ρ,P,s,re,h,k⟩=>by
  refine ⟨G,ρ,_,s,re,h,fun b v H1 G1 p1 w1 r1=>?_⟩
  split at p1
  · rename_i i e
    exact ⟨i,bres_int w1 r1 e,k _ H1 G1 p1 w1⟩
  · exact p1.elim
noncomputable def cutL {α:Type} (xs:List α) (lo hi:Option Int) : List α:=(xs.drop (HT.sIx xs.length 0 lo)).take (HT.sIx xs.length xs.length hi - HT.sIx xs.length 0 lo)
theorem paired_drop {α β:Type} {F:α→β→Prop} : ∀ {l:List α} {r:List β} (n:Nat),Paired F l r→Paired F (l.drop n) (r.drop n)
  | _,_,0,h=>h
  | _,_,n + 1,.nil=>by rw [List.drop_nil,List.drop_nil]; exact .nil
  | _,_,n + 1,.cons _ t=>paired_drop n t
theorem paired_take {α β:Type} {F:α→β→Prop} : ∀ {l:List α} {r:List β} (n:Nat),Paired F l r→Paired F (l.take n) (r.take n)
  | _,_,0,h=>by rw [List.take_zero,List.take_zero]; exact .nil
  | _,_,n + 1,.nil=>by rw [List.take_nil,List.take_nil]; exact .nil
  | _,_,n + 1,.cons h t=>.cons h (paired_take n t)
theorem reps_cut {K:PySem.W.Frag} {G:Hp} {vs:List V} {ds:List D} (r:Reps K G vs ds) (lo hi:Option Int) : Reps K G (cutV vs lo hi) (cutL ds lo hi):=by
  unfold cutV cutL
  rw [Paired.length r]
  exact paired_take _ (paired_drop _ r)
noncomputable def dSl (te:DT) (tl th:DTO) : DT:=fun ρ Q=>te ρ fun b=>tl ρ fun lo=>th ρ fun hi=>match b.val with
  | .lst xs=>Q (.o (.lst (cutL xs lo hi)))
  | .scr ns=>Q (.o (.lst ((cutL ns lo hi).map D.int)))
  | .tup xs=>¬ (HT.sIx xs.length 0 lo = 0∧HT.sIx xs.length xs.length hi = xs.length)∧Q (.p (.tup (cutL xs lo hi)))
  | _=>False
theorem cutV_map {α:Type} (f:α→V) (xs:List α) (lo hi:Option Int) : cutV (xs.map f) lo hi = (cutL xs lo hi).map f:=by
  unfold cutV cutL
  rw [List.length_map,List.map_take,List.map_drop]
theorem de_slice {lo hi:Option Expr} {tl th:DTO} {p2:Pos} (he:DE X e te) (hl:DO X lo tl) (hu:DO X hi th) : DE X (.Subscript e (.Slice lo hi none p2) pos) (dSl te tl th):=
  DE.of (pe_slice (sl_list.or sl_tup) he.pe hl.po hu.po) fun σ H Q ⟨G,ρ,P,s,re,h,k⟩=>by
    refine ⟨G,ρ,_,s,re,h,fun b v H1 G1 p1 w1 r1=>?_⟩
    obtain ⟨G1',w1',r1'⟩:=r1.give w1
    refine ⟨G1',ρ,_,w1'.gh,re.mono w1'.gg,p1,fun l H2 G2 p2 w2=>?_⟩
    have w12:=w1'.trans w2
    refine ⟨G2,ρ,_,w2.gh,re.mono w12.gg,p2,fun u H3 G3 p3 w3=>?_⟩
    have w13:=w12.trans w3
    have r3:=r1'.mono (w2.trans w3).gg
    split at p3
    · rename_i xs e
      rw [e] at r3
      obtain ⟨a,us,rfl,e,rr⟩:=r3.lst_inv
      refine .inl ⟨a,us,rfl,SqL.of (w3.gh _ _ e),fun p hp=>?_⟩
      obtain ⟨w4,r4⟩:=own_new w13 hp (reps_cut rr l u)
      exact k _ _ _ _ p3 w4 r4
    · rename_i ns e
      rw [e] at r3
      cases r3 with
      | scr e =>
        refine .inl ⟨_,_,rfl,w3.gh.seq e,fun p hp=>?_⟩
        rw [cutV_map]
        obtain ⟨w4,r4⟩:=own_new w13 hp (ints_reps (K:=X.K) (cutL ns l u))
        exact k _ _ _ _ p3 w4 r4
    · rename_i xs e
      rw [e] at r3
      obtain ⟨a,us,rfl,e,rr⟩:=r3.tup_inv
      refine .inr ⟨a,us,rfl,same_seqT w3.gh e,by rw [Paired.length rr]; exact p3.1,fun p hp=>?_⟩
      obtain ⟨w4,r4⟩:=tup_new w13 hp (reps_cut rr l u)
      exact k _ _ _ _ p3.2 w4 r4
    · exact p3.elim
theorem reps_pick {K:PySem.W.Frag} {G:Hp} {vs:List V} {ds:List D} (r:Reps K G vs ds) : ∀ js:List Nat,Reps K G (js.filterMap fun j=>vs[j]?) (js.filterMap fun j=>ds[j]?)
  | []=>.nil
  | j :: js=>by
    rw [List.filterMap_cons,List.filterMap_cons]
    cases e:ds[j]? with
    | none =>
      have:vs[j]? = none:=by
        rw [List.getElem?_eq_none_iff] at e ⊢
        rw [Paired.length r]; exact e
      rw [this]
      exact reps_pick r js
    | some d =>
      obtain ⟨v,h1,h2⟩:=paired_get' r e
      rw [h1]
      exact .cons h2 (reps_pick r js)
theorem reps_step {K:PySem.W.Frag} {G:Hp} {vs:List V} {ds:List D} (r:Reps K G vs ds) (lo hi st:Option Int) : Reps K G (stepV vs lo hi st) (stepV ds lo hi st):=by
  unfold stepV
  rw [Paired.length r]
  exact reps_pick r _
noncomputable def dSlS (te:DT) (tl th ts:DTO) : DT:=fun ρ Q=>te ρ fun b=>tl ρ fun lo=>th ρ fun hi=>ts ρ fun st=>st ≠ some 0∧match b.val with
  | .lst xs=>Q (.o (.lst (stepV xs lo hi st)))
  | .scr ns=>Q (.o (.lst ((stepV ns lo hi st).map D.int)))
  | _=>False
theorem de_sliceS {lo hi:Option Expr} {st:Expr} {tl th ts:DTO} {p2:Pos} (he:DE X e te) (hl:DO X lo tl) (hu:DO X hi th) (hs:DO X (some st) ts) : DE X (.Subscript e (.Slice lo hi (some st) p2) pos) (dSlS te tl th ts):=
  DE.of (pe_sliceS he.pe hl.po hu.po hs.po) fun σ H Q ⟨G,ρ,P,s,re,h,k⟩=>by
    refine ⟨G,ρ,_,s,re,h,fun b v H1 G1 p1 w1 r1=>?_⟩
    obtain ⟨G1',w1',r1'⟩:=r1.give w1
    refine ⟨G1',ρ,_,w1'.gh,re.mono w1'.gg,p1,fun l H2 G2 p2 w2=>?_⟩
    have w12:=w1'.trans w2
    refine ⟨G2,ρ,_,w2.gh,re.mono w12.gg,p2,fun u H3 G3 p3 w3=>?_⟩
    have w13:=w12.trans w3
    refine ⟨G3,ρ,_,w3.gh,re.mono w13.gg,p3,fun st H4 G4 p4 w4=>?_⟩
    have w14:=w13.trans w4
    have r3:=r1'.mono ((w2.trans w3).trans w4).gg
    obtain ⟨h0,p4⟩:=p4
    split at p4
    · rename_i xs e
      rw [e] at r3
      obtain ⟨a,us,rfl,e,rr⟩:=r3.lst_inv
      refine ⟨a,us,rfl,SqL.of (w4.gh _ _ e),h0,fun p hp=>?_⟩
      obtain ⟨w5,r5⟩:=own_new w14 hp (reps_step rr l u st)
      exact k _ _ _ _ p4 w5 r5
    · rename_i ns e
      rw [e] at r3
      cases r3 with
      | scr e =>
        refine ⟨_,_,rfl,w4.gh.seq e,h0,fun p hp=>?_⟩
        rw [stepV_map]
        obtain ⟨w5,r5⟩:=own_new w14 hp (ints_reps (K:=X.K) (stepV ns l u st))
        exact k _ _ _ _ p4 w5 r5
    · exact p4.elim
noncomputable def dAdd:D2:=fun x y Q=>match x,y with
  | .int i,.int j=>Q (.p (.int (i + j)))
  | .lst xs,.lst ys=>xs.length + ys.length ≤ sizeLine∧Q (.o (.lst (xs ++ ys)))
  | .str x,.str y=>x.length + y.length ≤ sizeLine∧Q (.p (.str (x ++ y)))
  | .tup xs,.tup ys=>xs ≠ []∧ys ≠ []∧xs.length + ys.length ≤ sizeLine∧Q (.p (.tup (xs ++ ys)))
  | _,_=>False
theorem OpR.or {f:Value→Value→Sem Value} {r r':R2} (h:OpR X f r) (h':OpR X f r') : OpR X f (fun x y H Q=>r x y H Q ∨ r' x y H Q):=by
  intro pins s σ H x y v u Q I rx ry q
  rcases q with q | q
  · exact h pins s σ H x y v u Q I rx ry q
  · exact h' pins s σ H x y v u Q I rx ry q
theorem paired_app {α β:Type} {F:α→β→Prop} : ∀ {l l':List α} {r r':List β},Paired F l r→Paired F l' r'→Paired F (l ++ l') (r ++ r')
  | _,_,_,_,.nil,h=>h
  | _,_,_,_,.cons h t,h'=>.cons h (paired_app t h')
theorem od_plus:OpD X (binaryOp .Add) dAdd:=by
  refine ⟨_,op_add.or (op_cat.or (op_add_str.or op_catT)),fun H G x y dx dy P Q s rx ry h k=>?_⟩
  unfold dAdd at h
  split at h
  · cases rx; cases ry
    exact .inl ⟨_,_,rfl,rfl,k _ _ H G h (Wd.refl s) (.int _)⟩
  · obtain ⟨a,us,rfl,e,rr⟩:=rx.lst_inv
    obtain ⟨a',us',rfl,e',rr'⟩:=ry.lst_inv
    refine .inr (.inl ⟨a,a',us,us',rfl,rfl,s _ _ e,s _ _ e',by rw [Paired.length rr,Paired.length rr']; exact h.1,fun p hp=>?_⟩)
    obtain ⟨w2,r2⟩:=own_new (Wd.refl s) hp (paired_app rr rr')
    exact k _ _ _ _ h.2 w2 r2
  · cases rx; cases ry
    exact .inr (.inr (.inl ⟨_,_,rfl,rfl,h.1,k _ _ H G h.2 (Wd.refl s) (.str _)⟩))
  · obtain ⟨h1,h2,h3,h4⟩:=h
    obtain ⟨a,us,rfl,e,rr⟩:=rx.tup_inv
    obtain ⟨a',us',rfl,e',rr'⟩:=ry.tup_inv
    refine .inr (.inr (.inr ⟨a,a',us,us',rfl,rfl,same_seqT s e,same_seqT s e',fun z=>?_,by rw [Paired.length rr,Paired.length rr']; exact h3,fun z=>?_,fun _ p hp=>?_⟩))
    · subst z; cases rr; exact h1 rfl
    · subst z; cases rr'; exact (h2 rfl).elim
    · obtain ⟨w2,r2⟩:=tup_new (Wd.refl s) hp (paired_app rr rr')
      exact k _ _ _ _ h4 w2 r2
  · exact h.elim
noncomputable def dMul:D2:=fun x y Q=>match x,y with
  | .int i,.int j=>CMul i j∧Q (.p (.int (i * j)))
  | .lst xs,.int k=>(-(2 ^ 63) ≤ k∧k < 2 ^ 63)∧xs.length * k.toNat ≤ sizeLine∧Q (.o (.lst (List.replicate k.toNat xs).flatten))
  | _,_=>False
theorem reps_rep {K:PySem.W.Frag} {G:Hp} {vs:List V} {ds:List D} (r:Reps K G vs ds) : ∀ n:Nat,Reps K G (List.replicate n vs).flatten (List.replicate n ds).flatten
  | 0=>.nil
  | n + 1=>by
    rw [List.replicate_succ,List.replicate_succ,List.flatten_cons,List.flatten_cons]
    exact paired_app r (reps_rep r n)
theorem od_times:OpD X (binaryOp .Mult) dMul:=by
  refine ⟨_,op_mul.or op_rep,fun H G x y dx dy P Q s rx ry h k=>?_⟩
  unfold dMul at h
  split at h
  · cases rx; cases ry
    exact .inl ⟨_,_,rfl,rfl,h.1,k _ _ H G h.2 (Wd.refl s) (.int _)⟩
  · cases ry
    obtain ⟨a,us,rfl,e,rr⟩:=rx.lst_inv
    obtain ⟨⟨h1,h2⟩,h3,h4⟩:=h
    refine .inr ⟨a,_,us,rfl,rfl,s _ _ e,h1,h2,by rw [Paired.length rr]; exact h3,fun p hp=>?_⟩
    obtain ⟨w2,r2⟩:=own_new (Wd.refl s) hp (reps_rep rr _)
    exact k _ _ _ _ h4 w2 r2
  · exact h.elim
end
end DL
namespace DL
open PySem L2
section
variable {X:Cx} {pins:List (Addr × Obj)} {σ:St} {H G:Hp} {s:Shared}
theorem sz {vs:List V} {us:List Value} {ds:List D} (r:Vals vs us) (k:Reps X.K G vs ds) : us.toArray.size = ds.length:=by
  rw [List.size_toArray,← r.length,Paired.length k]
end
end DL
namespace DL
open PySem L2
section
variable {X:Cx} {a b c e:Expr} {ta tb tc te:DT} {pos:Pos} {es:List Expr}
theorem kit_tab {K:PySem.W.Frag} {T:String} (h:T = "int" ∨ T = "bool" ∨ T = "str" ∨ T = "tuple" ∨ T = "list") (d:D) : PySem.W.kitOne K (.type (tyD d)) (.type T) = some (isD T d):=by
  rcases h with rfl | rfl | rfl | rfl | rfl <;> cases d <;> rfl
theorem call_isinstD:CallR X (.builtin "isinstance") (fun xs H Q=>∃ G x d T,xs = [x,.ty T]∧Same G H∧Rep X.K G x d∧(T = "int" ∨ T = "bool" ∨ T = "str" ∨ T = "tuple" ∨ T = "list")∧Q (.bl (isD T d)) H):=by
  intro pins s σ H xs us Q I r h
  obtain ⟨G,x,d,T,rfl,sG,rx,hT,q⟩:=h
  obtain ⟨u,w',rfl,ru,rw'⟩:=vals2 r
  cases (show w' = Value.type T from rw')
  have e:=kit_tab (K:=X.K) hT d
  have fin:∀ tk,EP X pins σ Q (.bool (isD T d)) { s with toks:=tk }:=fun tk=>⟨.bl _,H,I.tok tk,rfl,q⟩
  cases rx with
  | non=>exact isinst_ok I ru .non e fin
  | bl b=>exact isinst_ok I ru (.bl b) e fin
  | int i=>exact isinst_ok I ru (.int i) e fin
  | str z=>exact isinst_ok I ru (.str z) e fin
  | @tup a vs ds h l r =>
    cases ru
    obtain ⟨is,r1,⟨o,h1,h2,_⟩,z1⟩:=I.tuple (same_seqT sG h)
    exact PySem.W.kia_one PySem.W.kitx_tuple I.kIn ⟨o,h1,h2⟩ e (fun z=>nomatch z) fin
  | @lst a vs ds h l r =>
    cases ru
    obtain ⟨is,r1,t1,z1⟩:=I.list (SqL.of (sG _ _ h))
    obtain ⟨o,h1,h2,_⟩:=t1.isList
    exact PySem.W.kia_one PySem.W.kitx_list I.kIn ⟨o,h1,h2⟩ e (fun z=>nomatch z) fin
  | @dct a kvs h =>
    cases ru
    obtain ⟨_,_,_,_,o,_,_,h1,h2,_⟩:=I.hok _ _ (sG _ _ h)
    exact PySem.W.kia_one PySem.W.kitx_dict I.kIn ⟨o,h1,h2.1⟩ e (fun z=>nomatch z) fin
  | @scr a ns h =>
    cases ru
    obtain ⟨is,r1,t1,z1⟩:=I.list (sG.seq h)
    obtain ⟨o,h1,h2,_⟩:=t1.isList
    exact PySem.W.kia_one PySem.W.kitx_list I.kIn ⟨o,h1,h2⟩ e (fun z=>nomatch z) fin
noncomputable def dIsi (T:String) (te:DT) : DT:=fun ρ Q=>te ρ fun b=>Q (.p (.bl (isD T b.val)))
theorem de_isi {T:String} {p:Pos} {e2:Expr} (hT:T = "int" ∨ T = "bool" ∨ T = "str" ∨ T = "tuple" ∨ T = "list") (hg:Gl X "isinstance") (hm:X.mg "isinstance" = none) (he:DE X e te) (h2:PE X e2 (tC (.ty T)))
    (hs:starEach (e :: [e2]) X.env = (false,eval e X.env) :: starEach [e2] X.env:=by rfl) (hs2:starEach (e2 :: []) X.env = (false,eval e2 X.env) :: starEach [] X.env:=by rfl) (hpl:(backTo pos (starEach [e2] X.env)).any (·.1) = false:=by rfl) : DE X (.Call (.Name "isinstance" p) [e,e2] [] pos) (dIsi T te):=
  DE.of (pe_callB call_isinstD hg hm PyProof.Rows.boot_isinstance (pa_cons he.pe (pa_cons h2 pa_nil hs2) hs) (he:=hs) (hpl:=hpl)) fun σ H Q ⟨G,ρ,P,s,re,h,k⟩=>by
    refine ⟨G,ρ,_,s,re,h,fun b v H1 G1 p1 w1 r1=>?_⟩
    obtain ⟨G1',w1',r1'⟩:=r1.give w1
    exact ⟨G1',v,b.val,T,rfl,w1'.gh,r1',hT,k _ _ H1 G1' p1 w1' (.bl _)⟩
end
inductive Tg where
  | n (i:Nat) | t (is:List Nat)
noncomputable def gNames:List Nat→TGs
  | []=>gNil
  | i :: is=>gCons (gName i) (gNames is)
noncomputable def Tg.v (K:PySem.W.Frag) : Tg→TG
  | .n i=>gName i
  | .t is=>gSeq K is.length (gNames is)
noncomputable def putN:List Nat→List D→DEnv→(DEnv→Prop)→Prop
  | [],[],ρ,P=>P ρ
  | i :: is,d :: ds,ρ,P=>putN is ds (dput ρ i (.p d)) P
  | _,_,_,_=>False
noncomputable def Tg.d:Tg→D→DEnv→(DEnv→Prop)→Prop
  | .n i,d,ρ,P=>P (dput ρ i (.p d))
  | .t is,.tup ds,ρ,P=>putN is ds ρ P
  | .t is,.lst ds,ρ,P=>putN is ds ρ P
  | .t _,_,_,_=>False
noncomputable def Tg.is:Tg→List Nat
  | .n i=>[i]
  | .t is=>is
noncomputable def NestAt (K:PySem.W.Frag) (H0 G H:Hp) (w:Addr→Nat) (i:Nat) (a:Addr) (t:Bool) (dss:List D) : Prop:=∃ as:List Addr,as.Nodup∧Paired (fun x ds=>H0 x = none∧w x = i∧OwnAt K G H x ds) as dss∧match t with
  | true=>SqT K G a (as.map V.ref)
  | false=>H0 a = none∧w a = i∧G a = none∧a ∉ as∧H a = some (.lst (as.map V.ref))
structure EnvW (K:PySem.W.Frag) (H0 G H:Hp) (w:Addr→Nat) (σ:St) (ρ:DEnv) : Prop where
  len:σ.length = ρ.length
  p:∀ i d,dget ρ i = some (.p d)→∃ v,σ[i]? = some (some v)∧Rep K G v d
  o:∀ i d,dget ρ i = some (.o d)→∃ a,σ[i]? = some (some (.ref a))∧H0 a = none∧w a = i∧OwnAt K G H a d
  n:∀ i t dss,dget ρ i = some (.n t dss)→∃ a,σ[i]? = some (some (.ref a))∧NestAt K H0 G H w i a t dss
noncomputable def EnvO (K:PySem.W.Frag) (H0 G H:Hp) (σ:St) (ρ:DEnv) : Prop:=∃ w,EnvW K H0 G H w σ ρ
section
variable {K:PySem.W.Frag} {H0 G H:Hp} {σ:St} {ρ:DEnv}
theorem EnvO.p (h:EnvO K H0 G H σ ρ) : ∀ i d,dget ρ i = some (.p d)→∃ v,σ[i]? = some (some v)∧Rep K G v d:=by obtain ⟨w,h⟩:=h; exact h.p
theorem EnvO.o (h:EnvO K H0 G H σ ρ) : ∀ i d,dget ρ i = some (.o d)→∃ a,σ[i]? = some (some (.ref a))∧H0 a = none∧OwnAt K G H a d:=by
  obtain ⟨w,h⟩:=h
  intro i d e
  obtain ⟨a,h1,h2,_,h3⟩:=h.o i d e
  exact ⟨a,h1,h2,h3⟩
theorem EnvO.only (l:σ.length = ρ.length) (hp:RepE K G σ ρ) (h:∀ i b,dget ρ i = some b→∃ d,b = .p d) : EnvO K H0 G H σ ρ:=by
  refine ⟨fun _=>0,l,hp,fun i d e=>?_,fun i t dss e=>?_⟩
  · obtain ⟨_,q⟩:=h i _ e; cases q
  · obtain ⟨_,q⟩:=h i _ e; cases q
end
theorem OwnAt.stay {K:PySem.W.Frag} {G H G' H':Hp} {a:Addr} {d:D} (h:OwnAt K G H a d) (hg:Same G G') (hn:G' a = none) (hh:∀ o,H a = some o→H' a = some o) : OwnAt K G' H' a d:=by
  obtain ⟨h1,h2⟩:=h
  refine ⟨hn,?_⟩
  cases d with
  | lst ds=>obtain ⟨vs,e,r⟩:=h2; exact ⟨vs,hh _ e,Reps.mono hg r⟩
  | non=>exact h2
  | bl _=>exact h2
  | int _=>exact h2
  | str _=>exact h2
  | tup _=>exact h2
  | scr _=>exact h2
  | dct kvs=>exact hh _ h2
theorem OwnAt.chg {K:PySem.W.Frag} {G H:Hp} {a:Addr} {d:D} (h:OwnAt K G H a d) : Chg H a:=by
  obtain ⟨h1,h2⟩:=h
  cases d with
  | lst ds=>obtain ⟨vs,e,r⟩:=h2; exact ⟨_,e,fun _ z=>nomatch z⟩
  | non=>exact h2.elim
  | bl _=>exact h2.elim
  | int _=>exact h2.elim
  | str _=>exact h2.elim
  | tup _=>exact h2.elim
  | scr _=>exact h2.elim
  | dct kvs=>exact ⟨_,h2,fun _ z=>nomatch z⟩
theorem OwnAt.there {K:PySem.W.Frag} {G H:Hp} {a:Addr} {d:D} (h:OwnAt K G H a d) : H a ≠ none:=h.chg.there
theorem paired_mono {α β:Type} {F F':α→β→Prop} {l:List α} {r:List β} (k:∀ x d,x ∈ l→F x d→F' x d) (h:Paired F l r) : Paired F' l r:=by
  induction h with
  | nil=>exact .nil
  | cons f _ ih=>exact .cons (k _ _ List.mem_cons_self f) (ih fun x d m=>k x d (List.mem_cons_of_mem _ m))
theorem paired_left {α β:Type} {F:α→β→Prop} {l:List α} {r:List β} (h:Paired F l r) : ∀ x ∈ l,∃ d,F x d:=by
  induction h with
  | nil=>intro x m; cases m
  | cons f _ ih =>
    intro x m
    rcases List.mem_cons.mp m with rfl | m
    · exact ⟨_,f⟩
    · exact ih x m
theorem NestAt.stay {K:PySem.W.Frag} {H0 G H G' H':Hp} {w w':Addr→Nat} {i:Nat} {a:Addr} {t:Bool} {dss:List D} (h:NestAt K H0 G H w i a t dss) (hg:Same G G') (hn:∀ x,H0 x = .none→w x = i→G x = .none→Chg H x→G' x = .none∧w' x = i∧∀ o,H x = some o→H' x = some o) : NestAt K H0 G' H' w' i a t dss:=by
  obtain ⟨as,nd,pr,e⟩:=h
  have pr':=paired_mono (F':=fun x ds=>H0 x = none∧w' x = i∧OwnAt K G' H' x ds) (fun x d m ⟨h1,h2,h3⟩=>by
    obtain ⟨k1,k2,k3⟩:=hn x h1 h2 h3.1 h3.chg
    exact ⟨h1,k2,h3.stay hg k1 k3⟩) pr
  refine ⟨as,nd,pr',?_⟩
  · cases t with
    | true=>exact same_seqT hg e
    | false =>
      obtain ⟨e1,e2,e3,e4,e5⟩:=e
      obtain ⟨k1,k2,k3⟩:=hn a e1 e2 e3 ⟨_,e5,fun _ z=>nomatch z⟩
      exact ⟨e1,k2,k1,e4,k3 _ e5⟩
theorem EnvW.on {K:PySem.W.Frag} {H0 G H G' H':Hp} {o:Addr→Nat} {σ:St} {ρ:DEnv} (h:EnvW K H0 G H o σ ρ) (w:Wd H G H' G') : EnvW K H0 G' H' o σ ρ:=
  ⟨h.len,fun i d e=>by obtain ⟨v,h1,h2⟩:=h.p i d e; exact ⟨v,h1,h2.mono w.gg⟩,fun i d e=>by
    obtain ⟨a,h1,h2,h2',h3⟩:=h.o i d e
    exact ⟨a,h1,h2,h2',h3.stay w.gg (by rw [w.old a h3.chg]; exact h3.1) fun o q=>w.hh _ _ q⟩,fun i t dss e=>by
    obtain ⟨a,h1,h2⟩:=h.n i t dss e
    exact ⟨a,h1,h2.stay w.gg fun x k1 k2 k3 k4=>⟨by rw [w.old x k4]; exact k3,k2,fun o q=>w.hh _ _ q⟩⟩⟩
theorem EnvO.on {K:PySem.W.Frag} {H0 G H G' H':Hp} {σ:St} {ρ:DEnv} (h:EnvO K H0 G H σ ρ) (w:Wd H G H' G') : EnvO K H0 G' H' σ ρ:=by
  obtain ⟨o,h⟩:=h
  exact ⟨o,h.on w⟩
theorem set_get {σ:St} {i j:Nat} {v:V} (h:i ≠ j) : (σ.set i (some v))[j]? = σ[j]?:=by rw [List.getElem?_set_ne h]
theorem set_self {σ:St} {i:Nat} {v:V} (h:i < σ.length) : (σ.set i (some v))[i]? = some (some v):=by rw [List.getElem?_set_self h]
theorem EnvO.putP {K:PySem.W.Frag} {H0 G H:Hp} {σ:St} {ρ:DEnv} {v:V} {d:D} (h:EnvO K H0 G H σ ρ) (i:Nat) (r:Rep K G v d) : EnvO K H0 G H (σ.set i (some v)) (dput ρ i (.p d)):=by
  obtain ⟨o,h⟩:=h
  refine ⟨o,by rw [List.length_set,dput_len]; exact h.len,fun j d' e=>?_,fun j d' e=>?_,fun j t dss e=>?_⟩
  · rcases dget_put e with ⟨rfl,hl,e⟩ | ⟨hne,e⟩
    · cases e
      exact ⟨v,set_self (by rw [h.len]; exact hl),r⟩
    · obtain ⟨w,h1,h2⟩:=h.p j d' e
      exact ⟨w,by rw [set_get hne]; exact h1,h2⟩
  · rcases dget_put e with ⟨rfl,hl,e⟩ | ⟨hne,e⟩
    · cases e
    · obtain ⟨a,h1,h2⟩:=h.o j d' e
      exact ⟨a,by rw [set_get hne]; exact h1,h2⟩
  · rcases dget_put e with ⟨rfl,hl,e⟩ | ⟨hne,e⟩
    · cases e
    · obtain ⟨a,h1,h2⟩:=h.n j t dss e
      exact ⟨a,by rw [set_get hne]; exact h1,h2⟩
theorem EnvW.also {K:PySem.W.Frag} {H0 G H:Hp} {o:Addr→Nat} {σ:St} {ρ:DEnv} (h:EnvW K H0 G H o σ ρ) {o':Addr→Nat} (q:∀ x,H x ≠ .none→o' x = o x) : EnvW K H0 G H o' σ ρ:=
  ⟨h.len,h.p,fun j d e=>by
    obtain ⟨a,h1,h2,h3,h4⟩:=h.o j d e
    exact ⟨a,h1,h2,by rw [q a h4.there]; exact h3,h4⟩,fun j t dss e=>by
    obtain ⟨a,h1,h2⟩:=h.n j t dss e
    exact ⟨a,h1,h2.stay (Same.refl _) fun x k1 k2 k3 k4=>⟨k3,by rw [q x k4.there]; exact k2,fun o q=>q⟩⟩⟩
theorem EnvO.putO {K:PySem.W.Frag} {H0 G H G' H':Hp} {σ:St} {ρ:DEnv} {a:Addr} {d:D} (h:EnvO K H0 G H σ ρ) (w:Wd H G H' G') (i:Nat) (h0:H0 a = none) (hn:H a = none) (r:OwnAt K G' H' a d) : EnvO K H0 G' H' (σ.set i (some (.ref a))) (dput ρ i (.o d)):=by
  obtain ⟨o,h⟩:=h
  have h2:=(h.also (o':=fun x=>if x = a then i else o x) fun x q=>if_neg fun e:x = a=>q (e ▸ hn)).on w
  refine ⟨fun x=>if x = a then i else o x,by rw [List.length_set,dput_len]; exact h.len,fun j d' e=>?_,fun j d' e=>?_,fun j t dss e=>?_⟩
  · rcases dget_put e with ⟨rfl,hl,e⟩ | ⟨hne,e⟩
    · cases e
    · obtain ⟨w,h1,h2⟩:=h2.p j d' e
      exact ⟨w,by rw [set_get hne]; exact h1,h2⟩
  · rcases dget_put e with ⟨rfl,hl,e⟩ | ⟨hne,e⟩
    · cases e
      exact ⟨a,set_self (by rw [h.len]; exact hl),h0,if_pos rfl,r⟩
    · obtain ⟨b,h1,h2⟩:=h2.o j d' e
      exact ⟨b,by rw [set_get hne]; exact h1,h2⟩
  · rcases dget_put e with ⟨rfl,hl,e⟩ | ⟨hne,e⟩
    · cases e
    · obtain ⟨b,h1,h2⟩:=h2.n j t dss e
      exact ⟨b,by rw [set_get hne]; exact h1,h2⟩
theorem EnvO.putNT {K:PySem.W.Frag} {H0 G H G' H':Hp} {σ:St} {ρ:DEnv} {a:Addr} {as:List Addr} {ds:List D} (h:EnvO K H0 G H σ ρ) (w:Wd H G H' G') (hh:Same H0 H) (i:Nat) (q:SqT K G' a (as.map V.ref)) (nd:as.Nodup) (pr:Paired (fun x d=>H x = none∧OwnAt K G' H' x d) as ds) : EnvO K H0 G' H' (σ.set i (some (.ref a))) (dput ρ i (.n true ds)):=by
  obtain ⟨o,h⟩:=h
  have h2:=(h.also (o':=fun x=>if x ∈ as then i else o x) fun x z=>if_neg fun m=>by
    obtain ⟨_,k,_⟩:=paired_left pr x m
    exact z k).on w
  refine ⟨fun x=>if x ∈ as then i else o x,by rw [List.length_set,dput_len]; exact h.len,fun j d' e=>?_,fun j d' e=>?_,fun j t dss e=>?_⟩
  · rcases dget_put e with ⟨rfl,hl,e⟩ | ⟨hne,e⟩
    · cases e
    · obtain ⟨w,h1,h2⟩:=h2.p j d' e
      exact ⟨w,by rw [set_get hne]; exact h1,h2⟩
  · rcases dget_put e with ⟨rfl,hl,e⟩ | ⟨hne,e⟩
    · cases e
    · obtain ⟨b,h1,h2⟩:=h2.o j d' e
      exact ⟨b,by rw [set_get hne]; exact h1,h2⟩
  · rcases dget_put e with ⟨rfl,hl,e⟩ | ⟨hne,e⟩
    · cases e
      exact ⟨a,set_self (by rw [h.len]; exact hl),as,nd,paired_mono (fun x d m z=>⟨hh.free z.1,if_pos m,z.2⟩) pr,q⟩
    · obtain ⟨b,h1,h2⟩:=h2.n j t dss e
      exact ⟨b,by rw [set_get hne]; exact h1,h2⟩
theorem putN_ok {K:PySem.W.Frag} {H0 G H:Hp} : ∀ {is:List Nat} {ds:List D} {vs:List V} {σ:St} {ρ:DEnv} {P:DEnv→Prop} {Q:St→Hp→Prop},EnvO K H0 G H σ ρ→Reps K G vs ds→putN is ds ρ P→(∀ σ' ρ',EnvO K H0 G H σ' ρ'→P ρ'→Q σ' H)→gNames is vs σ H Q
  | [],[],_,σ,ρ,P,Q,h,r,p,k=>by cases r; exact ⟨rfl,k _ _ h p⟩
  | i :: is,d :: ds,_,σ,ρ,P,Q,h,r,p,k=>by
    cases r with
    | cons r rr=>exact ⟨_,_,rfl,putN_ok (h.putP i r) rr p k⟩
  | [],_ :: _,_,_,_,_,_,_,_,p,_=>p.elim
  | _ :: _,[],_,_,_,_,_,_,_,p,_=>p.elim
theorem putN_len:∀ {is:List Nat} {ds:List D} {ρ:DEnv} {P:DEnv→Prop},putN is ds ρ P→is.length = ds.length
  | [],[],_,_,_=>rfl
  | _ :: is,_ :: ds,ρ,P,p=>by rw [List.length_cons,List.length_cons,putN_len (is:=is) p]
  | [],_ :: _,_,_,p=>p.elim
  | _ :: _,[],_,_,p=>p.elim
theorem Tg.ok {K:PySem.W.Frag} {H0 G H:Hp} {g:Tg} {d:D} {v:V} {σ:St} {ρ:DEnv} {P:DEnv→Prop} {Q:St→Hp→Prop} (s:Same G H) (h:EnvO K H0 G H σ ρ) (r:Rep K G v d) (p:g.d d ρ P) (k:∀ σ' ρ',EnvO K H0 G H σ' ρ'→P ρ'→Q σ' H) : g.v K v σ H Q:=by
  cases g with
  | n i=>exact k _ _ (h.putP i r) p
  | t is =>
    cases d with
    | tup ds =>
      obtain ⟨a,vs,rfl,e,rr⟩:=r.tup_inv
      exact ⟨a,vs,rfl,.inl (same_seqT s e),by rw [Paired.length rr]; exact (putN_len p).symm,putN_ok h rr p k⟩
    | lst ds =>
      obtain ⟨a,vs,rfl,e,rr⟩:=r.lst_inv
      exact ⟨a,vs,rfl,.inr (SqL.of (s _ _ e)),by rw [Paired.length rr]; exact (putN_len p).symm,putN_ok h rr p k⟩
    | non=>exact p.elim
    | bl _=>exact p.elim
    | int _=>exact p.elim
    | str _=>exact p.elim
    | scr _=>exact p.elim
    | dct _=>exact p.elim
structure ItD (K:PySem.W.Frag) (G0:Hp) (J:It) (xs:List D) : Prop where
  go:∀ i d H G,xs[i]? = some d→Same G0 G→Same G H→J.go i H
  yld:∀ i d H G x H',xs[i]? = some d→Same G0 G→Same G H→J.yld i H x H'→∃ G',Wd H G H' G'∧Rep K G' x d
  stop:∀ i H G,i = xs.length→Same G0 G→Same G H→J.stop i H
noncomputable def cI (K:PySem.W.Frag) (t:DTA) : TI:=fun σ H R=>∃ (G:Hp) (ρ:DEnv) (P:List D→Prop),Same G H∧RepE K G σ ρ∧t ρ P∧∀ xs J H' G',P xs→Wd H G H' G'→ItD K G' J xs→R J H'
structure DI (X:Cx) (tg e:Expr) (t:DTA) : Prop where
  pi:PI X tg e (cI X.K t)
theorem PI.imp {X:Cx} {tg e:Expr} {t t':TI} (h:PI X tg e t) (i:∀ σ H Q,t' σ H Q→t σ H Q) : PI X tg e t':=fun pins s σ H Q I q=>h pins s σ H Q I (i σ H Q q)
theorem DI.of {X:Cx} {tg e:Expr} {t:TI} {t':DTA} (h:PI X tg e t) (i:∀ σ H Q,cI X.K t' σ H Q→t σ H Q) : DI X tg e t':=⟨PI.imp h i⟩
section
variable {X:Cx} {tg e:Expr} {te:DT} {pos:Pos}
theorem itd_list {K:PySem.W.Frag} {G:Hp} {a:Addr} {vs:List V} {ds:List D} (h:SqL K G a vs) (r:Reps K G vs ds) : ItD K G (Itl K a) ds where
  go:=fun i d H G' e s1 s2=>by
    obtain ⟨v,h1,h2⟩:=paired_get' r e
    exact ⟨vs,v,(s1.trans s2).seq h,h1⟩
  yld:=fun i d H G' x H' e s1 s2 ⟨eH,y⟩=>by
    obtain ⟨v,h1,h2⟩:=paired_get' r e
    have:=y vs ((s1.trans s2).seq h)
    rw [h1] at this
    cases this
    subst eH
    exact ⟨G',Wd.refl s2,h2.mono s1⟩
  stop:=fun i H G' hi s1 s2=>⟨vs,(s1.trans s2).seq h,by rw [Paired.length r,hi]; exact Nat.le_refl _⟩
noncomputable def diList (te:DT) : DTA:=fun ρ P=>te ρ fun b=>match b.val with
  | .lst xs=>P xs
  | .scr ns=>P (ns.map D.int)
  | _=>False
theorem di_list (he:DE X e te) : DI X tg e (diList te):=DI.of (pi_list he.pe) fun σ H R ⟨G,ρ,P,s,re,h,k⟩=>by
  refine ⟨G,ρ,_,s,re,h,fun b v H1 G1 p1 w1 r1=>?_⟩
  obtain ⟨G1',w1',r1'⟩:=r1.give w1
  split at p1
  · rename_i xs e
    rw [e] at r1'
    obtain ⟨a,us,rfl,e,rr⟩:=r1'.lst_inv
    exact ⟨a,rfl,⟨us,SqL.of (w1'.gh _ _ e)⟩,k _ _ H1 G1' p1 w1' (itd_list (SqL.of e) rr)⟩
  · rename_i ns e
    rw [e] at r1'
    cases r1' with
    | scr e=>exact ⟨_,rfl,⟨_,w1'.gh.seq e⟩,k _ _ H1 G1' p1 w1' (itd_list e (ints_reps ns))⟩
  · exact p1.elim
noncomputable def diTup (te:DT) : DTA:=fun ρ P=>te ρ fun b=>match b.val with
  | .tup xs=>P xs
  | _=>False
noncomputable def upFrom (lo:Int) (n:Nat) : List D:=(List.range n).map fun i=>D.int (lo + (i:Nat))
theorem upFrom_get {lo:Int} {n i:Nat} {d:D} (h:(upFrom lo n)[i]? = some d) : i < n∧d = .int (lo + (i:Nat)):=by
  unfold upFrom at h
  rw [List.getElem?_map] at h
  by_cases hi:i < n
  · rw [List.getElem?_range hi] at h
    exact ⟨hi,(Option.some.inj h).symm⟩
  · rw [List.getElem?_eq_none (by simpa using hi)] at h
    cases h
theorem upFrom_len (lo:Int) (n:Nat) : (upFrom lo n).length = n:=by unfold upFrom; simp
theorem itd_rng {K:PySem.W.Frag} {G:Hp} {lo:Int} {n:Nat} : ItD K G (Itr lo n) (upFrom lo n) where
  go:=fun i d H G' e s1 s2=>(upFrom_get e).1
  yld:=fun i d H G' x H' e s1 s2 ⟨eH,y⟩=>by
    obtain ⟨h1,rfl⟩:=upFrom_get e
    subst eH
    subst y
    exact ⟨G',Wd.refl s2,.int _⟩
  stop:=fun i H G' hi s1 s2=>by rw [upFrom_len] at hi; rw [hi]; exact Nat.le_refl n
noncomputable def diRng1 (t:DTA) : DTA:=fun ρ P=>t ρ fun ds=>match ds with
  | [.int j]=>(-(2 ^ 62) ≤ j∧j < 2 ^ 62)∧P (upFrom 0 j.toNat)
  | _=>False
noncomputable def diRng2 (t:DTA) : DTA:=fun ρ P=>t ρ fun ds=>match ds with
  | [.int i,.int j]=>(-(2 ^ 62) ≤ i∧i < 2 ^ 62∧-(2 ^ 62) ≤ j∧j < 2 ^ 62)∧P (upFrom i (j - i).toNat)
  | _=>False
end
noncomputable def frD (fr:List (Option Nat)) (ρ:DEnv) : DEnv:=fr.map fun o=>match o with
  | none=>none
  | some j=>dget ρ j
theorem dget_eq:∀ (ρ:DEnv) (i:Nat),dget ρ i = (ρ[i]?).getD none
  | [],_=>by simp [dget]
  | _ :: _,0=>by simp [dget]
  | _ :: r,i + 1=>by simp [dget,dget_eq r i]
theorem frD_get {fr:List (Option Nat)} {ρ:DEnv} {i:Nat} {b:B} (h:dget (frD fr ρ) i = some b) : ∃ j,fr[i]? = some (some j)∧dget ρ j = some b:=by
  rw [dget_eq] at h
  unfold frD at h
  rw [List.getElem?_map] at h
  cases e:fr[i]? with
  | none=>rw [e] at h; cases h
  | some o =>
    rw [e] at h
    cases o with
    | none=>cases h
    | some j=>exact ⟨j,rfl,h⟩
theorem frSt_of {fr:List (Option Nat)} {σ:St} {i j:Nat} {v:V} (h1:fr[i]? = some (some j)) (h2:σ[j]? = some (some v)) : (frSt fr σ)[i]? = some (some v):=by
  unfold frSt
  rw [List.getElem?_map,h1]
  show some ((σ[j]?).getD none) = _
  rw [h2]
  rfl
noncomputable def onlyP (ρ:DEnv) : DEnv:=ρ.map fun o=>match o with
  | some (.p d)=>some (.p d)
  | _=>none
theorem onlyP_get {ρ:DEnv} {i:Nat} {b:B} (h:dget (onlyP ρ) i = some b) : ∃ d,b = .p d∧dget ρ i = some (.p d):=by
  rw [dget_eq] at h ⊢
  unfold onlyP at h
  rw [List.getElem?_map] at h
  cases e:ρ[i]? with
  | none=>rw [e] at h; cases h
  | some o =>
    rw [e] at h
    cases o with
    | none=>cases h
    | some b' =>
      cases b' with
      | p d=>exact ⟨d,(Option.some.inj h).symm,rfl⟩
      | o d=>cases h
      | n _ _=>cases h
noncomputable def lcI (xs:List D) (g:Tg) (tc:DTT) (te:DT) (ρ:DEnv) (Q:B→Prop) : Prop:=xs.length ≤ sizeLine∧∃ F:D→Option D→Prop,
  (∀ x ∈ xs,g.d x ρ fun ρ'=>tc ρ' fun c=>(c = true→te ρ' fun b=>F x (some b.val))∧(c = false→F x none))∧∀ os,Paired F xs os→Q (.o (.lst (os.filterMap id)))
noncomputable def dLC (ti:DTA) (fr:List (Option Nat)) (g:Tg) (tc:DTT) (te:DT) : DT:=fun ρ Q=>ti ρ fun xs=>lcI xs g tc te (onlyP (frD fr ρ)) Q
noncomputable def dTrue:DTT:=fun _ P=>P true
theorem paired_take_snoc {α β:Type} {F:α→β→Prop} {xs:List α} {os:List β} {i:Nat} {x:α} {o:β} (h:Paired F (xs.take i) os) (e:xs[i]? = some x) (f:F x o) : Paired F (xs.take (i + 1)) (os ++ [o]):=by
  rw [WS.take_snoc e]
  exact Paired.snoc h f
noncomputable def tgOk (fr:List (Option Nat)) (g:Tg) : Bool:=g.is.all fun i=>match fr[i]? with
  | some none=>true
  | _=>false
theorem putN_keep {K:PySem.W.Frag} {G H:Hp} {ρ0:DEnv} : ∀ {is:List Nat} {vs:List V} {σ:St} {Q:St→Hp→Prop},(∀ i ∈ is,dget ρ0 i = none)→RepE K G σ ρ0→σ.length = ρ0.length→gNames is vs σ H Q→gNames is vs σ H fun σ' H'=>Q σ' H'∧H' = H∧RepE K G σ' ρ0∧σ'.length = ρ0.length
  | [],_,σ,Q,_,h,l,⟨e,q⟩=>⟨e,q,rfl,h,l⟩
  | i :: is,_,σ,Q,hn,h,l,⟨v,r,e,q⟩=>by
    refine ⟨v,r,e,putN_keep (is:=is) (fun j hj=>hn j (List.mem_cons_of_mem _ hj)) (fun j d hd=>?_) (by rw [List.length_set]; exact l) q⟩
    have hne:i ≠ j:=by
      rintro rfl
      rw [hn i List.mem_cons_self] at hd
      cases hd
    obtain ⟨w,h1,h2⟩:=h j d hd
    exact ⟨w,by rw [set_get hne]; exact h1,h2⟩
theorem tg_keep {K:PySem.W.Frag} {G H:Hp} {ρ0:DEnv} {g:Tg} {v:V} {σ:St} {Q:St→Hp→Prop} (hn:∀ i ∈ g.is,dget ρ0 i = none) (h:RepE K G σ ρ0) (l:σ.length = ρ0.length) (q:g.v K v σ H Q) : g.v K v σ H fun σ' H'=>Q σ' H'∧H' = H∧RepE K G σ' ρ0∧σ'.length = ρ0.length:=by
  cases g with
  | n i =>
    refine ⟨q,rfl,fun j d hd=>?_,by rw [List.length_set]; exact l⟩
    have hne:i ≠ j:=by
      rintro rfl
      rw [hn i (List.mem_singleton.mpr rfl)] at hd
      cases hd
    obtain ⟨w,h1,h2⟩:=h j d hd
    exact ⟨w,by rw [set_get hne]; exact h1,h2⟩
  | t is =>
    obtain ⟨a,xs,e,h1,h2,q⟩:=q
    exact ⟨a,xs,e,h1,h2,putN_keep hn h l q⟩
structure DIfs (X:Cx) (ifs:List Expr) (t:DTT) : Prop where
  pf:PIfs X ifs (cT X.K t)
theorem difs_nil {X:Cx} : DIfs X [] dTrue:=⟨fun pins s σ H Q I ⟨G,ρ,P,sg,re,h,k⟩=>pifs_nil pins s σ H Q I (k true H G h (Wd.refl sg))⟩
theorem difs_one {X:Cx} {c:Expr} {t:DTT} (h:DTe X c t) : DIfs X [c] t:=⟨pifs_one h.pt⟩
theorem lc_core {K:PySem.W.Frag} {ti:DTA} {fr:List (Option Nat)} {g:Tg} {tc:DTT} {te:DT} (ht:tgOk fr g = true) (σ:St) (H:Hp) (Q:VK) : cE K (dLC ti fr g tc te) σ H Q→tLC (cI K ti) fr (g.v K) (cT K tc) (cE K te) σ H Q:=by
  rintro ⟨G,ρ,P,s,re,h,k⟩
  refine ⟨G,ρ,_,s,re,h,fun xs J H1 G1 p1 w1 it D hD=>?_⟩
  obtain ⟨hz,F,hF,hP⟩:=p1
  have hn:∀ i ∈ g.is,dget (onlyP (frD fr ρ)) i = none:=fun i hi=>by
    cases e:dget (onlyP (frD fr ρ)) i with
    | none=>rfl
    | some b =>
      obtain ⟨d,rfl,e'⟩:=onlyP_get e
      obtain ⟨j,h1,_⟩:=frD_get e'
      have:=List.all_eq_true.mp ht i hi
      rw [h1] at this
      cases this
  have len0:(onlyP (frD fr ρ)).length = fr.length:=by unfold onlyP frD; simp
  have fn0:(frSt fr σ).length = fr.length:=by unfold frSt; simp
  have rep0:RepE K G1 (frSt fr σ) (onlyP (frD fr ρ)):=fun i d e=>by
    obtain ⟨d',e1,e2⟩:=onlyP_get e
    cases e1
    obtain ⟨j,h1,h2⟩:=frD_get e2
    obtain ⟨v,h3,h4⟩:=re j d h2
    exact ⟨v,frSt_of h1 h3,h4.mono w1.gg⟩
  have gD:G1 D = none:=w1.gh.free hD
  refine ⟨fun i m ys σ' H'=>m = xs.length - i∧i ≤ xs.length∧∃ G' os,Wd H1 G1 H' G'∧G' D = none∧H' D = some (.lst ys)∧ys.length ≤ i∧Paired F (xs.take i) os∧Reps K G' ys (os.filterMap id)∧RepE K G' σ' (onlyP (frD fr ρ))∧σ'.length = (onlyP (frD fr ρ)).length,⟨xs.length,by simp,Nat.zero_le _,G1,[],(Wd.refl w1.gh).own hD gD,gD,upd_same,Nat.le_refl _,by rw [List.take_zero]; exact .nil,.nil,rep0,by rw [fn0,len0]⟩,?_⟩
  rintro i m ys σ' H' ⟨rfl,hi,G',os,w',gD',hD',hy,hos,hr,re',ln'⟩
  by_cases hlt:i < xs.length
  · have hx:xs[i]? = some xs[i]:=List.getElem?_eq_getElem hlt
    refine .inr ⟨it.go i _ H' G' hx w'.gg w'.gh,fun ys' σ2 H2=>∃ G2 os',Wd H1 G1 H2 G2∧G2 D = none∧H2 D = some (.lst ys')∧ys'.length ≤ i + 1∧Paired F (xs.take (i + 1)) os'∧Reps K G2 ys' (os'.filterMap id)∧RepE K G2 σ2 (onlyP (frD fr ρ))∧σ2.length = (onlyP (frD fr ρ)).length,fun ys' σ2 H2 ⟨G2,os',z⟩=>⟨xs.length - (i + 1),by lia,rfl,hlt,G2,os',z⟩,fun x H2 y=>?_⟩
    obtain ⟨G2,w2,r2⟩:=it.yld i _ H' G' x H2 hx w'.gg w'.gh y
    have e2:EnvO K H2 G2 H2 σ' (onlyP (frD fr ρ)):=EnvO.only ln' (re'.mono w2.gg) fun j b e=>by
        obtain ⟨d',e1,_⟩:=onlyP_get e
        exact ⟨d',e1⟩
    have re2:RepE K G2 σ' (onlyP (frD fr ρ)):=e2.p
    have w12:=w'.trans w2
    have hD2:H2 D = some (.lst ys):=w2.hh _ _ hD'
    have gD2:G2 D = none:=by rw [w2.old D ⟨_,hD',fun _ z=>nomatch z⟩]; exact gD'
    refine (?_:g.v K x σ' H2 _)
    refine tgv_mono (tg_keep hn re2 ln' (Tg.ok w2.gh e2 r2 (hF _ (List.getElem_mem hlt)) (Q:=fun σ3 H3=>H3 = H2∧∃ ρ3,EnvO K H2 G2 H2 σ3 ρ3∧tc ρ3 fun c=>(c = true→te ρ3 fun b=>F xs[i] (some b.val))∧(c = false→F xs[i] none)) fun σ3 ρ3 e3 p3=>⟨rfl,ρ3,e3,p3⟩)) ?_
    rintro σ3 H3 ⟨⟨rfl,ρ3,e3,p3⟩,_,re3,ln3⟩
    refine ⟨G2,ρ3,_,w2.gh,e3.p,p3,fun c H4 G4 p4 w4=>?_⟩
    have hD4:H4 D = some (.lst ys):=w4.hh _ _ hD2
    have gD4:G4 D = none:=by rw [w4.old D ⟨_,hD2,fun _ z=>nomatch z⟩]; exact gD2
    cases c with
    | true =>
      refine iteT ⟨G4,ρ3,_,w4.gh,RepE.mono w4.gg e3.p,p4.1 rfl,fun b v H5 G5 p5 w5 r5=>?_⟩
      obtain ⟨G5',w5',r5'⟩:=r5.give w5
      have hD5:H5 D = some (.lst ys):=w5.hh _ _ hD4
      have gD5:G5' D = none:=by rw [w5'.old D ⟨_,hD4,fun _ z=>nomatch z⟩]; exact gD4
      have w15:=(w12.trans w4).trans w5'
      refine ⟨hD5,by have:sizeLine = 16777216:=sizeLine_eq; lia,G5',os ++ [some b.val],w15.own hD gD5,gD5,upd_same,by rw [List.length_append,List.length_singleton]; lia,paired_take_snoc hos hx p5,?_,RepE.mono (w4.trans w5').gg re3,ln3⟩
      rw [List.filterMap_append]
      exact paired_app (Reps.mono ((w2.trans w4).trans w5').gg hr) (.cons r5' .nil)
    | false =>
      refine iteF ⟨G4,os ++ [none],w12.trans w4,gD4,hD4,by lia,paired_take_snoc hos hx (p4.2 rfl),?_,RepE.mono w4.gg re3,ln3⟩
      rw [List.filterMap_append,show List.filterMap id [(none:Option DL.D)] = [] from rfl,List.append_nil]
      exact Reps.mono (w2.trans w4).gg hr
  · have e : i = xs.length := by lia
    subst e
    refine .inl ⟨it.stop _ H' G' rfl w'.gg w'.gh,?_⟩
    rw [List.take_length] at hos
    exact k _ _ H' G' (hP os hos) (w1.trans w') ⟨D,rfl,w1.hh.free hD,gD',ys,hD',hr⟩
where
  tgv_mono {K:PySem.W.Frag} {g:Tg} {v:V} {σ:St} {H:Hp} {Q Q':St→Hp→Prop} (h:g.v K v σ H Q) (i:∀ σ' H',Q σ' H'→Q' σ' H') : g.v K v σ H Q':=by
    cases g with
    | n j=>exact i _ _ h
    | t is =>
      obtain ⟨a,xs,e,h1,h2,q⟩:=h
      exact ⟨a,xs,e,h1,h2,names_mono q i⟩
  names_mono {Q Q':St→Hp→Prop} : ∀ {is:List Nat} {vs:List V} {σ:St} {H:Hp},gNames is vs σ H Q→(∀ σ' H',Q σ' H'→Q' σ' H')→gNames is vs σ H Q'
    | [],_,_,_,⟨e,q⟩,i=>⟨e,i _ _ q⟩
    | _ :: is,_,_,_,⟨v,r,e,q⟩,i=>⟨v,r,e,names_mono (is:=is) q i⟩
section
variable {X:Cx} {tg iter elt:Expr} {ifs:List Expr} {scope:Scope} {pos:Pos} {ti:DTA} {g:Tg} {tc:DTT} {te:DT}
theorem de_lc (N':List Str) (fr:List (Option Nat)) (hc:X.calm = true) (hi:DI X tg iter ti)
    (hg:∀ cl fp C s H,PG (blk X scope N' cl fp C s H) tg (g.v X.K)) (ht:∀ cl fp C s H,DIfs (blk X scope N' cl fp C s H) ifs tc) (he:∀ cl fp C s H,DE (blk X scope N' cl fp C s H) elt te)
    {sc0:Scope} {N0:List Str} (htg:tgOk fr g = true:=by decide) (hsc:X.env.scope = sc0:=by rfl) (hN:X.N = N0:=by rfl) (hok:compScB sc0 N0 scope N' fr = true:=by decide +kernel) (hs:∀ x,foldedSetIterable iter X.env x = pure x:=by intro _; rfl) :
    DE X (.ListComp elt [⟨tg,iter,ifs,0⟩] scope pos) (dLC ti fr g tc te):=
  DE.of (pe_lc (tc:=cT X.K tc) (te:=cE X.K te) N' fr hc hi.pi hg (fun cl fp C s H=>(ht cl fp C s H).pf) (fun cl fp C s H=>(he cl fp C s H).pe) hsc hN hok hs) (lc_core htg)
end
end DL
namespace DL
open PySem L2
structure DEnds where
  nx:DEnv→Prop
  rt:B→Prop
  bk:DEnv→Prop:=fun _=>False
  ct:DEnv→Prop:=fun _=>False
noncomputable abbrev DTS:=DEnds→DEnv→Prop
structure EndsOk (K:PySem.W.Frag) (H0 G0:Hp) (E:DEnds) (Dn:Ends) : Prop where
  nx:∀ σ H G ρ,Wd H0 G0 H G→EnvO K H0 G H σ ρ→E.nx ρ→Dn.nx σ H
  bk:∀ σ H G ρ,Wd H0 G0 H G→EnvO K H0 G H σ ρ→E.bk ρ→Dn.bk σ H
  ct:∀ σ H G ρ,Wd H0 G0 H G→EnvO K H0 G H σ ρ→E.ct ρ→Dn.ct σ H
  rt:∀ b v H G,Wd H0 G0 H G→BRes K H0 G H v b→E.rt b→Dn.rt v H
noncomputable def cS (K:PySem.W.Frag) (H0 G0:Hp) (t:DTS) : TS:=fun Dn σ H=>∃ (E:DEnds) (G:Hp) (ρ:DEnv),EndsOk K H0 G0 E Dn∧Wd H0 G0 H G∧EnvO K H0 G H σ ρ∧t E ρ
structure DS (X:Cx) (st:Stmt) (t:DTS) : Prop where
  ps:∀ H0 G0,PS X st (cS X.K H0 G0 t)
structure DSs (X:Cx) (st:List Stmt) (t:DTS) : Prop where
  pss:∀ H0 G0,PSs X st (cS X.K H0 G0 t)
section
variable {K:PySem.W.Frag} {H0 G0 G H H':Hp} {σ:St} {ρ:DEnv}
theorem EnvO.freeze (e:EnvO K H0 G H σ ρ) (w:Wd H0 G0 H G) : ∃ G1,Wd H0 G0 H G1∧Same G G1∧EnvO K H0 G1 H σ (frz ρ):=by
  classical
  obtain ⟨o,e⟩:=e
  have to:∀ a,H0 a = none→G a = none→(if H0 a = none∧G a = none then H a else G a) = H a:=fun a h1 h2=>if_pos ⟨h1,h2⟩
  have sG:Same G (fun a=>if H0 a = none∧G a = none then H a else G a):=fun a o h=>by
    show (if _ then H a else G a) = _
    rw [if_neg fun q=>by rw [q.2] at h; cases h]
    exact h
  refine ⟨fun a=>if H0 a = none∧G a = none then H a else G a,⟨w.hh,w.gg.trans sG,fun a o h=>?_,fun a h=>?_⟩,sG,?_⟩
  · have h':(if H0 a = none∧G a = none then H a else G a) = some o:=h
    split at h'
    · exact h'
    · exact w.gh _ _ h'
  · show (if H0 a = none∧G a = none then H a else G a) = _
    rw [if_neg fun q=>h.there q.1]
    exact w.old a h
  · have own:∀ a d,H0 a = none→OwnAt K G H a d→Rep K (fun a=>if H0 a = none∧G a = none then H a else G a) (.ref a) d:=fun a d h0 h=>h.rep sG fun o z=>by
      show (if H0 a = none∧G a = none then H a else G a) = _
      rw [to a h0 h.1]
      exact z
    refine EnvO.only (by rw [frz_len]; exact e.len) (fun i d h=>?_) fun i b h=>?_
    · obtain ⟨b,h1,h2⟩:=dget_frz h
      cases h2
      cases b with
      | p d =>
        obtain ⟨v,h3,h4⟩:=e.p i d h1
        exact ⟨v,h3,h4.mono sG⟩
      | o d =>
        obtain ⟨a,h3,h4,h4',h5⟩:=e.o i d h1
        exact ⟨.ref a,h3,own a d h4 h5⟩
      | n t dss =>
        obtain ⟨a,h3,as,nd,pr,q⟩:=e.n i t dss h1
        have rs:Reps K (fun a=>if H0 a = none∧G a = none then H a else G a) (as.map V.ref) dss:=by
          clear q h1 h nd
          induction pr with
          | nil=>exact .nil
          | cons f _ ih=>exact .cons (own _ _ f.1 f.2.2) ih
        refine ⟨.ref a,h3,?_⟩
        cases t with
        | true=>exact Rep.tup' (same_seqT sG q) rs
        | false =>
          refine Rep.lst' ?_ rs
          show (if H0 a = none∧G a = none then H a else G a) = _
          rw [to a q.1 q.2.2.1]
          exact q.2.2.2.2
    · obtain ⟨b',h1,h2⟩:=dget_frz h
      exact ⟨_,h2⟩
theorem EnvW.back {o:Addr→Nat} (e:EnvW K H0 G H o σ ρ) (hh:Same H H') : EnvW K H0 G H' o σ ρ:=
  ⟨e.len,e.p,fun i d h=>by
    obtain ⟨a,h1,h2,h2',h3⟩:=e.o i d h
    exact ⟨a,h1,h2,h2',h3.stay (Same.refl _) h3.1 fun o q=>hh _ _ q⟩,fun i t dss h=>by
    obtain ⟨a,h1,h2⟩:=e.n i t dss h
    exact ⟨a,h1,h2.stay (Same.refl _) fun x k1 k2 k3 k4=>⟨k3,k2,fun o q=>hh _ _ q⟩⟩⟩
theorem EnvO.back (e:EnvO K H0 G H σ ρ) (hh:Same H H') : EnvO K H0 G H' σ ρ:=by
  obtain ⟨o,e⟩:=e
  exact ⟨o,e.back hh⟩
theorem Wd.back {G1 G1':Hp} (w:Wd H0 G0 H G) (w1:Wd H G1 H' G1') : Wd H0 G0 H' G:=⟨w.hh.trans w1.hh,w.gg,w.gh.trans w1.hh,w.old⟩
end
section
variable {X:Cx} {st:Stmt} {rest:List Stmt} {t u:DTS} {a b c e:Expr} {ta tb te:DT} {pos:Pos}
noncomputable def dNext:DTS:=fun E ρ=>E.nx ρ
noncomputable def dSeq (t u:DTS) : DTS:=fun E ρ=>t { E with nx:=u E } ρ
theorem dss_nil:DSs X [] dNext:=DSs.mk fun H0 G0=>PSs.imp pss_nil fun Dn σ H ⟨E,G,ρ,eo,w,en,h⟩=>eo.nx σ H G ρ w en h
theorem dss_cons (h1:DS X st t) (h2:DSs X rest u) : DSs X (st :: rest) (dSeq t u):=DSs.mk fun H0 G0=>PSs.imp (pss_cons (h1.ps H0 G0) (h2.pss H0 G0)) fun Dn σ H ⟨E,G,ρ,eo,w,en,h⟩ =>
  ⟨{ E with nx:=u E },G,ρ,⟨fun σ' H' G' ρ' w' en' h'=>⟨E,G',ρ',eo,w',en',h'⟩,eo.bk,eo.ct,eo.rt⟩,w,en,h⟩
theorem dss_one (h1:DS X st t) : DSs X [st] t:=DSs.mk fun H0 G0=>pss_one (h1.ps H0 G0)
noncomputable def dDrop (te:DT) : DTS:=fun E ρ=>te (frz ρ) fun _=>E.nx ρ
noncomputable def dRet (te:DT) : DTS:=fun E ρ=>te (frz ρ) E.rt
theorem ds_ret (he:DE X e te) : DS X (.Return (some e) pos) (dRet te):=DS.mk fun H0 G0=>PS.imp (ps_ret he.pe) fun Dn σ H ⟨E,G,ρ,eo,w,en,h⟩=>by
  obtain ⟨G1,w1,sg,e1⟩:=en.freeze w
  exact ⟨G1,frz ρ,_,w1.gh,e1.p,h,fun b v H' G' p' w' r'=>eo.rt b v H' G' (w1.trans w') (r'.ahead w.hh) p'⟩
noncomputable def dRetN:DTS:=fun E _=>E.rt (.p .non)
noncomputable def dRetO (i:Nat) : DTS:=fun E ρ=>match dget ρ i with
  | some (.o d)=>E.rt (.o d)
  | _=>False
theorem ds_retO (i:Nat) {x:Str} {px:Pos} (hN:X.N[i]? = some x:=by rfl) (hv:Vis X.env.scope x:=by first | exact Or.inl rfl | exact Or.inr (Or.inl rfl) | exact Or.inr (Or.inr rfl)) (hd:(x == ("__debug__" : Str)) = false:=by decide)
    (hcd:(x == ("__classdict__" : Str)) = false:=by decide) : DS X (.Return (some (.Name x px)) pos) (dRetO i):=DS.mk fun H0 G0=>PS.imp (ps_ret (pe_var hN hv hd hcd)) fun Dn σ H ⟨E,G,ρ,eo,w,en,h⟩=>by
  unfold dRetO at h
  split at h
  · rename_i d e
    obtain ⟨a,h1,h2,h3⟩:=en.o i d e
    exact ⟨.ref a,h1,eo.rt (.o d) _ H G w ⟨a,rfl,h2,h3⟩ h⟩
  · exact h.elim
noncomputable def dIfS (tc:DTT) (t u:DTS) : DTS:=fun E ρ=>tc (frz ρ) fun c=>(c = true→t E ρ)∧(c = false→u E ρ)
theorem ds_if {x y:List Stmt} {tc:DTT} (hc:DTe X c tc) (ha:DSs X x t) (hb:DSs X y u) : DS X (.If c x y pos) (dIfS tc t u):=DS.mk fun H0 G0=>PS.imp (ps_if hc.pt (ha.pss H0 G0) (hb.pss H0 G0)) fun Dn σ H ⟨E,G,ρ,eo,w,en,h⟩=>by
  obtain ⟨G1,w1,sg,e1⟩:=en.freeze w
  refine ⟨G1,frz ρ,_,w1.gh,e1.p,h,fun c H' G' p' w'=>?_⟩
  cases c with
  | true=>exact iteT ⟨E,G,ρ,eo,w.back w',en.back w'.hh,p'.1 rfl⟩
  | false=>exact iteF ⟨E,G,ρ,eo,w.back w',en.back w'.hh,p'.2 rfl⟩
noncomputable def dSet (i:Nat) (te:DT) : DTS:=fun E ρ=>te ρ fun b=>E.nx (dput ρ i b)
noncomputable def dSetF (i:Nat) (te:DT) : DTS:=fun E ρ=>te (frz ρ) fun b=>b.val.sc = true∧E.nx (dput ρ i (.p b.val))
noncomputable def dSetD (i:Nat) (te:DT) : DTS:=fun E ρ=>te (frz ρ) fun b=>E.nx (dput (frz ρ) i b)
theorem set_core {K:PySem.W.Frag} {H0 G0 H G H' G':Hp} {σ:St} {ρ:DEnv} {E:DEnds} {Dn:Ends} (i:Nat) (eo:EndsOk K H0 G0 E Dn) (w:Wd H0 G0 H G) (en:EnvO K H0 G H σ ρ) {b:B} {v:V} (p:E.nx (dput ρ i b)) (w':Wd H G H' G') (r:BRes K H G' H' v b) : Dn.nx (σ.set i (some v)) H':=by
  cases b with
  | p d=>exact eo.nx _ H' G' _ (w.trans w') ((en.on w').putP i r) p
  | o d =>
    obtain ⟨a,rfl,hn,o⟩:=r
    exact eo.nx _ H' G' _ (w.trans w') (en.putO w' i (w.hh.free hn) hn o) p
  | n t ds =>
    cases t with
    | false=>exact r.elim
    | true =>
      obtain ⟨a,as,rfl,q,nd,pr⟩:=r
      exact eo.nx _ H' G' _ (w.trans w') (en.putNT w' w.hh i q nd pr) p
theorem dset_imp {K:PySem.W.Frag} {H0 G0:Hp} {i:Nat} (Dn:Ends) (σ:St) (H:Hp) : cS K H0 G0 (dSet i te) Dn σ H→cE K te σ H fun v H1=>Dn.nx (σ.set i (some v)) H1:=by
  rintro ⟨E,G,ρ,eo,w,en,h⟩
  exact ⟨G,ρ,_,w.gh,en.p,h,fun b v H' G' p' w' r'=>set_core i eo w en p' w' r'⟩
theorem dsetF_imp {K:PySem.W.Frag} {H0 G0:Hp} {i:Nat} (Dn:Ends) (σ:St) (H:Hp) : cS K H0 G0 (dSetF i te) Dn σ H→cE K te σ H fun v H1=>Dn.nx (σ.set i (some v)) H1:=by
  rintro ⟨E,G,ρ,eo,w,en,h⟩
  obtain ⟨G1,w1,sg,e1⟩:=en.freeze w
  refine ⟨G1,frz ρ,_,w1.gh,e1.p,h,fun b v H' G' p' w' r'=>?_⟩
  obtain ⟨G2,w2,r2⟩:=r'.give w'
  exact eo.nx _ H' G _ (w.back w') ((en.back w'.hh).putP i (r2.sc p'.1)) p'.2
noncomputable def dSetP (i:Nat) (te:DT) : DTS:=fun E ρ=>te ρ fun b=>E.nx (dput ρ i (.p b.val))
noncomputable def dSetDP (i:Nat) (te:DT) : DTS:=fun E ρ=>te (frz ρ) fun b=>E.nx (dput (frz ρ) i (.p b.val))
theorem dsetP_imp {K:PySem.W.Frag} {H0 G0:Hp} {i:Nat} (Dn:Ends) (σ:St) (H:Hp) : cS K H0 G0 (dSetP i te) Dn σ H→cE K te σ H fun v H1=>Dn.nx (σ.set i (some v)) H1:=by
  rintro ⟨E,G,ρ,eo,w,en,h⟩
  refine ⟨G,ρ,_,w.gh,en.p,h,fun b v H' G' p' w' r'=>?_⟩
  obtain ⟨G2,w2,r2⟩:=r'.give w'
  exact set_core i eo w en (b:=.p b.val) p' w2 r2
theorem dsetDP_imp {K:PySem.W.Frag} {H0 G0:Hp} {i:Nat} (Dn:Ends) (σ:St) (H:Hp) : cS K H0 G0 (dSetDP i te) Dn σ H→cE K te σ H fun v H1=>Dn.nx (σ.set i (some v)) H1:=by
  rintro ⟨E,G,ρ,eo,w,en,h⟩
  obtain ⟨G1,w1,sg,e1⟩:=en.freeze w
  refine ⟨G1,frz ρ,_,w1.gh,e1.p,h,fun b v H' G' p' w' r'=>?_⟩
  obtain ⟨G2,w2,r2⟩:=r'.give w'
  exact set_core i eo w1 e1 (b:=.p b.val) p' w2 r2
section
variable {i:Nat} {x:Str} {px:Pos}
theorem ds_set (hN:X.N.Nodup) (hi:X.N[i]? = some x) (hx:Loc X.env.scope x) (he:DE X e te) (hs:swapsWith e (some (.Name x px)) pos.line X.env = pure false:=by rfl) (hf:X.fn x = true ∨ X.env.scope.names.lookup x = some .local:=by first | exact .inl rfl | exact .inr rfl | assumption) :
    DS X (.Assign [.Name x px] e pos) (dSet i te):=DS.mk fun H0 G0=>PS.imp (ps_set hN hi hx he.pe hs hf) dset_imp
theorem ds_setP (hN:X.N.Nodup) (hi:X.N[i]? = some x) (hx:Loc X.env.scope x) (he:DE X e te) (hs:swapsWith e (some (.Name x px)) pos.line X.env = pure false:=by rfl) (hf:X.fn x = true ∨ X.env.scope.names.lookup x = some .local:=by first | exact .inl rfl | exact .inr rfl | assumption) :
    DS X (.Assign [.Name x px] e pos) (dSetP i te):=DS.mk fun H0 G0=>PS.imp (ps_set hN hi hx he.pe hs hf) dsetP_imp
theorem ds_setDP (hN:X.N.Nodup) (hi:X.N[i]? = some x) (hx:Loc X.env.scope x) (he:DE X e te) (hs:swapsWith e (some (.Name x px)) pos.line X.env = pure false:=by rfl) (hf:X.fn x = true ∨ X.env.scope.names.lookup x = some .local:=by first | exact .inl rfl | exact .inr rfl | assumption) :
    DS X (.Assign [.Name x px] e pos) (dSetDP i te):=DS.mk fun H0 G0=>PS.imp (ps_set hN hi hx he.pe hs hf) dsetDP_imp
theorem ds_setF (hN:X.N.Nodup) (hi:X.N[i]? = some x) (hx:Loc X.env.scope x) (he:DE X e te) (hs:swapsWith e (some (.Name x px)) pos.line X.env = pure false:=by rfl) (hf:X.fn x = true ∨ X.env.scope.names.lookup x = some .local:=by first | exact .inl rfl | exact .inr rfl | assumption) :
    DS X (.Assign [.Name x px] e pos) (dSetF i te):=DS.mk fun H0 G0=>PS.imp (ps_set hN hi hx he.pe hs hf) dsetF_imp
variable {tg iter elt:Expr} {ifs:List Expr} {scope:Scope} {spos:Pos} {ti:DTA} {g:Tg} {tc:DTT}
theorem ds_setLC (hNd:X.N.Nodup) (hy:X.N[i]? = some x) (hly:Loc X.env.scope x) (N':List Str) (fr:List (Option Nat)) (hc:X.calm = true) (hi:DI X tg iter ti)
    (hg:∀ cl fp C s H,PG (blk X scope N' cl fp C s H) tg (g.v X.K)) (ht:∀ cl fp C s H,DIfs (blk X scope N' cl fp C s H) ifs tc) (he:∀ cl fp C s H,DE (blk X scope N' cl fp C s H) elt te)
    {sc0:Scope} {N0:List Str} (htg:tgOk fr g = true:=by decide) (hsw:swapsWith (.ListComp elt [⟨tg,iter,ifs,0⟩] scope pos) (some (.Name x px)) spos.line X.env = pure true:=by rfl)
    (hsc:X.env.scope = sc0:=by rfl) (hN:X.N = N0:=by rfl) (hok:compScB sc0 N0 scope N' fr = true:=by decide +kernel) (hs:∀ x,foldedSetIterable iter X.env x = pure x:=by intro _; rfl)
    (hf:X.fn x = true ∨ X.env.scope.names.lookup x = some .local:=by first | exact .inl rfl | exact .inr rfl) :
    DS X (.Assign [.Name x px] (.ListComp elt [⟨tg,iter,ifs,0⟩] scope pos) spos) (dSet i (dLC ti fr g tc te)):=DS.mk fun H0 G0 =>
  PS.imp (ps_setLC (tc:=cT X.K tc) (te:=cE X.K te) hNd hy hly N' fr hc hi.pi hg (fun cl fp C s H=>(ht cl fp C s H).pf) (fun cl fp C s H=>(he cl fp C s H).pe) hsw hsc hN hok hs hf) fun Dn σ H h=>lc_core htg σ H _ (dset_imp Dn σ H h)
theorem ds_setLCP (hNd:X.N.Nodup) (hy:X.N[i]? = some x) (hly:Loc X.env.scope x) (N':List Str) (fr:List (Option Nat)) (hc:X.calm = true) (hi:DI X tg iter ti)
    (hg:∀ cl fp C s H,PG (blk X scope N' cl fp C s H) tg (g.v X.K)) (ht:∀ cl fp C s H,DIfs (blk X scope N' cl fp C s H) ifs tc) (he:∀ cl fp C s H,DE (blk X scope N' cl fp C s H) elt te)
    {sc0:Scope} {N0:List Str} (htg:tgOk fr g = true:=by decide) (hsw:swapsWith (.ListComp elt [⟨tg,iter,ifs,0⟩] scope pos) (some (.Name x px)) spos.line X.env = pure true:=by rfl)
    (hsc:X.env.scope = sc0:=by rfl) (hN:X.N = N0:=by rfl) (hok:compScB sc0 N0 scope N' fr = true:=by decide +kernel) (hs:∀ x,foldedSetIterable iter X.env x = pure x:=by intro _; rfl)
    (hf:X.fn x = true ∨ X.env.scope.names.lookup x = some .local:=by first | exact .inl rfl | exact .inr rfl) :
    DS X (.Assign [.Name x px] (.ListComp elt [⟨tg,iter,ifs,0⟩] scope pos) spos) (dSetP i (dLC ti fr g tc te)):=DS.mk fun H0 G0 =>
  PS.imp (ps_setLC (tc:=cT X.K tc) (te:=cE X.K te) hNd hy hly N' fr hc hi.pi hg (fun cl fp C s H=>(ht cl fp C s H).pf) (fun cl fp C s H=>(he cl fp C s H).pe) hsw hsc hN hok hs hf) fun Dn σ H h=>lc_core htg σ H _ (dsetP_imp Dn σ H h)
theorem ds_setLCDP (hNd:X.N.Nodup) (hy:X.N[i]? = some x) (hly:Loc X.env.scope x) (N':List Str) (fr:List (Option Nat)) (hc:X.calm = true) (hi:DI X tg iter ti)
    (hg:∀ cl fp C s H,PG (blk X scope N' cl fp C s H) tg (g.v X.K)) (ht:∀ cl fp C s H,DIfs (blk X scope N' cl fp C s H) ifs tc) (he:∀ cl fp C s H,DE (blk X scope N' cl fp C s H) elt te)
    {sc0:Scope} {N0:List Str} (htg:tgOk fr g = true:=by decide) (hsw:swapsWith (.ListComp elt [⟨tg,iter,ifs,0⟩] scope pos) (some (.Name x px)) spos.line X.env = pure true:=by rfl)
    (hsc:X.env.scope = sc0:=by rfl) (hN:X.N = N0:=by rfl) (hok:compScB sc0 N0 scope N' fr = true:=by decide +kernel) (hs:∀ x,foldedSetIterable iter X.env x = pure x:=by intro _; rfl)
    (hf:X.fn x = true ∨ X.env.scope.names.lookup x = some .local:=by first | exact .inl rfl | exact .inr rfl) :
    DS X (.Assign [.Name x px] (.ListComp elt [⟨tg,iter,ifs,0⟩] scope pos) spos) (dSetDP i (dLC ti fr g tc te)):=DS.mk fun H0 G0 =>
  PS.imp (ps_setLC (tc:=cT X.K tc) (te:=cE X.K te) hNd hy hly N' fr hc hi.pi hg (fun cl fp C s H=>(ht cl fp C s H).pf) (fun cl fp C s H=>(he cl fp C s H).pe) hsw hsc hN hok hs hf) fun Dn σ H h=>lc_core htg σ H _ (dsetDP_imp Dn σ H h)
noncomputable def dAug (i:Nat) (te:DT) (f:Int→Int→Int) : DTS:=fun E ρ=>match dget ρ i with
  | some (.p (.int m))=>te (frz ρ) fun b=>match b.val with
    | .int n=>E.nx (dput ρ i (.p (.int (f m n))))
    | _=>False
  | _=>False
theorem ds_aug {op:Operator} {f:Int→Int→Int} (hN:X.N.Nodup) (hi:X.N[i]? = some x) (hx:Loc X.env.scope x) (he:DE X e te) (ho:PIp X op (ipI f)) (hf:X.fn x = true ∨ X.env.scope.names.lookup x = some .local:=by first | exact .inl rfl | exact .inr rfl | assumption) :
    DS X (.AugAssign (.Name x px) op e pos) (dAug i te f):=DS.mk fun H0 G0=>PS.imp (ps_aug hN hi hx he.pe ho hf) fun Dn σ H ⟨E,G,ρ,eo,w,en,h⟩=>by
  unfold dAug at h
  split at h
  · rename_i m q
    obtain ⟨G1,w1,sg,e1⟩:=en.freeze w
    obtain ⟨v,h1,h2⟩:=en.p i _ q
    cases h2
    refine ⟨_,h1,G1,frz ρ,_,w1.gh,e1.p,h,fun b v H' G' p' w' r'=>?_⟩
    split at p'
    · rename_i n e
      exact ⟨m,n,rfl,bres_int w' r' e,eo.nx _ H' G _ (w.back w') ((en.back w'.hh).putP i (.int _)) p'⟩
    · exact p'.elim
  · exact h.elim
end
noncomputable def dAsg (te:DT) (g:Tg) : DTS:=fun E ρ=>te ρ fun b=>g.d b.val ρ E.nx
theorem ds_asg {tg:Expr} {g:Tg} (he:DE X e te) (hg:PG X tg (g.v X.K)) (hs:swapsWithSole [tg] e pos.line X.env = pure false:=by rfl) (hw:swappedStores [tg] e X.env = pure none:=by rfl)
    (h1:(assignEach [tg] X.env).map (·.2) = [assign tg X.env]:=by rfl) : DS X (.Assign [tg] e pos) (dAsg te g):=DS.mk fun H0 G0=>PS.imp (ps_asg he.pe hg hs hw h1) fun Dn σ H ⟨E,G,ρ,eo,w,en,h⟩=>by
  refine ⟨G,ρ,_,w.gh,en.p,h,fun b v H' G' p' w' r'=>?_⟩
  obtain ⟨G2,w2,r2⟩:=r'.give w'
  exact Tg.ok w2.gh (en.on w2) r2 p' fun σ' ρ' e' q=>eo.nx σ' H' G2 ρ' (w.trans w2) e' q
theorem EnvO.setO {K:PySem.W.Frag} {H0 G H:Hp} {σ:St} {ρ:DEnv} {i:Nat} {a:Addr} {ds ds':List D} {vs:List V} (e:EnvO K H0 G H σ ρ) (h1:dget ρ i = some (.o (.lst ds))) (h2:σ[i]? = some (some (.ref a))) (r:Reps K G vs ds') : EnvO K H0 G (upd H a (.lst vs)) σ (dput ρ i (.o (.lst ds'))):=by
  obtain ⟨o,e⟩:=e
  have hlt:=dget_lt h1
  obtain ⟨a',h3,h4,h4',h5⟩:=e.o i _ h1
  rw [h2] at h3
  cases h3
  refine ⟨o,by rw [dput_len]; exact e.len,fun j d q=>?_,fun j d q=>?_,fun j t dss q=>?_⟩
  · rcases dget_put q with ⟨rfl,_,q⟩ | ⟨hne,q⟩
    · cases q
    · exact e.p j d q
  · rcases dget_put q with ⟨rfl,_,q⟩ | ⟨hne,q⟩
    · cases q
      exact ⟨a,h2,h4,h4',h5.1,vs,upd_same,r⟩
    · obtain ⟨b,k1,k2,k2',k3⟩:=e.o j d q
      refine ⟨b,k1,k2,k2',k3.stay (Same.refl _) k3.1 fun o z=>?_⟩
      have:b ≠ a:=by
        rintro rfl
        exact hne (h4'.symm.trans k2')
      rw [upd_ne this]
      exact z
  · rcases dget_put q with ⟨rfl,_,q⟩ | ⟨hne,q⟩
    · cases q
    · obtain ⟨b,k1,k2⟩:=e.n j t dss q
      refine ⟨b,k1,k2.stay (Same.refl _) fun x z1 z2 z3 z4=>⟨z3,z2,fun o z=>?_⟩⟩
      have:x ≠ a:=by
        rintro rfl
        exact hne (h4'.symm.trans z2)
      rw [upd_ne this]
      exact z
noncomputable def dApp (i:Nat) (te:DT) : DTS:=fun E ρ=>match dget ρ i with
  | some (.o (.lst ds))=>te ρ fun b=>ds.length < sizeLine∧E.nx (dput ρ i (.o (.lst (ds ++ [b.val]))))
  | _=>False
noncomputable def dAppF (i:Nat) (te:DT) : DTS:=fun E ρ=>match dget ρ i with
  | some (.o (.lst ds))=>te (frz ρ) fun b=>b.val.sc = true∧ds.length < sizeLine∧E.nx (dput ρ i (.o (.lst (ds ++ [b.val]))))
  | _=>False
theorem app_fin {K:PySem.W.Frag} {H0 G0 G H:Hp} {σ:St} {ρ:DEnv} {i:Nat} {a:Addr} {ds:List D} {vs:List V} {v:V} {d:D} {E:DEnds} {Dn:Ends} (eo:EndsOk K H0 G0 E Dn) (w:Wd H0 G0 H G) (e:EnvO K H0 G H σ ρ) (h1:dget ρ i = some (.o (.lst ds))) (h2:σ[i]? = some (some (.ref a))) (h3:H a = some (.lst vs)) (r:Reps K G vs ds) (rv:Rep K G v d) (hz:ds.length < sizeLine) (p:E.nx (dput ρ i (.o (.lst (ds ++ [d]))))) :
    rAppend (.ref a) [v] H fun _ H3=>Dn.nx σ H3:=by
  obtain ⟨a',k1,k2,k3⟩:=e.o i _ h1
  rw [h2] at k1
  cases k1
  exact ⟨a,vs,v,rfl,rfl,h3,by rw [Paired.length r]; exact hz,eo.nx σ _ G _ (w.own k2 k3.1) (e.setO h1 h2 (paired_app r (.cons rv .nil))) p⟩
section
variable {i:Nat} {x:Str} {px apos cpos spos:Pos}
theorem ds_app (hN:X.N[i]? = some x) (hv:Vis X.env.scope x) (he:DE X e te) (hd:(x == ("__debug__" : Str)) = false:=by decide) (hcd:(x == ("__classdict__" : Str)) = false:=by decide)
    (hbase:attributeBase (.Name x px) "append" X.env (eval (.Name x px) X.env) = eval (.Name x px) X.env:=by rfl)
    (hfew:((backTo cpos (starEach (e :: []) X.env)).all (fun x=>!x.1) && (backToKw cpos (keywordEach [] X.env)).all (fun x=>x.1.isSome)
      && decide ((e :: []).length + ([] : List Keyword).length + (if ([] : List Keyword).isEmpty then 0 else 1) < 30)) = true:=by rfl)
    (hline:(apos.endLine == cpos.line) = true:=by rfl) (hs:starEach (e :: []) X.env = (false,eval e X.env) :: starEach [] X.env:=by rfl) (hplain:(backTo cpos (starEach [] X.env)).any (·.1) = false:=by rfl)
    (hsw:swapsWith (.Call (.Attribute (.Name x px) "append" apos) [e] [] cpos) none spos.line X.env = pure false:=by rfl) :
    DS X (.Expr (.Call (.Attribute (.Name x px) "append" apos) [e] [] cpos) spos) (dApp i te):=DS.mk fun H0 G0 =>
  PS.imp (ps_expr (pe_bm PySem.F.plainAttrs_list PySem.F.slot_list_append PySem.F.type_list_append mt_append (pe_var hN hv hd hcd) (pa_cons he.pe pa_nil hs) hbase hfew hline hs hplain) hsw) fun Dn σ H ⟨E,G,ρ,eo,w,en,h⟩=>by
    unfold dApp at h
    split at h
    · rename_i ds q
      obtain ⟨a,h1,h2,h3,vs,h4,h5⟩:=en.o i _ q
      refine ⟨_,h1,.inl ⟨rfl,_,SqL.of h4⟩,G,ρ,_,w.gh,en.p,h,fun b v H' G' p' w' r'=>?_⟩
      obtain ⟨G2,w2,r2⟩:=r'.give w'
      exact app_fin eo (w.trans w2) (en.on w2) q h1 (w2.hh _ _ h4) (Reps.mono w2.gg h5) r2 p'.1 p'.2
    · exact h.elim
noncomputable def dSetIx (i:Nat) (tk te:DT) : DTS:=fun E ρ=>te ρ fun b=>match dget ρ i with
  | some (.o (.lst ds))=>tk (frz ρ) fun k=>match k.val with
    | .int z=>∃ j,ixN ds.length z = some j∧E.nx (dput ρ i (.o (.lst (ds.set j b.val))))
    | _=>False
  | _=>False
noncomputable def dSetIxF (i:Nat) (tk te:DT) : DTS:=fun E ρ=>te (frz ρ) fun b=>b.val.sc = true∧match dget ρ i with
  | some (.o (.lst ds))=>tk (frz ρ) fun k=>match k.val with
    | .int z=>∃ j,ixN ds.length z = some j∧E.nx (dput ρ i (.o (.lst (ds.set j b.val))))
    | _=>False
  | _=>False
theorem paired_set {α β:Type} {F:α→β→Prop} {v:α} {d:β} (h:F v d) : ∀ {l:List α} {r:List β} (j:Nat),Paired F l r→Paired F (l.set j v) (r.set j d)
  | _,_,_,.nil=>.nil
  | _,_,0,.cons _ t=>.cons h t
  | _,_,j + 1,.cons k t=>.cons k (paired_set h j t)
noncomputable def dAugIx (i:Nat) (tk te:DT) (f:Int→Int→Int) : DTS:=fun E ρ=>match dget ρ i with
  | some (.o (.lst ds))=>tk (frz ρ) fun k=>match k.val with
    | .int z=>∃ j m,ixN ds.length z = some j∧ds[j]? = some (.int m)∧te (frz ρ) fun b=>match b.val with
      | .int n=>E.nx (dput ρ i (.o (.lst (ds.set j (.int (f m n))))))
      | _=>False
    | _=>False
  | _=>False
theorem ds_augIx {k:Expr} {tk:DT} {tpos:Pos} {op:Operator} {f:Int→Int→Int} (ho:PIp X op (ipI f)) (h:PS X (.AugAssign (.Subscript (.Name x px) k tpos) op e pos) (tAugS (tVar i) (cE X.K tk) (cE X.K te) (rIxL X.K) (ipI f) rSetL)) :
    DS X (.AugAssign (.Subscript (.Name x px) k tpos) op e pos) (dAugIx i tk te f):=DS.mk fun H0 G0 =>
  PS.imp h fun Dn σ H ⟨E,G,ρ,eo,w,en,h⟩=>by
    unfold dAugIx at h
    split at h
    · rename_i ds q
      obtain ⟨a,h1,h2,h3,vs,h4,h5⟩:=en.o i _ q
      obtain ⟨G1,w1,sg,e1⟩:=en.freeze w
      refine ⟨_,h1,G1,frz ρ,_,w1.gh,e1.p,h,fun b v H' G' p' w' r'=>?_⟩
      split at p'
      · rename_i z ez
        obtain ⟨j,m,hj,hm,p'⟩:=p'
        obtain ⟨v1,g1,g2⟩:=paired_get' h5 hm
        cases g2
        have hat:atI vs z = some (.int m):=by
          unfold atI
          rw [Paired.length h5,hj]
          exact g1
        refine ⟨a,vs,z,_,rfl,bres_int w' r' ez,SqL.of (w'.hh _ _ h4),hat,?_⟩
        have w1':=w1.trans w'
        refine ⟨G',frz ρ,_,w'.gh,RepE.mono w'.gg e1.p,p',fun b2 v2 H2 G2 p2 w2 r2'=>?_⟩
        split at p2
        · rename_i n en2
          have w12:=w'.trans w2
          refine ⟨m,n,rfl,bres_int w2 r2' en2,a,vs,z,j,rfl,bres_int w' r' ez,w12.hh _ _ h4,by rw [Paired.length h5]; exact hj,?_⟩
          exact eo.nx σ _ G _ ((w.back w12).own h2 h3) ((en.back w12.hh).setO q h1 (paired_set (.int _) j h5)) p2
        · exact p2.elim
      · exact p'.elim
    · exact h.elim
end
noncomputable def forI (g:Tg) (tb:DTS) (E:DEnds) (xs:List D) (ρ:DEnv) : Prop:=∃ I:Nat→DEnv→Prop,I 0 ρ ∧
  (∀ i d ρ,xs[i]? = some d→I i ρ→g.d d ρ fun ρ'=>tb { E with nx:=I (i + 1),ct:=I (i + 1),bk:=E.nx } ρ')∧∀ ρ,I xs.length ρ→E.nx ρ
noncomputable def dFor (ti:DTA) (g:Tg) (tb:DTS) : DTS:=fun E ρ=>ti ρ fun xs=>forI g tb E xs ρ
noncomputable def dForD (ti:DTA) (g:Tg) (tb:DTS) : DTS:=fun E ρ=>ti (frz ρ) fun xs=>forI g tb E xs (frz ρ)
theorem Wd.base {H0 G0 H9 G9 H G:Hp} (w9:Wd H0 G0 H9 G9) (w:Wd H0 G9 H G) : Wd H0 G0 H G:=⟨w.hh,w9.gg.trans w.gg,w.gh,fun a h=>by rw [w.old a h,w9.old a h]⟩
noncomputable def cX (K:PySem.W.Frag) (t:DTS) : TS:=fun Dn σ H=>∃ H0 G0,cS K H0 G0 t Dn σ H
theorem DSs.x {sts:List Stmt} (h:DSs X sts t) : PSs X sts (cX X.K t):=fun pins s σ H D I ⟨H0,G0,q⟩=>h.pss H0 G0 pins s σ H D I q
theorem for_core {K:PySem.W.Frag} {H0 G0 G H:Hp} {σ:St} {ρ:DEnv} {g:Tg} {tb:DTS} {J:It} {xs:List D} {E:DEnds} {Dn:Ends} (eo:EndsOk K H0 G0 E Dn) (w:Wd H0 G0 H G) (en:EnvO K H0 G H σ ρ) (it:ItD K G J xs) (h:forI g tb E xs ρ) :
    ∃ W:Nat→Nat→St→Hp→Prop,(∃ m,W 0 m σ H)∧∀ i m σ H,W i m σ H →
      (J.stop i H∧Dn.nx σ H) ∨ (J.go i H∧∃ N:St→Hp→Prop,(∀ σ' H',N σ' H'→∃ m',m' < m∧W (i + 1) m' σ' H')∧∀ x H',J.yld i H x H'→g.v K x σ H' fun σ2 H2=>cX K tb { Dn with nx:=N,ct:=N,bk:=Dn.nx } σ2 H2):=by
  obtain ⟨I,i0,is,ie⟩:=h
  have w0:Wd H0 G H G:=⟨w.hh,Same.refl _,w.gh,fun _ _=>rfl⟩
  refine ⟨fun i m σ H=>m = xs.length - i∧i ≤ xs.length∧∃ G' ρ',Wd H0 G H G'∧EnvO K H0 G' H σ ρ'∧I i ρ',⟨xs.length,by simp,Nat.zero_le _,G,ρ,w0,en,i0⟩,?_⟩
  rintro i m σ H ⟨rfl,hi,G',ρ',w',en',p⟩
  by_cases hlt:i < xs.length
  · have hx:xs[i]? = some xs[i]:=List.getElem?_eq_getElem hlt
    refine .inr ⟨it.go i _ H G' hx w'.gg w'.gh,fun σ2 H2=>∃ G2 ρ2,Wd H0 G H2 G2∧EnvO K H0 G2 H2 σ2 ρ2∧I (i + 1) ρ2,fun σ2 H2 ⟨G2,ρ2,z⟩=>⟨xs.length - (i + 1),by lia,rfl,hlt,G2,ρ2,z⟩,fun x H2 y=>?_⟩
    obtain ⟨G2,w2,r2⟩:=it.yld i _ H G' x H2 hx w'.gg w'.gh y
    refine Tg.ok w2.gh (en'.on w2) r2 (is i _ ρ' hx p) fun σ3 ρ3 e3 p3=>?_
    exact ⟨H0,G,{ E with nx:=I (i + 1),ct:=I (i + 1),bk:=E.nx },G2,ρ3,⟨fun σ4 H4 G4 ρ4 w4 e4 p4=>⟨G4,ρ4,w4,e4,p4⟩,fun σ4 H4 G4 ρ4 w4 e4 p4=>eo.nx σ4 H4 G4 ρ4 (w.base w4) e4 p4,fun σ4 H4 G4 ρ4 w4 e4 p4=>⟨G4,ρ4,w4,e4,p4⟩,fun b v H4 G4 w4 r4 p4=>eo.rt b v H4 G4 (w.base w4) r4 p4⟩,w'.trans w2,e3,p3⟩
  · have e : i = xs.length := by lia
    subst e
    exact .inl ⟨it.stop _ H G' rfl w'.gg w'.gh,eo.nx σ H G' ρ' (w.base w') en' (ie ρ' p)⟩
section
variable {tg iter:Expr} {body:List Stmt} {ti:DTA} {g:Tg} {tb:DTS}
theorem ds_for (hp:PassesOwn (model X.prog X.w) X.A X.env X.xe) (hc:X.calm = true) (hi:DI X tg iter ti) (hg:PG X tg (g.v X.K)) (hb:DSs X body tb) (hs:∀ x,foldedSetIterable iter X.env x = pure x:=by intro _; rfl) : DS X (.For tg iter body [] pos) (dFor ti g tb):=DS.mk fun H0 G0 =>
  PS.imp (ps_for hp hc hi.pi hg hb.x hs) fun Dn σ H ⟨E,G,ρ,eo,w,en,h⟩=>⟨G,ρ,_,w.gh,en.p,h,fun xs J H' G' p' w' it=>for_core eo (w.trans w') (en.on w') it p'⟩
noncomputable def cIs (K:PySem.W.Frag) (t:DTA) : TI:=fun σ H R=>∃ (G:Hp) (ρ:DEnv) (P:List D→Prop),Same G H∧RepE K G σ ρ∧t ρ P∧∀ xs J H' G',P xs→Wd H G H' G'→(∀ G,ItD K G J xs)→R J H'
structure DIs (X:Cx) (tg e:Expr) (t:DTA) : Prop where
  pi:PI X tg e (cIs X.K t)
theorem DIs.of {e:Expr} {t:TI} {t':DTA} (h:PI X tg e t) (i:∀ σ H Q,cIs X.K t' σ H Q→t σ H Q) : DIs X tg e t':=⟨PI.imp h i⟩
theorem DIs.di {e:Expr} {t:DTA} (h:DIs X tg e t) : DI X tg e t:=DI.of h.pi fun σ H R ⟨G,ρ,P,s,re,h,k⟩=>⟨G,ρ,P,s,re,h,fun xs J H' G' p' w' it=>k xs J H' G' p' w' (it G')⟩
theorem dis_rng1 {a:Expr} {t:DTA} {p:Pos} (hg:Gl X "range") (hm:X.mg "range" = none) (ha:DA X [a] t) (hs:starEach [a] X.env = [(false,eval a X.env)]:=by rfl) : DIs X tg (.Call (.Name "range" p) [a] [] pos) (diRng1 t):=
  DIs.of (pi_range1 hg hm ha.pa hs) fun σ H R ⟨G,ρ,P,s,re,h,k⟩=>by
    refine ⟨G,ρ,_,s,re,h,fun ds vs H1 G1 p1 l1 w1 r1=>?_⟩
    split at p1
    · obtain ⟨v,rfl,rv⟩:=reps1 r1
      cases rv
      exact ⟨_,rfl,p1.1.1,p1.1.2,k _ _ H1 G1 p1.2 w1 fun _=>itd_rng⟩
    · exact p1.elim
theorem dis_rng2 {a b:Expr} {t:DTA} {p:Pos} (hg:Gl X "range") (hm:X.mg "range" = none) (ha:DA X [a,b] t) (hs:starEach [a,b] X.env = [(false,eval a X.env),(false,eval b X.env)]:=by rfl) (hs2:starEach [b] X.env = [(false,eval b X.env)]:=by rfl) :
    DIs X tg (.Call (.Name "range" p) [a,b] [] pos) (diRng2 t):=
  DIs.of (pi_range2 hg hm ha.pa hs hs2) fun σ H R ⟨G,ρ,P,s,re,h,k⟩=>by
    refine ⟨G,ρ,_,s,re,h,fun ds vs H1 G1 p1 l1 w1 r1=>?_⟩
    split at p1
    · obtain ⟨v,v',rfl,rv,rv'⟩:=reps2 r1
      cases rv; cases rv'
      exact ⟨_,_,rfl,p1.1,k _ _ H1 G1 p1.2 w1 fun _=>itd_rng⟩
    · exact p1.elim
noncomputable def dForS (ti:DTA) (g:Tg) (tb:DTS) : DTS:=fun E ρ=>ti (frz ρ) fun xs=>forI g tb E xs ρ
theorem ds_forS (hp:PassesOwn (model X.prog X.w) X.A X.env X.xe) (hc:X.calm = true) (hi:DIs X tg iter ti) (hg:PG X tg (g.v X.K)) (hb:DSs X body tb) (hs:∀ x,foldedSetIterable iter X.env x = pure x:=by intro _; rfl) : DS X (.For tg iter body [] pos) (dForS ti g tb):=DS.mk fun H0 G0 =>
  PS.imp (ps_for hp hc hi.pi hg hb.x hs) fun Dn σ H ⟨E,G,ρ,eo,w,en,h⟩=>by
    obtain ⟨G1,w1,sg,e1⟩:=en.freeze w
    exact ⟨G1,frz ρ,_,w1.gh,e1.p,h,fun xs J H' G' p' w' it=>for_core eo (w.back w') (en.back w'.hh) (it G) p'⟩
noncomputable def forR (g:Tg) (tb:DTS) (E:DEnds) : List D→DEnv→Prop
  | [],ρ=>E.nx ρ
  | d :: ds,ρ=>g.d d ρ fun ρ'=>tb { E with nx:=forR g tb E ds,ct:=forR g tb E ds,bk:=E.nx } ρ'
theorem forI_of {E:DEnds} {xs:List D} {ρ:DEnv} (h:forR g tb E xs ρ) : forI g tb E xs ρ:=by
  refine ⟨fun i ρ=>forR g tb E (xs.drop i) ρ,by simpa using h,fun i d ρ hx p=>?_,fun ρ p=>by have p':forR g tb E (xs.drop xs.length) ρ:=p; rw [List.drop_length] at p'; exact p'⟩
  have hi:i < xs.length:=(List.getElem?_eq_some_iff.mp hx).1
  have e:xs.drop i = d :: xs.drop (i + 1):=by
    rw [List.drop_eq_getElem_cons hi]
    congr 1
    rw [List.getElem?_eq_getElem hi] at hx
    exact Option.some.inj hx
  have p':forR g tb E (xs.drop i) ρ:=p
  rw [e] at p'
  exact p'
end
end
noncomputable def startD:Nat→List D→DEnv
  | 0,ds=>ds.map fun d=>some (.p d)
  | n + 1,[]=>none :: startD n []
  | n + 1,d :: ds=>some (.p d) :: startD n ds
theorem startD_ok {K:PySem.W.Frag} {G:Hp} : ∀ (n:Nat) {vs:List V} {ds:List D},Reps K G vs ds→RepE K G (vs.map some ++ List.replicate (n - vs.length) none) (startD n ds)∧(vs.map some ++ List.replicate (n - vs.length) (none:Option V)).length = (startD n ds).length∧∀ i d,dget (startD n ds) i ≠ some (.o d)
  | 0,_,_,.nil=>⟨fun i d h=>(nomatch (show (none:Option B) = some (.p d) from h)),rfl,fun i d h=>(nomatch (show (none:Option B) = some (.o d) from h))⟩
  | 0,_,_,.cons (a:=v) (b:=d) (l₁:=vs) (l₂:=ds) r rr=>by
    obtain ⟨h1,h2,h3⟩:=startD_ok (K:=K) (G:=G) 0 rr
    have e0:startD 0 (d :: ds) = some (.p d) :: startD 0 ds:=rfl
    have e1:(v :: vs).map some ++ List.replicate (0 - (v :: vs).length) (none:Option V) = some v :: (vs.map some ++ List.replicate (0 - vs.length) none):=by simp
    rw [e0,e1]
    refine ⟨fun i d' h=>?_,by rw [List.length_cons,List.length_cons,h2],fun i d' h=>?_⟩
    · cases i with
      | zero=>cases h; exact ⟨v,rfl,r⟩
      | succ i=>exact h1 i d' h
    · cases i with
      | zero=>cases h
      | succ i=>exact h3 i d' h
  | n + 1,_,_,.nil=>by
    obtain ⟨h1,h2,h3⟩:=startD_ok (K:=K) (G:=G) n (vs:=[]) (ds:=[]) .nil
    have e1:([] : List V).map some ++ List.replicate (n + 1 - ([] : List V).length) (none:Option V) = none :: (([] : List V).map some ++ List.replicate (n - ([] : List V).length) none):=by simp [List.replicate_succ]
    rw [e1]
    refine ⟨fun i d' h=>?_,by show _ = (none :: startD n []).length; rw [List.length_cons,List.length_cons,h2],fun i d' h=>?_⟩
    · cases i with
      | zero=>cases h
      | succ i=>exact h1 i d' h
    · cases i with
      | zero=>cases h
      | succ i=>exact h3 i d' h
  | n + 1,_,_,.cons (a:=v) (b:=d) (l₁:=vs) (l₂:=ds) r rr=>by
    obtain ⟨h1,h2,h3⟩:=startD_ok (K:=K) (G:=G) n rr
    have e1:(v :: vs).map some ++ List.replicate (n + 1 - (v :: vs).length) (none:Option V) = some v :: (vs.map some ++ List.replicate (n - vs.length) none):=by simp
    rw [e1]
    refine ⟨fun i d' h=>?_,by show _ = (some (B.p d) :: startD n ds).length; rw [List.length_cons,List.length_cons,h2],fun i d' h=>?_⟩
    · cases i with
      | zero=>cases h; exact ⟨v,rfl,r⟩
      | succ i=>exact h1 i d' h
    · cases i with
      | zero=>cases h
      | succ i=>exact h3 i d' h
theorem startD_p:∀ (n:Nat) (ds:List D) (i:Nat) (b:B),dget (startD n ds) i = some b→∃ d,b = .p d
  | 0,[],_,_,h=>by cases h
  | 0,d :: ds,0,_,h=>by cases h; exact ⟨_,rfl⟩
  | 0,d :: ds,i + 1,b,h=>startD_p 0 ds i b h
  | n + 1,[],0,_,h=>by cases h
  | n + 1,[],i + 1,b,h=>startD_p n [] i b h
  | n + 1,d :: ds,0,_,h=>by cases h; exact ⟨_,rfl⟩
  | n + 1,d :: ds,i + 1,b,h=>startD_p n ds i b h
section
variable {P:Program} {w:World} {K:PySem.W.Frag} {mg:Str→Option Value} {base:Heap}
theorem okD {x qual:Str} {st:Stmt} {f:Addr} {fd:FuncData} {N ps:List Str} {k:Nat} {R:DR} (F:Fun K x qual st f fd) (S:FnScope N ps (defScope st)) (len:∀ ds Q,R ds Q→ds.length = ps.length)
    (hbody:∀ (cdv:Value) (A:Around) (outer:List Env) (s:Shared) (H:Hp) (E:XK),Room k (A.deeper (PyProof.Rows.envOfC qual (defScope st) s.heap.objs.size f cdv)) →
      ∃ t,DSs (cxOf CX0 P w K mg base N qual (defScope st) f cdv A outer s H E).nox (defBody st) t∧∀ ds Q,R ds Q→t { nx:=fun _=>Q (.p .non),rt:=Q } (startD N.length ds)) : FnOk P w K mg base CX0 (k + 1) f fd ps (spD K R):=by
  refine F.ok S (fun vs H Q E ⟨ds,G,P,s,r,h,_⟩=>by rw [Paired.length r]; exact len ds P h) fun cdv A outer s H vs Q E hr ⟨ds,G,P,sg,r,h,k⟩=>?_
  obtain ⟨t,h1,h2⟩:=hbody cdv A outer s H E hr
  obtain ⟨e1,e2,e3⟩:=startD_ok (K:=K) N.length r
  refine ⟨_,h1.pss H G,_,G,_,?_,Wd.refl sg,EnvO.only e2 e1 (startD_p _ _),h2 ds P h⟩
  exact ⟨fun σ H' G' ρ w' _ p=>k _ _ H' G' p w' (show Rep K G' V.non D.non from .non),fun σ H' G' ρ w' _ p=>p.elim,fun σ H' G' ρ w' _ p=>p.elim,fun b v H' G' w' r' p=>k b v H' G' p w' r'⟩
end
end DL
namespace DL
open PySem L2
section
variable {X:Cx} {tg e:Expr} {te:DT} {pos:Pos} {es:List Expr}
theorem de_gI {x:Str} {i:Int} (hg:Gl X x) (h:∃ t,X.mg x = some (.int i t)) (hd:(x == ("__debug__" : Str)) = false:=by decide) : DE X (.Name x pos) (dC (.int i)):=de_c (pe_gI hg h hd) fun _=>.int i
noncomputable def dMaxL:DR:=fun ds P=>match ds with
  | [.lst xs]=>∃ ns:List Int,xs = ns.map D.int∧ns ≠ []∧∀ m,m ∈ ns→(∀ n ∈ ns,n ≤ m)→P (.p (.int m))
  | _=>False
noncomputable def dMinL:DR:=fun ds P=>match ds with
  | [.lst xs]=>∃ ns:List Int,xs = ns.map D.int∧ns ≠ []∧∀ m,m ∈ ns→(∀ n ∈ ns,m ≤ n)→P (.p (.int m))
  | _=>False
theorem cd_maxL (hc:X.calm = true) : CallD X (.builtin "max") dMaxL:=by
  refine ⟨_,call_maxL hc,fun H G vs ds P Q s r h k=>?_⟩
  unfold dMaxL at h
  split at h
  · obtain ⟨ns,rfl,hn,h⟩:=h
    obtain ⟨v,rfl,rv⟩:=reps1 r
    obtain ⟨a,us,rfl,e,rr⟩:=rv.lst_inv
    rw [reps_ints rr] at e
    exact ⟨a,ns,rfl,SqL.of (s _ _ e),hn,fun m h1 h2=>k _ _ H G (h m h1 h2) (Wd.refl s) (.int _)⟩
  · exact h.elim
theorem cd_minL (hc:X.calm = true) : CallD X (.builtin "min") dMinL:=by
  refine ⟨_,call_minL hc,fun H G vs ds P Q s r h k=>?_⟩
  unfold dMinL at h
  split at h
  · obtain ⟨ns,rfl,hn,h⟩:=h
    obtain ⟨v,rfl,rv⟩:=reps1 r
    obtain ⟨a,us,rfl,e,rr⟩:=rv.lst_inv
    rw [reps_ints rr] at e
    exact ⟨a,ns,rfl,SqL.of (s _ _ e),hn,fun m h1 h2=>k _ _ H G (h m h1 h2) (Wd.refl s) (.int _)⟩
  · exact h.elim
theorem itd_P {K:PySem.W.Frag} {G:Hp} {Src:Hp→List (List V)→Prop} {rows:List (List V)} {xs:List D} (hs:∀ H,Same G H→Src H rows) (r:Paired (fun row d=>∃ ds,d = D.tup ds∧Reps K G row ds) rows xs) : ItD K G (ItP Src) xs where
  go:=fun i d H G' e s1 s2=>by
    obtain ⟨row,h1,h2⟩:=paired_get' r e
    exact ⟨rows,row,hs H (s1.trans s2),h1⟩
  yld:=fun i d H G' x H' e s1 s2 y=>by
    obtain ⟨row,h1,ds,rfl,h2⟩:=paired_get' r e
    obtain ⟨row',p,h3,h4,rfl,rfl⟩:=y rows (hs H (s1.trans s2))
    rw [h1] at h3
    cases h3
    exact ⟨_,(Wd.refl s2).new h4,Rep.tup' (SqT.of upd_same) (Reps.mono (same_new (s2.free h4)) (Reps.mono s1 h2))⟩
  stop:=fun i H G' hi s1 s2=>⟨rows,hs H (s1.trans s2),by rw [Paired.length r,hi]⟩
noncomputable def enumFrom:Nat→List D→List D
  | _,[]=>[]
  | k,x :: xs=>.tup [.int (k:Nat),x] :: enumFrom (k + 1) xs
theorem enumFrom_len:∀ (k:Nat) (xs:List D),(enumFrom k xs).length = xs.length
  | _,[]=>rfl
  | k,x :: xs=>by show (enumFrom (k + 1) xs).length + 1 = _; rw [enumFrom_len]; rfl
theorem enumFrom_get:∀ {k:Nat} {xs:List D} {i:Nat} {d:D},(enumFrom k xs)[i]? = some d→∃ x,xs[i]? = some x∧d = .tup [.int ((k + i:Nat) : Int),x]
  | _,[],_,_,h=>by simp [enumFrom] at h
  | k,x :: xs,0,d,h=>⟨x,rfl,by simpa [enumFrom] using h.symm⟩
  | k,x :: xs,i + 1,d,h=>by
    have h':(enumFrom (k + 1) xs)[i]? = some d:=by simpa [enumFrom] using h
    obtain ⟨y,h1,h2⟩:=enumFrom_get h'
    exact ⟨y,by simpa using h1,by rw [h2]; congr 3; lia⟩
noncomputable def di_enumerateT (t:DTA) : DTA:=fun ρ P=>t ρ fun ds=>match ds with
  | [.lst xs]=>P (enumFrom 0 xs)
  | _=>False
theorem rows_enum {K:PySem.W.Frag} {G:Hp} {vs:List V} {ds:List D} (r:Reps K G vs ds) : Paired (fun row d=>∃ ds,d = D.tup ds∧Reps K G row ds) (enumRows vs) (enumFrom 0 ds):=by
  refine paired_of (by rw [enumRows_len,enumFrom_len,Paired.length r]) fun i row d h1 h2=>?_
  obtain ⟨x,h3,rfl⟩:=enumFrom_get h2
  obtain ⟨v,h4,h5⟩:=paired_get' r h3
  rw [enumRows_get h4] at h1
  cases h1
  exact ⟨_,rfl,.cons (by rw [Nat.zero_add]; exact .int _) (.cons h5 .nil)⟩
theorem di_enumerate {elts:List Expr} {kx:Nat} {tpos:Pos} {l:Expr} {t:DTA} {p:Pos} (hg:Gl X "enumerate") (hm:X.mg "enumerate" = none) (ha:DA X [l] t) (hs:starEach [l] X.env = [(false,eval l X.env)]:=by rfl) : DI X (.Tuple elts kx tpos) (.Call (.Name "enumerate" p) [l] [] pos) (di_enumerateT t):=
  DI.of (pi_enum hg hm ha.pa hs) fun σ H R ⟨G,ρ,P,s,re,h,k⟩=>by
    refine ⟨G,ρ,_,s,re,h,fun ds vs H1 G1 p1 l1 w1 r1=>?_⟩
    split at p1
    · obtain ⟨v,rfl,rv⟩:=reps1 r1
      obtain ⟨a,us,rfl,e,rr⟩:=rv.lst_inv
      exact ⟨a,us,rfl,w1.gh _ _ e,k _ _ H1 G1 p1 w1 (itd_P (fun H s=>⟨us,s _ _ e,rfl⟩) (rows_enum rr))⟩
    · exact p1.elim
noncomputable def zipD (xs ys:List D) : List D:=(xs.zip ys).map fun p=>.tup [p.1,p.2]
noncomputable def di_zipT (t:DTA) : DTA:=fun ρ P=>t ρ fun ds=>match ds with
  | [.lst xs,.lst ys]=>P (zipD xs ys)
  | _=>False
theorem rows_zip {K:PySem.W.Frag} {G:Hp} : ∀ {vs us:List V} {ds es:List D},Reps K G vs ds→Reps K G us es→Paired (fun row d=>∃ ds,d = D.tup ds∧Reps K G row ds) (zipRows vs us) (zipD ds es)
  | _,_,_,_,.nil,_=>.nil
  | _,_,_,_,.cons _ _,.nil=>.nil
  | _,_,_,_,.cons h t,.cons h' t'=>.cons ⟨_,rfl,.cons h (.cons h' .nil)⟩ (rows_zip t t')
theorem di_zip {elts:List Expr} {kx:Nat} {tpos:Pos} {l l2:Expr} {t:DTA} {p:Pos} (hg:Gl X "zip") (hm:X.mg "zip" = none) (ha:DA X [l,l2] t) (hs:starEach [l,l2] X.env = [(false,eval l X.env),(false,eval l2 X.env)]:=by rfl) (hs2:starEach [l2] X.env = [(false,eval l2 X.env)]:=by rfl) : DI X (.Tuple elts kx tpos) (.Call (.Name "zip" p) [l,l2] [] pos) (di_zipT t):=
  DI.of (pi_zip hg hm ha.pa hs hs2) fun σ H R ⟨G,ρ,P,s,re,h,k⟩=>by
    refine ⟨G,ρ,_,s,re,h,fun ds vs H1 G1 p1 l1 w1 r1=>?_⟩
    split at p1
    · obtain ⟨v,v',rfl,rv,rv'⟩:=reps2 r1
      obtain ⟨a,us,rfl,e,rr⟩:=rv.lst_inv
      obtain ⟨a',us',rfl,e',rr'⟩:=rv'.lst_inv
      exact ⟨a,a',us,us',rfl,w1.gh _ _ e,w1.gh _ _ e',k _ _ H1 G1 p1 w1 (itd_P (fun H s=>⟨us,us',s _ _ e,s _ _ e',rfl⟩) (rows_zip rr rr'))⟩
    · exact p1.elim
theorem paired_rev {α β:Type} {F:α→β→Prop} : ∀ {l:List α} {r:List β},Paired F l r→Paired F l.reverse r.reverse
  | _,_,.nil=>.nil
  | _,_,.cons h t=>by rw [List.reverse_cons,List.reverse_cons]; exact Paired.snoc (paired_rev t) h
noncomputable def di_reversedT (t:DTA) : DTA:=fun ρ P=>t ρ fun ds=>match ds with
  | [.lst xs]=>P xs.reverse
  | _=>False
noncomputable def downTo (a:Int) (n:Nat) : List D:=(List.range n).map fun i=>D.int (a + (i:Nat) * (-1))
theorem downTo_get {a:Int} {n i:Nat} {d:D} (h:(downTo a n)[i]? = some d) : i < n∧d = .int (a + (i:Nat) * (-1)):=by
  unfold downTo at h
  rw [List.getElem?_map] at h
  by_cases hi:i < n
  · rw [List.getElem?_range hi] at h
    exact ⟨hi,(Option.some.inj h).symm⟩
  · rw [List.getElem?_eq_none (by simpa using hi)] at h
    cases h
theorem downTo_len (a:Int) (n:Nat) : (downTo a n).length = n:=by unfold downTo; simp
theorem itd_its {K:PySem.W.Frag} {G:Hp} {a:Int} {n:Nat} : ItD K G (Its a (-1) n) (downTo a n) where
  go:=fun i d H G' e s1 s2=>(downTo_get e).1
  yld:=fun i d H G' x H' e s1 s2 ⟨eH,y⟩=>by
    obtain ⟨h1,rfl⟩:=downTo_get e
    subst eH
    subst y
    exact ⟨G',Wd.refl s2,.int _⟩
  stop:=fun i H G' hi s1 s2=>by rw [downTo_len] at hi; rw [hi]; exact Nat.le_refl n
noncomputable def diRevr1 (t:DTA) : DTA:=fun ρ P=>t ρ fun ds=>match ds with
  | [.int j]=>(0 ≤ j∧j < 2 ^ 62)∧P (downTo (j - 1) j.toNat)
  | _=>False
end
end DL
namespace DL
open PySem L2
noncomputable def spLaw (K:PySem.W.Frag) : Sp:=fun vs H Q _=>∃ (a:Addr) (ns:List Int),vs = [.ref a]∧SqL K H a (ns.map V.int)∧ns.length ≤ 63∧∀ H',Q (.bl true) H'
noncomputable def r_law:DR:=fun ds P=>∃ ns:List Int,ds = [.scr ns]∧ns.length ≤ 63∧P (.p (.bl true))
theorem putN_mono {P P':DEnv→Prop} (i:∀ ρ,P ρ→P' ρ) : ∀ {is:List Nat} {ds:List D} {ρ:DEnv},putN is ds ρ P→putN is ds ρ P'
  | [],[],ρ,h=>i ρ h
  | _ :: is,_ :: ds,_,h=>putN_mono i (is:=is) (ds:=ds) h
  | [],_ :: _,_,h=>h.elim
  | _ :: _,[],_,h=>h.elim
theorem tgd_mono {g:Tg} {d:D} {ρ:DEnv} {P P':DEnv→Prop} (h:g.d d ρ P) (i:∀ ρ,P ρ→P' ρ) : g.d d ρ P':=by
  cases g with
  | n j=>exact i _ h
  | t is =>
    cases d with
    | tup ds=>exact putN_mono i h
    | non=>exact h
    | bl _=>exact h
    | int _=>exact h
    | str _=>exact h
    | lst ds=>exact putN_mono i h
    | scr _=>exact h
    | dct _=>exact h
theorem paired_fun {α β:Type} {f:α→β} : ∀ {xs:List α} {os:List β},Paired (fun x o=>o = f x) xs os→os = xs.map f
  | _,_,.nil=>rfl
  | _,_,.cons h t=>by rw [h,paired_fun t]; rfl
theorem filterMap_id {α β:Type} (f:α→Option β) : ∀ xs:List α,(xs.map f).filterMap id = xs.filterMap f
  | []=>rfl
  | x :: xs=>by
    rw [List.map_cons,List.filterMap_cons,List.filterMap_cons,filterMap_id f xs]
    rfl
theorem filterMap_some {α β:Type} (f:α→β) : ∀ xs:List α,xs.filterMap (fun x=>some (f x)) = xs.map f
  | []=>rfl
  | x :: xs=>by rw [List.filterMap_cons,filterMap_some f xs]; rfl
theorem lc_fun {xs:List D} {g:Tg} {tc:DTT} {te:DT} {ρ:DEnv} {Q:B→Prop} (f:D→Option D) (hz:xs.length ≤ 1000000) (h:∀ x ∈ xs,g.d x ρ fun ρ'=>tc ρ' fun c=>(c = true→te ρ' fun b=>some b.val = f x)∧(c = false→none = f x)) (q:Q (.o (.lst (xs.filterMap f)))) :
    lcI xs g tc te ρ Q:=by
  refine ⟨by have:sizeLine = 16777216:=sizeLine_eq; lia,fun x o=>o = f x,h,fun os ho=>?_⟩
  rw [paired_fun ho,filterMap_id]
  exact q
theorem lc_map {xs:List D} {g:Tg} {te:DT} {ρ:DEnv} {Q:B→Prop} (f:D→D) (hz:xs.length ≤ 1000000) (h:∀ x ∈ xs,g.d x ρ fun ρ'=>te ρ' fun b=>some b.val = some (f x)) (q:Q (.o (.lst (xs.map f)))) :
    lcI xs g dTrue te ρ Q:=
  lc_fun (fun x=>some (f x)) hz (fun x hx=>tgd_mono (h x hx) fun ρ' z=>⟨fun _=>z,fun e=>nomatch e⟩) (by rw [filterMap_some]; exact q)
theorem for_nat {g:Tg} {tb:DTS} {E:DEnds} {xs:List D} {ρ:DEnv} (I:Nat→DEnv→Prop) (h0:I 0 ρ) (hs:∀ i x ρ,xs[i]? = some x→I i ρ→g.d x ρ fun ρ'=>tb { E with nx:=I (i + 1),ct:=I (i + 1),bk:=E.nx } ρ') (hd:∀ ρ,I xs.length ρ→E.nx ρ) : forI g tb E xs ρ:=⟨I,h0,hs,hd⟩
theorem enumFrom_range (n:Nat) (f:Nat→D) : enumFrom 0 ((List.range n).map f) = (List.range n).map fun i=>D.tup [.int (i:Nat),f i]:=by
  refine List.ext_getElem? fun i=>?_
  have hl:(enumFrom 0 ((List.range n).map f)).length = n:=by rw [enumFrom_len]; simp
  by_cases h:i < n
  · have e := List.getElem?_eq_getElem (show i < (enumFrom 0 ((List.range n).map f)).length by lia)
    obtain ⟨y,h1,h2⟩:=enumFrom_get e
    rw [List.getElem?_map,List.getElem?_range h] at h1
    cases h1
    rw [e,h2,List.getElem?_map,List.getElem?_range h,Nat.zero_add]
    rfl
  · rw [List.getElem?_eq_none (by lia),List.getElem?_eq_none (by simpa using h)]
theorem dSum_mk {ns:List Int} {P:B→Prop} (h:P (.p (.int ns.sum))) : dSum [.lst (ns.map D.int)] P:=⟨ns,rfl,h⟩
theorem mem_upFrom {lo:Int} {n:Nat} {x:D} (h:x ∈ upFrom lo n) : ∃ i:Nat,i < n∧x = .int (lo + (i:Nat)):=by
  unfold upFrom at h
  obtain ⟨i,hi,e⟩:=List.mem_map.mp h
  exact ⟨i,List.mem_range.mp hi,e.symm⟩
end DL
namespace L2
open PySem PySem.Spec PyProof.Rows
section
variable {prog:Program} {w:World} {A:Around} {E:Value→Shared→Prop} {s:Shared}
theorem iadd_rng {R:Result→Shared→Prop} {r S:Addr} {lo hi:Int} {t u v:Tok} {n:Nat} (hh:A.handled = none) (hr:IsRange s.heap r lo hi 1 t u v)
    (hsm:Builtin.Range.small lo hi 1 = true) (hn:Builtin.Range.rangeSize lo hi 1 = n) (hle:n ≤ 2 ^ 24) (hS:s.heap.get? S = some { cls:=.type "list",data:=.seq #[] 0 })
    (h:∀ h' tk acc c,(∀ b o,b ≠ S→s.heap.get? b = some o→h'.get? b = some o)→h'.get? S = some { cls:=.type "list",dict:=none,data:=.seq acc c,slots:=#[] }→ItemsOf (fun i v=>∃ t,v = .int (lo + i * 1) t) acc n→R (.ok (.ret (.ref S))) { s with heap:=h',toks:=tk }) :
    codeAny (model prog w) A (.builtin "list.__iadd__" ⟨[.ref S,.ref r],[]⟩) R s:=by
  refine codeAny_builtin entry_list_iadd' ?_
  rw [Around.under_plainId PySem.F.plain_list_iadd _]
  exact wpAny_extend_range hh hr hsm hn hle S (.ref S) 0 hS h
theorem collect_rng {r:Addr} {lo hi:Int} {t u v:Tok} {n:Nat} {Q:List Value→Shared→Prop} (hh:A.handled = none) (hr:IsRange s.heap r lo hi 1 t u v)
    (hsm:Builtin.Range.small lo hi 1 = true) (hn:Builtin.Range.rangeSize lo hi 1 = n) (hle:n ≤ 2 ^ 24)
    (h:∀ h' tk acc,(∀ b o,s.heap.get? b = some o→h'.get? b = some o)→s.heap.objs.size ≤ h'.objs.size→ItemsOf (fun i v=>∃ t,v = .int (lo + i * 1) t) acc n→Q acc.toList { s with heap:=h',toks:=tk }) :
    wpAny (model prog w) A (collect (.ref r)) Q E s:=by
  unfold collect
  refine wpAny_bind (wpAny_runValue (codeAny_builtin entry_proto_collect' ?_))
  show wpAny _ _ (newList [] >>= fun l=>again (.builtin "list.__iadd__" ⟨[l,.ref r],[]⟩)) _ _ s
  have hg0:(s.heap.push (seqObj "list" #[] 0)).get? s.heap.objs.size = some { cls:=.type "list",data:=.seq #[] 0 }:=Heap.get?_push_size _ rfl
  have hr0:IsRange (s.heap.push (seqObj "list" #[] 0)) r lo hi 1 t u v:=Heap.get?_push_of_some _ hr
  refine wpAny_bind (wpAny_newList (wpAny_pure ⟨Code.quiet_builtin _ (by decide +kernel),iadd_rng (s:={ s with heap:=s.heap.push (seqObj "list" #[] 0) }) hh hr0 hsm hn hle hg0 fun h' tk acc c hk hS hacc=>?_⟩))
  refine wpAny_bind (wpAny_load hS ?_)
  have hlt:=Heap.lt_size hS
  exact wpAny_pure (h h' tk acc (fun b o e=>hk b o (Nat.ne_of_lt (Heap.lt_size e)) (Heap.get?_push_of_some _ e)) (Nat.le_of_lt hlt) hacc)
variable {h₀:Heap} {L:Addr} {m:Str→Option Value} {news:List (Addr × Obj)} {b:Bool}
theorem sorted_rng {r:Addr} {lo hi:Int} {t u v:Tok} {n:Nat} {Q:Value→Shared→Prop} {kz:List Int} {f:Value} {kw:List (Str × Value)} (F:Fr h₀ L s.heap m) (N:News h₀ L s.heap news)
    (hh:A.handled = none) (hr:IsRange s.heap r lo hi 1 t u v) (hsm:Builtin.Range.small lo hi 1 = true) (hn:Builtin.Range.rangeSize lo hi 1 = n) (hlen:kz.length = n) (h64:n < 64)
    (ok1:argsOk "sorted" ⟨[.ref r],kw⟩) (ok2:∀ x,argsOk "list.sort" ⟨[.ref x],kw⟩) (tr:∀ x,Builtin.«list.sort» ⟨[.ref x],kw⟩ = ksk_tree x f b)
    (turn:∀ (i:Nat) (tt:Tok) (k:Int),kz[i]? = some k→∀ (h:Heap) (tk:Nat) (own:List (Addr × Obj)),Fr h₀ L h m→News h₀ L h (news ++ own) →
      wpAny (model prog w) A.in1.in1 (call f [.int (lo + (i:Int) * 1) tt]) (KskEnd h₀ L m (news ++ own) k { s with heap:=h,toks:=tk }) (fun _ _=>False) { s with heap:=h,toks:=tk })
    (h:∀ D h' tk out c vs,Fr h₀ L h' m→News h₀ L h' ((D,seqObj "list" out c) :: news)→s.heap.objs.size ≤ D→ItemsOf (fun i v=>∃ t,v = .int (lo + i * 1) t) vs n→KskOut b kz vs.toList out.toList→Q (.ref D) { s with heap:=h',toks:=tk }) :
    wpAny (model prog w) A (call (.builtin "sorted") [.ref r] kw) Q E s:=by
  refine call_function_entry_kw kind_sorted plain_sorted entry_sorted ok1 ?_
  unfold Builtin.«sorted»
  refine wpAny_bind (m:=checkCount "sorted" 1 1 _) (wpAny_pure ?_)
  refine wpAny_bind (collect_rng (A:=A.in1) hh hr hsm hn (by lia) fun g tk acc keep hge hit=>?_)
  have hsz:=hit.1
  have hll:acc.toList.length = n:=by rw [Array.length_toList]; exact hsz
  refine wpAny_bind (wpAny_newList ?_ (by rw [Array.length_toList,sizeLine_eq]; lia))
  have keep2:∀ b o,s.heap.get? b = some o→(g.push (seqObj "list" acc.toList.toArray 0)).get? b = some o:=fun b o q=>Heap.get?_push_of_some _ (keep b o q)
  have hD:(g.push (seqObj "list" acc.toList.toArray 0)).get? g.objs.size = some (seqObj "list" acc.toList.toArray 0):=Heap.get?_push_size _ rfl
  have hLg:L < g.objs.size:=Nat.lt_of_lt_of_le F.ns.lt hge
  refine wpAny_bind (wpAny_holding (wpAny_call_entry_kw slot_list_sort ⟨_,hD,rfl⟩ entry_list_sort ?body (ok2 _)))
  case body =>
    show wpAny (model prog w) A.in1.in1 (Builtin.«list.sort» ⟨[.ref g.objs.size],kw⟩) _ _ _
    rw [tr g.objs.size]
    refine ksk_sort (kz:=kz) (vs:=acc.toList) (s:={ s with heap:=g.push (seqObj "list" acc.toList.toArray 0),toks:=tk }) (F.kept keep2) (N.grown keep2) hD (Nat.ne_of_gt hLg)
      (Heap.get?_none_of_le (Nat.le_trans F.above (Nat.le_of_lt hLg))) (fun p hp=>Nat.ne_of_lt (Nat.lt_of_lt_of_le (Heap.lt_size (N p hp).1) hge))
      (by lia) (by lia) (fun i x k hx hk h2 tk2 own F2 N2=>?_) fun h2 tk2 out c F2 N2 ko=>⟨_,rfl,?_⟩
    · have hx':acc[i]? = some x:=by
        have e:acc[i]? = acc.toList[i]?:=by simp
        rw [e]; exact hx
      obtain ⟨tt,et⟩:=hit.2 i x hx'
      rw [et]
      exact turn i tt k hk h2 tk2 own F2 N2
    · exact wpAny_pure ⟨_,rfl,h _ h2 tk2 out c acc F2 N2 hge hit ko⟩
end
end L2
namespace L2
open PySem PySem.Spec PyProof.Rows PySem.W
noncomputable def TabAt (H:Hp) (P:Addr) (q:Str) : Prop:=∃ qs t,H P = some (.tbl qs)∧qs[0]? = some (.str q t)
theorem TabAt.un {fs ex:List Addr} {H H':Hp} {h h':Heap} {P:Addr} {q:Str} (u:Un fs ex H H' h h') (x:TabAt H P q) : TabAt H' P q:=by
  obtain ⟨qs,t,e,e2⟩:=x
  obtain ⟨more,e3⟩:=u.tbls P qs e
  refine ⟨_,t,e3,?_⟩
  have hl:0 < qs.size:=by
    rcases Nat.eq_zero_or_pos qs.size with z | z
    · rw [Array.getElem?_eq_none (by lia)] at e2; cases e2
    · exact z
  rw [Array.getElem?_append_left hl]
  exact e2
theorem triples_app:∀ {l:List Value} {a b:Int} {t u:Tok} {c:Value},TriplesOk l→TriplesOk (l ++ [.int a t,.int b u,c])
  | [],_,_,_,_,_,_=>trivial
  | .int _ _ :: .int _ _ :: _ :: rest,_,_,_,_,_,h=>triples_app (l:=rest) h
theorem among_app {p:Pos} {a b:Int} {t u:Tok} {c cv:Value} : ∀ {l:List Value},TriplesOk l→codeAmong p (l ++ [.int a t,.int b u,c]) = some cv→codeAmong p l = some cv ∨ cv = c
  | [],_,h=>by
    simp only [List.nil_append,codeAmong] at h
    split at h
    · exact .inr (Option.some.inj h).symm
    · cases h
  | .int x _ :: .int y _ :: d :: rest,ht,h=>by
    simp only [List.cons_append,codeAmong] at h ⊢
    split at h
    · rename_i hc; rw [if_pos hc]; exact .inl h
    · rename_i hc; rw [if_neg hc]; exact among_app (l:=rest) ht h
noncomputable def BltAt (mg:Str→Option Value) (h:Heap) : Prop:=∃ bm ob,mg "__builtins__" = some (.ref bm)∧bm ≠ builtinsNs∧h.get? bm = some ob∧ob.cls = .type "module"∧ob.dict = some builtinsNs∧ob.data = .plain
section
variable {X:Cx} {pins:List (Addr × Obj)} {σ:St} {H:Hp} {s:Shared} {P c:Addr} {E:Value→Shared→Prop} {Q:Value→Shared→Prop}
theorem lam_eval {params:Arguments} {body:Expr} {scope:Scope} {pos:Pos} {clos:List (Str × Addr)} (I:Inv X pins σ H s) (hcode:X.env.code = .ref c) (C:CodeHd X.base c P) (B:BltAt X.mg X.base)
    (hT:TabAt X.H₀ P (X.env.qual ++ "<lambda>")) (hcl:closureFor scope X.env = pure clos) (hdef:defaultsOf params X.env = ([],[]))
    (h:∀ f c' ctv pm h' tk H',Inv X pins σ H' { s with heap:=h',toks:=tk }→(H' = H ∨ (H c' = none∧H' = upd H c' (.own P)))→h'.get? f = some (kla_obj "<lambda>" (X.env.qual ++ "<lambda>") params body scope clos pm c' ctv)→H' f = none→s.heap.objs.size ≤ f →
      h'.CodeRec (.ref c') (X.env.qual ++ "<lambda>")→Q (.ref f) { s with heap:=h',toks:=tk }) :
    wpAny (model X.prog X.w) X.A (eval (.Lambda params body scope pos) X.env) Q E s:=by
  obtain ⟨qs,t,hP,hq0⟩:=hT.un I.base
  obtain ⟨tb,htb,htr,hcs⟩:=I.hok P _ hP
  have hg:=I.mod.glob.keeps I.bk
  have hgP:mainGlobals ≠ P:=fun z=>by
    obtain ⟨o,es,ep,e,hd,_⟩:=hg
    rw [z,htb] at e; cases e; cases hd
  obtain ⟨bm,ob,b1,b2,b3,b4,b5,b6⟩:=B
  have b3':=I.bk _ _ b3
  have hbP:bm ≠ P:=fun z=>by rw [z,htb] at b3'; cases b3'; cases b4
  have hbG:bm ≠ mainGlobals:=fun z=>by
    obtain ⟨o,es,ep,e,hd,_⟩:=hg
    rw [z,e] at b3'; cases b3'; rw [hd] at b6; cases b6
  have hB:s.heap.BuiltinsAt X.mg P:=⟨bm,ob,b1,b2,hbG,hbP,b3',b4,b5,b6⟩
  refine kla_eval hdef ?_
  cases hf:codeAmong pos tb.toList with
  | none =>
    refine kla_makeFunction hcl I.ok.glob hg hcode (C.keeps I.bk) htb htr hf hgP hB fun c' ctv h' tk hx hge hlt hrec htb'=>?_
    have hn:H c' = none:=I.hok.fresh hge
    have hPc:P ≠ c':=ne_of_none hP hn
    have keep:∀ b o,b ≠ P→s.heap.get? b = some o→(h'.push (kla_obj "<lambda>" (X.env.qual ++ "<lambda>") params body scope clos ((X.mg "__name__").getD .none) c' ctv)).get? b = some o:=fun b o hb e=>Heap.get?_push_of_some _ (hx b o hb e)
    have neP:∀ b,H b = none→b ≠ P:=fun b e z=>by rw [z,hP] at e; cases e
    have hrec':=hrec.push (kla_obj "<lambda>" (X.env.qual ++ "<lambda>") params body scope clos ((X.mg "__name__").getD .none) c' ctv)
    have htb2:=Heap.get?_push_of_some (kla_obj "<lambda>" (X.env.qual ++ "<lambda>") params body scope clos ((X.mg "__name__").getD .none) c' ctv) htb'
    have hown:upd H c' (.own P) P = some (.tbl qs):=by rw [upd_ne hPc]; exact hP
    have nc:∀ b u,H b = some u→upd H c' (.own P) b = some u:=fun b u e=>by rw [upd_ne (ne_of_none e hn)]; exact e
    have hok:HOk X.prog X.w (upd H c' (.own P)) (h'.push (kla_obj "<lambda>" (X.env.qual ++ "<lambda>") params body scope clos ((X.mg "__name__").getD .none) c' ctv)):=fun b u e=>by
      by_cases hb:b = c'
      · subst hb
        rw [upd_same] at e; cases e
        obtain ⟨c2,o2,vs2,t2,e2,g2,_⟩:=hrec'
        cases e2
        exact ⟨_,g2⟩
      · rw [upd_ne hb] at e
        by_cases hbP':b = P
        · subst hbP'
          rw [hP] at e; cases e
          have el:(tb ++ #[rawInt pos.line,rawInt pos.col,Value.ref c']).toList = tb.toList ++ [rawInt pos.line,rawInt pos.col,Value.ref c']:=by simp
          refine ⟨_,htb2,by rw [el]; exact triples_app htr,fun p cv z=>?_⟩
          rw [el] at z
          rcases among_app htr z with z | z
          · obtain ⟨d,q,u,r1,r2,r3,r4⟩:=hcs p cv z
            refine ⟨d,q,u,r1,r2,nc _ _ r3,?_⟩
            obtain ⟨d2,o2,vs2,t2,e2,g2,r5⟩:=r4
            cases e2
            exact ⟨d,o2,vs2,t2,rfl,keep _ _ (ne_of r3 hP (by intro z; cases z)) g2,r5⟩
          · exact ⟨c',_,t,z,hq0,upd_same,hrec'⟩
        · refine (I.hok b u e).stay (fun d v hd g=>keep d v ?_ g) (fun d q=>nc _ _ q) fun d xs q=>nc _ _ q
          rcases hd with rfl | hd
          · exact hbP'
          · exact ne_of hd hP (by intro z; cases z)
    have hfn:H h'.objs.size = none:=I.hok.fresh (Nat.le_trans hge (Nat.le_of_lt hlt))
    refine h h'.objs.size c' ctv _ _ tk (upd H c' (.own P)) (I.un (t':=tk) ⟨fun b o e n _ _=>keep b o (neP b n) e,fun b o e n _ _=>⟨o.slots,keep b o (neP b n) e⟩,fun b o e n _=>?_,fun b o e _=>?_,fun b xs e=>nc _ _ e,fun b o u e=>nc _ _ e,fun b ps e=>⟨#[],by rw [nc _ _ e]; simp⟩⟩ hok) (.inr ⟨hn,rfl⟩)
      (Heap.get?_push_size _ rfl) ?_ (Nat.le_trans hge (Nat.le_of_lt hlt)) hrec'
    · rw [upd_ne (Nat.ne_of_lt (Nat.lt_of_lt_of_le (Heap.lt_size e) hge))]; exact n
    · by_cases hb:b = P
      · subst hb; exact ⟨_,htb2⟩
      · exact ⟨_,keep b o hb e⟩
    · rw [upd_ne (Nat.ne_of_gt hlt)]; exact hfn
  | some cv =>
    obtain ⟨c',q,u,rfl,r2,r3,r4⟩:=hcs pos cv hf
    rw [hq0] at r2
    cases r2
    refine kla_makeFunctionHit hcl I.ok.glob hg hcode (C.keeps I.bk) htb htr hf hB fun ctv h' tk hk hsz=>?_
    have keep:∀ b o,s.heap.get? b = some o→(h'.push (kla_obj "<lambda>" (X.env.qual ++ "<lambda>") params body scope clos ((X.mg "__name__").getD .none) c' ctv)).get? b = some o:=fun b o e=>Heap.get?_push_of_some _ (hk b o e)
    exact h h'.objs.size c' ctv _ _ tk H (I.kept keep) (.inl rfl) (Heap.get?_push_size _ rfl) (I.hok.fresh hsz) hsz (r4.keeps keep)
end
end L2
namespace L2
open PySem PySem.Spec PyProof.Rows PySem.W
section
variable {X:Cx} {pins:List (Addr × Obj)} {σ:St} {H:Hp} {s:Shared} {A:Around} {E:Value→Shared→Prop} {Q:Value→Shared→Prop}
theorem lam_call {f c' cc la ta:Addr} {nm q x y:Str} {params:Arguments} {scope:Scope} {pm ctv:Value} {xs ys:List V} {i:Nat} {j k:Int} {tt:Tok} {kk:Nat} {p1 p2 p3 p4 p5:Pos}
    (I:Inv X pins σ H s) (ho:s.heap.get? f = some (kla_obj nm q params (.Subscript (.Subscript (.Name y p1) (.Name x p2) p3) (.Constant (.int j) kk p4) p5) scope [(y,cc)] pm c' ctv)) (hcd:s.heap.CodeRec (.ref c') q)
    (hcc:s.heap.IsCell cc (some (.ref la))) (hs:SqL X.K H la xs) (hx:xs[i]? = some (.ref ta)) (ht:SqT X.K H ta ys) (hy:atI ys j = some (.int k))
    (hbind:∀ v,bindArgs (kla_fn nm q params (.Subscript (.Subscript (.Name y p1) (.Name x p2) p3) (.Constant (.int j) kk p4) p5) scope [(y,cc)] pm (.ref c') ctv) ⟨[v],[]⟩ = pure [(x,v)])
    (hk:scope.kind = .function) (hco:scope.isCoroutine = false) (hgen:scope.isGenerator = false) (hcell:∀ z ∈ scope.names,z.2 ≠ .cell) (hlx:scope.names.lookup x = some .local) (hly:scope.names.lookup y = some .free)
    (hdx:(x == ("__debug__" : Str)) = false) (hdy:(y == ("__debug__" : Str)) = false) (hcy:(y == ("__classdict__" : Str)) = false) (room:A.depth < recursionLimit)
    (h:∀ h' tk t',(∀ b o,s.heap.get? b = some o→h'.get? b = some o)→Q (.int k t') { s with heap:=h',toks:=tk }) :
    wpAny (model X.prog X.w) A (call (.ref f) [.int (i:Int) tt]) Q E s:=by
  obtain ⟨its,r,pl,hz⟩:=I.list hs
  obtain ⟨us,r',pt,hz'⟩:=I.tuple ht
  obtain ⟨w,ew,rw'⟩:=r.get hx
  cases rw'
  obtain ⟨j',g1,g2,g3,g4,g5⟩:=atI_get hy
  obtain ⟨w2,ew2,rw2⟩:=r'.get g2
  obtain ⟨t2,rfl⟩:=rw2
  have hl':=r'.length
  have hn:=line63
  have hi:i < xs.length:=(List.getElem?_eq_some_iff.mp hx).1
  refine wpAny_call (kla_callFunE room ho rfl hco hgen rfl hcd ?_)
  rw [hbind]
  refine wpAny_pure (wpAny_newFunctionEnv hcell (fun z hz=>by cases List.mem_singleton.mp hz; exact hlx) (fun h₁ hns hsb=>⟨I.nolimit.fresh _ hsb,?_⟩) hk)
  have keep:∀ b o,s.heap.get? b = some o→h₁.get? b = some o:=fun b o e=>hsb.extBut b o (Nat.ne_of_lt (Heap.lt_size e)) (Heap.get?_push_of_some _ e)
  refine kla_codeExpr ?_
  have hc1:h₁.IsCell cc (some (.ref la)):=by obtain ⟨o,e,d⟩:=hcc; exact ⟨o,keep _ _ e,d⟩
  refine Subscript_ (Subscript_ (wpAny_Name (wpAny_loadName_free (c:=cc) (v:=.ref la) hk hly (by simp [newEnv,List.lookup]) hc1 ?_ hcy) hdy))
  refine wpAny_Name (wpAny_loadName_local (v:=.int (i:Int) tt) hk hlx hns (by simp [List.lookup]) ?_) hdx
  have pl1:h₁.IsList la its.toArray:=by
    obtain ⟨o,e,d⟩:=pl.isList
    exact ⟨o,keep _ _ e,d⟩
  refine item_listR (x:=.ref ta) pl1 (Int.natCast_nonneg i) (by lia) (by simpa using ew) ?_ (by with_unfolding_all rfl)
  refine wpAny_Constant_int ?_
  have pt1:IsTup h₁ ta us.toArray:=by
    obtain ⟨o,e,d⟩:=pt
    exact ⟨o,keep _ _ e,d⟩
  refine subscriptTail_builtinR (x:=.int k t2) pt1.typeIs slot_tuple_getitem.lookup
    (getItem_tuple (j:=j') pt1 (by lia) (by lia) (by rw [List.size_toArray,← hl']; exact g1) (by simpa using ew2) ⟨rfl,?_⟩) (by with_unfolding_all rfl)
  exact h _ _ _ keep
end
end L2
namespace L2
open PySem PySem.Spec PyProof.Rows PySem.W
noncomputable def KeyOrd (ks:List Int) (ms:List Int) : Prop:=ms.Pairwise fun a b=>ks.getD a.toNat 0 ≤ ks.getD b.toNat 0
theorem ints_of_perm:∀ {out:List Value} {ns:List Int},(∀ v ∈ out,∃ n t,v = Value.int n t)→ns = out.map numOf→IntsAre out ns:=by
  intro out ns h e
  subst e
  exact intsAre_map _ fun v hv=>by obtain ⟨n,t,rfl⟩:=h v hv; exact ⟨n,t,rfl⟩
theorem out_of {ks:List Int} {n:Nat} {vs:List Value} {out:List Value} (hl:ks.length = n) (hv:∀ (m:Nat) (h:m < n),∃ t,vs[m]? = some (Value.int (m:Int) t)) (hvl:vs.length = n) (ko:KskOut false ks vs out) :
    ∃ ms:List Int,IntsAre out ms∧ms.Perm ((List.range n).map Int.ofNat)∧KeyOrd ks ms:=by
  obtain ⟨ps,hp,rfl,hs⟩:=ko
  have each:∀ p ∈ ks.zip vs,∃ (m:Nat) (t:Tok),m < n∧p.2 = .int (m:Int) t∧ks.getD m 0 = p.1:=by
    intro p hp'
    obtain ⟨m,hm⟩:=List.mem_iff_getElem?.mp hp'
    rw [List.getElem?_zip_eq_some] at hm
    have hm1:m < n:=by have:=(List.getElem?_eq_some_iff.mp hm.1).1; lia
    obtain ⟨t,e⟩:=hv m hm1
    rw [e] at hm
    refine ⟨m,t,hm1,(Option.some.inj hm.2).symm,?_⟩
    rw [List.getD_eq_getElem?_getD,hm.1]
    rfl
  have num:(ks.zip vs).map (fun p=>numOf p.2) = (List.range n).map Int.ofNat:=by
    apply List.ext_getElem?
    intro m
    rw [List.getElem?_map,List.getElem?_map]
    by_cases hm:m < n
    · obtain ⟨t,e⟩:=hv m hm
      rw [List.getElem?_range hm]
      have e1:ks[m]? = some ks[m]:=List.getElem?_eq_getElem (by lia)
      rw [List.getElem?_zip_eq_some (z:=(ks[m],Value.int (m:Int) t)) |>.mpr ⟨e1,e⟩]
      rfl
    · rw [List.getElem?_eq_none (by rw [List.length_zip]; lia), List.getElem?_eq_none (by rw [List.length_range]; lia)]
      rfl
  refine ⟨(ps.map Prod.snd).map numOf,ints_of_perm (fun v hv'=>?_) rfl,?_,?_⟩
  · obtain ⟨p,hp',rfl⟩:=List.mem_map.mp hv'
    obtain ⟨m,t,_,e,_⟩:=each p (hp.mem_iff.mp hp')
    exact ⟨_,t,e⟩
  · rw [List.map_map,← num]
    exact hp.map _
  · unfold KeyOrd
    rw [List.pairwise_map,List.pairwise_map]
    refine hs.imp_of_mem fun {p r} hp' hr' hle=>?_
    obtain ⟨m,t,_,e,g⟩:=each p (hp.mem_iff.mp hp')
    obtain ⟨m',t',_,e',g'⟩:=each r (hp.mem_iff.mp hr')
    rw [e,e']
    have hle':p.1 ≤ r.1:=by simpa using hle
    show ks.getD ((m:Int)).toNat 0 ≤ ks.getD ((m':Int)).toNat 0
    rw [Int.toNat_natCast,Int.toNat_natCast,g,g']
    exact hle'
noncomputable def others (X:Cx) (h:Heap) : List (Addr × Obj):=(List.range h.objs.size).filterMap fun b=>if b = X.env.locals ∨ (X.base.get? b).isSome then none else (h.get? b).map fun o=>(b,o)
theorem others_mem {X:Cx} {h:Heap} {b:Addr} {o:Obj} (e:h.get? b = some o) (hl:b ≠ X.env.locals) (hb:X.base.get? b = none) : (b,o) ∈ others X h:=by
  unfold others
  refine List.mem_filterMap.mpr ⟨b,List.mem_range.mpr (Heap.lt_size e),?_⟩
  rw [if_neg (by rw [hb]; simp [hl]),e]
  rfl
theorem others_is {X:Cx} {h:Heap} {p:Addr × Obj} (hp:p ∈ others X h) : h.get? p.1 = some p.2∧p.1 ≠ X.env.locals∧X.base.get? p.1 = none:=by
  unfold others at hp
  obtain ⟨b,hb,e⟩:=List.mem_filterMap.mp hp
  split at e
  · cases e
  · rename_i hn
    cases q:h.get? b with
    | none=>rw [q] at e; cases e
    | some o =>
      rw [q] at e
      cases e
      refine ⟨q,fun z=>hn (.inl z),?_⟩
      cases q2:X.base.get? b with
      | none=>rfl
      | some u=>exact absurd (.inr (by rw [q2]; rfl)) hn
end L2
namespace WS
theorem lackF_high {g:Int} {hs cs:List S3} (hg:0 ≤ g) (h1:∀ x ∈ hs,HotOk x) (h2:∀ x ∈ cs,ColdOk x) {L:Int} (hL:200 + g ≤ L) : lackF g hs cs L = 0:=by
  unfold lackF
  rw [above_top fun b hb=>?_,above_top fun b hb=>?_]
  · rfl
  · obtain ⟨x,hx,rfl⟩:=List.mem_map.mp hb
    have:=(h1 x hx).hi
    show x.1 ≤ L
    lia
  · obtain ⟨x,hx,rfl⟩:=List.mem_map.mp hb
    have:=(h2 x hx).hi
    show x.2.1 + g ≤ L
    lia
end WS
namespace WS
noncomputable def sfx (xs:List Int) (L:Nat) : Int:=(xs.drop L).sum
theorem sfx_set:∀ (xs:List Int) (j L:Nat) (v x:Int),xs[j]? = some x→sfx (xs.set j v) L = sfx xs L + (if L ≤ j then v - x else 0)
  | [],j,L,v,x,h=>by simp at h
  | a :: xs,0,0,v,x,h=>by
    simp at h
    subst h
    unfold sfx
    simp
    lia
  | a :: xs,0,L + 1,v,x,h=>by
    unfold sfx
    simp
  | a :: xs,j + 1,0,v,x,h=>by
    have ih:=sfx_set xs j 0 v x (by simpa using h)
    unfold sfx at *
    simp only [List.set_cons_succ,List.drop_zero,List.sum_cons] at *
    rw [ih]
    simp
    lia
  | a :: xs,j + 1,L + 1,v,x,h=>by
    have ih:=sfx_set xs j L v x (by simpa using h)
    unfold sfx at *
    simp only [List.set_cons_succ,List.drop_succ_cons] at *
    rw [ih]
    congr 1
    by_cases c:L ≤ j
    · rw [if_pos c,if_pos (by lia)]
    · rw [if_neg c,if_neg (by lia)]
theorem sfx_zero (xs:List Int) : sfx xs 0 = xs.sum:=rfl
structure Drawn (g:Int) (hs cs:List S3) (gv wt:List Int) : Prop where
  lg:gv.length = 251
  lw:wt.length = 251
  ng:∀ x ∈ gv,0 ≤ x
  nw:∀ x ∈ wt,0 ≤ x
  lack:∀ L:Nat,L ≤ 251→lackF g hs cs (L:Nat) ≤ sfx wt L - sfx gv L
  all:sfx wt 0 - sfx gv 0 = lackF g hs cs 0
end WS
namespace WS
noncomputable def drawStep (lots:List S3) (level:Int) (a:List Int × Int) (n:Int) : List Int × Int:=
  if 0 < a.2∧level ≤ (lots.getD n.toNat (0,0,0)).1 then
    (a.1.set n.toNat (a.1.getD n.toNat 0 + min a.2 ((lots.getD n.toNat (0,0,0)).2.2 - a.1.getD n.toNat 0)),a.2 - min a.2 ((lots.getD n.toNat (0,0,0)).2.2 - a.1.getD n.toNat 0))
  else a
noncomputable def drawLevel (lots:List S3) (S ord:List Int) (d:List Int) (k:Nat) : List Int:=(ord.foldl (drawStep lots (249 - k)) (d,-(S.getD (249 - k) 0) - d.sum)).1
noncomputable def drawnF (lots:List S3) (S ord:List Int) : List Int:=(List.range 250).foldl (drawLevel lots S ord) (lots.map fun _=>0)
theorem drawStep_len (lots:List S3) (level:Int) (a:List Int × Int) (n:Int) : (drawStep lots level a n).1.length = a.1.length:=by
  unfold drawStep; split
  · rw [List.length_set]
  · rfl
theorem drawFold_len (lots:List S3) (level:Int) : ∀ (ord:List Int) (a:List Int × Int),(ord.foldl (drawStep lots level) a).1.length = a.1.length
  | [],_=>rfl
  | n :: ord,a=>by rw [List.foldl_cons,drawFold_len lots level ord,drawStep_len]
theorem drawLevel_len (lots:List S3) (S ord d:List Int) (k:Nat) : (drawLevel lots S ord d k).length = d.length:=drawFold_len _ _ _ _
theorem levels_len (lots:List S3) (S ord:List Int) : ∀ (ks:List Nat) (d:List Int),(ks.foldl (drawLevel lots S ord) d).length = d.length
  | [],_=>rfl
  | k :: ks,d=>by rw [List.foldl_cons,levels_len lots S ord ks,drawLevel_len]
theorem foldl_range_succ {α:Type} (f:α→Nat→α) (a:α) (n:Nat) : (List.range (n + 1)).foldl f a = f ((List.range n).foldl f a) n:=by
  rw [List.range_succ,List.foldl_append]; rfl
theorem getD_set (d:List Int) (i j:Nat) (v:Int) (h:i < d.length) : (d.set i v).getD j 0 = if j = i then v else d.getD j 0:=by
  rw [List.getD_eq_getElem?_getD,List.getElem?_set,List.getD_eq_getElem?_getD]
  by_cases z:j = i
  · subst z; rw [if_pos rfl,if_pos h,if_pos rfl]; rfl
  · rw [if_neg (Ne.symm z),if_neg z]
theorem sum_set (d:List Int) (i:Nat) (v:Int) (h:i < d.length) : (d.set i v).sum = d.sum + (v - d.getD i 0):=by
  have e:d[i]? = some (d.getD i 0):=by rw [List.getD_eq_getElem?_getD,List.getElem?_eq_getElem h]; rfl
  have:=sfx_set d i 0 v (d.getD i 0) e
  rw [if_pos (Nat.zero_le _),sfx_zero,sfx_zero] at this
  exact this
noncomputable abbrev lv (lots:List S3) (n:Nat) : Int:=(lots.getD n (0,0,0)).1
noncomputable abbrev pr (lots:List S3) (n:Nat) : Int:=(lots.getD n (0,0,0)).2.1
noncomputable abbrev ms (lots:List S3) (n:Nat) : Int:=(lots.getD n (0,0,0)).2.2
structure Turned (lots:List S3) (L:Int) (ord:List Nat) (d:List Int) (need:Int) (e:List Int) (rest:Int) : Prop where
  len:e.length = d.length
  up:∀ n,n < lots.length→d.getD n 0 ≤ e.getD n 0∧e.getD n 0 ≤ ms lots n
  at':∀ n,d.getD n 0 < e.getD n 0→L ≤ lv lots n
  sum:e.sum = d.sum + (need - rest)
  low:0 ≤ need→0 ≤ rest
  stay:need ≤ 0→e = d∧rest = need
  full:0 < rest→∀ n ∈ ord,L ≤ lv lots n→e.getD n 0 = ms lots n
  out:∀ n,n ∉ ord→e.getD n 0 = d.getD n 0
  cheap:∀ n ∈ ord,∀ m ∈ ord,d.getD m 0 < e.getD m 0→pr lots n < pr lots m→L ≤ lv lots n→e.getD n 0 = ms lots n
theorem turned (lots:List S3) (L:Int) : ∀ (ord:List Nat) (d:List Int) (need:Int),d.length = lots.length→(∀ n,n < lots.length→d.getD n 0 ≤ ms lots n)→ord.Nodup→(∀ n ∈ ord,n < lots.length)→ord.Pairwise (fun a b=>pr lots a ≤ pr lots b) →
    Turned lots L ord d need ((ord.map Int.ofNat).foldl (drawStep lots L) (d,need)).1 ((ord.map Int.ofNat).foldl (drawStep lots L) (d,need)).2
  | [],d,need,hl,hm,_,_,_=>⟨rfl,fun n hn=>⟨Int.le_refl _,hm n hn⟩,fun n h=>absurd h (Int.lt_irrefl _),by show d.sum = d.sum + (need - need); lia,fun h=>h,fun _=>⟨rfl,rfl⟩,(fun _ n hn=>nomatch hn),fun _ _=>rfl,(fun n hn=>nomatch hn)⟩
  | k :: ord,d,need,hl,hm,nd,hr,pw=>by
    have hk:k < lots.length:=hr k (List.mem_cons_self ..)
    have nd':=List.nodup_cons.mp nd
    have pw':=List.pairwise_cons.mp pw
    rw [List.map_cons,List.foldl_cons]
    have ek:(Int.ofNat k).toNat = k:=rfl
    by_cases hc:0 < need∧L ≤ lv lots k
    · have es:drawStep lots L (d,need) (Int.ofNat k) = (d.set k (d.getD k 0 + min need (ms lots k - d.getD k 0)),need - min need (ms lots k - d.getD k 0)):=by
        unfold drawStep; rw [ek,if_pos hc]
      rw [es]
      have hdk:=hm k hk
      have hkl:k < d.length:=by lia
      generalize hh:min need (ms lots k - d.getD k 0) = h
      have h0:0 ≤ h:=by lia
      have h1:h ≤ need:=by lia
      have h2:d.getD k 0 + h ≤ ms lots k:=by lia
      have h3:need - h ≠ 0→d.getD k 0 + h = ms lots k:=by lia
      have gs:∀ j,(d.set k (d.getD k 0 + h)).getD j 0 = if j = k then d.getD k 0 + h else d.getD j 0:=fun j=>getD_set d k j _ hkl
      have T:=turned lots L ord (d.set k (d.getD k 0 + h)) (need - h) (by rw [List.length_set]; exact hl) (fun n hn=>by
        rw [gs n]; split
        · rename_i z; subst z; exact h2
        · exact hm n hn) nd'.2 (fun n hn=>hr n (List.mem_cons_of_mem _ hn)) pw'.2
      generalize ((ord.map Int.ofNat).foldl (drawStep lots L) (d.set k (d.getD k 0 + h),need - h)).1 = e at T ⊢
      generalize ((ord.map Int.ofNat).foldl (drawStep lots L) (d.set k (d.getD k 0 + h),need - h)).2 = rest at T ⊢
      have ek':e.getD k 0 = d.getD k 0 + h:=by rw [T.out k nd'.1,gs k,if_pos rfl]
      have sat:0 < need - h→e.getD k 0 = ms lots k:=fun z=>by rw [ek']; exact h3 (by lia)
      refine ⟨by rw [T.len,List.length_set],fun n hn=>?_,fun n hn=>?_,?_,fun _=>T.low (by lia),fun z=>by lia,fun z n hn hL=>?_,fun n hn=>?_,fun n hn m hmm hlt hp hL=>?_⟩
      · have:=T.up n hn
        rw [gs n] at this
        split at this
        · rename_i z; subst z; lia
        · exact this
      · by_cases z:n = k
        · subst z; exact hc.2
        · have:=T.at' n
          rw [gs n,if_neg z] at this
          exact this hn
      · rw [T.sum,sum_set d k _ hkl]; lia
      · rcases List.mem_cons.mp hn with y | y
        · subst y
          refine sat ?_
          rcases Int.lt_or_le 0 (need - h) with x | x
          · exact x
          · have:=(T.stay x).2; lia
        · exact T.full z n y hL
      · rw [T.out n fun y=>hn (List.mem_cons_of_mem _ y),gs n,if_neg fun y=>hn (by rw [y]; exact List.mem_cons_self ..)]
      · rcases List.mem_cons.mp hn with y | y
        · subst y
          rcases List.mem_cons.mp hmm with x | x
          · subst x; lia
          · have nk:m ≠ n:=fun q=>nd'.1 (q ▸ x)
            refine sat ?_
            rcases Int.lt_or_le 0 (need - h) with w | w
            · exact w
            · have:=(T.stay w).1
              rw [this,gs m,if_neg nk] at hlt
              lia
        · rcases List.mem_cons.mp hmm with x | x
          · subst x
            have:=pw'.1 n y
            lia
          · have nk:m ≠ k:=fun q=>nd'.1 (q ▸ x)
            refine T.cheap n y m x ?_ hp hL
            rw [gs m,if_neg nk]
            exact hlt
    · have es:drawStep lots L (d,need) (Int.ofNat k) = (d,need):=by
        unfold drawStep; rw [ek,if_neg hc]
      rw [es]
      have T:=turned lots L ord d need hl hm nd'.2 (fun n hn=>hr n (List.mem_cons_of_mem _ hn)) pw'.2
      generalize ((ord.map Int.ofNat).foldl (drawStep lots L) (d,need)).1 = e at T ⊢
      generalize ((ord.map Int.ofNat).foldl (drawStep lots L) (d,need)).2 = rest at T ⊢
      have ek':e.getD k 0 = d.getD k 0:=T.out k nd'.1
      have no:L ≤ lv lots k→need ≤ 0:=fun z=>by
        rcases Int.lt_or_le 0 need with x | x
        · exact absurd ⟨x,z⟩ hc
        · exact x
      refine ⟨T.len,T.up,T.at',T.sum,T.low,T.stay,fun z n hn hL=>?_,fun n hn=>T.out n fun y=>hn (List.mem_cons_of_mem _ y),fun n hn m hmm hlt hp hL=>?_⟩
      · rcases List.mem_cons.mp hn with y | y
        · subst y
          have:=no hL
          have:=(T.stay this).2
          lia
        · exact T.full z n y hL
      · rcases List.mem_cons.mp hmm with x | x
        · subst x; lia
        · rcases List.mem_cons.mp hn with y | y
          · subst y
            have:=no hL
            have:=(T.stay this).1
            rw [this] at hlt
            lia
          · exact T.cheap n y m x hlt hp hL
noncomputable def ab (L:Int) : List S3→List Int→Int
  | x :: xs,d :: ds=>(if L ≤ x.1 then d else 0) + ab L xs ds
  | _,_=>0
theorem ab_le {L:Int} : ∀ {lots:List S3} {d e:List Int},d.length = lots.length→e.length = lots.length→(∀ n,n < lots.length→L ≤ lv lots n→d.getD n 0 ≤ e.getD n 0)→ab L lots d ≤ ab L lots e
  | [],_,_,_,_,_=>by simp [ab]
  | x :: xs,[],_,h,_,_=>by simp at h
  | x :: xs,_ :: _,[],_,h,_=>by simp at h
  | x :: xs,a :: d,b :: e,h1,h2,h=>by
    have ih:=ab_le (L:=L) (lots:=xs) (d:=d) (e:=e) (by simpa using h1) (by simpa using h2) fun n hn hL=>by simpa using h (n + 1) (by simpa using hn) hL
    have h0:=h 0 (by simp)
    simp only [ab]
    split
    · rename_i z
      have:a ≤ b:=by simpa using h0 z
      lia
    · lia
theorem ab_all {L:Int} : ∀ {lots:List S3} {d:List Int},d.length = lots.length→(∀ n,n < lots.length→¬ L ≤ lv lots n→d.getD n 0 = 0)→ab L lots d = d.sum
  | [],[],_,_=>rfl
  | [],_ :: _,h,_=>by simp at h
  | x :: xs,[],h,_=>by simp at h
  | x :: xs,a :: d,h1,h=>by
    have ih:=ab_all (L:=L) (lots:=xs) (d:=d) (by simpa using h1) fun n hn hL=>by simpa using h (n + 1) (by simpa using hn) hL
    have h0:=h 0 (by simp)
    simp only [ab,List.sum_cons]
    split
    · lia
    · rename_i z
      have:a = 0:=by simpa using h0 z
      lia
theorem max_nat {P:Nat→Prop} : ∀ {b:Nat},(∃ t,t ≤ b∧P t)→∃ t,t ≤ b∧P t∧∀ s,s ≤ b→P s→s ≤ t
  | 0,⟨t,h1,h2⟩=>⟨t,h1,h2,fun s hs _=>by lia⟩
  | b + 1,⟨t,h1,h2⟩=>by
    by_cases hb:P (b + 1)
    · exact ⟨b + 1,Nat.le_refl _,hb,fun s hs _=>hs⟩
    · have:t ≤ b:=by
        rcases Nat.lt_or_ge b t with z | z
        · have : t = b + 1 := by lia
          subst this; exact absurd h2 hb
        · exact z
      obtain ⟨u,u1,u2,u3⟩:=max_nat (P:=P) (b:=b) ⟨t,this,h2⟩
      refine ⟨u,by lia,u2,fun s hs hP=>?_⟩
      rcases Nat.lt_or_ge b s with z | z
      · have : s = b + 1 := by lia
        subst this; exact absurd hP hb
      · exact u3 s z hP
noncomputable def mosL (lots:List S3) : List Int:=lots.map fun x=>x.2.2
theorem mosL_get (lots:List S3) (n:Nat) : (mosL lots).getD n 0 = ms lots n:=by
  unfold mosL ms
  rw [List.getD_eq_getElem?_getD,List.getElem?_map,List.getD_eq_getElem?_getD]
  cases lots[n]? <;> rfl
structure DrawHyp (lots:List S3) (S:List Int) : Prop where
  m0:∀ n,n < lots.length→0 ≤ ms lots n
  feas:∀ j:Nat,j ≤ 249→0 ≤ S.getD j 0 + ab (j:Nat) lots (mosL lots)
  cold:∀ j:Nat,j ≤ 249→S.getD 0 0 ≤ S.getD j 0
  s0:S.getD 0 0 ≤ 0
structure LevInv (lots:List S3) (S:List Int) (k:Nat) (d:List Int) : Prop where
  len:d.length = lots.length
  bd:∀ n,n < lots.length→0 ≤ d.getD n 0∧d.getD n 0 ≤ ms lots n
  hi:∀ n,n < lots.length→0 < d.getD n 0→250 - (k:Int) ≤ lv lots n
  ok:∀ j:Nat,250 - k ≤ j→j ≤ 249→0 ≤ S.getD j 0 + ab (j:Nat) lots d
  sum:d.sum ≤ -(S.getD 0 0)
  sep:∀ n m,n < lots.length→m < lots.length→pr lots n < pr lots m→d.getD n 0 < ms lots n→0 < d.getD m 0 →
    ∃ t:Nat,t ≤ 249∧(250 - k ≤ t∧lv lots n < t∧t ≤ lv lots m∧S.getD t 0 + ab (t:Nat) lots d = 0)
theorem zeros_get (lots:List S3) (n:Nat) : (lots.map fun _=>(0:Int)).getD n 0 = 0:=by
  rw [List.getD_eq_getElem?_getD,List.getElem?_map]
  cases lots[n]? <;> rfl
theorem zeros_sum:∀ lots:List S3,(lots.map fun _=>(0:Int)).sum = 0
  | []=>rfl
  | _ :: l=>by rw [List.map_cons,List.sum_cons,zeros_sum l]; rfl
theorem lev_start {lots:List S3} {S:List Int} (H:DrawHyp lots S) : LevInv lots S 0 (lots.map fun _=>0) where
  len:=by rw [List.length_map]
  bd:=fun n hn=>by rw [zeros_get]; exact ⟨Int.le_refl _,H.m0 n hn⟩
  hi:=fun n hn h=>by rw [zeros_get] at h; lia
  ok:=fun j h1 h2=>by lia
  sum:=by rw [zeros_sum]; have:=H.s0; lia
  sep:=fun n m hn hm _ _ h=>by rw [zeros_get] at h; lia
theorem lev_step {lots:List S3} {S:List Int} {o:List Nat} (H:DrawHyp lots S) (nd:o.Nodup) (mem:∀ n,n ∈ o ↔ n < lots.length) (pw:o.Pairwise fun a b=>pr lots a ≤ pr lots b) {k:Nat} (hk:k < 250) {d:List Int} (I:LevInv lots S k d) :
    LevInv lots S (k + 1) (drawLevel lots S (o.map Int.ofNat) d k):=by
  have T:=turned lots (249 - (k:Nat)) o d (-(S.getD (249 - k) 0) - d.sum) I.len (fun n hn=>(I.bd n hn).2) nd (fun n hn=>(mem n).mp hn) pw
  unfold drawLevel
  generalize ((o.map Int.ofNat).foldl (drawStep lots (249 - (k:Nat))) (d,-(S.getD (249 - k) 0) - d.sum)).1 = e at T ⊢
  generalize ((o.map Int.ofNat).foldl (drawStep lots (249 - (k:Nat))) (d,-(S.getD (249 - k) 0) - d.sum)).2 = rest at T
  have hLk:((249 - k:Nat) : Int) = 249 - (k:Nat):=by lia
  have hle:249 - k ≤ 249:=Nat.sub_le ..
  have bd':∀ n,n < lots.length→0 ≤ e.getD n 0∧e.getD n 0 ≤ ms lots n:=fun n hn=>by have:=T.up n hn; have:=I.bd n hn; lia
  have len':e.length = lots.length:=T.len.trans I.len
  have hi':∀ n,n < lots.length→0 < e.getD n 0→250 - ((k + 1:Nat) : Int) ≤ lv lots n:=fun n hn h=>by
    rcases Int.lt_or_le (d.getD n 0) (e.getD n 0) with z | z
    · have:=T.at' n z; lia
    · have:=I.hi n hn (by lia); lia
  have aball:ab ((249 - k:Nat) : Int) lots e = e.sum:=ab_all len' fun n hn hL=>by
    have:=bd' n hn
    rcases Int.lt_or_le 0 (e.getD n 0) with z | z
    · have:=hi' n hn z; lia
    · lia
  have mono:∀ j:Int,ab j lots d ≤ ab j lots e:=fun j=>ab_le I.len len' fun n hn _=>(T.up n hn).1
  have hrest:0 < -(S.getD (249 - k) 0) - d.sum→rest = 0:=fun hn=>by
    have h1:=T.low (by lia)
    rcases Int.lt_or_le 0 rest with z | z
    · have f:=T.full z
      have c1:ab ((249 - k:Nat) : Int) lots (mosL lots) ≤ ab ((249 - k:Nat) : Int) lots e:=ab_le (by unfold mosL; rw [List.length_map]) len' fun n hn hL=>by
        rw [mosL_get,f n ((mem n).mpr hn) (by lia)]; exact Int.le_refl _
      have c2:=H.feas (249 - k) hle
      have c3:=T.sum
      lia
    · lia
  have tight:0 < -(S.getD (249 - k) 0) - d.sum→S.getD (249 - k) 0 + ab ((249 - k:Nat) : Int) lots e = 0:=fun hn=>by
    have:=hrest hn
    have:=T.sum
    lia
  refine ⟨len',bd',hi',fun j h1 h2=>?_,?_,fun n m hn hm hp hlt hpos=>?_⟩
  · by_cases z:j = 249 - k
    · subst z
      rcases Int.lt_or_le 0 (-(S.getD (249 - k) 0) - d.sum) with y | y
      · have:=tight y; lia
      · have:=(T.stay y).1
        rw [this] at aball ⊢
        lia
    · have := I.ok j (by lia) h2
      have:=mono (j:Nat)
      lia
  · rcases Int.lt_or_le 0 (-(S.getD (249 - k) 0) - d.sum) with y | y
    · have:=hrest y
      have:=T.sum
      have:=H.cold (249 - k) hle
      lia
    · rw [(T.stay y).1]; exact I.sum
  · rcases Int.lt_or_le 0 (-(S.getD (249 - k) 0) - d.sum) with y | y
    rotate_left
    · have es:=(T.stay y).1
      rw [es] at hlt hpos ⊢
      obtain ⟨t,t1,t2,t3⟩:=I.sep n m hn hm hp hlt hpos
      exact ⟨t,t1,by lia,t3⟩
    rcases Int.lt_or_le (lv lots n) (249 - (k:Nat)) with hl | hl
    · -- this level parts them
      refine ⟨249 - k,hle,by lia,by lia,?_,tight y⟩
      have:=hi' m hm hpos
      lia
    · -- not drawn now
      have em:e.getD m 0 = d.getD m 0:=by
        rcases Int.lt_or_le (d.getD m 0) (e.getD m 0) with z | z
        · have:=T.cheap n ((mem n).mpr hn) m ((mem m).mpr hm) z hp hl; lia
        · have:=(T.up m hm).1; lia
      have dn:d.getD n 0 < ms lots n:=by have:=(T.up n hn).1; lia
      obtain ⟨t,t1,⟨t2,t3,t4,t5⟩,tmax⟩:=max_nat (I.sep n m hn hm hp dn (by lia))
      refine ⟨t,t1,by lia,t3,t4,?_⟩
      have le1:ab (t:Nat) lots e ≤ ab (t:Nat) lots d:=ab_le len' I.len fun q hq hL=>by
        rcases Int.lt_or_le (d.getD q 0) (e.getD q 0) with z | z
        · have pq:pr lots q ≤ pr lots n:=by
            rcases Int.lt_or_le (pr lots n) (pr lots q) with w | w
            · have:=T.cheap n ((mem n).mpr hn) q ((mem q).mpr hq) z w hl; lia
            · exact w
          have uq:=(T.up q hq).2
          obtain ⟨s,s1,s2,s3,s4,s5⟩:=I.sep q m hq hm (by lia) (by lia) (by lia)
          have:=tmax s s1 ⟨s2,by lia,s4,s5⟩
          lia
        · exact z
      have:=mono (t:Nat)
      lia
theorem lev_all {lots:List S3} {S:List Int} {o:List Nat} (H:DrawHyp lots S) (nd:o.Nodup) (mem:∀ n,n ∈ o ↔ n < lots.length) (pw:o.Pairwise fun a b=>pr lots a ≤ pr lots b) : ∀ k:Nat,k ≤ 250→LevInv lots S k ((List.range k).foldl (drawLevel lots S (o.map Int.ofNat)) (lots.map fun _=>0))
  | 0,_=>lev_start H
  | k + 1,h=>by
    rw [foldl_range_succ]
    exact lev_step H nd mem pw (by lia) (lev_all H nd mem pw k (by lia))
end WS
namespace WS
end WS
namespace DL
open PySem L2
theorem cut_to {α:Type} (l:List α) (k:Nat) : cutL l none (some ((k:Nat) : Int)) = l.take k:=by
  unfold cutL
  rw [HT.sIx_none,HT.sIx_nat,List.drop_zero,Nat.sub_zero,← List.take_take,List.take_length]
theorem cut_from {α:Type} (l:List α) (k:Nat) : cutL l (some ((k:Nat) : Int)) none = l.drop k:=by
  unfold cutL
  rw [HT.sIx_none,HT.sIx_nat]
  by_cases h:k ≤ l.length
  · rw [Nat.min_eq_left h]
    exact List.take_of_length_le (by rw [List.length_drop]; exact Nat.le_refl _)
  · rw [Nat.min_eq_right (by lia),List.drop_eq_nil_of_le (Nat.le_refl _),List.drop_eq_nil_of_le (by lia),List.take_nil]
theorem lc_mapE {α:Type} {xs:List α} {e:α→D} {g:Tg} {te:DT} {ρ:DEnv} {Q:B→Prop} (F:D→D) (f:α→D) (hF:∀ x ∈ xs,F (e x) = f x) (hz:xs.length ≤ 1000000) (h:∀ x ∈ xs,g.d (e x) ρ fun ρ'=>te ρ' fun b=>some b.val = some (f x)) (q:Q (.o (.lst (xs.map f)))) :
    lcI (xs.map e) g dTrue te ρ Q:=by
  refine lc_map F (by rw [List.length_map]; exact hz) (fun d hd=>?_) ?_
  · obtain ⟨x,hx,rfl⟩:=List.mem_map.mp hd
    rw [hF x hx]
    exact h x hx
  · rw [List.map_map,show xs.map (F ∘ e) = xs.map f from List.map_congr_left hF]
    exact q
theorem filterMap_congr' {α β:Type} {f g:α→Option β} : ∀ {xs:List α},(∀ x ∈ xs,f x = g x)→xs.filterMap f = xs.filterMap g
  | [],_=>rfl
  | x :: xs,h=>by rw [List.filterMap_cons,List.filterMap_cons,h x List.mem_cons_self,filterMap_congr' fun y hy=>h y (List.mem_cons_of_mem _ hy)]
theorem lc_funE {α:Type} {xs:List α} {e:α→D} {g:Tg} {tc:DTT} {te:DT} {ρ:DEnv} {Q:B→Prop} (F:D→Option D) (f:α→Option D) (hF:∀ x ∈ xs,F (e x) = f x) (hz:xs.length ≤ 1000000) (h:∀ x ∈ xs,g.d (e x) ρ fun ρ'=>tc ρ' fun c=>(c = true→te ρ' fun b=>some b.val = f x)∧(c = false→none = f x)) (q:Q (.o (.lst (xs.filterMap f)))) :
    lcI (xs.map e) g tc te ρ Q:=by
  refine lc_fun F (by rw [List.length_map]; exact hz) (fun d hd=>?_) ?_
  · obtain ⟨x,hx,rfl⟩:=List.mem_map.mp hd
    rw [hF x hx]
    exact h x hx
  · rw [List.filterMap_map,show xs.filterMap (F ∘ e) = xs.filterMap f from filterMap_congr' hF]
    exact q
theorem zipD_map {α β:Type} (e:α→D) (d:β→D) (xs:List α) (ys:List β) : zipD (xs.map e) (ys.map d) = (xs.zip ys).map fun p=>.tup [e p.1,d p.2]:=by
  unfold zipD
  rw [List.zip_map,List.map_map]
  rfl
theorem dIx_lst (xs:List D) (i:Int) (Q:B→Prop) : dIx (.lst xs) (.int i) Q = ∃ d,atI xs i = some d∧Q (.p d):=rfl
theorem dIx_tup (xs:List D) (i:Int) (Q:B→Prop) : dIx (.tup xs) (.int i) Q = ∃ d,atI xs i = some d∧Q (.p d):=rfl
theorem dIx_scr (ns:List Int) (i:Int) (Q:B→Prop) : dIx (.scr ns) (.int i) Q = ∃ n,atI ns i = some n∧Q (.p (.int n)):=rfl
theorem dAdd_int (i j:Int) (Q:B→Prop) : dAdd (.int i) (.int j) Q = Q (.p (.int (i + j))):=rfl
theorem dAdd_lst (xs ys:List D) (Q:B→Prop) : dAdd (.lst xs) (.lst ys) Q = (xs.length + ys.length ≤ sizeLine∧Q (.o (.lst (xs ++ ys)))):=rfl
theorem dAdd_str (x y:Str) (Q:B→Prop) : dAdd (.str x) (.str y) Q = (x.length + y.length ≤ sizeLine∧Q (.p (.str (x ++ y)))):=rfl
theorem dAdd_tup (xs ys:List D) (Q:B→Prop) : dAdd (.tup xs) (.tup ys) Q = (xs ≠ []∧ys ≠ []∧xs.length + ys.length ≤ sizeLine∧Q (.p (.tup (xs ++ ys)))):=rfl
theorem dMul_int (i j:Int) (Q:B→Prop) : dMul (.int i) (.int j) Q = (CMul i j∧Q (.p (.int (i * j)))):=rfl
theorem dEqS_int (i j:Int) (Q:B→Prop) : dEqS (.int i) (.int j) Q = Q (.p (.bl (decide (i = j)))):=rfl
theorem dEqS_str (i j:Str) (Q:B→Prop) : dEqS (.str i) (.str j) Q = Q (.p (.bl (decide (i = j)))):=rfl
theorem dEqS_bl (i j:Bool) (Q:B→Prop) : dEqS (.bl i) (.bl j) Q = Q (.p (.bl (decide (i = j)))):=rfl
theorem dNeS_int (i j:Int) (Q:B→Prop) : dNeS (.int i) (.int j) Q = Q (.p (.bl (!decide (i = j)))):=rfl
theorem dNeS_str (i j:Str) (Q:B→Prop) : dNeS (.str i) (.str j) Q = Q (.p (.bl (!decide (i = j)))):=rfl
theorem dNeS_bl (i j:Bool) (Q:B→Prop) : dNeS (.bl i) (.bl j) Q = Q (.p (.bl (!decide (i = j)))):=rfl
theorem dLen_lst (xs:List D) (P:B→Prop) : dLen [.lst xs] P = P (.p (.int xs.length)):=rfl
theorem dLen_tup (xs:List D) (P:B→Prop) : dLen [.tup xs] P = P (.p (.int xs.length)):=rfl
theorem dLen_scr (xs:List Int) (P:B→Prop) : dLen [.scr xs] P = P (.p (.int xs.length)):=rfl
noncomputable def itL (d:D) (P:List D→Prop) : Prop:=match d with
  | .lst xs=>P xs
  | .scr ns=>P (ns.map D.int)
  | _=>False
theorem diList_is (te:DT) (ρ:DEnv) (P:List D→Prop) : diList te ρ P = te ρ fun b=>itL b.val P:=rfl
theorem itL_lst (xs:List D) (P:List D→Prop) : itL (.lst xs) P = P xs:=rfl
theorem itL_scr (xs:List Int) (P:List D→Prop) : itL (.scr xs) P = P (xs.map D.int):=rfl
noncomputable def slD (d:D) (lo hi:Option Int) (Q:B→Prop) : Prop:=match d with
  | .lst xs=>Q (.o (.lst (cutL xs lo hi)))
  | .scr ns=>Q (.o (.lst ((cutL ns lo hi).map D.int)))
  | .tup xs=>¬ (HT.sIx xs.length 0 lo = 0∧HT.sIx xs.length xs.length hi = xs.length)∧Q (.p (.tup (cutL xs lo hi)))
  | _=>False
theorem dSl_is (te:DT) (tl th:DTO) (ρ:DEnv) (Q:B→Prop) : dSl te tl th ρ Q = te ρ fun b=>tl ρ fun lo=>th ρ fun hi=>slD b.val lo hi Q:=rfl
theorem slD_lst (xs:List D) (lo hi:Option Int) (Q:B→Prop) : slD (.lst xs) lo hi Q = Q (.o (.lst (cutL xs lo hi))):=rfl
theorem slD_scr (xs:List Int) (lo hi:Option Int) (Q:B→Prop) : slD (.scr xs) lo hi Q = Q (.o (.lst ((cutL xs lo hi).map D.int))):=rfl
theorem slD_tup (xs:List D) (lo hi:Option Int) (Q:B→Prop) : slD (.tup xs) lo hi Q = (¬ (HT.sIx xs.length 0 lo = 0∧HT.sIx xs.length xs.length hi = xs.length)∧Q (.p (.tup (cutL xs lo hi)))):=rfl
noncomputable def slSD (d:D) (lo hi st:Option Int) (Q:B→Prop) : Prop:=match d with
  | .lst xs=>Q (.o (.lst (stepV xs lo hi st)))
  | .scr ns=>Q (.o (.lst ((stepV ns lo hi st).map D.int)))
  | _=>False
theorem dSlS_is (te:DT) (tl th ts:DTO) (ρ:DEnv) (Q:B→Prop) : dSlS te tl th ts ρ Q = te ρ fun b=>tl ρ fun lo=>th ρ fun hi=>ts ρ fun st=>st ≠ some 0∧slSD b.val lo hi st Q:=rfl
theorem slSD_lst (xs:List D) (lo hi st:Option Int) (Q:B→Prop) : slSD (.lst xs) lo hi st Q = Q (.o (.lst (stepV xs lo hi st))):=rfl
theorem slSD_scr (xs:List Int) (lo hi st:Option Int) (Q:B→Prop) : slSD (.scr xs) lo hi st Q = Q (.o (.lst ((stepV xs lo hi st).map D.int))):=rfl
theorem dCopy_lst (xs:List D) (P:B→Prop) : dCopy [.lst xs] P = P (.o (.lst xs)):=rfl
theorem dCopy_tup (xs:List D) (P:B→Prop) : dCopy [.tup xs] P = P (.o (.lst xs)):=rfl
theorem dCopy_scr (xs:List Int) (P:B→Prop) : dCopy [.scr xs] P = P (.o (.lst (xs.map D.int))):=rfl
theorem ixk0 {α:Type} (a:α) (l:List α) : atI (a :: l) (0:Int) = some a:=by unfold atI ixN; simp
theorem ixk1 {α:Type} (a b:α) (l:List α) : atI (a :: b :: l) (1:Int) = some b:=by
  have:atI (a :: b :: l) (((1:Nat)) : Int) = some b:=atI_nat rfl
  exact this
theorem ixk2 {α:Type} (a b c:α) (l:List α) : atI (a :: b :: c :: l) (2:Int) = some c:=by
  have:atI (a :: b :: c :: l) (((2:Nat)) : Int) = some c:=atI_nat rfl
  exact this
theorem ixk3 {α:Type} (a b c d:α) (l:List α) : atI (a :: b :: c :: d :: l) (3:Int) = some d:=by
  have:atI (a :: b :: c :: d :: l) (((3:Nat)) : Int) = some d:=atI_nat rfl
  exact this
theorem ixk4 {α:Type} (a b c d e:α) (l:List α) : atI (a :: b :: c :: d :: e :: l) (4:Int) = some e:=by
  have:atI (a :: b :: c :: d :: e :: l) (((4:Nat)) : Int) = some e:=atI_nat rfl
  exact this
theorem ex_at {α:Type} (a:α) (p:α→Prop) : (∃ d,some a = some d∧p d) = p a:=propext ⟨fun ⟨d,e,h⟩=>by cases e; exact h,fun h=>⟨a,rfl,h⟩⟩
theorem atI_of {α:Type} {xs:List α} {e:α→D} {k:Nat} {x:α} (h:xs[k]? = some x) : atI (xs.map e) ((k:Nat) : Int) = some (e x):=by
  refine atI_nat ?_
  rw [List.getElem?_map,h]
  rfl
end DL
namespace L2
open PySem PySem.Spec PyProof.Rows PySem.W
section
variable {X:Cx} {pins:List (Addr × Obj)} {σ:St} {H:Hp} {s:Shared}
theorem Inv.like {h':Heap} {tk:Nat} {m:Str→Option Value} (I:Inv X pins σ H s) (keep:∀ b o,b ≠ X.env.locals→s.heap.get? b = some o→h'.get? b = some o) (n1:s.heap.Ns X.env.locals m) (n2:h'.Ns X.env.locals m) :
    Inv X pins σ H { s with heap:=h',toks:=tk }:=by
  have nL:∀ b u,H b = some u→b ≠ X.env.locals:=fun b u e=>ne_of_none e I.free
  refine I.step (g':=s.gens) (d':=s.drawn) (ch:=[]) (fun _ z=>nomatch z) (fun b o hL _ _ e _=>keep b o hL e) (fun b o hL _ _ e _=>⟨o.slots,keep b o hL e⟩) (fun _ _ _ _ n=>n) (fun b o _ e=>?_) (fun _ _ e=>e) (fun _ _ _ e=>e) (fun b ps e=>⟨#[],by rw [e]; simp⟩)
    (fun m' hm=>?_) (fun b u e=>(I.hok b u e).stay (fun c v hc g=>keep c v (hc.elim (fun z=>z ▸ nL b u e) fun z=>nL c _ z) g) (fun _ q=>q) fun _ _ q=>q) I.bare
  · by_cases hb:b = X.env.locals
    · subst hb
      obtain ⟨o',_,_,e',_⟩:=n2
      exact ⟨o',e'⟩
    · exact ⟨o,keep b o hb e⟩
  · have:m' = m:=funext fun x=>hm.agree n1 x
    rw [this]; exact n2
theorem Inv.likeNew {h':Heap} {tk:Nat} {m:Str→Option Value} {D:Addr} {u:HO} (I:Inv X pins σ H s) (keep:∀ b o,b ≠ X.env.locals→s.heap.get? b = some o→h'.get? b = some o) (n1:s.heap.Ns X.env.locals m) (n2:h'.Ns X.env.locals m)
    (hD:s.heap.objs.size ≤ D) (new:ObjOk X.prog X.w (upd H D u) h' D u) : Inv X pins σ (upd H D u) { s with heap:=h',toks:=tk }:=by
  have hn:H D = none:=I.hok.fresh hD
  have nc:∀ b v,H b = some v→upd H D u b = some v:=fun b v e=>by rw [upd_ne (ne_of_none e hn)]; exact e
  have nL:∀ b u,H b = some u→b ≠ X.env.locals:=fun b u e=>ne_of_none e I.free
  refine I.step (g':=s.gens) (d':=s.drawn) (ch:=[]) (fun _ z=>nomatch z) (fun b o hL _ _ e _=>keep b o hL e) (fun b o hL _ _ e _=>⟨o.slots,keep b o hL e⟩) (fun b o _ e n=>?_) (fun b o _ e=>?_) (fun b xs e=>nc b _ e) (fun b o v e=>nc b _ e) (fun b ps e=>⟨#[],by rw [nc b _ e]; simp⟩)
    (fun m' hm=>?_) (fun b v e=>?_) I.bare
  · rw [upd_ne (Nat.ne_of_lt (Nat.lt_of_lt_of_le (Heap.lt_size e) hD))]; exact n
  · by_cases hb:b = X.env.locals
    · subst hb
      obtain ⟨o',_,_,e',_⟩:=n2
      exact ⟨o',e'⟩
    · exact ⟨o,keep b o hb e⟩
  · have:m' = m:=funext fun x=>hm.agree n1 x
    rw [this]; exact n2
  · by_cases hb:b = D
    · subst hb; rw [upd_same] at e; cases e; exact new
    · rw [upd_ne hb] at e
      exact (I.hok b v e).stay (fun c w hc g=>keep c w (hc.elim (fun z=>z ▸ nL b v e) fun z=>nL c _ z) g) (fun c q=>nc c _ q) fun c xs q=>nc c _ q
end
theorem same_tup {K:PySem.W.Frag} {G G':Hp} {a:Addr} {xs:List V} (e:Same G G') (h:SqT K G a xs) : SqT K G' a xs:=by
  rcases h with h | h
  · exact .inl (h.imp (fun z=>e _ _ z) fun ⟨o,z⟩=>⟨o,e _ _ z⟩)
  · exact .inr h
noncomputable def tRng (t:TA) : TA:=tCons (tCB (fun xs H Q=>∃ j,xs = [.int j]∧∀ p,H p = none→Q (.ref p) (upd H p (.rng 0 j))) t) tNil
noncomputable def tSortK' (K:PySem.W.Frag) (i:Nat) (j:Int) (t:TA) : TE:=fun σ H Q=>tRng t σ H fun us H2=>∃ (p:Addr) (n:Nat) (la:Addr) (xs:List V) (ks:List Int),us = [.ref p]∧H2 p = some (.rng 0 n)∧n < 64∧ks.length = n∧σ[i]? = some (some (.ref la))∧SqL K H2 la xs ∧
  (∀ (m:Nat) (k:Int),ks[m]? = some k→∃ ta ys,xs[m]? = some (.ref ta)∧SqT K H2 ta ys∧atI ys j = some (.int k)) ∧
  ∀ (l:Addr) (ms:List Int) (H3:Hp),Same H2 H3→H3 l = none→ms.Perm ((List.range n).map Int.ofNat)→KeyOrd ks ms→Q (.ref l) (upd H3 l (.lst (ms.map V.int)))
section
variable {X:Cx}
theorem pe_sortK {i:Nat} {P c cc:Addr} {x y:Str} {params:Arguments} {scope:Scope} {e:Expr} {lpos kpos p pr posr pos p1 p2 p3 p4 p5:Pos} {kk:Nat} {j:Int} {t:TA}
    (hg:Gl X "sorted") (hm:X.mg "sorted" = none) (hgr:Gl X "range") (hmr:X.mg "range" = none) (hc:X.calm = true) (room:Room 0 X.A)
    (hcode:X.env.code = .ref c) (C:CodeHd X.base c P) (B:BltAt X.mg X.base) (hT:TabAt X.H₀ P (X.env.qual ++ "<lambda>"))
    (hN:X.N[i]? = some y) (hkc:X.env.kindOf y = some .cell) (hcc:X.env.cells.lookup y = some cc) (hcl:closureFor scope X.env = pure [(y,cc)]) (hdef:defaultsOf params X.env = ([],[]))
    (hbind:∀ q pm c' ctv v,bindArgs (kla_fn "<lambda>" q params (.Subscript (.Subscript (.Name y p1) (.Name x p2) p3) (.Constant (.int j) kk p4) p5) scope [(y,cc)] pm (.ref c') ctv) ⟨[v],[]⟩ = pure [(x,v)])
    (hk:scope.kind = .function) (hco:scope.isCoroutine = false) (hgen:scope.isGenerator = false) (hcell:∀ z ∈ scope.names,z.2 ≠ .cell) (hlx:scope.names.lookup x = some .local) (hly:scope.names.lookup y = some .free)
    (hdx:(x == ("__debug__" : Str)) = false) (hdy:(y == ("__debug__" : Str)) = false) (hcy:(y == ("__classdict__" : Str)) = false)
    (ha:PA X [e] t) (he0:starEach [e] X.env = [(false,eval e X.env)]:=by rfl)
    (he:starEach [.Call (.Name "range" pr) [e] [] posr] X.env = [(false,eval (.Call (.Name "range" pr) [e] [] posr) X.env)]:=by rfl) :
    PE X (.Call (.Name "sorted" p) [.Call (.Name "range" pr) [e] [] posr] [⟨some "key",.Lambda params (.Subscript (.Subscript (.Name y p1) (.Name x p2) p3) (.Constant (.int j) kk p4) p5) scope lpos,kpos⟩] pos) (tSortK' X.K i j t):=by
  intro pins s σ H Q I h
  have hpa:PA X [.Call (.Name "range" pr) [e] [] posr] (tRng t):=pa_cons (pe_callTy call_rangeV hgr hmr PyProof.Rows.boot_range ha (he:=by rw [he0]; rfl) (hpl:=rfl)) pa_nil (by rw [he]; rfl)
  refine wpAny_Call_Name_kw (ld_blt I hg hm (show bootBuiltins "sorted" = some (.builtin "sorted") by first | rfl | decide) ?_ (by decide) (by decide))
  refine callWith_kw (thn (hpa pos pins s σ H _ I h) fun us s1 ⟨vs,H1,I1,r1,q1⟩=>?_) (by rw [he]; rfl) (by rw [he]; rfl) rfl rfl
  obtain ⟨q,n,la,xs,ks,rfl,hq,h64,hl,hσ,hsl,hks,fin⟩:=q1
  obtain ⟨u,rfl,rx⟩:=vals1 r1
  cases rx
  show wpAny _ _ (evalAll [(do let v ← eval (.Lambda params (.Subscript (.Subscript (.Name y p1) (.Name x p2) p3) (.Constant (.int j) kk p4) p5) scope lpos) X.env; standAt pos; pure v)]) _ _ s1
  refine wpAny_evalAll_cons (wpAny_bind (lam_eval I1 hcode C B hT hcl hdef fun f c' ctv pm h3 tk3 H3 I3 hH3 ho hfn hge hrec=>wpAny_bind (wpAny_standAt (wpAny_pure (wpAny_evalAll_nil ?_)))))
  show wpAny _ _ (call (.builtin "sorted") [.ref q] [(Str.ofString "key",.ref f)]) _ _ _
  have s13:Same H1 H3:=by
    rcases hH3 with z | ⟨z,z'⟩
    · rw [z]; exact Same.refl _
    · rw [z']; exact same_new z
  obtain ⟨m,F⟩:=I3.fr
  obtain ⟨tA,uA,vA,hr⟩:=(show ObjOk X.prog X.w H3 h3 q (.rng 0 n) from I3.hok q _ (s13 _ _ hq))
  have fL:f ≠ X.env.locals:=by
    obtain ⟨m1,hn1,_⟩:=I1.loc
    exact Nat.ne_of_gt (Nat.lt_of_lt_of_le hn1.lt hge)
  have nb:(n:Int) < 2 ^ 62:=by lia
  have all:∀ {h4:Heap} {own:List (Addr × Obj)},Fr X.base X.env.locals h4 m→News X.base X.env.locals h4 (others X h3 ++ own)→∀ b o,b ≠ X.env.locals→h3.get? b = some o→h4.get? b = some o:=fun {h4 own} F4 N4 b o hb e=>by
    cases q2:X.base.get? b with
    | some u=>have:=I3.bk b u q2; rw [show h3.get? b = some u from this] at e; cases e; exact F4.keep _ _ q2
    | none=>exact (N4 (b,o) (List.mem_append_left _ (others_mem e hb q2))).1
  refine sorted_rng (b:=false) (kz:=ks) (lo:=0) (hi:=n) (n:=n) F (fun p hp=>others_is hp) (I3.ok.hd hc) hr (small_one (by decide) (by decide) (by lia) nb) (by rw [rangeSize_one]; split <;> lia) hl h64 (ksk_s1 _ _) (fun x=>ksk_l1 _ _) (fun x=>ksk_t1 _ x)
    (fun i' tt k hk' h4 tk4 own F4 N4=>?_) fun D h5 tk5 out c5 vs5 F5 N5 hD hit ko=>?_
  · have I4:=I3.like (tk:=tk4) (all F4 N4) F.ns F4.ns
    obtain ⟨ta,ys,g1,g2,g3⟩:=hks i' k hk'
    obtain ⟨m4,hn4,hl4⟩:=I4.loc
    obtain ⟨u4,ru,lk⟩:=hl4 i y (.ref la) hN hσ (.inr (.inl hkc))
    cases ru
    have hce:h4.IsCell cc (some (.ref la)):=by
      rcases lk with ⟨z,_⟩ | ⟨_,c4,e4,z⟩
      · rw [hkc] at z; cases z
      · rw [hcc] at e4; cases e4; exact z
    have e0:(0:Int) + (i':Int) * 1 = (i':Int):=by lia
    rw [e0]
    have hrec4:h4.CodeRec (.ref c') (X.env.qual ++ "<lambda>"):=by
      obtain ⟨c2,o2,vs2,t2,e2,gg,r2,r3⟩:=hrec
      cases e2
      refine ⟨c',o2,vs2,t2,rfl,all F4 N4 _ _ (fun z=>?_) gg,r2,r3⟩
      subst z
      obtain ⟨o,_,_,eo,hd,_⟩:=F.ns
      rw [show h3.get? X.env.locals = some o2 from gg] at eo; cases eo
      rw [hd] at r2; cases r2
    refine lam_call I4 (all F4 N4 f _ fL ho) hrec4 hce (s13.seq hsl) g1 (same_tup s13 g2) g3 (hbind _ _ _ _) hk hco hgen hcell hlx hly hdx hdy hcy ?_ fun h' tk t' keep=>⟨h',tk,t',rfl,rfl,F4.kept keep,N4.grown keep⟩
    have:=room.dp
    show X.A.depth < _
    lia
  · have hL5 := all F5 (own := []) (fun p hp => N5 p (List.mem_cons_of_mem _ (by simpa using hp)))
    have hv5:∀ (m':Nat) (_:m' < n),∃ t,vs5.toList[m']? = some (Value.int (m':Int) t):=fun m' hm'=>by
      have hlt:m' < vs5.toList.length:=by rw [Array.length_toList,hit.1]; exact hm'
      have e5:vs5[m']? = some vs5.toList[m']:=by
        have:vs5[m']? = vs5.toList[m']?:=by simp
        rw [this,List.getElem?_eq_getElem hlt]
      obtain ⟨t5,e6⟩:=hit.2 m' _ e5
      refine ⟨t5,?_⟩
      rw [List.getElem?_eq_getElem hlt,e6]
      congr 2
      lia
    obtain ⟨ms,hi5,hp5,ho5⟩:=out_of (n:=n) hl hv5 (by rw [Array.length_toList]; exact hit.1) ko
    refine ⟨.ref D,upd H3 D (.lst (ms.map V.int)),I3.likeNew (tk:=tk5) hL5 F.ns F5.ns hD ⟨?_,out.toList,c5,vals_ints hi5,?_⟩,rfl,fin D ms H3 s13 (I3.hok.fresh hD) hp5 ho5⟩
    · rw [List.length_map,hp5.length_eq,List.length_map,List.length_range,sizeLine_eq]; lia
    · rw [Array.toArray_toList]; exact (N5 _ (List.mem_cons_self ..)).1
end
end L2
namespace L2
open PySem PySem.Spec PyProof.Rows PySem.W
theorem TabAt.same {H H':Hp} {P:Addr} {q:Str} (s:Same H H') (x:TabAt H P q) : TabAt H' P q:=by
  obtain ⟨qs,t,e,e2⟩:=x
  exact ⟨qs,t,s _ _ e,e2⟩
theorem PE.tab {X:Cx} {e:Expr} {t:TE} {P:Addr} {q:Str} (h:PE X e t) (hT:TabAt X.H₀ P q) : PE X e (fun σ H Q=>TabAt H P q→t σ H Q):=
  fun pins s σ H Q I hw=>h pins s σ H Q I (hw (hT.un I.base))
structure FunC (K:PySem.W.Frag) (x qual:Str) (st:Stmt) (f:Addr) (fd:FuncData) (P:Addr) : Prop where
  ex:∃ (oc:Value) (od:Option Addr) (kV doc pm:Value) (an:Option Addr) (c:Addr) (ct:Value) (osl:Array (Option Value)),
    fd = PySem.W.fnOf x qual (defArgs st) (defBody st) (defScope st) .none kV doc pm an (.ref c) ct∧K.lookup f = some ⟨oc,od,.func fd,osl⟩∧PySem.W.codeIn K (.ref c) qual = true∧codeHdIn K c P = true
theorem func_mk {K:PySem.W.Frag} {x qual:Str} {st:Stmt} {f c P:Addr} {oc:Value} {od an:Option Addr} {osl:Array (Option Value)} {kV doc pm ct:Value} (l:K.lookup f = some ⟨oc,od,.func (PySem.W.fnOf x qual (defArgs st) (defBody st) (defScope st) .none kV doc pm an (.ref c) ct),osl⟩)
    (h:PySem.W.codeIn K (.ref c) qual = true) (h2:codeHdIn K c P = true) : FunC K x qual st f (PySem.W.fnOf x qual (defArgs st) (defBody st) (defScope st) .none kV doc pm an (.ref c) ct) P:=⟨oc,od,kV,doc,pm,an,c,ct,osl,rfl,l,h,h2⟩
end L2
namespace DL
open PySem L2 PyProof.Rows PySem.W
noncomputable def spDT (K:PySem.W.Frag) (P:Addr) (q:Str) (R:DR) : Sp:=fun vs H Q E=>TabAt H P q∧spD K R vs H Q E
section
variable {X:Cx} {e:Expr} {es:List Expr} {pos:Pos}
theorem de_fnT {x:Str} {k:Nat} {ps:List Str} {R:DR} {p:Pos} {t:DTA} {P:Addr} {q:Str} (hT:TabAt X.H₀ P q) (F:Fn X.prog X.w X.K X.mg X.base x k ps (spDT X.K P q R)) (hr:Room k X.A) (hg:Gl X x) (ha:DA X (e :: es) t)
    (hdb:(x == ("__debug__" : Str)) = false:=by decide) (he:starEach (e :: es) X.env = (false,eval e X.env) :: starEach es X.env:=by rfl) (hpl:(backTo pos (starEach es X.env)).any (·.1) = false:=by rfl) :
    DE X (.Call (.Name x p) (e :: es) [] pos) (dCall R t):=
  DE.of ((pe_fn F hr hg ha.pa hdb he hpl).tab hT) fun σ H Q ⟨G,ρ,PP,s,re,h,k⟩ tb=>by
    refine ⟨G,ρ,_,s,re,h,fun ds vs H1 G1 p1 l1 w1 r1=>?_⟩
    show spDT X.K P q R (vs ++ []) H1 Q E0
    rw [List.append_nil]
    exact ⟨tb.same w1.hh,ds,G1,PP,w1.gh,r1,p1,go_on k w1⟩
noncomputable def dSortK (i:Nat) (j:Int) (t:DTA) : DT:=fun ρ Q=>t ρ fun ds=>match ds with
  | [.int n]=>∃ (xs:List D) (ks:List Int),dget ρ i = some (.p (.lst xs))∧(ks.length:Int) = n∧ks.length < 64 ∧
    (∀ (m:Nat) (k:Int),ks[m]? = some k→∃ ys,xs[m]? = some (.tup ys)∧atI ys j = some (.int k)) ∧
    ∀ ms:List Int,ms.Perm ((List.range ks.length).map Int.ofNat)→KeyOrd ks ms→Q (.o (.lst (ms.map D.int)))
  | _=>False
theorem de_sortK {i:Nat} {P c cc:Addr} {x y:Str} {params:Arguments} {scope:Scope} {lpos kpos p pr posr p1 p2 p3 p4 p5:Pos} {kk:Nat} {j:Int} {t:DTA}
    (hg:Gl X "sorted") (hm:X.mg "sorted" = none) (hgr:Gl X "range") (hmr:X.mg "range" = none) (hc:X.calm = true) (room:Room 0 X.A)
    (hcode:X.env.code = .ref c) (C:codeHdIn X.K c P = true) (kin:X.K.In X.base) (B:BltAt X.mg X.base) (hT:TabAt X.H₀ P (X.env.qual ++ "<lambda>"))
    (hN:X.N[i]? = some y) (hkc:X.env.kindOf y = some .cell) (hcc:X.env.cells.lookup y = some cc) (hcl:closureFor scope X.env = pure [(y,cc)]) (hdef:defaultsOf params X.env = ([],[]))
    (hbind:∀ q pm c' ctv v,bindArgs (kla_fn "<lambda>" q params (.Subscript (.Subscript (.Name y p1) (.Name x p2) p3) (.Constant (.int j) kk p4) p5) scope [(y,cc)] pm (.ref c') ctv) ⟨[v],[]⟩ = pure [(x,v)])
    (hk:scope.kind = .function) (hco:scope.isCoroutine = false) (hgen:scope.isGenerator = false) (hcell:∀ z ∈ scope.names,z.2 ≠ .cell) (hlx:scope.names.lookup x = some .local) (hly:scope.names.lookup y = some .free)
    (hdx:(x == ("__debug__" : Str)) = false) (hdy:(y == ("__debug__" : Str)) = false) (hcy:(y == ("__classdict__" : Str)) = false)
    (ha:DA X [e] t) (he0:starEach [e] X.env = [(false,eval e X.env)]:=by rfl)
    (he:starEach [.Call (.Name "range" pr) [e] [] posr] X.env = [(false,eval (.Call (.Name "range" pr) [e] [] posr) X.env)]:=by rfl) :
    DE X (.Call (.Name "sorted" p) [.Call (.Name "range" pr) [e] [] posr] [⟨some "key",.Lambda params (.Subscript (.Subscript (.Name y p1) (.Name x p2) p3) (.Constant (.int j) kk p4) p5) scope lpos,kpos⟩] pos) (dSortK i j t):=
  DE.of (pe_sortK hg hm hgr hmr hc room hcode (codeHd_of_K kin C) B hT hN hkc hcc hcl hdef hbind hk hco hgen hcell hlx hly hdx hdy hcy ha.pa he0 he) fun σ H Q ⟨G,ρ,PP,s,re,h,k⟩=>by
    refine ⟨G,ρ,_,s,re,h,fun ds vs H1 G1 p1 l1 w1 r1=>?_⟩
    split at p1
    · rename_i n
      obtain ⟨xs,ks,hget,hn,h64,hks,fin⟩:=p1
      obtain ⟨v,rfl,rv⟩:=reps1 r1
      cases rv
      obtain ⟨v,hσ,rv⟩:=re i _ hget
      obtain ⟨la,us,rfl,ea,rr⟩:=(rv.mono w1.gg).lst_inv
      refine ⟨n,rfl,fun p hp=>⟨p,ks.length,la,us,ks,rfl,by rw [upd_same,hn],h64,rfl,hσ,?_,fun m k' hk'=>?_,fun l ms H3 s23 hl hpm hko=>?_⟩⟩
      · exact SqL.of (by rw [upd_ne (ne_of_none (w1.gh _ _ ea) hp)]; exact w1.gh _ _ ea)
      · obtain ⟨ys,e1,e2⟩:=hks m k' hk'
        obtain ⟨u,e3,ru⟩:=paired_get' rr e1
        obtain ⟨ta,zs,rfl,st,rz⟩:=ru.tup_inv
        obtain ⟨z,e4,rz'⟩:=atI_rep rz e2
        cases rz'
        exact ⟨ta,zs,e3,same_tup (w1.gh.upd (w1.gh.free hp)) st,e4⟩
      · have w2:Wd H G H3 G1:=⟨(w1.hh.trans (same_new hp)).trans s23,w1.gg,(w1.gh.trans (same_new hp)).trans s23,w1.old⟩
        obtain ⟨w3,r3⟩:=own_new w2 hl (ints_reps (K:=X.K) ms)
        exact k _ _ _ _ (fin ms hpm hko) w3 r3
    · exact p1.elim
end
section
variable {P:Program} {w:World} {K:PySem.W.Frag} {mg:Str→Option Value} {base:Heap}
theorem okDT {x qual:Str} {st:Stmt} {f Pt:Addr} {q:Str} {fd:FuncData} {N ps:List Str} {k:Nat} {R:DR} (F:Fun K x qual st f fd) (S:FnScope N ps (defScope st)) (len:∀ ds Q,R ds Q→ds.length = ps.length)
    (hbody:∀ (cdv:Value) (A:Around) (outer:List Env) (s:Shared) (H:Hp) (E:XK),Room k (A.deeper (envOfC qual (defScope st) s.heap.objs.size f cdv))→TabAt H Pt q →
      ∃ t,DSs (cxOf CX0 P w K mg base N qual (defScope st) f cdv A outer s H E).nox (defBody st) t∧∀ ds Q,R ds Q→t { nx:=fun _=>Q (.p .non),rt:=Q } (startD N.length ds)) : FnOk P w K mg base CX0 (k + 1) f fd ps (spDT K Pt q R):=by
  refine F.ok S (fun vs H Q E ⟨_,ds,G,P,s,r,h,_⟩=>by rw [Paired.length r]; exact len ds P h) fun cdv A outer s H vs Q E hr ⟨tb,ds,G,P,sg,r,h,k⟩=>?_
  obtain ⟨t,h1,h2⟩:=hbody cdv A outer s H E hr tb
  obtain ⟨e1,e2,e3⟩:=startD_ok (K:=K) N.length r
  refine ⟨_,h1.pss H G,_,G,_,?_,Wd.refl sg,EnvO.only e2 e1 (startD_p _ _),h2 ds P h⟩
  exact ⟨fun σ H' G' ρ w' _ p=>k _ _ H' G' p w' (show Rep K G' V.non D.non from .non),fun σ H' G' ρ w' _ p=>p.elim,fun σ H' G' ρ w' _ p=>p.elim,fun b v H' G' w' r' p=>k b v H' G' p w' r'⟩
theorem okDC {x qual:Str} {st:Stmt} {f Pt:Addr} {q:Str} {fd:FuncData} {N ps:List Str} {k:Nat} {R:DR} (F:FunC K x qual st f fd Pt) (S:FnScope N ps (defScope st)) (len:∀ ds Q,R ds Q→ds.length = ps.length)
    (hbody:∀ (c:Addr) (A:Around) (outer:List Env) (s:Shared) (H:Hp) (E:XK),Room k (A.deeper (envOfC qual (defScope st) s.heap.objs.size f (.ref c)))→TabAt H Pt q→codeHdIn K c Pt = true →
      ∃ t,DSs (cxOf CX0 P w K mg base N qual (defScope st) f (.ref c) A outer s H E).nox (defBody st) t∧∀ ds Q,R ds Q→t { nx:=fun _=>Q (.p .non),rt:=Q } (startD N.length ds)) : FnOk P w K mg base CX0 (k + 1) f fd ps (spDT K Pt q R):=by
  obtain ⟨oc,od,kV,doc,pm,an,c,ct,osl,rfl,lk,hcd,hC⟩:=F.ex
  refine fn_of lk hcd S (fun vs H Q E ⟨_,ds,G,P,s,r,h,_⟩=>by rw [Paired.length r]; exact len ds P h) fun A outer s H vs Q E hr ⟨tb,ds,G,P,sg,r,h,k⟩=>?_
  obtain ⟨t,h1,h2⟩:=hbody c A outer s H E hr tb hC
  obtain ⟨e1,e2,e3⟩:=startD_ok (K:=K) N.length r
  refine ⟨_,(h1.pss H G).nox,_,G,_,?_,Wd.refl sg,EnvO.only e2 e1 (startD_p _ _),h2 ds P h⟩
  exact ⟨fun σ H' G' ρ w' _ p=>k _ _ H' G' p w' (show Rep K G' V.non D.non from .non),fun σ H' G' ρ w' _ p=>p.elim,fun σ H' G' ρ w' _ p=>p.elim,fun b v H' G' w' r' p=>k b v H' G' p w' r'⟩
end
noncomputable def spLawT (K:PySem.W.Frag) (P:Addr) (q:Str) : Sp:=fun vs H Q E=>TabAt H P q∧spLaw K vs H Q E
theorem law_ofT {P:Program} {w:World} {K:PySem.W.Frag} {mg:Str→Option Value} {base:Heap} {k:Nat} {f Pt:Addr} {q:Str} {fd:FuncData} {ps:List Str} (h:FnOk P w K mg base CX0 k f fd ps (spDT K Pt q r_law)) : FnOk P w K mg base CX0 k f fd ps (spLawT K Pt q):=
  h.imp fun vs H Q E ⟨tb,a,ns,e,hs,hl,q⟩=>⟨tb,[.scr ns],H,fun b=>b = .p (.bl true),Same.refl _,by rw [e]; exact .cons (.scr hs) .nil,⟨ns,rfl,hl,rfl⟩,fun b v H' G' hb w r=>by
    subst hb
    have:v = .bl true:=Rep.bl_inv r
    rw [this]
    exact q H'⟩
end DL
namespace DL
open PySem PySem.Spec PyProof.Rows L2
noncomputable def startH (K:PySem.W.Frag) (Pt a:Addr) (qn:Str) (o:Obj) (xs:List V) : Hp:=fun b=>if b = Pt then some (.tbl #[.str qn 0]) else if b = a∧K.lookup a = none then some (.frz o (.lst xs)) else none
theorem startH_other {K:PySem.W.Frag} {Pt a b:Addr} {qn:Str} {o:Obj} {xs:List V} (h1:b ≠ Pt) (h2:b ≠ a) : startH K Pt a qn o xs b = none:=by
  unfold startH; rw [if_neg h1,if_neg fun z=>h2 z.1]
theorem law_callC {P:Program} {w:World} {K:PySem.W.Frag} {mg mb:Str→Option Value} {k:Nat} {fa a Pt c:Addr} {qn:Str} {fd:FuncData} {x:Str} {s₁:Shared} {vs:List Value} {ns:List Int}
    (KX:K.In s₁.heap) (hns:s₁.heap.Ns mainGlobals mg) (hb:s₁.heap.Ns builtinsNs mb) (hbb:∀ x:Str,x ≠ "__name__"→mb x = bootBuiltins x) (hlim:s₁.heap.NoLimit) (hg:s₁.gens = #[]) (BM:BltAt mg s₁.heap)
    (hPt:s₁.heap.get? Pt = some (PySem.W.tabObj #[])) (hK:K.lookup Pt = none) (hC:PySem.W.codeHdIn K c Pt = true)
    (ha:s₁.heap.get? a = some { cls:=.type "list",data:=.seq vs.toArray }) (hi:IntsAre vs ns) (hl:ns.length ≤ 63) (hr:Room k callerA)
    (F:∀ base:Heap,K.In base→base.Ns mainGlobals mg→BltAt mg base→FnOk P w K mg base CX0 k fa fd [x] (spLawT K Pt qn)) (hbind:∀ (s:Shared) (u:Value),BindsTo s fd ⟨[u],[]⟩ [(x,u)]) :
    codeAny (model P w) callerA (.call (.ref fa) ⟨[.ref a],[]⟩) (fun r s'=>r = .ok (.ret (.bool true))∧OldK s₁.heap s'.heap∧s'.os = s₁.os∧AllBare s'.gens) s₁:=by
  have rv:=vals_ints hi
  have lenV:=hi.length
  have haP:a ≠ Pt:=fun z=>by rw [z,hPt] at ha; cases ha
  generalize hH:startH K Pt a qn { cls:=.type "list",data:=.seq vs.toArray } (ns.map V.int) = H
  have hHP:H Pt = some (.tbl #[.str qn 0]):=by rw [← hH]; unfold startH; rw [if_pos rfl]
  have hHo:∀ b,b ≠ Pt→b ≠ a→H b = none:=fun b h1 h2=>by rw [← hH]; exact startH_other h1 h2
  have hHa:H a = none∧(∃ o,K.lookup a = some o) ∨ H a = some (.frz { cls:=.type "list",data:=.seq vs.toArray } (.lst (ns.map V.int)))∧K.lookup a = none:=by
    rw [← hH]; unfold startH; rw [if_neg haP]
    cases q:K.lookup a with
    | none=>exact .inr ⟨by rw [if_pos ⟨rfl,rfl⟩],rfl⟩
    | some o=>exact .inl ⟨by rw [if_neg (fun z=>nomatch z.2)],o,rfl⟩
  have small:ns.length ≤ sizeLine:=by rw [sizeLine_eq]; lia
  have hok:HOk P w H s₁.heap:=fun b u e=>by
    by_cases h1:b = Pt
    · subst h1
      rw [hHP] at e; cases e
      exact ⟨#[],hPt,trivial,fun pos cv z=>nomatch z⟩
    · by_cases h2:b = a
      · subst h2
        rcases hHa with ⟨z,_⟩ | ⟨z,_⟩
        · rw [z] at e; cases e
        · rw [z] at e; cases e
          exact ⟨ha,by rw [List.length_map]; exact small,vs,_,rv,ha⟩
      · rw [hHo b h1 h2] at e; cases e
  have dictFree:∀ {b:Addr} {o:Obj},s₁.heap.get? b = some o→o.cls ≠ .none→o.cls ≠ .type "list"→H b = none:=fun {b o} e d1 d2=>hHo b (fun z=>by rw [z,hPt] at e; cases e; exact d1 rfl) (fun z=>by rw [z,ha] at e; cases e; exact d2 rfl)
  have nsFree:∀ {b:Addr} {m:Str→Option Value},s₁.heap.Ns b m→(hidT s₁.heap H).Ns b m:=fun {b m} ⟨o,es,ep,e,d,r⟩ =>
    ⟨o,es,ep,hidT_get e (hHo b (fun z=>by rw [z,hPt] at e; cases e; cases d) (fun z=>by rw [z,ha] at e; cases e; cases d)),d,r⟩
  have hKb:K.In (hidT s₁.heap H):=fun b o e=>hidT_get (KX b o e) (by
    by_cases h1:b = Pt
    · subst h1; rw [hK] at e; cases e
    · by_cases h2:b = a
      · subst h2
        rcases hHa with ⟨z,_⟩ | ⟨_,z⟩
        · exact z
        · rw [z] at e; cases e
      · exact hHo b h1 h2)
  have hM:Mod K mg (hidT s₁.heap H):=⟨hKb,nsFree hns,⟨mb,nsFree hb,hbb⟩,let ⟨mc,h1,h2⟩:=hlim; ⟨mc,nsFree h1,h2⟩⟩
  have hB:BltAt mg (hidT s₁.heap H):=by
    obtain ⟨bm,ob,b1,b2,b3,b4,b5,b6⟩:=BM
    exact ⟨bm,ob,b1,b2,hidT_get b3 (dictFree b3 (by rw [b4]; intro z; cases z) (by rw [b4]; decide)),b4,b5,b6⟩
  have e0:Env0 P w K mg (hidT s₁.heap H) callerA [] s₁ H:=⟨rfl,hM,fun b o e=>of_hidT e,Nat.le_of_eq (hidT_size _ _),trivial,fun b hb=>absurd (show b ∈ ([] : List Addr) from hb) (by simp),hok,.of_eq hg⟩
  have hS:SqL K H a (ns.map V.int):=by
    rcases hHa with ⟨_,o,z⟩ | ⟨z,_⟩
    · have e:=KX a o z
      rw [ha] at e; cases e
      exact .inr ⟨_,vs.toArray,_,z,rfl,rfl,rfl,by rw [List.size_toArray,lenV]; exact small,by simpa using rv⟩
    · exact .inl (.inr ⟨_,z⟩)
  refine codeAny_mono ((F _ hKb (nsFree hns) hB).run callerA [] s₁ H ⟨[.ref a],[]⟩ [.ref a] [.ref a] (fun v _=>v = .bl true) (fun _ _ _=>False) hr e0 (hbind s₁ (.ref a)) (.cons rfl .nil) ⟨⟨_,0,hHP,rfl⟩,a,ns,rfl,hS,hl,fun _=>rfl⟩) fun r s' h=>?_
  cases r with
  | error e=>exact False.elim h
  | ok fl =>
    cases fl with
    | next=>exact False.elim h
    | brk=>exact False.elim h
    | cont=>exact False.elim h
    | ret u =>
      obtain ⟨v,H',os,bare,un,hok',r',q⟩:=h
      have q':v = .bl true:=q
      subst q'
      obtain rfl:u = Value.bool true:=r'
      refine ⟨rfl,⟨fun b o e=>?_,fun b o e=>un.there b o e (by simp)⟩,os,bare⟩
      by_cases h1:b = Pt
      · subst h1
        rw [hPt] at e; cases e
        obtain ⟨more,e2⟩:=un.tbls _ _ hHP
        obtain ⟨tb,e3,_⟩:=hok' _ _ e2
        refine .inr (.inl ⟨((PySem.W.codeHd_of_K KX hC).tab hPt).isCodeTable,rfl,#[],tb,rfl,?_⟩)
        rw [e3]
        simp
      · refine .inl ?_
        cases q:H b with
        | none=>exact un.keep b o e q (by intro z; exact absurd (show b ∈ ([] : List Addr) from z) (by simp)) (by simp)
        | some u =>
          by_cases h2:b = a
          · subst h2
            rcases hHa with ⟨z,_⟩ | ⟨z,_⟩
            · rw [q] at z; cases z
            · obtain ⟨e2,_⟩:=hok' _ _ (un.frzs _ _ _ z)
              rw [ha] at e; cases e
              exact e2
          · rw [hHo b h1 h2] at q; cases q
theorem walk_ofC {l:PySem.W.OpenLaw} {k:Nat} {q:Program} {loose:List Str} {XP:(Str→Option Value)→Heap→Prop} {YP:World→Heap→Prop} {d:DefRec} {K:Params→PySem.W.Frag} {x qn:Str} {Pt:Addr}
    (hn:l.most = some 63) (hdf:d.params.defaults = []) (hr:Room k callerA) (hY:∀ (w:World) (h:Heap),YP w h→(K w.params).In h∧h.get? Pt = some (PySem.W.tabObj #[]))
    (F:∀ (w:World) (mg:Str→Option Value) (fa:Addr) (h:Heap),(K w.params).In h→h.Ns mainGlobals mg→mg d.name = some (.ref fa) →
      ∃ (fd:FuncData) (c:Addr),(K w.params).lookup Pt = none∧PySem.W.codeHdIn (K w.params) c Pt = true∧(∀ (s:Shared) (u:Value),BindsTo s fd ⟨[u],[]⟩ [(x,u)]) ∧
        ∀ base:Heap,(K w.params).In base→base.Ns mainGlobals mg→BltAt mg base→FnOk l.prog w (K w.params) mg base CX0 k fa fd [x] (spLawT (K w.params) Pt qn)) :
    PySem.W.WalkO q loose XP YP l.row.toRowW d [] (fun f vs=>PySem.call f vs):=by
  refine Att.attach_call hn hdf fun w s₀ s₁ mg mb fa o pm cd doc a vs ns G Y ho hd hcd hmg hobj hints hlen hg=>?_
  obtain ⟨KX,hPt⟩:=hY w _ Y
  obtain ⟨fd,c,hK,hC,hb,hF⟩:=F w mg fa _ KX G.T.g hmg
  obtain ⟨bm,ob,b1,b2,b3,b4,b5,b6⟩:=G.T.bmain
  exact law_callC KX G.T.g G.T.b G.T.builtins G.T.nolimit hg ⟨bm,ob,b1,b2,b3,b4,b5,b6⟩ hPt hK hC hobj hints hlen hr hF hb
end DL
namespace L2
open PySem PySem.Spec PyProof.Rows
section
variable {X:Cx} {e:Expr} {p pos kpos cpos:Pos} {j:Nat} {t:TA}
end
end L2
namespace DL
open PySem L2 PyProof.Rows
section
variable {X:Cx} {e:Expr} {p pos kpos cpos:Pos} {j:Nat} {t:DTA}
end
end DL
namespace PySem
open Sem (wp)
section
variable {prog:Program} {w:World} {A:Around} {E:Value→Shared→Prop} {s:Shared}
noncomputable abbrev IsZipB (h:Heap) (z TI TO:Addr) (f0:Value) (b:Bool) : Prop:=
  h.get? z = some { cls:=.type "zip",dict:=none,data:=.fields #[f0,.bool b,.bool false,.ref TI,.ref TO],slots:=#[] }
theorem wpAny_alive {a:Addr} {Q:Option Obj→Shared→Prop} (h:Q (s.heap.get? a) s) : wpAny (model prog w) A (loadIfAlive a) Q E s:=by
  unfold loadIfAlive
  intro Γ p st
  rw [Sem.wp_loadIfAlive]
  exact h
theorem zip_busy {z TI TO T:Addr} {oT:Obj} {b:Bool} {Q:Bool→Shared→Prop} (hz:IsZipB s.heap z TI TO (rawInt T) b) (hT:s.heap.get? T = some oT)
    (hQ:∀ h',IsZipB h' z TI TO (rawInt T) true→h'.objs.size = s.heap.objs.size→(∀ c o,c ≠ z→s.heap.get? c = some o→h'.get? c = some o)→Q false { s with heap:=h' }) : wpAny (model prog w) A (Builtin.SmallTypes.ownedTupleIsFree (.ref z)) Q E s:=by
  unfold Builtin.SmallTypes.ownedTupleIsFree
  refine wpAny_bind (wpAny_field hz rfl (x:=rawInt T) rfl ?_)
  refine wpAny_bind (wpAny_alive ?_)
  rw [show ((T:Int)).toNat = T from rfl,hT]
  simp only [Option.isNone_some,Bool.false_eq_true,if_false]
  refine wpAny_bind (wpAny_field hz rfl (x:=.bool b) rfl ?_)
  cases b with
  | true=>exact wpAny_pure (hQ _ hz rfl fun _ _ _ e=>e)
  | false =>
    refine wpAny_bind (wpAny_setField_rec hz (by simp) fun h₁ hz₁ hs₁=>wpAny_pure ?_)
    exact hQ h₁ hz₁ hs₁.1 fun c o hc e=>hs₁.extBut _ _ hc e
theorem zip_next_item2 {z TI TO i1 i2 l1 l2 T:Addr} {oT:Obj} {bb:Bool} {k1 k2:Nat} {xs ys:Array Value} {x y:Value} {Q:Value→Shared→Prop} (D:ZipApart z TI TO i1 i2 l1 l2)
    (hz:IsZipB s.heap z TI TO (rawInt T) bb) (hTI:IsPair s.heap TI (.ref i1) (.ref i2)) (hT:s.heap.get? T = some oT)
    (h1:s.heap.IsListIter i1 l1 k1) (h2:s.heap.IsListIter i2 l2 k2) (hl1:s.heap.IsList l1 xs) (hl2:s.heap.IsList l2 ys) (hx:xs[k1]? = some x) (hy:ys[k2]? = some y)
    (hQ:∀ h',IsZipB h' z TI TO (rawInt T) true→h'.IsListIter i1 l1 (k1 + 1)→h'.IsListIter i2 l2 (k2 + 1)→IsPair h' s.heap.objs.size x y→h'.objs.size = s.heap.objs.size + 1 →
      (∀ c o,c ≠ z→c ≠ i1→c ≠ i2→s.heap.get? c = some o→h'.get? c = some o)→Q (.ref s.heap.objs.size) { s with heap:=h' }) :
    wpAny (model prog w) A (Builtin.«zip.__next__» ⟨[.ref z],[]⟩) (fun fin s'=>∃ v,fin = .done (.ret v)∧Q v s') E s:=by
  show wpAny _ _ (field (.ref z) 2 >>= _) _ _ _
  refine wpAny_bind (wpAny_field hz rfl (x:=.bool false) rfl ?_)
  show wpAny _ _ (field (.ref z) 3 >>= _) _ _ _
  refine wpAny_bind (wpAny_field hz rfl (x:=.ref TI) rfl ?_)
  refine wpAny_bind (wpAny_seqItems hTI rfl ?_)
  show wpAny _ _ (Builtin.SmallTypes.ownedTupleIsFree (.ref z) >>= _) _ _ _
  refine wpAny_bind (zip_busy hz hT fun h₁ hz₁ hsz₁ hk₁=>?_)
  simp only [Bool.false_eq_true,if_false]
  have h1₁:h₁.IsListIter i1 l1 k1:=h1.at fun o e=>hk₁ _ o D.i1z e
  have h2₁:h₁.IsListIter i2 l2 k2:=h2.at fun o e=>hk₁ _ o D.i2z e
  have hl1₁:h₁.IsList l1 xs:=hl1.at fun o e=>hk₁ _ o D.l1z e
  have hl2₁:h₁.IsList l2 ys:=hl2.at fun o e=>hk₁ _ o D.l2z e
  refine wpAny_bind ?_
  rw [← Array.forIn_toList]
  simp only [List.forIn_cons,List.forIn_nil]
  refine wpAny_bind (wpAny_bind (wpAny_holding ?_))
  show wpAny _ _ (Builtin.SmallTypes.nextOf (.ref i1) >>= _) _ _ _
  refine wpAny_bind (wpAny_nextOf_list_item h1₁ hl1₁ hx fun h₂ h1₂ hs₂=>wpAny_pure (wpAny_pure ?_))
  have h2₂:h₂.IsListIter i2 l2 k2:=h2₁.at fun o e=>hs₂.extBut _ _ D.i12.symm e
  have hl2₂:h₂.IsList l2 ys:=hl2₁.at fun o e=>hs₂.extBut _ _ D.l2i1 e
  refine wpAny_bind (wpAny_bind (wpAny_holding ?_))
  show wpAny _ _ (Builtin.SmallTypes.nextOf (.ref i2) >>= _) _ _ _
  refine wpAny_bind (wpAny_nextOf_list_item h2₂ hl2₂ hy fun h₃ h2₃ hs₃=>wpAny_pure (wpAny_pure (wpAny_pure ?_)))
  show wpAny _ _ (newTuple [x,y] >>= _) _ _ _
  refine wpAny_bind (wpAny_newTuple ?_)
  have hsz:h₃.objs.size = s.heap.objs.size:=by rw [hs₃.1,hs₂.1,hsz₁]
  have hz₃:IsZipB h₃ z TI TO (rawInt T) true:=hs₃.extBut _ _ D.i2z.symm (hs₂.extBut _ _ D.i1z.symm hz₁)
  have h1₃:h₃.IsListIter i1 l1 (k1 + 1):=h1₂.at fun o e=>hs₃.extBut _ _ D.i12 e
  have key:=hQ (h₃.push { cls:=.type "tuple",data:=.seq #[x,y] }) (Heap.get?_push_of_some _ hz₃) (h1₃.at fun o e=>Heap.get?_push_of_some _ e) (h2₃.at fun o e=>Heap.get?_push_of_some _ e)
    (by rw [← hsz]; exact Heap.get?_push_size _ rfl) (by rw [Heap.size_push,hsz]) fun c o c1 c2 c3 e=>Heap.get?_push_of_some _ (hs₃.extBut _ _ c3 (hs₂.extBut _ _ c2 (hk₁ _ _ c1 e)))
  rw [← hsz] at key
  exact wpAny_pure ⟨_,rfl,key⟩
theorem zip_next_end2 {z TI TO i1 i2 l1 l2 T:Addr} {oT:Obj} {bb:Bool} {k1 k2:Nat} {xs ys:Array Value} {Q:Fin→Shared→Prop} (hh:A.handled = none) (D:ZipApart z TI TO i1 i2 l1 l2)
    (hz:IsZipB s.heap z TI TO (rawInt T) bb) (hTI:IsPair s.heap TI (.ref i1) (.ref i2)) (hT:s.heap.get? T = some oT)
    (h1:s.heap.IsListIter i1 l1 k1) (h2:s.heap.IsListIter i2 l2 k2) (hl1:s.heap.IsList l1 xs) (hl2:s.heap.IsList l2 ys) (hend:xs[k1]? = none ∨ ys[k2]? = none)
    (hE:∀ h' e,(∀ c o,c ≠ z→c ≠ i1→c ≠ i2→s.heap.get? c = some o→h'.get? c = some o)→(∃ o,h'.get? e = some o∧o.cls = .type "StopIteration")→E (.ref e) { s with heap:=h' }) :
    wpAny (model prog w) A (Builtin.«zip.__next__» ⟨[.ref z],[]⟩) Q E s:=by
  show wpAny _ _ (field (.ref z) 2 >>= _) _ _ _
  refine wpAny_bind (wpAny_field hz rfl (x:=.bool false) rfl ?_)
  show wpAny _ _ (field (.ref z) 3 >>= _) _ _ _
  refine wpAny_bind (wpAny_field hz rfl (x:=.ref TI) rfl ?_)
  refine wpAny_bind (wpAny_seqItems hTI rfl ?_)
  show wpAny _ _ (Builtin.SmallTypes.ownedTupleIsFree (.ref z) >>= _) _ _ _
  refine wpAny_bind (zip_busy hz hT fun h₁ hz₁ hsz₁ hk₁=>?_)
  simp only [Bool.false_eq_true,if_false]
  have h1₁:h₁.IsListIter i1 l1 k1:=h1.at fun o e=>hk₁ _ o D.i1z e
  have h2₁:h₁.IsListIter i2 l2 k2:=h2.at fun o e=>hk₁ _ o D.i2z e
  have hl1₁:h₁.IsList l1 xs:=hl1.at fun o e=>hk₁ _ o D.l1z e
  have hl2₁:h₁.IsList l2 ys:=hl2.at fun o e=>hk₁ _ o D.l2z e
  refine wpAny_bind ?_
  rw [← Array.forIn_toList]
  simp only [List.forIn_cons,List.forIn_nil]
  refine wpAny_bind (wpAny_bind (wpAny_holding ?_))
  show wpAny _ _ (Builtin.SmallTypes.nextOf (.ref i1) >>= _) _ _ _
  cases hx:xs[k1]? with
  | none=>exact wpAny_bind (wpAny_nextOf_list_end hh h1₁ hl1₁ hx fun h₂ e hs₂ he=>hE h₂ e (fun c o c1 c2 c3 q=>hs₂ _ _ c2 (hk₁ _ _ c1 q)) he)
  | some x =>
    have hy:ys[k2]? = none:=by rcases hend with h | h; rw [hx] at h; cases h; exact h
    refine wpAny_bind (wpAny_nextOf_list_item h1₁ hl1₁ hx fun h₂ h1₂ hs₂=>wpAny_pure (wpAny_pure ?_))
    have h2₂:h₂.IsListIter i2 l2 k2:=h2₁.at fun o e=>hs₂.extBut _ _ D.i12.symm e
    have hl2₂:h₂.IsList l2 ys:=hl2₁.at fun o e=>hs₂.extBut _ _ D.l2i1 e
    refine wpAny_bind (wpAny_bind (wpAny_holding ?_))
    show wpAny _ _ (Builtin.SmallTypes.nextOf (.ref i2) >>= _) _ _ _
    exact wpAny_bind (wpAny_nextOf_list_end hh h2₂ hl2₂ hy fun h₃ e hs₃ he=>hE h₃ e (fun c o c1 c2 c3 q=>hs₃ _ _ c3 (hs₂.extBut _ _ c2 (hk₁ _ _ c1 q))) he)
structure ZipAt (h:Heap) (z TI TO i1 i2 l1 l2:Addr) (xs ys:Array Value) (i:Nat) : Prop where
  ti:IsPair h TI (.ref i1) (.ref i2)
  a1:h.IsListIter i1 l1 i
  a2:h.IsListIter i2 l2 i
  b1:h.IsList l1 xs
  b2:h.IsList l2 ys
  f:(IsZip h z TI TO .none∧∃ a b,IsPair h TO a b) ∨ ∃ (T:Addr) (b:Bool) (x y:Value),IsZipB h z TI TO (rawInt T) b∧IsPair h T x y∧T ≠ z∧T ≠ TO∧T ≠ i1∧T ≠ i2
theorem ZipAt.ty {z TI TO i1 i2 l1 l2:Addr} {xs ys:Array Value} {i:Nat} (Z:ZipAt s.heap z TI TO i1 i2 l1 l2 xs ys i) : s.TypeIs (.ref z) "zip":=by
  rcases Z.f with ⟨hz,_⟩ | ⟨T,b,x,y,hz,_⟩ <;> exact ⟨_,hz,rfl⟩
theorem ZipAt.lt {h:Heap} {z TI TO i1 i2 l1 l2:Addr} {xs ys:Array Value} {i:Nat} (Z:ZipAt h z TI TO i1 i2 l1 l2 xs ys i) : z < h.objs.size∧i1 < h.objs.size∧i2 < h.objs.size:=by
  refine ⟨?_,?_,?_⟩
  · rcases Z.f with ⟨hz,_⟩ | ⟨T,b,x,y,hz,_⟩ <;> exact Heap.lt_size hz
  · obtain ⟨_,e,_⟩:=Z.a1; exact Heap.lt_size e
  · obtain ⟨_,e,_⟩:=Z.a2; exact Heap.lt_size e
theorem ZipAt.frame {h h':Heap} {z TI TO i1 i2 l1 l2 S:Addr} {xs ys:Array Value} {i:Nat} (Z:ZipAt h z TI TO i1 i2 l1 l2 xs ys i) (hk:∀ c o,c ≠ S→h.get? c = some o→h'.get? c = some o)
    (hS:S ∉ [z,TI,TO,i1,i2,l1,l2]) (hn:∀ x y,¬ IsPair h S x y) : ZipAt h' z TI TO i1 i2 l1 l2 xs ys i:=by
  simp only [List.mem_cons,List.not_mem_nil,or_false,not_or] at hS
  obtain ⟨s1,s2,s3,s4,s5,s6,s7⟩:=hS
  refine ⟨hk _ _ (Ne.symm s2) Z.ti,Z.a1.at fun o e=>hk _ o (Ne.symm s4) e,Z.a2.at fun o e=>hk _ o (Ne.symm s5) e,Z.b1.at fun o e=>hk _ o (Ne.symm s6) e,Z.b2.at fun o e=>hk _ o (Ne.symm s7) e,?_⟩
  rcases Z.f with ⟨hz,a,b,ht⟩ | ⟨T,b,x,y,hz,hT,r⟩
  · exact .inl ⟨hk _ _ (Ne.symm s1) hz,a,b,hk _ _ (Ne.symm s3) ht⟩
  · exact .inr ⟨T,b,x,y,hk _ _ (Ne.symm s1) hz,hk _ _ (fun e=>hn x y (e ▸ hT)) hT,r⟩
theorem zip_item {z TI TO i1 i2 l1 l2:Addr} {xs ys:Array Value} {i:Nat} {x y:Value} {Q:Option Value→Shared→Prop} (D:ZipApart z TI TO i1 i2 l1 l2) (Z:ZipAt s.heap z TI TO i1 i2 l1 l2 xs ys i) (hx:xs[i]? = some x) (hy:ys[i]? = some y)
    (hQ:∀ h',ZipAt h' z TI TO i1 i2 l1 l2 xs ys (i + 1)→IsPair h' s.heap.objs.size x y→h'.objs.size = s.heap.objs.size + 1→(∀ c o,c ≠ z→c ≠ TO→c ≠ i1→c ≠ i2→s.heap.get? c = some o→h'.get? c = some o)→Q (some (.ref s.heap.objs.size)) { s with heap:=h' }) :
    wpAny (model prog w) A (pyNext (.ref z)) Q E s:=by
  have hT:=Z.ty
  obtain ⟨lz,li1,li2⟩:=Z.lt
  rcases Z.f with ⟨hz,a,b,ht⟩ | ⟨T,b,u,v,hz,hTT,t1,t2,t3,t4⟩
  · have lt:=Heap.lt_size ht
    refine wpAny_pyNext_zip_item D hz Z.ti ht Z.a1 Z.a2 Z.b1 Z.b2 hx hy fun h' c1 c2 c3 c4 c5 c6 c7=>?_
    exact hQ h' ⟨c7 _ _ D.TIz D.TITO D.TIi1 D.TIi2 Z.ti,c3,c4,Z.b1.at fun o e=>c7 _ o D.l1z D.l1TO D.l1i1 D.l1i2 e,Z.b2.at fun o e=>c7 _ o D.l2z D.l2TO D.l2i1 D.l2i2 e,
      .inr ⟨_,false,x,y,c1,c5,Nat.ne_of_gt lz,Nat.ne_of_gt lt,Nat.ne_of_gt li1,Nat.ne_of_gt li2⟩⟩ c5 c6 c7
  · unfold pyNext
    refine wpAny_bind (wpAny_attempt (wpAny_callSpecial?_slot (name:=Str.ofString "__next__") hT F.slot_zip_next
      (wpAny_call_entry F.slot_zip_next hT F.entry_zip_next
        (zip_next_item2 D hz Z.ti hTT Z.a1 Z.a2 Z.b1 Z.b2 hx hy fun h' c1 c3 c4 c5 c6 c7=>wpAny_pure ?_) (F.args_zip_next_1 _))))
    exact hQ h' ⟨c7 _ _ D.TIz D.TIi1 D.TIi2 Z.ti,c3,c4,Z.b1.at fun o e=>c7 _ o D.l1z D.l1i1 D.l1i2 e,Z.b2.at fun o e=>c7 _ o D.l2z D.l2i1 D.l2i2 e,
      .inr ⟨T,true,u,v,c1,c7 _ _ t1 t3 t4 hTT,t1,t2,t3,t4⟩⟩ c5 c6 fun c o d1 _ d3 d4 e=>c7 c o d1 d3 d4 e
theorem zip_end {z TI TO i1 i2 l1 l2:Addr} {xs ys:Array Value} {i:Nat} {Q:Option Value→Shared→Prop} (hh:A.handled = none) (D:ZipApart z TI TO i1 i2 l1 l2) (Z:ZipAt s.heap z TI TO i1 i2 l1 l2 xs ys i) (hend:xs[i]? = none ∨ ys[i]? = none)
    (hQ:∀ h',(∀ c o,c ≠ z→c ≠ TO→c ≠ i1→c ≠ i2→s.heap.get? c = some o→h'.get? c = some o)→Q none { s with heap:=h' }) : wpAny (model prog w) A (pyNext (.ref z)) Q E s:=by
  have hT:=Z.ty
  rcases Z.f with ⟨hz,a,b,ht⟩ | ⟨T,b,u,v,hz,hTT,t1,t2,t3,t4⟩
  · exact wpAny_pyNext_zip_end hh D hz Z.ti ht Z.a1 Z.a2 Z.b1 Z.b2 hend hQ
  · unfold pyNext
    refine wpAny_bind (wpAny_attempt (wpAny_callSpecial?_slot (name:=Str.ofString "__next__") hT F.slot_zip_next
      (wpAny_call_entry F.slot_zip_next hT F.entry_zip_next (zip_next_end2 hh D hz Z.ti hTT Z.a1 Z.a2 Z.b1 Z.b2 hend fun h' e hk he=>?_) (F.args_zip_next_1 _))))
    obtain ⟨o,ho,hc⟩:=he
    refine wpAny_bind (wpAny_isInstance (T:="StopIteration") (b:=true) ⟨o,ho,hc⟩ isSubtype_stop ?_)
    exact wpAny_pure (hQ _ fun c o d1 _ d3 d4 e=>hk c o d1 d3 d4 e)
theorem ne_lo {T z lo:Nat} (h:z < lo) (h':lo ≤ T) : T ≠ z:=by lia
structure Rows2 (h:Heap) (xs ys:Array Value) (lo:Nat) (acc:Array Value) : Prop where
  at':∀ (j:Nat) (v:Value),acc[j]? = some v→∃ (T:Addr) (x y:Value),v = Value.ref T∧xs[j]? = some x∧ys[j]? = some y∧IsPair h T x y∧lo ≤ T
  one:∀ (i j:Nat) (v:Value),acc[i]? = some v→acc[j]? = some v→i = j
theorem extend_zip {R:Result→Shared→Prop} {z TI TO i1 i2 l1 l2 S lo:Addr} {xs ys:Array Value} (res:Value) (hh:A.handled = none) (D:ZipApart z TI TO i1 i2 l1 l2) (hS:S ∉ [z,TI,TO,i1,i2,l1,l2]) (hSlo:S < lo)
    (hlo:z < lo∧TO < lo∧i1 < lo∧i2 < lo) (hz:xs.size ≤ sizeLine) :
    ∀ (k i:Nat) (s:Shared) (acc:Array Value) (c:Nat),min xs.size ys.size - i = k→i ≤ min xs.size ys.size→ZipAt s.heap z TI TO i1 i2 l1 l2 xs ys i→lo ≤ s.heap.objs.size→s.heap.get? S = some { cls:=.type "list",dict:=none,data:=.seq acc c,slots:=#[] }→acc.size = i→Rows2 s.heap xs ys lo acc →
    (∀ h' acc' c',(∀ b o,b ≠ S→b ≠ z→b ≠ TO→b ≠ i1→b ≠ i2→s.heap.get? b = some o→h'.get? b = some o)→h'.get? S = some { cls:=.type "list",dict:=none,data:=.seq acc' c',slots:=#[] }→acc'.size = min xs.size ys.size→Rows2 h' xs ys lo acc'→R (.ok (.ret res)) { s with heap:=h' }) →
    codeAny (model prog w) A (.builtin "list.extend.loop" ⟨[.ref S,.ref z,res],[]⟩) R s:=by
  have hS':=hS
  simp only [List.mem_cons,List.not_mem_nil,or_false,not_or] at hS'
  obtain ⟨s1,s2,s3,s4,s5,s6,s7⟩:=hS'
  intro k
  induction k with
  | zero =>
    intro i s acc c hk hi Z hlos hSl hacc rows hR
    have hin:i = min xs.size ys.size:=by lia
    have hend:xs[i]? = none ∨ ys[i]? = none:=by
      rcases Nat.le_total xs.size ys.size with h | h
      · exact .inl (Array.getElem?_eq_none (by lia))
      · exact .inr (Array.getElem?_eq_none (by lia))
    refine codeAny_builtin F.entry_extend_loop ?_
    rw [Around.under_plainId F.plain_extend_loop _]
    show wpAny _ A.in1 (pyNext (.ref z) >>= _) _ _ s
    refine wpAny_bind (zip_end hh D Z hend fun h' hk'=>?_)
    refine wpAny_pure (hR h' acc c (fun b o _ d1 d2 d3 d4 e=>hk' b o d1 d2 d3 d4 e) (hk' _ _ s1 s3 s4 s5 hSl) (by lia) ⟨fun j v hj=>?_,rows.one⟩)
    obtain ⟨T,x,y,e1,e2,e3,e4,e5⟩:=rows.at' j v hj
    exact ⟨T,x,y,e1,e2,e3,hk' _ _ (ne_lo hlo.1 e5) (ne_lo hlo.2.1 e5) (ne_lo hlo.2.2.1 e5) (ne_lo hlo.2.2.2 e5) e4,e5⟩
  | succ k ih =>
    intro i s acc c hk hi Z hlos hSl hacc rows hR
    have hlt:i < min xs.size ys.size:=by lia
    have hx:=Array.getElem?_eq_getElem (xs:=xs) (i:=i) (by lia)
    have hy:=Array.getElem?_eq_getElem (xs:=ys) (i:=i) (by lia)
    refine codeAny_builtin F.entry_extend_loop ?_
    rw [Around.under_plainId F.plain_extend_loop _]
    show wpAny _ A.in1 (pyNext (.ref z) >>= _) _ _ s
    refine wpAny_bind (zip_item D Z hx hy fun h' Z' hp hsz hk'=>?_)
    have hSl':=hk' _ _ s1 s3 s4 s5 hSl
    show wpAny _ A.in1 (updateSeq S (·.push (.ref s.heap.objs.size)) >>= _) _ _ _
    refine wpAny_bind ?_
    have hSne:∀ x y,¬ IsPair h' S x y:=fun x y e=>by have e':h'.get? S = some _:=e; rw [hSl'] at e'; simp at e'
    have hk2:∀ c o,c ≠ S→h'.get? c = some o→(h'.update S (Obj.mapSeq (·.push (Value.ref s.heap.objs.size)))).get? c = some o:=fun c o hc e=>(Heap.get?_update_other _ _ (Ne.symm hc)).trans e
    refine wpAny_updateSeq hSl' rfl (wpAny_pure ⟨plainId_quiet F.plain_extend_loop _,ih (i + 1) _ (acc.push (.ref s.heap.objs.size)) _ (by lia) hlt (Z'.frame hk2 hS hSne) (by show lo ≤ (h'.update S _).objs.size; rw [Heap.size_update,hsz]; exact Nat.le_trans hlos (Nat.le_succ _)) (Heap.get?_update_self _ hSl' rfl) (by rw [Array.size_push,hacc]) ⟨fun j v hj=>?_,fun a b v ha hb=>?_⟩ fun h'' acc' c' hk'' hS'' ha hrows=>?_⟩)
      (by rw [hacc]; lia) (by show (acc.push _).size ≤ sizeLine + 1; rw [Array.size_push,hacc]; lia)
    · rw [Array.getElem?_push] at hj
      split at hj
      · rename_i ej
        cases hj
        rw [ej,hacc]
        exact ⟨_,_,_,rfl,hx,hy,hk2 _ _ (ne_lo hSlo hlos) hp,hlos⟩
      · obtain ⟨T,x,y,e1,e2,e3,e4,e5⟩:=rows.at' j v hj
        exact ⟨T,x,y,e1,e2,e3,hk2 _ _ (ne_lo hSlo e5) (hk' _ _ (ne_lo hlo.1 e5) (ne_lo hlo.2.1 e5) (ne_lo hlo.2.2.1 e5) (ne_lo hlo.2.2.2 e5) e4),e5⟩
    · have old:∀ m:Nat,acc[m]? = some (Value.ref s.heap.objs.size)→False:=fun m hm=>by
        obtain ⟨T,x,y,e1,_,_,e4,_⟩:=rows.at' m _ hm
        cases e1
        exact Nat.lt_irrefl _ (Heap.lt_size e4)
      rw [Array.getElem?_push] at ha hb
      split at ha
      · split at hb
        · lia
        · cases ha
          exact (old _ hb).elim
      · split at hb
        · cases hb
          exact (old _ ha).elim
        · exact rows.one _ _ _ ha hb
    · exact hR h'' acc' c' (fun b o d0 d1 d2 d3 d4 e=>hk'' b o d0 d1 d2 d3 d4 (hk2 _ _ d0 (hk' _ _ d1 d2 d3 d4 e))) hS'' ha hrows
theorem zip_no_len:typeLookup (.type "zip") "__len__" = pure none:=by rw [typeLookup_type,builtinLookup_eq_fast]; kernel_rfl
theorem zip_no_hint:typeLookup (.type "zip") "__length_hint__" = pure none:=by rw [typeLookup_type,builtinLookup_eq_fast]; kernel_rfl
theorem extend_zip_all {R:Result→Shared→Prop} {z TI TO i1 i2 l1 l2 S lo:Addr} {xs ys:Array Value} {c₀:Nat} (res:Value) (hh:A.handled = none) (D:ZipApart z TI TO i1 i2 l1 l2) (hS:S ∉ [z,TI,TO,i1,i2,l1,l2]) (hSlo:S < lo)
    (hlo:z < lo∧TO < lo∧i1 < lo∧i2 < lo) (hz:xs.size ≤ sizeLine) (Z:ZipAt s.heap z TI TO i1 i2 l1 l2 xs ys 0) (hlos:lo ≤ s.heap.objs.size) (hSl:s.heap.get? S = some { cls:=.type "list",data:=.seq #[] c₀ })
    (hR:∀ h' acc' c',(∀ b o,b ≠ S→b ≠ z→b ≠ TO→b ≠ i1→b ≠ i2→s.heap.get? b = some o→h'.get? b = some o)→h'.get? S = some { cls:=.type "list",dict:=none,data:=.seq acc' c',slots:=#[] }→acc'.size = min xs.size ys.size→Rows2 h' xs ys lo acc'→R (.ok (.ret res)) { s with heap:=h' }) :
    wpAny (model prog w) A.in1 (Builtin.List.listExtendWith (.ref S) (.ref z) res)
      (fun fin s'=>match fin with | .done f=>R (.ok f) s' | .again c'=>c'.quiet = true∧codeAny (model prog w) A c' R s') (fun e s'=>R (.error e) s') s:=by
  have hT:=Z.ty
  have hS':=hS
  simp only [List.mem_cons,List.not_mem_nil,or_false,not_or] at hS'
  have hSz:S ≠ z:=hS'.1
  unfold Builtin.List.listExtendWith
  refine wpAny_bind (wpAny_typeOf hT ?_)
  have h1:Builtin.List.listSameRef (.ref S) (.ref z) = false:=by simp [Builtin.List.listSameRef,hSz]
  have h2:(Value.type "zip" == Value.type "list") = false:=by decide
  have h3:(Value.type "zip" == Value.type "tuple") = false:=by decide
  simp only [h1,h2,h3,Bool.or_false,Bool.false_eq_true,if_false]
  have hself:∀ {Q:Value→Shared→Prop} {E:Value→Shared→Prop},Q (.ref z) s→wpAny (model prog w) A.in1 (pyIter (.ref z)) Q E s:=fun h=>by
    rcases Z.f with ⟨hz,_⟩ | ⟨T,b,x,y,hz,_⟩
    · exact wpAny_pyIter_zip hz h
    · refine wpAny_pyIter_slot hT F.slot_zip_iter (wpAny_call_entry F.slot_zip_iter hT F.entry_zip_iter ?_ (F.args_zip_iter_1 _))
      show wpAny _ _ (ret (.ref z)) _ _ s
      exact wpAny_pure ⟨_,rfl,"zip",_,hT,F.slot_zip_next.lookup,h⟩
  refine wpAny_bind (hself ?_)
  refine wpAny_bind (wpAny_holding ?_)
  unfold Builtin.List.listLengthHint
  refine wpAny_bind (wpAny_specialOf hT zip_no_len ?_)
  show wpAny _ A.in1 (specialOf (Value.ref z) (Str.ofString "__length_hint__") >>= _) _ _ _
  refine wpAny_bind (wpAny_specialOf hT zip_no_hint ?_)
  refine wpAny_pure ?_
  show wpAny _ A.in1 (rule "list.extend.makes-room" >>= fun _=>Builtin.List.listTouch (.ref S) >>= fun _ =>
    again (.builtin "list.extend.loop" ⟨[.ref S,.ref z,res],[]⟩)) _ _ _
  refine wpAny_bind (wpAny_rule ?_)
  refine wpAny_bind ?_
  show wpAny _ A.in1 (updateSeq S (·.push .none) >>= fun _=>updateSeq S (·.pop)) _ _ _
  refine wpAny_bind (wpAny_updateSeq hSl rfl ?_)
  have hS₂:=Heap.get?_update_self (Obj.mapSeq (·.push Value.none)) hSl rfl
  refine wpAny_updateSeq (hz:=by seq_fits) hS₂ rfl ?_
  have hS₃:=Heap.get?_update_self (Obj.mapSeq (·.pop)) hS₂ rfl
  have oth:∀ b o,b ≠ S→s.heap.get? b = some o→((s.heap.update S (Obj.mapSeq (·.push Value.none))).update S (Obj.mapSeq (·.pop))).get? b = some o:=
    fun b o hb e=>(Heap.get?_update_other _ _ (Ne.symm hb)).trans ((Heap.get?_update_other _ _ (Ne.symm hb)).trans e)
  have hSne:∀ x y,¬ IsPair s.heap S x y:=fun x y e=>by have e':s.heap.get? S = some _:=e; rw [hSl] at e'; simp at e'
  refine wpAny_pure ⟨plainId_quiet F.plain_extend_loop _,extend_zip (A:=A) res hh D hS hSlo hlo hz _ 0 _ #[] _ rfl (Nat.zero_le _) (Z.frame oth hS hSne) (by show lo ≤ ((s.heap.update S _).update S _).objs.size; rw [Heap.size_update,Heap.size_update]; exact hlos) hS₃ rfl ⟨fun j v hj=>by simp at hj,fun a b v ha=>by simp at ha⟩ fun h' acc' c' hk hS' ha hr=>?_⟩
  exact hR h' acc' c' (fun b o d0 d1 d2 d3 d4 e=>hk b o d0 d1 d2 d3 d4 (oth b o d0 e)) hS' ha hr
theorem call_list_zip {Q:Value→Shared→Prop} {z TI TO i1 i2 l1 l2:Addr} {xs ys:Array Value} (hh:A.handled = none) (D:ZipApart z TI TO i1 i2 l1 l2) (hlt:z < s.heap.objs.size∧TI < s.heap.objs.size∧TO < s.heap.objs.size∧i1 < s.heap.objs.size∧i2 < s.heap.objs.size∧l1 < s.heap.objs.size∧l2 < s.heap.objs.size)
    (hz:xs.size ≤ sizeLine) (Z:ZipAt s.heap z TI TO i1 i2 l1 l2 xs ys 0)
    (hQ:∀ h' acc' c',(∀ b o,b ≠ z→b ≠ TO→b ≠ i1→b ≠ i2→s.heap.get? b = some o→h'.get? b = some o)→h'.get? s.heap.objs.size = some { cls:=.type "list",dict:=none,data:=.seq acc' c',slots:=#[] }→acc'.size = min xs.size ys.size→Rows2 h' xs ys (s.heap.objs.size + 1) acc'→Q (.ref s.heap.objs.size) { s with heap:=h' }) :
    wpAny (model prog w) A (call (.type "list") [.ref z]) Q E s:=by
  obtain ⟨q1,q2,q3,q4,q5,q6,q7⟩:=hlt
  refine callType_codes (Q₁:=fun obj s₁=>obj = .ref s.heap.objs.size∧s₁ = { s with heap:=s.heap.push { cls:=.type "list",data:=.seq #[] } }) F.called_list (F.typeCall_list_1 _) F.entry_list_init
    (code_list_new _ ⟨rfl,rfl⟩) fun obj s₁ h₁=>?_
  obtain ⟨rfl,rfl⟩:=h₁
  have hS:(s.heap.push { cls:=.type "list",data:=.seq #[] }).get? s.heap.objs.size = some { cls:=.type "list",data:=.seq #[] }:=Heap.get?_push_size _ rfl
  have hSf:s.heap.objs.size ∉ [z,TI,TO,i1,i2,l1,l2]:=fun hm=>by
    simp only [List.mem_cons,List.not_mem_nil,or_false] at hm
    rcases hm with e | e | e | e | e | e | e
    · exact Nat.ne_of_gt q1 e
    · exact Nat.ne_of_gt q2 e
    · exact Nat.ne_of_gt q3 e
    · exact Nat.ne_of_gt q4 e
    · exact Nat.ne_of_gt q5 e
    · exact Nat.ne_of_gt q6 e
    · exact Nat.ne_of_gt q7 e
  have hkp:∀ b o,s.heap.get? b = some o→(s.heap.push { cls:=.type "list",data:=.seq #[] }).get? b = some o:=fun b o e=>Heap.get?_push_of_some _ e
  have hSne0:∀ x y,¬ IsPair s.heap s.heap.objs.size x y:=fun x y e=>Nat.lt_irrefl _ (Heap.lt_size e)
  have Z1:ZipAt (s.heap.push { cls:=.type "list",data:=.seq #[] }) z TI TO i1 i2 l1 l2 xs ys 0:=Z.frame (fun c o _ e=>hkp c o e) hSf hSne0
  refine ⟨⟨_,hS,rfl⟩,F.args_list_init_2 _ _,?_⟩
  show wpAny _ A.in1.in1 (do let old ← Builtin.List.listItems (.ref s.heap.objs.size); Builtin.List.listUpdate (.ref s.heap.objs.size) (fun _=>#[]); letGo old.toList.reverse; Builtin.List.listExtendWith (.ref s.heap.objs.size) (.ref z) .none) _ _ _
  refine wpAny_bind ?_
  unfold Builtin.List.listItems
  refine wpAny_bind (wpAny_seqItems hS rfl (wpAny_pure ?_))
  show wpAny _ A.in1.in1 (updateSeq s.heap.objs.size (fun _=>#[]) >>= fun _=>letGo (#[] : Array Value).toList.reverse >>= fun _=>Builtin.List.listExtendWith (.ref s.heap.objs.size) (.ref z) .none) _ _ _
  refine wpAny_bind (wpAny_updateSeq hS rfl ?_)
  have hS₂:=Heap.get?_update_self (Obj.mapSeq (fun _=>(#[] : Array Value))) hS rfl
  have oth:∀ b o,b ≠ s.heap.objs.size→(s.heap.push { cls:=.type "list",data:=.seq #[] }).get? b = some o→((s.heap.push { cls:=.type "list",data:=.seq #[] }).update s.heap.objs.size (Obj.mapSeq (fun _=>(#[] : Array Value)))).get? b = some o:=
    fun b o hb e=>(Heap.get?_update_other _ _ (Ne.symm hb)).trans e
  have hSne:∀ x y,¬ IsPair (s.heap.push { cls:=.type "list",data:=.seq #[] }) s.heap.objs.size x y:=fun x y e=>by
    have e':(s.heap.push { cls:=.type "list",data:=.seq #[] }).get? s.heap.objs.size = some _:=e
    rw [hS] at e'
    simp at e'
  refine wpAny_bind (wpAny_letGo ?_)
  refine extend_zip_all (A:=A.in1) (lo:=s.heap.objs.size + 1) .none hh D hSf (Nat.lt_succ_self _) ⟨Nat.lt_succ_of_lt q1,Nat.lt_succ_of_lt q3,Nat.lt_succ_of_lt q4,Nat.lt_succ_of_lt q5⟩ hz (Z1.frame oth hSf hSne) (by show _ ≤ (Heap.update _ _ _).objs.size; rw [Heap.size_update,Heap.size_push]; exact Nat.le_refl _) hS₂ fun h' acc' c' hk hS' ha hr=>?_
  exact ⟨rfl,hQ h' acc' c' (fun b o d1 d2 d3 d4 e=>hk b o (Nat.ne_of_lt (Heap.lt_size e)) d1 d2 d3 d4 (oth b o (Nat.ne_of_lt (Heap.lt_size e)) (hkp b o e))) hS' ha hr⟩
end
end PySem
namespace L2
open PySem PySem.Spec PyProof.Rows
section
variable {X:Cx} {pins:List (Addr × Obj)} {σ:List (Option V)} {H H':Hp} {s:Shared} {h':Heap}
theorem Inv.laidAll {t':Nat} (I:Inv X pins σ H s) (k:∀ b u,s.heap.get? b = some u→h'.get? b = some u) (same:∀ b o,H b = some o→H' b = some o)
    (new:∀ b o,H' b = some o→H b = none→s.heap.objs.size ≤ b∧ObjOk X.prog X.w H' h' b o) : Inv X pins σ H' { s with heap:=h',toks:=t' }:=by
  refine I.un ⟨fun b u q _ _ _=>k b u q,fun b u q _ _ _=>⟨u.slots,k b u q⟩,fun b u q n _=>?_,fun b u q _=>⟨u,k b u q⟩,fun b xs q=>same _ _ q,fun b u xs q=>same _ _ q,fun b ps q=>⟨#[],by rw [same _ _ q]; simp⟩⟩ fun b o e=>?_
  · cases e:H' b with
    | none=>rfl
    | some o=>exact absurd (Heap.lt_size q) (Nat.not_lt.mpr (new b o e n).1)
  · cases eb:H b with
    | none=>exact (new b o e eb).2
    | some u =>
      have:=same b u eb
      rw [e] at this
      cases this
      exact (I.hok b o eb).stay (fun c v _ q=>k c v q) (fun c q=>same _ _ q) fun c xs q=>same _ _ q
end
end L2
namespace L2
open PySem PySem.Spec PyProof.Rows
theorem refs_of:∀ {l:List Value},(∀ (j:Nat) (v:Value),l[j]? = some v→∃ T,v = Value.ref T)→∃ as:List Addr,l = as.map Value.ref
  | [],_=>⟨[],rfl⟩
  | v :: l,h=>by
    obtain ⟨T,rfl⟩:=h 0 v rfl
    obtain ⟨as,rfl⟩:=refs_of (l:=l) fun j v e=>h (j + 1) v e
    exact ⟨T :: as,rfl⟩
theorem vals_refs:∀ as:List Addr,Vals (as.map V.ref) (as.map Value.ref)
  | []=>.nil
  | a :: as=>.cons rfl (vals_refs as)
open Classical in
noncomputable def zipHp (H:Hp) (ll:Addr) (as:List Addr) (xs ys:List V) : Hp:=fun b=>if b = ll then some (.lst (as.map V.ref)) else
  if h:∃ q:Nat × V × V,as[q.1]? = some b∧xs[q.1]? = some q.2.1∧ys[q.1]? = some q.2.2 then some (.tup [h.choose.2.1,h.choose.2.2]) else H b
theorem zipHp_list {H:Hp} {ll:Addr} {as:List Addr} {xs ys:List V} : zipHp H ll as xs ys ll = some (.lst (as.map V.ref)):=if_pos rfl
theorem zipHp_at {H:Hp} {ll b:Addr} {as:List Addr} {xs ys:List V} {j:Nat} {x y:V} (one:∀ (i j:Nat) (c:Addr),as[i]? = some c→as[j]? = some c→i = j) (hb:b ≠ ll) (h1:as[j]? = some b) (h2:xs[j]? = some x) (h3:ys[j]? = some y) :
    zipHp H ll as xs ys b = some (.tup [x,y]):=by
  have ex:∃ q:Nat × V × V,as[q.1]? = some b∧xs[q.1]? = some q.2.1∧ys[q.1]? = some q.2.2:=⟨(j,x,y),h1,h2,h3⟩
  unfold zipHp
  rw [if_neg hb,dif_pos ex]
  obtain ⟨c1,c2,c3⟩:=ex.choose_spec
  have ej:=one _ _ _ c1 h1
  rw [ej,h2] at c2
  rw [ej,h3] at c3
  cases c2; cases c3
  rfl
theorem zipHp_old {H:Hp} {ll b:Addr} {as:List Addr} {xs ys:List V} (hb:b ≠ ll) (hn:∀ j:Nat,as[j]? ≠ some b) : zipHp H ll as xs ys b = H b:=by
  unfold zipHp
  rw [if_neg hb,dif_neg]
  rintro ⟨q,h,_⟩
  exact hn _ h
section
variable {X:Cx} {l l2:Expr} {ta:TA} {p pos p2 pos2:Pos}
noncomputable def tZipL (t:TA) : TE:=fun σ H Q=>t σ H fun vs H1=>∃ a b xs ys,vs = [.ref a,.ref b]∧H1 a = some (.lst xs)∧H1 b = some (.lst ys) ∧
  ∀ (ll:Addr) (as:List Addr),H1 ll = none→(∀ c ∈ as,H1 c = none)→ll ∉ as→(∀ (i j:Nat) (c:Addr),as[i]? = some c→as[j]? = some c→i = j)→as.length = min xs.length ys.length→Q (.ref ll) (zipHp H1 ll as xs ys)
theorem pe_zipL (hc:X.calm = true) (hg:Gl X "zip") (hm:X.mg "zip" = none) (hgl:Gl X "list") (hml:X.mg "list" = none) (ha:PA X [l,l2] ta) (hs:starEach [l,l2] X.env = [(false,eval l X.env),(false,eval l2 X.env)]:=by rfl) (hs2:starEach [l2] X.env = [(false,eval l2 X.env)]:=by rfl)
    (he:starEach [.Call (.Name "zip" p2) [l,l2] [] pos2] X.env = [(false,eval (.Call (.Name "zip" p2) [l,l2] [] pos2) X.env)]:=by rfl) :
    PE X (.Call (.Name "list" p) [.Call (.Name "zip" p2) [l,l2] [] pos2] [] pos) (tZipL ta):=by
  intro pins s σ H Q I h
  refine wpAny_Call_Name_kw (ld_blt I hgl hml PyProof.Rows.boot_list ?_ (by decide) (by decide))
  refine PyProof.Rows.callWith_type1 ?_ he rfl
  rw [he]
  show wpAny _ _ (spliced [(false,eval (.Call (.Name "zip" p2) [l,l2] [] pos2) X.env)]) _ _ s
  refine Calls.spliced_cons ?_
  refine Call_ (ld_blt I hg hm PyProof.Rows.boot_zip (PyProof.Rows.callWith_type1 (thn (ha pos2 pins s σ H _ I h) fun us s1 ⟨vs,H1,I1,r1,q1⟩=>?_) (by rw [hs,hs2]) (by rw [hs2]; rfl)))
  obtain ⟨a,b,xs,ys,rfl,hx,hy,q⟩:=q1
  obtain ⟨u,u',rfl,ru,ru'⟩:=vals2 r1
  cases ru; cases ru'
  obtain ⟨zx,its,n,rv,hl⟩:=I1.hok a _ hx
  obtain ⟨zy,its',n',rv',hl'⟩:=I1.hok b _ hy
  refine call_zip_2 (xs:=its.toArray) (ys:=its'.toArray) ⟨_,hl,rfl,n,rfl⟩ ⟨_,hl',rfl,n',rfl⟩ fun h' hz hTI hTO hit1 hit2 hsz hk=>?_
  refine Calls.spliced_nil ?_
  have la:a < s1.heap.objs.size:=Heap.lt_size hl
  have lb:b < s1.heap.objs.size:=Heap.lt_size hl'
  have D:=zipApart_new la lb
  have Z:ZipAt h' (s1.heap.objs.size + 4) (s1.heap.objs.size + 2) (s1.heap.objs.size + 3) s1.heap.objs.size (s1.heap.objs.size + 1) a b its.toArray its'.toArray 0:=
    ⟨hTI,hit1,hit2,⟨_,hk _ _ hl,rfl,n,rfl⟩,⟨_,hk _ _ hl',rfl,n',rfl⟩,.inl ⟨hz,_,_,hTO⟩⟩
  have la5:a < h'.objs.size:=by rw [hsz]; exact Nat.lt_of_lt_of_le la (Nat.le_add_right _ _)
  have lb5:b < h'.objs.size:=by rw [hsz]; exact Nat.lt_of_lt_of_le lb (Nat.le_add_right _ _)
  have hlx:=rv.length
  have hly:=rv'.length
  refine call_list_zip (s:={ s1 with heap:=h' }) (I1.ok.hd hc) D (by
    show _ < h'.objs.size∧_ < h'.objs.size∧_ < h'.objs.size∧_ < h'.objs.size∧_ < h'.objs.size∧_ < h'.objs.size∧_ < h'.objs.size
    refine ⟨?_,?_,?_,?_,?_,la5,lb5⟩ <;> rw [hsz] <;> first | exact Nat.lt_succ_self _ | exact Nat.add_lt_add_left (by decide) _ | exact Nat.lt_add_of_pos_right (by decide)) (by rw [List.size_toArray,← hlx]; exact zx) Z fun h2 acc c' hk2 hS hacc rows=>?_
  have kp:∀ c o,s1.heap.get? c = some o→h2.get? c = some o:=fun c o e=>by
    have lc:=Heap.lt_size e
    refine hk2 c o ?_ ?_ ?_ ?_ (hk c o e)
    · exact Nat.ne_of_lt (Nat.lt_of_lt_of_le lc (Nat.le_add_right _ _))
    · exact Nat.ne_of_lt (Nat.lt_of_lt_of_le lc (Nat.le_add_right _ _))
    · exact Nat.ne_of_lt lc
    · exact Nat.ne_of_lt (Nat.lt_of_lt_of_le lc (Nat.le_add_right _ _))
  obtain ⟨as,eas⟩:=refs_of (l:=acc.toList) fun j v e=>by
    obtain ⟨T,x,y,e1,_⟩:=rows.at' j v (by rw [← Array.getElem?_toList]; exact e)
    exact ⟨T,e1⟩
  have asat:∀ (j:Nat) (c:Addr),as[j]? = some c→acc[j]? = some (Value.ref c):=fun j c e=>by
    rw [← Array.getElem?_toList,eas,List.getElem?_map,e]; rfl
  have one:∀ (i j:Nat) (c:Addr),as[i]? = some c→as[j]? = some c→i = j:=fun i j c e1 e2=>rows.one i j _ (asat i c e1) (asat j c e2)
  have szl:s1.heap.objs.size ≤ h'.objs.size:=by rw [hsz]; exact Nat.le_add_right _ _
  have asz:∀ (j:Nat) (c:Addr),as[j]? = some c→h'.objs.size + 1 ≤ c:=fun j c e=>by
    obtain ⟨T,x,y,e1,_,_,_,e5⟩:=rows.at' j _ (asat j c e)
    cases e1
    exact e5
  have fll:H1 h'.objs.size = none:=I1.hok.fresh szl
  have fas:∀ c ∈ as,H1 c = none:=fun c hc=>by
    obtain ⟨j,e⟩:=List.mem_iff_getElem?.mp hc
    exact I1.hok.fresh (Nat.le_trans szl (Nat.le_trans (Nat.le_succ _) (asz j c e)))
  have nll:h'.objs.size ∉ as:=fun hc=>by
    obtain ⟨j,e⟩:=List.mem_iff_getElem?.mp hc
    exact Nat.lt_irrefl _ (asz j _ e)
  have hlen:as.length = min xs.length ys.length:=by
    have h1:acc.toList.length = as.length:=by rw [eas,List.length_map]
    rw [Array.length_toList,hacc,List.size_toArray,List.size_toArray] at h1
    rw [← h1,hlx,hly]
  refine ⟨.ref h'.objs.size,zipHp H1 h'.objs.size as xs ys,?_,rfl,q _ as fll fas nll one hlen⟩
  refine I1.laidAll (h':=h2) (t':=s1.toks) kp (fun c o e=>?_) (fun c o e en=>?_)
  · rw [zipHp_old (ne_of_none e fll) fun j ej => by have := fas c (List.mem_of_getElem? ej); rw [e] at this; cases this]
    exact e
  · by_cases hcl:c = h'.objs.size
    · subst hcl
      rw [zipHp_list] at e
      cases e
      refine ⟨szl,?_,acc.toList,c',by rw [eas]; exact vals_refs as,by rw [Array.toArray_toList]; exact hS⟩
      rw [List.length_map,hlen]
      exact Nat.le_trans (Nat.min_le_left _ _) zx
    · by_cases hin:∃ j:Nat,as[j]? = some c
      · obtain ⟨j,ej⟩:=hin
        obtain ⟨T,x,y,e1,e2,e3,e4,e5⟩:=rows.at' j _ (asat j c ej)
        cases e1
        have hj:j < as.length:=(List.getElem?_eq_some_iff.mp ej).1
        have hjx:j < xs.length:=by lia
        have hjy:j < ys.length:=by lia
        obtain ⟨vx,ex,rx⟩:=rv.get (List.getElem?_eq_getElem hjx)
        obtain ⟨vy,ey,ry⟩:=rv'.get (List.getElem?_eq_getElem hjy)
        rw [zipHp_at one hcl ej (List.getElem?_eq_getElem hjx) (List.getElem?_eq_getElem hjy)] at e
        cases e
        have e2':its[j]? = some x:=by simpa using e2
        have e3':its'[j]? = some y:=by simpa using e3
        rw [ex] at e2'
        rw [ey] at e3'
        cases e2'; cases e3'
        exact ⟨Nat.le_trans szl (Nat.le_trans (Nat.le_succ _) (asz j c ej)),by simp only [List.length_cons,List.length_nil]; rw [sizeLine_eq]; decide,[x,y],.cons rx (.cons ry .nil),⟨_,e4,rfl,_,rfl⟩⟩
      · rw [zipHp_old hcl fun j ej=>hin ⟨j,ej⟩,en] at e
        cases e
end
end L2
namespace DL
open PySem L2
section
variable {X:Cx} {l l2:Expr} {t:DTA} {p pos p2 pos2:Pos}
noncomputable def dZipL (t:DTA) : DT:=fun ρ Q=>t ρ fun ds=>match ds with
  | [.lst xs,.lst ys]=>Q (.o (.lst (zipD xs ys)))
  | _=>False
theorem de_zipL (hc:X.calm = true) (hg:Gl X "zip") (hm:X.mg "zip" = none) (hgl:Gl X "list") (hml:X.mg "list" = none) (ha:DA X [l,l2] t) (hs:starEach [l,l2] X.env = [(false,eval l X.env),(false,eval l2 X.env)]:=by rfl) (hs2:starEach [l2] X.env = [(false,eval l2 X.env)]:=by rfl)
    (he:starEach [.Call (.Name "zip" p2) [l,l2] [] pos2] X.env = [(false,eval (.Call (.Name "zip" p2) [l,l2] [] pos2) X.env)]:=by rfl) :
    DE X (.Call (.Name "list" p) [.Call (.Name "zip" p2) [l,l2] [] pos2] [] pos) (dZipL t):=
  DE.of (pe_zipL hc hg hm hgl hml ha.pa hs hs2 he) fun σ H Q ⟨G,ρ,P,s,re,h,k⟩=>by
    refine ⟨G,ρ,_,s,re,h,fun ds vs H1 G1 p1 l1 w1 r1=>?_⟩
    split at p1
    · rename_i xs ys
      obtain ⟨v,v',rfl,rv,rv'⟩:=reps2 r1
      obtain ⟨a,us,rfl,e,rr⟩:=rv.lst_inv
      obtain ⟨a',us',rfl,e',rr'⟩:=rv'.lst_inv
      refine ⟨a,a',us,us',rfl,w1.gh _ _ e,w1.gh _ _ e',fun ll as hll has nin one hlen=>?_⟩
      classical
      have hold:∀ c,H1 c ≠ none→zipHp H1 ll as us us' c = H1 c:=fun c hne=>zipHp_old (fun z=>hne (z ▸ hll)) fun j ej=>hne (has c (List.mem_of_getElem? ej))
      have sH:Same H1 (zipHp H1 ll as us us'):=fun c o q=>by rw [hold c (by rw [q]; simp)]; exact q
      have sG:Same G1 (fun c=>if c ∈ as then zipHp H1 ll as us us' c else G1 c):=fun c o q=>by
        show (if _ then _ else _) = _
        rw [if_neg]
        · exact q
        · intro hc
          have:=w1.gh _ _ q
          rw [has c hc] at this
          cases this
      have wd:Wd H1 G1 (zipHp H1 ll as us us') (fun c=>if c ∈ as then zipHp H1 ll as us us' c else G1 c):=⟨sH,sG,fun c o q=>by
          have q':(if c ∈ as then zipHp H1 ll as us us' c else G1 c) = some o:=q
          split at q'
          · exact q'
          · exact sH _ _ (w1.gh _ _ q'),fun c hne=>by
          show (if _ then _ else _) = _
          rw [if_neg]
          intro hc
          exact hne.there (has c hc)⟩
      refine k _ _ _ _ p1 (w1.trans wd) ⟨ll,rfl,w1.hh.free hll,?_,as.map V.ref,zipHp_list,?_⟩
      · show (if ll ∈ as then _ else G1 ll) = none
        rw [if_neg nin]
        exact w1.gh.free hll
      · have lx:=Paired.length rr
        have ly:=Paired.length rr'
        refine paired_of (by unfold zipD; rw [List.length_map,List.length_map,List.length_zip,hlen,lx,ly]) fun i v d h1 h2=>?_
        rw [List.getElem?_map] at h1
        cases ea:as[i]? with
        | none=>rw [ea] at h1; cases h1
        | some c =>
          rw [ea] at h1
          cases h1
          have hi:i < as.length:=(List.getElem?_eq_some_iff.mp ea).1
          have hx:i < us.length:=by lia
          have hy:i < us'.length:=by lia
          obtain ⟨dx,ex,rx⟩:=WS.paired_get rr (List.getElem?_eq_getElem hx)
          obtain ⟨dy,ey,ry⟩:=WS.paired_get rr' (List.getElem?_eq_getElem hy)
          unfold zipD at h2
          rw [List.getElem?_map,List.getElem?_zip_eq_some (z:=(dx,dy)) |>.mpr ⟨ex,ey⟩] at h2
          cases h2
          have hcl:c ≠ ll:=fun z=>nin (z ▸ List.mem_of_getElem? ea)
          have hc:=zipHp_at (H:=H1) one hcl ea (List.getElem?_eq_getElem hx) (List.getElem?_eq_getElem hy)
          refine Rep.tup' (SqT.of (xs:=[us[i],us'[i]]) ?_) (.cons (Rep.mono sG rx) (.cons (Rep.mono sG ry) .nil))
          show (if c ∈ as then _ else _) = _
          rw [if_pos (List.mem_of_getElem? ea)]
          exact hc
    · exact p1.elim
end
end DL
namespace L2
open PySem PySem.Spec PyProof.Rows
section
variable {X:Cx} {tg:Expr}
theorem rangeSize_down (a b:Int) : Builtin.Range.rangeSize a b (-1) = ((a - b).toNat:Int):=by
  unfold Builtin.Range.rangeSize
  rw [if_neg (by decide)]
  split
  · rw [show -(-1:Int) = 1 from rfl,Int.ediv_one]; lia
  · lia
theorem small_down {lo hi:Int} (h1 : -(2 ^ 62) ≤ lo) (h2:lo < 2 ^ 62) (h3 : -(2 ^ 62) ≤ hi) (h4:hi < 2 ^ 62) : Builtin.Range.small lo hi (-1) = true:=by
  unfold Builtin.Range.small
  rw [rangeSize_down]
  simp only [Builtin.Range.rangeFitsLong,Bool.and_eq_true,Bool.or_eq_true,decide_eq_true_eq,beq_iff_eq,show ¬ ((-1:Int) > 0) by decide,if_false]
  first
    | lia
    | (split <;> lia)
    | (refine ⟨?_,?_⟩ <;> lia)
theorem pi_range3 {a b c:Expr} {ta:TA} {p pos:Pos} (hg:Gl X "range") (hm:X.mg "range" = none) (ha:PA X [a,b,c] ta) (hs:starEach [a,b,c] X.env = (false,eval a X.env) :: starEach [b,c] X.env:=by rfl) (hs2:(backTo pos (starEach [b,c] X.env)).any (·.1) = false:=by rfl) :
    PI X tg (.Call (.Name "range" p) [a,b,c] [] pos) (iRng3 ta):=by
  intro pins s σ H R I h
  refine Call_ (ld_blt I hg hm boot_range (PyProof.Rows.callWith_type1 (thn (ha pos pins s σ H _ I h) fun us s1 ⟨vs,H1,I1,r1,q1⟩=>?_) hs hs2))
  obtain ⟨i,j,e,⟨q1,q2,q3,q4⟩,q⟩:=q1
  subst e
  cases r1 with
  | cons r rr =>
    cases rr with
    | cons r' rr =>
      cases rr with
      | cons r'' rr =>
        cases rr
        obtain ⟨t,rfl⟩:=r
        obtain ⟨t',rfl⟩:=r'
        obtain ⟨t'',rfl⟩:=r''
        refine call_range_3 (by decide) ?_ (Or.inl (PyProof.noPylong_small (by decide)))
        refine wpAny_pyIter_range (IsRange.new ..) (small_down q1 q2 q3 q4) ?_
        have I2:Inv X pins σ H1 { s1 with heap:=s1.heap.push { cls:=.type "range",data:=.fields #[.int i t,.int j t',.int (-1) t''] } }:=I1.kept (t':=s1.toks) fun b o e=>Heap.get?_push_of_some _ e
        have I3:Inv X pins σ H1 { s1 with heap:=(s1.heap.push { cls:=.type "range",data:=.fields #[.int i t,.int j t',.int (-1) t''] }).push { cls:=.type "range_iterator",data:=.fields #[rawInt i,rawInt (Builtin.Range.rangeSize i j (-1)),rawInt (-1)] } }:=I2.kept (t':=s1.toks) fun b o e=>Heap.get?_push_of_some _ e
        refine ⟨(s1.heap.push { cls:=.type "range",data:=.fields #[.int i t,.int j t',.int (-1) t''] }).objs.size,[(s1.heap.push { cls:=.type "range",data:=.fields #[.int i t,.int j t',.int (-1) t''] }).objs.size],_,_,H1,rfl,I3,turn_steps _ i (-1) (i - j).toNat,?_,fun b hb=>?_,q⟩
        · show IsRangeIter _ _ (i + ((0:Nat) : Int) * (-1)) (((i - j).toNat:Int) - ((0:Nat) : Int)) (-1)
          rw [show i + ((0:Nat) : Int) * (-1) = i by lia,show (((i - j).toNat:Int) - ((0:Nat) : Int)) = Builtin.Range.rangeSize i j (-1) by rw [rangeSize_down]; lia]
          exact Heap.get?_push_size _ rfl
        · have e : b = (s1.heap.push { cls := .type "range", data := .fields #[.int i t, .int j t', .int (-1) t''] }).objs.size := by simpa using hb
          subst e
          exact I2.fpOk (Nat.le_refl _) (I2.hok.fresh (Nat.le_refl _))
end
end L2
namespace DL
open PySem L2
section
variable {X:Cx} {tg:Expr} {pos:Pos}
theorem reps3 {K:PySem.W.Frag} {G:Hp} {vs:List V} {d d' d'':D} (h:Reps K G vs [d,d',d'']) : ∃ v v' v'',vs = [v,v',v'']∧Rep K G v d∧Rep K G v' d'∧Rep K G v'' d'':=by
  cases h with | cons h t=>obtain ⟨v',v'',rfl,h',h''⟩:=reps2 t; exact ⟨_,_,_,rfl,h,h',h''⟩
noncomputable def diRng3 (t:DTA) : DTA:=fun ρ P=>t ρ fun ds=>match ds with
  | [.int i,.int j,.int k]=>k = -1∧(-(2 ^ 62) ≤ i∧i < 2 ^ 62∧-(2 ^ 62) ≤ j∧j < 2 ^ 62)∧P (downTo i (i - j).toNat)
  | _=>False
theorem dis_rng3 {a b c:Expr} {t:DTA} {p:Pos} (hg:Gl X "range") (hm:X.mg "range" = none) (ha:DA X [a,b,c] t) (hs:starEach [a,b,c] X.env = (false,eval a X.env) :: starEach [b,c] X.env:=by rfl) (hs2:(backTo pos (starEach [b,c] X.env)).any (·.1) = false:=by rfl) :
    DIs X tg (.Call (.Name "range" p) [a,b,c] [] pos) (diRng3 t):=
  DIs.of (pi_range3 hg hm ha.pa hs hs2) fun σ H R ⟨G,ρ,P,s,re,h,k⟩=>by
    refine ⟨G,ρ,_,s,re,h,fun ds vs H1 G1 p1 l1 w1 r1=>?_⟩
    split at p1
    · rename_i i j k'
      obtain ⟨v,v',v'',rfl,rv,rv',rv''⟩:=reps3 r1
      cases rv; cases rv'; cases rv''
      obtain ⟨rfl,hb,p2⟩:=p1
      exact ⟨i,j,rfl,hb,k _ _ _ G1 p2 w1 fun _=>itd_its⟩
    · exact p1.elim
end
end DL
namespace PySem
open PyProof.Rows
section
variable {prog:Program} {w:World} {A:Around} {E:Value→Shared→Prop} {s:Shared}
theorem rev_no_len:typeLookup (.type "list_reverseiterator") "__len__" = pure none:=by rw [typeLookup_type,builtinLookup_eq_fast]; kernel_rfl
theorem rev_hint:typeLookup (.type "list_reverseiterator") "__length_hint__" = pure (some (.builtin "list_reverseiterator.__length_hint__")):=by rw [typeLookup_type,builtinLookup_eq_fast]; kernel_rfl
theorem extend_rev {R:Result→Shared→Prop} {it l S:Addr} {items:Array Value} {c₀:Nat} (res:Value) (hh:A.handled = none) (hne:l ≠ it) (hS:S ∉ [it,l]) (hz:items.size ≤ sizeLine)
    (hit:s.heap.IsRevIter it l ((items.size:Int) - 1)) (hl:s.heap.IsList l items) (hSl:s.heap.get? S = some { cls:=.type "list",data:=.seq #[] c₀ })
    (hR:∀ s' acc' c',Moved [S,it] (fun a b=>b = a) s s'→s'.heap.get? S = some { cls:=.type "list",dict:=none,data:=.seq acc' c',slots:=#[] }→ItemsOf (fun i v=>items[items.size - 1 - i]? = some v) acc' items.size→R (.ok (.ret res)) s') :
    wpAny (model prog w) A.in1 (Builtin.List.listExtendWith (.ref S) (.ref it) res)
      (fun fin s'=>match fin with | .done f=>R (.ok f) s' | .again c'=>c'.quiet = true∧codeAny (model prog w) A c' R s') (fun e s'=>R (.error e) s') s:=by
  have hT:=hit.typeIs
  have hSi:S ≠ it:=fun z=>hS (by simp [z])
  have W:=(Walks.listRev (prog:=prog) (w:=w) (A:=A.in1) hh it l hne items).toS
  unfold Builtin.List.listExtendWith
  refine wpAny_bind (wpAny_typeOf hT ?_)
  have h1:Builtin.List.listSameRef (.ref S) (.ref it) = false:=by simp [Builtin.List.listSameRef,hSi]
  have h2:(Value.type "list_reverseiterator" == Value.type "list") = false:=by decide
  have h3:(Value.type "list_reverseiterator" == Value.type "tuple") = false:=by decide
  simp only [h1,h2,h3,Bool.or_false,Bool.false_eq_true,if_false]
  refine wpAny_bind (wpAny_pyIter_revIter hit ?_)
  refine wpAny_bind (wpAny_holding ?_)
  unfold Builtin.List.listLengthHint
  refine wpAny_bind (wpAny_specialOf hT rev_no_len ?_)
  show wpAny _ A.in1 (specialOf (Value.ref it) (Str.ofString "__length_hint__") >>= _) _ _ _
  refine wpAny_bind (wpAny_specialOf hT rev_hint ?_)
  (generalize hid:("list_reverseiterator.__length_hint__" : String) = id0; (fail_if_success (clear hid id0)); wp_delta; rw [show splitId id0 = some ("list_reverseiterator","__length_hint__") from by subst hid; decide +kernel]; subst hid)
  refine wpAny_bind (wpAny_isInstance (b:=true) hT (by rw [isSubtype_type]; kernel_rfl) ?_)
  refine wpAny_pure ?_
  rw [if_neg (by decide)]
  have hit0:s.heap.IsRevIter it l ((items.size:Int) - 1 - ((0:Nat) : Int)):=by rw [show ((items.size:Int) - 1 - ((0:Nat) : Int)) = (items.size:Int) - 1 by lia]; exact hit
  exact wpAny_pure ⟨plainId_quiet F.plain_extend_loop _,codeAny_extend_loopS W hz S hS res items.size 0 _ #[] c₀ rfl (Nat.zero_le _) ⟨Nat.zero_le _,hit0,hl⟩ hSl (ItemsOf.nil _) hR⟩
theorem call_list_rev {Q:Value→Shared→Prop} {it l:Addr} {items:Array Value} (hh:A.handled = none) (hne:l ≠ it) (hz:items.size ≤ sizeLine) (hit:s.heap.IsRevIter it l ((items.size:Int) - 1)) (hl:s.heap.IsList l items)
    (hQ:∀ h' tk acc' c',(∀ b o,b ≠ it→s.heap.get? b = some o→h'.get? b = some o)→h'.get? s.heap.objs.size = some { cls:=.type "list",dict:=none,data:=.seq acc' c',slots:=#[] }→ItemsOf (fun i v=>items[items.size - 1 - i]? = some v) acc' items.size →
      Q (.ref s.heap.objs.size) { s with heap:=h',toks:=tk }) : wpAny (model prog w) A (call (.type "list") [.ref it]) Q E s:=by
  refine callType_codes (Q₁:=fun obj s₁=>obj = .ref s.heap.objs.size∧s₁ = { s with heap:=s.heap.push { cls:=.type "list",data:=.seq #[] } }) F.called_list (F.typeCall_list_1 _) F.entry_list_init
    (code_list_new _ ⟨rfl,rfl⟩) fun obj s₁ h₁=>?_
  obtain ⟨rfl,rfl⟩:=h₁
  have hS:(s.heap.push { cls:=.type "list",data:=.seq #[] }).get? s.heap.objs.size = some { cls:=.type "list",data:=.seq #[] }:=Heap.get?_push_size _ rfl
  have l1:it < s.heap.objs.size:=by obtain ⟨o,e,_⟩:=hit; exact Heap.lt_size e
  have l2:l < s.heap.objs.size:=by obtain ⟨o,e,_⟩:=hl; exact Heap.lt_size e
  have hSf:s.heap.objs.size ∉ [it,l]:=fun hm=>by
    rcases List.mem_cons.mp hm with e | e
    · exact Nat.ne_of_gt l1 e
    · exact Nat.ne_of_gt l2 (List.mem_singleton.mp e)
  refine ⟨⟨_,hS,rfl⟩,F.args_list_init_2 _ _,?_⟩
  show wpAny _ A.in1.in1 (do let old ← Builtin.List.listItems (.ref s.heap.objs.size); Builtin.List.listUpdate (.ref s.heap.objs.size) (fun _=>#[]); letGo old.toList.reverse; Builtin.List.listExtendWith (.ref s.heap.objs.size) (.ref it) .none) _ _ _
  refine wpAny_bind ?_
  unfold Builtin.List.listItems
  refine wpAny_bind (wpAny_seqItems hS rfl (wpAny_pure ?_))
  show wpAny _ A.in1.in1 (updateSeq s.heap.objs.size (fun _=>#[]) >>= fun _=>letGo (#[] : Array Value).toList.reverse >>= fun _=>Builtin.List.listExtendWith (.ref s.heap.objs.size) (.ref it) .none) _ _ _
  refine wpAny_bind (wpAny_updateSeq hS rfl ?_)
  have hS₂:=Heap.get?_update_self (Obj.mapSeq (fun _=>(#[] : Array Value))) hS rfl
  have oth:∀ b o,s.heap.get? b = some o→((s.heap.push { cls:=.type "list",data:=.seq #[] }).update s.heap.objs.size (Obj.mapSeq (fun _=>(#[] : Array Value)))).get? b = some o:=
    fun b o e=>(Heap.get?_update_other _ _ (Nat.ne_of_gt (Heap.lt_size e))).trans (Heap.get?_push_of_some _ e)
  refine wpAny_bind (wpAny_letGo ?_)
  refine extend_rev (A:=A.in1) .none hh hne hSf hz (hit.at fun o e=>oth it o e) (hl.at fun o e=>oth l o e) hS₂ fun s' acc' c' hm hS' hacc=>⟨rfl,?_⟩
  rw [Moved.eq_with hm]
  exact hQ s'.heap s'.toks acc' c' (fun b o hb e=>hm.heap b o (fun hmem=>by
    rcases List.mem_cons.mp hmem with z | z
    · exact Nat.ne_of_lt (Heap.lt_size e) z
    · exact hb (List.mem_singleton.mp z)) (oth b o e)) hS' hacc
end
end PySem
namespace PySem
open PyProof.Rows
section
variable {prog:Program} {w:World} {A:Around} {R:Result→Shared→Prop} {I:Addr} {fp wr:List Addr} {n:Nat} {P:Nat→Value→Prop} {St:Nat→Heap→Prop}
theorem minK_name:(toString "min" ++ toString ".loop" : String) = "min.loop":=by decide
theorem minK_loop {kw:List (Str × Value)} (W:Walks prog w A.in1 I fp wr n P St) (val:Nat→Int) (hcmp:CmpOf prog w A.in1 .Lt P (fun i j=>decide (val i < val j))) (S:Addr) (hSf:S ∉ fp) :
    ∀ (k i:Nat) (s:Shared) (b:Nat) (vb:Value) (c:Nat),n - i = k→i ≤ n→St i s.heap→b < i→P b vb→(∀ j,j < i→val b ≤ val j)→s.heap.get? S = some { cls:=.type "list",dict:=none,data:=.seq #[vb,vb] c,slots:=#[] } →
      (∀ v b h' tk,b < n→P b v→(∀ j,j < n→val b ≤ val j)→(∀ a o,a ∉ wr→a ≠ S→s.heap.get? a = some o→h'.get? a = some o)→R (.ok (.ret v)) { s with heap:=h',toks:=tk }) →
      codeAny (model prog w) A (.builtin "min.loop" ⟨[.ref I,.none,.ref S],kw⟩) R s:=by
  have hSw:S ∉ wr:=fun h=>hSf (W.sub _ h)
  intro k
  induction k with
  | zero =>
    intro i s b vb c hk hi hst hb hPb hle hS hR
    have hin:i = n:=by lia
    subst hin
    refine codeAny_builtin F.entry_min_loop ?_
    rw [Around.under_plainId F.plain_min_loop _]
    show wpAny _ A.in1 (seqItems? (.ref S) >>= _) _ _ s
    refine wpAny_bind (wpAny_seqItems hS rfl ?_)
    show wpAny _ A.in1 (tryCatch (pyNext (.ref I)) _ >>= _) _ _ s
    refine wpAny_bind (wpAny_tryCatch (W.done s _ _ hst fun h' tk hk'=>?_))
    show wpAny _ A.in1 (updateSeq S (fun _=>#[]) >>= _) _ _ _
    refine wpAny_bind (wpAny_updateSeq (hk' S _ hSw hS) rfl (wpAny_bind (wpAny_letGo (wpAny_pure ?_))))
    exact hR vb b _ tk hb hPb hle fun a o ha haS e=>(Heap.get?_update_other _ _ (Ne.symm haS)).trans (hk' a o ha e)
  | succ k ih =>
    intro i s b vb c hk hi hst hb hPb hle hS hR
    have hlt:i < n:=by lia
    refine codeAny_builtin F.entry_min_loop ?_
    rw [Around.under_plainId F.plain_min_loop _]
    show wpAny _ A.in1 (seqItems? (.ref S) >>= _) _ _ s
    refine wpAny_bind (wpAny_seqItems hS rfl ?_)
    show wpAny _ A.in1 (tryCatch (pyNext (.ref I)) _ >>= _) _ _ s
    refine wpAny_bind (wpAny_tryCatch (W.item i s _ _ hlt hst fun v h' tk hP hst' hk'=>?_))
    have hS':=hk' S _ hSw hS
    show wpAny _ A.in1 (tryCatch (holding [v,v] (richCompare .Lt v vb >>= _)) _ >>= _) _ _ _
    refine wpAny_bind (wpAny_tryCatch (wpAny_holding (wpAny_bind (hcmp i b v vb _ _ _ hP hPb ?_))))
    refine wpAny_bind (wpAny_holding (wpAny_truthy_bool ?_))
    refine wpAny_bind (wpAny_letGo (wpAny_pure ?_))
    by_cases hv:val i < val b
    · rw [if_pos (show (fun i j=>decide (val i < val j)) i b = true from decide_eq_true hv)]
      refine wpAny_bind (wpAny_updateSeq hS' rfl (wpAny_bind (wpAny_letGo ?_)))
      rw [minK_name]
      refine wpAny_pure ⟨plainId_quiet F.plain_min_loop _,ih (i + 1) _ i v _ (by lia) hlt (W.frame _ _ _ hst' fun a ha o e=>?_) (Nat.lt_succ_self _) hP (fun j hj=>?_) (Heap.get?_update_self _ hS' rfl) fun v' b' h'' tk'' hb' hP' hle' hk''=>?_⟩
      · exact (Heap.get?_update_other _ _ (fun h:S = a=>hSf (by rw [h]; exact ha))).trans e
      · rcases Nat.lt_succ_iff_lt_or_eq.mp hj with z | z
        · have:=hle j z; lia
        · subst z; exact Int.le_refl _
      · exact hR v' b' h'' tk'' hb' hP' hle' fun a o ha haS e=>hk'' a o ha haS ((Heap.get?_update_other _ _ (Ne.symm haS)).trans (hk' a o ha e))
    · rw [if_neg (show ¬ (fun i j=>decide (val i < val j)) i b = true from fun z=>hv (of_decide_eq_true z))]
      refine wpAny_bind (wpAny_letGo ?_)
      rw [minK_name]
      refine wpAny_pure ⟨plainId_quiet F.plain_min_loop _,ih (i + 1) _ b vb c (by lia) hlt hst' (Nat.lt_succ_of_lt hb) hPb (fun j hj=>?_) hS' fun v' b' h'' tk'' hb' hP' hle' hk''=>?_⟩
      · rcases Nat.lt_succ_iff_lt_or_eq.mp hj with z | z
        · exact hle j z
        · subst z; lia
      · exact hR v' b' h'' tk'' hb' hP' hle' fun a o ha haS e=>hk'' a o ha haS (hk' a o ha e)
theorem minK_all {d:Value} (W:Walks prog w A.in1 I fp wr n P St) (val:Nat→Int) (hcmp:CmpOf prog w A.in1 .Lt P (fun i j=>decide (val i < val j))) (S:Addr) (hSf:S ∉ fp) {s:Shared} {c:Nat} (hst:St 0 s.heap)
    (hS:s.heap.get? S = some { cls:=.type "list",dict:=none,data:=.seq #[] c,slots:=#[] })
    (h0:n = 0→∀ h' tk,(∀ a o,a ∉ wr→a ≠ S→s.heap.get? a = some o→h'.get? a = some o)→R (.ok (.ret d)) { s with heap:=h',toks:=tk })
    (hR:∀ v b h' tk,b < n→P b v→(∀ j,j < n→val b ≤ val j)→(∀ a o,a ∉ wr→a ≠ S→s.heap.get? a = some o→h'.get? a = some o)→R (.ok (.ret v)) { s with heap:=h',toks:=tk }) :
    codeAny (model prog w) A (.builtin "min.loop" ⟨[.ref I,.none,.ref S],[(Str.ofString "default",d)]⟩) R s:=by
  have hSw:S ∉ wr:=fun h=>hSf (W.sub _ h)
  refine codeAny_builtin F.entry_min_loop ?_
  rw [Around.under_plainId F.plain_min_loop _]
  show wpAny _ A.in1 (seqItems? (.ref S) >>= _) _ _ s
  refine wpAny_bind (wpAny_seqItems hS rfl ?_)
  show wpAny _ A.in1 (tryCatch (pyNext (.ref I)) _ >>= _) _ _ s
  rcases Nat.eq_zero_or_pos n with hz | hn
  · subst hz
    refine wpAny_bind (wpAny_tryCatch (W.done s _ _ hst fun h' tk hk'=>?_))
    refine wpAny_bind (wpAny_rule (wpAny_pure ?_))
    exact h0 rfl h' tk fun a o ha _ e=>hk' a o ha e
  · refine wpAny_bind (wpAny_tryCatch (W.item 0 s _ _ hn hst fun v h' tk hP hst' hk'=>?_))
    have hS':=hk' S _ hSw hS
    show wpAny _ A.in1 (updateSeq S (fun _=>#[v,v]) >>= _) _ _ _
    refine wpAny_bind (wpAny_updateSeq hS' rfl ?_)
    rw [minK_name]
    refine wpAny_pure ⟨plainId_quiet F.plain_min_loop _,minK_loop W val hcmp S hSf _ 1 _ 0 v _ rfl hn (W.frame _ _ _ hst' fun a ha o e=>?_) (by lia) hP (fun j hj=>?_) (Heap.get?_update_self _ hS' rfl) fun v' b' h'' tk'' hb' hP' hle' hk''=>?_⟩
    · exact (Heap.get?_update_other _ _ (fun h:S = a=>hSf (by rw [h]; exact ha))).trans e
    · have : j = 0 := by lia
      subst this; exact Int.le_refl _
    · exact hR v' b' h'' tk'' hb' hP' hle' fun a o ha haS e=>hk'' a o ha haS ((Heap.get?_update_other _ _ (Ne.symm haS)).trans (hk' a o ha e))
end
section
variable {prog:Program} {w:World} {A:Around} {E:Value→Shared→Prop} {s:Shared}
theorem minK_args (a d:Value) : argsOk "min" ⟨[a],[(Str.ofString "default",d)]⟩:=by unfold argsOk; kernel_rfl
theorem call_minK {l:Addr} {xs:Array (Int × Tok)} {d:Value} {Q:Value→Shared→Prop} (hh:A.handled = none) (hl:s.heap.IsList l (intItems xs))
    (h0:xs.size = 0→∀ h' tk,(∀ b o,s.heap.get? b = some o→h'.get? b = some o)→Q d { s with heap:=h',toks:=tk })
    (h:∀ b v h' tk,b < xs.size→(intItems xs)[b]? = some v→(∀ j,j < xs.size→numAt xs b ≤ numAt xs j)→(∀ b o,s.heap.get? b = some o→h'.get? b = some o)→Q v { s with heap:=h',toks:=tk }) :
    wpAny (model prog w) A (call (.builtin "min") [.ref l] [(Str.ofString "default",d)]) Q E s:=by
  refine kmk_tree PySem.F.kind_min PySem.F.plain_min PySem.F.entry_min (minK_args _ _) ?_
  show wpAny _ A.in1 (Builtin.Builtins.bindParams "min" ["key","default"] 0 ⟨[],[(Str.ofString "default",d)]⟩ >>= _) _ _ s
  refine wpAny_bind (wpAny_of_eq (show Builtin.Builtins.bindParams "min" ["key","default"] 0 ⟨[],[(Str.ofString "default",d)]⟩ = pure [none,some d] from rfl) ?_)
  refine wpAny_bind (wpAny_pure ?_)
  refine wpAny_bind (iter_intList hl fun s₂ e st hfp hlI=>?_)
  subst e
  refine wpAny_bind (wpAny_newObj_type ?_)
  rw [minK_name]
  have hsz:(intItems xs).size = xs.size:=by simp [intItems]
  have W:=Walks.list (prog:=prog) (w:=w) (A:=A.in1) hh _ l hlI (intItems xs)
  have hSf:(s.heap.push { cls:=.type "list_iterator",data:=.fields #[.ref l,.int 0 0] }).objs.size ∉ [s.heap.objs.size,l]:=fun hm=>Nat.lt_irrefl _ (hfp _ hm)
  refine wpAny_pure ⟨plainId_quiet F.plain_min_loop _,minK_all (A:=A) W (numAt xs) (CmpOf.ints_lt (numAt xs) (fun _ _=>intItems_at)) _ hSf (W.frame _ _ _ st fun b _ o e=>Heap.get?_push_of_some _ e) (Heap.get?_push_size _ rfl) (fun hz h' tk hk=>?_) fun v b h' tk hb hP hle hk=>?_⟩
  · exact h0 (by lia) h' tk fun b o e=>hk b o (fun hm=>Nat.ne_of_lt (Heap.lt_size e) (List.mem_singleton.mp hm)) (fun z=>by have:=Heap.lt_size e; rw [z,Heap.size_push] at this; exact Nat.lt_irrefl _ (Nat.lt_of_succ_lt this)) (Heap.get?_push_of_some _ (Heap.get?_push_of_some _ e))
  · exact h b v h' tk (by lia) hP (fun j hj=>hle j (by lia)) fun b o e=>hk b o (fun hm=>Nat.ne_of_lt (Heap.lt_size e) (List.mem_singleton.mp hm)) (fun z=>by have:=Heap.lt_size e; rw [z,Heap.size_push] at this; exact Nat.lt_irrefl _ (Nat.lt_of_succ_lt this)) (Heap.get?_push_of_some _ (Heap.get?_push_of_some _ e))
end
end PySem
namespace L2
open PySem PySem.Spec PyProof.Rows
section
variable {X:Cx} {l e:Expr} {p pos p2 pos2 kpos cpos:Pos} {j:Nat} {d:Int} {ta:TA}
noncomputable def tRevL (t:TA) : TE:=fun σ H Q=>t σ H fun vs H1=>∃ a xs,vs = [.ref a]∧H1 a = some (.lst xs)∧∀ c,H1 c = none→Q (.ref c) (upd H1 c (.lst xs.reverse))
theorem items_rev {its:List Value} {acc:Array Value} (h:ItemsOf (fun i v=>its.toArray[its.toArray.size - 1 - i]? = some v) acc its.toArray.size) : acc.toList = its.reverse:=by
  obtain ⟨hl,hi⟩:=h
  have hl2:acc.toList.length = its.length:=by rw [Array.length_toList,hl,List.size_toArray]
  rw [List.size_toArray] at hi
  apply List.ext_getElem?
  intro i
  by_cases q:i < its.length
  · have hlt : i < acc.toList.length := by lia
    have e5:acc[i]? = some acc.toList[i]:=by
      have:acc[i]? = acc.toList[i]?:=by simp
      rw [this,List.getElem?_eq_getElem hlt]
    have e6:=hi i _ e5
    rw [List.getElem?_eq_getElem hlt,List.getElem?_reverse q]
    have e7:its[its.length - 1 - i]? = some acc.toList[i]:=by simpa using e6
    exact e7.symm
  · rw [List.getElem?_eq_none (by lia),List.getElem?_eq_none (by rw [List.length_reverse]; lia)]
theorem pe_revL (hc:X.calm = true) (hg:Gl X "reversed") (hm:X.mg "reversed" = none) (hgl:Gl X "list") (hml:X.mg "list" = none) (ha:PA X [l] ta) (hs:starEach [l] X.env = [(false,eval l X.env)]:=by rfl)
    (he:starEach [.Call (.Name "reversed" p2) [l] [] pos2] X.env = [(false,eval (.Call (.Name "reversed" p2) [l] [] pos2) X.env)]:=by rfl) :
    PE X (.Call (.Name "list" p) [.Call (.Name "reversed" p2) [l] [] pos2] [] pos) (tRevL ta):=by
  intro pins s σ H Q I h
  refine wpAny_Call_Name_kw (ld_blt I hgl hml PyProof.Rows.boot_list ?_ (by decide) (by decide))
  refine PyProof.Rows.callWith_type1 ?_ he rfl
  rw [he]
  show wpAny _ _ (spliced [(false,eval (.Call (.Name "reversed" p2) [l] [] pos2) X.env)]) _ _ s
  refine Calls.spliced_cons ?_
  refine Call_ (ld_blt I hg hm PyProof.Rows.boot_reversed (PyProof.Rows.callWith_type1 (thn (ha pos2 pins s σ H _ I h) fun us s1 ⟨vs,H1,I1,r1,q1⟩=>?_) hs rfl))
  obtain ⟨a,xs,rfl,hx,q⟩:=q1
  obtain ⟨u,rfl,ru⟩:=vals1 r1
  cases ru
  obtain ⟨zx,its,n,rv,hl⟩:=I1.hok a _ hx
  have hlen:=rv.length
  refine call_reversed_list (items:=its.toArray) ⟨_,hl,rfl,n,rfl⟩ ?_
  refine Calls.spliced_nil ?_
  have ne:a ≠ s1.heap.objs.size:=Nat.ne_of_lt (Heap.lt_size hl)
  have hit:(s1.heap.push (revObj a ((its.toArray.size:Int) - 1))).IsRevIter s1.heap.objs.size a ((its.toArray.size:Int) - 1):=⟨_,Heap.get?_push_size _ rfl,rfl,rfl⟩
  refine call_list_rev (s:={ s1 with heap:=s1.heap.push (revObj a ((its.toArray.size:Int) - 1)) }) (I1.ok.hd hc) ne (by rw [List.size_toArray,← hlen]; exact zx) hit ⟨_,Heap.get?_push_of_some _ hl,rfl,n,rfl⟩ fun h' tk acc c' hk hS hacc=>?_
  have kp:∀ c o,s1.heap.get? c = some o→h'.get? c = some o:=fun c o e=>hk c o (Nat.ne_of_lt (Heap.lt_size e)) (Heap.get?_push_of_some _ e)
  have hge:s1.heap.objs.size ≤ (s1.heap.push (revObj a ((its.toArray.size:Int) - 1))).objs.size:=by rw [Heap.size_push]; exact Nat.le_succ _
  refine ⟨.ref _,_,I1.laid (t':=tk) kp hge (o:=.lst xs.reverse) ⟨by rw [List.length_reverse]; exact zx,acc.toList,c',?_,by rw [Array.toArray_toList]; exact hS⟩,rfl,q _ (I1.hok.fresh hge)⟩
  rw [items_rev hacc]
  exact DL.paired_rev rv
noncomputable def tMinD (K:PySem.W.Frag) (d:Int) (t:TA) : TE:=fun σ H Q=>t σ H fun vs H1=>∃ a ns,vs = [.ref a]∧SqL K H1 a (ns.map V.int)∧(ns = []→Q (.int d) H1)∧∀ m ∈ ns,(∀ z ∈ ns,m ≤ z)→Q (.int m) H1
theorem pe_minD (hc:X.calm = true) (hg:Gl X "min") (hm:X.mg "min" = none) (ha:PA X [e] ta) (he:starEach [e] X.env = [(false,eval e X.env)]:=by rfl) :
    PE X (.Call (.Name "min" p) [e] [⟨some "default",.Constant (.int d) j cpos,kpos⟩] pos) (tMinD X.K d ta):=by
  intro pins s σ H Q I h
  refine wpAny_Call_Name_kw (ld_blt I hg hm (show bootBuiltins "min" = some (.builtin "min") by first | rfl | decide) ?_ (by decide) (by decide))
  refine callWith_kw (thn (ha pos pins s σ H _ I h) fun us s1 ⟨vs,H1,I1,r1,q1⟩=>?_) (by rw [he]; rfl) (by rw [he]; rfl) rfl rfl
  refine thn ((pk_cons (nm:=some "default") (kpos:=kpos) (pe_int (i:=d) (j:=j) (pos:=cpos)) pk_nil:PK X [⟨some "default",.Constant (.int d) j cpos,kpos⟩] (tCons (tC (.int d)) tNil)) pos pins s1 σ H1 (fun ws H2=>ws = [.int d]∧H2 = H1) I1 ⟨rfl,rfl⟩) fun ws s2 ⟨zs,H2,I2,rz,q2,q3⟩=>?_
  subst q2 q3
  obtain ⟨a,ns,rfl,hs,q0,q⟩:=q1
  obtain ⟨u,rfl,rx⟩:=vals1 r1
  cases rx
  obtain ⟨w,rfl,rw'⟩:=vals1 rz
  obtain ⟨tw,rfl⟩:=rw'
  obtain ⟨its,rv,pl,hz⟩:=I2.list hs
  have hi:IntsAre its ns:=intsAre_of rv
  obtain ⟨zs,ez⟩:=hi.allInts.items
  have e3:zs.toList.map (·.1) = ns:=by rw [← nums_intItems,← ez]; exact hi.numsOf
  have e4:ns.length = zs.size:=by rw [← e3]; simp
  show wpAny _ _ (call (.builtin "min") [.ref a] [(Str.ofString "default",.int d tw)]) _ _ _
  refine call_minK (I2.ok.hd hc) (xs:=zs) (ez ▸ pl.isList) (fun z h' tk hk=>⟨.int d,H2,I2.kept hk,⟨_,rfl⟩,q0 (List.length_eq_zero_iff.mp (by lia))⟩) fun b v h' tk hb hv hle hk=>?_
  have hn:ns[b]? = some (numAt zs b):=by
    rw [← e3,List.getElem?_map]
    have e5:zs.toList[b]? = some zs[b]:=by simp [hb]
    rw [e5]
    simp [numAt,hb]
  have hv':∃ t,v = .int (numAt zs b) t:=intItems_at hv
  obtain ⟨t,rfl⟩:=hv'
  refine ⟨.int _,H2,I2.kept hk,⟨t,rfl⟩,q _ (List.mem_of_getElem? hn) fun z hz=>?_⟩
  obtain ⟨j',hj',ej⟩:=num_of_mem (e3 ▸ hz)
  rw [← ej]
  exact hle j' (by lia)
end
end L2
namespace DL
open PySem L2
section
variable {X:Cx} {l e:Expr} {p pos p2 pos2 kpos cpos:Pos} {j:Nat} {d:Int} {t:DTA}
noncomputable def dRevL (t:DTA) : DT:=fun ρ Q=>t ρ fun ds=>match ds with
  | [.lst xs]=>Q (.o (.lst xs.reverse))
  | _=>False
theorem de_revL (hc:X.calm = true) (hg:Gl X "reversed") (hm:X.mg "reversed" = none) (hgl:Gl X "list") (hml:X.mg "list" = none) (ha:DA X [l] t) (hs:starEach [l] X.env = [(false,eval l X.env)]:=by rfl)
    (he:starEach [.Call (.Name "reversed" p2) [l] [] pos2] X.env = [(false,eval (.Call (.Name "reversed" p2) [l] [] pos2) X.env)]:=by rfl) :
    DE X (.Call (.Name "list" p) [.Call (.Name "reversed" p2) [l] [] pos2] [] pos) (dRevL t):=
  DE.of (pe_revL hc hg hm hgl hml ha.pa hs he) fun σ H Q ⟨G,ρ,P,s,re,h,k⟩=>by
    refine ⟨G,ρ,_,s,re,h,fun ds vs H1 G1 p1 l1 w1 r1=>?_⟩
    split at p1
    · rename_i xs
      obtain ⟨v,rfl,rv⟩:=reps1 r1
      obtain ⟨a,us,rfl,e,rr⟩:=rv.lst_inv
      refine ⟨a,us,rfl,w1.gh _ _ e,fun c hcn=>?_⟩
      obtain ⟨w2,r2⟩:=own_new w1 hcn (paired_rev rr)
      exact k _ _ _ _ p1 w2 r2
    · exact p1.elim
noncomputable def dMinD (d:Int) (t:DTA) : DT:=fun ρ Q=>t ρ fun ds=>match ds with
  | [.lst xs]=>∃ ns:List Int,xs = ns.map D.int∧∀ m:Int,(ns = []∧m = d ∨ m ∈ ns∧∀ z ∈ ns,m ≤ z)→Q (.p (.int m))
  | _=>False
theorem de_minD (hc:X.calm = true) (hg:Gl X "min") (hm:X.mg "min" = none) (ha:DA X [e] t) (he:starEach [e] X.env = [(false,eval e X.env)]:=by rfl) :
    DE X (.Call (.Name "min" p) [e] [⟨some "default",.Constant (.int d) j cpos,kpos⟩] pos) (dMinD d t):=
  DE.of (pe_minD hc hg hm ha.pa he) fun σ H Q ⟨G,ρ,P,s,re,h,k⟩=>by
    refine ⟨G,ρ,_,s,re,h,fun ds vs H1 G1 p1 l1 w1 r1=>?_⟩
    split at p1
    · rename_i xs
      obtain ⟨ns,rfl,h1⟩:=p1
      obtain ⟨v,rfl,rv⟩:=reps1 r1
      obtain ⟨a,us,rfl,e,rr⟩:=rv.lst_inv
      rw [reps_ints rr] at e
      exact ⟨a,ns,rfl,SqL.of (w1.gh _ _ e),fun z=>k _ _ H1 G1 (h1 d (.inl ⟨z,rfl⟩)) w1 (.int _),fun m h2 h3=>k _ _ H1 G1 (h1 m (.inr ⟨h2,h3⟩)) w1 (.int _)⟩
    · exact p1.elim
end
end DL
namespace L2
open PySem PySem.Spec PyProof.Rows PyProof
section
variable {X:Cx}
end
end L2
namespace DL
open PySem L2
noncomputable def dIns (i:Nat) (tk te:DT) : DTS:=fun E ρ=>match dget ρ i with
  | some (.o (.lst ds))=>tk (frz ρ) fun k=>match k.val with
    | .int z=>te ρ fun b=>(0 ≤ z∧z < 2 ^ 63)∧ds.length < sizeLine∧E.nx (dput ρ i (.o (.lst (ds.take z.toNat ++ b.val :: ds.drop z.toNat))))
    | _=>False
  | _=>False
section
variable {X:Cx} {e k:Expr} {te tk:DT} {i:Nat} {x:Str} {px apos cpos spos:Pos}
end
end DL
namespace DL
open PySem L2
theorem paired_fst {α β:Type} {F:α→β→Prop} {l:List α} {r:List β} {j:Nat} {d:β} (h:Paired F l r) (e:r[j]? = some d) : ∃ x,l[j]? = some x∧F x d:=paired_get' h e
theorem EnvO.putN2 {K:PySem.W.Frag} {H0 G H G' H':Hp} {σ:St} {ρ:DEnv} {a a0 a1:Addr} {xs ys:D} (t:Bool) (h:EnvO K H0 G H σ ρ) (w:Wd H G H' G') (i:Nat) (hh:Same H0 H) (n0:H a0 = none) (n1:H a1 = none) (hn:H a = none) (d01:a0 ≠ a1) (r0:OwnAt K G' H' a0 xs) (r1:OwnAt K G' H' a1 ys)
    (e:match t with
      | true=>SqT K G' a [V.ref a0,V.ref a1]
      | false=>G' a = none∧a ≠ a0∧a ≠ a1∧H' a = some (.lst [V.ref a0,V.ref a1])) : EnvO K H0 G' H' (σ.set i (some (.ref a))) (dput ρ i (.n t [xs,ys])):=by
  obtain ⟨o,h⟩:=h
  have h2:=(h.also (o':=fun x=>if x = a ∨ x = a0 ∨ x = a1 then i else o x) fun x q=>if_neg (by
    rintro (rfl | rfl | rfl)
    · exact q hn
    · exact q n0
    · exact q n1)).on w
  refine ⟨fun x=>if x = a ∨ x = a0 ∨ x = a1 then i else o x,by rw [List.length_set,dput_len]; exact h.len,fun j d' e=>?_,fun j d' e=>?_,fun j t' dss z=>?_⟩
  · rcases dget_put e with ⟨rfl,hl,e⟩ | ⟨hne,e⟩
    · cases e
    · obtain ⟨w,h1,h2⟩:=h2.p j d' e
      exact ⟨w,by rw [set_get hne]; exact h1,h2⟩
  · rcases dget_put e with ⟨rfl,hl,e⟩ | ⟨hne,e⟩
    · cases e
    · obtain ⟨b,h1,h2⟩:=h2.o j d' e
      exact ⟨b,by rw [set_get hne]; exact h1,h2⟩
  · rcases dget_put z with ⟨rfl,hl,z⟩ | ⟨hne,z⟩
    · cases z
      refine ⟨a,set_self (by rw [h.len]; exact hl),[a0,a1],?_,?_,?_⟩
      · simp [d01]
      · exact .cons ⟨hh.free n0,if_pos (.inr (.inl rfl)),r0⟩ (.cons ⟨hh.free n1,if_pos (.inr (.inr rfl)),r1⟩ .nil)
      · cases t with
        | true=>exact e
        | false=>exact ⟨hh.free hn,if_pos (.inl rfl),e.1,by simp [e.2.1,e.2.2.1],e.2.2.2⟩
    · obtain ⟨b,h1,h2⟩:=h2.n j t' dss z
      exact ⟨b,by rw [set_get hne]; exact h1,h2⟩
section
variable {X:Cx} {e0 e1:Expr} {t0 t1 te:DT} {i:Nat} {x:Str} {pos px:Pos}
noncomputable def dNest (i:Nat) (t:Bool) (t0 t1:DT) : DTS:=fun E ρ=>t0 ρ fun b0=>match b0 with
  | .o xs=>t1 ρ fun b1=>match b1 with
    | .o ys=>E.nx (dput ρ i (.n t [xs,ys]))
    | _=>False
  | _=>False
theorem nest_two {K:PySem.W.Frag} {H0 G0:Hp} {t:Bool} {Dn:Ends} {σ:St} {H:Hp} (q:cS K H0 G0 (dNest i t t0 t1) Dn σ H) :
    tCons (cE K t0) (tCons (cE K t1) tNil) σ H fun vs H2=>vs.length ≤ sizeLine∧∀ p,H2 p = none→Dn.nx (σ.set i (some (.ref p))) (upd H2 p (match t with | true=>.tup vs | false=>.lst vs)):=by
  obtain ⟨E,G,ρ,eo,w,en,h⟩:=q
  refine ⟨G,ρ,_,w.gh,en.p,h,fun b v H1 G1 p1 w1 r1=>?_⟩
  split at p1
  · rename_i xs
    obtain ⟨a0,rfl,n0,o0⟩:=r1
    refine ⟨G1,ρ,_,w1.gh,(en.on w1).p,p1,fun b' v' H2 G2 p2 w2 r2=>?_⟩
    split at p2
    · rename_i ys
      obtain ⟨a1,rfl,n1,o1⟩:=r2
      refine ⟨small_len (by show 2 ≤ 1000; decide),fun p hp=>?_⟩
      have w12:=w1.trans w2
      have o0':OwnAt K G2 H2 a0 xs:=o0.stay w2.gg (by rw [w2.old a0 o0.chg]; exact o0.1) fun o q=>w2.hh _ _ q
      have d01:a0 ≠ a1:=by rintro rfl; exact o0.there n1
      have dp0:p ≠ a0:=by rintro rfl; exact o0'.there hp
      have dp1:p ≠ a1:=by rintro rfl; exact o1.there hp
      have gp:G2 p = none:=w2.gh.free hp
      cases t with
      | false =>
        have w3:Wd H G (upd H2 p (.lst [V.ref a0,V.ref a1])) G2:=w12.own (w12.hh.free hp) gp
        refine eo.nx _ _ G2 _ (w.trans w3) (en.putN2 false w3 i w.hh n0 (w1.hh.free n1) (w12.hh.free hp) d01 (o0'.stay (Same.refl _) o0'.1 fun o q=>by rw [upd_ne dp0.symm]; exact q) (o1.stay (Same.refl _) o1.1 fun o q=>by rw [upd_ne dp1.symm]; exact q) ⟨gp,dp0,dp1,upd_same⟩) p2
      | true =>
        have w3:Wd H G (upd H2 p (.tup [V.ref a0,V.ref a1])) (upd G2 p (.tup [V.ref a0,V.ref a1])):=w12.new hp
        have sg:Same G2 (upd G2 p (.tup [V.ref a0,V.ref a1])):=same_new gp
        refine eo.nx _ _ _ _ (w.trans w3) (en.putN2 true w3 i w.hh n0 (w1.hh.free n1) (w12.hh.free hp) d01 (o0'.stay sg (by rw [upd_ne dp0.symm]; exact o0'.1) fun o q=>by rw [upd_ne dp0.symm]; exact q) (o1.stay sg (by rw [upd_ne dp1.symm]; exact o1.1) fun o q=>by rw [upd_ne dp1.symm]; exact q) (SqT.of upd_same)) p2
    · exact p2.elim
  · exact p1.elim
theorem ds_nestL (hN:X.N.Nodup) (hi:X.N[i]? = some x) (hx:Loc X.env.scope x) (h0:DE X e0 t0) (h1:DE X e1 t1) {lp:Pos}
    (hs0:starEach [e0,e1] X.env = (false,eval e0 X.env) :: starEach [e1] X.env:=by rfl) (hs1:starEach [e1] X.env = (false,eval e1 X.env) :: starEach [] X.env:=by rfl)
    (hs:swapsWith (.List [e0,e1] lp) (some (.Name x px)) pos.line X.env = pure false:=by rfl) (hf:X.fn x = true ∨ X.env.scope.names.lookup x = some .local:=by first | exact .inl rfl | exact .inr rfl | assumption) :
    DS X (.Assign [.Name x px] (.List [e0,e1] lp) pos) (dNest i false t0 t1):=DS.mk fun H0 G0=>PS.imp (ps_set hN hi hx (pe_lst (pa_cons h0.pe (pa_cons h1.pe pa_nil hs1) hs0)) hs hf) fun Dn σ H q=>nest_two q
end
theorem paired_put {α β:Type} {F F':α→β→Prop} {x:α} {d':β} (f:F' x d') : ∀ {l:List α} {r:List β} {j:Nat},Paired F l r→l.Nodup→l[j]? = some x→(∀ y d,y ∈ l→y ≠ x→F y d→F' y d)→Paired F' l (r.set j d')
  | _,_,_,.nil,_,e,_=>by simp at e
  | _,_,0,.cons g t,nd,e,k=>by
    cases e
    refine .cons f (paired_mono (fun y d m q=>k y d (List.mem_cons_of_mem _ m) (fun z=>?_) q) t)
    exact (List.nodup_cons.mp nd).1 (z ▸ m)
  | _,_,j + 1,.cons (a:=y) g t,nd,e,k=>by
    have e':_ = some x:=e
    have nd':=List.nodup_cons.mp nd
    refine .cons (k _ _ List.mem_cons_self (fun z=>nd'.1 (z ▸ List.mem_of_getElem? (by simpa using e))) g) (paired_put f t nd'.2 (by simpa using e) fun y d m=>k y d (List.mem_cons_of_mem _ m))
theorem EnvO.inner {K:PySem.W.Frag} {H0 G H:Hp} {σ:St} {ρ:DEnv} {i:Nat} {t:Bool} {dss:List D} (e:EnvO K H0 G H σ ρ) (h1:dget ρ i = some (.n t dss)) :
    ∃ (a:Addr) (as:List Addr),σ[i]? = some (some (.ref a))∧(match t with | true=>SqT K G a (as.map V.ref) | false=>H a = some (.lst (as.map V.ref)))∧as.length = dss.length∧∀ j ds,dss[j]? = some (.lst ds)→∃ x vs,as[j]? = some x∧H0 x = none∧G x = none∧H x = some (.lst vs)∧Reps K G vs ds ∧
      ∀ H' vs' ds',Same H H'→Reps K G vs' ds'→EnvO K H0 G (upd H' x (.lst vs')) σ (dput ρ i (.n t (dss.set j (.lst ds')))):=by
  obtain ⟨o,e⟩:=e
  obtain ⟨a,h2,as,nd,pr,q⟩:=e.n i t dss h1
  refine ⟨a,as,h2,?_,Paired.length pr,fun j ds hj=>?_⟩
  · cases t with
    | true=>exact q
    | false=>exact q.2.2.2.2
  obtain ⟨x,hx,z0,z1,z2⟩:=paired_fst pr hj
  have gx:=z2.1
  obtain ⟨_,vs,hv,rv⟩:=z2
  refine ⟨x,vs,hx,z0,gx,hv,rv,fun H' vs' ds' hh r'=>?_⟩
  have eb:=e.back hh
  refine ⟨o,by rw [dput_len]; exact e.len,fun j' d q=>?_,fun j' d q=>?_,fun j' t' dss' q'=>?_⟩
  · rcases dget_put q with ⟨rfl,_,q⟩ | ⟨hne,q⟩
    · cases q
    · exact e.p j' d q
  · rcases dget_put q with ⟨rfl,_,q⟩ | ⟨hne,q⟩
    · cases q
    · obtain ⟨b,k1,k2,k2',k3⟩:=eb.o j' d q
      refine ⟨b,k1,k2,k2',k3.stay (Same.refl _) k3.1 fun o z=>?_⟩
      have:b ≠ x:=by
        rintro rfl
        exact hne (z1.symm.trans k2')
      rw [upd_ne this]
      exact z
  · rcases dget_put q' with ⟨rfl,_,q'⟩ | ⟨hne,q'⟩
    · cases q'
      refine ⟨a,h2,as,nd,paired_put ⟨z0,z1,gx,vs',upd_same,r'⟩ pr nd hx fun y d m hne ⟨k1,k2,k3⟩=>⟨k1,k2,k3.stay (Same.refl _) k3.1 fun o z=>by rw [upd_ne hne]; exact hh _ _ z⟩,?_⟩
      cases t with
      | true=>exact q
      | false =>
        obtain ⟨e1,e2,e3,e4,e5⟩:=q
        refine ⟨e1,e2,e3,e4,?_⟩
        have:a ≠ x:=by
          rintro rfl
          exact e4 (List.mem_of_getElem? hx)
        rw [upd_ne this]
        exact hh _ _ e5
    · obtain ⟨b,k1,k2⟩:=eb.n j' t' dss' q'
      refine ⟨b,k1,k2.stay (Same.refl _) fun y y1 y2 y3 y4=>⟨y3,y2,fun o z=>?_⟩⟩
      have:y ≠ x:=by
        rintro rfl
        exact hne (z1.symm.trans y2)
      rw [upd_ne this]
      exact z
noncomputable def dNestSet (i:Nat) (tk tm te:DT) : DTS:=fun E ρ=>te (frz ρ) fun b=>b.val.sc = true∧match dget ρ i with
  | some (.n t dss)=>tk (frz ρ) fun k=>match k.val with
    | .int z=>∃ j ds,ixN dss.length z = some j∧dss[j]? = some (.lst ds)∧tm (frz ρ) fun m=>match m.val with
      | .int z'=>∃ j',ixN ds.length z' = some j'∧E.nx (dput ρ i (.n t (dss.set j (.lst (ds.set j' b.val)))))
      | _=>False
    | _=>False
  | _=>False
section
variable {X:Cx} {e k m:Expr} {tk tm te:DT} {i:Nat} {x:Str} {pos px sp tpos:Pos}
end
theorem reps_sc {K:PySem.W.Frag} {G G':Hp} {vs:List V} {ds:List D} (h:Reps K G vs ds) (k:ds.all D.sc = true) : Reps K G' vs ds:=by
  induction h with
  | nil=>exact .nil
  | cons f _ ih =>
    rw [List.all_cons,Bool.and_eq_true] at k
    exact .cons (f.sc k.1) (ih k.2)
noncomputable def dNestPut (i:Nat) (tk te:DT) : DTS:=fun E ρ=>te (frz ρ) fun b=>match b with
  | .o (.lst ds)=>ds.all D.sc = true∧match dget ρ i with
    | some (.n false dss)=>tk (frz ρ) fun k=>match k.val with
      | .int z=>∃ j,ixN dss.length z = some j∧E.nx (dput ρ i (.n false (dss.set j (.lst ds))))
      | _=>False
    | _=>False
  | _=>False
section
variable {X:Cx} {e k:Expr} {tk te:DT} {i:Nat} {x:Str} {pos px tpos:Pos}
end
end DL
namespace DL
open PySem L2
noncomputable def dAppT (i:Nat) (te:DT) : DTS:=fun E ρ=>match dget ρ i with
  | some (.o (.lst ds))=>te (frz ρ) fun b=>match b.val with
    | .tup es=>es.all D.sc = true∧ds.length < sizeLine∧E.nx (dput ρ i (.o (.lst (ds ++ [.tup es]))))
    | _=>False
  | _=>False
section
variable {X:Cx} {e:Expr} {te:DT} {i:Nat} {x:Str} {px apos cpos spos:Pos}
end
end DL
namespace L2
open PySem PySem.Spec PyProof.Rows
section
variable {κ:Type} [DecidableEq κ]
noncomputable def valV (kvs:List (κ × V)) (k:κ) : Option V:=(kvs.find? fun kv=>decide (kv.1 = k)).map (·.2)
noncomputable def putK (kvs:List (κ × V)) (k:κ) (v:V) : List (κ × V):=
  if (kvs.any fun kv=>decide (kv.1 = k)) = true then kvs.map (fun kv=>if kv.1 = k then (kv.1,v) else kv) else kvs ++ [(k,v)]
theorem valV_pos {p:κ × V} {r:List (κ × V)} {k:κ} (e:p.1 = k) : valV (p :: r) k = some p.2:=by simp [valV,List.find?_cons,e]
theorem valV_neg {p:κ × V} {r:List (κ × V)} {k:κ} (e:¬ p.1 = k) : valV (p :: r) k = valV r k:=by simp [valV,List.find?_cons,e]
theorem valV_any (k:κ) : ∀ kvs:List (κ × V),(kvs.any fun kv=>decide (kv.1 = k)) = (valV kvs k).isSome
  | []=>rfl
  | p :: r=>by
    rw [List.any_cons]
    by_cases e:p.1 = k
    · simp only [valV_pos e,decide_eq_true e,Bool.true_or,Option.isSome_some]
    · rw [valV_neg e,decide_eq_false e,Bool.false_or]; exact valV_any k r
theorem length_putK (kvs:List (κ × V)) (k:κ) (v:V) : (putK kvs k v).length ≤ kvs.length + 1:=by
  unfold putK
  split
  · rw [List.length_map]; lia
  · rw [List.length_append,List.length_cons,List.length_nil]; lia
theorem RelO.isSome_eq {o:Option V} {u:Option Value} (r:RelO o u) : o.isSome = u.isSome:=by
  cases o with
  | none=>cases u with
    | none=>rfl
    | some _=>exact (show False from r).elim
  | some _=>cases u with
    | none=>exact (show False from r).elim
    | some _=>rfl
end
theorem kV_is {P:Program} {w:World} {k:Key} {u:Value} (r:RelV (kV k) u) : (mixKind P w).is k u = true:=by
  cases k with
  | inl i=>obtain ⟨t,e⟩:=(show ∃ t,u = Value.int i t from r); subst e; exact mixKind_int P w i t
  | inr x=>obtain ⟨t,e⟩:=(show ∃ t,u = Value.str x t from r); subst e; exact mixKind_str P w x t
theorem items_are {P:Program} {w:World} : ∀ {ks:List Key} {us:List Value},Vals (ks.map kV) us→ItemsAre (mixKind P w) ks us
  | [],_,r=>by rw [List.map_nil] at r; cases r; exact .nil
  | k :: ks,_,r=>by
    rw [List.map_cons] at r
    cases r with
    | cons h t=>exact .cons (kV_is h) (items_are t)
noncomputable abbrev KT (H:Hp) : List (List Key × V)→List (List Key × Addr × Value)→Prop:=Paired fun p q=>p.1 = q.1∧H q.2.1 = some (.tup (p.1.map kV))∧RelV p.2 q.2.2
theorem KT.val {H:Hp} {kvs:List (List Key × V)} {xs:List (List Key × Addr × Value)} (r:KT H kvs xs) (k:List Key) : RelO (valV kvs k) ((atKey xs k).map (·.2)):=by
  induction r with
  | nil=>exact True.intro
  | @cons p q ps qs h t ih =>
    obtain ⟨h1,_,h2⟩:=h
    by_cases e:p.1 = k
    · have e':q.1 = k:=h1.symm.trans e
      have b:atKey (q :: qs) k = some q.2:=by simp [atKey,List.find?_cons,e']
      rw [valV_pos e,b]; exact h2
    · have e':¬ q.1 = k:=fun z=>e (h1.trans z)
      have b:atKey (q :: qs) k = atKey qs k:=by simp [atKey,List.find?_cons,e']
      rw [valV_neg e,b]; exact ih
theorem KT.repl {H:Hp} {kvs:List (List Key × V)} {xs:List (List Key × Addr × Value)} (r:KT H kvs xs) (k:List Key) {y:V} {u:Value} (ry:RelV y u) :
    KT H (kvs.map fun kv=>if kv.1 = k then (kv.1,y) else kv) (xs.map (putAt k u)):=by
  induction r with
  | nil=>exact .nil
  | @cons p q ps qs h t ih =>
    rw [List.map_cons,List.map_cons]
    refine .cons ?_ ih
    obtain ⟨h1,h2,h3⟩:=h
    unfold putAt
    by_cases e:p.1 = k
    · rw [if_pos e,if_pos (h1.symm.trans e)]; exact ⟨h1,h2,ry⟩
    · rw [if_neg e,if_neg (fun z=>e (h1.trans z))]; exact ⟨h1,h2,h3⟩
theorem KT.put {H:Hp} {kvs:List (List Key × V)} {xs:List (List Key × Addr × Value)} (r:KT H kvs xs) (k:List Key) {b:Addr} {y:V} {u:Value} (hb:H b = some (.tup (k.map kV))) (ry:RelV y u) :
    KT H (putK kvs k y) (storedH xs k b u):=by
  have e:(kvs.any fun kv=>decide (kv.1 = k)) = (atKey xs k).isSome:=by
    rw [valV_any,(r.val k).isSome_eq,Option.isSome_map]
  unfold putK storedH
  rw [e]
  by_cases q:(atKey xs k).isSome = true
  · rw [if_pos q,if_pos q]; exact r.repl k ry
  · rw [if_neg q,if_neg q]; exact Paired.snoc r ⟨rfl,hb,ry⟩
theorem KT.keeps {H H':Hp} {kvs:List (List Key × V)} {xs:List (List Key × Addr × Value)} (r:KT H kvs xs) (ht:∀ b ys,H b = some (.tup ys)→H' b = some (.tup ys)) : KT H' kvs xs:=
  Paired.mapP r fun _ _ z=>⟨z.1,ht _ _ z.2.1,z.2.2⟩
section
variable {P:Program} {w:World} {H:Hp} {h:Heap} {a:Addr}
theorem rd_of {u:HO} (ok:HOk P w H h) (e:Rd H a u) : ObjOk P w H h a u:=e.ok ok
theorem key_of {ks:List Key} (ok:HOk P w H h) (e:H a = some (.tup (ks.map kV))) : (tupleKind (mixKind P w)).is h ks a:=by
  obtain ⟨_,its,r,o,h1,h2,n,h3⟩:=(show ObjOk P w H h a (.tup (ks.map kV)) from ok a _ e)
  exact ⟨o,its.toArray,n,h1,h2,h3,by simpa using items_are r⟩
theorem dt_rd {kvs:List (List Key × V)} (ok:HOk P w H h) (e:Rd H a (.dT kvs)) : kvs.length ≤ sizeLine∧(a == sysModules) = false ∧
    ∃ xs,KT H kvs xs∧h.DictOfH (tupleKind (mixKind P w)) a xs:=by
  obtain ⟨z,y,xs,r,o,es,ep,h1,h2,h3,h4,h5⟩:=(show ObjOk P w H h a (.dT kvs) from rd_of ok e)
  refine ⟨z,y,xs,r,o,es,ep,h1,h2,h3,h4,fun x hx=>?_,h5⟩
  have all:∀ {l:List (List Key × V)} {m:List (List Key × Addr × Value)},KT H l m→∀ x ∈ m,(tupleKind (mixKind P w)).is h x.1 x.2.1:=by
    intro l m q
    induction q with
    | nil=>intro x hx; exact nomatch hx
    | @cons p q ps qs hq t ih =>
      intro x hx
      rcases List.mem_cons.mp hx with e | hx
      · subst e
        exact key_of ok (by rw [← hq.1]; exact hq.2.1)
      · exact ih x hx
  exact all r x hx
theorem dt_of {kvs:List (List Key × V)} (ok:HOk P w H h) (e:H a = some (.dT kvs)) : kvs.length ≤ sizeLine∧(a == sysModules) = false ∧
    ∃ xs,KT H kvs xs∧h.DictOfH (tupleKind (mixKind P w)) a xs:=dt_rd ok (.inl e)
end
section
variable {X:Cx} {pins:List (Addr × Obj)} {σ:St} {H:Hp} {s:Shared} {a:Addr} {y v:V} {u r:Value} {o:Option V} {A:Around} {E:Value→Shared→Prop}
theorem Inv.big (I:Inv X pins σ H s) : sysModules < s.heap.objs.size:=by
  have h:mainGlobals < s.heap.objs.size:=(I.mod.glob.keeps I.bk).lt
  exact Nat.lt_trans (by decide) h
theorem d_write {h':Heap} {t':Nat} {ob:HO} (I:Inv X pins σ H s) (mu:Mut (H a)) (hs:Heap.SameBut a s.heap h') (he:∃ q,h'.get? a = some q) (new:ObjOk X.prog X.w (upd H a ob) h' a ob) :
    Inv X pins σ (upd H a ob) { s with heap:=h',toks:=t' }:=
  I.write (x:=a) (e:=a) mu (.inl rfl) (fun b q hb z=>(hs.2 b hb).trans z) he new
end
section
variable {X:Cx} {pins:List (Addr × Obj)} {σ:St} {H:Hp} {s:Shared} {a:Addr} {kvs:List (Key × V)} {k:Key} {u:Value} {A:Around} {E:Value→Shared→Prop}
end
noncomputable def NoSl (i:Expr) : Prop:=∀ ov iv,subscripted i false ov iv = operate [ov,iv] (getItem ov iv)
theorem subD_of {prog:Program} {w:World} {A:Around} {E:Value→Shared→Prop} {s:Shared} {env:Env} {value slice:Expr} {pos:Pos} {T id:String} {Q:Value→Shared→Prop}
    (hl:typeLookup (.type T) "__getitem__" = pure (some (.builtin id))) (hs:NoSl slice)
    (h:wpAny (model prog w) A (eval value env) (fun o s₁=>wpAny (model prog w) A (eval slice env) (fun i s₂=>s₂.TypeIs o T∧wpAny (model prog w) A (getItem o i) Q E s₂) E s₁) E s) :
    wpAny (model prog w) A (eval (.Subscript value slice pos) env) Q E s:=by
  refine Subscript_ (wpAny_mono h (fun o s₁ h₁=>wpAny_mono h₁ (fun i s₂ h₂=>?_) fun _ _ x=>x) fun _ _ x=>x)
  obtain ⟨hT,h₂⟩:=h₂
  unfold subscriptTail
  refine wpAny_bind ?_
  rw [getitemInPython_of_ne hT.not_modules]
  refine wpAny_bind (wpAny_specialOf hT hl ?_)
  have fin:wpAny (model prog w) A (subscripted slice false o i) (fun r s₃=>wpAny (model prog w) A (letTemporaryGo value o r >>= fun _=>pure r) Q E s₃) E s₂:=by
    rw [hs o i]
    exact wpAny_operating (wpAny_mono h₂ (fun r s₃ h₃=>wpAny_bind (wpAny_letTemporaryGo (wpAny_pure h₃))) fun _ _ x=>x)
  first
    | exact wpAny_pure (wpAny_bind fin)
    | exact wpAny_bind (wpAny_pure (wpAny_bind fin))
    | exact wpAny_bind fin
section
variable {X:Cx} {o i e value:Expr} {pos pos' tpos:Pos} {td ty tv:TE}
end
theorem dt_empty {P:Program} {w:World} {H:Hp} (h:Heap) (hb:sysModules < h.objs.size) : ObjOk P w H (h.push { cls:=.type "dict",data:=.dict #[] }) h.objs.size (.dT []):=
  ⟨Nat.zero_le _,beq_eq_false_iff_ne.mpr (Ne.symm (Nat.ne_of_lt hb)),[],.nil,_,#[],0,Heap.get?_push_size _ rfl,⟨rfl,rfl,rfl⟩,rfl,rfl,List.nodup_nil⟩
noncomputable def tDNewT:TE:=fun _ H Q=>∀ p,H p = none→Q (.ref p) (upd H p (.dT []))
section
variable {X:Cx} {pos:Pos}
theorem pe_dnewT:PE X (.Dict [] [] pos) tDNewT:=fun pins s σ H Q I h =>
  wpAny_Dict_empty ⟨.ref s.heap.objs.size,_,I.laid (a:=s.heap.objs.size) (o:=.dT []) (t':=s.toks) (fun _ _ q=>Heap.get?_push_of_some _ q) (Nat.le_refl _) (dt_empty s.heap I.big),rfl,h _ (I.hok.fresh (Nat.le_refl _))⟩
end
structure M1 (X:Cx) (o:Expr) (m:Str) (apos:Pos) (e:Expr) (cpos:Pos) : Prop where
  base:attributeBase o m X.env (eval o X.env) = eval o X.env
  few:((backTo cpos (starEach [e] X.env)).all (fun x=>!x.1) && (backToKw cpos (keywordEach [] X.env)).all (fun x=>x.1.isSome)
    && decide (([e] : List Expr).length + ([] : List Keyword).length + (if ([] : List Keyword).isEmpty then 0 else 1) < 30)) = true
  line:(apos.endLine == cpos.line) = true
  trees:backTo cpos (starEach [e] X.env) = [(false,eval e X.env)]
structure M2 (X:Cx) (o:Expr) (m:Str) (apos:Pos) (e f:Expr) (cpos:Pos) : Prop where
  base:attributeBase o m X.env (eval o X.env) = eval o X.env
  few:((backTo cpos (starEach [e,f] X.env)).all (fun x=>!x.1) && (backToKw cpos (keywordEach [] X.env)).all (fun x=>x.1.isSome)
    && decide (([e,f] : List Expr).length + ([] : List Keyword).length + (if ([] : List Keyword).isEmpty then 0 else 1) < 30)) = true
  line:(apos.endLine == cpos.line) = true
  trees:backTo cpos (starEach [e,f] X.env) = [(false,eval e X.env),(false,eval f X.env)]
section
variable {X:Cx} {pins:List (Addr × Obj)} {σ:St} {H:Hp} {s:Shared} {a:Addr} {y d:V} {u r:Value} {o:Option V} {A:Around} {E:Value→Shared→Prop}
end
section
variable {X:Cx} {o e f:Expr} {apos cpos:Pos} {td ty tx:TE}
end
section
variable {X:Cx} {pins:List (Addr × Obj)} {σ:St} {H:Hp} {s:Shared} {a:Addr} {kvs:List (Key × V)} {A:Around} {E:Value→Shared→Prop}
end
section
variable {X:Cx} {pins:List (Addr × Obj)} {σ:St} {H:Hp} {s:Shared} {a:Addr} {y:V} {u:Value} {A:Around} {E:Value→Shared→Prop}
end
section
variable {X:Cx}
end
section
variable {κ:Type} [DecidableEq κ]
end
end L2
namespace L2
open PySem PySem.Spec PyProof.Rows
section
variable {X:Cx} {pins:List (Addr × Obj)} {σ:St} {H:Hp} {s:Shared} {a b:Addr}
theorem key_sq {ks:List Key} (I:Inv X pins σ H s) (h:SqT X.K H b (ks.map kV)) : (tupleKind (mixKind X.prog X.w)).is s.heap ks b:=by
  obtain ⟨its,r,⟨o,h1,h2,n,h3⟩,z⟩:=I.tuple h
  exact ⟨o,its.toArray,n,h1,h2,h3,by simpa using items_are r⟩
noncomputable def rGetD (K:PySem.W.Frag) : V→V→Hp→VK→Prop:=fun x y H Q=>∃ a b kvs ks v,x = .ref a∧y = .ref b∧Rd H a (.dT kvs)∧SqT K H b (ks.map kV)∧valV kvs ks = some v∧Q v H
theorem getD_run {A:Around} {E:Value→Shared→Prop} {kvs:List (List Key × V)} {ks:List Key} {v:V} {Q:Value→Shared→Prop} (hu:A.units + 1 < cLine) (I:Inv X pins σ H s) (e:Rd H a (.dT kvs)) (hb:SqT X.K H b (ks.map kV)) (l:valV kvs ks = some v)
    (h:∀ w' s',Inv X pins σ H s'→RelV v w'→Q w' s') : wpAny (model X.prog X.w) A (getItem (.ref a) (.ref b)) Q E s:=by
  obtain ⟨z,hd,xs,rel,dd⟩:=dt_rd I.hok e
  obtain ⟨w',hw,rw'⟩:=RelO.some_of (v:=v) (o:=(atKey xs ks).map (·.2)) (by rw [← l]; exact rel.val ks)
  obtain ⟨p,hp,hp2⟩:=Option.map_eq_some_iff.mp hw
  exact wpAny_getItem_heap (tupleKind_room_in1 hu) (key_sq I hb) dd hp (by rw [hp2]; exact h w' _ (I.tok _) rw')
theorem get_dict (hu:X.A.units + 1 < cLine) : PGet X (rGetD X.K):=by
  intro pins s σ H o i ov iv Q I ro ri h
  obtain ⟨a,b,kvs,ks,v,rfl,rfl,e,hb,l,q⟩:=h
  cases ro
  cases ri
  exact getD_run hu I e hb l fun w' s' I' rw'=>⟨v,H,I',rw',q⟩
noncomputable def rSetD (K:PySem.W.Frag) : TSet:=fun x y v H Q=>∃ a b kvs ks,x = .ref a∧y = .ref b∧H a = some (.dT kvs)∧SqT K H b (ks.map kV)∧(valV kvs ks ≠ none ∨ H b = some (.tup (ks.map kV)))∧kvs.length < sizeLine∧Q (upd H a (.dT (putK kvs ks v)))
theorem KT.old {H:Hp} {kvs:List (List Key × V)} {xs:List (List Key × Addr × Value)} (r:KT H kvs xs) (k:List Key) {b:Addr} {y:V} {u:Value} (hb:valV kvs k ≠ none) (ry:RelV y u) : KT H (putK kvs k y) (storedH xs k b u):=by
  have e:(kvs.any fun kv=>decide (kv.1 = k)) = (atKey xs k).isSome:=by rw [valV_any,(r.val k).isSome_eq,Option.isSome_map]
  have q:(atKey xs k).isSome = true:=by
    rw [← e,valV_any]
    cases z:valV kvs k with
    | none=>exact absurd z hb
    | some _=>rfl
  unfold putK storedH
  rw [e,if_pos q,if_pos q]
  exact r.repl k ry
theorem set_dict (hu:X.A.units + 1 < cLine) : PSet X (rSetD X.K):=by
  intro pins s σ H o i v ov iv u Q I ro ri rv h
  obtain ⟨a,b,kvs,ks,rfl,rfl,e,hb,hk,l,q⟩:=h
  cases ro
  cases ri
  obtain ⟨z,hd,xs,rel,dd⟩:=dt_of I.hok e
  have hz:xs.length ≤ sizeLine:=by rw [← Paired.length rel]; exact z
  have hl:(putK kvs ks v).length ≤ sizeLine:=by have:=length_putK kvs ks v; lia
  have rel':KT H (putK kvs ks v) (storedH xs ks b u):=by
    rcases hk with hk | hk
    · exact rel.old ks hk rv
    · exact rel.put ks hk rv
  refine wpAny_setItem_heap (hsz:=hz) (tupleKind_room_in1 hu) (key_sq I hb) dd fun h' dd' hs=>⟨_,?_,q⟩
  obtain ⟨o',es,ep,hq,h2,h3,h4,_,h5⟩:=dd'
  exact d_write I (by rw [e]; exact True.intro) hs ⟨o',hq⟩ ⟨hl,hd,_,rel'.keeps fun c ys ec=>by rw [upd_ne (ne_of ec e fun z=>nomatch z)]; exact ec,o',es,ep,hq,h2,h3,h4,h5⟩
theorem pe_getD {o i:Expr} {pos:Pos} {td ty:TE} (hu:X.A.units + 1 < cLine) (ho:PE X o td) (hi:PE X i ty) (hs:NoSl i) : PE X (.Subscript o i pos) (tOp (rGetD X.K) td ty):=by
  intro pins s σ H Q I h
  refine subD_of PySem.F.slot_dict_getitem.lookup hs (thn (ho pins s σ H _ I h) fun u s1 ⟨x,H1,I1,rx,q1⟩=>thn (hi pins s1 σ H1 _ I1 q1) fun iv s2 ⟨y,H2,I2,ry,a,b,kvs,ks,v,ex,ey,e,hb,l,q2⟩=>?_)
  subst ex ey
  cases rx
  cases ry
  obtain ⟨_,_,xs,_,ob,_,_,h1,h2,_⟩:=dt_rd I2.hok e
  exact ⟨⟨ob,h1,h2.1⟩,getD_run hu I2 e hb l fun w' s3 I3 rw'=>⟨v,H2,I3,rw',q2⟩⟩
end
end L2
namespace DL
open PySem L2
noncomputable abbrev KVs:=List ((Int × Int) × Int)
noncomputable def valD (kvs:KVs) (k:Int × Int) : Option Int:=(kvs.find? fun p=>decide (p.1 = k)).map (·.2)
noncomputable def putD (kvs:KVs) (k:Int × Int) (v:Int) : KVs:=if (kvs.any fun p=>decide (p.1 = k)) = true then kvs.map (fun p=>if p.1 = k then (p.1,v) else p) else kvs ++ [(k,v)]
noncomputable def k2 (k:Int × Int) : List Key:=[Sum.inl k.1,Sum.inl k.2]
theorem k2_inj {a b:Int × Int} : k2 a = k2 b ↔ a = b:=by
  constructor
  · intro h
    unfold k2 at h
    injection h with h1 h2
    injection h2 with h2 _
    exact Prod.ext (Sum.inl.inj h1) (Sum.inl.inj h2)
  · rintro rfl; rfl
theorem valV_enc (kvs:KVs) (k:Int × Int) : valV (encD kvs) (k2 k) = (valD kvs k).map V.int:=by
  induction kvs with
  | nil=>rfl
  | cons p r ih =>
    have e:encD (p :: r) = (k2 p.1,V.int p.2) :: encD r:=rfl
    rw [e]
    by_cases h:p.1 = k
    · rw [valV_pos (p:=(k2 p.1,V.int p.2)) (k2_inj.mpr h)]
      simp [valD,List.find?_cons,h]
    · rw [valV_neg (p:=(k2 p.1,V.int p.2)) (fun z=>h (k2_inj.mp z)),ih]
      simp [valD,List.find?_cons,h]
theorem any_enc (kvs:KVs) (k:Int × Int) : ((encD kvs).any fun kv=>decide (kv.1 = k2 k)) = kvs.any fun p=>decide (p.1 = k):=by
  induction kvs with
  | nil=>rfl
  | cons p r ih =>
    have e:encD (p :: r) = (k2 p.1,V.int p.2) :: encD r:=rfl
    rw [e,List.any_cons,List.any_cons,ih]
    congr 1
    exact decide_eq_decide.mpr k2_inj
theorem putK_enc (kvs:KVs) (k:Int × Int) (v:Int) : putK (encD kvs) (k2 k) (.int v) = encD (putD kvs k v):=by
  unfold putK putD
  rw [any_enc]
  by_cases h:(kvs.any fun p=>decide (p.1 = k)) = true
  · rw [if_pos h,if_pos h]
    unfold encD
    rw [List.map_map,List.map_map]
    refine List.map_congr_left fun p _=>?_
    show (if k2 p.1 = k2 k then (k2 p.1,V.int v) else (k2 p.1,V.int p.2)) = _
    show _ = (k2 (if p.1 = k then (p.1,v) else p).1,V.int (if p.1 = k then (p.1,v) else p).2)
    by_cases e:p.1 = k
    · rw [if_pos (k2_inj.mpr e),if_pos e]
    · rw [if_neg (fun z=>e (k2_inj.mp z)),if_neg e]
  · rw [if_neg h,if_neg h]
    unfold encD
    rw [List.map_append]
    rfl
theorem encD_len (kvs:KVs) : (encD kvs).length = kvs.length:=by unfold encD; rw [List.length_map]
theorem pair_sq {K:PySem.W.Frag} {G:Hp} {v:V} {i j:Int} (r:Rep K G v (.tup [.int i,.int j])) : ∃ b,v = .ref b∧SqT K G b ((k2 (i,j)).map kV):=by
  obtain ⟨b,vs,rfl,e,rr⟩:=r.tup_inv
  refine ⟨b,rfl,?_⟩
  cases rr with
  | cons r1 rr=>cases rr with
    | cons r2 rr=>cases rr; cases r1; cases r2; exact e
theorem EnvO.setX {K:PySem.W.Frag} {H0 G H:Hp} {σ:St} {ρ:DEnv} {i:Nat} {a:Addr} {d d':D} {ob:HO} (e:EnvO K H0 G H σ ρ) (h1:dget ρ i = some (.o d)) (h2:σ[i]? = some (some (.ref a))) (r:OwnAt K G (upd H a ob) a d') : EnvO K H0 G (upd H a ob) σ (dput ρ i (.o d')):=by
  obtain ⟨o,e⟩:=e
  obtain ⟨a',h3,h4,h4',h5⟩:=e.o i _ h1
  rw [h2] at h3
  cases h3
  refine ⟨o,by rw [dput_len]; exact e.len,fun j d q=>?_,fun j d q=>?_,fun j t dss q=>?_⟩
  · rcases dget_put q with ⟨rfl,_,q⟩ | ⟨hne,q⟩
    · cases q
    · exact e.p j d q
  · rcases dget_put q with ⟨rfl,_,q⟩ | ⟨hne,q⟩
    · cases q
      exact ⟨a,h2,h4,h4',r⟩
    · obtain ⟨b,k1,k2,k2',k3⟩:=e.o j d q
      refine ⟨b,k1,k2,k2',k3.stay (Same.refl _) k3.1 fun o z=>?_⟩
      rw [upd_ne (by rintro rfl; exact hne (h4'.symm.trans k2'))]
      exact z
  · rcases dget_put q with ⟨rfl,_,q⟩ | ⟨hne,q⟩
    · cases q
    · obtain ⟨b,k1,k2⟩:=e.n j t dss q
      refine ⟨b,k1,k2.stay (Same.refl _) fun x z1 z2 z3 z4=>⟨z3,z2,fun o z=>?_⟩⟩
      rw [upd_ne (by rintro rfl; exact hne (h4'.symm.trans z2))]
      exact z
theorem EnvO.put2 {K:PySem.W.Frag} {H0 G H G' H':Hp} {σ:St} {ρ:DEnv} {i j:Nat} {b c:Addr} {d d':D} (h:EnvO K H0 G H σ ρ) (w:Wd H G H' G') (hh:Same H0 H) (hij:i ≠ j) (hb:H b = none) (hc:H c = none) (bc:b ≠ c) (r:OwnAt K G' H' b d) (r':OwnAt K G' H' c d') :
    EnvO K H0 G' H' ((σ.set i (some (.ref b))).set j (some (.ref c))) (dput (dput ρ i (.o d)) j (.o d')):=by
  obtain ⟨o,h⟩:=h
  have h2:=(h.also (o':=fun x=>if x = b then i else if x = c then j else o x) fun x q=>by
    rw [if_neg fun z:x = b=>q (z ▸ hb),if_neg fun z:x = c=>q (z ▸ hc)]).on w
  have oc:(if c = b then i else if c = c then j else o c) = j:=by rw [if_neg bc.symm,if_pos rfl]
  refine ⟨fun x=>if x = b then i else if x = c then j else o x,by rw [List.length_set,List.length_set,dput_len,dput_len]; exact h.len,fun m d e=>?_,fun m d e=>?_,fun m t dss e=>?_⟩
  · rcases dget_put e with ⟨rfl,hl,e⟩ | ⟨hne,e⟩
    · cases e
    · rcases dget_put e with ⟨rfl,hl,e⟩ | ⟨hne',e⟩
      · cases e
      · obtain ⟨v,h1,h3⟩:=h2.p m d e
        exact ⟨v,by rw [set_get hne,set_get hne']; exact h1,h3⟩
  · rcases dget_put e with ⟨rfl,hl,e⟩ | ⟨hne,e⟩
    · cases e
      exact ⟨c,set_self (by rw [List.length_set,h.len]; rw [dput_len] at hl; exact hl),hh.free hc,oc,r'⟩
    · rcases dget_put e with ⟨rfl,hl,e⟩ | ⟨hne',e⟩
      · cases e
        exact ⟨b,by rw [set_get hne]; exact set_self (by rw [h.len]; exact hl),hh.free hb,if_pos rfl,r⟩
      · obtain ⟨v,h1,h3⟩:=h2.o m d e
        exact ⟨v,by rw [set_get hne,set_get hne']; exact h1,h3⟩
  · rcases dget_put e with ⟨rfl,hl,e⟩ | ⟨hne,e⟩
    · cases e
    · rcases dget_put e with ⟨rfl,hl,e⟩ | ⟨hne',e⟩
      · cases e
      · obtain ⟨v,h1,h3⟩:=h2.n m t dss e
        exact ⟨v,by rw [set_get hne,set_get hne']; exact h1,h3⟩
section
variable {X:Cx} {e e1 e2 o k:Expr} {te t1 t2 ta tk:DT} {i:Nat} {x:Str} {pos px lp tpos sp:Pos}
noncomputable def dNewD:DT:=fun _ Q=>Q (.o (.dct []))
theorem de_dnew:DE X (.Dict [] [] pos) dNewD:=
  DE.of pe_dnewT fun σ H Q ⟨G,ρ,P,s,_,h,k⟩ p hp=>k _ _ _ G h ((Wd.refl s).own hp (s.free hp)) ⟨p,rfl,hp,s.free hp,upd_same⟩
noncomputable def dGetD:D2:=fun x y Q=>match x,y with
  | .dct kvs,.tup [.int i,.int j]=>∃ v,valD kvs (i,j) = some v∧Q (.p (.int v))
  | _,_=>False
theorem de_dget {n:Nat} (hr:Room n X.A) (ha:DE X o ta) (hk:DE X k tk) (hs:NoSl k:=by exact fun _ _=>rfl) : DE X (.Subscript o k pos) (dOp dGetD ta tk):=
  DE.of (pe_getD (hu_of hr) ha.pe hk.pe hs) (cE_two fun H G x y dx dy P Q s rx ry h kk=>by
    unfold dGetD at h
    split at h
    · obtain ⟨v,h1,h2⟩:=h
      obtain ⟨b,rfl,hb⟩:=pair_sq ry
      cases rx with
      | dct e=>exact ⟨_,b,_,_,.int v,rfl,rfl,.inl (s _ _ e),same_seqT s hb,by rw [valV_enc,h1]; rfl,kk _ _ H G h2 (Wd.refl s) (.int _)⟩
    · exact h.elim)
noncomputable def dDPut (i:Nat) (t1 t2 te:DT) : DTS:=fun E ρ=>match dget ρ i with
  | some (.o (.dct kvs))=>te (frz ρ) fun b=>match b.val with
    | .int v=>t1 (frz ρ) fun b1=>match b1.val with
      | .int z=>t2 (frz ρ) fun b2=>match b2.val with
        | .int y=>kvs.length < sizeLine∧E.nx (dput ρ i (.o (.dct (putD kvs (z,y) v))))
        | _=>False
      | _=>False
    | _=>False
  | _=>False
theorem ds_dput {n:Nat} {x1} (hr:Room n X.A) (hN:X.N[i]? = some x) (hv:Vis X.env.scope x) (h1:DE X e1 t1) (h2:DE X e2 t2) (he:DE X e te) (hd:(x == ("__debug__" : Str)) = false:=by decide) (hcd:(x == ("__classdict__" : Str)) = false:=by decide)
    (hs0:starEach [e1,e2] X.env = (false,eval e1 X.env) :: starEach [e2] X.env:=by rfl) (hs1:starEach [e2] X.env = (false,eval e2 X.env) :: starEach [] X.env:=by rfl)
    (ha:∀ v,assign (.Subscript (.Name x px) (.Tuple [e1,e2] x1 lp) tpos) X.env v = (do
      let ov ← holding [v] (eval (.Name x px) X.env)
      let iv ← holding [v,ov] (eval (.Tuple [e1,e2] x1 lp) X.env)
      standAt tpos
      holding [v,ov,iv] (setItem ov iv v)
      release [v,ov,iv] []):=by intro _; rfl)
    (hs:swapsWithSole [.Subscript (.Name x px) (.Tuple [e1,e2] x1 lp) tpos] e pos.line X.env = pure false:=by rfl) (hw:swappedStores [.Subscript (.Name x px) (.Tuple [e1,e2] x1 lp) tpos] e X.env = pure none:=by rfl)
    (h0:(assignEach [.Subscript (.Name x px) (.Tuple [e1,e2] x1 lp) tpos] X.env).map (·.2) = [assign (.Subscript (.Name x px) (.Tuple [e1,e2] x1 lp) tpos) X.env]:=by rfl) :
    DS X (.Assign [.Subscript (.Name x px) (.Tuple [e1,e2] x1 lp) tpos] e pos) (dDPut i t1 t2 te):=DS.mk fun H0 G0 =>
  PS.imp (ps_asg he.pe (pg_sub (pe_var hN hv hd hcd) (pe_tup (pa_cons h1.pe (pa_cons h2.pe pa_nil hs1) hs0)) (set_dict (hu_of hr)) ha) hs hw h0) fun Dn σ H ⟨E,G,ρ,eo,w,en,h⟩=>by
    unfold dDPut at h
    split at h
    · rename_i kvs q
      obtain ⟨a,ha1,ha2,ha3,ha4⟩:=en.o i _ q
      have ha4:H a = some (.dT (encD kvs)):=ha4
      obtain ⟨G1,w1,sg,en1⟩:=en.freeze w
      refine ⟨G1,frz ρ,_,w1.gh,en1.p,h,fun b v H' G' p' w' r'=>?_⟩
      split at p'
      · rename_i vv ev
        have hvv:=bres_int w' r' ev
        subst hvv
        refine ⟨.ref a,ha1,G',frz ρ,_,w'.gh,RepE.mono w'.gg en1.p,p',fun b1 v1 H1 G1' p1 w1' r1=>?_⟩
        split at p1
        · rename_i z ez
          have hz:=bres_int w1' r1 ez
          subst hz
          refine ⟨G1',frz ρ,_,w1'.gh,RepE.mono (w'.trans w1').gg en1.p,p1,fun b2 v2 H2 G2 p2 w2 r2=>?_⟩
          split at p2
          · rename_i y ey
            have hy:=bres_int w2 r2 ey
            subst hy
            obtain ⟨hl,p2⟩:=p2
            refine ⟨small_len (by show 2 ≤ 1000; decide),fun p hp=>?_⟩
            have s2:Same H H2:=(w'.hh.trans w1'.hh).trans w2.hh
            have e2:H2 a = some (.dT (encD kvs)):=s2 _ _ ha4
            have pa:a ≠ p:=by rintro rfl; rw [e2] at hp; cases hp
            have hu:upd H2 p (.tup [.int z,.int y]) a = some (.dT (encD kvs)):=by rw [upd_ne pa]; exact e2
            refine ⟨a,p,encD kvs,k2 (z,y),rfl,rfl,hu,.inl (.inl upd_same),.inr upd_same,by rw [encD_len]; exact hl,?_⟩
            rw [putK_enc]
            have s3:Same H (upd H2 p (.tup [.int z,.int y])):=s2.trans (same_new hp)
            have wb:Wd H0 G0 (upd H2 p (.tup [.int z,.int y])) G:=⟨w.hh.trans s3,w.gg,w.gh.trans s3,w.old⟩
            exact eo.nx σ _ G _ (wb.own ha2 ha3) ((en.back s3).setX q ha1 ⟨ha3,upd_same⟩) p2
          · exact p2.elim
        · exact p1.elim
      · exact p'.elim
    · exact h.elim
noncomputable def dDAug (i:Nat) (tk te:DT) (f:Int→Int→Int) : DTS:=fun E ρ=>match dget ρ i with
  | some (.o (.dct kvs))=>tk (frz ρ) fun b=>match b.val with
    | .tup [.int z,.int y]=>∃ m,valD kvs (z,y) = some m∧te (frz ρ) fun b=>match b.val with
      | .int v=>kvs.length < sizeLine∧E.nx (dput ρ i (.o (.dct (putD kvs (z,y) (f m v)))))
      | _=>False
    | _=>False
  | _=>False
theorem ds_daug {op:Operator} {f:Int→Int→Int} (h:PS X (.AugAssign (.Subscript (.Name x px) k tpos) op e pos) (tAugS (tVar i) (cE X.K tk) (cE X.K te) (rGetD X.K) (ipI f) (rSetD X.K))) :
    DS X (.AugAssign (.Subscript (.Name x px) k tpos) op e pos) (dDAug i tk te f):=DS.mk fun H0 G0 =>
  PS.imp h fun Dn σ H ⟨E,G,ρ,eo,w,en,h⟩=>by
    unfold dDAug at h
    split at h
    · rename_i kvs q
      obtain ⟨a,ha1,ha2,ha3,ha4⟩:=en.o i _ q
      have ha4:H a = some (.dT (encD kvs)):=ha4
      obtain ⟨G1,w1,sg,en1⟩:=en.freeze w
      refine ⟨.ref a,ha1,G1,frz ρ,_,w1.gh,en1.p,h,fun b v H' G' p' w' r'=>?_⟩
      obtain ⟨G2,w2,r2⟩:=r'.give w'
      split at p'
      · rename_i z y ez
        rw [ez] at r2
        obtain ⟨m,hm,p'⟩:=p'
        obtain ⟨c,rfl,hc⟩:=pair_sq r2
        have hv:valV (encD kvs) (k2 (z,y)) = some (.int m):=by rw [valV_enc,hm]; rfl
        refine ⟨a,c,encD kvs,k2 (z,y),.int m,rfl,rfl,.inl (w2.hh _ _ ha4),same_seqT w2.gh hc,hv,?_⟩
        refine ⟨G2,frz ρ,_,w2.gh,RepE.mono w2.gg en1.p,p',fun b3 v3 H3 G3 p3 w3 r3=>?_⟩
        split at p3
        · rename_i n en3
          obtain ⟨hl,p3⟩:=p3
          have s3:Same H H3:=w2.hh.trans w3.hh
          refine ⟨m,n,rfl,bres_int w3 r3 en3,a,c,encD kvs,k2 (z,y),rfl,rfl,s3 _ _ ha4,same_seqT (w2.gh.trans w3.hh) hc,.inl (by rw [hv]; simp),by rw [encD_len]; exact hl,?_⟩
          rw [putK_enc]
          have wb:Wd H0 G0 H3 G:=⟨w.hh.trans s3,w.gg,w.gh.trans s3,w.old⟩
          exact eo.nx σ _ G _ (wb.own ha2 ha3) ((en.back s3).setX q ha1 ⟨ha3,upd_same⟩) p3
        · exact p3.elim
      · exact p'.elim
    · exact h.elim
noncomputable def dRetTO (i j:Nat) : DTS:=fun E ρ=>match dget ρ i,dget ρ j with
  | some (.o d),some (.o d')=>i ≠ j∧E.rt (.n true [d,d'])
  | _,_=>False
theorem ds_retTO (i j:Nat) {x y:Str} {px py:Pos} {x1} (hN:X.N[i]? = some x:=by rfl) (hv:Vis X.env.scope x:=by first | exact Or.inl rfl | exact Or.inr (Or.inl rfl) | exact Or.inr (Or.inr rfl)) (hd:(x == ("__debug__" : Str)) = false:=by decide)
    (hcd:(x == ("__classdict__" : Str)) = false:=by decide) (hN':X.N[j]? = some y:=by rfl) (hv':Vis X.env.scope y:=by first | exact Or.inl rfl | exact Or.inr (Or.inl rfl) | exact Or.inr (Or.inr rfl)) (hd':(y == ("__debug__" : Str)) = false:=by decide)
    (hcd':(y == ("__classdict__" : Str)) = false:=by decide) (hs0:starEach [.Name x px,.Name y py] X.env = (false,eval (.Name x px) X.env) :: starEach [.Name y py] X.env:=by rfl) (hs1:starEach [.Name y py] X.env = (false,eval (.Name y py) X.env) :: starEach [] X.env:=by rfl) :
    DS X (.Return (some (.Tuple [.Name x px,.Name y py] x1 lp)) pos) (dRetTO i j):=DS.mk fun H0 G0 =>
  PS.imp (ps_ret (pe_tup (pa_cons (pe_var hN hv hd hcd) (pa_cons (pe_var hN' hv' hd' hcd') pa_nil hs1) hs0))) fun Dn σ H ⟨E,G,ρ,eo,w,en,h⟩=>by
    unfold dRetTO at h
    split at h
    · rename_i d d' q q'
      obtain ⟨hij,h⟩:=h
      obtain ⟨o,en⟩:=en
      obtain ⟨a,h1,h2,h2',h3⟩:=en.o i d q
      obtain ⟨b,g1,g2,g2',g3⟩:=en.o j d' q'
      have ab:a ≠ b:=fun z=>hij (by rw [← h2',← g2',z])
      refine ⟨.ref a,h1,.ref b,g1,small_len (by show 2 ≤ 1000; decide),fun p hp=>?_⟩
      have pa:a ≠ p:=by rintro rfl; exact h3.there hp
      have pb:b ≠ p:=by rintro rfl; exact g3.there hp
      have gp:G p = none:=w.gh.free hp
      have st:∀ z dz,OwnAt X.K G H z dz→z ≠ p→OwnAt X.K (upd G p (.tup [V.ref a,V.ref b])) (upd H p (.tup [V.ref a,V.ref b])) z dz:=fun z dz k n=>k.stay (same_new gp) (by rw [upd_ne n]; exact k.1) fun o q=>by rw [upd_ne n]; exact q
      refine eo.rt (.n true [d,d']) _ _ (upd G p (.tup [V.ref a,V.ref b])) (w.new hp) ⟨p,[a,b],rfl,.inl (.inl upd_same),by simp [ab],.cons ⟨h2,st a d h3 pa⟩ (.cons ⟨g2,st b d' g3 pb⟩ .nil)⟩ h
    · exact h.elim
noncomputable def dUnN (te:DT) (i j:Nat) : DTS:=fun E ρ=>te ρ fun b=>match b with
  | .n true [d,d']=>i ≠ j∧E.nx (dput (dput ρ i (.o d)) j (.o d'))
  | _=>False
theorem ds_unN {tg:Expr} {i j:Nat} (he:DE X e te) (hg:PG X tg ((Tg.t [i,j]).v X.K)) (hs:swapsWithSole [tg] e pos.line X.env = pure false:=by rfl) (hw:swappedStores [tg] e X.env = pure none:=by rfl)
    (h1:(assignEach [tg] X.env).map (·.2) = [assign tg X.env]:=by rfl) : DS X (.Assign [tg] e pos) (dUnN te i j):=DS.mk fun H0 G0 =>
  PS.imp (ps_asg he.pe hg hs hw h1) fun Dn σ H ⟨E,G,ρ,eo,w,en,h⟩=>by
    refine ⟨G,ρ,_,w.gh,en.p,h,fun b v H' G' p' w' r'=>?_⟩
    split at p'
    · rename_i d d'
      obtain ⟨hij,p'⟩:=p'
      obtain ⟨a,as,rfl,q,nd,pr⟩:=r'
      cases pr with
      | cons f pr=>cases pr with
        | cons g pr =>
          cases pr
          rename_i b c
          have bc:b ≠ c:=by simp at nd; exact nd
          refine ⟨a,[.ref b,.ref c],rfl,.inl (same_seqT w'.gh q),rfl,.ref b,[.ref c],rfl,.ref c,[],rfl,rfl,?_⟩
          exact eo.nx _ _ G' _ (w.trans w') (EnvO.put2 en w' w.hh hij f.1 g.1 bc f.2 g.2) p'
    · exact p'.elim
end
end DL
namespace DL
open PySem L2
theorem allT {K:PySem.W.Frag} {H0 G0 G H G1 H' G':Hp} (w:Wd H0 G0 H G) (w1:Wd H0 G0 H G1) (w':Wd H G1 H' G') :
    ∃ G3,Wd H0 G0 H' G3∧Same G G3∧(∀ c us,SqT K G' c us→SqT K G3 c us)∧(∀ c us,H' c = some (.tup us)→G3 c = some (.tup us))∧∀ x,(∀ us,H' x ≠ some (.tup us))→(∀ o us,H' x ≠ some (.frz o us))→G3 x = G x:=by
  classical
  have gh':Same G H':=w.gh.trans w'.hh
  let C:Addr→Prop:=fun c=>(∃ us,H' c = some (.tup us)) ∨ (H0 c = none∧∃ o us,H' c = some (.frz o us))
  obtain ⟨G3,yes,no⟩ : ∃ G3:Hp,(∀ c,C c→G3 c = H' c)∧∀ c,¬ C c→G3 c = G c:=⟨fun c=>if C c then H' c else G c,fun c h=>if_pos h,fun c h=>if_neg h⟩
  have sg:Same G G3:=fun c o e=>by
    by_cases z:C c
    · rw [yes c z]; exact gh' _ _ e
    · rw [no c z]; exact e
  refine ⟨G3,⟨w.hh.trans w'.hh,w.gg.trans sg,fun c o e=>?_,fun c hc=>?_⟩,sg,fun c us h=>?_,fun c us h=>by rw [yes c (.inl ⟨us,h⟩)]; exact h,fun x h1 h2=>no x ?_⟩
  · by_cases z:C c
    · rw [yes c z] at e; exact e
    · rw [no c z] at e; exact gh' _ _ e
  · rw [no c ?_]
    · exact w.old c hc
    · obtain ⟨o,e,n⟩:=hc
      rintro (⟨us,z⟩ | ⟨z,_⟩)
      · have:=(w.hh.trans w'.hh) _ _ e
        rw [z] at this
        cases this
        exact n us rfl
      · rw [z] at e; cases e
  · rcases h with h | h
    · rcases h with h | ⟨o,h⟩
      · have e:=w'.gh _ _ h
        exact .inl (.inl (by rw [yes c (.inl ⟨us,e⟩)]; exact e))
      · have e:=w'.gh _ _ h
        by_cases z:H0 c = none
        · exact .inl (.inr ⟨o,by rw [yes c (.inr ⟨z,o,_,e⟩)]; exact e⟩)
        · have cg:Chg H0 c:=by
            cases q:H0 c with
            | none=>exact absurd q z
            | some y =>
              have:=(w.hh.trans w'.hh) _ _ q
              rw [e] at this
              cases this
              exact ⟨_,q,fun _ z=>nomatch z⟩
          have n:¬ C c:=by
            rintro (⟨us',k⟩ | ⟨k,_⟩)
            · rw [e] at k; cases k
            · exact z k
          refine .inl (.inr ⟨o,?_⟩)
          rw [no c n,w.old c cg,← (w1.trans w').old c cg]
          exact h
    · exact .inr h
  · rintro (⟨us,z⟩ | ⟨_,o,us,z⟩)
    · exact h1 us z
    · exact h2 o us z
theorem EnvO.more {K:PySem.W.Frag} {H0 G H G3:Hp} {σ:St} {ρ:DEnv} (e:EnvO K H0 G H σ ρ) (sg:Same G G3) (hk:∀ x,G x = none→((∃ vs,H x = some (.lst vs)) ∨ ∃ kvs,H x = some (.dT kvs))→G3 x = none) : EnvO K H0 G3 H σ ρ:=by
  obtain ⟨o,e⟩:=e
  have own:∀ x d,OwnAt K G H x d→OwnAt K G3 H x d:=fun x d q=>by
    refine q.stay sg (hk x q.1 ?_) fun o z=>z
    obtain ⟨k1,k2⟩:=q
    cases d with
    | lst ds=>obtain ⟨vs,k3,_⟩:=k2; exact .inl ⟨vs,k3⟩
    | dct kvs=>exact .inr ⟨_,k2⟩
    | non=>exact k2.elim
    | bl _=>exact k2.elim
    | int _=>exact k2.elim
    | str _=>exact k2.elim
    | tup _=>exact k2.elim
    | scr _=>exact k2.elim
  refine ⟨o,e.len,fun i d q=>?_,fun i d q=>?_,fun i t dss q=>?_⟩
  · obtain ⟨v,h1,h2⟩:=e.p i d q
    exact ⟨v,h1,h2.mono sg⟩
  · obtain ⟨b,h1,h2,h3,h4⟩:=e.o i d q
    exact ⟨b,h1,h2,h3,own b d h4⟩
  · obtain ⟨b,h1,as,nd,pr,z⟩:=e.n i t dss q
    refine ⟨b,h1,as,nd,paired_mono (fun x d _ ⟨k1,k2,k3⟩=>⟨k1,k2,own x _ k3⟩) pr,?_⟩
    cases t with
    | true=>exact same_seqT sg z
    | false =>
      obtain ⟨z1,z2,z3,z4,z5⟩:=z
      exact ⟨z1,z2,hk b z3 (.inl ⟨_,z5⟩),z4,z5⟩
noncomputable def D.flat:D→Bool
  | .tup es=>es.all D.sc
  | d=>d.sc
theorem Rep.flat {K:PySem.W.Frag} {G' G3:Hp} {v:V} {d:D} (k:∀ c us,SqT K G' c us→SqT K G3 c us) (r:Rep K G' v d) (f:d.flat = true) : Rep K G3 v d:=by
  cases d with
  | tup es =>
    obtain ⟨a,vs,rfl,e,rr⟩:=r.tup_inv
    exact Rep.tup' (k _ _ e) (reps_sc rr f)
  | non=>exact r.sc f
  | bl _=>exact r.sc f
  | int _=>exact r.sc f
  | str _=>exact r.sc f
  | lst _=>exact r.sc f
  | scr _=>exact r.sc f
  | dct _=>exact r.sc f
theorem Reps.flat {K:PySem.W.Frag} {G' G3:Hp} {vs:List V} {ds:List D} (k:∀ c us,SqT K G' c us→SqT K G3 c us) (r:Reps K G' vs ds) (f:ds.all D.flat = true) : Reps K G3 vs ds:=by
  induction r with
  | nil=>exact .nil
  | cons h _ ih =>
    rw [List.all_cons,Bool.and_eq_true] at f
    exact .cons (h.flat k f.1) (ih f.2)
section
variable {X:Cx} {tg iter:Expr} {te:DT} {body:List Stmt} {g:Tg} {tb:DTS} {pos:Pos}
noncomputable def dForT (te:DT) (g:Tg) (tb:DTS) : DTS:=fun E ρ=>te (frz ρ) fun b=>match b with
  | .o (.lst ds)=>ds.all D.flat = true∧forI g tb E ds ρ
  | _=>False
theorem ds_forT (hp:PassesOwn (model X.prog X.w) X.A X.env X.xe) (hc:X.calm = true) (he:DE X iter te) (hg:PG X tg (g.v X.K)) (hb:DSs X body tb) (hs:∀ x,foldedSetIterable iter X.env x = pure x:=by intro _; rfl) :
    DS X (.For tg iter body [] pos) (dForT te g tb):=DS.mk fun H0 G0 =>
  PS.imp (ps_for hp hc (pi_list he.pe) hg hb.x hs) fun Dn σ H ⟨E,G,ρ,eo,w,en,h⟩=>by
    obtain ⟨G1,w1,sg,e1⟩:=en.freeze w
    refine ⟨G1,frz ρ,_,w1.gh,e1.p,h,fun b v H' G' p' w' r'=>?_⟩
    split at p'
    · rename_i ds
      obtain ⟨fl,p'⟩:=p'
      obtain ⟨a,rfl,ha,ga,vs,hv,rr⟩:=r'
      obtain ⟨G3,w3,s3,k3,_,o3⟩:=allT (K:=X.K) w w1 w'
      have g3:G3 a = none:=by
        rw [o3 a (fun us z=>by rw [hv] at z; cases z) (fun o us z=>by rw [hv] at z; cases z)]
        exact w.gh.free ha
      have w4:Wd H0 G0 H' (upd G3 a (.lst vs)):=w3.give (.inl (w.hh.free ha)) g3 hv
      have s4:Same G3 (upd G3 a (.lst vs)):=same_new g3
      have en4:EnvO X.K H0 (upd G3 a (.lst vs)) H' σ ρ:=(en.more (s3.trans s4) fun x gx hx=>by
        have xa:x ≠ a:=by
          rintro rfl
          rcases hx with ⟨_,z⟩ | ⟨_,z⟩ <;> rw [ha] at z <;> cases z
        rw [upd_ne xa,o3 x,gx]
        · intro us z
          rcases hx with ⟨_,y⟩ | ⟨_,y⟩ <;> have:=w'.hh _ _ y <;> rw [z] at this <;> cases this
        · intro o us z
          rcases hx with ⟨_,y⟩ | ⟨_,y⟩ <;> have:=w'.hh _ _ y <;> rw [z] at this <;> cases this).back w'.hh
      refine ⟨a,rfl,⟨vs,SqL.of hv⟩,for_core eo w4 en4 (itd_list (SqL.of upd_same) (Reps.mono s4 (Reps.flat k3 rr fl))) p'⟩
    · exact p'.elim
end
section
variable {X:Cx} {e k m:Expr} {tk tm te:DT} {i:Nat} {x:Str} {pos px sp tpos:Pos}
noncomputable def dNestAug (i:Nat) (tk tm te:DT) (f:Int→Int→Int) : DTS:=fun E ρ=>match dget ρ i with
  | some (.n t dss)=>tk (frz ρ) fun k=>match k.val with
    | .int z=>∃ j ds,ixN dss.length z = some j∧dss[j]? = some (.lst ds)∧tm (frz ρ) fun m=>match m.val with
      | .int z'=>∃ j' q,ixN ds.length z' = some j'∧ds[j']? = some (.int q)∧te (frz ρ) fun b=>match b.val with
        | .int v=>E.nx (dput ρ i (.n t (dss.set j (.lst (ds.set j' (.int (f q v)))))))
        | _=>False
      | _=>False
    | _=>False
  | _=>False
theorem ds_nestAug {op:Operator} {f:Int→Int→Int} (hN:X.N[i]? = some x) (hv:Vis X.env.scope x) (hk:DE X k tk) (hm:DE X m tm) (he:DE X e te) (ho:PIp X op (ipI f)) (hp:PlainIx k:=by exact fun _ _=>rfl) (hd:(x == ("__debug__" : Str)) = false:=by decide) (hcd:(x == ("__classdict__" : Str)) = false:=by decide)
    (ha:∀ ov iv new,augStore m ov iv new = (do holding [new,ov,iv] (setItem ov iv new); release [new,ov,iv] []; pure .next):=by intros; rfl) :
    DS X (.AugAssign (.Subscript (.Subscript (.Name x px) k sp) m tpos) op e pos) (dNestAug i tk tm te f):=DS.mk fun H0 G0 =>
  PS.imp (ps_augS (pe_ix ix_seq (pe_var hN hv hd hcd) hk.pe hp) hm.pe get_list he.pe ho set_list ha) fun Dn σ H ⟨E,G,ρ,eo,w,en,h⟩=>by
    unfold dNestAug at h
    split at h
    · rename_i t dss q
      obtain ⟨a,as,hσ,hO,hl,hin⟩:=en.inner q
      obtain ⟨G1,w1,sg,e1⟩:=en.freeze w
      refine ⟨.ref a,hσ,G1,frz ρ,_,w1.gh,e1.p,h,fun b3 v3 H3 G3 p3 w3 r3=>?_⟩
      split at p3
      · rename_i z ez
        obtain ⟨j,ds,hj,hds,p3⟩:=p3
        obtain ⟨y,vs,hy,y0,yg,yh,yr,fin⟩:=hin j ds hds
        have hat:atI (as.map V.ref) z = some (.ref y):=by
          unfold atI
          rw [List.length_map,hl,hj]
          show (as.map V.ref)[j]? = _
          rw [List.getElem?_map,hy]
          rfl
        have s3:Same H H3:=w3.hh
        have nxt:∀ H3',H3' = H3→cE X.K tm σ H3' fun u H4=>(rIxL X.K) (.ref y) u H4 fun x5 H5=>cE X.K te σ H5 fun y5 H6=>ipI f x5 y5 H6 fun z5 H7=>rSetL (.ref y) u z5 H7 fun H8=>Dn.nx σ H8:=by
          rintro _ rfl
          refine ⟨G3,frz ρ,_,w3.gh,RepE.mono w3.gg e1.p,p3,fun b4 v4 H4 G4 p4 w4 r4=>?_⟩
          split at p4
          · rename_i z' ez'
            obtain ⟨j',qq,hj',hq,p4⟩:=p4
            obtain ⟨u1,g1,g2⟩:=paired_get' yr hq
            cases g2
            have s4:Same H H4:=s3.trans w4.hh
            have hat':atI vs z' = some (.int qq):=by
              unfold atI
              rw [Paired.length yr,hj']
              exact g1
            have ez4:=bres_int w4 r4 ez'
            refine ⟨y,vs,z',.int qq,rfl,ez4,SqL.of (s4 _ _ yh),hat',?_⟩
            refine ⟨G4,frz ρ,_,w4.gh,RepE.mono (w3.trans w4).gg e1.p,p4,fun b5 v5 H5 G5 p5 w5 r5=>?_⟩
            split at p5
            · rename_i n en5
              have s5:Same H H5:=s4.trans w5.hh
              refine ⟨qq,n,rfl,bres_int w5 r5 en5,y,vs,z',j',rfl,ez4,s5 _ _ yh,by rw [Paired.length yr]; exact hj',?_⟩
              have wb:Wd H0 G0 H5 G:=⟨w.hh.trans s5,w.gg,w.gh.trans s5,w.old⟩
              exact eo.nx σ _ G _ (wb.own y0 yg) (fin H5 _ _ s5 (paired_set (.int _) j' yr)) p5
            · exact p5.elim
          · exact p4.elim
        cases t with
        | true=>exact .inr (.inl ⟨a,_,z,.ref y,rfl,bres_int w3 r3 ez,same_seqT (w.gh.trans s3) hO,hat,nxt _ rfl⟩)
        | false=>exact .inl ⟨a,_,z,.ref y,rfl,bres_int w3 r3 ez,SqL.of (s3 _ _ hO),hat,nxt _ rfl⟩
      · exact p3.elim
    · exact h.elim
end
end DL
namespace DIt
open PySem PySem.W PySem.Calls PyProof.Rows
structure At (h:Heap) (d:Addr) (es:Array DictEntry) (ep:Nat) : Prop where
  ex:∃ o,h.get? d = some o∧o.ExactDict∧o.data = .dict es ep
theorem At.ty {s:Shared} {d es ep} (x:At s.heap d es ep) : s.TypeIs (.ref d) "dict":=by
  obtain ⟨o,h1,h2,_⟩:=x.ex
  exact ⟨o,h1,h2.1⟩
theorem At.keep {h h':Heap} {d es ep} (x:At h d es ep) (k:∀ o,h.get? d = some o→h'.get? d = some o) : At h' d es ep:=by
  obtain ⟨o,h1,r⟩:=x.ex
  exact ⟨o,k _ h1,r⟩
theorem At.lt {h:Heap} {d es ep} (x:At h d es ep) : d < h.objs.size:=by
  obtain ⟨o,h1,_⟩:=x.ex
  exact Heap.lt_size h1
section
variable {prog:Program} {w:World} {A:Around} {E:Value→Shared→Prop} {s:Shared} {d it:Addr} {es:Array DictEntry} {ep i:Nat}
theorem start {Q:Value→Shared→Prop} (hd:(d == sysModules) = false) (x:At s.heap d es ep)
    (q:Q (.ref s.heap.objs.size) { s with heap:=s.heap.push { cls:=.type "dict_keyiterator",data:=.fields #[.ref d,.int 0 0,.int es.size 0,.int ep 0] } }) : wpAny (model prog w) A (pyIter (.ref d)) Q E s:=by
  obtain ⟨o,e1,e2,e3⟩:=x.ex
  have ty:=x.ty
  refine wpAny_pyIter_slot ty PySem.F.slot_dict_iter (wpAny_call_entry PySem.F.slot_dict_iter ty PySem.F.entry_dict_iter ?_ (PySem.F.args_dict_iter_1 _))
  unfold Builtin.«dict.__iter__» Builtin.Dict.dictSlotNone
  refine wpAny_bind (wpAny_bind (wpAny_notOrdered_dict ty (show wpAny _ _ (pure (Value.ref d)) _ _ s from wpAny_pure ?_)))
  show wpAny _ _ (Builtin.Dict.showsAll d >>= _) _ _ s
  unfold Builtin.Dict.showsAll
  rw [if_neg (show ¬ (d == sysModules) = true by rw [hd]; exact Bool.false_ne_true)]
  refine wpAny_bind (wpAny_pure (wpAny_bind (wpAny_dictEntries e1 e3 (wpAny_bind (wpAny_dictEpoch e1 e3 ?_)))))
  refine wpAny_bind (wpAny_newObj_type (wpAny_pure ⟨_,rfl,"dict_keyiterator",_,⟨_,Heap.get?_push_size _ rfl,rfl⟩,PySem.F.slot_dict_keyiterator_next.lookup,?_⟩))
  simpa [rawInt] using q
theorem item {Q:Option Value→Shared→Prop} (hit:s.heap.IsKeyIter it d i es.size ep) (x:At s.heap d es ep) (hi:i < es.size)
    (hQ:∀ h',h'.IsKeyIter it d (i + 1) es.size ep→Heap.SameBut it s.heap h'→Q (some es[i].key) { s with heap:=h' }) : wpAny (model prog w) A (pyNext (.ref it)) Q E s:=by
  obtain ⟨o,f1,f2,f3⟩:=id hit
  obtain ⟨od,e1,e2,e3⟩:=x.ex
  unfold pyNext
  refine wpAny_bind (wpAny_attempt (wpAny_callSpecial?_slot (name:=Str.ofString "__next__") hit.typeIs PySem.F.slot_dict_keyiterator_next (wpAny_call_entry PySem.F.slot_dict_keyiterator_next hit.typeIs PySem.F.entry_dict_keyiterator_next ?_ (PySem.F.args_dict_keyiterator_next_1 _))))
  refine wpAny_bind (wpAny_pure (wpAny_bind (wpAny_bind ?_)))
  first | refine wpAny_bind (wpAny_typeNameOfWhole_keyiter hit.typeIs (wpAny_pure (wpAny_bind (wpAny_fieldsOf f1 f3 ?_)))) | refine wpAny_bind (wpAny_typeNameOf_keyiter hit.typeIs (wpAny_pure (wpAny_bind (wpAny_fieldsOf f1 f3 ?_))))
  have own:Builtin.Dict_items.ownsTuple "dict_keyiterator" = false:=by decide
  simp only [own,Bool.false_eq_true,if_false]
  show wpAny _ _ (if (Value.ref d == Value.none) = true then _ else _) _ _ s
  rw [if_neg (show ¬ (Value.ref d == Value.none) = true from Bool.false_ne_true)]
  refine wpAny_bind (wpAny_pure (wpAny_bind (wpAny_dictEntries e1 e3 ?_)))
  rw [if_neg (show ¬ _ by simp)]
  refine wpAny_bind (wpAny_pure (wpAny_bind (wpAny_dictEpoch e1 e3 ?_)))
  rw [if_neg (show ¬ _ by simp)]
  refine wpAny_pure ?_
  simp only [show ¬ ((i:Int) < 0) from by lia,if_false,Int.toNat_natCast,Array.getElem?_eq_getElem hi]
  refine wpAny_bind ?_
  first | refine wpAny_bind (wpAny_typeNameOfWhole_keyiter hit.typeIs (wpAny_pure (wpAny_bind (wpAny_isOneOf_keyiter hit.typeIs ?_)))) | refine wpAny_bind (wpAny_typeNameOf_keyiter hit.typeIs (wpAny_pure (wpAny_bind (wpAny_isOneOf_keyiter hit.typeIs ?_))))
  first | refine wpAny_bind (wpAny_isOneOf_keyiter hit.typeIs ?_) | skip
  show wpAny _ _ (setField (.ref it) 1 (rawInt ((i:Int) + 1)) >>= _) _ _ s
  refine wpAny_bind (wpAny_setField f1 f3 (by simp) ?_)
  have hit':(s.heap.update it (Obj.mapFields (·.setIfInBounds 1 (rawInt ((i:Int) + 1))))).IsKeyIter it d (i + 1) es.size ep:=
    ⟨_,Heap.get?_update_self _ f1 (Obj.isFreed_of_fields (Obj.data_mapFields f3 _)),(Obj.cls_mapFields ..).trans f2,by rw [Obj.data_mapFields f3]; simp [rawInt]⟩
  refine wpAny_bind (wpAny_holding (wpAny_bind (wpAny_isOneOf_keyiter (s:={ s with heap:=s.heap.update it (Obj.mapFields (·.setIfInBounds 1 (rawInt ((i:Int) + 1)))) }) hit'.typeIs ?_)))
  show wpAny _ _ (pure es[i].key) _ _ _
  exact wpAny_pure (wpAny_pure ⟨_,rfl,wpAny_pure (hQ _ hit' (Heap.SameBut.update ..))⟩)
theorem done {Q:Option Value→Shared→Prop} (hh:A.handled = none) (hit:s.heap.IsKeyIter it d es.size es.size ep) (x:At s.heap d es ep) (hQ:∀ h',Heap.ExtBut it s.heap h'→Q none { s with heap:=h' }) : wpAny (model prog w) A (pyNext (.ref it)) Q E s:=by
  obtain ⟨o,f1,f2,f3⟩:=id hit
  obtain ⟨od,e1,e2,e3⟩:=x.ex
  unfold pyNext
  refine wpAny_bind (wpAny_attempt (wpAny_callSpecial?_slot (name:=Str.ofString "__next__") hit.typeIs PySem.F.slot_dict_keyiterator_next (wpAny_call_entry PySem.F.slot_dict_keyiterator_next hit.typeIs PySem.F.entry_dict_keyiterator_next ?_ (PySem.F.args_dict_keyiterator_next_1 _))))
  refine wpAny_bind (wpAny_pure (wpAny_bind (wpAny_bind ?_)))
  first | refine wpAny_bind (wpAny_typeNameOfWhole_keyiter hit.typeIs (wpAny_pure (wpAny_bind (wpAny_fieldsOf f1 f3 ?_)))) | refine wpAny_bind (wpAny_typeNameOf_keyiter hit.typeIs (wpAny_pure (wpAny_bind (wpAny_fieldsOf f1 f3 ?_))))
  have own:Builtin.Dict_items.ownsTuple "dict_keyiterator" = false:=by decide
  simp only [own,Bool.false_eq_true,if_false]
  show wpAny _ _ (if (Value.ref d == Value.none) = true then _ else _) _ _ s
  rw [if_neg (show ¬ (Value.ref d == Value.none) = true from Bool.false_ne_true)]
  refine wpAny_bind (wpAny_pure (wpAny_bind (wpAny_dictEntries e1 e3 ?_)))
  rw [if_neg (show ¬ _ by simp)]
  refine wpAny_bind (wpAny_pure (wpAny_bind (wpAny_dictEpoch e1 e3 ?_)))
  rw [if_neg (show ¬ _ by simp)]
  refine wpAny_pure ?_
  simp only [show ¬ ((es.size:Int) < 0) from by lia,if_false,Int.toNat_natCast,Array.getElem?_eq_none (Nat.le_refl es.size)]
  refine wpAny_bind ?_
  first | refine wpAny_bind (wpAny_typeNameOfWhole_keyiter hit.typeIs (wpAny_pure ?_)) | skip
  show wpAny _ _ (setField (.ref it) 0 .none >>= _) _ _ s
  refine wpAny_bind (wpAny_setField f1 f3 (by simp) ?_)
  show wpAny _ _ (newExc (.type "StopIteration") [] >>= _) _ _ _
  refine wpAny_bind ?_
  simp only [newExc,newTuple]
  refine wpAny_bind (wpAny_newObj_type (wpAny_bind (m:=firstArgMember _ _) (wpAny_of_eq (a:=Value.none) (by first | rfl | (simp only [firstArgMember]; rfl)) (wpAny_newObj_type ?_ (by size_fits)))) (by size_fits))
  simp only [raiseNew]
  refine wpAny_bind (wpAny_handled ?_)
  rw [show A.in1.handled = none from hh]; refine wpAny_bind (wpAny_pure (wpAny_throw ?_))
  refine wpAny_bind (wpAny_isInstance (T:="StopIteration") (b:=true) ⟨_,Heap.get?_push_size _ rfl,rfl⟩ isSubtype_stop (wpAny_pure (hQ _ (((Heap.SameBut.update ..).extBut.push _).push _))))
theorem walk (hh:A.handled = none) (I d:Addr) (hne:d ≠ I) (es:Array DictEntry) (ep:Nat) :
    Walks prog w A I [I,d] [I] es.size (fun i v=>∃ e,es[i]? = some e∧v = e.key) (fun i h=>h.IsKeyIter I d i es.size ep∧At h d es ep) where
  sub:=fun b hb=>by simp at hb; simp [hb]
  frame:=fun _ _ _ st hk=>⟨st.1.at fun o e=>hk I (by simp) o e,st.2.keep fun o e=>hk d (by simp) o e⟩
  item:=fun i s Q E hi st hQ=>item st.1 st.2 hi fun h' k hs'=>hQ _ h' s.toks ⟨es[i],by simp [hi],rfl⟩ ⟨k,st.2.keep fun o e=>hs'.extBut d o hne e⟩ fun b o hb e=>hs'.extBut b o (fun h=>hb (by simp [h])) e
  done:=fun s Q E st hQ=>done hh st.1 st.2 fun h' he'=>hQ h' s.toks fun b o hb e=>he' b o (fun h=>hb (by simp [h])) e
  self:=fun _ _ _ _ st hQ=>wpAny_pyIter_keyiter st.1 hQ
theorem src (lo:(d == sysModules) = false) : KdlSrc prog w "dict" d d es.size (fun i v=>∃ e,es[i]? = some e∧v = e.key) (fun h=>At h d es ep) where
  type:=fun _ hm=>hm.ty
  there:=fun _ hm=>⟨hm.lt,hm.lt⟩
  keep:=fun _ _ hm hk=>hm.keep fun o e=>hk d (.inl rfl) o e
  notList:=by decide
  notTuple:=by decide
  hint:=fun _ _ _ _ hm hq=>kdl_hint_dict hm.ty hq
  iter:=fun _ _ hh hm=>⟨_,_,(fun _ _ hq=>start lo hm hq),walk hh _ d (Nat.ne_of_lt hm.lt) es ep,⟨⟨_,Heap.get?_push_size _ rfl,rfl,rfl⟩,hm.keep fun o e=>Heap.get?_push_of_some _ e⟩⟩
theorem collects {Q:List Value→Shared→Prop} (lo:(d == sysModules) = false) (hh:A.handled = none) (x:At s.heap d es ep) (hn:es.size ≤ sizeLine)
    (hQ:∀ h' tk,(∀ b o,s.heap.get? b = some o→h'.get? b = some o)→s.heap.objs.size < h'.objs.size→Q (es.toList.map (·.key)) { s with heap:=h',toks:=tk }) : wpAny (model prog w) A (collect (.ref d)) Q E s:=by
  have lt:=x.lt
  unfold collect
  refine wpAny_bind (wpAny_runValue (codeAny_builtin entry_proto_collect' ?_))
  show wpAny _ _ (do again (.builtin "list.__iadd__" ⟨[← newList [],.ref d],[]⟩)) _ _ s
  refine wpAny_bind (wpAny_newList (wpAny_pure ⟨Code.quiet_builtin _ (by decide +kernel),codeAny_builtin entry_list_iadd' ?_⟩))
  have hS:(s.heap.push (seqObj "list" #[] 0)).get? s.heap.objs.size = some (seqObj "list" #[] 0):=Heap.get?_push_size _ rfl
  show wpAny _ _ (Builtin.List.listExtendWith (.ref s.heap.objs.size) (.ref d) (.ref s.heap.objs.size)) _ _ { s with heap:=s.heap.push (seqObj "list" #[] 0) }
  rw [Around.under_plainId PySem.F.plain_list_iadd _]
  refine kdl_extend (R:=fun r s'=>match r with
    | .ok (.ret v)=>wpAny (model prog w) A (match v with
      | .ref a=>do
        let o ← load a
        match o.data with
        | .seq xs _=>pure xs.toList
        | _=>unsupported "internal:collect"
      | _=>unsupported "internal:collect") Q E s'
    | .ok _=>False
    | .error e=>E e s') (s:={ s with heap:=s.heap.push (seqObj "list" #[] 0) }) (src (ep:=ep) lo) hh (x.keep fun o e=>Heap.get?_push_of_some _ e) s.heap.objs.size (Nat.ne_of_gt lt) (Nat.ne_of_gt lt) _ 0 hS (fun h' tk acc' c' hk hS' hacc=>?_) hn
  show wpAny (model prog w) A (load s.heap.objs.size >>= _) Q E _
  refine wpAny_bind (wpAny_load hS' ?_)
  have e:acc'.toList = es.toList.map (·.key):=by
    refine List.ext_getElem? fun j=>?_
    rw [List.getElem?_map]
    by_cases hj:j < es.size
    · have h1 : acc'[j]? = some (acc'[j]'(by rw [hacc.1]; exact hj)) := Array.getElem?_eq_getElem _
      obtain ⟨en,e1,e2⟩:=hacc.2 j _ h1
      rw [Array.getElem?_toList,Array.getElem?_toList,h1,e1,e2]
      rfl
    · rw [Array.getElem?_toList, Array.getElem?_toList, Array.getElem?_eq_none (by rw [hacc.1]; lia), Array.getElem?_eq_none (by lia)]
      rfl
  show wpAny _ _ (pure acc'.toList) Q E _
  rw [e]
  exact wpAny_pure (hQ h' tk (fun b o eb=>hk b o (Nat.ne_of_lt (Heap.lt_size eb)) (Heap.get?_push_of_some _ eb)) (Heap.lt_size hS'))
end
end DIt
namespace SoT
open PySem PySem.W PySem.Calls PyProof.Rows
noncomputable def lexI (fin:Bool) : List Int→List Int→Bool
  | a :: r,b :: r'=>if a = b then lexI fin r r' else decide (a < b)
  | _,_=>fin
noncomputable def Tp (h:Heap) (v:Value) (ns:List Int) : Prop:=∃ a o xs n,v = .ref a∧h.get? a = some o∧o.cls = .type "tuple"∧o.data = .seq xs n∧IntsAre xs.toList ns
theorem Tp.keep {h h':Heap} {v:Value} {ns:List Int} (k:∀ b o,h.get? b = some o→o.cls = .type "tuple"→h'.get? b = some o) (t:Tp h v ns) : Tp h' v ns:=by
  obtain ⟨a,o,xs,n,e,h1,h2,r⟩:=t
  exact ⟨a,o,xs,n,e,k a o h1 h2,h2,r⟩
section
variable {prog:Program} {w:World} {A:Around} {E:Value→Shared→Prop} {s:Shared}
theorem one_lt {b:Bool} {x y:Int} {t u:Tok} {Q:Bool→Shared→Prop} (h:Q (decide (x < y)) s) : wpAny (model prog w) A (oneLt' b (.int x t) (.int y u)) Q E s:=by
  cases b with
  | true=>exact oneLt_int h
  | false=>exact kat_one _ _ (PyProof.Rows.lt_int (show Q (decide (x < y)) s from h))
theorem lex_run {b fin:Bool} {Q:Bool→Shared→Prop} : ∀ {us vs:List Value} {ns ms:List Int} (i:Nat),IntsAre us ns→IntsAre vs ms→Q (lexI fin ns ms) s→KatLex prog w A b fin Q (us.zip vs) i s
  | _,_,_,_,_,.nil,.nil,h=>h
  | _,_,_,_,_,.nil,.cons _ _ _,h=>h
  | _,_,_,_,_,.cons _ _ _,.nil,h=>h
  | _,_,_,_,i,.cons x t r,.cons y u r',h=>by
    rw [List.zip_cons_cons]
    refine kat_cons (wpAny_eqBool_int ?_)
    have h':Q (if x = y then lexI fin _ _ else decide (x < y)) s:=h
    by_cases e:x = y
    · rw [if_pos e] at h'
      rw [show (x == y) = true by simp [e]]
      exact kat_yes (lex_run (i + 1) r r' h')
    · rw [if_neg e] at h'
      rw [show (x == y) = false by simp [e]]
      exact kat_no (one_lt h')
theorem key_lt {v u:Value} {ns ms:List Int} {Q:Bool→Shared→Prop} (hv:Tp s.heap v ns) (hu:Tp s.heap u ms) (h:Q (lexI (decide (ns.length < ms.length)) ns ms) s) : wpAny (model prog w) A (keyLt' (tuples' true) v u) Q E s:=by
  obtain ⟨a,o,xs,n,rfl,h1,h2,h3,h4⟩:=hv
  obtain ⟨a',o',xs',n',rfl,g1,g2,g3,g4⟩:=hu
  have il:∀ {us:List Value} {ns:List Int},IntsAre us ns→us.length = ns.length:=fun r=>by
    induction r with
    | nil=>rfl
    | cons _ _ _ ih=>simp [ih]
  have e1:xs.size = ns.length:=by rw [← il h4]; simp
  have e2:xs'.size = ms.length:=by rw [← il g4]; simp
  refine kat_lt h1 h3 g1 g3 (lex_run 0 h4 g4 ?_)
  rw [e1,e2]
  exact h
theorem minRun_le:∀ (f n r:Nat),r ≤ 1→minRun' f n r ≤ n + r
  | 0,n,r,_=>Nat.le_refl _
  | f + 1,n,r,h=>by
    rw [minRun'_succ]
    split
    · exact Nat.le_refl _
    · have := minRun_le f (n / 2) (max r (n % 2)) (by lia)
      lia
theorem sort_rise {st:SortSt} {Q:Unit→SortSt→Prop} (h2:2 ≤ (arrOf st).size) (hp:pendingOf st = #[])
    (hl:∀ i,1 ≤ i→i < (arrOf st).size→∀ Q':Option Bool→SortSt→Prop,Q' (some false) st→wpS (model prog w) A E s (ltAt' i (i - 1)) Q' st)
    (h:∀ st',arrOf st' = arrOf st→failedOf st' = failedOf st→Q () st') : wpS (model prog w) A E s sortRuns' Q st:=by
  rw [sortRuns'_eq]
  refine wpS_bind (wpS_get ?_)
  dsimp only
  have hm:¬ (arrOf st).size < minRun' (arrOf st).size (arrOf st).size 0:=by
    have:=minRun_le (arrOf st).size (arrOf st).size 0 (by lia)
    lia
  let done:SortSt:=setPending st ((pendingOf st).push (0,(arrOf st).size,0))
  refine wpS_bind (wpS_mono (wpS_forRange (I:=fun x c st'=>(x = 0∧c = (none,0)∧st' = st) ∨ (1 ≤ x∧c = (none,(arrOf st).size)∧st' = done)) (Q:=fun c st'=>c = (none,(arrOf st).size)∧st' = done) ?step ?fin (.inl ⟨rfl,rfl,rfl⟩)) ?post)
  case fin =>
    rintro c st' (⟨hx,_,_⟩ | ⟨_,hc,hD⟩)
    · lia
    · exact ⟨hc,hD⟩
  case step =>
    rintro x c st' _ hx (⟨rfl,rfl,rfl⟩ | ⟨hx1,rfl,rfl⟩)
    · dsimp only
      rw [if_neg (show ¬ 0 ≥ (arrOf st').size by lia)]
      simp only [Nat.sub_zero,Nat.zero_add]
      refine wpS_bind ?_
      rw [countRun0_eq]
      refine wpS_bind ?_
      unfold ascLoop
      refine wpS_mono (wpS_forRange (I:=fun x c st''=>st'' = st'∧c = (none,x)) (Q:=fun c st''=>st'' = st'∧c = (none,(arrOf st').size)) ?_ ?_ ⟨rfl,rfl⟩) ?_
      · rintro y c st'' hy1 hy2 ⟨rfl,rfl⟩
        dsimp only
        refine wpS_bind (hl y hy1 hy2 _ ?_)
        simp only [Bool.false_eq_true,if_false]
        exact wpS_pure ⟨rfl,rfl⟩
      · rintro c st'' ⟨rfl,rfl⟩
        exact ⟨rfl,by rw [show max 1 (arrOf st'').size = (arrOf st'').size by lia]⟩
      · rintro c st'' ⟨rfl,rfl⟩
        dsimp only
        rw [if_pos (show ((arrOf st'').size == (arrOf st'').size) = true by simp)]
        refine wpS_pure ?_
        dsimp only
        rw [if_neg hm]
        refine wpS_bind (wpS_get ?_)
        rw [show (pendingOf st'').back? = none by rw [hp]; rfl]
        dsimp only
        exact wpS_bind (wpS_modify (wpS_pure (.inr ⟨by lia,rfl,rfl⟩)))
    · dsimp only
      rw [if_pos (Nat.le_refl _)]
      exact wpS_pure ⟨rfl,rfl⟩
  case post =>
    rintro c st' ⟨rfl,rfl⟩
    dsimp only
    refine wpS_bind (wpS_mono (wpS_forRange (I:=fun _ c st''=>st'' = done∧c = (none,())) (Q:=fun c st''=>st'' = done∧c = (none,())) ?_ (fun _ _ hh=>hh) ⟨rfl,rfl⟩) ?_)
    · rintro x c st'' _ _ ⟨rfl,rfl⟩
      refine wpS_bind (wpS_get ?_)
      rw [if_pos (show (pendingOf done).size ≤ 1 by show ((pendingOf st).push _).size ≤ 1; rw [hp]; exact Nat.le_refl 1)]
      exact wpS_pure ⟨rfl,rfl⟩
    · rintro c st'' ⟨rfl,rfl⟩
      exact wpS_pure (h _ rfl rfl)
noncomputable def Rise (h:Heap) (vs:List Value) : Prop:=∃ nss:List (List Int),vs.length = nss.length∧(∀ (i:Nat) v ns,vs[i]? = some v→nss[i]? = some ns→0 < ns.length∧Tp h v ns)∧∀ (i:Nat) ns ms,nss[i]? = some ns→nss[i + 1]? = some ms→lexI (decide (ms.length < ns.length)) ms ns = false
theorem Rise.keep {h h':Heap} {vs:List Value} (k:∀ b o,h.get? b = some o→o.cls = .type "tuple"→h'.get? b = some o) (t:Rise h vs) : Rise h' vs:=by
  obtain ⟨nss,e,f,g⟩:=t
  exact ⟨nss,e,fun i v ns h1 h2=>⟨(f i v ns h1 h2).1,(f i v ns h1 h2).2.keep k⟩,g⟩
theorem kat_of {h:Heap} : ∀ {vs:List Value} {nss:List (List Int)},vs.length = nss.length→(∀ (i:Nat) v ns,vs[i]? = some v→nss[i]? = some ns→0 < ns.length∧Tp h v ns)→∃ fs,KatTups h vs fs∧fs.length = vs.length∧∀ f ∈ fs,∃ n t,f = Value.int n t
  | [],[],_,_=>⟨[],KatTups.nil,rfl,fun _ z=>nomatch z⟩
  | v :: vs,ns :: nss,e,f=>by
    obtain ⟨fs,h1,h2,h3⟩:=kat_of (vs:=vs) (nss:=nss) (by simpa using e) fun i v ns a b=>f (i + 1) v ns (by simpa using a) (by simpa using b)
    obtain ⟨hl,a,o,xs,n,rfl,g1,g2,g3,g4⟩:=f 0 v ns rfl rfl
    cases ns with
    | nil=>simp at hl
    | cons x r =>
      cases q:xs.toList with
      | nil=>rw [q] at g4; cases g4
      | cons u us =>
        rw [q] at g4
        cases g4 with
        | cons _ t _ =>
          refine ⟨.int x t :: fs,KatTups.cons g1 g2 g3 (by rw [← Array.getElem?_toList,q]; rfl) h1,by simp [h2],fun f hf=>?_⟩
          rcases List.mem_cons.mp hf with rfl | hf
          · exact ⟨x,t,rfl⟩
          · exact h3 f hf
theorem list_sort_rise {a:Addr} {vs:List Value} {n:Nat} {P:PySem.Fin→Shared→Prop} (ho:s.heap.get? a = some (seqObj "list" vs.toArray n)) (hR:Rise s.heap vs) (hz:vs.length ≤ sizeLine)
    (h:P (.done (.ret .none)) { s with heap:=sortedHeap s.heap a vs vs.toArray }) : wpAny (model prog w) A (Builtin.«list.sort» ⟨[.ref a],[]⟩) P E s:=by
  rw [list_sort_plain]
  have ha:a < s.heap.objs.size:=Heap.lt_size ho
  refine wpAny_bind (listItems_at ho rfl (wpAny_bind (listUpdate_at ho rfl ?_ (by simpa using hz) (by simp))))
  obtain ⟨e1,ho1⟩ : ∃ e1,(s.heap.update a (Obj.mapSeq fun _=>#[])).get? a = some (seqObj "list" #[] e1):=⟨_,get?_update_seq ho (fun _=>#[])⟩
  refine wpAny_bind (seqEpoch_at ho1 rfl (wpAny_bind (wpAny_newTuple (wpAny_bind (wpAny_newList (wpAny_holding ?_))) (by simpa using hz))))
  have ho6:(((s.heap.update a (Obj.mapSeq fun _=>#[])).push (seqObj "tuple" vs.toArray 0)).push (seqObj "list" #[] 0)).get? a = some (seqObj "list" #[] e1):=by
    rw [Heap.get?_push_ne _ _ _ (show a ≠ _ by rw [size_push',Heap.size_update]; exact Nat.ne_of_lt (Nat.lt_succ_of_lt ha)),Heap.get?_push_ne _ _ _ (show a ≠ _ by rw [Heap.size_update]; exact Nat.ne_of_lt ha)]
    exact ho1
  have keep:∀ b o,s.heap.get? b = some o→o.cls = .type "tuple"→(((s.heap.update a (Obj.mapSeq fun _=>#[])).push (seqObj "tuple" vs.toArray 0)).push (seqObj "list" #[] 0)).get? b = some o:=fun b o hb hc=>by
    have hba:a ≠ b:=by
      rintro rfl
      rw [ho] at hb
      cases hb
      exact absurd hc (show ¬ Value.type "list" = Value.type "tuple" by decide)
    exact Heap.get?_push_of_some _ (Heap.get?_push_of_some _ ((Heap.get?_update_other _ _ hba).trans hb))
  have hR':=hR.keep keep
  show wpAny (model prog w) A _ P E { s with heap:=((s.heap.update a (Obj.mapSeq fun _=>#[])).push (seqObj "tuple" vs.toArray 0)).push (seqObj "list" #[] 0) }
  dsimp only
  have fin:∀ st':SortSt,arrOf st' = vs.toArray.zip vs.toArray→(arrOf st').map (·.2) = vs.toArray:=fun st' e=>by
    rw [e]
    apply Array.ext'
    simp [List.map_snd_zip]
  by_cases h2:vs.toArray.size < 2
  · rw [if_pos h2,if_pos h2]
    refine wpAny_bind (wpAny_pure ?_)
    rw [StateT.run_pure]
    refine wpAny_bind (wpAny_pure ?_)
    dsimp only
    rw [fin (SortSt.mk' general' (vs.toArray.zip vs.toArray) #[] 7 none) rfl]
    refine wpAny_bind (seqEpoch_at ho6 rfl (wpAny_bind (listUpdate_at ho6 rfl ?_ (by simp) (by simp; lia))))
    simp only [bne_self_eq_false,Bool.false_eq_true,if_false]
    exact wpAny_pure h
  · rw [if_neg h2,if_neg h2]
    obtain ⟨nss,e,f,g⟩:=hR'
    obtain ⟨fs,k1,k2,k3⟩:=kat_of e f
    have h2':2 ≤ vs.length:=by simpa using h2
    refine wpAny_bind (kat_kind (T:=.type "int") k1 (by lia) (fun v hv=>?_) (by rfl) ?_)
    · obtain ⟨m,t,rfl⟩:=k3 v hv
      exact .now
    · have e0 : (Value.type "int" != Value.type "tuple") = true := by decide
      rw [e0]
      refine wpAny_bind (wpAny_mono (sort_rise (st:=SortSt.mk' (tuples' true) (vs.toArray.zip vs.toArray) #[] 7 none) (Q:=fun _ st'=>arrOf st' = vs.toArray.zip vs.toArray∧failedOf st' = none) ?_ rfl ?_ fun st' a1 a2=>⟨a1,a2⟩) ?_ fun _ _ z=>z)
      · show 2 ≤ (vs.toArray.zip vs.toArray).size
        simp
        lia
      · intro i hi1 hi2 Q' q
        have hi2:i < vs.length:=by
          have:i < (vs.toArray.zip vs.toArray).size:=hi2
          simpa using this
        have ev:=List.getElem?_eq_getElem (l:=vs) hi2
        have eu:=List.getElem?_eq_getElem (l:=vs) (i:=i - 1) (by lia)
        have em:=List.getElem?_eq_getElem (l:=nss) (i:=i) (by lia)
        have en:=List.getElem?_eq_getElem (l:=nss) (i:=i - 1) (by lia)
        generalize vs[i] = v at ev
        generalize vs[i - 1]'(by lia) = u at eu
        generalize nss[i]'(by lia) = ms at em
        generalize nss[i - 1]'(by lia) = ns at en
        have gg:=g (i - 1) ns ms en (by rw [show i - 1 + 1 = i by lia]; exact em)
        have z:∀ (j:Nat) (x:Value),vs[j]? = some x→(vs.toArray.zip vs.toArray)[j]? = some (x,x):=fun j x hx=>by
          rw [← Array.getElem?_toList]
          simp [List.getElem?_zip_eq_some,hx]
        rw [ltAt'_eq]
        refine wpS_bind (wpS_get ?_)
        show wpS _ _ _ _ (do let x ← elem' (vs.toArray.zip vs.toArray) i; let y ← elem' (vs.toArray.zip vs.toArray) (i - 1); lt' x y) Q' _
        rw [elem'_eq,elem'_eq,z i v ev,z (i - 1) u eu]
        refine wpS_bind (wpS_pure (wpS_bind (wpS_pure ?_)))
        rw [lt'_eq]
        refine wpS_bind (wpS_get (wpS_bind (wpS_lift (wpAny_attempt (key_lt (f i v ms ev em).2 (f (i - 1) u ns eu en).2 ⟨rfl,?_⟩)))))
        rw [gg]
        exact wpS_pure q
      · rintro ⟨⟨⟩,st'⟩ s' ⟨rfl,ha',hf'⟩
        dsimp only
        have ef:=fin st' ha'
        refine wpAny_bind (seqEpoch_at ho6 rfl (wpAny_bind (listUpdate_at ho6 rfl ?_ (by simp) (by show ((arrOf st').map (·.2)).size ≤ _; rw [ef]; simp; lia))))
        rw [hf']
        simp only [bne_self_eq_false,Bool.false_eq_true,if_false]
        refine wpAny_pure ?_
        show P _ { s with heap:=sortedHeap s.heap a vs ((arrOf st').map (·.2)) }
        rw [ef]
        exact h
theorem sortedHeap_keep {h:Heap} {a:Addr} {vs:List Value} {out:Array Value} {b:Addr} {o:Obj} (hb:b ≠ a) (e:h.get? b = some o) : (sortedHeap h a vs out).get? b = some o:=by
  unfold sortedHeap
  refine (Heap.get?_update_other _ _ (Ne.symm hb)).trans (Heap.get?_push_of_some _ (Heap.get?_push_of_some _ ((Heap.get?_update_other _ _ (Ne.symm hb)).trans e)))
theorem sorted_dict {d:Addr} {es:Array DictEntry} {ep:Nat} {Q:Value→Shared→Prop} (lo:(d == sysModules) = false) (hh:A.handled = none) (x:DIt.At s.heap d es ep) (hR:Rise s.heap (es.toList.map (·.key))) (hn:es.size ≤ sizeLine)
    (h:∀ (p:Addr) h' tk n,s.heap.objs.size ≤ p→(∀ b o,s.heap.get? b = some o→h'.get? b = some o)→h'.get? p = some (seqObj "list" (es.toList.map (·.key)).toArray n)→Q (.ref p) { s with heap:=h',toks:=tk }) :
    wpAny (model prog w) A (call (.builtin "sorted") [.ref d]) Q E s:=by
  refine Calls.call_function_entry kind_sorted plain_sorted entry_sorted (args_sorted1 _) ?_
  unfold Builtin.«sorted»
  refine wpAny_bind (m:=checkCount "sorted" 1 1 _) (wpAny_pure (wpAny_bind (DIt.collects lo hh x hn fun h1 tk k1 k2=>?_)))
  have hz:(es.toList.map (·.key)).length ≤ sizeLine:=by simpa using hn
  refine wpAny_bind (wpAny_newList ?_ hz)
  have hoL:(h1.push (seqObj "list" (es.toList.map (·.key)).toArray 0)).get? h1.objs.size = some (seqObj "list" (es.toList.map (·.key)).toArray 0):=Heap.get?_push_size _ rfl
  refine wpAny_bind (wpAny_holding (wpAny_call_entry slot_list_sort ⟨_,hoL,rfl⟩ entry_list_sort (list_sort_rise hoL (hR.keep fun b o hb _=>Heap.get?_push_of_some _ (k1 b o hb)) hz ?_) (args_list_sort _)))
  obtain ⟨e1,ho1⟩ : ∃ e1,(sortedHeap (h1.push (seqObj "list" (es.toList.map (·.key)).toArray 0)) h1.objs.size (es.toList.map (·.key)) (es.toList.map (·.key)).toArray).get? h1.objs.size = some (seqObj "list" (es.toList.map (·.key)).toArray e1):=by
    unfold sortedHeap
    obtain ⟨e2,ho2⟩ : ∃ e2,((h1.push (seqObj "list" (es.toList.map (·.key)).toArray 0)).update h1.objs.size (Obj.mapSeq fun _=>#[])).get? h1.objs.size = some (seqObj "list" #[] e2):=⟨_,get?_update_seq hoL (fun _=>#[])⟩
    exact ⟨_,get?_update_seq (Heap.get?_push_of_some _ (Heap.get?_push_of_some _ ho2)) _⟩
  refine ⟨_,rfl,wpAny_pure ⟨_,rfl,h _ _ tk e1 (Nat.le_of_lt k2) (fun b o hb=>sortedHeap_keep (Nat.ne_of_lt (Nat.lt_trans (Heap.lt_size hb) k2)) (Heap.get?_push_of_some _ (k1 b o hb))) ho1⟩⟩
end
end SoT
namespace L2
open PySem PySem.Spec PyProof.Rows
section
variable {X:Cx}
noncomputable def rSortD:List V→Hp→VK→Prop:=fun xs H Q=>∃ (a:Addr) (ps:List ((Int × Int) × Int)),xs = [.ref a]∧Rd H a (.dT (DL.encD ps))∧(∀ (i:Nat) p q,ps[i]? = some p→ps[i + 1]? = some q→p.1.1 < q.1.1 ∨ (p.1.1 = q.1.1∧p.1.2 ≤ q.1.2)) ∧
  ∀ (l:Addr) (bs:List Addr),H l = none→Paired (fun b p=>H b = some (.tup [.int p.1.1,.int p.1.2])) bs ps→Q (.ref l) (upd H l (.lst (bs.map V.ref)))
theorem lex2 {p1 p2 q1 q2:Int} (h:p1 < q1 ∨ (p1 = q1∧p2 ≤ q2)) : SoT.lexI (decide (2 < 2)) [q1,q2] [p1,p2] = false:=by
  unfold SoT.lexI SoT.lexI SoT.lexI
  split
  · split
    · rfl
    · exact decide_eq_false (by lia)
  · exact decide_eq_false (by lia)
theorem entries_of {P:Program} {w:World} {H:Hp} : ∀ {ps:List ((Int × Int) × Int)} {xs:List (List Key × Addr × Value)},KT H (DL.encD ps) xs→∃ bs:List Addr,Paired (fun b p=>H b = some (.tup [.int p.1.1,.int p.1.2])) bs ps∧(xs.map (entryOfKey (tupleKind (mixKind P w)))).map (·.key) = bs.map Value.ref
  | [],_,r=>by
    have r':KT H [] _:=r
    cases r'
    exact ⟨[],.nil,rfl⟩
  | p :: ps,_,r=>by
    have r':KT H ((DL.k2 p.1,V.int p.2) :: DL.encD ps) _:=r
    cases r' with
    | cons h t =>
      obtain ⟨bs,h1,h2⟩:=entries_of (P:=P) (w:=w) t
      rename_i q qs
      refine ⟨q.2.1 :: bs,.cons h.2.1 h1,?_⟩
      rw [List.map_cons,List.map_cons,List.map_cons,h2]
      rfl
theorem call_sortD (hc:X.calm = true) : CallR X (.builtin "sorted") rSortD:=by
  intro pins s σ H xs us Q I r h
  obtain ⟨a,ps,rfl,e,rise,q⟩:=h
  obtain ⟨u,rfl,ru⟩:=vals1 r
  cases ru
  obtain ⟨z,hd,xs,rel,o,es,ep,h1,h2,h3,h4,_⟩:=dt_rd I.hok e
  obtain ⟨bs,hb,hk⟩:=entries_of (P:=X.prog) (w:=X.w) rel
  rw [← h4] at hk
  have hl:bs.length = ps.length:=Paired.length hb
  have hsz:es.size = ps.length:=by
    have:=congrArg List.length hk
    simp at this
    lia
  have hz:es.size ≤ sizeLine:=by
    rw [hsz]
    have:(DL.encD ps).length = ps.length:=by unfold DL.encD; rw [List.length_map]
    lia
  refine SoT.sorted_dict hd (I.ok.hd hc) ⟨o,h1,h2,h3⟩ ?_ hz fun p h' tk n hp k' hp'=>?_
  · rw [hk]
    refine ⟨ps.map fun p=>[p.1.1,p.1.2],by rw [List.length_map,List.length_map,hl],fun i v ns hv hn=>?_,fun i ns ms hn hm=>?_⟩
    · rw [List.getElem?_map] at hv hn
      cases ep':ps[i]? with
      | none=>rw [ep'] at hn; cases hn
      | some pr =>
        rw [ep'] at hn
        cases hn
        obtain ⟨b,eb,hb'⟩:=DL.paired_get' hb ep'
        rw [eb] at hv
        cases hv
        refine ⟨by show 0 < 2; decide,?_⟩
        obtain ⟨_,its,rv,ob,g1,g2,m,g3⟩:=I.hok _ _ hb'
        exact ⟨b,ob,its.toArray,m,rfl,g1,g2,g3,by simpa using intsAre_of (ns:=[pr.1.1,pr.1.2]) rv⟩
    · rw [List.getElem?_map] at hn hm
      cases e1:ps[i]? with
      | none=>rw [e1] at hn; cases hn
      | some p1 =>
        cases e2:ps[i + 1]? with
        | none=>rw [e2] at hm; cases hm
        | some p2 =>
          rw [e1] at hn
          rw [e2] at hm
          cases hn
          cases hm
          exact lex2 (rise i p1 p2 e1 e2)
  · rw [hk] at hp'
    refine ⟨.ref p,_,I.laid (t':=tk) k' hp (o:=.lst (bs.map V.ref)) ⟨by rw [List.length_map]; lia,bs.map Value.ref,n,?_,hp'⟩,rfl,q _ bs (I.hok.fresh hp) hb⟩
    clear hb hk hl q hp'
    induction bs with
    | nil=>exact .nil
    | cons b bs ih=>exact .cons rfl ih
end
end L2
namespace DL
open PySem L2
noncomputable def keysD (kvs:KVs) : List D:=kvs.map fun p=>.tup [.int p.1.1,.int p.1.2]
noncomputable def RiseD (kvs:KVs) : Prop:=∀ (i:Nat) p q,kvs[i]? = some p→kvs[i + 1]? = some q→p.1.1 < q.1.1 ∨ (p.1.1 = q.1.1∧p.1.2 ≤ q.1.2)
noncomputable def dSortD:DR:=fun ds P=>match ds with
  | [.dct kvs]=>RiseD kvs∧P (.o (.lst (keysD kvs)))
  | _=>False
theorem with_keys {K:PySem.W.Frag} {H G:Hp} {l:Addr} {bs:List Addr} {ps:KVs} (s:Same G H) (hl:H l = none) (hb:Paired (fun b p=>H b = some (.tup [.int p.1.1,.int p.1.2])) bs ps) :
    ∃ G',Wd H G (upd H l (.lst (bs.map V.ref))) G'∧BRes K H G' (upd H l (.lst (bs.map V.ref))) (.ref l) (.o (.lst (keysD ps))):=by
  obtain ⟨G3,w3,s3,k3,t3,o3⟩:=allT (K:=K) (Wd.refl s) (Wd.refl s) ((Wd.refl s).own hl (s.free hl) (o:=.lst (bs.map V.ref)))
  have hl3:G3 l = none:=by
    rw [o3 l (fun us z=>by rw [upd_same] at z; cases z) (fun o us z=>by rw [upd_same] at z; cases z)]
    exact s.free hl
  refine ⟨G3,w3,l,rfl,hl,hl3,bs.map V.ref,upd_same,?_⟩
  unfold keysD
  clear w3 s3 k3 o3 hl3
  induction hb with
  | nil=>exact .nil
  | @cons b p bs ps h _ ih =>
    refine .cons ?_ (ih ?_)
    · refine Rep.tup' (.inl (.inl (t3 b _ ?_))) (.cons (.int _) (.cons (.int _) .nil))
      rw [upd_ne (by rintro rfl; rw [h] at hl; cases hl)]
      exact h
    · intro c us z
      refine t3 c us ?_
      by_cases e:c = l
      · subst e; rw [upd_same] at z; cases z
      · rw [upd_ne e] at z ⊢; exact z
theorem cd_sortD {X:Cx} (hc:X.calm = true) : CallD X (.builtin "sorted") dSortD:=by
  refine ⟨_,call_sortD hc,fun H G vs ds P Q s r h k=>?_⟩
  unfold dSortD at h
  split at h
  · obtain ⟨rise,h⟩:=h
    obtain ⟨v,rfl,rv⟩:=reps1 r
    cases rv with
    | dct e =>
      refine ⟨_,_,rfl,.inl (s _ _ e),rise,fun l bs hl hb=>?_⟩
      obtain ⟨G',w',r'⟩:=with_keys (K:=X.K) s hl hb
      exact k _ _ _ G' h w' r'
  · exact h.elim
end DL
namespace L2
open PySem PySem.Spec PyProof.Rows
theorem op_notB {X:Cx} : OpR X (compareOp .IsNot) (fun x y H Q=>∃ a b:Bool,x = .bl a∧y = .bl b∧Q (.bl (!decide (a = b))) H):=by
  intro pins s σ H x y v u Q I rx ry h
  obtain ⟨a,b,rfl,rfl,q⟩:=h
  cases rx
  cases ry
  refine wpAny_isNot_plain (by rfl) ⟨.bl (!decide (a = b)),H,I,?_,q⟩
  cases a <;> cases b <;> rfl
end L2
namespace DL
open PySem L2
noncomputable def dNotB:D2:=fun x y Q=>match x,y with
  | .bl a,.bl b=>Q (.p (.bl (!decide (a = b))))
  | _,_=>False
theorem od_notB {X:Cx} : OpD X (compareOp .IsNot) dNotB:=by
  refine ⟨_,op_notB,fun H G x y dx dy P Q s rx ry hr k=>?_⟩
  unfold dNotB at hr
  split at hr
  · cases rx; cases ry
    exact ⟨_,_,rfl,rfl,k _ _ H G hr (Wd.refl s) (.bl _)⟩
  · exact hr.elim
end DL
namespace ZT
open PySem PyProof.Rows
theorem IsTupIter.mv {h h':Heap} {a t:Addr} {i:Nat} (x:IsTupIter h a t i) (k:∀ o,h.get? a = some o→h'.get? a = some o) : IsTupIter h' a t i:=by
  obtain ⟨o,e,r⟩:=x
  exact ⟨o,k _ e,r⟩
theorem IsTup.mv {h h':Heap} {a:Addr} {xs:Array Value} (x:IsTup h a xs) (k:∀ o,h.get? a = some o→h'.get? a = some o) : IsTup h' a xs:=by
  obtain ⟨o,e,r⟩:=x
  exact ⟨o,k _ e,r⟩
section
variable {prog:Program} {w:World} {A:Around} {E:Value→Shared→Prop} {s:Shared} {c t z U O p q a b:Addr} {i:Nat} {xs ys:Array Value} {x y x' y':Value}
theorem nextItem {Q:Value→Shared→Prop} (ci:IsTupIter s.heap c t i) (tt:IsTup s.heap t xs) (hx:xs[i]? = some x) (k:∀ h',IsTupIter h' c t (i + 1)→Heap.SameBut c s.heap h'→Q x { s with heap:=h' }) :
    wpAny (model prog w) A (Builtin.SmallTypes.nextOf (.ref c)) Q E s:=by
  obtain ⟨o,e1,e2,e3⟩:=id ci
  obtain ⟨ot,f1,_,m,f3⟩:=tt
  unfold Builtin.SmallTypes.nextOf
  refine wpAny_bind (wpAny_callSpecial?_slot (name:=Str.ofString "__next__") ci.typeIs slot_tupleiter_next (wpAny_call_entry slot_tupleiter_next ci.typeIs entry_tupleiter_next (?_:wpAny _ _ (field (.ref c) 0 >>= _) _ _ s) (args_tupleiter_next _)))
  refine wpAny_bind (wpAny_field e1 e3 (x:=.ref t) rfl (?_:wpAny _ _ (if (Value.ref t == Value.none) = true then _ else _) _ _ s))
  rw [if_neg (show ¬ (Value.ref t == Value.none) = true from Bool.false_ne_true)]
  refine (?_:wpAny _ _ (field (.ref c) 1 >>= _) _ _ s)
  refine wpAny_bind (wpAny_field e1 e3 (x:=.int i 0) rfl (?_:wpAny _ _ (seqItems? (.ref t) >>= _) _ _ s))
  refine wpAny_bind (wpAny_seqItems f1 f3 ?_); simp only [Int.toNat_natCast,hx]
  exact wpAny_bind (wpAny_setField e1 e3 (by simp) (wpAny_pure ⟨x,rfl,wpAny_pure (k _ ⟨_,Heap.get?_update_self _ e1 (Obj.isFreed_of_fields (Obj.data_mapFields e3 _)),(Obj.cls_mapFields ..).trans e2,by rw [Obj.data_mapFields e3]; simp [rawInt]⟩ (Heap.SameBut.update ..))⟩))
theorem nextEnd {Q:Value→Shared→Prop} (hh:A.handled = none) (ci:IsTupIter s.heap c t i) (tt:IsTup s.heap t xs) (hx:xs[i]? = none) (k:∀ h' e,Heap.ExtBut c s.heap h'→(∃ o,h'.get? e = some o∧o.cls = .type "StopIteration")→E (.ref e) { s with heap:=h' }) :
    wpAny (model prog w) A (Builtin.SmallTypes.nextOf (.ref c)) Q E s:=by
  obtain ⟨o,e1,e2,e3⟩:=id ci
  obtain ⟨ot,f1,_,m,f3⟩:=tt
  unfold Builtin.SmallTypes.nextOf
  refine wpAny_bind (wpAny_callSpecial?_slot (name:=Str.ofString "__next__") ci.typeIs slot_tupleiter_next (wpAny_call_entry slot_tupleiter_next ci.typeIs entry_tupleiter_next (?_:wpAny _ _ (field (.ref c) 0 >>= _) _ _ s) (args_tupleiter_next _)))
  refine wpAny_bind (wpAny_field e1 e3 (x:=.ref t) rfl (?_:wpAny _ _ (if (Value.ref t == Value.none) = true then _ else _) _ _ s))
  rw [if_neg (show ¬ (Value.ref t == Value.none) = true from Bool.false_ne_true)]
  refine (?_:wpAny _ _ (field (.ref c) 1 >>= _) _ _ s)
  refine wpAny_bind (wpAny_field e1 e3 (x:=.int i 0) rfl (?_:wpAny _ _ (seqItems? (.ref t) >>= _) _ _ s))
  refine wpAny_bind (wpAny_seqItems f1 f3 ?_); simp only [Int.toNat_natCast,hx]
  refine wpAny_bind (wpAny_rule (wpAny_bind (wpAny_setField e1 e3 (by simp) (?_:wpAny _ _ (newExc (.type "StopIteration") [] >>= _) _ _ _))))
  refine wpAny_bind ?_
  simp only [newExc,newTuple]
  refine wpAny_bind (wpAny_newObj_type (wpAny_bind (m:=firstArgMember _ _) (wpAny_of_eq (a:=Value.none) (by first | rfl | (simp only [firstArgMember]; rfl)) (wpAny_newObj_type ?_ (by size_fits)))) (by size_fits))
  simp only [raiseNew]
  refine wpAny_bind (wpAny_handled ?_)
  first | rw [show A.in1.handled = none from hh]; exact wpAny_bind (wpAny_pure (wpAny_throw (k _ _ (((Heap.SameBut.update ..).extBut.push _).push _) ⟨_,Heap.get?_push_size _ rfl,rfl⟩))) | rw [hh]; exact wpAny_bind (wpAny_pure (wpAny_throw (k _ _ (((Heap.SameBut.update ..).extBut.push _).push _) ⟨_,Heap.get?_push_size _ rfl,rfl⟩)))
structure St (h:Heap) (z U O p q a b:Addr) (i:Nat) (xs ys:Array Value) (f:Value) : Prop where
  zz:IsZip h z U O f
  uu:IsPair h U (.ref p) (.ref q)
  oo:∃ x y,IsPair h O x y
  pp:IsTupIter h p a i
  qq:IsTupIter h q b i
  aa:IsTup h a xs
  bb:IsTup h b ys
theorem St.mv {h h':Heap} {f:Value} (d:St h z U O p q a b i xs ys f) (k:∀ c ∈ [z,U,O,p,q,a,b],∀ o,h.get? c = some o→h'.get? c = some o) : St h' z U O p q a b i xs ys f:=by
  obtain ⟨d1,d2,⟨u,v,d3⟩,d4,d5,d6,d7⟩:=d
  exact ⟨k z (by simp) _ d1,k U (by simp) _ d2,⟨u,v,k O (by simp) _ d3⟩,IsTupIter.mv d4 (k p (by simp)),IsTupIter.mv d5 (k q (by simp)),IsTup.mv d6 (k a (by simp)),IsTup.mv d7 (k b (by simp))⟩
theorem zipItem {Q:Value→Shared→Prop} (D:ZipApart z U O p q a b) (d:St s.heap z U O p q a b i xs ys .none) (hx:xs[i]? = some x) (hy:ys[i]? = some y)
    (k:∀ h',St h' z U O p q a b (i + 1) xs ys (rawInt s.heap.objs.size)→IsPair h' s.heap.objs.size x y→(∀ c o,c ≠ z→c ≠ O→c ≠ p→c ≠ q→s.heap.get? c = some o→h'.get? c = some o)→Q (.ref s.heap.objs.size) { s with heap:=h' }) :
    wpAny (model prog w) A (Builtin.«zip.__next__» ⟨[.ref z],[]⟩) (fun fin s'=>∃ v,fin = .done (.ret v)∧Q v s') E s:=by
  obtain ⟨zz,uu,⟨u,v,oo⟩,pp,qq,aa,bb⟩:=d
  refine (?_:wpAny _ _ (field (.ref z) 2 >>= _) _ _ _)
  refine wpAny_bind (wpAny_field zz rfl (x:=.bool false) rfl (?_:wpAny _ _ (field (.ref z) 3 >>= _) _ _ _))
  refine wpAny_bind (wpAny_field zz rfl (x:=.ref U) rfl (wpAny_bind (wpAny_seqItems uu rfl (?_:wpAny _ _ (Builtin.SmallTypes.ownedTupleIsFree (.ref z) >>= _) _ _ _))))
  unfold Builtin.SmallTypes.ownedTupleIsFree
  refine wpAny_bind (wpAny_bind (wpAny_field zz rfl (x:=.none) rfl (wpAny_pure ?_))); simp only [if_true]
  refine wpAny_bind (wpAny_rule (wpAny_bind (wpAny_field zz rfl (x:=.ref O) rfl (wpAny_bind (wpAny_setField_rec zz (by simp) fun g1 z1 s1=>?_)))))
  have z1:IsZip g1 z U O .ellipsis:=z1
  refine wpAny_bind ?_; simp only [List.zipIdx_cons,List.zipIdx_nil,List.forIn_cons,List.forIn_nil]
  refine wpAny_bind (wpAny_bind (wpAny_onRaise (?_:wpAny _ _ (Builtin.SmallTypes.nextOf (.ref p) >>= _) _ _ _)))
  refine wpAny_bind (nextItem (pp.extBut s1.extBut D.i1z) (aa.extBut s1.extBut D.l1z) hx fun g2 p2 s2=>wpAny_pure ?_)
  have o2:IsPair g2 O u v:=s2.extBut _ _ D.TOi1 (s1.extBut _ _ D.TOz oo)
  refine wpAny_bind (wpAny_seqItems o2 rfl (wpAny_bind (wpAny_updateSeq_pair o2 fun g3 o3 s3=>?_)))
  have o3:IsPair g3 O x v:=o3
  refine wpAny_bind (wpAny_letGo (wpAny_pure (wpAny_bind (wpAny_bind (wpAny_onRaise (?_:wpAny _ _ (Builtin.SmallTypes.nextOf (.ref q) >>= _) _ _ _))))))
  refine wpAny_bind (nextItem (((qq.extBut s1.extBut D.i2z).extBut s2.extBut D.i12.symm).extBut s3.extBut D.TOi2.symm) (((bb.extBut s1.extBut D.l2z).extBut s2.extBut D.l2i1).extBut s3.extBut D.l2TO) hy fun g4 q4 s4=>wpAny_pure ?_)
  have o4:IsPair g4 O x v:=s4.extBut _ _ D.TOi2 o3
  refine wpAny_bind (wpAny_seqItems o4 rfl (wpAny_bind (wpAny_updateSeq_pair o4 fun g5 o5 s5=>?_)))
  have o5:IsPair g5 O x y:=o5
  refine wpAny_bind (wpAny_letGo (wpAny_pure (wpAny_pure (wpAny_bind (wpAny_seqItems o5 rfl (wpAny_bind (wpAny_newTuple ?_)))))))
  have sz:g5.objs.size = s.heap.objs.size:=by rw [s5.1,s4.1,s3.1,s2.1,s1.1]
  have z5:IsZip g5 z U O .ellipsis:=s5.extBut _ _ D.TOz.symm (s4.extBut _ _ D.i2z.symm (s3.extBut _ _ D.TOz.symm (s2.extBut _ _ D.i1z.symm z1)))
  have k5:∀ c o,c ≠ z→c ≠ O→c ≠ p→c ≠ q→s.heap.get? c = some o→g5.get? c = some o:=fun c o c1 c2 c3 c4 e=>s5.extBut _ _ c2 (s4.extBut _ _ c4 (s3.extBut _ _ c2 (s2.extBut _ _ c3 (s1.extBut _ _ c1 e))))
  have p5:IsTupIter g5 p a (i + 1):=((p2.extBut s3.extBut D.TOi1.symm).extBut s4.extBut D.i12).extBut s5.extBut D.TOi1.symm
  have q5:IsTupIter g5 q b (i + 1):=q4.extBut s5.extBut D.TOi2.symm
  refine (?_:wpAny _ _ (Builtin.SmallTypes.ownedTupleHandOut (.ref z) (.ref g5.objs.size) >>= _) _ _ _)
  unfold Builtin.SmallTypes.ownedTupleHandOut
  have z6:IsZip (g5.push { cls:=.type "tuple",data:=.seq #[x,y] }) z U O .ellipsis:=Heap.get?_push_of_some _ z5
  refine wpAny_bind (wpAny_bind (wpAny_setField_rec z6 (by simp) fun g7 z7 s7=>?_))
  have z7:IsZip g7 z U O (rawInt g5.objs.size):=z7
  refine wpAny_setField_rec z7 (by simp) fun g8 z8 s8=>?_
  have z8:IsZip g8 z U O (rawInt g5.objs.size):=z8
  have up:∀ c o,c ≠ z→g5.get? c = some o→g8.get? c = some o:=fun c o c1 e=>s8.extBut _ _ c1 (s7.extBut _ _ c1 (Heap.get?_push_of_some _ e))
  have zlt:z < g5.objs.size:=Heap.lt_size z5
  have t8:IsPair g8 g5.objs.size x y:=s8.extBut _ _ (Nat.ne_of_gt zlt) (s7.extBut _ _ (Nat.ne_of_gt zlt) (Heap.get?_push_size _ rfl))
  rw [sz] at z8 t8
  refine wpAny_pure ⟨_,rfl,(?_:Q (.ref g5.objs.size) _)⟩
  rw [sz]
  exact k g8 ⟨z8,up _ _ D.TIz (k5 _ _ D.TIz D.TITO D.TIi1 D.TIi2 uu),⟨x,y,up _ _ D.TOz o5⟩,IsTupIter.mv p5 fun o e=>up _ o D.i1z e,IsTupIter.mv q5 fun o e=>up _ o D.i2z e,IsTup.mv aa fun o e=>up _ o D.l1z (k5 _ o D.l1z D.l1TO D.l1i1 D.l1i2 e),IsTup.mv bb fun o e=>up _ o D.l2z (k5 _ o D.l2z D.l2TO D.l2i1 D.l2i2 e)⟩ t8 fun c o c1 c2 c3 c4 e=>up c o c1 (k5 c o c1 c2 c3 c4 e)
theorem zipEnd {Q:Fin→Shared→Prop} (hh:A.handled = none) (D:ZipApart z U O p q a b) (d:St s.heap z U O p q a b i xs ys .none) (hx:xs[i]? = none)
    (k:∀ h' e,(∀ c o,c ≠ z→c ≠ O→c ≠ p→c ≠ q→s.heap.get? c = some o→h'.get? c = some o)→(∃ o,h'.get? e = some o∧o.cls = .type "StopIteration")→E (.ref e) { s with heap:=h' }) :
    wpAny (model prog w) A (Builtin.«zip.__next__» ⟨[.ref z],[]⟩) Q E s:=by
  obtain ⟨zz,uu,⟨u,v,oo⟩,pp,qq,aa,bb⟩:=d
  refine (?_:wpAny _ _ (field (.ref z) 2 >>= _) _ _ _)
  refine wpAny_bind (wpAny_field zz rfl (x:=.bool false) rfl (?_:wpAny _ _ (field (.ref z) 3 >>= _) _ _ _))
  refine wpAny_bind (wpAny_field zz rfl (x:=.ref U) rfl (wpAny_bind (wpAny_seqItems uu rfl (?_:wpAny _ _ (Builtin.SmallTypes.ownedTupleIsFree (.ref z) >>= _) _ _ _))))
  unfold Builtin.SmallTypes.ownedTupleIsFree
  refine wpAny_bind (wpAny_bind (wpAny_field zz rfl (x:=.none) rfl (wpAny_pure ?_))); simp only [if_true]
  refine wpAny_bind (wpAny_rule (wpAny_bind (wpAny_field zz rfl (x:=.ref O) rfl (wpAny_bind (wpAny_setField_rec zz (by simp) fun g1 z1 s1=>?_)))))
  have z1:IsZip g1 z U O .ellipsis:=z1
  refine wpAny_bind ?_; simp only [List.zipIdx_cons,List.zipIdx_nil,List.forIn_cons,List.forIn_nil]
  refine wpAny_bind (wpAny_bind (wpAny_onRaise (?_:wpAny _ _ (Builtin.SmallTypes.nextOf (.ref p) >>= _) _ _ _)))
  refine wpAny_bind (nextEnd hh (pp.extBut s1.extBut D.i1z) (aa.extBut s1.extBut D.l1z) hx fun g2 e s2 he=>?_)
  obtain ⟨oe,he1,he2⟩:=he
  have z2:IsZip g2 z U O .ellipsis:=s2 _ _ D.i1z.symm z1
  have ez:e ≠ z:=fun r=>by subst r; rw [z2] at he1; cases he1; simp at he2
  exact wpAny_setField_rec z2 (by simp) fun g3 _ s3=>k g3 e (fun c o c1 _ c3 _ r=>s3.extBut _ _ c1 (s2 _ _ c3 (s1.extBut _ _ c1 r))) ⟨oe,s3.extBut _ _ ez he1,he2⟩
theorem walk (hh:A.handled = none) (D:ZipApart z U O p q a b) (xs ys:Array Value) (e:xs.size = ys.size) :
    WalksT prog w A z [z,U,O,p,q,a,b] [z,O,p,q] xs.size (fun i vals=>∃ x y,xs[i]? = some x∧ys[i]? = some y∧vals = #[x,y]) (fun i h=>St h z U O p q a b i xs ys .none)
      (fun i T h=>St h z U O p q a b (i + 1) xs ys (rawInt T)∧T ≠ z∧T ≠ O∧T ≠ p∧T ≠ q) where
  sub:=fun c hc=>by simp at hc ⊢; rcases hc with h | h | h | h <;> simp [h]
  frame:=fun i h h' d hk=>d.mv hk
  item:=fun i s Q E hi d hQ=>by
    have hx:xs[i]? = some xs[i]:=Array.getElem?_eq_getElem hi
    have hy:ys[i]? = some (ys[i]'(by lia)):=Array.getElem?_eq_getElem (by lia)
    have lt:∀ {c o},s.heap.get? c = some o→s.heap.objs.size ≠ c:=fun e=>Nat.ne_of_gt (Heap.lt_size e)
    have tz:s.TypeIs (.ref z) "zip":=⟨_,d.zz,rfl⟩
    unfold pyNext
    refine wpAny_bind (wpAny_attempt (wpAny_callSpecial?_slot (name:=Str.ofString "__next__") tz PySem.F.slot_zip_next (wpAny_call_entry PySem.F.slot_zip_next tz PySem.F.entry_zip_next (zipItem D d hx hy fun h' d' t' hk=>wpAny_pure ?_) (PySem.F.args_zip_next_1 _))))
    have zz:=d.zz
    obtain ⟨_,_,⟨_,_,oo⟩,⟨_,pp,_⟩,⟨_,qq,_⟩,_,_⟩:=d
    exact hQ s.heap.objs.size #[xs[i],ys[i]'(by lia)] h' s.toks ⟨_,_,hx,hy,rfl⟩ (Nat.le_refl _) ⟨_,t',rfl,_,rfl⟩ ⟨d',lt zz,lt oo,lt pp,lt qq⟩ fun c o hc e=>hk c o (fun r=>hc (by simp [r])) (fun r=>hc (by simp [r])) (fun r=>hc (by simp [r])) (fun r=>hc (by simp [r])) e
  go:=fun elts k pos i T s Q E hm hQ=>by
    obtain ⟨d,_⟩:=hm
    refine wpAny_letOwnedTupleGo_zip d.zz fun h' z' s'=>hQ h' ?_ fun c o hc e=>s'.extBut _ _ (fun r=>hc (by simp [r])) e
    obtain ⟨_,uu,⟨u,v,oo⟩,pp,qq,aa,bb⟩:=d
    exact ⟨z',s'.extBut _ _ D.TIz uu,⟨u,v,s'.extBut _ _ D.TOz oo⟩,pp.extBut s'.extBut D.i1z,qq.extBut s'.extBut D.i2z,aa.extBut s'.extBut D.l1z,bb.extBut s'.extBut D.l2z⟩
  apart:=fun i T h hm hT=>by
    obtain ⟨_,t1,t2,t3,t4⟩:=hm
    simp only [List.mem_cons,List.not_mem_nil,or_false] at hT
    rcases hT with r | r | r | r
    · exact t1 r
    · exact t2 r
    · exact t3 r
    · exact t4 r
  done:=fun s Q E d hQ=>by
    have tz:s.TypeIs (.ref z) "zip":=⟨_,d.zz,rfl⟩
    unfold pyNext
    refine wpAny_bind (wpAny_attempt (wpAny_callSpecial?_slot (name:=Str.ofString "__next__") tz PySem.F.slot_zip_next (wpAny_call_entry PySem.F.slot_zip_next tz PySem.F.entry_zip_next (zipEnd hh D d (Array.getElem?_eq_none (Nat.le_refl _)) fun h' e hk he=>?_) (PySem.F.args_zip_next_1 _))))
    obtain ⟨o,h1,h2⟩:=he
    exact wpAny_bind (wpAny_isInstance (T:="StopIteration") (b:=true) ⟨o,h1,h2⟩ isSubtype_stop (wpAny_pure (hQ h' s.toks fun c o hc e=>hk c o (fun r=>hc (by simp [r])) (fun r=>hc (by simp [r])) (fun r=>hc (by simp [r])) (fun r=>hc (by simp [r])) e)))
  self:=fun i s Q E d hQ=>wpAny_pyIter_zip d.zz hQ
end
noncomputable abbrev H1 (h:Heap) (a:Addr) : Heap:=h.push { cls:=.type "tuple_iterator",data:=.fields #[.ref a,.int 0 0] }
noncomputable abbrev H2 (h:Heap) (a b:Addr) : Heap:=(H1 h a).push { cls:=.type "tuple_iterator",data:=.fields #[.ref b,.int 0 0] }
noncomputable abbrev H3 (h:Heap) (a b:Addr) : Heap:=(H2 h a b).push { cls:=.type "tuple",data:=.seq #[.ref h.objs.size,.ref (H1 h a).objs.size] }
noncomputable abbrev H4 (h:Heap) (a b:Addr) : Heap:=(H3 h a b).push { cls:=.type "tuple",data:=.seq #[.none,.none] }
noncomputable abbrev H5 (h:Heap) (a b:Addr) : Heap:=(H4 h a b).push { cls:=.type "zip",data:=.fields #[.none,.bool false,.bool false,.ref (H2 h a b).objs.size,.ref (H3 h a b).objs.size] }
theorem zipNew (a b:Addr) (xs ys:Array Value) : Meets (Builtin.«zip.__new__» ⟨[.type "zip",.ref a,.ref b],[]⟩) (fun _ R s=>IsTup s.heap a xs∧IsTup s.heap b ys∧R (.ok (.ret (.ref (H4 s.heap a b).objs.size))) { s with heap:=H5 s.heap a b }):=
  .of_wp fun prog w A R s h=>by
    obtain ⟨hp,g,d,tk,os⟩:=s
    obtain ⟨t1,t2,h⟩:=h
    have hsub:=sub_zip
    have T1:IsTup (Shared.heap ⟨hp,g,d,tk,os⟩) a xs:=t1
    have T2:IsTup (Shared.heap ⟨hp.push { cls:=.type "tuple_iterator",data:=.fields #[.ref a,.int 0 0] },g,d,tk,os⟩) b ys:=t2.push _
    wp_walk using iter_tuple T1,iter_tuple T2
    exact ⟨_,rfl,h⟩
theorem callZip {prog:Program} {w:World} {A:Around} {E:Value→Shared→Prop} {s:Shared} {a b:Addr} {xs ys:Array Value} {Q:Value→Shared→Prop} (t1:IsTup s.heap a xs) (t2:IsTup s.heap b ys)
    (k:∀ h',St h' (s.heap.objs.size + 4) (s.heap.objs.size + 2) (s.heap.objs.size + 3) s.heap.objs.size (s.heap.objs.size + 1) a b 0 xs ys .none→(∀ c o,s.heap.get? c = some o→h'.get? c = some o)→Q (.ref (s.heap.objs.size + 4)) { s with heap:=h' }) :
    wpAny (model prog w) A (call (.type "zip") [.ref a,.ref b]) Q E s:=by
  refine callType_new PySem.F.called_zip (by decide) (PySem.F.typeCall_zip_2 _ _) (PySem.F.newCall_zip_2 _ _) (fun obj=>PySem.F.args_object_init_3 obj _ _) PySem.F.entry_zip_new (zipNew a b xs ys) ⟨t1,t2,?_⟩
  have n1:(H1 s.heap a).objs.size = s.heap.objs.size + 1:=Heap.size_push ..
  have n2:(H2 s.heap a b).objs.size = s.heap.objs.size + 2:=by rw [Heap.size_push,n1]
  have n3:(H3 s.heap a b).objs.size = s.heap.objs.size + 3:=by rw [Heap.size_push,n2]
  have n4:(H4 s.heap a b).objs.size = s.heap.objs.size + 4:=by rw [Heap.size_push,n3]
  have k5:(H5 s.heap a b).get? (H4 s.heap a b).objs.size = some _:=Heap.get?_push_size _ rfl
  have k4:(H5 s.heap a b).get? (H3 s.heap a b).objs.size = some _:=Heap.get?_push_of_some _ (Heap.get?_push_size _ rfl)
  have k3:(H5 s.heap a b).get? (H2 s.heap a b).objs.size = some _:=Heap.get?_push_of_some _ (Heap.get?_push_of_some _ (Heap.get?_push_size _ rfl))
  have k2:(H5 s.heap a b).get? (H1 s.heap a).objs.size = some _:=Heap.get?_push_of_some _ (Heap.get?_push_of_some _ (Heap.get?_push_of_some _ (Heap.get?_push_size _ rfl)))
  have k1:(H5 s.heap a b).get? s.heap.objs.size = some _:=Heap.get?_push_of_some _ (Heap.get?_push_of_some _ (Heap.get?_push_of_some _ (Heap.get?_push_of_some _ (Heap.get?_push_size _ rfl))))
  have kk:∀ c o,s.heap.get? c = some o→(H5 s.heap a b).get? c = some o:=fun c o e=>Heap.get?_push_of_some _ (Heap.get?_push_of_some _ (Heap.get?_push_of_some _ (Heap.get?_push_of_some _ (Heap.get?_push_of_some _ e))))
  refine (show _∧_ from ?_)
  rw [n2,n3,n4] at k5
  rw [n1,n2] at k3
  rw [n3] at k4
  rw [n1] at k2
  rw [n4]
  exact ⟨⟨_,k5,rfl⟩,k _ ⟨k5,k3,⟨_,_,k4⟩,⟨_,k1,rfl,rfl⟩,⟨_,k2,rfl,rfl⟩,IsTup.mv t1 (kk a),IsTup.mv t2 (kk b)⟩ kk⟩
end ZT
namespace L2
open PySem PySem.Spec PyProof.Rows
noncomputable def srcZipT (K:PySem.W.Frag) (a b:Addr) (xs ys:List V) (H:Hp) (rows:List (List V)) : Prop:=SqT K H a xs∧SqT K H b ys∧xs.length = ys.length∧rows = zipRows xs ys
theorem turn_zipT {P:Program} {w:World} {K:PySem.W.Frag} {elts:List Expr} {kx:Nat} {pos:Pos} (a b z TI TO i1 i2:Addr) (xs ys:List V) (D:ZipApart z TI TO i1 i2 a b) :
    Turn P w K (.Tuple elts kx pos) (ItP (srcZipT K a b xs ys)) [z,TI,TO,i1,i2] z (fun i h=>IsZip h z TI TO .none∧IsPair h TI (.ref i1) (.ref i2)∧(∃ u v,IsPair h TO u v)∧IsTupIter h i1 a i∧IsTupIter h i2 b i):=by
  refine turn_P (fpw:=[z,TI,TO,i1,i2,a,b]) (wr:=[z,TO,i1,i2]) (by simp) (fun c hc=>by simp at hc ⊢; rcases hc with h | h | h | h <;> simp [h]) (fun H r r' ⟨_,_,_,h3⟩ ⟨_,_,_,h3'⟩=>by rw [h3,h3']) (fun i h ⟨h1,h2,⟨_,_,h3⟩,h4,h5⟩ c hc=>?_)
    (fun i h h' ⟨h1,h2,⟨u,v,h3⟩,h4,h5⟩ k=>⟨k z (by simp) _ h1,k TI (by simp) _ h2,⟨u,v,k TO (by simp) _ h3⟩,ZT.IsTupIter.mv h4 (k i1 (by simp)),ZT.IsTupIter.mv h5 (k i2 (by simp))⟩) (fun A i s Q E d q=>wpAny_pyIter_zip d.1 q) ?_
  · have nf : ∀ (f : Array Value) (v : Option Value), Data.fields f ≠ Data.cell v := fun f v z => by cases z
    have ns:∀ (f:Array Value) (n:Nat) (v:Option Value),Data.seq f n ≠ Data.cell v:=fun f n v z=>by cases z
    simp only [List.mem_cons,List.not_mem_nil,or_false] at hc
    rcases hc with rfl | rfl | rfl | rfl | rfl
    · exact ⟨_,h1,nf _⟩
    · exact ⟨_,h2,ns _ _⟩
    · exact ⟨_,h3,ns _ _⟩
    · obtain ⟨o,ho,_,hd⟩:=h4
      exact ⟨o,ho,fun v=>by rw [hd]; exact nf _ v⟩
    · obtain ⟨o,ho,_,hd⟩:=h5
      exact ⟨o,ho,fun v=>by rw [hd]; exact nf _ v⟩
  · intro X hP hw hK hc i pins s σ H I hf st rows ⟨hx,hy,hl,hr⟩
    subst hP hw hK
    obtain ⟨its,rv,ta,_⟩:=I.tuple hx
    obtain ⟨its',rv',tb,_⟩:=I.tuple hy
    obtain ⟨h1,h2,h3,h4,h5⟩:=st
    have e:its.toArray.size = its'.toArray.size:=by rw [List.size_toArray,List.size_toArray,← rv.length,← rv'.length,hl]
    refine ⟨its.toArray.size,_,_,_,ZT.walk (I.ok.hd hc) D its.toArray its'.toArray e,by rw [hr,zipRows_len,← hl,Nat.min_self,List.size_toArray,rv.length],⟨h1,h2,h3,h4,h5,ta,tb⟩,fun j vals ⟨x,y,g1,g2,g3⟩=>?_,fun j h d=>⟨d.zz,d.uu,d.oo,d.pp,d.qq⟩⟩
    have g1':its[j]? = some x:=by simpa using g1
    have g2':its'[j]? = some y:=by simpa using g2
    have hj:j < xs.length:=by rw [rv.length]; exact (List.getElem?_eq_some_iff.mp g1').1
    have hj':j < ys.length:=by lia
    obtain ⟨u,k1,k2⟩:=rv.get (List.getElem?_eq_getElem hj)
    obtain ⟨u',k1',k2'⟩:=rv'.get (List.getElem?_eq_getElem hj')
    rw [g1'] at k1
    cases k1
    rw [g2'] at k1'
    cases k1'
    exact ⟨_,[x,y],by rw [hr]; exact zipRows_get (List.getElem?_eq_getElem hj) (List.getElem?_eq_getElem hj'),g3,.cons k2 (.cons k2' .nil),small_len (Nat.le_of_ble_eq_true rfl)⟩
section
variable {X:Cx}
noncomputable def iZipT (K:PySem.W.Frag) (ta:TA) : TI:=fun σ H R=>ta σ H fun vs H1=>∃ a b xs ys,vs = [.ref a,.ref b]∧SqT K H1 a xs∧SqT K H1 b ys∧xs.length = ys.length∧R (ItP (srcZipT K a b xs ys)) H1
theorem pi_zipT {elts:List Expr} {kx:Nat} {tpos:Pos} {l l2:Expr} {ta:TA} {p pos:Pos} (hg:Gl X "zip") (hm:X.mg "zip" = none) (ha:PA X [l,l2] ta) (hs:starEach [l,l2] X.env = [(false,eval l X.env),(false,eval l2 X.env)]:=by rfl) (hs2:starEach [l2] X.env = [(false,eval l2 X.env)]:=by rfl) :
    PI X (.Tuple elts kx tpos) (.Call (.Name "zip" p) [l,l2] [] pos) (iZipT X.K ta):=by
  intro pins s σ H R I h
  refine Call_ (ld_blt I hg hm PyProof.Rows.boot_zip (PyProof.Rows.callWith_type1 (thn (ha pos pins s σ H _ I h) fun us s1 ⟨vs,H1,I1,r1,q1⟩=>?_) (by rw [hs,hs2]) (by rw [hs2]; rfl)))
  obtain ⟨a,b,xs,ys,rfl,hx,hy,hl,q⟩:=q1
  obtain ⟨u,u',rfl,ru,ru'⟩:=vals2 r1
  cases ru
  cases ru'
  obtain ⟨its,rv,ta',_⟩:=I1.tuple hx
  obtain ⟨its',rv',tb',_⟩:=I1.tuple hy
  have la:=ta'.lt
  have lb:=tb'.lt
  refine ZT.callZip ta' tb' fun h' d hk=>wpAny_pyIter_zip d.zz ?_
  have I2:Inv X pins σ H1 { s1 with heap:=h' }:=I1.kept (t':=s1.toks) hk
  refine ⟨s1.heap.objs.size + 4,[s1.heap.objs.size + 4,s1.heap.objs.size + 2,s1.heap.objs.size + 3,s1.heap.objs.size,s1.heap.objs.size + 1],_,_,H1,rfl,I2,turn_zipT a b _ _ _ _ _ xs ys (zipApart_new la lb),⟨d.zz,d.uu,d.oo,d.pp,d.qq⟩,fun c hc=>?_,q⟩
  have:s1.heap.objs.size ≤ c:=by
    simp only [List.mem_cons,List.not_mem_nil,or_false] at hc
    rcases hc with rfl | rfl | rfl | rfl | rfl <;> lia
  exact I1.fpOk this (I1.hok.fresh this)
end
end L2
namespace DL
open PySem L2
section
variable {X:Cx} {pos:Pos}
noncomputable def di_zipTT (t:DTA) : DTA:=fun ρ P=>t ρ fun ds=>match ds with
  | [.tup xs,.tup ys]=>xs.length = ys.length∧P (zipD xs ys)
  | _=>False
theorem di_zipT2 {elts:List Expr} {kx:Nat} {tpos:Pos} {l l2:Expr} {t:DTA} {p:Pos} (hg:Gl X "zip") (hm:X.mg "zip" = none) (ha:DA X [l,l2] t) (hs:starEach [l,l2] X.env = [(false,eval l X.env),(false,eval l2 X.env)]:=by rfl) (hs2:starEach [l2] X.env = [(false,eval l2 X.env)]:=by rfl) : DI X (.Tuple elts kx tpos) (.Call (.Name "zip" p) [l,l2] [] pos) (di_zipTT t):=
  DI.of (pi_zipT hg hm ha.pa hs hs2) fun σ H R ⟨G,ρ,P,s,re,h,k⟩=>by
    refine ⟨G,ρ,_,s,re,h,fun ds vs H1 G1 p1 l1 w1 r1=>?_⟩
    split at p1
    · obtain ⟨hl,p1⟩:=p1
      obtain ⟨v,v',rfl,rv,rv'⟩:=reps2 r1
      obtain ⟨a,us,rfl,e,rr⟩:=rv.tup_inv
      obtain ⟨a',us',rfl,e',rr'⟩:=rv'.tup_inv
      have hl':us.length = us'.length:=by rw [Paired.length rr,Paired.length rr',hl]
      exact ⟨a,a',us,us',rfl,same_seqT w1.gh e,same_seqT w1.gh e',hl',k _ _ H1 G1 p1 w1 (itd_P (fun H s=>⟨same_seqT s e,same_seqT s e',hl',rfl⟩) (rows_zip rr rr'))⟩
    · exact p1.elim
end
end DL
set_option maxHeartbeats 4000000
namespace WS
open PySem L2 DL
local macro_rules | `(tactic| walk_at "rs1")=>do let ns:=("dSeq dNext dRet dRetN dRetO dIfS dSet dSetP dSetF dSetD dSetDP dAug dAsg dApp dAppF dSetIx dSetIxF dAugIx dDrop dFor dForD dForS dVar dC dOp dI dIC dIsN dNotN dUn dNeg dNotV dAndV dOrV dTst dNot dAnd dOr dIfE dChain dNil dCons dTup dLst dCall dCB dII dAbs dInt dNoPart dPart dIsi dTrue dget dput frz frz1 B.val startD Tg.d putN diTup diRng1 diRng2 diRevr1 di_enumerateT di_zipT di_reversedT onlyP frD dLC List.map List.length dIx_lst dIx_tup dIx_scr dAdd_int dAdd_lst dAdd_str dAdd_tup dMul_int dEqS_int dEqS_str dEqS_bl dNeS_int dNeS_str dNeS_bl dLen_lst dLen_tup dLen_scr diList_is itL_lst itL_scr dSl_is slD_lst slD_scr slD_tup dSlS_is slSD_lst slSD_scr dCopy_lst dCopy_tup dCopy_scr dZipL diRng3 dSortK dRevL dMinD dIns dNest dNestSet dNestPut dAppT dNewD dGetD dDPut dDAug dRetTO dUnN dForT dNestAug dSortD dNotB di_zipTT".splitOn " ").toArray.map fun s=>Lean.mkIdent s.toName; `(tactic| dsimp only [$[$ns:ident],*])
noncomputable def top (i:Nat) : Stmt:=PySem.Challenge.pw_warmshare_k36_whole_no_buying_is_cheaper.main.body.getD i (.Pass ⟨0,0,0,0⟩)
structure Blt (mg:Str→Option Value) : Prop where
  b_len:mg "len" = none
  b_sum:mg "sum" = none
  b_range:mg "range" = none
  b_int:mg "int" = none
  b_sorted:mg "sorted" = none
  b_min:mg "min" = none
  b_max:mg "max" = none
  b_list:mg "list" = none
  b_zip:mg "zip" = none
  b_enumerate:mg "enumerate" = none
  b_reversed:mg "reversed" = none
  b_isinstance:mg "isinstance" = none
  b_bool:mg "bool" = none
  b_tuple:mg "tuple" = none
  g_LEVELS:∃ t,mg "LEVELS" = some (.int 250 t)
noncomputable abbrev s_law_cell_at:Stmt:=top 23
theorem sc_law_cell_at:FnScope ["script","k"] ["script","k"] (defScope s_law_cell_at):=⟨rfl,rfl,rfl,by decide +kernel,rfl,by decide +kernel,by decide +kernel⟩
noncomputable abbrev s_law_mixed:Stmt:=top 24
theorem sc_law_mixed:FnScope ["cell","k","found"] ["cell","k"] (defScope s_law_mixed):=⟨rfl,rfl,rfl,by decide +kernel,rfl,by decide +kernel,by decide +kernel⟩
noncomputable abbrev s_law_rate:Stmt:=top 25
theorem sc_law_rate:FnScope ["script","number","k","most"] ["script","number","k"] (defScope s_law_rate):=⟨rfl,rfl,rfl,by decide +kernel,rfl,by decide +kernel,by decide +kernel⟩
noncomputable abbrev s_law_works:Stmt:=top 26
theorem sc_law_works:FnScope ["script","first","gap","base","hots","k","number","low","high","colds"] ["script"] (defScope s_law_works):=⟨rfl,rfl,rfl,by decide +kernel,rfl,by decide +kernel,by decide +kernel⟩
noncomputable abbrev s_law_steps:Stmt:=top 27
theorem sc_law_steps:FnScope ["works","hots","k","at","colds","into"] ["works"] (defScope s_law_steps):=⟨rfl,rfl,rfl,by decide +kernel,rfl,by decide +kernel,by decide +kernel⟩
noncomputable abbrev s_law_needs:Stmt:=top 28
theorem sc_law_needs:FnScope ["works","script","hots","colds","count","giver","at","taker","into","most","number","much","heat"] ["works","script"] (defScope s_law_needs):=⟨rfl,rfl,rfl,by decide +kernel,rfl,by decide +kernel,by decide +kernel⟩
noncomputable abbrev s_law_offers:Stmt:=top 29
theorem sc_law_offers:FnScope ["script","k","last","offers","j","number","degree","most"] ["script","k","last"] (defScope s_law_offers):=⟨rfl,rfl,rfl,by decide +kernel,rfl,by decide +kernel,by decide +kernel⟩
noncomputable abbrev s_law_shop:Stmt:=top 30
theorem sc_law_shop:FnScope ["works","script","heat","cold","fires","waters","bought","k","able","slack"] ["works","script"] (defScope s_law_shop):=⟨rfl,rfl,rfl,by decide +kernel,rfl,by decide +kernel,by decide +kernel⟩
noncomputable abbrev s_heat_above:Stmt:=top 6
theorem sc_heat_above:FnScope ["bands","level"] ["bands","level"] (defScope s_heat_above):=⟨rfl,rfl,rfl,by decide +kernel,rfl,by decide +kernel,by decide +kernel⟩
noncomputable abbrev s_cold_bands:Stmt:=top 5
theorem sc_cold_bands:FnScope ["works","gap"] ["works"] (defScope s_cold_bands):=⟨rfl,rfl,rfl,by decide +kernel,rfl,by decide +kernel,by decide +kernel⟩
noncomputable abbrev s_hot_bands:Stmt:=top 4
theorem sc_hot_bands:FnScope ["works"] ["works"] (defScope s_hot_bands):=⟨rfl,rfl,rfl,by decide +kernel,rfl,by decide +kernel,by decide +kernel⟩
noncomputable abbrev s_lack_above:Stmt:=top 2
theorem sc_lack_above:FnScope ["works","level"] ["works","level"] (defScope s_lack_above):=⟨rfl,rfl,rfl,by decide +kernel,rfl,by decide +kernel,by decide +kernel⟩
noncomputable abbrev s_lacks_above:Stmt:=top 3
theorem sc_lacks_above:FnScope ["works"] ["works"] (defScope s_lacks_above):=⟨rfl,rfl,rfl,by decide +kernel,rfl,by decide +kernel,by decide +kernel⟩
noncomputable abbrev s_fire_levels:Stmt:=top 13
theorem sc_fire_levels:FnScope ["shop"] ["shop"] (defScope s_fire_levels):=⟨rfl,rfl,rfl,by decide +kernel,rfl,by decide +kernel,by decide +kernel⟩
noncomputable abbrev s_water_levels:Stmt:=top 14
theorem sc_water_levels:FnScope ["works","shop"] ["works","shop"] (defScope s_water_levels):=⟨rfl,rfl,rfl,by decide +kernel,rfl,by decide +kernel,by decide +kernel⟩
noncomputable abbrev s_amount_above:Stmt:=top 12
theorem sc_amount_above:FnScope ["bought","level"] ["bought","level"] (defScope s_amount_above):=⟨rfl,rfl,rfl,by decide +kernel,rfl,by decide +kernel,by decide +kernel⟩
noncomputable abbrev s_surpluses_above:Stmt:=top 11
theorem sc_surpluses_above:FnScope ["works","shop","buying","fires","waters","lacks"] ["works","shop","buying"] (defScope s_surpluses_above):=⟨rfl,rfl,rfl,by decide +kernel,rfl,by decide +kernel,by decide +kernel⟩
noncomputable abbrev s_mosts:Stmt:=top 15
theorem sc_mosts:FnScope ["offers"] ["offers"] (defScope s_mosts):=⟨rfl,rfl,rfl,by decide +kernel,rfl,by decide +kernel,by decide +kernel⟩
noncomputable abbrev s_nothing:Stmt:=top 16
theorem sc_nothing:FnScope ["offers"] ["offers"] (defScope s_nothing):=⟨rfl,rfl,rfl,by decide +kernel,rfl,by decide +kernel,by decide +kernel⟩
noncomputable abbrev s_shortage:Stmt:=top 17
theorem sc_shortage:FnScope ["works","shop","warmest","coldest","level"] ["works","shop"] (defScope s_shortage):=⟨rfl,rfl,rfl,by decide +kernel,rfl,by decide +kernel,by decide +kernel⟩
noncomputable abbrev s_lots_of:Stmt:=top 18
theorem sc_lots_of:FnScope ["works","shop","fires","waters"] ["works","shop"] (defScope s_lots_of):=⟨rfl,rfl,rfl,by decide +kernel,rfl,by decide +kernel,by decide +kernel⟩
noncomputable abbrev s_drawn_of:Stmt:=top 20
theorem sc_drawn_of:FnScope ["lots","surpluses","drawn","by_price","level","need","number","lot","heat"] ["lots","surpluses"] (defScope s_drawn_of):=⟨rfl,rfl,rfl,by decide +kernel,rfl,by decide +kernel,by decide +kernel⟩
noncomputable abbrev s_buying_of:Stmt:=top 19
theorem sc_buying_of:FnScope ["shop","drawn","count","waters"] ["shop","drawn"] (defScope s_buying_of):=⟨rfl,rfl,rfl,by decide +kernel,rfl,by decide +kernel,by decide +kernel⟩
noncomputable abbrev s_worths_of:Stmt:=top 21
theorem sc_worths_of:FnScope ["lots","drawn","surpluses","least","worths","highest","level","prices"] ["lots","drawn","surpluses"] (defScope s_worths_of):=⟨rfl,rfl,rfl,by decide +kernel,rfl,by decide +kernel,by decide +kernel⟩
noncomputable abbrev s_price_of:Stmt:=top 9
theorem sc_price_of:FnScope ["shop","buying","fires","waters"] ["shop","buying"] (defScope s_price_of):=⟨rfl,rfl,rfl,by decide +kernel,rfl,by decide +kernel,by decide +kernel⟩
noncomputable abbrev s_cheapest:Stmt:=top 10
theorem sc_cheapest:FnScope ["works","shop","short","lots","drawn","buying","worths"] ["works","shop"] (defScope s_cheapest):=⟨rfl,rfl,rfl,by decide +kernel,rfl,by decide +kernel,by decide +kernel⟩
noncomputable abbrev s_law_down:Stmt:=top 31
theorem sc_law_down:FnScope ["works","shop","buying","flows","start","goal","rate","level","offer","much"] ["works","shop","buying"] (defScope s_law_down):=⟨rfl,rfl,rfl,by decide +kernel,rfl,by decide +kernel,by decide +kernel⟩
noncomputable abbrev s_law_whole:Stmt:=top 32
theorem sc_law_whole:FnScope ["found"] ["found"] (defScope s_law_whole):=⟨rfl,rfl,rfl,by decide +kernel,rfl,by decide +kernel,by decide +kernel⟩
noncomputable abbrev s_law_fits:Stmt:=top 34
theorem sc_law_fits:FnScope ["price","much","most","worth"] ["price","much","most","worth"] (defScope s_law_fits):=⟨rfl,rfl,rfl,by decide +kernel,rfl,by decide +kernel,by decide +kernel⟩
noncomputable abbrev s_law_worths:Stmt:=top 35
theorem sc_law_worths:FnScope ["works","shop","buying","flows","worths","level","offer","much"] ["works","shop","buying","flows","worths"] (defScope s_law_worths):=⟨rfl,rfl,rfl,by decide +kernel,rfl,by decide +kernel,by decide +kernel⟩
noncomputable abbrev s_will_do:Stmt:=top 8
theorem sc_will_do:FnScope ["works","shop","buying","surpluses"] ["works","shop","buying"] (defScope s_will_do):=⟨rfl,rfl,rfl,by decide +kernel,rfl,by decide +kernel,by decide +kernel⟩
noncomputable abbrev s_law_price:Stmt:=top 36
theorem sc_law_price:FnScope ["shop","buying","total","offers","some"] ["shop","buying"] (defScope s_law_price):=⟨rfl,rfl,rfl,by decide +kernel,rfl,by decide +kernel,by decide +kernel⟩
noncomputable abbrev s_law_amounts:Stmt:=top 33
theorem sc_law_amounts:FnScope ["found","offers","much","offer"] ["found","offers"] (defScope s_law_amounts):=⟨rfl,rfl,rfl,by decide +kernel,rfl,by decide +kernel,by decide +kernel⟩
noncomputable abbrev s_law:Stmt:=top 37
theorem sc_law:FnScope ["script","works","shop","drawn","found","buying","flows"] ["script"] (defScope s_law):=⟨rfl,rfl,rfl,by decide +kernel,rfl,by decide +kernel,by decide +kernel⟩
noncomputable abbrev qnL:Str:="drawn_of" ++ ".<locals>." ++ "<lambda>"
section
variable {Pt:Addr} {P:Program} {w:World} {K:PySem.W.Frag} {mg:Str→Option Value} {base:Heap} {f:Addr} {fd:FuncData}
theorem mulR {i j:Int} (h : -(2 ^ 64) < j∧j < 2 ^ 64) : CMul i j:=.inr h
theorem mulL {i j:Int} (h : -(2 ^ 64) < i∧i < 2 ^ 64) : CMul i j:=.inl h
noncomputable def d3 (x:S3) : D:=.tup [.int x.1,.int x.2.1,.int x.2.2]
noncomputable def dW (g:Int) (hs cs:List S3) : D:=.tup [.int g,.lst (hs.map d3),.lst (cs.map d3)]
structure WksOk (g:Int) (hs cs:List S3) : Prop where
  g0:0 ≤ g
  g1:g ≤ 50
  nh:hs.length ≤ 12
  nc:cs.length ≤ 12
  hot:∀ x ∈ hs,HotOk x
  cold:∀ x ∈ cs,ColdOk x
theorem mapE {α β:Type} {f g:α→β} {l:List α} (h:∀ x ∈ l,f x = g x) : l.map f = l.map g:=List.map_congr_left h
noncomputable def r_hot_bands:DR:=fun ds P=>∃ g hs cs,ds = [dW g hs cs]∧hs.length ≤ 12∧P (.o (.lst ((hotB hs).map d3)))
theorem ok_hot_bands (T:Blt mg) (F:Fun K "hot_bands" "hot_bands" s_hot_bands f fd) : FnOk P w K mg base CX0 1 f fd ["works"] (spD K r_hot_bands):=by
  refine okD F sc_hot_bands (fun ds Q h=>by obtain ⟨g,hs,cs,rfl,hl,q⟩:=h; rfl) fun cdv A outer s H E hr=>⟨_,(dss_one (ds_ret (de_lc (g:=(.t [0,1,2])) (tc:=dTrue) (te:=(dTup (dCons (dVar 1) (dCons (dVar 0) (dCons (dVar 2) dNil))))) (sc0:=defScope s_hot_bands) (N0:=["works"]) ["start","goal","rate"] [none,none,none] rfl (di_list (de_ix (dv 0) de_int)) (fun _ _ _ _ _=>(pg_seq rfl (pgs_cons (pg_name (i:=0) (show (["start","goal","rate"] : List Str).Nodup by decide +kernel) rfl (Or.inl rfl)) (pgs_cons (pg_name (i:=1) (show (["start","goal","rate"] : List Str).Nodup by decide +kernel) rfl (Or.inl rfl)) (pgs_cons (pg_name (i:=2) (show (["start","goal","rate"] : List Str).Nodup by decide +kernel) rfl (Or.inl rfl)) pgs_nil))))) (fun _ _ _ _ _=>difs_nil) (fun _ _ _ _ _=>(de_tup (da_cons (dv 1) (da_cons (dv 0) (da_cons (dv 2) da_nil)))))))),fun ds Q h=>?_⟩
  obtain ⟨g,hs,cs,rfl,hl,q⟩:=h
  try dsimp only [dSeq,dNext,dRet,dRetN,dRetO,dIfS,dSet,dSetP,dSetF,dSetD,dSetDP,dAug,dAsg,dApp,dAppF,dSetIx,dSetIxF,dAugIx,dDrop,dFor,dForD,dForS,dVar,dC,dOp,dI,dIC,dEqS,dNeS,dIsN,dNotN,dUn,dNeg,dNotV,dAndV,dOrV,dTst,dNot,dAnd,dOr,dIfE,dChain,dNil,dCons,dTup,dLst,dCall,dCB,dLen,dII,dAbs,dInt,dCopy,dIx,dNoPart,dPart,dSl,dSlS,dAdd,dMul,dIsi,dTrue,dget,dput,frz,frz1,B.val,startD,Tg.d,putN,diList,diTup,diRng1,diRng2,diRevr1,di_enumerateT,di_zipT,di_reversedT,onlyP,frD,dLC,List.map,List.length,dW]
  refine ⟨_,rfl,?_⟩
  refine lc_map (fun x=>match x with | .tup [a,b,c]=>.tup [b,a,c] | d=>d) (by rw [List.length_map]; lia) (fun x hx=>?_) ?_
  · obtain ⟨y,hy,rfl⟩:=List.mem_map.mp hx
    rfl
  · rw [List.map_map]
    unfold hotB at q
    rw [List.map_map] at q
    exact q
noncomputable def r_cold_bands:DR:=fun ds P=>∃ g hs cs,ds = [dW g hs cs]∧cs.length ≤ 12∧P (.o (.lst ((coldB g cs).map d3)))
theorem ok_cold_bands (T:Blt mg) (F:Fun K "cold_bands" "cold_bands" s_cold_bands f fd) : FnOk P w K mg base CX0 1 f fd ["works"] (spD K r_cold_bands):=by
  refine okD F sc_cold_bands (fun ds Q h=>by obtain ⟨g,hs,cs,rfl,hl,q⟩:=h; rfl) fun cdv A outer s H E hr=>⟨_,(dss_cons (ds_setP (i:=1) sc_cold_bands.nd rfl (Or.inr rfl) (de_ix (dv 0) de_int))
      (dss_one (ds_ret (de_lc (g:=(.t [0,1,2])) (tc:=dTrue) (te:=(dTup (dCons (dOp _ (dVar 0) (dVar 3)) (dCons (dOp _ (dVar 1) (dVar 3)) (dCons (dVar 2) dNil))))) (sc0:=defScope s_cold_bands) (N0:=["works","gap"]) ["start","goal","rate","gap"] [none,none,none,some 1] rfl (di_list (de_ix (dv 0) de_int)) (fun _ _ _ _ _=>(pg_seq rfl (pgs_cons (pg_name (i:=0) (show (["start","goal","rate","gap"] : List Str).Nodup by decide +kernel) rfl (Or.inl rfl)) (pgs_cons (pg_name (i:=1) (show (["start","goal","rate","gap"] : List Str).Nodup by decide +kernel) rfl (Or.inl rfl)) (pgs_cons (pg_name (i:=2) (show (["start","goal","rate","gap"] : List Str).Nodup by decide +kernel) rfl (Or.inl rfl)) pgs_nil))))) (fun _ _ _ _ _=>difs_nil) (fun _ _ _ _ _=>(de_tup (da_cons (de_op od_plus (dv 0) (dv 3)) (da_cons (de_op od_plus (dv 1) (dv 3)) (da_cons (dv 2) da_nil))))))))),fun ds Q h=>?_⟩
  obtain ⟨g,hs,cs,rfl,hl,q⟩:=h
  try dsimp only [dSeq,dNext,dRet,dRetN,dRetO,dIfS,dSet,dSetP,dSetF,dSetD,dSetDP,dAug,dAsg,dApp,dAppF,dSetIx,dSetIxF,dAugIx,dDrop,dFor,dForD,dForS,dVar,dC,dOp,dI,dIC,dEqS,dNeS,dIsN,dNotN,dUn,dNeg,dNotV,dAndV,dOrV,dTst,dNot,dAnd,dOr,dIfE,dChain,dNil,dCons,dTup,dLst,dCall,dCB,dLen,dII,dAbs,dInt,dCopy,dIx,dNoPart,dPart,dSl,dSlS,dAdd,dMul,dIsi,dTrue,dget,dput,frz,frz1,B.val,startD,Tg.d,putN,diList,diTup,diRng1,diRng2,diRevr1,di_enumerateT,di_zipT,di_reversedT,onlyP,frD,dLC,List.map,List.length,dW]
  refine ⟨_,rfl,_,rfl,?_⟩
  refine lc_map (fun x=>match x with | .tup [.int a,.int b,c]=>.tup [.int (a + g),.int (b + g),c] | d=>d) (by rw [List.length_map]; lia) (fun x hx=>?_) ?_
  · obtain ⟨y,hy,rfl⟩:=List.mem_map.mp hx
    rfl
  · rw [List.map_map]
    unfold coldB at q
    rw [List.map_map] at q
    exact q
noncomputable def r_heat_above:DR:=fun ds P=>∃ (bs:List S3) (L:Int),ds = [.lst (bs.map d3),.int L]∧bs.length ≤ 12∧(∀ b ∈ bs,0 ≤ b.2.2∧b.2.2 ≤ 1000000000)∧P (.p (.int (above bs L)))
theorem ok_heat_above (T:Blt mg) (F:Fun K "heat_above" "heat_above" s_heat_above f fd) : FnOk P w K mg base CX0 1 f fd ["bands","level"] (spD K r_heat_above):=by
  refine okD F sc_heat_above (fun ds Q h=>by obtain ⟨bs,L,rfl,hl,hb,q⟩:=h; rfl) fun cdv A outer s H E hr=>⟨_,(dss_one (ds_ret (de_callB (cd_sum rfl) (by rfl) T.b_sum PyProof.Rows.boot_sum (da_cons (de_lc (g:=(.t [0,1,2])) (tc:=dTrue) (te:=(dOp _ (dVar 2) (dCB _ (dCons (dC _) (dCons (dOp _ (dVar 1) (dCB _ (dCons (dVar 0) (dCons (dVar 3) dNil)))) dNil))))) (sc0:=defScope s_heat_above) (N0:=["bands","level"]) ["low","high","rate","level"] [none,none,none,some 1] rfl (di_list (dv 0)) (fun _ _ _ _ _=>(pg_seq rfl (pgs_cons (pg_name (i:=0) (show (["low","high","rate","level"] : List Str).Nodup by decide +kernel) rfl (Or.inl rfl)) (pgs_cons (pg_name (i:=1) (show (["low","high","rate","level"] : List Str).Nodup by decide +kernel) rfl (Or.inl rfl)) (pgs_cons (pg_name (i:=2) (show (["low","high","rate","level"] : List Str).Nodup by decide +kernel) rfl (Or.inl rfl)) pgs_nil))))) (fun _ _ _ _ _=>difs_nil) (fun _ _ _ _ _=>(de_op od_times (dv 2) (de_callB (cd_max2 rfl) (by rfl) T.b_max PyProof.Rows.boot_max (da_cons de_int (da_cons (de_op od_sub (dv 1) (de_callB (cd_max2 rfl) (by rfl) T.b_max PyProof.Rows.boot_max (da_cons (dv 0) (da_cons (dv 3) da_nil)))) da_nil)))))) da_nil)))),fun ds Q h=>?_⟩
  obtain ⟨bs,L,rfl,hl,hb,q⟩:=h
  try dsimp only [dSeq,dNext,dRet,dRetN,dRetO,dIfS,dSet,dSetP,dSetF,dSetD,dSetDP,dAug,dAsg,dApp,dAppF,dSetIx,dSetIxF,dAugIx,dDrop,dFor,dForD,dForS,dVar,dC,dOp,dI,dIC,dEqS,dNeS,dIsN,dNotN,dUn,dNeg,dNotV,dAndV,dOrV,dTst,dNot,dAnd,dOr,dIfE,dChain,dNil,dCons,dTup,dLst,dCall,dCB,dLen,dII,dAbs,dInt,dCopy,dIx,dNoPart,dPart,dSl,dSlS,dAdd,dMul,dIsi,dTrue,dget,dput,frz,frz1,B.val,startD,Tg.d,putN,diList,diTup,diRng1,diRng2,diRevr1,di_enumerateT,di_zipT,di_reversedT,onlyP,frD,dLC,List.map,List.length]
  refine lc_map (fun x=>match x with | .tup [.int a,.int b,.int c]=>.int (above1 (a,b,c) L) | d=>d) (by rw [List.length_map]; lia) (fun x hx=>?_) ?_
  · obtain ⟨y,hy,rfl⟩:=List.mem_map.mp hx
    have:=hb y hy
    try dsimp only [dSeq,dNext,dRet,dRetN,dRetO,dIfS,dSet,dSetP,dSetF,dSetD,dSetDP,dAug,dAsg,dApp,dAppF,dSetIx,dSetIxF,dAugIx,dDrop,dFor,dForD,dForS,dVar,dC,dOp,dI,dIC,dEqS,dNeS,dIsN,dNotN,dUn,dNeg,dNotV,dAndV,dOrV,dTst,dNot,dAnd,dOr,dIfE,dChain,dNil,dCons,dTup,dLst,dCall,dCB,dLen,dII,dAbs,dInt,dCopy,dIx,dNoPart,dPart,dSl,dSlS,dAdd,dMul,dIsi,dTrue,dget,dput,frz,frz1,B.val,startD,Tg.d,putN,diList,diTup,diRng1,diRng2,diRevr1,di_enumerateT,di_zipT,di_reversedT,onlyP,frD,dLC,List.map,List.length,d3]
    exact ⟨mulL ⟨by lia,by lia⟩,rfl⟩
  · rw [List.map_map]
    have e:List.map ((fun x=>match x with | .tup [.int a,.int b,.int c]=>.int (above1 (a,b,c) L) | d=>d) ∘ d3) bs = (bs.map fun b=>above1 b L).map D.int:=by
      rw [List.map_map]
      exact mapE fun y _=>rfl
    rw [e]
    exact dSum_mk q
theorem WksOk.hotR {g:Int} {hs cs:List S3} (o:WksOk g hs cs) : ∀ b ∈ hotB hs,0 ≤ b.2.2∧b.2.2 ≤ 1000000000:=fun b hb=>by
  obtain ⟨x,hx,rfl⟩:=List.mem_map.mp hb
  have h:=o.hot x hx
  exact ⟨by have:=h.r0; show 0 ≤ x.2.2; lia,h.r1⟩
theorem WksOk.coldR {g:Int} {hs cs:List S3} (o:WksOk g hs cs) : ∀ b ∈ coldB g cs,0 ≤ b.2.2∧b.2.2 ≤ 1000000000:=fun b hb=>by
  obtain ⟨x,hx,rfl⟩:=List.mem_map.mp hb
  have h:=o.cold x hx
  exact ⟨by have:=h.r0; show 0 ≤ x.2.2; lia,h.r1⟩
theorem hotB_len (hs:List S3) : (hotB hs).length = hs.length:=by unfold hotB; simp
theorem coldB_len (g:Int) (cs:List S3) : (coldB g cs).length = cs.length:=by unfold coldB; simp
noncomputable def r_lack_above:DR:=fun ds P=>∃ g hs cs L,ds = [dW g hs cs,.int L]∧WksOk g hs cs∧P (.p (.int (lackF g hs cs L)))
theorem ok_lack_above (T:Blt mg) (F_heat_above:Fn P w K mg base "heat_above" 1 ["bands","level"] (spD K r_heat_above)) (F_cold_bands:Fn P w K mg base "cold_bands" 1 ["works"] (spD K r_cold_bands)) (F_hot_bands:Fn P w K mg base "hot_bands" 1 ["works"] (spD K r_hot_bands)) (F:Fun K "lack_above" "lack_above" s_lack_above f fd) : FnOk P w K mg base CX0 2 f fd ["works","level"] (spD K r_lack_above):=by
  refine okD F sc_lack_above (fun ds Q h=>by obtain ⟨g,hs,cs,L,rfl,ok,q⟩:=h; rfl) fun cdv A outer s H E hr=>⟨_,(dss_one (ds_ret (de_op od_sub (de_fn F_heat_above (hr.mono (by decide)) (by rfl) (da_cons (de_fn F_cold_bands (hr.mono (by decide)) (by rfl) (da_cons (dv 0) da_nil)) (da_cons (dv 1) da_nil))) (de_fn F_heat_above (hr.mono (by decide)) (by rfl) (da_cons (de_fn F_hot_bands (hr.mono (by decide)) (by rfl) (da_cons (dv 0) da_nil)) (da_cons (dv 1) da_nil)))))),fun ds Q h=>?_⟩
  obtain ⟨g,hs,cs,L,rfl,ok,q⟩:=h
  try dsimp only [dSeq,dNext,dRet,dRetN,dRetO,dIfS,dSet,dSetP,dSetF,dSetD,dSetDP,dAug,dAsg,dApp,dAppF,dSetIx,dSetIxF,dAugIx,dDrop,dFor,dForD,dForS,dVar,dC,dOp,dI,dIC,dEqS,dNeS,dIsN,dNotN,dUn,dNeg,dNotV,dAndV,dOrV,dTst,dNot,dAnd,dOr,dIfE,dChain,dNil,dCons,dTup,dLst,dCall,dCB,dLen,dII,dAbs,dInt,dCopy,dIx,dNoPart,dPart,dSl,dSlS,dAdd,dMul,dIsi,dTrue,dget,dput,frz,frz1,B.val,startD,Tg.d,putN,diList,diTup,diRng1,diRng2,diRevr1,di_enumerateT,di_zipT,di_reversedT,onlyP,frD,dLC,List.map,List.length]
  refine ⟨g,hs,cs,rfl,ok.nc,?_⟩
  try dsimp only [dSeq,dNext,dRet,dRetN,dRetO,dIfS,dSet,dSetP,dSetF,dSetD,dSetDP,dAug,dAsg,dApp,dAppF,dSetIx,dSetIxF,dAugIx,dDrop,dFor,dForD,dForS,dVar,dC,dOp,dI,dIC,dEqS,dNeS,dIsN,dNotN,dUn,dNeg,dNotV,dAndV,dOrV,dTst,dNot,dAnd,dOr,dIfE,dChain,dNil,dCons,dTup,dLst,dCall,dCB,dLen,dII,dAbs,dInt,dCopy,dIx,dNoPart,dPart,dSl,dSlS,dAdd,dMul,dIsi,dTrue,dget,dput,frz,frz1,B.val,startD,Tg.d,putN,diList,diTup,diRng1,diRng2,diRevr1,di_enumerateT,di_zipT,di_reversedT,onlyP,frD,dLC,List.map,List.length]
  refine ⟨_,L,rfl,by rw [coldB_len]; exact ok.nc,ok.coldR,g,hs,cs,rfl,ok.nh,?_⟩
  try dsimp only [dSeq,dNext,dRet,dRetN,dRetO,dIfS,dSet,dSetP,dSetF,dSetD,dSetDP,dAug,dAsg,dApp,dAppF,dSetIx,dSetIxF,dAugIx,dDrop,dFor,dForD,dForS,dVar,dC,dOp,dI,dIC,dEqS,dNeS,dIsN,dNotN,dUn,dNeg,dNotV,dAndV,dOrV,dTst,dNot,dAnd,dOr,dIfE,dChain,dNil,dCons,dTup,dLst,dCall,dCB,dLen,dII,dAbs,dInt,dCopy,dIx,dNoPart,dPart,dSl,dSlS,dAdd,dMul,dIsi,dTrue,dget,dput,frz,frz1,B.val,startD,Tg.d,putN,diList,diTup,diRng1,diRng2,diRevr1,di_enumerateT,di_zipT,di_reversedT,onlyP,frD,dLC,List.map,List.length]
  exact ⟨_,L,rfl,by rw [hotB_len]; exact ok.nh,ok.hotR,q⟩
noncomputable def lacksL (g:Int) (hs cs:List S3) : List Int:=(List.range 251).map fun i=>lackF g hs cs (i:Nat)
noncomputable def r_lacks_above:DR:=fun ds P=>∃ g hs cs,ds = [dW g hs cs]∧WksOk g hs cs∧P (.o (.lst ((lacksL g hs cs).map D.int)))
theorem ok_lacks_above (T:Blt mg) (F_lack_above:Fn P w K mg base "lack_above" 2 ["works","level"] (spD K r_lack_above)) (F:Fun K "lacks_above" "lacks_above" s_lacks_above f fd) : FnOk P w K mg base CX0 3 f fd ["works"] (spD K r_lacks_above):=by
  refine okD F sc_lacks_above (fun ds Q h=>by obtain ⟨g,hs,cs,rfl,ok,q⟩:=h; rfl) fun cdv A outer s H E hr=>⟨_,(dss_one (ds_ret (de_lc (g:=(.n 0)) (tc:=dTrue) (te:=(dCall _ (dCons (dVar 1) (dCons (dVar 0) dNil)))) (sc0:=defScope s_lacks_above) (N0:=["works"]) ["level","works"] [none,some 0] rfl (dis_rng1 (by rfl) T.b_range (da_cons (de_op od_plus (de_gI (by rfl) T.g_LEVELS) de_int) da_nil)).di (fun _ _ _ _ _=>(pg_name (i:=0) (show (["level","works"] : List Str).Nodup by decide +kernel) rfl (Or.inl rfl))) (fun _ _ _ _ _=>difs_nil) (fun _ _ _ _ _=>(de_fn F_lack_above (hr.mono (by decide)) (by rfl) (da_cons (dv 1) (da_cons (dv 0) da_nil))))))),fun ds Q h=>?_⟩
  obtain ⟨g,hs,cs,rfl,ok,q⟩:=h
  try dsimp only [dSeq,dNext,dRet,dRetN,dRetO,dIfS,dSet,dSetP,dSetF,dSetD,dSetDP,dAug,dAsg,dApp,dAppF,dSetIx,dSetIxF,dAugIx,dDrop,dFor,dForD,dForS,dVar,dC,dOp,dI,dIC,dEqS,dNeS,dIsN,dNotN,dUn,dNeg,dNotV,dAndV,dOrV,dTst,dNot,dAnd,dOr,dIfE,dChain,dNil,dCons,dTup,dLst,dCall,dCB,dLen,dII,dAbs,dInt,dCopy,dIx,dNoPart,dPart,dSl,dSlS,dAdd,dMul,dIsi,dTrue,dget,dput,frz,frz1,B.val,startD,Tg.d,putN,diList,diTup,diRng1,diRng2,diRevr1,di_enumerateT,di_zipT,di_reversedT,onlyP,frD,dLC,List.map,List.length]
  refine ⟨by decide,?_⟩
  refine lc_map (fun x=>match x with | .int L=>.int (lackF g hs cs L) | d=>d) (by rw [upFrom_len]; decide) (fun x hx=>?_) ?_
  · obtain ⟨i,hi,rfl⟩:=mem_upFrom hx
    exact ⟨g,hs,cs,_,rfl,ok,rfl⟩
  · have e:List.map (fun x=>match x with | D.int L=>D.int (lackF g hs cs L) | d=>d) (upFrom 0 (Int.toNat (250 + 1))) = (lacksL g hs cs).map D.int:=by
      unfold upFrom lacksL
      rw [List.map_map,List.map_map]
      refine mapE fun i _=>?_
      show D.int (lackF g hs cs (0 + (i:Nat))) = D.int (lackF g hs cs (i:Nat))
      rw [Int.zero_add]
    rw [e]
    exact q
noncomputable def dO (x:S3) : D:=.tup [.int x.1,.int x.2.1,.int x.2.2]
noncomputable def dS (fs ws:List S3) : D:=.tup [.lst (fs.map dO),.lst (ws.map dO)]
noncomputable def pk3 (a b c i:Int) : Int:=if i = 0 then a else if i = 1 then b else c
noncomputable def pk4 (a b c d i:Int) : Int:=if i = 0 then a else if i = 1 then b else if i = 2 then c else d
theorem pk3_at {a b c i:Int} (h0:0 ≤ i) (h1:i < 3) : atI [D.int a,D.int b,D.int c] i = some (.int (pk3 a b c i)):=by
  have:i = 0 ∨ i = 1 ∨ i = 2:=by lia
  rcases this with e | e | e <;> subst e <;> rfl
theorem pk4_at {a b c d i:Int} (h0:0 ≤ i) (h1:i < 4) : atI [D.int a,D.int b,D.int c,D.int d] i = some (.int (pk4 a b c d i)):=by
  have:i = 0 ∨ i = 1 ∨ i = 2 ∨ i = 3:=by lia
  rcases this with e | e | e | e <;> subst e <;> rfl
noncomputable def dA (as:List Int) : D:=.lst (as.map D.int)
noncomputable def priceF (os:List S3) (as:List Int) : Int:=((os.zip as).map fun x=>x.1.2.1 * x.2).sum
noncomputable def r_price_of:DR:=fun ds P=>∃ fs ws as bs,ds = [dS fs ws,.tup [dA as,dA bs]]∧fs.length ≤ 900∧ws.length ≤ 900∧as.length = fs.length∧bs.length = ws.length∧(∀ x ∈ fs ++ ws,0 ≤ x.2.1∧x.2.1 ≤ 1000000)∧P (.p (.int (priceF fs as + priceF ws bs)))
theorem ok_price_of (T:Blt mg) (F:Fun K "price_of" "price_of" s_price_of f fd) : FnOk P w K mg base CX0 1 f fd ["shop","buying"] (spD K r_price_of):=by
  refine okD F sc_price_of (fun ds Q h=>by obtain ⟨fs,ws,as,bs,rfl,nf,nw,la,lb,hp,q⟩:=h; rfl) fun cdv A outer s H E hr=>⟨_,(dss_cons (ds_setLCP (i:=2) sc_price_of.nd rfl (Or.inl rfl) (g:=(.t [0,1])) (tc:=dTrue) (te:=(dOp _ (dOp dIx (dVar 0) (dC _)) (dVar 1))) (sc0:=defScope s_price_of) (N0:=["shop","buying","fires","waters"]) ["offer","amount"] [none,none] rfl (di_zip (by rfl) T.b_zip (da_cons (de_ix (dv 0) de_int) (da_cons (de_ix (dv 1) de_int) da_nil))) (fun _ _ _ _ _=>(pg_seq rfl (pgs_cons (pg_name (i:=0) (show (["offer","amount"] : List Str).Nodup by decide +kernel) rfl (Or.inl rfl)) (pgs_cons (pg_name (i:=1) (show (["offer","amount"] : List Str).Nodup by decide +kernel) rfl (Or.inl rfl)) pgs_nil)))) (fun _ _ _ _ _=>difs_nil) (fun _ _ _ _ _=>(de_op od_times (de_ix (dv 0) de_int) (dv 1))))
      (dss_cons (ds_setLCP (i:=3) sc_price_of.nd rfl (Or.inl rfl) (g:=(.t [0,1])) (tc:=dTrue) (te:=(dOp _ (dOp dIx (dVar 0) (dC _)) (dVar 1))) (sc0:=defScope s_price_of) (N0:=["shop","buying","fires","waters"]) ["offer","amount"] [none,none] rfl (di_zip (by rfl) T.b_zip (da_cons (de_ix (dv 0) de_int) (da_cons (de_ix (dv 1) de_int) da_nil))) (fun _ _ _ _ _=>(pg_seq rfl (pgs_cons (pg_name (i:=0) (show (["offer","amount"] : List Str).Nodup by decide +kernel) rfl (Or.inl rfl)) (pgs_cons (pg_name (i:=1) (show (["offer","amount"] : List Str).Nodup by decide +kernel) rfl (Or.inl rfl)) pgs_nil)))) (fun _ _ _ _ _=>difs_nil) (fun _ _ _ _ _=>(de_op od_times (de_ix (dv 0) de_int) (dv 1))))
      (dss_one (ds_ret (de_op od_plus (de_callB (cd_sum rfl) (by rfl) T.b_sum PyProof.Rows.boot_sum (da_cons (dv 2) da_nil)) (de_callB (cd_sum rfl) (by rfl) T.b_sum PyProof.Rows.boot_sum (da_cons (dv 3) da_nil))))))),fun ds Q h=>?_⟩
  obtain ⟨fs,ws,as,bs,rfl,nf,nw,la,lb,hp,q⟩:=h
  try dsimp only [dSeq,dNext,dRet,dRetN,dRetO,dIfS,dSet,dSetP,dSetF,dSetD,dSetDP,dAug,dAsg,dApp,dAppF,dSetIx,dSetIxF,dAugIx,dDrop,dFor,dForD,dForS,dVar,dC,dOp,dI,dIC,dEqS,dNeS,dIsN,dNotN,dUn,dNeg,dNotV,dAndV,dOrV,dTst,dNot,dAnd,dOr,dIfE,dChain,dNil,dCons,dTup,dLst,dCall,dCB,dLen,dII,dAbs,dInt,dCopy,dIx,dNoPart,dPart,dSl,dSlS,dAdd,dMul,dIsi,dTrue,dget,dput,frz,frz1,B.val,startD,Tg.d,putN,diList,diTup,diRng1,diRng2,diRevr1,di_enumerateT,di_zipT,di_reversedT,onlyP,frD,dLC,List.map,List.length,dS,dA]
  refine ⟨_,rfl,_,rfl,?_⟩
  dsimp only
  rw [zipD_map]
  have hz:∀ (os:List S3) (cs:List Int),os.length ≤ 900→(os.zip cs).length ≤ 1000000:=fun os cs h=>by rw [List.length_zip]; lia
  have hm:∀ p ∈ fs.zip as,0 ≤ p.1.2.1∧p.1.2.1 ≤ 1000000:=fun p h=>hp _ (List.mem_append_left _ (List.of_mem_zip h).1)
  have hm2:∀ p ∈ ws.zip bs,0 ≤ p.1.2.1∧p.1.2.1 ≤ 1000000:=fun p h=>hp _ (List.mem_append_right _ (List.of_mem_zip h).1)
  refine lc_mapE (fun d=>match d with | .tup [.tup [_,.int p,_],.int a]=>.int (p * a) | d=>d) (fun x=>.int (x.1.2.1 * x.2)) (fun _ _=>rfl) (hz _ _ nf) (fun x hx=>?_) ?_
  · have:=hm x hx
    try dsimp only [dSeq,dNext,dRet,dRetN,dRetO,dIfS,dSet,dSetP,dSetF,dSetD,dSetDP,dAug,dAsg,dApp,dAppF,dSetIx,dSetIxF,dAugIx,dDrop,dFor,dForD,dForS,dVar,dC,dOp,dI,dIC,dEqS,dNeS,dIsN,dNotN,dUn,dNeg,dNotV,dAndV,dOrV,dTst,dNot,dAnd,dOr,dIfE,dChain,dNil,dCons,dTup,dLst,dCall,dCB,dLen,dII,dAbs,dInt,dCopy,dIx,dNoPart,dPart,dSl,dSlS,dAdd,dMul,dIsi,dTrue,dget,dput,frz,frz1,B.val,startD,Tg.d,putN,diList,diTup,diRng1,diRng2,diRevr1,di_enumerateT,di_zipT,di_reversedT,onlyP,frD,dLC,List.map,List.length,dO]
    exact ⟨_,rfl,mulL ⟨by lia,by lia⟩,rfl⟩
  try dsimp only [dSeq,dNext,dRet,dRetN,dRetO,dIfS,dSet,dSetP,dSetF,dSetD,dSetDP,dAug,dAsg,dApp,dAppF,dSetIx,dSetIxF,dAugIx,dDrop,dFor,dForD,dForS,dVar,dC,dOp,dI,dIC,dEqS,dNeS,dIsN,dNotN,dUn,dNeg,dNotV,dAndV,dOrV,dTst,dNot,dAnd,dOr,dIfE,dChain,dNil,dCons,dTup,dLst,dCall,dCB,dLen,dII,dAbs,dInt,dCopy,dIx,dNoPart,dPart,dSl,dSlS,dAdd,dMul,dIsi,dTrue,dget,dput,frz,frz1,B.val,startD,Tg.d,putN,diList,diTup,diRng1,diRng2,diRevr1,di_enumerateT,di_zipT,di_reversedT,onlyP,frD,dLC,List.map,List.length]
  refine ⟨_,rfl,_,rfl,?_⟩
  dsimp only
  rw [zipD_map]
  refine lc_mapE (fun d=>match d with | .tup [.tup [_,.int p,_],.int a]=>.int (p * a) | d=>d) (fun x=>.int (x.1.2.1 * x.2)) (fun _ _=>rfl) (hz _ _ nw) (fun x hx=>?_) ?_
  · have:=hm2 x hx
    try dsimp only [dSeq,dNext,dRet,dRetN,dRetO,dIfS,dSet,dSetP,dSetF,dSetD,dSetDP,dAug,dAsg,dApp,dAppF,dSetIx,dSetIxF,dAugIx,dDrop,dFor,dForD,dForS,dVar,dC,dOp,dI,dIC,dEqS,dNeS,dIsN,dNotN,dUn,dNeg,dNotV,dAndV,dOrV,dTst,dNot,dAnd,dOr,dIfE,dChain,dNil,dCons,dTup,dLst,dCall,dCB,dLen,dII,dAbs,dInt,dCopy,dIx,dNoPart,dPart,dSl,dSlS,dAdd,dMul,dIsi,dTrue,dget,dput,frz,frz1,B.val,startD,Tg.d,putN,diList,diTup,diRng1,diRng2,diRevr1,di_enumerateT,di_zipT,di_reversedT,onlyP,frD,dLC,List.map,List.length,dO]
    exact ⟨_,rfl,mulL ⟨by lia,by lia⟩,rfl⟩
  try dsimp only [dSeq,dNext,dRet,dRetN,dRetO,dIfS,dSet,dSetP,dSetF,dSetD,dSetDP,dAug,dAsg,dApp,dAppF,dSetIx,dSetIxF,dAugIx,dDrop,dFor,dForD,dForS,dVar,dC,dOp,dI,dIC,dEqS,dNeS,dIsN,dNotN,dUn,dNeg,dNotV,dAndV,dOrV,dTst,dNot,dAnd,dOr,dIfE,dChain,dNil,dCons,dTup,dLst,dCall,dCB,dLen,dII,dAbs,dInt,dCopy,dIx,dNoPart,dPart,dSl,dSlS,dAdd,dMul,dIsi,dTrue,dget,dput,frz,frz1,B.val,startD,Tg.d,putN,diList,diTup,diRng1,diRng2,diRevr1,di_enumerateT,di_zipT,di_reversedT,onlyP,frD,dLC,List.map,List.length]
  have em:∀ l:List (S3 × Int),l.map (fun x=>D.int (x.1.2.1 * x.2)) = (l.map fun x=>x.1.2.1 * x.2).map D.int:=fun l=>by rw [List.map_map]; rfl
  rw [em,em]
  refine dSum_mk ?_
  try dsimp only [dSeq,dNext,dRet,dRetN,dRetO,dIfS,dSet,dSetP,dSetF,dSetD,dSetDP,dAug,dAsg,dApp,dAppF,dSetIx,dSetIxF,dAugIx,dDrop,dFor,dForD,dForS,dVar,dC,dOp,dI,dIC,dEqS,dNeS,dIsN,dNotN,dUn,dNeg,dNotV,dAndV,dOrV,dTst,dNot,dAnd,dOr,dIfE,dChain,dNil,dCons,dTup,dLst,dCall,dCB,dLen,dII,dAbs,dInt,dCopy,dIx,dNoPart,dPart,dSl,dSlS,dAdd,dMul,dIsi,dTrue,dget,dput,frz,frz1,B.val,startD,Tg.d,putN,diList,diTup,diRng1,diRng2,diRevr1,di_enumerateT,di_zipT,di_reversedT,onlyP,frD,dLC,List.map,List.length]
  refine dSum_mk ?_
  try dsimp only [dSeq,dNext,dRet,dRetN,dRetO,dIfS,dSet,dSetP,dSetF,dSetD,dSetDP,dAug,dAsg,dApp,dAppF,dSetIx,dSetIxF,dAugIx,dDrop,dFor,dForD,dForS,dVar,dC,dOp,dI,dIC,dEqS,dNeS,dIsN,dNotN,dUn,dNeg,dNotV,dAndV,dOrV,dTst,dNot,dAnd,dOr,dIfE,dChain,dNil,dCons,dTup,dLst,dCall,dCB,dLen,dII,dAbs,dInt,dCopy,dIx,dNoPart,dPart,dSl,dSlS,dAdd,dMul,dIsi,dTrue,dget,dput,frz,frz1,B.val,startD,Tg.d,putN,diList,diTup,diRng1,diRng2,diRevr1,di_enumerateT,di_zipT,di_reversedT,onlyP,frD,dLC,List.map,List.length]
  exact q
noncomputable def flv (fs:List S3) : List Int:=fs.map fun x=>x.1 - 1
noncomputable def wlv (g:Int) (ws:List S3) : List Int:=ws.map fun x=>x.1 + g
noncomputable def r_fire_levels:DR:=fun ds P=>∃ fs ws,ds = [dS fs ws]∧fs.length ≤ 900∧P (.o (.lst ((flv fs).map D.int)))
theorem ok_fire_levels (T:Blt mg) (F:Fun K "fire_levels" "fire_levels" s_fire_levels f fd) : FnOk P w K mg base CX0 1 f fd ["shop"] (spD K r_fire_levels):=by
  refine okD F sc_fire_levels (fun ds Q h=>by obtain ⟨fs,ws,rfl,nf,q⟩:=h; rfl) fun cdv A outer s H E hr=>⟨_,(dss_one (ds_ret (de_lc (g:=(.n 0)) (tc:=dTrue) (te:=(dOp _ (dOp dIx (dVar 0) (dC _)) (dC _))) (sc0:=defScope s_fire_levels) (N0:=["shop"]) ["offer"] [none] rfl (di_list (de_ix (dv 0) de_int)) (fun _ _ _ _ _=>(pg_name (i:=0) (show (["offer"] : List Str).Nodup by decide +kernel) rfl (Or.inl rfl))) (fun _ _ _ _ _=>difs_nil) (fun _ _ _ _ _=>(de_op od_sub (de_ix (dv 0) de_int) de_int))))),fun ds Q h=>?_⟩
  obtain ⟨fs,ws,rfl,nf,q⟩:=h
  repeat (first | dsimp only [dS] | walk_at "rs1" | set_option simprocs false in simp only [ixk0,ixk1,ixk2,ixk3,ixk4,ex_at])
  refine lc_mapE (fun d=>match d with | .tup [.int a,_,_]=>.int (a - 1) | d=>d) (fun x=>.int (x.1 - 1)) (fun _ _=>rfl) (by lia) (fun x hx=>?_) ?_
  · repeat (first | dsimp only [dO] | walk_at "rs1" | set_option simprocs false in simp only [ixk0,ixk1,ixk2,ixk3,ixk4,ex_at])
  unfold flv at q
  rw [List.map_map] at q
  exact q
noncomputable def r_water_levels:DR:=fun ds P=>∃ g hs cs fs ws,ds = [dW g hs cs,dS fs ws]∧ws.length ≤ 900∧P (.o (.lst ((wlv g ws).map D.int)))
theorem ok_water_levels (T:Blt mg) (F:Fun K "water_levels" "water_levels" s_water_levels f fd) : FnOk P w K mg base CX0 1 f fd ["works","shop"] (spD K r_water_levels):=by
  refine okD F sc_water_levels (fun ds Q h=>by obtain ⟨g,hs,cs,fs,ws,rfl,nw,q⟩:=h; rfl) fun cdv A outer s H E hr=>⟨_,(dss_one (ds_ret (de_lc (g:=(.n 0)) (tc:=dTrue) (te:=(dOp _ (dOp dIx (dVar 0) (dC _)) (dOp dIx (dVar 1) (dC _)))) (sc0:=defScope s_water_levels) (N0:=["works","shop"]) ["offer","works"] [none,some 0] rfl (di_list (de_ix (dv 1) de_int)) (fun _ _ _ _ _=>(pg_name (i:=0) (show (["offer","works"] : List Str).Nodup by decide +kernel) rfl (Or.inl rfl))) (fun _ _ _ _ _=>difs_nil) (fun _ _ _ _ _=>(de_op od_plus (de_ix (dv 0) de_int) (de_ix (dv 1) de_int)))))),fun ds Q h=>?_⟩
  obtain ⟨g,hs,cs,fs,ws,rfl,nw,q⟩:=h
  repeat (first | dsimp only [dS,dW] | walk_at "rs1" | set_option simprocs false in simp only [ixk0,ixk1,ixk2,ixk3,ixk4,ex_at])
  refine lc_mapE (fun d=>match d with | .tup [.int a,_,_]=>.int (a + g) | d=>d) (fun x=>.int (x.1 + g)) (fun _ _=>rfl) (by lia) (fun x hx=>?_) ?_
  · repeat (first | dsimp only [dO] | walk_at "rs1" | set_option simprocs false in simp only [ixk0,ixk1,ixk2,ixk3,ixk4,ex_at])
  unfold wlv at q
  rw [List.map_map] at q
  exact q
noncomputable def dP2 (x:Int × Int) : D:=.tup [.int x.1,.int x.2]
noncomputable def amtF (bs:List (Int × Int)) (L:Int) : Int:=(bs.filterMap fun x=>if L ≤ x.1 then some x.2 else none).sum
noncomputable def r_amount_above:DR:=fun ds P=>∃ (bs:List (Int × Int)) (L:Int),ds = [.lst (bs.map dP2),.int L]∧bs.length ≤ 900∧P (.p (.int (amtF bs L)))
theorem ok_amount_above (T:Blt mg) (F:Fun K "amount_above" "amount_above" s_amount_above f fd) : FnOk P w K mg base CX0 1 f fd ["bought","level"] (spD K r_amount_above):=by
  refine okD F sc_amount_above (fun ds Q h=>by obtain ⟨bs,L,rfl,nb,q⟩:=h; rfl) fun cdv A outer s H E hr=>⟨_,(dss_one (ds_ret (de_callB (cd_sum rfl) (by rfl) T.b_sum PyProof.Rows.boot_sum (da_cons (de_lc (g:=(.t [0,1])) (tc:=(dTst (dOp _ (dVar 0) (dVar 2)))) (te:=(dVar 1)) (sc0:=defScope s_amount_above) (N0:=["bought","level"]) ["place","amount","level"] [none,none,some 1] rfl (di_list (dv 0)) (fun _ _ _ _ _=>(pg_seq rfl (pgs_cons (pg_name (i:=0) (show (["place","amount","level"] : List Str).Nodup by decide +kernel) rfl (Or.inl rfl)) (pgs_cons (pg_name (i:=1) (show (["place","amount","level"] : List Str).Nodup by decide +kernel) rfl (Or.inl rfl)) pgs_nil)))) (fun _ _ _ _ _=>(difs_one (dt_cmp od_ge (dv 0) (dv 2) (nomark _)))) (fun _ _ _ _ _=>(dv 1))) da_nil)))),fun ds Q h=>?_⟩
  obtain ⟨bs,L,rfl,nb,q⟩:=h
  repeat (first | walk_at "rs1" | set_option simprocs false in simp only [ixk0,ixk1,ixk2,ixk3,ixk4,ex_at])
  refine lc_funE (fun d=>match d with | .tup [.int a,.int b]=>if L ≤ a then some (.int b) else none | d=>some d) (fun x=>if L ≤ x.1 then some (.int x.2) else none) (fun _ _=>rfl) (by lia) (fun x hx=>?_) ?_
  · repeat (first | dsimp only [dP2] | walk_at "rs1" | set_option simprocs false in simp only [ixk0,ixk1,ixk2,ixk3,ixk4,ex_at])
    refine ⟨fun z=>?_,fun z=>?_⟩
    · have:=of_decide_eq_true z
      rw [if_pos this]
    · have:=of_decide_eq_false z
      rw [if_neg this]
  repeat (first | walk_at "rs1" | set_option simprocs false in simp only [ixk0,ixk1,ixk2,ixk3,ixk4,ex_at])
  have em:bs.filterMap (fun x=>if L ≤ x.1 then some (D.int x.2) else none) = (bs.filterMap fun x=>if L ≤ x.1 then some x.2 else none).map D.int:=by
    rw [List.map_filterMap]
    refine filterMap_congr' fun x _=>?_
    split <;> rfl
  rw [em]
  refine dSum_mk ?_
  repeat (first | walk_at "rs1" | set_option simprocs false in simp only [ixk0,ixk1,ixk2,ixk3,ixk4,ex_at])
  exact q
noncomputable def surF (g:Int) (hs cs fs ws:List S3) (as bs:List Int) (L:Int) : Int:=amtF ((flv fs).zip as) L - amtF ((wlv g ws).zip bs) L - lackF g hs cs L
noncomputable def surL (g:Int) (hs cs fs ws:List S3) (as bs:List Int) : List Int:=(List.range 251).map fun i=>surF g hs cs fs ws as bs (i:Nat)
noncomputable def r_surpluses_above:DR:=fun ds P=>∃ g hs cs fs ws as bs,ds = [dW g hs cs,dS fs ws,.tup [dA as,dA bs]]∧WksOk g hs cs∧fs.length ≤ 900∧ws.length ≤ 900∧P (.o (.lst ((surL g hs cs fs ws as bs).map D.int)))
theorem zip_p2 (xs ys:List Int) : zipD (xs.map D.int) (ys.map D.int) = (xs.zip ys).map dP2:=zipD_map _ _ _ _
theorem ok_surpluses_above (T:Blt mg) (F_lacks_above:Fn P w K mg base "lacks_above" 3 ["works"] (spD K r_lacks_above)) (F_fire_levels:Fn P w K mg base "fire_levels" 1 ["shop"] (spD K r_fire_levels)) (F_water_levels:Fn P w K mg base "water_levels" 1 ["works","shop"] (spD K r_water_levels)) (F_amount_above:Fn P w K mg base "amount_above" 1 ["bought","level"] (spD K r_amount_above)) (F:Fun K "surpluses_above" "surpluses_above" s_surpluses_above f fd) : FnOk P w K mg base CX0 4 f fd ["works","shop","buying"] (spD K r_surpluses_above):=by
  refine okD F sc_surpluses_above (fun ds Q h=>by obtain ⟨g,hs,cs,fs,ws,as,bs,rfl,ok,nf,nw,q⟩:=h; rfl) fun cdv A outer s H E hr=>⟨_,(dss_cons (ds_setP (i:=3) sc_surpluses_above.nd rfl (Or.inr rfl) (de_zipL rfl (by rfl) T.b_zip (by rfl) T.b_list (da_cons (de_fn F_fire_levels (hr.mono (by decide)) (by rfl) (da_cons (dv 1) da_nil)) (da_cons (de_ix (dv 2) de_int) da_nil))))
      (dss_cons (ds_setP (i:=4) sc_surpluses_above.nd rfl (Or.inr rfl) (de_zipL rfl (by rfl) T.b_zip (by rfl) T.b_list (da_cons (de_fn F_water_levels (hr.mono (by decide)) (by rfl) (da_cons (dv 0) (da_cons (dv 1) da_nil))) (da_cons (de_ix (dv 2) de_int) da_nil))))
      (dss_cons (ds_setP (i:=5) sc_surpluses_above.nd rfl (Or.inl rfl) (de_fn F_lacks_above (hr.mono (by decide)) (by rfl) (da_cons (dv 0) da_nil)))
      (dss_one (ds_ret (de_lc (g:=(.t [0,1])) (tc:=dTrue) (te:=(dOp _ (dOp _ (dCall _ (dCons (dVar 2) (dCons (dVar 0) dNil))) (dCall _ (dCons (dVar 3) (dCons (dVar 0) dNil)))) (dVar 1))) (sc0:=defScope s_surpluses_above) (N0:=["works","shop","buying","fires","waters","lacks"]) ["level","lack","fires","waters"] [none,none,some 3,some 4] rfl (di_enumerate (by rfl) T.b_enumerate (da_cons (dv 5) da_nil)) (fun _ _ _ _ _=>(pg_seq rfl (pgs_cons (pg_name (i:=0) (show (["level","lack","fires","waters"] : List Str).Nodup by decide +kernel) rfl (Or.inl rfl)) (pgs_cons (pg_name (i:=1) (show (["level","lack","fires","waters"] : List Str).Nodup by decide +kernel) rfl (Or.inl rfl)) pgs_nil)))) (fun _ _ _ _ _=>difs_nil) (fun _ _ _ _ _=>(de_op od_sub (de_op od_sub (de_fn F_amount_above (hr.mono (by decide)) (by rfl) (da_cons (dv 2) (da_cons (dv 0) da_nil))) (de_fn F_amount_above (hr.mono (by decide)) (by rfl) (da_cons (dv 3) (da_cons (dv 0) da_nil)))) (dv 1))))))))),fun ds Q h=>?_⟩
  obtain ⟨g,hs,cs,fs,ws,as,bs,rfl,ok,nf,nw,q⟩:=h
  repeat (first | walk_at "rs1" | set_option simprocs false in simp only [ixk0,ixk1,ixk2,ixk3,ixk4,ex_at])
  refine ⟨fs,ws,rfl,nf,?_⟩
  repeat (first | dsimp only [dA] | walk_at "rs1" | set_option simprocs false in simp only [ixk0,ixk1,ixk2,ixk3,ixk4,ex_at])
  refine ⟨g,hs,cs,fs,ws,rfl,nw,?_⟩
  repeat (first | walk_at "rs1" | set_option simprocs false in simp only [ixk0,ixk1,ixk2,ixk3,ixk4,ex_at])
  refine ⟨g,hs,cs,rfl,ok,?_⟩
  repeat (first | walk_at "rs1" | set_option simprocs false in simp only [ixk0,ixk1,ixk2,ixk3,ixk4,ex_at])
  rw [zip_p2,zip_p2]
  have el:(lacksL g hs cs).map D.int = (List.range 251).map fun i=>D.int (lackF g hs cs (i:Nat)):=by unfold lacksL; rw [List.map_map]; rfl
  rw [el,enumFrom_range 251 (fun i=>D.int (lackF g hs cs (i:Nat)))]
  have l1:((flv fs).zip as).length ≤ 900:=by rw [List.length_zip]; unfold flv; rw [List.length_map]; lia
  have l2:((wlv g ws).zip bs).length ≤ 900:=by rw [List.length_zip]; unfold wlv; rw [List.length_map]; lia
  refine lc_mapE (fun d=>match d with | .tup [.int a,.int b]=>.int (amtF ((flv fs).zip as) a - amtF ((wlv g ws).zip bs) a - b) | d=>d) (fun i:Nat=>.int (surF g hs cs fs ws as bs (i:Nat))) (fun _ _=>rfl) (by rw [List.length_range]; decide) (fun i hi=>?_) ?_
  · repeat (first | walk_at "rs1" | set_option simprocs false in simp only [ixk0,ixk1,ixk2,ixk3,ixk4,ex_at])
    refine ⟨_,_,rfl,l1,?_⟩
    repeat (first | walk_at "rs1" | set_option simprocs false in simp only [ixk0,ixk1,ixk2,ixk3,ixk4,ex_at])
    refine ⟨_,_,rfl,l2,?_⟩
    repeat (first | walk_at "rs1" | set_option simprocs false in simp only [ixk0,ixk1,ixk2,ixk3,ixk4,ex_at])
    rfl
  unfold surL at q
  rw [List.map_map] at q
  exact q
theorem sur_at {g:Int} {hs cs fs ws:List S3} {as bs:List Int} {i:Nat} (h:i < 251) : atI ((surL g hs cs fs ws as bs).map D.int) ((i:Nat) : Int) = some (.int (surF g hs cs fs ws as bs (i:Nat))):=by
  refine atI_of ?_
  unfold surL
  rw [List.getElem?_map,List.getElem?_range h]
  rfl
noncomputable def Rw (f:Nat→Int) : List Int:=(List.range 251).map f
theorem Rw_len (f:Nat→Int) : (Rw f).length = 251:=by unfold Rw; simp
theorem Rw_at (f:Nat→Int) {i:Nat} (h:i < 251) : (Rw f)[i]? = some (f i):=by unfold Rw; rw [List.getElem?_map,List.getElem?_range h]; rfl
theorem Rw_set (f:Nat→Int) (j:Nat) (v:Int) : ((Rw f).map D.int).set j (.int v) = (Rw fun i=>if i = j then v else f i).map D.int:=by
  rw [← List.map_set]
  congr 1
  apply List.ext_getElem?
  intro i
  rw [List.getElem?_set]
  by_cases hi:i < 251
  · rw [Rw_at _ hi,Rw_at _ hi,Rw_len]
    by_cases hij:j = i
    · subst hij; rw [if_pos rfl,if_pos hi,if_pos rfl]
    · rw [if_neg hij,if_neg (Ne.symm hij)]
  · have e1 : ∀ f, (Rw f)[i]? = none := fun f => List.getElem?_eq_none (by rw [Rw_len]; lia)
    rw [e1,e1]
    split
    · rename_i hji; rw [Rw_len,if_neg (by lia)]
    · rfl
theorem Rw_dat (f:Nat→Int) {i:Nat} (h:i < 251) : ((Rw f).map D.int)[i]? = some (.int (f i)):=by rw [List.getElem?_map,Rw_at f h]; rfl
theorem Rw_ix (f:Nat→Int) {z:Int} {j:Nat} (h:j < 251) (e:z = (j:Nat)) : ixN ((Rw f).map D.int).length z = some j:=by
  rw [List.length_map,Rw_len,e]
  unfold ixN
  rw [if_pos (by lia),if_pos (by lia)]
  simp
theorem Rw_congr {f g:Nat→Int} (h:∀ i,i < 251→f i = g i) : Rw f = Rw g:=by
  unfold Rw
  exact List.map_congr_left fun i hi=>h i (List.mem_range.mp hi)
theorem Rw_put {f f':Nat→Int} {j:Nat} {v:Int} (h:∀ i,i < 251→f' i = if i = j then v else f i) : ((Rw f).map D.int).set j (.int v) = (Rw f').map D.int:=by
  rw [Rw_set,Rw_congr h]
theorem atL_one (bs:List S3) (b:S3) (L:Int) : atL (bs ++ [b]) L = atL bs L + (if b.1 ≤ L∧L < b.2.1 then b.2.2 else 0):=atL_snoc bs b L
noncomputable def amtAt (bs:List (Int × Int)) (L:Int) : Int:=(bs.map fun x=>if x.1 = L then x.2 else 0).sum
theorem amtF_step (L:Int) : ∀ bs:List (Int × Int),amtF bs L = amtF bs (L + 1) + amtAt bs L
  | []=>rfl
  | x :: bs=>by
    have ih:=amtF_step L bs
    unfold amtF amtAt at *
    rw [List.filterMap_cons,List.filterMap_cons,List.map_cons,List.sum_cons]
    by_cases h1:L = x.1
    · rw [if_pos (by lia), if_neg (by lia), if_pos h1.symm]
      dsimp only
      rw [List.sum_cons]
      lia
    · by_cases h2:L ≤ x.1
      · rw [if_pos h2, if_pos (by lia), if_neg (Ne.symm h1)]
        dsimp only
        rw [List.sum_cons,List.sum_cons]
        lia
      · rw [if_neg h2, if_neg (by lia), if_neg (Ne.symm h1)]
        dsimp only
        lia
theorem amtAt_snoc (bs:List (Int × Int)) (x:Int × Int) (L:Int) : amtAt (bs ++ [x]) L = amtAt bs L + (if x.1 = L then x.2 else 0):=by
  unfold amtAt
  rw [List.map_append,List.sum_append,List.map_cons,List.map_nil,List.sum_cons,List.sum_nil,Int.add_zero]
theorem amtF_top {L:Int} : ∀ {bs:List (Int × Int)},(∀ x ∈ bs,x.1 < L)→amtF bs L = 0
  | [],_=>rfl
  | x :: bs,h=>by
    have ih:=amtF_top fun y hy=>h y (List.mem_cons_of_mem _ hy)
    have hx:=h x (List.mem_cons_self ..)
    unfold amtF at *
    rw [List.filterMap_cons,if_neg (by lia)]
    exact ih
structure OffsIn (g:Int) (fs ws:List S3) : Prop where
  f0:∀ x ∈ fs,1 ≤ x.1∧x.1 ≤ 250
  w0:∀ x ∈ ws,0 ≤ x.1∧x.1 + g ≤ 249
theorem flv_in {g:Int} {fs ws:List S3} (h:OffsIn g fs ws) : ∀ z ∈ flv fs,0 ≤ z∧z < 250:=fun z hz=>by
  obtain ⟨x,hx,rfl⟩:=List.mem_map.mp hz
  have:=h.f0 x hx
  lia
theorem wlv_in {g:Int} {fs ws:List S3} (g0:0 ≤ g) (h:OffsIn g fs ws) : ∀ z ∈ wlv g ws,0 ≤ z∧z < 250:=fun z hz=>by
  obtain ⟨x,hx,rfl⟩:=List.mem_map.mp hz
  have:=h.w0 x hx
  lia
theorem zip_in {p:Int→Prop} {xs ys:List Int} (h:∀ z ∈ xs,p z) : ∀ q ∈ xs.zip ys,p q.1:=fun q hq=>h _ (List.of_mem_zip hq).1
noncomputable def rawF (g:Int) (hs cs fs ws:List S3) (as bs:List Int) (L:Int) : Int:=atL (hotB hs) L - atL (coldB g cs) L + amtAt ((flv fs).zip as) L - amtAt ((wlv g ws).zip bs) L
theorem sur_step (g:Int) (hs cs fs ws:List S3) (as bs:List Int) (L:Int) : surF g hs cs fs ws as bs L = rawF g hs cs fs ws as bs L + surF g hs cs fs ws as bs (L + 1):=by
  have h1:=lackF_step g hs cs L
  have h2:=amtF_step L ((flv fs).zip as)
  have h3:=amtF_step L ((wlv g ws).zip bs)
  unfold surF rawF
  lia
theorem sur_top {g:Int} {hs cs fs ws:List S3} {as bs:List Int} (ok:WksOk g hs cs) (h:OffsIn g fs ws) : surF g hs cs fs ws as bs 250 = 0:=by
  have h1:=lackF_top ok.g1 ok.hot ok.cold
  have h2:amtF ((flv fs).zip as) 250 = 0:=amtF_top (zip_in fun z hz=>(flv_in h z hz).2)
  have h3:amtF ((wlv g ws).zip bs) 250 = 0:=amtF_top (zip_in fun z hz=>(wlv_in ok.g0 h z hz).2)
  unfold surF
  lia
theorem sur_top1 {g:Int} {hs cs fs ws:List S3} {as bs:List Int} (ok:WksOk g hs cs) (h:OffsIn g fs ws) : surF g hs cs fs ws as bs 251 = 0:=by
  have h1:lackF g hs cs 251 = 0:=lackF_high ok.g0 ok.hot ok.cold (by have:=ok.g1; lia)
  have h2:amtF ((flv fs).zip as) 251 = 0:=amtF_top (zip_in (p:=fun z=>z < 251) fun z hz=>by have:=flv_in h z hz; lia)
  have h3:amtF ((wlv g ws).zip bs) 251 = 0:=amtF_top (zip_in (p:=fun z=>z < 251) fun z hz=>by have:=wlv_in ok.g0 h z hz; lia)
  unfold surF
  lia
noncomputable def WillDo (g:Int) (hs cs fs ws:List S3) (as bs:List Int) : Prop:=(∀ i:Nat,i < 251→0 ≤ surF g hs cs fs ws as bs (i:Nat))∧surF g hs cs fs ws as bs 0 = 0
noncomputable def r_will_do:DR:=fun ds P=>∃ g hs cs fs ws as bs,ds = [dW g hs cs,dS fs ws,.tup [dA as,dA bs]]∧WksOk g hs cs∧fs.length ≤ 900∧ws.length ≤ 900∧∀ c:Bool,(c = true ↔ WillDo g hs cs fs ws as bs)→P (.p (.bl c))
theorem ok_will_do (T:Blt mg) (F_surpluses_above:Fn P w K mg base "surpluses_above" 4 ["works","shop","buying"] (spD K r_surpluses_above)) (F:Fun K "will_do" "will_do" s_will_do f fd) : FnOk P w K mg base CX0 5 f fd ["works","shop","buying"] (spD K r_will_do):=by
  refine okD F sc_will_do (fun ds Q h=>by obtain ⟨g,hs,cs,fs,ws,as,bs,rfl,ok,nf,nw,q⟩:=h; rfl) fun cdv A outer s H E hr=>⟨_,(dss_cons (ds_setP (i:=3) sc_will_do.nd rfl (Or.inl rfl) (de_fn F_surpluses_above (hr.mono (by decide)) (by rfl) (da_cons (dv 0) (da_cons (dv 1) (da_cons (dv 2) da_nil)))))
      (dss_one (ds_ret (de_and (de_cmp od_ge (de_callB (cd_minL rfl) (by rfl) T.b_min PyProof.Rows.boot_min (da_cons (dv 3) da_nil)) de_int (nomark _)) (de_one (de_cmp od_eq (de_ix (dv 3) de_int) de_int (nomark _))))))),fun ds Q h=>?_⟩
  obtain ⟨g,hs,cs,fs,ws,as,bs,rfl,ok,nf,nw,q⟩:=h
  repeat (first | walk_at "rs1" | set_option simprocs false in simp only [ixk0,ixk1,ixk2,ixk3,ixk4,ex_at])
  refine ⟨g,hs,cs,fs,ws,as,bs,rfl,ok,nf,nw,?_⟩
  repeat (first | walk_at "rs1" | set_option simprocs false in simp only [ixk0,ixk1,ixk2,ixk3,ixk4,ex_at])
  refine ⟨surL g hs cs fs ws as bs,rfl,fun z=>by have:=congrArg List.length z; unfold surL at this; simp at this,fun m hm hle=>?_⟩
  have g0:atI ((surL g hs cs fs ws as bs).map D.int) 0 = some (.int (surF g hs cs fs ws as bs 0)):=sur_at (i:=0) (by decide)
  have mem:∀ i:Nat,i < 251→surF g hs cs fs ws as bs (i:Nat) ∈ surL g hs cs fs ws as bs:=fun i hi=>List.mem_map.mpr ⟨i,List.mem_range.mpr hi,rfl⟩
  repeat (first | walk_at "rs1" | set_option simprocs false in simp only [ixk0,ixk1,ixk2,ixk3,ixk4,ex_at,g0])
  refine ⟨fun z=>q _ ?_,fun z=>q _ ?_⟩
  · have hz:=of_decide_eq_true z
    refine ⟨fun w=>⟨fun i hi=>Int.le_trans hz (hle _ (mem i hi)),of_decide_eq_true w⟩,fun w=>decide_eq_true w.2⟩
  · have hz:=of_decide_eq_false z
    refine ⟨fun w=>(nomatch w),fun w=>absurd ?_ hz⟩
    obtain ⟨i,hi,e⟩:=List.mem_map.mp hm
    rw [← e]
    exact w.1 i (List.mem_range.mp hi)
noncomputable def r_mosts:DR:=fun ds P=>∃ os:List S3,ds = [.lst (os.map dO)]∧os.length ≤ 900∧P (.o (.lst ((os.map fun x=>x.2.2).map D.int)))
theorem ok_mosts (T:Blt mg) (F:Fun K "mosts" "mosts" s_mosts f fd) : FnOk P w K mg base CX0 1 f fd ["offers"] (spD K r_mosts):=by
  refine okD F sc_mosts (fun ds Q h=>by obtain ⟨os,rfl,n,q⟩:=h; rfl) fun cdv A outer s H E hr=>⟨_,(dss_one (ds_ret (de_lc (g:=(.n 0)) (tc:=dTrue) (te:=(dOp dIx (dVar 0) (dC _))) (sc0:=defScope s_mosts) (N0:=["offers"]) ["offer"] [none] rfl (di_list (dv 0)) (fun _ _ _ _ _=>(pg_name (i:=0) (show (["offer"] : List Str).Nodup by decide +kernel) rfl (Or.inl rfl))) (fun _ _ _ _ _=>difs_nil) (fun _ _ _ _ _=>(de_ix (dv 0) de_int))))),fun ds Q h=>?_⟩
  obtain ⟨os,rfl,n,q⟩:=h
  repeat (first | walk_at "rs1" | set_option simprocs false in simp only [ixk0,ixk1,ixk2,ixk3,ixk4,ex_at])
  refine lc_mapE (fun d=>match d with | .tup [_,_,c]=>c | d=>d) (fun x=>.int x.2.2) (fun _ _=>rfl) (by lia) (fun x hx=>?_) ?_
  · repeat (first | dsimp only [dO] | walk_at "rs1" | set_option simprocs false in simp only [ixk0,ixk1,ixk2,ixk3,ixk4,ex_at])
  rw [List.map_map] at q
  exact q
noncomputable def r_nothing:DR:=fun ds P=>∃ os:List S3,ds = [.lst (os.map dO)]∧os.length ≤ 900∧P (.o (.lst ((os.map fun _=>(0:Int)).map D.int)))
theorem ok_nothing (T:Blt mg) (F:Fun K "nothing" "nothing" s_nothing f fd) : FnOk P w K mg base CX0 1 f fd ["offers"] (spD K r_nothing):=by
  refine okD F sc_nothing (fun ds Q h=>by obtain ⟨os,rfl,n,q⟩:=h; rfl) fun cdv A outer s H E hr=>⟨_,(dss_one (ds_ret (de_lc (g:=(.n 0)) (tc:=dTrue) (te:=(dC _)) (sc0:=defScope s_nothing) (N0:=["offers"]) ["offer"] [none] rfl (di_list (dv 0)) (fun _ _ _ _ _=>(pg_name (i:=0) (show (["offer"] : List Str).Nodup by decide +kernel) rfl (Or.inl rfl))) (fun _ _ _ _ _=>difs_nil) (fun _ _ _ _ _=>de_int)))),fun ds Q h=>?_⟩
  obtain ⟨os,rfl,n,q⟩:=h
  repeat (first | walk_at "rs1" | set_option simprocs false in simp only [ixk0,ixk1,ixk2,ixk3,ixk4,ex_at])
  refine lc_mapE (fun _=>.int 0) (fun _=>.int 0) (fun _ _=>rfl) (by lia) (fun x hx=>rfl) ?_
  rw [List.map_map] at q
  exact q
noncomputable def mostL (os:List S3) : List Int:=os.map fun x=>x.2.2
noncomputable def noneL (os:List S3) : List Int:=os.map fun _=>(0:Int)
noncomputable def warmF (g:Int) (hs cs fs ws:List S3) (L:Int) : Int:=surF g hs cs fs ws (mostL fs) (noneL ws) L
noncomputable def coldF (g:Int) (hs cs fs ws:List S3) (L:Int) : Int:=surF g hs cs fs ws (noneL fs) (mostL ws) L
noncomputable def ShortIs (g:Int) (hs cs fs ws:List S3) (d:D) : Prop:=
  (d = .non∧∀ i:Nat,i < 251→0 ≤ warmF g hs cs fs ws (i:Nat)∧coldF g hs cs fs ws 0 ≤ coldF g hs cs fs ws (i:Nat)) ∨
  (∃ i:Nat,i < 251∧(∀ j:Nat,j < i→0 ≤ warmF g hs cs fs ws (j:Nat)∧coldF g hs cs fs ws 0 ≤ coldF g hs cs fs ws (j:Nat))∧((d = .tup [.str "heat",.int (i:Nat)]∧warmF g hs cs fs ws (i:Nat) < 0) ∨ (d = .tup [.str "cold",.int (i:Nat)]∧0 ≤ warmF g hs cs fs ws (i:Nat)∧coldF g hs cs fs ws (i:Nat) < coldF g hs cs fs ws 0)))
noncomputable def r_shortage:DR:=fun ds P=>∃ g hs cs fs ws,ds = [dW g hs cs,dS fs ws]∧WksOk g hs cs∧fs.length ≤ 900∧ws.length ≤ 900∧∀ d,ShortIs g hs cs fs ws d→P (.p d)
theorem ok_shortage (T:Blt mg) (F_surpluses_above:Fn P w K mg base "surpluses_above" 4 ["works","shop","buying"] (spD K r_surpluses_above)) (F_mosts:Fn P w K mg base "mosts" 1 ["offers"] (spD K r_mosts)) (F_nothing:Fn P w K mg base "nothing" 1 ["offers"] (spD K r_nothing)) (F:Fun K "shortage" "shortage" s_shortage f fd) : FnOk P w K mg base CX0 5 f fd ["works","shop"] (spD K r_shortage):=by
  refine okD F sc_shortage (fun ds Q h=>by obtain ⟨g,hs,cs,fs,ws,rfl,ok,nf,nw,q⟩:=h; rfl) fun cdv A outer s H E hr=>⟨_,(dss_cons (ds_setP (i:=2) sc_shortage.nd rfl (Or.inl rfl) (de_fn F_surpluses_above (hr.mono (by decide)) (by rfl) (da_cons (dv 0) (da_cons (dv 1) (da_cons (de_tup (da_cons (de_fn F_mosts (hr.mono (by decide)) (by rfl) (da_cons (de_ix (dv 1) de_int) da_nil)) (da_cons (de_fn F_nothing (hr.mono (by decide)) (by rfl) (da_cons (de_ix (dv 1) de_int) da_nil)) da_nil))) da_nil)))))
      (dss_cons (ds_setP (i:=3) sc_shortage.nd rfl (Or.inl rfl) (de_fn F_surpluses_above (hr.mono (by decide)) (by rfl) (da_cons (dv 0) (da_cons (dv 1) (da_cons (de_tup (da_cons (de_fn F_nothing (hr.mono (by decide)) (by rfl) (da_cons (de_ix (dv 1) de_int) da_nil)) (da_cons (de_fn F_mosts (hr.mono (by decide)) (by rfl) (da_cons (de_ix (dv 1) de_int) da_nil)) da_nil))) da_nil)))))
      (dss_cons (ds_forS (g:=(.n 4)) PassesOwn.never rfl (dis_rng1 (by rfl) T.b_range (da_cons (de_op od_plus (de_gI (by rfl) T.g_LEVELS) de_int) da_nil)) (pg_name (i:=4) sc_shortage.nd rfl (Or.inl rfl)) (dss_cons (ds_if (dt_cmp od_lt (de_ix (dv 2) (dv 4)) de_int (nomark _)) (dss_one (ds_ret (de_tup (da_cons de_str (da_cons (dv 4) da_nil))))) dss_nil)
      (dss_one (ds_if (dt_cmp od_gt (de_ix (dv 3) de_int) (de_ix (dv 3) (dv 4)) (nomark _)) (dss_one (ds_ret (de_tup (da_cons de_str (da_cons (dv 4) da_nil))))) dss_nil))))
      (dss_one (ds_ret de_non))))),fun ds Q h=>?_⟩
  obtain ⟨g,hs,cs,fs,ws,rfl,ok,nf,nw,q⟩:=h
  repeat (first | dsimp only [dS] | walk_at "rs1" | set_option simprocs false in simp only [ixk0,ixk1,ixk2,ixk3,ixk4,ex_at])
  refine ⟨fs,rfl,nf,?_⟩
  repeat (first | walk_at "rs1" | set_option simprocs false in simp only [ixk0,ixk1,ixk2,ixk3,ixk4,ex_at])
  refine ⟨ws,rfl,nw,?_⟩
  repeat (first | walk_at "rs1" | set_option simprocs false in simp only [ixk0,ixk1,ixk2,ixk3,ixk4,ex_at])
  refine ⟨g,hs,cs,fs,ws,mostL fs,noneL ws,rfl,ok,nf,nw,?_⟩
  repeat (first | walk_at "rs1" | set_option simprocs false in simp only [ixk0,ixk1,ixk2,ixk3,ixk4,ex_at])
  refine ⟨fs,rfl,nf,?_⟩
  repeat (first | walk_at "rs1" | set_option simprocs false in simp only [ixk0,ixk1,ixk2,ixk3,ixk4,ex_at])
  refine ⟨ws,rfl,nw,?_⟩
  repeat (first | walk_at "rs1" | set_option simprocs false in simp only [ixk0,ixk1,ixk2,ixk3,ixk4,ex_at])
  refine ⟨g,hs,cs,fs,ws,noneL fs,mostL ws,rfl,ok,nf,nw,?_⟩
  repeat (first | walk_at "rs1" | set_option simprocs false in simp only [ixk0,ixk1,ixk2,ixk3,ixk4,ex_at])
  refine ⟨⟨by decide,by decide⟩,?_⟩
  refine for_nat (fun i ρ=>∃ a4,ρ = [some (B.p (dW g hs cs)),some (B.p (D.tup [D.lst (fs.map dO),D.lst (ws.map dO)])),some (B.p (D.lst ((surL g hs cs fs ws (mostL fs) (noneL ws)).map D.int))),some (B.p (D.lst ((surL g hs cs fs ws (noneL fs) (mostL ws)).map D.int))),a4]∧∀ j:Nat,j < i→0 ≤ warmF g hs cs fs ws (j:Nat)∧coldF g hs cs fs ws 0 ≤ coldF g hs cs fs ws (j:Nat)) ⟨none,rfl,fun j hj=>by lia⟩ ?_ ?_
  · rintro i x ρ hx ⟨a4,rfl,hall⟩
    obtain ⟨hi,rfl⟩:=upFrom_get hx
    have hi':i < 251:=hi
    rw [Int.zero_add] at *
    have g1:=sur_at (g:=g) (hs:=hs) (cs:=cs) (fs:=fs) (ws:=ws) (as:=mostL fs) (bs:=noneL ws) hi'
    have g2:=sur_at (g:=g) (hs:=hs) (cs:=cs) (fs:=fs) (ws:=ws) (as:=noneL fs) (bs:=mostL ws) hi'
    have g0:atI ((surL g hs cs fs ws (noneL fs) (mostL ws)).map D.int) 0 = some (.int (surF g hs cs fs ws (noneL fs) (mostL ws) 0)):=sur_at (i:=0) (by decide)
    repeat (first | walk_at "rs1" | set_option simprocs false in simp only [ixk0,ixk1,ixk2,ixk3,ixk4,ex_at,g1,g2,g0])
    refine ⟨fun z=>q _ (.inr ⟨i,hi',hall,.inl ⟨rfl,of_decide_eq_true z⟩⟩),fun z1=>⟨fun z=>q _ (.inr ⟨i,hi',hall,.inr ⟨rfl,Int.not_lt.mp (of_decide_eq_false z1),of_decide_eq_true z⟩⟩),fun z2=>⟨_,rfl,fun j hj=>?_⟩⟩⟩
    rcases Nat.lt_succ_iff_lt_or_eq.mp hj with w | w
    · exact hall j w
    · subst w
      have:=of_decide_eq_false z1
      have:=of_decide_eq_false z2
      unfold warmF coldF
      lia
  · rintro ρ ⟨a4,rfl,hall⟩
    rw [upFrom_len] at hall
    repeat (first | walk_at "rs1" | set_option simprocs false in simp only [ixk0,ixk1,ixk2,ixk3,ixk4,ex_at])
    exact q _ (.inl ⟨rfl,hall⟩)
noncomputable def lotF (g:Int) (fs ws:List S3) : List S3:=fs.map (fun x=>(x.1 - 1,x.2.1,x.2.2)) ++ ws.map (fun x=>(x.1 + g,-x.2.1,x.2.2))
theorem zip_self {α β:Type} (f:α→β) : ∀ l:List α,(l.map f).zip l = l.map fun x=>(f x,x)
  | []=>rfl
  | x :: l=>by rw [List.map_cons,List.zip_cons_cons,List.map_cons,zip_self f l]
noncomputable def r_lots_of:DR:=fun ds P=>∃ g hs cs fs ws,ds = [dW g hs cs,dS fs ws]∧fs.length ≤ 6∧ws.length ≤ 6∧P (.o (.lst ((lotF g fs ws).map dO)))
theorem ok_lots_of (T:Blt mg) (F_fire_levels:Fn P w K mg base "fire_levels" 1 ["shop"] (spD K r_fire_levels)) (F_water_levels:Fn P w K mg base "water_levels" 1 ["works","shop"] (spD K r_water_levels)) (F:Fun K "lots_of" "lots_of" s_lots_of f fd) : FnOk P w K mg base CX0 2 f fd ["works","shop"] (spD K r_lots_of):=by
  refine okD F sc_lots_of (fun ds Q h=>by obtain ⟨g,hs,cs,fs,ws,rfl,nf,nw,q⟩:=h; rfl) fun cdv A outer s H E hr=>⟨_,(dss_cons (ds_setLCP (i:=2) sc_lots_of.nd rfl (Or.inl rfl) (g:=(.t [0,1])) (tc:=dTrue) (te:=(dTup (dCons (dVar 0) (dCons (dOp dIx (dVar 1) (dC _)) (dCons (dOp dIx (dVar 1) (dC _)) dNil))))) (sc0:=defScope s_lots_of) (N0:=["works","shop","fires","waters"]) ["level","offer"] [none,none] rfl (di_zip (by rfl) T.b_zip (da_cons (de_fn F_fire_levels (hr.mono (by decide)) (by rfl) (da_cons (dv 1) da_nil)) (da_cons (de_ix (dv 1) de_int) da_nil))) (fun _ _ _ _ _=>(pg_seq rfl (pgs_cons (pg_name (i:=0) (show (["level","offer"] : List Str).Nodup by decide +kernel) rfl (Or.inl rfl)) (pgs_cons (pg_name (i:=1) (show (["level","offer"] : List Str).Nodup by decide +kernel) rfl (Or.inl rfl)) pgs_nil)))) (fun _ _ _ _ _=>difs_nil) (fun _ _ _ _ _=>(de_tup (da_cons (dv 0) (da_cons (de_ix (dv 1) de_int) (da_cons (de_ix (dv 1) de_int) da_nil))))))
      (dss_cons (ds_setLCP (i:=3) sc_lots_of.nd rfl (Or.inl rfl) (g:=(.t [0,1])) (tc:=dTrue) (te:=(dTup (dCons (dVar 0) (dCons (dUn dNeg (dOp dIx (dVar 1) (dC _))) (dCons (dOp dIx (dVar 1) (dC _)) dNil))))) (sc0:=defScope s_lots_of) (N0:=["works","shop","fires","waters"]) ["level","offer"] [none,none] rfl (di_zip (by rfl) T.b_zip (da_cons (de_fn F_water_levels (hr.mono (by decide)) (by rfl) (da_cons (dv 0) (da_cons (dv 1) da_nil))) (da_cons (de_ix (dv 1) de_int) da_nil))) (fun _ _ _ _ _=>(pg_seq rfl (pgs_cons (pg_name (i:=0) (show (["level","offer"] : List Str).Nodup by decide +kernel) rfl (Or.inl rfl)) (pgs_cons (pg_name (i:=1) (show (["level","offer"] : List Str).Nodup by decide +kernel) rfl (Or.inl rfl)) pgs_nil)))) (fun _ _ _ _ _=>difs_nil) (fun _ _ _ _ _=>(de_tup (da_cons (dv 0) (da_cons (de_neg (de_ix (dv 1) de_int)) (da_cons (de_ix (dv 1) de_int) da_nil))))))
      (dss_one (ds_ret (de_op od_plus (dv 2) (dv 3)))))),fun ds Q h=>?_⟩
  obtain ⟨g,hs,cs,fs,ws,rfl,nf,nw,q⟩:=h
  repeat (first | walk_at "rs1" | set_option simprocs false in simp only [ixk0,ixk1,ixk2,ixk3,ixk4,ex_at])
  refine ⟨fs,ws,rfl,by lia,?_⟩
  repeat (first | dsimp only [dS] | walk_at "rs1" | set_option simprocs false in simp only [ixk0,ixk1,ixk2,ixk3,ixk4,ex_at])
  rw [zipD_map,show (flv fs).zip fs = fs.map fun x=>(x.1 - 1,x) from zip_self _ _,List.map_map]
  refine lc_mapE (fun d=>match d with | .tup [a,.tup [_,b,c]]=>.tup [a,b,c] | d=>d) (fun x=>dO (x.1 - 1,x.2.1,x.2.2)) (fun _ _=>rfl) (by lia) (fun x hx=>?_) ?_
  · repeat (first | dsimp only [dO,Function.comp] | walk_at "rs1" | set_option simprocs false in simp only [ixk0,ixk1,ixk2,ixk3,ixk4,ex_at])
  repeat (first | walk_at "rs1" | set_option simprocs false in simp only [ixk0,ixk1,ixk2,ixk3,ixk4,ex_at])
  refine ⟨g,hs,cs,fs,ws,rfl,by lia,?_⟩
  repeat (first | walk_at "rs1" | set_option simprocs false in simp only [ixk0,ixk1,ixk2,ixk3,ixk4,ex_at])
  rw [zipD_map,show (wlv g ws).zip ws = ws.map fun x=>(x.1 + g,x) from zip_self _ _,List.map_map]
  refine lc_mapE (fun d=>match d with | .tup [a,.tup [_,.int b,c]]=>.tup [a,.int (-b),c] | d=>d) (fun x=>dO (x.1 + g,-x.2.1,x.2.2)) (fun _ _=>rfl) (by lia) (fun x hx=>?_) ?_
  · repeat (first | dsimp only [dO,Function.comp] | walk_at "rs1" | set_option simprocs false in simp only [ixk0,ixk1,ixk2,ixk3,ixk4,ex_at])
  repeat (first | walk_at "rs1" | set_option simprocs false in simp only [ixk0,ixk1,ixk2,ixk3,ixk4,ex_at])
  refine ⟨by rw [List.length_map,List.length_map]; exact small_len (by lia),?_⟩
  unfold lotF at q
  rw [List.map_append,List.map_map,List.map_map] at q
  exact q
noncomputable def leftL (ws:List S3) (hs:List Int) : List Int:=(ws.zip hs).map fun p=>p.1.2.2 - p.2
noncomputable def r_buying_of:DR:=fun ds P=>∃ fs ws dr,ds = [dS fs ws,dA dr]∧ws.length ≤ 6∧P (.p (.tup [dA (dr.take fs.length),dA (leftL ws (dr.drop fs.length))]))
theorem ok_buying_of (T:Blt mg) (F:Fun K "buying_of" "buying_of" s_buying_of f fd) : FnOk P w K mg base CX0 1 f fd ["shop","drawn"] (spD K r_buying_of):=by
  refine okD F sc_buying_of (fun ds Q h=>by obtain ⟨fs,ws,dr,rfl,nw,q⟩:=h; rfl) fun cdv A outer s H E hr=>⟨_,(dss_cons (ds_setP (i:=2) sc_buying_of.nd rfl (Or.inl rfl) (de_callB cd_len (by rfl) T.b_len PySem.boot_len (da_cons (de_ix (dv 0) de_int) da_nil)))
      (dss_cons (ds_setLCP (i:=3) sc_buying_of.nd rfl (Or.inl rfl) (g:=(.t [0,1])) (tc:=dTrue) (te:=(dOp _ (dOp dIx (dVar 0) (dC _)) (dVar 1))) (sc0:=defScope s_buying_of) (N0:=["shop","drawn","count","waters"]) ["offer","heat"] [none,none] rfl (di_zip (by rfl) T.b_zip (da_cons (de_ix (dv 0) de_int) (da_cons (de_slice (dv 1) (do_some (dv 2)) do_none) da_nil))) (fun _ _ _ _ _=>(pg_seq rfl (pgs_cons (pg_name (i:=0) (show (["offer","heat"] : List Str).Nodup by decide +kernel) rfl (Or.inl rfl)) (pgs_cons (pg_name (i:=1) (show (["offer","heat"] : List Str).Nodup by decide +kernel) rfl (Or.inl rfl)) pgs_nil)))) (fun _ _ _ _ _=>difs_nil) (fun _ _ _ _ _=>(de_op od_sub (de_ix (dv 0) de_int) (dv 1))))
      (dss_one (ds_ret (de_tup (da_cons (de_slice (dv 1) do_none (do_some (dv 2))) (da_cons (dv 3) da_nil))))))),fun ds Q h=>?_⟩
  obtain ⟨fs,ws,dr,rfl,nw,q⟩:=h
  repeat (first | dsimp only [dS,dA] | walk_at "rs1" | set_option simprocs false in simp only [ixk0,ixk1,ixk2,ixk3,ixk4,ex_at])
  have e1:cutL (dr.map D.int) (some ((fs.map dO).length:Nat)) none = (dr.drop fs.length).map D.int:=by rw [cut_from,List.length_map,List.map_drop]
  have e2:cutL (dr.map D.int) none (some ((fs.map dO).length:Nat)) = (dr.take fs.length).map D.int:=by rw [cut_to,List.length_map,List.map_take]
  rw [e1,zipD_map]
  refine lc_mapE (fun d=>match d with | .tup [.tup [_,_,.int c],.int h]=>.int (c - h) | d=>d) (fun p=>.int (p.1.2.2 - p.2)) (fun _ _=>rfl) (by rw [List.length_zip]; lia) (fun x hx=>?_) ?_
  · repeat (first | dsimp only [dO] | walk_at "rs1" | set_option simprocs false in simp only [ixk0,ixk1,ixk2,ixk3,ixk4,ex_at])
  repeat (first | walk_at "rs1" | set_option simprocs false in simp only [ixk0,ixk1,ixk2,ixk3,ixk4,ex_at])
  rw [e2]
  have em:(ws.zip (dr.drop fs.length)).map (fun p=>D.int (p.1.2.2 - p.2)) = (leftL ws (dr.drop fs.length)).map D.int:=by unfold leftL; rw [List.map_map]; rfl
  rw [em]
  exact q
theorem foldl_take {α β:Type} (f:α→β→α) (a:α) {l:List β} {i:Nat} {x:β} (h:l[i]? = some x) : (l.take (i + 1)).foldl f a = f ((l.take i).foldl f a) x:=by
  rw [take_snoc h,List.foldl_append]; rfl
noncomputable def r_drawn_of:DR:=fun ds P=>∃ (lots:List S3) (S:List Int),ds = [.lst (lots.map dO),.lst (S.map D.int)]∧lots.length ≤ 12∧S.length = 251∧∀ ord:List Int,ord.Perm ((List.range lots.length).map Int.ofNat)→KeyOrd (lots.map fun x=>x.2.1) ord→P (.o (.lst ((drawnF lots S ord).map D.int)))
theorem ok_drawn_of (kb:K.In base) (hBl:BltAt mg base) (T:Blt mg) (F:FunC K "drawn_of" "drawn_of" s_drawn_of f fd Pt) : FnOk P w K mg base CX0 1 f fd ["lots","surpluses"] (spDT K Pt qnL r_drawn_of):=by
  refine okDC F sc_drawn_of (fun ds Q h=>by obtain ⟨lots,S,rfl,nl,ns,q⟩:=h; rfl) fun cdv A outer s H E hr hT hC=>⟨_,(dss_cons (ds_setLC (i:=2) sc_drawn_of.nd rfl (Or.inl rfl) (g:=(.n 0)) (tc:=dTrue) (te:=(dC _)) (sc0:=defScope s_drawn_of) (N0:=["lots","surpluses","drawn","by_price","level","need","number","lot","heat"]) ["lot"] [none] rfl (di_list (dv 0)) (fun _ _ _ _ _=>(pg_name (i:=0) (show (["lot"] : List Str).Nodup by decide +kernel) rfl (Or.inl rfl))) (fun _ _ _ _ _=>difs_nil) (fun _ _ _ _ _=>de_int))
      (dss_cons (ds_setP (i:=3) sc_drawn_of.nd rfl (Or.inl rfl) (de_sortK (i:=0) (x:="place") (y:="lots") (by rfl) T.b_sorted (by rfl) T.b_range rfl (hr.mono (by decide)) rfl hC kb hBl hT rfl rfl rfl rfl rfl (fun _ _ _ _ _=>rfl) rfl rfl rfl (by decide) rfl rfl (by decide) (by decide) (by decide) (da_cons (de_callB cd_len (by rfl) T.b_len PySem.boot_len (da_cons (dv 0) da_nil)) da_nil)))
      (dss_cons (ds_forS (g:=(.n 4)) PassesOwn.never rfl (dis_rng3 (by rfl) T.b_range (da_cons (de_op od_sub (de_gI (by rfl) T.g_LEVELS) de_int) (da_cons (de_neg de_int) (da_cons (de_neg de_int) da_nil)))) (pg_name (i:=4) sc_drawn_of.nd rfl (Or.inl rfl)) (dss_cons (ds_setF (i:=5) sc_drawn_of.nd rfl (Or.inl rfl) (de_op od_sub (de_neg (de_ix (dv 1) (dv 4))) (de_callB (cd_sum rfl) (by rfl) T.b_sum PyProof.Rows.boot_sum (da_cons (dv 2) da_nil))))
      (dss_one (ds_for (g:=(.n 6)) PassesOwn.never rfl (di_list (dv 3)) (pg_name (i:=6) sc_drawn_of.nd rfl (Or.inl rfl)) (dss_cons (ds_setP (i:=7) sc_drawn_of.nd rfl (Or.inl rfl) (de_ix (dv 0) (dv 6)))
      (dss_one (ds_if (dw_and (dt_cmp od_gt (dv 5) de_int (nomark _)) (dw_and1 (dt_cmp od_ge (de_ix (dv 7) de_int) (dv 4) (nomark _)))).dt (dss_cons (ds_setF (i:=8) sc_drawn_of.nd rfl (Or.inl rfl) (de_callB (cd_min2 rfl) (by rfl) T.b_min PyProof.Rows.boot_min (da_cons (dv 5) (da_cons (de_op od_sub (de_ix (dv 7) de_int) (de_ix (dv 2) (dv 6))) da_nil))))
      (dss_cons (ds_augIx ip_add (ps_augS (pv 2) (dv 6).pe get_list (dv 8).pe ip_add set_list))
      (dss_one (ds_aug (i:=5) sc_drawn_of.nd rfl (Or.inl rfl) (dv 8) ip_sub)))) dss_nil)))))))
      (dss_one (ds_retO 2))))),fun ds Q h=>?_⟩
  obtain ⟨lots,S,rfl,nl,ns,q⟩:=h
  repeat (first | walk_at "rs1" | set_option simprocs false in simp only [ixk0,ixk1,ixk2,ixk3,ixk4,ex_at])
  refine lc_mapE (fun _=>.int 0) (fun _=>.int 0) (fun _ _=>rfl) (by lia) (fun x hx=>rfl) ?_
  have ez:lots.map (fun _=>D.int 0) = (lots.map fun _=>(0:Int)).map D.int:=by rw [List.map_map]; rfl
  rw [ez]
  repeat (first | walk_at "rs1" | set_option simprocs false in simp only [ixk0,ixk1,ixk2,ixk3,ixk4,ex_at])
  refine ⟨_,lots.map fun x=>x.2.1,rfl,by rw [List.length_map,List.length_map],by rw [List.length_map]; lia,fun m k hk=>?_,fun ord hp ho=>?_⟩
  · rw [List.getElem?_map] at hk
    cases ec:lots[m]? with
    | none=>rw [ec] at hk; cases hk
    | some x =>
    rw [ec] at hk
    cases hk
    refine ⟨_,by rw [List.getElem?_map,ec]; rfl,?_⟩
    exact ixk1 _ _ _
  rw [List.length_map] at hp
  have hord:∀ n ∈ ord,∃ m:Nat,n = (m:Nat)∧m < lots.length:=fun n hn=>by
    obtain ⟨m,hm,e⟩:=List.mem_map.mp (hp.mem_iff.mp hn)
    exact ⟨m,e.symm,List.mem_range.mp hm⟩
  refine ⟨trivial,⟨by decide,by decide,by decide,by decide⟩,?_⟩
  refine for_nat (fun i ρ=>∃ a4 a5 a6 a7 a8,ρ = [some (B.p (D.lst (lots.map dO))),some (B.p (D.lst (S.map D.int))),some (B.o (D.lst (((List.range i).foldl (drawLevel lots S ord) (lots.map fun _=>0)).map D.int))),some (B.p (D.lst (ord.map D.int))),a4,a5,a6,a7,a8]) ⟨none,none,none,none,none,rfl⟩ ?_ ?_
  · rintro i x ρ hx ⟨a4,a5,a6,a7,a8,rfl⟩
    obtain ⟨hi,rfl⟩:=downTo_get hx
    have hi':i < 250:=hi
    have ej:(250 - 1:Int) + (i:Nat) * (-1) = ((249 - i:Nat) : Int):=by lia
    have ej2:((249 - i:Nat) : Int) = 249 - (i:Nat):=by lia
    have hSl:249 - i < S.length:=by lia
    have es:S[249 - i]? = some (S.getD (249 - i) 0):=by rw [List.getD_eq_getElem?_getD,List.getElem?_eq_getElem hSl]; rfl
    have g1:atI (S.map D.int) ((250 - 1:Int) + (i:Nat) * (-1)) = some (.int (S.getD (249 - i) 0)):=by rw [ej]; exact atI_of es
    have hlen:=levels_len lots S ord (List.range i) (lots.map fun _=>0)
    rw [List.length_map] at hlen
    rw [foldl_range_succ]
    generalize (List.range i).foldl (drawLevel lots S ord) (lots.map fun _=>0) = d at hlen ⊢
    repeat (first | walk_at "rs1" | set_option simprocs false in simp only [ixk0,ixk1,ixk2,ixk3,ixk4,ex_at,g1])
    refine dSum_mk ?_
    repeat (first | walk_at "rs1" | set_option simprocs false in simp only [ixk0,ixk1,ixk2,ixk3,ixk4,ex_at])
    unfold drawLevel
    rw [ej,ej2]
    generalize hneed : -(S.getD (249 - i) 0) - d.sum = need
    refine ⟨rfl,for_nat (fun k ρ=>∃ a6 a7 a8,ρ = [some (B.p (D.lst (lots.map dO))),some (B.p (D.lst (S.map D.int))),some (B.o (D.lst ((((ord.take k).foldl (drawStep lots (249 - (i:Nat))) (d,need)).1).map D.int))),some (B.p (D.lst (ord.map D.int))),some (B.p (D.int (249 - (i:Nat)))),some (B.p (D.int (((ord.take k).foldl (drawStep lots (249 - (i:Nat))) (d,need)).2))),a6,a7,a8]) ⟨a6,a7,a8,rfl⟩ ?_ ?_⟩
    · rintro k y ρ hy ⟨b6,b7,b8,rfl⟩
      rw [List.getElem?_map] at hy
      cases ec:ord[k]? with
      | none=>rw [ec] at hy; cases hy
      | some n =>
      rw [ec] at hy
      cases hy
      obtain ⟨m,rfl,hm⟩:=hord n (List.mem_of_getElem? ec)
      rw [foldl_take _ _ ec]
      have hl2:=drawFold_len lots (249 - (i:Nat)) (ord.take k) (d,need)
      generalize (ord.take k).foldl (drawStep lots (249 - (i:Nat))) (d,need) = st at hl2 ⊢
      obtain ⟨e,nd⟩:=st
      have hl3:e.length = lots.length:=hl2.trans hlen
      have em:lots[m]? = some (lots.getD m (0,0,0)):=by rw [List.getD_eq_getElem?_getD,List.getElem?_eq_getElem hm]; rfl
      have ee:e[m]? = some (e.getD m 0):=by rw [List.getD_eq_getElem?_getD,List.getElem?_eq_getElem (by lia)]; rfl
      have g2:atI (lots.map dO) ((m:Nat) : Int) = some (dO (lots.getD m (0,0,0))):=atI_of em
      have g3:atI (e.map D.int) ((m:Nat) : Int) = some (.int (e.getD m 0)):=atI_of ee
      unfold drawStep
      rw [Int.toNat_natCast]
      dsimp only
      generalize lots.getD m (0,0,0) = lot at g2 ⊢
      repeat (first | dsimp only [dO] | walk_at "rs1" | set_option simprocs false in simp only [ixk0,ixk1,ixk2,ixk3,ixk4,ex_at,g2])
      refine ⟨fun z1=>⟨fun z2=>?_,fun z2=>?_⟩,fun z1=>?_⟩
      · have w1:=of_decide_eq_true z1
        have w2:=of_decide_eq_true z2
        repeat (first | walk_at "rs1" | set_option simprocs false in simp only [ixk0,ixk1,ixk2,ixk3,ixk4,ex_at,g3])
        have emin:(if lot.2.2 - e.getD m 0 < nd then lot.2.2 - e.getD m 0 else nd) = min nd (lot.2.2 - e.getD m 0):=by
          by_cases z:lot.2.2 - e.getD m 0 < nd
          · rw [if_pos z]; lia
          · rw [if_neg z]; lia
        rw [emin,if_pos ⟨w1,w2⟩]
        refine ⟨rfl,m,_,?_,by rw [List.getElem?_map,ee]; rfl,?_⟩
        · rw [List.length_map]
          unfold ixN
          rw [if_pos (by lia),if_pos (by lia)]
          simp
        rw [← List.map_set]
        exact ⟨_,_,_,rfl⟩
      · have w2:=of_decide_eq_false z2
        rw [if_neg fun z=>w2 z.2]
        exact ⟨_,_,b8,rfl⟩
      · have w1:=of_decide_eq_false z1
        rw [if_neg fun z=>w1 z.1]
        exact ⟨fun z=>(nomatch z),fun _=>⟨_,_,b8,rfl⟩⟩
    · rintro ρ ⟨b6,b7,b8,rfl⟩
      rw [List.length_map,List.take_length]
      exact ⟨_,_,_,_,_,rfl⟩
  · rintro ρ ⟨a4,a5,a6,a7,a8,rfl⟩
    rw [downTo_len]
    repeat (first | walk_at "rs1" | set_option simprocs false in simp only [ixk0,ixk1,ixk2,ixk3,ixk4,ex_at])
    exact q ord hp ho
noncomputable def MaxOf (ns:List Int) (m:Int) : Prop:=m ∈ ns∧∀ z ∈ ns,z ≤ m
noncomputable def LeastP (lots:List S3) (l:Int) : Prop:=(lots = []→l = 0)∧(lots ≠ []→(∃ x ∈ lots,x.2.1 = l)∧∀ x ∈ lots,l ≤ x.2.1)
noncomputable def hiF (S:List Int) : Nat→Int
  | 0=>250
  | k + 1=>if S.getD (250 - k) 0 = 0 then 249 - (k:Nat) else hiF S k
noncomputable def pricesF (lots:List S3) (dr:List Int) (h:Int) : List Int:=(lots.zip dr).filterMap fun p=>if 0 < p.2∧p.1.1 ≤ h then some p.1.2.1 else none
noncomputable def WorthsAre (lots:List S3) (dr S:List Int) (l:Int) (W:List Int) : Prop:=∀ (k:Nat) (w:Int),W[k]? = some w→MaxOf (l :: pricesF lots dr (hiF S (k + 1))) w
theorem leastP_of {lots:List S3} {m:Int} (h:(lots.map fun x=>x.2.1) = []∧m = 0 ∨ m ∈ (lots.map fun x=>x.2.1)∧∀ z ∈ lots.map (fun x=>x.2.1),m ≤ z) : LeastP lots m:=by
  rcases h with ⟨h1,h2⟩ | ⟨h1,h2⟩
  · exact ⟨fun _=>h2,fun z=>absurd (List.map_eq_nil_iff.mp h1) z⟩
  · obtain ⟨x,hx,e⟩:=List.mem_map.mp h1
    refine ⟨fun z=>?_,fun _=>⟨⟨x,hx,e⟩,fun y hy=>h2 _ (List.mem_map.mpr ⟨y,hy,rfl⟩)⟩⟩
    rw [z] at hx
    cases hx
noncomputable def r_worths_of:DR:=fun ds P=>∃ (lots:List S3) (dr S:List Int),ds = [.lst (lots.map dO),dA dr,.lst (S.map D.int)]∧lots.length ≤ 12∧S.length = 251∧∀ (l:Int) (W:List Int),LeastP lots l→W.length = 250→WorthsAre lots dr S l W→P (.o (.lst (W.reverse.map D.int)))
theorem ok_worths_of (T:Blt mg) (F:Fun K "worths_of" "worths_of" s_worths_of f fd) : FnOk P w K mg base CX0 1 f fd ["lots","drawn","surpluses"] (spD K r_worths_of):=by
  refine okD F sc_worths_of (fun ds Q h=>by obtain ⟨lots,dr,S,rfl,nl,ns,q⟩:=h; rfl) fun cdv A outer s H E hr=>⟨_,(dss_cons (ds_setP (i:=3) sc_worths_of.nd rfl (Or.inl rfl) (de_minD (d:=0) rfl (by rfl) T.b_min (da_cons (de_lc (g:=(.n 0)) (tc:=dTrue) (te:=(dOp dIx (dVar 0) (dC _))) (sc0:=defScope s_worths_of) (N0:=["lots","drawn","surpluses","least","worths","highest","level","prices"]) ["lot"] [none] rfl (di_list (dv 0)) (fun _ _ _ _ _=>(pg_name (i:=0) (show (["lot"] : List Str).Nodup by decide +kernel) rfl (Or.inl rfl))) (fun _ _ _ _ _=>difs_nil) (fun _ _ _ _ _=>(de_ix (dv 0) de_int))) da_nil)))
      (dss_cons (ds_set (i:=4) sc_worths_of.nd rfl (Or.inl rfl) (de_lst da_nil))
      (dss_cons (ds_setP (i:=5) sc_worths_of.nd rfl (Or.inr rfl) (de_gI (by rfl) T.g_LEVELS))
      (dss_cons (ds_forS (g:=(.n 6)) PassesOwn.never rfl (dis_rng3 (by rfl) T.b_range (da_cons (de_op od_sub (de_gI (by rfl) T.g_LEVELS) de_int) (da_cons (de_neg de_int) (da_cons (de_neg de_int) da_nil)))) (pg_name (i:=6) sc_worths_of.nd rfl (Or.inl rfl)) (dss_cons (ds_if (dt_cmp od_eq (de_ix (dv 2) (de_op od_plus (dv 6) de_int)) de_int (nomark _)) (dss_one (ds_setP (i:=5) sc_worths_of.nd rfl (Or.inr rfl) (dv 6))) dss_nil)
      (dss_cons (ds_setLCP (i:=7) sc_worths_of.nd rfl (Or.inl rfl) (g:=(.t [0,1])) (tc:=(dAnd (dTst (dOp _ (dVar 1) (dC _))) (dTst (dOp _ (dOp dIx (dVar 0) (dC _)) (dVar 2))))) (te:=(dOp dIx (dVar 0) (dC _))) (sc0:=defScope s_worths_of) (N0:=["lots","drawn","surpluses","least","worths","highest","level","prices"]) ["lot","heat","highest"] [none,none,some 5] rfl (di_zip (by rfl) T.b_zip (da_cons (dv 0) (da_cons (dv 1) da_nil))) (fun _ _ _ _ _=>(pg_seq rfl (pgs_cons (pg_name (i:=0) (show (["lot","heat","highest"] : List Str).Nodup by decide +kernel) rfl (Or.inl rfl)) (pgs_cons (pg_name (i:=1) (show (["lot","heat","highest"] : List Str).Nodup by decide +kernel) rfl (Or.inl rfl)) pgs_nil)))) (fun _ _ _ _ _=>(difs_one (dw_and (dt_cmp od_gt (dv 1) de_int (nomark _)) (dw_and1 (dt_cmp od_le (de_ix (dv 0) de_int) (dv 2) (nomark _)))).dt)) (fun _ _ _ _ _=>(de_ix (dv 0) de_int)))
      (dss_one (ds_app (i:=4) rfl (by first | exact Or.inl rfl | exact Or.inr (Or.inl rfl) | exact Or.inr (Or.inr rfl)) (de_callB (cd_maxL rfl) (by rfl) T.b_max PyProof.Rows.boot_max (da_cons (de_op od_plus (de_lst (da_cons (dv 3) da_nil)) (dv 7)) da_nil)))))))
      (dss_one (ds_ret (de_revL rfl (by rfl) T.b_reversed (by rfl) T.b_list (da_cons (dv 4) da_nil)))))))),fun ds Q h=>?_⟩
  obtain ⟨lots,dr,S,rfl,nl,ns,q⟩:=h
  repeat (first | dsimp only [dA] | walk_at "rs1" | set_option simprocs false in simp only [ixk0,ixk1,ixk2,ixk3,ixk4,ex_at])
  refine lc_mapE (fun d=>match d with | .tup [_,b,_]=>b | d=>d) (fun x=>.int x.2.1) (fun _ _=>rfl) (by lia) (fun x hx=>?_) ?_
  · repeat (first | dsimp only [dO] | walk_at "rs1" | set_option simprocs false in simp only [ixk0,ixk1,ixk2,ixk3,ixk4,ex_at])
  have ep:lots.map (fun x=>D.int x.2.1) = (lots.map fun x=>x.2.1).map D.int:=by rw [List.map_map]; rfl
  rw [ep]
  repeat (first | walk_at "rs1" | set_option simprocs false in simp only [ixk0,ixk1,ixk2,ixk3,ixk4,ex_at])
  refine ⟨_,rfl,fun l hl=>?_⟩
  have hl:=leastP_of hl
  refine ⟨trivial,⟨by decide,by decide,by decide,by decide⟩,?_⟩
  refine for_nat (fun i ρ=>∃ (W:List Int) (a6 a7:Option B),ρ = [some (B.p (D.lst (lots.map dO))),some (B.p (D.lst (dr.map D.int))),some (B.p (D.lst (S.map D.int))),some (B.p (D.int l)),some (B.o (D.lst (W.map D.int))),some (B.p (D.int (hiF S i))),a6,a7]∧W.length = i∧WorthsAre lots dr S l W) ⟨[],none,none,rfl,rfl,fun k w h=>by simp at h⟩ ?_ ?_
  · rintro i x ρ hx ⟨W,a6,a7,rfl,hW,hws⟩
    obtain ⟨hi,rfl⟩:=downTo_get hx
    have hi':i < 250:=hi
    have ej:(250 - 1:Int) + (i:Nat) * (-1) + 1 = ((250 - i:Nat) : Int):=by lia
    have ej2:(250 - 1:Int) + (i:Nat) * (-1) = 249 - (i:Nat):=by lia
    have es:S[250 - i]? = some (S.getD (250 - i) 0):=by rw [List.getD_eq_getElem?_getD,List.getElem?_eq_getElem (by lia)]; rfl
    have g1:atI (S.map D.int) ((250 - 1:Int) + (i:Nat) * (-1) + 1) = some (.int (S.getD (250 - i) 0)):=by rw [ej]; exact atI_of es
    repeat (first | walk_at "rs1" | set_option simprocs false in simp only [ixk0,ixk1,ixk2,ixk3,ixk4,ex_at,g1])
    rw [ej2]
    refine ⟨fun z=>?_,fun z=>?_⟩
    · rw [← (show hiF S (i + 1) = 249 - (i:Nat) from if_pos (of_decide_eq_true z))]
      rw [zipD_map]
      refine lc_funE (fun d=>match d with | .tup [.tup [.int a,b,_],.int h]=>if 0 < h∧a ≤ hiF S (i + 1) then some b else none | d=>some d) (fun p=>if 0 < p.2∧p.1.1 ≤ hiF S (i + 1) then some (.int p.1.2.1) else none) (fun _ _=>rfl) (by rw [List.length_zip]; lia) (fun x hx=>?_) ?_
      · repeat (first | dsimp only [dO] | walk_at "rs1" | set_option simprocs false in simp only [ixk0,ixk1,ixk2,ixk3,ixk4,ex_at])
        by_cases h1:0 < x.2 <;> by_cases h2:x.1.1 ≤ hiF S (i + 1) <;> simp [h1,h2]
      have em:(lots.zip dr).filterMap (fun p=>if 0 < p.2∧p.1.1 ≤ hiF S (i + 1) then some (D.int p.1.2.1) else none) = (pricesF lots dr (hiF S (i + 1))).map D.int:=by
        unfold pricesF
        rw [List.map_filterMap]
        refine filterMap_congr' fun x _=>?_
        split <;> rfl
      rw [em]
      repeat (first | walk_at "rs1" | set_option simprocs false in simp only [ixk0,ixk1,ixk2,ixk3,ixk4,ex_at])
      have lp:(pricesF lots dr (hiF S (i + 1))).length ≤ 12:=by
        unfold pricesF
        refine Nat.le_trans (List.length_filterMap_le ..) ?_
        rw [List.length_zip]; lia
      refine ⟨small_len (by rw [List.length_map]; show 1 + _ ≤ _; lia),l :: pricesF lots dr (hiF S (i + 1)),rfl,(fun z=>nomatch z),fun m hm hle=>⟨small_len (by rw [List.length_map]; lia),W ++ [m],_,_,by rw [List.map_append]; rfl,by rw [List.length_append,hW]; rfl,fun k w hk=>?_⟩⟩
      by_cases hkw:k < W.length
      · rw [List.getElem?_append_left hkw] at hk
        exact hws k w hk
      · rw [List.getElem?_append_right (by lia)] at hk
        have hk0:k - W.length = 0:=by
          rcases Nat.eq_zero_or_pos (k - W.length) with y | y
          · exact y
          · rw [List.getElem?_eq_none (by rw [List.length_singleton]; lia)] at hk; cases hk
        have hki:k = i:=by lia
        rw [hk0] at hk
        cases hk
        subst hki
        exact ⟨hm,hle⟩
    · rw [← (show hiF S (i + 1) = hiF S i from if_neg (of_decide_eq_false z))]
      rw [zipD_map]
      refine lc_funE (fun d=>match d with | .tup [.tup [.int a,b,_],.int h]=>if 0 < h∧a ≤ hiF S (i + 1) then some b else none | d=>some d) (fun p=>if 0 < p.2∧p.1.1 ≤ hiF S (i + 1) then some (.int p.1.2.1) else none) (fun _ _=>rfl) (by rw [List.length_zip]; lia) (fun x hx=>?_) ?_
      · repeat (first | dsimp only [dO] | walk_at "rs1" | set_option simprocs false in simp only [ixk0,ixk1,ixk2,ixk3,ixk4,ex_at])
        by_cases h1:0 < x.2 <;> by_cases h2:x.1.1 ≤ hiF S (i + 1) <;> simp [h1,h2]
      have em:(lots.zip dr).filterMap (fun p=>if 0 < p.2∧p.1.1 ≤ hiF S (i + 1) then some (D.int p.1.2.1) else none) = (pricesF lots dr (hiF S (i + 1))).map D.int:=by
        unfold pricesF
        rw [List.map_filterMap]
        refine filterMap_congr' fun x _=>?_
        split <;> rfl
      rw [em]
      repeat (first | walk_at "rs1" | set_option simprocs false in simp only [ixk0,ixk1,ixk2,ixk3,ixk4,ex_at])
      have lp:(pricesF lots dr (hiF S (i + 1))).length ≤ 12:=by
        unfold pricesF
        refine Nat.le_trans (List.length_filterMap_le ..) ?_
        rw [List.length_zip]; lia
      refine ⟨small_len (by rw [List.length_map]; show 1 + _ ≤ _; lia),l :: pricesF lots dr (hiF S (i + 1)),rfl,(fun z=>nomatch z),fun m hm hle=>⟨small_len (by rw [List.length_map]; lia),W ++ [m],_,_,by rw [List.map_append]; rfl,by rw [List.length_append,hW]; rfl,fun k w hk=>?_⟩⟩
      by_cases hkw:k < W.length
      · rw [List.getElem?_append_left hkw] at hk
        exact hws k w hk
      · rw [List.getElem?_append_right (by lia)] at hk
        have hk0:k - W.length = 0:=by
          rcases Nat.eq_zero_or_pos (k - W.length) with y | y
          · exact y
          · rw [List.getElem?_eq_none (by rw [List.length_singleton]; lia)] at hk; cases hk
        have hki:k = i:=by lia
        rw [hk0] at hk
        cases hk
        subst hki
        exact ⟨hm,hle⟩
  · rintro ρ ⟨W,a6,a7,rfl,hW,hws⟩
    rw [downTo_len] at hW
    repeat (first | walk_at "rs1" | set_option simprocs false in simp only [ixk0,ixk1,ixk2,ixk3,ixk4,ex_at])
    rw [← List.map_reverse]
    exact q l W hl hW hws
noncomputable def OrdOk (lots:List S3) (ord:List Int) : Prop:=ord.Perm ((List.range lots.length).map Int.ofNat)∧KeyOrd (lots.map fun x=>x.2.1) ord
noncomputable def drOf (g:Int) (hs cs fs ws:List S3) (ord:List Int) : List Int:=drawnF (lotF g fs ws) (surL g hs cs fs ws (noneL fs) (mostL ws)) ord
noncomputable def asOf (fs:List S3) (dr:List Int) : List Int:=dr.take fs.length
noncomputable def bsOf (fs ws:List S3) (dr:List Int) : List Int:=leftL ws (dr.drop fs.length)
noncomputable def BoughtIs (g:Int) (hs cs fs ws:List S3) (d:D) : Prop:=∃ (ord:List Int) (l:Int) (W:List Int),OrdOk (lotF g fs ws) ord∧LeastP (lotF g fs ws) l∧W.length = 250 ∧
  WorthsAre (lotF g fs ws) (drOf g hs cs fs ws ord) (surL g hs cs fs ws (asOf fs (drOf g hs cs fs ws ord)) (bsOf fs ws (drOf g hs cs fs ws ord))) l W ∧
  d = .tup [.str "bought",.tup [dA (asOf fs (drOf g hs cs fs ws ord)),dA (bsOf fs ws (drOf g hs cs fs ws ord))],.int (priceF fs (asOf fs (drOf g hs cs fs ws ord)) + priceF ws (bsOf fs ws (drOf g hs cs fs ws ord))),.lst (W.reverse.map D.int)]
noncomputable def CheapIs (g:Int) (hs cs fs ws:List S3) (d:D) : Prop:=
  (∃ (k:Str) (L:Int),ShortIs g hs cs fs ws (.tup [.str k,.int L])∧d = .tup [.str "short",.str k,.int L]) ∨ (ShortIs g hs cs fs ws .non∧BoughtIs g hs cs fs ws d)
noncomputable def r_cheapest:DR:=fun ds P=>∃ g hs cs fs ws,ds = [dW g hs cs,dS fs ws]∧WksOk g hs cs∧fs.length ≤ 6∧ws.length ≤ 6∧(∀ x ∈ fs ++ ws,0 ≤ x.2.1∧x.2.1 ≤ 1000000)∧∀ d,CheapIs g hs cs fs ws d→P (.p d)
theorem surL_len (g:Int) (hs cs fs ws:List S3) (as bs:List Int) : (surL g hs cs fs ws as bs).length = 251:=by unfold surL; simp
theorem lotF_len (g:Int) (fs ws:List S3) : (lotF g fs ws).length = fs.length + ws.length:=by unfold lotF; simp
theorem ok_cheapest (T:Blt mg) (F_shortage:Fn P w K mg base "shortage" 5 ["works","shop"] (spD K r_shortage)) (F_lots_of:Fn P w K mg base "lots_of" 2 ["works","shop"] (spD K r_lots_of)) (F_drawn_of:Fn P w K mg base "drawn_of" 1 ["lots","surpluses"] (spDT K Pt qnL r_drawn_of)) (F_buying_of:Fn P w K mg base "buying_of" 1 ["shop","drawn"] (spD K r_buying_of)) (F_worths_of:Fn P w K mg base "worths_of" 1 ["lots","drawn","surpluses"] (spD K r_worths_of)) (F_surpluses_above:Fn P w K mg base "surpluses_above" 4 ["works","shop","buying"] (spD K r_surpluses_above)) (F_price_of:Fn P w K mg base "price_of" 1 ["shop","buying"] (spD K r_price_of)) (F_nothing:Fn P w K mg base "nothing" 1 ["offers"] (spD K r_nothing)) (F_mosts:Fn P w K mg base "mosts" 1 ["offers"] (spD K r_mosts)) (F:Fun K "cheapest" "cheapest" s_cheapest f fd) : FnOk P w K mg base CX0 6 f fd ["works","shop"] (spDT K Pt qnL r_cheapest):=by
  refine okDT F sc_cheapest (fun ds Q h=>by obtain ⟨g,hs,cs,fs,ws,rfl,ok,nf,nw,np,q⟩:=h; rfl) fun cdv A outer s H E hr hT=>⟨_,(dss_cons (ds_setP (i:=2) sc_cheapest.nd rfl (Or.inl rfl) (de_fn F_shortage (hr.mono (by decide)) (by rfl) (da_cons (dv 0) (da_cons (dv 1) da_nil))))
      (dss_cons (ds_if (dt_cmp od_notN (dv 2) de_non (nomark _)) (dss_one (ds_ret (de_tup (da_cons de_str (da_cons (de_ix (dv 2) de_int) (da_cons (de_ix (dv 2) de_int) da_nil)))))) dss_nil)
      (dss_cons (ds_setP (i:=3) sc_cheapest.nd rfl (Or.inl rfl) (de_fn F_lots_of (hr.mono (by decide)) (by rfl) (da_cons (dv 0) (da_cons (dv 1) da_nil))))
      (dss_cons (ds_setP (i:=4) sc_cheapest.nd rfl (Or.inl rfl) (de_fnT hT F_drawn_of (hr.mono (by decide)) (by rfl) (da_cons (dv 3) (da_cons (de_fn F_surpluses_above (hr.mono (by decide)) (by rfl) (da_cons (dv 0) (da_cons (dv 1) (da_cons (de_tup (da_cons (de_fn F_nothing (hr.mono (by decide)) (by rfl) (da_cons (de_ix (dv 1) de_int) da_nil)) (da_cons (de_fn F_mosts (hr.mono (by decide)) (by rfl) (da_cons (de_ix (dv 1) de_int) da_nil)) da_nil))) da_nil)))) da_nil))))
      (dss_cons (ds_setP (i:=5) sc_cheapest.nd rfl (Or.inl rfl) (de_fn F_buying_of (hr.mono (by decide)) (by rfl) (da_cons (dv 1) (da_cons (dv 4) da_nil))))
      (dss_cons (ds_setP (i:=6) sc_cheapest.nd rfl (Or.inl rfl) (de_fn F_worths_of (hr.mono (by decide)) (by rfl) (da_cons (dv 3) (da_cons (dv 4) (da_cons (de_fn F_surpluses_above (hr.mono (by decide)) (by rfl) (da_cons (dv 0) (da_cons (dv 1) (da_cons (dv 5) da_nil)))) da_nil)))))
      (dss_one (ds_ret (de_tup (da_cons de_str (da_cons (dv 5) (da_cons (de_fn F_price_of (hr.mono (by decide)) (by rfl) (da_cons (dv 1) (da_cons (dv 5) da_nil))) (da_cons (dv 6) da_nil))))))))))))),fun ds Q h=>?_⟩
  obtain ⟨g,hs,cs,fs,ws,rfl,ok,nf,nw,np,q⟩:=h
  repeat (first | walk_at "rs1" | set_option simprocs false in simp only [ixk0,ixk1,ixk2,ixk3,ixk4,ex_at])
  refine ⟨g,hs,cs,fs,ws,rfl,ok,by lia,by lia,fun d hd=>?_⟩
  repeat (first | walk_at "rs1" | set_option simprocs false in simp only [ixk0,ixk1,ixk2,ixk3,ixk4,ex_at])
  have sh:∀ k (i:Nat),d = .tup [.str k,.int (i:Nat)]→Q (.p (.tup [.str "short",.str k,.int (i:Nat)])):=fun k i e=>q _ (.inl ⟨k,_,e ▸ hd,rfl⟩)
  refine ⟨fun z=>?_,fun z=>?_⟩
  · have hd':=hd
    rcases hd' with ⟨rfl,_⟩ | ⟨i,hi,_,⟨rfl,_⟩ | ⟨rfl,_⟩⟩
    · cases z
    · repeat (first | walk_at "rs1" | set_option simprocs false in simp only [ixk0,ixk1,ixk2,ixk3,ixk4,ex_at])
      exact sh _ i rfl
    · repeat (first | walk_at "rs1" | set_option simprocs false in simp only [ixk0,ixk1,ixk2,ixk3,ixk4,ex_at])
      exact sh _ i rfl
  have en:d = .non:=by
    have hd':=hd
    rcases hd' with ⟨rfl,_⟩ | ⟨i,hi,_,⟨rfl,_⟩ | ⟨rfl,_⟩⟩
    · rfl
    · cases z
    · cases z
  subst en
  refine ⟨g,hs,cs,fs,ws,rfl,nf,nw,?_⟩
  repeat (first | dsimp only [dS] | walk_at "rs1" | set_option simprocs false in simp only [ixk0,ixk1,ixk2,ixk3,ixk4,ex_at])
  refine ⟨fs,rfl,by lia,?_⟩
  repeat (first | walk_at "rs1" | set_option simprocs false in simp only [ixk0,ixk1,ixk2,ixk3,ixk4,ex_at])
  refine ⟨ws,rfl,by lia,?_⟩
  repeat (first | walk_at "rs1" | set_option simprocs false in simp only [ixk0,ixk1,ixk2,ixk3,ixk4,ex_at])
  refine ⟨g,hs,cs,fs,ws,noneL fs,mostL ws,rfl,ok,by lia,by lia,?_⟩
  repeat (first | walk_at "rs1" | set_option simprocs false in simp only [ixk0,ixk1,ixk2,ixk3,ixk4,ex_at])
  refine ⟨lotF g fs ws,_,rfl,by rw [lotF_len]; lia,surL_len ..,fun ord hp ho=>?_⟩
  have ldr:(drOf g hs cs fs ws ord).length = fs.length + ws.length:=by
    unfold drOf drawnF
    rw [levels_len,List.length_map,lotF_len]
  have qq:=fun (l:Int) (W:List Int) (h1:LeastP (lotF g fs ws) l) (h2:W.length = 250) h3=>q _ (.inr ⟨hd,ord,l,W,⟨hp,ho⟩,h1,h2,h3,rfl⟩)
  unfold drOf at qq ldr
  generalize drawnF (lotF g fs ws) (surL g hs cs fs ws (noneL fs) (mostL ws)) ord = dr at qq ldr ⊢
  unfold asOf bsOf at qq
  repeat (first | walk_at "rs1" | set_option simprocs false in simp only [ixk0,ixk1,ixk2,ixk3,ixk4,ex_at])
  refine ⟨fs,ws,dr,rfl,nw,?_⟩
  repeat (first | walk_at "rs1" | set_option simprocs false in simp only [ixk0,ixk1,ixk2,ixk3,ixk4,ex_at])
  refine ⟨g,hs,cs,fs,ws,dr.take fs.length,leftL ws (dr.drop fs.length),rfl,ok,by lia,by lia,?_⟩
  repeat (first | walk_at "rs1" | set_option simprocs false in simp only [ixk0,ixk1,ixk2,ixk3,ixk4,ex_at])
  refine ⟨lotF g fs ws,dr,_,rfl,by rw [lotF_len]; lia,surL_len ..,fun l W hl hW hws=>?_⟩
  repeat (first | walk_at "rs1" | set_option simprocs false in simp only [ixk0,ixk1,ixk2,ixk3,ixk4,ex_at])
  refine ⟨fs,ws,_,_,rfl,by lia,by lia,by rw [List.length_take]; lia,by unfold leftL; rw [List.length_map,List.length_zip,List.length_drop]; lia,np,?_⟩
  repeat (first | walk_at "rs1" | set_option simprocs false in simp only [ixk0,ixk1,ixk2,ixk3,ixk4,ex_at])
  exact qq l W hl hW hws
theorem amtF_zero (L:Int) : ∀ (xs:List Int) (n:Nat),amtF (xs.zip (List.replicate n 0)) L = 0
  | [],_=>by simp [amtF]
  | _ :: _,0=>by simp [amtF]
  | x :: xs,n + 1=>by
    have ih:=amtF_zero L xs n
    unfold amtF at *
    rw [List.replicate_succ,List.zip_cons_cons,List.filterMap_cons]
    split
    · exact ih
    · rename_i b hb
      rw [List.sum_cons,ih]
      by_cases z:L ≤ x
      · rw [if_pos z] at hb; cases hb; rfl
      · rw [if_neg z] at hb; cases hb
theorem map_zero {α:Type} (xs:List α) : xs.map (fun _=>(0:Int)) = List.replicate xs.length 0:=by
  induction xs with
  | nil=>rfl
  | cons x xs ih=>rw [List.map_cons,ih]; rfl
theorem ab_amt (L:Int) : ∀ (xs:List S3) (d:List Int),ab L xs d = amtF ((xs.map fun x=>x.1).zip d) L
  | [],_=>rfl
  | _ :: _,[]=>rfl
  | x :: xs,a :: d=>by
    have ih:=ab_amt L xs d
    unfold amtF at *
    rw [List.map_cons,List.zip_cons_cons,List.filterMap_cons]
    simp only [ab]
    rw [ih]
    by_cases z:L ≤ x.1
    · rw [if_pos z,if_pos z,List.sum_cons]
    · rw [if_neg z,if_neg z,Int.zero_add]
theorem ab_append (L:Int) : ∀ (xs ys:List S3) (d e:List Int),d.length = xs.length→ab L (xs ++ ys) (d ++ e) = ab L xs d + ab L ys e
  | [],_,[],_,_=>by simp [ab]
  | [],_,_ :: _,_,h=>by simp at h
  | x :: xs,_,[],_,h=>by simp at h
  | x :: xs,ys,a :: d,e,h=>by
    have ih:=ab_append L xs ys d e (by simpa using h)
    simp only [List.cons_append,ab]
    rw [ih,Int.add_assoc]
theorem amt_left (L g:Int) : ∀ (ws:List S3) (e:List Int),e.length = ws.length→amtF ((wlv g ws).zip (leftL ws e)) L = amtF ((wlv g ws).zip (mostL ws)) L - amtF ((wlv g ws).zip e) L
  | [],_,_=>rfl
  | w :: ws,[],h=>by simp at h
  | w :: ws,a :: e,h=>by
    have ih:=amt_left L g ws e (by simpa using h)
    unfold amtF wlv leftL mostL at *
    rw [List.map_cons,List.zip_cons_cons,List.map_cons,List.zip_cons_cons,List.map_cons,List.zip_cons_cons,List.zip_cons_cons,List.filterMap_cons,List.filterMap_cons,List.filterMap_cons]
    dsimp only
    by_cases z:L ≤ w.1 + g
    · rw [if_pos z,if_pos z,if_pos z]
      dsimp only
      rw [List.sum_cons,List.sum_cons,List.sum_cons,ih]
      lia
    · rw [if_neg z,if_neg z,if_neg z]
      exact ih
noncomputable def fireLots (fs:List S3) : List S3:=fs.map fun x=>(x.1 - 1,x.2.1,x.2.2)
noncomputable def waterLots (g:Int) (ws:List S3) : List S3:=ws.map fun x=>(x.1 + g,-x.2.1,x.2.2)
theorem lots_eq (g:Int) (fs ws:List S3) : lotF g fs ws = fireLots fs ++ waterLots g ws:=rfl
theorem fireLots_lv (fs:List S3) : (fireLots fs).map (fun x=>x.1) = flv fs:=by unfold fireLots flv; rw [List.map_map]; rfl
theorem waterLots_lv (g:Int) (ws:List S3) : (waterLots g ws).map (fun x=>x.1) = wlv g ws:=by unfold waterLots wlv; rw [List.map_map]; rfl
theorem sur_drawn (g:Int) (hs cs fs ws:List S3) (dr:List Int) (L:Int) (hl:dr.length = fs.length + ws.length) :
    surF g hs cs fs ws (asOf fs dr) (bsOf fs ws dr) L = coldF g hs cs fs ws L + ab L (lotF g fs ws) dr:=by
  have e1:dr = asOf fs dr ++ dr.drop fs.length:=(List.take_append_drop fs.length dr).symm
  have l1:(asOf fs dr).length = (fireLots fs).length:=by unfold asOf fireLots; rw [List.length_take,List.length_map]; lia
  have l2:(dr.drop fs.length).length = ws.length:=by rw [List.length_drop]; lia
  have e2:ab L (lotF g fs ws) dr = amtF ((flv fs).zip (asOf fs dr)) L + amtF ((wlv g ws).zip (dr.drop fs.length)) L:=by
    rw [lots_eq]
    rw [show ab L (fireLots fs ++ waterLots g ws) dr = ab L (fireLots fs ++ waterLots g ws) (asOf fs dr ++ dr.drop fs.length) by rw [← e1]]
    rw [ab_append L _ _ _ _ l1,ab_amt,ab_amt,fireLots_lv,waterLots_lv]
  have e3:=amt_left L g ws (dr.drop fs.length) l2
  have e4:amtF ((flv fs).zip (noneL fs)) L = 0:=by unfold noneL; rw [map_zero]; exact amtF_zero ..
  rw [e2]
  unfold coldF surF bsOf
  rw [e3,e4]
  lia
theorem mos_lots (g:Int) (fs ws:List S3) : mosL (lotF g fs ws) = mostL fs ++ mostL ws:=by
  unfold mosL lotF mostL
  rw [List.map_append,List.map_map,List.map_map]
  rfl
theorem warm_cap (g:Int) (hs cs fs ws:List S3) (L:Int) : warmF g hs cs fs ws L = coldF g hs cs fs ws L + ab L (lotF g fs ws) (mosL (lotF g fs ws)):=by
  have e4:amtF ((flv fs).zip (noneL fs)) L = 0:=by unfold noneL; rw [map_zero]; exact amtF_zero ..
  have e5:amtF ((wlv g ws).zip (noneL ws)) L = 0:=by unfold noneL; rw [map_zero]; exact amtF_zero ..
  rw [mos_lots,lots_eq,ab_append L _ _ _ _ (by unfold mostL fireLots; rw [List.length_map,List.length_map]),ab_amt,ab_amt,fireLots_lv,waterLots_lv]
  unfold warmF coldF surF
  rw [e4,e5]
  lia
theorem surL_getD {g:Int} {hs cs fs ws:List S3} {as bs:List Int} {i:Nat} (h:i < 251) : (surL g hs cs fs ws as bs).getD i 0 = surF g hs cs fs ws as bs (i:Nat):=by
  unfold surL
  rw [List.getD_eq_getElem?_getD,List.getElem?_map,List.getElem?_range h]
  rfl
theorem draw_hyp {g:Int} {hs cs fs ws:List S3} (ok:WksOk g hs cs) (oi:OffsIn g fs ws) (m0:∀ x ∈ fs ++ ws,0 ≤ x.2.2) (sh:ShortIs g hs cs fs ws .non) : DrawHyp (lotF g fs ws) (surL g hs cs fs ws (noneL fs) (mostL ws)):=by
  have hn:∀ i:Nat,i < 251→0 ≤ warmF g hs cs fs ws (i:Nat)∧coldF g hs cs fs ws 0 ≤ coldF g hs cs fs ws (i:Nat):=by
    rcases sh with ⟨_,h⟩ | ⟨i,hi,_,⟨e,_⟩ | ⟨e,_⟩⟩
    · exact h
    · cases e
    · cases e
  refine ⟨fun n hlt=>?_,fun j hj=>?_,fun j hj=>?_,?_⟩
  · rw [← mosL_get,mos_lots,List.getD_eq_getElem?_getD]
    cases e:(mostL fs ++ mostL ws)[n]? with
    | none=>exact Int.le_refl _
    | some v =>
      have hv:=List.mem_of_getElem? e
      have:mostL fs ++ mostL ws = (fs ++ ws).map fun x=>x.2.2:=by unfold mostL; rw [List.map_append]
      rw [this] at hv
      obtain ⟨x,hx,rfl⟩:=List.mem_map.mp hv
      exact m0 x hx
  · rw [surL_getD (by lia)]
    have:=(hn j (by lia)).1
    rw [warm_cap] at this
    exact this
  · rw [surL_getD (by lia), surL_getD (by lia)]
    exact (hn j (by lia)).2
  · rw [surL_getD (by lia)]
    have h1:=(hn 250 (by lia)).2
    have h2:coldF g hs cs fs ws 250 = 0:=sur_top ok oi
    have h3:coldF g hs cs fs ws ((250:Nat) : Int) = 0:=h2
    show coldF g hs cs fs ws 0 ≤ 0
    lia
theorem ord_nats {lots:List S3} {ord:List Int} (h:OrdOk lots ord) : ∃ o:List Nat,ord = o.map Int.ofNat∧o.Nodup∧(∀ n,n ∈ o ↔ n < lots.length)∧o.Pairwise fun a b=>pr lots a ≤ pr lots b:=by
  obtain ⟨hp,hk⟩:=h
  have nn:∀ z ∈ ord,∃ m:Nat,z = Int.ofNat m:=fun z hz=>by
    obtain ⟨m,_,e⟩:=List.mem_map.mp (hp.mem_iff.mp hz)
    exact ⟨m,e.symm⟩
  have e:ord = (ord.map Int.toNat).map Int.ofNat:=by
    rw [List.map_map]
    conv=>lhs; rw [← List.map_id ord]
    refine List.map_congr_left fun z hz=>?_
    obtain ⟨m,rfl⟩:=nn z hz
    rfl
  have pm:(ord.map Int.toNat).Perm (List.range lots.length):=by
    have:=hp.map Int.toNat
    rw [List.map_map] at this
    have e2:(List.range lots.length).map (Int.toNat ∘ Int.ofNat) = List.range lots.length:=by
      conv=>rhs; rw [← List.map_id (List.range lots.length)]
      exact List.map_congr_left fun z _=>rfl
    rw [e2] at this
    exact this
  refine ⟨ord.map Int.toNat,e,pm.nodup_iff.mpr List.nodup_range,fun n=>by rw [pm.mem_iff,List.mem_range],?_⟩
  rw [List.pairwise_map]
  refine hk.imp fun {a b} hab=>?_
  have gd:∀ k:Nat,(lots.map fun x=>x.2.1).getD k 0 = pr lots k:=fun k=>by
    unfold pr
    rw [List.getD_eq_getElem?_getD,List.getElem?_map,List.getD_eq_getElem?_getD]
    cases lots[k]? <;> rfl
  rw [gd,gd] at hab
  exact hab
theorem drawn_inv {g:Int} {hs cs fs ws:List S3} {ord:List Int} (ok:WksOk g hs cs) (oi:OffsIn g fs ws) (m0:∀ x ∈ fs ++ ws,0 ≤ x.2.2) (sh:ShortIs g hs cs fs ws .non) (oo:OrdOk (lotF g fs ws) ord) :
    LevInv (lotF g fs ws) (surL g hs cs fs ws (noneL fs) (mostL ws)) 250 (drOf g hs cs fs ws ord):=by
  obtain ⟨o,e,h1,h2,h3⟩:=ord_nats oo
  unfold drOf drawnF
  rw [e]
  exact lev_all (draw_hyp ok oi m0 sh) h1 h2 h3 250 (Nat.le_refl _)
theorem hi_ge (S:List Int) : ∀ k:Nat,249 - (k:Int) ≤ hiF S (k + 1)
  | 0 => by unfold hiF; split
            · lia
            · unfold hiF; lia
  | k + 1=>by
    have ih:=hi_ge S k
    unfold hiF
    split
    · lia
    · lia
theorem hi_anti (S:List Int) (k:Nat) : hiF S (k + 2) ≤ hiF S (k + 1):=by
  have ih:=hi_ge S k
  rw [show hiF S (k + 2) = if S.getD (250 - (k + 1)) 0 = 0 then 249 - ((k + 1:Nat) : Int) else hiF S (k + 1) from rfl]
  split
  · lia
  · exact Int.le_refl _
theorem hi_none (S:List Int) : ∀ (k:Nat) (t:Nat),k < 250→249 - (k:Int) < t→(t:Int) ≤ hiF S (k + 1)→S.getD t 0 ≠ 0
  | 0,t,_,h1,h2=>by
    rw [show hiF S (0 + 1) = if S.getD (250 - 0) 0 = 0 then 249 - ((0:Nat) : Int) else hiF S 0 from rfl] at h2
    split at h2
    · lia
    · rename_i z
      rw [show hiF S 0 = 250 from rfl] at h2
      have:t = 250:=by lia
      subst this; exact z
  | k + 1,t,hk,h1,h2=>by
    rw [show hiF S (k + 1 + 1) = if S.getD (250 - (k + 1)) 0 = 0 then 249 - ((k + 1:Nat) : Int) else hiF S (k + 1) from rfl] at h2
    split at h2
    · lia
    · rename_i z
      by_cases e:t = 250 - (k + 1)
      · subst e; exact z
      · exact hi_none S k t (by lia) (by lia) h2
theorem prices_mem {lots:List S3} {dr:List Int} {h p:Int} : p ∈ pricesF lots dr h ↔ ∃ n,n < lots.length∧n < dr.length∧0 < dr.getD n 0∧lv lots n ≤ h∧pr lots n = p:=by
  unfold pricesF
  rw [List.mem_filterMap]
  constructor
  · rintro ⟨x,hx,e⟩
    obtain ⟨n,hn⟩:=List.mem_iff_getElem?.mp hx
    rw [List.getElem?_zip_eq_some] at hn
    obtain ⟨l1,e1⟩:=List.getElem?_eq_some_iff.mp hn.1
    obtain ⟨l2,e2⟩:=List.getElem?_eq_some_iff.mp hn.2
    split at e
    · rename_i c
      cases e
      refine ⟨n,l1,l2,?_,?_,?_⟩
      · rw [List.getD_eq_getElem?_getD,hn.2]; exact c.1
      · unfold lv; rw [List.getD_eq_getElem?_getD,hn.1]; exact c.2
      · unfold pr; rw [List.getD_eq_getElem?_getD,hn.1]; rfl
    · cases e
  · rintro ⟨n,l1,l2,c1,c2,rfl⟩
    have g1:lots[n]? = some (lots.getD n (0,0,0)):=by rw [List.getD_eq_getElem?_getD,List.getElem?_eq_getElem l1]; rfl
    have g2:dr[n]? = some (dr.getD n 0):=by rw [List.getD_eq_getElem?_getD,List.getElem?_eq_getElem l2]; rfl
    refine ⟨(lots.getD n (0,0,0),dr.getD n 0),List.mem_iff_getElem?.mpr ⟨n,List.getElem?_zip_eq_some.mpr ⟨g1,g2⟩⟩,?_⟩
    rw [if_pos ⟨c1,c2⟩]
theorem max_le {l:Int} {xs ys:List Int} {a b:Int} (h:∀ z ∈ xs,z ∈ ys) (ha:MaxOf (l :: xs) a) (hb:MaxOf (l :: ys) b) : a ≤ b:=by
  rcases List.mem_cons.mp ha.1 with z | z
  · rw [z]; exact hb.2 l (List.mem_cons_self ..)
  · exact hb.2 a (List.mem_cons_of_mem _ (h a z))
theorem prices_sub {lots:List S3} {dr:List Int} {h h':Int} (e:h ≤ h') : ∀ z ∈ pricesF lots dr h,z ∈ pricesF lots dr h':=fun z hz=>by
  obtain ⟨n,a,b,c,d,f⟩:=prices_mem.mp hz
  exact prices_mem.mpr ⟨n,a,b,c,by lia,f⟩
theorem w_max {lots:List S3} {dr S:List Int} {l:Int} {W:List Int} (hW:W.length = 250) (h:WorthsAre lots dr S l W) {L:Nat} (hL:L < 250) : MaxOf (l :: pricesF lots dr (hiF S (250 - L))) (W.reverse.getD L 0):=by
  have e:W.reverse[L]? = W[249 - L]?:=by rw [List.getElem?_reverse (by lia),hW]
  have g:W[249 - L]? = some (W.reverse.getD L 0):=by
    rw [List.getD_eq_getElem?_getD,e,List.getElem?_eq_getElem (by lia)]; rfl
  have:=h (249 - L) _ g
  rw [show 249 - L + 1 = 250 - L by lia] at this
  exact this
theorem w_mono {lots:List S3} {dr S:List Int} {l:Int} {W:List Int} (hW:W.length = 250) (h:WorthsAre lots dr S l W) {L:Nat} (h1:1 ≤ L) (hL:L < 250) : W.reverse.getD (L - 1) 0 ≤ W.reverse.getD L 0:=by
  refine max_le (prices_sub ?_) (w_max hW h (L:=L - 1) (by lia)) (w_max hW h hL)
  have:=hi_anti S (249 - L)
  rw [show 250 - (L - 1) = 249 - L + 2 by lia,show 250 - L = 249 - L + 1 by lia]
  exact this
theorem w_same {lots:List S3} {dr S:List Int} {l:Int} {W:List Int} (hW:W.length = 250) (h:WorthsAre lots dr S l W) {L:Nat} (h1:1 ≤ L) (hL:L < 250) (hs:S.getD L 0 ≠ 0) : W.reverse.getD (L - 1) 0 = W.reverse.getD L 0:=by
  have a:=w_max hW h (L:=L - 1) (by lia)
  have b:=w_max hW h hL
  have e:hiF S (250 - (L - 1)) = hiF S (250 - L):=by
    rw [show 250 - (L - 1) = (250 - L) + 1 by lia]
    show (if S.getD (250 - (250 - L)) 0 = 0 then _ else _) = _
    rw [show 250 - (250 - L) = L by lia,if_neg hs]
  rw [e] at a
  have x:=a.2 _ b.1
  have y:=b.2 _ a.1
  lia
theorem w_low {lots:List S3} {dr S:List Int} {l:Int} {W:List Int} (hW:W.length = 250) (h:WorthsAre lots dr S l W) {n L:Nat} (hn:n < lots.length) (hd:n < dr.length) (eL:lv lots n = (L:Nat)) (hL:L < 250) (pos:0 < dr.getD n 0) : pr lots n ≤ W.reverse.getD L 0:=by
  refine (w_max hW h hL).2 _ (List.mem_cons_of_mem _ (prices_mem.mpr ⟨n,hn,hd,pos,?_,rfl⟩))
  have:=hi_ge S (249 - L)
  rw [show 249 - L + 1 = 250 - L by lia] at this
  lia
theorem w_high {lots:List S3} {dr S S':List Int} {l:Int} {W:List Int} (hW:W.length = 250) (h:WorthsAre lots dr S' l W) (hl:LeastP lots l) (I:LevInv lots S 250 dr) (hS:∀ t:Nat,t ≤ 249→S'.getD t 0 = S.getD t 0 + ab (t:Nat) lots dr) {n L:Nat} (hn:n < lots.length) (eL:lv lots n = (L:Nat)) (hL:L < 250) (lt:dr.getD n 0 < ms lots n) : W.reverse.getD L 0 ≤ pr lots n:=by
  have m:=w_max hW h hL
  rcases List.mem_cons.mp m.1 with z | z
  · rw [z]
    have ne:lots ≠ []:=fun e=>by rw [e] at hn; simp at hn
    have g1:lots.getD n (0,0,0) ∈ lots:=by
      rw [List.getD_eq_getElem?_getD,List.getElem?_eq_getElem hn]
      exact List.getElem_mem hn
    exact (hl.2 ne).2 _ g1
  · obtain ⟨q,q1,q2,q3,q4,q5⟩:=prices_mem.mp z
    rw [← q5]
    rcases Int.lt_or_le (pr lots n) (pr lots q) with w | w
    · obtain ⟨t,t1,t2,t3,t4,t5⟩:=I.sep n q hn q1 w lt q3
      have ne:=hi_none S' (249 - L) t (by lia) (by lia) (by rw [show 249 - L + 1 = 250 - L by lia]; lia)
      rw [hS t t1] at ne
      exact absurd t5 ne
    · exact w
structure Good (g:Int) (hs cs fs ws:List S3) (as bs:List Int) (V:List Int) : Prop where
  la:as.length = fs.length
  lb:bs.length = ws.length
  lV:V.length = 250
  a0:∀ (n:Nat) (x:S3) (a:Int),fs[n]? = some x→as[n]? = some a→0 ≤ a∧a ≤ x.2.2
  b0:∀ (n:Nat) (x:S3) (b:Int),ws[n]? = some x→bs[n]? = some b→0 ≤ b∧b ≤ x.2.2
  sur:∀ j:Nat,j < 251→0 ≤ surF g hs cs fs ws as bs (j:Nat)
  sur0:surF g hs cs fs ws as bs 0 = 0
  mono:∀ L:Nat,1 ≤ L→L < 250→V.getD (L - 1) 0 ≤ V.getD L 0
  same:∀ L:Nat,1 ≤ L→L < 250→0 < surF g hs cs fs ws as bs (L:Nat)→V.getD (L - 1) 0 = V.getD L 0
  fa:∀ (n L:Nat) (x:S3) (a:Int),fs[n]? = some x→as[n]? = some a→x.1 - 1 = (L:Nat)→(0 < a→x.2.1 ≤ V.getD L 0)∧(a < x.2.2→V.getD L 0 ≤ x.2.1)
  fb:∀ (n L:Nat) (x:S3) (b:Int),ws[n]? = some x→bs[n]? = some b→x.1 + g = (L:Nat)→(0 < b→V.getD L 0 ≤ -x.2.1)∧(b < x.2.2→-x.2.1 ≤ V.getD L 0)
theorem lot_fire {g:Int} {fs ws:List S3} {n:Nat} {x:S3} (h:fs[n]? = some x) : (lotF g fs ws).getD n (0,0,0) = (x.1 - 1,x.2.1,x.2.2):=by
  have hn:=(List.getElem?_eq_some_iff.mp h).1
  rw [lots_eq,List.getD_eq_getElem?_getD,List.getElem?_append_left (by unfold fireLots; rw [List.length_map]; exact hn)]
  unfold fireLots
  rw [List.getElem?_map,h]
  rfl
theorem lot_water {g:Int} {fs ws:List S3} {n:Nat} {x:S3} (h:ws[n]? = some x) : (lotF g fs ws).getD (fs.length + n) (0,0,0) = (x.1 + g,-x.2.1,x.2.2):=by
  have el:(fireLots fs).length = fs.length:=by unfold fireLots; rw [List.length_map]
  rw [lots_eq,List.getD_eq_getElem?_getD,List.getElem?_append_right (by lia),el,Nat.add_sub_cancel_left]
  unfold waterLots
  rw [List.getElem?_map,h]
  rfl
theorem good_of {g:Int} {hs cs fs ws:List S3} {ord:List Int} {l:Int} {W:List Int} (ok:WksOk g hs cs) (oi:OffsIn g fs ws) (m0:∀ x ∈ fs ++ ws,0 ≤ x.2.2) (sh:ShortIs g hs cs fs ws .non) (oo:OrdOk (lotF g fs ws) ord) (hl:LeastP (lotF g fs ws) l) (hW:W.length = 250)
    (hws:WorthsAre (lotF g fs ws) (drOf g hs cs fs ws ord) (surL g hs cs fs ws (asOf fs (drOf g hs cs fs ws ord)) (bsOf fs ws (drOf g hs cs fs ws ord))) l W) :
    Good g hs cs fs ws (asOf fs (drOf g hs cs fs ws ord)) (bsOf fs ws (drOf g hs cs fs ws ord)) W.reverse:=by
  have I:=drawn_inv ok oi m0 sh oo
  have ldr:(drOf g hs cs fs ws ord).length = fs.length + ws.length:=by rw [I.len,lotF_len]
  generalize drOf g hs cs fs ws ord = dr at *
  have sd:=fun L=>sur_drawn g hs cs fs ws dr L ldr
  have eS:∀ t:Nat,t ≤ 249→(surL g hs cs fs ws (asOf fs dr) (bsOf fs ws dr)).getD t 0 = (surL g hs cs fs ws (noneL fs) (mostL ws)).getD t 0 + ab (t:Nat) (lotF g fs ws) dr:=fun t ht=>by
    rw [surL_getD (by lia),surL_getD (by lia),sd]; rfl
  have lN:(lotF g fs ws).length = fs.length + ws.length:=lotF_len ..
  have fA:∀ (n:Nat) (x:S3) (a:Int),fs[n]? = some x→(asOf fs dr)[n]? = some a→n < fs.length∧dr.getD n 0 = a:=fun n x a h1 h2=>by
    have hn:=(List.getElem?_eq_some_iff.mp h1).1
    refine ⟨hn,?_⟩
    unfold asOf at h2
    rw [List.getElem?_take_of_lt hn] at h2
    rw [List.getD_eq_getElem?_getD,h2]; rfl
  have fB:∀ (n:Nat) (x:S3) (b:Int),ws[n]? = some x→(bsOf fs ws dr)[n]? = some b→n < ws.length∧x.2.2 - dr.getD (fs.length + n) 0 = b:=fun n x b h1 h2=>by
    have hn:=(List.getElem?_eq_some_iff.mp h1).1
    refine ⟨hn,?_⟩
    unfold bsOf leftL at h2
    rw [List.getElem?_map] at h2
    have g2:(dr.drop fs.length)[n]? = some (dr.getD (fs.length + n) 0):=by
      rw [List.getElem?_drop,List.getD_eq_getElem?_getD,List.getElem?_eq_getElem (by lia)]; rfl
    rw [List.getElem?_zip_eq_some (z:=(x,dr.getD (fs.length + n) 0)) |>.mpr ⟨h1,g2⟩] at h2
    exact Option.some.inj h2
  have sur1:∀ j:Nat,j < 251→0 ≤ surF g hs cs fs ws (asOf fs dr) (bsOf fs ws dr) (j:Nat):=fun j hj=>by
    rcases Nat.lt_or_ge j 250 with z | z
    · have := I.ok j (by lia) (by lia)
      rw [surL_getD (by lia)] at this
      rw [sd]; exact this
    · have : j = 250 := by lia
      subst this
      exact Int.le_of_eq (sur_top ok oi).symm
  have lvn:∀ n,n < (lotF g fs ws).length→0 ≤ lv (lotF g fs ws) n:=fun n hn=>by
    rcases Nat.lt_or_ge n fs.length with z | z
    · have e:=lot_fire (g:=g) (ws:=ws) (List.getElem?_eq_getElem z)
      unfold lv; rw [e]
      have:=oi.f0 _ (List.getElem_mem z)
      show 0 ≤ fs[n].1 - 1
      lia
    · have hz : n - fs.length < ws.length := by lia
      have e:=lot_water (g:=g) (fs:=fs) (List.getElem?_eq_getElem hz)
      rw [show fs.length + (n - fs.length) = n by lia] at e
      unfold lv; rw [e]
      have:=oi.w0 _ (List.getElem_mem hz)
      have:=ok.g0
      show 0 ≤ ws[n - fs.length].1 + g
      lia
  have abs:ab (0:Nat) (lotF g fs ws) dr = dr.sum:=ab_all I.len fun n hn h=>absurd (lvn n hn) (by simpa using h)
  refine ⟨by unfold asOf; rw [List.length_take]; lia,by unfold bsOf leftL; rw [List.length_map,List.length_zip,List.length_drop]; lia,by rw [List.length_reverse]; exact hW,fun n x a h1 h2=>?_,fun n x b h1 h2=>?_,sur1,?_,fun L h1 h2=>w_mono hW hws h1 h2,fun L h1 h2 h3=>w_same hW hws h1 h2 (by rw [surL_getD (by lia)]; lia),fun n L x a h1 h2 h3=>?_,fun n L x b h1 h2 h3=>?_⟩
  · obtain ⟨hn,e⟩:=fA n x a h1 h2
    have:=I.bd n (by lia)
    unfold ms at this
    rw [lot_fire h1,e] at this
    exact this
  · obtain ⟨hn,e⟩:=fB n x b h1 h2
    have:=I.bd (fs.length + n) (by lia)
    unfold ms at this
    rw [lot_water h1] at this
    have t2:dr.getD (fs.length + n) 0 ≤ x.2.2:=this.2
    have t1:=this.1
    lia
  · have a1 := sur1 0 (by lia)
    have a2:=I.sum
    have a3:=sd 0
    rw [surL_getD (by lia)] at a2
    have a4:ab 0 (lotF g fs ws) dr = dr.sum:=abs
    have a5:surF g hs cs fs ws (noneL fs) (mostL ws) ((0:Nat) : Int) = coldF g hs cs fs ws 0:=rfl
    have a6:(0:Int) ≤ surF g hs cs fs ws (asOf fs dr) (bsOf fs ws dr) 0:=a1
    lia
  · obtain ⟨hn,e⟩:=fA n x a h1 h2
    have el:=lot_fire (g:=g) (ws:=ws) h1
    have e1:lv (lotF g fs ws) n = x.1 - 1:=by unfold lv; rw [el]
    have e2:pr (lotF g fs ws) n = x.2.1:=by unfold pr; rw [el]
    have e3:ms (lotF g fs ws) n = x.2.2:=by unfold ms; rw [el]
    have hx:=oi.f0 x (List.mem_of_getElem? h1)
    refine ⟨fun z=>?_,fun z=>?_⟩
    · have := w_low hW hws (n := n) (L := L) (by lia) (by lia) (by lia) (by lia) (by lia)
      lia
    · have := w_high hW hws hl I eS (n := n) (L := L) (by lia) (by lia) (by lia) (by lia)
      lia
  · obtain ⟨hn,e⟩:=fB n x b h1 h2
    have el:=lot_water (g:=g) (fs:=fs) h1
    have e1:lv (lotF g fs ws) (fs.length + n) = x.1 + g:=by unfold lv; rw [el]
    have e2:pr (lotF g fs ws) (fs.length + n) = -x.2.1:=by unfold pr; rw [el]
    have e3:ms (lotF g fs ws) (fs.length + n) = x.2.2:=by unfold ms; rw [el]
    have hx:=oi.w0 x (List.mem_of_getElem? h1)
    refine ⟨fun z=>?_,fun z=>?_⟩
    · have := w_high hW hws hl I eS (n := fs.length + n) (L := L) (by lia) (by lia) (by lia) (by lia)
      lia
    · have := w_low hW hws (n := fs.length + n) (L := L) (by lia) (by lia) (by lia) (by lia) (by lia)
      lia
noncomputable def dBought (as bs:List Int) (p:Int) (V:List Int) : D:=.tup [.str "bought",.tup [dA as,dA bs],.int p,.lst (V.map D.int)]
theorem cheap_good {g:Int} {hs cs fs ws:List S3} {d:D} (ok:WksOk g hs cs) (oi:OffsIn g fs ws) (m0:∀ x ∈ fs ++ ws,0 ≤ x.2.2) (h:CheapIs g hs cs fs ws d) :
    (∃ (k:Str) (L:Int),ShortIs g hs cs fs ws (.tup [.str k,.int L])∧d = .tup [.str "short",.str k,.int L]) ∨ (ShortIs g hs cs fs ws .non∧∃ as bs V,d = dBought as bs (priceF fs as + priceF ws bs) V∧Good g hs cs fs ws as bs V):=by
  rcases h with h | ⟨sh,ord,l,W,oo,hl,hW,hws,rfl⟩
  · exact .inl h
  · exact .inr ⟨sh,_,_,_,rfl,good_of ok oi m0 sh oo hl hW hws⟩
noncomputable def sumR (f:Nat→Int) : Nat→Int
  | 0=>0
  | n + 1=>sumR f n + f n
theorem sumR_congr {f h:Nat→Int} : ∀ {n:Nat},(∀ i,i < n→f i = h i)→sumR f n = sumR h n
  | 0,_=>rfl
  | n + 1,e=>by simp only [sumR]; rw [sumR_congr fun i hi=>e i (by lia),e n (by lia)]
theorem sumR_add (f h:Nat→Int) : ∀ n:Nat,sumR (fun i=>f i + h i) n = sumR f n + sumR h n
  | 0=>rfl
  | n + 1=>by simp only [sumR]; rw [sumR_add f h n]; lia
theorem sumR_sub (f h:Nat→Int) : ∀ n:Nat,sumR (fun i=>f i - h i) n = sumR f n - sumR h n
  | 0=>rfl
  | n + 1=>by simp only [sumR]; rw [sumR_sub f h n]; lia
theorem sumR_zero:∀ n:Nat,sumR (fun _=>0) n = 0
  | 0=>rfl
  | n + 1=>by simp only [sumR]; rw [sumR_zero n]; rfl
theorem sumR_one (v:Nat→Int) (k:Nat) (c:Int) : ∀ n:Nat,sumR (fun i=>v i * (if ((k:Nat) : Int) = (i:Nat) then c else 0)) n = if k < n then v k * c else 0
  | 0=>rfl
  | n + 1=>by
    simp only [sumR]
    rw [sumR_one v k c n]
    by_cases h1:k < n
    · rw [if_pos h1,if_neg (show ¬ ((k:Nat) : Int) = (n:Nat) by lia),if_pos (show k < n + 1 by lia),Int.mul_zero,Int.add_zero]
    · by_cases h2:k = n
      · subst h2; rw [if_neg h1,if_pos rfl,if_pos (show k < k + 1 by lia),Int.zero_add]
      · rw [if_neg h1,if_neg (show ¬ ((k:Nat) : Int) = (n:Nat) by lia),if_neg (show ¬ k < n + 1 by lia),Int.mul_zero]; rfl
noncomputable def valF (V:List Int) (bs:List (Int × Int)) : Int:=(bs.map fun x=>V.getD x.1.toNat 0 * x.2).sum
theorem val_levels (V:List Int) : ∀ {bs:List (Int × Int)},(∀ x ∈ bs,0 ≤ x.1∧x.1 < 250)→valF V bs = sumR (fun L=>V.getD L 0 * amtAt bs (L:Nat)) 250
  | [],_=>by
    rw [sumR_congr (h:=fun _=>0) fun i _=>by show _ * (0:Int) = 0; rw [Int.mul_zero],sumR_zero]; rfl
  | x :: bs,h=>by
    have ih:=val_levels V (bs:=bs) fun y hy=>h y (List.mem_cons_of_mem _ hy)
    have hx:=h x (List.mem_cons_self ..)
    have e1:sumR (fun L=>V.getD L 0 * amtAt (x :: bs) (L:Nat)) 250 = sumR (fun L=>V.getD L 0 * (if ((x.1.toNat:Nat) : Int) = (L:Nat) then x.2 else 0) + V.getD L 0 * amtAt bs (L:Nat)) 250:=sumR_congr fun L _=>by
      have:amtAt (x :: bs) (L:Nat) = (if ((x.1.toNat:Nat) : Int) = (L:Nat) then x.2 else 0) + amtAt bs (L:Nat):=by
        unfold amtAt
        rw [List.map_cons,List.sum_cons,show ((x.1.toNat:Nat) : Int) = x.1 by lia]
      rw [this,Int.mul_add]
    rw [e1,sumR_add,← ih,sumR_one (fun L=>V.getD L 0) x.1.toNat x.2,if_pos (by lia)]
    unfold valF
    rw [List.map_cons,List.sum_cons]
theorem abel {v D:Nat→Int} : ∀ {n:Nat},D 0 = 0→(∀ L,1 ≤ L→L ≤ n→0 ≤ (v L - v (L - 1)) * D L)→-(v n * D (n + 1)) ≤ sumR (fun L=>v L * (D L - D (L + 1))) (n + 1)
  | 0,h0,_=>by
    simp only [sumR]
    rw [h0,Int.mul_sub,Int.mul_zero]
    lia
  | n + 1,h0,h=>by
    have ih:=abel (v:=v) (D:=D) (n:=n) h0 fun L a b=>h L a (by lia)
    have t:=h (n + 1) (by lia) (by lia)
    rw [Nat.add_sub_cancel,Int.sub_mul] at t
    rw [show sumR (fun L=>v L * (D L - D (L + 1))) (n + 1 + 1) = sumR (fun L=>v L * (D L - D (L + 1))) (n + 1) + v (n + 1) * (D (n + 1) - D (n + 1 + 1)) from rfl,Int.mul_sub]
    lia
structure Feas (g:Int) (hs cs fs ws:List S3) (as bs:List Int) : Prop where
  la:as.length = fs.length
  lb:bs.length = ws.length
  a0:∀ (n:Nat) (x:S3) (a:Int),fs[n]? = some x→as[n]? = some a→0 ≤ a∧a ≤ x.2.2
  b0:∀ (n:Nat) (x:S3) (b:Int),ws[n]? = some x→bs[n]? = some b→0 ≤ b∧b ≤ x.2.2
  sur:∀ j:Nat,j < 251→0 ≤ surF g hs cs fs ws as bs (j:Nat)
  sur0:surF g hs cs fs ws as bs 0 = 0
theorem two_signs {x y:Int} (h1:0 < x→0 ≤ y) (h2:x < 0→y ≤ 0) : 0 ≤ x * y:=by
  rcases Int.lt_or_le 0 x with z | z
  · exact Int.mul_nonneg (by lia) (h1 z)
  · rcases Int.lt_or_le x 0 with w | w
    · have := Int.mul_nonneg (show 0 ≤ -x by lia) (show 0 ≤ -y by have := h2 w; lia)
      rw [Int.neg_mul_neg] at this
      exact this
    · have : x = 0 := by lia
      rw [this,Int.zero_mul]; exact Int.le_refl _
theorem price_val (V:List Int) (lv:S3→Int) (pr:S3→Int) : ∀ {fs:List S3} {as es:List Int},as.length = fs.length→es.length = fs.length →
    (∀ (n:Nat) (x:S3) (a e:Int),fs[n]? = some x→as[n]? = some a→es[n]? = some e→(a < e→V.getD (lv x).toNat 0 ≤ pr x)∧(e < a→pr x ≤ V.getD (lv x).toNat 0)) →
    valF V ((fs.map lv).zip es) - valF V ((fs.map lv).zip as) ≤ ((fs.zip es).map fun x=>pr x.1 * x.2).sum - ((fs.zip as).map fun x=>pr x.1 * x.2).sum
  | [],_,_,_,_,_=>by simp [valF]
  | x :: fs,[],_,h,_,_=>by simp at h
  | x :: fs,_ :: _,[],_,h,_=>by simp at h
  | x :: fs,a :: as,e :: es,h1,h2,h=>by
    have ih:=price_val V lv pr (fs:=fs) (as:=as) (es:=es) (by simpa using h1) (by simpa using h2) fun n y c d h3 h4 h5=>h (n + 1) y c d (by simpa using h3) (by simpa using h4) (by simpa using h5)
    have h0:=h 0 x a e rfl rfl rfl
    have t:=two_signs (x:=e - a) (y:=pr x - V.getD (lv x).toNat 0) (fun z=>by have:=h0.1 (by lia); lia) (fun z=>by have:=h0.2 (by lia); lia)
    have t2:0 ≤ pr x * e - pr x * a - (V.getD (lv x).toNat 0 * e - V.getD (lv x).toNat 0 * a):=by
      rw [Int.sub_mul,Int.mul_sub,Int.mul_sub,Int.mul_comm e,Int.mul_comm a,Int.mul_comm e,Int.mul_comm a] at t
      lia
    unfold valF at *
    rw [List.map_cons,List.zip_cons_cons,List.zip_cons_cons,List.zip_cons_cons,List.zip_cons_cons,List.map_cons,List.map_cons,List.map_cons,List.map_cons,List.sum_cons,List.sum_cons,List.sum_cons,List.sum_cons]
    dsimp only
    lia
theorem none_cheaper {g:Int} {hs cs fs ws:List S3} {as bs V as' bs':List Int} (ok:WksOk g hs cs) (oi:OffsIn g fs ws) (gd:Good g hs cs fs ws as bs V) (f:Feas g hs cs fs ws as' bs') :
    priceF fs as + priceF ws bs ≤ priceF fs as' + priceF ws bs':=by
  have g0:=ok.g0
  have p1:=price_val V (fun x=>x.1 - 1) (fun x=>x.2.1) gd.la f.la fun n x a e h1 h2 h3=>by
    have o:=oi.f0 x (List.mem_of_getElem? h1)
    have k:=gd.fa n (x.1 - 1).toNat x a h1 h2 (by lia)
    have c:=f.a0 n x e h1 h3
    have d:=gd.a0 n x a h1 h2
    exact ⟨fun z=>k.2 (by lia),fun z=>k.1 (by lia)⟩
  have p2:=price_val (V.map fun v=>-v) (fun x=>x.1 + g) (fun x=>x.2.1) gd.lb f.lb fun n x a e h1 h2 h3=>by
    have o:=oi.w0 x (List.mem_of_getElem? h1)
    have k:=gd.fb n (x.1 + g).toNat x a h1 h2 (by lia)
    have c:=f.b0 n x e h1 h3
    have d:=gd.b0 n x a h1 h2
    have eV:(V.map fun v=>-v).getD (x.1 + g).toNat 0 = -(V.getD (x.1 + g).toNat 0):=by
      rw [List.getD_eq_getElem?_getD,List.getElem?_map,List.getD_eq_getElem?_getD]
      cases V[(x.1 + g).toNat]? <;> rfl
    rw [eV]
    exact ⟨fun z=>by have:=k.2 (by lia); lia,fun z=>by have:=k.1 (by lia); lia⟩
  have neg:∀ l:List (Int × Int),valF (V.map fun v=>-v) l = -(valF V l):=fun l=>by
    unfold valF
    induction l with
    | nil=>rfl
    | cons x l ih =>
      have eV:(V.map fun v=>-v).getD x.1.toNat 0 = -(V.getD x.1.toNat 0):=by
        rw [List.getD_eq_getElem?_getD,List.getElem?_map,List.getD_eq_getElem?_getD]
        cases V[x.1.toNat]? <;> rfl
      rw [List.map_cons,List.map_cons,List.sum_cons,List.sum_cons,ih,eV,Int.neg_mul]
      lia
  rw [neg,neg] at p2
  have fl:∀ es:List Int,valF V ((fs.map fun x=>x.1 - 1).zip es) = sumR (fun L=>V.getD L 0 * amtAt ((flv fs).zip es) (L:Nat)) 250:=fun es=>val_levels V (bs:=(flv fs).zip es) fun x hx=>by
    exact flv_in oi x.1 (List.of_mem_zip hx).1
  have wl:∀ es:List Int,valF V ((ws.map fun x=>x.1 + g).zip es) = sumR (fun L=>V.getD L 0 * amtAt ((wlv g ws).zip es) (L:Nat)) 250:=fun es=>val_levels V (bs:=(wlv g ws).zip es) fun x hx=>by
    exact wlv_in g0 oi x.1 (List.of_mem_zip hx).1
  rw [fl,fl] at p1
  rw [wl,wl] at p2
  have ab:=abel (v:=fun L=>V.getD L 0) (D:=fun L=>surF g hs cs fs ws as' bs' (L:Nat) - surF g hs cs fs ws as bs (L:Nat)) (n:=249) (by
    show surF g hs cs fs ws as' bs' 0 - surF g hs cs fs ws as bs 0 = 0
    rw [f.sur0,gd.sur0]; rfl) fun L h1 h2=>by
      have m:=gd.mono L h1 (by lia)
      have s:=gd.sur L (by lia)
      have s':=f.sur L (by lia)
      rcases Int.lt_or_le 0 (surF g hs cs fs ws as bs (L:Nat)) with z | z
      · have e := gd.same L h1 (by lia) z
        show 0 ≤ (V.getD L 0 - V.getD (L - 1) 0) * _
        rw [e,Int.sub_self,Int.zero_mul]; exact Int.le_refl _
      · exact Int.mul_nonneg (by show 0 ≤ V.getD L 0 - V.getD (L - 1) 0; lia) (by lia)
  have t1:=sur_top (as:=as) (bs:=bs) ok oi
  have t2:=sur_top (as:=as') (bs:=bs') ok oi
  have e0:surF g hs cs fs ws as' bs' ((249 + 1:Nat) : Int) - surF g hs cs fs ws as bs ((249 + 1:Nat) : Int) = 0:=by
    show surF g hs cs fs ws as' bs' 250 - surF g hs cs fs ws as bs 250 = 0
    rw [t1,t2]; rfl
  rw [e0,Int.mul_zero] at ab
  have key:sumR (fun L=>V.getD L 0 * (surF g hs cs fs ws as' bs' ((L:Nat) : Int) - surF g hs cs fs ws as bs ((L:Nat) : Int) - (surF g hs cs fs ws as' bs' ((L + 1:Nat) : Int) - surF g hs cs fs ws as bs ((L + 1:Nat) : Int)))) (249 + 1) =
      (sumR (fun L=>V.getD L 0 * amtAt ((flv fs).zip as') (L:Nat)) 250 - sumR (fun L=>V.getD L 0 * amtAt ((flv fs).zip as) (L:Nat)) 250) - (sumR (fun L=>V.getD L 0 * amtAt ((wlv g ws).zip bs') (L:Nat)) 250 - sumR (fun L=>V.getD L 0 * amtAt ((wlv g ws).zip bs) (L:Nat)) 250):=by
    rw [← sumR_sub,← sumR_sub,← sumR_sub]
    refine sumR_congr fun L _=>?_
    have s1:=sur_step g hs cs fs ws as' bs' (L:Nat)
    have s2:=sur_step g hs cs fs ws as bs (L:Nat)
    have c1:(((L + 1:Nat)) : Int) = (L:Nat) + 1:=by lia
    rw [c1,← Int.mul_sub,← Int.mul_sub,← Int.mul_sub]
    congr 1
    unfold rawF at s1 s2
    lia
  rw [key] at ab
  unfold priceF
  lia
noncomputable def amtP (lev:S3→Int) (L:Int) (F:List (S3 × Int)) : Int:=(F.map fun p=>if L ≤ lev p.1 then p.2 else 0).sum
noncomputable def fLev (x:S3) : Int:=x.1 - 1
noncomputable def wLev (g:Int) (x:S3) : Int:=x.1 + g
noncomputable def surP (g:Int) (hs cs:List S3) (F W:List (S3 × Int)) (L:Int) : Int:=amtP fLev L F - amtP (wLev g) L W - lackF g hs cs L
noncomputable def costP (F:List (S3 × Int)) : Int:=(F.map fun p=>p.1.2.1 * p.2).sum
noncomputable def InP (F:List (S3 × Int)) : Prop:=∀ p ∈ F,0 ≤ p.2∧p.2 ≤ p.1.2.2
structure FeasP (g:Int) (hs cs:List S3) (F W:List (S3 × Int)) : Prop where
  f0:InP F
  w0:InP W
  sur:∀ j:Nat,j < 251→0 ≤ surP g hs cs F W (j:Nat)
  sur0:surP g hs cs F W 0 = 0
structure Opt (g:Int) (hs cs fs ws:List S3) (c:Int) : Prop where
  ex:∃ F W:List (S3 × Int),F.map (·.1) = fs∧W.map (·.1) = ws∧FeasP g hs cs F W∧costP F + costP W = c
  le:∀ F W:List (S3 × Int),F.map (·.1) = fs→W.map (·.1) = ws→FeasP g hs cs F W→c ≤ costP F + costP W
theorem amtP_zip (lev:S3→Int) (L:Int) (xs:List S3) (as:List Int) : amtP lev L (xs.zip as) = amtF ((xs.map lev).zip as) L:=by
  induction xs generalizing as with
  | nil=>rfl
  | cons x xs ih =>
    cases as with
    | nil=>rfl
    | cons a as =>
      have:=ih as
      unfold amtP amtF at *
      rw [List.zip_cons_cons,List.map_cons,List.map_cons,List.zip_cons_cons,List.sum_cons,List.filterMap_cons,this]
      dsimp only
      by_cases z:L ≤ lev x
      · rw [if_pos z,if_pos z,List.sum_cons]
      · rw [if_neg z,if_neg z,Int.zero_add]
noncomputable def amtM (lev:S3→Int) (L:Int) (xs:List S3) : Int:=(xs.map fun x=>if L ≤ lev x then x.2.2 else 0).sum
noncomputable def NS (g:Int) (hs cs fs ws:List S3) : Prop:=∀ i:Nat,i < 251→0 ≤ amtM fLev (i:Nat) fs - lackF g hs cs (i:Nat)∧amtM (wLev g) (i:Nat) ws + lackF g hs cs (i:Nat) ≤ amtM (wLev g) 0 ws + lackF g hs cs 0
theorem amtM_is (lev:S3→Int) (L:Int) (xs:List S3) : amtF ((xs.map lev).zip (mostL xs)) L = amtM lev L xs:=by
  rw [← amtP_zip]
  unfold amtP amtM mostL
  have:xs.zip (xs.map fun x=>x.2.2) = xs.map fun x=>(x,x.2.2):=by
    induction xs with
    | nil=>rfl
    | cons x xs ih=>rw [List.map_cons,List.zip_cons_cons,ih]; rfl
  rw [this,List.map_map]
  rfl
theorem warm_M (g:Int) (hs cs fs ws:List S3) (L:Int) : warmF g hs cs fs ws L = amtM fLev L fs - lackF g hs cs L:=by
  have e5:amtF ((wlv g ws).zip (noneL ws)) L = 0:=by unfold noneL; rw [map_zero]; exact amtF_zero ..
  unfold warmF surF
  rw [e5,show amtF ((flv fs).zip (mostL fs)) L = amtM fLev L fs from amtM_is fLev L fs]
  lia
theorem cold_M (g:Int) (hs cs fs ws:List S3) (L:Int) : coldF g hs cs fs ws L = -(amtM (wLev g) L ws) - lackF g hs cs L:=by
  have e4:amtF ((flv fs).zip (noneL fs)) L = 0:=by unfold noneL; rw [map_zero]; exact amtF_zero ..
  unfold coldF surF
  rw [e4,show amtF ((wlv g ws).zip (mostL ws)) L = amtM (wLev g) L ws from amtM_is (wLev g) L ws]
  lia
theorem short_ns {g:Int} {hs cs fs ws:List S3} {d:D} (h:ShortIs g hs cs fs ws d) : (d = .non∧NS g hs cs fs ws) ∨ ((∃ k L,d = .tup [.str k,.int L])∧¬ NS g hs cs fs ws):=by
  rcases h with ⟨rfl,h⟩ | ⟨i,hi,_,⟨rfl,h⟩ | ⟨rfl,_,h⟩⟩
  · refine .inl ⟨rfl,fun i hi=>?_⟩
    have:=h i hi
    rw [warm_M,cold_M,cold_M] at this
    lia
  · refine .inr ⟨⟨_,_,rfl⟩,fun n=>?_⟩
    have:=n i hi
    rw [warm_M] at h
    lia
  · refine .inr ⟨⟨_,_,rfl⟩,fun n=>?_⟩
    have:=n i hi
    rw [cold_M,cold_M] at h
    lia
noncomputable def cellF (ns:List Int) (k:Int) : Int:=if k < ns.length then ns.getD k.toNat 0 else 0
noncomputable def r_law_cell_at:DR:=fun ds P=>∃ (ns:List Int) (k:Int),ds = [.scr ns,.int k]∧0 ≤ k∧P (.p (.int (cellF ns k)))
theorem ok_law_cell_at (T:Blt mg) (F:Fun K "_law_cell_at" "_law_cell_at" s_law_cell_at f fd) : FnOk P w K mg base CX0 1 f fd ["script","k"] (spD K r_law_cell_at):=by
  refine okD F sc_law_cell_at (fun ds Q h=>by obtain ⟨ns,k,rfl,k0,q⟩:=h; rfl) fun cdv A outer s H E hr=>⟨_,(dss_cons (ds_if (dt_cmp od_lt (dv 1) (de_callB cd_len (by rfl) T.b_len PySem.boot_len (da_cons (dv 0) da_nil)) (nomark _)) (dss_one (ds_ret (de_ix (dv 0) (dv 1)))) dss_nil)
      (dss_one (ds_ret de_int))),fun ds Q h=>?_⟩
  obtain ⟨ns,k,rfl,k0,q⟩:=h
  obtain ⟨n,rfl⟩ : ∃ n:Nat,k = (n:Nat):=⟨k.toNat,by lia⟩
  repeat (first | walk_at "rs1" | set_option simprocs false in simp only [ixk0,ixk1,ixk2,ixk3,ixk4,ex_at])
  unfold cellF at q
  refine ⟨fun z=>?_,fun z=>?_⟩
  · have hz:=of_decide_eq_true z
    rw [if_pos hz] at q
    have e:=List.getElem?_eq_getElem (l:=ns) (i:=n) (by lia)
    refine ⟨ns.getD n 0,?_,q⟩
    rw [List.getD_eq_getElem?_getD,e]
    exact atI_nat e
  · rw [if_neg (of_decide_eq_false z)] at q
    exact q
noncomputable def mixF (c k:Int) : Int:=
  let f:=(c % 2147483629 + 101 * k + 7) % 2147483629
  (f * f % 2147483587 + f / 5) * 48271 % 2147483647
noncomputable def r_law_mixed:DR:=fun ds P=>∃ c k:Int,ds = [.int c,.int k]∧P (.p (.int (mixF c k)))
theorem ok_law_mixed (T:Blt mg) (F:Fun K "_law_mixed" "_law_mixed" s_law_mixed f fd) : FnOk P w K mg base CX0 1 f fd ["cell","k"] (spD K r_law_mixed):=by
  refine okD F sc_law_mixed (fun ds Q h=>by obtain ⟨c,k,rfl,q⟩:=h; rfl) fun cdv A outer s H E hr=>⟨_,(dss_cons (ds_setP (i:=2) sc_law_mixed.nd rfl (Or.inl rfl) (de_op od_mod (de_op od_plus (de_op od_plus (de_op od_mod (dv 0) de_int) (de_op od_times de_int (dv 1))) de_int) de_int))
      (dss_cons (ds_setP (i:=2) sc_law_mixed.nd rfl (Or.inl rfl) (de_op od_plus (de_op od_mod (de_op od_times (dv 2) (dv 2)) de_int) (de_op od_fdiv (dv 2) de_int)))
      (dss_one (ds_ret (de_op od_mod (de_op od_times (dv 2) de_int) de_int))))),fun ds Q h=>?_⟩
  obtain ⟨c,k,rfl,q⟩:=h
  have p0:=Int.emod_nonneg (c % 2147483629 + 101 * k + 7) (b:=2147483629) (by decide)
  have p1:=Int.emod_lt_of_pos (c % 2147483629 + 101 * k + 7) (b:=2147483629) (by decide)
  repeat (first | walk_at "rs1" | set_option simprocs false in simp only [ixk0,ixk1,ixk2,ixk3,ixk4,ex_at])
  exact ⟨by decide,mulL (by decide),by decide,mulL ⟨by lia,by lia⟩,by decide,⟨by decide,by decide⟩,mulR (by decide),by decide,q⟩
noncomputable def r_law_rate:DR:=fun ds P=>∃ (ns:List Int) (n k:Int),ds = [.scr ns,.int n,.int k]∧∀ r:Int,1 ≤ r→r ≤ 1000000000→P (.p (.int r))
theorem ok_law_rate (T:Blt mg) (F:Fun K "_law_rate" "_law_rate" s_law_rate f fd) : FnOk P w K mg base CX0 1 f fd ["script","number","k"] (spD K r_law_rate):=by
  refine okD F sc_law_rate (fun ds Q h=>by obtain ⟨ns,n,k,rfl,q⟩:=h; rfl) fun cdv A outer s H E hr=>⟨_,(dss_cons (ds_setP (i:=3) sc_law_rate.nd rfl (Or.inl rfl) (de_ix (de_lst (da_cons de_int (da_cons (de_op od_pow de_int de_int) da_nil))) (de_op od_mod (dv 1) de_int)))
      (dss_one (ds_ret (de_op od_plus de_int (de_op od_mod (de_op od_plus (de_callB (cd_sum rfl) (by rfl) T.b_sum PyProof.Rows.boot_sum (da_cons (de_sliceS (dv 0) (do_some (dv 2)) (do_some de_int) (do_some de_int)) da_nil)) (de_op od_fdiv (dv 1) de_int)) (dv 3)))))),fun ds Q h=>?_⟩
  obtain ⟨ns,n,k,rfl,q⟩:=h
  repeat (first | walk_at "rs1" | set_option simprocs false in simp only [ixk0,ixk1,ixk2,ixk3,ixk4,ex_at])
  have e9:((10:Int) ^ (9:Int).toNat) = 1000000000:=by decide
  rw [e9]
  obtain ⟨w,hw,h1,h2⟩ : ∃ w,atI [D.int 9,D.int 1000000000] (n % 2) = some (.int w)∧0 < w∧w ≤ 1000000000:=by
    have e:n % 2 = 0 ∨ n % 2 = 1:=by lia
    rcases e with e | e
    · rw [e]; exact ⟨9,ixk0 _ _,by decide,by decide⟩
    · rw [e]; exact ⟨1000000000,ixk1 _ _ _,by decide,by decide⟩
  refine ⟨⟨by decide,by decide,by decide⟩,by decide,_,hw,by simp,dSum_mk ?_⟩
  repeat (first | walk_at "rs1" | set_option simprocs false in simp only [ixk0,ixk1,ixk2,ixk3,ixk4,ex_at])
  have u0:=Int.emod_nonneg ((stepV ns (some k) (some 63) (some 8)).sum + n / 2) (b:=w) (by lia)
  have u1:=Int.emod_lt_of_pos ((stepV ns (some k) (some 63) (some 8)).sum + n / 2) (b:=w) h1
  exact ⟨⟨by decide,by decide⟩,h1,q _ (by lia) (by lia)⟩
theorem two_of (a b:Int) (c:Bool) : ∃ w,atI [D.int a,D.int b] (if c = true then (1:Int) else 0) = some (.int w)∧(w = a ∨ w = b)∧(c = true→w = b):=by
  cases c with
  | true=>exact ⟨b,ixk1 _ _ _,.inr rfl,fun _=>rfl⟩
  | false=>exact ⟨a,ixk0 _ _,.inl rfl,fun h=>(nomatch h)⟩
structure Wk36 (g:Int) (hs cs:List S3) : Prop where
  ok:WksOk g hs cs
  g3:g ≤ 3
  nh:hs.length ≤ 4
  nc:cs.length ≤ 4
  hg:∀ x ∈ hs,g ≤ x.2.1
noncomputable def r_law_works:DR:=fun ds P=>∃ ns:List Int,ds = [.scr ns]∧∀ g hs cs,Wk36 g hs cs→P (.p (dW g hs cs))
theorem ok_law_works (T:Blt mg) (F_law_cell_at:Fn P w K mg base "_law_cell_at" 1 ["script","k"] (spD K r_law_cell_at)) (F_law_mixed:Fn P w K mg base "_law_mixed" 1 ["cell","k"] (spD K r_law_mixed)) (F_law_rate:Fn P w K mg base "_law_rate" 1 ["script","number","k"] (spD K r_law_rate)) (F:Fun K "_law_works" "_law_works" s_law_works f fd) : FnOk P w K mg base CX0 2 f fd ["script"] (spD K r_law_works):=by
  refine okD F sc_law_works (fun ds Q h=>by obtain ⟨ns,rfl,q⟩:=h; rfl) fun cdv A outer s H E hr=>⟨_,(dss_cons (ds_setP (i:=1) sc_law_works.nd rfl (Or.inl rfl) (de_fn F_law_cell_at (hr.mono (by decide)) (by rfl) (da_cons (dv 0) (da_cons de_int da_nil))))
      (dss_cons (ds_setP (i:=2) sc_law_works.nd rfl (Or.inl rfl) (de_op od_mod (dv 1) de_int))
      (dss_cons (ds_setP (i:=3) sc_law_works.nd rfl (Or.inl rfl) (de_ix (de_lst (da_cons (de_op od_mod (de_op od_fdiv (dv 1) de_int) de_int) (da_cons de_int da_nil))) (de_callTy cd_int (by rfl) T.b_int PyProof.Rows.boot_int (da_cons (de_cmp od_eq (de_op od_mod (de_op od_fdiv (dv 1) de_int) de_int) de_int (nomark _)) da_nil))))
      (dss_cons (ds_set (i:=4) sc_law_works.nd rfl (Or.inl rfl) (de_lst da_nil))
      (dss_cons (ds_forS (g:=(.n 5)) PassesOwn.never rfl (dis_rng1 (by rfl) T.b_range (da_cons (de_op od_mod (de_op od_fdiv (dv 1) de_int) de_int) da_nil)) (pg_name (i:=5) sc_law_works.nd rfl (Or.inl rfl)) (dss_cons (ds_setP (i:=6) sc_law_works.nd rfl (Or.inl rfl) (de_fn F_law_mixed (hr.mono (by decide)) (by rfl) (da_cons (de_fn F_law_cell_at (hr.mono (by decide)) (by rfl) (da_cons (dv 0) (da_cons (de_op od_plus de_int (dv 5)) da_nil))) (da_cons (dv 5) da_nil))))
      (dss_cons (ds_setP (i:=7) sc_law_works.nd rfl (Or.inl rfl) (de_op od_plus (de_op od_plus (dv 3) (dv 2)) (de_op od_mod (dv 6) de_int)))
      (dss_cons (ds_setP (i:=8) sc_law_works.nd rfl (Or.inl rfl) (de_ix (de_lst (da_cons (de_op od_plus (de_op od_plus (dv 7) de_int) (de_op od_mod (de_op od_fdiv (dv 6) de_int) de_int)) (da_cons de_int da_nil))) (de_callTy cd_int (by rfl) T.b_int PyProof.Rows.boot_int (da_cons (de_and (de_cmp od_eq (de_op od_mod (de_op od_fdiv (dv 6) de_int) de_int) de_int (nomark _)) (de_one (de_cmp od_gt (dv 7) de_int (nomark _)))) da_nil))))
      (dss_one (ds_app (i:=4) rfl (by first | exact Or.inl rfl | exact Or.inr (Or.inl rfl) | exact Or.inr (Or.inr rfl)) (de_tup (da_cons (dv 8) (da_cons (dv 7) (da_cons (de_fn F_law_rate (hr.mono (by decide)) (by rfl) (da_cons (dv 0) (da_cons (de_op od_fdiv (dv 6) de_int) (da_cons (dv 5) da_nil)))) da_nil))))))))))
      (dss_cons (ds_set (i:=9) sc_law_works.nd rfl (Or.inl rfl) (de_lst da_nil))
      (dss_cons (ds_forS (g:=(.n 5)) PassesOwn.never rfl (dis_rng1 (by rfl) T.b_range (da_cons (de_op od_mod (de_op od_fdiv (dv 1) de_int) de_int) da_nil)) (pg_name (i:=5) sc_law_works.nd rfl (Or.inl rfl)) (dss_cons (ds_setP (i:=6) sc_law_works.nd rfl (Or.inl rfl) (de_fn F_law_mixed (hr.mono (by decide)) (by rfl) (da_cons (de_fn F_law_cell_at (hr.mono (by decide)) (by rfl) (da_cons (dv 0) (da_cons (de_op od_plus de_int (dv 5)) da_nil))) (da_cons (de_op od_plus de_int (dv 5)) da_nil))))
      (dss_cons (ds_setP (i:=7) sc_law_works.nd rfl (Or.inl rfl) (de_op od_plus (dv 3) (de_op od_mod (dv 6) de_int)))
      (dss_cons (ds_setP (i:=8) sc_law_works.nd rfl (Or.inl rfl) (de_ix (de_lst (da_cons (de_op od_plus (de_op od_plus (dv 7) de_int) (de_op od_mod (de_op od_fdiv (dv 6) de_int) de_int)) (da_cons de_int da_nil))) (de_callTy cd_int (by rfl) T.b_int PyProof.Rows.boot_int (da_cons (de_and (de_cmp od_eq (de_op od_mod (de_op od_fdiv (dv 6) de_int) de_int) de_int (nomark _)) (de_one (de_cmp od_gt (dv 7) de_int (nomark _)))) da_nil))))
      (dss_one (ds_app (i:=9) rfl (by first | exact Or.inl rfl | exact Or.inr (Or.inl rfl) | exact Or.inr (Or.inr rfl)) (de_tup (da_cons (dv 7) (da_cons (dv 8) (da_cons (de_fn F_law_rate (hr.mono (by decide)) (by rfl) (da_cons (dv 0) (da_cons (de_op od_fdiv (dv 6) de_int) (da_cons (de_op od_plus de_int (dv 5)) da_nil)))) da_nil))))))))))
      (dss_one (ds_ret (de_tup (da_cons (dv 2) (da_cons (dv 4) (da_cons (dv 9) da_nil))))))))))))),fun ds Q h=>?_⟩
  obtain ⟨ns,rfl,q⟩:=h
  repeat (first | dsimp only [r_law_cell_at] | walk_at "rs1" | set_option simprocs false in simp only [ixk0,ixk1,ixk2,ixk3,ixk4,ex_at])
  refine ⟨ns,0,rfl,by decide,?_⟩
  generalize cellF ns 0 = c
  repeat (first | walk_at "rs1" | set_option simprocs false in simp only [ixk0,ixk1,ixk2,ixk3,ixk4,ex_at])
  have g0:=Int.emod_nonneg c (b:=4) (by decide)
  have g1:=Int.emod_lt_of_pos c (b:=4) (by decide)
  have b0:=Int.emod_nonneg (c / 100) (b:=181) (by decide)
  have b1:=Int.emod_lt_of_pos (c / 100) (b:=181) (by decide)
  obtain ⟨base,hb,hb1,_⟩:=two_of (c / 100 % 181) 185 (decide (c / 100 % 8 = 3))
  have hbase:0 ≤ base∧base ≤ 185:=by rcases hb1 with e | e <;> lia
  have n0:=Int.emod_nonneg (c / 4) (b:=5) (by decide)
  have n1:=Int.emod_lt_of_pos (c / 4) (b:=5) (by decide)
  have m0:=Int.emod_nonneg (c / 20) (b:=5) (by decide)
  have m1:=Int.emod_lt_of_pos (c / 20) (b:=5) (by decide)
  refine ⟨by decide,⟨by decide,by decide⟩,by decide,⟨by decide,by decide⟩,by decide,_,hb,⟨by decide,by decide⟩,by decide,⟨by lia,by lia⟩,?_⟩
  have gle:c % 4 ≤ 3:=by lia
  refine for_nat (fun i ρ=>∃ hs a5 a6 a7 a8,hs.length = i∧(∀ x ∈ hs,HotOk x∧c % 4 ≤ x.2.1)∧ρ = [some (.p (.scr ns)),some (.p (.int c)),some (.p (.int (c % 4))),some (.p (.int base)),some (.o (.lst (hs.map d3))),a5,a6,a7,a8,none]) ⟨[],none,none,none,none,rfl,fun x hx=>(nomatch hx),rfl⟩ ?_ ?_
  · rintro i x ρ hx ⟨hs,a5,a6,a7,a8,e1,e2,rfl⟩
    obtain ⟨hi,rfl⟩:=upFrom_get hx
    rw [Int.zero_add]
    repeat (first | walk_at "rs1" | set_option simprocs false in simp only [ixk0,ixk1,ixk2,ixk3,ixk4,ex_at])
    refine ⟨ns,_,rfl,by lia,?_⟩
    repeat (first | walk_at "rs1" | set_option simprocs false in simp only [ixk0,ixk1,ixk2,ixk3,ixk4,ex_at])
    refine ⟨_,_,rfl,?_⟩
    generalize mixF (cellF ns (1 + (i:Nat))) (i:Nat) = m
    have u0:=Int.emod_nonneg m (b:=7) (by decide)
    have u1:=Int.emod_lt_of_pos m (b:=7) (by decide)
    have v0:=Int.emod_nonneg (m / 7) (b:=5) (by decide)
    have v1:=Int.emod_lt_of_pos (m / 7) (b:=5) (by decide)
    repeat (first | walk_at "rs1" | set_option simprocs false in simp only [ixk0,ixk1,ixk2,ixk3,ixk4,ex_at])
    have fin:∀ hi:Int,base + c % 4 + m % 7 < hi→hi ≤ 200→∀ r:Int,1 ≤ r→r ≤ 1000000000→(∀ x ∈ hs ++ [(hi,base + c % 4 + m % 7,r)],HotOk x∧c % 4 ≤ x.2.1):=fun hi h1 h2 r r1 r2 x hx=>by
      rcases List.mem_append.mp hx with z | z
      · exact e2 x z
      · rw [List.mem_singleton.mp z]
        exact ⟨⟨by show 0 ≤ base + c % 4 + m % 7; lia,h1,h2,r1,r2⟩,by show c % 4 ≤ base + c % 4 + m % 7; lia⟩
    have ea:∀ hi r:Int,hs.map d3 ++ [D.tup [.int hi,.int (base + c % 4 + m % 7),.int r]] = (hs ++ [(hi,base + c % 4 + m % 7,r)]).map d3:=fun hi r=>by rw [List.map_append]; rfl
    refine ⟨by decide,⟨by decide,by decide⟩,by decide,⟨by decide,by decide⟩,by decide,fun z=>?_,fun z=>?_⟩
    · obtain ⟨w,hw,hw1,hw2⟩:=two_of (base + c % 4 + m % 7 + 1 + m / 7 % 5) 200 (decide (184 < base + c % 4 + m % 7))
      have hwb:base + c % 4 + m % 7 < w∧w ≤ 200:=by
        rcases hw1 with e | e
        · by_cases y:184 < base + c % 4 + m % 7
          · have:=hw2 (decide_eq_true y); lia
          · lia
        · lia
      refine ⟨_,hw,⟨by decide,by decide⟩,ns,_,_,rfl,fun r r1 r2=>?_⟩
      repeat (first | walk_at "rs1" | set_option simprocs false in simp only [ixk0,ixk1,ixk2,ixk3,ixk4,ex_at])
      rw [ea]
      exact ⟨small1000 (by rw [List.length_map]; lia),_,_,_,_,_,by rw [List.length_append,e1]; rfl,fin w hwb.1 hwb.2 r r1 r2,rfl⟩
    · refine ⟨_, ixk0 _ _, ⟨by decide, by decide⟩, ns, _, _, rfl, fun r r1 r2 => ?_⟩
      repeat (first | walk_at "rs1" | set_option simprocs false in simp only [ixk0,ixk1,ixk2,ixk3,ixk4,ex_at])
      rw [ea]
      exact ⟨small1000 (by rw [List.length_map]; lia),_,_,_,_,_,by rw [List.length_append,e1]; rfl,fin _ (by lia) (by lia) r r1 r2,rfl⟩
  rw [upFrom_len]
  rintro ρ ⟨hs,a5,a6,a7,a8,e1,e2,rfl⟩
  repeat (first | walk_at "rs1" | set_option simprocs false in simp only [ixk0,ixk1,ixk2,ixk3,ixk4,ex_at])
  refine ⟨⟨by decide,by decide⟩,by decide,⟨by lia,by lia⟩,?_⟩
  refine for_nat (fun i ρ=>∃ cs a5 a6 a7 a8,cs.length = i∧(∀ x ∈ cs,ColdOk x)∧ρ = [some (.p (.scr ns)),some (.p (.int c)),some (.p (.int (c % 4))),some (.p (.int base)),some (.o (.lst (hs.map d3))),a5,a6,a7,a8,some (.o (.lst (cs.map d3)))]) ⟨[],_,_,_,_,rfl,fun x hx=>(nomatch hx),rfl⟩ ?_ ?_
  · rintro i x ρ hx ⟨cs,a5,a6,a7,a8,f1,f2,rfl⟩
    obtain ⟨hi,rfl⟩:=upFrom_get hx
    rw [Int.zero_add]
    repeat (first | walk_at "rs1" | set_option simprocs false in simp only [ixk0,ixk1,ixk2,ixk3,ixk4,ex_at])
    refine ⟨ns,_,rfl,by lia,?_⟩
    repeat (first | walk_at "rs1" | set_option simprocs false in simp only [ixk0,ixk1,ixk2,ixk3,ixk4,ex_at])
    refine ⟨_,_,rfl,?_⟩
    generalize mixF (cellF ns (4 + (i:Nat))) (20 + (i:Nat)) = m
    have u0:=Int.emod_nonneg m (b:=9) (by decide)
    have u1:=Int.emod_lt_of_pos m (b:=9) (by decide)
    have v0:=Int.emod_nonneg (m / 9) (b:=5) (by decide)
    have v1:=Int.emod_lt_of_pos (m / 9) (b:=5) (by decide)
    repeat (first | walk_at "rs1" | set_option simprocs false in simp only [ixk0,ixk1,ixk2,ixk3,ixk4,ex_at])
    have fin:∀ hi:Int,base + m % 9 < hi→hi ≤ 200→∀ r:Int,1 ≤ r→r ≤ 1000000000→(∀ x ∈ cs ++ [(base + m % 9,hi,r)],ColdOk x):=fun hi h1 h2 r r1 r2 x hx=>by
      rcases List.mem_append.mp hx with z | z
      · exact f2 x z
      · rw [List.mem_singleton.mp z]
        exact ⟨by show 0 ≤ base + m % 9; lia,h1,h2,r1,r2⟩
    have ea:∀ hi r:Int,cs.map d3 ++ [D.tup [.int (base + m % 9),.int hi,.int r]] = (cs ++ [(base + m % 9,hi,r)]).map d3:=fun hi r=>by rw [List.map_append]; rfl
    refine ⟨by decide,⟨by decide,by decide⟩,by decide,⟨by decide,by decide⟩,by decide,fun z=>?_,fun z=>?_⟩
    · obtain ⟨w,hw,hw1,hw2⟩:=two_of (base + m % 9 + 1 + m / 9 % 5) 200 (decide (184 < base + m % 9))
      have hwb:base + m % 9 < w∧w ≤ 200:=by
        rcases hw1 with e | e
        · by_cases y:184 < base + m % 9
          · have:=hw2 (decide_eq_true y); lia
          · lia
        · lia
      refine ⟨_,hw,⟨by decide,by decide⟩,ns,_,_,rfl,fun r r1 r2=>?_⟩
      repeat (first | walk_at "rs1" | set_option simprocs false in simp only [ixk0,ixk1,ixk2,ixk3,ixk4,ex_at])
      rw [ea]
      exact ⟨small1000 (by rw [List.length_map]; lia),_,_,_,_,_,by rw [List.length_append,f1]; rfl,fin w hwb.1 hwb.2 r r1 r2,rfl⟩
    · refine ⟨_, ixk0 _ _, ⟨by decide, by decide⟩, ns, _, _, rfl, fun r r1 r2 => ?_⟩
      repeat (first | walk_at "rs1" | set_option simprocs false in simp only [ixk0,ixk1,ixk2,ixk3,ixk4,ex_at])
      rw [ea]
      exact ⟨small1000 (by rw [List.length_map]; lia),_,_,_,_,_,by rw [List.length_append,f1]; rfl,fin _ (by lia) (by lia) r r1 r2,rfl⟩
  rw [upFrom_len]
  rintro ρ ⟨cs,a5,a6,a7,a8,f1,f2,rfl⟩
  repeat (first | walk_at "rs1" | set_option simprocs false in simp only [ixk0,ixk1,ixk2,ixk3,ixk4,ex_at])
  exact q (c % 4) hs cs ⟨⟨g0,by lia,by lia,by lia,fun x hx=>(e2 x hx).1,f2⟩,gle,by lia,by lia,fun x hx=>(e2 x hx).2⟩
noncomputable def rowB (n:Nat) (b:S3) (m:Nat) : KVs:=(List.range m).map fun i=>(((n:Int),b.1 + (i:Nat)),b.2.2)
noncomputable def stB:Nat→List S3→KVs
  | _,[]=>[]
  | n,b :: bs=>rowB n b (b.2.1 - b.1).toNat ++ stB (n + 1) bs
theorem rowB_succ (n:Nat) (b:S3) (m:Nat) : rowB n b (m + 1) = rowB n b m ++ [(((n:Int),b.1 + (m:Nat)),b.2.2)]:=by unfold rowB; rw [List.range_succ,List.map_append]; rfl
theorem stB_snoc:∀ (bs:List S3) (n:Nat) (b:S3),stB n (bs ++ [b]) = stB n bs ++ rowB (n + bs.length) b (b.2.1 - b.1).toNat
  | [],n,b=>by simp [stB]
  | a :: bs,n,b=>by
    rw [List.cons_append]
    unfold stB
    rw [stB_snoc bs (n + 1) b,List.append_assoc,List.length_cons,show n + 1 + bs.length = n + (bs.length + 1) by lia]
theorem rowB_mem {n m:Nat} {b:S3} {p:(Int × Int) × Int} (h:p ∈ rowB n b m) : ∃ i:Nat,i < m∧p = (((n:Int),b.1 + (i:Nat)),b.2.2):=by
  obtain ⟨i,hi,rfl⟩:=List.mem_map.mp h
  exact ⟨i,List.mem_range.mp hi,rfl⟩
theorem stB_mem:∀ {bs:List S3} {n:Nat} {p:(Int × Int) × Int},p ∈ stB n bs→∃ b ∈ bs,(n:Int) ≤ p.1.1∧p.1.1 < n + bs.length∧b.1 ≤ p.1.2∧p.1.2 < b.2.1∧p.2 = b.2.2
  | [],_,_,h=>by cases h
  | b :: bs,n,p,h=>by
    unfold stB at h
    rcases List.mem_append.mp h with h | h
    · obtain ⟨i,hi,rfl⟩:=rowB_mem h
      refine ⟨b,List.mem_cons_self,Int.le_refl _,?_,?_,?_,rfl⟩
      · show (n:Int) < _; rw [List.length_cons]; lia
      · show b.1 ≤ b.1 + (i:Nat); lia
      · show b.1 + (i:Nat) < b.2.1; lia
    · obtain ⟨c,hc,h1,h2,h3⟩:=stB_mem h
      refine ⟨c,List.mem_cons_of_mem _ hc,by lia,?_,h3⟩
      rw [List.length_cons]; lia
theorem stB_len:∀ {bs:List S3} {n:Nat},(∀ b ∈ bs,b.2.1 - b.1 ≤ 200)→(stB n bs).length ≤ 200 * bs.length
  | [],_,_=>Nat.zero_le _
  | b :: bs,n,h=>by
    have ih:=stB_len (bs:=bs) (n:=n + 1) fun c hc=>h c (List.mem_cons_of_mem _ hc)
    have hb:=h b List.mem_cons_self
    unfold stB rowB
    rw [List.length_append,List.length_map,List.length_range,List.length_cons]
    lia
noncomputable abbrev LtK (p q:(Int × Int) × Int) : Prop:=p.1.1 < q.1.1 ∨ (p.1.1 = q.1.1∧p.1.2 < q.1.2)
theorem rowB_strict (n m:Nat) (b:S3) : (rowB n b m).Pairwise LtK:=by
  unfold rowB
  rw [List.pairwise_map]
  exact List.Pairwise.imp (fun {i j} h=>.inr ⟨rfl,by show b.1 + (i:Nat) < b.1 + (j:Nat); lia⟩) List.pairwise_lt_range
theorem stB_strict:∀ (bs:List S3) (n:Nat),(stB n bs).Pairwise LtK
  | [],_=>.nil
  | b :: bs,n=>by
    unfold stB
    refine List.pairwise_append.mpr ⟨rowB_strict ..,stB_strict bs (n + 1),fun p hp q hq=>?_⟩
    obtain ⟨i,hi,rfl⟩:=rowB_mem hp
    obtain ⟨_,_,h1,_⟩:=stB_mem hq
    exact .inl (by show (n:Int) < q.1.1; lia)
theorem rise_of {kvs:KVs} (h:kvs.Pairwise LtK) : RiseD kvs:=fun i p q hp hq=>by
  obtain ⟨h1,rfl⟩:=List.getElem?_eq_some_iff.mp hp
  obtain ⟨h2,rfl⟩:=List.getElem?_eq_some_iff.mp hq
  have:=List.pairwise_iff_getElem.mp h i (i + 1) h1 h2 (by lia)
  rcases this with z | z
  · exact .inl z
  · exact .inr ⟨z.1,by lia⟩
theorem putD_new {kvs:KVs} {k:Int × Int} {v:Int} (h:∀ p ∈ kvs,p.1 ≠ k) : putD kvs k v = kvs ++ [(k,v)]:=by
  unfold putD
  rw [if_neg]
  rw [List.any_eq_true]
  rintro ⟨p,hp,e⟩
  exact h p hp (of_decide_eq_true e)
theorem mid_new {bs:List S3} {b:S3} {m:Nat} : ∀ p ∈ stB 0 bs ++ rowB bs.length b m,p.1 ≠ ((bs.length:Int),b.1 + (m:Nat)):=fun p hp e=>by
  rcases List.mem_append.mp hp with h | h
  · obtain ⟨_,_,_,h2,_⟩:=stB_mem h
    rw [e] at h2
    dsimp only at h2
    lia
  · obtain ⟨i,hi,rfl⟩:=rowB_mem h
    have:=(Prod.mk.inj e).2
    lia
noncomputable def r_law_steps:DR:=fun ds P=>∃ g hs cs,ds = [dW g hs cs]∧WksOk g hs cs∧P (.n true [.dct (stB 0 (hotB hs)),.dct (stB 0 cs)])
theorem take_len {α:Type} {l:List α} {i:Nat} (h:i < l.length) : (l.take i).length = i:=by rw [List.length_take]; lia
theorem ok_law_steps (T:Blt mg) (F:Fun K "_law_steps" "_law_steps" s_law_steps f fd) : FnOk P w K mg base CX0 1 f fd ["works"] (spD K r_law_steps):=by
  refine okD F sc_law_steps (fun ds Q h=>by obtain ⟨g,hs,cs,rfl,ok,q⟩:=h; rfl) fun cdv A outer s H E hr=>⟨_,(dss_cons (ds_set (i:=1) sc_law_steps.nd rfl (Or.inl rfl) de_dnew)
      (dss_cons (ds_forS (g:=(.n 2)) PassesOwn.never rfl (dis_rng1 (by rfl) T.b_range (da_cons (de_callB cd_len (by rfl) T.b_len PySem.boot_len (da_cons (de_ix (dv 0) de_int) da_nil)) da_nil)) (pg_name (i:=2) sc_law_steps.nd rfl (Or.inl rfl)) (dss_one (ds_forS (g:=(.n 3)) PassesOwn.never rfl (dis_rng2 (by rfl) T.b_range (da_cons (de_ix (de_ix (de_ix (dv 0) de_int) (dv 2)) de_int) (da_cons (de_ix (de_ix (de_ix (dv 0) de_int) (dv 2)) de_int) da_nil))) (pg_name (i:=3) sc_law_steps.nd rfl (Or.inl rfl)) (dss_one (ds_dput (i:=1) hr rfl (by first | exact Or.inl rfl | exact Or.inr (Or.inl rfl) | exact Or.inr (Or.inr rfl)) (dv 2) (dv 3) (de_ix (de_ix (de_ix (dv 0) de_int) (dv 2)) de_int))))))
      (dss_cons (ds_set (i:=4) sc_law_steps.nd rfl (Or.inl rfl) de_dnew)
      (dss_cons (ds_forS (g:=(.n 2)) PassesOwn.never rfl (dis_rng1 (by rfl) T.b_range (da_cons (de_callB cd_len (by rfl) T.b_len PySem.boot_len (da_cons (de_ix (dv 0) de_int) da_nil)) da_nil)) (pg_name (i:=2) sc_law_steps.nd rfl (Or.inl rfl)) (dss_one (ds_forS (g:=(.n 5)) PassesOwn.never rfl (dis_rng2 (by rfl) T.b_range (da_cons (de_ix (de_ix (de_ix (dv 0) de_int) (dv 2)) de_int) (da_cons (de_ix (de_ix (de_ix (dv 0) de_int) (dv 2)) de_int) da_nil))) (pg_name (i:=5) sc_law_steps.nd rfl (Or.inl rfl)) (dss_one (ds_dput (i:=4) hr rfl (by first | exact Or.inl rfl | exact Or.inr (Or.inl rfl) | exact Or.inr (Or.inr rfl)) (dv 2) (dv 5) (de_ix (de_ix (de_ix (dv 0) de_int) (dv 2)) de_int))))))
      (dss_one (ds_retTO 1 4)))))),fun ds Q h=>?_⟩
  obtain ⟨g,hs,cs,rfl,ok,q⟩:=h
  have nh:=ok.nh
  have nc:=ok.nc
  have sl:sizeLine = 16777216:=sizeLine_eq
  repeat (first | dsimp only [dW] | walk_at "rs1" | set_option simprocs false in simp only [ixk0,ixk1,ixk2,ixk3,ixk4,ex_at])
  rw [List.length_map]
  refine ⟨⟨by lia,by lia⟩,?_⟩
  refine for_nat (fun i ρ=>∃ a2 a3,ρ = [some (.p (dW g hs cs)),some (.o (.dct (stB 0 (hotB (hs.take i))))),a2,a3,none,none]) ⟨none,none,rfl⟩ ?_ ?_
  · rintro i x ρ hx ⟨a2,a3,rfl⟩
    obtain ⟨hi,rfl⟩:=upFrom_get hx
    rw [Int.zero_add]
    have hi':i < hs.length:=hi
    have ec:=List.getElem?_eq_getElem (l:=hs) (i:=i) hi'
    have ho:=ok.hot _ (List.getElem_mem hi')
    generalize hs[i] = h at ec ho
    obtain ⟨o1,o2,o3,o4,o5⟩:=ho
    have g1:atI (hs.map d3) ((i:Nat) : Int) = some (d3 h):=atI_of ec
    have lb:(hotB (hs.take i)).length = i:=by rw [hotB_len,take_len hi']
    repeat (first | dsimp only [dW,d3] | walk_at "rs1" | set_option simprocs false in simp only [ixk0,ixk1,ixk2,ixk3,ixk4,ex_at,g1])
    refine ⟨⟨by lia,by lia,by lia,by lia⟩,?_⟩
    refine for_nat (fun k ρ=>∃ a3,ρ = [some (.p (dW g hs cs)),some (.o (.dct (stB 0 (hotB (hs.take i)) ++ rowB i (h.2.1,h.1,h.2.2) k))),some (.p (.int (i:Nat))),a3,none,none]) ⟨_,by rw [show rowB i (h.2.1,h.1,h.2.2) 0 = [] from rfl,List.append_nil]; rfl⟩ ?_ ?_
    · rintro k y ρ hy ⟨a3,rfl⟩
      obtain ⟨hk,rfl⟩:=upFrom_get hy
      repeat (first | dsimp only [dW,d3] | walk_at "rs1" | set_option simprocs false in simp only [ixk0,ixk1,ixk2,ixk3,ixk4,ex_at,g1])
      have new:=mid_new (bs:=hotB (hs.take i)) (b:=(h.2.1,h.1,h.2.2)) (m:=k)
      rw [lb] at new
      rw [putD_new new,List.append_assoc,← rowB_succ i (h.2.1,h.1,h.2.2) k]
      refine ⟨?_,_,rfl⟩
      have l1:=stB_len (bs:=hotB (hs.take i)) (n:=0) fun b hb=>by
        obtain ⟨x,hx,rfl⟩:=List.mem_map.mp hb
        have:=ok.hot x (List.mem_of_mem_take hx)
        have a1:=this.lo
        have a2:=this.hi
        show x.1 - x.2.1 ≤ 200
        lia
      rw [lb] at l1
      rw [List.length_append,show (rowB i (h.2.1,h.1,h.2.2) k).length = k by unfold rowB; rw [List.length_map,List.length_range]]
      lia
    · rintro ρ ⟨a3,rfl⟩
      rw [upFrom_len]
      rw [take_snoc ec,show hotB (hs.take i ++ [h]) = hotB (hs.take i) ++ [(h.2.1,h.1,h.2.2)] by unfold hotB; rw [List.map_append]; rfl,stB_snoc,lb,Nat.zero_add]
      exact ⟨_,_,rfl⟩
  rw [upFrom_len]
  rintro ρ ⟨a2,a3,rfl⟩
  rw [show (((hs.length:Nat) : Int)).toNat = hs.length from rfl,List.take_length]
  repeat (first | dsimp only [dW] | walk_at "rs1" | set_option simprocs false in simp only [ixk0,ixk1,ixk2,ixk3,ixk4,ex_at])
  rw [List.length_map]
  refine ⟨⟨by lia,by lia⟩,?_⟩
  refine for_nat (fun i ρ=>∃ a2 a5,ρ = [some (.p (dW g hs cs)),some (.o (.dct (stB 0 (hotB hs)))),a2,a3,some (.o (.dct (stB 0 (cs.take i)))),a5]) ⟨a2,none,rfl⟩ ?_ ?_
  · rintro i x ρ hx ⟨a2,a5,rfl⟩
    obtain ⟨hi,rfl⟩:=upFrom_get hx
    rw [Int.zero_add]
    have hi':i < cs.length:=hi
    have ec:=List.getElem?_eq_getElem (l:=cs) (i:=i) hi'
    have ho:=ok.cold _ (List.getElem_mem hi')
    generalize cs[i] = h at ec ho
    obtain ⟨o1,o2,o3,o4,o5⟩:=ho
    have g1:atI (cs.map d3) ((i:Nat) : Int) = some (d3 h):=atI_of ec
    have lb:(cs.take i).length = i:=take_len hi'
    repeat (first | dsimp only [dW,d3] | walk_at "rs1" | set_option simprocs false in simp only [ixk0,ixk1,ixk2,ixk3,ixk4,ex_at,g1])
    refine ⟨⟨by lia,by lia,by lia,by lia⟩,?_⟩
    refine for_nat (fun k ρ=>∃ a5,ρ = [some (.p (dW g hs cs)),some (.o (.dct (stB 0 (hotB hs)))),some (.p (.int (i:Nat))),a3,some (.o (.dct (stB 0 (cs.take i) ++ rowB i h k))),a5]) ⟨_,by rw [show rowB i h 0 = [] from rfl,List.append_nil]; rfl⟩ ?_ ?_
    · rintro k y ρ hy ⟨a5,rfl⟩
      obtain ⟨hk,rfl⟩:=upFrom_get hy
      repeat (first | dsimp only [dW,d3] | walk_at "rs1" | set_option simprocs false in simp only [ixk0,ixk1,ixk2,ixk3,ixk4,ex_at,g1])
      have new:=mid_new (bs:=cs.take i) (b:=h) (m:=k)
      rw [lb] at new
      rw [putD_new new,List.append_assoc,← rowB_succ i h k]
      refine ⟨?_,_,rfl⟩
      have l1:=stB_len (bs:=cs.take i) (n:=0) fun b hb=>by
        have:=ok.cold b (List.mem_of_mem_take hb)
        have a1:=this.lo
        have a2:=this.hi
        lia
      rw [lb] at l1
      rw [List.length_append,show (rowB i h k).length = k by unfold rowB; rw [List.length_map,List.length_range]]
      lia
    · rintro ρ ⟨a5,rfl⟩
      rw [upFrom_len]
      rw [take_snoc ec,stB_snoc,lb,Nat.zero_add]
      exact ⟨_,_,rfl⟩
  rw [upFrom_len]
  rintro ρ ⟨a2,a5,rfl⟩
  rw [show (((cs.length:Nat) : Int)).toNat = cs.length from rfl,List.take_length]
  repeat (first | walk_at "rs1" | set_option simprocs false in simp only [ixk0,ixk1,ixk2,ixk3,ixk4,ex_at])
  exact ⟨by decide,q⟩
noncomputable def sumA (L:Int) (kvs:KVs) : Int:=(kvs.map fun p=>if L ≤ p.1.2 then p.2 else 0).sum
theorem sumA_app (L:Int) (a b:KVs) : sumA L (a ++ b) = sumA L a + sumA L b:=by unfold sumA; rw [List.map_append,List.sum_append]
theorem sumA_row (L:Int) (n:Nat) (b:S3) : ∀ m:Nat,sumA L (rowB n b m) = b.2.2 * mx 0 (b.1 + (m:Nat) - mx b.1 L)
  | 0=>by
    have:mx 0 (b.1 + ((0:Nat) : Int) - mx b.1 L) = 0:=by unfold mx; split <;> split <;> lia
    rw [this,Int.mul_zero]
    rfl
  | m + 1=>by
    rw [rowB_succ,sumA_app,sumA_row L n b m]
    have e:sumA L [(((n:Int),b.1 + (m:Nat)),b.2.2)] = if L ≤ b.1 + (m:Nat) then b.2.2 else 0:=by unfold sumA; simp
    rw [e]
    by_cases z:L ≤ b.1 + (m:Nat)
    · have : mx 0 (b.1 + ((m + 1 : Nat) : Int) - mx b.1 L) = mx 0 (b.1 + (m : Nat) - mx b.1 L) + 1 := by unfold mx; split <;> split <;> split <;> lia
      rw [if_pos z,this,Int.mul_add,Int.mul_one]
    · have : mx 0 (b.1 + ((m + 1 : Nat) : Int) - mx b.1 L) = mx 0 (b.1 + (m : Nat) - mx b.1 L) := by unfold mx; split <;> split <;> split <;> lia
      rw [if_neg z,this,Int.add_zero]
theorem sumA_st (L:Int) : ∀ (bs:List S3) (n:Nat),(∀ b ∈ bs,b.1 ≤ b.2.1)→sumA L (stB n bs) = above bs L
  | [],_,_=>rfl
  | b :: bs,n,h=>by
    have ih:=sumA_st L bs (n + 1) fun c hc=>h c (List.mem_cons_of_mem _ hc)
    have hb:=h b List.mem_cons_self
    unfold stB
    rw [sumA_app,ih,sumA_row]
    unfold above
    rw [List.map_cons,List.sum_cons]
    unfold above1
    rw [show b.1 + (((b.2.1 - b.1).toNat:Nat) : Int) = b.2.1 by lia]
theorem above_shift (g L:Int) (cs:List S3) : above (coldB g cs) L = above cs (L - g):=by
  unfold above coldB
  rw [List.map_map]
  congr 1
  refine List.map_congr_left fun x _=>?_
  show x.2.2 * mx 0 (x.2.1 + g - mx (x.1 + g) L) = x.2.2 * mx 0 (x.2.1 - mx x.1 (L - g))
  congr 1
  unfold mx
  split <;> split <;> split <;> split <;> lia
noncomputable abbrev ltk (a b:Int × Int) : Prop:=a.1 < b.1 ∨ (a.1 = b.1∧a.2 < b.2)
theorem strict_keys {kvs:KVs} : (kvs.map (·.1)).Pairwise ltk ↔ kvs.Pairwise LtK:=by rw [List.pairwise_map]
theorem valD_of {kvs:KVs} (h:(kvs.map (·.1)).Pairwise ltk) {p:(Int × Int) × Int} (m:p ∈ kvs) : valD kvs p.1 = some p.2:=by
  induction kvs with
  | nil=>cases m
  | cons q r ih =>
    rw [List.map_cons] at h
    obtain ⟨h1,h2⟩:=List.pairwise_cons.mp h
    rcases List.mem_cons.mp m with rfl | m
    · simp [valD,List.find?_cons]
    · have ne:q.1 ≠ p.1:=fun e=>by
        have:=h1 p.1 (List.mem_map.mpr ⟨p,m,rfl⟩)
        rw [e] at this
        rcases this with z | z <;> lia
      have:=ih h2 m
      unfold valD at this ⊢
      rw [List.find?_cons_of_neg (by simp [ne])]
      exact this
theorem putD_keys {kvs:KVs} {k:Int × Int} {v:Int} (h:k ∈ kvs.map (·.1)) : (putD kvs k v).map (·.1) = kvs.map (·.1):=by
  obtain ⟨p,hp,rfl⟩:=List.mem_map.mp h
  unfold putD
  rw [if_pos (List.any_eq_true.mpr ⟨p,hp,decide_eq_true rfl⟩),List.map_map]
  refine List.map_congr_left fun q _=>?_
  show (if q.1 = p.1 then (q.1,v) else q).1 = q.1
  split <;> rfl
theorem putD_old {kvs:KVs} {k:Int × Int} {v:Int} (h:k ∈ kvs.map (·.1)) : putD kvs k v = kvs.map fun p=>if p.1 = k then (p.1,v) else p:=by
  obtain ⟨p,hp,rfl⟩:=List.mem_map.mp h
  unfold putD
  rw [if_pos (List.any_eq_true.mpr ⟨p,hp,decide_eq_true rfl⟩)]
theorem sumA_map (L:Int) (k:Int × Int) (v:Int) : ∀ {kvs:KVs},(kvs.map (·.1)).Pairwise ltk→∀ {m:Int},(k,m) ∈ kvs→sumA L (kvs.map fun p=>if p.1 = k then (p.1,v) else p) = sumA L kvs + (if L ≤ k.2 then v - m else 0)
  | [],_,_,h=>by cases h
  | q :: r,h,m,hm=>by
    rw [List.map_cons] at h
    obtain ⟨h1,h2⟩:=List.pairwise_cons.mp h
    have e:∀ p:(Int × Int) × Int,∀ r:KVs,sumA L (p :: r) = (if L ≤ p.1.2 then p.2 else 0) + sumA L r:=fun p r=>by unfold sumA; rw [List.map_cons,List.sum_cons]
    rw [List.map_cons,e,e]
    rcases List.mem_cons.mp hm with z | z
    · subst z
      have same:r.map (fun p=>if p.1 = k then (p.1,v) else p) = r:=by
        refine (List.map_congr_left fun p hp=>?_).trans (List.map_id _)
        have:ltk k p.1:=h1 p.1 (List.mem_map.mpr ⟨p,hp,rfl⟩)
        rw [if_neg (by rintro rfl; rcases this with z | z <;> lia)]
        rfl
      rw [same]
      dsimp only
      rw [if_pos rfl]
      dsimp only
      split <;> lia
    · have ne:q.1 ≠ k:=by
        rintro rfl
        have:=h1 q.1 (List.mem_map.mpr ⟨_,z,rfl⟩)
        rcases this with z | z <;> lia
      rw [if_neg ne,sumA_map L k v h2 z]
      lia
theorem sumA_put (L:Int) {kvs:KVs} {k:Int × Int} {v m:Int} (h:(kvs.map (·.1)).Pairwise ltk) (hm:(k,m) ∈ kvs) : sumA L (putD kvs k v) = sumA L kvs + (if L ≤ k.2 then v - m else 0):=by
  rw [putD_old (List.mem_map.mpr ⟨_,hm,rfl⟩),sumA_map L k v h hm]
theorem put_pos {kvs:KVs} {k:Int × Int} {v:Int} (h:k ∈ kvs.map (·.1)) (h0:∀ p ∈ kvs,0 ≤ p.2) (hv:0 ≤ v) : ∀ p ∈ putD kvs k v,0 ≤ p.2:=fun p hp=>by
  rw [putD_old h] at hp
  obtain ⟨q,hq,rfl⟩:=List.mem_map.mp hp
  split
  · exact hv
  · exact h0 q hq
structure Need (g:Int) (hs cs:List S3) (hk ck:KVs) : Prop where
  kh:hk.map (·.1) = (stB 0 (hotB hs)).map (·.1)
  kc:ck.map (·.1) = (stB 0 cs).map (·.1)
  h0:∀ p ∈ hk,0 ≤ p.2
  c0:∀ p ∈ ck,0 ≤ p.2
  dif:∀ L:Int,lackF g hs cs L ≤ sumA (L - g) ck - sumA L hk
  eq0:sumA (0 - g) ck - sumA 0 hk = lackF g hs cs 0
theorem Need.sh {g:Int} {hs cs:List S3} {hk ck:KVs} (n:Need g hs cs hk ck) : (hk.map (·.1)).Pairwise ltk:=by rw [n.kh,strict_keys]; exact stB_strict ..
theorem Need.sc {g:Int} {hs cs:List S3} {hk ck:KVs} (n:Need g hs cs hk ck) : (ck.map (·.1)).Pairwise ltk:=by rw [n.kc,strict_keys]; exact stB_strict ..
theorem hot_key {g:Int} {hs cs:List S3} (ok:WksOk g hs cs) {k:Int × Int} (h:k ∈ (stB 0 (hotB hs)).map (·.1)) : ∃ x ∈ hs,x.2.1 ≤ k.2∧k.2 < x.1:=by
  obtain ⟨p,hp,rfl⟩:=List.mem_map.mp h
  obtain ⟨b,hb,_,_,h3,h4,_⟩:=stB_mem hp
  obtain ⟨x,hx,rfl⟩:=List.mem_map.mp hb
  exact ⟨x,hx,h3,h4⟩
theorem cold_key {g:Int} {hs cs:List S3} (ok:WksOk g hs cs) {k:Int × Int} (h:k ∈ (stB 0 cs).map (·.1)) : ∃ x ∈ cs,x.1 ≤ k.2∧k.2 < x.2.1:=by
  obtain ⟨p,hp,rfl⟩:=List.mem_map.mp h
  obtain ⟨b,hb,_,_,h3,h4,_⟩:=stB_mem hp
  exact ⟨b,hb,h3,h4⟩
theorem need_start {g:Int} {hs cs:List S3} (ok:WksOk g hs cs) : Need g hs cs (stB 0 (hotB hs)) (stB 0 cs):=by
  have e1:∀ L,sumA L (stB 0 (hotB hs)) = above (hotB hs) L:=fun L=>sumA_st L _ 0 fun b hb=>by
    obtain ⟨x,hx,rfl⟩:=List.mem_map.mp hb
    have:=(ok.hot x hx).lt
    show x.2.1 ≤ x.1
    lia
  have e2:∀ L,sumA (L - g) (stB 0 cs) = above (coldB g cs) L:=fun L=>by
    rw [above_shift]
    exact sumA_st _ _ 0 fun b hb=>by have:=(ok.cold b hb).lt; lia
  refine ⟨rfl,rfl,fun p hp=>?_,fun p hp=>?_,fun L=>?_,?_⟩
  · obtain ⟨b,hb,_,_,_,_,e⟩:=stB_mem hp
    obtain ⟨x,hx,rfl⟩:=List.mem_map.mp hb
    have:=(ok.hot x hx).r0
    rw [e]
    show 0 ≤ x.2.2
    lia
  · obtain ⟨b,hb,_,_,_,_,e⟩:=stB_mem hp
    have:=(ok.cold b hb).r0
    rw [e]
    lia
  · rw [e1,e2]; exact Int.le_refl _
  · rw [e1,e2]; rfl
theorem need_pass {g:Int} {hs cs:List S3} {hk ck:KVs} {a b:Int × Int} {x y m:Int} (ok:WksOk g hs cs) (n:Need g hs cs hk ck) (ha:(a,x) ∈ hk) (hb:(b,y) ∈ ck) (m0:0 ≤ m) (mx:m ≤ x) (my:m ≤ y) (h:b.2 + g ≤ a.2) :
    Need g hs cs (putD hk a (x - m)) (putD ck b (y - m)):=by
  have ka:a ∈ hk.map (·.1):=List.mem_map.mpr ⟨_,ha,rfl⟩
  have kb:b ∈ ck.map (·.1):=List.mem_map.mpr ⟨_,hb,rfl⟩
  obtain ⟨u,hu,u1,u2⟩:=hot_key ok (by rw [← n.kh]; exact ka)
  obtain ⟨v,hv,v1,v2⟩:=cold_key ok (by rw [← n.kc]; exact kb)
  have l1:=(ok.hot u hu).lo
  have l2:=(ok.cold v hv).lo
  have g0:=ok.g0
  refine ⟨(putD_keys ka).trans n.kh,(putD_keys kb).trans n.kc,put_pos ka n.h0 (by lia),put_pos kb n.c0 (by lia),fun L=>?_,?_⟩
  · have d:=n.dif L
    rw [sumA_put L n.sh ha,sumA_put (L - g) n.sc hb]
    by_cases z1:L - g ≤ b.2
    · rw [if_pos z1,if_pos (by lia)]; lia
    · rw [if_neg z1]
      split <;> lia
  · have d:=n.eq0
    rw [sumA_put 0 n.sh ha,sumA_put (0 - g) n.sc hb,if_pos (by lia),if_pos (by lia)]
    lia
noncomputable def posL (d:Int) (kvs:KVs) : List (Int × Int):=kvs.filterMap fun p=>if 0 < p.2 then some (p.1.2 + d,p.2) else none
noncomputable def r_law_needs:DR:=fun ds P=>∃ g hs cs ns,ds = [dW g hs cs,.scr ns]∧WksOk g hs cs∧∀ hk ck,Need g hs cs hk ck→P (.p (.tup [.lst ((posL g ck).map dP2),.lst ((posL 0 hk).map dP2)]))
theorem six_at (v:Int) : ∃ j:Int,atI [D.int 0,D.int 0,D.int 1,D.int 1,D.int 1,D.int 2] (v % 6) = some (.int j)∧0 ≤ j∧j < 3:=by
  have:v % 6 = 0 ∨ v % 6 = 1 ∨ v % 6 = 2 ∨ v % 6 = 3 ∨ v % 6 = 4 ∨ v % 6 = 5:=by lia
  rcases this with e | e | e | e | e | e <;> rw [e]
  · exact ⟨0,rfl,by decide,by decide⟩
  · exact ⟨0,rfl,by decide,by decide⟩
  · exact ⟨1,rfl,by decide,by decide⟩
  · exact ⟨1,rfl,by decide,by decide⟩
  · exact ⟨1,rfl,by decide,by decide⟩
  · exact ⟨2,rfl,by decide,by decide⟩
theorem keys_get {kvs:KVs} {i:Nat} {d:D} (h:(keysD kvs)[i]? = some d) : ∃ k,k ∈ kvs.map (·.1)∧d = .tup [.int k.1,.int k.2]:=by
  unfold keysD at h
  rw [List.getElem?_map] at h
  cases e:kvs[i]? with
  | none=>rw [e] at h; cases h
  | some p =>
    rw [e] at h
    cases h
    exact ⟨p.1,List.mem_map.mpr ⟨p,List.mem_of_getElem? e,rfl⟩,rfl⟩
theorem keys_flat (kvs:KVs) : (keysD kvs).all D.flat = true:=by
  rw [List.all_eq_true]
  intro d hd
  obtain ⟨p,_,rfl⟩:=List.mem_map.mp hd
  rfl
theorem key_val {kvs:KVs} {k:Int × Int} (h:k ∈ kvs.map (·.1)) : ∃ v,(k,v) ∈ kvs:=by
  obtain ⟨p,hp,rfl⟩:=List.mem_map.mp h
  exact ⟨p.2,hp⟩
theorem ok_law_needs (T:Blt mg) (F_law_steps:Fn P w K mg base "_law_steps" 1 ["works"] (spD K r_law_steps)) (F_law_mixed:Fn P w K mg base "_law_mixed" 1 ["cell","k"] (spD K r_law_mixed)) (F_law_cell_at:Fn P w K mg base "_law_cell_at" 1 ["script","k"] (spD K r_law_cell_at)) (F:Fun K "_law_needs" "_law_needs" s_law_needs f fd) : FnOk P w K mg base CX0 2 f fd ["works","script"] (spD K r_law_needs):=by
  refine okD F sc_law_needs (fun ds Q h=>by obtain ⟨g,hs,cs,ns,rfl,ok,q⟩:=h; rfl) fun cdv A outer s H E hr=>⟨_,(dss_cons (ds_unN (i:=2) (j:=3) (de_fn F_law_steps (hr.mono (by decide)) (by rfl) (da_cons (dv 0) da_nil)) (pg_seq rfl (pgs_cons (pg_name (i:=2) sc_law_needs.nd rfl (Or.inr rfl)) (pgs_cons (pg_name (i:=3) sc_law_needs.nd rfl (Or.inr rfl)) pgs_nil))))
      (dss_cons (ds_setP (i:=4) sc_law_needs.nd rfl (Or.inl rfl) de_int)
      (dss_cons (ds_forT (g:=(.t [5,6])) PassesOwn.never rfl (de_callB (cd_sortD rfl) (by rfl) T.b_sorted PyProof.Rows.boot_sorted (da_cons (dv 2) da_nil)) (pg_seq rfl (pgs_cons (pg_name (i:=5) sc_law_needs.nd rfl (Or.inl rfl)) (pgs_cons (pg_name (i:=6) sc_law_needs.nd rfl (Or.inl rfl)) pgs_nil))) (dss_one (ds_forT (g:=(.t [7,8])) PassesOwn.never rfl (de_callB (cd_sortD rfl) (by rfl) T.b_sorted PyProof.Rows.boot_sorted (da_cons (dv 3) da_nil)) (pg_seq rfl (pgs_cons (pg_name (i:=7) sc_law_needs.nd rfl (Or.inl rfl)) (pgs_cons (pg_name (i:=8) sc_law_needs.nd rfl (Or.inl rfl)) pgs_nil))) (dss_cons (ds_aug (i:=4) sc_law_needs.nd rfl (Or.inl rfl) de_int ip_add)
      (dss_cons (ds_setF (i:=9) sc_law_needs.nd rfl (Or.inl rfl) (de_callB (cd_min2 rfl) (by rfl) T.b_min PyProof.Rows.boot_min (da_cons (de_dget hr (dv 2) (de_tup (da_cons (dv 5) (da_cons (dv 6) da_nil)))) (da_cons (de_dget hr (dv 3) (de_tup (da_cons (dv 7) (da_cons (dv 8) da_nil)))) da_nil))))
      (dss_cons (ds_setP (i:=10) sc_law_needs.nd rfl (Or.inl rfl) (de_fn F_law_mixed (hr.mono (by decide)) (by rfl) (da_cons (de_fn F_law_cell_at (hr.mono (by decide)) (by rfl) (da_cons (dv 1) (da_cons (de_op od_mod (dv 4) (de_callB (cd_max2 rfl) (by rfl) T.b_max PyProof.Rows.boot_max (da_cons de_int (da_cons (de_callB (cd_min2 rfl) (by rfl) T.b_min PyProof.Rows.boot_min (da_cons de_int (da_cons (de_callB cd_len (by rfl) T.b_len PySem.boot_len (da_cons (dv 1) da_nil)) da_nil))) da_nil)))) da_nil))) (da_cons (de_op od_plus de_int (dv 4)) da_nil))))
      (dss_cons (ds_setP (i:=11) sc_law_needs.nd rfl (Or.inl rfl) (de_ix (de_lst (da_cons (dv 9) (da_cons (de_op od_mod (de_op od_fdiv (dv 10) de_int) (de_op od_plus (dv 9) de_int)) (da_cons de_int da_nil)))) (de_ix (de_lst (da_cons de_int (da_cons de_int (da_cons de_int (da_cons de_int (da_cons de_int (da_cons de_int da_nil))))))) (de_op od_mod (dv 10) de_int))))
      (dss_one (ds_if (dt_cmp od_ge (dv 6) (de_op od_plus (dv 8) (de_ix (dv 0) de_int)) (nomark _)) (dss_cons (ds_daug (ps_augS (pv 2) (de_tup (da_cons (dv 5) (da_cons (dv 6) da_nil))).pe (get_dict (hu_of hr)) (dv 11).pe ip_sub (set_dict (hu_of hr))))
      (dss_one (ds_daug (ps_augS (pv 3) (de_tup (da_cons (dv 7) (da_cons (dv 8) da_nil))).pe (get_dict (hu_of hr)) (dv 11).pe ip_sub (set_dict (hu_of hr)))))) dss_nil)))))))))
      (dss_cons (ds_setLCDP (i:=12) sc_law_needs.nd rfl (Or.inl rfl) (g:=(.n 0)) (tc:=(dTst (dOp _ (dOp dGetD (dVar 1) (dVar 0)) (dC _)))) (te:=(dTup (dCons (dOp _ (dOp dIx (dVar 0) (dC _)) (dOp dIx (dVar 2) (dC _))) (dCons (dOp dGetD (dVar 1) (dVar 0)) dNil)))) (sc0:=defScope s_law_needs) (N0:=["works","script","hots","colds","count","giver","at","taker","into","most","number","much","heat"]) ["key","colds","works"] [none,some 3,some 0] rfl (di_list (de_callB (cd_sortD rfl) (by rfl) T.b_sorted PyProof.Rows.boot_sorted (da_cons (dv 3) da_nil))) (fun _ _ _ _ _=>(pg_name (i:=0) (show (["key","colds","works"] : List Str).Nodup by decide +kernel) rfl (Or.inl rfl))) (fun _ _ _ _ _=>(difs_one (dt_cmp od_gt (de_dget hr (dv 1) (dv 0)) de_int (nomark _)))) (fun _ _ _ _ _=>(de_tup (da_cons (de_op od_plus (de_ix (dv 0) de_int) (de_ix (dv 2) de_int)) (da_cons (de_dget hr (dv 1) (dv 0)) da_nil)))))
      (dss_one (ds_ret (de_tup (da_cons (dv 12) (da_cons (de_lc (g:=(.n 0)) (tc:=(dTst (dOp _ (dOp dGetD (dVar 1) (dVar 0)) (dC _)))) (te:=(dTup (dCons (dOp dIx (dVar 0) (dC _)) (dCons (dOp dGetD (dVar 1) (dVar 0)) dNil)))) (sc0:=defScope s_law_needs) (N0:=["works","script","hots","colds","count","giver","at","taker","into","most","number","much","heat"]) ["key","hots"] [none,some 2] rfl (di_list (de_callB (cd_sortD rfl) (by rfl) T.b_sorted PyProof.Rows.boot_sorted (da_cons (dv 2) da_nil))) (fun _ _ _ _ _=>(pg_name (i:=0) (show (["key","hots"] : List Str).Nodup by decide +kernel) rfl (Or.inl rfl))) (fun _ _ _ _ _=>(difs_one (dt_cmp od_gt (de_dget hr (dv 1) (dv 0)) de_int (nomark _)))) (fun _ _ _ _ _=>(de_tup (da_cons (de_ix (dv 0) de_int) (da_cons (de_dget hr (dv 1) (dv 0)) da_nil))))) da_nil))))))))),fun ds Q h=>?_⟩
  obtain ⟨g,hs,cs,ns,rfl,ok,q⟩:=h
  repeat (first | walk_at "rs1" | set_option simprocs false in simp only [ixk0,ixk1,ixk2,ixk3,ixk4,ex_at])
  refine ⟨g,hs,cs,rfl,ok,?_⟩
  repeat (first | walk_at "rs1" | set_option simprocs false in simp only [ixk0,ixk1,ixk2,ixk3,ixk4,ex_at])
  refine ⟨by decide,rise_of (stB_strict ..),keys_flat _,?_⟩
  have sl:sizeLine = 16777216:=sizeLine_eq
  have lh:∀ {hk ck:KVs},Need g hs cs hk ck→hk.length ≤ 2400∧ck.length ≤ 2400:=fun n=>by
    have e1:=congrArg List.length n.kh
    have e2:=congrArg List.length n.kc
    rw [List.length_map,List.length_map] at e1 e2
    have l1:=stB_len (bs:=hotB hs) (n:=0) fun b hb=>by
      obtain ⟨x,hx,rfl⟩:=List.mem_map.mp hb
      have a1:=(ok.hot x hx).lo
      have a2:=(ok.hot x hx).hi
      show x.1 - x.2.1 ≤ 200
      lia
    have l2:=stB_len (bs:=cs) (n:=0) fun b hb=>by
      have a1:=(ok.cold b hb).lo
      have a2:=(ok.cold b hb).hi
      lia
    rw [hotB_len] at l1
    have:=ok.nh
    have:=ok.nc
    lia
  refine for_nat (fun i ρ=>∃ (hk ck:KVs) (n:Int) (a5 a6 a7 a8 a9 a10 a11:Option B),Need g hs cs hk ck∧ρ = [some (.p (dW g hs cs)),some (.p (.scr ns)),some (.o (.dct hk)),some (.o (.dct ck)),some (.p (.int n)),a5,a6,a7,a8,a9,a10,a11,none]) ⟨_,_,0,none,none,none,none,none,none,none,need_start ok,rfl⟩ ?_ ?_
  · rintro i x ρ hx ⟨hk,ck,n,a5,a6,a7,a8,a9,a10,a11,nd,rfl⟩
    obtain ⟨ka,hka,rfl⟩:=keys_get hx
    repeat (first | walk_at "rs1" | set_option simprocs false in simp only [ixk0,ixk1,ixk2,ixk3,ixk4,ex_at])
    refine ⟨rise_of (strict_keys.mp nd.sc),keys_flat _,?_⟩
    refine for_nat (fun j ρ=>∃ (hk ck:KVs) (n:Int) (a7 a8 a9 a10 a11:Option B),Need g hs cs hk ck∧ρ = [some (.p (dW g hs cs)),some (.p (.scr ns)),some (.o (.dct hk)),some (.o (.dct ck)),some (.p (.int n)),some (.p (.int ka.1)),some (.p (.int ka.2)),a7,a8,a9,a10,a11,none]) ⟨hk,ck,n,_,_,_,_,_,nd,rfl⟩ ?_ ?_
    · rintro j y ρ hy ⟨hk',ck',n',b7,b8,b9,b10,b11,nd',rfl⟩
      obtain ⟨kb,hkb,rfl⟩:=keys_get hy
      have ha:ka ∈ hk'.map (·.1):=by rw [nd'.kh]; exact hka
      have hb:kb ∈ ck'.map (·.1):=by rw [nd'.kc,← nd.kc]; exact hkb
      obtain ⟨va,mva⟩:=key_val ha
      obtain ⟨vb,mvb⟩:=key_val hb
      have ea:valD hk' ka = some va:=valD_of nd'.sh mva
      have eb:valD ck' kb = some vb:=valD_of nd'.sc mvb
      have va0:0 ≤ va:=nd'.h0 _ mva
      have vb0:0 ≤ vb:=nd'.c0 _ mvb
      repeat (first | walk_at "rs1" | set_option simprocs false in simp only [ixk0,ixk1,ixk2,ixk3,ixk4,ex_at])
      have hM:0 < (if (if ((ns.length:Nat) : Int) < 63 then ((ns.length:Nat) : Int) else 63) > 1 then if ((ns.length:Nat) : Int) < 63 then ((ns.length:Nat) : Int) else 63 else 1):=by split <;> lia
      generalize (if (if ((ns.length:Nat) : Int) < 63 then ((ns.length:Nat) : Int) else 63) > 1 then if ((ns.length:Nat) : Int) < 63 then ((ns.length:Nat) : Int) else 63 else 1) = M at hM
      refine ⟨va,ea,vb,eb,rfl,hM,ns,_,rfl,Int.emod_nonneg _ (by lia),?_⟩
      repeat (first | walk_at "rs1" | set_option simprocs false in simp only [ixk0,ixk1,ixk2,ixk3,ixk4,ex_at])
      refine ⟨_,_,rfl,?_⟩
      generalize mixF (cellF ns ((n' + 1) % M)) (40 + (n' + 1)) = m
      have hmo:0 ≤ (if vb < va then vb else va)∧(if vb < va then vb else va) ≤ va∧(if vb < va then vb else va) ≤ vb:=by split <;> lia
      generalize (if vb < va then vb else va) = mo at hmo
      obtain ⟨jj,hj,j0,j1⟩:=six_at m
      have p0:=Int.emod_nonneg (m / 6) (b:=mo + 1) (by lia)
      have p1:=Int.emod_lt_of_pos (m / 6) (b:=mo + 1) (by lia)
      repeat (first | walk_at "rs1" | set_option simprocs false in simp only [ixk0,ixk1,ixk2,ixk3,ixk4,ex_at,hj])
      refine ⟨⟨by decide,by decide⟩,by lia,by decide,_,pk3_at j0 j1,?_⟩
      have hw:0 ≤ pk3 mo (m / 6 % (mo + 1)) 0 jj∧pk3 mo (m / 6 % (mo + 1)) 0 jj ≤ mo:=by
        unfold pk3
        split
        · lia
        · split <;> lia
      generalize pk3 mo (m / 6 % (mo + 1)) 0 jj = w at hw
      repeat (first | dsimp only [dW] | walk_at "rs1" | set_option simprocs false in simp only [ixk0,ixk1,ixk2,ixk3,ixk4,ex_at])
      refine ⟨fun z=>?_,fun z=>⟨_,_,_,_,_,_,_,_,nd',rfl⟩⟩
      have hz:=of_decide_eq_true z
      refine ⟨va,ea,by have:=(lh nd').1; lia,vb,eb,by have:=(lh nd').2; lia,_,_,_,_,_,_,_,_,need_pass ok nd' mva mvb hw.1 (by lia) (by lia) hz,rfl⟩
    · rintro ρ ⟨hk',ck',n',b7,b8,b9,b10,b11,nd',rfl⟩
      exact ⟨_,_,_,_,_,_,_,_,_,_,nd',rfl⟩
  · rintro ρ ⟨hk,ck,n,a5,a6,a7,a8,a9,a10,a11,nd,rfl⟩
    have fin:∀ (d:Int) (kvs:KVs),kvs.filterMap (fun p=>if 0 < p.2 then some (D.tup [.int (p.1.2 + d),.int p.2]) else none) = (posL d kvs).map dP2:=fun d kvs=>by
      unfold posL
      rw [List.map_filterMap]
      refine filterMap_congr' fun p _=>?_
      split <;> rfl
    repeat (first | walk_at "rs1" | set_option simprocs false in simp only [ixk0,ixk1,ixk2,ixk3,ixk4,ex_at])
    refine ⟨rise_of (strict_keys.mp nd.sc),?_⟩
    unfold keysD
    refine lc_funE (fun d=>match d with | .tup [.int a,.int b]=>(match valD ck (a,b) with | some v=>if 0 < v then some (.tup [.int (b + g),.int v]) else none | none=>none) | d=>some d) (fun p=>if 0 < p.2 then some (.tup [.int (p.1.2 + g),.int p.2]) else none) (fun p hp=>?_) (by have:=(lh nd).2; lia) (fun p hp=>?_) ?_
    · show (match valD ck p.1 with | some v=>if 0 < v then some (D.tup [.int (p.1.2 + g),.int v]) else none | none=>none) = _
      rw [valD_of nd.sc hp]
    · have ev:valD ck (p.1.1,p.1.2) = some p.2:=valD_of nd.sc hp
      repeat (first | dsimp only [dW] | walk_at "rs1" | set_option simprocs false in simp only [ixk0,ixk1,ixk2,ixk3,ixk4,ex_at])
      exact ⟨_,ev,fun z=>⟨_,ev,(if_pos (of_decide_eq_true z)).symm⟩,fun z=>(if_neg (of_decide_eq_false z)).symm⟩
    rw [fin]
    repeat (first | walk_at "rs1" | set_option simprocs false in simp only [ixk0,ixk1,ixk2,ixk3,ixk4,ex_at])
    refine ⟨rise_of (strict_keys.mp nd.sh),?_⟩
    refine lc_funE (fun d=>match d with | .tup [.int a,.int b]=>(match valD hk (a,b) with | some v=>if 0 < v then some (.tup [.int (b + 0),.int v]) else none | none=>none) | d=>some d) (fun p=>if 0 < p.2 then some (.tup [.int (p.1.2 + 0),.int p.2]) else none) (fun p hp=>?_) (by have:=(lh nd).1; lia) (fun p hp=>?_) ?_
    · show (match valD hk p.1 with | some v=>if 0 < v then some (D.tup [.int (p.1.2 + 0),.int v]) else none | none=>none) = _
      rw [valD_of nd.sh hp]
    · have ev:valD hk (p.1.1,p.1.2) = some p.2:=valD_of nd.sh hp
      rw [Int.add_zero]
      repeat (first | walk_at "rs1" | set_option simprocs false in simp only [ixk0,ixk1,ixk2,ixk3,ixk4,ex_at])
      exact ⟨_,ev,fun z=>⟨_,ev,(if_pos (of_decide_eq_true z)).symm⟩,fun z=>(if_neg (of_decide_eq_false z)).symm⟩
    rw [fin]
    repeat (first | walk_at "rs1" | set_option simprocs false in simp only [ixk0,ixk1,ixk2,ixk3,ixk4,ex_at])
    exact q hk ck nd
structure Offs (last:Int) (os:List (Int × Int)) : Prop where
  ex:∃ pre p,os = pre ++ [(last,p)]∧pre.length ≤ 3∧0 ≤ p∧p ≤ 1000000∧∀ x ∈ pre,1 ≤ x.1∧x.1 ≤ 199∧0 ≤ x.2∧x.2 ≤ 1000000
noncomputable def r_law_offers:DR:=fun ds P=>∃ (ns:List Int) (k last:Int),ds = [.scr ns,.int k,.int last]∧0 ≤ k∧∀ os,Offs last os→P (.o (.lst (os.map dP2)))
theorem two_by (a b v:Int) (ha:0 < a) (hb:0 < b) (h:a ≤ 1000001) (h':b ≤ 1000001) : ∃ w,atI [D.int a,D.int b] (v % 2) = some (.int w)∧0 < w∧w ≤ 1000001:=by
  have e:v % 2 = 0 ∨ v % 2 = 1:=by lia
  rcases e with e | e
  · rw [e]; exact ⟨a,ixk0 _ _,ha,h⟩
  · rw [e]; exact ⟨b,ixk1 _ _ _,hb,h'⟩
theorem ok_law_offers (T:Blt mg) (F_law_mixed:Fn P w K mg base "_law_mixed" 1 ["cell","k"] (spD K r_law_mixed)) (F_law_cell_at:Fn P w K mg base "_law_cell_at" 1 ["script","k"] (spD K r_law_cell_at)) (F:Fun K "_law_offers" "_law_offers" s_law_offers f fd) : FnOk P w K mg base CX0 2 f fd ["script","k","last"] (spD K r_law_offers):=by
  refine okD F sc_law_offers (fun ds Q h=>by obtain ⟨ns,k,last,rfl,k0,q⟩:=h; rfl) fun cdv A outer s H E hr=>⟨_,(dss_cons (ds_set (i:=3) sc_law_offers.nd rfl (Or.inl rfl) (de_lst da_nil))
      (dss_cons (ds_forS (g:=(.n 4)) PassesOwn.never rfl (dis_rng1 (by rfl) T.b_range (da_cons (de_op od_mod (de_fn F_law_cell_at (hr.mono (by decide)) (by rfl) (da_cons (dv 0) (da_cons (dv 1) da_nil))) de_int) da_nil)) (pg_name (i:=4) sc_law_offers.nd rfl (Or.inl rfl)) (dss_cons (ds_setP (i:=5) sc_law_offers.nd rfl (Or.inl rfl) (de_fn F_law_mixed (hr.mono (by decide)) (by rfl) (da_cons (de_fn F_law_cell_at (hr.mono (by decide)) (by rfl) (da_cons (dv 0) (da_cons (de_op od_plus (dv 1) (dv 4)) da_nil))) (da_cons (de_op od_plus (de_op od_plus de_int (dv 1)) (dv 4)) da_nil))))
      (dss_cons (ds_setP (i:=6) sc_law_offers.nd rfl (Or.inl rfl) (de_callB (cd_min2 rfl) (by rfl) T.b_min PyProof.Rows.boot_min (da_cons de_int (da_cons (de_op od_plus (de_op od_plus de_int (de_op od_mod (dv 5) de_int)) (de_op od_mod (de_op od_fdiv (de_fn F_law_cell_at (hr.mono (by decide)) (by rfl) (da_cons (dv 0) (da_cons de_int da_nil))) de_int) de_int)) da_nil))))
      (dss_one (ds_app (i:=3) rfl (by first | exact Or.inl rfl | exact Or.inr (Or.inl rfl) | exact Or.inr (Or.inr rfl)) (de_tup (da_cons (dv 6) (da_cons (de_op od_mod (de_op od_fdiv (dv 5) de_int) (de_ix (de_lst (da_cons de_int (da_cons de_int da_nil))) (de_op od_mod (de_op od_fdiv (dv 5) de_int) de_int))) da_nil))))))))
      (dss_cons (ds_setP (i:=7) sc_law_offers.nd rfl (Or.inl rfl) (de_ix (de_lst (da_cons de_int (da_cons de_int da_nil))) (de_op od_mod (de_op od_fdiv (de_fn F_law_cell_at (hr.mono (by decide)) (by rfl) (da_cons (dv 0) (da_cons (dv 1) da_nil))) de_int) de_int)))
      (dss_cons (ds_app (i:=3) rfl (by first | exact Or.inl rfl | exact Or.inr (Or.inl rfl) | exact Or.inr (Or.inr rfl)) (de_tup (da_cons (dv 2) (da_cons (de_op od_mod (de_fn F_law_mixed (hr.mono (by decide)) (by rfl) (da_cons (de_fn F_law_cell_at (hr.mono (by decide)) (by rfl) (da_cons (dv 0) (da_cons (de_op od_plus (dv 1) de_int) da_nil))) (da_cons (de_op od_plus de_int (dv 1)) da_nil))) (dv 7)) da_nil))))
      (dss_one (ds_retO 3)))))),fun ds Q h=>?_⟩
  obtain ⟨ns,k,last,rfl,k0,q⟩:=h
  repeat (first | walk_at "rs1" | set_option simprocs false in simp only [ixk0,ixk1,ixk2,ixk3,ixk4,ex_at])
  refine ⟨ns,k,rfl,k0,?_⟩
  repeat (first | walk_at "rs1" | set_option simprocs false in simp only [ixk0,ixk1,ixk2,ixk3,ixk4,ex_at])
  have n0:=Int.emod_nonneg (cellF ns k) (b:=4) (by decide)
  have n1:=Int.emod_lt_of_pos (cellF ns k) (b:=4) (by decide)
  refine ⟨by decide,⟨by lia,by lia⟩,?_⟩
  refine for_nat (fun i ρ=>∃ (pre:List (Int × Int)) (a4 a5 a6:Option B),pre.length = i∧(∀ x ∈ pre,1 ≤ x.1∧x.1 ≤ 199∧0 ≤ x.2∧x.2 ≤ 1000000)∧ρ = [some (.p (.scr ns)),some (.p (.int k)),some (.p (.int last)),some (.o (.lst (pre.map dP2))),a4,a5,a6,none]) ⟨[],none,none,none,rfl,fun x hx=>(nomatch hx),rfl⟩ ?_ ?_
  · rintro i x ρ hx ⟨pre,a4,a5,a6,e1,e2,rfl⟩
    obtain ⟨hi,rfl⟩:=upFrom_get hx
    rw [Int.zero_add]
    repeat (first | walk_at "rs1" | set_option simprocs false in simp only [ixk0,ixk1,ixk2,ixk3,ixk4,ex_at])
    refine ⟨ns,_,rfl,by lia,?_⟩
    repeat (first | walk_at "rs1" | set_option simprocs false in simp only [ixk0,ixk1,ixk2,ixk3,ixk4,ex_at])
    refine ⟨_,_,rfl,?_⟩
    generalize mixF (cellF ns (k + (i:Nat))) (60 + k + (i:Nat)) = m
    have u0:=Int.emod_nonneg m (b:=20) (by decide)
    obtain ⟨w,hw,w0,w1⟩:=two_by 5 1000001 (m / 7) (by decide) (by decide) (by decide) (by decide)
    repeat (first | walk_at "rs1" | set_option simprocs false in simp only [ixk0,ixk1,ixk2,ixk3,ixk4,ex_at,hw])
    refine ⟨by decide,ns,0,rfl,by decide,?_⟩
    have c0:=Int.emod_nonneg (cellF ns 0 / 100) (b:=181) (by decide)
    repeat (first | walk_at "rs1" | set_option simprocs false in simp only [ixk0,ixk1,ixk2,ixk3,ixk4,ex_at,hw])
    have p0:=Int.emod_nonneg (m / 20) (b:=w) (by lia)
    have p1:=Int.emod_lt_of_pos (m / 20) (b:=w) w0
    have hd:1 ≤ (if 1 + m % 20 + cellF ns 0 / 100 % 181 < 199 then 1 + m % 20 + cellF ns 0 / 100 % 181 else 199)∧(if 1 + m % 20 + cellF ns 0 / 100 % 181 < 199 then 1 + m % 20 + cellF ns 0 / 100 % 181 else 199) ≤ 199:=by split <;> lia
    generalize (if 1 + m % 20 + cellF ns 0 / 100 % 181 < 199 then 1 + m % 20 + cellF ns 0 / 100 % 181 else 199) = dg at hd
    have ea:pre.map dP2 ++ [D.tup [.int dg,.int (m / 20 % w)]] = (pre ++ [(dg,m / 20 % w)]).map dP2:=by rw [List.map_append]; rfl
    rw [ea]
    refine ⟨⟨by decide,by decide⟩,by decide,⟨by decide,by decide⟩,⟨by decide,by decide⟩,by decide,w0,small1000 (by rw [List.length_map]; lia),_,_,_,_,by rw [List.length_append,e1]; rfl,fun x hx=>?_,rfl⟩
    rcases List.mem_append.mp hx with z | z
    · exact e2 x z
    · rw [List.mem_singleton.mp z]
      exact ⟨hd.1,hd.2,p0,by show m / 20 % w ≤ 1000000; lia⟩
  rw [upFrom_len]
  rintro ρ ⟨pre,a4,a5,a6,e1,e2,rfl⟩
  obtain ⟨w,hw,w0,w1⟩:=two_by 9 1000001 (cellF ns k / 4) (by decide) (by decide) (by decide) (by decide)
  repeat (first | walk_at "rs1" | set_option simprocs false in simp only [ixk0,ixk1,ixk2,ixk3,ixk4,ex_at])
  refine ⟨ns,k,rfl,k0,?_⟩
  repeat (first | walk_at "rs1" | set_option simprocs false in simp only [ixk0,ixk1,ixk2,ixk3,ixk4,ex_at,hw])
  refine ⟨⟨by decide,by decide⟩,by decide,ns,_,rfl,by lia,?_⟩
  repeat (first | walk_at "rs1" | set_option simprocs false in simp only [ixk0,ixk1,ixk2,ixk3,ixk4,ex_at])
  refine ⟨_,_,rfl,?_⟩
  generalize mixF (cellF ns (k + 4)) (60 + k) = m
  have p0:=Int.emod_nonneg m (b:=w) (by lia)
  have p1:=Int.emod_lt_of_pos m (b:=w) w0
  repeat (first | walk_at "rs1" | set_option simprocs false in simp only [ixk0,ixk1,ixk2,ixk3,ixk4,ex_at])
  have ea:pre.map dP2 ++ [D.tup [.int last,.int (m % w)]] = (pre ++ [(last,m % w)]).map dP2:=by rw [List.map_append]; rfl
  rw [ea]
  exact ⟨w0,small1000 (by rw [List.length_map]; lia),q _ ⟨pre,_,rfl,by lia,p0,by lia,e2⟩⟩
theorem in_ix {n:Nat} (h:0 < n) (v:Int) : ∃ t:Nat,t < n∧v % ((n:Nat) : Int) = ((t:Nat) : Int):=by
  have h0:=Int.emod_nonneg v (b:=((n:Nat) : Int)) (by lia)
  have h1:=Int.emod_lt_of_pos v (b:=((n:Nat) : Int)) (by lia)
  exact ⟨(v % ((n:Nat) : Int)).toNat,by lia,by lia⟩
theorem ixN_nat {n t:Nat} (h:t < n) : ixN n ((t:Nat) : Int) = some t:=by
  unfold ixN
  simp
  lia
theorem upFrom_mem {n:Nat} {d:D} (h:d ∈ upFrom 0 n) : ∃ k:Nat,k < n∧d = .int (k:Nat):=by
  obtain ⟨k,hk⟩:=List.getElem?_of_mem h
  obtain ⟨h1,rfl⟩:=upFrom_get hk
  exact ⟨k,h1,by rw [Int.zero_add]⟩
noncomputable def ableD (c:Nat→Bool) : D→Option D:=fun d=>match d with
  | .int i=>if c i.toNat = true then some (.int i) else none
  | _=>none
theorem able_is (c:Nat→Bool) (n:Nat) : (upFrom 0 n).filterMap (ableD c) = ((List.range n).filter c).map fun j:Nat=>D.int (j:Nat):=by
  unfold upFrom
  rw [List.filterMap_map]
  induction (List.range n) with
  | nil=>rfl
  | cons j l ih =>
    have e:(ableD c ∘ fun i:Nat=>D.int (0 + (i:Nat))) j = if c j = true then some (D.int (j:Nat)) else none:=by
      show (if c (0 + ((j:Nat) : Int)).toNat = true then some (D.int (0 + (j:Nat))) else none) = _
      rw [Int.zero_add,Int.toNat_natCast]
    rw [List.filterMap_cons,e,List.filter_cons]
    cases h:c j with
    | true=>simp only [if_true,List.map_cons]; rw [ih]
    | false=>simp only [Bool.false_eq_true,if_false]; rw [ih]
theorem able_pick {c:Nat→Bool} {n j:Nat} (hj:j < n) (hc:c j = true) (v:Int) : ∃ t:Nat,t < n∧c t = true∧0 < (((List.range n).filter c).map fun j:Nat=>D.int (j:Nat)).length∧atI (((List.range n).filter c).map fun j:Nat=>D.int (j:Nat)) (v % (((((List.range n).filter c).map fun j:Nat=>D.int (j:Nat)).length:Nat) : Int)) = some (.int (t:Nat)):=by
  have mem:j ∈ (List.range n).filter c:=List.mem_filter.mpr ⟨List.mem_range.mpr hj,hc⟩
  have hl:0 < (((List.range n).filter c).map fun j:Nat=>D.int (j:Nat)).length:=by rw [List.length_map]; exact List.length_pos_of_mem mem
  obtain ⟨i,hi,e⟩:=in_ix hl v
  rw [List.length_map] at hi
  have ei:=List.getElem?_eq_getElem (l:=(List.range n).filter c) (i:=i) hi
  have hm:=List.getElem_mem (l:=(List.range n).filter c) (n:=i) hi
  generalize ((List.range n).filter c)[i] = t at ei hm
  obtain ⟨h1,h2⟩:=List.mem_filter.mp hm
  refine ⟨t,List.mem_range.mp h1,h2,hl,?_⟩
  rw [e]
  exact atI_of ei
theorem amtF_cons (x:Int × Int) (bs:List (Int × Int)) (L:Int) : amtF (x :: bs) L = (if L ≤ x.1 then x.2 else 0) + amtF bs L:=by
  unfold amtF
  rw [List.filterMap_cons]
  by_cases z:L ≤ x.1
  · rw [if_pos z,if_pos z]
    dsimp only
    rw [List.sum_cons]
  · rw [if_neg z,if_neg z]
    dsimp only
    lia
theorem amtF_snoc (x:Int × Int) (L:Int) : ∀ bs:List (Int × Int),amtF (bs ++ [x]) L = amtF bs L + (if L ≤ x.1 then x.2 else 0)
  | []=>by rw [List.nil_append,amtF_cons]; show _ + (0:Int) = (0:Int) + _; lia
  | y :: bs=>by rw [List.cons_append,amtF_cons,amtF_cons,amtF_snoc x L bs]; lia
theorem amtF_set (L v:Int) : ∀ {fl as:List Int} {j:Nat} {f a:Int},fl[j]? = some f→as[j]? = some a→amtF (fl.zip (as.set j (a + v))) L = amtF (fl.zip as) L + (if L ≤ f then v else 0)
  | [],_,_,_,_,h,_=>by simp at h
  | _ :: _,[],_,_,_,_,h=>by simp at h
  | x :: fl,y :: as,0,f,a,h,h'=>by
    cases h
    cases h'
    rw [List.set_cons_zero,List.zip_cons_cons,List.zip_cons_cons,amtF_cons,amtF_cons]
    dsimp only
    split <;> lia
  | x :: fl,y :: as,j + 1,f,a,h,h'=>by
    rw [List.set_cons_succ,List.zip_cons_cons,List.zip_cons_cons,amtF_cons,amtF_cons,amtF_set L v (fl:=fl) (as:=as) (j:=j) (by simpa using h) (by simpa using h')]
    lia
theorem posL_sum (d L:Int) : ∀ {kvs:KVs},(∀ p ∈ kvs,0 ≤ p.2)→amtF (posL d kvs) L = sumA (L - d) kvs
  | [],_=>rfl
  | p :: r,h=>by
    have ih:=posL_sum d L (kvs:=r) fun q hq=>h q (List.mem_cons_of_mem _ hq)
    have h0:=h p List.mem_cons_self
    have e:sumA (L - d) (p :: r) = (if L - d ≤ p.1.2 then p.2 else 0) + sumA (L - d) r:=by unfold sumA; rw [List.map_cons,List.sum_cons]
    rw [e]
    unfold posL at ih ⊢
    rw [List.filterMap_cons]
    by_cases z:0 < p.2
    · rw [if_pos z]
      dsimp only
      rw [amtF_cons,ih]
      dsimp only
      by_cases y:L ≤ p.1.2 + d
      · rw [if_pos y,if_pos (by lia)]
      · rw [if_neg y,if_neg (by lia)]
    · rw [if_neg z]
      dsimp only
      rw [ih]
      split <;> lia
theorem posL_mem {d:Int} {kvs:KVs} {x:Int × Int} (h:x ∈ posL d kvs) : ∃ k ∈ kvs.map (·.1),x.1 = k.2 + d∧0 < x.2:=by
  obtain ⟨p,hp,e⟩:=List.mem_filterMap.mp h
  by_cases z:0 < p.2
  · rw [if_pos z] at e
    cases e
    exact ⟨p.1,List.mem_map.mpr ⟨p,hp,rfl⟩,rfl,z⟩
  · rw [if_neg z] at e
    cases e
structure CovF (fl as:List Int) (xs:List (Int × Int)) : Prop where
  len:as.length = fl.length
  a0:∀ a ∈ as,0 ≤ a
  le:∀ L,amtF xs L ≤ amtF (fl.zip as) L
  eq:amtF xs 0 = amtF (fl.zip as) 0
structure CovW (wl bs:List Int) (xs:List (Int × Int)) : Prop where
  len:bs.length = wl.length
  b0:∀ a ∈ bs,0 ≤ a
  le:∀ L,amtF (wl.zip bs) L ≤ amtF xs L
  eq:amtF xs 0 = amtF (wl.zip bs) 0
theorem set_pos {as:List Int} {j:Nat} {v:Int} (h:∀ a ∈ as,0 ≤ a) (hv:0 ≤ v) : ∀ a ∈ as.set j v,0 ≤ a:=fun a ha=>by
  rcases List.mem_or_eq_of_mem_set ha with z | rfl
  · exact h a z
  · exact hv
theorem CovF.step {fl as:List Int} {xs:List (Int × Int)} {x:Int × Int} {j:Nat} {f a:Int} (c:CovF fl as xs) (hf:fl[j]? = some f) (ha:as[j]? = some a) (h:x.1 ≤ f) (x0:0 ≤ x.1) (v0:0 < x.2) : CovF fl (as.set j (a + x.2)) (xs ++ [x]):=by
  have a0:=c.a0 a (List.mem_of_getElem? ha)
  refine ⟨by rw [List.length_set]; exact c.len,set_pos c.a0 (by lia),fun L=>?_,?_⟩
  · have:=c.le L
    rw [amtF_snoc,amtF_set L x.2 hf ha]
    by_cases z:L ≤ x.1
    · rw [if_pos z,if_pos (by lia)]; lia
    · rw [if_neg z]; split <;> lia
  · rw [amtF_snoc,amtF_set 0 x.2 hf ha,if_pos x0,if_pos (by lia),c.eq]
theorem CovW.step {wl bs:List Int} {xs:List (Int × Int)} {x:Int × Int} {j:Nat} {f a:Int} (c:CovW wl bs xs) (hf:wl[j]? = some f) (ha:bs[j]? = some a) (h:f ≤ x.1) (f0:0 ≤ f) (v0:0 < x.2) : CovW wl (bs.set j (a + x.2)) (xs ++ [x]):=by
  have a0:=c.b0 a (List.mem_of_getElem? ha)
  refine ⟨by rw [List.length_set]; exact c.len,set_pos c.b0 (by lia),fun L=>?_,?_⟩
  · have:=c.le L
    rw [amtF_snoc,amtF_set L x.2 hf ha]
    by_cases z:L ≤ f
    · rw [if_pos z,if_pos (by lia)]; lia
    · rw [if_neg z]; split <;> lia
  · rw [amtF_snoc,amtF_set 0 x.2 hf ha,if_pos f0,if_pos (by lia),c.eq]
theorem cov_none (fl:List Int) : CovF fl (List.replicate fl.length 0) []∧CovW fl (List.replicate fl.length 0) []:=by
  have z:∀ L,amtF (fl.zip (List.replicate fl.length 0)) L = 0:=fun L=>amtF_zero L fl _
  have m:∀ a ∈ List.replicate fl.length (0:Int),0 ≤ a:=fun a ha=>by rw [List.eq_of_mem_replicate ha]; exact Int.le_refl _
  have n:∀ L,amtF [] L = 0:=fun _=>rfl
  exact ⟨⟨List.length_replicate,m,fun L=>by rw [z,n]; exact Int.le_refl _,by rw [z,n]⟩,⟨List.length_replicate,m,fun L=>by rw [z,n]; exact Int.le_refl _,by rw [z,n]⟩⟩
theorem cov_feas {g:Int} {hs cs fs ws:List S3} {hk ck:KVs} {as bs:List Int} (n:Need g hs cs hk ck) (f:CovF (flv fs) as (posL g ck)) (w:CovW (wlv g ws) bs (posL 0 hk)) (L:Int) : 0 ≤ surF g hs cs fs ws as bs L∧(L = 0→surF g hs cs fs ws as bs L = 0):=by
  have h1:=f.le L
  have h2:=w.le L
  have d:=n.dif L
  have e:=n.eq0
  have f0:=f.eq
  have w0:=w.eq
  rw [posL_sum g _ n.c0] at h1 f0
  rw [posL_sum 0 _ n.h0,Int.sub_zero] at h2 w0
  unfold surF
  refine ⟨by lia,fun z=>?_⟩
  subst z
  lia
theorem amt_le {lev:S3→Int} {L0 L1:Int} (hL:L0 ≤ L1) : ∀ {os:List S3} {as:List Int},as.length = os.length→(∀ (n:Nat) (x:S3) (a:Int),os[n]? = some x→as[n]? = some a→0 ≤ a∧a ≤ x.2.2) →
    0 ≤ amtF ((os.map lev).zip as) L1∧amtF ((os.map lev).zip as) L1 ≤ amtM lev L1 os∧amtF ((os.map lev).zip as) L1 ≤ amtF ((os.map lev).zip as) L0∧amtF ((os.map lev).zip as) L0 - amtF ((os.map lev).zip as) L1 ≤ amtM lev L0 os - amtM lev L1 os
  | [],[],_,_=>⟨Int.le_refl _,Int.le_refl _,Int.le_refl _,Int.le_refl _⟩
  | [],_ :: _,h,_=>by simp at h
  | _ :: _,[],h,_=>by simp at h
  | x :: os,a :: as,h,k=>by
    have ih:=amt_le hL (lev:=lev) (os:=os) (as:=as) (by simpa using h) fun n y b e1 e2=>k (n + 1) y b (by simpa using e1) (by simpa using e2)
    have k0:=k 0 x a rfl rfl
    have m:∀ L,amtM lev L (x :: os) = (if L ≤ lev x then x.2.2 else 0) + amtM lev L os:=fun L=>by unfold amtM; rw [List.map_cons,List.sum_cons]
    rw [List.map_cons,List.zip_cons_cons,amtF_cons,amtF_cons,m,m]
    dsimp only
    by_cases z1:L1 ≤ lev x
    · rw [if_pos z1, if_pos z1, if_pos (by lia), if_pos (by lia)]
      lia
    · rw [if_neg z1,if_neg z1]
      by_cases z0:L0 ≤ lev x
      · rw [if_pos z0,if_pos z0]
        lia
      · rw [if_neg z0,if_neg z0]
        lia
theorem feas_ns {g:Int} {hs cs fs ws:List S3} {as bs:List Int} (f:Feas g hs cs fs ws as bs) : NS g hs cs fs ws:=fun i hi=>by
  have h1:=amt_le (lev:=fLev) (L0:=0) (L1:=(i:Nat)) (by lia) f.la f.a0
  have h2:=amt_le (lev:=wLev g) (L0:=0) (L1:=(i:Nat)) (by lia) f.lb f.b0
  have s1:=f.sur i hi
  have s0:=f.sur0
  have e1:fs.map fLev = flv fs:=rfl
  have e2:ws.map (wLev g) = wlv g ws:=rfl
  rw [e1] at h1
  rw [e2] at h2
  unfold surF at s1 s0
  lia
noncomputable def mkS (os:List (Int × Int)) (as:List Int) (sl:Int) : List S3:=(List.range os.length).map fun j=>((os.getD j (0,0)).1,(os.getD j (0,0)).2,as.getD j 0 + sl)
structure Shop36 (g:Int) (hs cs fs ws:List S3) (as bs:List Int) : Prop where
  nf:fs.length ≤ 4
  nw:ws.length ≤ 4
  oi:OffsIn g fs ws
  pr:∀ x ∈ fs ++ ws,0 ≤ x.2.1∧x.2.1 ≤ 1000000
  m0:∀ x ∈ fs ++ ws,0 ≤ x.2.2
  fe:Feas g hs cs fs ws as bs
noncomputable def r_law_shop:DR:=fun ds P=>∃ g hs cs ns,ds = [dW g hs cs,.scr ns]∧Wk36 g hs cs∧∀ fs ws as bs,Shop36 g hs cs fs ws as bs→P (.p (.tup [dS fs ws,.tup [dA as,dA bs]]))
theorem rep0 (n:Nat) : (List.replicate (((n:Nat) : Int)).toNat [D.int 0]).flatten = (List.replicate n (0:Int)).map D.int:=by
  rw [Int.toNat_natCast]
  induction n with
  | zero=>rfl
  | succ n ih=>rw [List.replicate_succ,List.flatten_cons,ih,List.replicate_succ]; rfl
theorem mkS_len (os:List (Int × Int)) (as:List Int) (sl:Int) : (mkS os as sl).length = os.length:=by unfold mkS; rw [List.length_map,List.length_range]
theorem mkS_get {os:List (Int × Int)} {as:List Int} {sl:Int} {n:Nat} {x:S3} (h:(mkS os as sl)[n]? = some x) : ∃ y,os[n]? = some y∧x = (y.1,y.2,as.getD n 0 + sl):=by
  have hn:n < os.length:=by rw [← mkS_len os as sl]; exact (List.getElem?_eq_some_iff.mp h).1
  unfold mkS at h
  rw [List.getElem?_map,List.getElem?_range hn] at h
  have e:=List.getElem?_eq_getElem (l:=os) (i:=n) hn
  refine ⟨_,e,?_⟩
  have h':((os.getD n (0,0)).1,(os.getD n (0,0)).2,as.getD n 0 + sl) = x:=Option.some.inj h
  have g:os.getD n (0,0) = os[n]:=by rw [List.getD_eq_getElem?_getD,e]; rfl
  rw [← h',g]
theorem mkS_map (os:List (Int × Int)) (as:List Int) (sl d:Int) : (mkS os as sl).map (fun x=>x.1 + d) = os.map fun x=>x.1 + d:=by
  refine List.ext_getElem? fun n=>?_
  rw [List.getElem?_map,List.getElem?_map]
  cases h:(mkS os as sl)[n]? with
  | none =>
    have:os[n]? = none:=by
      rw [List.getElem?_eq_none_iff] at h ⊢
      rw [mkS_len] at h
      exact h
    rw [this]
    rfl
  | some x =>
    obtain ⟨y,e,rfl⟩:=mkS_get h
    rw [e]
    rfl
theorem mkS_mem {os:List (Int × Int)} {as:List Int} {sl:Int} (h:∀ a ∈ as,0 ≤ a) (s0:0 ≤ sl) {x:S3} (hx:x ∈ mkS os as sl) : ∃ y ∈ os,x.1 = y.1∧x.2.1 = y.2∧0 ≤ x.2.2:=by
  obtain ⟨n,hn⟩:=List.getElem?_of_mem hx
  obtain ⟨y,e,rfl⟩:=mkS_get hn
  refine ⟨y,List.mem_of_getElem? e,rfl,rfl,?_⟩
  show 0 ≤ as.getD n 0 + sl
  rw [List.getD_eq_getElem?_getD]
  cases ea:as[n]? with
  | none=>show 0 ≤ 0 + sl; lia
  | some a=>have:=h a (List.mem_of_getElem? ea); show 0 ≤ a + sl; lia
theorem mkS_amt {os:List (Int × Int)} {as:List Int} {sl:Int} (h:∀ a ∈ as,0 ≤ a) (s0:0 ≤ sl) {n:Nat} {x:S3} {a:Int} (hx:(mkS os as sl)[n]? = some x) (ha:as[n]? = some a) : 0 ≤ a∧a ≤ x.2.2:=by
  obtain ⟨y,e,rfl⟩:=mkS_get hx
  have:=h a (List.mem_of_getElem? ha)
  refine ⟨this,?_⟩
  show a ≤ as.getD n 0 + sl
  rw [List.getD_eq_getElem?_getD,ha]
  show a ≤ a + sl
  lia
theorem ok_law_shop (T:Blt mg) (F_law_needs:Fn P w K mg base "_law_needs" 2 ["works","script"] (spD K r_law_needs)) (F_law_offers:Fn P w K mg base "_law_offers" 2 ["script","k","last"] (spD K r_law_offers)) (F_law_cell_at:Fn P w K mg base "_law_cell_at" 1 ["script","k"] (spD K r_law_cell_at)) (F_law_mixed:Fn P w K mg base "_law_mixed" 1 ["cell","k"] (spD K r_law_mixed)) (F:Fun K "_law_shop" "_law_shop" s_law_shop f fd) : FnOk P w K mg base CX0 3 f fd ["works","script"] (spD K r_law_shop):=by
  refine okD F sc_law_shop (fun ds Q h=>by obtain ⟨g,hs,cs,ns,rfl,wk,q⟩:=h; rfl) fun cdv A outer s H E hr=>⟨_,(dss_cons (ds_asg (g:=(.t [2,3])) (de_fn F_law_needs (hr.mono (by decide)) (by rfl) (da_cons (dv 0) (da_cons (dv 1) da_nil))) (pg_seq rfl (pgs_cons (pg_name (i:=2) sc_law_shop.nd rfl (Or.inr rfl)) (pgs_cons (pg_name (i:=3) sc_law_shop.nd rfl (Or.inr rfl)) pgs_nil))))
      (dss_cons (ds_setP (i:=4) sc_law_shop.nd rfl (Or.inr rfl) (de_fn F_law_offers (hr.mono (by decide)) (by rfl) (da_cons (dv 1) (da_cons de_int (da_cons de_int da_nil)))))
      (dss_cons (ds_setP (i:=5) sc_law_shop.nd rfl (Or.inr rfl) (de_fn F_law_offers (hr.mono (by decide)) (by rfl) (da_cons (dv 1) (da_cons de_int (da_cons de_int da_nil)))))
      (dss_cons (ds_nestL (i:=6) sc_law_shop.nd rfl (Or.inr rfl) (de_op od_times (de_lst (da_cons de_int da_nil)) (de_callB cd_len (by rfl) T.b_len PySem.boot_len (da_cons (dv 4) da_nil))) (de_op od_times (de_lst (da_cons de_int da_nil)) (de_callB cd_len (by rfl) T.b_len PySem.boot_len (da_cons (dv 5) da_nil))))
      (dss_cons (ds_forS (g:=(.n 7)) PassesOwn.never rfl (dis_rng1 (by rfl) T.b_range (da_cons (de_callB cd_len (by rfl) T.b_len PySem.boot_len (da_cons (dv 2) da_nil)) da_nil)) (pg_name (i:=7) sc_law_shop.nd rfl (Or.inr rfl)) (dss_cons (ds_setLCP (i:=8) sc_law_shop.nd rfl (Or.inl rfl) (g:=(.n 0)) (tc:=(dTst (dOp _ (dOp _ (dOp dIx (dOp dIx (dVar 3) (dVar 0)) (dC _)) (dC _)) (dOp dIx (dOp dIx (dVar 1) (dVar 2)) (dC _))))) (te:=(dVar 0)) (sc0:=defScope s_law_shop) (N0:=["works","script","heat","cold","fires","waters","bought","k","able","slack"]) ["j","heat","k","fires"] [none,some 2,some 7,some 4] rfl (dis_rng1 (by rfl) T.b_range (da_cons (de_callB cd_len (by rfl) T.b_len PySem.boot_len (da_cons (dv 4) da_nil)) da_nil)).di (fun _ _ _ _ _=>(pg_name (i:=0) (show (["j","heat","k","fires"] : List Str).Nodup by decide +kernel) rfl (Or.inl rfl))) (fun _ _ _ _ _=>(difs_one (dt_cmp od_ge (de_op od_sub (de_ix (de_ix (dv 3) (dv 0)) de_int) de_int) (de_ix (de_ix (dv 1) (dv 2)) de_int) (nomark _)))) (fun _ _ _ _ _=>(dv 0)))
      (dss_one (ds_nestAug (i:=6) rfl (by first | exact Or.inl rfl | exact Or.inr (Or.inl rfl) | exact Or.inr (Or.inr rfl)) de_int (de_ix (dv 8) (de_op od_mod (de_fn F_law_mixed (hr.mono (by decide)) (by rfl) (da_cons (de_fn F_law_cell_at (hr.mono (by decide)) (by rfl) (da_cons (dv 1) (da_cons (de_op od_plus de_int (dv 7)) da_nil))) (da_cons de_int da_nil))) (de_callB cd_len (by rfl) T.b_len PySem.boot_len (da_cons (dv 8) da_nil)))) (de_ix (de_ix (dv 2) (dv 7)) de_int) ip_add))))
      (dss_cons (ds_forS (g:=(.n 7)) PassesOwn.never rfl (dis_rng1 (by rfl) T.b_range (da_cons (de_callB cd_len (by rfl) T.b_len PySem.boot_len (da_cons (dv 3) da_nil)) da_nil)) (pg_name (i:=7) sc_law_shop.nd rfl (Or.inr rfl)) (dss_cons (ds_setLCP (i:=8) sc_law_shop.nd rfl (Or.inl rfl) (g:=(.n 0)) (tc:=(dTst (dOp _ (dOp _ (dOp dIx (dOp dIx (dVar 4) (dVar 0)) (dC _)) (dOp dIx (dVar 1) (dC _))) (dOp dIx (dOp dIx (dVar 2) (dVar 3)) (dC _))))) (te:=(dVar 0)) (sc0:=defScope s_law_shop) (N0:=["works","script","heat","cold","fires","waters","bought","k","able","slack"]) ["j","works","cold","k","waters"] [none,some 0,some 3,some 7,some 5] rfl (dis_rng1 (by rfl) T.b_range (da_cons (de_callB cd_len (by rfl) T.b_len PySem.boot_len (da_cons (dv 5) da_nil)) da_nil)).di (fun _ _ _ _ _=>(pg_name (i:=0) (show (["j","works","cold","k","waters"] : List Str).Nodup by decide +kernel) rfl (Or.inl rfl))) (fun _ _ _ _ _=>(difs_one (dt_cmp od_le (de_op od_plus (de_ix (de_ix (dv 4) (dv 0)) de_int) (de_ix (dv 1) de_int)) (de_ix (de_ix (dv 2) (dv 3)) de_int) (nomark _)))) (fun _ _ _ _ _=>(dv 0)))
      (dss_one (ds_nestAug (i:=6) rfl (by first | exact Or.inl rfl | exact Or.inr (Or.inl rfl) | exact Or.inr (Or.inr rfl)) de_int (de_ix (dv 8) (de_op od_mod (de_fn F_law_mixed (hr.mono (by decide)) (by rfl) (da_cons (de_fn F_law_cell_at (hr.mono (by decide)) (by rfl) (da_cons (dv 1) (da_cons (de_op od_plus de_int (dv 7)) da_nil))) (da_cons de_int da_nil))) (de_callB cd_len (by rfl) T.b_len PySem.boot_len (da_cons (dv 8) da_nil)))) (de_ix (de_ix (dv 3) (dv 7)) de_int) ip_add))))
      (dss_cons (ds_setP (i:=9) sc_law_shop.nd rfl (Or.inr rfl) (de_ix (de_lst (da_cons de_int (da_cons de_int (da_cons de_int (da_cons (de_op od_pow de_int de_int) da_nil))))) (de_op od_mod (de_fn F_law_cell_at (hr.mono (by decide)) (by rfl) (da_cons (dv 1) (da_cons de_int da_nil))) de_int)))
      (dss_cons (ds_setDP (i:=4) sc_law_shop.nd rfl (Or.inr rfl) (de_lc (g:=(.n 0)) (tc:=dTrue) (te:=(dTup (dCons (dOp dIx (dOp dIx (dVar 2) (dVar 0)) (dC _)) (dCons (dOp dIx (dOp dIx (dVar 2) (dVar 0)) (dC _)) (dCons (dOp _ (dOp dIx (dOp dIx (dVar 3) (dC _)) (dVar 0)) (dVar 1)) dNil))))) (sc0:=defScope s_law_shop) (N0:=["works","script","heat","cold","fires","waters","bought","k","able","slack"]) ["j","slack","fires","bought"] [none,some 9,some 4,some 6] rfl (dis_rng1 (by rfl) T.b_range (da_cons (de_callB cd_len (by rfl) T.b_len PySem.boot_len (da_cons (dv 4) da_nil)) da_nil)).di (fun _ _ _ _ _=>(pg_name (i:=0) (show (["j","slack","fires","bought"] : List Str).Nodup by decide +kernel) rfl (Or.inl rfl))) (fun _ _ _ _ _=>difs_nil) (fun _ _ _ _ _=>(de_tup (da_cons (de_ix (de_ix (dv 2) (dv 0)) de_int) (da_cons (de_ix (de_ix (dv 2) (dv 0)) de_int) (da_cons (de_op od_plus (de_ix (de_ix (dv 3) de_int) (dv 0)) (dv 1)) da_nil)))))))
      (dss_cons (ds_setDP (i:=5) sc_law_shop.nd rfl (Or.inr rfl) (de_lc (g:=(.n 0)) (tc:=dTrue) (te:=(dTup (dCons (dOp dIx (dOp dIx (dVar 2) (dVar 0)) (dC _)) (dCons (dOp dIx (dOp dIx (dVar 2) (dVar 0)) (dC _)) (dCons (dOp _ (dOp dIx (dOp dIx (dVar 3) (dC _)) (dVar 0)) (dVar 1)) dNil))))) (sc0:=defScope s_law_shop) (N0:=["works","script","heat","cold","fires","waters","bought","k","able","slack"]) ["j","slack","waters","bought"] [none,some 9,some 5,some 6] rfl (dis_rng1 (by rfl) T.b_range (da_cons (de_callB cd_len (by rfl) T.b_len PySem.boot_len (da_cons (dv 5) da_nil)) da_nil)).di (fun _ _ _ _ _=>(pg_name (i:=0) (show (["j","slack","waters","bought"] : List Str).Nodup by decide +kernel) rfl (Or.inl rfl))) (fun _ _ _ _ _=>difs_nil) (fun _ _ _ _ _=>(de_tup (da_cons (de_ix (de_ix (dv 2) (dv 0)) de_int) (da_cons (de_ix (de_ix (dv 2) (dv 0)) de_int) (da_cons (de_op od_plus (de_ix (de_ix (dv 3) de_int) (dv 0)) (dv 1)) da_nil)))))))
      (dss_one (ds_ret (de_tup (da_cons (de_tup (da_cons (dv 4) (da_cons (dv 5) da_nil))) (da_cons (de_tup (da_cons (de_ix (dv 6) de_int) (da_cons (de_ix (dv 6) de_int) da_nil))) da_nil)))))))))))))),fun ds Q h=>?_⟩
  obtain ⟨g,hs,cs,ns,rfl,wk,q⟩:=h
  have ok:=wk.ok
  repeat (first | walk_at "rs1" | set_option simprocs false in simp only [ixk0,ixk1,ixk2,ixk3,ixk4,ex_at])
  refine ⟨g,hs,cs,ns,rfl,ok,fun hk ck nd=>?_⟩
  repeat (first | walk_at "rs1" | set_option simprocs false in simp only [ixk0,ixk1,ixk2,ixk3,ixk4,ex_at])
  refine ⟨ns,9,250,rfl,by decide,fun fo hfo=>?_⟩
  repeat (first | walk_at "rs1" | set_option simprocs false in simp only [ixk0,ixk1,ixk2,ixk3,ixk4,ex_at])
  refine ⟨ns,13,0,rfl,by decide,fun wo hwo=>?_⟩
  repeat (first | walk_at "rs1" | set_option simprocs false in simp only [ixk0,ixk1,ixk2,ixk3,ixk4,ex_at])
  obtain ⟨pf,qf,ef,lf,q1,q2,hpf⟩:=hfo.ex
  obtain ⟨pw,qw,ew,lw,q3,q4,hpw⟩:=hwo.ex
  have nfo:fo.length ≤ 4:=by rw [ef,List.length_append]; show pf.length + 1 ≤ 4; lia
  have nwo:wo.length ≤ 4:=by rw [ew,List.length_append]; show pw.length + 1 ≤ 4; lia
  have lh:(posL g ck).length ≤ 2400∧(posL 0 hk).length ≤ 2400:=by
    have e1:=congrArg List.length nd.kh
    have e2:=congrArg List.length nd.kc
    rw [List.length_map,List.length_map] at e1 e2
    have l1:=stB_len (bs:=hotB hs) (n:=0) fun b hb=>by
      obtain ⟨x,hx,rfl⟩:=List.mem_map.mp hb
      have a1:=(ok.hot x hx).lo
      have a2:=(ok.hot x hx).hi
      show x.1 - x.2.1 ≤ 200
      lia
    have l2:=stB_len (bs:=cs) (n:=0) fun b hb=>by
      have a1:=(ok.cold b hb).lo
      have a2:=(ok.cold b hb).hi
      lia
    rw [hotB_len] at l1
    have a1:=ok.nh
    have a2:=ok.nc
    have k1:(posL g ck).length ≤ ck.length:=by unfold posL; exact List.length_filterMap_le ..
    have k2:(posL 0 hk).length ≤ hk.length:=by unfold posL; exact List.length_filterMap_le ..
    lia
  rw [List.length_map,List.length_map]
  refine (show dMul (.lst [.int 0]) (.int _) _ from ⟨⟨by lia,by lia⟩,small_len (by simp; lia),?_⟩)
  rw [rep0]
  refine (show dMul (.lst [.int 0]) (.int _) _ from ⟨⟨by lia,by lia⟩,small_len (by simp; lia),?_⟩)
  rw [rep0]
  dsimp only
  rw [List.length_map]
  refine ⟨⟨by lia,by lia⟩,?_⟩
  have fl250:∃ j,j < fo.length∧(fo.getD j (0,0)).1 = 250:=⟨pf.length,by rw [ef,List.length_append]; show pf.length < pf.length + 1; lia,by rw [ef,List.getD_eq_getElem?_getD,List.getElem?_append_right (Nat.le_refl _),Nat.sub_self]; rfl⟩
  have wl0:∃ j,j < wo.length∧(wo.getD j (0,0)).1 = 0:=⟨pw.length,by rw [ew,List.length_append]; show pw.length < pw.length + 1; lia,by rw [ew,List.getD_eq_getElem?_getD,List.getElem?_append_right (Nat.le_refl _),Nat.sub_self]; rfl⟩
  let fl:List Int:=fo.map fun x=>x.1 - 1
  let wl:List Int:=wo.map fun x=>x.1 + g
  have lfl:fl.length = fo.length:=List.length_map ..
  have lwl:wl.length = wo.length:=List.length_map ..
  have cov0:=(cov_none fl).1
  have cov1:=(cov_none wl).2
  rw [lfl] at cov0
  rw [lwl] at cov1
  refine for_nat (fun i ρ=>∃ (as:List Int) (a7 a8:Option B),CovF fl as ((posL g ck).take i)∧ρ = [some (.p (dW g hs cs)),some (.p (.scr ns)),some (.p (.lst ((posL g ck).map dP2))),some (.p (.lst ((posL 0 hk).map dP2))),some (.p (.lst (fo.map dP2))),some (.p (.lst (wo.map dP2))),some (.n false [.lst (as.map D.int),.lst ((List.replicate wo.length (0:Int)).map D.int)]),a7,a8,none]) ⟨_,none,none,cov0,rfl⟩ ?_ ?_
  · rintro i x ρ hx ⟨as,a7,a8,cv,rfl⟩
    obtain ⟨hi,rfl⟩:=upFrom_get hx
    rw [Int.zero_add]
    have hi':i < (posL g ck).length:=hi
    have ec:=List.getElem?_eq_getElem (l:=posL g ck) (i:=i) hi'
    have hmem:=List.getElem_mem (l:=posL g ck) (n:=i) hi'
    generalize (posL g ck)[i] = h at ec hmem
    obtain ⟨kk,hkk,hk1,hk2⟩:=posL_mem hmem
    obtain ⟨u,hu,u1,u2⟩:=cold_key ok (by rw [← nd.kc]; exact hkk)
    have uc:=ok.cold u hu
    have c1:=uc.lo
    have c2:=uc.hi
    have g0:=ok.g0
    have g3:=wk.g3
    have g1:atI ((posL g ck).map dP2) ((i:Nat) : Int) = some (dP2 h):=atI_of ec
    repeat (first | walk_at "rs1" | set_option simprocs false in simp only [ixk0,ixk1,ixk2,ixk3,ixk4,ex_at])
    rw [List.length_map]
    refine ⟨⟨by lia,by lia⟩,?_⟩
    refine lc_fun (ableD fun j=>decide (h.1 ≤ (fo.getD j (0,0)).1 - 1)) (by rw [upFrom_len]; show _ ≤ 1000000; lia) (fun x hx=>?_) ?_
    · obtain ⟨k,hk,rfl⟩:=upFrom_mem hx
      have hk':k < fo.length:=hk
      have ek:=List.getElem?_eq_getElem (l:=fo) (i:=k) hk'
      have gd:fo.getD k (0,0) = fo[k]:=by rw [List.getD_eq_getElem?_getD,ek]; rfl
      have pk:ableD (fun j=>decide (h.1 ≤ (fo.getD j (0,0)).1 - 1)) (.int (k:Nat)) = if decide (h.1 ≤ (fo.getD k (0,0)).1 - 1) = true then some (.int (k:Nat)) else none:=by
        show (if decide (h.1 ≤ (fo.getD ((k:Nat) : Int).toNat (0,0)).1 - 1) = true then some (D.int (k:Nat)) else none) = _
        rw [Int.toNat_natCast]
      rw [pk,gd]
      generalize fo[k] = y at ek
      have g2:atI (fo.map dP2) ((k:Nat) : Int) = some (dP2 y):=atI_of ek
      repeat (first | dsimp only [dP2] | walk_at "rs1" | set_option simprocs false in simp only [ixk0,ixk1,ixk2,ixk3,ixk4,ex_at,g1,g2])
      exact ⟨fun z=>(if_pos z).symm,fun z=>(if_neg (by rw [z]; exact Bool.false_ne_true)).symm⟩
    rw [able_is,Int.toNat_natCast]
    obtain ⟨jf,hjf,ejf⟩:=fl250
    obtain ⟨t,ht,hct,hl,hat⟩:=able_pick (c:=fun j=>decide (h.1 ≤ (fo.getD j (0,0)).1 - 1)) (n:=fo.length) hjf (decide_eq_true (by rw [ejf]; lia)) (mixF (cellF ns (5 + (i:Nat))) 70)
    have hct:=of_decide_eq_true hct
    generalize (((List.range fo.length).filter fun j=>decide (h.1 ≤ (fo.getD j (0,0)).1 - 1)).map fun j:Nat=>D.int (j:Nat)) = AL at hl hat
    have et:=List.getElem?_eq_getElem (l:=fo) (i:=t) ht
    have gd:fo.getD t (0,0) = fo[t]:=by rw [List.getD_eq_getElem?_getD,et]; rfl
    rw [gd] at hct
    have eft:fl[t]? = some (fo[t].1 - 1):=by show (fo.map fun x=>x.1 - 1)[t]? = _; rw [List.getElem?_map,et]; rfl
    have la:=cv.len
    rw [lfl] at la
    have ea:=List.getElem?_eq_getElem (l:=as) (i:=t) (by lia)
    generalize as[t]'(by lia) = av at ea
    refine ⟨0,_,rfl,rfl,ns,_,rfl,by lia,?_⟩
    repeat (first | walk_at "rs1" | set_option simprocs false in simp only [ixk0,ixk1,ixk2,ixk3,ixk4,ex_at])
    refine ⟨_,_,rfl,?_⟩
    repeat (first | dsimp only [dP2] | walk_at "rs1" | set_option simprocs false in simp only [ixk0,ixk1,ixk2,ixk3,ixk4,ex_at,hat,g1])
    refine ⟨by lia,t,av,ixN_nat (by rw [List.length_map]; lia),by rw [List.getElem?_map,ea]; rfl,?_⟩
    have st:=cv.step (x:=h) eft ea hct (by lia) hk2
    rw [← take_snoc ec] at st
    have s1:(as.map D.int).set t (.int (av + h.2)) = (as.set t (av + h.2)).map D.int:=by rw [List.map_set]
    dsimp only [List.set]
    rw [s1]
    exact ⟨_,_,_,st,rfl⟩
  rw [upFrom_len]
  rintro ρ ⟨as,a7,a8,cvF,rfl⟩
  rw [Int.toNat_natCast,List.take_length] at cvF
  repeat (first | walk_at "rs1" | set_option simprocs false in simp only [ixk0,ixk1,ixk2,ixk3,ixk4,ex_at])
  rw [List.length_map]
  refine ⟨⟨by lia,by lia⟩,?_⟩
  refine for_nat (fun i ρ=>∃ (bs:List Int) (a7 a8:Option B),CovW wl bs ((posL 0 hk).take i)∧ρ = [some (.p (dW g hs cs)),some (.p (.scr ns)),some (.p (.lst ((posL g ck).map dP2))),some (.p (.lst ((posL 0 hk).map dP2))),some (.p (.lst (fo.map dP2))),some (.p (.lst (wo.map dP2))),some (.n false [.lst (as.map D.int),.lst (bs.map D.int)]),a7,a8,none]) ⟨_,a7,a8,cov1,rfl⟩ ?_ ?_
  · rintro i x ρ hx ⟨bs,b7,b8,cv,rfl⟩
    obtain ⟨hi,rfl⟩:=upFrom_get hx
    rw [Int.zero_add]
    have hi':i < (posL 0 hk).length:=hi
    have ec:=List.getElem?_eq_getElem (l:=posL 0 hk) (i:=i) hi'
    have hmem:=List.getElem_mem (l:=posL 0 hk) (n:=i) hi'
    generalize (posL 0 hk)[i] = h at ec hmem
    obtain ⟨kk,hkk,hk1,hk2⟩:=posL_mem hmem
    obtain ⟨u,hu,u1,u2⟩:=hot_key ok (by rw [← nd.kh]; exact hkk)
    have ug:=wk.hg u hu
    have g0:=ok.g0
    have g1:atI ((posL 0 hk).map dP2) ((i:Nat) : Int) = some (dP2 h):=atI_of ec
    repeat (first | walk_at "rs1" | set_option simprocs false in simp only [ixk0,ixk1,ixk2,ixk3,ixk4,ex_at])
    rw [List.length_map]
    refine ⟨⟨by lia,by lia⟩,?_⟩
    refine lc_fun (ableD fun j=>decide ((wo.getD j (0,0)).1 + g ≤ h.1)) (by rw [upFrom_len]; show _ ≤ 1000000; lia) (fun x hx=>?_) ?_
    · obtain ⟨k,hk,rfl⟩:=upFrom_mem hx
      have hk':k < wo.length:=hk
      have ek:=List.getElem?_eq_getElem (l:=wo) (i:=k) hk'
      have gd:wo.getD k (0,0) = wo[k]:=by rw [List.getD_eq_getElem?_getD,ek]; rfl
      have pk:ableD (fun j=>decide ((wo.getD j (0,0)).1 + g ≤ h.1)) (.int (k:Nat)) = if decide ((wo.getD k (0,0)).1 + g ≤ h.1) = true then some (.int (k:Nat)) else none:=by
        show (if decide ((wo.getD ((k:Nat) : Int).toNat (0,0)).1 + g ≤ h.1) = true then some (D.int (k:Nat)) else none) = _
        rw [Int.toNat_natCast]
      rw [pk,gd]
      generalize wo[k] = y at ek
      have g2:atI (wo.map dP2) ((k:Nat) : Int) = some (dP2 y):=atI_of ek
      repeat (first | dsimp only [dP2,dW] | walk_at "rs1" | set_option simprocs false in simp only [ixk0,ixk1,ixk2,ixk3,ixk4,ex_at,g1,g2])
      exact ⟨fun z=>(if_pos z).symm,fun z=>(if_neg (by rw [z]; exact Bool.false_ne_true)).symm⟩
    rw [able_is,Int.toNat_natCast]
    obtain ⟨jf,hjf,ejf⟩:=wl0
    obtain ⟨t,ht,hct,hl,hat⟩:=able_pick (c:=fun j=>decide ((wo.getD j (0,0)).1 + g ≤ h.1)) (n:=wo.length) hjf (decide_eq_true (by rw [ejf]; lia)) (mixF (cellF ns (6 + (i:Nat))) 71)
    have hct:=of_decide_eq_true hct
    generalize (((List.range wo.length).filter fun j=>decide ((wo.getD j (0,0)).1 + g ≤ h.1)).map fun j:Nat=>D.int (j:Nat)) = AL at hl hat
    have et:=List.getElem?_eq_getElem (l:=wo) (i:=t) ht
    have gd:wo.getD t (0,0) = wo[t]:=by rw [List.getD_eq_getElem?_getD,et]; rfl
    have tm:=List.getElem_mem (l:=wo) (n:=t) ht
    rw [gd] at hct
    have eft:wl[t]? = some (wo[t].1 + g):=by show (wo.map fun x=>x.1 + g)[t]? = _; rw [List.getElem?_map,et]; rfl
    have t0:0 ≤ wo[t].1:=by
      generalize wo[t] = y at tm
      rw [ew] at tm
      rcases List.mem_append.mp tm with z | z
      · have:=hpw y z; lia
      · rw [List.mem_singleton.mp z]; exact Int.le_refl 0
    have la:=cv.len
    rw [lwl] at la
    have ea:=List.getElem?_eq_getElem (l:=bs) (i:=t) (by lia)
    generalize bs[t]'(by lia) = av at ea
    refine ⟨1,_,rfl,rfl,ns,_,rfl,by lia,?_⟩
    repeat (first | walk_at "rs1" | set_option simprocs false in simp only [ixk0,ixk1,ixk2,ixk3,ixk4,ex_at])
    refine ⟨_,_,rfl,?_⟩
    repeat (first | dsimp only [dP2] | walk_at "rs1" | set_option simprocs false in simp only [ixk0,ixk1,ixk2,ixk3,ixk4,ex_at,hat,g1])
    refine ⟨by lia,t,av,ixN_nat (by rw [List.length_map]; lia),by rw [List.getElem?_map,ea]; rfl,?_⟩
    have st:=cv.step (x:=h) eft ea hct (by lia) hk2
    rw [← take_snoc ec] at st
    have s1:(bs.map D.int).set t (.int (av + h.2)) = (bs.set t (av + h.2)).map D.int:=by rw [List.map_set]
    dsimp only [List.set]
    rw [s1]
    exact ⟨_,_,_,st,rfl⟩
  rw [upFrom_len]
  rintro ρ ⟨bs,b7,b8,cvW,rfl⟩
  rw [Int.toNat_natCast,List.take_length] at cvW
  repeat (first | walk_at "rs1" | set_option simprocs false in simp only [ixk0,ixk1,ixk2,ixk3,ixk4,ex_at])
  refine ⟨⟨by decide,by decide,by decide⟩,ns,17,rfl,by decide,?_⟩
  have e10:((10:Int) ^ (10:Int).toNat) = 10000000000:=by decide
  have u0:=Int.emod_nonneg (cellF ns 17) (b:=4) (by decide)
  have u1:=Int.emod_lt_of_pos (cellF ns 17) (b:=4) (by decide)
  repeat (first | walk_at "rs1" | set_option simprocs false in simp only [ixk0,ixk1,ixk2,ixk3,ixk4,ex_at])
  rw [e10]
  refine ⟨by decide,_,pk4_at u0 u1,?_⟩
  have sl0:0 ≤ pk4 0 0 3 10000000000 (cellF ns 17 % 4):=by unfold pk4; split <;> (try split) <;> (try split) <;> decide
  generalize pk4 0 0 3 10000000000 (cellF ns 17 % 4) = sl at sl0
  rw [List.length_map,Int.toNat_natCast]
  refine ⟨⟨by lia,by lia⟩,?_⟩
  have la:=cvF.len
  rw [lfl] at la
  have lb:=cvW.len
  rw [lwl] at lb
  unfold upFrom
  refine lc_mapE (fun d=>match d with | .int i=>dO ((fo.getD i.toNat (0,0)).1,(fo.getD i.toNat (0,0)).2,as.getD i.toNat 0 + sl) | d=>d) (fun j=>dO ((fo.getD j (0,0)).1,(fo.getD j (0,0)).2,as.getD j 0 + sl)) (fun j _=>by rw [Int.zero_add]; rfl) (by rw [List.length_range]; lia) (fun j hj=>?_) ?_
  · have hj:=List.mem_range.mp hj
    have e1:=List.getElem?_eq_getElem (l:=fo) (i:=j) hj
    have e2:=List.getElem?_eq_getElem (l:=as) (i:=j) (by lia)
    rw [List.getD_eq_getElem?_getD,List.getD_eq_getElem?_getD,e1,e2,Int.zero_add]
    generalize fo[j] = y at e1 ⊢
    generalize as[j]'(by lia) = av at e2 ⊢
    have g1:atI (fo.map dP2) ((j:Nat) : Int) = some (dP2 y):=atI_of e1
    have g2:atI (as.map D.int) ((j:Nat) : Int) = some (.int av):=atI_of e2
    repeat (first | dsimp only [dP2,dO] | walk_at "rs1" | set_option simprocs false in simp only [ixk0,ixk1,ixk2,ixk3,ixk4,ex_at,g1,g2])
    rfl
  rw [List.length_map,Int.toNat_natCast]
  refine ⟨⟨by lia,by lia⟩,?_⟩
  refine lc_mapE (fun d=>match d with | .int i=>dO ((wo.getD i.toNat (0,0)).1,(wo.getD i.toNat (0,0)).2,bs.getD i.toNat 0 + sl) | d=>d) (fun j=>dO ((wo.getD j (0,0)).1,(wo.getD j (0,0)).2,bs.getD j 0 + sl)) (fun j _=>by rw [Int.zero_add]; rfl) (by rw [List.length_range]; lia) (fun j hj=>?_) ?_
  · have hj:=List.mem_range.mp hj
    have e1:=List.getElem?_eq_getElem (l:=wo) (i:=j) hj
    have e2:=List.getElem?_eq_getElem (l:=bs) (i:=j) (by lia)
    rw [List.getD_eq_getElem?_getD,List.getD_eq_getElem?_getD,e1,e2,Int.zero_add]
    generalize wo[j] = y at e1 ⊢
    generalize bs[j]'(by lia) = av at e2 ⊢
    have g1:atI (wo.map dP2) ((j:Nat) : Int) = some (dP2 y):=atI_of e1
    have g2:atI (bs.map D.int) ((j:Nat) : Int) = some (.int av):=atI_of e2
    repeat (first | dsimp only [dP2,dO] | walk_at "rs1" | set_option simprocs false in simp only [ixk0,ixk1,ixk2,ixk3,ixk4,ex_at,g1,g2])
    rfl
  have g0:=ok.g0
  have g3:=wk.g3
  have fin:Shop36 g hs cs (mkS fo as sl) (mkS wo bs sl) as bs:=by
    have hf:∀ y ∈ fo,1 ≤ y.1∧y.1 ≤ 250∧0 ≤ y.2∧y.2 ≤ 1000000:=fun y hy=>by
      rw [ef] at hy
      rcases List.mem_append.mp hy with z | z
      · have:=hpf y z; lia
      · rw [List.mem_singleton.mp z]; exact ⟨by show (1:Int) ≤ 250; decide,by show (250:Int) ≤ 250; decide,q1,q2⟩
    have hw:∀ y ∈ wo,0 ≤ y.1∧y.1 ≤ 199∧0 ≤ y.2∧y.2 ≤ 1000000:=fun y hy=>by
      rw [ew] at hy
      rcases List.mem_append.mp hy with z | z
      · have:=hpw y z; lia
      · rw [List.mem_singleton.mp z]; exact ⟨by show (0:Int) ≤ 0; decide,by show (0:Int) ≤ 199; decide,q3,q4⟩
    have e1:flv (mkS fo as sl) = fl:=mkS_map fo as sl (-1)
    have e2:wlv g (mkS wo bs sl) = wl:=mkS_map wo bs sl g
    have sf:∀ L,0 ≤ surF g hs cs (mkS fo as sl) (mkS wo bs sl) as bs L∧(L = 0→surF g hs cs (mkS fo as sl) (mkS wo bs sl) as bs L = 0):=fun L=>cov_feas nd (by rw [e1]; exact cvF) (by rw [e2]; exact cvW) L
    refine ⟨by rw [mkS_len]; lia,by rw [mkS_len]; lia,⟨fun x hx=>?_,fun x hx=>?_⟩,fun x hx=>?_,fun x hx=>?_,⟨by rw [mkS_len]; lia,by rw [mkS_len]; lia,fun n x a h1 h2=>mkS_amt cvF.a0 sl0 h1 h2,fun n x a h1 h2=>mkS_amt cvW.b0 sl0 h1 h2,fun j _=>(sf _).1,(sf 0).2 rfl⟩⟩
    · obtain ⟨y,hy,h1,_⟩:=mkS_mem cvF.a0 sl0 hx
      have:=hf y hy
      lia
    · obtain ⟨y,hy,h1,_⟩:=mkS_mem cvW.b0 sl0 hx
      have:=hw y hy
      lia
    · rcases List.mem_append.mp hx with hx | hx
      · obtain ⟨y,hy,_,h2,_⟩:=mkS_mem cvF.a0 sl0 hx
        have:=hf y hy
        lia
      · obtain ⟨y,hy,_,h2,_⟩:=mkS_mem cvW.b0 sl0 hx
        have:=hw y hy
        lia
    · rcases List.mem_append.mp hx with hx | hx
      · obtain ⟨y,hy,_,_,h3⟩:=mkS_mem cvF.a0 sl0 hx
        exact h3
      · obtain ⟨y,hy,_,_,h3⟩:=mkS_mem cvW.b0 sl0 hx
        exact h3
  have qq:=q _ _ _ _ fin
  unfold dS mkS dA at qq
  rw [List.map_map,List.map_map] at qq
  exact qq
noncomputable def DnEnv (W S Bu:D) (f:Nat→Int) (ρ:DEnv) : Prop:=∃ a4 a5 a6 a7 a8 a9,ρ = [some (.p W),some (.p S),some (.p Bu),some (.o (.lst ((Rw f).map D.int))),a4,a5,a6,a7,a8,a9]
theorem dn_mk {W S Bu:D} {f f':Nat→Int} {a4 a5 a6 a7 a8 a9:Option B} (h:∀ i,i < 251→f i = f' i) : DnEnv W S Bu f' [some (.p W),some (.p S),some (.p Bu),some (.o (.lst ((Rw f).map D.int))),a4,a5,a6,a7,a8,a9]:=by
  rw [Rw_congr h]
  exact ⟨_,_,_,_,_,_,rfl⟩
theorem flv_zip (fs:List S3) (as:List Int) : (flv fs).zip as = (fs.zip as).map fun p=>(p.1.1 - 1,p.2):=by unfold flv; rw [List.zip_map_left]; rfl
theorem wlv_zip (g:Int) (ws:List S3) (bs:List Int) : (wlv g ws).zip bs = (ws.zip bs).map fun p=>(p.1.1 + g,p.2):=by unfold wlv; rw [List.zip_map_left]; rfl
noncomputable def BuIs (bu:D) (as bs:List Int) : Prop:=(∀ Q,dIx bu (.int 0) Q = Q (.p (dA as)))∧(∀ Q,dIx bu (.int 1) Q = Q (.p (dA bs)))
theorem bu_tup (as bs:List Int) : BuIs (.tup [dA as,dA bs]) as bs:=⟨fun Q=>by rw [dIx_tup,ixk0]; simp,fun Q=>by rw [dIx_tup,ixk1]; simp⟩
noncomputable def r_law_down:DR:=fun ds P=>∃ g hs cs fs ws as bs bu,ds = [dW g hs cs,dS fs ws,bu]∧BuIs bu as bs∧WksOk g hs cs∧OffsIn g fs ws∧P (.o (.lst ((surL g hs cs fs ws as bs).map D.int)))
theorem ok_law_down (T:Blt mg) (F:Fun K "_law_down" "_law_down" s_law_down f fd) : FnOk P w K mg base CX0 1 f fd ["works","shop","buying"] (spD K r_law_down):=by
  refine okD F sc_law_down (fun ds Q h=>by obtain ⟨g,hs,cs,fs,ws,as,bs,bu,rfl,hb,ok,oi,q⟩:=h; rfl) fun cdv A outer s H E hr=>⟨_,(dss_cons (ds_set (i:=3) sc_law_down.nd rfl (Or.inl rfl) (de_op od_times (de_lst (da_cons de_int da_nil)) de_int))
      (dss_cons (ds_for (g:=(.t [4,5,6])) PassesOwn.never rfl (di_list (de_ix (dv 0) de_int)) (pg_seq rfl (pgs_cons (pg_name (i:=4) sc_law_down.nd rfl (Or.inl rfl)) (pgs_cons (pg_name (i:=5) sc_law_down.nd rfl (Or.inl rfl)) (pgs_cons (pg_name (i:=6) sc_law_down.nd rfl (Or.inl rfl)) pgs_nil)))) (dss_one (ds_forS (g:=(.n 7)) PassesOwn.never rfl (dis_rng2 (by rfl) T.b_range (da_cons (dv 5) (da_cons (dv 4) da_nil))) (pg_name (i:=7) sc_law_down.nd rfl (Or.inl rfl)) (dss_one (ds_augIx ip_add (ps_augS (pv 3) (dv 7).pe get_list (dv 6).pe ip_add set_list))))))
      (dss_cons (ds_for (g:=(.t [4,5,6])) PassesOwn.never rfl (di_list (de_ix (dv 0) de_int)) (pg_seq rfl (pgs_cons (pg_name (i:=4) sc_law_down.nd rfl (Or.inl rfl)) (pgs_cons (pg_name (i:=5) sc_law_down.nd rfl (Or.inl rfl)) (pgs_cons (pg_name (i:=6) sc_law_down.nd rfl (Or.inl rfl)) pgs_nil)))) (dss_one (ds_forS (g:=(.n 7)) PassesOwn.never rfl (dis_rng2 (by rfl) T.b_range (da_cons (de_op od_plus (dv 4) (de_ix (dv 0) de_int)) (da_cons (de_op od_plus (dv 5) (de_ix (dv 0) de_int)) da_nil))) (pg_name (i:=7) sc_law_down.nd rfl (Or.inl rfl)) (dss_one (ds_augIx ip_sub (ps_augS (pv 3) (dv 7).pe get_list (dv 6).pe ip_sub set_list))))))
      (dss_cons (ds_for (g:=(.t [8,9])) PassesOwn.never rfl (di_zip (by rfl) T.b_zip (da_cons (de_ix (dv 1) de_int) (da_cons (de_ix (dv 2) de_int) da_nil))) (pg_seq rfl (pgs_cons (pg_name (i:=8) sc_law_down.nd rfl (Or.inl rfl)) (pgs_cons (pg_name (i:=9) sc_law_down.nd rfl (Or.inl rfl)) pgs_nil))) (dss_one (ds_augIx ip_add (ps_augS (pv 3) (de_op od_sub (de_ix (dv 8) de_int) de_int).pe get_list (dv 9).pe ip_add set_list))))
      (dss_cons (ds_for (g:=(.t [8,9])) PassesOwn.never rfl (di_zip (by rfl) T.b_zip (da_cons (de_ix (dv 1) de_int) (da_cons (de_ix (dv 2) de_int) da_nil))) (pg_seq rfl (pgs_cons (pg_name (i:=8) sc_law_down.nd rfl (Or.inl rfl)) (pgs_cons (pg_name (i:=9) sc_law_down.nd rfl (Or.inl rfl)) pgs_nil))) (dss_one (ds_augIx ip_sub (ps_augS (pv 3) (de_op od_plus (de_ix (dv 8) de_int) (de_ix (dv 0) de_int)).pe get_list (dv 9).pe ip_sub set_list))))
      (dss_cons (ds_forS (g:=(.n 7)) PassesOwn.never rfl (dis_rng3 (by rfl) T.b_range (da_cons de_int (da_cons (de_neg de_int) (da_cons (de_neg de_int) da_nil)))) (pg_name (i:=7) sc_law_down.nd rfl (Or.inl rfl)) (dss_one (ds_augIx ip_add (ps_augS (pv 3) (dv 7).pe get_list (de_ix (dv 3) (de_op od_plus (dv 7) de_int)).pe ip_add set_list))))
      (dss_one (ds_retO 3)))))))),fun ds Q h=>?_⟩
  obtain ⟨g,hs,cs,fs,ws,as,bs,bu,rfl,hb,ok,oi,q⟩:=h
  have hb0:=hb.1
  have hb1:=hb.2
  repeat (first | walk_at "rs1" | set_option simprocs false in simp only [ixk0,ixk1,ixk2,ixk3,ixk4,ex_at])
  have e0:(List.replicate (251:Int).toNat [D.int 0]).flatten = (Rw fun _=>0).map D.int:=rfl
  refine (show dMul (.lst [.int 0]) (.int 251) _ from ⟨⟨by decide,by decide⟩,small_len (by decide),?_⟩)
  rw [e0]
  repeat (first | dsimp only [dW] | walk_at "rs1" | set_option simprocs false in simp only [ixk0,ixk1,ixk2,ixk3,ixk4,ex_at])
  refine for_nat (fun i ρ=>DnEnv (dW g hs cs) (dS fs ws) bu (fun L=>atL (hotB (hs.take i)) L) ρ) ⟨none,none,none,none,none,none,rfl⟩ ?_ ?_
  · rintro i x ρ hx ⟨a4,a5,a6,a7,a8,a9,rfl⟩
    rw [List.getElem?_map] at hx
    cases ec:hs[i]? with
    | none=>rw [ec] at hx; cases hx
    | some h =>
    rw [ec] at hx
    cases hx
    have ho:=ok.hot h (List.mem_of_getElem? ec)
    obtain ⟨o1,o2,o3,o4,o5⟩:=ho
    repeat (first | dsimp only [d3] | walk_at "rs1" | set_option simprocs false in simp only [ixk0,ixk1,ixk2,ixk3,ixk4,ex_at])
    refine ⟨⟨by lia,by lia,by lia,by lia⟩,?_⟩
    refine for_nat (fun k ρ=>∃ b7 b8 b9,ρ = [some (.p (dW g hs cs)),some (.p (dS fs ws)),some (.p bu),some (.o (.lst ((Rw fun L=>atL (hotB (hs.take i)) L + (if h.2.1 ≤ L∧(L:Int) < h.2.1 + (k:Nat) then h.2.2 else 0)).map D.int))),some (.p (.int h.1)),some (.p (.int h.2.1)),some (.p (.int h.2.2)),b7,b8,b9]) ⟨a7,a8,a9,?_⟩ ?_ ?_
    · rw [Rw_congr (f:=fun L=>atL (hotB (hs.take i)) L + (if h.2.1 ≤ L∧(L:Int) < h.2.1 + ((0:Nat) : Int) then h.2.2 else 0)) (g:=fun L=>atL (hotB (hs.take i)) L) fun L _=>by rw [if_neg (by lia),Int.add_zero]]
    · rintro k y ρ hy ⟨b7,b8,b9,rfl⟩
      obtain ⟨hk,rfl⟩:=upFrom_get hy
      obtain ⟨j,ej⟩ : ∃ j:Nat,h.2.1 + (k:Nat) = (j:Nat):=⟨(h.2.1 + (k:Nat)).toNat,by lia⟩
      have hj:j < 251:=by lia
      repeat (first | walk_at "rs1" | set_option simprocs false in simp only [ixk0,ixk1,ixk2,ixk3,ixk4,ex_at])
      refine ⟨j,_,Rw_ix _ hj ej,Rw_dat _ hj,?_⟩
      rw [Rw_put (f':=fun L=>atL (hotB (hs.take i)) L + (if h.2.1 ≤ L∧(L:Int) < h.2.1 + ((k + 1:Nat) : Int) then h.2.2 else 0)) fun L hL=>?_]
      · exact ⟨_,b8,b9,rfl⟩
      by_cases z:L = j
      · subst z
        rw [if_pos rfl,if_pos (by lia),if_neg (by lia)]
        lia
      · rw [if_neg z]
        by_cases z2:h.2.1 ≤ L∧(L:Int) < h.2.1 + (k:Nat)
        · rw [if_pos z2,if_pos (by lia)]
        · rw [if_neg z2,if_neg (by lia)]
    · rintro ρ ⟨b7,b8,b9,rfl⟩
      rw [upFrom_len]
      have e1:hotB (hs.take (i + 1)) = hotB (hs.take i) ++ [(h.2.1,h.1,h.2.2)]:=by rw [take_snoc ec]; unfold hotB; rw [List.map_append]; rfl
      refine dn_mk fun L _=>?_
      rw [e1,atL_one]
      dsimp only
      by_cases z:h.2.1 ≤ (L:Int)∧(L:Int) < h.1
      · rw [if_pos z,if_pos (by lia)]
      · rw [if_neg z,if_neg (by lia)]
  rw [List.length_map]
  rintro ρ ⟨a4,a5,a6,a7,a8,a9,rfl⟩
  rw [List.take_length]
  repeat (first | dsimp only [dW] | walk_at "rs1" | set_option simprocs false in simp only [ixk0,ixk1,ixk2,ixk3,ixk4,ex_at])
  refine for_nat (fun i ρ=>DnEnv (dW g hs cs) (dS fs ws) bu (fun L=>atL (hotB hs) L - atL (coldB g (cs.take i)) L) ρ) (dn_mk fun L _=>by rw [List.take_zero]; show _ = _ - (0:Int); lia) ?_ ?_
  · rintro i x ρ hx ⟨a4,a5,a6,a7,a8,a9,rfl⟩
    rw [List.getElem?_map] at hx
    cases ec:cs[i]? with
    | none=>rw [ec] at hx; cases hx
    | some h =>
    rw [ec] at hx
    cases hx
    have ho:=ok.cold h (List.mem_of_getElem? ec)
    obtain ⟨o1,o2,o3,o4,o5⟩:=ho
    have g0:=ok.g0
    have g1:=ok.g1
    repeat (first | dsimp only [d3,dW] | walk_at "rs1" | set_option simprocs false in simp only [ixk0,ixk1,ixk2,ixk3,ixk4,ex_at])
    refine ⟨⟨by lia,by lia,by lia,by lia⟩,?_⟩
    refine for_nat (fun k ρ=>∃ b7 b8 b9,ρ = [some (.p (dW g hs cs)),some (.p (dS fs ws)),some (.p bu),some (.o (.lst ((Rw fun L=>atL (hotB hs) L - atL (coldB g (cs.take i)) L - (if h.1 + g ≤ L∧(L:Int) < h.1 + g + (k:Nat) then h.2.2 else 0)).map D.int))),some (.p (.int h.1)),some (.p (.int h.2.1)),some (.p (.int h.2.2)),b7,b8,b9]) ⟨a7,a8,a9,?_⟩ ?_ ?_
    · rw [Rw_congr (f := fun L => atL (hotB hs) L - atL (coldB g (cs.take i)) L - (if h.1 + g ≤ L ∧ (L : Int) < h.1 + g + ((0 : Nat) : Int) then h.2.2 else 0)) (g := fun L => atL (hotB hs) L - atL (coldB g (cs.take i)) L) fun L _ => by rw [if_neg (by lia), Int.sub_zero]]
      rfl
    · rintro k y ρ hy ⟨b7,b8,b9,rfl⟩
      obtain ⟨hk,rfl⟩:=upFrom_get hy
      obtain ⟨j,ej⟩ : ∃ j:Nat,h.1 + g + (k:Nat) = (j:Nat):=⟨(h.1 + g + (k:Nat)).toNat,by lia⟩
      have hj:j < 251:=by lia
      repeat (first | dsimp only [dW] | walk_at "rs1" | set_option simprocs false in simp only [ixk0,ixk1,ixk2,ixk3,ixk4,ex_at])
      refine ⟨j,_,Rw_ix _ hj ej,Rw_dat _ hj,?_⟩
      rw [Rw_put (f':=fun L=>atL (hotB hs) L - atL (coldB g (cs.take i)) L - (if h.1 + g ≤ L∧(L:Int) < h.1 + g + ((k + 1:Nat) : Int) then h.2.2 else 0)) fun L hL=>?_]
      · exact ⟨_,b8,b9,rfl⟩
      by_cases z:L = j
      · subst z
        rw [if_pos rfl,if_pos (by lia),if_neg (by lia)]
        lia
      · rw [if_neg z]
        by_cases z2:h.1 + g ≤ L∧(L:Int) < h.1 + g + (k:Nat)
        · rw [if_pos z2,if_pos (by lia)]
        · rw [if_neg z2,if_neg (by lia)]
    · rintro ρ ⟨b7,b8,b9,rfl⟩
      rw [upFrom_len]
      have e1:coldB g (cs.take (i + 1)) = coldB g (cs.take i) ++ [(h.1 + g,h.2.1 + g,h.2.2)]:=by rw [take_snoc ec]; unfold coldB; rw [List.map_append]; rfl
      refine dn_mk fun L _=>?_
      rw [e1,atL_one]
      dsimp only
      by_cases z:h.1 + g ≤ (L:Int)∧(L:Int) < h.2.1 + g
      · rw [if_pos z,if_pos (by lia)]; lia
      · rw [if_neg z,if_neg (by lia)]; lia
  rw [List.length_map]
  rintro ρ ⟨a4,a5,a6,a7,a8,a9,rfl⟩
  rw [List.take_length]
  repeat (first | dsimp only [dS,dA] | walk_at "rs1" | set_option simprocs false in simp only [ixk0,ixk1,ixk2,ixk3,ixk4,ex_at,hb0])
  rw [zipD_map]
  refine for_nat (fun i ρ=>DnEnv (dW g hs cs) (dS fs ws) bu (fun L=>atL (hotB hs) L - atL (coldB g cs) L + amtAt (((flv fs).zip as).take i) L) ρ) (dn_mk fun L _=>by rw [List.take_zero]; show _ = _ + (0:Int); lia) ?_ ?_
  · rintro i x ρ hx ⟨a4,a5,a6,a7,a8,a9,rfl⟩
    rw [List.getElem?_map] at hx
    cases ec:(fs.zip as)[i]? with
    | none=>rw [ec] at hx; cases hx
    | some h =>
    rw [ec] at hx
    cases hx
    have ho:=oi.f0 h.1 (List.of_mem_zip (List.mem_of_getElem? ec)).1
    have ez:((flv fs).zip as)[i]? = some (h.1.1 - 1,h.2):=by rw [flv_zip,List.getElem?_map,ec]; rfl
    obtain ⟨j,ej⟩ : ∃ j:Nat,h.1.1 - 1 = (j:Nat):=⟨(h.1.1 - 1).toNat,by lia⟩
    have hj:j < 251:=by lia
    repeat (first | dsimp only [dO] | walk_at "rs1" | set_option simprocs false in simp only [ixk0,ixk1,ixk2,ixk3,ixk4,ex_at])
    refine ⟨j,_,Rw_ix _ hj ej,Rw_dat _ hj,?_⟩
    rw [Rw_put (f':=fun L=>atL (hotB hs) L - atL (coldB g cs) L + amtAt (((flv fs).zip as).take (i + 1)) L) fun L hL=>?_]
    · exact ⟨a4,a5,a6,a7,_,_,rfl⟩
    rw [take_snoc ez,amtAt_snoc]
    dsimp only
    by_cases z:L = j
    · subst z
      rw [if_pos rfl,if_pos ej]
      lia
    · rw [if_neg z, if_neg (by lia)]
      lia
  rw [List.length_map]
  have el:(fs.zip as).length = ((flv fs).zip as).length:=by rw [flv_zip,List.length_map]
  rw [el]
  rintro ρ ⟨a4,a5,a6,a7,a8,a9,rfl⟩
  rw [List.take_length]
  repeat (first | dsimp only [dS,dA] | walk_at "rs1" | set_option simprocs false in simp only [ixk0,ixk1,ixk2,ixk3,ixk4,ex_at,hb1])
  rw [zipD_map]
  refine for_nat (fun i ρ=>DnEnv (dW g hs cs) (dS fs ws) bu (fun L=>atL (hotB hs) L - atL (coldB g cs) L + amtAt ((flv fs).zip as) L - amtAt (((wlv g ws).zip bs).take i) L) ρ) (dn_mk fun L _=>by rw [List.take_zero]; show _ = _ - (0:Int); lia) ?_ ?_
  · rintro i x ρ hx ⟨a4,a5,a6,a7,a8,a9,rfl⟩
    rw [List.getElem?_map] at hx
    cases ec:(ws.zip bs)[i]? with
    | none=>rw [ec] at hx; cases hx
    | some h =>
    rw [ec] at hx
    cases hx
    have ho:=oi.w0 h.1 (List.of_mem_zip (List.mem_of_getElem? ec)).1
    have g0:=ok.g0
    have ez:((wlv g ws).zip bs)[i]? = some (h.1.1 + g,h.2):=by rw [wlv_zip,List.getElem?_map,ec]; rfl
    obtain ⟨j,ej⟩ : ∃ j:Nat,h.1.1 + g = (j:Nat):=⟨(h.1.1 + g).toNat,by lia⟩
    have hj:j < 251:=by lia
    repeat (first | dsimp only [dO,dW] | walk_at "rs1" | set_option simprocs false in simp only [ixk0,ixk1,ixk2,ixk3,ixk4,ex_at])
    refine ⟨j,_,Rw_ix _ hj ej,Rw_dat _ hj,?_⟩
    rw [Rw_put (f':=fun L=>atL (hotB hs) L - atL (coldB g cs) L + amtAt ((flv fs).zip as) L - amtAt (((wlv g ws).zip bs).take (i + 1)) L) fun L hL=>?_]
    · exact ⟨a4,a5,a6,a7,_,_,rfl⟩
    rw [take_snoc ez,amtAt_snoc]
    dsimp only
    by_cases z:L = j
    · subst z
      rw [if_pos rfl,if_pos ej]
      lia
    · rw [if_neg z, if_neg (by lia)]
      lia
  rw [List.length_map]
  have el2:(ws.zip bs).length = ((wlv g ws).zip bs).length:=by rw [wlv_zip,List.length_map]
  rw [el2]
  rintro ρ ⟨a4,a5,a6,a7,a8,a9,rfl⟩
  rw [List.take_length]
  repeat (first | walk_at "rs1" | set_option simprocs false in simp only [ixk0,ixk1,ixk2,ixk3,ixk4,ex_at])
  refine ⟨trivial,⟨by decide,by decide,by decide,by decide⟩,?_⟩
  refine for_nat (fun i ρ=>DnEnv (dW g hs cs) (dS fs ws) bu (fun L=>if 250 - i ≤ L then surF g hs cs fs ws as bs L else rawF g hs cs fs ws as bs L) ρ) (dn_mk fun L hL=>?_) ?_ ?_
  · show rawF g hs cs fs ws as bs L = _
    by_cases z:250 - 0 ≤ L
    · have : L = 250 := by lia
      subst this
      rw [if_pos z]
      have h1:=sur_step g hs cs fs ws as bs 250
      have h2:=sur_top1 (as:=as) (bs:=bs) ok oi
      show rawF g hs cs fs ws as bs 250 = surF g hs cs fs ws as bs 250
      have h3:surF g hs cs fs ws as bs (250 + 1) = 0:=h2
      lia
    · rw [if_neg z]
  · rintro i x ρ hx ⟨a4,a5,a6,a7,a8,a9,rfl⟩
    obtain ⟨hi,rfl⟩:=downTo_get hx
    have hi':i < 250:=hi
    obtain ⟨j,ej⟩ : ∃ j:Nat,(249:Int) + (i:Nat) * (-1) = (j:Nat):=⟨249 - i,by lia⟩
    have hj:j < 251:=by lia
    have hj1:j + 1 < 251:=by lia
    have g1:atI ((Rw fun L=>if 250 - i ≤ L then surF g hs cs fs ws as bs L else rawF g hs cs fs ws as bs L).map D.int) (((249:Int) + (i:Nat) * (-1)) + 1) = some (.int (surF g hs cs fs ws as bs ((j:Int) + 1))):=by
      rw [ej,show (j:Int) + 1 = ((j + 1:Nat) : Int) by lia]
      refine (atI_of (Rw_at _ hj1)).trans ?_
      rw [if_pos (by lia)]
    repeat (first | walk_at "rs1" | set_option simprocs false in simp only [ixk0,ixk1,ixk2,ixk3,ixk4,ex_at,g1])
    refine ⟨j,_,Rw_ix _ hj ej,Rw_dat _ hj,?_⟩
    rw [Rw_put (f':=fun L=>if 250 - (i + 1) ≤ L then surF g hs cs fs ws as bs L else rawF g hs cs fs ws as bs L) fun L hL=>?_]
    · exact ⟨a4,a5,a6,_,a8,a9,rfl⟩
    by_cases z:L = j
    · subst z
      rw [if_pos rfl,if_pos (by lia),if_neg (by lia)]
      exact sur_step g hs cs fs ws as bs _
    · rw [if_neg z]
      by_cases z2:250 - i ≤ L
      · rw [if_pos z2,if_pos (by lia)]
      · rw [if_neg z2,if_neg (by lia)]
  rw [downTo_len]
  rintro ρ ⟨a4,a5,a6,a7,a8,a9,rfl⟩
  have ef:Rw (fun L=>if 250 - Int.toNat (249 - -1) ≤ L then surF g hs cs fs ws as bs L else rawF g hs cs fs ws as bs L) = surL g hs cs fs ws as bs:=by
    unfold Rw surL
    exact List.map_congr_left fun L _=>if_pos (by have:Int.toNat (249 - -1) = 250:=rfl; lia)
  rw [ef]
  repeat (first | walk_at "rs1" | set_option simprocs false in simp only [ixk0,ixk1,ixk2,ixk3,ixk4,ex_at])
  exact q
noncomputable def r_law_whole:DR:=fun ds P=>∃ n:Int,ds = [.int n]∧P (.p (.bl true))
theorem ok_law_whole (T:Blt mg) (F:Fun K "_law_whole" "_law_whole" s_law_whole f fd) : FnOk P w K mg base CX0 1 f fd ["found"] (spD K r_law_whole):=by
  refine okD F sc_law_whole (fun ds Q h=>by obtain ⟨n,rfl,q⟩:=h; rfl) fun cdv A outer s H E hr=>⟨_,(dss_one (ds_ret (de_and (de_isi (T:="int") (by simp) (by rfl) T.b_isinstance (dv 0) (pe_bltn (v:=.ty "int") (by rfl) T.b_int PyProof.Rows.boot_int rfl)) (de_one (de_not (de_isi (T:="bool") (by simp) (by rfl) T.b_isinstance (dv 0) (pe_bltn (v:=.ty "bool") (by rfl) T.b_bool PyProof.Rows.boot_bool rfl))))))),fun ds Q h=>?_⟩
  obtain ⟨n,rfl,q⟩:=h
  repeat (first | walk_at "rs1" | set_option simprocs false in simp only [ixk0,ixk1,ixk2,ixk3,ixk4,ex_at])
  exact ⟨fun _=>q,fun z=>(nomatch (show true = false from z))⟩
noncomputable def r_law_amounts:DR:=fun ds P=>∃ (as:List Int) (os:List S3),ds = [dA as,.lst (os.map dO)]∧as.length = os.length∧(∀ (n:Nat) (x:S3) (a:Int),os[n]? = some x→as[n]? = some a→0 ≤ a∧a ≤ x.2.2)∧P (.p (.bl true))
theorem ok_law_amounts (T:Blt mg) (F_law_whole:Fn P w K mg base "_law_whole" 1 ["found"] (spD K r_law_whole)) (F:Fun K "_law_amounts" "_law_amounts" s_law_amounts f fd) : FnOk P w K mg base CX0 2 f fd ["found","offers"] (spD K r_law_amounts):=by
  refine okD F sc_law_amounts (fun ds Q h=>by obtain ⟨as,os,rfl,la,h,q⟩:=h; rfl) fun cdv A outer s H E hr=>⟨_,(dss_cons (ds_if (dw_or (dt_not (dt_val (de_isi (T:="list") (by simp) (by rfl) T.b_isinstance (dv 0) (pe_bltn (v:=.ty "list") (by rfl) T.b_list PyProof.Rows.boot_list rfl)))) (dw_or1 (dt_cmp od_ne (de_callB cd_len (by rfl) T.b_len PySem.boot_len (da_cons (dv 0) da_nil)) (de_callB cd_len (by rfl) T.b_len PySem.boot_len (da_cons (dv 1) da_nil)) (nomark _)))).dt (dss_one (ds_ret de_bl)) dss_nil)
      (dss_cons (ds_for (g:=(.t [2,3])) PassesOwn.never rfl (di_zip (by rfl) T.b_zip (da_cons (dv 0) (da_cons (dv 1) da_nil))) (pg_seq rfl (pgs_cons (pg_name (i:=2) sc_law_amounts.nd rfl (Or.inl rfl)) (pgs_cons (pg_name (i:=3) sc_law_amounts.nd rfl (Or.inl rfl)) pgs_nil))) (dss_one (ds_if (dw_or (dt_not (dt_val (de_fn F_law_whole (hr.mono (by decide)) (by rfl) (da_cons (dv 2) da_nil)))) (dw_or (dt_cmp od_lt (dv 2) de_int (nomark _)) (dw_or1 (dt_cmp od_gt (dv 2) (de_ix (dv 3) de_int) (nomark _))))).dt (dss_one (ds_ret de_bl)) dss_nil)))
      (dss_one (ds_ret de_bl)))),fun ds Q h=>?_⟩
  obtain ⟨as,os,rfl,la,h,q⟩:=h
  repeat (first | dsimp only [dA] | walk_at "rs1" | set_option simprocs false in simp only [ixk0,ixk1,ixk2,ixk3,ixk4,ex_at])
  refine ⟨fun z=>(nomatch (show false = true from z)),fun _=>⟨fun z=>?_,fun _=>?_⟩⟩
  · rw [List.length_map,List.length_map,la,decide_eq_true rfl] at z
    cases z
  rw [zipD_map]
  refine for_nat (fun i ρ=>∃ a2 a3,ρ = [some (.p (dA as)),some (.p (.lst (os.map dO))),a2,a3]) ⟨none,none,rfl⟩ ?_ ?_
  · rintro i x ρ hx ⟨a2,a3,rfl⟩
    rw [List.getElem?_map] at hx
    cases ec:(as.zip os)[i]? with
    | none=>rw [ec] at hx; cases hx
    | some y =>
    rw [ec] at hx
    cases hx
    obtain ⟨h1,h2⟩:=List.getElem?_zip_eq_some.mp ec
    have hb:=h i y.2 y.1 h2 h1
    repeat (first | dsimp only [dO] | walk_at "rs1" | set_option simprocs false in simp only [ixk0,ixk1,ixk2,ixk3,ixk4,ex_at])
    refine ⟨y.1,rfl,?_⟩
    repeat (first | dsimp only [dO] | walk_at "rs1" | set_option simprocs false in simp only [ixk0,ixk1,ixk2,ixk3,ixk4,ex_at])
    simp only [decide_true,decide_false,Bool.not_true,Bool.not_false,Bool.false_eq_true,Bool.true_eq_false,false_implies,true_implies,and_true,true_and,forall_const]
    refine ⟨fun z=>?_,fun _=>⟨fun z=>?_,fun _=>⟨_,_,rfl⟩⟩⟩
    · have:=of_decide_eq_true z
      lia
    · have:=of_decide_eq_true z
      lia
  · rintro ρ ⟨a2,a3,rfl⟩
    repeat (first | walk_at "rs1" | set_option simprocs false in simp only [ixk0,ixk1,ixk2,ixk3,ixk4,ex_at])
    exact q
noncomputable def r_law_fits:DR:=fun ds P=>∃ p m t w:Int,ds = [.int p,.int m,.int t,.int w]∧(0 < m→p ≤ w)∧(m = t ∨ w ≤ p)∧P (.p (.bl true))
theorem ok_law_fits (T:Blt mg) (F:Fun K "_law_fits" "_law_fits" s_law_fits f fd) : FnOk P w K mg base CX0 1 f fd ["price","much","most","worth"] (spD K r_law_fits):=by
  refine okD F sc_law_fits (fun ds Q h=>by obtain ⟨p,m,t,w,rfl,h1,h2,q⟩:=h; rfl) fun cdv A outer s H E hr=>⟨_,(dss_cons (ds_if (dw_and (dt_cmp od_gt (dv 1) de_int (nomark _)) (dw_and1 (dt_cmp od_gt (dv 0) (dv 3) (nomark _)))).dt (dss_one (ds_ret de_bl)) dss_nil)
      (dss_one (ds_ret (de_or (de_cmp od_eq (dv 1) (dv 2) (nomark _)) (de_one (de_cmp od_ge (dv 0) (dv 3) (nomark _))))))),fun ds Q h=>?_⟩
  obtain ⟨p,m,t,w,rfl,h1,h2,q⟩:=h
  repeat (first | walk_at "rs1" | set_option simprocs false in simp only [ixk0,ixk1,ixk2,ixk3,ixk4,ex_at])
  have fin:(decide (m = t) = true→Q (.p (.bl true)))∧(decide (m = t) = false→Q (.p (.bl (decide (w ≤ p))))):=⟨fun _=>q,fun z=>by
    have hz:=of_decide_eq_false z
    rw [decide_eq_true (h2.resolve_left hz)]
    exact q⟩
  refine ⟨fun z=>⟨fun z2=>?_,fun _=>fin⟩,fun _=>⟨fun z=>(nomatch z),fun _=>fin⟩⟩
  have:=h1 (of_decide_eq_true z)
  have:=of_decide_eq_true z2
  lia
noncomputable def r_law_worths:DR:=fun ds P=>∃ g hs cs fs ws as bs V,ds = [dW g hs cs,dS fs ws,.tup [dA as,dA bs],.lst ((surL g hs cs fs ws as bs).map D.int),.lst (V.map D.int)]∧WksOk g hs cs∧OffsIn g fs ws∧Good g hs cs fs ws as bs V∧P (.p (.bl true))
theorem V_at {V:List Int} (h:V.length = 250) {i:Nat} (hi:i < 250) : atI (V.map D.int) ((i:Nat) : Int) = some (.int (V.getD i 0)):=by
  have e:=List.getElem?_eq_getElem (l:=V) (i:=i) (by lia)
  rw [List.getD_eq_getElem?_getD,e]
  exact atI_of e
theorem ok_law_worths (T:Blt mg) (F_law_whole:Fn P w K mg base "_law_whole" 1 ["found"] (spD K r_law_whole)) (F_law_fits:Fn P w K mg base "_law_fits" 1 ["price","much","most","worth"] (spD K r_law_fits)) (F:Fun K "_law_worths" "_law_worths" s_law_worths f fd) : FnOk P w K mg base CX0 2 f fd ["works","shop","buying","flows","worths"] (spD K r_law_worths):=by
  refine okD F sc_law_worths (fun ds Q h=>by obtain ⟨g,hs,cs,fs,ws,as,bs,V,rfl,ok,oi,gd,q⟩:=h; rfl) fun cdv A outer s H E hr=>⟨_,(dss_cons (ds_if (dw_or (dt_not (dt_val (de_isi (T:="list") (by simp) (by rfl) T.b_isinstance (dv 4) (pe_bltn (v:=.ty "list") (by rfl) T.b_list PyProof.Rows.boot_list rfl)))) (dw_or1 (dt_cmp od_ne (de_callB cd_len (by rfl) T.b_len PySem.boot_len (da_cons (dv 4) da_nil)) de_int (nomark _)))).dt (dss_one (ds_ret de_bl)) dss_nil)
      (dss_cons (ds_forS (g:=(.n 5)) PassesOwn.never rfl (dis_rng1 (by rfl) T.b_range (da_cons de_int da_nil)) (pg_name (i:=5) sc_law_worths.nd rfl (Or.inl rfl)) (dss_cons (ds_if (dw_or (dt_not (dt_val (de_fn F_law_whole (hr.mono (by decide)) (by rfl) (da_cons (de_ix (dv 4) (dv 5)) da_nil)))) (dw_or1 (dt_cmp od_gt (de_ix (dv 4) (dv 5)) (de_ix (dv 4) (de_op od_plus (dv 5) de_int)) (nomark _)))).dt (dss_one (ds_ret de_bl)) dss_nil)
      (dss_one (ds_if (dw_and (dt_cmp od_gt (de_ix (dv 3) (de_op od_plus (dv 5) de_int)) de_int (nomark _)) (dw_and1 (dt_cmp od_ne (de_ix (dv 4) (dv 5)) (de_ix (dv 4) (de_op od_plus (dv 5) de_int)) (nomark _)))).dt (dss_one (ds_ret de_bl)) dss_nil))))
      (dss_cons (ds_for (g:=(.t [6,7])) PassesOwn.never rfl (di_zip (by rfl) T.b_zip (da_cons (de_ix (dv 1) de_int) (da_cons (de_ix (dv 2) de_int) da_nil))) (pg_seq rfl (pgs_cons (pg_name (i:=6) sc_law_worths.nd rfl (Or.inl rfl)) (pgs_cons (pg_name (i:=7) sc_law_worths.nd rfl (Or.inl rfl)) pgs_nil))) (dss_one (ds_if (dt_not (dt_val (de_fn F_law_fits (hr.mono (by decide)) (by rfl) (da_cons (de_ix (dv 6) de_int) (da_cons (dv 7) (da_cons (de_ix (dv 6) de_int) (da_cons (de_ix (dv 4) (de_op od_sub (de_ix (dv 6) de_int) de_int)) da_nil))))))) (dss_one (ds_ret de_bl)) dss_nil)))
      (dss_cons (ds_for (g:=(.t [6,7])) PassesOwn.never rfl (di_zip (by rfl) T.b_zip (da_cons (de_ix (dv 1) de_int) (da_cons (de_ix (dv 2) de_int) da_nil))) (pg_seq rfl (pgs_cons (pg_name (i:=6) sc_law_worths.nd rfl (Or.inl rfl)) (pgs_cons (pg_name (i:=7) sc_law_worths.nd rfl (Or.inl rfl)) pgs_nil))) (dss_one (ds_if (dt_not (dt_val (de_fn F_law_fits (hr.mono (by decide)) (by rfl) (da_cons (de_ix (dv 6) de_int) (da_cons (dv 7) (da_cons (de_ix (dv 6) de_int) (da_cons (de_op od_sub de_int (de_ix (dv 4) (de_op od_plus (de_ix (dv 6) de_int) (de_ix (dv 0) de_int)))) da_nil))))))) (dss_one (ds_ret de_bl)) dss_nil)))
      (dss_one (ds_ret (de_fn F_law_whole (hr.mono (by decide)) (by rfl) (da_cons (de_ix (dv 4) de_int) da_nil)))))))),fun ds Q h=>?_⟩
  obtain ⟨g,hs,cs,fs,ws,as,bs,V,rfl,ok,oi,gd,q⟩:=h
  have lV:=gd.lV
  have g0:=ok.g0
  repeat (first | walk_at "rs1" | set_option simprocs false in simp only [ixk0,ixk1,ixk2,ixk3,ixk4,ex_at])
  refine ⟨fun z=>(nomatch (show false = true from z)),fun _=>⟨fun z=>?_,fun _=>⟨⟨by decide,by decide⟩,?_⟩⟩⟩
  · rw [List.length_map,lV] at z
    exact absurd z (by decide)
  refine for_nat (fun i ρ=>∃ a5,ρ = [some (.p (dW g hs cs)),some (.p (dS fs ws)),some (.p (.tup [dA as,dA bs])),some (.p (.lst ((surL g hs cs fs ws as bs).map D.int))),some (.p (.lst (V.map D.int))),a5,none,none]) ⟨none,rfl⟩ ?_ ?_
  · rintro i x ρ hx ⟨a5,rfl⟩
    obtain ⟨hi,rfl⟩:=upFrom_get hx
    rw [Int.zero_add]
    have hi':i < 249:=hi
    have v1:atI (V.map D.int) ((i:Nat) : Int) = some (.int (V.getD i 0)):=V_at lV (by lia)
    have v2:atI (V.map D.int) ((i:Nat) + 1:Int) = some (.int (V.getD (i + 1) 0)):=by
      rw [show ((i:Nat) : Int) + 1 = ((i + 1:Nat) : Int) by lia]
      exact V_at lV (by lia)
    have v3:atI ((surL g hs cs fs ws as bs).map D.int) ((i:Nat) + 1:Int) = some (.int (surF g hs cs fs ws as bs ((i + 1:Nat) : Int))):=by
      rw [show ((i:Nat) : Int) + 1 = ((i + 1:Nat) : Int) by lia]
      exact sur_at (by lia)
    have m:=gd.mono (i + 1) (by lia) (by lia)
    have sm:=gd.same (i + 1) (by lia) (by lia)
    rw [Nat.add_sub_cancel] at m sm
    repeat (first | walk_at "rs1" | set_option simprocs false in simp only [ixk0,ixk1,ixk2,ixk3,ixk4,ex_at,v1,v2,v3])
    refine ⟨_,rfl,?_⟩
    repeat (first | walk_at "rs1" | set_option simprocs false in simp only [ixk0,ixk1,ixk2,ixk3,ixk4,ex_at,v1,v2,v3])
    simp only [decide_true,decide_false,Bool.not_true,Bool.not_false,Bool.false_eq_true,Bool.true_eq_false,false_implies,true_implies,and_true,true_and,forall_const]
    refine ⟨fun z=>?_,fun _=>⟨fun z=>⟨fun z2=>?_,fun _=>⟨_,rfl⟩⟩,fun _=>⟨_,rfl⟩⟩⟩
    · have:=of_decide_eq_true z
      lia
    · rw [decide_eq_true (sm (of_decide_eq_true z))] at z2
      cases z2
  rintro ρ ⟨a5,rfl⟩
  repeat (first | dsimp only [dS,dA] | walk_at "rs1" | set_option simprocs false in simp only [ixk0,ixk1,ixk2,ixk3,ixk4,ex_at])
  rw [zipD_map]
  refine for_nat (fun i ρ=>∃ a6 a7,ρ = [some (.p (dW g hs cs)),some (.p (dS fs ws)),some (.p (.tup [dA as,dA bs])),some (.p (.lst ((surL g hs cs fs ws as bs).map D.int))),some (.p (.lst (V.map D.int))),a5,a6,a7]) ⟨none,none,rfl⟩ ?_ ?_
  · rintro i x ρ hx ⟨a6,a7,rfl⟩
    rw [List.getElem?_map] at hx
    cases ec:(fs.zip as)[i]? with
    | none=>rw [ec] at hx; cases hx
    | some y =>
    rw [ec] at hx
    cases hx
    obtain ⟨h1,h2⟩:=List.getElem?_zip_eq_some.mp ec
    have o:=oi.f0 y.1 (List.mem_of_getElem? h1)
    obtain ⟨L,eL⟩ : ∃ L:Nat,y.1.1 - 1 = (L:Nat):=⟨(y.1.1 - 1).toNat,by lia⟩
    have k:=gd.fa i L y.1 y.2 h1 h2 eL
    have c:=gd.a0 i y.1 y.2 h1 h2
    have v1:atI (V.map D.int) (y.1.1 - 1) = some (.int (V.getD L 0)):=by rw [eL]; exact V_at lV (by lia)
    repeat (first | dsimp only [dO] | walk_at "rs1" | set_option simprocs false in simp only [ixk0,ixk1,ixk2,ixk3,ixk4,ex_at,v1])
    refine ⟨_,_,_,_,rfl,k.1,?_,?_⟩
    · by_cases z:y.2 = y.1.2.2
      · exact .inl z
      · exact .inr (k.2 (by lia))
    repeat (first | walk_at "rs1" | set_option simprocs false in simp only [ixk0,ixk1,ixk2,ixk3,ixk4,ex_at])
    simp only [decide_true,decide_false,Bool.not_true,Bool.not_false,Bool.false_eq_true,Bool.true_eq_false,false_implies,true_implies,and_true,true_and,forall_const]
    exact ⟨_,_,rfl⟩
  rintro ρ ⟨a6,a7,rfl⟩
  repeat (first | dsimp only [dS,dA] | walk_at "rs1" | set_option simprocs false in simp only [ixk0,ixk1,ixk2,ixk3,ixk4,ex_at])
  rw [zipD_map]
  refine for_nat (fun i ρ=>∃ a6 a7,ρ = [some (.p (dW g hs cs)),some (.p (dS fs ws)),some (.p (.tup [dA as,dA bs])),some (.p (.lst ((surL g hs cs fs ws as bs).map D.int))),some (.p (.lst (V.map D.int))),a5,a6,a7]) ⟨_,_,rfl⟩ ?_ ?_
  · rintro i x ρ hx ⟨a6,a7,rfl⟩
    rw [List.getElem?_map] at hx
    cases ec:(ws.zip bs)[i]? with
    | none=>rw [ec] at hx; cases hx
    | some y =>
    rw [ec] at hx
    cases hx
    obtain ⟨h1,h2⟩:=List.getElem?_zip_eq_some.mp ec
    have o:=oi.w0 y.1 (List.mem_of_getElem? h1)
    obtain ⟨L,eL⟩ : ∃ L:Nat,y.1.1 + g = (L:Nat):=⟨(y.1.1 + g).toNat,by lia⟩
    have k:=gd.fb i L y.1 y.2 h1 h2 eL
    have c:=gd.b0 i y.1 y.2 h1 h2
    have v1:atI (V.map D.int) (y.1.1 + g) = some (.int (V.getD L 0)):=by rw [eL]; exact V_at lV (by lia)
    repeat (first | dsimp only [dO,dW] | walk_at "rs1" | set_option simprocs false in simp only [ixk0,ixk1,ixk2,ixk3,ixk4,ex_at,v1])
    refine ⟨_,_,_,_,rfl,fun z=>by have:=k.1 z; lia,?_,?_⟩
    · by_cases z:y.2 = y.1.2.2
      · exact .inl z
      · exact .inr (by have:=k.2 (by lia); lia)
    repeat (first | walk_at "rs1" | set_option simprocs false in simp only [ixk0,ixk1,ixk2,ixk3,ixk4,ex_at])
    simp only [decide_true,decide_false,Bool.not_true,Bool.not_false,Bool.false_eq_true,Bool.true_eq_false,false_implies,true_implies,and_true,true_and,forall_const]
    exact ⟨_,_,rfl⟩
  rintro ρ ⟨a6,a7,rfl⟩
  have v1:atI (V.map D.int) 249 = some (.int (V.getD 249 0)):=V_at (i:=249) lV (by decide)
  repeat (first | walk_at "rs1" | set_option simprocs false in simp only [ixk0,ixk1,ixk2,ixk3,ixk4,ex_at,v1])
  exact ⟨_,rfl,q⟩
noncomputable def r_law_price:DR:=fun ds P=>∃ fs ws as bs,ds = [dS fs ws,.tup [dA as,dA bs]]∧fs.length ≤ 900∧ws.length ≤ 900∧(∀ x ∈ fs ++ ws,0 ≤ x.2.1∧x.2.1 ≤ 1000000)∧P (.p (.int (priceF fs as + priceF ws bs)))
theorem ok_law_price (T:Blt mg) (F:Fun K "_law_price" "_law_price" s_law_price f fd) : FnOk P w K mg base CX0 1 f fd ["shop","buying"] (spD K r_law_price):=by
  refine okD F sc_law_price (fun ds Q h=>by obtain ⟨fs,ws,as,bs,rfl,nf,nw,pr,q⟩:=h; rfl) fun cdv A outer s H E hr=>⟨_,(dss_cons (ds_setP (i:=2) sc_law_price.nd rfl (Or.inl rfl) de_int)
      (dss_cons (ds_for (g:=(.t [3,4])) PassesOwn.never rfl (di_zipT2 (by rfl) T.b_zip (da_cons (dv 0) (da_cons (dv 1) da_nil))) (pg_seq rfl (pgs_cons (pg_name (i:=3) sc_law_price.nd rfl (Or.inl rfl)) (pgs_cons (pg_name (i:=4) sc_law_price.nd rfl (Or.inl rfl)) pgs_nil))) (dss_one (ds_aug (i:=2) sc_law_price.nd rfl (Or.inl rfl) (de_callB (cd_sum rfl) (by rfl) T.b_sum PyProof.Rows.boot_sum (da_cons (de_lc (g:=(.t [0,1])) (tc:=dTrue) (te:=(dOp _ (dOp dIx (dVar 0) (dC _)) (dVar 1))) (sc0:=defScope s_law_price) (N0:=["shop","buying","total","offers","some"]) ["offer","much"] [none,none] rfl (di_zip (by rfl) T.b_zip (da_cons (dv 3) (da_cons (dv 4) da_nil))) (fun _ _ _ _ _=>(pg_seq rfl (pgs_cons (pg_name (i:=0) (show (["offer","much"] : List Str).Nodup by decide +kernel) rfl (Or.inl rfl)) (pgs_cons (pg_name (i:=1) (show (["offer","much"] : List Str).Nodup by decide +kernel) rfl (Or.inl rfl)) pgs_nil)))) (fun _ _ _ _ _=>difs_nil) (fun _ _ _ _ _=>(de_op od_times (de_ix (dv 0) de_int) (dv 1)))) da_nil)) ip_add)))
      (dss_one (ds_ret (dv 2))))),fun ds Q h=>?_⟩
  obtain ⟨fs,ws,as,bs,rfl,nf,nw,pr,q⟩:=h
  repeat (first | dsimp only [dS,dA] | walk_at "rs1" | set_option simprocs false in simp only [ixk0,ixk1,ixk2,ixk3,ixk4,ex_at])
  refine ⟨trivial,?_⟩
  rw [show ∀ a b c d:D,zipD [a,b] [c,d] = [.tup [a,c],.tup [b,d]] from fun _ _ _ _=>rfl]
  refine forI_of ?_
  repeat (first | dsimp only [forR] | walk_at "rs1" | set_option simprocs false in simp only [ixk0,ixk1,ixk2,ixk3,ixk4,ex_at])
  have hz:∀ (os:List S3) (cs:List Int),os.length ≤ 900→(os.zip cs).length ≤ 1000000:=fun os cs h=>by rw [List.length_zip]; lia
  have hm:∀ p ∈ fs.zip as,0 ≤ p.1.2.1∧p.1.2.1 ≤ 1000000:=fun p h=>pr _ (List.mem_append_left _ (List.of_mem_zip h).1)
  have hm2:∀ p ∈ ws.zip bs,0 ≤ p.1.2.1∧p.1.2.1 ≤ 1000000:=fun p h=>pr _ (List.mem_append_right _ (List.of_mem_zip h).1)
  have em:∀ l:List (S3 × Int),l.map (fun x=>D.int (x.1.2.1 * x.2)) = (l.map fun x=>x.1.2.1 * x.2).map D.int:=fun l=>by rw [List.map_map]; rfl
  rw [zipD_map]
  refine lc_mapE (fun d=>match d with | .tup [.tup [_,.int p,_],.int a]=>.int (p * a) | d=>d) (fun x=>.int (x.1.2.1 * x.2)) (fun _ _=>rfl) (hz _ _ nf) (fun x hx=>?_) ?_
  · have:=hm x hx
    repeat (first | dsimp only [dO] | walk_at "rs1" | set_option simprocs false in simp only [ixk0,ixk1,ixk2,ixk3,ixk4,ex_at])
    exact ⟨mulL ⟨by lia,by lia⟩,trivial⟩
  rw [em]
  repeat (first | walk_at "rs1" | set_option simprocs false in simp only [ixk0,ixk1,ixk2,ixk3,ixk4,ex_at])
  refine dSum_mk ?_
  repeat (first | walk_at "rs1" | set_option simprocs false in simp only [ixk0,ixk1,ixk2,ixk3,ixk4,ex_at])
  rw [zipD_map]
  refine lc_mapE (fun d=>match d with | .tup [.tup [_,.int p,_],.int a]=>.int (p * a) | d=>d) (fun x=>.int (x.1.2.1 * x.2)) (fun _ _=>rfl) (hz _ _ nw) (fun x hx=>?_) ?_
  · have:=hm2 x hx
    repeat (first | dsimp only [dO] | walk_at "rs1" | set_option simprocs false in simp only [ixk0,ixk1,ixk2,ixk3,ixk4,ex_at])
    exact ⟨mulL ⟨by lia,by lia⟩,trivial⟩
  rw [em]
  repeat (first | walk_at "rs1" | set_option simprocs false in simp only [ixk0,ixk1,ixk2,ixk3,ixk4,ex_at])
  refine dSum_mk ?_
  repeat (first | walk_at "rs1" | set_option simprocs false in simp only [ixk0,ixk1,ixk2,ixk3,ixk4,ex_at])
  rw [Int.zero_add]
  exact q
theorem cutT {t1 u:DTS} {E:DEnds} {ρ:DEnv} (C:DEnv→Prop) (tail:∀ ρ,C ρ→u E ρ) (head:∀ N:DEnv→Prop,(∀ ρ,C ρ→N ρ)→t1 { E with nx:=N } ρ) : dSeq t1 u E ρ:=head _ tail
noncomputable def e36 (ns:List Int) (g:Int) (hs cs fs ws:List S3) (as bs:List Int) (r:DEnv) : DEnv:=some (B.p (D.scr ns)) :: some (B.p (dW g hs cs)) :: some (B.p (dS fs ws)) :: some (B.p (D.tup [dA as,dA bs])) :: r
theorem ok_law (T:Blt mg) (F_law_works:Fn P w K mg base "_law_works" 2 ["script"] (spD K r_law_works)) (F_law_shop:Fn P w K mg base "_law_shop" 3 ["works","script"] (spD K r_law_shop)) (F_cheapest:Fn P w K mg base "cheapest" 6 ["works","shop"] (spDT K Pt qnL r_cheapest)) (F_law_down:Fn P w K mg base "_law_down" 1 ["works","shop","buying"] (spD K r_law_down)) (F_law_worths:Fn P w K mg base "_law_worths" 2 ["works","shop","buying","flows","worths"] (spD K r_law_worths)) (F_will_do:Fn P w K mg base "will_do" 5 ["works","shop","buying"] (spD K r_will_do)) (F_price_of:Fn P w K mg base "price_of" 1 ["shop","buying"] (spD K r_price_of)) (F_law_price:Fn P w K mg base "_law_price" 1 ["shop","buying"] (spD K r_law_price)) (F_law_amounts:Fn P w K mg base "_law_amounts" 2 ["found","offers"] (spD K r_law_amounts)) (F:Fun K "law" "law" s_law f fd) : FnOk P w K mg base CX0 7 f fd ["script"] (spDT K Pt qnL r_law):=by
  refine okDT F sc_law (fun ds Q h=>by obtain ⟨ns,rfl,hl,q⟩:=h; rfl) fun cdv A outer s H E hr hT=>⟨_,(dss_cons (ds_setP (i:=1) sc_law.nd rfl (Or.inl rfl) (de_fn F_law_works (hr.mono (by decide)) (by rfl) (da_cons (dv 0) da_nil)))
      (dss_cons (ds_asg (g:=(.t [2,3])) (de_fn F_law_shop (hr.mono (by decide)) (by rfl) (da_cons (dv 1) (da_cons (dv 0) da_nil))) (pg_seq rfl (pgs_cons (pg_name (i:=2) sc_law.nd rfl (Or.inl rfl)) (pgs_cons (pg_name (i:=3) sc_law.nd rfl (Or.inl rfl)) pgs_nil))))
      (dss_cons (ds_if (dt_cmp od_notB (de_fn F_will_do (hr.mono (by decide)) (by rfl) (da_cons (dv 1) (da_cons (dv 2) (da_cons (de_tup (da_cons (de_callTy cd_list (by rfl) T.b_list PyProof.Rows.boot_list (da_cons (de_ix (dv 3) de_int) da_nil)) (da_cons (de_callTy cd_list (by rfl) T.b_list PyProof.Rows.boot_list (da_cons (de_ix (dv 3) de_int) da_nil)) da_nil))) da_nil)))) de_bl (nomark _)) (dss_one (ds_ret de_bl)) dss_nil)
      (dss_cons (ds_if (dt_cmp od_ne (de_fn F_price_of (hr.mono (by decide)) (by rfl) (da_cons (dv 2) (da_cons (dv 3) da_nil))) (de_fn F_law_price (hr.mono (by decide)) (by rfl) (da_cons (dv 2) (da_cons (dv 3) da_nil))) (nomark _)) (dss_one (ds_ret de_bl)) dss_nil)
      (dss_cons (ds_setP (i:=4) sc_law.nd rfl (Or.inl rfl) (de_fnT hT F_cheapest (hr.mono (by decide)) (by rfl) (da_cons (dv 1) (da_cons (de_tup (da_cons (de_callTy cd_list (by rfl) T.b_list PyProof.Rows.boot_list (da_cons (de_ix (dv 2) de_int) da_nil)) (da_cons (de_callTy cd_list (by rfl) T.b_list PyProof.Rows.boot_list (da_cons (de_ix (dv 2) de_int) da_nil)) da_nil))) da_nil))))
      (dss_cons (ds_if (dw_or (dt_not (dt_val (de_isi (T:="tuple") (by simp) (by rfl) T.b_isinstance (dv 4) (pe_bltn (v:=.ty "tuple") (by rfl) T.b_tuple PyProof.Rows.boot_tuple rfl)))) (dw_or (dt_cmp od_ne (de_callB cd_len (by rfl) T.b_len PySem.boot_len (da_cons (dv 4) da_nil)) de_int (nomark _)) (dw_or1 (dt_cmp od_ne (de_ix (dv 4) de_int) de_str (nomark _))))).dt (dss_one (ds_ret de_bl)) dss_nil)
      (dss_cons (ds_setP (i:=5) sc_law.nd rfl (Or.inl rfl) (de_ix (dv 4) de_int))
      (dss_cons (ds_if (dw_or (dt_not (dt_val (de_isi (T:="tuple") (by simp) (by rfl) T.b_isinstance (dv 5) (pe_bltn (v:=.ty "tuple") (by rfl) T.b_tuple PyProof.Rows.boot_tuple rfl)))) (dw_or1 (dt_cmp od_ne (de_callB cd_len (by rfl) T.b_len PySem.boot_len (da_cons (dv 5) da_nil)) de_int (nomark _)))).dt (dss_one (ds_ret de_bl)) dss_nil)
      (dss_cons (ds_if (dw_or (dt_not (dt_val (de_fn F_law_amounts (hr.mono (by decide)) (by rfl) (da_cons (de_ix (dv 5) de_int) (da_cons (de_ix (dv 2) de_int) da_nil))))) (dw_or1 (dt_not (dt_val (de_fn F_law_amounts (hr.mono (by decide)) (by rfl) (da_cons (de_ix (dv 5) de_int) (da_cons (de_ix (dv 2) de_int) da_nil))))))).dt (dss_one (ds_ret de_bl)) dss_nil)
      (dss_cons (ds_setP (i:=6) sc_law.nd rfl (Or.inl rfl) (de_fn F_law_down (hr.mono (by decide)) (by rfl) (da_cons (dv 1) (da_cons (dv 2) (da_cons (dv 5) da_nil)))))
      (dss_cons (ds_if (dw_or (dt_cmp od_lt (de_callB (cd_minL rfl) (by rfl) T.b_min PyProof.Rows.boot_min (da_cons (dv 6) da_nil)) de_int (nomark _)) (dw_or (dt_cmp od_ne (de_ix (dv 6) de_int) de_int (nomark _)) (dw_or (dt_cmp od_ne (de_ix (dv 4) de_int) (de_fn F_law_price (hr.mono (by decide)) (by rfl) (da_cons (dv 2) (da_cons (dv 5) da_nil))) (nomark _)) (dw_or1 (dt_cmp od_gt (de_ix (dv 4) de_int) (de_fn F_law_price (hr.mono (by decide)) (by rfl) (da_cons (dv 2) (da_cons (dv 3) da_nil))) (nomark _)))))).dt (dss_one (ds_ret de_bl)) dss_nil)
      (dss_one (ds_ret (de_fn F_law_worths (hr.mono (by decide)) (by rfl) (da_cons (dv 1) (da_cons (dv 2) (da_cons (dv 5) (da_cons (dv 6) (da_cons (de_ix (dv 4) de_int) da_nil))))))))))))))))))),fun ds Q h=>?_⟩
  obtain ⟨ns,rfl,hl,q⟩:=h
  refine cutT (fun ρ=>∃ g hs cs,Wk36 g hs cs∧ρ = [some (B.p (D.scr ns)),some (B.p (dW g hs cs)),none,none,none,none,none]) ?_ fun N hN=>?_
  rotate_left
  · repeat (first | walk_at "rs1" | set_option simprocs false in simp only [ixk0,ixk1,ixk2,ixk3,ixk4,ex_at])
    exact ⟨ns,rfl,fun g hs cs wk=>hN _ ⟨g,hs,cs,wk,rfl⟩⟩
  rintro ρ ⟨g,hs,cs,wk,rfl⟩
  have ok:=wk.ok
  refine cutT (fun ρ=>∃ fs ws as bs,Shop36 g hs cs fs ws as bs∧ρ = e36 ns g hs cs fs ws as bs [none,none,none]) ?_ fun N hN=>?_
  rotate_left
  · repeat (first | walk_at "rs1" | set_option simprocs false in simp only [ixk0,ixk1,ixk2,ixk3,ixk4,ex_at])
    exact ⟨g,hs,cs,ns,rfl,wk,fun fs ws as bs sh=>hN _ ⟨fs,ws,as,bs,sh,rfl⟩⟩
  rintro ρ ⟨fs,ws,as,bs,sh,rfl⟩
  have nf:=sh.nf
  have nw:=sh.nw
  have fe:=sh.fe
  refine cutT (fun ρ=>ρ = e36 ns g hs cs fs ws as bs [none,none,none]) ?_ fun N hN=>?_
  rotate_left
  · repeat (first | dsimp only [e36,dS,dA] | walk_at "rs1" | set_option simprocs false in simp only [ixk0,ixk1,ixk2,ixk3,ixk4,ex_at])
    refine ⟨g,hs,cs,fs,ws,as,bs,rfl,ok,by lia,by lia,fun c hc=>?_⟩
    have ec:c = true:=hc.mpr ⟨fe.sur,fe.sur0⟩
    subst ec
    repeat (first | walk_at "rs1" | set_option simprocs false in simp only [ixk0,ixk1,ixk2,ixk3,ixk4,ex_at])
    simp only [decide_true,decide_false,Bool.not_true,Bool.not_false,Bool.false_eq_true,Bool.true_eq_false,false_implies,true_implies,and_true,true_and,forall_const]
    exact hN _ rfl
  rintro ρ rfl
  refine cutT (fun ρ=>ρ = e36 ns g hs cs fs ws as bs [none,none,none]) ?_ fun N hN=>?_
  rotate_left
  · repeat (first | dsimp only [e36] | walk_at "rs1" | set_option simprocs false in simp only [ixk0,ixk1,ixk2,ixk3,ixk4,ex_at])
    refine ⟨fs,ws,as,bs,rfl,by lia,by lia,fe.la,fe.lb,sh.pr,?_⟩
    repeat (first | walk_at "rs1" | set_option simprocs false in simp only [ixk0,ixk1,ixk2,ixk3,ixk4,ex_at])
    refine ⟨fs,ws,as,bs,rfl,by lia,by lia,sh.pr,?_⟩
    repeat (first | walk_at "rs1" | set_option simprocs false in simp only [ixk0,ixk1,ixk2,ixk3,ixk4,ex_at])
    simp only [decide_true,decide_false,Bool.not_true,Bool.not_false,Bool.false_eq_true,Bool.true_eq_false,false_implies,true_implies,and_true,true_and,forall_const]
    exact hN _ rfl
  rintro ρ rfl
  refine cutT (fun ρ=>∃ as' bs' V,Good g hs cs fs ws as' bs' V∧ρ = e36 ns g hs cs fs ws as bs [some (B.p (dBought as' bs' (priceF fs as' + priceF ws bs') V)),none,none]) ?_ fun N hN=>?_
  rotate_left
  · repeat (first | dsimp only [e36,dS,dA] | walk_at "rs1" | set_option simprocs false in simp only [ixk0,ixk1,ixk2,ixk3,ixk4,ex_at])
    refine ⟨g,hs,cs,fs,ws,rfl,ok,by lia,by lia,sh.pr,fun d hd=>?_⟩
    rcases cheap_good ok sh.oi sh.m0 hd with ⟨k,L,hs',_⟩ | ⟨_,as',bs',V,rfl,gd⟩
    · rcases short_ns hs' with ⟨e,_⟩ | ⟨_,e⟩
      · cases e
      · exact absurd (feas_ns fe) e
    exact hN _ ⟨as',bs',V,gd,rfl⟩
  rintro ρ ⟨as',bs',V,gd,rfl⟩
  refine cutT (fun ρ=>ρ = e36 ns g hs cs fs ws as bs [some (B.p (dBought as' bs' (priceF fs as' + priceF ws bs') V)),none,none]) ?_ fun N hN=>?_
  rotate_left
  · repeat (first | dsimp only [e36,dBought] | walk_at "rs1" | set_option simprocs false in simp only [ixk0,ixk1,ixk2,ixk3,ixk4,ex_at])
    simp only [decide_true,decide_false,Bool.not_true,Bool.not_false,Bool.false_eq_true,Bool.true_eq_false,false_implies,true_implies,and_true,true_and,forall_const]
    exact ⟨fun z=>(nomatch (show false = true from z)),fun _=>⟨fun z=>(nomatch (show false = true from z)),fun _=>hN _ rfl⟩⟩
  rintro ρ rfl
  refine cutT (fun ρ=>ρ = e36 ns g hs cs fs ws as bs [some (B.p (dBought as' bs' (priceF fs as' + priceF ws bs') V)),some (B.p (D.tup [dA as',dA bs'])),none]) ?_ fun N hN=>?_
  rotate_left
  · repeat (first | dsimp only [e36,dBought] | walk_at "rs1" | set_option simprocs false in simp only [ixk0,ixk1,ixk2,ixk3,ixk4,ex_at])
    exact hN _ rfl
  rintro ρ rfl
  refine cutT (fun ρ=>ρ = e36 ns g hs cs fs ws as bs [some (B.p (dBought as' bs' (priceF fs as' + priceF ws bs') V)),some (B.p (D.tup [dA as',dA bs'])),none]) ?_ fun N hN=>?_
  rotate_left
  · repeat (first | dsimp only [e36] | walk_at "rs1" | set_option simprocs false in simp only [ixk0,ixk1,ixk2,ixk3,ixk4,ex_at])
    simp only [decide_true,decide_false,Bool.not_true,Bool.not_false,Bool.false_eq_true,Bool.true_eq_false,false_implies,true_implies,and_true,true_and,forall_const]
    exact ⟨fun z=>(nomatch (show false = true from z)),fun _=>⟨fun z=>(nomatch (show false = true from z)),fun _=>hN _ rfl⟩⟩
  rintro ρ rfl
  refine cutT (fun ρ=>ρ = e36 ns g hs cs fs ws as bs [some (B.p (dBought as' bs' (priceF fs as' + priceF ws bs') V)),some (B.p (D.tup [dA as',dA bs'])),none]) ?_ fun N hN=>?_
  rotate_left
  · repeat (first | dsimp only [e36,dS] | walk_at "rs1" | set_option simprocs false in simp only [ixk0,ixk1,ixk2,ixk3,ixk4,ex_at])
    refine ⟨as',fs,rfl,gd.la,gd.a0,?_⟩
    repeat (first | walk_at "rs1" | set_option simprocs false in simp only [ixk0,ixk1,ixk2,ixk3,ixk4,ex_at])
    refine ⟨fun z=>(nomatch (show false = true from z)),fun _=>?_⟩
    refine ⟨bs',ws,rfl,gd.lb,gd.b0,?_⟩
    repeat (first | walk_at "rs1" | set_option simprocs false in simp only [ixk0,ixk1,ixk2,ixk3,ixk4,ex_at])
    exact ⟨fun z=>(nomatch (show false = true from z)),fun _=>hN _ rfl⟩
  rintro ρ rfl
  refine cutT (fun ρ=>ρ = e36 ns g hs cs fs ws as bs [some (B.p (dBought as' bs' (priceF fs as' + priceF ws bs') V)),some (B.p (D.tup [dA as',dA bs'])),some (B.p (D.lst ((surL g hs cs fs ws as' bs').map D.int)))]) ?_ fun N hN=>?_
  rotate_left
  · repeat (first | dsimp only [e36] | walk_at "rs1" | set_option simprocs false in simp only [ixk0,ixk1,ixk2,ixk3,ixk4,ex_at])
    exact ⟨g,hs,cs,fs,ws,as',bs',_,rfl,bu_tup _ _,ok,sh.oi,hN _ rfl⟩
  rintro ρ rfl
  have mem:∀ i:Nat,i < 251→surF g hs cs fs ws as' bs' (i:Nat) ∈ surL g hs cs fs ws as' bs':=fun i hi=>List.mem_map.mpr ⟨i,List.mem_range.mpr hi,rfl⟩
  have es:atI ((surL g hs cs fs ws as' bs').map D.int) 0 = some (.int (surF g hs cs fs ws as' bs' 0)):=sur_at (i:=0) (by decide)
  repeat (first | dsimp only [e36,dBought] | walk_at "rs1" | set_option simprocs false in simp only [ixk0,ixk1,ixk2,ixk3,ixk4,ex_at,es])
  refine ⟨surL g hs cs fs ws as' bs',rfl,fun e=>(by have:=mem 0 (by decide); rw [e] at this; cases this),fun m hm hle=>?_⟩
  repeat (first | walk_at "rs1" | set_option simprocs false in simp only [ixk0,ixk1,ixk2,ixk3,ixk4,ex_at,es])
  refine ⟨fun z=>?_,fun _=>⟨fun z=>?_,fun _=>?_⟩⟩
  · have hz:=of_decide_eq_true z
    obtain ⟨i,hi,e⟩:=List.mem_map.mp hm
    have:=gd.sur i (List.mem_range.mp hi)
    lia
  · rw [gd.sur0] at z
    exact absurd z (by decide)
  refine ⟨fs,ws,as',bs',rfl,by lia,by lia,sh.pr,?_⟩
  repeat (first | walk_at "rs1" | set_option simprocs false in simp only [ixk0,ixk1,ixk2,ixk3,ixk4,ex_at])
  simp only [decide_true,decide_false,Bool.not_true,Bool.not_false,Bool.false_eq_true,Bool.true_eq_false,false_implies,true_implies,and_true,true_and,forall_const]
  refine ⟨fs,ws,as,bs,rfl,by lia,by lia,sh.pr,?_⟩
  have nc:=none_cheaper ok sh.oi gd fe
  repeat (first | walk_at "rs1" | set_option simprocs false in simp only [ixk0,ixk1,ixk2,ixk3,ixk4,ex_at])
  refine ⟨fun z=>?_,fun _=>?_⟩
  · have:=of_decide_eq_true z
    lia
  exact ⟨g,hs,cs,fs,ws,as',bs',V,rfl,ok,sh.oi,gd,q⟩
end
end WS
namespace WS
open PySem L2 DL
theorem of_len1 {α:Type} {P:List α→Prop} (h:∀ x0,P [x0]) : ∀ us:List α,us.length = 1→P us:=fun us hl=>match us,hl with | [x0],_=>h x0
theorem of_len2 {α:Type} {P:List α→Prop} (h:∀ x0 x1,P [x0,x1]) : ∀ us:List α,us.length = 2→P us:=fun us hl=>match us,hl with | [x0,x1],_=>h x0 x1
theorem of_len3 {α:Type} {P:List α→Prop} (h:∀ x0 x1 x2,P [x0,x1,x2]) : ∀ us:List α,us.length = 3→P us:=fun us hl=>match us,hl with | [x0,x1,x2],_=>h x0 x1 x2
theorem of_len4 {α:Type} {P:List α→Prop} (h:∀ x0 x1 x2 x3,P [x0,x1,x2,x3]) : ∀ us:List α,us.length = 4→P us:=fun us hl=>match us,hl with | [x0,x1,x2,x3],_=>h x0 x1 x2 x3
theorem of_len5 {α:Type} {P:List α→Prop} (h:∀ x0 x1 x2 x3 x4,P [x0,x1,x2,x3,x4]) : ∀ us:List α,us.length = 5→P us:=fun us hl=>match us,hl with | [x0,x1,x2,x3,x4],_=>h x0 x1 x2 x3 x4
theorem all_mk {l:PySem.W.OpenLaw} {w:World} {K:PySem.W.Frag} {h:Heap} {mg:Str→Option Value} {fa:Addr} (X:K.In h) (G:h.Ns mainGlobals mg) (hfa:mg "law" = some (.ref fa))
    {f1:Addr} {od1 an1:Option Addr} {sl1:Array (Option Value)} {oc1 kV1 dc1 pm1 cd1 ct1:Value}
    {f2:Addr} {od2 an2:Option Addr} {sl2:Array (Option Value)} {oc2 kV2 dc2 pm2 cd2 ct2:Value}
    {f3:Addr} {od3 an3:Option Addr} {sl3:Array (Option Value)} {oc3 kV3 dc3 pm3 cd3 ct3:Value}
    {f4:Addr} {od4 an4:Option Addr} {sl4:Array (Option Value)} {oc4 kV4 dc4 pm4 cd4 ct4:Value}
    {f5:Addr} {od5 an5:Option Addr} {sl5:Array (Option Value)} {oc5 kV5 dc5 pm5 cd5 ct5:Value}
    {f6:Addr} {od6 an6:Option Addr} {sl6:Array (Option Value)} {oc6 kV6 dc6 pm6 cd6 ct6:Value}
    {f7:Addr} {od7 an7:Option Addr} {sl7:Array (Option Value)} {oc7 kV7 dc7 pm7 cd7 ct7:Value}
    {f8:Addr} {od8 an8:Option Addr} {sl8:Array (Option Value)} {oc8 kV8 dc8 pm8 cd8 ct8:Value}
    {f9:Addr} {od9 an9:Option Addr} {sl9:Array (Option Value)} {oc9 kV9 dc9 pm9 cd9 ct9:Value}
    {f10:Addr} {od10 an10:Option Addr} {sl10:Array (Option Value)} {oc10 kV10 dc10 pm10 cd10 ct10:Value}
    {f11:Addr} {od11 an11:Option Addr} {sl11:Array (Option Value)} {oc11 kV11 dc11 pm11 cd11 ct11:Value}
    {f12:Addr} {od12 an12:Option Addr} {sl12:Array (Option Value)} {oc12 kV12 dc12 pm12 cd12 ct12:Value}
    {f13:Addr} {od13 an13:Option Addr} {sl13:Array (Option Value)} {oc13 kV13 dc13 pm13 cd13 ct13:Value}
    {f14:Addr} {od14 an14:Option Addr} {sl14:Array (Option Value)} {oc14 kV14 dc14 pm14 cd14 ct14:Value}
    {f15:Addr} {od15 an15:Option Addr} {sl15:Array (Option Value)} {oc15 kV15 dc15 pm15 cd15 ct15:Value}
    {f16:Addr} {od16 an16:Option Addr} {sl16:Array (Option Value)} {oc16 kV16 dc16 pm16 cd16 ct16:Value}
    {f17:Addr} {od17 an17:Option Addr} {sl17:Array (Option Value)} {oc17 kV17 dc17 pm17 cd17 ct17:Value}
    {f18:Addr} {od18 an18:Option Addr} {sl18:Array (Option Value)} {oc18 kV18 dc18 pm18 cd18 ct18:Value}
    {f19:Addr} {od19 an19:Option Addr} {sl19:Array (Option Value)} {oc19 kV19 dc19 pm19 cd19 ct19:Value}
    {f20:Addr} {od20 an20:Option Addr} {sl20:Array (Option Value)} {oc20 kV20 dc20 pm20 cd20 ct20:Value}
    {f21:Addr} {od21 an21:Option Addr} {sl21:Array (Option Value)} {oc21 kV21 dc21 pm21 cd21 ct21:Value}
    {f22:Addr} {od22 an22:Option Addr} {sl22:Array (Option Value)} {oc22 kV22 dc22 pm22 cd22 ct22:Value}
    {f23:Addr} {od23 an23:Option Addr} {sl23:Array (Option Value)} {oc23 kV23 dc23 pm23 cd23 ct23:Value}
    {f24:Addr} {od24 an24:Option Addr} {sl24:Array (Option Value)} {oc24 kV24 dc24 pm24 cd24 ct24:Value}
    {f25:Addr} {od25 an25:Option Addr} {sl25:Array (Option Value)} {oc25 kV25 dc25 pm25 cd25 ct25:Value}
    {f26:Addr} {od26 an26:Option Addr} {sl26:Array (Option Value)} {oc26 kV26 dc26 pm26 cd26 ct26:Value}
    {f27:Addr} {od27 an27:Option Addr} {sl27:Array (Option Value)} {oc27 kV27 dc27 pm27 cd27 ct27:Value}
    {f28:Addr} {od28 an28:Option Addr} {sl28:Array (Option Value)} {oc28 kV28 dc28 pm28 cd28 ct28:Value}
    {f29:Addr} {od29 an29:Option Addr} {sl29:Array (Option Value)} {oc29 kV29 dc29 pm29 cd29 ct29:Value}
    {f30:Addr} {od30 an30:Option Addr} {sl30:Array (Option Value)} {oc30 kV30 dc30 pm30 cd30 ct30:Value}
    {f31:Addr} {od31 an31:Option Addr} {sl31:Array (Option Value)} {oc31 kV31 dc31 pm31 cd31 ct31:Value}
    {f32:Addr} {od32 an32:Option Addr} {sl32:Array (Option Value)} {oc32 kV32 dc32 pm32 cd32 ct32:Value}
    {f33:Addr} {od33 an33:Option Addr} {sl33:Array (Option Value)} {oc33 kV33 dc33 pm33 cd33 ct33:Value}
    {f34:Addr} {od34 an34:Option Addr} {sl34:Array (Option Value)} {oc34 kV34 dc34 pm34 cd34 ct34:Value}
    {tk1:Tok}
    {Pt mc:Addr}
    (a1:PySem.W.nsIn K mainGlobals "_law_cell_at" = some (some (.ref f1))) (l1:K.lookup f1 = some ⟨oc1,od1,.func (PySem.W.fnOf "_law_cell_at" "_law_cell_at" (defArgs s_law_cell_at) (defBody s_law_cell_at) (defScope s_law_cell_at) .none kV1 dc1 pm1 an1 cd1 ct1),sl1⟩) (c1:PySem.W.codeIn K cd1 "_law_cell_at" = true) (k1:PySem.W.keepIn K (.ref f1) = true)
    (a2:PySem.W.nsIn K mainGlobals "_law_mixed" = some (some (.ref f2))) (l2:K.lookup f2 = some ⟨oc2,od2,.func (PySem.W.fnOf "_law_mixed" "_law_mixed" (defArgs s_law_mixed) (defBody s_law_mixed) (defScope s_law_mixed) .none kV2 dc2 pm2 an2 cd2 ct2),sl2⟩) (c2:PySem.W.codeIn K cd2 "_law_mixed" = true) (k2:PySem.W.keepIn K (.ref f2) = true)
    (a3:PySem.W.nsIn K mainGlobals "_law_rate" = some (some (.ref f3))) (l3:K.lookup f3 = some ⟨oc3,od3,.func (PySem.W.fnOf "_law_rate" "_law_rate" (defArgs s_law_rate) (defBody s_law_rate) (defScope s_law_rate) .none kV3 dc3 pm3 an3 cd3 ct3),sl3⟩) (c3:PySem.W.codeIn K cd3 "_law_rate" = true) (k3:PySem.W.keepIn K (.ref f3) = true)
    (a4:PySem.W.nsIn K mainGlobals "_law_works" = some (some (.ref f4))) (l4:K.lookup f4 = some ⟨oc4,od4,.func (PySem.W.fnOf "_law_works" "_law_works" (defArgs s_law_works) (defBody s_law_works) (defScope s_law_works) .none kV4 dc4 pm4 an4 cd4 ct4),sl4⟩) (c4:PySem.W.codeIn K cd4 "_law_works" = true) (k4:PySem.W.keepIn K (.ref f4) = true)
    (a5:PySem.W.nsIn K mainGlobals "_law_steps" = some (some (.ref f5))) (l5:K.lookup f5 = some ⟨oc5,od5,.func (PySem.W.fnOf "_law_steps" "_law_steps" (defArgs s_law_steps) (defBody s_law_steps) (defScope s_law_steps) .none kV5 dc5 pm5 an5 cd5 ct5),sl5⟩) (c5:PySem.W.codeIn K cd5 "_law_steps" = true) (k5:PySem.W.keepIn K (.ref f5) = true)
    (a6:PySem.W.nsIn K mainGlobals "_law_needs" = some (some (.ref f6))) (l6:K.lookup f6 = some ⟨oc6,od6,.func (PySem.W.fnOf "_law_needs" "_law_needs" (defArgs s_law_needs) (defBody s_law_needs) (defScope s_law_needs) .none kV6 dc6 pm6 an6 cd6 ct6),sl6⟩) (c6:PySem.W.codeIn K cd6 "_law_needs" = true) (k6:PySem.W.keepIn K (.ref f6) = true)
    (a7:PySem.W.nsIn K mainGlobals "_law_offers" = some (some (.ref f7))) (l7:K.lookup f7 = some ⟨oc7,od7,.func (PySem.W.fnOf "_law_offers" "_law_offers" (defArgs s_law_offers) (defBody s_law_offers) (defScope s_law_offers) .none kV7 dc7 pm7 an7 cd7 ct7),sl7⟩) (c7:PySem.W.codeIn K cd7 "_law_offers" = true) (k7:PySem.W.keepIn K (.ref f7) = true)
    (a8:PySem.W.nsIn K mainGlobals "_law_shop" = some (some (.ref f8))) (l8:K.lookup f8 = some ⟨oc8,od8,.func (PySem.W.fnOf "_law_shop" "_law_shop" (defArgs s_law_shop) (defBody s_law_shop) (defScope s_law_shop) .none kV8 dc8 pm8 an8 cd8 ct8),sl8⟩) (c8:PySem.W.codeIn K cd8 "_law_shop" = true) (k8:PySem.W.keepIn K (.ref f8) = true)
    (a9:PySem.W.nsIn K mainGlobals "heat_above" = some (some (.ref f9))) (l9:K.lookup f9 = some ⟨oc9,od9,.func (PySem.W.fnOf "heat_above" "heat_above" (defArgs s_heat_above) (defBody s_heat_above) (defScope s_heat_above) .none kV9 dc9 pm9 an9 cd9 ct9),sl9⟩) (c9:PySem.W.codeIn K cd9 "heat_above" = true) (k9:PySem.W.keepIn K (.ref f9) = true)
    (a10:PySem.W.nsIn K mainGlobals "cold_bands" = some (some (.ref f10))) (l10:K.lookup f10 = some ⟨oc10,od10,.func (PySem.W.fnOf "cold_bands" "cold_bands" (defArgs s_cold_bands) (defBody s_cold_bands) (defScope s_cold_bands) .none kV10 dc10 pm10 an10 cd10 ct10),sl10⟩) (c10:PySem.W.codeIn K cd10 "cold_bands" = true) (k10:PySem.W.keepIn K (.ref f10) = true)
    (a11:PySem.W.nsIn K mainGlobals "hot_bands" = some (some (.ref f11))) (l11:K.lookup f11 = some ⟨oc11,od11,.func (PySem.W.fnOf "hot_bands" "hot_bands" (defArgs s_hot_bands) (defBody s_hot_bands) (defScope s_hot_bands) .none kV11 dc11 pm11 an11 cd11 ct11),sl11⟩) (c11:PySem.W.codeIn K cd11 "hot_bands" = true) (k11:PySem.W.keepIn K (.ref f11) = true)
    (a12:PySem.W.nsIn K mainGlobals "lack_above" = some (some (.ref f12))) (l12:K.lookup f12 = some ⟨oc12,od12,.func (PySem.W.fnOf "lack_above" "lack_above" (defArgs s_lack_above) (defBody s_lack_above) (defScope s_lack_above) .none kV12 dc12 pm12 an12 cd12 ct12),sl12⟩) (c12:PySem.W.codeIn K cd12 "lack_above" = true) (k12:PySem.W.keepIn K (.ref f12) = true)
    (a13:PySem.W.nsIn K mainGlobals "lacks_above" = some (some (.ref f13))) (l13:K.lookup f13 = some ⟨oc13,od13,.func (PySem.W.fnOf "lacks_above" "lacks_above" (defArgs s_lacks_above) (defBody s_lacks_above) (defScope s_lacks_above) .none kV13 dc13 pm13 an13 cd13 ct13),sl13⟩) (c13:PySem.W.codeIn K cd13 "lacks_above" = true) (k13:PySem.W.keepIn K (.ref f13) = true)
    (a14:PySem.W.nsIn K mainGlobals "fire_levels" = some (some (.ref f14))) (l14:K.lookup f14 = some ⟨oc14,od14,.func (PySem.W.fnOf "fire_levels" "fire_levels" (defArgs s_fire_levels) (defBody s_fire_levels) (defScope s_fire_levels) .none kV14 dc14 pm14 an14 cd14 ct14),sl14⟩) (c14:PySem.W.codeIn K cd14 "fire_levels" = true) (k14:PySem.W.keepIn K (.ref f14) = true)
    (a15:PySem.W.nsIn K mainGlobals "water_levels" = some (some (.ref f15))) (l15:K.lookup f15 = some ⟨oc15,od15,.func (PySem.W.fnOf "water_levels" "water_levels" (defArgs s_water_levels) (defBody s_water_levels) (defScope s_water_levels) .none kV15 dc15 pm15 an15 cd15 ct15),sl15⟩) (c15:PySem.W.codeIn K cd15 "water_levels" = true) (k15:PySem.W.keepIn K (.ref f15) = true)
    (a16:PySem.W.nsIn K mainGlobals "amount_above" = some (some (.ref f16))) (l16:K.lookup f16 = some ⟨oc16,od16,.func (PySem.W.fnOf "amount_above" "amount_above" (defArgs s_amount_above) (defBody s_amount_above) (defScope s_amount_above) .none kV16 dc16 pm16 an16 cd16 ct16),sl16⟩) (c16:PySem.W.codeIn K cd16 "amount_above" = true) (k16:PySem.W.keepIn K (.ref f16) = true)
    (a17:PySem.W.nsIn K mainGlobals "surpluses_above" = some (some (.ref f17))) (l17:K.lookup f17 = some ⟨oc17,od17,.func (PySem.W.fnOf "surpluses_above" "surpluses_above" (defArgs s_surpluses_above) (defBody s_surpluses_above) (defScope s_surpluses_above) .none kV17 dc17 pm17 an17 cd17 ct17),sl17⟩) (c17:PySem.W.codeIn K cd17 "surpluses_above" = true) (k17:PySem.W.keepIn K (.ref f17) = true)
    (a18:PySem.W.nsIn K mainGlobals "mosts" = some (some (.ref f18))) (l18:K.lookup f18 = some ⟨oc18,od18,.func (PySem.W.fnOf "mosts" "mosts" (defArgs s_mosts) (defBody s_mosts) (defScope s_mosts) .none kV18 dc18 pm18 an18 cd18 ct18),sl18⟩) (c18:PySem.W.codeIn K cd18 "mosts" = true) (k18:PySem.W.keepIn K (.ref f18) = true)
    (a19:PySem.W.nsIn K mainGlobals "nothing" = some (some (.ref f19))) (l19:K.lookup f19 = some ⟨oc19,od19,.func (PySem.W.fnOf "nothing" "nothing" (defArgs s_nothing) (defBody s_nothing) (defScope s_nothing) .none kV19 dc19 pm19 an19 cd19 ct19),sl19⟩) (c19:PySem.W.codeIn K cd19 "nothing" = true) (k19:PySem.W.keepIn K (.ref f19) = true)
    (a20:PySem.W.nsIn K mainGlobals "shortage" = some (some (.ref f20))) (l20:K.lookup f20 = some ⟨oc20,od20,.func (PySem.W.fnOf "shortage" "shortage" (defArgs s_shortage) (defBody s_shortage) (defScope s_shortage) .none kV20 dc20 pm20 an20 cd20 ct20),sl20⟩) (c20:PySem.W.codeIn K cd20 "shortage" = true) (k20:PySem.W.keepIn K (.ref f20) = true)
    (a21:PySem.W.nsIn K mainGlobals "lots_of" = some (some (.ref f21))) (l21:K.lookup f21 = some ⟨oc21,od21,.func (PySem.W.fnOf "lots_of" "lots_of" (defArgs s_lots_of) (defBody s_lots_of) (defScope s_lots_of) .none kV21 dc21 pm21 an21 cd21 ct21),sl21⟩) (c21:PySem.W.codeIn K cd21 "lots_of" = true) (k21:PySem.W.keepIn K (.ref f21) = true)
    (a22:PySem.W.nsIn K mainGlobals "drawn_of" = some (some (.ref f22))) (l22:K.lookup f22 = some ⟨oc22,od22,.func (PySem.W.fnOf "drawn_of" "drawn_of" (defArgs s_drawn_of) (defBody s_drawn_of) (defScope s_drawn_of) .none kV22 dc22 pm22 an22 cd22 ct22),sl22⟩) (c22:PySem.W.codeIn K cd22 "drawn_of" = true) (k22:PySem.W.keepIn K (.ref f22) = true)
    (a23:PySem.W.nsIn K mainGlobals "buying_of" = some (some (.ref f23))) (l23:K.lookup f23 = some ⟨oc23,od23,.func (PySem.W.fnOf "buying_of" "buying_of" (defArgs s_buying_of) (defBody s_buying_of) (defScope s_buying_of) .none kV23 dc23 pm23 an23 cd23 ct23),sl23⟩) (c23:PySem.W.codeIn K cd23 "buying_of" = true) (k23:PySem.W.keepIn K (.ref f23) = true)
    (a24:PySem.W.nsIn K mainGlobals "worths_of" = some (some (.ref f24))) (l24:K.lookup f24 = some ⟨oc24,od24,.func (PySem.W.fnOf "worths_of" "worths_of" (defArgs s_worths_of) (defBody s_worths_of) (defScope s_worths_of) .none kV24 dc24 pm24 an24 cd24 ct24),sl24⟩) (c24:PySem.W.codeIn K cd24 "worths_of" = true) (k24:PySem.W.keepIn K (.ref f24) = true)
    (a25:PySem.W.nsIn K mainGlobals "price_of" = some (some (.ref f25))) (l25:K.lookup f25 = some ⟨oc25,od25,.func (PySem.W.fnOf "price_of" "price_of" (defArgs s_price_of) (defBody s_price_of) (defScope s_price_of) .none kV25 dc25 pm25 an25 cd25 ct25),sl25⟩) (c25:PySem.W.codeIn K cd25 "price_of" = true) (k25:PySem.W.keepIn K (.ref f25) = true)
    (a26:PySem.W.nsIn K mainGlobals "cheapest" = some (some (.ref f26))) (l26:K.lookup f26 = some ⟨oc26,od26,.func (PySem.W.fnOf "cheapest" "cheapest" (defArgs s_cheapest) (defBody s_cheapest) (defScope s_cheapest) .none kV26 dc26 pm26 an26 cd26 ct26),sl26⟩) (c26:PySem.W.codeIn K cd26 "cheapest" = true) (k26:PySem.W.keepIn K (.ref f26) = true)
    (a27:PySem.W.nsIn K mainGlobals "_law_down" = some (some (.ref f27))) (l27:K.lookup f27 = some ⟨oc27,od27,.func (PySem.W.fnOf "_law_down" "_law_down" (defArgs s_law_down) (defBody s_law_down) (defScope s_law_down) .none kV27 dc27 pm27 an27 cd27 ct27),sl27⟩) (c27:PySem.W.codeIn K cd27 "_law_down" = true) (k27:PySem.W.keepIn K (.ref f27) = true)
    (a28:PySem.W.nsIn K mainGlobals "_law_whole" = some (some (.ref f28))) (l28:K.lookup f28 = some ⟨oc28,od28,.func (PySem.W.fnOf "_law_whole" "_law_whole" (defArgs s_law_whole) (defBody s_law_whole) (defScope s_law_whole) .none kV28 dc28 pm28 an28 cd28 ct28),sl28⟩) (c28:PySem.W.codeIn K cd28 "_law_whole" = true) (k28:PySem.W.keepIn K (.ref f28) = true)
    (a29:PySem.W.nsIn K mainGlobals "_law_fits" = some (some (.ref f29))) (l29:K.lookup f29 = some ⟨oc29,od29,.func (PySem.W.fnOf "_law_fits" "_law_fits" (defArgs s_law_fits) (defBody s_law_fits) (defScope s_law_fits) .none kV29 dc29 pm29 an29 cd29 ct29),sl29⟩) (c29:PySem.W.codeIn K cd29 "_law_fits" = true) (k29:PySem.W.keepIn K (.ref f29) = true)
    (a30:PySem.W.nsIn K mainGlobals "_law_worths" = some (some (.ref f30))) (l30:K.lookup f30 = some ⟨oc30,od30,.func (PySem.W.fnOf "_law_worths" "_law_worths" (defArgs s_law_worths) (defBody s_law_worths) (defScope s_law_worths) .none kV30 dc30 pm30 an30 cd30 ct30),sl30⟩) (c30:PySem.W.codeIn K cd30 "_law_worths" = true) (k30:PySem.W.keepIn K (.ref f30) = true)
    (a31:PySem.W.nsIn K mainGlobals "will_do" = some (some (.ref f31))) (l31:K.lookup f31 = some ⟨oc31,od31,.func (PySem.W.fnOf "will_do" "will_do" (defArgs s_will_do) (defBody s_will_do) (defScope s_will_do) .none kV31 dc31 pm31 an31 cd31 ct31),sl31⟩) (c31:PySem.W.codeIn K cd31 "will_do" = true) (k31:PySem.W.keepIn K (.ref f31) = true)
    (a32:PySem.W.nsIn K mainGlobals "_law_price" = some (some (.ref f32))) (l32:K.lookup f32 = some ⟨oc32,od32,.func (PySem.W.fnOf "_law_price" "_law_price" (defArgs s_law_price) (defBody s_law_price) (defScope s_law_price) .none kV32 dc32 pm32 an32 cd32 ct32),sl32⟩) (c32:PySem.W.codeIn K cd32 "_law_price" = true) (k32:PySem.W.keepIn K (.ref f32) = true)
    (a33:PySem.W.nsIn K mainGlobals "_law_amounts" = some (some (.ref f33))) (l33:K.lookup f33 = some ⟨oc33,od33,.func (PySem.W.fnOf "_law_amounts" "_law_amounts" (defArgs s_law_amounts) (defBody s_law_amounts) (defScope s_law_amounts) .none kV33 dc33 pm33 an33 cd33 ct33),sl33⟩) (c33:PySem.W.codeIn K cd33 "_law_amounts" = true) (k33:PySem.W.keepIn K (.ref f33) = true)
    (a34:PySem.W.nsIn K mainGlobals "law" = some (some (.ref f34))) (l34:K.lookup f34 = some ⟨oc34,od34,.func (PySem.W.fnOf "law" "law" (defArgs s_law) (defBody s_law) (defScope s_law) .none kV34 dc34 pm34 an34 cd34 ct34),sl34⟩) (c34:PySem.W.codeIn K cd34 "law" = true) (k34:PySem.W.keepIn K (.ref f34) = true)
    (z1:PySem.W.nsIn K mainGlobals "len" = some none)
    (z2:PySem.W.nsIn K mainGlobals "sum" = some none)
    (z3:PySem.W.nsIn K mainGlobals "range" = some none)
    (z4:PySem.W.nsIn K mainGlobals "int" = some none)
    (z5:PySem.W.nsIn K mainGlobals "sorted" = some none)
    (z6:PySem.W.nsIn K mainGlobals "min" = some none)
    (z7:PySem.W.nsIn K mainGlobals "max" = some none)
    (z8:PySem.W.nsIn K mainGlobals "list" = some none)
    (z9:PySem.W.nsIn K mainGlobals "zip" = some none)
    (z10:PySem.W.nsIn K mainGlobals "enumerate" = some none)
    (z11:PySem.W.nsIn K mainGlobals "reversed" = some none)
    (z12:PySem.W.nsIn K mainGlobals "isinstance" = some none)
    (z13:PySem.W.nsIn K mainGlobals "bool" = some none)
    (z14:PySem.W.nsIn K mainGlobals "tuple" = some none)
    (y1:PySem.W.nsIn K mainGlobals "LEVELS" = some (some (.int 250 tk1)))
    (m1:cd22 = .ref mc) (m2:PySem.W.codeHdIn K mc Pt = true) (m3:K.lookup Pt = none)
    : ∃ (fd:FuncData) (c:Addr),K.lookup Pt = none∧PySem.W.codeHdIn K c Pt = true∧(∀ (s:Shared) (v:Value),BindsTo s fd ⟨[v],[]⟩ [("script",v)])∧∀ base:Heap,K.In base→base.Ns mainGlobals mg→BltAt mg base→FnOk l.prog w K mg base CX0 7 fa fd ["script"] (spLawT K Pt qnL):=by
  have e:=hfa.symm.trans (PySem.W.mg_of X G a34)
  cases e
  have F1:=fun_mk (st:=s_law_cell_at) l1 c1 k1
  have b1:=F1.binds (ps:=["script","k"]) fun _ _ _ _ _ _=>of_len2 fun _ _=>rfl
  have F2:=fun_mk (st:=s_law_mixed) l2 c2 k2
  have b2:=F2.binds (ps:=["cell","k"]) fun _ _ _ _ _ _=>of_len2 fun _ _=>rfl
  have F3:=fun_mk (st:=s_law_rate) l3 c3 k3
  have b3:=F3.binds (ps:=["script","number","k"]) fun _ _ _ _ _ _=>of_len3 fun _ _ _=>rfl
  have F4:=fun_mk (st:=s_law_works) l4 c4 k4
  have b4:=F4.binds (ps:=["script"]) fun _ _ _ _ _ _=>of_len1 fun _=>rfl
  have F5:=fun_mk (st:=s_law_steps) l5 c5 k5
  have b5:=F5.binds (ps:=["works"]) fun _ _ _ _ _ _=>of_len1 fun _=>rfl
  have F6:=fun_mk (st:=s_law_needs) l6 c6 k6
  have b6:=F6.binds (ps:=["works","script"]) fun _ _ _ _ _ _=>of_len2 fun _ _=>rfl
  have F7:=fun_mk (st:=s_law_offers) l7 c7 k7
  have b7:=F7.binds (ps:=["script","k","last"]) fun _ _ _ _ _ _=>of_len3 fun _ _ _=>rfl
  have F8:=fun_mk (st:=s_law_shop) l8 c8 k8
  have b8:=F8.binds (ps:=["works","script"]) fun _ _ _ _ _ _=>of_len2 fun _ _=>rfl
  have F9:=fun_mk (st:=s_heat_above) l9 c9 k9
  have b9:=F9.binds (ps:=["bands","level"]) fun _ _ _ _ _ _=>of_len2 fun _ _=>rfl
  have F10:=fun_mk (st:=s_cold_bands) l10 c10 k10
  have b10:=F10.binds (ps:=["works"]) fun _ _ _ _ _ _=>of_len1 fun _=>rfl
  have F11:=fun_mk (st:=s_hot_bands) l11 c11 k11
  have b11:=F11.binds (ps:=["works"]) fun _ _ _ _ _ _=>of_len1 fun _=>rfl
  have F12:=fun_mk (st:=s_lack_above) l12 c12 k12
  have b12:=F12.binds (ps:=["works","level"]) fun _ _ _ _ _ _=>of_len2 fun _ _=>rfl
  have F13:=fun_mk (st:=s_lacks_above) l13 c13 k13
  have b13:=F13.binds (ps:=["works"]) fun _ _ _ _ _ _=>of_len1 fun _=>rfl
  have F14:=fun_mk (st:=s_fire_levels) l14 c14 k14
  have b14:=F14.binds (ps:=["shop"]) fun _ _ _ _ _ _=>of_len1 fun _=>rfl
  have F15:=fun_mk (st:=s_water_levels) l15 c15 k15
  have b15:=F15.binds (ps:=["works","shop"]) fun _ _ _ _ _ _=>of_len2 fun _ _=>rfl
  have F16:=fun_mk (st:=s_amount_above) l16 c16 k16
  have b16:=F16.binds (ps:=["bought","level"]) fun _ _ _ _ _ _=>of_len2 fun _ _=>rfl
  have F17:=fun_mk (st:=s_surpluses_above) l17 c17 k17
  have b17:=F17.binds (ps:=["works","shop","buying"]) fun _ _ _ _ _ _=>of_len3 fun _ _ _=>rfl
  have F18:=fun_mk (st:=s_mosts) l18 c18 k18
  have b18:=F18.binds (ps:=["offers"]) fun _ _ _ _ _ _=>of_len1 fun _=>rfl
  have F19:=fun_mk (st:=s_nothing) l19 c19 k19
  have b19:=F19.binds (ps:=["offers"]) fun _ _ _ _ _ _=>of_len1 fun _=>rfl
  have F20:=fun_mk (st:=s_shortage) l20 c20 k20
  have b20:=F20.binds (ps:=["works","shop"]) fun _ _ _ _ _ _=>of_len2 fun _ _=>rfl
  have F21:=fun_mk (st:=s_lots_of) l21 c21 k21
  have b21:=F21.binds (ps:=["works","shop"]) fun _ _ _ _ _ _=>of_len2 fun _ _=>rfl
  have F22:=fun_mk (st:=s_drawn_of) l22 c22 k22
  have b22:=F22.binds (ps:=["lots","surpluses"]) fun _ _ _ _ _ _=>of_len2 fun _ _=>rfl
  have F23:=fun_mk (st:=s_buying_of) l23 c23 k23
  have b23:=F23.binds (ps:=["shop","drawn"]) fun _ _ _ _ _ _=>of_len2 fun _ _=>rfl
  have F24:=fun_mk (st:=s_worths_of) l24 c24 k24
  have b24:=F24.binds (ps:=["lots","drawn","surpluses"]) fun _ _ _ _ _ _=>of_len3 fun _ _ _=>rfl
  have F25:=fun_mk (st:=s_price_of) l25 c25 k25
  have b25:=F25.binds (ps:=["shop","buying"]) fun _ _ _ _ _ _=>of_len2 fun _ _=>rfl
  have F26:=fun_mk (st:=s_cheapest) l26 c26 k26
  have b26:=F26.binds (ps:=["works","shop"]) fun _ _ _ _ _ _=>of_len2 fun _ _=>rfl
  have F27:=fun_mk (st:=s_law_down) l27 c27 k27
  have b27:=F27.binds (ps:=["works","shop","buying"]) fun _ _ _ _ _ _=>of_len3 fun _ _ _=>rfl
  have F28:=fun_mk (st:=s_law_whole) l28 c28 k28
  have b28:=F28.binds (ps:=["found"]) fun _ _ _ _ _ _=>of_len1 fun _=>rfl
  have F29:=fun_mk (st:=s_law_fits) l29 c29 k29
  have b29:=F29.binds (ps:=["price","much","most","worth"]) fun _ _ _ _ _ _=>of_len4 fun _ _ _ _=>rfl
  have F30:=fun_mk (st:=s_law_worths) l30 c30 k30
  have b30:=F30.binds (ps:=["works","shop","buying","flows","worths"]) fun _ _ _ _ _ _=>of_len5 fun _ _ _ _ _=>rfl
  have F31:=fun_mk (st:=s_will_do) l31 c31 k31
  have b31:=F31.binds (ps:=["works","shop","buying"]) fun _ _ _ _ _ _=>of_len3 fun _ _ _=>rfl
  have F32:=fun_mk (st:=s_law_price) l32 c32 k32
  have b32:=F32.binds (ps:=["shop","buying"]) fun _ _ _ _ _ _=>of_len2 fun _ _=>rfl
  have F33:=fun_mk (st:=s_law_amounts) l33 c33 k33
  have b33:=F33.binds (ps:=["found","offers"]) fun _ _ _ _ _ _=>of_len2 fun _ _=>rfl
  have F34:=fun_mk (st:=s_law) l34 c34 k34
  have b34:=F34.binds (ps:=["script"]) fun _ _ _ _ _ _=>of_len1 fun _=>rfl
  have T:Blt mg:=⟨PySem.W.mg_none_of X G z1,PySem.W.mg_none_of X G z2,PySem.W.mg_none_of X G z3,PySem.W.mg_none_of X G z4,PySem.W.mg_none_of X G z5,PySem.W.mg_none_of X G z6,PySem.W.mg_none_of X G z7,PySem.W.mg_none_of X G z8,PySem.W.mg_none_of X G z9,PySem.W.mg_none_of X G z10,PySem.W.mg_none_of X G z11,PySem.W.mg_none_of X G z12,PySem.W.mg_none_of X G z13,PySem.W.mg_none_of X G z14,⟨_,PySem.W.mg_of X G y1⟩⟩
  subst m1
  have FC:=func_mk (st:=s_drawn_of) l22 c22 m2
  have G1:∀ base:Heap,K.In base∧BltAt mg base→Fn l.prog w K mg base "_law_cell_at" 1 ["script","k"] (spD K r_law_cell_at):=fun base B=>fn_mk F1 (PySem.W.mg_of X G a1) b1 (ok_law_cell_at T F1)
  have G2:∀ base:Heap,K.In base∧BltAt mg base→Fn l.prog w K mg base "_law_mixed" 1 ["cell","k"] (spD K r_law_mixed):=fun base B=>fn_mk F2 (PySem.W.mg_of X G a2) b2 (ok_law_mixed T F2)
  have G3:∀ base:Heap,K.In base∧BltAt mg base→Fn l.prog w K mg base "_law_rate" 1 ["script","number","k"] (spD K r_law_rate):=fun base B=>fn_mk F3 (PySem.W.mg_of X G a3) b3 (ok_law_rate T F3)
  have G4:∀ base:Heap,K.In base∧BltAt mg base→Fn l.prog w K mg base "_law_works" 2 ["script"] (spD K r_law_works):=fun base B=>fn_mk F4 (PySem.W.mg_of X G a4) b4 (ok_law_works T (G1 base B) (G2 base B) (G3 base B) F4)
  have G5:∀ base:Heap,K.In base∧BltAt mg base→Fn l.prog w K mg base "_law_steps" 1 ["works"] (spD K r_law_steps):=fun base B=>fn_mk F5 (PySem.W.mg_of X G a5) b5 (ok_law_steps T F5)
  have G6:∀ base:Heap,K.In base∧BltAt mg base→Fn l.prog w K mg base "_law_needs" 2 ["works","script"] (spD K r_law_needs):=fun base B=>fn_mk F6 (PySem.W.mg_of X G a6) b6 (ok_law_needs T (G5 base B) (G2 base B) (G1 base B) F6)
  have G7:∀ base:Heap,K.In base∧BltAt mg base→Fn l.prog w K mg base "_law_offers" 2 ["script","k","last"] (spD K r_law_offers):=fun base B=>fn_mk F7 (PySem.W.mg_of X G a7) b7 (ok_law_offers T (G2 base B) (G1 base B) F7)
  have G8:∀ base:Heap,K.In base∧BltAt mg base→Fn l.prog w K mg base "_law_shop" 3 ["works","script"] (spD K r_law_shop):=fun base B=>fn_mk F8 (PySem.W.mg_of X G a8) b8 (ok_law_shop T (G6 base B) (G7 base B) (G1 base B) (G2 base B) F8)
  have G9:∀ base:Heap,K.In base∧BltAt mg base→Fn l.prog w K mg base "heat_above" 1 ["bands","level"] (spD K r_heat_above):=fun base B=>fn_mk F9 (PySem.W.mg_of X G a9) b9 (ok_heat_above T F9)
  have G10:∀ base:Heap,K.In base∧BltAt mg base→Fn l.prog w K mg base "cold_bands" 1 ["works"] (spD K r_cold_bands):=fun base B=>fn_mk F10 (PySem.W.mg_of X G a10) b10 (ok_cold_bands T F10)
  have G11:∀ base:Heap,K.In base∧BltAt mg base→Fn l.prog w K mg base "hot_bands" 1 ["works"] (spD K r_hot_bands):=fun base B=>fn_mk F11 (PySem.W.mg_of X G a11) b11 (ok_hot_bands T F11)
  have G12:∀ base:Heap,K.In base∧BltAt mg base→Fn l.prog w K mg base "lack_above" 2 ["works","level"] (spD K r_lack_above):=fun base B=>fn_mk F12 (PySem.W.mg_of X G a12) b12 (ok_lack_above T (G9 base B) (G10 base B) (G11 base B) F12)
  have G13:∀ base:Heap,K.In base∧BltAt mg base→Fn l.prog w K mg base "lacks_above" 3 ["works"] (spD K r_lacks_above):=fun base B=>fn_mk F13 (PySem.W.mg_of X G a13) b13 (ok_lacks_above T (G12 base B) F13)
  have G14:∀ base:Heap,K.In base∧BltAt mg base→Fn l.prog w K mg base "fire_levels" 1 ["shop"] (spD K r_fire_levels):=fun base B=>fn_mk F14 (PySem.W.mg_of X G a14) b14 (ok_fire_levels T F14)
  have G15:∀ base:Heap,K.In base∧BltAt mg base→Fn l.prog w K mg base "water_levels" 1 ["works","shop"] (spD K r_water_levels):=fun base B=>fn_mk F15 (PySem.W.mg_of X G a15) b15 (ok_water_levels T F15)
  have G16:∀ base:Heap,K.In base∧BltAt mg base→Fn l.prog w K mg base "amount_above" 1 ["bought","level"] (spD K r_amount_above):=fun base B=>fn_mk F16 (PySem.W.mg_of X G a16) b16 (ok_amount_above T F16)
  have G17:∀ base:Heap,K.In base∧BltAt mg base→Fn l.prog w K mg base "surpluses_above" 4 ["works","shop","buying"] (spD K r_surpluses_above):=fun base B=>fn_mk F17 (PySem.W.mg_of X G a17) b17 (ok_surpluses_above T (G13 base B) (G14 base B) (G15 base B) (G16 base B) F17)
  have G18:∀ base:Heap,K.In base∧BltAt mg base→Fn l.prog w K mg base "mosts" 1 ["offers"] (spD K r_mosts):=fun base B=>fn_mk F18 (PySem.W.mg_of X G a18) b18 (ok_mosts T F18)
  have G19:∀ base:Heap,K.In base∧BltAt mg base→Fn l.prog w K mg base "nothing" 1 ["offers"] (spD K r_nothing):=fun base B=>fn_mk F19 (PySem.W.mg_of X G a19) b19 (ok_nothing T F19)
  have G20:∀ base:Heap,K.In base∧BltAt mg base→Fn l.prog w K mg base "shortage" 5 ["works","shop"] (spD K r_shortage):=fun base B=>fn_mk F20 (PySem.W.mg_of X G a20) b20 (ok_shortage T (G17 base B) (G18 base B) (G19 base B) F20)
  have G21:∀ base:Heap,K.In base∧BltAt mg base→Fn l.prog w K mg base "lots_of" 2 ["works","shop"] (spD K r_lots_of):=fun base B=>fn_mk F21 (PySem.W.mg_of X G a21) b21 (ok_lots_of T (G14 base B) (G15 base B) F21)
  have G22:∀ base:Heap,K.In base∧BltAt mg base→Fn l.prog w K mg base "drawn_of" 1 ["lots","surpluses"] (spDT K Pt qnL r_drawn_of):=fun base B=>fn_mk F22 (PySem.W.mg_of X G a22) b22 (ok_drawn_of B.1 B.2 T FC)
  have G23:∀ base:Heap,K.In base∧BltAt mg base→Fn l.prog w K mg base "buying_of" 1 ["shop","drawn"] (spD K r_buying_of):=fun base B=>fn_mk F23 (PySem.W.mg_of X G a23) b23 (ok_buying_of T F23)
  have G24:∀ base:Heap,K.In base∧BltAt mg base→Fn l.prog w K mg base "worths_of" 1 ["lots","drawn","surpluses"] (spD K r_worths_of):=fun base B=>fn_mk F24 (PySem.W.mg_of X G a24) b24 (ok_worths_of T F24)
  have G25:∀ base:Heap,K.In base∧BltAt mg base→Fn l.prog w K mg base "price_of" 1 ["shop","buying"] (spD K r_price_of):=fun base B=>fn_mk F25 (PySem.W.mg_of X G a25) b25 (ok_price_of T F25)
  have G26:∀ base:Heap,K.In base∧BltAt mg base→Fn l.prog w K mg base "cheapest" 6 ["works","shop"] (spDT K Pt qnL r_cheapest):=fun base B=>fn_mk F26 (PySem.W.mg_of X G a26) b26 (ok_cheapest T (G20 base B) (G21 base B) (G22 base B) (G23 base B) (G24 base B) (G17 base B) (G25 base B) (G19 base B) (G18 base B) F26)
  have G27:∀ base:Heap,K.In base∧BltAt mg base→Fn l.prog w K mg base "_law_down" 1 ["works","shop","buying"] (spD K r_law_down):=fun base B=>fn_mk F27 (PySem.W.mg_of X G a27) b27 (ok_law_down T F27)
  have G28:∀ base:Heap,K.In base∧BltAt mg base→Fn l.prog w K mg base "_law_whole" 1 ["found"] (spD K r_law_whole):=fun base B=>fn_mk F28 (PySem.W.mg_of X G a28) b28 (ok_law_whole T F28)
  have G29:∀ base:Heap,K.In base∧BltAt mg base→Fn l.prog w K mg base "_law_fits" 1 ["price","much","most","worth"] (spD K r_law_fits):=fun base B=>fn_mk F29 (PySem.W.mg_of X G a29) b29 (ok_law_fits T F29)
  have G30:∀ base:Heap,K.In base∧BltAt mg base→Fn l.prog w K mg base "_law_worths" 2 ["works","shop","buying","flows","worths"] (spD K r_law_worths):=fun base B=>fn_mk F30 (PySem.W.mg_of X G a30) b30 (ok_law_worths T (G28 base B) (G29 base B) F30)
  have G31:∀ base:Heap,K.In base∧BltAt mg base→Fn l.prog w K mg base "will_do" 5 ["works","shop","buying"] (spD K r_will_do):=fun base B=>fn_mk F31 (PySem.W.mg_of X G a31) b31 (ok_will_do T (G17 base B) F31)
  have G32:∀ base:Heap,K.In base∧BltAt mg base→Fn l.prog w K mg base "_law_price" 1 ["shop","buying"] (spD K r_law_price):=fun base B=>fn_mk F32 (PySem.W.mg_of X G a32) b32 (ok_law_price T F32)
  have G33:∀ base:Heap,K.In base∧BltAt mg base→Fn l.prog w K mg base "_law_amounts" 2 ["found","offers"] (spD K r_law_amounts):=fun base B=>fn_mk F33 (PySem.W.mg_of X G a33) b33 (ok_law_amounts T (G28 base B) F33)
  exact ⟨PySem.W.fnOf "law" "law" (defArgs s_law) (defBody s_law) (defScope s_law) .none kV34 dc34 pm34 an34 cd34 ct34,_,m3,m2,fun s v=>.of_eq rfl,fun base kb _ B=>(fun B=>law_ofT (ok_law T (G4 base B) (G8 base B) (G26 base B) (G27 base B) (G30 base B) (G31 base B) (G25 base B) (G32 base B) (G33 base B) F34)) ⟨kb,B⟩⟩
end WS
open PySem PySem.W PyProof.Rows
set_option maxRecDepth 100000 in
set_option maxHeartbeats 0 in
theorem PySem.Challenge.cw_warmshare_k36_whole_no_buying_is_cheaper_holds : PySem.Challenge.rw_warmshare_k36_whole_no_buying_is_cheaper.Holds := by
  w_on; o_law; k_head; (case hw=>w_witness2)
  k_fill
  refine DL.walk_ofC (l:=PySem.Challenge.rw_warmshare_k36_whole_no_buying_is_cheaper) (k:=7) (x:="script") (qn:=WS.qnL) rfl rfl ⟨rfl,by decide,by decide,rfl⟩ (fun w h Y=>⟨PySem.W.km_in_of Y,PySem.W.km_tabs_of Y _ (List.mem_singleton.mpr rfl)⟩) ?F
  case F =>
    intro w mg fa h KX G hmg
    refine' WS.all_mk KX G hmg ?a1 ?l1 ?c1 ?k1 ?a2 ?l2 ?c2 ?k2 ?a3 ?l3 ?c3 ?k3 ?a4 ?l4 ?c4 ?k4 ?a5 ?l5 ?c5 ?k5 ?a6 ?l6 ?c6 ?k6 ?a7 ?l7 ?c7 ?k7 ?a8 ?l8 ?c8 ?k8 ?a9 ?l9 ?c9 ?k9 ?a10 ?l10 ?c10 ?k10 ?a11 ?l11 ?c11 ?k11 ?a12 ?l12 ?c12 ?k12 ?a13 ?l13 ?c13 ?k13 ?a14 ?l14 ?c14 ?k14 ?a15 ?l15 ?c15 ?k15 ?a16 ?l16 ?c16 ?k16 ?a17 ?l17 ?c17 ?k17 ?a18 ?l18 ?c18 ?k18 ?a19 ?l19 ?c19 ?k19 ?a20 ?l20 ?c20 ?k20 ?a21 ?l21 ?c21 ?k21 ?a22 ?l22 ?c22 ?k22 ?a23 ?l23 ?c23 ?k23 ?a24 ?l24 ?c24 ?k24 ?a25 ?l25 ?c25 ?k25 ?a26 ?l26 ?c26 ?k26 ?a27 ?l27 ?c27 ?k27 ?a28 ?l28 ?c28 ?k28 ?a29 ?l29 ?c29 ?k29 ?a30 ?l30 ?c30 ?k30 ?a31 ?l31 ?c31 ?k31 ?a32 ?l32 ?c32 ?k32 ?a33 ?l33 ?c33 ?k33 ?a34 ?l34 ?c34 ?k34 ?z1 ?z2 ?z3 ?z4 ?z5 ?z6 ?z7 ?z8 ?z9 ?z10 ?z11 ?z12 ?z13 ?z14 ?y1 ?m1 ?m2 ?m3
    (case a1=>k_is)
    (case l1=>k_is)
    (case c1=>k_is)
    (case k1=>k_is)
    (case a2=>k_is)
    (case l2=>k_is)
    (case c2=>k_is)
    (case k2=>k_is)
    (case a3=>k_is)
    (case l3=>k_is)
    (case c3=>k_is)
    (case k3=>k_is)
    (case a4=>k_is)
    (case l4=>k_is)
    (case c4=>k_is)
    (case k4=>k_is)
    (case a5=>k_is)
    (case l5=>k_is)
    (case c5=>k_is)
    (case k5=>k_is)
    (case a6=>k_is)
    (case l6=>k_is)
    (case c6=>k_is)
    (case k6=>k_is)
    (case a7=>k_is)
    (case l7=>k_is)
    (case c7=>k_is)
    (case k7=>k_is)
    (case a8=>k_is)
    (case l8=>k_is)
    (case c8=>k_is)
    (case k8=>k_is)
    (case a9=>k_is)
    (case l9=>k_is)
    (case c9=>k_is)
    (case k9=>k_is)
    (case a10=>k_is)
    (case l10=>k_is)
    (case c10=>k_is)
    (case k10=>k_is)
    (case a11=>k_is)
    (case l11=>k_is)
    (case c11=>k_is)
    (case k11=>k_is)
    (case a12=>k_is)
    (case l12=>k_is)
    (case c12=>k_is)
    (case k12=>k_is)
    (case a13=>k_is)
    (case l13=>k_is)
    (case c13=>k_is)
    (case k13=>k_is)
    (case a14=>k_is)
    (case l14=>k_is)
    (case c14=>k_is)
    (case k14=>k_is)
    (case a15=>k_is)
    (case l15=>k_is)
    (case c15=>k_is)
    (case k15=>k_is)
    (case a16=>k_is)
    (case l16=>k_is)
    (case c16=>k_is)
    (case k16=>k_is)
    (case a17=>k_is)
    (case l17=>k_is)
    (case c17=>k_is)
    (case k17=>k_is)
    (case a18=>k_is)
    (case l18=>k_is)
    (case c18=>k_is)
    (case k18=>k_is)
    (case a19=>k_is)
    (case l19=>k_is)
    (case c19=>k_is)
    (case k19=>k_is)
    (case a20=>k_is)
    (case l20=>k_is)
    (case c20=>k_is)
    (case k20=>k_is)
    (case a21=>k_is)
    (case l21=>k_is)
    (case c21=>k_is)
    (case k21=>k_is)
    (case a22=>k_is)
    (case l22=>k_is)
    (case c22=>k_is)
    (case k22=>k_is)
    (case a23=>k_is)
    (case l23=>k_is)
    (case c23=>k_is)
    (case k23=>k_is)
    (case a24=>k_is)
    (case l24=>k_is)
    (case c24=>k_is)
    (case k24=>k_is)
    (case a25=>k_is)
    (case l25=>k_is)
    (case c25=>k_is)
    (case k25=>k_is)
    (case a26=>k_is)
    (case l26=>k_is)
    (case c26=>k_is)
    (case k26=>k_is)
    (case a27=>k_is)
    (case l27=>k_is)
    (case c27=>k_is)
    (case k27=>k_is)
    (case a28=>k_is)
    (case l28=>k_is)
    (case c28=>k_is)
    (case k28=>k_is)
    (case a29=>k_is)
    (case l29=>k_is)
    (case c29=>k_is)
    (case k29=>k_is)
    (case a30=>k_is)
    (case l30=>k_is)
    (case c30=>k_is)
    (case k30=>k_is)
    (case a31=>k_is)
    (case l31=>k_is)
    (case c31=>k_is)
    (case k31=>k_is)
    (case a32=>k_is)
    (case l32=>k_is)
    (case c32=>k_is)
    (case k32=>k_is)
    (case a33=>k_is)
    (case l33=>k_is)
    (case c33=>k_is)
    (case k33=>k_is)
    (case a34=>k_is)
    (case l34=>k_is)
    (case c34=>k_is)
    (case k34=>k_is)
    (case z1=>k_is)
    (case z2=>k_is)
    (case z3=>k_is)
    (case z4=>k_is)
    (case z5=>k_is)
    (case z6=>k_is)
    (case z7=>k_is)
    (case z8=>k_is)
    (case z9=>k_is)
    (case z10=>k_is)
    (case z11=>k_is)
    (case z12=>k_is)
    (case z13=>k_is)
    (case z14=>k_is)
    (case y1=>k_is)
    (case m1=>rfl)
    (case m2=>kernel_rfl)
    (case m3=>kernel_rfl)
#print axioms PySem.Challenge.cw_warmshare_k36_whole_no_buying_is_cheaper_holds