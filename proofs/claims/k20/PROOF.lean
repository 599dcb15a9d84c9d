import PyProof.Rows.All
import Wide.All
import OpenK.AllK
import Wide.FinOn
import Lean
import PyProof.EqAt
import PyProof.EqKinds
import PyProof.TupleCall
import KE.KSortKey
import KE.KLam
import KE.KMinKey
import KE.KDictList
import KE.KSortTup
import KE.KEqDict
import PyProof.SetKind
import PyProof.TupleKey
import PyProof.IsRules
import PyProof.Rows.SetFrom
import PyProof.SetRoads
import PyProof.Rows.FactsT2
import PyProof.SetScanFacts
import PySem.SetTable
import PySem.Challenge.RW_warmshare_k20_whole_gaps_and_streams
set_option maxHeartbeats 4000000
set_option bootstrap.genMatcherCode false
set_option genSizeOfSpec false
noncomputable section
set_option Elab.async false
set_option linter.all false
set_option maxRecDepth 100000
namespace L2
open PySem PySem.Spec PyProof.Rows
abbrev Key:=Sum Int Str
def keyIs:Key→Value→Bool
  | .inl k,v=>Value.isInt k v
  | .inr x,v=>Value.isStrOf x v
def keyH (w:World) : Key→Int
  | .inl k=>hashInt k
  | .inr x=>hashStr w x
theorem keyIs_shape:∀{k:Key} {v:Value},keyIs k v=true→(∃i t,k=Sum.inl i∧v=Value.int i t)∨(∃x t,k=Sum.inr x∧v=Value.str x t)
  | .inl i,v,h=>by
    obtain ⟨t,e⟩:=Value.isInt_shape (k:=i) (v:=v) h
    exact .inl ⟨i,t,rfl,e⟩
  | .inr x,v,h=>by
    obtain ⟨t,e⟩:=Value.isStrOf_shape (x:=x) (v:=v) h
    exact .inr ⟨x,t,rfl,e⟩
theorem keyIs_int (i:Int) (t:Tok) : keyIs (.inl i) (.int i t)=true:=by simp[keyIs,Value.isInt]
theorem keyIs_str (x:Str) (t:Tok) : keyIs (.inr x) (.str x t)=true:=by simp[keyIs,Value.isStrOf]
theorem key_ll (a b:Int) : decide ((Sum.inl a:Key)=Sum.inl b)=(a == b):=by
  by_cases e:a=b
  · subst e; simp
  · have h:¬(Sum.inl a:Key)=Sum.inl b:=fun q=>e (Sum.inl.inj q)
    rw[decide_eq_false h]
    exact (beq_eq_false_iff_ne.mpr e).symm
theorem key_rr (a b:Str) : decide ((Sum.inr a:Key)=Sum.inr b)=decide (a=b):=by
  by_cases e:a=b
  · subst e; simp
  · have h:¬(Sum.inr a:Key)=Sum.inr b:=fun q=>e (Sum.inr.inj q)
    rw[decide_eq_false h,decide_eq_false e]
theorem key_lr (a:Int) (b:Str) : decide ((Sum.inl a:Key)=Sum.inr b)=false:=decide_eq_false (fun q=>nomatch q)
theorem key_rl (a:Str) (b:Int) : decide ((Sum.inr a:Key)=Sum.inl b)=false:=decide_eq_false (fun q=>nomatch q)
def mixKind (prog:Program) (w:World) : PySem.KeyKind prog w Key where
  is:=keyIs
  hash:=keyH w
  inj:=fun v a b ha hb=>by
    rcases keyIs_shape ha with ⟨i,t,rfl,rfl⟩ | ⟨x,t,rfl,rfl⟩
    · rcases keyIs_shape hb with ⟨j,u,rfl,e⟩ | ⟨y,u,rfl,e⟩
      · injection e with e1 _; rw[e1]
      · exact nomatch e
    · rcases keyIs_shape hb with ⟨j,u,rfl,e⟩ | ⟨y,u,rfl,e⟩
      · exact nomatch e
      · injection e with e1 _; rw[e1]
  byValue:=fun k v h=>by
    rcases keyIs_shape h with ⟨i,t,rfl,rfl⟩ | ⟨x,t,rfl,rfl⟩<;>rfl
  pyHash:=fun hv h=>by
    rcases keyIs_shape hv with ⟨i,t,rfl,rfl⟩ | ⟨x,t,rfl,rfl⟩
    · exact wpAny_pyHash_int h
    · exact wpAny_pyHash_str h
  eqBool:=fun hu hv h=>by
    rcases keyIs_shape hu with ⟨i,t,rfl,rfl⟩ | ⟨x,t,rfl,rfl⟩
    · rcases keyIs_shape hv with ⟨j,u,rfl,rfl⟩ | ⟨y,u,rfl,rfl⟩
      · rw[key_ll] at h; exact wpAny_eqBool_int h
      · rw[key_lr] at h; exact SeqAt.EqAt.int_str i t y u _ _ _ _ h
    · rcases keyIs_shape hv with ⟨j,u,rfl,rfl⟩ | ⟨y,u,rfl,rfl⟩
      · rw[key_rl] at h; exact SeqAt.EqAt.str_int x t j u _ _ _ _ h
      · rw[key_rr] at h; exact wpAny_eqBool_str h
  «strs»:=fun k x t v h=>by
    rcases keyIs_shape h with ⟨i,u,rfl,e⟩ | ⟨y,u,rfl,e⟩
    · exact nomatch e
    · injection e with e1 _
      subst e1
      cases v<;>rfl
theorem mixKind_int (prog:Program) (w:World) (i:Int) (t:Tok) : (mixKind prog w).is (.inl i) (.int i t)=true:=keyIs_int i t
theorem mixKind_str (prog:Program) (w:World) (x:Str) (t:Tok) : (mixKind prog w).is (.inr x) (.str x t)=true:=keyIs_str x t
end L2
namespace L2
open PySem PySem.Spec PyProof.Rows
inductive V where
  | non | bl (b:Bool) | int (i:Int) | str (x:Str) | byt (b:Array UInt8) | flt (b:UInt64) | ref (a:Addr) | ty (n:String)
  deriving DecidableEq
def RelV:V→Value→Prop
  | .non,u=>u=Value.none
  | .bl b,u=>u=Value.bool b
  | .int i,u=>∃t,u=Value.int i t
  | .str x,u=>∃t,u=Value.str x t
  | .byt b,u=>∃t,u=Value.bytes b t
  | .flt b,u=>∃t,u=Value.float b t
  | .ref a,u=>u=Value.ref a
  | .ty n,u=>u=Value.type n
abbrev Vals:List V→List Value→Prop:=Paired RelV
theorem Vals.length {xs:List V} {us:List Value} (r:Vals xs us) : xs.length=us.length:=Paired.length r
theorem Vals.get:∀{xs:List V} {us:List Value} {i:Nat} {x:V},Vals xs us→xs[i]?=some x→∃u,us[i]?=some u∧RelV x u
  | _,_,_,_,.nil,e=>by simp at e
  | _,_,0,_,.cons r _,e=>by simp at e; subst e; exact ⟨_,rfl,r⟩
  | _,_,i+1,x,.cons _ t,e=>by
    obtain ⟨u,h1,h2⟩:=Vals.get (i:=i) (x:=x) t (by simpa using e)
    exact ⟨u,by simpa using h1,h2⟩
theorem Vals.set {x:V} {u:Value} (r:RelV x u) : ∀{xs:List V} {us:List Value} (i:Nat),Vals xs us→Vals (xs.set i x) (us.set i u)
  | _,_,_,.nil=>.nil
  | _,_,0,.cons _ t=>.cons r t
  | _,_,i+1,.cons q t=>.cons q (Vals.set r i t)
theorem Vals.append:∀{xs ys:List V} {us ws:List Value},Vals xs us→Vals ys ws→Vals (xs++ys) (us++ws)
  | _,_,_,_,.nil,s=>s
  | _,_,_,_,.cons r t,s=>.cons r (Vals.append t s)
theorem Vals.take:∀{xs:List V} {us:List Value} (n:Nat),Vals xs us→Vals (xs.take n) (us.take n)
  | _,_,0,_=>.nil
  | _,_,_+1,.nil=>.nil
  | _,_,n+1,.cons r t=>.cons r (Vals.take n t)
theorem Vals.drop:∀{xs:List V} {us:List Value} (n:Nat),Vals xs us→Vals (xs.drop n) (us.drop n)
  | _,_,0,r=>r
  | _,_,_+1,.nil=>.nil
  | _,_,n+1,.cons _ t=>Vals.drop n t
theorem Vals.none_of:∀{xs:List V} {us:List Value} {i:Nat},Vals xs us→xs[i]?=none→us[i]?=none:=fun {xs us i} r e=>by
  have h1:=r.length
  have h2:xs.length≤i:=List.getElem?_eq_none_iff.mp e
  exact List.getElem?_eq_none_iff.mpr (by lia)
def RelO:Option V→Option Value→Prop
  | some v,some u=>RelV v u
  | none,none=>True
  | _,_=>False
def KV {κ:Type} : List (κ×V)→List (κ×Value)→Prop:=Paired fun (p:κ×V) (q:κ×Value)=>p.1=q.1∧RelV p.2 q.2
def kV:Key→V
  | .inl i=>.int i
  | .inr x=>.str x
inductive HO where
  | lst (xs:List V)
  | tup (xs:List V)
  | dK (kvs:List (Key×V)) | dT (kvs:List (List Key×V))
  | set (S:Int→Bool) (n:Nat)
  | ins (C dx:Addr) (fs:List (Str×V))
  | own (x:Addr)
  | xd (fs:List (Str×V))
  | met (f x:Addr)
  | rng (lo hi:Int)
  | frz (o:Obj) (u:HO)
  | tbl (ps:Array Value)
  | ext (φ:Heap→Prop)
abbrev Hp:=Addr→Option HO
def upd (H:Hp) (a:Addr) (o:HO) : Hp:=fun b=>if b=a then some o else H b
theorem upd_same {H:Hp} {a:Addr} {o:HO} : upd H a o a=some o:=by unfold upd; rw[if_pos rfl]
theorem upd_ne {H:Hp} {a b:Addr} {o:HO} (h:b≠a) : upd H a o b=H b:=by unfold upd; rw[if_neg h]
theorem ne_of {H:Hp} {a b:Addr} {o u:HO} (h:H a=some o) (h':H b=some u) (d:o≠u) : a≠b:=by
  intro e; subst e; rw[h] at h'; exact d (Option.some.inj h')
theorem ne_of_none {H:Hp} {a b:Addr} {o:HO} (h:H a=some o) (h':H b=none) : a≠b:=by
  intro e; subst e; rw[h] at h'; cases h'
section
variable (P:Program) (w:World)
def ObjOk (H:Hp) (h:Heap) (a:Addr) : HO→Prop
  | .lst xs=>xs.length≤sizeLine∧∃(its:List Value) (n:Nat),Vals xs its∧h.get? a=some { cls:=.type "list",data:=.seq its.toArray n }
  | .tup xs=>xs.length≤sizeLine∧∃its:List Value,Vals xs its∧IsTup h a its.toArray
  | .dK kvs=>kvs.length≤sizeLine∧(a == sysModules)=false∧∃vs,KV kvs vs∧h.DictOf (mixKind P w) a vs
  | .dT kvs=>kvs.length≤sizeLine∧(a == sysModules)=false∧∃xs:List (List Key×Addr×Value),
      Paired (fun (p:List Key×V) (q:List Key×Addr×Value)=>p.1=q.1∧H q.2.1=some (.tup (p.1.map kV))∧RelV p.2 q.2.2) kvs xs ∧
      ∃o es ep,h.get? a=some o∧o.ExactDict∧o.data=.dict es ep∧es.toList=xs.map (entryOfKey (tupleKind (mixKind P w)))∧(xs.map (·.1)).Nodup
  | .set S n=>h.SetOf (intKind P w) a S n
  | .ins C dx fs=>H dx=some (.own a)∧fs.length≤1000∧dx≠a∧h.get? a=some (PySem.W.instObj C dx) ∧
      ∃mA,h.Ns1 dx mA∧(∀f,RelO (fs.lookup f) (mA f))∧PySem.Within mA (fs.map (·.1))
  | .own _=>∃o,h.get? a=some o
  | .xd fs=>∃mA,h.Ns1 a mA∧∀f,RelO (fs.lookup f) (mA f)
  | .rng lo hi=>∃t u v,h.get? a=some { cls:=.type "range",data:=.fields #[.int lo t,.int hi u,.int 1 v] }
  | .frz o u=>h.get? a=some o∧ObjOk H h a u
  | .tbl qs=>∃tb:Array Value,h.get? a=some { cls:=.none,data:=.fields tb }∧TriplesOk tb.toList ∧
      ∀pos cv,codeAmong pos tb.toList=some cv→∃c q t,cv=.ref c∧qs[0]?=some (.str q t)∧H c=some (.own a)∧h.CodeRec (.ref c) q
  | .met f x=>h.get? a=some (PySem.W.methodObj (.ref f) (.ref x))
  | .ext φ=>φ h∧(∃o,h.get? a=some o)∧∀h1 h2:Heap,φ h1→(∀o,h1.get? a=some o→h2.get? a=some o)→φ h2
def HOk (H:Hp) (h:Heap) : Prop:=∀a o,H a=some o→ObjOk P w H h a o
end
section
variable {P:Program} {w:World} {H H':Hp} {h h':Heap} {a:Addr} {o:HO}
theorem ObjOk.lt (x:ObjOk P w H h a o) : a<h.objs.size:=by
  cases o with
  | lst xs=>obtain ⟨_,_,_,_,e⟩:=x; exact Heap.lt_size e
  | tup xs=>obtain ⟨_,_,_,p⟩:=x; exact p.lt
  | dK kvs=>obtain ⟨_,_,_,_,o,_,_,e,_⟩:=x; exact Heap.lt_size e
  | dT kvs=>obtain ⟨_,_,_,_,o,_,_,e,_⟩:=x; exact Heap.lt_size e
  | set S n=>obtain ⟨o,_,_,_,e,_⟩:=x; exact Heap.lt_size e
  | ins C dx fs=>obtain ⟨_,_,_,e,_⟩:=x; exact Heap.lt_size e
  | own y=>obtain ⟨_,e⟩:=x; exact Heap.lt_size e
  | xd fs=>obtain ⟨_,⟨_,_,_,e,_⟩,_⟩:=x; exact Heap.lt_size e
  | rng lo hi=>obtain ⟨_,_,_,e⟩:=x; exact Heap.lt_size e
  | frz ob u=>obtain ⟨e,_⟩:=x; exact Heap.lt_size e
  | tbl qs=>obtain ⟨_,e,_⟩:=x; exact Heap.lt_size e
  | met f y=>exact Heap.lt_size (show h.get? a=some _ from x)
  | ext φ=>obtain ⟨_,⟨_,e⟩,_⟩:=x; exact Heap.lt_size e
theorem Paired.mapP {α β:Type} {F G:α→β→Prop} : ∀{l₁:List α} {l₂:List β},Paired F l₁ l₂→(∀a b,F a b→G a b)→Paired G l₁ l₂
  | _,_,.nil,_=>.nil
  | _,_,.cons r t,f=>.cons (f _ _ r) (Paired.mapP t f)
theorem Paired.imp' {α β:Type} {F G:α→β→Prop} (f:∀a b,F a b→G a b) {l₁:List α} {l₂:List β} (r:Paired F l₁ l₂) : Paired G l₁ l₂:=Paired.mapP r f
theorem ObjOk.stay (x:ObjOk P w H h a o) (k:∀b u,(b=a∨H b=some (.own a))→h.get? b=some u→h'.get? b=some u)
    (ho:∀b,H b=some (.own a)→H' b=some (.own a)) (ht:∀b xs,H b=some (.tup xs)→H' b=some (.tup xs)) : ObjOk P w H' h' a o:=by
  induction o with
  | lst xs=>obtain ⟨z,its,n,r,e⟩:=x; exact ⟨z,its,n,r,k _ _ (.inl rfl) e⟩
  | tup xs=>obtain ⟨z,its,r,ob,e,c⟩:=x; exact ⟨z,its,r,ob,k _ _ (.inl rfl) e,c⟩
  | dK kvs=>obtain ⟨z,y,vs,r,ob,es,ep,e,c⟩:=x; exact ⟨z,y,vs,r,ob,es,ep,k _ _ (.inl rfl) e,c⟩
  | dT kvs =>
    obtain ⟨z,y,xs,r,ob,es,ep,e,c⟩:=x
    exact ⟨z,y,xs,Paired.mapP r fun p q z=>⟨z.1,ht _ _ z.2.1,z.2.2⟩,ob,es,ep,k _ _ (.inl rfl) e,c⟩
  | set S n=>obtain ⟨ob,es,ep,t,e,c⟩:=x; exact ⟨ob,es,ep,t,k _ _ (.inl rfl) e,c⟩
  | ins C dx fs =>
    obtain ⟨d,z,ne,e,mA,⟨od,es,ep,e2,c⟩,r⟩:=x
    exact ⟨ho _ d,z,ne,k _ _ (.inl rfl) e,mA,⟨od,es,ep,k _ _ (.inr d) e2,c⟩,r⟩
  | own y=>obtain ⟨ob,e⟩:=x; exact ⟨ob,k _ _ (.inl rfl) e⟩
  | xd fs=>obtain ⟨mA,⟨od,es,ep,e,c⟩,r⟩:=x; exact ⟨mA,⟨od,es,ep,k _ _ (.inl rfl) e,c⟩,r⟩
  | rng lo hi=>obtain ⟨t,u,v,e⟩:=x; exact ⟨t,u,v,k _ _ (.inl rfl) e⟩
  | frz ob u ih=>obtain ⟨e,q⟩:=x; exact ⟨k _ _ (.inl rfl) e,ih q⟩
  | tbl qs =>
    obtain ⟨m,e,t,f⟩:=x
    refine ⟨m,k _ _ (.inl rfl) e,t,fun pos cv z=>?_⟩
    obtain ⟨c,q,u,r,r2,o,c2,ob,vs,tk,e2,g,rest⟩:=f pos cv z
    cases e2
    exact ⟨c,q,u,r,r2,ho _ o,c,ob,vs,tk,rfl,k _ _ (.inr o) g,rest⟩
  | met f y =>
    have e:h.get? a=some (PySem.W.methodObj (.ref f) (.ref y)):=x
    show h'.get? a=some (PySem.W.methodObj (.ref f) (.ref y))
    exact k a _ (.inl rfl) e
  | ext φ=>obtain ⟨p,⟨o,e⟩,st⟩:=x; exact ⟨st _ _ p fun o q=>k _ _ (.inl rfl) q,⟨o,k _ _ (.inl rfl) e⟩,st⟩
theorem HOk.lt (x:HOk P w H h) (e:H a=some o) : a<h.objs.size:=(x a o e).lt
theorem HOk.fresh (x:HOk P w H h) (e:h.objs.size≤a) : H a=none:=by
  cases q:H a with
  | none=>rfl
  | some u=>exact absurd (Nat.lt_of_lt_of_le (x.lt q) e) (Nat.lt_irrefl _)
theorem HOk.kept (x:HOk P w H h) (k:∀b u,h.get? b=some u→h'.get? b=some u) : HOk P w H h':=fun a o e =>
  (x a o e).stay (fun b u _ q=>k b u q) (fun _ q=>q) fun _ _ q=>q
theorem HOk.laid (x:HOk P w H h) (k:∀b u,h.get? b=some u→h'.get? b=some u) (hp:h.objs.size≤a) (new:ObjOk P w (upd H a o) h' a o) : HOk P w (upd H a o) h':=fun b u e=>by
  have hn:=x.fresh hp
  by_cases hb:b=a
  · subst hb; rw[upd_same] at e; cases e; exact new
  · rw[upd_ne hb] at e
    exact (x b u e).stay (fun c v _ q=>k c v q) (fun c q=>by rw[upd_ne (ne_of_none q hn)]; exact q) fun c xs q=>by rw[upd_ne (ne_of_none q hn)]; exact q
end
def Rd (H:Hp) (a:Addr) (u:HO) : Prop:=H a=some u∨∃o,H a=some (.frz o u)
theorem Rd.of {H:Hp} {a:Addr} {u:HO} (h:H a=some u) : Rd H a u:=.inl h
theorem Rd.ok {P:Program} {w:World} {H:Hp} {h:Heap} {a:Addr} {u:HO} (r:Rd H a u) (x:HOk P w H h) : ObjOk P w H h a u:=by
  rcases r with r | ⟨o,r⟩
  · exact x a u r
  · obtain ⟨_,q⟩:=x a _ r
    exact q
def Mut:Option HO→Prop
  | some (.lst _)=>True
  | some (.dK _)=>True
  | some (.dT _)=>True
  | some (.set _ _)=>True
  | some (.ins _ _ _)=>True
  | some (.ext _)=>True
  | _=>False
section
variable {P:Program} {w:World} {H:Hp} {h h':Heap} {x e:Addr} {o':HO}
theorem HOk.write (ok:HOk P w H h) (mu:Mut (H x)) (he:e=x∨H e=some (.own x)) (k:∀b u,b≠e→h.get? b=some u→h'.get? b=some u) (heo:∃u,h'.get? e=some u)
    (new:ObjOk P w (upd H x o') h' x o') : HOk P w (upd H x o') h':=fun b u q=>by
  have nown:∀c y,H c=some (.own y)→c≠x:=fun c y r z=>by subst z; rw[r] at mu; exact mu
  have ntup:∀c xs,H c=some (.tup xs)→c≠x:=fun c xs r z=>by subst z; rw[r] at mu; exact mu
  by_cases hb:b=x
  · subst hb; rw[upd_same] at q; cases q; exact new
  · rw[upd_ne hb] at q
    by_cases hbe:b=e
    · have q':H b=some (.own x):=by
        rcases he with z | z
        · exact absurd (hbe.trans z) hb
        · rw[hbe]; exact z
      rw[q] at q'; cases q'
      obtain ⟨v,hv⟩:=heo
      exact ⟨v,by rw[hbe]; exact hv⟩
    · refine (ok b u q).stay (fun c v hc r => k c v ?_ r) (fun c r => by rw [upd_ne (nown c b r)]; exact r) fun c xs r => by rw [upd_ne (ntup c xs r)]; exact r
      rcases hc with rfl | hc
      · exact hbe
      · rintro rfl
        rcases he with z | z
        · exact nown c b hc z
        · rw[hc] at z; cases z; exact hb rfl
end
structure Un (fs ex:List Addr) (H H':Hp) (h h':Heap) : Prop where
  keep:∀b o,h.get? b=some o→H b=none→b∉fs→b∉ex→h'.get? b=some o
  slot:∀b o,h.get? b=some o→H b=none→b∈fs→b∉ex→∃sl,h'.get? b=some { o with slots:=sl }
  free:∀b o,h.get? b=some o→H b=none→b∉ex→H' b=none
  there:∀b o,h.get? b=some o→b∉ex→∃o',h'.get? b=some o'
  tups:∀b xs,H b=some (.tup xs)→H' b=some (.tup xs)
  frzs:∀b o u,H b=some (.frz o u)→H' b=some (.frz o u)
  tbls:∀b ps,H b=some (.tbl ps)→∃more,H' b=some (.tbl (ps++more))
section
variable {fs fs' ex ex':List Addr} {H H1 H2:Hp} {h h1 h2 h':Heap} {a x e:Addr} {o:HO}
theorem Un.any (u:Un fs ex H H1 h h1) {b:Addr} {ob:Obj} (q:h.get? b=some ob) (n:H b=none) (hx:b∉ex) : ∃sl,h1.get? b=some { ob with slots:=sl }:=by
  by_cases hb:b∈fs
  · exact u.slot b ob q n hb hx
  · exact ⟨ob.slots,u.keep b ob q n hb hx⟩
theorem Un.trans (a:Un fs ex H H1 h h1) (b:Un fs ex H1 H2 h1 h2) : Un fs ex H H2 h h2 where
  keep:=fun c ob q n hc hx=>b.keep c ob (a.keep c ob q n hc hx) (a.free c ob q n hx) hc hx
  slot:=fun c ob q n hc hx=>by
    obtain ⟨sl,e1⟩:=a.slot c ob q n hc hx
    obtain ⟨sl',e2⟩:=b.slot c _ e1 (a.free c ob q n hx) hc hx
    exact ⟨sl',e2⟩
  free:=fun c ob q n hx=>by
    obtain ⟨o',e1⟩:=a.there c ob q hx
    exact b.free c o' e1 (a.free c ob q n hx) hx
  there:=fun c ob q hx=>by
    obtain ⟨o',e1⟩:=a.there c ob q hx
    exact b.there c o' e1 hx
  tups:=fun c xs q=>b.tups c xs (a.tups c xs q)
  frzs:=fun c ob xs q=>b.frzs c ob xs (a.frzs c ob xs q)
  tbls:=fun c ps q=>by
    obtain ⟨m1,e1⟩:=a.tbls c ps q
    obtain ⟨m2,e2⟩:=b.tbls c _ e1
    exact ⟨m1++m2,by rw[e2,Array.append_assoc]⟩
theorem Un.kept (k:∀b u,h.get? b=some u→h'.get? b=some u) : Un fs ex H H h h':=
  ⟨fun b ob q _ _ _=>k b ob q,fun b ob q _ _ _=>⟨ob.slots,k b ob q⟩,fun _ _ _ n _=>n,fun b ob q _=>⟨ob,k b ob q⟩,fun _ _ q=>q,fun _ _ _ q=>q,fun _ ps q=>⟨#[],by rw[q]; simp⟩⟩
theorem Un.refl:Un fs ex H H h h:=Un.kept fun _ _ q=>q
theorem Un.laid (k:∀b u,h.get? b=some u→h'.get? b=some u) (hp:h.objs.size≤a) (hn:H a=none) : Un fs ex H (upd H a o) h h' where
  keep:=fun b u q _ _ _=>k b u q
  slot:=fun b u q _ _ _=>⟨u.slots,k b u q⟩
  free:=fun b u q n _=>by rw[upd_ne (Nat.ne_of_lt (Nat.lt_of_lt_of_le (Heap.lt_size q) hp))]; exact n
  there:=fun b u q _=>⟨u,k b u q⟩
  tups:=fun b xs q=>by rw[upd_ne (ne_of_none q hn)]; exact q
  frzs:=fun b u xs q=>by rw[upd_ne (ne_of_none q hn)]; exact q
  tbls:=fun b ps q=>⟨#[],by rw[upd_ne (ne_of_none q hn),q]; simp⟩
theorem Un.write (mu:Mut (H x)) (he:e=x∨H e=some (.own x)) (k:∀b u,b≠e→h.get? b=some u→h'.get? b=some u) (heo:∃u,h'.get? e=some u) : Un fs ex H (upd H x o) h h':=by
  have hx:∀b,H b=none→b≠x:=fun b n z=>by subst z; rw[n] at mu; exact mu
  have hb:∀b,H b=none→b≠e:=fun b n z=>by
    subst z
    rcases he with r | r
    · exact hx b n r
    · rw[n] at r; cases r
  have hm:∀b u,H b=some u→¬Mut (some u)→b≠x:=fun b u q nm z=>by subst z; rw[q] at mu; exact nm mu
  refine ⟨fun b u q n _ _=>k b u (hb b n) q,fun b u q n _ _=>⟨u.slots,k b u (hb b n) q⟩,fun b u q n _=>by rw[upd_ne (hx b n)]; exact n,fun b u q _=>?_,
    fun b xs q=>by rw[upd_ne (hm b _ q fun z=>z)]; exact q,fun b u xs q=>by rw[upd_ne (hm b _ q fun z=>z)]; exact q,fun b ps q=>⟨#[],by rw[upd_ne (hm b _ q fun z=>z),q]; simp⟩⟩
  by_cases hbe:b=e
  · subst hbe; exact heo
  · exact ⟨u,k b u hbe q⟩
end
def trk (h:Heap) (H:Hp) : List Addr:=(List.range h.objs.size).filter fun a=>(H a).isSome
def hidT (h:Heap) (H:Hp) : Heap:=PySem.W.hideAll h (trk h H)
theorem hidT_size (h:Heap) (H:Hp) : (hidT h H).objs.size=h.objs.size:=PySem.W.hideAll_size _ _
theorem hidT_get {h:Heap} {H:Hp} {b:Addr} {o:Obj} (e:h.get? b=some o) (n:H b=none) : (hidT h H).get? b=some o:=
  PySem.W.hideAll_get _ e fun hm=>by
    have q:(H b).isSome=true:=(List.mem_filter.mp hm).2
    rw[n] at q; simp at q
theorem of_hidT {h:Heap} {H:Hp} {b:Addr} {o:Obj} (e:(hidT h H).get? b=some o) : h.get? b=some o∧H b=none:=by
  have e':h.get? b=some o:=PySem.W.of_hideAll (trk h H) e
  refine ⟨e',?_⟩
  cases q:H b with
  | none=>rfl
  | some x =>
    have hm:b∈trk h H:=List.mem_filter.mpr ⟨List.mem_range.mpr (Heap.lt_size e'),by simp[q]⟩
    have z:(hidT h H).get? b=none:=PySem.W.hideAll_none (trk h H) hm
    rw[z] at e; cases e
def allNews (g h:Heap) (L:Addr) : List (Addr×Obj):=(List.range h.objs.size).filterMap fun a=>if a=L∨(g.get? a).isSome=true then none else (h.get? a).map fun o=>(a,o)
def rest (g h:Heap) (L d:Addr) : List (Addr×Obj):=(allNews g h L).filter fun p=>decide (p.1≠d)
end L2
namespace L2
open PySem PySem.Spec PyProof.Rows
structure Mod (K:PySem.W.Frag) (mg:Str→Option Value) (base:Heap) : Prop where
  kin:K.In base
  glob:base.Ns mainGlobals mg
  blt:∃mb,base.Ns builtinsNs mb∧∀x:Str,x≠"__name__"→mb x=bootBuiltins x
  nolimit:base.NoLimit
structure Cx where
  prog:Program
  w:World
  K:PySem.W.Frag
  mg:Str→Option Value
  base:Heap
  A:Around
  N:List Str
  s₀:Shared
  H₀:Hp
  env:Env
  outer:List Env
  stack:List Env
  ex:List Addr
  fn:Str→Bool
  calm:Bool
  pn:List (Addr×Obj)
  xe:Value→Shared→Prop
def frs (l:List Env) : List Addr:=l.filterMap (·.frame)
abbrev Cx.fs (X:Cx) : List Addr:=frs X.outer
def Vis (sc:Scope) (x:Str) : Prop:=sc.names.lookup x=some .local∨sc.names.lookup x=some .cell∨sc.names.lookup x=some .free
def Loc (sc:Scope) (x:Str) : Prop:=sc.names.lookup x=some .local∨sc.names.lookup x=some .cell
def Look (env:Env) (h:Heap) (m:Str→Option Value) (x:Str) (u:Value) : Prop:=
  (env.kindOf x=some .local∧m x=some u)∨((env.kindOf x=some .cell∨env.kindOf x=some .free)∧∃c,env.cells.lookup x=some c∧h.IsCell c (some u))
structure Cx.Ok (X:Cx) : Prop where
  mod:Mod X.K X.mg X.base
  kind:X.env.scope.kind=.function
  glob:X.env.globals=mainGlobals
  blt:X.env.builtins=builtinsNs
  above:X.s₀.heap.objs.size≤X.env.locals
  inj:∀x y c,X.env.cells.lookup x=some c→X.env.cells.lookup y=some c→x=y
  has:∀x,(X.env.kindOf x=some .cell∨X.env.kindOf x=some .free)→∃c,X.env.cells.lookup x=some c
  cab:∀x c,X.fn x=true→X.env.cells.lookup x=some c→X.s₀.heap.objs.size≤c
  hd:X.calm=true→X.A.handled=none
  frames:X.A.frames=some X.stack
  stk:X.stack=X.outer∨(X.stack=X.env::X.outer∧X.env.frame=some X.env.locals)
  exf:∀b∈X.ex,b≠X.env.locals∧∀x c,X.env.cells.lookup x=some c→c≠b
  bs:∀b o,X.base.get? b=some o→X.s₀.heap.get? b=some o∧X.H₀ b=none
  bsz:X.base.objs.size≤X.s₀.heap.objs.size
  noex:∀b o,X.base.get? b=some o→b∉X.ex
  exfs:∀b∈X.ex,b∉X.fs
  funs:X.s₀.heap.FunFrames X.base X.outer
  frf:∀b∈X.fs,X.H₀ b=none
structure Inv (X:Cx) (pins:List (Addr×Obj)) (σ:List (Option V)) (H:Hp) (s:Shared) : Prop where
  ok:X.Ok
  os:s.os=X.s₀.os
  bare:AllBare s.gens
  base:Un X.fs X.ex X.H₀ H X.s₀.heap s.heap
  loc:∃m,s.heap.Ns X.env.locals m∧∀(i:Nat) (x:Str) (v:V),X.N[i]?=some x→σ[i]?=some (some v)→Vis X.env.scope x→∃u,RelV v u∧Look X.env s.heap m x u
  cell:∀x c,X.env.cells.lookup x=some c→∃v,s.heap.IsCell c v
  free:H X.env.locals=none
  freeC:∀x c,X.env.cells.lookup x=some c→H c=none
  pin:∀p∈X.pn++pins,s.heap.get? p.1=some p.2∧H p.1=none∧p.1≠X.env.locals∧p.1∉X.fs∧∀v,p.2.data≠.cell v
  hok:HOk X.prog X.w H s.heap
  len:σ.length=X.N.length
section
variable {X:Cx} {pins:List (Addr×Obj)} {σ:List (Option V)} {H H':Hp} {s:Shared} {h':Heap}
theorem Cx.Ok.nofr (ok:X.Ok) {b:Addr} {o:Obj} (e:X.base.get? b=some o) : b∉X.fs:=fun hb=>by
  have:=(ok.funs.mem hb).1
  rw[e] at this; cases this
theorem Inv.bs (I:Inv X pins σ H s) : ∀b o,X.base.get? b=some o→s.heap.get? b=some o∧H b=none:=fun b o e =>
  ⟨I.base.keep b o (I.ok.bs b o e).1 (I.ok.bs b o e).2 (I.ok.nofr e) (I.ok.noex b o e),I.base.free b o (I.ok.bs b o e).1 (I.ok.bs b o e).2 (I.ok.noex b o e)⟩
theorem Inv.bk (I:Inv X pins σ H s) : ∀b o,X.base.get? b=some o→s.heap.get? b=some o:=fun b o e=>(I.bs b o e).1
theorem Inv.mod (I:Inv X pins σ H s) : Mod X.K X.mg X.base:=I.ok.mod
theorem Inv.kIn (I:Inv X pins σ H s) : X.K.In s.heap:=I.ok.mod.kin.keeps I.bk
theorem Inv.nolimit (I:Inv X pins σ H s) : s.heap.NoLimit:=I.ok.mod.nolimit.keeps I.bk
theorem Inv.lt (I:Inv X pins σ H s) : X.env.locals<s.heap.objs.size:=let ⟨_,hn,_⟩:=I.loc; hn.lt
theorem Inv.sz (I:Inv X pins σ H s) : X.s₀.heap.objs.size≤s.heap.objs.size:=Nat.le_trans I.ok.above (Nat.le_of_lt I.lt)
theorem Inv.nofs (I:Inv X pins σ H s) {a:Addr} (h:s.heap.objs.size≤a) : a∉X.fs:=fun hb=>by
  obtain ⟨_,o,ho,_⟩:=I.ok.funs.mem hb
  exact absurd (Nat.lt_of_lt_of_le (Heap.lt_size ho) (Nat.le_trans I.sz h)) (Nat.lt_irrefl _)
theorem Inv.cne (I:Inv X pins σ H s) : ∀x c,X.env.cells.lookup x=some c→c≠X.env.locals:=fun x c e z=>by
  obtain ⟨v,o,ho,hd⟩:=I.cell x c e
  obtain ⟨m,⟨o',es,ep,ho',hd',_⟩,_⟩:=I.loc
  rw[z,ho'] at ho; cases ho; rw[hd'] at hd; cases hd
theorem Inv.funs (I:Inv X pins σ H s) : s.heap.FunFrames X.base X.outer:=by
  have all:∀(l:List Env),(∀b∈frs l,b∈X.fs)→X.s₀.heap.FunFrames X.base l→s.heap.FunFrames X.base l:=by
    intro l
    induction l with
    | nil=>intro _ _; trivial
    | cons env r ih =>
      intro hs hl
      obtain ⟨hk,⟨L,o,hf,hn,ho,hd⟩,hr⟩:=hl
      have hL:L∈X.fs:=hs L (by unfold frs; rw[List.filterMap_cons,hf]; exact List.mem_cons_self)
      obtain ⟨sl,e⟩:=I.base.slot L o ho (I.ok.frf L hL) hL fun z=>I.ok.exfs L z hL
      exact ⟨hk,⟨L,_,hf,hn,e,hd⟩,ih (fun b hb=>hs b (by unfold frs; rw[List.filterMap_cons,hf]; exact List.mem_cons_of_mem _ hb)) hr⟩
  exact all X.outer (fun _ hb=>hb) I.ok.funs
theorem Inv.stack (I:Inv X pins σ H s) : s.heap.FunFrames X.base X.stack:=by
  rcases I.ok.stk with e | ⟨e,hf⟩
  · rw[e]; exact I.funs
  · rw[e]
    obtain ⟨m,hn,_⟩:=I.loc
    refine .cons (by rw[I.ok.kind]; decide) hf hn ?_ I.funs
    exact Heap.get?_none_of_le (Nat.le_trans I.ok.bsz I.ok.above)
theorem Inv.stkSub (I:Inv X pins σ H s) : ∀b∈frs X.stack,b∈X.env.locals::X.fs:=fun b hb=>by
  rcases I.ok.stk with e | ⟨e,hf⟩
  · rw[e] at hb; exact List.mem_cons_of_mem _ hb
  · rw[e] at hb
    unfold frs at hb
    rw[List.filterMap_cons,hf] at hb
    exact hb
theorem Inv.stkFree (I:Inv X pins σ H s) : ∀b∈frs X.stack,H b=none:=fun b hb=>by
  rcases List.mem_cons.mp (I.stkSub b hb) with e | hb
  · rw[e]; exact I.free
  · obtain ⟨_,o,ho,_⟩:=I.ok.funs.mem hb
    exact I.base.free b o ho (I.ok.frf b hb) fun z=>I.ok.exfs b z hb
theorem Inv.step {g':Array GenState} {t':Nat} {d':Drawn} {ch:List Addr} (I:Inv X pins σ H s)
    (hch:∀b∈ch,(b∈X.ex∨X.s₀.heap.objs.size≤b)∧b≠X.env.locals∧(∀x c,X.env.cells.lookup x=some c→c≠b)∧∀p∈X.pn++pins,p.1≠b)
    (keep:∀b o,b≠X.env.locals→b∉X.fs→b∉ch→s.heap.get? b=some o→H b=none→h'.get? b=some o)
    (slot:∀b o,b≠X.env.locals→b∈X.fs→b∉ch→s.heap.get? b=some o→H b=none→∃sl,h'.get? b=some { o with slots:=sl }) (free:∀b o,b∉ch→s.heap.get? b=some o→H b=none→H' b=none)
    (there:∀b o,b∉ch→s.heap.get? b=some o→∃o',h'.get? b=some o')
    (tups:∀b xs,H b=some (.tup xs)→H' b=some (.tup xs)) (frzs:∀b o u,H b=some (.frz o u)→H' b=some (.frz o u)) (tbls:∀b ps,H b=some (.tbl ps)→∃more,H' b=some (.tbl (ps++more)))
    (ns:∀m,s.heap.Ns X.env.locals m→h'.Ns X.env.locals m) (hok:HOk X.prog X.w H' h') (hg:AllBare g') :
    Inv X pins σ H' { s with heap:=h',gens:=g',drawn:=d',toks:=t' }:=by
  have neL:∀b o,X.s₀.heap.get? b=some o→b≠X.env.locals:=fun b o e=>Nat.ne_of_lt (Nat.lt_of_lt_of_le (Heap.lt_size e) I.ok.above)
  have neC:∀b o,X.s₀.heap.get? b=some o→b∉X.ex→b∉ch:=fun b o e hx hb=>by
    rcases (hch b hb).1 with z | z
    · exact hx z
    · exact absurd (Nat.lt_of_lt_of_le (Heap.lt_size e) z) (Nat.lt_irrefl _)
  have cellK:∀x c,X.env.cells.lookup x=some c→∀v,s.heap.IsCell c v→h'.IsCell c v:=fun x c e v ⟨o,ho,hd⟩=>by
    have nch:c∉ch:=fun z=>(hch c z).2.2.1 x c e rfl
    by_cases hc:c∈X.fs
    · obtain ⟨sl,q⟩:=slot c o (I.cne x c e) hc nch ho (I.freeC x c e)
      exact ⟨_,q,hd⟩
    · exact ⟨o,keep c o (I.cne x c e) hc nch ho (I.freeC x c e),hd⟩
  refine ⟨I.ok,I.os,hg,⟨fun b o e n hb hx=>?_,fun b o e n hb hx=>?_,fun b o e n hx=>?_,fun b o e hx=>?_,fun b xs e=>tups b xs (I.base.tups b xs e),fun b o xs e=>frzs b o xs (I.base.frzs b o xs e),fun b ps e=>?_⟩,?_,fun x c e=>?_,?_,fun x c e=>?_,fun p hp=>?_,hok,I.len⟩
  · exact keep b o (neL b o e) hb (neC b o e hx) (I.base.keep b o e n hb hx) (I.base.free b o e n hx)
  · obtain ⟨sl,e1⟩:=I.base.slot b o e n hb hx
    obtain ⟨sl',e2⟩:=slot b _ (neL b o e) hb (neC b o e hx) e1 (I.base.free b o e n hx)
    exact ⟨sl',e2⟩
  · obtain ⟨o',e1⟩:=I.base.there b o e hx
    exact free b o' (neC b o e hx) e1 (I.base.free b o e n hx)
  · obtain ⟨o',e1⟩:=I.base.there b o e hx
    exact there b o' (neC b o e hx) e1
  · obtain ⟨m1,e1⟩:=I.base.tbls b ps e
    obtain ⟨m2,e2⟩:=tbls b _ e1
    exact ⟨m1++m2,by rw[e2,Array.append_assoc]⟩
  · obtain ⟨m,hn,hl⟩:=I.loc
    refine ⟨m,ns m hn,fun i x v e1 e2 e3=>?_⟩
    obtain ⟨u,r,l⟩:=hl i x v e1 e2 e3
    refine ⟨u,r,?_⟩
    rcases l with l | ⟨k,c,e,z⟩
    · exact .inl l
    · exact .inr ⟨k,c,e,cellK x c e _ z⟩
  · obtain ⟨v,z⟩:=I.cell x c e
    exact ⟨v,cellK x c e v z⟩
  · obtain ⟨m,⟨o,_,_,ho,_⟩,_⟩:=I.loc
    exact free _ o (fun z=>(hch _ z).2.1 rfl) ho I.free
  · obtain ⟨v,o,ho,hd⟩:=I.cell x c e
    exact free c o (fun z=>(hch c z).2.2.1 x c e rfl) ho (I.freeC x c e)
  · obtain ⟨e,n,ne,nf,d⟩:=I.pin p hp
    have nch:p.1∉ch:=fun z=>(hch p.1 z).2.2.2 p hp rfl
    exact ⟨keep p.1 p.2 ne nf nch e n,free p.1 p.2 nch e n,ne,nf,d⟩
theorem Inv.un {t':Nat} (I:Inv X pins σ H s) (u:Un X.fs [] H H' s.heap h') (hok:HOk X.prog X.w H' h') : Inv X pins σ H' { s with heap:=h',toks:=t' }:=by
  obtain ⟨m,⟨o,es,ep,ho,r⟩,_⟩:=id I.loc
  obtain ⟨sl,hL⟩:=u.any ho I.free (by simp)
  exact I.step (g':=s.gens) (d':=s.drawn) (ch:=[]) (fun _ z=>nomatch z) (fun b o _ hb _ e n=>u.keep b o e n hb (by simp)) (fun b o _ hb _ e n=>u.slot b o e n hb (by simp)) (fun b o _ e n=>u.free b o e n (by simp)) (fun b o _ e=>u.there b o e (by simp)) u.tups u.frzs u.tbls (fun m' hm=>by
    obtain ⟨o',es',ep',ho',r'⟩:=hm
    rw[ho] at ho'; cases ho'
    exact ⟨_,es',ep',hL,r'⟩) hok I.bare
theorem Inv.call {g':Array GenState} {t':Nat} {d':Drawn} {ch:List Addr} (I:Inv X pins σ H s) (u:Un (frs X.stack) ch H H' s.heap h') (hok:HOk X.prog X.w H' h') (hg:AllBare g')
    (hch:∀b∈ch,(b∈X.ex∨X.s₀.heap.objs.size≤b)∧b≠X.env.locals∧(∀x c,X.env.cells.lookup x=some c→c≠b)∧∀p∈X.pn++pins,p.1≠b) :
    Inv X pins σ H' { s with heap:=h',gens:=g',drawn:=d',toks:=t' }:=by
  obtain ⟨m,⟨o,es,ep,ho,r⟩,_⟩:=id I.loc
  obtain ⟨sl,hL⟩:=u.any ho I.free fun z=>(hch _ z).2.1 rfl
  exact I.step (ch:=ch) hch (fun b o hL hb hc e n=>u.keep b o e n (fun z=>(List.mem_cons.mp (I.stkSub b z)).elim hL hb) hc) (fun b o _ _ hc e n=>u.any e n hc) (fun b o hc e n=>u.free b o e n hc) (fun b o hc e=>u.there b o e hc) u.tups u.frzs u.tbls (fun m' hm=>by
    obtain ⟨o',es',ep',ho',r'⟩:=hm
    rw[ho] at ho'; cases ho'
    exact ⟨_,es',ep',hL,r'⟩) hok hg
theorem Inv.turned {t':Nat} {it:Addr} (I:Inv X pins σ H s) (k:∀b o,b≠it→s.heap.get? b=some o→h'.get? b=some o) (hn:H it=none) (hL:it≠X.env.locals)
    (h1:it∈X.ex∨X.s₀.heap.objs.size≤it) (h2:∀x c,X.env.cells.lookup x=some c→c≠it) (h3:∀p∈X.pn++pins,p.1≠it) : Inv X pins σ H { s with heap:=h',toks:=t' }:=by
  have nit:∀b u,H b=some u→b≠it:=fun b u e z=>by rw[z,hn] at e; cases e
  refine I.step (g':=s.gens) (d':=s.drawn) (ch:=[it]) (fun b hb=>?_) (fun b o _ _ hc e _=>k b o (fun z=>hc (by simp[z])) e) (fun b o _ _ hc e _=>⟨o.slots,k b o (fun z=>hc (by simp[z])) e⟩) (fun _ _ _ _ n=>n)
    (fun b o hc e=>⟨o,k b o (fun z=>hc (by simp[z])) e⟩) (fun _ _ e=>e) (fun _ _ _ e=>e) (fun b ps e=>⟨#[],by rw[e]; simp⟩) (fun m hm=>?_) (fun b u e=>?_) I.bare
  · have e : b = it := by simpa using hb
    subst e
    exact ⟨h1,hL,h2,h3⟩
  · obtain ⟨o,es,ep,ho,r⟩:=hm
    exact ⟨o,es,ep,k _ o (Ne.symm hL) ho,r⟩
  · refine (I.hok b u e).stay (fun c v hc q=>k c v ?_ q) (fun _ q=>q) fun _ _ q=>q
    rcases hc with z | z
    · rw[z]; exact nit b u e
    · exact nit c _ z
theorem Inv.tok (I:Inv X pins σ H s) (t:Nat) : Inv X pins σ H { s with toks:=t }:=I.un (h':=s.heap) (t':=t) Un.refl I.hok
theorem Inv.kept {t':Nat} (I:Inv X pins σ H s) (k:∀b u,s.heap.get? b=some u→h'.get? b=some u) : Inv X pins σ H { s with heap:=h',toks:=t' }:=I.un (Un.kept k) (I.hok.kept k)
theorem Inv.laid {a:Addr} {o:HO} {t':Nat} (I:Inv X pins σ H s) (k:∀b u,s.heap.get? b=some u→h'.get? b=some u) (hp:s.heap.objs.size≤a) (new:ObjOk X.prog X.w (upd H a o) h' a o) :
    Inv X pins σ (upd H a o) { s with heap:=h',toks:=t' }:=I.un (Un.laid k hp (I.hok.fresh hp)) (I.hok.laid k hp new)
theorem Inv.write {x e:Addr} {o:HO} {t':Nat} (I:Inv X pins σ H s) (mu:Mut (H x)) (he:e=x∨H e=some (.own x)) (k:∀b u,b≠e→s.heap.get? b=some u→h'.get? b=some u) (heo:∃u,h'.get? e=some u)
    (new:ObjOk X.prog X.w (upd H x o) h' x o) : Inv X pins σ (upd H x o) { s with heap:=h',toks:=t' }:=I.un (Un.write mu he k heo) (I.hok.write mu he k heo new)
theorem Inv.pins_of {pins':List (Addr×Obj)} (I:Inv X pins σ H s) (h:∀p∈pins',s.heap.get? p.1=some p.2∧H p.1=none∧p.1≠X.env.locals∧p.1∉X.fs∧∀v,p.2.data≠.cell v) : Inv X pins' σ H s:=
  ⟨I.ok,I.os,I.bare,I.base,I.loc,I.cell,I.free,I.freeC,fun p hp=>(List.mem_append.mp hp).elim (fun z=>I.pin p (List.mem_append_left _ z)) (h p),I.hok,I.len⟩
theorem nodup_ix {N:List Str} (hN:N.Nodup) {i j:Nat} {x:Str} (a:N[i]?=some x) (b:N[j]?=some x) : i=j:=by
  obtain ⟨h1,e1⟩:=List.getElem?_eq_some_iff.mp a
  obtain ⟨h2,e2⟩:=List.getElem?_eq_some_iff.mp b
  exact (List.getElem_inj hN).mp (e1.trans e2.symm)
theorem store_ok2 {M:Model} {A:Around} {E:Value→Shared→Prop} {i:Nat} {x:Str} {v:V} {u:Value} {Q:Unit→Shared→Prop} (I:Inv X pins σ H s) (hN:X.N.Nodup) (hi:X.N[i]?=some x) (hx:Loc X.env.scope x) (r:RelV v u)
    (h:∀s',Inv X pins (σ.set i (some v)) H s'→(∃a,Heap.SameBut a s.heap s'.heap∧(a=X.env.locals∨X.env.cells.lookup x=some a))→Q () s') (hf:X.fn x=true∨X.env.scope.names.lookup x=some .local:=by first | exact .inl rfl | exact .inr rfl | assumption) : wpAny M A (storeName X.env x u) Q E s:=by
  obtain ⟨m,hn,hl⟩:=id I.loc
  have hcls:(X.env.scope.kind == .class || (X.env.scope.kind == .module && X.env.locals != X.env.globals))=false:=by rw[I.ok.kind]; rfl
  have hiσ:i<σ.length:=by rw[I.len]; exact (List.getElem?_eq_some_iff.mp hi).1
  have cne:=I.cne
  have tracked:∀{a:Addr} {h':Heap},(∃o,s.heap.get? a=some o∧H a=none)→Heap.SameBut a s.heap h'→HOk X.prog X.w H h':=fun {a h'} ha hs b ob e=>by
    obtain ⟨_,_,hfree⟩:=ha
    refine (I.hok b ob e).stay (fun c w' hc q=>(hs.2 c ?_).trans q) (fun _ q=>q) fun _ _ q=>q
    rintro rfl
    rcases hc with rfl | hc
    · rw[hfree] at e; cases e
    · rw[hfree] at hc; cases hc
  rcases hx with hk | hk
  · refine wpAny_storeName_local hk hn (fun h' hn' hs=>?_) hcls
    obtain ⟨oL,_,_,hoL,_⟩:=id hn
    refine h _ ⟨I.ok,I.os,I.bare,⟨fun b o e n hb hx=>?_,fun b o e n hb hx=>?_,I.base.free,fun b o e hx=>?_,I.base.tups,I.base.frzs,I.base.tbls⟩,⟨_,hn',fun j y v' e1 e2 e3=>?_⟩,fun y c e=>?_,I.free,I.freeC,fun p hp=>?_,tracked ⟨oL,hoL,I.free⟩ hs,by simpa using I.len⟩ ⟨_,hs,.inl rfl⟩
    · exact (hs.2 b (Nat.ne_of_lt (Nat.lt_of_lt_of_le (Heap.lt_size e) I.ok.above))).trans (I.base.keep b o e n hb hx)
    · obtain ⟨sl,e1⟩:=I.base.slot b o e n hb hx
      exact ⟨sl,(hs.2 b (Nat.ne_of_lt (Nat.lt_of_lt_of_le (Heap.lt_size e) I.ok.above))).trans e1⟩
    · obtain ⟨o',e1⟩:=I.base.there b o e hx
      exact ⟨o',(hs.2 b (Nat.ne_of_lt (Nat.lt_of_lt_of_le (Heap.lt_size e) I.ok.above))).trans e1⟩
    · by_cases hj:j=i
      · subst hj
        rw[hi] at e1; cases e1
        rw[List.getElem?_set_self hiσ] at e2
        cases e2
        exact ⟨u,r,.inl ⟨hk,by simp⟩⟩
      · rw[List.getElem?_set_ne (Ne.symm hj)] at e2
        obtain ⟨u',r',q⟩:=hl j y v' e1 e2 e3
        refine ⟨u',r',?_⟩
        rcases q with ⟨k,e⟩ | ⟨k,c,e,z⟩
        · refine .inl ⟨k,?_⟩
          have:y≠x:=fun e=>hj (nodup_ix hN e1 (e ▸ hi))
          simp[this,e]
        · exact .inr ⟨k,c,e,z.sameBut hs (cne y c e)⟩
    · obtain ⟨w',z⟩:=I.cell y c e
      exact ⟨w',z.sameBut hs (cne y c e)⟩
    · obtain ⟨e,n,ne,nf,d⟩:=I.pin p hp
      exact ⟨(hs.2 p.1 ne).trans e,n,ne,nf,d⟩
  · have hfn:X.fn x=true:=by
      rcases hf with z | z
      · exact z
      · rw[z] at hk; cases hk
    obtain ⟨c,hc⟩:=I.ok.has x (.inl hk)
    obtain ⟨w',z⟩:=I.cell x c hc
    refine wpAny_storeName_cell I.ok.kind hk hc z (fun h' hc' hs=>?_)
    obtain ⟨oc,hoc,hocd⟩:=id z
    refine h { s with heap:=h' } ⟨I.ok,I.os,I.bare,⟨fun b o e n hb hx=>?_,fun b o e n hb hx=>?_,I.base.free,fun b o e hx=>?_,I.base.tups,I.base.frzs,I.base.tbls⟩,⟨m,hn.sameBut hs (Ne.symm (cne x c hc)),fun j y v' e1 e2 e3=>?_⟩,fun y c' e=>?_,I.free,I.freeC,fun p hp=>?_,tracked ⟨oc,hoc,I.freeC x c hc⟩ hs,by simpa using I.len⟩ ⟨c,hs,.inr hc⟩
    · exact (hs.2 b (Nat.ne_of_lt (Nat.lt_of_lt_of_le (Heap.lt_size e) (I.ok.cab x c hfn hc)))).trans (I.base.keep b o e n hb hx)
    · obtain ⟨sl,e1⟩:=I.base.slot b o e n hb hx
      exact ⟨sl,(hs.2 b (Nat.ne_of_lt (Nat.lt_of_lt_of_le (Heap.lt_size e) (I.ok.cab x c hfn hc)))).trans e1⟩
    · obtain ⟨o',e1⟩:=I.base.there b o e hx
      exact ⟨o',(hs.2 b (Nat.ne_of_lt (Nat.lt_of_lt_of_le (Heap.lt_size e) (I.ok.cab x c hfn hc)))).trans e1⟩
    · by_cases hj:j=i
      · subst hj
        rw[hi] at e1; cases e1
        rw[List.getElem?_set_self hiσ] at e2
        cases e2
        exact ⟨u,r,.inr ⟨.inl hk,c,hc,hc'⟩⟩
      · rw[List.getElem?_set_ne (Ne.symm hj)] at e2
        obtain ⟨u',r',q⟩:=hl j y v' e1 e2 e3
        refine ⟨u',r',?_⟩
        rcases q with q | ⟨k,c',e,z'⟩
        · exact .inl q
        · refine .inr ⟨k,c',e,z'.sameBut hs ?_⟩
          rintro rfl
          exact hj (nodup_ix hN e1 (I.ok.inj _ _ _ e hc ▸ hi))
    · by_cases hcc:c'=c
      · subst hcc; exact ⟨_,hc'⟩
      · obtain ⟨w2,z2⟩:=I.cell y c' e
        exact ⟨w2,z2.sameBut hs hcc⟩
    · obtain ⟨e,n,ne,nf,d⟩:=I.pin p hp
      refine ⟨(hs.2 p.1 ?_).trans e,n,ne,nf,d⟩
      intro q
      rw[q,hoc] at e
      have q':oc=p.2:=Option.some.inj e
      exact d w' (by rw[←q']; exact hocd)
theorem store_ok {M:Model} {A:Around} {E:Value→Shared→Prop} {i:Nat} {x:Str} {v:V} {u:Value} {Q:Unit→Shared→Prop} (I:Inv X pins σ H s) (hN:X.N.Nodup) (hi:X.N[i]?=some x) (hx:Loc X.env.scope x) (r:RelV v u)
    (h:∀s',Inv X pins (σ.set i (some v)) H s'→Q () s') (hf:X.fn x=true∨X.env.scope.names.lookup x=some .local:=by first | exact .inl rfl | exact .inr rfl | assumption) : wpAny M A (storeName X.env x u) Q E s:=
  store_ok2 I hN hi hx r (fun s' I' _=>h s' I') hf
theorem Inv.call' {s':Shared} {ch:List Addr} (I:Inv X pins σ H s) (ho:s'.os=s.os) (u:Un (frs X.stack) ch H H' s.heap s'.heap) (hok:HOk X.prog X.w H' s'.heap) (hg:AllBare s'.gens)
    (hch:∀b∈ch,(b∈X.ex∨X.s₀.heap.objs.size≤b)∧b≠X.env.locals∧(∀x c,X.env.cells.lookup x=some c→c≠b)∧∀p∈X.pn++pins,p.1≠b) : Inv X pins σ H' s':=by
  obtain ⟨h',g',d',t',o'⟩:=s'
  have e:o'=s.os:=ho
  subst e
  exact I.call (g':=g') (t':=t') (d':=d') u hok hg hch
end
abbrev XK:=Value→Option Addr→Hp→Prop
abbrev St:=List (Option V)
abbrev VK:=V→Hp→Prop
abbrev TE:=St→Hp→VK→Prop
abbrev TT:=St→Hp→(Bool→Hp→Prop)→Prop
abbrev TA:=St→Hp→(List V→Hp→Prop)→Prop
structure Ends where
  nx:St→Hp→Prop
  rt:VK
  bk:St→Hp→Prop:=fun _ _=>False
  ct:St→Hp→Prop:=fun _ _=>False
abbrev TS:=Ends→St→Hp→Prop
def EP (X:Cx) (pins:List (Addr×Obj)) (σ:St) (Q:VK) (u:Value) (s':Shared) : Prop:=∃v H',Inv X pins σ H' s'∧RelV v u∧Q v H'
def TP (X:Cx) (pins:List (Addr×Obj)) (σ:St) (Q:Bool→Hp→Prop) (b:Bool) (s':Shared) : Prop:=∃H',Inv X pins σ H' s'∧Q b H'
def AP (X:Cx) (pins:List (Addr×Obj)) (σ:St) (Q:List V→Hp→Prop) (us:List Value) (s':Shared) : Prop:=∃vs H',Inv X pins σ H' s'∧Vals vs us∧Q vs H'
def SP (X:Cx) (pins:List (Addr×Obj)) (D:Ends) (f:Flow) (s':Shared) : Prop:=
  match f with
  | .next=>∃σ' H',Inv X pins σ' H' s'∧D.nx σ' H'
  | .brk=>∃σ' H',Inv X pins σ' H' s'∧D.bk σ' H'
  | .cont=>∃σ' H',Inv X pins σ' H' s'∧D.ct σ' H'
  | .ret u=>∃v σ' H',Inv X pins σ' H' s'∧RelV v u∧D.rt v H'
def PE (X:Cx) (e:Expr) (t:TE) : Prop:=
  ∀(pins:List (Addr×Obj)) (s:Shared) (σ:St) (H:Hp) (Q:VK),Inv X pins σ H s→t σ H Q→wpAny (model X.prog X.w) X.A (eval e X.env) (EP X pins σ Q) X.xe s
def PT (X:Cx) (e:Expr) (t:TT) : Prop:=
  ∀(pins:List (Addr×Obj)) (s:Shared) (σ:St) (H:Hp) (Q:Bool→Hp→Prop),Inv X pins σ H s→t σ H Q→wpAny (model X.prog X.w) X.A (isTrue e X.env (eval e X.env)) (TP X pins σ Q) X.xe s
def PW (X:Cx) (e:Expr) (t:TT) : Prop:=
  ∀(whole:Sem Value) (pins:List (Addr×Obj)) (s:Shared) (σ:St) (H:Hp) (Q:Bool→Hp→Prop),Inv X pins σ H s→t σ H Q→wpAny (model X.prog X.w) X.A (isTrue e X.env whole) (TP X pins σ Q) X.xe s
theorem PW.pt {X:Cx} {e:Expr} {t:TT} (h:PW X e t) : PT X e t:=h _
def PA (X:Cx) (es:List Expr) (t:TA) : Prop:=
  ∀(pos:Pos) (pins:List (Addr×Obj)) (s:Shared) (σ:St) (H:Hp) (Q:List V→Hp→Prop),Inv X pins σ H s→t σ H Q→wpAny (model X.prog X.w) X.A (spliced (backTo pos (starEach es X.env))) (AP X pins σ Q) X.xe s
def PS (X:Cx) (st:Stmt) (t:TS) : Prop:=
  ∀(pins:List (Addr×Obj)) (s:Shared) (σ:St) (H:Hp) (D:Ends),Inv X pins σ H s→t D σ H→wpAny (model X.prog X.w) X.A (exec st X.env) (SP X pins D) X.xe s
def PSs (X:Cx) (st:List Stmt) (t:TS) : Prop:=
  ∀(pins:List (Addr×Obj)) (s:Shared) (σ:St) (H:Hp) (D:Ends),Inv X pins σ H s→t D σ H→wpAny (model X.prog X.w) X.A (execs st X.env) (SP X pins D) X.xe s
theorem thn {α:Type} {t:Sem α} {Q Q':α→Shared→Prop} {M:Model} {A:Around} {E:Value→Shared→Prop} {s:Shared} (h:wpAny M A t Q E s) (hQ:∀a s,Q a s→Q' a s) : wpAny M A t Q' E s:=wpAny_mono h hQ fun _ _ x=>x
end L2
namespace L2
open PySem PySem.Spec PyProof.Rows
section
variable {X:Cx}
theorem bin {a b:Expr} {ta tb:TE} (ha:PE X a ta) (hb:PE X b tb) {pins:List (Addr×Obj)} {s:Shared} {σ:St} {H:Hp} {R:V→V→Hp→Prop} (I:Inv X pins σ H s) (h:ta σ H fun x H1=>tb σ H1 fun y H2=>R x y H2)
    {α:Type} {Q:α→Shared→Prop} {f:Value→Value→Sem α}
    (hf:∀v u s2 x y H2,Inv X pins σ H2 s2→RelV x v→RelV y u→R x y H2→wpAny (model X.prog X.w) X.A (f v u) Q X.xe s2) :
    wpAny (model X.prog X.w) X.A (eval a X.env) (fun v s₁=>wpAny (model X.prog X.w) X.A (eval b X.env) (fun u s₂=>wpAny (model X.prog X.w) X.A (f v u) Q X.xe s₂) X.xe s₁) X.xe s:=by
  refine thn (ha pins s σ H _ I h) fun v s1 ⟨x,H1,I1,r1,q1⟩=>?_
  refine thn (hb pins s1 σ H1 _ I1 q1) fun u s2 ⟨y,H2,I2,r2,q2⟩=>?_
  exact hf v u s2 x y H2 I2 r1 r2 q2
def tVar (i:Nat) : TE:=fun σ H Q=>∃v,σ[i]?=some (some v)∧Q v H
def tC (v:V) : TE:=fun _ H Q=>Q v H
theorem pe_var {i:Nat} {x:Str} {pos:Pos} (hN:X.N[i]?=some x) (hv:Vis X.env.scope x) (hd:(x == ("__debug__" : Str))=false:=by decide) (hcd:(x == ("__classdict__" : Str))=false:=by decide) : PE X (.Name x pos) (tVar i):=by
  intro pins s σ H Q I h
  obtain ⟨v,e,h⟩:=h
  obtain ⟨m,hn,hl⟩:=I.loc
  obtain ⟨u,r,l⟩:=hl i x v hN e hv
  have fin:EP X pins σ Q u s:=⟨v,H,I,r,h⟩
  rcases l with ⟨hk,hm⟩ | ⟨hk,c,hc,hcell⟩
  · exact wpAny_Name (wpAny_loadName_local I.ok.kind hk hn hm fin) hd
  · rcases hk with hk | hk
    · exact wpAny_Name (wpAny_loadName_cell I.ok.kind hk hc hcell fin) hd
    · exact wpAny_Name (wpAny_loadName_free I.ok.kind hk hc hcell fin hcd) hd
theorem pe_int {i j pos} : PE X (.Constant (.int i) j pos) (tC (.int i)):=fun _ _ _ H _ I h=>wpAny_Constant_int ⟨.int i,H,I.tok _,⟨_,rfl⟩,h⟩
theorem pe_bl {b j pos} : PE X (.Constant (.bool b) j pos) (tC (.bl b)):=fun _ _ _ H _ I h=>Constant_bool ⟨.bl b,H,I,rfl,h⟩
theorem pe_non {j pos} : PE X (.Constant .none j pos) (tC .non):=fun _ _ _ H _ I h=>Constant_none ⟨.non,H,I,rfl,h⟩
def Gl (X:Cx) (x:Str) : Prop:=X.env.kindOf x=some .globalImplicit
theorem ld_glob {E:Value→Shared→Prop} {pins:List (Addr×Obj)} {s:Shared} {σ:St} {H:Hp} {x:Str} {u:Value} {pos:Pos} {Q:Value→Shared→Prop} (I:Inv X pins σ H s) (hg:Gl X x) (hm:X.mg x=some u) (h:Q u s)
    (hd:(x == ("__debug__" : Str))=false:=by decide) : wpAny (model X.prog X.w) X.A (eval (.Name x pos) X.env) Q E s:=
  Calls.Name_function_global I.ok.kind hg (Calls.loadGlobal_global (by rw[I.ok.glob]; exact I.mod.glob.keeps I.bk) hm h) hd
theorem ld_blt {E:Value→Shared→Prop} {pins:List (Addr×Obj)} {s:Shared} {σ:St} {H:Hp} {x:Str} {u:Value} {pos:Pos} {Q:Value→Shared→Prop} (I:Inv X pins σ H s) (hg:Gl X x) (hm:X.mg x=none) (hv:bootBuiltins x=some u) (h:Q u s)
    (hn:x≠"__name__":=by decide) (hd:(x == ("__debug__" : Str))=false:=by decide) : wpAny (model X.prog X.w) X.A (eval (.Name x pos) X.env) Q E s:=by
  obtain ⟨mb,h1,h2⟩:=I.mod.blt
  exact Calls.Name_function_global I.ok.kind hg (Calls.loadGlobal_builtin (by rw[I.ok.glob]; exact I.mod.glob.keeps I.bk) hm (by rw[I.ok.blt]; exact h1.keeps I.bk) ((h2 x hn).trans hv) h) hd
theorem pe_glob {x:Str} {v:V} {u:Value} {pos:Pos} (hg:Gl X x) (hm:X.mg x=some u) (r:RelV v u) (hd:(x == ("__debug__" : Str))=false:=by decide) : PE X (.Name x pos) (tC v):=
  fun _ _ _ H _ I h=>ld_glob I hg hm ⟨v,H,I,r,h⟩ hd
theorem pe_bltn {x:Str} {v:V} {u:Value} {pos:Pos} (hg:Gl X x) (hm:X.mg x=none) (hv:bootBuiltins x=some u) (r:RelV v u) (hn:x≠"__name__":=by decide) (hd:(x == ("__debug__" : Str))=false:=by decide) : PE X (.Name x pos) (tC v):=
  fun _ _ _ H _ I h=>ld_blt I hg hm hv ⟨v,H,I,r,h⟩ hn hd
variable {a b:Expr} {ta tb:TE} {pos:Pos}
def PC (X:Cx) (op:CmpOp) (a b:Expr) (t:TE) : Prop:=
  ∀(pins:List (Addr×Obj)) (s:Shared) (σ:St) (H:Hp) (Q:VK),Inv X pins σ H s→t σ H Q →
    wpAny (model X.prog X.w) X.A (eval a X.env) (fun v s₁=>wpAny (model X.prog X.w) X.A (eval b X.env) (fun u s₂=>wpAny (model X.prog X.w) X.A (compareOp op v u) (EP X pins σ Q) X.xe s₂) X.xe s₁) X.xe s
theorem nobehind (b:Expr) {op:CmpOp} (h:op≠.In) (h2:op≠.NotIn) : behindInMarks op b=false:=by
  have e1:(op == CmpOp.In)=false:=by cases op<;>first | rfl | exact absurd rfl h
  have e2:(op == CmpOp.NotIn)=false:=by cases op<;>first | rfl | exact absurd rfl h2
  cases b<;>simp[behindInMarks,e1,e2]
def tB (t:TE) : TT:=fun σ H Q=>t σ H fun x H1=>∃c,x=.bl c∧Q c H1
theorem pt_cmp {op:CmpOp} {t:TE} (h:PC X op a b t) (h1:behindInMarks op b=false:=by first | exact nobehind _ (by decide) (by decide) | rfl) : PT X (.Compare a [op] [b] pos) (tB t):=by
  intro pins s σ H Q I hw
  refine wpAny_isTrue_Compare1 (thn (h pins s σ H _ I hw) fun v s1 h1=>thn h1 fun u s2 h2=>thn h2 fun c s3 ⟨x,H1,I1,r1,q1⟩=>?_) h1
  obtain ⟨d,rfl,q⟩:=q1
  cases r1
  exact wpAny_truthy_bool ⟨H1,I1,q⟩
theorem pt_val {e:Expr} {t:TE} (h:PE X e t) (he:∀whole,isTrue e X.env whole=(do let v ←whole; standAt e.pos; holding [v] (truthy v)):=by intro _; rfl) : PT X e (tB t):=by
  intro pins s σ H Q I hw
  refine isTrue_plain (thn (h pins s σ H _ I hw) fun v s1 ⟨x,H1,I1,r1,q1⟩=>?_) (he _)
  obtain ⟨d,rfl,q⟩:=q1
  cases r1
  exact wpAny_truthy_bool ⟨H1,I1,q⟩
variable {tA tB':TT} {rest:List Expr}
def tAnd (t u:TT) : TT:=fun σ H Q=>t σ H fun c H1=>if c=true then u σ H1 Q else Q false H1
def tOr (t u:TT) : TT:=fun σ H Q=>t σ H fun c H1=>if c=true then Q true H1 else u σ H1 Q
def tNot (t:TT) : TT:=fun σ H Q=>t σ H fun c H1=>Q (!c) H1
theorem pw_and1 (ha:PT X a tA) : PW X (.BoolOp .And [a] pos) tA:=by
  intro wh pins s σ H Q I h
  refine isTrue_and (thn (ha pins s σ H Q I h) fun c s1 e=>?_)
  cases c with
  | true=>exact isTrue_and_nil e
  | false=>exact e
theorem pw_or1 (ha:PT X a tA) : PW X (.BoolOp .Or [a] pos) tA:=by
  intro wh pins s σ H Q I h
  refine isTrue_or (thn (ha pins s σ H Q I h) fun c s1 e=>?_)
  cases c with
  | false=>exact isTrue_or_nil e
  | true=>exact e
theorem pw_and (ha:PT X a tA) (hb:PW X (.BoolOp .And (b::rest) pos) tB') : PW X (.BoolOp .And (a::b::rest) pos) (tAnd tA tB'):=by
  intro wh pins s σ H Q I h
  refine isTrue_and (thn (ha pins s σ H _ I h) fun c s1 ⟨H1,I1,q1⟩=>?_)
  cases c with
  | true=>exact hb wh pins s1 σ H1 Q I1 q1
  | false=>exact ⟨H1,I1,q1⟩
theorem pw_or (ha:PT X a tA) (hb:PW X (.BoolOp .Or (b::rest) pos) tB') : PW X (.BoolOp .Or (a::b::rest) pos) (tOr tA tB'):=by
  intro wh pins s σ H Q I h
  refine isTrue_or (thn (ha pins s σ H _ I h) fun c s1 ⟨H1,I1,q1⟩=>?_)
  cases c with
  | true=>exact ⟨H1,I1,q1⟩
  | false=>exact hb wh pins s1 σ H1 Q I1 q1
theorem pt_not (ha:PT X a tA) : PT X (.UnaryOp .Not a pos) (tNot tA):=by
  intro pins s σ H Q I h
  exact isTrue_not (ha pins s σ H (fun c H1=>Q (!c) H1) I h)
def tAndV (ta tb:TE) : TE:=fun σ H Q=>ta σ H fun x H1=>∃c,x=.bl c∧if c=true then tb σ H1 Q else Q (.bl false) H1
theorem pe_one {op} {t:TE} (h:PE X a t) : PE X (.BoolOp op [a] pos) t:=fun pins s σ H Q I hw=>BoolOp_one (h pins s σ H Q I hw)
theorem pe_and (ha:PE X a ta) (hb:PE X (.BoolOp .And (b::rest) pos) tb) : PE X (.BoolOp .And (a::b::rest) pos) (tAndV ta tb):=by
  intro pins s σ H Q I h
  refine BoolOp_and (thn (ha pins s σ H _ I h) fun v s1 ⟨x,H1,I1,r1,q1⟩=>?_)
  obtain ⟨c,rfl,q1⟩:=q1
  cases r1
  refine wpAny_truthy_bool ?_
  cases c with
  | true=>exact hb pins s1 σ H1 Q I1 q1
  | false=>exact ⟨.bl false,H1,I1,rfl,q1⟩
end
end L2
namespace L2
open PySem PySem.Spec PyProof.Rows
def SqL (K:PySem.W.Frag) (H:Hp) (a:Addr) (xs:List V) : Prop:=
  Rd H a (.lst xs) ∨
    ∃(o:Obj) (its:Array Value) (n:Nat),K.lookup a=some o∧o.cls=.type "list"∧o.dict=none∧o.data=.seq its n∧its.size≤sizeLine∧Vals xs its.toList
def SqT (K:PySem.W.Frag) (H:Hp) (a:Addr) (xs:List V) : Prop:=
  Rd H a (.tup xs) ∨
    ∃(o:Obj) (its:Array Value) (n:Nat),K.lookup a=some o∧o.cls=.type "tuple"∧o.data=.seq its n∧its.size≤sizeLine∧Vals xs its.toList
def absV:Value→Option V
  | .none=>some .non
  | .bool b=>some (.bl b)
  | .int i _=>some (.int i)
  | .str x _=>some (.str x)
  | .bytes b _=>some (.byt b)
  | .float b _=>some (.flt b)
  | .ref a=>some (.ref a)
  | .type n=>some (.ty n)
  | _=>none
theorem RelV.abs {x:V} {u:Value} (r:RelV x u) : absV u=some x:=by
  cases x with
  | non=>cases r; rfl
  | bl _=>cases r; rfl
  | int _=>obtain ⟨t,rfl⟩:=r; rfl
  | str _=>obtain ⟨t,rfl⟩:=r; rfl
  | byt _=>obtain ⟨t,rfl⟩:=r; rfl
  | flt _=>obtain ⟨t,rfl⟩:=r; rfl
  | ref _=>cases r; rfl
  | ty _=>cases r; rfl
theorem RelV.inj {x y:V} {u:Value} (r:RelV x u) (q:RelV y u) : x=y:=Option.some.inj (r.abs.symm.trans q.abs)
theorem Vals.inj:∀{xs ys:List V} {us:List Value},Vals xs us→Vals ys us→xs=ys
  | _,_,_,.nil,.nil=>rfl
  | _,_,_,.cons r t,.cons r' t'=>by rw[r.inj r',Vals.inj t t']
section
variable {X:Cx} {pins:List (Addr×Obj)} {σ:St} {H:Hp} {s:Shared} {a:Addr} {xs ys:List V}
theorem SqL.of {K:PySem.W.Frag} (h:H a=some (.lst xs)) : SqL K H a xs:=.inl (.inl h)
theorem SqT.of {K:PySem.W.Frag} (h:H a=some (.tup xs)) : SqT K H a xs:=.inl (.inl h)
theorem Inv.list (I:Inv X pins σ H s) (h:SqL X.K H a xs) : ∃its:List Value,Vals xs its∧PlainL s.heap a its.toArray∧xs.length≤sizeLine:=by
  rcases h with h | ⟨o,its,n,hk,hc,hd,hs,hz,r⟩
  · obtain ⟨z,its,n,r,e⟩:=h.ok I.hok
    exact ⟨its,r,⟨_,n,e,rfl,rfl,rfl⟩,z⟩
  · refine ⟨its.toList, r, ⟨o, n, I.kIn a o hk, hc, hd, by simpa using hs⟩, ?_⟩
    have e:=r.length
    simp only[Array.length_toList] at e
    lia
theorem Inv.tuple (I:Inv X pins σ H s) (h:SqT X.K H a xs) : ∃its:List Value,Vals xs its∧IsTup s.heap a its.toArray∧xs.length≤sizeLine:=by
  rcases h with h | ⟨o,its,n,hk,hc,hs,hz,r⟩
  · obtain ⟨z,its,r,p⟩:=h.ok I.hok
    exact ⟨its,r,p,z⟩
  · refine ⟨its.toList, r, ⟨o, I.kIn a o hk, hc, n, by simpa using hs⟩, ?_⟩
    have e:=r.length
    simp only[Array.length_toList] at e
    lia
theorem Inv.list_inj (I:Inv X pins σ H s) (h:SqL X.K H a xs) (h':SqL X.K H a ys) : xs=ys:=by
  obtain ⟨its,r,⟨o,n,e,_,_,d⟩,_⟩:=I.list h
  obtain ⟨its',r',⟨o',n',e',_,_,d'⟩,_⟩:=I.list h'
  rw[e] at e'; cases e'
  rw[d] at d'
  injection d' with d1 _
  have:its=its':=by simpa using congrArg Array.toList d1
  subst this
  exact r.inj r'
theorem Inv.tuple_inj (I:Inv X pins σ H s) (h:SqT X.K H a xs) (h':SqT X.K H a ys) : xs=ys:=by
  obtain ⟨its,r,⟨o,e,_,n,d⟩,_⟩:=I.tuple h
  obtain ⟨its',r',⟨o',e',_,n',d'⟩,_⟩:=I.tuple h'
  rw[e] at e'; cases e'
  rw[d] at d'
  injection d' with d1 _
  have:its=its':=by simpa using congrArg Array.toList d1
  subst this
  exact r.inj r'
end
abbrev Cx.wish (X:Cx) (E:Value→Shared→Prop) : Cx:={ X with xe:=E }
abbrev Cx.nox (X:Cx) : Cx:=X.wish fun _ _=>False
theorem Cx.Ok.wish {X:Cx} (ok:X.Ok) (E:Value→Shared→Prop) : (X.wish E).Ok:=
  ⟨ok.mod,ok.kind,ok.glob,ok.blt,ok.above,ok.inj,ok.has,ok.cab,ok.hd,ok.frames,ok.stk,ok.exf,ok.bs,ok.bsz,ok.noex,ok.exfs,ok.funs,ok.frf⟩
theorem Cx.Ok.unwish {X:Cx} {E:Value→Shared→Prop} (ok:(X.wish E).Ok) : X.Ok:=
  ⟨ok.mod,ok.kind,ok.glob,ok.blt,ok.above,ok.inj,ok.has,ok.cab,ok.hd,ok.frames,ok.stk,ok.exf,ok.bs,ok.bsz,ok.noex,ok.exfs,ok.funs,ok.frf⟩
section
variable {X:Cx} {pins:List (Addr×Obj)} {σ:St} {H:Hp} {s:Shared} {E:Value→Shared→Prop}
theorem Inv.wish (I:Inv X pins σ H s) (E:Value→Shared→Prop) : Inv (X.wish E) pins σ H s:=⟨I.ok.wish E,I.os,I.bare,I.base,I.loc,I.cell,I.free,I.freeC,I.pin,I.hok,I.len⟩
theorem Inv.unwish (I:Inv (X.wish E) pins σ H s) : Inv X pins σ H s:=⟨I.ok.unwish,I.os,I.bare,I.base,I.loc,I.cell,I.free,I.freeC,I.pin,I.hok,I.len⟩
theorem SP.unwish {D:Ends} {f:Flow} {s':Shared} (h:SP (X.wish E) pins D f s') : SP X pins D f s':=by
  cases f with
  | next=>obtain ⟨σ',H',I,q⟩:=h; exact ⟨σ',H',I.unwish,q⟩
  | brk=>obtain ⟨σ',H',I,q⟩:=h; exact ⟨σ',H',I.unwish,q⟩
  | cont=>obtain ⟨σ',H',I,q⟩:=h; exact ⟨σ',H',I.unwish,q⟩
  | ret u=>obtain ⟨v,σ',H',I,r,q⟩:=h; exact ⟨v,σ',H',I.unwish,r,q⟩
theorem PSs.nox {st:List Stmt} {t:TS} (h:PSs X.nox st t) : PSs X st t:=fun pins s σ H D I hw =>
  wpAny_mono (h pins s σ H D (I.wish _) hw) (fun _ _ q=>q.unwish) fun _ _ z=>False.elim z
end
section
variable {X:Cx} {st:Stmt} {rest:List Stmt} {t u:TS} {e:Expr} {te:TE} {pos:Pos}
def tNext:TS:=fun D σ H=>D.nx σ H
def tSeq (t u:TS) : TS:=fun D σ H=>t { D with nx:=u D } σ H
theorem pss_nil:PSs X [] tNext:=fun _ _ σ H _ I h=>wpAny_execs_nil ⟨σ,H,I,h⟩
theorem pss_cons (h1:PS X st t) (h2:PSs X rest u) : PSs X (st::rest) (tSeq t u):=by
  intro pins s σ H D I h
  refine wpAny_execs_cons (thn (h1 pins s σ H { D with nx:=u D } I h) fun f s1 q=>?_)
  cases f with
  | next =>
    obtain ⟨σ',H',I',q⟩:=q
    exact h2 pins s1 σ' H' D I' q
  | ret v=>exact q
  | brk=>exact q
  | cont=>exact q
theorem pss_one (h1:PS X st t) : PSs X [st] t:=by
  intro pins s σ H D I h
  refine wpAny_execs_cons (thn (h1 pins s σ H D I h) fun f s1 q=>?_)
  cases f with
  | next=>exact wpAny_execs_nil q
  | ret v=>exact q
  | brk=>exact q
  | cont=>exact q
theorem Inv.quiet {pins:List (Addr×Obj)} {σ:St} {H:Hp} {s:Shared} (I:Inv X pins σ H s) : interactive X.env=false:=by simp[interactive,I.ok.kind]
def tDrop (te:TE) : TS:=fun D σ H=>te σ H fun _ H1=>D.nx σ H1
theorem ps_expr (he:PE X e te) (hs:swapsWith e none pos.line X.env=pure false:=by rfl) : PS X (.Expr e pos) (tDrop te):=by
  intro pins s σ H D I h
  exact wpAny_Expr_any (thn (he pins s σ H _ I h) fun v s1 ⟨x,H1,I1,r1,q1⟩=>⟨σ,H1,I1,q1⟩) I.quiet hs
def tRet (te:TE) : TS:=fun D σ H=>te σ H D.rt
theorem ps_ret (he:PE X e te) : PS X (.Return (some e) pos) (tRet te):=by
  intro pins s σ H D I h
  exact wpAny_Return_some (thn (he pins s σ H _ I h) fun v s1 ⟨x,H1,I1,r1,q1⟩=>⟨x,σ,H1,I1,r1,q1⟩)
def tIfS (c:TT) (t u:TS) : TS:=fun D σ H=>c σ H fun b H1=>if b=true then t D σ H1 else u D σ H1
theorem ps_if {c:Expr} {a b:List Stmt} {tc:TT} (hc:PT X c tc) (ha:PSs X a t) (hb:PSs X b u) : PS X (.If c a b pos) (tIfS tc t u):=by
  intro pins s σ H D I h
  refine wpAny_If (thn (hc pins s σ H _ I h) fun d s1 ⟨H1,I1,q1⟩=>?_)
  cases d with
  | true=>exact ha pins s1 σ H1 D I1 q1
  | false=>exact hb pins s1 σ H1 D I1 q1
end
abbrev TG:=V→St→Hp→(St→Hp→Prop)→Prop
abbrev TGs:=List V→St→Hp→(St→Hp→Prop)→Prop
def PG (X:Cx) (target:Expr) (t:TG) : Prop:=
  ∀(pins:List (Addr×Obj)) (s:Shared) (σ:St) (H:Hp) (v:V) (u:Value) (Q:St→Hp→Prop),Inv X pins σ H s→RelV v u→t v σ H Q →
    wpAny (model X.prog X.w) X.A (assign target X.env u) (fun _ s'=>∃σ' H',Inv X pins σ' H' s'∧Q σ' H') X.xe s
def PGs (X:Cx) (ts:List Expr) (t:TGs) : Prop:=
  ∀(pins:List (Addr×Obj)) (s:Shared) (σ:St) (H:Hp) (vs:List V) (us:List Value) (Q:St→Hp→Prop),Inv X pins σ H s→Vals vs us→t vs σ H Q →
    wpAny (model X.prog X.w) X.A (assignInOrder ((assignEach ts X.env).map (·.2)) us) (fun _ s'=>∃σ' H',Inv X pins σ' H' s'∧Q σ' H') X.xe s
abbrev TSet:=V→V→V→Hp→(Hp→Prop)→Prop
def PSet (X:Cx) (t:TSet) : Prop:=
  ∀(pins:List (Addr×Obj)) (s:Shared) (σ:St) (H:Hp) (o i v:V) (ov iv u:Value) (Q:Hp→Prop),Inv X pins σ H s→RelV o ov→RelV i iv→RelV v u→t o i v H Q →
    wpAny (model X.prog X.w) X.A (setItem ov iv u) (fun _ s'=>∃H',Inv X pins σ H' s'∧Q H') X.xe s
abbrev TIp:=V→V→Hp→VK→Prop
def PIp (X:Cx) (op:Operator) (t:TIp) : Prop:=
  ∀(pins:List (Addr×Obj)) (s:Shared) (σ:St) (H:Hp) (x y:V) (v u:Value) (Q:VK),Inv X pins σ H s→RelV x v→RelV y u→t x y H Q →
    wpAny (model X.prog X.w) X.A (inplaceOp op v u) (EP X pins σ Q) X.xe s
section
variable {X:Cx} {pos:Pos}
def gName (i:Nat) : TG:=fun v σ H Q=>Q (σ.set i (some v)) H
theorem pg_name {i:Nat} {x:Str} (hN:X.N.Nodup) (hi:X.N[i]?=some x) (hx:Loc X.env.scope x) (hf:X.fn x=true∨X.env.scope.names.lookup x=some .local:=by first | exact .inl rfl | exact .inr rfl | assumption) : PG X (.Name x pos) (gName i):=by
  intro pins s σ H v u Q I r h
  exact wpAny_assign_Name (store_ok I hN hi hx r (fun s' I'=>⟨_,H,I',h⟩) hf)
def gNil:TGs:=fun vs σ H Q=>vs = []∧Q σ H
def gCons (t:TG) (u:TGs) : TGs:=fun vs σ H Q=>∃v r,vs=v::r∧t v σ H fun σ' H'=>u r σ' H' Q
theorem pgs_nil:PGs X [] gNil:=by
  intro pins s σ H vs us Q I r h
  obtain ⟨e,h⟩:=h
  subst e
  cases r
  exact assignInOrder_nil ⟨σ,H,I,h⟩
theorem pgs_cons {e:Expr} {es:List Expr} {t:TG} {u:TGs} (h1:PG X e t) (h2:PGs X es u)
    (hs:(assignEach (e::es) X.env).map (·.2)=assign e X.env::(assignEach es X.env).map (·.2):=by rfl) : PGs X (e::es) (gCons t u):=by
  intro pins s σ H vs us Q I r h
  obtain ⟨v,vr,e1,h⟩:=h
  subst e1
  cases r with
  | cons r rr =>
    rw[hs]
    refine assignInOrder_cons (thn (h1 pins s σ H _ _ _ I r h) fun _ s1 ⟨σ1,H1,I1,q1⟩=>?_)
    exact h2 pins s1 σ1 H1 _ _ Q I1 rr q1
def gSub (to ti:TE) (t:TSet) : TG:=fun v σ H Q=>to σ H fun o H1=>ti σ H1 fun i H2=>t o i v H2 fun H3=>Q σ H3
theorem pg_sub {o i:Expr} {to ti:TE} {t:TSet} (ho:PE X o to) (hi:PE X i ti) (hs:PSet X t)
    (ha:∀v,assign (.Subscript o i pos) X.env v=(do
      let ov ←holding [v] (eval o X.env)
      let iv ←holding [v,ov] (eval i X.env)
      standAt pos
      holding [v,ov,iv] (setItem ov iv v)
      release [v,ov,iv] []):=by intro _; rfl) : PG X (.Subscript o i pos) (gSub to ti t):=by
  intro pins s σ H v u Q I r h
  rw[ha]
  refine wpAny_bind (wpAny_holding (thn (ho pins s σ H _ I h) fun ov s1 ⟨x,H1,I1,r1,q1⟩=>?_))
  refine wpAny_bind (wpAny_holding (thn (hi pins s1 σ H1 _ I1 q1) fun iv s2 ⟨y,H2,I2,r2,q2⟩=>?_))
  refine wpAny_bind (wpAny_standAt (wpAny_bind (wpAny_holding (thn (hs pins s2 σ H2 x y v ov iv u _ I2 r1 r2 r q2) fun _ s3 ⟨H3,I3,q3⟩=>?_))))
  exact wpAny_release ⟨σ,H3,I3,q3⟩
def tAsg (te:TE) (g:TG) : TS:=fun D σ H=>te σ H fun x H1=>g x σ H1 D.nx
theorem ps_asg {tg e:Expr} {te:TE} {g:TG} (he:PE X e te) (hg:PG X tg g) (hs:swapsWithSole [tg] e pos.line X.env=pure false:=by rfl) (hw:swappedStores [tg] e X.env=pure none:=by rfl)
    (h1:(assignEach [tg] X.env).map (·.2) = [assign tg X.env]:=by rfl) : PS X (.Assign [tg] e pos) (tAsg te g):=by
  intro pins s σ H D I h
  refine wpAny_Assign_stores (thn (he pins s σ H _ I h) fun v s1 ⟨x,H1,I1,r1,q1⟩=>?_) hs hw
  rw[h1]
  exact thn (hg pins s1 σ H1 x v _ I1 r1 q1) fun _ s2 q=>q
theorem ps_set {i:Nat} {x:Str} {e:Expr} {te:TE} {pos':Pos} (hN:X.N.Nodup) (hi:X.N[i]?=some x) (hx:Loc X.env.scope x) (he:PE X e te) (hs:swapsWith e (some (.Name x pos')) pos.line X.env=pure false:=by rfl) (hf:X.fn x=true∨X.env.scope.names.lookup x=some .local:=by first | exact .inl rfl | exact .inr rfl | assumption) :
    PS X (.Assign [.Name x pos'] e pos) (tAsg te (gName i)):=by
  intro pins s σ H D I h
  refine wpAny_Assign_Name (thn (he pins s σ H _ I h) fun v s1 ⟨y,H1,I1,r1,q1⟩=>?_) hs
  exact store_ok I1 hN hi hx r1 (fun s2 I2=>⟨_,H1,I2,q1⟩) hf
def tAug (i:Nat) (te:TE) (ti:TIp) : TS:=fun D σ H=>∃x,σ[i]?=some (some x)∧te σ H fun y H1=>ti x y H1 fun z H2=>D.nx (σ.set i (some z)) H2
theorem ps_aug {i:Nat} {x:Str} {e:Expr} {te:TE} {op:Operator} {ti:TIp} {pos':Pos} (hN:X.N.Nodup) (hi:X.N[i]?=some x) (hx:Loc X.env.scope x) (he:PE X e te) (ho:PIp X op ti) (hf:X.fn x=true∨X.env.scope.names.lookup x=some .local:=by first | exact .inl rfl | exact .inr rfl | assumption) :
    PS X (.AugAssign (.Name x pos') op e pos) (tAug i te ti):=by
  intro pins s σ H D I h
  obtain ⟨v,e1,h⟩:=h
  obtain ⟨m,hn,hl⟩:=I.loc
  have vis:Vis X.env.scope x:=by rcases hx with k | k; exact .inl k; exact .inr (.inl k)
  obtain ⟨u,r,l⟩:=hl i x v hi e1 vis
  refine wpAny_AugAssign_Name ?_
  have go:wpAny (model X.prog X.w) X.A (eval e X.env) (fun w s₂=>wpAny (model X.prog X.w) X.A (inplaceOp op u w) (fun r s₃=>wpAny (model X.prog X.w) X.A (storeName X.env x r) (fun _=>SP X pins D .next) X.xe s₃) X.xe s₂) X.xe s:=by
    refine thn (he pins s σ H _ I h) fun w s1 ⟨y,H1,I1,r1,q1⟩=>?_
    refine thn (ho pins s1 σ H1 v y u w _ I1 r r1 q1) fun z s2 ⟨zv,H2,I2,r2,q2⟩=>?_
    exact store_ok I2 hN hi hx r2 (fun s3 I3=>⟨_,H2,I3,q2⟩) hf
  rcases l with ⟨hk,hm⟩ | ⟨hk,c,hc,hcell⟩
  · exact wpAny_loadName_local I.ok.kind hk hn hm go
  · rcases hk with hk | hk
    · exact wpAny_loadName_cell I.ok.kind hk hc hcell go
    · rcases hx with k | k
      · have:X.env.scope.names.lookup x=some .free:=hk
        rw[k] at this; cases this
      · have:X.env.scope.names.lookup x=some .free:=hk
        rw[k] at this; cases this
def tAugS (to ti te:TE) (tget:V→V→Hp→VK→Prop) (tip:TIp) (tset:TSet) : TS:=fun D σ H=>to σ H fun o H1=>ti σ H1 fun i H2=>tget o i H2 fun x H3=>te σ H3 fun y H4=>tip x y H4 fun z H5=>tset o i z H5 fun H6=>D.nx σ H6
def PGet (X:Cx) (t:V→V→Hp→VK→Prop) : Prop:=
  ∀(pins:List (Addr×Obj)) (s:Shared) (σ:St) (H:Hp) (o i:V) (ov iv:Value) (Q:VK),Inv X pins σ H s→RelV o ov→RelV i iv→t o i H Q →
    wpAny (model X.prog X.w) X.A (getItem ov iv) (EP X pins σ Q) X.xe s
theorem ps_augS {o i e:Expr} {to ti te:TE} {tget:V→V→Hp→VK→Prop} {tip:TIp} {tset:TSet} {op:Operator} {tpos:Pos} (ho:PE X o to) (hi:PE X i ti) (hg:PGet X tget) (he:PE X e te) (hp:PIp X op tip) (hs:PSet X tset)
    (ha:∀ov iv new,augStore i ov iv new=(do holding [new,ov,iv] (setItem ov iv new); release [new,ov,iv] []; pure .next):=by intros; rfl) : PS X (.AugAssign (.Subscript o i tpos) op e pos) (tAugS to ti te tget tip tset):=by
  intro pins s σ H D I h
  refine wpAny_AugAssign_SubscriptAny (thn (ho pins s σ H _ I h) fun ov s1 ⟨x1,H1,I1,r1,q1⟩=>?_) ha
  refine thn (hi pins s1 σ H1 _ I1 q1) fun iv s2 ⟨x2,H2,I2,r2,q2⟩=>?_
  refine thn (hg pins s2 σ H2 x1 x2 ov iv _ I2 r1 r2 q2) fun old s3 ⟨x3,H3,I3,r3,q3⟩=>?_
  refine thn (he pins s3 σ H3 _ I3 q3) fun v s4 ⟨x4,H4,I4,r4,q4⟩=>?_
  refine thn (hp pins s4 σ H4 x3 x4 old v _ I4 r3 r4 q4) fun new s5 ⟨x5,H5,I5,r5,q5⟩=>?_
  exact thn (hs pins s5 σ H5 x1 x2 x5 ov iv new _ I5 r1 r2 r5 q5) fun _ s6 ⟨H6,I6,q6⟩=>⟨σ,H6,I6,q6⟩
def ipI (f:Int→Int→Int) : TIp:=fun x y H Q=>∃i j,x=.int i∧y=.int j∧Q (.int (f i j)) H
theorem ip_add:PIp X .Add (ipI fun i j=>i+j):=by
  intro pins s σ H x y v u Q I r1 r2 h
  obtain ⟨i,j,e1,e2,q⟩:=h
  subst e1; subst e2
  obtain ⟨t,rfl⟩:=r1
  obtain ⟨t',rfl⟩:=r2
  exact iadd_int ⟨.int _,H,I.tok _,⟨_,rfl⟩,q⟩
theorem ip_sub:PIp X .Sub (ipI fun i j=>i - j):=by
  intro pins s σ H x y v u Q I r1 r2 h
  obtain ⟨i,j,e1,e2,q⟩:=h
  subst e1; subst e2
  obtain ⟨t,rfl⟩:=r1
  obtain ⟨t',rfl⟩:=r2
  exact isub_int ⟨.int _,H,I.tok _,⟨_,rfl⟩,q⟩
end
section
variable {X:Cx} {pos:Pos}
def tWhile (c:TT) (tb:TS) : TS:=fun D σ H=>∃W:Nat→St→Hp→Prop,(∃m,W m σ H)∧∀m σ H,W m σ H →
  c σ H fun b H1=>if b=true then ∃N:St→Hp→Prop,(∀σ' H',N σ' H'→∃m',m'<m∧W m' σ' H')∧tb { D with nx:=N,ct:=N,bk:=D.nx } σ H1 else D.nx σ H1
theorem ps_while {c:Expr} {body:List Stmt} {tc:TT} {tb:TS} (hp:PassesOwn (model X.prog X.w) X.A X.env X.xe) (hc:PT X c tc) (hb:PSs X body tb) : PS X (.While c body [] pos) (tWhile tc tb):=by
  intro pins s σ H D I h
  obtain ⟨W,⟨m0,w0⟩,turn⟩:=h
  refine wpAny_While (codeAny_whileLoop (fun n s'=>∃σ' H',Inv X pins σ' H' s'∧W n σ' H') ?_ m0 ⟨σ,H,I,w0⟩)
  rintro n s1 ⟨σ1,H1,I1,w1⟩
  refine wpAny_passesOwn hp (thn (hc pins s1 σ1 H1 _ I1 (turn n σ1 H1 w1)) fun b s2 ⟨H2,I2,q2⟩=>?_)
  cases b with
  | true =>
    obtain ⟨N,hN,q2⟩:=q2
    rw[if_pos rfl]
    refine wpAny_passesOwn hp (thn (hb pins s2 σ1 H2 _ I2 q2) fun f s3 q3=>?_)
    cases f with
    | next =>
      obtain ⟨σ3,H3,I3,n3⟩:=q3
      obtain ⟨m',hm,w3⟩:=hN σ3 H3 n3
      exact ⟨m',hm,σ3,H3,I3,w3⟩
    | cont =>
      obtain ⟨σ3,H3,I3,n3⟩:=q3
      obtain ⟨m',hm,w3⟩:=hN σ3 H3 n3
      exact ⟨m',hm,σ3,H3,I3,w3⟩
    | brk=>exact q3
    | ret v=>exact q3
  | false =>
    rw[if_neg Bool.false_ne_true]
    exact wpAny_execs_nil ⟨σ1,H2,I2,q2⟩
end
structure It where
  go:Nat→Hp→Prop
  yld:Nat→Hp→V→Hp→Prop
  stop:Nat→Hp→Prop
def FpOk (X:Cx) (pins:List (Addr×Obj)) (H:Hp) (b:Addr) : Prop:=
  H b=none∧b≠X.env.locals∧b∉X.fs∧(b∈X.ex∨X.s₀.heap.objs.size≤b)∧(∀x c,X.env.cells.lookup x=some c→c≠b)∧∀p∈X.pn++pins,p.1≠b
theorem Inv.fpOk {X:Cx} {pins:List (Addr×Obj)} {σ:St} {H H':Hp} {s:Shared} {b:Addr} (I:Inv X pins σ H s) (hb:s.heap.objs.size≤b) (hn:H' b=none) : FpOk X pins H' b:=by
  refine ⟨hn,Nat.ne_of_gt (Nat.lt_of_lt_of_le I.lt hb),I.nofs hb,.inr (Nat.le_trans I.sz hb),fun x c e z=>?_,fun p hp z=>?_⟩
  · obtain ⟨v,q⟩:=I.cell x c e
    exact absurd (Nat.lt_of_lt_of_le q.lt (by rw[z]; exact hb)) (Nat.lt_irrefl _)
  · exact absurd (Nat.lt_of_lt_of_le (Heap.lt_size (I.pin p hp).1) (by rw[z]; exact hb)) (Nat.lt_irrefl _)
structure Turn (P:Program) (w:World) (K:PySem.W.Frag) (tg:Expr) (J:It) (fp:List Addr) (it:Addr) (tn:Nat→Heap→Prop) : Prop where
  mem:it∈fp
  obj:∀i h,tn i h→∀b∈fp,∃o,h.get? b=some o∧∀v,o.data≠.cell v
  keep:∀i h h',tn i h→(∀b∈fp,∀o,h.get? b=some o→h'.get? b=some o)→tn i h'
  item:∀(X:Cx),X.prog=P→X.w=w→X.K=K→X.calm=true→∀(i:Nat) (pins:List (Addr×Obj)) (s:Shared) (σ:St) (H:Hp) (E:Value→Shared→Prop),Inv X pins σ H s→(∀b∈fp,FpOk X pins H b)→tn i s.heap→J.go i H →
    wpAny (model P w) X.A (pyNext (.ref it)) (fun r s1=>∃u,r=some u ∧
      wpAny (model P w) X.A (letOwnedTupleGo tg (.ref it) u) (fun _ s2=>∃x H',Inv X pins σ H' s2∧RelV x u∧J.yld i H x H'∧tn (i+1) s2.heap∧∀b∈fp,H' b=none) E s1) E s
  done:∀(X:Cx),X.prog=P→X.w=w→X.K=K→X.calm=true→∀(i:Nat) (pins:List (Addr×Obj)) (s:Shared) (σ:St) (H:Hp) (E:Value→Shared→Prop),Inv X pins σ H s→(∀b∈fp,FpOk X pins H b)→tn i s.heap→J.stop i H →
    wpAny (model P w) X.A (pyNext (.ref it)) (fun r s1=>r=none∧Inv X pins σ H s1) E s
  self:∀(A:Around) (i:Nat) (s:Shared) (Q:Value→Shared→Prop) (E:Value→Shared→Prop),tn i s.heap→Q (.ref it) s→wpAny (model P w) A (pyIter (.ref it)) Q E s
abbrev TI:=St→Hp→(It→Hp→Prop)→Prop
def PIE (X:Cx) (pins:List (Addr×Obj)) (σ:St) (tg:Expr) (R:It→Hp→Prop) (itv:Value) (s2:Shared) : Prop:=
  ∃(it:Addr) (fp:List Addr) (tn:Nat→Heap→Prop) (J:It) (H':Hp),itv=.ref it∧Inv X pins σ H' s2∧Turn X.prog X.w X.K tg J fp it tn∧tn 0 s2.heap∧(∀b∈fp,FpOk X pins H' b)∧R J H'
def PI (X:Cx) (tg iter:Expr) (wi:TI) : Prop:=
  ∀(pins:List (Addr×Obj)) (s:Shared) (σ:St) (H:Hp) (R:It→Hp→Prop),Inv X pins σ H s→wi σ H R →
    wpAny (model X.prog X.w) X.A (eval iter X.env) (fun v s1=>wpAny (model X.prog X.w) X.A (pyIter v) (PIE X pins σ tg R) X.xe s1) X.xe s
theorem go_of {M:Model} {A:Around} {E:Value→Shared→Prop} {s:Shared} {tg:Expr} {it:Addr} {u:Value} {o:Obj} {n:String} {vs:Array Value} {Q:Unit→Shared→Prop} (ho:s.heap.get? it=some o) (hc:o.cls=.type n) (hd:o.data=.fields vs)
    (hn:["enumerate","zip","dict_itemiterator","dict_reverseitemiterator","odict_iterator","itertools.zip_longest","itertools.pairwise"].contains n=false) (hQ:Q () s) : wpAny M A (letOwnedTupleGo tg (.ref it) u) Q E s:=by
  unfold letOwnedTupleGo
  cases tg<;>first
    | exact wpAny_pure hQ
    | (cases u<;>first
        | exact wpAny_pure hQ
        | (refine wpAny_bind (wpAny_load ho ?_)
           rw[hc,hd]
           show wpAny M A (if (["enumerate","zip","dict_itemiterator","dict_reverseitemiterator","odict_iterator","itertools.zip_longest","itertools.pairwise"].contains n && vs[0]? == some (rawInt _))=true then _ else _) Q E s
           rw[if_neg (by intro h; rw[hn,Bool.false_and] at h; cases h)]
           exact wpAny_pure hQ))
def Itl (K:PySem.W.Frag) (a:Addr) : It:=
  ⟨fun i H=>∃xs x,SqL K H a xs∧xs[i]?=some x,fun i H x H'=>H'=H∧∀xs,SqL K H a xs→xs[i]?=some x,fun i H=>∃xs,SqL K H a xs∧xs.length≤i⟩
def Itr (lo:Int) (n:Nat) : It:=⟨fun i _=>i<n,fun i H x H'=>H'=H∧x=.int (lo+i),fun i _=>n≤i⟩
theorem turn_list {P:Program} {w:World} {K:PySem.W.Frag} {tg:Expr} (a it:Addr) : Turn P w K tg (Itl K a) [it] it (fun i h=>h.IsListIter it a i) where
  mem:=by simp
  obj:=fun i h st b hb=>by
    have e:b=it:=by simpa using hb
    subst e
    obtain ⟨o,e,c,d⟩:=st
    exact ⟨o,e,fun v z=>by rw[d] at z; cases z⟩
  keep:=fun i h h' st k=>st.at fun o e=>k it (by simp) o e
  item:=by
    intro X hP hw hK hc i pins s σ H E I hf st hg
    subst hP hw hK
    obtain ⟨xs,x,hq,hx⟩:=hg
    obtain ⟨its,rv,p,hz⟩:=I.list hq
    obtain ⟨u,hu,ru⟩:=rv.get hx
    obtain ⟨f0,f1,f2,f3,f4,f5⟩:=hf it (by simp)
    refine wpAny_pyNext_list_item st p.isList (x:=u) (by simpa using hu) fun h' st' sb=>?_
    have I1:Inv X pins σ H { s with heap:=h' }:=I.turned (t':=s.toks) (fun b o hb e=>(sb.2 b hb).trans e) f0 f1 f3 f4 f5
    obtain ⟨o,e,c,d⟩:=id st'
    exact ⟨u,rfl,go_of (s:={ s with heap:=h' }) e c d (by decide) ⟨x,H,I1,ru,⟨rfl,fun ys hy=>by rw[I.list_inj hy hq]; exact hx⟩,st',fun b hb=>(hf b hb).1⟩⟩
  done:=by
    intro X hP hw hK hc i pins s σ H E I hf st hg
    subst hP hw hK
    obtain ⟨xs,hq,hx⟩:=hg
    obtain ⟨its,rv,p,hz⟩:=I.list hq
    obtain ⟨f0,f1,f2,f3,f4,f5⟩:=hf it (by simp)
    have hl:=rv.length
    exact wpAny_pyNext_list_end (I.ok.hd hc) st p.isList (by simp; lia) fun h' eb=>⟨rfl,I.turned (t':=s.toks) (fun b o hb e=>eb b o hb e) f0 f1 f3 f4 f5⟩
  self:=fun _ _ _ _ _ st h=>wpAny_pyIter_listiter st h
theorem turn_range {P:Program} {w:World} {K:PySem.W.Frag} {tg:Expr} (it:Addr) (lo:Int) (n:Nat) : Turn P w K tg (Itr lo n) [it] it (fun i h=>IsRangeIter h it (lo+(i:Nat)*1) ((n:Int) - (i:Nat)) 1) where
  mem:=by simp
  obj:=fun i h st b hb=>by
    have e:b=it:=by simpa using hb
    subst e
    exact ⟨_,st,fun v z=>by
      have z':Data.fields _=Data.cell v:=z
      cases z'⟩
  keep:=fun i h h' st k=>k it (by simp) _ st
  item:=by
    intro X hP hw hK hc i pins s σ H E I hf st hg
    subst hP hw hK
    obtain ⟨f0,f1,f2,f3,f4,f5⟩:=hf it (by simp)
    have W:=Walks.range (prog:=X.prog) (w:=X.w) (I.ok.hd hc) it lo 1 n
    refine W.item i s _ _ hg st fun v h' tk hv st' kk=>?_
    obtain ⟨t,rfl⟩:=hv
    have I1:Inv X pins σ H { s with heap:=h',toks:=tk }:=I.turned (fun b o hb e=>kk b o (by simpa using hb) e) f0 f1 f3 f4 f5
    refine ⟨_,rfl,go_of (s:={ s with heap:=h',toks:=tk }) (n:="range_iterator") st' rfl rfl (by decide) ⟨.int (lo+i),H,I1,⟨t,?_⟩,⟨rfl,rfl⟩,st',fun b hb=>(hf b hb).1⟩⟩
    rw[Int.mul_one]
  done:=by
    intro X hP hw hK hc i pins s σ H E I hf st hg
    subst hP hw hK
    obtain ⟨f0,f1,f2,f3,f4,f5⟩:=hf it (by simp)
    exact wpAny_pyNext_range_end (I.ok.hd hc) st (by have:n≤i:=hg; lia) fun h' eb=>⟨rfl,I.turned (t':=s.toks) (fun b o hb e=>eb b o hb e) f0 f1 f3 f4 f5⟩
  self:=fun _ _ _ _ _ st h=>wpAny_pyIter_rangeiter st h
end L2
namespace L2
open PySem PySem.Spec PyProof.Rows
section
variable {X:Cx} {tg:Expr}
def iList (K:PySem.W.Frag) (tl:TE) : TI:=fun σ H R=>tl σ H fun x H1=>∃a,x=.ref a∧(∃xs,SqL K H1 a xs)∧R (Itl K a) H1
theorem pi_list {l:Expr} {tl:TE} (hl:PE X l tl) : PI X tg l (iList X.K tl):=by
  intro pins s σ H R I h
  refine thn (hl pins s σ H _ I h) fun v s1 ⟨x,H1,I1,r1,q1⟩=>?_
  obtain ⟨a,e,⟨xs,hq⟩,q⟩:=q1
  subst e
  cases r1
  obtain ⟨its,rv,p,hz⟩:=I1.list hq
  refine wpAny_pyIter_list p.isList ?_
  refine ⟨s1.heap.objs.size,[s1.heap.objs.size],_,_,H1,rfl,I1.kept (t':=s1.toks) fun b o e=>Heap.get?_push_of_some _ e,turn_list a _,⟨_,Heap.get?_push_size _ rfl,rfl,rfl⟩,fun b hb=>?_,q⟩
  have e:b=s1.heap.objs.size:=by simpa using hb
  subst e
  exact I1.fpOk (Nat.le_refl _) (I1.hok.fresh (Nat.le_refl _))
theorem range_it {pins:List (Addr×Obj)} {σ:St} {H:Hp} {s:Shared} {R:It→Hp→Prop} {E:Value→Shared→Prop} {lo hi:Int} {t u v:Tok} {tk:Nat} (I:Inv X pins σ H s) (h1 : -(2 ^ 62)≤lo) (h2:lo<2 ^ 62) (h3 : -(2 ^ 62)≤hi) (h4:hi<2 ^ 62)
    (q:R (Itr lo (hi - lo).toNat) H) : wpAny (model X.prog X.w) X.A (pyIter (.ref s.heap.objs.size)) (PIE X pins σ tg R) E { s with heap:=s.heap.push { cls:=.type "range",data:=.fields #[.int lo t,.int hi u,.int 1 v] },toks:=tk }:=by
  refine wpAny_pyIter_range (IsRange.new ..) (small_one h1 h2 h3 h4) ?_
  have I1:Inv X pins σ H { s with heap:=s.heap.push { cls:=.type "range",data:=.fields #[.int lo t,.int hi u,.int 1 v] },toks:=tk }:=I.kept fun b o e=>Heap.get?_push_of_some _ e
  refine ⟨(s.heap.push { cls:=.type "range",data:=.fields #[.int lo t,.int hi u,.int 1 v] }).objs.size,[(s.heap.push { cls:=.type "range",data:=.fields #[.int lo t,.int hi u,.int 1 v] }).objs.size],_,_,H,rfl,
    I1.kept (t':=tk) fun b o e=>Heap.get?_push_of_some _ e,turn_range _ lo (hi - lo).toNat,?_,fun b hb=>?_,q⟩
  · have e1 : lo + ((0 : Nat) : Int) * 1 = lo := by simp
    have e2:(((hi - lo).toNat:Nat) : Int) - ((0:Nat) : Int)=Builtin.Range.rangeSize lo hi 1:=by rw[rangeSize_one]; split<;>lia
    show IsRangeIter _ _ (lo+((0:Nat) : Int)*1) ((((hi - lo).toNat:Nat) : Int) - ((0:Nat) : Int)) 1
    rw[e1,e2]
    exact Heap.get?_push_size _ rfl
  · have e : b = (s.heap.push { cls := .type "range", data := .fields #[.int lo t, .int hi u, .int 1 v] }).objs.size := by simpa using hb
    subst e
    exact I1.fpOk (Nat.le_refl _) (I1.hok.fresh (Nat.le_refl _))
def iRng1 (ta:TA) : TI:=fun σ H R=>ta σ H fun vs H1=>∃j:Int,vs = [.int j]∧-(2 ^ 62)≤j∧j<2 ^ 62∧R (Itr 0 j.toNat) H1
def iRng2 (ta:TA) : TI:=fun σ H R=>ta σ H fun vs H1=>∃i j:Int,vs = [.int i,.int j]∧(-(2 ^ 62)≤i∧i<2 ^ 62∧-(2 ^ 62)≤j∧j<2 ^ 62)∧R (Itr i (j - i).toNat) H1
theorem pi_range1 {a:Expr} {ta:TA} {p pos:Pos} (hg:Gl X "range") (hm:X.mg "range" = none) (ha:PA X [a] ta) (hs:starEach [a] X.env = [(false,eval a X.env)]:=by rfl) : PI X tg (.Call (.Name "range" p) [a] [] pos) (iRng1 ta):=by
  intro pins s σ H R I h
  refine Call_ (ld_blt I hg hm boot_range (PyProof.Rows.callWith_type1 (thn (ha pos pins s σ H _ I h) fun us s1 ⟨vs,H1,I1,r1,q1⟩=>?_) hs rfl))
  obtain ⟨j,e,q1,q2,q⟩:=q1
  subst e
  cases r1 with
  | cons r rr =>
    cases rr
    obtain ⟨t,rfl⟩:=r
    exact call_range_1 (range_it I1 (by lia) (by lia) q1 q2 (by simpa using q))
theorem pi_range2 {a b:Expr} {ta:TA} {p pos:Pos} (hg:Gl X "range") (hm:X.mg "range" = none) (ha:PA X [a,b] ta) (hs:starEach [a,b] X.env = [(false,eval a X.env),(false,eval b X.env)]:=by rfl) (hs2:starEach [b] X.env = [(false,eval b X.env)]:=by rfl) :
    PI X tg (.Call (.Name "range" p) [a,b] [] pos) (iRng2 ta):=by
  intro pins s σ H R I h
  refine Call_ (ld_blt I hg hm boot_range (PyProof.Rows.callWith_type1 (thn (ha pos pins s σ H _ I h) fun us s1 ⟨vs,H1,I1,r1,q1⟩=>?_) (by rw[hs,hs2]) (by rw[hs2]; rfl)))
  obtain ⟨i,j,e,⟨q1,q2,q3,q4⟩,q⟩:=q1
  subst e
  cases r1 with
  | cons r rr =>
    cases rr with
    | cons r' rr =>
      cases rr
      obtain ⟨t,rfl⟩:=r
      obtain ⟨t',rfl⟩:=r'
      exact call_range_2 (range_it I1 q1 q2 q3 q4 q)
def tFor (wi:TI) (g:TG) (tb:TS) : TS:=fun D σ H=>wi σ H fun J H1=>∃W:Nat→Nat→St→Hp→Prop,(∃m,W 0 m σ H1)∧∀i m σ H,W i m σ H →
  (J.stop i H∧D.nx σ H)∨(J.go i H∧∃N:St→Hp→Prop,(∀σ' H',N σ' H'→∃m',m'<m∧W (i+1) m' σ' H')∧∀x H',J.yld i H x H'→g x σ H' fun σ2 H2=>tb { D with nx:=N,ct:=N,bk:=D.nx } σ2 H2)
def pinsAt (fp:List Addr) (h:Heap) : List (Addr×Obj):=fp.filterMap fun b=>(h.get? b).map fun o=>(b,o)
theorem mem_pinsAt {fp:List Addr} {h:Heap} {b:Addr} {o:Obj} (hb:b∈fp) (e:h.get? b=some o) : (b,o)∈pinsAt fp h:=List.mem_filterMap.mpr ⟨b,hb,by rw[e]; rfl⟩
theorem of_pinsAt {fp:List Addr} {h:Heap} {p:Addr×Obj} (hp:p∈pinsAt fp h) : p.1∈fp∧h.get? p.1=some p.2:=by
  obtain ⟨b,hb,e⟩:=List.mem_filterMap.mp hp
  cases q:h.get? b with
  | none=>rw[q] at e; cases e
  | some o =>
    rw[q] at e
    have e':(b,o)=p:=Option.some.inj e
    subst e'
    exact ⟨hb,q⟩
theorem Inv.pinned {pins:List (Addr×Obj)} {σ:St} {H:Hp} {s:Shared} {fp:List Addr} (I:Inv X pins σ H s) (hf:∀b∈fp,FpOk X pins H b) (ho:∀b∈fp,∃o,s.heap.get? b=some o∧∀v,o.data≠.cell v) : Inv X (pins++pinsAt fp s.heap) σ H s:=
  I.pins_of fun p hp=>(List.mem_append.mp hp).elim (fun z=>I.pin p (List.mem_append_right _ z)) fun z=>by
    obtain ⟨hb,e⟩:=of_pinsAt z
    obtain ⟨f0,f1,f2,_⟩:=hf p.1 hb
    obtain ⟨o,e',d⟩:=ho p.1 hb
    rw[e] at e'; cases e'
    exact ⟨e,f0,f1,f2,d⟩
theorem Inv.unpinned {pins pl:List (Addr×Obj)} {σ:St} {H:Hp} {s:Shared} (I:Inv X (pins++pl) σ H s) : Inv X pins σ H s:=I.pins_of fun p hp=>I.pin p (List.mem_append_right _ (List.mem_append_left _ hp))
theorem ps_for {iter:Expr} {body:List Stmt} {wi:TI} {g:TG} {tb:TS} {pos:Pos} (hp:PassesOwn (model X.prog X.w) X.A X.env X.xe) (hc:X.calm=true) (hi:PI X tg iter wi) (hg:PG X tg g) (hb:PSs X body tb)
    (hs:∀x,foldedSetIterable iter X.env x=pure x:=by intro _; rfl) : PS X (.For tg iter body [] pos) (tFor wi g tb):=by
  intro pins s σ H D I h
  refine wpAny_For (thn (hi pins s σ H _ I h) fun v s1 h1=>thn h1 fun itv s2 h2=>?_) hs
  obtain ⟨it,fp,tn,J,H2,e,I2,T,st2,f2,W,⟨m0,w0⟩,turn⟩:=h2
  subst e
  have stat:∀{H':Hp},(∀b∈fp,H' b=none)→∀b∈fp,FpOk X pins H' b:=fun hn b hb=>⟨hn b hb,(f2 b hb).2⟩
  refine codeAny_forLoop_any (fun n s'=>∃i σ' H',Inv X pins σ' H' s'∧tn i s'.heap∧(∀b∈fp,H' b=none)∧W i n σ' H') ?_ m0 ⟨0,σ,H2,I2,st2,fun b hb=>(f2 b hb).1,w0⟩
  rintro n s3 ⟨i,σ3,H3,I3,st3,fr3,w3⟩
  rcases turn i n σ3 H3 w3 with ⟨stop,qn⟩ | ⟨go,N,hN,step⟩
  · refine wpAny_passesOwn hp (thn (T.done X rfl rfl rfl hc i pins s3 σ3 H3 X.xe I3 (stat fr3) st3 stop) fun r s4 ⟨hr,I4⟩=>?_)
    subst hr
    exact wpAny_execs_nil ⟨σ3,H3,I4,qn⟩
  · refine wpAny_passesOwn hp (thn (T.item X rfl rfl rfl hc i pins s3 σ3 H3 X.xe I3 (stat fr3) st3 go) fun r s4 ⟨u,hr,h4⟩=>?_)
    subst hr
    refine wpAny_passesOwn hp (thn h4 fun _ s5 ⟨x,H5,I5,r5,y5,st5,fr5⟩=>?_)
    have I5':=I5.pinned (stat fr5) (T.obj _ _ st5)
    refine wpAny_passesOwn hp (thn (hg _ s5 σ3 H5 x u _ I5' r5 (step x H5 y5)) fun _ s6 ⟨σ6,H6,I6,q6⟩=>?_)
    refine wpAny_passesOwn hp (thn (hb _ s6 σ6 H6 _ I6 q6) fun f s7 q7=>?_)
    have again:∀{σ7:St} {H7:Hp},Inv X (pins++pinsAt fp s5.heap) σ7 H7 s7→N σ7 H7→∃m,m<n∧∃i σ' H',Inv X pins σ' H' s7∧tn i s7.heap∧(∀b∈fp,H' b=none)∧W i m σ' H':=fun {σ7 H7} I7 n7=>by
      obtain ⟨m',hm,w7⟩:=hN σ7 H7 n7
      refine ⟨m',hm,i+1,σ7,H7,I7.unpinned,T.keep _ _ _ st5 fun b hb o e=>(I7.pin (b,o) (List.mem_append_right _ (List.mem_append_right _ (mem_pinsAt hb e)))).1,fun b hb=>?_,w7⟩
      obtain ⟨o,e,d⟩:=T.obj _ _ st5 b hb
      exact (I7.pin (b,o) (List.mem_append_right _ (List.mem_append_right _ (mem_pinsAt hb e)))).2.1
    cases f with
    | next=>obtain ⟨σ7,H7,I7,n7⟩:=q7; exact again I7 n7
    | cont=>obtain ⟨σ7,H7,I7,n7⟩:=q7; exact again I7 n7
    | brk=>obtain ⟨σ7,H7,I7,q7⟩:=q7; exact ⟨σ7,H7,I7.unpinned,q7⟩
    | ret v=>obtain ⟨x7,σ7,H7,I7,r7,q7⟩:=q7; exact ⟨x7,σ7,H7,I7.unpinned,r7,q7⟩
end
end L2
namespace L2
open PySem PySem.Spec PyProof.Rows
abbrev R2:=V→V→Hp→VK→Prop
def OpR (X:Cx) (f:Value→Value→Sem Value) (r:R2) : Prop:=
  ∀(pins:List (Addr×Obj)) (s:Shared) (σ:St) (H:Hp) (x y:V) (v u:Value) (Q:VK),Inv X pins σ H s→RelV x v→RelV y u→r x y H Q →
    wpAny (model X.prog X.w) X.A (f v u) (EP X pins σ Q) X.xe s
def UnR (X:Cx) (f:Value→Sem Value) (r:V→Hp→VK→Prop) : Prop:=
  ∀(pins:List (Addr×Obj)) (s:Shared) (σ:St) (H:Hp) (x:V) (v:Value) (Q:VK),Inv X pins σ H s→RelV x v→r x H Q →
    wpAny (model X.prog X.w) X.A (f v) (EP X pins σ Q) X.xe s
def CallR (X:Cx) (f:Value) (r:List V→Hp→VK→Prop) : Prop:=
  ∀(pins:List (Addr×Obj)) (s:Shared) (σ:St) (H:Hp) (xs:List V) (us:List Value) (Q:VK),Inv X pins σ H s→Vals xs us→r xs H Q →
    wpAny (model X.prog X.w) X.A (call f us) (EP X pins σ Q) X.xe s
def TruR (X:Cx) (r:V→Hp→(Bool→Hp→Prop)→Prop) : Prop:=
  ∀(pins:List (Addr×Obj)) (s:Shared) (σ:St) (H:Hp) (x:V) (v:Value) (Q:Bool→Hp→Prop),Inv X pins σ H s→RelV x v→r x H Q →
    wpAny (model X.prog X.w) X.A (truthy v) (TP X pins σ Q) X.xe s
def tOp (r:R2) (ta tb:TE) : TE:=fun σ H Q=>ta σ H fun x H1=>tb σ H1 fun y H2=>r x y H2 Q
def tUn (r:V→Hp→VK→Prop) (ta:TE) : TE:=fun σ H Q=>ta σ H fun x H1=>r x H1 Q
def rI (C:Int→Int→Prop) (g:Int→Int→V) : R2:=fun x y H Q=>∃i j,x=.int i∧y=.int j∧C i j∧Q (g i j) H
def rI0 (g:Int→Int→V) : R2:=fun x y H Q=>∃i j,x=.int i∧y=.int j∧Q (g i j) H
def rU (g:Int→V) : V→Hp→VK→Prop:=fun x H Q=>∃i,x=.int i∧Q (g i) H
section
variable {X:Cx} {a b c:Expr} {ta tb tc:TE} {pos:Pos}
theorem binT (ha:PE X a ta) (hb:PE X b tb) {pins:List (Addr×Obj)} {s:Shared} {σ:St} {H:Hp} {R:V→V→Hp→Prop} (I:Inv X pins σ H s)
    (h:ta σ H fun x H1=>tb σ H1 fun y H2=>R x y H2) {Q:Value→Shared→Prop} {f:Value→Value→Sem Value}
    (hf:∀v u s2 x y H2,Inv X pins σ H2 s2→RelV x v→RelV y u→R x y H2→wpAny (model X.prog X.w) X.A (f v u) Q X.xe s2) :
    wpAny (model X.prog X.w) X.A (eval a X.env) (fun v s₁=>wpAny (model X.prog X.w) X.A (eval b X.env) (fun u s₂=>wpAny (model X.prog X.w) X.A (f v u) Q X.xe s₂) X.xe s₁) X.xe s:=by
  refine thn (ha pins s σ H _ I h) fun v s1 ⟨x,H1,I1,r1,q1⟩=>?_
  refine thn (hb pins s1 σ H1 _ I1 q1) fun u s2 ⟨y,H2,I2,r2,q2⟩=>?_
  exact hf v u s2 x y H2 I2 r1 r2 q2
theorem pe_op {op:Operator} {r:R2} (ho:OpR X (binaryOp op) r) (ha:PE X a ta) (hb:PE X b tb) : PE X (.BinOp a op b pos) (tOp r ta tb):=by
  intro pins s σ H Q I h
  exact wpAny_BinOp (binT ha hb I h fun v u s2 x y H2 I2 rx ry q=>ho pins s2 σ H2 x y v u Q I2 rx ry q)
theorem pe_un {op:UnaryOp} {r:V→Hp→VK→Prop} (ho:UnR X (unaryOp op) r) (ha:PE X a ta) : PE X (.UnaryOp op a pos) (tUn r ta):=by
  intro pins s σ H Q I h
  exact UnaryOp_ (thn (ha pins s σ H _ I h) fun v s1 ⟨x,H1,I1,r1,q1⟩=>ho pins s1 σ H1 x v Q I1 r1 q1)
theorem opI {f:Value→Value→Sem Value} {C:Int→Int→Prop} {g:Int→Int→Int}
    (rule:∀(i j:Int) (t u:Tok) (s:Shared) (Q:Value→Shared→Prop) (E:Value→Shared→Prop),C i j→Q (.int (g i j) s.toks) { s with toks:=s.toks+1 }→wpAny (model X.prog X.w) X.A (f (.int i t) (.int j u)) Q E s) :
    OpR X f (rI C fun i j=>.int (g i j)):=by
  intro pins s σ H x y v u Q I rx ry h
  obtain ⟨i,j,rfl,rfl,hc,q⟩:=h
  obtain ⟨t,rfl⟩:=rx
  obtain ⟨t',rfl⟩:=ry
  exact rule i j t t' s _ _ hc ⟨.int (g i j),H,I.tok _,⟨_,rfl⟩,q⟩
theorem opI0 {f:Value→Value→Sem Value} {g:Int→Int→Int}
    (rule:∀(i j:Int) (t u:Tok) (s:Shared) (Q:Value→Shared→Prop) (E:Value→Shared→Prop),Q (.int (g i j) s.toks) { s with toks:=s.toks+1 }→wpAny (model X.prog X.w) X.A (f (.int i t) (.int j u)) Q E s) :
    OpR X f (rI0 fun i j=>.int (g i j)):=by
  intro pins s σ H x y v u Q I rx ry h
  obtain ⟨i,j,rfl,rfl,q⟩:=h
  obtain ⟨t,rfl⟩:=rx
  obtain ⟨t',rfl⟩:=ry
  exact rule i j t t' s _ _ ⟨.int (g i j),H,I.tok _,⟨_,rfl⟩,q⟩
theorem opB0 {f:Value→Value→Sem Value} {g:Int→Int→Bool}
    (rule:∀(i j:Int) (t u:Tok) (s:Shared) (Q:Value→Shared→Prop) (E:Value→Shared→Prop),Q (.bool (g i j)) s→wpAny (model X.prog X.w) X.A (f (.int i t) (.int j u)) Q E s) :
    OpR X f (rI0 fun i j=>.bl (g i j)):=by
  intro pins s σ H x y v u Q I rx ry h
  obtain ⟨i,j,rfl,rfl,q⟩:=h
  obtain ⟨t,rfl⟩:=rx
  obtain ⟨t',rfl⟩:=ry
  exact rule i j t t' s _ _ ⟨.bl (g i j),H,I,rfl,q⟩
def CDiv (i j:Int) : Prop:=0<j∧j<1073741824
def CPow (i j:Int) : Prop:=0≤j∧j≤1000000∧i.natAbs<2 ^ 64
def CMul (i j:Int) : Prop:=(-(2 ^ 64)<i∧i<2 ^ 64)∨(-(2 ^ 64)<j∧j<2 ^ 64)
theorem CMul.ok {i j:Int} (h:CMul i j) : IntMulOk i j:=by
  rcases h with ⟨h1,h2⟩ | ⟨h1,h2⟩
  · exact .of_left (intBits_le_64 h1 h2)
  · exact .of_right (intBits_le_64 h1 h2)
theorem op_add:OpR X (binaryOp .Add) (rI0 fun i j=>.int (i+j)):=opI0 fun _ _ _ _ _ _ _ q=>add_int q
theorem op_sub:OpR X (binaryOp .Sub) (rI0 fun i j=>.int (i - j)):=opI0 fun _ _ _ _ _ _ _ q=>sub_int q
theorem op_mul:OpR X (binaryOp .Mult) (rI CMul fun i j=>.int (i*j)):=opI fun _ _ _ _ _ _ _ hc q=>mul_int q hc.ok
theorem op_fdiv:OpR X (binaryOp .FloorDiv) (rI CDiv fun i j=>.int (i / j)):=opI fun i j _ _ _ _ _ hc q=>by
  have h1:(0:Int)<j:=hc.1
  have h2:j<1073741824:=hc.2
  exact floordiv_int (by lia) (by rw[Int.fdiv_eq_ediv_of_nonneg i (by lia)]; exact q) (.inl (PyProof.noPylong_small (by lia)))
theorem op_mod:OpR X (binaryOp .Mod) (rI (fun _ j=>0<j) fun i j=>.int (i % j)):=opI fun i j _ _ _ _ _ hc q=>by
  have h1:(0:Int)<j:=hc
  exact mod_int' (by lia) (by rw[Int.fmod_eq_emod_of_nonneg i (by lia)]; exact q)
theorem op_pow:OpR X (binaryOp .Pow) (rI CPow fun i j=>.int (i ^ j.toNat)):=opI fun _ _ _ _ _ _ _ hc q=>pow_int_small hc.1 hc.2.1 hc.2.2 q
theorem unI {f:Value→Sem Value} {g:Int→Int}
    (rule:∀(i:Int) (t:Tok) (s:Shared) (Q:Value→Shared→Prop) (E:Value→Shared→Prop),Q (.int (g i) s.toks) { s with toks:=s.toks+1 }→wpAny (model X.prog X.w) X.A (f (.int i t)) Q E s) :
    UnR X f (rU fun i=>.int (g i)):=by
  intro pins s σ H x v Q I rx h
  obtain ⟨i,rfl,q⟩:=h
  obtain ⟨t,rfl⟩:=rx
  exact rule i t s _ _ ⟨.int (g i),H,I.tok _,⟨_,rfl⟩,q⟩
theorem un_neg:UnR X (unaryOp .USub) (rU fun i=>.int (-i)):=unI fun _ _ _ _ _ q=>neg_int q
end
def scal:V→V→Bool
  | .non,.non=>true | .non,.int _=>true | .int _,.non=>true | .non,.bl _=>true | .bl _,.non=>true | .non,.str _=>true | .str _,.non=>true
  | .int _,.int _=>true | .bl _,.bl _=>true | .str _,.str _=>true | .byt _,.byt _=>true
  | .int _,.str _=>true | .str _,.int _=>true | .bl _,.str _=>true | .str _,.bl _=>true
  | _,_=>false
def rEq:R2:=fun x y H Q=>scal x y=true∧Q (.bl (decide (x=y))) H
def rNe:R2:=fun x y H Q=>scal x y=true∧Q (.bl (!decide (x=y))) H
theorem dec_int {i j:Int} : decide (V.int i=V.int j)=(i == j):=by
  rw[Bool.eq_iff_iff]
  simp
theorem dec_bl {i j:Bool} : decide (V.bl i=V.bl j)=(i == j):=by
  rw[Bool.eq_iff_iff]
  simp
theorem dec_str {i j:Str} : decide (V.str i=V.str j)=(i == j):=by
  rw[Bool.eq_iff_iff]
  simp
theorem dec_byt {i j:Array UInt8} : decide (V.byt i=V.byt j)=(i.toList == j.toList):=by
  rw[Bool.eq_iff_iff]
  cases i
  cases j
  simp
section
variable {X:Cx} {a b c:Expr} {ta tb tc:TE} {pos:Pos}
theorem fin_bl {pins:List (Addr×Obj)} {σ:St} {H:Hp} {s:Shared} {Q:VK} {k k':Bool} (I:Inv X pins σ H s) (q:Q (.bl k) H) (e:k=k') : EP X pins σ Q (.bool k') s:=by
  subst e
  exact ⟨.bl k,H,I,rfl,q⟩
theorem op_eq:OpR X (compareOp .Eq) rEq:=by
  intro pins s σ H x y v u Q I rx ry h
  obtain ⟨hs,q⟩:=h
  cases x with
  | non =>
    cases rx
    cases y with
    | non=>cases ry; exact PySem.EqNone.eq_none_none (fin_bl I q (by simp))
    | bl j=>cases ry; exact PySem.EqNone.eq_none_bool (fin_bl I q (by simp))
    | int j=>obtain ⟨t',rfl⟩:=ry; exact PySem.EqNone.eq_none_int (fin_bl I q (by simp))
    | str j=>obtain ⟨t',rfl⟩:=ry; exact PySem.EqNone.eq_none_str (fin_bl I q (by simp))
    | _=>exact absurd (show false=true from hs) Bool.false_ne_true
  | bl i =>
    cases rx
    cases y with
    | non=>cases ry; exact PySem.EqNone.eq_bool_none (fin_bl I q (by simp))
    | bl j=>cases ry; exact eq_bool (fin_bl I q dec_bl)
    | str j=>obtain ⟨t',rfl⟩:=ry; exact PySem.EqMixed.eq_bool_str (fin_bl I q (by simp))
    | _=>exact absurd (show false=true from hs) Bool.false_ne_true
  | int i =>
    obtain ⟨t,rfl⟩:=rx
    cases y with
    | non=>cases ry; exact PySem.EqNone.eq_int_none (fin_bl I q (by simp))
    | int j=>obtain ⟨t',rfl⟩:=ry; exact eq_int (fin_bl I q dec_int)
    | str j=>obtain ⟨t',rfl⟩:=ry; exact PySem.EqMixed.eq_int_str (fin_bl I q (by simp))
    | _=>exact absurd (show false=true from hs) Bool.false_ne_true
  | str i =>
    obtain ⟨t,rfl⟩:=rx
    cases y with
    | non=>cases ry; exact PySem.EqNone.eq_str_none (fin_bl I q (by simp))
    | bl j=>cases ry; exact PySem.EqMixed.eq_str_bool (fin_bl I q (by simp))
    | int j=>obtain ⟨t',rfl⟩:=ry; exact PySem.EqMixed.eq_str_int (fin_bl I q (by simp))
    | str j=>obtain ⟨t',rfl⟩:=ry; exact eq_str (fin_bl I q dec_str)
    | _=>exact absurd (show false=true from hs) Bool.false_ne_true
  | byt i =>
    obtain ⟨t,rfl⟩:=rx
    cases y with
    | byt j=>obtain ⟨t',rfl⟩:=ry; exact PySem.W.eq_bytes (fin_bl I q dec_byt)
    | _=>exact absurd (show false=true from hs) Bool.false_ne_true
  | _=>cases y<;>exact absurd (show false=true from hs) Bool.false_ne_true
theorem op_ne:OpR X (compareOp .NotEq) rNe:=by
  intro pins s σ H x y v u Q I rx ry h
  obtain ⟨hs,q⟩:=h
  cases x with
  | non =>
    cases rx
    cases y with
    | non=>cases ry; exact PySem.EqNone.ne_none_none (fin_bl I q (by simp))
    | bl j=>cases ry; exact PySem.EqNone.ne_none_bool (fin_bl I q (by simp))
    | int j=>obtain ⟨t',rfl⟩:=ry; exact PySem.EqNone.ne_none_int (fin_bl I q (by simp))
    | str j=>obtain ⟨t',rfl⟩:=ry; exact PySem.EqNone.ne_none_str (fin_bl I q (by simp))
    | _=>exact absurd (show false=true from hs) Bool.false_ne_true
  | bl i =>
    cases rx
    cases y with
    | non=>cases ry; exact PySem.EqNone.ne_bool_none (fin_bl I q (by simp))
    | bl j=>cases ry; exact ne_bool (fin_bl I q (congrArg not dec_bl))
    | str j=>obtain ⟨t',rfl⟩:=ry; exact PySem.EqMixed.ne_bool_str (fin_bl I q (by simp))
    | _=>exact absurd (show false=true from hs) Bool.false_ne_true
  | int i =>
    obtain ⟨t,rfl⟩:=rx
    cases y with
    | non=>cases ry; exact PySem.EqNone.ne_int_none (fin_bl I q (by simp))
    | int j=>obtain ⟨t',rfl⟩:=ry; exact ne_int (fin_bl I q (congrArg not dec_int))
    | str j=>obtain ⟨t',rfl⟩:=ry; exact PySem.EqMixed.ne_int_str (fin_bl I q (by simp))
    | _=>exact absurd (show false=true from hs) Bool.false_ne_true
  | str i =>
    obtain ⟨t,rfl⟩:=rx
    cases y with
    | non=>cases ry; exact PySem.EqNone.ne_str_none (fin_bl I q (by simp))
    | bl j=>cases ry; exact PySem.EqMixed.ne_str_bool (fin_bl I q (by simp))
    | int j=>obtain ⟨t',rfl⟩:=ry; exact PySem.EqMixed.ne_str_int (fin_bl I q (by simp))
    | str j=>obtain ⟨t',rfl⟩:=ry; exact ne_str (fin_bl I q (congrArg not dec_str))
    | _=>exact absurd (show false=true from hs) Bool.false_ne_true
  | byt i =>
    obtain ⟨t,rfl⟩:=rx
    cases y with
    | byt j=>obtain ⟨t',rfl⟩:=ry; exact PySem.W.ne_bytes (fin_bl I q (congrArg not dec_byt))
    | _=>exact absurd (show false=true from hs) Bool.false_ne_true
  | _=>cases y<;>exact absurd (show false=true from hs) Bool.false_ne_true
theorem op_lt:OpR X (compareOp .Lt) (rI0 fun i j=>.bl (decide (i<j))):=opB0 fun _ _ _ _ _ _ _ q=>lt_int q
theorem op_gt:OpR X (compareOp .Gt) (rI0 fun i j=>.bl (decide (j<i))):=opB0 fun _ _ _ _ _ _ _ q=>gt_int q
theorem op_ge:OpR X (compareOp .GtE) (rI0 fun i j=>.bl (decide (j≤i))):=opB0 fun _ _ _ _ _ _ _ q=>ge_int q
theorem op_isN:OpR X (compareOp .Is) (fun x y H Q=>y=.non∧Q (.bl (decide (x=.non))) H):=by
  intro pins s σ H x y v u Q I rx ry h
  obtain ⟨rfl,q⟩:=h
  cases ry
  refine is_none_gen (fin_bl I q ?_)
  cases x<;>first
    | (cases rx; rfl)
    | (obtain ⟨t,rfl⟩:=rx; rfl)
theorem op_notN:OpR X (compareOp .IsNot) (fun x y H Q=>y=.non∧Q (.bl (!decide (x=.non))) H):=by
  intro pins s σ H x y v u Q I rx ry h
  obtain ⟨rfl,q⟩:=h
  cases ry
  refine isnot_none_gen (fin_bl I q ?_)
  cases x<;>first
    | (cases rx; rfl)
    | (obtain ⟨t,rfl⟩:=rx; rfl)
theorem OpR.or {f:Value→Value→Sem Value} {r r':R2} (h:OpR X f r) (h':OpR X f r') : OpR X f (fun x y H Q=>r x y H Q∨r' x y H Q):=by
  intro pins s σ H x y v u Q I rx ry q
  rcases q with q | q
  · exact h pins s σ H x y v u Q I rx ry q
  · exact h' pins s σ H x y v u Q I rx ry q
theorem nomark (b:Expr) {op:CmpOp} (h:op≠.In:=by decide) (h2:op≠.NotIn:=by decide) : behindInMarks op b=false:=by
  have e1:(op == CmpOp.In)=false:=by cases op<;>first | rfl | exact absurd rfl h
  have e2:(op == CmpOp.NotIn)=false:=by cases op<;>first | rfl | exact absurd rfl h2
  cases b<;>simp[behindInMarks,e1,e2]
theorem pe_cmpR {op:CmpOp} {r:R2} (ho:OpR X (compareOp op) r) (ha:PE X a ta) (hb:PE X b tb) (hm:behindInMarks op b=false) : PE X (.Compare a [op] [b] pos) (tOp r ta tb):=by
  intro pins s σ H Q I h
  exact wpAny_Compare1 (binT ha hb I h fun v u s2 x y H2 I2 rx ry q=>ho pins s2 σ H2 x y v u Q I2 rx ry q) hm
def tTest (t:TE) : TT:=fun σ H Q=>t σ H fun x H'=>∃k,x=.bl k∧Q k H'
theorem pt_cmpR {op:CmpOp} {r:R2} (ho:OpR X (compareOp op) r) (ha:PE X a ta) (hb:PE X b tb) (hm:behindInMarks op b=false) : PT X (.Compare a [op] [b] pos) (tTest (tOp r ta tb)):=by
  intro pins s σ H Q I h
  refine wpAny_isTrue_Compare1 (thn (ha pins s σ H _ I h) fun v s1 ⟨x,H1,I1,r1,q1⟩=>thn (hb pins s1 σ H1 _ I1 q1) fun u s2 ⟨y,H2,I2,r2,q2⟩ =>
    thn (ho pins s2 σ H2 x y v u _ I2 r1 r2 q2) fun c s3 ⟨z,H3,I3,r3,k,e,q3⟩=>?_) hm
  subst e
  cases r3
  exact wpAny_truthy_bool ⟨H3,I3,q3⟩
def TruV (K:PySem.W.Frag) (x:V) (H:Hp) (k:Bool) : Prop:=
  match x with
  | .non=>k=false
  | .bl b=>k=b
  | .int i=>k=(i != 0)
  | .str y=>y.length≤sizeLine∧k=((y.length:Int) != 0)
  | .byt y=>y.size≤sizeLine∧k=((y.size:Int) != 0)
  | .ref p=>(∃xs,SqL K H p xs∧k = !xs.isEmpty)∨(∃xs,SqT K H p xs∧k = !xs.isEmpty)∨∃kvs,H p=some (.dK kvs)∧k = !kvs.isEmpty
  | _=>False
theorem isEmpty_kv {κ:Type} {kvs:List (κ×V)} {vs:List (κ×Value)} (r:KV kvs vs) : (!vs.isEmpty) = !kvs.isEmpty:=by
  cases r<;>rfl
theorem isEmpty_of {xs:List V} {its:List Value} (r:Vals xs its) : (!its.toArray.isEmpty) = !xs.isEmpty:=by
  cases r<;>simp
theorem line63:(sizeLine:Nat)<2 ^ 63:=by rw[sizeLine_eq]; decide
theorem tru_ok:TruR X (fun x H Q=>∃k,TruV X.K x H k∧Q k H):=by
  intro pins s σ H x v Q I rx h
  obtain ⟨k,e,q⟩:=h
  have hl:=line63
  have hs:sizeLine=16777216:=sizeLine_eq
  cases x with
  | non =>
    cases rx
    have e':k=false:=e
    subst e'
    exact truthy_none ⟨H,I,q⟩
  | bl b =>
    cases rx
    have e':k=b:=e
    subst e'
    exact wpAny_truthy_bool ⟨H,I,q⟩
  | int i =>
    obtain ⟨t,rfl⟩:=rx
    have e':k=(i != 0):=e
    subst e'
    exact PySem.P.truthy_int ⟨H,I,q⟩
  | str y =>
    obtain ⟨t,rfl⟩:=rx
    obtain ⟨hy,e'⟩ : y.length≤sizeLine∧k=((y.length:Int) != 0):=e
    subst e'
    exact PySem.P.truthy_str (by lia) ⟨H,I.tok _,q⟩
  | byt y =>
    obtain ⟨t,rfl⟩:=rx
    obtain ⟨hy,e'⟩ : y.size≤sizeLine∧k=((y.size:Int) != 0):=e
    subst e'
    exact PySem.W.truthy_bytes (by lia) ⟨H,I.tok _,q⟩
  | ref p =>
    cases rx
    have e':(∃xs,SqL X.K H p xs∧k = !xs.isEmpty)∨(∃xs,SqT X.K H p xs∧k = !xs.isEmpty)∨∃kvs,H p=some (.dK kvs)∧k = !kvs.isEmpty:=e
    rcases e' with ⟨xs,hx,e'⟩ | ⟨xs,hx,e'⟩ | ⟨kvs,hx,e'⟩
    · subst e'
      obtain ⟨its,r,pl,hz⟩:=I.list hx
      have hlen:=r.length
      exact wpAny_truthy_list pl.isList (by simp only[List.size_toArray]; lia) ⟨H,I.tok _,by rw[isEmpty_of r]; exact q⟩
    · subst e'
      obtain ⟨its,r,pl,hz⟩:=I.tuple hx
      have hlen:=r.length
      exact truthy_tuple pl (by simp only[List.size_toArray]; lia) ⟨H,I.tok _,by rw[isEmpty_of r]; exact q⟩
    · subst e'
      obtain ⟨hz,hS,vs,r,m⟩ : kvs.length≤sizeLine∧(p == sysModules)=false∧∃vs,KV kvs vs∧s.heap.DictOf (mixKind X.prog X.w) p vs:=I.hok p _ hx
      have hlen:kvs.length=vs.length:=Paired.length r
      exact wpAny_truthy_dict hS m (by lia) ⟨H,I.tok _,by rw[isEmpty_kv r]; exact q⟩
  | _=>exact (show False from e).elim
theorem op_add_str:OpR X (binaryOp .Add) (fun x y H Q=>∃i j,x=.str i∧y=.str j∧i.length+j.length≤sizeLine∧Q (.str (i++j)) H):=by
  intro pins s σ H x y v u Q I rx ry h
  obtain ⟨i,j,rfl,rfl,hz,q⟩:=h
  obtain ⟨t,rfl⟩:=rx
  obtain ⟨t',rfl⟩:=ry
  exact add_str (fun t' tk=>⟨.str (i++j),H,I.tok _,⟨_,rfl⟩,q⟩) hz
theorem vals1 {x:V} {us:List Value} (r:Vals [x] us) : ∃u,us = [u]∧RelV x u:=by
  cases r with
  | cons r1 r2=>cases r2; exact ⟨_,rfl,r1⟩
theorem vals2 {x y:V} {us:List Value} (r:Vals [x,y] us) : ∃u w',us = [u,w']∧RelV x u∧RelV y w':=by
  cases r with
  | cons r1 r2 =>
    cases r2 with
    | cons r3 r4=>cases r4; exact ⟨_,_,rfl,r1,r3⟩
theorem call_min2 (hc:X.calm=true) : CallR X (.builtin "min") (fun xs H Q=>∃i j,xs = [.int i,.int j]∧Q (.int (if j<i then j else i)) H):=by
  intro pins s σ H xs us Q I r h
  obtain ⟨i,j,rfl,q⟩:=h
  obtain ⟨u,w',rfl,⟨t,rfl⟩,⟨t',rfl⟩⟩:=vals2 r
  refine min_two_ints (I.ok.hd hc) fun h' tk k=>⟨_,H,I.kept k,?_,q⟩
  by_cases hj:j<i
  · rw[if_pos hj,if_pos hj]; exact ⟨_,rfl⟩
  · rw[if_neg hj,if_neg hj]; exact ⟨_,rfl⟩
def LenV (K:PySem.W.Frag) (x:V) (H:Hp) (n:Nat) : Prop:=
  match x with
  | .str y=>y.length≤sizeLine∧n=y.length
  | .byt y=>y.size≤sizeLine∧n=y.size
  | .ref p=>(∃xs,SqL K H p xs∧n=xs.length)∨∃xs,SqT K H p xs∧n=xs.length
  | _=>False
theorem call_len:CallR X (.builtin "len") (fun xs H Q=>∃x n,xs = [x]∧LenV X.K x H n∧Q (.int n) H):=by
  intro pins s σ H xs us Q I r h
  obtain ⟨x,n,rfl,e,q⟩:=h
  obtain ⟨u,rfl,rx⟩:=vals1 r
  have hl:=line63
  have hs:sizeLine=16777216:=sizeLine_eq
  cases x with
  | str y =>
    obtain ⟨t,rfl⟩:=rx
    obtain ⟨hy,e'⟩ : y.length≤sizeLine∧n=y.length:=e
    subst e'
    exact len_str (by lia) ⟨.int _,H,I.tok _,⟨_,rfl⟩,q⟩
  | byt y =>
    obtain ⟨t,rfl⟩:=rx
    obtain ⟨hy,e'⟩ : y.size≤sizeLine∧n=y.size:=e
    subst e'
    exact PySem.W.len_bytes (by lia) ⟨.int _,H,I.tok _,⟨_,rfl⟩,q⟩
  | ref p =>
    cases rx
    have e':(∃xs,SqL X.K H p xs∧n=xs.length)∨∃xs,SqT X.K H p xs∧n=xs.length:=e
    rcases e' with ⟨xs,hx,e'⟩ | ⟨xs,hx,e'⟩
    · subst e'
      obtain ⟨its,r',pl,hz⟩:=I.list hx
      have hlen:=r'.length
      exact Calls.call_len_list pl.isList (by simp only[List.size_toArray]; lia) ⟨.int xs.length,H,I.tok _,⟨_,by simp only[List.size_toArray]; rw[hlen]⟩,q⟩
    · subst e'
      obtain ⟨its,r',pl,hz⟩:=I.tuple hx
      have hlen:=r'.length
      exact len_tuple pl (by simp only[List.size_toArray]; lia) ⟨.int xs.length,H,I.tok _,⟨_,by simp only[List.size_toArray]; rw[hlen]⟩,q⟩
  | _=>exact (show False from e).elim
end
end L2
namespace L2
open PySem PySem.Spec PyProof.Rows
structure ObjM (h:Heap) (x dx C:Addr) (mA:Str→Option Value) : Prop where
  obj:h.get? x=some (PySem.W.instObj C dx)
  ns:h.Ns1 dx mA
  ne:dx≠x
theorem lookIn_ns {h:Heap} {dx:Addr} {mA:Str→Option Value} (n:h.Ns1 dx mA) : ∃od,h.get? dx=some od∧∀name,PySem.W.lookIn name od=some (mA name):=by
  obtain ⟨o,es,ep,ho,hd,hk,_,hm⟩:=n
  refine ⟨o,ho,fun name=>?_⟩
  have e:=hm name
  unfold nsFind findBy at e
  rw[←Array.find?_toList] at e
  unfold PySem.W.lookIn
  rw[hd]
  dsimp only
  split
  · rename_i y q
    rw[q] at e
    exact congrArg some e
  · rename_i q
    rw[q] at e
    have a:es.toList.any (·.refKey)=false:=by
      rw[List.any_eq_false]
      intro y hy
      obtain ⟨z,t,hkey⟩:=hk y (Array.mem_toList_iff.mp hy)
      simp[DictEntry.refKey,hkey]
    have a':¬es.toList.any (·.refKey)=true:=by rw[a]; exact Bool.false_ne_true
    rw[if_neg a']
    exact congrArg some e
theorem ObjM.look {h:Heap} {x dx C:Addr} {mA:Str→Option Value} (I:ObjM h x dx C mA) : ∃od,PySem.W.InstAt h x (PySem.W.instObj C dx) C (some od)∧∀name,PySem.W.lookIn name od=some (mA name):=
  let ⟨od,ho,hl⟩:=lookIn_ns I.ns
  ⟨od,⟨I.obj,rfl,rfl,ho⟩,hl⟩
section
variable {prog:Program} {w:World} {A:Around} {E:Value→Shared→Prop} {s:Shared} {K:PySem.W.Frag} {x dx C f:Addr} {mA:Str→Option Value} {name:Str} {v:Value}
end
theorem RelO.some_of {v:V} {o:Option Value} (r:RelO (some v) o) : ∃u,o=some u∧RelV v u:=by
  cases o with
  | none=>exact (show False from r).elim
  | some u=>exact ⟨u,rfl,r⟩
section
variable {P:Program} {w:World} {H H':Hp} {h h':Heap} {a C dx:Addr} {fs fs':List (Str×V)}
theorem ins_get (hok:HOk P w H h) (e:H a=some (.ins C dx fs)) : ∃mA,ObjM h a dx C mA∧(∀f,RelO (fs.lookup f) (mA f))∧PySem.Within mA (fs.map (·.1))∧fs.length≤1000∧H dx=some (.own a):=by
  obtain ⟨d,z,ne,ob,mA,n,r,q⟩:=(show ObjOk P w H h a (.ins C dx fs) from hok a _ e)
  exact ⟨mA,⟨ob,n,ne⟩,r,q,z,d⟩
end
structure Cls (K:PySem.W.Frag) (C:Addr) : Prop where
  pg:PySem.W.plainGet K C Str.empty=true
  hd:PySem.W.hasDictIn K C=true
  po:PySem.W.plainOver K C=true
  sa:PySem.W.findIn K (.ref C) "__setattr__" = some (some (.builtin "object.__setattr__"))
theorem Cls.get {K:PySem.W.Frag} {C:Addr} (c:Cls K C) (f:Str) : PySem.W.plainGet K C f=true:=c.pg
structure Con (K:PySem.W.Frag) (C:Addr) (f:Str) (v:V) (u:Value) : Prop where
  at_:PySem.W.findIn K (.ref C) f=some (some u)
  rel:RelV v u
  get:PySem.W.specialIn K u "__get__" = some none
  cp:PySem.W.copiedNames.contains f=false
structure Meth (K:PySem.W.Frag) (C:Addr) (m:Str) (f:Addr) : Prop where
  at_:PySem.W.findIn K (.ref C) m=some (some (.ref f))
  fn:PySem.W.isFn K (.ref f)=true
  kp:PySem.W.keepIn K (.ref f)=true
section
variable {X:Cx} {pins:List (Addr×Obj)} {σ:St} {H:Hp} {s:Shared} {a C dx:Addr} {fs:List (Str×V)} {f:Str} {v:V} {A:Around} {E:Value→Shared→Prop}
end
section
variable {X:Cx} {o e value:Expr} {f:Str} {pos pos' tpos:Pos} {ta tv:TE}
end
section
variable {X:Cx} {pins:List (Addr×Obj)} {σ:St} {H:Hp} {s:Shared} {A:Around} {E:Value→Shared→Prop} {Q:Value→Shared→Prop} {c:Value} {b:Bool}
inductive TyOf (K:PySem.W.Frag) (H:Hp) : V→Value→Prop where
  | non:TyOf K H .non (.type "NoneType")
  | bl (x:Bool) : TyOf K H (.bl x) (.type "bool")
  | int (i:Int) : TyOf K H (.int i) (.type "int")
  | str (x:Str) : TyOf K H (.str x) (.type "str")
  | flt (x:UInt64) : TyOf K H (.flt x) (.type "float")
  | lst {a:Addr} {xs:List V} (e:H a=some (.lst xs)) : TyOf K H (.ref a) (.type "list")
  | frz {a:Addr} {o:Obj} {xs:List V} (e:H a=some (.frz o (.lst xs))) : TyOf K H (.ref a) (.type "list")
  | tup {a:Addr} {xs:List V} (e:H a=some (.tup xs)) : TyOf K H (.ref a) (.type "tuple")
  | dK {a:Addr} {kvs:List (Key×V)} (e:H a=some (.dK kvs)) : TyOf K H (.ref a) (.type "dict")
  | dT {a:Addr} {kvs:List (List Key×V)} (e:H a=some (.dT kvs)) : TyOf K H (.ref a) (.type "dict")
  | ins {a C dx:Addr} {fs:List (Str×V)} (e:H a=some (.ins C dx fs)) (cl:Cls K C) (ha:PySem.W.findIn K (.ref C) "__class__" = some (some (.builtin "object.__class__")))
      (hn:PySem.W.specialIn K (.builtin "object.__class__") "__get__" = some (some (.builtin "getset_descriptor.__get__"))) (htk:PySem.W.takesIn K (.builtin "object.__class__")=some true)
      (hm:PySem.W.mroIn K C (.type "object")=some true) : TyOf K H (.ref a) (.ref C)
theorem isinst_ok {x:V} {u t:Value} (I:Inv X pins σ H s) (rx:RelV x u) (ty:TyOf X.K H x t) (e:PySem.W.kitOne X.K t c=some b) (h:∀tk,Q (.bool b) { s with toks:=tk }) :
    wpAny (model X.prog X.w) A (call (.builtin "isinstance") [u,c]) Q E s:=by
  cases ty with
  | non=>cases (show u=Value.none from rx); exact PySem.W.kia_one PySem.W.kitx_none I.kIn True.intro e (fun z=>nomatch z) h
  | bl y=>cases (show u=Value.bool y from rx); exact PySem.W.kia_one PySem.W.kitx_bool I.kIn True.intro e (fun z=>nomatch z) h
  | int i=>obtain ⟨t,q⟩:=(show ∃t,u=Value.int i t from rx); cases q; exact PySem.W.kia_one PySem.W.kitx_int I.kIn True.intro e (fun z=>nomatch z) h
  | str y=>obtain ⟨t,q⟩:=(show ∃t,u=Value.str y t from rx); cases q; exact PySem.W.kia_one PySem.W.kitx_str I.kIn True.intro e (fun z=>nomatch z) h
  | flt y=>obtain ⟨t,q⟩:=(show ∃t,u=Value.float y t from rx); cases q; exact PySem.W.kia_one PySem.W.kitx_float I.kIn True.intro e (fun z=>nomatch z) h
  | @lst a xs ea =>
    cases (show u=Value.ref a from rx)
    obtain ⟨_,_,n,_,h1⟩:=(show ObjOk X.prog X.w H s.heap a (.lst xs) from I.hok a _ ea)
    exact PySem.W.kia_one PySem.W.kitx_list I.kIn ⟨_,h1,rfl⟩ e (fun z=>nomatch z) h
  | @frz a ob xs ea =>
    cases (show u=Value.ref a from rx)
    obtain ⟨_,_,_,n,_,h1⟩:=(show ObjOk X.prog X.w H s.heap a (.frz ob (.lst xs)) from I.hok a _ ea)
    exact PySem.W.kia_one PySem.W.kitx_list I.kIn ⟨_,h1,rfl⟩ e (fun z=>nomatch z) h
  | @tup a xs ea =>
    cases (show u=Value.ref a from rx)
    obtain ⟨_,_,_,p⟩:=(show ObjOk X.prog X.w H s.heap a (.tup xs) from I.hok a _ ea)
    obtain ⟨o,h1,h2,_⟩:=p
    exact PySem.W.kia_one PySem.W.kitx_tuple I.kIn ⟨o,h1,h2⟩ e (fun z=>nomatch z) h
  | @dK a kvs ea =>
    cases (show u=Value.ref a from rx)
    obtain ⟨_,_,vs,_,p⟩:=(show ObjOk X.prog X.w H s.heap a (.dK kvs) from I.hok a _ ea)
    obtain ⟨o,es,ep,h1,h2,_⟩:=p
    exact PySem.W.kia_one PySem.W.kitx_dict I.kIn ⟨o,h1,h2.1⟩ e (fun z=>nomatch z) h
  | @dT a kvs ea =>
    cases (show u=Value.ref a from rx)
    obtain ⟨_,_,xs,_,o,es,ep,h1,h2,_⟩:=(show ObjOk X.prog X.w H s.heap a (.dT kvs) from I.hok a _ ea)
    exact PySem.W.kia_one PySem.W.kitx_dict I.kIn ⟨o,h1,h2.1⟩ e (fun z=>nomatch z) h
  | @ins a C dx fs ea cl ha hn htk hm =>
    cases (show u=Value.ref a from rx)
    obtain ⟨mA,O,_⟩:=ins_get I.hok ea
    obtain ⟨od,J,_⟩:=O.look
    exact PySem.W.kia_one (PySem.W.kitx_own (cl.get _) cl.hd ha hn htk hm) I.kIn J e (fun z=>nomatch z) h
end
end L2
namespace L2
open PySem PySem.Spec PyProof.Rows
structure Room (k:Nat) (A:Around) : Prop where
  hd:A.handled=none
  dp:A.depth+3*k+5<recursionLimit
  un:A.units+16*k+200<cLine
  gs:A.guards=some []
theorem Room.mono {j k:Nat} {A:Around} (r:Room k A) (h:j≤k) : Room j A:=⟨r.hd,by have:=r.dp; lia,by have:=r.un; lia,r.gs⟩
theorem Room.deeper {k:Nat} {A:Around} (r:Room (k+1) A) (env:Env) : Room k (A.deeper env):=
  ⟨r.hd,by have:=r.dp; show A.depth+1+3*k+5<_; lia,by have:=r.un; show A.units+3+16*k+200<_; lia,r.gs⟩
theorem Room.in1 {k:Nat} {A:Around} (r:Room (k+1) A) : Room k A.in1:=
  ⟨r.hd,by have:=r.dp; show A.depth+3*k+5<_; lia,by have:=r.un; show A.units+1+16*k+200<_; lia,r.gs⟩
theorem Room.depth {k:Nat} {A:Around} (r:Room k A) : A.depth<recursionLimit:=by have:=r.dp; lia
theorem Room.units {k:Nat} {A:Around} (r:Room k A) : A.units+64<cLine:=by have:=r.un; lia
def tNil:TA:=fun _ H Q=>Q [] H
def tCons (ta:TE) (tr:TA) : TA:=fun σ H Q=>ta σ H fun x H1=>tr σ H1 fun xs H2=>Q (x::xs) H2
section
variable {X:Cx} {e:Expr} {es:List Expr} {te:TE} {t:TA} {pos:Pos}
theorem pa_nil:PA X [] tNil:=fun _ _ _ _ H Q I h=>Calls.spliced_nil ⟨[],H,I,.nil,h⟩
theorem pa_cons (ha:PE X e te) (hr:PA X es t) (hs:starEach (e::es) X.env=(false,eval e X.env)::starEach es X.env:=by rfl) : PA X (e::es) (tCons te t):=by
  intro pos pins s σ H Q I h
  rw[hs]
  show wpAny _ _ (spliced ((false,eval e X.env)::backTo pos (starEach es X.env))) _ _ s
  refine Calls.spliced_cons (thn (ha pins s σ H _ I h) fun u s1 ⟨x,H1,I1,r1,q1⟩=>?_)
  exact thn (hr pos pins s1 σ H1 _ I1 q1) fun us s2 ⟨xs,H2,I2,r2,q2⟩=>⟨x::xs,H2,I2,.cons r1 r2,q2⟩
def tTup (t:TA) : TE:=fun σ H Q=>t σ H fun xs H1=>xs.length≤sizeLine∧∀p,H1 p=none→Q (.ref p) (upd H1 p (.tup xs))
def tLst (t:TA) : TE:=fun σ H Q=>t σ H fun xs H1=>xs.length≤sizeLine∧∀p,H1 p=none→Q (.ref p) (upd H1 p (.lst xs))
theorem pe_tup {x1} (h:PA X es t) : PE X (.Tuple es x1 pos) (tTup t):=by
  intro pins s σ H Q I hq
  refine wpAny_Tuple_spliced (thn (h pos pins s σ H _ I hq) fun us s1 ⟨xs,H1,I1,r,z,q⟩=>⟨by rw[←r.length]; exact z,?_⟩)
  have hf:H1 s1.heap.objs.size=none:=I1.hok.fresh (Nat.le_refl _)
  refine ⟨.ref s1.heap.objs.size,upd H1 s1.heap.objs.size (.tup xs),I1.laid (t':=s1.toks) (fun b u e=>Heap.get?_push_of_some _ e) (Nat.le_refl _) ?_,rfl,q _ hf⟩
  exact ⟨z,us,r,⟨_,Heap.get?_push_size _ rfl,rfl,_,rfl⟩⟩
theorem pe_lst (h:PA X es t) : PE X (.List es pos) (tLst t):=by
  intro pins s σ H Q I hq
  refine wpAny_List_spliced (thn (h pos pins s σ H _ I hq) fun us s1 ⟨xs,H1,I1,r,z,q⟩=>⟨by rw[←r.length]; exact z,?_⟩)
  have hf:H1 s1.heap.objs.size=none:=I1.hok.fresh (Nat.le_refl _)
  refine ⟨.ref s1.heap.objs.size,upd H1 s1.heap.objs.size (.lst xs),I1.laid (t':=s1.toks) (fun b u e=>Heap.get?_push_of_some _ e) (Nat.le_refl _) ?_,rfl,q _ hf⟩
  exact ⟨z,us,0,r,Heap.get?_push_size _ rfl⟩
end
abbrev Sp:=List V→Hp→VK→XK→Prop
abbrev CXT:=List Env→Hp→Shared→XK→Value→Shared→Prop
structure Env0 (P:Program) (w:World) (K:PySem.W.Frag) (mg:Str→Option Value) (base:Heap) (A:Around) (outer:List Env) (s:Shared) (H:Hp) : Prop where
  frames:A.frames=some outer
  mod:Mod K mg base
  bs:∀b o,base.get? b=some o→s.heap.get? b=some o∧H b=none
  bsz:base.objs.size≤s.heap.objs.size
  funs:s.heap.FunFrames base outer
  frf:∀b∈frs outer,H b=none
  hok:HOk P w H s.heap
  bare:AllBare s.gens
def CE (outer:List Env) (P:Program) (w:World) (H:Hp) (s:Shared) (Q:VK) (u:Value) (s':Shared) : Prop:=
  ∃v H',s'.os=s.os∧AllBare s'.gens∧Un (frs outer) [] H H' s.heap s'.heap∧HOk P w H' s'.heap∧RelV v u∧Q v H'
def CR (CX:CXT) (outer:List Env) (P:Program) (w:World) (H:Hp) (s:Shared) (Q:VK) (E:XK) (r:Result) (s':Shared) : Prop:=
  match r with
  | .ok (.ret u)=>CE outer P w H s Q u s'
  | .ok _=>False
  | .error e=>CX outer H s E e s'
structure FnOk (P:Program) (w:World) (K:PySem.W.Frag) (mg:Str→Option Value) (base:Heap) (CX:CXT) (k:Nat) (f:Addr) (fd:FuncData) (ps:List Str) (sp:Sp) : Prop where
  len:∀vs H Q E,sp vs H Q E→vs.length=ps.length
  run:∀(A:Around) (outer:List Env) (s:Shared) (H:Hp) (args:Args) (us:List Value) (vs:List V) (Q:VK) (E:XK),Room k A→Env0 P w K mg base A outer s H→BindsTo s fd args (ps.zip us)→Vals vs us→sp vs H Q E →
    codeAny (model P w) A (.call (.ref f) args) (CR CX outer P w H s Q E) s
theorem FnOk.imp {P:Program} {w:World} {K:PySem.W.Frag} {mg:Str→Option Value} {base:Heap} {CX:CXT} {k:Nat} {f:Addr} {fd:FuncData} {ps:List Str} {sp sp':Sp} (F:FnOk P w K mg base CX k f fd ps sp)
    (h:∀vs H Q E,sp' vs H Q E→sp vs H Q E) : FnOk P w K mg base CX k f fd ps sp':=
  ⟨fun vs H Q E q=>F.len vs H Q E (h _ _ _ _ q),fun A outer s H args us vs Q E hr he hb hv hs=>F.run A outer s H args us vs Q E hr he hb hv (h _ _ _ _ hs)⟩
theorem Env0.in1 {P:Program} {w:World} {K:PySem.W.Frag} {mg:Str→Option Value} {base:Heap} {A:Around} {outer:List Env} {s:Shared} {H:Hp} (e:Env0 P w K mg base A outer s H) :
    Env0 P w K mg base A.in1 outer s H:=⟨e.frames,e.mod,e.bs,e.bsz,e.funs,e.frf,e.hok,e.bare⟩
section
variable {X:Cx} {pins:List (Addr×Obj)} {σ:St} {H:Hp} {s s':Shared}
theorem Inv.env0 (I:Inv X pins σ H s) : Env0 X.prog X.w X.K X.mg X.base X.A X.stack s H:=
  ⟨I.ok.frames,I.ok.mod,I.bs,Nat.le_trans I.ok.bsz I.sz,I.stack,I.stkFree,I.hok,I.bare⟩
theorem Inv.after {Q:VK} {u:Value} (I:Inv X pins σ H s) (h:CE X.stack X.prog X.w H s Q u s') : EP X pins σ Q u s':=by
  obtain ⟨v,H',os,bare,un,hok,r,q⟩:=h
  obtain ⟨hh,g,d,t,os'⟩:=s'
  obtain rfl:os'=s.os:=os
  exact ⟨v,H',I.call (h':=hh) (g':=g) (d':=d) (t':=t) (ch:=[]) un hok bare (fun b z=>absurd z (by simp)),r,q⟩
end
def tCall (sp:Sp) (dvs:List V) (E:XK) (t:TA) : TE:=fun σ H Q=>t σ H fun vs H1=>sp (vs++dvs) H1 Q E
def Binds (K:PySem.W.Frag) (fd:FuncData) (ps:List Str) (ds:List Value) : Prop:=
  ∀(s:Shared) (us:List Value),K.In s.heap→(us++ds).length=ps.length→BindsTo s fd ⟨us,[]⟩ (ps.zip (us++ds))
theorem Binds.all {K:PySem.W.Frag} {fd:FuncData} {ps:List Str} (h:∀us:List Value,us.length=ps.length→bindArgs fd ⟨us,[]⟩=pure (ps.zip us)) : Binds K fd ps []:=fun s us _ hl=>by
  rw[List.append_nil] at hl ⊢
  exact .of_eq (h us hl)
def Passes (CX:CXT) (X:Cx) (E:XK) : Prop:=∀(pins:List (Addr×Obj)) (σ:St) (H:Hp) (s:Shared) (e:Value) (s':Shared),Inv X pins σ H s→CX X.stack H s E e s'→X.xe e s'
section
variable {X:Cx} {CX:CXT} {k:Nat} {f C:Addr} {fd:FuncData} {ps:List Str} {sp:Sp} {dvs:List V} {ds:List Value} {E:XK} {x m:Str} {p pos apos:Pos} {e o:Expr} {es:List Expr} {ta:TE} {t:TA}
theorem run_fn {pins:List (Addr×Obj)} {σ:St} {H:Hp} {s:Shared} {Q:VK} {us:List Value} {vs:List V} (F:FnOk X.prog X.w X.K X.mg X.base CX k f fd ps sp) (hr:Room k X.A) (hb:Binds X.K fd ps ds) (hd:Vals dvs ds) (hx:Passes CX X E)
    (I:Inv X pins σ H s) (r:Vals vs us) (h:sp (vs++dvs) H Q E) : wpAny (model X.prog X.w) X.A (call (.ref f) us) (EP X pins σ Q) X.xe s:=by
  have r2:Vals (vs++dvs) (us++ds):=r.append hd
  have hl:(us++ds).length=ps.length:=by rw[←r2.length]; exact F.len _ _ _ _ h
  refine wpAny_call (codeAny_mono (F.run X.A X.stack s H ⟨us,[]⟩ (us++ds) (vs++dvs) Q E hr I.env0 (hb s us I.kIn hl) r2 h) fun r s' hq=>?_)
  cases r with
  | error e=>exact hx pins σ H s e s' I hq
  | ok fl =>
    cases fl with
    | ret u=>exact I.after hq
    | next=>exact False.elim hq
    | brk=>exact False.elim hq
    | cont=>exact False.elim hq
theorem pe_call (F:FnOk X.prog X.w X.K X.mg X.base CX k f fd ps sp) (hr:Room k X.A) (hg:Gl X x) (hm:X.mg x=some (.ref f)) (hk:PySem.W.keepIn X.K (.ref f)=true) (hb:Binds X.K fd ps ds) (hd:Vals dvs ds) (hx:Passes CX X E)
    (ha:PA X (e::es) t) (hdb:(x == ("__debug__" : Str))=false:=by decide) (he:starEach (e::es) X.env=(false,eval e X.env)::starEach es X.env:=by rfl) (hpl:(backTo pos (starEach es X.env)).any (·.1)=false:=by rfl) :
    PE X (.Call (.Name x p) (e::es) [] pos) (tCall sp dvs E t):=by
  intro pins s σ H Q I h
  refine wpAny_Call_Name_kw (ld_glob I hg hm ?_ hdb)
  refine PySem.W.callWith_K (h₀:=X.base) I.ok.mod.kin hk (thn (ha pos pins s σ H _ I h) fun us s1 ⟨vs,H1,I1,r,q⟩=>⟨I1.kIn,?_⟩) he hpl
  exact run_fn F hr hb hd hx I1 r q
structure Mk (K:PySem.W.Frag) (C f:Addr) : Prop where
  makes:PySem.W.makesIn K C=true
  init:PySem.W.findIn K (.ref C) "__init__" = some (some (.ref f))
  fn:PySem.W.isFn K (.ref f)=true
  kp:PySem.W.keepIn K (.ref C)=true
end
section
variable {X:Cx} {CX:CXT} {k:Nat} {f C:Addr} {fd:FuncData} {ps ks:List Str} {sp:Sp} {E:XK} {x m:Str} {p pos apos kpos:Pos} {e o:Expr} {es:List Expr} {kws:List Keyword} {te ta:TE} {t tk:TA} {nm:Option Str}
structure KBinds (K:PySem.W.Frag) (fd:FuncData) (ps ks:List Str) (g:List Value→List Value→List Value) (gV:List V→List V→List V) : Prop where
  to:∀(s:Shared) (us ws:List Value),K.In s.heap→(g us ws).length=ps.length→BindsTo s fd ⟨us,ks.zip ws⟩ (ps.zip (g us ws))
  rel:∀{vs:List V} {us:List Value} {zs:List V} {ws:List Value},Vals vs us→Vals zs ws→Vals (gV vs zs) (g us ws)
variable {g:List Value→List Value→List Value} {gV:List V→List V→List V}
end
structure FnScope (N P:List Str) (sc:Scope) : Prop where
  kind:sc.kind=.function
  co:sc.isCoroutine=false
  gen:sc.isGenerator=false
  nd:N.Nodup
  pre:N.take P.length=P
  par:∀x∈P,sc.names.lookup x=some .local∨sc.names.lookup x=some .cell
  nofree:∀y∈sc.names,y.2≠.free
theorem bindL_out {kindOf:Str→Option NameKind} {x:Str} : ∀{binds:List (Str×Value)} {m:Str→Option Value},(∀v,(x,v)∉binds)→bindL kindOf binds m x=m x
  | [],_,_=>rfl
  | (n,v)::r,m,h=>by
    unfold bindL
    rw[bindL_out fun w hw=>h w (List.mem_cons_of_mem _ hw)]
    split
    · have : x ≠ n := by rintro rfl; exact h v List.mem_cons_self
      simp[this]
    · rfl
theorem bindC_out {kindOf:Str→Option NameKind} {x:Str} : ∀{binds:List (Str×Value)} {m:Str→Option Value},(∀v,(x,v)∉binds)→bindC kindOf binds m x=m x
  | [],_,_=>rfl
  | (n,v)::r,m,h=>by
    unfold bindC
    rw[bindC_out fun w hw=>h w (List.mem_cons_of_mem _ hw)]
    split
    · rfl
    · have : x ≠ n := by rintro rfl; exact h v List.mem_cons_self
      simp[this]
theorem bindL_get {kindOf:Str→Option NameKind} {x:Str} {v:Value} : ∀{P:List Str} {vs:List Value} {i:Nat} {m:Str→Option Value},P.Nodup→P[i]?=some x→vs[i]?=some v→kindOf x=some .local →
    bindL kindOf (P.zip vs) m x=some v
  | [],_,_,_,_,h,_,_=>by simp at h
  | _::_,[],_,_,_,_,h,_=>by simp at h
  | p::P,w::vs,0,m,nd,h1,h2,hk=>by
    simp at h1 h2; subst h1; subst h2
    show bindL kindOf ((p,w)::P.zip vs) m p=_
    unfold bindL
    rw[bindL_out fun v hv=>(List.nodup_cons.mp nd).1 (List.of_mem_zip hv).1,if_pos hk]
    simp
  | p::P,w::vs,i+1,m,nd,h1,h2,hk=>by
    show bindL kindOf ((p,w)::P.zip vs) m x=_
    unfold bindL
    exact bindL_get (i:=i) (List.nodup_cons.mp nd).2 (by simpa using h1) (by simpa using h2) hk
theorem bindC_get {kindOf:Str→Option NameKind} {x:Str} {v:Value} : ∀{P:List Str} {vs:List Value} {i:Nat} {m:Str→Option Value},P.Nodup→P[i]?=some x→vs[i]?=some v→kindOf x≠some .local →
    bindC kindOf (P.zip vs) m x=some v
  | [],_,_,_,_,h,_,_=>by simp at h
  | _::_,[],_,_,_,_,h,_=>by simp at h
  | p::P,w::vs,0,m,nd,h1,h2,hk=>by
    simp at h1 h2; subst h1; subst h2
    show bindC kindOf ((p,w)::P.zip vs) m p=_
    unfold bindC
    rw[bindC_out fun v hv=>(List.nodup_cons.mp nd).1 (List.of_mem_zip hv).1,if_neg hk]
    simp
  | p::P,w::vs,i+1,m,nd,h1,h2,hk=>by
    show bindC kindOf ((p,w)::P.zip vs) m x=_
    unfold bindC
    exact bindC_get (i:=i) (List.nodup_cons.mp nd).2 (by simpa using h1) (by simpa using h2) hk
def start (N:List Str) (vs:List V) : St:=vs.map some++List.replicate (N.length - vs.length) none
def cxOf (CX:CXT) (P:Program) (w:World) (K:PySem.W.Frag) (mg:Str→Option Value) (base:Heap) (N:List Str) (qual:Str) (scope:Scope) (f:Addr) (cd:Value) (A:Around) (outer:List Env) (s:Shared) (H:Hp) (E:XK) : Cx where
  prog:=P
  w:=w
  K:=K
  mg:=mg
  base:=base
  A:=A.deeper (envOfC qual scope s.heap.objs.size f cd)
  N:=N
  s₀:=s
  H₀:=H
  env:=envOfC qual scope s.heap.objs.size f cd
  outer:=outer
  stack:=envOfC qual scope s.heap.objs.size f cd::outer
  ex:=[]
  calm:=true
  fn:=fun _=>true
  pn:=[]
  xe:=fun e s'=>wpAny (model P w) (A.deeper (envOfC qual scope s.heap.objs.size f cd)) (leaving (envOfC qual scope s.heap.objs.size f cd) e) (fun _ s''=>CX outer H s E e s'') (fun e' s''=>CX outer H s E e' s'') s'
theorem cell_has {sc:Scope} {n:Nat} {x:Str} (h:sc.names.lookup x=some .cell) : ∃c,(cellsFrom n sc.names []).lookup x=some c:=by
  have q:=PySem.W.cellsFrom_some sc.names n [] (.inl h)
  exact Option.isSome_iff_exists.mp q
theorem inv_start {CX:CXT} {P:Program} {w:World} {K:PySem.W.Frag} {mg:Str→Option Value} {base:Heap} {N ps:List Str} {qual:Str} {scope:Scope} {f:Addr} {cd:Value} {A:Around} {outer:List Env} {s s1:Shared} {H:Hp} {E:XK} {us:List Value} {vs:List V}
    (S:FnScope N ps scope) (hd:A.handled=none) (e0:Env0 P w K mg base A outer s H) (hl:vs.length=ps.length) (r:Vals vs us)
    (x:InCallC s s.heap.objs.size (bindL (envOfC qual scope s.heap.objs.size f cd).kindOf (ps.zip us) fun _=>none) (cellsFrom (s.heap.objs.size+1) scope.names []) (bindC (envOfC qual scope s.heap.objs.size f cd).kindOf (ps.zip us) fun _=>none) s1) :
    Inv (cxOf CX P w K mg base N qual scope f cd A outer s H E) [] (start N vs) H s1:=by
  have hpl:ps.length≤N.length:=by have:=congrArg List.length S.pre; rw[List.length_take] at this; lia
  obtain ⟨h1,tk,rfl,hk⟩:=x.done
  have noA:∀b:Addr,b∉(cxOf CX P w K mg base N qual scope f cd A outer s H E).ex:=fun b z=>absurd (show b∈([] : List Addr) from z) (by simp)
  refine ⟨⟨e0.mod,S.kind,rfl,rfl,Nat.le_refl _,fun y z c h1 h2=>?_,fun y hy=>?_,fun y c _ h=>?_,fun _=>hd,Around.frames_deeper e0.frames,.inr ⟨rfl,rfl⟩,fun b z=>absurd z (noA b),e0.bs,e0.bsz,fun b _ _=>noA b,fun b z=>absurd z (noA b),e0.funs,e0.frf⟩,
    rfl,e0.bare,Un.kept hk,⟨_,x.toInCall.ns,fun i y v h1 h2 h3=>?_⟩,fun y c h=>⟨_,x.cell y c h⟩,e0.hok.fresh (Nat.le_refl _),fun y c h=>?_,fun p hp=>absurd (show p∈([] : List (Addr×Obj)) from hp) (by simp),e0.hok.kept hk,?_⟩
  · exact name_of_addr x.apart (PySem.mem_of_lookup h1) (PySem.mem_of_lookup h2)
  · have hy:scope.names.lookup y=some .cell∨scope.names.lookup y=some .free:=hy
    rcases hy with hy | hy
    · exact cell_has hy
    · exact absurd rfl (S.nofree _ (PySem.mem_of_lookup hy))
  · exact Nat.le_of_lt (x.above y c (PySem.mem_of_lookup h))
  · have hi:i<vs.length:=by
      unfold start at h2
      by_cases hi:i<vs.length
      · exact hi
      · rw [List.getElem?_append_right (by simpa using hi)] at h2
        rw[List.getElem?_replicate] at h2
        split at h2<;>cases h2
    have ha:vs[i]?=some v:=by
      unfold start at h2
      rw[List.getElem?_append_left (by simpa using hi),List.getElem?_map] at h2
      cases e:vs[i]? with
      | none=>rw[e] at h2; cases h2
      | some a=>rw[e] at h2; cases h2; rfl
    obtain ⟨u,hu,rv⟩:=r.get ha
    have hp:ps[i]?=some y:=by
      rw[←S.pre,List.getElem?_take_of_lt (by lia)]; exact h1
    have ndP:ps.Nodup:=by rw[←S.pre]; exact S.nd.sublist (List.take_sublist _ _)
    refine ⟨u,rv,?_⟩
    rcases S.par y (List.mem_of_getElem? hp) with k | k
    · exact .inl ⟨k,bindL_get ndP hp hu k⟩
    · obtain ⟨c,e⟩:=cell_has (n:=s.heap.objs.size+1) k
      refine .inr ⟨.inl k,c,e,?_⟩
      have q:=x.cell y c e
      rw[bindC_get ndP hp hu (by show scope.names.lookup y≠_; rw[k]; decide)] at q
      exact q
  · exact e0.hok.fresh (Nat.le_of_lt (x.above y c (PySem.mem_of_lookup h)))
  · unfold start
    show _=N.length
    rw[List.length_append,List.length_map,List.length_replicate]
    lia
theorem fn_of {CX:CXT} {P:Program} {w:World} {K:PySem.W.Frag} {mg:Str→Option Value} {base:Heap} {k:Nat} {f:Addr} {name qual:Str} {params:Arguments} {body:List Stmt} {scope:Scope} {dV kV doc pm cdv ct oc:Value} {an od:Option Addr}
    {osl:Array (Option Value)} {N ps:List Str} {sp:Sp} (lk:K.lookup f=some ⟨oc,od,.func (PySem.W.fnOf name qual params body scope dV kV doc pm an cdv ct),osl⟩) (hcd:PySem.W.codeIn K cdv qual=true) (S:FnScope N ps scope)
    (len:∀vs H Q E,sp vs H Q E→vs.length=ps.length)
    (hbody:∀(A:Around) (outer:List Env) (s:Shared) (H:Hp) (vs:List V) (Q:VK) (E:XK),Room k (A.deeper (envOfC qual scope s.heap.objs.size f cdv))→sp vs H Q E →
      ∃t,PSs (cxOf CX P w K mg base N qual scope f cdv A outer s H E) body t∧t { nx:=fun _ H'=>Q .non H',rt:=Q } (start N vs) H) :
    FnOk P w K mg base CX (k+1) f (PySem.W.fnOf name qual params body scope dV kV doc pm an cdv ct) ps sp:=by
  refine ⟨len,fun A outer s H args us vs Q E hr e0 hb r hsp=>?_⟩
  have hl:=len _ _ _ _ hsp
  have KX:K.In s.heap:=e0.mod.kin.keeps fun b o e=>(e0.bs b o e).1
  have lim:s.heap.NoLimit:=e0.mod.nolimit.keeps fun b o e=>(e0.bs b o e).1
  have hkind:∀y∈ps.zip us,scope.names.lookup y.1=some .local∨(scope.names.lookup y.1=some .cell∧((cellsFrom (s.heap.objs.size+1) scope.names []).lookup y.1).isSome=true):=fun ⟨n,v⟩ hy=>by
    rcases S.par n (List.of_mem_zip hy).1 with q | q
    · exact .inl q
    · exact .inr ⟨q,PySem.W.cellsFrom_some _ _ _ (.inl q)⟩
  refine codeAny_call_function hr.depth (KX _ _ lk) rfl S.co S.gen rfl (PySem.W.codeRec_of KX hcd) (hb _ _ _ _ ?_)
  refine wpAny_newFunctionEnv_cells S.kind hkind fun env he s1 x=>?_
  subst he
  refine ⟨lim.keeps x.toInCall.keep,codeAny_func ?_⟩
  obtain ⟨t,ht,hq⟩:=hbody A outer s H vs Q E (hr.deeper _) hsp
  have I:Inv (cxOf CX P w K mg base N qual scope f cdv A outer s H E) [] (start N vs) H s1:=inv_start S hr.hd e0 hl r x
  refine wpAny_mono (ht [] s1 (start N vs) H _ I hq) (fun fl s' hs=>?_) fun e s' hs=>hs
  have fin:∀{σ':St} {H':Hp} {v:V} {u:Value},Inv (cxOf CX P w K mg base N qual scope f cdv A outer s H E) [] σ' H' s'→RelV v u→Q v H'→CE outer P w H s Q u s':=
    fun {σ' H' v u} J rv q=>⟨v,H',J.os,J.bare,J.base,J.hok,rv,q⟩
  cases fl with
  | ret u =>
    obtain ⟨v,σ',H',J,rv,q⟩:=hs
    exact fin J rv q
  | next =>
    obtain ⟨σ',H',J,q⟩:=hs
    exact fin (v:=V.non) (u:=Value.none) J rfl q
  | brk =>
    obtain ⟨_,_,_,q⟩:=hs
    exact False.elim q
  | cont =>
    obtain ⟨_,_,_,q⟩:=hs
    exact False.elim q
end L2
namespace L2
open PySem PySem.Spec PyProof.Rows
section
variable {X:Cx} {x:Str} {p pos:Pos} {e:Expr} {es:List Expr} {t:TA} {id T:String} {r:List V→Hp→VK→Prop}
def tCB (r:List V→Hp→VK→Prop) (t:TA) : TE:=fun σ H Q=>t σ H fun vs H1=>r vs H1 Q
theorem pe_callB (hc:CallR X (.builtin id) r) (hg:Gl X x) (hm:X.mg x=none) (hv:bootBuiltins x=some (.builtin id)) (ha:PA X (e::es) t) (hn:x≠"__name__":=by decide) (hdb:(x == ("__debug__" : Str))=false:=by decide)
    (he:starEach (e::es) X.env=(false,eval e X.env)::starEach es X.env:=by rfl) (hpl:(backTo pos (starEach es X.env)).any (·.1)=false:=by rfl) : PE X (.Call (.Name x p) (e::es) [] pos) (tCB r t):=by
  intro pins s σ H Q I h
  refine wpAny_Call_Name_kw (ld_blt I hg hm hv ?_ hn hdb)
  exact PyProof.Rows.callWith_builtin1 (thn (ha pos pins s σ H _ I h) fun us s1 ⟨vs,H1,I1,r1,q1⟩=>hc pins s1 σ H1 vs us Q I1 r1 q1) he hpl
theorem pe_callTy (hc:CallR X (.type T) r) (hg:Gl X x) (hm:X.mg x=none) (hv:bootBuiltins x=some (.type T)) (ha:PA X (e::es) t) (hn:x≠"__name__":=by decide) (hdb:(x == ("__debug__" : Str))=false:=by decide)
    (he:starEach (e::es) X.env=(false,eval e X.env)::starEach es X.env:=by rfl) (hpl:(backTo pos (starEach es X.env)).any (·.1)=false:=by rfl) : PE X (.Call (.Name x p) (e::es) [] pos) (tCB r t):=by
  intro pins s σ H Q I h
  refine wpAny_Call_Name_kw (ld_blt I hg hm hv ?_ hn hdb)
  exact PyProof.Rows.callWith_type1 (thn (ha pos pins s σ H _ I h) fun us s1 ⟨vs,H1,I1,r1,q1⟩=>hc pins s1 σ H1 vs us Q I1 r1 q1) he hpl
end
end L2
namespace HT
open PySem PyProof.Rows
section
open PySem.SeqAt
open PySem.AutoSeq1 (wpAny_loadPart')
open PySem.MeetsSeq PySem.MeetsSeq2 PySem.MeetsSeq3
end
section
variable {prog:Program} {w:World} {A:Around} {E:Value→Shared→Prop} {s:Shared}
theorem cat_tup {t b:Addr} {vs ws:List Value} {Q:Value→Shared→Prop} (ht:IsTup s.heap t vs.toArray) (hb:IsTup s.heap b ws.toArray) (hv:vs≠[])
    (h1:ws = []→Q (.ref t) s) (h2:ws≠[]→Q (.ref s.heap.objs.size) { s with heap:=s.heap.push { cls:=.type "tuple",data:=.seq (vs++ws).toArray } })
    (hsz:vs.length+ws.length≤sizeLine) : wpAny (model prog w) A (binaryOp .Add (.ref t) (.ref b)) Q E s:=by
  obtain ⟨⟨cls,dd,data,sl⟩,ho,hc,n,hd⟩:=id ht
  obtain ⟨⟨cls2,dd2,data2,sl2⟩,ho2,hc2,n2,hd2⟩:=id hb
  simp only at hc hd hc2 hd2
  subst hc hd hc2 hd2
  have e:vs.toArray++ws.toArray=(vs++ws).toArray:=by simp
  by_cases hw:ws = []
  · exact concat_meets ⟨_,ho,rfl⟩ ⟨_,ho2,rfl⟩ noFill_tuple_add seq_tuple_add PySem.F.slot_tuple_add PySem.F.entry_tuple_add (PySem.F.args_tuple_add_2 _ _)
      (tuple_addW1 t b vs.toArray ws.toArray n n2 dd dd2 sl sl2 (by simpa using hv) (by simp[hw])) ⟨ho,ho2,h1 hw⟩
  · refine concat_meets ⟨_,ho,rfl⟩ ⟨_,ho2,rfl⟩ noFill_tuple_add seq_tuple_add PySem.F.slot_tuple_add PySem.F.entry_tuple_add (PySem.F.args_tuple_add_2 _ _)
      (tuple_addW2 t b vs.toArray ws.toArray n n2 dd dd2 sl sl2 (by simpa using hv) (by simpa using hw) (by rw[List.size_toArray,List.size_toArray]; exact hsz)) ⟨ho,ho2,?_⟩
    rw[e]
    exact h2 hw
def sIx (n d:Nat) : Option Int→Nat
  | none=>d
  | some v=>if v<0 then (v+(n:Int)).toNat else min v.toNat n
theorem sIx_none (n d:Nat) : sIx n d none=d:=rfl
theorem sIx_nat (n d k:Nat) : sIx n d (some (k:Int))=min k n:=by
  show (if (k:Int)<0 then ((k:Int)+(n:Int)).toNat else min (k:Int).toNat n)=min k n
  rw[if_neg (by lia),Int.toNat_natCast]
theorem sIx_le (n d:Nat) (hd:d≤n) (o:Option Int) : sIx n d o≤n:=by
  cases o with
  | none=>exact hd
  | some v =>
    show (if v<0 then (v+(n:Int)).toNat else min v.toNat n)≤n
    by_cases hv:v<0
    · rw[if_pos hv]; lia
    · rw[if_neg hv]; exact Nat.min_le_right _ _
theorem clip_eq (v:Int) (n d:Nat) : (if v<0 then max (v+(n:Int)) 0 else min v (n:Int))=((sIx n d (some v) : Nat) : Int):=by
  show (if v<0 then max (v+(n:Int)) 0 else min v (n:Int))=(((if v<0 then (v+(n:Int)).toNat else min v.toNat n) : Nat) : Int)
  by_cases hv:v<0
  · simp only[if_pos hv]; lia
  · simp only[if_neg hv]; lia
theorem adjust_gen (lo hi:Option Int) (n:Nat) : Builtin.Slice.sliceAdjust lo hi 1 (n:Int)=(((sIx n 0 lo:Nat) : Int),((sIx n n hi:Nat) : Int)):=by
  have h1:¬((1:Int)<0):=by lia
  unfold Builtin.Slice.sliceAdjust
  simp only[h1,if_false]
  refine Prod.ext ?_ ?_
  · cases lo with
    | none=>rfl
    | some v=>exact clip_eq v n 0
  · cases hi with
    | none=>rfl
    | some v=>exact clip_eq v n n
theorem places_gen (i j:Nat) : Builtin.Slice.slicePlaces (i:Int) (j:Int) 1=j - i:=by
  unfold Builtin.Slice.slicePlaces
  have h1:(1:Int)>0:=by lia
  simp only[h1,if_true,Int.ediv_one]
  split<;>lia
theorem slicePart_ {v:Value} {o:Option Int} {Q:Option Int→Shared→Prop} (p:IsPart v o) (h:Q o s) : wpAny (model prog w) A (Builtin.Slice.slicePartIndex v) Q E s:=by
  cases p with
  | none=>exact slicePart_none h
  | int i t=>exact slicePart_int h
theorem sliceApplied_gen {sl:Addr} {vl vu:Value} {lo hi:Option Int} {n:Nat} {Q:Int×Int×Nat→Shared→Prop} (hs:s.heap.IsSliceOf sl vl vu .none) (pl:IsPart vl lo) (pu:IsPart vu hi)
    (h:Q (((sIx n 0 lo:Nat) : Int),1,sIx n n hi - sIx n 0 lo) s) : wpAny (model prog w) A (Builtin.Slice.sliceApplied (.ref sl) (pure (n:Int))) Q E s:=by
  obtain ⟨os,hos,hcs,hds⟩:=id hs
  unfold Builtin.Slice.sliceApplied Builtin.Slice.sliceFields
  refine wpAny_bind (wpAny_bind (wpAny_field hos hds (x:=vl) rfl (wpAny_bind (wpAny_field hos hds (x:=vu) rfl (wpAny_bind (wpAny_field hos hds (x:=.none) rfl (wpAny_pure ?_)))))))
  refine wpAny_bind (slicePart_none ?_)
  show wpAny _ _ (if ((1:Int) == 0)=true then _ else _) _ _ s
  rw[if_neg (by decide)]
  refine wpAny_bind (slicePart_ pl (wpAny_bind (slicePart_ pu (wpAny_bind (wpAny_pure ?_)))))
  show wpAny _ _ (match Builtin.Slice.sliceAdjust lo hi 1 (n:Int) with | (lo,hi)=>pure (lo,(1:Int),Builtin.Slice.slicePlaces lo hi 1)) _ _ s
  rw[adjust_gen lo hi n]
  show wpAny _ _ (pure (((sIx n 0 lo:Nat) : Int),(1:Int),Builtin.Slice.slicePlaces ((sIx n 0 lo:Nat) : Int) ((sIx n n hi:Nat) : Int) 1)) _ _ s
  rw[places_gen]
  exact wpAny_pure h
theorem pick_gen (xs:Array Value) (i k:Nat) : ((List.range k).filterMap fun (m:Nat)=>xs[((i:Int)+(m:Int)*1).toNat]?).toArray=((xs.toList.drop i).take k).toArray:=by
  have e:(fun (m:Nat)=>xs[((i:Int)+(m:Int)*1).toNat]?)=fun m=>xs[i+m]?:=by
    funext m
    have:((i:Int)+(m:Int)*1).toNat=i+m:=by lia
    rw[this]
  rw[e]
  have:=pick_run xs i k
  rw[List.filterMap_map] at this
  have e2:((fun x=>xs[x]?)∘fun x=>i+x)=fun m=>xs[i+m]?:=rfl
  rw[e2] at this
  rw[this]
theorem getItem_tuple_cut {t sl:Addr} {items:Array Value} {vl vu:Value} {lo hi:Option Int} {Q:Value→Shared→Prop} (ht:IsTup s.heap t items) (hs:s.heap.IsSliceOf sl vl vu .none) (pl:IsPart vl lo) (pu:IsPart vu hi)
    (hw:¬(sIx items.size 0 lo=0∧sIx items.size items.size hi=items.size))
    (h:Q (.ref s.heap.objs.size) { s with heap:=s.heap.push { cls:=.type "tuple",data:=.seq ((items.toList.drop (sIx items.size 0 lo)).take (sIx items.size items.size hi - sIx items.size 0 lo)).toArray } })
    (hsz:items.size≤sizeLine) : wpAny (model prog w) A (getItem (.ref t) (.ref sl)) Q E s:=by
  have htake:sizeOk (.seq ((items.toList.drop (sIx items.size 0 lo)).take (sIx items.size items.size hi - sIx items.size 0 lo)).toArray):=by
    show ((items.toList.drop (sIx items.size 0 lo)).take (sIx items.size items.size hi - sIx items.size 0 lo)).toArray.size≤sizeLine
    rw[List.size_toArray,List.length_take,List.length_drop,Array.length_toList]
    lia
  have hj:sIx items.size items.size hi≤items.size:=sIx_le _ _ (Nat.le_refl _) hi
  obtain ⟨os,hos,hcs,hds⟩:=id hs
  have hTs:s.TypeIs (.ref sl) "slice":=⟨os,hos,hcs⟩
  unfold getItem
  try with_reducible refine wpAny_holding ?_
  first | refine wpAny_bind (wpAny_pure ?_) | skip
  refine wpAny_bind (wpAny_sequenceKey ht.typeIs (by decide) ?_)
  refine wpAny_bind (wpAny_callSpecial?_slot (name:=Str.ofString "__getitem__") ht.typeIs PyProof.Rows.slot_tuple_getitem
    (wpAny_call_entry PyProof.Rows.slot_tuple_getitem ht.typeIs entry_tuple_getitem ?_ (args_tuple_getitem _ _)))
  show wpAny _ _ (Builtin.Tuple.tupleItemsOf (.ref t) >>= _) _ _ s
  refine wpAny_bind (tupleItemsOf_ ht ?_)
  refine wpAny_bind (wpAny_typeOf hTs ?_)
  rw[if_pos (by decide)]
  refine wpAny_bind (sliceApplied_gen hs pl pu ?_)
  have hno:¬((((sIx items.size 0 lo:Nat) : Int) == 0 && (1:Int) == 1 && (sIx items.size items.size hi - sIx items.size 0 lo) == items.size)=true):=by
    intro q
    rw[Bool.and_eq_true,Bool.and_eq_true] at q
    have q1:((sIx items.size 0 lo:Nat) : Int)=0:=eq_of_beq q.1.1
    have q2:sIx items.size items.size hi - sIx items.size 0 lo=items.size:=eq_of_beq q.2
    exact hw ⟨by lia,by lia⟩
  show wpAny _ _ (if (((sIx items.size 0 lo:Nat) : Int) == 0 && (1:Int) == 1 && (sIx items.size items.size hi - sIx items.size 0 lo) == items.size)=true then _ else _) _ _ s
  rw[if_neg hno,pick_gen]
  first
    | exact wpAny_bind (m:=Builtin.Tuple.tupleExact _) (wpAny_newObj_type (wpAny_pure ⟨_,rfl,wpAny_pure h⟩) htake)
    | exact wpAny_bind (m:=Builtin.Tuple.tupleExact _) (wpAny_newObj_type (wpAny_bind (wpAny_pure (wpAny_pure ⟨_,rfl,wpAny_pure h⟩))) htake)
    | exact wpAny_bind (wpAny_bind (m:=Builtin.Tuple.tupleExact _) (wpAny_newObj_type (wpAny_pure (wpAny_pure ⟨_,rfl,wpAny_pure h⟩)) htake))
    | exact wpAny_bind (wpAny_bind (m:=Builtin.Tuple.tupleExact _) (wpAny_newObj_type (wpAny_pure ⟨_,rfl,wpAny_pure h⟩) htake))
end
end HT
namespace L2
open PySem PySem.Spec PyProof.Rows
abbrev TO:=St→Hp→(Option Int→Hp→Prop)→Prop
def PO (X:Cx) (e:Option Expr) (t:TO) : Prop:=
  ∀(pins:List (Addr×Obj)) (s:Shared) (σ:St) (H:Hp) (Q:Option Int→Hp→Prop),Inv X pins σ H s→t σ H Q →
    wpAny (model X.prog X.w) X.A (evalPart e X.env) (fun u s'=>∃o H',Inv X pins σ H' s'∧IsPart u o∧Q o H') X.xe s
def tNoPart:TO:=fun _ H Q=>Q none H
def tPart (t:TE) : TO:=fun σ H Q=>t σ H fun x H1=>∃i,x=.int i∧Q (some i) H1
theorem intsAre_of {ns:List Int} : ∀{us:List Value},Vals (ns.map V.int) us→IntsAre us ns:=by
  induction ns with
  | nil=>intro us r; rw[List.map_nil] at r; cases r; exact .nil
  | cons n ns ih =>
    intro us r
    rw[List.map_cons] at r
    cases r with
    | cons r1 r2 =>
      obtain ⟨t,e⟩:=r1
      subst e
      exact .cons n t (ih r2)
section
variable {X:Cx} {e:Expr} {te:TE} {lo hi:Option Expr} {tl th:TO} {pos p2:Pos}
theorem po_none:PO X none tNoPart:=by
  intro pins s σ H Q I h
  rw[evalPart_none]
  exact wpAny_pure ⟨none,H,I,.none,h⟩
theorem po_some (h:PE X e te) : PO X (some e) (tPart te):=by
  intro pins s σ H Q I hw
  rw[evalPart_some]
  refine thn (h pins s σ H _ I hw) fun u s1 ⟨x,H1,I1,r1,q1⟩=>?_
  obtain ⟨i,rfl,q⟩:=q1
  obtain ⟨t,rfl⟩:=r1
  exact ⟨some i,H1,I1,.int i t,q⟩
def SlR (X:Cx) (r:V→Option Int→Option Int→Hp→VK→Prop) : Prop:=
  ∀(pins:List (Addr×Obj)) (s:Shared) (σ:St) (H:Hp) (x:V) (v vl vu:Value) (lo hi:Option Int) (sl:Addr) (Q:VK),Inv X pins σ H s→RelV x v→s.heap.IsSliceOf sl vl vu .none→IsPart vl lo→IsPart vu hi→r x lo hi H Q →
    ∃T id,typeLookup (.type T) "__getitem__" = pure (some (.builtin id))∧s.TypeIs v T∧wpAny (model X.prog X.w) X.A (getItem v (.ref sl)) (EP X pins σ Q) X.xe s
theorem SlR.or {r r':V→Option Int→Option Int→Hp→VK→Prop} (h:SlR X r) (h':SlR X r') : SlR X (fun x lo hi H Q=>r x lo hi H Q∨r' x lo hi H Q):=by
  intro pins s σ H x v vl vu lo hi sl Q I rx hs pl pu q
  rcases q with q | q
  · exact h pins s σ H x v vl vu lo hi sl Q I rx hs pl pu q
  · exact h' pins s σ H x v vl vu lo hi sl Q I rx hs pl pu q
def tSl (r:V→Option Int→Option Int→Hp→VK→Prop) (te:TE) (tl th:TO) : TE:=fun σ H Q=>te σ H fun x H1=>tl σ H1 fun l H2=>th σ H2 fun u H3=>r x l u H3 Q
theorem pe_slice {r:V→Option Int→Option Int→Hp→VK→Prop} (hr:SlR X r) (he:PE X e te) (hl:PO X lo tl) (hu:PO X hi th) : PE X (.Subscript e (.Slice lo hi none p2) pos) (tSl r te tl th):=by
  intro pins s σ H Q I h
  refine Subscript_ (thn (he pins s σ H _ I h) fun v s1 ⟨x,H1,I1,r1,q1⟩=>?_)
  refine wpAny_Slice (thn (hl pins s1 σ H1 _ I1 q1) fun vl s2 ⟨l,H2,I2,pl,q2⟩=>thn (hu pins s2 σ H2 _ I2 q2) fun vu s3 ⟨u,H3,I3,pu,q3⟩=>?_)
  rw[evalPart_none]
  refine wpAny_pure ?_
  have I4:Inv X pins σ H3 { s3 with heap:=s3.heap.push { cls:=.type "slice",data:=.fields #[vl,vu,.none] } }:=I3.kept (t':=s3.toks) fun b ob q=>Heap.get?_push_of_some _ q
  obtain ⟨T,id,hT,ht,hg⟩:=hr pins { s3 with heap:=s3.heap.push { cls:=.type "slice",data:=.fields #[vl,vu,.none] } } σ H3 x v vl vu l u s3.heap.objs.size Q I4 r1 (Heap.IsSliceOf.new ..) pl pu q3
  show wpAny (model X.prog X.w) X.A (subscriptTail e (.Slice lo hi none p2) v (.ref s3.heap.objs.size)) (EP X pins σ Q) X.xe { s3 with heap:=s3.heap.push { cls:=.type "slice",data:=.fields #[vl,vu,.none] } }
  exact tail_any (ops:=[.ref s3.heap.objs.size,v]) ht hT hg (by with_unfolding_all rfl)
def cutV (xs:List V) (lo hi:Option Int) : List V:=(xs.drop (HT.sIx xs.length 0 lo)).take (HT.sIx xs.length xs.length hi - HT.sIx xs.length 0 lo)
theorem cutV_length (xs:List V) (lo hi:Option Int) : (cutV xs lo hi).length≤xs.length:=by
  unfold cutV
  rw[List.length_take,List.length_drop]
  lia
def rSlT (K:PySem.W.Frag) : V→Option Int→Option Int→Hp→VK→Prop:=fun x lo hi H Q=>∃a xs,x=.ref a∧SqT K H a xs ∧
  ¬(HT.sIx xs.length 0 lo=0∧HT.sIx xs.length xs.length hi=xs.length)∧∀p,H p=none→Q (.ref p) (upd H p (.tup (cutV xs lo hi)))
theorem sl_tup:SlR X (rSlT X.K):=by
  intro pins s σ H x v vl vu lo hi sl Q I rx hs pl pu h
  obtain ⟨a,xs,rfl,hx,hw,q⟩:=h
  cases rx
  obtain ⟨its,r,ht,hz⟩:=I.tuple hx
  have hlen:its.toArray.size=xs.length:=by rw[List.size_toArray]; exact r.length.symm
  refine ⟨"tuple",_,PyProof.Rows.slot_tuple_getitem.lookup,ht.typeIs,?_⟩
  refine HT.getItem_tuple_cut ht hs pl pu (by rw[hlen]; exact hw) ?_ (by rw[hlen]; exact hz)
  rw[hlen]
  refine ⟨.ref s.heap.objs.size,_,I.laid (t':=s.toks) (o:=.tup (cutV xs lo hi)) (fun b ob q=>Heap.get?_push_of_some _ q) (Nat.le_refl _) ?_,rfl,q _ (I.hok.fresh (Nat.le_refl _))⟩
  exact ⟨Nat.le_trans (cutV_length xs lo hi) hz,_,(r.drop (HT.sIx xs.length 0 lo)).take (HT.sIx xs.length xs.length hi - HT.sIx xs.length 0 lo),IsTup.new _ _⟩
def rCatT (K:PySem.W.Frag) : R2:=fun x y H Q=>∃a b xs ys,x=.ref a∧y=.ref b∧SqT K H a xs∧SqT K H b ys∧xs≠[]∧xs.length+ys.length≤sizeLine ∧
  (ys = []→Q (.ref a) H)∧(ys≠[]→∀p,H p=none→Q (.ref p) (upd H p (.tup (xs++ys))))
theorem Vals.nil_iff {xs:List V} {us:List Value} (r:Vals xs us) : us = []↔xs = []:=by
  cases r with
  | nil=>simp
  | cons _ _=>simp
theorem op_catT:OpR X (binaryOp .Add) (rCatT X.K):=by
  intro pins s σ H x y v u Q I rx ry h
  obtain ⟨a,b,xs,ys,rfl,rfl,ha,hb,hx,hz,q1,q2⟩:=h
  cases rx
  cases ry
  obtain ⟨its,r1,p1,_⟩:=I.tuple ha
  obtain ⟨its2,r2,p2,_⟩:=I.tuple hb
  refine HT.cat_tup p1 p2 (fun z=>hx (r1.nil_iff.mp z)) (fun z=>⟨.ref a,H,I,rfl,q1 (r2.nil_iff.mp z)⟩) (fun z=>?_) (by rw[←r1.length,←r2.length]; exact hz)
  refine ⟨.ref s.heap.objs.size,_,I.laid (t':=s.toks) (o:=.tup (xs++ys)) (fun b ob q=>Heap.get?_push_of_some _ q) (Nat.le_refl _) ?_,rfl,q2 (fun w=>z (r2.nil_iff.mpr w)) _ (I.hok.fresh (Nat.le_refl _))⟩
  exact ⟨by rw[List.length_append]; exact hz,_,r1.append r2,IsTup.new _ _⟩
end
end L2
namespace L2
open PySem PySem.Spec PyProof.Rows
def ixN (n:Nat) (i:Int) : Option Nat:=if 0≤i then (if i<n then some i.toNat else none) else if -(n:Int)≤i then some (i+n).toNat else none
def atI {α:Type} (xs:List α) (i:Int) : Option α:=(ixN xs.length i).bind fun j=>xs[j]?
theorem ixN_seq {n:Nat} {i:Int} {j:Nat} (h:ixN n i=some j) : seqIndex? i n=some j∧j<n∧-(n:Int)≤i∧i<n:=by
  unfold ixN at h
  by_cases h0:0≤i
  · rw[if_pos h0] at h
    by_cases h1:i<n
    · rw[if_pos h1] at h
      have e:i.toNat=j:=Option.some.inj h
      exact ⟨by rw[seqIndex_of h0 h1,e],by lia,by lia,h1⟩
    · rw[if_neg h1] at h; cases h
  · rw[if_neg h0] at h
    by_cases h1 : -(n:Int)≤i
    · rw[if_pos h1] at h
      have e:(i+n).toNat=j:=Option.some.inj h
      exact ⟨by rw[seqIndex_neg (by lia) h1,e],by lia,h1,by lia⟩
    · rw[if_neg h1] at h; cases h
theorem atI_get {α:Type} {xs:List α} {i:Int} {v:α} (h:atI xs i=some v) : ∃j,seqIndex? i xs.length=some j∧xs[j]?=some v∧j<xs.length∧-(xs.length:Int)≤i∧i<xs.length:=by
  unfold atI at h
  cases e:ixN xs.length i with
  | none=>rw[e] at h; cases h
  | some j =>
    rw[e] at h
    obtain ⟨h1,h2,h3,h4⟩:=ixN_seq e
    exact ⟨j,h1,h,h2,h3,h4⟩
theorem atI_nat {α:Type} {xs:List α} {j:Nat} {v:α} (h:xs[j]?=some v) : atI xs (j:Int)=some v:=by
  have hj:j<xs.length:=(List.getElem?_eq_some_iff.mp h).1
  have e:ixN xs.length (j:Int)=some j:=by
    unfold ixN
    rw[if_pos (by lia),if_pos (by lia)]; simp
  unfold atI; rw[e]; exact h
def PlainIx (b:Expr) : Prop:=∀o i,subscripted b false o i=operate [o,i] (getItem o i)
def IxR (X:Cx) (r:R2) : Prop:=
  ∀(value slice:Expr) (pins:List (Addr×Obj)) (s:Shared) (σ:St) (H:Hp) (x y:V) (v u:Value) (Q:VK),Inv X pins σ H s→RelV x v→RelV y u→r x y H Q →
    subscripted slice false v u=operate [v,u] (getItem v u)→wpAny (model X.prog X.w) X.A (subscriptTail value slice v u) (EP X pins σ Q) X.xe s
def MtR (X:Cx) (id:String) (r:V→List V→Hp→VK→Prop) : Prop:=
  ∀(pins:List (Addr×Obj)) (s:Shared) (σ:St) (H:Hp) (x:V) (xs:List V) (v:Value) (us:List Value) (Q:VK),Inv X pins σ H s→RelV x v→Vals xs us→r x xs H Q →
    wpAny (model X.prog X.w) X.A (call (.builtin id) (v::us)) (EP X pins σ Q) X.xe s
section
variable {X:Cx} {a b:Expr} {ta tb:TE} {pos:Pos}
theorem IxR.or {r r':R2} (h:IxR X r) (h':IxR X r') : IxR X (fun x y H Q=>r x y H Q∨r' x y H Q):=by
  intro value slice pins s σ H x y v u Q I rx ry q hs
  rcases q with q | q
  · exact h value slice pins s σ H x y v u Q I rx ry q hs
  · exact h' value slice pins s σ H x y v u Q I rx ry q hs
theorem MtR.or {id:String} {r r':V→List V→Hp→VK→Prop} (h:MtR X id r) (h':MtR X id r') : MtR X id (fun x xs H Q=>r x xs H Q∨r' x xs H Q):=by
  intro pins s σ H x xs v us Q I rx rs q
  rcases q with q | q
  · exact h pins s σ H x xs v us Q I rx rs q
  · exact h' pins s σ H x xs v us Q I rx rs q
theorem pe_ix {r:R2} (hr:IxR X r) (ha:PE X a ta) (hb:PE X b tb) (hs:PlainIx b) : PE X (.Subscript a b pos) (tOp r ta tb):=by
  intro pins s σ H Q I h
  exact Subscript_ (binT ha hb I h fun v u s2 x y H2 I2 rx ry q=>hr a b pins s2 σ H2 x y v u Q I2 rx ry q (hs _ _))
def rIxL (K:PySem.W.Frag) : R2:=fun x y H Q=>∃p xs i v,x=.ref p∧y=.int i∧SqL K H p xs∧atI xs i=some v∧Q v H
def rIxT (K:PySem.W.Frag) : R2:=fun x y H Q=>∃p xs i v,x=.ref p∧y=.int i∧SqT K H p xs∧atI xs i=some v∧Q v H
def rIxS:R2:=fun x y H Q=>∃z i c,x=.str z∧y=.int i∧z.length≤sizeLine∧atI z.cps.toList i=some c∧Q (.str ⟨#[c]⟩) H
theorem ix_list:IxR X (rIxL X.K):=by
  intro value slice pins s σ H x y v u Q I rx ry h hs
  obtain ⟨p,xs,i,z,rfl,rfl,hq,he,q⟩:=h
  cases rx
  obtain ⟨t,rfl⟩:=ry
  obtain ⟨its,r,pl,hz⟩:=I.list hq
  obtain ⟨j,h1,h2,h3,h4,h5⟩:=atI_get he
  obtain ⟨w,ew,rw'⟩:=r.get h2
  have hl:=r.length
  have hn:=line63
  have fin:EP X pins σ Q w s:=⟨z,H,I,rw',q⟩
  by_cases h0:0≤i
  · have hj:i.toNat=j:=by
      rw[seqIndex_of h0 h5] at h1
      exact Option.some.inj h1
    exact item_listR pl.isList h0 (by lia) (by rw[hj]; simpa using ew) fin hs
  · have hj:(i+(its.toArray.size:Int)).toNat=j:=by
      rw[seqIndex_neg (by lia) h4] at h1
      rw[List.size_toArray,←hl]
      exact Option.some.inj h1
    exact subscriptTail_builtinR (x:=w) pl.isList.typeIs slot_list_getitem.lookup
      (wpAny_getItem_list_neg (Q:=fun r s'=>r=w∧EP X pins σ Q r s') pl.isList (by lia) (by rw[List.size_toArray]<;>lia) (by lia) (by rw[hj]; simpa using ew) ⟨rfl,fin⟩) hs
theorem ix_tup:IxR X (rIxT X.K):=by
  intro value slice pins s σ H x y v u Q I rx ry h hs
  obtain ⟨p,xs,i,z,rfl,rfl,hq,he,q⟩:=h
  cases rx
  obtain ⟨t,rfl⟩:=ry
  obtain ⟨its,r,pl,hz⟩:=I.tuple hq
  obtain ⟨j,h1,h2,h3,h4,h5⟩:=atI_get he
  obtain ⟨w,ew,rw'⟩:=r.get h2
  have hl:=r.length
  have hn:=line63
  have fin:EP X pins σ Q w s:=⟨z,H,I,rw',q⟩
  exact subscriptTail_builtinR (x:=w) pl.typeIs slot_tuple_getitem.lookup
    (getItem_tuple (j:=j) (Q:=fun r s'=>r=w∧EP X pins σ Q r s') pl (by lia) (by lia) (by rw[List.size_toArray,←hl]; exact h1) (by simpa using ew) ⟨rfl,fin⟩) hs
theorem ix_str:IxR X rIxS:=by
  intro value slice pins s σ H x y v u Q I rx ry h hs
  obtain ⟨z,i,c,rfl,rfl,hz,he,q⟩:=h
  obtain ⟨t,rfl⟩:=rx
  obtain ⟨t',rfl⟩:=ry
  obtain ⟨j,h1,h2,h3,h4,h5⟩:=atI_get he
  have hl:z.cps.toList.length=z.length:=by simp[Str.length]
  rw[hl] at h1 h4 h5
  have hn:=line63
  exact tail_any (typeIs_str s z t) slot_str_getitem.lookup (getItem_str (c:=c) (by
    have e1:decide (i < -(2 ^ 63:Int))=false:=decide_eq_false (by lia)
    have e2:decide (i≥2 ^ 63)=false:=decide_eq_false (by lia)
    rw[e1,e2,Bool.or_false]) (by rw[h1]; simpa using h2) ⟨.str ⟨#[c]⟩,H,I.tok _,⟨_,rfl⟩,q⟩) hs
def rIx (K:PySem.W.Frag) : R2:=fun x y H Q=>rIxL K x y H Q∨rIxT K x y H Q∨rIxS x y H Q
theorem ix_seq:IxR X (rIx X.K):=ix_list.or (ix_tup.or ix_str)
theorem Inv.lst {pins:List (Addr×Obj)} {σ:St} {H:Hp} {s:Shared} {p:Addr} {xs:List V} (I:Inv X pins σ H s) (h:H p=some (.lst xs)) :
    ∃(its:List Value) (n:Nat),Vals xs its∧s.heap.get? p=some { cls:=.type "list",data:=.seq its.toArray n }∧xs.length≤sizeLine:=by
  obtain ⟨z,its,n,r,e⟩:=I.hok p _ h
  exact ⟨its,n,r,e,z⟩
theorem slice_bounds (lo hi:Option Int) (n:Nat) : (sliceBounds lo hi none n).1=((HT.sIx n 0 lo:Nat) : Int)∧(sliceBounds lo hi none n).2.1=((HT.sIx n n hi:Nat) : Int)∧(sliceBounds lo hi none n).2.2=1:=by
  refine ⟨?_,?_,rfl⟩
  · cases lo with
    | none=>simp[sliceBounds,HT.sIx]
    | some i =>
      simp only[sliceBounds,HT.sIx,Option.getD_none,show (1:Int)>0 by decide,if_true]
      by_cases h:i<0
      · simp only[h,if_true]<;>lia
      · simp only[h,if_false]<;>lia
  · cases hi with
    | none=>simp[sliceBounds,HT.sIx]
    | some i =>
      simp only[sliceBounds,HT.sIx,Option.getD_none,show (1:Int)>0 by decide,if_true]
      by_cases h:i<0
      · simp only[h,if_true]<;>lia
      · simp only[h,if_false]<;>lia
theorem slicePick_cut (its:List Value) (lo hi:Option Int) : slicePick its.toArray lo hi none=((its.drop (HT.sIx its.length 0 lo)).take (HT.sIx its.length its.length hi - HT.sIx its.length 0 lo)).toArray:=by
  obtain ⟨h1,h2,h3⟩:=slice_bounds lo hi its.toArray.size
  unfold slicePick
  rw[h1,h2,h3]
  simp only[sliceRange_one,pick_run,List.size_toArray]<;>rfl
def rSlL (K:PySem.W.Frag) : V→Option Int→Option Int→Hp→VK→Prop:=fun x lo hi H Q=>∃a xs,x=.ref a∧SqL K H a xs∧∀p,H p=none→Q (.ref p) (upd H p (.lst (cutV xs lo hi)))
theorem sl_list:SlR X (rSlL X.K):=by
  intro pins s σ H x v vl vu lo hi sl Q I rx hs pl pu h
  obtain ⟨a,xs,rfl,hx,q⟩:=h
  cases rx
  obtain ⟨its,r,ht,hz⟩:=I.list hx
  have hlen:=r.length
  refine ⟨"list",_,slot_list_getitem.lookup,ht.isList.typeIs,?_⟩
  refine wpAny_getItem_list_slice ht.isList hs pl pu .none (by simp) ?_ (by rw[List.size_toArray]<;>lia)
  rw[slicePick_cut,←hlen]
  refine ⟨.ref s.heap.objs.size,_,I.laid (t':=s.toks) (o:=.lst (cutV xs lo hi)) (fun b ob q=>Heap.get?_push_of_some _ q) (Nat.le_refl _) ?_,rfl,q _ (I.hok.fresh (Nat.le_refl _))⟩
  exact ⟨Nat.le_trans (cutV_length xs lo hi) hz,_,0,(r.drop (HT.sIx xs.length 0 lo)).take (HT.sIx xs.length xs.length hi - HT.sIx xs.length 0 lo),Heap.get?_push_size _ rfl⟩
def flatV:V→Bool
  | .non=>true
  | .bl _=>true
  | .int _=>true
  | .str _=>true
  | _=>false
def eqV:V→V→Bool
  | .non,.non=>true
  | .bl a,.bl b=>a == b
  | .bl a,.int b=>(if a then 1 else 0) == b
  | .int a,.bl b=>a == (if b then 1 else 0)
  | .int a,.int b=>a == b
  | .str a,.str b=>a == b
  | _,_=>false
theorem eqAt_V {A:Around} {s:Shared} {y x:V} {u v:Value} (ry:RelV y u) (rx:RelV x v) (fy:flatV y=true) (fx:flatV x=true) : SeqAt.EqAt A s u v (eqV y x):=by
  cases y with
  | non =>
    cases ry
    cases x with
    | non=>cases rx; exact SeqAt.EqAt.same _
    | bl b=>cases rx; exact SeqAt.EqAt.none_bool b
    | int b=>obtain ⟨t,rfl⟩:=rx; exact SeqAt.EqAt.none_int b t
    | str b=>obtain ⟨t,rfl⟩:=rx; exact SeqAt.EqAt.none_str b t
    | _=>exact absurd (show false=true from fx) Bool.false_ne_true
  | bl a =>
    cases ry
    cases x with
    | non=>cases rx; exact SeqAt.EqAt.bool_none a
    | bl b=>cases rx; exact SeqAt.EqAt.bool_bool a b
    | int b=>obtain ⟨t,rfl⟩:=rx; exact SeqAt.EqAt.bool_int a b t
    | str b=>obtain ⟨t,rfl⟩:=rx; exact SeqAt.EqAt.bool_str a b t
    | _=>exact absurd (show false=true from fx) Bool.false_ne_true
  | int a =>
    obtain ⟨t',rfl⟩:=ry
    cases x with
    | non=>cases rx; exact SeqAt.EqAt.int_none a t'
    | bl b=>cases rx; exact SeqAt.EqAt.int_bool a t' b
    | int b=>obtain ⟨t,rfl⟩:=rx; exact SeqAt.EqAt.int_int a t' b t
    | str b=>obtain ⟨t,rfl⟩:=rx; exact SeqAt.EqAt.int_str a t' b t
    | _=>exact absurd (show false=true from fx) Bool.false_ne_true
  | str a =>
    obtain ⟨t',rfl⟩:=ry
    cases x with
    | non=>cases rx; exact SeqAt.EqAt.str_none a t'
    | bl b=>cases rx; exact SeqAt.EqAt.str_bool a t' b
    | int b=>obtain ⟨t,rfl⟩:=rx; exact SeqAt.EqAt.str_int a t' b t
    | str b=>obtain ⟨t,rfl⟩:=rx; exact SeqAt.EqAt.str_str a t' b t
    | _=>exact absurd (show false=true from fx) Bool.false_ne_true
  | _=>exact absurd (show false=true from fy) Bool.false_ne_true
theorem CallR.or {f:Value} {r r':List V→Hp→VK→Prop} (h:CallR X f r) (h':CallR X f r') : CallR X f (fun xs H Q=>r xs H Q∨r' xs H Q):=by
  intro pins s σ H xs us Q I rs q
  rcases q with q | q
  · exact h pins s σ H xs us Q I rs q
  · exact h' pins s σ H xs us Q I rs q
theorem call_list_of:CallR X (.type "list") (fun xs H Q=>∃p ys,xs = [.ref p]∧(SqL X.K H p ys∨SqT X.K H p ys)∧∀l,H l=none→Q (.ref l) (upd H l (.lst ys))):=by
  intro pins s σ H xs us Q I r h
  obtain ⟨p,ys,rfl,hq,q⟩:=h
  obtain ⟨u,rfl,rx⟩:=vals1 r
  cases rx
  have fin:∀(its:List Value),Vals ys its→ys.length≤sizeLine→∀(h':Heap) (c':Nat),(∀b o',s.heap.get? b=some o'→h'.get? b=some o') →
      h'.get? s.heap.objs.size=some { cls:=.type "list",dict:=none,data:=.seq its.toArray c',slots:=#[] }→EP X pins σ Q (.ref s.heap.objs.size) { s with heap:=h' }:=fun its r' hz h' c' kp e =>
    ⟨.ref s.heap.objs.size,_,I.laid (t':=s.toks) kp (Nat.le_refl _) (show ObjOk X.prog X.w _ h' _ (.lst ys) from ⟨hz,its,c',r',e⟩),rfl,q _ (I.hok.fresh (Nat.le_refl _))⟩
  rcases hq with hq | hq
  · obtain ⟨its,r',pl,hz⟩:=I.list hq
    have hlen:=r'.length
    obtain ⟨o,ho,hc,n,hd⟩:=pl.isList
    exact call_list_seq p (.inl rfl) ho hc hd (fun h' c' kp e=>fin its r' hz h' c' kp e) (by simp only[List.size_toArray]<;>lia)
  · obtain ⟨its,r',pl,hz⟩:=I.tuple hq
    have hlen:=r'.length
    obtain ⟨o,ho,hc,n,hd⟩:=pl
    exact call_list_seq p (.inr rfl) ho hc hd (fun h' c' kp e=>fin its r' hz h' c' kp e) (by simp only[List.size_toArray]<;>lia)
def tyV (K:PySem.W.Frag) (T:String) (x:V) (H:Hp) : Prop:=match x with
  | .str _=>T = "str"
  | .int _=>T = "int"
  | .ref p=>(T = "list"∧∃xs,SqL K H p xs)∨(T = "tuple"∧∃o,K.lookup p=some o∧o.cls=.type "tuple"∧o.dict=none) ∨
      (T = "dict"∧((∃kvs,H p=some (.dK kvs))∨∃kvs,H p=some (.dT kvs)))∨(T = "set"∧∃S n,H p=some (.set S n))
  | _=>False
theorem tyV_is {pins:List (Addr×Obj)} {σ:St} {H:Hp} {s:Shared} {T:String} {x:V} {v:Value} (I:Inv X pins σ H s) (r:RelV x v) (ty:tyV X.K T x H) :
    s.TypeIs v T∧∀a,v=.ref a→∃ob,s.heap.get? a=some ob∧ob.dict=none:=by
  cases x with
  | str z =>
    obtain ⟨t,rfl⟩:=r
    cases (show T = "str" from ty)
    exact ⟨typeIs_str s z t,fun _ e=>nomatch e⟩
  | int i =>
    obtain ⟨t,rfl⟩:=r
    cases (show T = "int" from ty)
    exact ⟨typeIs_int s i t,fun _ e=>nomatch e⟩
  | ref p =>
    cases r
    rcases ty with ⟨rfl,xs,hq⟩ | ⟨rfl,o,hk,hc,hd⟩ | ⟨rfl,hk⟩ | ⟨rfl,S,n,hk⟩
    · obtain ⟨its,_,pl,_⟩:=I.list hq
      refine ⟨pl.isList.typeIs,fun a e=>?_⟩
      cases e
      obtain ⟨o,n,e,c,hd,_⟩:=pl
      exact ⟨o,e,hd⟩
    · refine ⟨⟨o,I.kIn p o hk,hc⟩,fun a e=>?_⟩
      cases e
      exact ⟨o,I.kIn _ o hk,hd⟩
    · have z:∃o,s.heap.get? p=some o∧o.ExactDict:=by
        rcases hk with ⟨kvs,hk⟩ | ⟨kvs,hk⟩
        · obtain ⟨_,_,_,_,o,_,_,e,ex,_⟩:=I.hok p _ hk
          exact ⟨o,e,ex⟩
        · obtain ⟨_,_,_,_,o,_,_,e,ex,_⟩:=I.hok p _ hk
          exact ⟨o,e,ex⟩
      obtain ⟨o,e,ex⟩:=z
      refine ⟨⟨o,e,ex.1⟩,fun a e2=>?_⟩
      cases e2
      exact ⟨o,e,ex.2.1⟩
    · obtain ⟨o,_,_,_,e,ex,_⟩:=I.hok p _ hk
      refine ⟨⟨o,e,ex.1⟩,fun a e2=>?_⟩
      cases e2
      exact ⟨o,e,ex.2.1⟩
  | _=>exact False.elim ty
def tBM (K:PySem.W.Frag) (T:String) (r:V→List V→Hp→VK→Prop) (to:TE) (t:TA) : TE:=fun σ H Q=>to σ H fun x H1=>tyV K T x H1∧t σ H1 fun xs H2=>r x xs H2 Q
variable {o e:Expr} {es:List Expr} {to:TE} {t:TA} {name:Str} {apos cpos:Pos} {T id:String} {r:V→List V→Hp→VK→Prop}
theorem pe_bm (pa:PlainAttrs T) (slot:Slot T name id) (hty:typeOf (.builtin id)=pure (.type "method_descriptor")) (hm:MtR X id r) (ho:PE X o to) (ha:PA X (e::es) t)
    (hbase:attributeBase o name X.env (eval o X.env)=eval o X.env:=by rfl)
    (hfew:((backTo cpos (starEach (e::es) X.env)).all (fun x=>!x.1) && (backToKw cpos (keywordEach [] X.env)).all (fun x=>x.1.isSome)
      && decide ((e::es).length+([] : List Keyword).length+(if ([] : List Keyword).isEmpty then 0 else 1)<30))=true:=by rfl)
    (hline:(apos.endLine == cpos.line)=true:=by rfl) (hs:starEach (e::es) X.env=(false,eval e X.env)::starEach es X.env:=by rfl) (hplain:(backTo cpos (starEach es X.env)).any (·.1)=false:=by rfl) :
    PE X (.Call (.Attribute o name apos) (e::es) [] cpos) (tBM X.K T r to t):=by
  intro pins s σ H Q I h
  refine wpAny_Call_method_late hbase hfew hline rfl (thn (ho pins s σ H _ I h) fun v s1 ⟨x,H1,I1,r1,ty,q1⟩=>?_)
  obtain ⟨h1,h2⟩:=tyV_is I1 r1 ty
  refine ⟨T,id,pa,slot,hty,h1,h2,?_⟩
  have hA:=ha cpos pins s1 σ H1 _ I1 q1
  rw[hs] at hA ⊢
  refine Calls.callWith_builtin (by show (false || (backTo cpos (starEach es X.env)).any (·.1))=false; rw[hplain]<;>rfl) (Calls.evalArgs_plain ?_)
  exact thn hA fun us s2 ⟨vs,H2,I2,r2,q2⟩=>hm pins s2 σ H2 x vs v us Q I2 r1 r2 q2
end
end L2
namespace L2
open PySem PySem.Spec PyProof.Rows
def MtM (X:Cx) (id:String) (r:V→List V→Hp→VK→Prop) : Prop:=
  ∀(pins:List (Addr×Obj)) (s:Shared) (σ:St) (H:Hp) (x:V) (xs:List V) (v:Value) (us:List Value) (Q:VK),Inv X pins σ H s→RelV x v→Vals xs us→r x xs H Q →
    wpAny (model X.prog X.w) X.A (call (.builtin id) (v::us)) (EP X pins σ Q) X.xe s
theorem Vals.one:∀{x:V} {us:List Value},Vals [x] us→∃u,us = [u]∧RelV x u
  | _,_,.cons r .nil=>⟨_,rfl,r⟩
theorem Vals.reverse {xs:List V} {us:List Value} (h:Vals xs us) : Vals xs.reverse us.reverse:=by
  induction h with
  | nil=>exact .nil
  | cons r t ih=>rw[List.reverse_cons,List.reverse_cons]; exact Vals.append ih (.cons r .nil)
theorem Vals.rep {xs:List V} {us:List Value} (h:Vals xs us) : ∀k:Nat,Vals (List.replicate k xs).flatten (List.replicate k us).flatten
  | 0=>.nil
  | k+1=>by
    rw[List.replicate_succ,List.replicate_succ,List.flatten_cons,List.flatten_cons]
    exact Vals.append h (Vals.rep h k)
theorem foldl_rep (its:List Value) : ∀(k:Nat) (acc:List Value),
    List.foldl (fun x1 x2=>x1++x2) acc.toArray (List.replicate k its.toArray)=(acc++(List.replicate k its).flatten).toArray
  | 0,acc=>by simp
  | k+1,acc=>by
    have e:acc.toArray++its.toArray=(acc++its).toArray:=by simp
    have e2:(acc++its)++(List.replicate k its).flatten=acc++(List.replicate (k+1) its).flatten:=by
      rw[List.replicate_succ,List.flatten_cons,List.append_assoc]
    rw[←e2,←foldl_rep its k (acc++its),←e,List.replicate_succ,List.foldl_cons]
section
variable {X:Cx} {pins:List (Addr×Obj)} {σ:St} {H:Hp} {s:Shared} {l b:Addr} {xs ys zs:List V}
theorem Inv.lset {its its':List Value} {n:Nat} {f:Array Value→Array Value} {t':Nat} (I:Inv X pins σ H s) (hH:H l=some (.lst xs))
    (e:s.heap.get? l=some { cls:=.type "list",data:=.seq its.toArray n }) (hf:f its.toArray=its'.toArray) (hv:Vals ys its') (hz:ys.length≤sizeLine) :
    Inv X pins σ (upd H l (.lst ys)) { s with heap:=s.heap.update l (Obj.mapSeq f),toks:=t' }:=by
  have q:=PySem.IsL.update e f
  rw[hf] at q
  refine I.write (x:=l) (e:=l) (by rw[hH]; exact trivial) (.inl rfl) (fun b' u hb hu=>(Heap.get?_update_other s.heap (Obj.mapSeq f) (Ne.symm hb)).trans hu) ⟨_,q⟩ ?_
  exact ⟨hz,its',_,hv,q⟩
theorem Inv.lnew {its:List Value} {t':Nat} (I:Inv X pins σ H s) (hv:Vals ys its) (hz:ys.length≤sizeLine) :
    Inv X pins σ (upd H s.heap.objs.size (.lst ys)) { s with heap:=s.heap.push { cls:=.type "list",data:=.seq its.toArray },toks:=t' }:=
  I.laid (fun _ _ q=>Heap.get?_push_of_some _ q) (Nat.le_refl _) ⟨hz,its,0,hv,Heap.get?_push_size _ rfl⟩
theorem Inv.fresh (I:Inv X pins σ H s) : H s.heap.objs.size=none:=I.hok.fresh (Nat.le_refl _)
theorem Inv.lstM (I:Inv X pins σ H s) (hH:H l=some (.lst xs)) : xs.length≤sizeLine∧∃(its:List Value) (n:Nat),Vals xs its∧xs.length=its.length∧s.heap.get? l=some { cls:=.type "list",data:=.seq its.toArray n }:=by
  obtain ⟨z,its,n,r,e⟩:=I.hok l _ hH
  exact ⟨z,its,n,r,r.length,e⟩
theorem notLongL {n:Nat} (h:n≤sizeLine) : Builtin.List.listTooLong n=false:=by
  unfold Builtin.List.listTooLong
  exact decide_eq_false (by lia)
end
section
variable {X:Cx}
def rAppend:V→List V→Hp→VK→Prop:=fun x vs H Q=>∃l xs y,x=.ref l∧vs = [y]∧H l=some (.lst xs)∧xs.length<sizeLine∧Q .non (upd H l (.lst (xs++[y])))
theorem mt_append:MtM X "list.append" rAppend:=by
  intro pins s σ H x vs v us Q I rx rv h
  obtain ⟨l,xs,y,rfl,rfl,hH,hz,q⟩:=h
  cases rx
  obtain ⟨u,rfl,ru⟩:=rv.one
  obtain ⟨z,its,n,r,hl,e⟩:=I.lstM hH
  refine call_meets F.slot_list_append ⟨_,e,rfl⟩ F.entry_list_append (F.args_list_append_2 _ _) (PySem.list_append l its.toArray n u (by rw[List.size_toArray]; lia)) ⟨e,?_⟩
  refine ⟨.non,_,I.lset (its':=its++[u]) hH e (by simp) (r.append (.cons ru .nil)) ?_,rfl,q⟩
  rw[List.length_append,List.length_singleton]
  lia
def rExtend:V→List V→Hp→VK→Prop:=fun x vs H Q=>∃l b xs zs,x=.ref l∧vs = [.ref b]∧H l=some (.lst xs)∧H b=some (.lst zs)∧xs.length+zs.length≤sizeLine∧Q .non (upd H l (.lst (xs++zs)))
theorem mt_extend:MtM X "list.extend" rExtend:=by
  intro pins s σ H x vs v us Q I rx rv h
  obtain ⟨l,b,xs,zs,rfl,rfl,hH,hB,hz,q⟩:=h
  cases rx
  obtain ⟨u,rfl,ru⟩:=rv.one
  cases ru
  obtain ⟨z,its,n,r,hl,e⟩:=I.lstM hH
  obtain ⟨z2,its2,n2,r2,hl2,e2⟩:=I.lstM hB
  have hsz:its.toArray.size+its2.toArray.size≤sizeLine:=by rw[List.size_toArray,List.size_toArray]; lia
  have hlong:¬(!its.toArray.isEmpty && Builtin.List.listTooLong (its.toArray.size+its2.toArray.size))=true:=by
    rw[notLongL hsz,Bool.and_false]
    exact Bool.false_ne_true
  refine call_meets F.slot_list_extend ⟨_,e,rfl⟩ F.entry_list_extend (F.args_list_extend_2 _ _)
    (AutoSeq1.list_extend_list_list_0 l its.toArray n b its2.toArray n2 hlong (by rw[List.size_toArray]; lia) (by lia)) ⟨e,e2,?_⟩
  refine ⟨.non,_,I.lset (its':=its++its2) hH e (by simp) (r.append r2) ?_,rfl,q⟩
  rw[List.length_append]
  lia
def rCat:R2:=fun x y H Q=>∃l b xs zs,x=.ref l∧y=.ref b∧H l=some (.lst xs)∧H b=some (.lst zs)∧xs.length+zs.length≤sizeLine∧∀p,H p=none→Q (.ref p) (upd H p (.lst (xs++zs)))
theorem op_cat:OpR X (binaryOp .Add) rCat:=by
  intro pins s σ H x y v u Q I rx ry h
  obtain ⟨l,b,xs,zs,rfl,rfl,hH,hB,hz,q⟩:=h
  cases rx
  cases ry
  obtain ⟨z,its,n,r,hl,e⟩:=I.lstM hH
  obtain ⟨z2,its2,n2,r2,hl2,e2⟩:=I.lstM hB
  refine PySem.P.add_list e e2 ?_ (by rw[List.size_toArray,List.size_toArray]; lia)
  have ea:its.toArray++its2.toArray=(its++its2).toArray:=by simp
  rw[ea]
  exact ⟨.ref _,_,I.lnew (t':=s.toks) (r.append r2) (by rw[List.length_append]; lia),rfl,q _ I.fresh⟩
def rRep:R2:=fun x y H Q=>∃l k xs,x=.ref l∧y=.int k∧H l=some (.lst xs)∧-(2 ^ 63)≤k∧k<2 ^ 63∧xs.length*k.toNat≤sizeLine ∧
  ∀p,H p=none→Q (.ref p) (upd H p (.lst (List.replicate k.toNat xs).flatten))
theorem len_rep {α:Type} (xs:List α) (k:Nat) : (List.replicate k xs).flatten.length=k*xs.length:=by
  induction k with
  | zero=>simp
  | succ k ih=>rw[List.replicate_succ,List.flatten_cons,List.length_append,ih,Nat.succ_mul,Nat.add_comm]
theorem op_rep:OpR X (binaryOp .Mult) rRep:=by
  intro pins s σ H x y v u Q I rx ry h
  obtain ⟨l,k,xs,rfl,rfl,hH,h1,h2,hz,q⟩:=h
  cases rx
  obtain ⟨t,rfl⟩:=ry
  obtain ⟨z,its,n,r,hl,e⟩:=I.lstM hH
  have hlen:its.toArray.size*k.toNat≤sizeLine:=by rw[List.size_toArray,←hl]; exact hz
  have hcap:¬its.toArray.size*k.toNat>(2 ^ 63 - 1) / 8:=by
    have:(sizeLine:Nat)≤(2 ^ 63 - 1) / 8:=by decide
    lia
  have hfit:¬(!Builtin.List.listFitsIndex k)=true:=by
    rw[fitsIndex_both h1 h2]
    exact Bool.false_ne_true
  have hlong:¬Builtin.List.listTooLong (its.toArray.size*k.toNat)=true:=by
    rw[notLongL hlen]
    exact Bool.false_ne_true
  have hnew:List.foldl (fun x1 x2=>x1++x2) #[] (List.replicate (if its.toArray.isEmpty=true then 0 else k.toNat) its.toArray)=(List.replicate k.toNat its).flatten.toArray:=by
    have f0:∀m:Nat,List.foldl (fun x1 x2=>x1++x2) #[] (List.replicate m its.toArray)=(List.replicate m its).flatten.toArray:=fun m=>by
      have:=foldl_rep its m []
      rw[List.nil_append] at this
      exact this
    rw[f0]
    cases its with
    | nil=>simp
    | cons a r'=>rw[if_neg (by simp)]
  refine wpAny_binaryOp_repeat_ref (T:="list") (U:="int") (by decide) ⟨_,e,rfl⟩ (fun s'=>typeIs_int s' k t) noFill_list_mul F.fills_int_mul F.slot_int_rmul repeat_list F.slot_int_index.lookup
    (call_meets F.slot_int_rmul (typeIs_int s k t) F.entry_int_rmul (F.args_int_rmul_2 _ _) (int___rmul___int_list k t l its.toArray n)
      ⟨e,rfl,⟨_,e,rfl⟩,call_meets F.slot_list_mul ⟨_,e,rfl⟩ F.entry_list_mul (F.args_list_mul_2 _ _) (AutoListH.list___mul___list_int_3 l its.toArray n k t hfit hcap hlong) ⟨e,?_⟩⟩)
  rw[hnew]
  exact ⟨.ref _,_,I.lnew (t':=s.toks) (r.rep k.toNat) (by rw[len_rep,Nat.mul_comm]; exact hz),rfl,q _ I.fresh⟩
end
section
variable {prog:Program} {w:World} {A:Around} {E:Value→Shared→Prop} {s:Shared}
end
section
variable {X:Cx}
end
end L2
namespace Att
open PySem PySem.W PySem.Calls PyProof.Rows
theorem ints_of_wellAll {P:Params} {h:Heap} : ∀(ns:List Int) (vs:List Value),WellAll P h vs (ns.map WData.int)→IntsAre vs ns:=by
  intro ns
  induction ns with
  | nil =>
    intro vs w
    rw[List.map_nil] at w
    cases w
    exact .nil
  | cons n ns ih =>
    intro vs w
    rw[List.map_cons] at w
    cases w with
    | cons a b =>
      cases a
      exact .cons _ _ (ih _ b)
theorem script_of {l:OpenLaw} {n:Nat} (hn:l.most=some n) {P:Params} {h:Heap} {args:List WData} {vals:List Value}
    (hpre:l.row.toRowW.claim.pre args=true) (hwl:WellAll P h vals args) :
    ∃a vs ns,vals = [Value.ref a]∧args = [WData.list (ns.map WData.int)]∧h.get? a=some { cls:=.type "list",data:=.seq vs.toArray }∧IntsAre vs ns∧ns.length≤n:=by
  have hsh:WShape.hasAll [] args [.list .int]=true:=(pre_splitW hpre).1
  have hc:l.pre.holds [] { args:=args }=true:=(pre_splitW hpre).2
  obtain ⟨d,r,rfl,h1,h2⟩:=hasAllW_cons hsh
  obtain rfl:=hasAllW_nil h2
  obtain ⟨xs,rfl,h3⟩:=hasW_list h1
  obtain ⟨ns,rfl⟩:=items_int h3
  have hlen:ns.length≤n:=by
    unfold OpenLaw.pre at hc
    have h4:(WTm.not (.lt (.lit (.int (n:Int))) (.len (.arg 0)))).holds [] { args:=[.list (ns.map .int)] }=true:=by
      have h4:=(holds_andW hc).1
      rw[hn] at h4
      exact h4
    have h5:=condW_of h4 (w_not (w_lt w_lit (w_len_list (w_arg rfl))))
    rw[List.length_map] at h5
    refine Nat.le_of_not_lt fun q=>?_
    have q':(n:Int)<((ns.length:Nat) : Int):=by lia
    first
      | (rw[decide_eq_true q'] at h5; exact absurd h5 (by decide))
      | (simp at h5; lia)
  cases hwl with
  | cons w1 w2 =>
    cases w2
    cases w1 with
    | list ho hall=>exact ⟨_,_,ns,rfl,rfl,ho,ints_of_wellAll ns _ hall,hlen⟩
theorem post_true (l:OpenLaw) (args:List WData) : l.row.toRowW.claim.post args (.bool true) args=true:=
  postW_of (r:=l.row.toRowW) (X:=(true == true))
    (show WShape.has [] (.bool true) .bool=true by first | rfl | decide | simp[WShape.has,WShape.arms,WShape.armsAll])
    (show (WTm.eq .res (.lit (.bool true))).value [] { args:=args,res:=some (.bool true),after:=args }=some (.bool (true == true)) from w_eq_bool (w_res rfl) w_lit) rfl
theorem attach_call {l:OpenLaw} {n:Nat} {q:Program} {loose:List Str} {XP:(Str→Option Value)→Heap→Prop} {YP:World→Heap→Prop} {d:DefRec}
    (hn:l.most=some n) (hdf:d.params.defaults = [])
    (call:∀(w:World) (s₀ s₁:Shared) (mg mb:Str→Option Value) (fa:Addr) (o:Obj) (pm cd doc:Value) (a:Addr) (vs:List Value) (ns:List Int),
      Ground q loose [] XP w s₀ mg mb s₁.heap→YP w s₁.heap →
      s₁.heap.get? fa=some o→o.data=.func (docDef d.name d.params d.body d.scope pm cd doc)→s₁.heap.CodeRec cd d.name→mg d.name=some (.ref fa) →
      s₁.heap.get? a=some { cls:=.type "list",data:=.seq vs.toArray }→IntsAre vs ns→ns.length≤n→s₁.gens = #[] →
      codeAny (model l.prog w) callerA (.call (.ref fa) ⟨[.ref a],[]⟩) (fun r s'=>r=.ok (.ret (.bool true))∧OldK s₁.heap s'.heap∧s'.os=s₁.os∧AllBare s'.gens) s₁) :
    WalkO q loose XP YP l.row.toRowW d [] (fun f vs=>PySem.call f vs):=by
  intro w s₀ s₁ mg mb G Y fa o pm cd doc dV kV ho hd hcd hD hmg hg args vals as hpre hlay hrd hwl hlo
  obtain rfl:dV=.none:=Dflts.none hD hdf
  obtain rfl:kV=.none:=Dflts.noKw hD
  obtain ⟨a,vs,ns,rfl,rfl,hobj,hints,hlen⟩:=script_of hn hpre hwl
  refine enter_call (codeAny_mono (call w s₀ s₁ mg mb fa o pm cd doc a vs ns G Y ho (fd_plain hd) hcd hmg hobj hints hlen hg) fun r s' hq=>?_)
  obtain ⟨rfl,h2,h3,h4⟩:=hq
  exact ⟨.inl ⟨.bool true,.bool true,[],rfl,fun _=>rfl,.bool true,post_true l _,fun _=>⟨List.Pairwise.nil,fun _ hm=>(nomatch hm)⟩⟩,h2,h3,h4⟩
section
variable {prog:Program} {w:World} {A:Around} {E:Value→Shared→Prop} {s:Shared} {K:Frag}
end
end Att
namespace L2
open PySem PySem.Spec PyProof.Rows
theorem vals_ints:∀{vs:List Value} {ns:List Int},IntsAre vs ns→Vals (ns.map V.int) vs
  | _,_,.nil=>.nil
  | _,_,.cons n t h=>.cons ⟨t,rfl⟩ (vals_ints h)
end L2
namespace L2
open PySem PySem.Spec PyProof.Rows
end L2
namespace L2
open PySem PySem.Spec PyProof.Rows
def defArgs (s:Stmt) : Arguments:=match s with
  | .FunctionDef _ a _ _ _ _ _ _ _ _=>a
  | _=>{ posonlyargs:=[],args:=[],vararg:=none,kwonlyargs:=[],kw_defaults:=[],kwarg:=none,defaults:=[] }
def defBody (s:Stmt) : List Stmt:=match s with
  | .FunctionDef _ _ b _ _ _ _ _ _ _=>b
  | _=>[]
def defScope (s:Stmt) : Scope:=match s with
  | .FunctionDef _ _ _ _ _ _ sc _ _ _=>sc
  | _=>{ kind:=.function,names:=[],isGenerator:=false,isCoroutine:=false }
abbrev CX0:CXT:=fun _ _ _ _ _ _=>False
abbrev E0:XK:=fun _ _ _=>False
theorem pass0 {X:Cx} : Passes CX0 X E0:=fun _ _ _ _ _ _ _ h=>h.elim
structure Fun (K:PySem.W.Frag) (x qual:Str) (st:Stmt) (f:Addr) (fd:FuncData) : Prop where
  ex:∃(oc:Value) (od:Option Addr) (kV doc pm:Value) (an:Option Addr) (cdv ct:Value) (osl:Array (Option Value)),
    fd=PySem.W.fnOf x qual (defArgs st) (defBody st) (defScope st) .none kV doc pm an cdv ct∧K.lookup f=some ⟨oc,od,.func fd,osl⟩∧PySem.W.codeIn K cdv qual=true
  kp:PySem.W.keepIn K (.ref f)=true
section
variable {P:Program} {w:World} {K:PySem.W.Frag} {mg:Str→Option Value} {base:Heap}
theorem Fun.ok {x qual:Str} {st:Stmt} {f:Addr} {fd:FuncData} {N ps:List Str} {k:Nat} {sp:Sp} (F:Fun K x qual st f fd) (S:FnScope N ps (defScope st)) (len:∀vs H Q E,sp vs H Q E→vs.length=ps.length)
    (hbody:∀(cdv:Value) (A:Around) (outer:List Env) (s:Shared) (H:Hp) (vs:List V) (Q:VK) (E:XK),Room k (A.deeper (envOfC qual (defScope st) s.heap.objs.size f cdv))→sp vs H Q E →
      ∃t,PSs (cxOf CX0 P w K mg base N qual (defScope st) f cdv A outer s H E).nox (defBody st) t∧t { nx:=fun _ H'=>Q .non H',rt:=Q } (start N vs) H) : FnOk P w K mg base CX0 (k+1) f fd ps sp:=by
  obtain ⟨oc,od,kV,doc,pm,an,cdv,ct,osl,rfl,lk,hcd⟩:=F.ex
  refine fn_of lk hcd S len fun A outer s H vs Q E hr hsp=>?_
  obtain ⟨t,h,q⟩:=hbody cdv A outer s H vs Q E hr hsp
  exact ⟨t,h.nox,q⟩
theorem Fun.binds {x qual:Str} {st:Stmt} {f:Addr} {fd:FuncData} {ps:List Str} (F:Fun K x qual st f fd)
    (h:∀(kV doc pm:Value) (an:Option Addr) (cdv ct:Value) (us:List Value),us.length=ps.length→bindArgs (PySem.W.fnOf x qual (defArgs st) (defBody st) (defScope st) .none kV doc pm an cdv ct) ⟨us,[]⟩=pure (ps.zip us)) : Binds K fd ps []:=by
  obtain ⟨oc,od,kV,doc,pm,an,cdv,ct,osl,rfl,lk,hcd⟩:=F.ex
  exact .all (h kV doc pm an cdv ct)
theorem fun_mk {x qual:Str} {st:Stmt} {f:Addr} {oc:Value} {od an:Option Addr} {osl:Array (Option Value)} {kV doc pm cdv ct:Value} (l:K.lookup f=some ⟨oc,od,.func (PySem.W.fnOf x qual (defArgs st) (defBody st) (defScope st) .none kV doc pm an cdv ct),osl⟩)
    (c:PySem.W.codeIn K cdv qual=true) (k:PySem.W.keepIn K (.ref f)=true) : Fun K x qual st f (PySem.W.fnOf x qual (defArgs st) (defBody st) (defScope st) .none kV doc pm an cdv ct):=⟨⟨oc,od,kV,doc,pm,an,cdv,ct,osl,rfl,l,c⟩,k⟩
end
theorem hu_of {A:Around} {k:Nat} (hr:Room k A) : A.units+1<cLine:=Nat.lt_of_le_of_lt (Nat.add_le_add_left (by decide:1≤64) _) hr.units
theorem small1000 {n:Nat} (h:n≤1000) : n<sizeLine:=Nat.lt_of_le_of_lt h (by decide)
section
variable {X:Cx}
theorem pv (i:Nat) {x:Str} {pos:Pos} (hN:X.N[i]?=some x:=by rfl) (hv:Vis X.env.scope x:=by first | exact Or.inl rfl | exact Or.inr (Or.inl rfl) | exact Or.inr (Or.inr rfl)) (hd:(x == ("__debug__" : Str))=false:=by decide)
    (hcd:(x == ("__classdict__" : Str))=false:=by decide) : PE X (.Name x pos) (tVar i):=pe_var hN hv hd hcd
end
theorem iteF {A B:Prop} (h:B) : if false=true then A else B:=by
  rw[if_neg Bool.false_ne_true]
  exact h
theorem iteT {A B:Prop} (h:A) : if true=true then A else B:=by
  rw[if_pos rfl]
  exact h
def Same (H H':Hp) : Prop:=∀b o,H b=some o→H' b=some o
theorem Same.refl (H:Hp) : Same H H:=fun _ _ h=>h
theorem Same.trans {H H1 H2:Hp} (a:Same H H1) (b:Same H1 H2) : Same H H2:=fun c o h=>b c o (a c o h)
theorem Same.free {H H':Hp} (e:Same H H') {l:Addr} (h:H' l=Option.none) : H l=Option.none:=by
  cases q:H l with
  | none=>rfl
  | some o =>
    rw[e l o q] at h
    cases h
theorem Same.seq {K:PySem.W.Frag} {H H':Hp} {a:Addr} {xs:List V} (e:Same H H') (h:SqL K H a xs) : SqL K H' a xs:=by
  rcases h with (h | ⟨o,h⟩) | h
  · exact .inl (.inl (e _ _ h))
  · exact .inl (.inr ⟨o,e _ _ h⟩)
  · exact .inr h
end L2
namespace L2
open PySem PySem.Spec PyProof.Rows
def blk (X:Cx) (scope:Scope) (N':List Str) (cl:List (Str×Addr)) (fp:List Addr) (C:Addr) (s:Shared) (H:Hp) : Cx:=
  { X with N:=N',s₀:=s,H₀:=H,env:=compEnvC scope cl C X.env,outer:=X.stack,stack:=X.stack,ex:=fp,fn:=fun _=>false,pn:=[],xe:=fun _ _=>False }
def compScB (sc0:Scope) (N0:List Str) (scope:Scope) (N':List Str) (fr:List (Option Nat)) : Bool:=
  decide (scope.kind=.function) && scope.names.all (fun y=>decide (y.2≠.cell)) && scope.names.all (fun y=>decide (y.2=.local→scope.names.lookup y.1=some .local)) &&
  scope.names.all (fun y=>decide (y.2=.free→(sc0.names.lookup y.1=some .cell∨sc0.names.lookup y.1=some .free))) && decide (fr.length=N'.length) &&
  (List.range N'.length).all (fun i=>match fr[i]?,N'[i]? with
    | some (some j),some x=>decide (N0[j]?=some x) && decide (scope.names.lookup x=some .free) && decide (sc0.names.lookup x=some .cell∨sc0.names.lookup x=some .free)
    | _,_=>true)
structure CompSc (sc0:Scope) (N0:List Str) (scope:Scope) (N':List Str) (fr:List (Option Nat)) : Prop where
  kind:scope.kind=.function
  nocell:∀y∈scope.names,y.2≠.cell
  names:∀y∈scope.names,y.2=.local→scope.names.lookup y.1=some .local
  frees:∀y∈scope.names,y.2=.free→(sc0.names.lookup y.1=some .cell∨sc0.names.lookup y.1=some .free)
  len:fr.length=N'.length
  fix:∀(i j:Nat) (x:Str),fr[i]?=some (some j)→N'[i]?=some x→N0[j]?=some x∧scope.names.lookup x=some .free∧(sc0.names.lookup x=some .cell∨sc0.names.lookup x=some .free)
theorem compSc_of {sc0:Scope} {N0:List Str} {scope:Scope} {N':List Str} {fr:List (Option Nat)} (h:compScB sc0 N0 scope N' fr=true) : CompSc sc0 N0 scope N' fr:=by
  unfold compScB at h
  rw[Bool.and_eq_true,Bool.and_eq_true,Bool.and_eq_true,Bool.and_eq_true,Bool.and_eq_true] at h
  obtain ⟨⟨⟨⟨⟨h1,h2⟩,h3⟩,h4⟩,h5⟩,h6⟩:=h
  refine ⟨of_decide_eq_true h1,fun y hy=>of_decide_eq_true (List.all_eq_true.mp h2 y hy),fun y hy=>of_decide_eq_true (List.all_eq_true.mp h3 y hy),fun y hy=>of_decide_eq_true (List.all_eq_true.mp h4 y hy),of_decide_eq_true h5,fun i j x e1 e2=>?_⟩
  have hi:i<N'.length:=(List.getElem?_eq_some_iff.mp e2).1
  have q:=List.all_eq_true.mp h6 i (List.mem_range.mpr hi)
  rw[e1,e2] at q
  dsimp only at q
  rw[Bool.and_eq_true,Bool.and_eq_true] at q
  exact ⟨of_decide_eq_true q.1.1,of_decide_eq_true q.1.2,of_decide_eq_true q.2⟩
def clo (env:Env) : List (Str×NameKind)→List (Str×Addr)→List (Str×Addr)
  | [],cs=>cs
  | (n,k)::r,cs=>if k=.free then clo env r ((n,(env.cells.lookup n).getD 0)::cs) else clo env r cs
theorem mem_of_lookup {α:Type} : ∀{l:List (Str×α)} {x:Str} {v:α},l.lookup x=some v→(x,v)∈l
  | [],_,_,h=>by simp at h
  | (y,w)::r,x,v,h=>by
    cases hx:x == y with
    | true =>
      simp only[List.lookup_cons,hx] at h
      cases h
      rw[beq_iff_eq.mp hx]
      exact List.mem_cons_self
    | false =>
      simp only[List.lookup_cons,hx] at h
      exact List.mem_cons_of_mem _ (mem_of_lookup h)
theorem clo_mem {env:Env} : ∀{l:List (Str×NameKind)} {cs:List (Str×Addr)} {p:Str×Addr},p∈clo env l cs→p∈cs∨(∃y∈l,y.2=.free∧p=(y.1,(env.cells.lookup y.1).getD 0))
  | [],_,_,h=>.inl h
  | (n,k)::r,cs,p,h=>by
    unfold clo at h
    by_cases hk:k=.free
    · rw[if_pos hk] at h
      rcases clo_mem h with q | ⟨y,hy,e1,e2⟩
      · rcases List.mem_cons.mp q with q | q
        · exact .inr ⟨(n,k),List.mem_cons_self,hk,q⟩
        · exact .inl q
      · exact .inr ⟨y,List.mem_cons_of_mem _ hy,e1,e2⟩
    · rw[if_neg hk] at h
      rcases clo_mem h with q | ⟨y,hy,e1,e2⟩
      · exact .inl q
      · exact .inr ⟨y,List.mem_cons_of_mem _ hy,e1,e2⟩
theorem clo_keep {env:Env} : ∀{l:List (Str×NameKind)} {cs:List (Str×Addr)} {p:Str×Addr},p∈cs→p∈clo env l cs
  | [],_,_,h=>h
  | (n,k)::r,cs,p,h=>by
    unfold clo
    by_cases hk:k=.free
    · rw[if_pos hk]; exact clo_keep (List.mem_cons_of_mem _ h)
    · rw[if_neg hk]; exact clo_keep h
theorem clo_has {env:Env} : ∀{l:List (Str×NameKind)} {cs:List (Str×Addr)} {x:Str},(x,NameKind.free)∈l→(x,(env.cells.lookup x).getD 0)∈clo env l cs
  | [],_,_,h=>nomatch h
  | (n,k)::r,cs,x,h=>by
    unfold clo
    rcases List.mem_cons.mp h with q | q
    · cases q
      rw[if_pos rfl]
      exact clo_keep List.mem_cons_self
    · by_cases hk:k=.free
      · rw[if_pos hk]; exact clo_has q
      · rw[if_neg hk]; exact clo_has q
theorem lookup_of_mem {α:Type} : ∀{l:List (Str×α)} {x:Str} {v:α},(x,v)∈l→∃w,l.lookup x=some w
  | [],_,_,h=>nomatch h
  | (y,w)::r,x,v,h=>by
    cases hx:x == y with
    | true=>exact ⟨w,by simp[List.lookup_cons,hx]⟩
    | false =>
      rcases List.mem_cons.mp h with q | q
      · cases q
        simp at hx
      · obtain ⟨w',e⟩:=lookup_of_mem q
        exact ⟨w',by simp[List.lookup_cons,hx,e]⟩
theorem closure_go {env:Env} : ∀(l:List (Str×NameKind)) (cs:List (Str×Addr)),(∀y∈l,y.2=.free→∃c,env.cells.lookup y.1=some c) →
    (forIn l cs fun (x:Str×NameKind) (r:List (Str×Addr))=>(if (x.2 == NameKind.free)=true then do let a ←cellOf env x.1; pure (ForInStep.yield ((x.1,a)::r)) else pure (ForInStep.yield r) : Sem (ForInStep (List (Str×Addr)))))=pure (clo env l cs)
  | [],cs,_=>rfl
  | (n,k)::r,cs,h=>by
    rw[List.forIn_cons]
    by_cases hk:k=.free
    · subst hk
      obtain ⟨c,e⟩:=h (n,.free) List.mem_cons_self rfl
      have hc:cellOf env n=pure c:=by unfold cellOf; rw[e]
      have ih:=closure_go r ((n,c)::cs) fun y hy=>h y (List.mem_cons_of_mem _ hy)
      simp only[beq_self_eq_true,if_true,hc]
      unfold clo
      rw[if_pos rfl,e]
      exact ih
    · have hb : (k == NameKind.free) = false := by simpa using hk
      have ih:=closure_go r cs fun y hy=>h y (List.mem_cons_of_mem _ hy)
      simp only[hb,Bool.false_eq_true,if_false]
      unfold clo
      rw[if_neg hk]
      exact ih
theorem closure_ok {scope:Scope} {env:Env} (h:∀y∈scope.names,y.2=.free→∃c,env.cells.lookup y.1=some c) : closureFor scope env=pure (clo env scope.names []):=by
  unfold closureFor
  have:=closure_go scope.names [] h
  first
    | (rw[this]; rfl)
    | (refine Eq.trans ?_ this; rfl)
    | (simp only[this]; rfl)
theorem clo_sub {env:Env} {l:List (Str×NameKind)} (h:∀y∈l,y.2=.free→∃c,env.cells.lookup y.1=some c) {x:Str} {c:Addr} (e:(clo env l []).lookup x=some c) : env.cells.lookup x=some c:=by
  rcases clo_mem (mem_of_lookup e) with q | ⟨y,hy,e1,e2⟩
  · exact nomatch q
  · obtain ⟨c',ec⟩:=h y hy e1
    have e3:x=y.1:=congrArg Prod.fst e2
    have e4:c=(env.cells.lookup y.1).getD 0:=congrArg Prod.snd e2
    rw[ec] at e4
    rw[e3,ec,e4]
    rfl
theorem relabel_free {scope:Scope} {env:Env} {x:Str} : scope.names.lookup x=some .free→(relabel scope env).names.lookup x=some .cell∨(relabel scope env).names.lookup x=some .free:=by
  show scope.names.lookup x=some .free→(scope.names.map _).lookup x=_∨(scope.names.map _).lookup x=_
  induction scope.names with
  | nil=>intro h; simp at h
  | cons p r ih =>
    intro h
    obtain ⟨n,k⟩:=p
    rw[List.map_cons]
    cases hx:x == n with
    | true =>
      simp only[List.lookup_cons,hx] at h
      cases h
      dsimp only
      split
      · exact .inl (by simp[List.lookup_cons,hx])
      · exact .inr (by simp[List.lookup_cons,hx])
    | false =>
      simp only[List.lookup_cons,hx] at h
      dsimp only
      split<;>(simp only[List.lookup_cons,hx]; exact ih h)
theorem relabel_back {scope:Scope} {env:Env} {x:Str} (nc:∀y∈scope.names,y.2≠.cell) : ((relabel scope env).names.lookup x=some .cell∨(relabel scope env).names.lookup x=some .free)→scope.names.lookup x=some .free:=by
  show ((scope.names.map _).lookup x=_∨(scope.names.map _).lookup x=_)→_
  revert nc
  induction scope.names with
  | nil=>intro _ h; simp at h
  | cons p r ih =>
    intro nc h
    obtain ⟨n,k⟩:=p
    rw[List.map_cons] at h
    have ih':=ih (fun y hy=>nc y (List.mem_cons_of_mem _ hy))
    cases hx:x == n with
    | true =>
      simp only[List.lookup_cons,hx]
      dsimp only at h
      by_cases hc:(k == NameKind.free && env.scope.kind == .function && env.kindOf n == some .cell)=true
      · simp only[Bool.and_eq_true] at hc
        have:k=.free:=by simpa using hc.1.1
        rw[this]
      · rw[if_neg hc] at h
        simp only[List.lookup_cons,hx] at h
        rcases h with h | h
        · cases h; exact absurd rfl (nc (n,.cell) List.mem_cons_self)
        · exact h
    | false =>
      simp only[List.lookup_cons,hx]
      dsimp only at h
      refine ih' ?_
      by_cases hc:(k == NameKind.free && env.scope.kind == .function && env.kindOf n == some .cell)=true
      · rw[if_pos hc] at h
        simpa only[List.lookup_cons,hx] using h
      · rw[if_neg hc] at h
        simpa only[List.lookup_cons,hx] using h
theorem Un.but {fs ex:List Addr} {H H':Hp} {h h1 h2:Heap} {C:Addr} (u:Un fs ex H H' h h1) (sb:Heap.SameBut C h1 h2) (hC:h.objs.size≤C) : Un fs ex H H' h h2:=by
  have ne:∀b o,h.get? b=some o→b≠C:=fun b o e=>Nat.ne_of_lt (Nat.lt_of_lt_of_le (Heap.lt_size e) hC)
  refine ⟨fun b o e n hb hx=>(sb.2 b (ne b o e)).trans (u.keep b o e n hb hx),fun b o e n hb hx=>?_,u.free,fun b o e hx=>?_,u.tups,u.frzs,u.tbls⟩
  · obtain ⟨sl,q⟩:=u.slot b o e n hb hx
    exact ⟨sl,(sb.2 b (ne b o e)).trans q⟩
  · obtain ⟨o',q⟩:=u.there b o e hx
    exact ⟨o',(sb.2 b (ne b o e)).trans q⟩
theorem HOk.but {P:Program} {w:World} {H:Hp} {h1 h2:Heap} {C:Addr} (x:HOk P w H h1) (hC:H C=none) (sb:Heap.SameBut C h1 h2) : HOk P w H h2:=fun b ob e=>by
  refine (x b ob e).stay (fun c w' hc q=>(sb.2 c ?_).trans q) (fun _ q=>q) fun _ _ q=>q
  rintro rfl
  rcases hc with rfl | hc
  · rw[hC] at e; cases e
  · rw[hC] at hc; cases hc
def frSt (fr:List (Option Nat)) (σ:St) : St:=fr.map fun o=>match o with | none=>none | some j=>(σ[j]?).getD none
theorem frSt_get {fr:List (Option Nat)} {σ:St} {i:Nat} {v:V} (e:(frSt fr σ)[i]?=some (some v)) : ∃j,fr[i]?=some (some j)∧σ[j]?=some (some v):=by
  unfold frSt at e
  rw[List.getElem?_map] at e
  cases q:fr[i]? with
  | none=>rw[q] at e; cases e
  | some o =>
    rw[q] at e
    cases o with
    | none=>cases e
    | some j =>
      refine ⟨j,rfl,?_⟩
      have e':(σ[j]?).getD none=some v:=Option.some.inj e
      cases r:σ[j]? with
      | none=>rw[r] at e'; cases e'
      | some y=>rw[r] at e'; rw[←e']; rfl
section
variable {X:Cx} {pins:List (Addr×Obj)} {σ:St} {H:Hp} {s:Shared}
theorem blk_ok {scope:Scope} {N':List Str} {fr:List (Option Nat)} {fp:List Addr} (I:Inv X pins σ H s) (S:CompSc X.env.scope X.N scope N' fr) (hf:∀b∈fp,FpOk X pins H b) (ho:∀b∈fp,∃o,s.heap.get? b=some o) :
    (blk X scope N' (clo X.env scope.names []) fp s.heap.objs.size s H).Ok:=by
  have has:∀y∈scope.names,y.2=.free→∃c,X.env.cells.lookup y.1=some c:=fun y hy hk=>I.ok.has y.1 (S.frees y hy hk)
  refine ⟨I.ok.mod,S.kind,I.ok.glob,I.ok.blt,Nat.le_refl _,fun x y c e1 e2=>I.ok.inj x y c (clo_sub has e1) (clo_sub has e2),fun x hx=>?_,fun x c hx=>(nomatch hx),I.ok.hd,I.ok.frames,.inl rfl,fun b hb=>⟨?_,fun x c e=>(hf b hb).2.2.2.2.1 x c (clo_sub has e)⟩,I.bs,Nat.le_trans I.ok.bsz I.sz,fun b o e hb=>?_,fun b hb hz=>?_,I.stack,I.stkFree⟩
  · have q:=relabel_back (env:=X.env) S.nocell (x:=x) hx
    exact lookup_of_mem (clo_has (mem_of_lookup q))
  · obtain ⟨o,e⟩:=ho b hb
    exact Nat.ne_of_lt (Heap.lt_size e)
  · rcases (hf b hb).2.2.2.1 with z | z
    · exact I.ok.noex b o e z
    · exact absurd (Nat.lt_of_lt_of_le (Heap.lt_size e) (Nat.le_trans I.ok.bsz z)) (Nat.lt_irrefl _)
  · rcases List.mem_cons.mp (I.stkSub b hz) with z | z
    · exact (hf b hb).2.1 z
    · exact (hf b hb).2.2.1 z
theorem blk_start {scope:Scope} {N':List Str} {fr:List (Option Nat)} {fp:List Addr} {h₁:Heap} {m₁:Str→Option Value} {tk:Nat} (I:Inv X pins σ H s) (S:CompSc X.env.scope X.N scope N' fr) (hf:∀b∈fp,FpOk X pins H b) (ho:∀b∈fp,∃o,s.heap.get? b=some o)
    (hn:h₁.Ns s.heap.objs.size m₁) (hk:∀b o,s.heap.get? b=some o→h₁.get? b=some o) :
    Inv (blk X scope N' (clo X.env scope.names []) fp s.heap.objs.size s H) [] (frSt fr σ) H { s with heap:=h₁,toks:=tk }:=by
  have has:∀y∈scope.names,y.2=.free→∃c,X.env.cells.lookup y.1=some c:=fun y hy hk=>I.ok.has y.1 (S.frees y hy hk)
  have cellK:∀c v,s.heap.IsCell c v→h₁.IsCell c v:=fun c v ⟨o,e,d⟩=>⟨o,hk c o e,d⟩
  refine ⟨blk_ok I S hf ho,rfl,I.bare,Un.kept hk,⟨m₁,hn,fun i x v e1 e2 e3=>?_⟩,fun x c e=>?_,I.hok.fresh (Nat.le_refl _),fun x c e=>I.freeC x c (clo_sub has e),fun p hp=>(nomatch hp),I.hok.kept hk,?_⟩
  · obtain ⟨j,q1,q2⟩:=frSt_get e2
    obtain ⟨z1,z2,z3⟩:=S.fix i j x q1 e1
    obtain ⟨m,hm,hl⟩:=I.loc
    obtain ⟨u,ru,lk⟩:=hl j x v z1 q2 (.inr z3)
    refine ⟨u,ru,.inr ⟨relabel_free (env:=X.env) z2,?_⟩⟩
    rcases lk with ⟨k,_⟩ | ⟨k,c,e,z⟩
    · have k':X.env.scope.names.lookup x=some .local:=k
      rcases z3 with z3 | z3<;>(rw[z3] at k'; cases k')
    · obtain ⟨c',ec⟩:=lookup_of_mem (clo_has (env:=X.env) (cs:=[]) (mem_of_lookup z2))
      have:=clo_sub has ec
      rw[e] at this
      cases this
      exact ⟨c,ec,cellK c _ z⟩
  · obtain ⟨v,z⟩:=I.cell x c (clo_sub has e)
    exact ⟨v,cellK c v z⟩
  · show (frSt fr σ).length=N'.length
    unfold frSt
    rw[List.length_map]
    exact S.len
end
def PIfs (X:Cx) (ifs:List Expr) (t:TT) : Prop:=
  ∀(pins:List (Addr×Obj)) (s:Shared) (σ:St) (H:Hp) (Q:Bool→Hp→Prop),Inv X pins σ H s→t σ H Q →
    wpAny (model X.prog X.w) X.A (forIn ifs true fun c r=>if r=true then do let ok ←isTrue c X.env (eval c X.env); pure (ForInStep.yield ok) else pure (ForInStep.yield r)) (TP X pins σ Q) X.xe s
def tTrue:TT:=fun _ H Q=>Q true H
theorem pifs_nil {X:Cx} : PIfs X [] tTrue:=fun _ _ _ H _ I h=>wpAny_tests_nil ⟨H,I,h⟩
section
variable {prog:Program} {w:World} {A:Around} {R:Result→Shared→Prop} {s:Shared}
theorem compLoop_go {elt target iter:Expr} {ifs:List Expr} {scope:Scope} {pos:Pos} {it acc:Value} {env:Env} (I:Nat→Shared→Prop)
    (turn:∀n s,I n s→wpAny (model prog w) A (pyNext it) (fun r s₁=>match r with
      | none=>R (.ok .next) s₁
      | some v=>wpAny (model prog w) A (letOwnedTupleGo target it v) (fun _ s₁'=>wpAny (model prog w) A (assign target env v) (fun _ s₂ =>
          wpAny (model prog w) A (forIn ifs true fun c r=>if r=true then do let ok ←isTrue c env (eval c env); pure (ForInStep.yield ok) else pure (ForInStep.yield r)) (fun ok s₃ =>
            if ok=true then wpAny (model prog w) A (eval elt env) (fun x s₄ =>
              wpAny (model prog w) A (call (.builtin "list.append") [acc,x]) (fun _ s₅=>∃m,m<n∧I m s₅) (fun _ _=>False) s₄) (fun _ _=>False) s₃
            else ∃m,m<n∧I m s₃) (fun _ _=>False) s₂) (fun _ _=>False) s₁') (fun _ _=>False) s₁) (fun _ _=>False) s)
    (n:Nat) (h:I n s) :
    codeAny (model prog w) A (.compLoop (.ListComp elt [⟨target,iter,ifs,0⟩] scope pos) 0 it acc env) R s:=by
  refine codeAny_loop rfl I (fun n s hI=>?_) n h
  show wpAny _ A ((compTurn (.ListComp elt [⟨target,iter,ifs,0⟩] scope pos) 0 it acc env).onRaise (fun x=>do noteFrame x env; theTreesLotGoes x)) _ _ s
  refine wpAny_noted ?_
  rw[compTurn_list]
  refine wpAny_mono (E:=fun _ _=>False) ?_ (fun _ _ q=>q) (fun _ _ f=>f.elim)
  refine wpAny_bind (wpAny_standAt (wpAny_bind (wpAny_mono (turn n s hI) (fun r s₁ h₁=>?_) fun _ _ h'=>h')))
  cases r with
  | none=>exact wpAny_pure h₁
  | some v =>
    refine wpAny_bind (wpAny_mono h₁ (fun _ s₁' h₁'=>?_) fun _ _ h'=>h')
    refine wpAny_bind (wpAny_mono h₁' (fun _ s₂ h₂=>wpAny_bind (wpAny_mono h₂ (fun ok s₃ h₃=>?_) fun _ _ h'=>h')) fun _ _ h'=>h')
    cases ok with
    | false=>exact wpAny_pure ⟨rfl,h₃⟩
    | true =>
      exact wpAny_bind (wpAny_bind (wpAny_mono h₃ (fun x s₄ h₄=>wpAny_bind (wpAny_mono h₄ (fun _ s₅ h₅=>wpAny_pure (wpAny_pure ⟨rfl,h₅⟩)) fun _ _ h'=>h')) fun _ _ h'=>h'))
end
def LcW (J:It) (D:Addr) (g:TG) (tc:TT) (te:TE) (Q:Hp→Prop) (σ0:St) (H0:Hp) : Prop:=
  ∃W:Nat→Nat→List V→St→Hp→Prop,(∃m,W 0 m [] σ0 H0)∧∀i m ys σ H,W i m ys σ H →
    ((J.stop i H∧Q H)∨(J.go i H∧∃N:List V→St→Hp→Prop,(∀ys' σ' H',N ys' σ' H'→∃m',m'<m∧W (i+1) m' ys' σ' H')∧∀x H',J.yld i H x H'→g x σ H' fun σ2 H2=>tc σ2 H2 fun b H3 =>
      if b=true then te σ2 H3 fun v H4=>H4 D=some (.lst ys)∧ys.length<sizeLine∧N (ys++[v]) σ2 (upd H4 D (.lst (ys++[v])))
      else N ys σ2 H3))
def tLC (wi:TI) (fr:List (Option Nat)) (g:TG) (tc:TT) (te:TE) : TE:=fun σ H Q=>wi σ H fun J H1=>∀D,H1 D=none→LcW J D g tc te (Q (.ref D)) (frSt fr σ) (upd H1 D (.lst []))
theorem blk_loop {X:Cx} {tg iter elt:Expr} {ifs:List Expr} {scope:Scope} {pos:Pos} {g:TG} {tc:TT} {te:TE} {fp:List Addr} {it D:Addr} {tn:Nat→Heap→Prop} {J:It} {Q:Hp→Prop} {σ0:St} {H0:Hp} {s:Shared} {R:Result→Shared→Prop}
    (hxe:X.xe=fun _ _=>False) (hc:X.calm=true) (hpn:X.pn = []) (hex:X.ex=fp) (hg:PG X tg g) (ht:PIfs X ifs tc) (he:PE X elt te) (T:Turn X.prog X.w X.K tg J fp it tn)
    (hf:∀b∈fp,b≠X.env.locals∧b∉X.fs∧∀x c,X.env.cells.lookup x=some c→c≠b) (hW:LcW J D g tc te Q σ0 H0) (B:Inv X [] σ0 H0 s) (st:tn 0 s.heap) (fr:∀b∈fp,H0 b=none)
    (fin:∀σ H s',Inv X [] σ H s'→Q H→R (.ok .next) s') :
    codeAny (model X.prog X.w) X.A (.compLoop (.ListComp elt [⟨tg,iter,ifs,0⟩] scope pos) 0 (.ref it) (.ref D) X.env) R s:=by
  obtain ⟨W,⟨m0,w0⟩,turn⟩:=hW
  have stat:∀{H':Hp},(∀b∈fp,H' b=none)→∀b∈fp,FpOk X [] H' b:=fun {H'} hn b hb =>
    ⟨hn b hb,(hf b hb).1,(hf b hb).2.1,.inl (by rw[hex]; exact hb),(hf b hb).2.2,fun p hp=>by rw[hpn] at hp; exact nomatch hp⟩
  refine compLoop_go (fun n s'=>∃i ys σ' H',Inv X [] σ' H' s'∧tn i s'.heap∧(∀b∈fp,H' b=none)∧W i n ys σ' H') ?_ m0 ⟨0,[],σ0,H0,B,st,fr,w0⟩
  rintro n s3 ⟨i,ys,σ3,H3,I3,st3,fr3,w3⟩
  rcases turn i n ys σ3 H3 w3 with ⟨stop,qn⟩ | ⟨go,N,hN,step⟩
  · refine thn (T.done X rfl rfl rfl hc i [] s3 σ3 H3 _ I3 (stat fr3) st3 stop) fun r s4 ⟨hr,I4⟩=>?_
    subst hr
    exact fin σ3 H3 s4 I4 qn
  · refine thn (T.item X rfl rfl rfl hc i [] s3 σ3 H3 _ I3 (stat fr3) st3 go) fun r s4 ⟨u,hr,h4⟩=>?_
    subst hr
    refine thn h4 fun _ s5 ⟨x,H5,I5,r5,y5,st5,fr5⟩=>?_
    have I5':=I5.pinned (stat fr5) (T.obj _ _ st5)
    have q1:=hg _ s5 σ3 H5 x u _ I5' r5 (step x H5 y5)
    rw[hxe] at q1
    refine thn q1 fun _ s6 ⟨σ6,H6,I6,q6⟩=>?_
    have q2:=ht _ s6 σ6 H6 _ I6 q6
    rw[hxe] at q2
    refine thn q2 fun ok s7 ⟨H7,I7,q7⟩=>?_
    have again:∀{ys':List V} {σ8:St} {H8:Hp} {s8:Shared},Inv X ([]++pinsAt fp s5.heap) σ8 H8 s8→N ys' σ8 H8→∃m,m<n∧∃i ys σ' H',Inv X [] σ' H' s8∧tn i s8.heap∧(∀b∈fp,H' b=none)∧W i m ys σ' H':=fun {ys' σ8 H8 s8} I8 n8=>by
      obtain ⟨m',hm,w8⟩:=hN ys' σ8 H8 n8
      refine ⟨m',hm,i+1,ys',σ8,H8,I8.unpinned,T.keep _ _ _ st5 fun b hb o e=>(I8.pin (b,o) (List.mem_append_right _ (List.mem_append_right _ (mem_pinsAt hb e)))).1,fun b hb=>?_,w8⟩
      obtain ⟨o,e,d⟩:=T.obj _ _ st5 b hb
      exact (I8.pin (b,o) (List.mem_append_right _ (List.mem_append_right _ (mem_pinsAt hb e)))).2.1
    cases ok with
    | false=>exact again I7 q7
    | true =>
      have q3:=he _ s7 σ6 H7 _ I7 q7
      rw[hxe] at q3
      show wpAny _ _ (eval elt X.env) _ _ s7
      refine thn q3 fun xv s8 ⟨v,H8,I8,r8,hD8,hz8,n8⟩=>?_
      have q4:=mt_append (X:=X) _ s8 σ6 H8 (.ref D) [v] (.ref D) [xv] (fun _ H9=>N (ys++[v]) σ6 H9) I8 rfl (.cons r8 .nil) ⟨D,ys,v,rfl,rfl,hD8,hz8,n8⟩
      rw[hxe] at q4
      refine thn q4 fun _ s9 ⟨_,H9,I9,_,n9⟩=>?_
      exact again I9 n9
section
variable {X:Cx} {tg iter elt:Expr} {ifs:List Expr} {scope:Scope} {pos:Pos} {wi:TI} {g:TG} {tc:TT} {te:TE}
theorem blk_run {pins:List (Addr×Obj)} {σ:St} {H2:Hp} {s2:Shared} {it:Addr} {fp:List Addr} {tn:Nat→Heap→Prop} {J:It} {Q:Addr→Hp→Prop} {N':List Str} {fr:List (Option Nat)} {RR:Value→Addr→Result→Shared→Prop}
    (hc:X.calm=true) (S:CompSc X.env.scope X.N scope N' fr)
    (hg:∀cl fp C s H,PG (blk X scope N' cl fp C s H) tg g) (ht:∀cl fp C s H,PIfs (blk X scope N' cl fp C s H) ifs tc) (he:∀cl fp C s H,PE (blk X scope N' cl fp C s H) elt te)
    (I2:Inv X pins σ H2 s2) (T:Turn X.prog X.w X.K tg J fp it tn) (st2:tn 0 s2.heap) (f2:∀b∈fp,FpOk X pins H2 b)
    (h:∀D,H2 D=none→LcW J D g tc te (Q D) (frSt fr σ) (upd H2 D (.lst [])))
    (fin:∀D C s' m' H',s2.heap.objs.size≤C→C≠D→H' C=none→s'.heap.Ns C m'→(∀h',Heap.SameBut C s'.heap h'→Inv X pins σ H' { s' with heap:=h' })→Q D H'→RR (.ref D) C (.ok .next) s') {E:Value→Shared→Prop} :
    wpAny (model X.prog X.w) X.A (newList []) (fun acc s₃=>wpAny (model X.prog X.w) X.A (newFunctionEnv scope X.env.globals (clo X.env scope.names []) [] X.env.qual none .none (some X.env)) (fun cenv s₄ =>
      codeAny (model X.prog X.w) X.A (.compStart (.ListComp elt [⟨tg,iter,ifs,0⟩] scope pos) 0 (.ref it) acc { cenv with scope:=relabel scope X.env }) (RR acc cenv.locals) s₄) E s₃) E s2:=by
  refine wpAny_newObj_type (wpAny_newFunctionEnv S.nocell (by intro y hy; simp at hy) (fun h₁ hns₁ hsb₁=>?_) S.kind)
  dsimp only at hns₁ hsb₁ ⊢
  have hD:H2 s2.heap.objs.size=none:=I2.hok.fresh (Nat.le_refl _)
  have I3:Inv X pins σ (upd H2 s2.heap.objs.size (.lst [])) { s2 with heap:=s2.heap.push { cls:=.type "list",dict:=none,data:=.seq ([] : List Value).toArray },toks:=s2.toks }:=I2.lnew (its:=[]) .nil (Nat.zero_le _)
  generalize hH2:s2.heap.push { cls:=.type "list",dict:=none,data:=.seq ([] : List Value).toArray }=HH at hns₁ hsb₁ I3 ⊢
  have hC:HH.objs.size=s2.heap.objs.size+1:=by rw[←hH2,Heap.size_push]
  have old:∀b o,HH.get? b=some o→h₁.get? b=some o:=fun b o e=>hsb₁.extBut b o (Nat.ne_of_lt (Heap.lt_size e)) (Heap.get?_push_of_some _ e)
  have old2:∀b o,s2.heap.get? b=some o→HH.get? b=some o:=fun b o e=>hH2 ▸ Heap.get?_push_of_some _ e
  have ofp:∀b∈fp,∃o,s2.heap.get? b=some o:=fun b hb=>by
    obtain ⟨o,e,_⟩:=T.obj _ _ st2 b hb
    exact ⟨o,e⟩
  have neD:∀b∈fp,b≠s2.heap.objs.size:=fun b hb=>by
    obtain ⟨o,e⟩:=ofp b hb
    exact Nat.ne_of_lt (Heap.lt_size e)
  have f3:∀b∈fp,FpOk X pins (upd H2 s2.heap.objs.size (.lst [])) b:=fun b hb=>⟨by rw[upd_ne (neD b hb)]; exact (f2 b hb).1,(f2 b hb).2⟩
  have ofp3:∀b∈fp,∃o,HH.get? b=some o:=fun b hb=>by
    obtain ⟨o,e⟩:=ofp b hb
    exact ⟨o,old2 b o e⟩
  have B:=blk_start (h₁:=h₁) (tk:=s2.toks+([] : List (Str×Value)).length) I3 S f3 ofp3 hns₁ old
  have st1:tn 0 h₁:=T.keep _ _ _ st2 fun b hb o e=>old b o (old2 b o e)
  have loop:codeAny (model X.prog X.w) X.A (.compLoop (.ListComp elt [⟨tg,iter,ifs,0⟩] scope pos) 0 (.ref it) (.ref s2.heap.objs.size) (compEnvC scope (clo X.env scope.names []) HH.objs.size X.env))
      (RR (.ref s2.heap.objs.size) HH.objs.size) { s2 with heap:=h₁,toks:=s2.toks+([] : List (Str×Value)).length }:=by
    refine blk_loop (X:=blk X scope N' (clo X.env scope.names []) fp HH.objs.size { s2 with heap:=HH,toks:=s2.toks } (upd H2 s2.heap.objs.size (.lst []))) (fp:=fp) rfl hc rfl rfl (hg _ _ _ _ _) (ht _ _ _ _ _) (he _ _ _ _ _) T
      (fun b hb=>⟨(B.ok.exf b hb).1,B.ok.exfs b hb,(B.ok.exf b hb).2⟩) (h _ hD) B st1 (fun b hb=>(f3 b hb).1) fun σ4 H4 s4 I4 q4=>?_
    obtain ⟨m4,hn4,_⟩:=I4.loc
    refine fin _ HH.objs.size s4 m4 H4 (by rw[hC]; exact Nat.le_succ _) (by rw[hC]; exact Nat.succ_ne_self _) I4.free hn4 (fun h' sb=>?_) q4
    have u4:Un (frs X.stack) fp (upd H2 s2.heap.objs.size (.lst [])) H4 HH s4.heap:=I4.base
    exact I3.call' (s':={ s4 with heap:=h' }) I4.os (u4.but sb (Nat.le_refl _)) (I4.hok.but I4.free sb) I4.bare fun b hb=>⟨(f2 b hb).2.2.2.1,(f2 b hb).2.1,(f2 b hb).2.2.2.2.1,(f2 b hb).2.2.2.2.2⟩
  exact codeAny_compStart_list loop (T.self _ 0 _ _ _ st1 loop)
theorem pe_lc (N':List Str) (fr:List (Option Nat)) (hc:X.calm=true) (hi:PI X tg iter wi)
    (hg:∀cl fp C s H,PG (blk X scope N' cl fp C s H) tg g) (ht:∀cl fp C s H,PIfs (blk X scope N' cl fp C s H) ifs tc) (he:∀cl fp C s H,PE (blk X scope N' cl fp C s H) elt te)
    {sc0:Scope} {N0:List Str} (hsc:X.env.scope=sc0:=by rfl) (hN:X.N=N0:=by rfl) (hok:compScB sc0 N0 scope N' fr=true:=by decide +kernel) (hs:∀x,foldedSetIterable iter X.env x=pure x:=by intro _; rfl) :
    PE X (.ListComp elt [⟨tg,iter,ifs,0⟩] scope pos) (tLC wi fr g tc te):=by
  intro pins s σ H Q I h
  have S:CompSc X.env.scope X.N scope N' fr:=by rw[hsc,hN]; exact compSc_of hok
  have has:∀y∈scope.names,y.2=.free→∃c,X.env.cells.lookup y.1=some c:=fun y hy hk=>I.ok.has y.1 (S.frees y hy hk)
  rw[eval_ListComp]
  refine wpAny_comprehension_free (use:=none) rfl hs (closure_ok has) S.kind S.names (thn (hi pins s σ H _ I h) fun v s1 h1=>thn h1 fun itv s2 h2=>?_)
  obtain ⟨it,fp,tn,J,H2,rfl,I2,T,st2,f2,w2⟩:=h2
  refine blk_run (Q:=fun D=>Q (.ref D)) (RR:=fun acc C=>compPost (model X.prog X.w) X.A X.xe none (EP X pins σ Q) acc C) hc S hg ht he I2 T st2 f2 w2 fun D C s' m' H' h1 h2 h3 h4 h5 q=>?_
  exact ⟨m',h4,fun h' sb=>⟨.ref D,H',h5 h' sb,rfl,q⟩⟩
def tSetLC (i:Nat) (t:TE) : TS:=fun D σ H=>t σ H fun v H1=>D.nx (σ.set i (some v)) H1
theorem ps_setLC {i:Nat} {y:Str} {py spos:Pos} (hNd:X.N.Nodup) (hy:X.N[i]?=some y) (hly:Loc X.env.scope y) (N':List Str) (fr:List (Option Nat)) (hc:X.calm=true) (hi:PI X tg iter wi)
    (hg:∀cl fp C s H,PG (blk X scope N' cl fp C s H) tg g) (ht:∀cl fp C s H,PIfs (blk X scope N' cl fp C s H) ifs tc) (he:∀cl fp C s H,PE (blk X scope N' cl fp C s H) elt te)
    {sc0:Scope} {N0:List Str} (hsw:swapsWith (.ListComp elt [⟨tg,iter,ifs,0⟩] scope pos) (some (.Name y py)) spos.line X.env=pure true:=by rfl)
    (hsc:X.env.scope=sc0:=by rfl) (hN:X.N=N0:=by rfl) (hok:compScB sc0 N0 scope N' fr=true:=by decide +kernel) (hs:∀x,foldedSetIterable iter X.env x=pure x:=by intro _; rfl)
    (hf:X.fn y=true∨X.env.scope.names.lookup y=some .local:=by first | exact .inl rfl | exact .inr rfl) :
    PS X (.Assign [.Name y py] (.ListComp elt [⟨tg,iter,ifs,0⟩] scope pos) spos) (tSetLC i (tLC wi fr g tc te)):=by
  intro pins s σ H D I h
  have S:CompSc X.env.scope X.N scope N' fr:=by rw[hsc,hN]; exact compSc_of hok
  have has:∀y∈scope.names,y.2=.free→∃c,X.env.cells.lookup y.1=some c:=fun y hy hk=>I.ok.has y.1 (S.frees y hy hk)
  rw[exec_Assign_Name_used _ _ _ _ hsw]
  refine wpAny_bind (wpAny_standAt (wpAny_bind ?_))
  show wpAny _ X.A (do let _ ←comprehension (.ListComp elt [⟨tg,iter,ifs,0⟩] scope pos) scope X.env _ (newList []) false (eval iter X.env) (some (assign (.Name y py) X.env))) _ _ s
  refine wpAny_bind (wpAny_mono (wpAny_comprehension_free (use:=some (assign (.Name y py) X.env)) (Q:=fun _ s'=>SP X pins D .next s') rfl hs (closure_ok has) S.kind S.names
    (thn (hi pins s σ H _ I h) fun v s1 h1=>thn h1 fun itv s2 h2=>?_)) (fun _ s' hq=>wpAny_pure (wpAny_pure hq)) fun _ _ e=>e)
  obtain ⟨it,fp,tn,J,H2,rfl,I2,T,st2,f2,w2⟩:=h2
  refine blk_run (Q:=fun B H1=>D.nx (σ.set i (some (.ref B))) H1) (RR:=fun acc C=>compPost (model X.prog X.w) X.A X.xe (some (assign (.Name y py) X.env)) (fun _ s'=>SP X pins D .next s') acc C) hc S hg ht he I2 T st2 f2 w2 fun B C s' m' H' h1 h2 h3 h4 h5 q=>?_
  have I5:Inv X pins σ H' { s' with heap:=s'.heap }:=h5 s'.heap (.refl ..)
  show wpAny _ X.A (assign (.Name y py) X.env (.ref B)) _ _ s'
  refine wpAny_assign_Name (store_ok2 (v:=.ref B) I5 hNd hy hly rfl (fun s6 I6 ⟨a,sb,ha⟩=>?_) hf)
  have nL:C≠X.env.locals:=Nat.ne_of_gt (Nat.lt_of_lt_of_le I2.lt h1)
  have nC:∀x c,X.env.cells.lookup x=some c→c≠C:=fun x c e=>by
    obtain ⟨v,o,ho,_⟩:=I2.cell x c e
    exact Nat.ne_of_lt (Nat.lt_of_lt_of_le (Heap.lt_size ho) h1)
  have nP:∀p∈X.pn++pins,p.1≠C:=fun p hp=>by
    have e:=(I2.pin p hp).1
    exact Nat.ne_of_lt (Nat.lt_of_lt_of_le (Heap.lt_size e) h1)
  have na:a≠C:=by
    rcases ha with e | e
    · rw[e]; exact nL.symm
    · exact nC _ _ e
  refine ⟨m',h4.sameBut sb (Ne.symm na),fun h' sb'=>⟨σ.set i (some (.ref B)),H',?_,q⟩⟩
  exact I6.turned (t':=s6.toks) (fun b o hb e=>(sb'.2 b hb).trans e) h3 nL (.inr (Nat.le_trans I2.sz h1)) nC nP
end
end L2
namespace L2
open PySem PySem.Spec PyProof.Rows
section
variable {X:Cx}
def rSum (K:PySem.W.Frag) : List V→Hp→VK→Prop:=fun xs H Q=>∃(p:Addr) (ns:List Int),xs = [.ref p]∧SqL K H p (ns.map V.int)∧Q (.int ns.sum) H
theorem call_sumL (hc:X.calm=true) : CallR X (.builtin "sum") (rSum X.K):=by
  intro pins s σ H xs us Q I r h
  obtain ⟨p,ns,rfl,hp,q⟩:=h
  obtain ⟨u,rfl,ru⟩:=vals1 r
  cases ru
  obtain ⟨its,rv,pl,hz⟩:=I.list hp
  have hi:IntsAre its ns:=intsAre_of rv
  obtain ⟨zs,e⟩:=hi.allInts.items
  refine sum_intListG (I.ok.hd hc) (xs:=zs) (e ▸ pl.isList) fun h' tk t' hk=>⟨.int ns.sum,H,I.kept hk,⟨t',?_⟩,q⟩
  have e2:=congrArg Array.toList e
  have e3:numsOf (intItems zs).toList=ns:=by rw[←e]; exact hi.numsOf
  rw[nums_intItems] at e3
  rw[preSum_eq,List.take_of_length_le (by simp),e3]
def rLen (K:PySem.W.Frag) : List V→Hp→VK→Prop:=fun xs H Q=>∃x n,xs = [x]∧LenV K x H n∧Q (.int n) H
theorem call_lenK:CallR X (.builtin "len") (rLen X.K):=call_len
theorem small_len {n:Nat} (h:n≤1000) : n≤sizeLine:=Nat.le_of_lt (small1000 h)
def stepV {α:Type} (xs:List α) (lo hi st:Option Int) : List α:=(sliceRange (sliceBounds lo hi st xs.length).1 (sliceBounds lo hi st xs.length).2.1 (sliceBounds lo hi st xs.length).2.2).filterMap (fun j=>xs[j]?)
theorem vals_pick {xs:List V} {its:List Value} (r:Vals xs its) : ∀js:List Nat,Vals (js.filterMap fun j=>xs[j]?) (js.filterMap fun j=>its[j]?)
  | []=>.nil
  | j::js=>by
    rw[List.filterMap_cons,List.filterMap_cons]
    cases e:xs[j]? with
    | none=>rw[r.none_of e]; exact vals_pick r js
    | some x =>
      obtain ⟨u,e1,e2⟩:=r.get e
      rw[e1]
      exact .cons e2 (vals_pick r js)
theorem stepV_map {α β:Type} (f:α→β) (xs:List α) (lo hi st:Option Int) : stepV (xs.map f) lo hi st=(stepV xs lo hi st).map f:=by
  unfold stepV
  rw[List.length_map]
  generalize sliceRange _ _ _=js
  induction js with
  | nil=>rfl
  | cons j js ih =>
    rw[List.filterMap_cons,List.filterMap_cons,List.getElem?_map]
    cases xs[j]? with
    | none=>simpa using ih
    | some x=>simpa using ih
theorem stepV_len {xs:List V} {its:List Value} (r:Vals xs its) (lo hi st:Option Int) : (stepV xs lo hi st).length≤xs.length:=by
  have h:=slicePick_size_le its.toArray lo hi st
  have e:Vals (stepV xs lo hi st) (slicePick its.toArray lo hi st).toList:=by
    unfold stepV slicePick
    rw[show its.toArray.size=xs.length from r.length.symm]
    have:=vals_pick r (sliceRange (sliceBounds lo hi st xs.length).1 (sliceBounds lo hi st xs.length).2.1 (sliceBounds lo hi st xs.length).2.2)
    simpa using this
  have e1:=e.length
  have e2:=r.length
  rw[e1,Array.length_toList]
  have h3:its.toArray.size=its.length:=List.size_toArray
  lia
def tSlS (K:PySem.W.Frag) (te:TE) (tl th ts:TO) : TE:=fun σ H Q=>te σ H fun x H1=>tl σ H1 fun l H2=>th σ H2 fun u H3=>ts σ H3 fun st H4 =>
  ∃a xs,x=.ref a∧SqL K H4 a xs∧st≠some 0∧∀p,H4 p=none→Q (.ref p) (upd H4 p (.lst (stepV xs l u st)))
theorem pe_sliceS {e:Expr} {te:TE} {lo hi:Option Expr} {st:Expr} {tl th ts:TO} {p2 pos:Pos} (he:PE X e te) (hl:PO X lo tl) (hu:PO X hi th) (hs:PO X (some st) ts) : PE X (.Subscript e (.Slice lo hi (some st) p2) pos) (tSlS X.K te tl th ts):=by
  intro pins s σ H Q I h
  refine Subscript_ (thn (he pins s σ H _ I h) fun v s1 ⟨x,H1,I1,r1,q1⟩=>?_)
  refine wpAny_Slice (thn (hl pins s1 σ H1 _ I1 q1) fun vl s2 ⟨l,H2,I2,pl,q2⟩=>thn (hu pins s2 σ H2 _ I2 q2) fun vu s3 ⟨u,H3,I3,pu,q3⟩=>thn (hs pins s3 σ H3 _ I3 q3) fun vs s4 ⟨sv,H4,I4,ps,q4⟩=>?_)
  obtain ⟨a,xs,rfl,hx,h0,q⟩:=q4
  cases r1
  have I5:Inv X pins σ H4 { s4 with heap:=s4.heap.push { cls:=.type "slice",data:=.fields #[vl,vu,vs] } }:=I4.kept (t':=s4.toks) fun b ob q=>Heap.get?_push_of_some _ q
  obtain ⟨its,r,ht,hz⟩:=I5.list hx
  have hlen:=r.length
  have hg:wpAny (model X.prog X.w) X.A (getItem (.ref a) (.ref s4.heap.objs.size)) (EP X pins σ Q) X.xe { s4 with heap:=s4.heap.push { cls:=.type "slice",data:=.fields #[vl,vu,vs] } }:=by
    refine wpAny_getItem_list_slice ht.isList (Heap.IsSliceOf.new ..) pl pu ps h0 ?_ (by rw[List.size_toArray]<;>lia)
    refine ⟨.ref _,_,I5.laid (t':=s4.toks) (o:=.lst (stepV xs l u sv)) (fun b ob q=>Heap.get?_push_of_some _ q) (Nat.le_refl _) ?_,rfl,q _ (I5.hok.fresh (Nat.le_refl _))⟩
    refine ⟨Nat.le_trans (stepV_len r l u sv) hz,(slicePick its.toArray l u sv).toList,0,?_,?_⟩
    · unfold stepV slicePick
      rw[show its.toArray.size=xs.length from r.length.symm]
      have:=vals_pick r (sliceRange (sliceBounds l u sv xs.length).1 (sliceBounds l u sv xs.length).2.1 (sliceBounds l u sv xs.length).2.2)
      simpa using this
    · rw[Array.toArray_toList]
      exact Heap.get?_push_size _ rfl
  show wpAny (model X.prog X.w) X.A (subscriptTail e (.Slice lo hi (some st) p2) (.ref a) (.ref s4.heap.objs.size)) (EP X pins σ Q) X.xe { s4 with heap:=s4.heap.push { cls:=.type "slice",data:=.fields #[vl,vu,vs] } }
  exact tail_any (ops:=[.ref a,.ref s4.heap.objs.size]) ht.isList.typeIs slot_list_getitem.lookup hg (by with_unfolding_all rfl)
inductive EqT (K:PySem.W.Frag) (H:Hp) : Nat→V→V→Prop where
  | sc {n:Nat} {x:V} (f:flatV x=true) : EqT K H n x x
  | rf {n:Nat} {a:Addr} : EqT K H n (.ref a) (.ref a)
  | tup {n:Nat} {a b:Addr} {xs ys:List V} (h1:SqT K H a xs) (h2:SqT K H b ys) (hl:xs.length=ys.length) (h:∀(i:Nat) (x y:V),xs[i]?=some x→ys[i]?=some y→EqT K H n x y) : EqT K H (n+1) (.ref a) (.ref b)
  | lst {n:Nat} {a b:Addr} {xs ys:List V} (h1:SqL K H a xs) (h2:SqL K H b ys) (hl:xs.length=ys.length) (h:∀(i:Nat) (x y:V),xs[i]?=some x→ys[i]?=some y→EqT K H n x y) : EqT K H (n+1) (.ref a) (.ref b)
theorem eqV_self {x:V} (f:flatV x=true) : eqV x x=true:=by
  cases x with
  | non=>rfl
  | bl b=>simp[eqV]
  | int i=>simp[eqV]
  | str y=>simp[eqV]
  | byt b=>cases f
  | flt b=>cases f
  | ref a=>cases f
  | ty n=>cases f
theorem all_true (n:Nat) : (List.range n).all (fun _=>true)=true:=by simp
theorem EqT.at {pins:List (Addr×Obj)} {s:Shared} {σ:St} {H:Hp} (I:Inv X pins σ H s) : ∀{n:Nat} {x y:V},EqT X.K H n x y→∀{u v:Value} {A:Around},RelV x u→RelV y v→A.units+n<cLine→SeqAt.EqAt A s u v true:=by
  intro n x y h
  induction h with
  | @sc n x f =>
    intro u v A ru rv hu
    have:=eqAt_V (A:=A) (s:=s) ru rv f f
    rwa [eqV_self f] at this
  | @rf n a =>
    intro u v A ru rv hu
    cases ru; cases rv
    exact SeqAt.EqAt.same _
  | @tup n a b xs ys h1 h2 hl h ih =>
    intro u v A ru rv hu
    cases ru; cases rv
    by_cases hab:a=b
    · subst hab; exact SeqAt.EqAt.same _
    obtain ⟨is1,r1,t1,z1⟩:=I.tuple h1
    obtain ⟨is2,r2,t2,z2⟩:=I.tuple h2
    have l1:=r1.length
    have l2:=r2.length
    refine SeqAt.EqAt.of_refs hab ?_
    have:=SeqAt.RcAt.tuples (A:=A) (s:=s) (e:=fun _=>true) t1 t2 (by lia) (fun j q1 q2=>by
      have q1':j<is1.length:=by simpa using q1
      have q2':j<is2.length:=by simpa using q2
      have e1:xs[j]?=some xs[j]:=List.getElem?_eq_getElem (by lia)
      have e2:ys[j]?=some ys[j]:=List.getElem?_eq_getElem (by lia)
      obtain ⟨u1,g1,s1⟩:=r1.get e1
      obtain ⟨u2,g2,s2⟩:=r2.get e2
      have k1:is1.toArray[j]=u1:=by rw[List.getElem?_eq_getElem q1'] at g1; simpa using Option.some.inj g1
      have k2:is2.toArray[j]=u2:=by rw[List.getElem?_eq_getElem q2'] at g2; simpa using Option.some.inj g2
      rw[k1,k2]
      exact ih j _ _ e1 e2 s1 s2 (by show A.units+1+n<cLine; lia))
    have e:((List.range (min is1.toArray.size is2.toArray.size)).all (fun _=>true) && is1.toArray.size == is2.toArray.size)=true:=by
      rw[all_true,List.size_toArray,List.size_toArray,←l1,←l2,hl]; simp
    rwa [e] at this
  | @lst n a b xs ys h1 h2 hl h ih =>
    intro u v A ru rv hu
    cases ru; cases rv
    by_cases hab:a=b
    · subst hab; exact SeqAt.EqAt.same _
    obtain ⟨is1,r1,t1,z1⟩:=I.list h1
    obtain ⟨is2,r2,t2,z2⟩:=I.list h2
    have l1:=r1.length
    have l2:=r2.length
    refine SeqAt.EqAt.of_refs hab ?_
    have:=SeqAt.RcAt.lists (A:=A) (s:=s) (e:=fun _=>true) t1.isList t2.isList (by rw[List.size_toArray,List.size_toArray]; lia) (by lia) (fun j q1 q2=>by
      have q1':j<is1.length:=by simpa using q1
      have q2':j<is2.length:=by simpa using q2
      have e1:xs[j]?=some xs[j]:=List.getElem?_eq_getElem (by lia)
      have e2:ys[j]?=some ys[j]:=List.getElem?_eq_getElem (by lia)
      obtain ⟨u1,g1,s1⟩:=r1.get e1
      obtain ⟨u2,g2,s2⟩:=r2.get e2
      have k1:is1.toArray[j]=u1:=by rw[List.getElem?_eq_getElem q1'] at g1; simpa using Option.some.inj g1
      have k2:is2.toArray[j]=u2:=by rw[List.getElem?_eq_getElem q2'] at g2; simpa using Option.some.inj g2
      rw[k1,k2]
      exact ih j _ _ e1 e2 s1 s2 (by show A.units+1+n<cLine; lia))
    rwa [all_true] at this
end
end L2
namespace WS
abbrev S3:=Int×Int×Int
def mx (i j:Int) : Int:=if j>i then j else i
def above1 (b:S3) (L:Int) : Int:=b.2.2*mx 0 (b.2.1 - mx b.1 L)
def above (bs:List S3) (L:Int) : Int:=(bs.map fun b=>above1 b L).sum
def hotB (hs:List S3) : List S3:=hs.map fun x=>(x.2.1,x.1,x.2.2)
def coldB (g:Int) (cs:List S3) : List S3:=cs.map fun x=>(x.1+g,x.2.1+g,x.2.2)
def lackF (g:Int) (hs cs:List S3) (L:Int) : Int:=above (coldB g cs) L - above (hotB hs) L
structure HotOk (x:S3) : Prop where
  lo:0≤x.2.1
  lt:x.2.1<x.1
  hi:x.1≤200
  r0:1≤x.2.2
  r1:x.2.2≤1000000000
structure ColdOk (x:S3) : Prop where
  lo:0≤x.1
  lt:x.1<x.2.1
  hi:x.2.1≤200
  r0:1≤x.2.2
  r1:x.2.2≤1000000000
end WS
namespace L2
open PySem PySem.Spec PyProof.Rows
structure Fn (P:Program) (w:World) (K:PySem.W.Frag) (mg:Str→Option Value) (base:Heap) (x:Str) (k:Nat) (ps:List Str) (sp:Sp) : Prop where
  ex:∃f fd,FnOk P w K mg base CX0 k f fd ps sp∧mg x=some (.ref f)∧PySem.W.keepIn K (.ref f)=true∧Binds K fd ps []
theorem pe_fn {X:Cx} {x:Str} {k:Nat} {ps:List Str} {sp:Sp} {p pos:Pos} {e:Expr} {es:List Expr} {t:TA} (F:Fn X.prog X.w X.K X.mg X.base x k ps sp) (hr:Room k X.A) (hg:Gl X x) (ha:PA X (e::es) t)
    (hdb:(x == ("__debug__" : Str))=false:=by decide) (he:starEach (e::es) X.env=(false,eval e X.env)::starEach es X.env:=by rfl) (hpl:(backTo pos (starEach es X.env)).any (·.1)=false:=by rfl) :
    PE X (.Call (.Name x p) (e::es) [] pos) (tCall sp [] E0 t):=by
  obtain ⟨f,fd,G,hm,hk,hb⟩:=F.ex
  exact pe_call G hr hg hm hk hb .nil pass0 ha hdb he hpl
theorem fn_mk {P:Program} {w:World} {K:PySem.W.Frag} {mg:Str→Option Value} {base:Heap} {x qual:Str} {st:Stmt} {f:Addr} {fd:FuncData} {k:Nat} {ps:List Str} {sp:Sp} (F:Fun K x qual st f fd) (hm:mg x=some (.ref f)) (hb:Binds K fd ps []) (ok:FnOk P w K mg base CX0 k f fd ps sp) :
    Fn P w K mg base x k ps sp:=⟨f,fd,ok,hm,F.kp,hb⟩
theorem same_new {H:Hp} {a:Addr} {o:HO} (h:H a=none) : Same H (upd H a o):=fun b u e=>by
  rw[upd_ne (ne_of_none e h)]; exact e
theorem Same.upd {H H':Hp} {a:Addr} {o:HO} (s:Same H H') (h:H a=none) : Same H (upd H' a o):=fun b u e=>by
  rw[upd_ne (ne_of_none e h)]; exact s b u e
end L2
namespace WS
open PySem L2
def Tups (H H':Hp) : Prop:=∀b xs,H b=some (.tup xs)→H' b=some (.tup xs)
theorem Tups.of {H H':Hp} (s:Same H H') : Tups H H':=fun b xs e=>s b _ e
theorem paired_get {α β:Type} {F:α→β→Prop} : ∀{l:List α} {r:List β} {i:Nat} {a:α},Paired F l r→l[i]?=some a→∃b,r[i]?=some b∧F a b
  | _,_,_,_,.nil,e=>by simp at e
  | _,_,0,_,.cons h _,e=>by simp at e; subst e; exact ⟨_,rfl,h⟩
  | _,_,i+1,a,.cons _ t,e=>by
    obtain ⟨b,h1,h2⟩:=paired_get (i:=i) (a:=a) t (by simpa using e)
    exact ⟨b,by simpa using h1,h2⟩
theorem take_snoc {α:Type} {l:List α} {i:Nat} {x:α} (e:l[i]?=some x) : l.take (i+1)=l.take i++[x]:=by
  rw[List.take_add_one,e]; rfl
end WS
namespace L2
open PySem PySem.Spec PyProof.Rows
section
variable {X:Cx}
theorem bools_of:∀{bs:List Bool} {its:List Value},Vals (bs.map V.bl) its→its=bs.map Value.bool
  | [],_,.nil=>rfl
  | b::r,_,.cons e h=>by
    rw[show _=Value.bool b from e,bools_of h]
    rfl
theorem all_range (bs:List Bool) : (List.range bs.length).all (fun i=>bs.getD i true)=bs.all id:=by
  rw[Bool.eq_iff_iff,List.all_eq_true,List.all_eq_true]
  constructor
  · intro h b hb
    obtain ⟨i,hi,e⟩:=List.mem_iff_getElem.mp hb
    have:=h i (List.mem_range.mpr hi)
    rw[List.getD_eq_getElem?_getD,List.getElem?_eq_getElem hi] at this
    rw[←e]
    exact this
  · intro h i hi
    have hi':=List.mem_range.mp hi
    rw[List.getD_eq_getElem?_getD,List.getElem?_eq_getElem hi']
    exact h _ (List.getElem_mem hi')
def rAll (K:PySem.W.Frag) : List V→Hp→VK→Prop:=fun xs H Q=>∃(p:Addr) (bs:List Bool),xs = [.ref p]∧SqL K H p (bs.map V.bl)∧Q (.bl (bs.all id)) H
theorem call_allL (hc:X.calm=true) : CallR X (.builtin "all") (rAll X.K):=by
  intro pins s σ H xs us Q I r h
  obtain ⟨p,bs,rfl,hp,q⟩:=h
  obtain ⟨u,rfl,ru⟩:=vals1 r
  cases ru
  obtain ⟨its,rv,pl,hz⟩:=I.list hp
  have e:=bools_of rv
  subst e
  have hlt:p<s.heap.objs.size:=by obtain ⟨_,e,_⟩:=pl.isList; exact Heap.lt_size e
  have hh:X.A.in1.handled=none:=I.ok.hd hc
  refine call_all_walk (wpAny_pyIter_list pl.isList ?_)
  refine ⟨_,_,_,_,_,_,fun i=>bs.getD i true,rfl,Walks.list (A:=X.A.in1) hh s.heap.objs.size p (Nat.ne_of_lt hlt) (bs.map Value.bool).toArray,⟨⟨_,Heap.get?_push_size _ rfl,rfl,rfl⟩,pl.isList.push _⟩,?_,fun h' tk hk=>?_⟩
  · intro i v s' Q' E' hv hq
    have hv':(bs.map Value.bool)[i]?=some v:=by simpa using hv
    rw[List.getElem?_map] at hv'
    cases z:bs[i]? with
    | none=>rw[z] at hv'; cases hv'
    | some b =>
      rw[z] at hv'
      have e:v=Value.bool b:=(Option.some.inj hv').symm
      subst e
      have hq':Q' (bs.getD i true) s':=hq
      rw[List.getD_eq_getElem?_getD,z] at hq'
      exact wpAny_truthy_bool hq'
  · have e:(List.range (bs.map Value.bool).toArray.size).all (fun i=>bs.getD i true)=bs.all id:=by
      rw[List.size_toArray,List.length_map]
      exact all_range bs
    rw[e]
    refine ⟨.bl (bs.all id),H,I.kept (t':=tk) fun b o eb=>hk b o ?_ (Heap.get?_push_of_some _ eb),rfl,q⟩
    have:b≠s.heap.objs.size:=Nat.ne_of_lt (Heap.lt_size eb)
    simpa using this
def rNeT (K:PySem.W.Frag) (u:Nat) : R2:=fun x y H Q=>∃n a b xs ys,x=.ref a∧y=.ref b∧((SqT K H a xs∧SqT K H b ys)∨(SqL K H a xs∧SqL K H b ys))∧xs.length=ys.length ∧
  (∀(i:Nat) (x y:V),xs[i]?=some x→ys[i]?=some y→EqT K H n x y)∧u+1+n<cLine∧Q (.bl false) H
theorem op_neT:OpR X (compareOp .NotEq) (rNeT X.K X.A.units):=by
  intro pins s σ H x y v u Q I rx ry h
  obtain ⟨n,a,b,xs,ys,rfl,rfl,hh,hl,he,hu,q⟩:=h
  cases rx; cases ry
  rcases hh with ⟨h1,h2⟩ | ⟨h1,h2⟩
  · obtain ⟨is1,r1,t1,z1⟩:=I.tuple h1
    obtain ⟨is2,r2,t2,z2⟩:=I.tuple h2
    have l1:=r1.length
    have l2:=r2.length
    refine SeqAt.RcNeAt.tuples (A:=X.A) (s:=s) (e:=fun _=>true) t1 t2 (by lia) (fun j q1 q2=>?_) _ _ _ _ ?_
    · have q1' : j < is1.length := by simpa using q1
      have q2':j<is2.length:=by simpa using q2
      have e1:xs[j]?=some xs[j]:=List.getElem?_eq_getElem (by lia)
      have e2:ys[j]?=some ys[j]:=List.getElem?_eq_getElem (by lia)
      obtain ⟨u1,g1,s1⟩:=r1.get e1
      obtain ⟨u2,g2,s2⟩:=r2.get e2
      have k1:is1.toArray[j]=u1:=by rw[List.getElem?_eq_getElem q1'] at g1; simpa using Option.some.inj g1
      have k2:is2.toArray[j]=u2:=by rw[List.getElem?_eq_getElem q2'] at g2; simpa using Option.some.inj g2
      rw[k1,k2]
      exact (he j _ _ e1 e2).at I s1 s2 (by show X.A.units+1+n<cLine; lia)
    · have e:(!((List.range (min is1.toArray.size is2.toArray.size)).all (fun _=>true) && is1.toArray.size == is2.toArray.size))=false:=by
        rw[all_true,List.size_toArray,List.size_toArray,←l1,←l2,hl]; simp
      rw[e]
      exact ⟨.bl false,H,I,rfl,q⟩
  · obtain ⟨is1,r1,t1,z1⟩:=I.list h1
    obtain ⟨is2,r2,t2,z2⟩:=I.list h2
    have l1:=r1.length
    have l2:=r2.length
    refine SeqAt.RcNeAt.lists (A:=X.A) (s:=s) (e:=fun _=>true) t1.isList t2.isList (by rw[List.size_toArray,List.size_toArray]; lia) (by lia) (fun j q1 q2=>?_) _ _ _ _ ?_
    · have q1' : j < is1.length := by simpa using q1
      have q2':j<is2.length:=by simpa using q2
      have e1:xs[j]?=some xs[j]:=List.getElem?_eq_getElem (by lia)
      have e2:ys[j]?=some ys[j]:=List.getElem?_eq_getElem (by lia)
      obtain ⟨u1,g1,s1⟩:=r1.get e1
      obtain ⟨u2,g2,s2⟩:=r2.get e2
      have k1:is1.toArray[j]=u1:=by rw[List.getElem?_eq_getElem q1'] at g1; simpa using Option.some.inj g1
      have k2:is2.toArray[j]=u2:=by rw[List.getElem?_eq_getElem q2'] at g2; simpa using Option.some.inj g2
      rw[k1,k2]
      exact (he j _ _ e1 e2).at I s1 s2 (by show X.A.units+1+n<cLine; lia)
    · rw[all_true]
      exact ⟨.bl false,H,I,rfl,q⟩
end
end L2
namespace L2
open PySem PySem.Spec PyProof.Rows
section
variable {X:Cx} {pins:List (Addr×Obj)} {σ:St} {H:Hp} {s:Shared} {h':Heap}
theorem Inv.turnT {t':Nat} {wr:List Addr} {T:Addr} {us:List Value} {vs:List V} (I:Inv X pins σ H s) (hf:∀b∈wr,FpOk X pins H b) (k:∀b o,b∉wr→s.heap.get? b=some o→h'.get? b=some o) (hT:s.heap.objs.size≤T) (ht:h'.IsTuple T us.toArray) (r:Vals vs us) (hz:vs.length≤sizeLine) :
    Inv X pins σ (upd H T (.tup vs)) { s with heap:=h',toks:=t' }:=by
  have hn:H T=none:=I.hok.fresh hT
  have nit:∀b u,H b=some u→b∉wr:=fun b u e z=>by
    have:=(hf b z).1
    rw[this] at e; cases e
  refine I.step (g':=s.gens) (d':=s.drawn) (ch:=wr) (fun b hb=>⟨(hf b hb).2.2.2.1,(hf b hb).2.1,(hf b hb).2.2.2.2.1,(hf b hb).2.2.2.2.2⟩) (fun b o _ _ hc e _=>k b o hc e) (fun b o _ _ hc e _=>⟨o.slots,k b o hc e⟩)
    (fun b o hc e n=>?_) (fun b o hc e=>⟨o,k b o hc e⟩) (fun b xs e=>?_) (fun b o u e=>?_) (fun b ps e=>⟨#[],?_⟩) (fun m hm=>?_) (fun b u e=>?_) I.bare
  · rw[upd_ne (Nat.ne_of_lt (Nat.lt_of_lt_of_le (Heap.lt_size e) hT))]; exact n
  · rw[upd_ne (ne_of_none e hn)]; exact e
  · rw[upd_ne (ne_of_none e hn)]; exact e
  · rw[upd_ne (ne_of_none e hn)]; simpa using e
  · obtain ⟨o,es,ep,ho,r⟩:=hm
    exact ⟨o,es,ep,k _ o (fun z=>(hf _ z).2.1 rfl) ho,r⟩
  · by_cases hb:b=T
    · subst hb
      rw[upd_same] at e
      cases e
      exact ⟨hz,us,r,ht⟩
    · rw[upd_ne hb] at e
      refine (I.hok b u e).stay (fun c v hc q=>k c v ?_ q) (fun c q=>by rw[upd_ne (ne_of_none q hn)]; exact q) fun c xs q=>by rw[upd_ne (ne_of_none q hn)]; exact q
      rcases hc with z | z
      · rw[z]; exact nit b u e
      · exact nit c _ z
theorem Inv.turnedL {t':Nat} {wr:List Addr} (I:Inv X pins σ H s) (hf:∀b∈wr,FpOk X pins H b) (k:∀b o,b∉wr→s.heap.get? b=some o→h'.get? b=some o) : Inv X pins σ H { s with heap:=h',toks:=t' }:=by
  have nit:∀b u,H b=some u→b∉wr:=fun b u e z=>by
    have:=(hf b z).1
    rw[this] at e; cases e
  refine I.step (g':=s.gens) (d':=s.drawn) (ch:=wr) (fun b hb=>⟨(hf b hb).2.2.2.1,(hf b hb).2.1,(hf b hb).2.2.2.2.1,(hf b hb).2.2.2.2.2⟩) (fun b o _ _ hc e _=>k b o hc e) (fun b o _ _ hc e _=>⟨o.slots,k b o hc e⟩)
    (fun b o hc e n=>n) (fun b o hc e=>⟨o,k b o hc e⟩) (fun b xs e=>e) (fun b o u e=>e) (fun b ps e=>⟨#[],by rw[e]; simp⟩) (fun m hm=>?_) (fun b u e=>?_) I.bare
  · obtain ⟨o,es,ep,ho,r⟩:=hm
    exact ⟨o,es,ep,k _ o (fun z=>(hf _ z).2.1 rfl) ho,r⟩
  · refine (I.hok b u e).stay (fun c v hc q=>k c v ?_ q) (fun _ q=>q) fun _ _ q=>q
    rcases hc with z | z
    · rw[z]; exact nit b u e
    · exact nit c _ z
end
def ItP (Src:Hp→List (List V)→Prop) : It:=
  ⟨fun i H=>∃rows row,Src H rows∧rows[i]?=some row,fun i H x H'=>∀rows,Src H rows→∃row p,rows[i]?=some row∧H p=none∧x=.ref p∧H'=upd H p (.tup row),fun i H=>∃rows,Src H rows∧i=rows.length⟩
theorem turn_P {P:Program} {w:World} {K:PySem.W.Frag} {elts:List Expr} {kx:Nat} {pos:Pos} {e:Addr} {fp wr fpw:List Addr} {Src:Hp→List (List V)→Prop} {core:Nat→Heap→Prop}
    (me:e∈fp) (hwr:∀b∈wr,b∈fp) (src1:∀H r r',Src H r→Src H r'→r=r')
    (obj:∀i h,core i h→∀b∈fp,∃o,h.get? b=some o∧∀v,o.data≠.cell v)
    (keep:∀i h h',core i h→(∀b∈fp,∀o,h.get? b=some o→h'.get? b=some o)→core i h')
    (self:∀(A:Around) (i:Nat) (s:Shared) (Q:Value→Shared→Prop) (E:Value→Shared→Prop),core i s.heap→Q (.ref e) s→wpAny (model P w) A (pyIter (.ref e)) Q E s)
    (W:∀(X:Cx),X.prog=P→X.w=w→X.K=K→X.calm=true→∀(i:Nat) (pins:List (Addr×Obj)) (s:Shared) (σ:St) (H:Hp),Inv X pins σ H s→(∀b∈fp,FpOk X pins H b)→core i s.heap→∀rows,Src H rows →
      ∃(n:Nat) (Pt:Nat→Array Value→Prop) (St':Nat→Heap→Prop) (Mid:Nat→Addr→Heap→Prop),WalksT P w X.A e fpw wr n Pt St' Mid∧n=rows.length∧St' i s.heap∧(∀j vals,Pt j vals→∃row us,rows[j]?=some row∧vals=us.toArray∧Vals row us∧row.length≤sizeLine)∧∀j h,St' j h→core j h) :
    Turn P w K (.Tuple elts kx pos) (ItP Src) fp e core where
  mem:=me
  obj:=obj
  keep:=keep
  self:=self
  item:=by
    intro X hP hw hK hc i pins s σ H E I hf st hg
    obtain ⟨rows,row,hs,hr⟩:=hg
    obtain ⟨n,Pt,St',Mid,V,hn,st',hp,back⟩:=W X hP hw hK hc i pins s σ H I hf st rows hs
    have hi:i<n:=by rw[hn]; exact (List.getElem?_eq_some_iff.mp hr).1
    refine V.item i s _ E hi st' fun T vals h' tk pt hT ht mid kk=>?_
    obtain ⟨row',us,hr',rfl,rv,hz⟩:=hp i vals pt
    refine ⟨.ref T,rfl,?_⟩
    refine V.go elts kx pos i T { s with heap:=h',toks:=tk } _ E mid fun h2 st2 k2=>?_
    have nT:=V.apart i T h' mid
    have ht2:h2.IsTuple T us.toArray:=ht.at fun o q=>k2 T o nT q
    have I2:Inv X pins σ (upd H T (.tup row')) { s with heap:=h2,toks:=tk }:=I.turnT (fun b hb=>hf b (hwr b hb)) (fun b o hb q=>k2 b o hb (kk b o hb q)) hT ht2 rv hz
    refine ⟨.ref T,_,I2,rfl,fun rows2 hs2=>?_,back _ _ st2,fun b hb=>?_⟩
    · rw[src1 _ _ _ hs2 hs]
      exact ⟨row',T,hr',I.hok.fresh hT,rfl,rfl⟩
    · have hbT:b≠T:=by
        rintro rfl
        obtain ⟨o,ho,_⟩:=obj _ _ st b hb
        exact absurd (Nat.lt_of_lt_of_le (Heap.lt_size ho) hT) (Nat.lt_irrefl _)
      rw[upd_ne hbT]
      exact (hf b hb).1
  done:=by
    intro X hP hw hK hc i pins s σ H E I hf st hg
    obtain ⟨rows,hs,hr⟩:=hg
    obtain ⟨n,Pt,St',Mid,V,hn,st',hp,back⟩:=W X hP hw hK hc i pins s σ H I hf st rows hs
    rw[hr,←hn] at st'
    exact V.done s _ E st' fun h' tk kk=>⟨rfl,I.turnedL (fun b hb=>hf b (hwr b hb)) kk⟩
section
variable {X:Cx}
theorem best_in {zs:Array (Int×Tok)} {k:Nat} {v:Value} (h:(intItems zs)[k]?=some v) : (∃t,v=.int (numAt zs k) t)∧numAt zs k∈zs.toList.map (·.1):=by
  refine ⟨intItems_at h,?_⟩
  simp only[intItems,Array.getElem?_map,Option.map_eq_some_iff] at h
  obtain ⟨p,hp,rfl⟩:=h
  rw[numAt_eq]
  have hp':zs.toList[k]?=some p:=by rw[←hp]; simp
  rw[List.getD_eq_getElem?_getD,List.getElem?_map,hp']
  exact List.mem_map.mpr ⟨p,List.mem_of_getElem? hp',rfl⟩
theorem num_of_mem {zs:Array (Int×Tok)} {n:Int} (h:n∈zs.toList.map (·.1)) : ∃j,j≤zs.size - 1∧numAt zs j=n:=by
  obtain ⟨j,hj⟩:=List.getElem?_of_mem h
  have hl:j<zs.size:=by have:=(List.getElem?_eq_some_iff.mp hj).1; simpa using this
  exact ⟨j,by lia,by rw[numAt_eq,List.getD_eq_getElem?_getD,hj]; rfl⟩
def enumRows (xs:List V) : List (List V):=(List.range xs.length).map fun i=>[V.int (i:Nat),(xs[i]?).getD .non]
theorem enumRows_get {xs:List V} {i:Nat} {x:V} (h:xs[i]?=some x) : (enumRows xs)[i]?=some [.int (i:Nat),x]:=by
  unfold enumRows
  rw[List.getElem?_map,List.getElem?_range (List.getElem?_eq_some_iff.mp h).1,Option.map_some,h]
  rfl
theorem enumRows_len (xs:List V) : (enumRows xs).length=xs.length:=by unfold enumRows; simp
def srcEnum (a:Addr) (H:Hp) (rows:List (List V)) : Prop:=∃xs,H a=some (.lst xs)∧rows=enumRows xs
theorem turn_enum {P:Program} {w:World} {K:PySem.W.Frag} {elts:List Expr} {kx:Nat} {pos:Pos} (a e it:Addr) (hei:e≠it) :
    Turn P w K (.Tuple elts kx pos) (ItP (srcEnum a)) [e,it] e (fun i h=>(∃old,IsEnum h e it i old)∧h.IsListIter it a i):=by
  refine turn_P (fpw:=[e,it,a]) (wr:=[e,it]) (by simp) (fun b hb=>hb) (fun H r r' ⟨xs,h1,h2⟩ ⟨ys,h3,h4⟩=>?_) (fun i h ⟨⟨old,he⟩,hit⟩ b hb=>?_) (fun i h h' ⟨⟨old,he⟩,hit⟩ k=>⟨⟨old,k e (by simp) _ he⟩,hit.at fun o q=>k it (by simp) o q⟩) (fun A i s Q E ⟨⟨old,he⟩,hit⟩ q=>wpAny_pyIter_enum he q) ?_
  · rw[h1] at h3; cases h3; rw[h2,h4]
  · rcases List.mem_cons.mp hb with rfl | hb
    · exact ⟨_,he,fun v z=>by have z':Data.fields _=Data.cell v:=z; cases z'⟩
    · have : b = it := by simpa using hb
      subst this
      obtain ⟨o,ho,_,hd⟩:=hit
      exact ⟨o,ho,fun v z=>by rw[hd] at z; cases z⟩
  · intro X hP hw hK hc i pins s σ H I hf st rows ⟨xs,hx,hr⟩
    subst hP hw hK
    obtain ⟨z,its,n,rv,hl⟩:=I.hok a _ hx
    have hlist:s.heap.IsList a its.toArray:=⟨_,hl,rfl,n,rfl⟩
    have nae:a≠e:=fun q=>by have:=(hf e (by simp)).1; rw[←q,hx] at this; cases this
    have nai:a≠it:=fun q=>by have:=(hf it (by simp)).1; rw[←q,hx] at this; cases this
    refine ⟨its.toArray.size,_,_,_,WalksT.enumerate (I.ok.hd hc) e it a hei nae nai its.toArray,by rw[hr,enumRows_len,List.size_toArray,rv.length],⟨st.1,st.2,hlist⟩,fun j vals ⟨t,x,h1,h2⟩=>?_,fun j h ⟨h1,h2,_⟩=>⟨h1,h2⟩⟩
    have h1':its[j]?=some x:=by simpa using h1
    have hj:j<xs.length:=by rw[rv.length]; exact (List.getElem?_eq_some_iff.mp h1').1
    obtain ⟨u,g1,g2⟩:=rv.get (List.getElem?_eq_getElem hj)
    rw[h1'] at g1
    cases g1
    exact ⟨[.int (j:Nat),xs[j]],[.int j t,x],by rw[hr]; exact enumRows_get (List.getElem?_eq_getElem hj),h2,.cons ⟨t,rfl⟩ (.cons g2 .nil),small_len (Nat.le_of_ble_eq_true rfl)⟩
def iEnum (ta:TA) : TI:=fun σ H R=>ta σ H fun vs H1=>∃a xs,vs = [.ref a]∧H1 a=some (.lst xs)∧R (ItP (srcEnum a)) H1
theorem pi_enum {elts:List Expr} {kx:Nat} {tpos:Pos} {l:Expr} {ta:TA} {p pos:Pos} (hg:Gl X "enumerate") (hm:X.mg "enumerate" = none) (ha:PA X [l] ta) (hs:starEach [l] X.env = [(false,eval l X.env)]:=by rfl) : PI X (.Tuple elts kx tpos) (.Call (.Name "enumerate" p) [l] [] pos) (iEnum ta):=by
  intro pins s σ H R I h
  refine Call_ (ld_blt I hg hm PyProof.Rows.boot_enumerate (PyProof.Rows.callWith_type1 (thn (ha pos pins s σ H _ I h) fun us s1 ⟨vs,H1,I1,r1,q1⟩=>?_) hs rfl))
  obtain ⟨a,xs,rfl,hx,q⟩:=q1
  obtain ⟨u,rfl,ru⟩:=vals1 r1
  cases ru
  obtain ⟨z,its,n,rv,hl⟩:=I1.hok a _ hx
  refine call_enumerate_list (items:=its.toArray) ⟨_,hl,rfl,n,rfl⟩ fun h' he hit hsz hk=>?_
  refine wpAny_pyIter_enum he ?_
  have I2:Inv X pins σ H1 { s1 with heap:=h' }:=I1.kept (t':=s1.toks) hk
  refine ⟨s1.heap.objs.size+1,[s1.heap.objs.size+1,s1.heap.objs.size],_,_,H1,rfl,I2,turn_enum a _ _ (Nat.succ_ne_self _),⟨⟨_,he⟩,hit⟩,fun b hb=>?_,q⟩
  rcases List.mem_cons.mp hb with rfl | hb
  · exact I1.fpOk (Nat.le_succ _) (I1.hok.fresh (Nat.le_succ _))
  · have e : b = s1.heap.objs.size := by simpa using hb
    subst e
    exact I1.fpOk (Nat.le_refl _) (I1.hok.fresh (Nat.le_refl _))
section
variable {prog:Program} {w:World} {A:Around} {E:Value→Shared→Prop} {s:Shared}
theorem draw_list {it t:Addr} {items:Array Value} (hne:t≠it) : ∀(n i:Nat) (s:Shared) (Q:List Value→Shared→Prop),s.heap.IsListIter it t i→s.heap.IsList t items→i+n≤items.size →
    (∀h',h'.IsListIter it t (i+n)→Heap.SameBut it s.heap h'→Q ((items.toList.drop i).take n) { s with heap:=h' })→wpAny (model prog w) A (draw (.ref it) n) Q E s
  | 0,i,s,Q,hit,_,_,hQ=>by
    show wpAny _ _ (pure []) Q E s
    exact wpAny_pure (by simpa using hQ s.heap hit (Heap.SameBut.refl ..))
  | n+1,i,s,Q,hit,ht,hle,hQ=>by
    have hlt:i<items.size:=by lia
    show wpAny _ _ (pyNext (.ref it) >>= _) Q E s
    refine wpAny_bind (wpAny_pyNext_list_item hit ht (x:=items[i]) (by simp[hlt]) fun h₁ hit₁ hs₁=>?_)
    refine wpAny_bind (wpAny_holding (draw_list hne n (i+1) _ _ hit₁ (ht.extBut hs₁.extBut hne) (by lia) fun h₂ hit₂ hs₂=>wpAny_pure ?_))
    have hd:items.toList.drop i=items[i]::items.toList.drop (i+1):=by simp[List.drop_eq_getElem_cons,hlt]
    have:=hQ h₂ (by rw[show i+(n+1)=i+1+n by lia]; exact hit₂) (hs₁.trans hs₂)
    rw[hd,List.take_succ_cons] at this
    exact this
theorem unpackItems_list {t:Addr} {items:Array Value} {Q:List Value→Shared→Prop} (hh:A.handled=none) (ht:s.heap.IsList t items)
    (hQ:∀h',Heap.ExtBut s.heap.objs.size s.heap h'→Q items.toList { s with heap:=h' }) : wpAny (model prog w) A (unpackItems (.ref t) items.size none) Q E s:=by
  have hlt:t≠s.heap.objs.size:=by obtain ⟨o,ho,_⟩:=ht; exact Nat.ne_of_lt (Heap.lt_size ho)
  unfold unpackItems
  refine wpAny_bind ?_
  unfold notIterableAtAll
  refine wpAny_bind (wpAny_specialOf ht.typeIs slot_list_iter.lookup ?_)
  refine wpAny_pure ?_
  simp only[Bool.false_eq_true,if_false]
  refine wpAny_bind (wpAny_holding (wpAny_pyIter_list ht ?_))
  refine wpAny_bind (wpAny_holding (draw_list hlt items.size 0 _ _ ⟨_,Heap.get?_push_size _ rfl,rfl,rfl⟩ (ht.at fun o e=>Heap.get?_push_of_some _ e) (by lia) fun h₁ hit₁ hs₁=>?_))
  have hall:List.take items.size (List.drop 0 items.toList)=items.toList:=by
    rw[List.drop_zero]; exact List.take_of_length_le (by simp)
  rw[hall]
  rw[if_neg (by simp)]
  have ht₁:h₁.IsList t items:=(ht.at fun o e=>Heap.get?_push_of_some _ e).extBut hs₁.extBut hlt
  refine wpAny_bind (wpAny_holding (wpAny_pyNext_list_end hh hit₁ ht₁ (by simp) fun h₂ he₂=>?_))
  simp only[Option.isSome_none,Bool.false_eq_true,if_false]
  refine wpAny_pure (hQ h₂ fun b o hb e=>he₂ b o hb (hs₁.extBut b o hb (Heap.get?_push_of_some _ e)))
theorem assign_Tuple_list {env:Env} {elts:List Expr} {x1} {pos:Pos} {t:Addr} {items:Array Value} {Q:Unit→Shared→Prop} (hh:A.handled=none) (ht:s.heap.IsList t items)
    (hn:(assignEach elts env).length=items.size) (hstar:(assignEach elts env).findIdx? (·.1)=none)
    (h:∀h',Heap.ExtBut s.heap.objs.size s.heap h'→wpAny (model prog w) A (assignInOrder ((assignEach elts env).map (·.2)) items.toList) Q E { s with heap:=h' }) :
    wpAny (model prog w) A (assign (.Tuple elts x1 pos) env (.ref t)) Q E s:=by
  rw[assign_Tuple]
  refine wpAny_bind (wpAny_standAt ?_)
  unfold unpack
  rw[hn,hstar]
  exact wpAny_bind (wpAny_holding (unpackItems_list hh ht h))
end
def gSeq (K:PySem.W.Frag) (n:Nat) (t:TGs) : TG:=fun v σ H Q=>∃a xs,v=.ref a∧(SqT K H a xs∨SqL K H a xs)∧xs.length=n∧t xs σ H Q
theorem pg_seq {es:List Expr} {k:Nat} {t:TGs} {n:Nat} {pos:Pos} (hc:X.calm=true) (h:PGs X es t)
    (hn:(assignEach es X.env).length=n:=by rfl) (hst:(assignEach es X.env).findIdx? (·.1)=none:=by rfl) : PG X (.Tuple es k pos) (gSeq X.K n t):=by
  intro pins s σ H v u Q I r hw
  obtain ⟨a,xs,e1,hq,hl,hw⟩:=hw
  subst e1
  cases r
  rcases hq with hq | hq
  · obtain ⟨its,rv,ht,hz⟩:=I.tuple hq
    refine assign_Tuple_tuple (I.ok.hd hc) ht (by simp[hn,←hl,rv.length]) hst fun h' hx=>?_
    have I1:Inv X pins σ H { s with heap:=h' }:=I.kept (t':=s.toks) fun b o e=>hx b o (Nat.ne_of_lt (Heap.lt_size e)) e
    exact h pins _ σ H xs _ Q I1 (by simpa using rv) hw
  · obtain ⟨its,rv,ht,hz⟩:=I.list hq
    refine assign_Tuple_list (I.ok.hd hc) ht.isList (by simp[hn,←hl,rv.length]) hst fun h' hx=>?_
    have I1:Inv X pins σ H { s with heap:=h' }:=I.kept (t':=s.toks) fun b o e=>hx b o (Nat.ne_of_lt (Heap.lt_size e)) e
    exact h pins _ σ H xs _ Q I1 (by simpa using rv) hw
end
end L2
namespace DL
open PySem L2
inductive D where
  | non | bl (b:Bool) | int (i:Int) | str (x:Str) | tup (xs:List D) | lst (xs:List D) | scr (ns:List Int)
  | dct (kvs:List ((Int×Int)×Int))
def encD (kvs:List ((Int×Int)×Int)) : List (List Key×V):=kvs.map fun p=>([Sum.inl p.1.1,Sum.inl p.1.2],V.int p.2)
inductive Rep (K:PySem.W.Frag) (G:Hp) : V→D→Prop where
  | non:Rep K G .non .non
  | bl (b:Bool) : Rep K G (.bl b) (.bl b)
  | int (i:Int) : Rep K G (.int i) (.int i)
  | str (x:Str) : Rep K G (.str x) (.str x)
  | tup {a:Addr} {vs:List V} {ds:List D} (h:G a=some (.tup vs)) (l:vs.length=ds.length) (r:∀(i:Nat) (v:V) (d:D),vs[i]?=some v→ds[i]?=some d→Rep K G v d) : Rep K G (.ref a) (.tup ds)
  | scr {a:Addr} {ns:List Int} (h:SqL K G a (ns.map V.int)) : Rep K G (.ref a) (.scr ns)
  | dct {a:Addr} {kvs:List ((Int×Int)×Int)} (h:Rd G a (.dT (encD kvs))) : Rep K G (.ref a) (.dct kvs)
  | lst {a:Addr} {vs:List V} {ds:List D} (h:G a=some (.lst vs)) (l:vs.length=ds.length) (r:∀(i:Nat) (v:V) (d:D),vs[i]?=some v→ds[i]?=some d→Rep K G v d) : Rep K G (.ref a) (.lst ds)
abbrev Reps (K:PySem.W.Frag) (G:Hp) : List V→List D→Prop:=Paired (Rep K G)
theorem paired_of {α β:Type} {F:α→β→Prop} : ∀{l:List α} {r:List β},l.length=r.length→(∀(i:Nat) (a:α) (b:β),l[i]?=some a→r[i]?=some b→F a b)→Paired F l r
  | [],[],_,_=>.nil
  | a::l,b::r,e,h=>.cons (h 0 a b rfl rfl) (paired_of (by simpa using e) fun i x y h1 h2=>h (i+1) x y (by simpa using h1) (by simpa using h2))
theorem paired_at {α β:Type} {F:α→β→Prop} : ∀{l:List α} {r:List β},Paired F l r→∀(i:Nat) (a:α) (b:β),l[i]?=some a→r[i]?=some b→F a b
  | _,_,.nil,_,_,_,h,_=>by simp at h
  | _,_,.cons h _,0,_,_,h1,h2=>by simp at h1 h2; subst h1; subst h2; exact h
  | _,_,.cons _ t,i+1,a,b,h1,h2=>paired_at t i a b (by simpa using h1) (by simpa using h2)
theorem paired_get' {α β:Type} {F:α→β→Prop} : ∀{l:List α} {r:List β} {i:Nat} {b:β},Paired F l r→r[i]?=some b→∃a,l[i]?=some a∧F a b
  | _,_,_,_,.nil,e=>by simp at e
  | _,_,0,_,.cons h _,e=>by simp at e; subst e; exact ⟨_,rfl,h⟩
  | _,_,i+1,b,.cons _ t,e=>by
    obtain ⟨a,h1,h2⟩:=paired_get' (i:=i) (b:=b) t (by simpa using e)
    exact ⟨a,by simpa using h1,h2⟩
section
variable {K:PySem.W.Frag} {G G' H H':Hp} {v:V} {d:D} {ds:List D} {vs:List V}
theorem Rep.tup' {a:Addr} (h:G a=some (.tup vs)) (r:Reps K G vs ds) : Rep K G (.ref a) (.tup ds):=.tup h (Paired.length r) (paired_at r)
theorem Rep.lst' {a:Addr} (h:G a=some (.lst vs)) (r:Reps K G vs ds) : Rep K G (.ref a) (.lst ds):=.lst h (Paired.length r) (paired_at r)
theorem Rep.tup_inv (h:Rep K G v (.tup ds)) : ∃a vs,v=.ref a∧SqT K G a vs∧Reps K G vs ds:=by
  cases h with | tup h l r=>exact ⟨_,_,rfl,.inl (.inl h),paired_of l r⟩
theorem Rep.tup_st (h:Rep K G v (.tup ds)) : ∃a vs,v=.ref a∧G a=some (.tup vs)∧Reps K G vs ds:=by
  cases h with | tup h l r=>exact ⟨_,_,rfl,h,paired_of l r⟩
theorem Rep.lst_inv (h:Rep K G v (.lst ds)) : ∃a vs,v=.ref a∧G a=some (.lst vs)∧Reps K G vs ds:=by
  cases h with | lst h l r=>exact ⟨_,_,rfl,h,paired_of l r⟩
theorem Rep.int_inv {i:Int} (h:Rep K G v (.int i)) : v=.int i:=by cases h; rfl
theorem Rep.bl_inv {b:Bool} (h:Rep K G v (.bl b)) : v=.bl b:=by cases h; rfl
theorem rd_same {a:Addr} {u:HO} (e:Same G G') (h:Rd G a u) : Rd G' a u:=h.elim (fun z=>.inl (e _ _ z)) fun ⟨o,z⟩=>.inr ⟨o,e _ _ z⟩
theorem same_seqT {a:Addr} {xs:List V} (e:Same G G') (h:SqT K G a xs) : SqT K G' a xs:=by
  rcases h with (h | ⟨o,h⟩) | h
  · exact .inl (.inl (e _ _ h))
  · exact .inl (.inr ⟨o,e _ _ h⟩)
  · exact .inr h
theorem Rep.mono (s:Same G G') (h:Rep K G v d) : Rep K G' v d:=by
  induction h with
  | non=>exact .non
  | bl b=>exact .bl b
  | int i=>exact .int i
  | str x=>exact .str x
  | tup h l r ih=>exact .tup (s _ _ h) l ih
  | lst h l r ih=>exact .lst (s _ _ h) l ih
  | scr h=>exact .scr (s.seq h)
  | dct h=>exact .dct (rd_same s h)
theorem Reps.mono (s:Same G G') (h:Reps K G vs ds) : Reps K G' vs ds:=Paired.imp' (fun _ _=>Rep.mono s) h
def D.sc:D→Bool
  | .tup _=>false
  | .lst _=>false
  | .scr _=>false
  | .dct _=>false
  | _=>true
theorem Rep.sc (h:Rep K G v d) (e:d.sc=true) : Rep K G' v d:=by
  cases h with
  | non=>exact .non
  | bl b=>exact .bl b
  | int i=>exact .int i
  | str x=>exact .str x
  | tup h l r=>cases e
  | lst h l r=>cases e
  | scr h=>cases e
  | dct h=>cases e
end
inductive B where
  | p (d:D) | o (d:D) | n (t:Bool) (ds:List D)
def B.val:B→D
  | .p d=>d
  | .o d=>d
  | .n true ds=>.tup ds
  | .n false ds=>.lst ds
abbrev DEnv:=List (Option B)
def dget:DEnv→Nat→Option B
  | [],_=>none
  | b::_,0=>b
  | _::r,n+1=>dget r n
def dput:DEnv→Nat→B→DEnv
  | [],_,_=>[]
  | _::r,0,b=>some b::r
  | c::r,n+1,b=>c::dput r n b
def frz1:Option B→Option B
  | none=>none
  | some b=>some (.p b.val)
def frz:DEnv→DEnv
  | []=>[]
  | c::r=>frz1 c::frz r
theorem dput_len (b:B) : ∀(ρ:DEnv) (i:Nat),(dput ρ i b).length=ρ.length
  | [],_=>rfl
  | _::_,0=>rfl
  | _::r,n+1=>by show (dput r n b).length+1=r.length+1; rw[dput_len b r n]
theorem frz_len:∀(ρ:DEnv),(frz ρ).length=ρ.length
  | []=>rfl
  | _::r=>by show (frz r).length+1=_; rw[frz_len r]; rfl
theorem dget_put {b:B} : ∀{ρ:DEnv} {i j:Nat} {c:B},dget (dput ρ i b) j=some c→(i=j∧j<ρ.length∧c=b)∨(i≠j∧dget ρ j=some c)
  | [],_,_,_,h=>by cases h
  | _::_,0,0,_,h=>.inl ⟨rfl,Nat.succ_pos _,(Option.some.inj h).symm⟩
  | _::_,0,j+1,_,h=>.inr ⟨Nat.succ_ne_zero j |>.symm,h⟩
  | _::_,i+1,0,_,h=>.inr ⟨Nat.succ_ne_zero i,h⟩
  | _::r,i+1,j+1,_,h=>by
    rcases dget_put (ρ:=r) (i:=i) (j:=j) h with ⟨h1,h2,h3⟩ | ⟨h1,h2⟩
    · exact .inl ⟨by rw[h1],Nat.succ_lt_succ h2,h3⟩
    · exact .inr ⟨fun e=>h1 (Nat.succ.inj e),h2⟩
theorem dget_frz:∀{ρ:DEnv} {i:Nat} {c:B},dget (frz ρ) i=some c→∃b,dget ρ i=some b∧c=.p b.val
  | [],_,_,h=>by cases h
  | none::_,0,_,h=>by cases h
  | some b::_,0,_,h=>⟨b,rfl,(Option.some.inj h).symm⟩
  | _::r,i+1,_,h=>dget_frz (ρ:=r) h
theorem dget_lt:∀{ρ:DEnv} {i:Nat} {c:B},dget ρ i=some c→i<ρ.length
  | [],_,_,h=>by cases h
  | _::_,0,_,_=>Nat.succ_pos _
  | _::r,i+1,_,h=>Nat.succ_lt_succ (dget_lt (ρ:=r) h)
def OwnAt (K:PySem.W.Frag) (G H:Hp) (a:Addr) (d:D) : Prop:=G a=none∧match d with
  | .lst ds=>∃vs,H a=some (.lst vs)∧Reps K G vs ds
  | .dct kvs=>H a=some (.dT (encD kvs))
  | _=>False
def Chg (H:Hp) (a:Addr) : Prop:=∃o,H a=some o∧∀xs,o≠.tup xs
theorem Chg.there {H:Hp} {a:Addr} (h:Chg H a) : H a≠none:=by obtain ⟨o,e,_⟩:=h; rw[e]; simp
structure Wd (H0 G0 H G:Hp) : Prop where
  hh:Same H0 H
  gg:Same G0 G
  gh:Same G H
  old:∀a,Chg H0 a→G a=G0 a
theorem Wd.refl {H G:Hp} (s:Same G H) : Wd H G H G:=⟨Same.refl _,Same.refl _,s,fun _ _=>rfl⟩
theorem Wd.trans {H0 G0 H1 G1 H2 G2:Hp} (a:Wd H0 G0 H1 G1) (b:Wd H1 G1 H2 G2) : Wd H0 G0 H2 G2:=
  ⟨a.hh.trans b.hh,a.gg.trans b.gg,b.gh,fun x h=>by
    have h1:Chg H1 x:=by obtain ⟨o,e,n⟩:=h; exact ⟨o,a.hh _ _ e,n⟩
    rw[b.old x h1,a.old x h]⟩
theorem Wd.new {H0 G0 H G:Hp} {p:Addr} {o:HO} (w:Wd H0 G0 H G) (h:H p=none) : Wd H0 G0 (upd H p o) (upd G p o):=
  ⟨w.hh.upd (w.hh.free h),w.gg.upd (w.gg.free (w.gh.free h)),fun b u e=>by
    by_cases z:b=p
    · subst z; rw[upd_same] at e ⊢; exact e
    · rw[upd_ne z] at e ⊢; exact w.gh b u e,fun a ha=>by
    have z:a≠p:=fun e=>ha.there (e ▸ w.hh.free h)
    rw[upd_ne z,w.old a ha]⟩
theorem Wd.own {H0 G0 H G:Hp} {p:Addr} {o:HO} (w:Wd H0 G0 H G) (h0:H0 p=none) (h:G p=none) : Wd H0 G0 (upd H p o) G:=
  ⟨w.hh.upd h0,w.gg,w.gh.upd h,w.old⟩
theorem Wd.give {H0 G0 H G:Hp} {p:Addr} {o:HO} (w:Wd H0 G0 H G) (h0:H0 p=none∨∃xs,o=.tup xs) (h:G p=none) (e:H p=some o) : Wd H0 G0 H (upd G p o):=
  ⟨w.hh,w.gg.upd (w.gg.free h),fun b u k=>by
    by_cases z:b=p
    · subst z; rw[upd_same] at k; rw[e,k]
    · rw[upd_ne z] at k; exact w.gh b u k,fun a ha=>by
    have z:a≠p:=fun z=>by
      subst z
      obtain ⟨u,e1,n⟩:=ha
      rcases h0 with h0 | ⟨xs,h0⟩
      · rw[h0] at e1; cases e1
      · have:=w.hh _ _ e1
        rw[e] at this
        cases this
        exact n xs h0
    rw[upd_ne z,w.old a ha]⟩
theorem OwnAt.rep {K:PySem.W.Frag} {G H G2:Hp} {a:Addr} {d:D} (h:OwnAt K G H a d) (s:Same G G2) (e:∀o,H a=some o→G2 a=some o) : Rep K G2 (.ref a) d:=by
  obtain ⟨g,k⟩:=h
  cases d with
  | lst ds =>
    obtain ⟨vs,e',r⟩:=k
    exact Rep.lst' (e _ e') (Reps.mono s r)
  | dct kvs=>exact .dct (.inl (e _ k))
  | non=>exact k.elim
  | bl _=>exact k.elim
  | int _=>exact k.elim
  | str _=>exact k.elim
  | tup _=>exact k.elim
  | scr _=>exact k.elim
def BRes (K:PySem.W.Frag) (H G' H':Hp) (v:V) : B→Prop
  | .p d=>Rep K G' v d
  | .o d=>∃a,v=.ref a∧H a=none∧OwnAt K G' H' a d
  | .n true ds=>∃a as,v=.ref a∧G' a=some (.tup (as.map V.ref))∧as.Nodup∧Paired (fun x d=>H x=none∧OwnAt K G' H' x d) as ds
  | .n false _=>False
theorem BRes.ahead {K:PySem.W.Frag} {H0 H G' H':Hp} {v:V} {b:B} (s:Same H0 H) (h:BRes K H G' H' v b) : BRes K H0 G' H' v b:=by
  cases b with
  | p d=>exact h
  | o d=>obtain ⟨a,e,n,o⟩:=h; exact ⟨a,e,s.free n,o⟩
  | n t ds =>
    cases t with
    | false=>exact h
    | true =>
      obtain ⟨a,as,e,q,nd,pr⟩:=h
      exact ⟨a,as,e,q,nd,Paired.imp' (fun _ _ z=>⟨s.free z.1,z.2⟩) pr⟩
theorem Wd.all {H G H' G':Hp} (w:Wd H G H' G') : ∃G2,Wd H G H' G2∧Same G' G2∧∀a,H a=none→G' a=none→G2 a=H' a:=by
  classical
  have sG:Same G' (fun a=>if H a=none∧G' a=none then H' a else G' a):=fun a o h=>by
    show (if _ then H' a else G' a)=_
    rw[if_neg fun q=>by rw[q.2] at h; cases h]
    exact h
  refine ⟨fun a=>if H a=none∧G' a=none then H' a else G' a,⟨w.hh,w.gg.trans sG,fun a o h=>?_,fun a h=>?_⟩,sG,fun a h1 h2=>if_pos ⟨h1,h2⟩⟩
  · have h':(if H a=none∧G' a=none then H' a else G' a)=some o:=h
    split at h'
    · exact h'
    · exact w.gh _ _ h'
  · show (if H a=none∧G' a=none then H' a else G' a)=_
    rw[if_neg fun q=>h.there q.1]
    exact w.old a h
theorem BRes.give {K:PySem.W.Frag} {H G H' G':Hp} {v:V} {b:B} (w:Wd H G H' G') (h:BRes K H G' H' v b) : ∃G2,Wd H G H' G2∧Rep K G2 v b.val:=by
  cases b with
  | p d=>exact ⟨G',w,h⟩
  | n t ds =>
    cases t with
    | false=>exact h.elim
    | true =>
      obtain ⟨a,as,rfl,q,nd,pr⟩:=h
      obtain ⟨G2,w2,s2,k2⟩:=w.all
      refine ⟨G2,w2,Rep.tup' (s2 _ _ q) ?_⟩
      clear q nd
      induction pr with
      | nil=>exact .nil
      | cons f _ ih=>exact .cons (f.2.rep s2 fun o z=>by rw[k2 _ f.1 f.2.1]; exact z) ih
  | o d =>
    obtain ⟨a,rfl,n,k⟩:=h
    obtain ⟨G2,w2,s2,k2⟩:=w.all
    exact ⟨G2,w2,k.rep s2 fun o z=>by rw[k2 _ n k.1]; exact z⟩
abbrev DT:=DEnv→(B→Prop)→Prop
abbrev DTT:=DEnv→(Bool→Prop)→Prop
abbrev DTA:=DEnv→(List D→Prop)→Prop
def RepE (K:PySem.W.Frag) (G:Hp) (σ:St) (ρ:DEnv) : Prop:=∀i d,dget ρ i=some (.p d)→∃v,σ[i]?=some (some v)∧Rep K G v d
theorem RepE.mono {K:PySem.W.Frag} {G G':Hp} {σ:St} {ρ:DEnv} (s:Same G G') (h:RepE K G σ ρ) : RepE K G' σ ρ:=fun i d e=>by
  obtain ⟨v,h1,h2⟩:=h i d e
  exact ⟨v,h1,h2.mono s⟩
def cE (K:PySem.W.Frag) (t:DT) : TE:=fun σ H Q=>∃(G:Hp) (ρ:DEnv) (P:B→Prop),Same G H∧RepE K G σ ρ∧t ρ P∧∀b v H' G',P b→Wd H G H' G'→BRes K H G' H' v b→Q v H'
def cT (K:PySem.W.Frag) (t:DTT) : TT:=fun σ H Q=>∃(G:Hp) (ρ:DEnv) (P:Bool→Prop),Same G H∧RepE K G σ ρ∧t ρ P∧∀b H' G',P b→Wd H G H' G'→Q b H'
def cA (K:PySem.W.Frag) (n:Nat) (t:DTA) : TA:=fun σ H Q=>∃(G:Hp) (ρ:DEnv) (P:List D→Prop),Same G H∧RepE K G σ ρ∧t ρ P∧∀ds vs H' G',P ds→ds.length=n→Wd H G H' G'→Reps K G' vs ds→Q vs H'
structure DE (X:Cx) (e:Expr) (t:DT) : Prop where
  pe:PE X e (cE X.K t)
structure DTe (X:Cx) (e:Expr) (t:DTT) : Prop where
  pt:PT X e (cT X.K t)
structure DW (X:Cx) (e:Expr) (t:DTT) : Prop where
  pw:PW X e (cT X.K t)
structure DA (X:Cx) (es:List Expr) (t:DTA) : Prop where
  pa:PA X es (cA X.K es.length t)
theorem PE.imp {X:Cx} {e:Expr} {t t':TE} (h:PE X e t) (i:∀σ H Q,t' σ H Q→t σ H Q) : PE X e t':=fun pins s σ H Q I q=>h pins s σ H Q I (i σ H Q q)
theorem PT.imp {X:Cx} {e:Expr} {t t':TT} (h:PT X e t) (i:∀σ H Q,t' σ H Q→t σ H Q) : PT X e t':=fun pins s σ H Q I q=>h pins s σ H Q I (i σ H Q q)
theorem PW.imp {X:Cx} {e:Expr} {t t':TT} (h:PW X e t) (i:∀σ H Q,t' σ H Q→t σ H Q) : PW X e t':=fun wh pins s σ H Q I q=>h wh pins s σ H Q I (i σ H Q q)
theorem PA.imp {X:Cx} {es:List Expr} {t t':TA} (h:PA X es t) (i:∀σ H Q,t' σ H Q→t σ H Q) : PA X es t':=fun pos pins s σ H Q I q=>h pos pins s σ H Q I (i σ H Q q)
theorem PS.imp {X:Cx} {st:Stmt} {t t':TS} (h:PS X st t) (i:∀D σ H,t' D σ H→t D σ H) : PS X st t':=fun pins s σ H D I q=>h pins s σ H D I (i D σ H q)
theorem PSs.imp {X:Cx} {st:List Stmt} {t t':TS} (h:PSs X st t) (i:∀D σ H,t' D σ H→t D σ H) : PSs X st t':=fun pins s σ H D I q=>h pins s σ H D I (i D σ H q)
theorem DE.of {X:Cx} {e:Expr} {t:TE} {t':DT} (h:PE X e t) (i:∀σ H Q,cE X.K t' σ H Q→t σ H Q) : DE X e t':=⟨PE.imp h i⟩
theorem DTe.of {X:Cx} {e:Expr} {t:TT} {t':DTT} (h:PT X e t) (i:∀σ H Q,cT X.K t' σ H Q→t σ H Q) : DTe X e t':=⟨PT.imp h i⟩
theorem DW.of {X:Cx} {e:Expr} {t:TT} {t':DTT} (h:PW X e t) (i:∀σ H Q,cT X.K t' σ H Q→t σ H Q) : DW X e t':=⟨PW.imp h i⟩
theorem DA.of {X:Cx} {es:List Expr} {t:TA} {t':DTA} (h:PA X es t) (i:∀σ H Q,cA X.K es.length t' σ H Q→t σ H Q) : DA X es t':=⟨PA.imp h i⟩
section
variable {X:Cx} {a b e:Expr} {ta tb te:DT} {pos:Pos}
def dVar (i:Nat) : DT:=fun ρ Q=>match dget ρ i with
  | some (.p d)=>Q (.p d)
  | _=>False
theorem dv (i:Nat) {x:Str} (hN:X.N[i]?=some x:=by rfl) (hv:Vis X.env.scope x:=by first | exact Or.inl rfl | exact Or.inr (Or.inl rfl) | exact Or.inr (Or.inr rfl)) (hd:(x == ("__debug__" : Str))=false:=by decide)
    (hcd:(x == ("__classdict__" : Str))=false:=by decide) : DE X (.Name x pos) (dVar i):=
  DE.of (pe_var hN hv hd hcd) fun σ H Q ⟨G,ρ,P,s,r,h,k⟩=>by
    unfold dVar at h
    split at h
    · rename_i d e
      obtain ⟨v,h1,h2⟩:=r _ _ e
      exact ⟨v,h1,k _ v H G h (Wd.refl s) h2⟩
    · exact h.elim
def dC (d:D) : DT:=fun _ Q=>Q (.p d)
def CRep (K:PySem.W.Frag) (v:V) (d:D) : Prop:=∀G,Rep K G v d
theorem de_c {v:V} {d:D} (h:PE X e (tC v)) (r:CRep X.K v d) : DE X e (dC d):=
  DE.of h fun σ H Q ⟨G,ρ,P,s,_,h,k⟩=>k _ v H G h (Wd.refl s) (r G)
theorem de_int {i:Int} {j} : DE X (.Constant (.int i) j pos) (dC (.int i)):=de_c pe_int fun _=>.int i
theorem de_bl {b:Bool} {j} : DE X (.Constant (.bool b) j pos) (dC (.bl b)):=de_c pe_bl fun _=>.bl b
theorem de_non {j} : DE X (.Constant .none j pos) (dC .non):=de_c pe_non fun _=>.non
theorem go_on {K:PySem.W.Frag} {H G H1 G1:Hp} {P:B→Prop} {Q:VK} (k:∀b v H' G',P b→Wd H G H' G'→BRes K H G' H' v b→Q v H') (w:Wd H G H1 G1) : ∀b v H' G',P b→Wd H1 G1 H' G'→BRes K H1 G' H' v b→Q v H':=
  fun b v H' G' p w' r=>k b v H' G' p (w.trans w') (r.ahead w.hh)
abbrev D2:=D→D→(B→Prop)→Prop
def OpD (X:Cx) (f:Value→Value→Sem Value) (r:D2) : Prop:=∃rv:R2,OpR X f rv ∧
  ∀(H G:Hp) (x y:V) (dx dy:D) (P:B→Prop) (Q:VK),Same G H→Rep X.K G x dx→Rep X.K G y dy→r dx dy P→(∀b v H' G',P b→Wd H G H' G'→BRes X.K H G' H' v b→Q v H')→rv x y H Q
def dOp (r:D2) (ta tb:DT) : DT:=fun ρ Q=>ta ρ fun x=>tb ρ fun y=>r x.val y.val Q
theorem cE_two {K:PySem.W.Frag} {ta tb:DT} {r:D2} {rv:R2} (hr:∀(H G:Hp) (x y:V) (dx dy:D) (P:B→Prop) (Q:VK),Same G H→Rep K G x dx→Rep K G y dy→r dx dy P→(∀b v H' G',P b→Wd H G H' G'→BRes K H G' H' v b→Q v H')→rv x y H Q)
    (σ:St) (H:Hp) (Q:VK) : cE K (dOp r ta tb) σ H Q→tOp rv (cE K ta) (cE K tb) σ H Q:=by
  rintro ⟨G,ρ,P,s,re,h,k⟩
  refine ⟨G,ρ,_,s,re,h,fun b v H1 G1 p1 w1 r1=>?_⟩
  obtain ⟨G1',w1',r1'⟩:=r1.give w1
  refine ⟨G1',ρ,_,w1'.gh,re.mono w1'.gg,p1,fun b2 v2 H2 G2 p2 w2 r2=>?_⟩
  obtain ⟨G2',w2',r2'⟩:=r2.give w2
  exact hr H2 G2' v v2 b.val b2.val P Q w2'.gh (r1'.mono w2'.gg) r2' p2 (go_on k (w1'.trans w2'))
theorem de_op {op:Operator} {r:D2} (ho:OpD X (binaryOp op) r) (ha:DE X a ta) (hb:DE X b tb) : DE X (.BinOp a op b pos) (dOp r ta tb):=by
  obtain ⟨rv,h1,h2⟩:=ho
  exact DE.of (pe_op h1 ha.pe hb.pe) (cE_two h2)
theorem de_cmp {op:CmpOp} {r:D2} (ho:OpD X (compareOp op) r) (ha:DE X a ta) (hb:DE X b tb) (hm:behindInMarks op b=false) : DE X (.Compare a [op] [b] pos) (dOp r ta tb):=by
  obtain ⟨rv,h1,h2⟩:=ho
  exact DE.of (pe_cmpR h1 ha.pe hb.pe hm) (cE_two h2)
def dI (g:Int→Int→D) : D2:=fun x y Q=>match x,y with
  | .int i,.int j=>Q (.p (g i j))
  | _,_=>False
def dIC (C:Int→Int→Prop) (g:Int→Int→D) : D2:=fun x y Q=>match x,y with
  | .int i,.int j=>C i j∧Q (.p (g i j))
  | _,_=>False
theorem opd_I {f:Value→Value→Sem Value} {g:Int→Int→D} {gv:Int→Int→V} (h:OpR X f (rI0 gv)) (hg:∀i j,CRep X.K (gv i j) (g i j)) : OpD X f (dI g):=by
  refine ⟨_,h,fun H G x y dx dy P Q s rx ry hr k=>?_⟩
  unfold dI at hr
  split at hr
  · cases rx; cases ry
    exact ⟨_,_,rfl,rfl,k _ _ H G hr (Wd.refl s) (hg _ _ _)⟩
  · exact hr.elim
theorem opd_IC {f:Value→Value→Sem Value} {C:Int→Int→Prop} {g:Int→Int→D} {gv:Int→Int→V} (h:OpR X f (rI C gv)) (hg:∀i j,CRep X.K (gv i j) (g i j)) : OpD X f (dIC C g):=by
  refine ⟨_,h,fun H G x y dx dy P Q s rx ry hr k=>?_⟩
  unfold dIC at hr
  split at hr
  · cases rx; cases ry
    exact ⟨_,_,rfl,rfl,hr.1,k _ _ H G hr.2 (Wd.refl s) (hg _ _ _)⟩
  · exact hr.elim
theorem od_sub:OpD X (binaryOp .Sub) (dI fun i j=>.int (i - j)):=opd_I op_sub fun _ _ _=>.int _
theorem od_fdiv:OpD X (binaryOp .FloorDiv) (dIC CDiv fun i j=>.int (i / j)):=opd_IC op_fdiv fun _ _ _=>.int _
theorem od_mod:OpD X (binaryOp .Mod) (dIC (fun _ j=>0<j) fun i j=>.int (i % j)):=opd_IC op_mod fun _ _ _=>.int _
theorem od_pow:OpD X (binaryOp .Pow) (dIC CPow fun i j=>.int (i ^ j.toNat)):=opd_IC op_pow fun _ _ _=>.int _
theorem od_lt:OpD X (compareOp .Lt) (dI fun i j=>.bl (decide (i<j))):=opd_I op_lt fun _ _ _=>.bl _
theorem od_gt:OpD X (compareOp .Gt) (dI fun i j=>.bl (decide (j<i))):=opd_I op_gt fun _ _ _=>.bl _
theorem od_ge:OpD X (compareOp .GtE) (dI fun i j=>.bl (decide (j≤i))):=opd_I op_ge fun _ _ _=>.bl _
def dEqS:D2:=fun x y Q=>match x,y with
  | .int i,.int j=>Q (.p (.bl (decide (i=j))))
  | .str i,.str j=>Q (.p (.bl (decide (i=j))))
  | .bl i,.bl j=>Q (.p (.bl (decide (i=j))))
  | _,_=>False
def dNeS:D2:=fun x y Q=>match x,y with
  | .int i,.int j=>Q (.p (.bl (!decide (i=j))))
  | .str i,.str j=>Q (.p (.bl (!decide (i=j))))
  | .bl i,.bl j=>Q (.p (.bl (!decide (i=j))))
  | _,_=>False
theorem decV {α:Type} [DecidableEq α] {f:α→V} (hf:∀a b,f a=f b→a=b) (i j:α) : decide (f i=f j)=decide (i=j):=by
  by_cases h:i=j
  · rw[h,decide_eq_true rfl,decide_eq_true rfl]
  · rw[decide_eq_false h,decide_eq_false fun e=>h (hf _ _ e)]
theorem od_eq:OpD X (compareOp .Eq) dEqS:=by
  refine ⟨_,op_eq,fun H G x y dx dy P Q s rx ry hr k=>?_⟩
  unfold dEqS at hr
  split at hr
  · cases rx; cases ry
    exact ⟨rfl,by rw[decV (fun _ _ e=>V.int.inj e)]; exact k _ _ H G hr (Wd.refl s) (.bl _)⟩
  · cases rx; cases ry
    exact ⟨rfl,by rw[decV (fun _ _ e=>V.str.inj e)]; exact k _ _ H G hr (Wd.refl s) (.bl _)⟩
  · cases rx; cases ry
    exact ⟨rfl,by rw[decV (fun _ _ e=>V.bl.inj e)]; exact k _ _ H G hr (Wd.refl s) (.bl _)⟩
  · exact hr.elim
theorem od_ne:OpD X (compareOp .NotEq) dNeS:=by
  refine ⟨_,op_ne,fun H G x y dx dy P Q s rx ry hr k=>?_⟩
  unfold dNeS at hr
  split at hr
  · cases rx; cases ry
    exact ⟨rfl,by rw[decV (fun _ _ e=>V.int.inj e)]; exact k _ _ H G hr (Wd.refl s) (.bl _)⟩
  · cases rx; cases ry
    exact ⟨rfl,by rw[decV (fun _ _ e=>V.str.inj e)]; exact k _ _ H G hr (Wd.refl s) (.bl _)⟩
  · cases rx; cases ry
    exact ⟨rfl,by rw[decV (fun _ _ e=>V.bl.inj e)]; exact k _ _ H G hr (Wd.refl s) (.bl _)⟩
  · exact hr.elim
def dIsN:D2:=fun x y Q=>match y with
  | .non=>Q (.p (.bl (match x with | .non=>true | _=>false)))
  | _=>False
def dNotN:D2:=fun x y Q=>match y with
  | .non=>Q (.p (.bl (match x with | .non=>false | _=>true)))
  | _=>False
theorem od_isN:OpD X (compareOp .Is) dIsN:=by
  refine ⟨_,op_isN,fun H G x y dx dy P Q s rx ry hr k=>?_⟩
  unfold dIsN at hr
  split at hr
  · cases ry
    refine ⟨rfl,k _ _ H G hr (Wd.refl s) ?_⟩
    cases rx<;>exact .bl _
  · exact hr.elim
theorem od_notN:OpD X (compareOp .IsNot) dNotN:=by
  refine ⟨_,op_notN,fun H G x y dx dy P Q s rx ry hr k=>?_⟩
  unfold dNotN at hr
  split at hr
  · cases ry
    refine ⟨rfl,k _ _ H G hr (Wd.refl s) ?_⟩
    cases rx<;>exact .bl _
  · exact hr.elim
def dUn (r:D→(B→Prop)→Prop) (ta:DT) : DT:=fun ρ Q=>ta ρ fun x=>r x.val Q
def dNeg:D→(B→Prop)→Prop:=fun x Q=>match x with
  | .int i=>Q (.p (.int (-i)))
  | _=>False
theorem de_neg (ha:DE X a ta) : DE X (.UnaryOp .USub a pos) (dUn dNeg ta):=
  DE.of (pe_un un_neg ha.pe) fun σ H Q ⟨G,ρ,P,s,re,h,k⟩=>by
    refine ⟨G,ρ,_,s,re,h,fun b v H1 G1 p1 w1 r1=>?_⟩
    obtain ⟨G1',w1',r1'⟩:=r1.give w1
    unfold dNeg at p1
    split at p1
    · rename_i i e
      rw[e] at r1'
      cases r1'
      exact ⟨_,rfl,k _ _ H1 G1' p1 w1' (.int _)⟩
    · exact p1.elim
def dNotV (ta:DT) : DT:=fun ρ Q=>ta ρ fun x=>match x.val with
  | .bl c=>Q (.p (.bl (!c)))
  | _=>False
theorem bres_bl {K:PySem.W.Frag} {H G H' G':Hp} {v:V} {b:B} {c:Bool} (w:Wd H G H' G') (r:BRes K H G' H' v b) (e:b.val=.bl c) : v=.bl c:=by
  obtain ⟨G1,_,r1⟩:=r.give w
  rw[e] at r1
  exact r1.bl_inv
def dAndV (ta tb:DT) : DT:=fun ρ Q=>ta ρ fun x=>match x.val with
  | .bl c=>(c=true→tb ρ Q)∧(c=false→Q (.p (.bl false)))
  | _=>False
def dOrV (ta tb:DT) : DT:=fun ρ Q=>ta ρ fun x=>match x.val with
  | .bl c=>(c=true→Q (.p (.bl true)))∧(c=false→tb ρ Q)
  | _=>False
theorem de_one {op} {t:DT} (h:DE X a t) : DE X (.BoolOp op [a] pos) t:=⟨pe_one h.pe⟩
theorem de_and {rest:List Expr} (ha:DE X a ta) (hb:DE X (.BoolOp .And (b::rest) pos) tb) : DE X (.BoolOp .And (a::b::rest) pos) (dAndV ta tb):=
  DE.of (pe_and ha.pe hb.pe) fun σ H Q ⟨G,ρ,P,s,re,h,k⟩=>by
    refine ⟨G,ρ,_,s,re,h,fun b v H1 G1 p1 w1 r1=>?_⟩
    split at p1
    · rename_i c e
      refine ⟨c,bres_bl w1 r1 e,?_⟩
      cases c with
      | true=>exact iteT ⟨G1,ρ,P,w1.gh,re.mono w1.gg,p1.1 rfl,go_on k w1⟩
      | false=>exact iteF (k _ _ H1 G1 (p1.2 rfl) w1 (.bl _))
    · exact p1.elim
def dTst (t:DT) : DTT:=fun ρ P=>t ρ fun x=>match x.val with
  | .bl c=>P c
  | _=>False
theorem dt_cmp {op:CmpOp} {r:D2} (ho:OpD X (compareOp op) r) (ha:DE X a ta) (hb:DE X b tb) (hm:behindInMarks op b=false) : DTe X (.Compare a [op] [b] pos) (dTst (dOp r ta tb)):=by
  obtain ⟨rv,h1,h2⟩:=ho
  refine DTe.of (pt_cmpR h1 ha.pe hb.pe hm) fun σ H Q ⟨G,ρ,P,s,re,h,k⟩=>?_
  refine cE_two h2 σ H _ ⟨G,ρ,_,s,re,h,fun b v H1 G1 p1 w1 r1=>?_⟩
  split at p1
  · rename_i c e
    exact ⟨c,bres_bl w1 r1 e,k _ H1 G1 p1 w1⟩
  · exact p1.elim
theorem dt_val (ha:DE X a ta) (he:∀whole,isTrue a X.env whole=(do let v ←whole; standAt a.pos; holding [v] (truthy v)):=by intro _; rfl) : DTe X a (dTst ta):=
  DTe.of (pt_val ha.pe he) fun σ H Q ⟨G,ρ,P,s,re,h,k⟩=>by
    refine ⟨G,ρ,_,s,re,h,fun b v H1 G1 p1 w1 r1=>?_⟩
    split at p1
    · rename_i c e
      exact ⟨c,bres_bl w1 r1 e,k _ H1 G1 p1 w1⟩
    · exact p1.elim
def dNot (t:DTT) : DTT:=fun ρ P=>t ρ fun c=>P (!c)
theorem dt_not {t:DTT} (ha:DTe X a t) : DTe X (.UnaryOp .Not a pos) (dNot t):=
  DTe.of (pt_not ha.pt) fun σ H Q ⟨G,ρ,P,s,re,h,k⟩=>⟨G,ρ,_,s,re,h,fun b H1 G1 p1 w1=>k _ H1 G1 p1 w1⟩
def dAnd (t u:DTT) : DTT:=fun ρ P=>t ρ fun c=>(c=true→u ρ P)∧(c=false→P false)
def dOr (t u:DTT) : DTT:=fun ρ P=>t ρ fun c=>(c=true→P true)∧(c=false→u ρ P)
theorem go_onT {K:PySem.W.Frag} {H G H1 G1:Hp} {P:Bool→Prop} {Q:Bool→Hp→Prop} (k:∀b H' G',P b→Wd H G H' G'→Q b H') (w:Wd H G H1 G1) : ∀b H' G',P b→Wd H1 G1 H' G'→Q b H':=
  fun b H' G' p w'=>k b H' G' p (w.trans w')
theorem cT_and {K:PySem.W.Frag} {t u:DTT} (σ:St) (H:Hp) (Q:Bool→Hp→Prop) : cT K (dAnd t u) σ H Q→tAnd (cT K t) (cT K u) σ H Q:=by
  rintro ⟨G,ρ,P,s,re,h,k⟩
  refine ⟨G,ρ,_,s,re,h,fun c H1 G1 p1 w1=>?_⟩
  cases c with
  | true=>exact iteT ⟨G1,ρ,P,w1.gh,re.mono w1.gg,p1.1 rfl,go_onT (K:=K) k w1⟩
  | false=>exact iteF (k _ H1 G1 (p1.2 rfl) w1)
theorem cT_or {K:PySem.W.Frag} {t u:DTT} (σ:St) (H:Hp) (Q:Bool→Hp→Prop) : cT K (dOr t u) σ H Q→tOr (cT K t) (cT K u) σ H Q:=by
  rintro ⟨G,ρ,P,s,re,h,k⟩
  refine ⟨G,ρ,_,s,re,h,fun c H1 G1 p1 w1=>?_⟩
  cases c with
  | true=>exact iteT (k _ H1 G1 (p1.1 rfl) w1)
  | false=>exact iteF ⟨G1,ρ,P,w1.gh,re.mono w1.gg,p1.2 rfl,go_onT (K:=K) k w1⟩
end
end DL
namespace DL
open PySem L2
section
variable {X:Cx} {a b c e:Expr} {ta tb tc te:DT} {pos:Pos} {es:List Expr}
def dIfE (t:DTT) (ta tb:DT) : DT:=fun ρ Q=>t ρ fun c=>(c=true→ta ρ Q)∧(c=false→tb ρ Q)
def dChain (r r':D2) (ta tb tc:DT) : DT:=fun ρ Q=>ta ρ fun x=>tb ρ fun y=>r x.val y.val fun z=>match z.val with
  | .bl c=>(c=true→tc ρ fun w=>r' y.val w.val Q)∧(c=false→Q (.p (.bl false)))
  | _=>False
theorem dw_and1 {t:DTT} (ha:DTe X a t) : DW X (.BoolOp .And [a] pos) t:=⟨pw_and1 ha.pt⟩
theorem dw_or1 {t:DTT} (ha:DTe X a t) : DW X (.BoolOp .Or [a] pos) t:=⟨pw_or1 ha.pt⟩
theorem dw_and {t u:DTT} {rest:List Expr} (ha:DTe X a t) (hb:DW X (.BoolOp .And (b::rest) pos) u) : DW X (.BoolOp .And (a::b::rest) pos) (dAnd t u):=DW.of (pw_and ha.pt hb.pw) cT_and
theorem dw_or {t u:DTT} {rest:List Expr} (ha:DTe X a t) (hb:DW X (.BoolOp .Or (b::rest) pos) u) : DW X (.BoolOp .Or (a::b::rest) pos) (dOr t u):=DW.of (pw_or ha.pt hb.pw) cT_or
theorem DW.dt {t:DTT} (h:DW X e t) : DTe X e t:=⟨PW.pt h.pw⟩
def dNil:DTA:=fun _ P=>P []
def dCons (te:DT) (t:DTA) : DTA:=fun ρ P=>te ρ fun b=>t ρ fun ds=>P (b.val::ds)
theorem da_nil:DA X [] dNil:=DA.of pa_nil fun σ H Q ⟨G,ρ,P,s,re,h,k⟩=>k [] [] H G h rfl (Wd.refl s) .nil
theorem da_cons {t:DTA} (ha:DE X e te) (hr:DA X es t) (hs:starEach (e::es) X.env=(false,eval e X.env)::starEach es X.env:=by rfl) : DA X (e::es) (dCons te t):=
  DA.of (pa_cons ha.pe hr.pa hs) fun σ H Q ⟨G,ρ,P,s,re,h,k⟩=>by
    refine ⟨G,ρ,_,s,re,h,fun b v H1 G1 p1 w1 r1=>?_⟩
    obtain ⟨G1',w1',r1'⟩:=r1.give w1
    refine ⟨G1',ρ,_,w1'.gh,re.mono w1'.gg,p1,fun ds vs H2 G2 p2 l2 w2 r2=>?_⟩
    exact k _ _ H2 G2 p2 (by show ds.length+1=es.length+1; rw[l2]) (w1'.trans w2) (.cons (r1'.mono w2.gg) r2)
def dTup (t:DTA) : DT:=fun ρ Q=>t ρ fun ds=>Q (.p (.tup ds))
def dLst (t:DTA) : DT:=fun ρ Q=>t ρ fun ds=>Q (.o (.lst ds))
theorem own_new {K:PySem.W.Frag} {H G H1 G1:Hp} {vs:List V} {ds:List D} {p:Addr} (w:Wd H G H1 G1) (hp:H1 p=none) (r:Reps K G1 vs ds) : Wd H G (upd H1 p (.lst vs)) G1∧BRes K H G1 (upd H1 p (.lst vs)) (.ref p) (.o (.lst ds)):=
  ⟨w.own (w.hh.free hp) (w.gh.free hp),p,rfl,w.hh.free hp,w.gh.free hp,vs,upd_same,r⟩
theorem tup_new {K:PySem.W.Frag} {H G H1 G1:Hp} {vs:List V} {ds:List D} {p:Addr} (w:Wd H G H1 G1) (hp:H1 p=none) (r:Reps K G1 vs ds) : Wd H G (upd H1 p (.tup vs)) (upd G1 p (.tup vs))∧BRes K H (upd G1 p (.tup vs)) (upd H1 p (.tup vs)) (.ref p) (.p (.tup ds)):=
  ⟨w.new hp,Rep.tup' upd_same (Reps.mono (same_new (w.gh.free hp)) r)⟩
theorem de_tup {t:DTA} {x1} (h:DA X es t) (hn:es.length≤1000:=by exact Nat.le_of_ble_eq_true rfl) : DE X (.Tuple es x1 pos) (dTup t):=
  DE.of (pe_tup h.pa) fun σ H Q ⟨G,ρ,P,s,re,h,k⟩=>by
    refine ⟨G,ρ,_,s,re,h,fun ds vs H1 G1 p1 l1 w1 r1=>⟨small_len (by rw[Paired.length r1,l1]; exact hn),fun p hp=>?_⟩⟩
    obtain ⟨w2,r2⟩:=tup_new w1 hp r1
    exact k _ _ _ _ p1 w2 r2
theorem de_lst {t:DTA} (h:DA X es t) (hn:es.length≤1000:=by exact Nat.le_of_ble_eq_true rfl) : DE X (.List es pos) (dLst t):=
  DE.of (pe_lst h.pa) fun σ H Q ⟨G,ρ,P,s,re,h,k⟩=>by
    refine ⟨G,ρ,_,s,re,h,fun ds vs H1 G1 p1 l1 w1 r1=>⟨small_len (by rw[Paired.length r1,l1]; exact hn),fun p hp=>?_⟩⟩
    obtain ⟨w2,r2⟩:=own_new w1 hp r1
    exact k _ _ _ _ p1 w2 r2
abbrev DR:=List D→(B→Prop)→Prop
def spD (K:PySem.W.Frag) (R:DR) : Sp:=fun vs H Q _=>∃(ds:List D) (G:Hp) (P:B→Prop),Same G H∧Reps K G vs ds∧R ds P∧∀b v H' G',P b→Wd H G H' G'→BRes K H G' H' v b→Q v H'
abbrev FnD (P:Program) (w:World) (K:PySem.W.Frag) (mg:Str→Option Value) (base:Heap) (x:Str) (k:Nat) (ps:List Str) (R:DR) : Prop:=Fn P w K mg base x k ps (spD K R)
def dCall (R:DR) (t:DTA) : DT:=fun ρ Q=>t ρ fun ds=>R ds Q
theorem de_fn {x:Str} {k:Nat} {ps:List Str} {R:DR} {p:Pos} {t:DTA} (F:FnD X.prog X.w X.K X.mg X.base x k ps R) (hr:Room k X.A) (hg:Gl X x) (ha:DA X (e::es) t)
    (hdb:(x == ("__debug__" : Str))=false:=by decide) (he:starEach (e::es) X.env=(false,eval e X.env)::starEach es X.env:=by rfl) (hpl:(backTo pos (starEach es X.env)).any (·.1)=false:=by rfl) :
    DE X (.Call (.Name x p) (e::es) [] pos) (dCall R t):=
  DE.of (pe_fn F hr hg ha.pa hdb he hpl) fun σ H Q ⟨G,ρ,P,s,re,h,k⟩=>by
    refine ⟨G,ρ,_,s,re,h,fun ds vs H1 G1 p1 l1 w1 r1=>?_⟩
    show spD X.K R (vs++[]) H1 Q E0
    rw[List.append_nil]
    exact ⟨ds,G1,P,w1.gh,r1,p1,go_on k w1⟩
def CallD (X:Cx) (f:Value) (r:DR) : Prop:=∃rv,CallR X f rv∧∀(H G:Hp) (vs:List V) (ds:List D) (P:B→Prop) (Q:VK),Same G H→Reps X.K G vs ds→r ds P→(∀b v H' G',P b→Wd H G H' G'→BRes X.K H G' H' v b→Q v H')→rv vs H Q
def dCB (r:DR) (t:DTA) : DT:=fun ρ Q=>t ρ fun ds=>r ds Q
theorem cE_cb {K:PySem.W.Frag} {n:Nat} {t:DTA} {r:DR} {rv:List V→Hp→VK→Prop} (hr:∀(H G:Hp) (vs:List V) (ds:List D) (P:B→Prop) (Q:VK),Same G H→Reps K G vs ds→r ds P→(∀b v H' G',P b→Wd H G H' G'→BRes K H G' H' v b→Q v H')→rv vs H Q)
    (σ:St) (H:Hp) (Q:VK) : cE K (dCB r t) σ H Q→tCB rv (cA K n t) σ H Q:=by
  rintro ⟨G,ρ,P,s,re,h,k⟩
  exact ⟨G,ρ,_,s,re,h,fun ds vs H1 G1 p1 l1 w1 r1=>hr H1 G1 vs ds P Q w1.gh r1 p1 (go_on k w1)⟩
theorem de_callB {id:String} {x:Str} {p:Pos} {t:DTA} {r:DR} (hc:CallD X (.builtin id) r) (hg:Gl X x) (hm:X.mg x=none) (hv:bootBuiltins x=some (.builtin id)) (ha:DA X (e::es) t) (hn:x≠"__name__":=by decide) (hdb:(x == ("__debug__" : Str))=false:=by decide)
    (he:starEach (e::es) X.env=(false,eval e X.env)::starEach es X.env:=by rfl) (hpl:(backTo pos (starEach es X.env)).any (·.1)=false:=by rfl) : DE X (.Call (.Name x p) (e::es) [] pos) (dCB r t):=by
  obtain ⟨rv,h1,h2⟩:=hc
  exact DE.of (pe_callB h1 hg hm hv ha.pa hn hdb he hpl) (cE_cb h2)
theorem de_callTy {T:String} {x:Str} {p:Pos} {t:DTA} {r:DR} (hc:CallD X (.type T) r) (hg:Gl X x) (hm:X.mg x=none) (hv:bootBuiltins x=some (.type T)) (ha:DA X (e::es) t) (hn:x≠"__name__":=by decide) (hdb:(x == ("__debug__" : Str))=false:=by decide)
    (he:starEach (e::es) X.env=(false,eval e X.env)::starEach es X.env:=by rfl) (hpl:(backTo pos (starEach es X.env)).any (·.1)=false:=by rfl) : DE X (.Call (.Name x p) (e::es) [] pos) (dCB r t):=by
  obtain ⟨rv,h1,h2⟩:=hc
  exact DE.of (pe_callTy h1 hg hm hv ha.pa hn hdb he hpl) (cE_cb h2)
theorem reps1 {K:PySem.W.Frag} {G:Hp} {vs:List V} {d:D} (h:Reps K G vs [d]) : ∃v,vs = [v]∧Rep K G v d:=by
  cases h with | cons h t=>cases t; exact ⟨_,rfl,h⟩
theorem reps2 {K:PySem.W.Frag} {G:Hp} {vs:List V} {d d':D} (h:Reps K G vs [d,d']) : ∃v v',vs = [v,v']∧Rep K G v d∧Rep K G v' d':=by
  cases h with | cons h t=>obtain ⟨v',rfl,h'⟩:=reps1 t; exact ⟨_,_,rfl,h,h'⟩
theorem reps_ints {K:PySem.W.Frag} {G:Hp} : ∀{ns:List Int} {vs:List V},Reps K G vs (ns.map D.int)→vs=ns.map V.int
  | [],_,h=>by cases h; rfl
  | n::ns,_,h=>by cases h with | cons h t=>rw[h.int_inv,reps_ints t]; rfl
theorem reps_bls {K:PySem.W.Frag} {G:Hp} : ∀{ns:List Bool} {vs:List V},Reps K G vs (ns.map D.bl)→vs=ns.map V.bl
  | [],_,h=>by cases h; rfl
  | n::ns,_,h=>by cases h with | cons h t=>rw[h.bl_inv,reps_bls t]; rfl
theorem ints_reps {K:PySem.W.Frag} {G:Hp} : ∀(ns:List Int),Reps K G (ns.map V.int) (ns.map D.int)
  | []=>.nil
  | n::ns=>.cons (.int n) (ints_reps ns)
def dLen:DR:=fun ds P=>match ds with
  | [.lst xs]=>P (.p (.int xs.length))
  | [.tup xs]=>P (.p (.int xs.length))
  | [.scr ns]=>P (.p (.int ns.length))
  | [.str x]=>x.length≤sizeLine∧P (.p (.int x.length))
  | _=>False
theorem cd_len:CallD X (.builtin "len") dLen:=by
  refine ⟨_,call_lenK,fun H G vs ds P Q s r h k=>?_⟩
  unfold dLen at h
  split at h
  · obtain ⟨v,rfl,rv⟩:=reps1 r
    obtain ⟨a,us,rfl,e,rr⟩:=rv.lst_inv
    exact ⟨_,us.length,rfl,.inl ⟨us,SqL.of (s _ _ e),rfl⟩,by rw[Paired.length rr]; exact k _ _ H G h (Wd.refl s) (.int _)⟩
  · obtain ⟨v,rfl,rv⟩:=reps1 r
    obtain ⟨a,us,rfl,e,rr⟩:=rv.tup_inv
    exact ⟨_,us.length,rfl,.inr ⟨us,same_seqT s e,rfl⟩,by rw[Paired.length rr]; exact k _ _ H G h (Wd.refl s) (.int _)⟩
  · rename_i ns
    obtain ⟨v,rfl,rv⟩:=reps1 r
    cases rv with
    | scr e=>exact ⟨_,ns.length,rfl,.inl ⟨_,s.seq e,by simp⟩,k _ _ H G h (Wd.refl s) (.int _)⟩
  · rename_i x
    obtain ⟨v,rfl,rv⟩:=reps1 r
    cases rv
    exact ⟨_,x.length,rfl,⟨h.1,rfl⟩,k _ _ H G h.2 (Wd.refl s) (.int _)⟩
  · exact h.elim
def dSum:DR:=fun ds P=>match ds with
  | [.lst xs]=>∃ns:List Int,xs=ns.map D.int∧P (.p (.int ns.sum))
  | _=>False
theorem cd_sum (hc:X.calm=true) : CallD X (.builtin "sum") dSum:=by
  refine ⟨_,call_sumL hc,fun H G vs ds P Q s r h k=>?_⟩
  unfold dSum at h
  split at h
  · obtain ⟨ns,rfl,h⟩:=h
    obtain ⟨v,rfl,rv⟩:=reps1 r
    obtain ⟨a,us,rfl,e,rr⟩:=rv.lst_inv
    rw[reps_ints rr] at e
    exact ⟨a,ns,rfl,SqL.of (s _ _ e),k _ _ H G h (Wd.refl s) (.int _)⟩
  · exact h.elim
def dAll:DR:=fun ds P=>match ds with
  | [.lst xs]=>∃ns:List Bool,xs=ns.map D.bl∧P (.p (.bl (ns.all id)))
  | _=>False
def dII (g:Int→Int→Int) : DR:=fun ds P=>match ds with
  | [.int i,.int j]=>P (.p (.int (g i j)))
  | _=>False
theorem cd_II {f:Value} {g:Int→Int→Int} (h:CallR X f (fun xs H Q=>∃i j,xs = [.int i,.int j]∧Q (.int (g i j)) H)) : CallD X f (dII g):=by
  refine ⟨_,h,fun H G vs ds P Q s r h k=>?_⟩
  unfold dII at h
  split at h
  · obtain ⟨v,v',rfl,r1,r2⟩:=reps2 r
    cases r1; cases r2
    exact ⟨_,_,rfl,k _ _ H G h (Wd.refl s) (.int _)⟩
  · exact h.elim
theorem cd_min2 (hc:X.calm=true) : CallD X (.builtin "min") (dII fun i j=>if j<i then j else i):=cd_II (call_min2 hc)
def dAbs:DR:=fun ds P=>match ds with
  | [.int i]=>P (.p (.int (if i<0 then -i else i)))
  | _=>False
def dInt:DR:=fun ds P=>match ds with
  | [.int i]=>P (.p (.int i))
  | [.bl c]=>P (.p (.int (if c then 1 else 0)))
  | _=>False
def dCopy:DR:=fun ds P=>match ds with
  | [.lst xs]=>P (.o (.lst xs))
  | [.tup xs]=>P (.o (.lst xs))
  | [.scr ns]=>P (.o (.lst (ns.map D.int)))
  | _=>False
theorem cd_list:CallD X (.type "list") dCopy:=by
  refine ⟨_,call_list_of,fun H G vs ds P Q s r h k=>?_⟩
  unfold dCopy at h
  split at h
  · obtain ⟨v,rfl,rv⟩:=reps1 r
    obtain ⟨a,us,rfl,e,rr⟩:=rv.lst_inv
    refine ⟨a,us,rfl,.inl (SqL.of (s _ _ e)),fun l hl=>?_⟩
    obtain ⟨w2,r2⟩:=own_new (Wd.refl s) hl rr
    exact k _ _ _ _ h w2 r2
  · obtain ⟨v,rfl,rv⟩:=reps1 r
    obtain ⟨a,us,rfl,e,rr⟩:=rv.tup_inv
    refine ⟨a,us,rfl,.inr (same_seqT s e),fun l hl=>?_⟩
    obtain ⟨w2,r2⟩:=own_new (Wd.refl s) hl rr
    exact k _ _ _ _ h w2 r2
  · rename_i ns
    obtain ⟨v,rfl,rv⟩:=reps1 r
    cases rv with
    | scr e =>
      refine ⟨_,_,rfl,.inl (s.seq e),fun l hl=>?_⟩
      obtain ⟨w2,r2⟩:=own_new (Wd.refl s) hl (ints_reps (K:=X.K) ns)
      exact k _ _ _ _ h w2 r2
  · exact h.elim
def tyD:D→String
  | .non=>"NoneType"
  | .bl _=>"bool"
  | .int _=>"int"
  | .str _=>"str"
  | .tup _=>"tuple"
  | .lst _=>"list"
  | .scr _=>"list"
  | .dct _=>"dict"
def isD (T:String) (d:D) : Bool:=match T with
  | "int"=>(match d with | .int _=>true | .bl _=>true | _=>false)
  | "bool"=>(match d with | .bl _=>true | _=>false)
  | "str"=>(match d with | .str _=>true | _=>false)
  | "tuple"=>(match d with | .tup _=>true | _=>false)
  | "list"=>(match d with | .lst _=>true | .scr _=>true | _=>false)
  | _=>false
def dIx:D2:=fun x y Q=>match x,y with
  | .lst xs,.int i=>∃d,atI xs i=some d∧Q (.p d)
  | .tup xs,.int i=>∃d,atI xs i=some d∧Q (.p d)
  | .scr ns,.int i=>∃n,atI ns i=some n∧Q (.p (.int n))
  | .str z,.int i=>∃c,z.length≤sizeLine∧atI z.cps.toList i=some c∧Q (.p (.str ⟨#[c]⟩))
  | _,_=>False
theorem atI_rep {K:PySem.W.Frag} {G:Hp} {vs:List V} {ds:List D} {i:Int} {d:D} (r:Reps K G vs ds) (h:atI ds i=some d) : ∃v,atI vs i=some v∧Rep K G v d:=by
  unfold atI at *
  rw[Paired.length r]
  cases e:ixN ds.length i with
  | none=>rw[e] at h; cases h
  | some j =>
    rw[e] at h
    exact paired_get' r h
theorem atI_map {α β:Type} (f:α→β) {xs:List α} {i:Int} {x:α} (h:atI xs i=some x) : atI (xs.map f) i=some (f x):=by
  unfold atI at *
  rw[List.length_map]
  cases e:ixN xs.length i with
  | none=>rw[e] at h; cases h
  | some j =>
    rw[e] at h
    have h':xs[j]?=some x:=h
    show (xs.map f)[j]?=_
    rw[List.getElem?_map,h']
    rfl
theorem de_ix (ha:DE X a ta) (hb:DE X b tb) (hs:PlainIx b:=by exact fun _ _=>rfl) : DE X (.Subscript a b pos) (dOp dIx ta tb):=
  DE.of (pe_ix ix_seq ha.pe hb.pe hs) (cE_two fun H G x y dx dy P Q s rx ry h k=>by
    unfold dIx at h
    split at h
    · cases ry
      obtain ⟨d,h1,h2⟩:=h
      obtain ⟨a,us,rfl,e,rr⟩:=rx.lst_inv
      obtain ⟨v,h3,h4⟩:=atI_rep rr h1
      exact .inl ⟨a,us,_,v,rfl,rfl,SqL.of (s _ _ e),h3,k _ _ H G h2 (Wd.refl s) h4⟩
    · cases ry
      obtain ⟨d,h1,h2⟩:=h
      obtain ⟨a,us,rfl,e,rr⟩:=rx.tup_inv
      obtain ⟨v,h3,h4⟩:=atI_rep rr h1
      exact .inr (.inl ⟨a,us,_,v,rfl,rfl,same_seqT s e,h3,k _ _ H G h2 (Wd.refl s) h4⟩)
    · cases ry
      obtain ⟨n,h1,h2⟩:=h
      cases rx with
      | scr e=>exact .inl ⟨_,_,_,.int n,rfl,rfl,s.seq e,atI_map _ h1,k _ _ H G h2 (Wd.refl s) (.int _)⟩
    · cases rx; cases ry
      obtain ⟨c,h0,h1,h2⟩:=h
      exact .inr (.inr ⟨_,_,c,rfl,rfl,h0,h1,k _ _ H G h2 (Wd.refl s) (.str _)⟩)
    · exact h.elim)
abbrev DTO:=DEnv→(Option Int→Prop)→Prop
def cO (K:PySem.W.Frag) (t:DTO) : TO:=fun σ H Q=>∃(G:Hp) (ρ:DEnv) (P:Option Int→Prop),Same G H∧RepE K G σ ρ∧t ρ P∧∀o H' G',P o→Wd H G H' G'→Q o H'
structure DO (X:Cx) (e:Option Expr) (t:DTO) : Prop where
  po:PO X e (cO X.K t)
def dNoPart:DTO:=fun _ P=>P none
def dPart (t:DT) : DTO:=fun ρ P=>t ρ fun b=>match b.val with
  | .int i=>P (some i)
  | _=>False
theorem bres_int {K:PySem.W.Frag} {H G H' G':Hp} {v:V} {b:B} {c:Int} (w:Wd H G H' G') (r:BRes K H G' H' v b) (e:b.val=.int c) : v=.int c:=by
  obtain ⟨G1,_,r1⟩:=r.give w
  rw[e] at r1
  exact r1.int_inv
theorem PO.imp {e:Option Expr} {t t':TO} (h:PO X e t) (i:∀σ H Q,t' σ H Q→t σ H Q) : PO X e t':=fun pins s σ H Q I q=>h pins s σ H Q I (i σ H Q q)
theorem DO.of {e:Option Expr} {t:TO} {t':DTO} (h:PO X e t) (i:∀σ H Q,cO X.K t' σ H Q→t σ H Q) : DO X e t':=⟨PO.imp h i⟩
theorem do_none:DO X none dNoPart:=DO.of po_none fun σ H Q ⟨G,ρ,P,s,re,h,k⟩=>k _ H G h (Wd.refl s)
theorem do_some (he:DE X e te) : DO X (some e) (dPart te):=DO.of (po_some he.pe) fun σ H Q ⟨G,ρ,P,s,re,h,k⟩=>by
  refine ⟨G,ρ,_,s,re,h,fun b v H1 G1 p1 w1 r1=>?_⟩
  split at p1
  · rename_i i e
    exact ⟨i,bres_int w1 r1 e,k _ H1 G1 p1 w1⟩
  · exact p1.elim
def cutL {α:Type} (xs:List α) (lo hi:Option Int) : List α:=(xs.drop (HT.sIx xs.length 0 lo)).take (HT.sIx xs.length xs.length hi - HT.sIx xs.length 0 lo)
theorem paired_drop {α β:Type} {F:α→β→Prop} : ∀{l:List α} {r:List β} (n:Nat),Paired F l r→Paired F (l.drop n) (r.drop n)
  | _,_,0,h=>h
  | _,_,n+1,.nil=>by rw[List.drop_nil,List.drop_nil]; exact .nil
  | _,_,n+1,.cons _ t=>paired_drop n t
theorem paired_take {α β:Type} {F:α→β→Prop} : ∀{l:List α} {r:List β} (n:Nat),Paired F l r→Paired F (l.take n) (r.take n)
  | _,_,0,h=>by rw[List.take_zero,List.take_zero]; exact .nil
  | _,_,n+1,.nil=>by rw[List.take_nil,List.take_nil]; exact .nil
  | _,_,n+1,.cons h t=>.cons h (paired_take n t)
theorem reps_cut {K:PySem.W.Frag} {G:Hp} {vs:List V} {ds:List D} (r:Reps K G vs ds) (lo hi:Option Int) : Reps K G (cutV vs lo hi) (cutL ds lo hi):=by
  unfold cutV cutL
  rw[Paired.length r]
  exact paired_take _ (paired_drop _ r)
def dSl (te:DT) (tl th:DTO) : DT:=fun ρ Q=>te ρ fun b=>tl ρ fun lo=>th ρ fun hi=>match b.val with
  | .lst xs=>Q (.o (.lst (cutL xs lo hi)))
  | .scr ns=>Q (.o (.lst ((cutL ns lo hi).map D.int)))
  | .tup xs=>¬(HT.sIx xs.length 0 lo=0∧HT.sIx xs.length xs.length hi=xs.length)∧Q (.p (.tup (cutL xs lo hi)))
  | _=>False
theorem cutV_map {α:Type} (f:α→V) (xs:List α) (lo hi:Option Int) : cutV (xs.map f) lo hi=(cutL xs lo hi).map f:=by
  unfold cutV cutL
  rw[List.length_map,List.map_take,List.map_drop]
theorem de_slice {lo hi:Option Expr} {tl th:DTO} {p2:Pos} (he:DE X e te) (hl:DO X lo tl) (hu:DO X hi th) : DE X (.Subscript e (.Slice lo hi none p2) pos) (dSl te tl th):=
  DE.of (pe_slice (sl_list.or sl_tup) he.pe hl.po hu.po) fun σ H Q ⟨G,ρ,P,s,re,h,k⟩=>by
    refine ⟨G,ρ,_,s,re,h,fun b v H1 G1 p1 w1 r1=>?_⟩
    obtain ⟨G1',w1',r1'⟩:=r1.give w1
    refine ⟨G1',ρ,_,w1'.gh,re.mono w1'.gg,p1,fun l H2 G2 p2 w2=>?_⟩
    have w12:=w1'.trans w2
    refine ⟨G2,ρ,_,w2.gh,re.mono w12.gg,p2,fun u H3 G3 p3 w3=>?_⟩
    have w13:=w12.trans w3
    have r3:=r1'.mono (w2.trans w3).gg
    split at p3
    · rename_i xs e
      rw[e] at r3
      obtain ⟨a,us,rfl,e,rr⟩:=r3.lst_inv
      refine .inl ⟨a,us,rfl,SqL.of (w3.gh _ _ e),fun p hp=>?_⟩
      obtain ⟨w4,r4⟩:=own_new w13 hp (reps_cut rr l u)
      exact k _ _ _ _ p3 w4 r4
    · rename_i ns e
      rw[e] at r3
      cases r3 with
      | scr e =>
        refine .inl ⟨_,_,rfl,w3.gh.seq e,fun p hp=>?_⟩
        rw[cutV_map]
        obtain ⟨w4,r4⟩:=own_new w13 hp (ints_reps (K:=X.K) (cutL ns l u))
        exact k _ _ _ _ p3 w4 r4
    · rename_i xs e
      rw[e] at r3
      obtain ⟨a,us,rfl,e,rr⟩:=r3.tup_inv
      refine .inr ⟨a,us,rfl,same_seqT w3.gh e,by rw[Paired.length rr]; exact p3.1,fun p hp=>?_⟩
      obtain ⟨w4,r4⟩:=tup_new w13 hp (reps_cut rr l u)
      exact k _ _ _ _ p3.2 w4 r4
    · exact p3.elim
theorem reps_pick {K:PySem.W.Frag} {G:Hp} {vs:List V} {ds:List D} (r:Reps K G vs ds) : ∀js:List Nat,Reps K G (js.filterMap fun j=>vs[j]?) (js.filterMap fun j=>ds[j]?)
  | []=>.nil
  | j::js=>by
    rw[List.filterMap_cons,List.filterMap_cons]
    cases e:ds[j]? with
    | none =>
      have:vs[j]?=none:=by
        rw[List.getElem?_eq_none_iff] at e ⊢
        rw[Paired.length r]; exact e
      rw[this]
      exact reps_pick r js
    | some d =>
      obtain ⟨v,h1,h2⟩:=paired_get' r e
      rw[h1]
      exact .cons h2 (reps_pick r js)
theorem reps_step {K:PySem.W.Frag} {G:Hp} {vs:List V} {ds:List D} (r:Reps K G vs ds) (lo hi st:Option Int) : Reps K G (stepV vs lo hi st) (stepV ds lo hi st):=by
  unfold stepV
  rw[Paired.length r]
  exact reps_pick r _
def dSlS (te:DT) (tl th ts:DTO) : DT:=fun ρ Q=>te ρ fun b=>tl ρ fun lo=>th ρ fun hi=>ts ρ fun st=>st≠some 0∧match b.val with
  | .lst xs=>Q (.o (.lst (stepV xs lo hi st)))
  | .scr ns=>Q (.o (.lst ((stepV ns lo hi st).map D.int)))
  | _=>False
theorem de_sliceS {lo hi:Option Expr} {st:Expr} {tl th ts:DTO} {p2:Pos} (he:DE X e te) (hl:DO X lo tl) (hu:DO X hi th) (hs:DO X (some st) ts) : DE X (.Subscript e (.Slice lo hi (some st) p2) pos) (dSlS te tl th ts):=
  DE.of (pe_sliceS he.pe hl.po hu.po hs.po) fun σ H Q ⟨G,ρ,P,s,re,h,k⟩=>by
    refine ⟨G,ρ,_,s,re,h,fun b v H1 G1 p1 w1 r1=>?_⟩
    obtain ⟨G1',w1',r1'⟩:=r1.give w1
    refine ⟨G1',ρ,_,w1'.gh,re.mono w1'.gg,p1,fun l H2 G2 p2 w2=>?_⟩
    have w12:=w1'.trans w2
    refine ⟨G2,ρ,_,w2.gh,re.mono w12.gg,p2,fun u H3 G3 p3 w3=>?_⟩
    have w13:=w12.trans w3
    refine ⟨G3,ρ,_,w3.gh,re.mono w13.gg,p3,fun st H4 G4 p4 w4=>?_⟩
    have w14:=w13.trans w4
    have r3:=r1'.mono ((w2.trans w3).trans w4).gg
    obtain ⟨h0,p4⟩:=p4
    split at p4
    · rename_i xs e
      rw[e] at r3
      obtain ⟨a,us,rfl,e,rr⟩:=r3.lst_inv
      refine ⟨a,us,rfl,SqL.of (w4.gh _ _ e),h0,fun p hp=>?_⟩
      obtain ⟨w5,r5⟩:=own_new w14 hp (reps_step rr l u st)
      exact k _ _ _ _ p4 w5 r5
    · rename_i ns e
      rw[e] at r3
      cases r3 with
      | scr e =>
        refine ⟨_,_,rfl,w4.gh.seq e,h0,fun p hp=>?_⟩
        rw[stepV_map]
        obtain ⟨w5,r5⟩:=own_new w14 hp (ints_reps (K:=X.K) (stepV ns l u st))
        exact k _ _ _ _ p4 w5 r5
    · exact p4.elim
def dAdd:D2:=fun x y Q=>match x,y with
  | .int i,.int j=>Q (.p (.int (i+j)))
  | .lst xs,.lst ys=>xs.length+ys.length≤sizeLine∧Q (.o (.lst (xs++ys)))
  | .str x,.str y=>x.length+y.length≤sizeLine∧Q (.p (.str (x++y)))
  | .tup xs,.tup ys=>xs≠[]∧ys≠[]∧xs.length+ys.length≤sizeLine∧Q (.p (.tup (xs++ys)))
  | _,_=>False
theorem OpR.or {f:Value→Value→Sem Value} {r r':R2} (h:OpR X f r) (h':OpR X f r') : OpR X f (fun x y H Q=>r x y H Q∨r' x y H Q):=by
  intro pins s σ H x y v u Q I rx ry q
  rcases q with q | q
  · exact h pins s σ H x y v u Q I rx ry q
  · exact h' pins s σ H x y v u Q I rx ry q
theorem paired_app {α β:Type} {F:α→β→Prop} : ∀{l l':List α} {r r':List β},Paired F l r→Paired F l' r'→Paired F (l++l') (r++r')
  | _,_,_,_,.nil,h=>h
  | _,_,_,_,.cons h t,h'=>.cons h (paired_app t h')
theorem od_plus:OpD X (binaryOp .Add) dAdd:=by
  refine ⟨_,op_add.or (op_cat.or (op_add_str.or op_catT)),fun H G x y dx dy P Q s rx ry h k=>?_⟩
  unfold dAdd at h
  split at h
  · cases rx; cases ry
    exact .inl ⟨_,_,rfl,rfl,k _ _ H G h (Wd.refl s) (.int _)⟩
  · obtain ⟨a,us,rfl,e,rr⟩:=rx.lst_inv
    obtain ⟨a',us',rfl,e',rr'⟩:=ry.lst_inv
    refine .inr (.inl ⟨a,a',us,us',rfl,rfl,s _ _ e,s _ _ e',by rw[Paired.length rr,Paired.length rr']; exact h.1,fun p hp=>?_⟩)
    obtain ⟨w2,r2⟩:=own_new (Wd.refl s) hp (paired_app rr rr')
    exact k _ _ _ _ h.2 w2 r2
  · cases rx; cases ry
    exact .inr (.inr (.inl ⟨_,_,rfl,rfl,h.1,k _ _ H G h.2 (Wd.refl s) (.str _)⟩))
  · obtain ⟨h1,h2,h3,h4⟩:=h
    obtain ⟨a,us,rfl,e,rr⟩:=rx.tup_inv
    obtain ⟨a',us',rfl,e',rr'⟩:=ry.tup_inv
    refine .inr (.inr (.inr ⟨a,a',us,us',rfl,rfl,same_seqT s e,same_seqT s e',fun z=>?_,by rw[Paired.length rr,Paired.length rr']; exact h3,fun z=>?_,fun _ p hp=>?_⟩))
    · subst z; cases rr; exact h1 rfl
    · subst z; cases rr'; exact (h2 rfl).elim
    · obtain ⟨w2,r2⟩:=tup_new (Wd.refl s) hp (paired_app rr rr')
      exact k _ _ _ _ h4 w2 r2
  · exact h.elim
def dMul:D2:=fun x y Q=>match x,y with
  | .int i,.int j=>CMul i j∧Q (.p (.int (i*j)))
  | .lst xs,.int k=>(-(2 ^ 63)≤k∧k<2 ^ 63)∧xs.length*k.toNat≤sizeLine∧Q (.o (.lst (List.replicate k.toNat xs).flatten))
  | _,_=>False
theorem reps_rep {K:PySem.W.Frag} {G:Hp} {vs:List V} {ds:List D} (r:Reps K G vs ds) : ∀n:Nat,Reps K G (List.replicate n vs).flatten (List.replicate n ds).flatten
  | 0=>.nil
  | n+1=>by
    rw[List.replicate_succ,List.replicate_succ,List.flatten_cons,List.flatten_cons]
    exact paired_app r (reps_rep r n)
theorem od_times:OpD X (binaryOp .Mult) dMul:=by
  refine ⟨_,op_mul.or op_rep,fun H G x y dx dy P Q s rx ry h k=>?_⟩
  unfold dMul at h
  split at h
  · cases rx; cases ry
    exact .inl ⟨_,_,rfl,rfl,h.1,k _ _ H G h.2 (Wd.refl s) (.int _)⟩
  · cases ry
    obtain ⟨a,us,rfl,e,rr⟩:=rx.lst_inv
    obtain ⟨⟨h1,h2⟩,h3,h4⟩:=h
    refine .inr ⟨a,_,us,rfl,rfl,s _ _ e,h1,h2,by rw[Paired.length rr]; exact h3,fun p hp=>?_⟩
    obtain ⟨w2,r2⟩:=own_new (Wd.refl s) hp (reps_rep rr _)
    exact k _ _ _ _ h4 w2 r2
  · exact h.elim
end
end DL
namespace DL
open PySem L2
mutual
def peq:D→D→Bool
  | .non,.non=>true
  | .bl a,.bl b=>a == b
  | .bl a,.int b=>(if a then 1 else 0) == b
  | .int a,.bl b=>a == (if b then 1 else 0)
  | .int a,.int b=>a == b
  | .str a,.str b=>a == b
  | .tup xs,.tup ys=>peqs xs ys
  | .lst xs,.lst ys=>peqs xs ys
  | _,_=>false
def peqs:List D→List D→Bool
  | [],[]=>true
  | x::xs,y::ys=>peq x y && peqs xs ys
  | _,_=>false
end
mutual
def dep:D→Nat
  | .tup xs=>deps xs+1
  | .lst xs=>deps xs+1
  | _=>0
def deps:List D→Nat
  | []=>0
  | x::xs=>max (dep x) (deps xs)
end
mutual
def nos:D→Bool
  | .tup xs=>noss xs
  | .lst xs=>noss xs
  | .scr _=>false
  | .dct _=>false
  | _=>true
def noss:List D→Bool
  | []=>true
  | x::xs=>nos x && noss xs
end
theorem nos_tup (xs:List D) : nos (.tup xs)=noss xs:=by rw[nos]
theorem nos_lst (xs:List D) : nos (.lst xs)=noss xs:=by rw[nos]
theorem nos_int (i:Int) : nos (.int i)=true:=by unfold nos; rfl
theorem noss_nil:noss []=true:=by rw[noss]
theorem noss_cons (x:D) (xs:List D) : noss (x::xs)=(nos x && noss xs):=by rw[noss]
theorem dep_tup (xs:List D) : dep (.tup xs)=deps xs+1:=by rw[dep]
theorem dep_lst (xs:List D) : dep (.lst xs)=deps xs+1:=by rw[dep]
theorem dep_int (i:Int) : dep (.int i)=0:=by unfold dep; rfl
theorem deps_nil:deps []=0:=by rw[deps]
theorem deps_cons (x:D) (xs:List D) : deps (x::xs)=max (dep x) (deps xs):=by rw[deps]
theorem deps_get:∀{xs:List D} {i:Nat} {x:D},xs[i]?=some x→dep x≤deps xs
  | [],_,_,h=>by simp at h
  | y::xs,0,x,h=>by simp at h; subst h; unfold deps; exact Nat.le_max_left _ _
  | y::xs,i+1,x,h=>by
    have:=deps_get (xs:=xs) (i:=i) (x:=x) (by simpa using h)
    unfold deps
    exact Nat.le_trans this (Nat.le_max_right _ _)
theorem noss_get:∀{xs:List D} {i:Nat} {x:D},noss xs=true→xs[i]?=some x→nos x=true
  | [],_,_,_,h=>by simp at h
  | y::xs,0,x,n,h=>by simp at h; subst h; unfold noss at n; exact (Bool.and_eq_true _ _ ▸ n).1
  | y::xs,i+1,x,n,h=>by
    unfold noss at n
    exact noss_get (xs:=xs) (i:=i) (x:=x) (Bool.and_eq_true _ _ ▸ n).2 (by simpa using h)
theorem all_succ (n:Nat) (f:Nat→Bool) : (List.range (n+1)).all f=(f 0 && (List.range n).all fun i=>f (i+1)):=by
  rw[List.range_succ_eq_map,List.all_cons,List.all_map]
  rfl
theorem peqs_all:∀(xs ys:List D),peqs xs ys=((List.range (min xs.length ys.length)).all (fun i=>match xs[i]?,ys[i]? with | some x,some y=>peq x y | _,_=>true) && xs.length == ys.length)
  | [],[]=>by unfold peqs; rfl
  | [],y::ys=>by unfold peqs; simp
  | x::xs,[]=>by unfold peqs; simp
  | x::xs,y::ys=>by
    unfold peqs
    rw[peqs_all xs ys]
    have:min (x::xs).length (y::ys).length=min xs.length ys.length+1:=by simp only[List.length_cons]; lia
    rw[this,all_succ]
    simp only[List.getElem?_cons_zero,List.getElem?_cons_succ,List.length_cons,Bool.and_assoc]
    congr 2
    simp
def eqAtI (xs ys:List D) (i:Nat) : Bool:=match xs[i]?,ys[i]? with | some x,some y=>peq x y | _,_=>true
section
variable {X:Cx} {pins:List (Addr×Obj)} {σ:St} {H G:Hp} {s:Shared}
theorem items_eqAt {A:Around} {us us':List Value} {vs vs':List V} {ds ds':List D} (r1:Vals vs us) (r2:Vals vs' us') (k1:Reps X.K G vs ds) (k2:Reps X.K G vs' ds')
    (ih:∀(i:Nat) (d d':D) (x y:V) (u v:Value),ds[i]?=some d→ds'[i]?=some d'→Rep X.K G x d→Rep X.K G y d'→RelV x u→RelV y v→SeqAt.EqAt A s u v (peq d d')) :
    ∀j (h1:j<us.toArray.size) (h2:j<us'.toArray.size),SeqAt.EqAt A s us.toArray[j] us'.toArray[j] (eqAtI ds ds' j):=fun j q1 q2=>by
  have q1':j<us.length:=by simpa using q1
  have q2':j<us'.length:=by simpa using q2
  have l1:=r1.length
  have l2:=r2.length
  have e1:vs[j]?=some vs[j]:=List.getElem?_eq_getElem (by lia)
  have e2:vs'[j]?=some vs'[j]:=List.getElem?_eq_getElem (by lia)
  obtain ⟨u1,g1,s1⟩:=r1.get e1
  obtain ⟨u2,g2,s2⟩:=r2.get e2
  obtain ⟨d1,f1,t1⟩:=WS.paired_get k1 e1
  obtain ⟨d2,f2,t2⟩:=WS.paired_get k2 e2
  have z1:us.toArray[j]=u1:=by rw[List.getElem?_eq_getElem q1'] at g1; simpa using Option.some.inj g1
  have z2:us'.toArray[j]=u2:=by rw[List.getElem?_eq_getElem q2'] at g2; simpa using Option.some.inj g2
  rw[z1,z2]
  unfold eqAtI
  rw[f1,f2]
  exact ih j d1 d2 _ _ _ _ f1 f2 t1 t2 s1 s2
theorem peqs_tup (xs ys:List D) : peqs xs ys=((List.range (min xs.length ys.length)).all (eqAtI xs ys) && xs.length == ys.length):=peqs_all xs ys
theorem peqs_lst {xs ys:List D} (h:xs.length=ys.length) : peqs xs ys=(List.range xs.length).all (eqAtI xs ys):=by
  rw[peqs_tup,h]
  simp
theorem peqs_len {xs ys:List D} (h:xs.length≠ys.length) : peqs xs ys=false:=by
  rw[peqs_tup]
  have:(xs.length == ys.length)=false:=by simpa using h
  rw[this,Bool.and_false]
theorem sz {vs:List V} {us:List Value} {ds:List D} (r:Vals vs us) (k:Reps X.K G vs ds) : us.toArray.size=ds.length:=by
  rw[List.size_toArray,←r.length,Paired.length k]
mutual
theorem peq_refl:∀d:D,nos d=true→peq d d=true
  | .non,_=>by unfold peq; rfl
  | .bl a,_=>by unfold peq; simp
  | .int a,_=>by unfold peq; simp
  | .str a,_=>by unfold peq; simp
  | .tup xs,h=>by unfold peq; unfold nos at h; exact peqs_refl' xs h
  | .lst xs,h=>by unfold peq; unfold nos at h; exact peqs_refl' xs h
  | .scr _,h=>by unfold nos at h; cases h
  | .dct _,h=>by unfold nos at h; cases h
theorem peqs_refl':∀ds:List D,noss ds=true→peqs ds ds=true
  | [],_=>by unfold peqs; rfl
  | d::ds,h=>by
    unfold noss at h
    have h':=Bool.and_eq_true _ _ ▸ h
    unfold peqs
    rw[peq_refl d h'.1,peqs_refl' ds h'.2]
    rfl
end
theorem rep_inj (I:Inv X pins σ H s) (sG:Same G H) {x:V} {d:D} (h:Rep X.K G x d) : nos d=true→∀{d':D},Rep X.K G x d'→nos d'=true→d=d':=by
  induction h with
  | non=>intro _ d' h _; cases h; rfl
  | bl b=>intro _ d' h _; cases h; rfl
  | int i=>intro _ d' h _; cases h; rfl
  | str z=>intro _ d' h _; cases h; rfl
  | scr _=>intro n; unfold nos at n; cases n
  | dct _=>intro n; unfold nos at n; cases n
  | @tup a vs ds h l r ih =>
    intro n d' h' n'
    unfold nos at n
    cases h' with
    | scr _=>unfold nos at n'; cases n'
    | dct _=>unfold nos at n'; cases n'
    | lst h2 l2 r2 =>
      obtain ⟨_,_,t1,_⟩:=I.tuple (same_seqT sG (.inl (.inl h)))
      obtain ⟨_,_,t2,_⟩:=I.list (SqL.of (sG _ _ h2))
      exact absurd rfl (SeqAt.ne_of_list_tuple t2.isList t1)
    | @tup _ _ ds2 h2 l2 r2 =>
      unfold nos at n'
      have e:=I.tuple_inj (same_seqT sG (.inl (.inl h))) (same_seqT sG (.inl (.inl h2)))
      subst e
      congr 1
      refine List.ext_getElem? fun i=>?_
      by_cases hi:i<vs.length
      · rw [List.getElem?_eq_getElem (show i < _ by lia), List.getElem?_eq_getElem (show i < _ by lia)]
        have e1:=List.getElem?_eq_getElem (l:=ds) (show i<_ by lia)
        have e2:=List.getElem?_eq_getElem (l:=ds2) (show i<_ by lia)
        exact congrArg some (ih i _ _ (List.getElem?_eq_getElem hi) e1 (noss_get n e1) (r2 i _ _ (List.getElem?_eq_getElem hi) e2) (noss_get n' e2))
      · rw[List.getElem?_eq_none (by lia),List.getElem?_eq_none (by lia)]
  | @lst a vs ds h l r ih =>
    intro n d' h' n'
    unfold nos at n
    cases h' with
    | scr _=>unfold nos at n'; cases n'
    | dct _=>unfold nos at n'; cases n'
    | tup h2 l2 r2 =>
      obtain ⟨_,_,t1,_⟩:=I.tuple (same_seqT sG (.inl (.inl h2)))
      obtain ⟨_,_,t2,_⟩:=I.list (SqL.of (sG _ _ h))
      exact absurd rfl (SeqAt.ne_of_list_tuple t2.isList t1)
    | @lst _ _ ds2 h2 l2 r2 =>
      unfold nos at n'
      rw[h] at h2
      cases h2
      congr 1
      refine List.ext_getElem? fun i=>?_
      by_cases hi:i<vs.length
      · rw [List.getElem?_eq_getElem (show i < _ by lia), List.getElem?_eq_getElem (show i < _ by lia)]
        have e1:=List.getElem?_eq_getElem (l:=ds) (show i<_ by lia)
        have e2:=List.getElem?_eq_getElem (l:=ds2) (show i<_ by lia)
        exact congrArg some (ih i _ _ (List.getElem?_eq_getElem hi) e1 (noss_get n e1) (r2 i _ _ (List.getElem?_eq_getElem hi) e2) (noss_get n' e2))
      · rw[List.getElem?_eq_none (by lia),List.getElem?_eq_none (by lia)]
theorem eqAt_D (I:Inv X pins σ H s) (sG:Same G H) : ∀(n:Nat) (dx dy:D),dep dx≤n→nos dx=true→nos dy=true→∀{x y:V} {u v:Value} {A:Around},Rep X.K G x dx→Rep X.K G y dy→RelV x u→RelV y v→A.units+n<cLine→SeqAt.EqAt A s u v (peq dx dy):=by
  intro n
  induction n with
  | zero =>
    intro dx dy hd n1 n2 x y u v A rx ry ru rv hu
    have hu0:A.units<cLine:=hu
    cases rx with
    | scr _=>unfold nos at n1; cases n1
    | dct _=>unfold nos at n1; cases n1
    | tup h l r=>unfold dep at hd; lia
    | lst h l r=>unfold dep at hd; lia
    | non =>
      cases ru
      cases ry with
      | scr _=>unfold nos at n2; cases n2
      | dct _=>unfold nos at n2; cases n2
      | non=>cases rv; unfold peq; exact SeqAt.EqAt.same _
      | bl b=>cases rv; unfold peq; exact SeqAt.EqAt.none_bool b
      | int i=>obtain ⟨t,rfl⟩:=rv; unfold peq; exact SeqAt.EqAt.none_int i t
      | str z=>obtain ⟨t,rfl⟩:=rv; unfold peq; exact SeqAt.EqAt.none_str z t
      | tup h l r=>cases rv; obtain ⟨is,r1,t1,z1⟩:=I.tuple (same_seqT sG (.inl (.inl h))); unfold peq; exact SeqAt.EqAt.none_tuple t1 hu0
      | lst h l r=>cases rv; obtain ⟨is,r1,t1,z1⟩:=I.list (SqL.of (sG _ _ h)); unfold peq; exact SeqAt.EqAt.none_list t1.isList hu0
    | bl a =>
      cases ru
      cases ry with
      | scr _=>unfold nos at n2; cases n2
      | dct _=>unfold nos at n2; cases n2
      | non=>cases rv; unfold peq; exact SeqAt.EqAt.bool_none a
      | bl b=>cases rv; unfold peq; exact SeqAt.EqAt.bool_bool a b
      | int i=>obtain ⟨t,rfl⟩:=rv; unfold peq; exact SeqAt.EqAt.bool_int a i t
      | str z=>obtain ⟨t,rfl⟩:=rv; unfold peq; exact SeqAt.EqAt.bool_str a z t
      | tup h l r=>cases rv; obtain ⟨is,r1,t1,z1⟩:=I.tuple (same_seqT sG (.inl (.inl h))); unfold peq; exact SeqAt.EqAt.bool_tuple a t1 hu0
      | lst h l r=>cases rv; obtain ⟨is,r1,t1,z1⟩:=I.list (SqL.of (sG _ _ h)); unfold peq; exact SeqAt.EqAt.bool_list a t1.isList hu0
    | int a =>
      obtain ⟨tt,rfl⟩:=ru
      cases ry with
      | scr _=>unfold nos at n2; cases n2
      | dct _=>unfold nos at n2; cases n2
      | non=>cases rv; unfold peq; exact SeqAt.EqAt.int_none a tt
      | bl b=>cases rv; unfold peq; exact SeqAt.EqAt.int_bool a tt b
      | int i=>obtain ⟨t,rfl⟩:=rv; unfold peq; exact SeqAt.EqAt.int_int a tt i t
      | str z=>obtain ⟨t,rfl⟩:=rv; unfold peq; exact SeqAt.EqAt.int_str a tt z t
      | tup h l r=>cases rv; obtain ⟨is,r1,t1,z1⟩:=I.tuple (same_seqT sG (.inl (.inl h))); unfold peq; exact SeqAt.EqAt.int_tuple a tt t1 hu0
      | lst h l r=>cases rv; obtain ⟨is,r1,t1,z1⟩:=I.list (SqL.of (sG _ _ h)); unfold peq; exact SeqAt.EqAt.int_list a tt t1.isList hu0
    | str a =>
      obtain ⟨tt,rfl⟩:=ru
      cases ry with
      | scr _=>unfold nos at n2; cases n2
      | dct _=>unfold nos at n2; cases n2
      | non=>cases rv; unfold peq; exact SeqAt.EqAt.str_none a tt
      | bl b=>cases rv; unfold peq; exact SeqAt.EqAt.str_bool a tt b
      | int i=>obtain ⟨t,rfl⟩:=rv; unfold peq; exact SeqAt.EqAt.str_int a tt i t
      | str z=>obtain ⟨t,rfl⟩:=rv; unfold peq; exact SeqAt.EqAt.str_str a tt z t
      | tup h l r=>cases rv; obtain ⟨is,r1,t1,z1⟩:=I.tuple (same_seqT sG (.inl (.inl h))); unfold peq; exact SeqAt.EqAt.str_tuple a tt t1 hu0
      | lst h l r=>cases rv; obtain ⟨is,r1,t1,z1⟩:=I.list (SqL.of (sG _ _ h)); unfold peq; exact SeqAt.EqAt.str_list a tt t1.isList hu0
  | succ n ihn =>
    intro dx dy hd n1 n2 x y u v A rx ry ru rv hu
    have hu0:A.units<cLine:=by lia
    by_cases hs:dep dx=0
    · exact ihn dx dy (by lia) n1 n2 rx ry ru rv (by lia)
    cases rx with
    | scr _=>unfold nos at n1; cases n1
    | dct _=>unfold nos at n1; cases n1
    | non=>unfold dep at hs; exact absurd rfl hs
    | bl _=>unfold dep at hs; exact absurd rfl hs
    | int _=>unfold dep at hs; exact absurd rfl hs
    | str _=>unfold dep at hs; exact absurd rfl hs
    | @tup a vs ds h l r =>
      cases ru
      obtain ⟨is,r1,t1,z1⟩:=I.tuple (same_seqT sG (.inl (.inl h)))
      cases ry with
      | scr _=>unfold nos at n2; cases n2
      | dct _=>unfold nos at n2; cases n2
      | non=>cases rv; unfold peq; exact SeqAt.EqAt.tuple_none t1 hu0
      | bl b=>cases rv; unfold peq; exact SeqAt.EqAt.tuple_bool b t1 hu0
      | int i=>obtain ⟨t,rfl⟩:=rv; unfold peq; exact SeqAt.EqAt.tuple_int i t t1 hu0
      | str z=>obtain ⟨t,rfl⟩:=rv; unfold peq; exact SeqAt.EqAt.tuple_str z t t1 hu0
      | lst h2 l2 rr2=>cases rv; obtain ⟨is2,r2,t2,z2⟩:=I.list (SqL.of (sG _ _ h2)); unfold peq; exact SeqAt.EqAt.tuple_list t1 t2.isList hu0
      | @tup a' vs' ds' h2 l2 rr2 =>
        cases rv
        obtain ⟨is2,r2,t2,z2⟩:=I.tuple (same_seqT sG (.inl (.inl h2)))
        unfold peq
        unfold dep at hd
        unfold nos at n1 n2
        have key:=SeqAt.RcAt.tuples (A:=A) (s:=s) (e:=eqAtI ds ds') t1 t2 hu0 (items_eqAt (X:=X) (G:=G) r1 r2 (paired_of l r) (paired_of l2 rr2) fun i d d' x y u v e1 e2 k1 k2 w1 w2 =>
          ihn d d' (by have:=deps_get e1; lia) (noss_get n1 e1) (noss_get n2 e2) k1 k2 w1 w2 (by show A.units+1+n<cLine; lia))
        rw[sz r1 (paired_of l r),sz r2 (paired_of l2 rr2),←peqs_tup] at key
        by_cases hab:a=a'
        · subst hab
          have e:ds=ds':=by
            have:=rep_inj I sG (.tup h l r) (by unfold nos; exact n1) (.tup h2 l2 rr2) (by unfold nos; exact n2)
            injection this
          subst e
          rw[peqs_refl' ds n1]
          exact SeqAt.EqAt.same _
        · exact SeqAt.EqAt.of_refs hab key
    | @lst a vs ds h l r =>
      cases ru
      obtain ⟨is,r1,t1,z1⟩:=I.list (SqL.of (sG _ _ h))
      cases ry with
      | scr _=>unfold nos at n2; cases n2
      | dct _=>unfold nos at n2; cases n2
      | non=>cases rv; unfold peq; exact SeqAt.EqAt.list_none t1.isList hu0
      | bl b=>cases rv; unfold peq; exact SeqAt.EqAt.list_bool b t1.isList hu0
      | int i=>obtain ⟨t,rfl⟩:=rv; unfold peq; exact SeqAt.EqAt.list_int i t t1.isList hu0
      | str z=>obtain ⟨t,rfl⟩:=rv; unfold peq; exact SeqAt.EqAt.list_str z t t1.isList hu0
      | tup h2 l2 rr2=>cases rv; obtain ⟨is2,r2,t2,z2⟩:=I.tuple (same_seqT sG (.inl (.inl h2))); unfold peq; exact SeqAt.EqAt.list_tuple t1.isList t2 hu0
      | @lst a' vs' ds' h2 l2 rr2 =>
        cases rv
        obtain ⟨is2,r2,t2,z2⟩:=I.list (SqL.of (sG _ _ h2))
        unfold peq
        unfold dep at hd
        unfold nos at n1 n2
        by_cases hab:a=a'
        · subst hab
          have e:ds=ds':=by
            have:=rep_inj I sG (.lst h l r) (by unfold nos; exact n1) (.lst h2 l2 rr2) (by unfold nos; exact n2)
            injection this
          subst e
          rw[peqs_refl' ds n1]
          exact SeqAt.EqAt.same _
        · refine SeqAt.EqAt.of_refs hab ?_
          by_cases hlen:ds.length=ds'.length
          · have key:=SeqAt.RcAt.lists (A:=A) (s:=s) (e:=eqAtI ds ds') t1.isList t2.isList (by rw[sz r1 (paired_of l r),sz r2 (paired_of l2 rr2)]; exact hlen) hu0 (items_eqAt (X:=X) (G:=G) r1 r2 (paired_of l r) (paired_of l2 rr2) fun i d d' x y u v e1 e2 k1 k2 w1 w2 =>
              ihn d d' (by have:=deps_get e1; lia) (noss_get n1 e1) (noss_get n2 e2) k1 k2 w1 w2 (by show A.units+1+n<cLine; lia))
            rw[sz r1 (paired_of l r),←peqs_lst hlen] at key
            exact key
          · rw[peqs_len hlen]
            exact SeqAt.RcAt.lists_lengths t1.isList t2.isList (by rw[sz r1 (paired_of l r),sz r2 (paired_of l2 rr2)]; simpa using hlen) hu0
theorem rcAt_D (I:Inv X pins σ H s) (sG:Same G H) {dx dy:D} {x y:V} {u v:Value} {A:Around} (n1:nos dx=true) (n2:nos dy=true) (rx:Rep X.K G x dx) (ry:Rep X.K G y dy) (ru:RelV x u) (rv:RelV y v) (hu:A.units+dep dx<cLine) :
    SeqAt.RcAt A s u v (peq dx dy)∧SeqAt.RcNeAt A s u v (!(peq dx dy)):=by
  have hu0:A.units<cLine:=by lia
  cases rx with
  | scr _=>unfold nos at n1; cases n1
  | dct _=>unfold nos at n1; cases n1
  | non =>
    cases ru
    cases ry with
    | scr _=>unfold nos at n2; cases n2
    | dct _=>unfold nos at n2; cases n2
    | non=>cases rv; unfold peq; exact ⟨SeqAt.RcAt.none_none,SeqAt.RcNeAt.none_none⟩
    | bl b=>cases rv; unfold peq; exact ⟨SeqAt.RcAt.none_bool b,SeqAt.RcNeAt.none_bool b⟩
    | int i=>obtain ⟨t,rfl⟩:=rv; unfold peq; exact ⟨SeqAt.RcAt.none_int i t,SeqAt.RcNeAt.none_int i t⟩
    | str z=>obtain ⟨t,rfl⟩:=rv; unfold peq; exact ⟨SeqAt.RcAt.none_str z t,SeqAt.RcNeAt.none_str z t⟩
    | tup h l r=>cases rv; obtain ⟨is,r1,t1,z1⟩:=I.tuple (same_seqT sG (.inl (.inl h))); unfold peq; exact ⟨SeqAt.RcAt.none_tuple t1 hu0,SeqAt.RcNeAt.none_tuple t1 hu0⟩
    | lst h l r=>cases rv; obtain ⟨is,r1,t1,z1⟩:=I.list (SqL.of (sG _ _ h)); unfold peq; exact ⟨SeqAt.RcAt.none_list t1.isList hu0,SeqAt.RcNeAt.none_list t1.isList hu0⟩
  | bl a =>
    cases ru
    cases ry with
    | scr _=>unfold nos at n2; cases n2
    | dct _=>unfold nos at n2; cases n2
    | non=>cases rv; unfold peq; exact ⟨SeqAt.RcAt.bool_none a,SeqAt.RcNeAt.bool_none a⟩
    | bl b=>cases rv; unfold peq; exact ⟨SeqAt.RcAt.bool_bool a b,SeqAt.RcNeAt.bool_bool a b⟩
    | int i=>obtain ⟨t,rfl⟩:=rv; unfold peq; exact ⟨SeqAt.RcAt.bool_int a i t,SeqAt.RcNeAt.bool_int a i t⟩
    | str z=>obtain ⟨t,rfl⟩:=rv; unfold peq; exact ⟨SeqAt.RcAt.bool_str a z t,SeqAt.RcNeAt.bool_str a z t⟩
    | tup h l r=>cases rv; obtain ⟨is,r1,t1,z1⟩:=I.tuple (same_seqT sG (.inl (.inl h))); unfold peq; exact ⟨SeqAt.RcAt.bool_tuple a t1 hu0,SeqAt.RcNeAt.bool_tuple a t1 hu0⟩
    | lst h l r=>cases rv; obtain ⟨is,r1,t1,z1⟩:=I.list (SqL.of (sG _ _ h)); unfold peq; exact ⟨SeqAt.RcAt.bool_list a t1.isList hu0,SeqAt.RcNeAt.bool_list a t1.isList hu0⟩
  | int a =>
    obtain ⟨tt,rfl⟩:=ru
    cases ry with
    | scr _=>unfold nos at n2; cases n2
    | dct _=>unfold nos at n2; cases n2
    | non=>cases rv; unfold peq; exact ⟨SeqAt.RcAt.int_none a tt,SeqAt.RcNeAt.int_none a tt⟩
    | bl b=>cases rv; unfold peq; exact ⟨SeqAt.RcAt.int_bool a tt b,SeqAt.RcNeAt.int_bool a tt b⟩
    | int i=>obtain ⟨t,rfl⟩:=rv; unfold peq; exact ⟨SeqAt.RcAt.int_int a tt i t,SeqAt.RcNeAt.int_int a tt i t⟩
    | str z=>obtain ⟨t,rfl⟩:=rv; unfold peq; exact ⟨SeqAt.RcAt.int_str a tt z t,SeqAt.RcNeAt.int_str a tt z t⟩
    | tup h l r=>cases rv; obtain ⟨is,r1,t1,z1⟩:=I.tuple (same_seqT sG (.inl (.inl h))); unfold peq; exact ⟨SeqAt.RcAt.int_tuple a tt t1 hu0,SeqAt.RcNeAt.int_tuple a tt t1 hu0⟩
    | lst h l r=>cases rv; obtain ⟨is,r1,t1,z1⟩:=I.list (SqL.of (sG _ _ h)); unfold peq; exact ⟨SeqAt.RcAt.int_list a tt t1.isList hu0,SeqAt.RcNeAt.int_list a tt t1.isList hu0⟩
  | str a =>
    obtain ⟨tt,rfl⟩:=ru
    cases ry with
    | scr _=>unfold nos at n2; cases n2
    | dct _=>unfold nos at n2; cases n2
    | non=>cases rv; unfold peq; exact ⟨SeqAt.RcAt.str_none a tt,SeqAt.RcNeAt.str_none a tt⟩
    | bl b=>cases rv; unfold peq; exact ⟨SeqAt.RcAt.str_bool a tt b,SeqAt.RcNeAt.str_bool a tt b⟩
    | int i=>obtain ⟨t,rfl⟩:=rv; unfold peq; exact ⟨SeqAt.RcAt.str_int a tt i t,SeqAt.RcNeAt.str_int a tt i t⟩
    | str z=>obtain ⟨t,rfl⟩:=rv; unfold peq; exact ⟨SeqAt.RcAt.str_str a tt z t,SeqAt.RcNeAt.str_str a tt z t⟩
    | tup h l r=>cases rv; obtain ⟨is,r1,t1,z1⟩:=I.tuple (same_seqT sG (.inl (.inl h))); unfold peq; exact ⟨SeqAt.RcAt.str_tuple a tt t1 hu0,SeqAt.RcNeAt.str_tuple a tt t1 hu0⟩
    | lst h l r=>cases rv; obtain ⟨is,r1,t1,z1⟩:=I.list (SqL.of (sG _ _ h)); unfold peq; exact ⟨SeqAt.RcAt.str_list a tt t1.isList hu0,SeqAt.RcNeAt.str_list a tt t1.isList hu0⟩
  | @tup a vs ds h l r =>
    cases ru
    obtain ⟨is,r1,t1,z1⟩:=I.tuple (same_seqT sG (.inl (.inl h)))
    cases ry with
    | scr _=>unfold nos at n2; cases n2
    | dct _=>unfold nos at n2; cases n2
    | non=>cases rv; unfold peq; exact ⟨SeqAt.RcAt.tuple_none t1 hu0,SeqAt.RcNeAt.tuple_none t1 hu0⟩
    | bl b=>cases rv; unfold peq; exact ⟨SeqAt.RcAt.tuple_bool b t1 hu0,SeqAt.RcNeAt.tuple_bool b t1 hu0⟩
    | int i=>obtain ⟨t,rfl⟩:=rv; unfold peq; exact ⟨SeqAt.RcAt.tuple_int i t t1 hu0,SeqAt.RcNeAt.tuple_int i t t1 hu0⟩
    | str z=>obtain ⟨t,rfl⟩:=rv; unfold peq; exact ⟨SeqAt.RcAt.tuple_str z t t1 hu0,SeqAt.RcNeAt.tuple_str z t t1 hu0⟩
    | lst h2 l2 rr2=>cases rv; obtain ⟨is2,r2,t2,z2⟩:=I.list (SqL.of (sG _ _ h2)); unfold peq; exact ⟨SeqAt.RcAt.tuple_list t1 t2.isList hu0,SeqAt.RcNeAt.tuple_list t1 t2.isList hu0⟩
    | @tup a' vs' ds' h2 l2 rr2 =>
      cases rv
      obtain ⟨is2,r2,t2,z2⟩:=I.tuple (same_seqT sG (.inl (.inl h2)))
      unfold peq
      unfold dep at hu
      unfold nos at n1 n2
      have it:=items_eqAt (A:=A.in1) (s:=s) (X:=X) (G:=G) r1 r2 (paired_of l r) (paired_of l2 rr2) fun i d d' x y u v e1 e2 k1 k2 w1 w2 =>
        eqAt_D I sG (deps ds) d d' (deps_get e1) (noss_get n1 e1) (noss_get n2 e2) k1 k2 w1 w2 (by show A.units+1+deps ds<cLine; lia)
      have key:=SeqAt.RcAt.tuples (A:=A) (s:=s) (e:=eqAtI ds ds') t1 t2 hu0 it
      have key':=SeqAt.RcNeAt.tuples (A:=A) (s:=s) (e:=eqAtI ds ds') t1 t2 hu0 it
      rw[sz r1 (paired_of l r),sz r2 (paired_of l2 rr2),←peqs_tup] at key key'
      exact ⟨key,key'⟩
  | @lst a vs ds h l r =>
    cases ru
    obtain ⟨is,r1,t1,z1⟩:=I.list (SqL.of (sG _ _ h))
    cases ry with
    | scr _=>unfold nos at n2; cases n2
    | dct _=>unfold nos at n2; cases n2
    | non=>cases rv; unfold peq; exact ⟨SeqAt.RcAt.list_none t1.isList hu0,SeqAt.RcNeAt.list_none t1.isList hu0⟩
    | bl b=>cases rv; unfold peq; exact ⟨SeqAt.RcAt.list_bool b t1.isList hu0,SeqAt.RcNeAt.list_bool b t1.isList hu0⟩
    | int i=>obtain ⟨t,rfl⟩:=rv; unfold peq; exact ⟨SeqAt.RcAt.list_int i t t1.isList hu0,SeqAt.RcNeAt.list_int i t t1.isList hu0⟩
    | str z=>obtain ⟨t,rfl⟩:=rv; unfold peq; exact ⟨SeqAt.RcAt.list_str z t t1.isList hu0,SeqAt.RcNeAt.list_str z t t1.isList hu0⟩
    | tup h2 l2 rr2=>cases rv; obtain ⟨is2,r2,t2,z2⟩:=I.tuple (same_seqT sG (.inl (.inl h2))); unfold peq; exact ⟨SeqAt.RcAt.list_tuple t1.isList t2 hu0,SeqAt.RcNeAt.list_tuple t1.isList t2 hu0⟩
    | @lst a' vs' ds' h2 l2 rr2 =>
      cases rv
      obtain ⟨is2,r2,t2,z2⟩:=I.list (SqL.of (sG _ _ h2))
      unfold peq
      unfold dep at hu
      unfold nos at n1 n2
      by_cases hlen:ds.length=ds'.length
      · have it:=items_eqAt (A:=A.in1) (s:=s) (X:=X) (G:=G) r1 r2 (paired_of l r) (paired_of l2 rr2) fun i d d' x y u v e1 e2 k1 k2 w1 w2 =>
          eqAt_D I sG (deps ds) d d' (deps_get e1) (noss_get n1 e1) (noss_get n2 e2) k1 k2 w1 w2 (by show A.units+1+deps ds<cLine; lia)
        have e0:is.toArray.size=is2.toArray.size:=by rw[sz r1 (paired_of l r),sz r2 (paired_of l2 rr2)]; exact hlen
        have key:=SeqAt.RcAt.lists (A:=A) (s:=s) (e:=eqAtI ds ds') t1.isList t2.isList e0 hu0 it
        have key':=SeqAt.RcNeAt.lists (A:=A) (s:=s) (e:=eqAtI ds ds') t1.isList t2.isList e0 hu0 it
        rw[sz r1 (paired_of l r),←peqs_lst hlen] at key key'
        exact ⟨key,key'⟩
      · rw[peqs_len hlen]
        have e0:(is.toArray.size != is2.toArray.size)=true:=by rw[sz r1 (paired_of l r),sz r2 (paired_of l2 rr2)]; simpa using hlen
        exact ⟨SeqAt.RcAt.lists_lengths t1.isList t2.isList e0 hu0,SeqAt.RcNeAt.lists_lengths t1.isList t2.isList e0 hu0⟩
def rEqD (K:PySem.W.Frag) (u:Nat) (neg:Bool) : R2:=fun x y H Q=>∃G dx dy,Same G H∧Rep K G x dx∧Rep K G y dy∧nos dx=true∧nos dy=true∧u+dep dx<cLine∧Q (.bl (if neg then !(peq dx dy) else peq dx dy)) H
theorem op_eqD:OpR X (compareOp .Eq) (rEqD X.K X.A.units false):=by
  intro pins s σ H x y v u Q I rx ry h
  obtain ⟨G,dx,dy,sG,r1,r2,n1,n2,hu,q⟩:=h
  exact (rcAt_D I sG n1 n2 r1 r2 rx ry hu).1 _ _ _ _ ⟨.bl _,H,I,rfl,q⟩
theorem op_neD:OpR X (compareOp .NotEq) (rEqD X.K X.A.units true):=by
  intro pins s σ H x y v u Q I rx ry h
  obtain ⟨G,dx,dy,sG,r1,r2,n1,n2,hu,q⟩:=h
  exact (rcAt_D I sG n1 n2 r1 r2 rx ry hu).2 _ _ _ _ ⟨.bl _,H,I,rfl,q⟩
def dEq:D2:=fun x y Q=>(nos x=true∧nos y=true∧dep x≤60)∧Q (.p (.bl (peq x y)))
def dNe:D2:=fun x y Q=>(nos x=true∧nos y=true∧dep x≤60)∧Q (.p (.bl (!(peq x y))))
theorem od_eqD {k:Nat} (hr:Room k X.A) : OpD X (compareOp .Eq) dEq:=
  ⟨_,op_eqD,fun H G x y dx dy P Q s rx ry ⟨⟨h1,h2,h3⟩,h4⟩ c=>⟨G,dx,dy,s,rx,ry,h1,h2,by have:=hr.units; lia,c _ _ H G h4 (Wd.refl s) (.bl _)⟩⟩
theorem od_neD {k:Nat} (hr:Room k X.A) : OpD X (compareOp .NotEq) dNe:=
  ⟨_,op_neD,fun H G x y dx dy P Q s rx ry ⟨⟨h1,h2,h3⟩,h4⟩ c=>⟨G,dx,dy,s,rx,ry,h1,h2,by have:=hr.units; lia,c _ _ H G h4 (Wd.refl s) (.bl _)⟩⟩
end
end DL
namespace DL
open PySem L2
section
variable {X:Cx} {a b c e:Expr} {ta tb tc te:DT} {pos:Pos} {es:List Expr}
theorem kit_tab {K:PySem.W.Frag} {T:String} (h:T = "int" ∨ T = "bool" ∨ T = "str" ∨ T = "tuple" ∨ T = "list") (d:D) : PySem.W.kitOne K (.type (tyD d)) (.type T)=some (isD T d):=by
  rcases h with rfl | rfl | rfl | rfl | rfl<;>cases d<;>rfl
theorem call_isinstD:CallR X (.builtin "isinstance") (fun xs H Q=>∃G x d T,xs = [x,.ty T]∧Same G H∧Rep X.K G x d∧(T = "int" ∨ T = "bool" ∨ T = "str" ∨ T = "tuple" ∨ T = "list")∧Q (.bl (isD T d)) H):=by
  intro pins s σ H xs us Q I r h
  obtain ⟨G,x,d,T,rfl,sG,rx,hT,q⟩:=h
  obtain ⟨u,w',rfl,ru,rw'⟩:=vals2 r
  cases (show w'=Value.type T from rw')
  have e:=kit_tab (K:=X.K) hT d
  have fin:∀tk,EP X pins σ Q (.bool (isD T d)) { s with toks:=tk }:=fun tk=>⟨.bl _,H,I.tok tk,rfl,q⟩
  cases rx with
  | non=>exact isinst_ok I ru .non e fin
  | bl b=>exact isinst_ok I ru (.bl b) e fin
  | int i=>exact isinst_ok I ru (.int i) e fin
  | str z=>exact isinst_ok I ru (.str z) e fin
  | @tup a vs ds h l r =>
    cases ru
    obtain ⟨is,r1,⟨o,h1,h2,_⟩,z1⟩:=I.tuple (same_seqT sG (.inl (.inl h)))
    exact PySem.W.kia_one PySem.W.kitx_tuple I.kIn ⟨o,h1,h2⟩ e (fun z=>nomatch z) fin
  | @lst a vs ds h l r =>
    cases ru
    obtain ⟨is,r1,t1,z1⟩:=I.list (SqL.of (sG _ _ h))
    obtain ⟨o,h1,h2,_⟩:=t1.isList
    exact PySem.W.kia_one PySem.W.kitx_list I.kIn ⟨o,h1,h2⟩ e (fun z=>nomatch z) fin
  | @dct a kvs h =>
    cases ru
    obtain ⟨_,_,_,_,o,_,_,h1,h2,_⟩:=Rd.ok (rd_same sG h) I.hok
    exact PySem.W.kia_one PySem.W.kitx_dict I.kIn ⟨o,h1,h2.1⟩ e (fun z=>nomatch z) fin
  | @scr a ns h =>
    cases ru
    obtain ⟨is,r1,t1,z1⟩:=I.list (sG.seq h)
    obtain ⟨o,h1,h2,_⟩:=t1.isList
    exact PySem.W.kia_one PySem.W.kitx_list I.kIn ⟨o,h1,h2⟩ e (fun z=>nomatch z) fin
def dIsi (T:String) (te:DT) : DT:=fun ρ Q=>te ρ fun b=>Q (.p (.bl (isD T b.val)))
theorem de_isi {T:String} {p:Pos} {e2:Expr} (hT:T = "int" ∨ T = "bool" ∨ T = "str" ∨ T = "tuple" ∨ T = "list") (hg:Gl X "isinstance") (hm:X.mg "isinstance" = none) (he:DE X e te) (h2:PE X e2 (tC (.ty T)))
    (hs:starEach (e::[e2]) X.env=(false,eval e X.env)::starEach [e2] X.env:=by rfl) (hs2:starEach (e2::[]) X.env=(false,eval e2 X.env)::starEach [] X.env:=by rfl) (hpl:(backTo pos (starEach [e2] X.env)).any (·.1)=false:=by rfl) : DE X (.Call (.Name "isinstance" p) [e,e2] [] pos) (dIsi T te):=
  DE.of (pe_callB call_isinstD hg hm PyProof.Rows.boot_isinstance (pa_cons he.pe (pa_cons h2 pa_nil hs2) hs) (he:=hs) (hpl:=hpl)) fun σ H Q ⟨G,ρ,P,s,re,h,k⟩=>by
    refine ⟨G,ρ,_,s,re,h,fun b v H1 G1 p1 w1 r1=>?_⟩
    obtain ⟨G1',w1',r1'⟩:=r1.give w1
    exact ⟨G1',v,b.val,T,rfl,w1'.gh,r1',hT,k _ _ H1 G1' p1 w1' (.bl _)⟩
theorem cd_all (hc:X.calm=true) : CallD X (.builtin "all") dAll:=by
  refine ⟨_,call_allL hc,fun H G vs ds P Q s r h k=>?_⟩
  unfold dAll at h
  split at h
  · obtain ⟨ns,rfl,h⟩:=h
    obtain ⟨v,rfl,rv⟩:=reps1 r
    obtain ⟨a,us,rfl,e,rr⟩:=rv.lst_inv
    rw[reps_bls rr] at e
    exact ⟨a,ns,rfl,SqL.of (s _ _ e),k _ _ H G h (Wd.refl s) (.bl _)⟩
  · exact h.elim
end
inductive Tg where
  | n (i:Nat) | t (is:List Nat)
def gNames:List Nat→TGs
  | []=>gNil
  | i::is=>gCons (gName i) (gNames is)
def Tg.v (K:PySem.W.Frag) : Tg→TG
  | .n i=>gName i
  | .t is=>gSeq K is.length (gNames is)
def putN:List Nat→List D→DEnv→(DEnv→Prop)→Prop
  | [],[],ρ,P=>P ρ
  | i::is,d::ds,ρ,P=>putN is ds (dput ρ i (.p d)) P
  | _,_,_,_=>False
def Tg.d:Tg→D→DEnv→(DEnv→Prop)→Prop
  | .n i,d,ρ,P=>P (dput ρ i (.p d))
  | .t is,.tup ds,ρ,P=>putN is ds ρ P
  | .t is,.lst ds,ρ,P=>putN is ds ρ P
  | .t _,_,_,_=>False
def Tg.is:Tg→List Nat
  | .n i=>[i]
  | .t is=>is
def NestAt (K:PySem.W.Frag) (H0 G H:Hp) (w:Addr→Nat) (i:Nat) (a:Addr) (t:Bool) (dss:List D) : Prop:=∃as:List Addr,as.Nodup∧Paired (fun x ds=>H0 x=none∧w x=i∧OwnAt K G H x ds) as dss∧match t with
  | true=>G a=some (.tup (as.map V.ref))
  | false=>H0 a=none∧w a=i∧G a=none∧a∉as∧H a=some (.lst (as.map V.ref))
structure EnvW (K:PySem.W.Frag) (H0 G H:Hp) (w:Addr→Nat) (σ:St) (ρ:DEnv) : Prop where
  len:σ.length=ρ.length
  p:∀i d,dget ρ i=some (.p d)→∃v,σ[i]?=some (some v)∧Rep K G v d
  o:∀i d,dget ρ i=some (.o d)→∃a,σ[i]?=some (some (.ref a))∧H0 a=none∧w a=i∧OwnAt K G H a d
  n:∀i t dss,dget ρ i=some (.n t dss)→∃a,σ[i]?=some (some (.ref a))∧NestAt K H0 G H w i a t dss
def EnvO (K:PySem.W.Frag) (H0 G H:Hp) (σ:St) (ρ:DEnv) : Prop:=∃w,EnvW K H0 G H w σ ρ
section
variable {K:PySem.W.Frag} {H0 G H:Hp} {σ:St} {ρ:DEnv}
theorem EnvO.p (h:EnvO K H0 G H σ ρ) : ∀i d,dget ρ i=some (.p d)→∃v,σ[i]?=some (some v)∧Rep K G v d:=by obtain ⟨w,h⟩:=h; exact h.p
theorem EnvO.o (h:EnvO K H0 G H σ ρ) : ∀i d,dget ρ i=some (.o d)→∃a,σ[i]?=some (some (.ref a))∧H0 a=none∧OwnAt K G H a d:=by
  obtain ⟨w,h⟩:=h
  intro i d e
  obtain ⟨a,h1,h2,_,h3⟩:=h.o i d e
  exact ⟨a,h1,h2,h3⟩
theorem EnvO.only (l:σ.length=ρ.length) (hp:RepE K G σ ρ) (h:∀i b,dget ρ i=some b→∃d,b=.p d) : EnvO K H0 G H σ ρ:=by
  refine ⟨fun _=>0,l,hp,fun i d e=>?_,fun i t dss e=>?_⟩
  · obtain ⟨_,q⟩:=h i _ e; cases q
  · obtain ⟨_,q⟩:=h i _ e; cases q
end
theorem OwnAt.stay {K:PySem.W.Frag} {G H G' H':Hp} {a:Addr} {d:D} (h:OwnAt K G H a d) (hg:Same G G') (hn:G' a=none) (hh:∀o,H a=some o→H' a=some o) : OwnAt K G' H' a d:=by
  obtain ⟨h1,h2⟩:=h
  refine ⟨hn,?_⟩
  cases d with
  | lst ds=>obtain ⟨vs,e,r⟩:=h2; exact ⟨vs,hh _ e,Reps.mono hg r⟩
  | non=>exact h2
  | bl _=>exact h2
  | int _=>exact h2
  | str _=>exact h2
  | tup _=>exact h2
  | scr _=>exact h2
  | dct kvs=>exact hh _ h2
theorem OwnAt.chg {K:PySem.W.Frag} {G H:Hp} {a:Addr} {d:D} (h:OwnAt K G H a d) : Chg H a:=by
  obtain ⟨h1,h2⟩:=h
  cases d with
  | lst ds=>obtain ⟨vs,e,r⟩:=h2; exact ⟨_,e,fun _ z=>nomatch z⟩
  | non=>exact h2.elim
  | bl _=>exact h2.elim
  | int _=>exact h2.elim
  | str _=>exact h2.elim
  | tup _=>exact h2.elim
  | scr _=>exact h2.elim
  | dct kvs=>exact ⟨_,h2,fun _ z=>nomatch z⟩
theorem OwnAt.there {K:PySem.W.Frag} {G H:Hp} {a:Addr} {d:D} (h:OwnAt K G H a d) : H a≠none:=h.chg.there
theorem paired_mono {α β:Type} {F F':α→β→Prop} {l:List α} {r:List β} (k:∀x d,x∈l→F x d→F' x d) (h:Paired F l r) : Paired F' l r:=by
  induction h with
  | nil=>exact .nil
  | cons f _ ih=>exact .cons (k _ _ List.mem_cons_self f) (ih fun x d m=>k x d (List.mem_cons_of_mem _ m))
theorem paired_left {α β:Type} {F:α→β→Prop} {l:List α} {r:List β} (h:Paired F l r) : ∀x∈l,∃d,F x d:=by
  induction h with
  | nil=>intro x m; cases m
  | cons f _ ih =>
    intro x m
    rcases List.mem_cons.mp m with rfl | m
    · exact ⟨_,f⟩
    · exact ih x m
theorem NestAt.stay {K:PySem.W.Frag} {H0 G H G' H':Hp} {w w':Addr→Nat} {i:Nat} {a:Addr} {t:Bool} {dss:List D} (h:NestAt K H0 G H w i a t dss) (hg:Same G G') (hn:∀x,H0 x=.none→w x=i→G x=.none→Chg H x→G' x=.none∧w' x=i∧∀o,H x=some o→H' x=some o) : NestAt K H0 G' H' w' i a t dss:=by
  obtain ⟨as,nd,pr,e⟩:=h
  have pr':=paired_mono (F':=fun x ds=>H0 x=none∧w' x=i∧OwnAt K G' H' x ds) (fun x d m ⟨h1,h2,h3⟩=>by
    obtain ⟨k1,k2,k3⟩:=hn x h1 h2 h3.1 h3.chg
    exact ⟨h1,k2,h3.stay hg k1 k3⟩) pr
  refine ⟨as,nd,pr',?_⟩
  · cases t with
    | true=>exact hg _ _ e
    | false =>
      obtain ⟨e1,e2,e3,e4,e5⟩:=e
      obtain ⟨k1,k2,k3⟩:=hn a e1 e2 e3 ⟨_,e5,fun _ z=>nomatch z⟩
      exact ⟨e1,k2,k1,e4,k3 _ e5⟩
theorem EnvW.on {K:PySem.W.Frag} {H0 G H G' H':Hp} {o:Addr→Nat} {σ:St} {ρ:DEnv} (h:EnvW K H0 G H o σ ρ) (w:Wd H G H' G') : EnvW K H0 G' H' o σ ρ:=
  ⟨h.len,fun i d e=>by obtain ⟨v,h1,h2⟩:=h.p i d e; exact ⟨v,h1,h2.mono w.gg⟩,fun i d e=>by
    obtain ⟨a,h1,h2,h2',h3⟩:=h.o i d e
    exact ⟨a,h1,h2,h2',h3.stay w.gg (by rw[w.old a h3.chg]; exact h3.1) fun o q=>w.hh _ _ q⟩,fun i t dss e=>by
    obtain ⟨a,h1,h2⟩:=h.n i t dss e
    exact ⟨a,h1,h2.stay w.gg fun x k1 k2 k3 k4=>⟨by rw[w.old x k4]; exact k3,k2,fun o q=>w.hh _ _ q⟩⟩⟩
theorem EnvO.on {K:PySem.W.Frag} {H0 G H G' H':Hp} {σ:St} {ρ:DEnv} (h:EnvO K H0 G H σ ρ) (w:Wd H G H' G') : EnvO K H0 G' H' σ ρ:=by
  obtain ⟨o,h⟩:=h
  exact ⟨o,h.on w⟩
theorem set_get {σ:St} {i j:Nat} {v:V} (h:i≠j) : (σ.set i (some v))[j]?=σ[j]?:=by rw[List.getElem?_set_ne h]
theorem set_self {σ:St} {i:Nat} {v:V} (h:i<σ.length) : (σ.set i (some v))[i]?=some (some v):=by rw[List.getElem?_set_self h]
theorem EnvO.putP {K:PySem.W.Frag} {H0 G H:Hp} {σ:St} {ρ:DEnv} {v:V} {d:D} (h:EnvO K H0 G H σ ρ) (i:Nat) (r:Rep K G v d) : EnvO K H0 G H (σ.set i (some v)) (dput ρ i (.p d)):=by
  obtain ⟨o,h⟩:=h
  refine ⟨o,by rw[List.length_set,dput_len]; exact h.len,fun j d' e=>?_,fun j d' e=>?_,fun j t dss e=>?_⟩
  · rcases dget_put e with ⟨rfl,hl,e⟩ | ⟨hne,e⟩
    · cases e
      exact ⟨v,set_self (by rw[h.len]; exact hl),r⟩
    · obtain ⟨w,h1,h2⟩:=h.p j d' e
      exact ⟨w,by rw[set_get hne]; exact h1,h2⟩
  · rcases dget_put e with ⟨rfl,hl,e⟩ | ⟨hne,e⟩
    · cases e
    · obtain ⟨a,h1,h2⟩:=h.o j d' e
      exact ⟨a,by rw[set_get hne]; exact h1,h2⟩
  · rcases dget_put e with ⟨rfl,hl,e⟩ | ⟨hne,e⟩
    · cases e
    · obtain ⟨a,h1,h2⟩:=h.n j t dss e
      exact ⟨a,by rw[set_get hne]; exact h1,h2⟩
theorem EnvW.also {K:PySem.W.Frag} {H0 G H:Hp} {o:Addr→Nat} {σ:St} {ρ:DEnv} (h:EnvW K H0 G H o σ ρ) {o':Addr→Nat} (q:∀x,H x≠.none→o' x=o x) : EnvW K H0 G H o' σ ρ:=
  ⟨h.len,h.p,fun j d e=>by
    obtain ⟨a,h1,h2,h3,h4⟩:=h.o j d e
    exact ⟨a,h1,h2,by rw[q a h4.there]; exact h3,h4⟩,fun j t dss e=>by
    obtain ⟨a,h1,h2⟩:=h.n j t dss e
    exact ⟨a,h1,h2.stay (Same.refl _) fun x k1 k2 k3 k4=>⟨k3,by rw[q x k4.there]; exact k2,fun o q=>q⟩⟩⟩
theorem EnvO.putO {K:PySem.W.Frag} {H0 G H G' H':Hp} {σ:St} {ρ:DEnv} {a:Addr} {d:D} (h:EnvO K H0 G H σ ρ) (w:Wd H G H' G') (i:Nat) (h0:H0 a=none) (hn:H a=none) (r:OwnAt K G' H' a d) : EnvO K H0 G' H' (σ.set i (some (.ref a))) (dput ρ i (.o d)):=by
  obtain ⟨o,h⟩:=h
  have h2:=(h.also (o':=fun x=>if x=a then i else o x) fun x q=>if_neg fun e:x=a=>q (e ▸ hn)).on w
  refine ⟨fun x=>if x=a then i else o x,by rw[List.length_set,dput_len]; exact h.len,fun j d' e=>?_,fun j d' e=>?_,fun j t dss e=>?_⟩
  · rcases dget_put e with ⟨rfl,hl,e⟩ | ⟨hne,e⟩
    · cases e
    · obtain ⟨w,h1,h2⟩:=h2.p j d' e
      exact ⟨w,by rw[set_get hne]; exact h1,h2⟩
  · rcases dget_put e with ⟨rfl,hl,e⟩ | ⟨hne,e⟩
    · cases e
      exact ⟨a,set_self (by rw[h.len]; exact hl),h0,if_pos rfl,r⟩
    · obtain ⟨b,h1,h2⟩:=h2.o j d' e
      exact ⟨b,by rw[set_get hne]; exact h1,h2⟩
  · rcases dget_put e with ⟨rfl,hl,e⟩ | ⟨hne,e⟩
    · cases e
    · obtain ⟨b,h1,h2⟩:=h2.n j t dss e
      exact ⟨b,by rw[set_get hne]; exact h1,h2⟩
theorem EnvO.putNT {K:PySem.W.Frag} {H0 G H G' H':Hp} {σ:St} {ρ:DEnv} {a:Addr} {as:List Addr} {ds:List D} (h:EnvO K H0 G H σ ρ) (w:Wd H G H' G') (hh:Same H0 H) (i:Nat) (q:G' a=some (.tup (as.map V.ref))) (nd:as.Nodup) (pr:Paired (fun x d=>H x=none∧OwnAt K G' H' x d) as ds) : EnvO K H0 G' H' (σ.set i (some (.ref a))) (dput ρ i (.n true ds)):=by
  obtain ⟨o,h⟩:=h
  have h2:=(h.also (o':=fun x=>if x∈as then i else o x) fun x z=>if_neg fun m=>by
    obtain ⟨_,k,_⟩:=paired_left pr x m
    exact z k).on w
  refine ⟨fun x=>if x∈as then i else o x,by rw[List.length_set,dput_len]; exact h.len,fun j d' e=>?_,fun j d' e=>?_,fun j t dss e=>?_⟩
  · rcases dget_put e with ⟨rfl,hl,e⟩ | ⟨hne,e⟩
    · cases e
    · obtain ⟨w,h1,h2⟩:=h2.p j d' e
      exact ⟨w,by rw[set_get hne]; exact h1,h2⟩
  · rcases dget_put e with ⟨rfl,hl,e⟩ | ⟨hne,e⟩
    · cases e
    · obtain ⟨b,h1,h2⟩:=h2.o j d' e
      exact ⟨b,by rw[set_get hne]; exact h1,h2⟩
  · rcases dget_put e with ⟨rfl,hl,e⟩ | ⟨hne,e⟩
    · cases e
      exact ⟨a,set_self (by rw[h.len]; exact hl),as,nd,paired_mono (fun x d m z=>⟨hh.free z.1,if_pos m,z.2⟩) pr,q⟩
    · obtain ⟨b,h1,h2⟩:=h2.n j t dss e
      exact ⟨b,by rw[set_get hne]; exact h1,h2⟩
theorem putN_ok {K:PySem.W.Frag} {H0 G H:Hp} : ∀{is:List Nat} {ds:List D} {vs:List V} {σ:St} {ρ:DEnv} {P:DEnv→Prop} {Q:St→Hp→Prop},EnvO K H0 G H σ ρ→Reps K G vs ds→putN is ds ρ P→(∀σ' ρ',EnvO K H0 G H σ' ρ'→P ρ'→Q σ' H)→gNames is vs σ H Q
  | [],[],_,σ,ρ,P,Q,h,r,p,k=>by cases r; exact ⟨rfl,k _ _ h p⟩
  | i::is,d::ds,_,σ,ρ,P,Q,h,r,p,k=>by
    cases r with
    | cons r rr=>exact ⟨_,_,rfl,putN_ok (h.putP i r) rr p k⟩
  | [],_::_,_,_,_,_,_,_,_,p,_=>p.elim
  | _::_,[],_,_,_,_,_,_,_,p,_=>p.elim
theorem putN_len:∀{is:List Nat} {ds:List D} {ρ:DEnv} {P:DEnv→Prop},putN is ds ρ P→is.length=ds.length
  | [],[],_,_,_=>rfl
  | _::is,_::ds,ρ,P,p=>by rw[List.length_cons,List.length_cons,putN_len (is:=is) p]
  | [],_::_,_,_,p=>p.elim
  | _::_,[],_,_,p=>p.elim
theorem Tg.ok {K:PySem.W.Frag} {H0 G H:Hp} {g:Tg} {d:D} {v:V} {σ:St} {ρ:DEnv} {P:DEnv→Prop} {Q:St→Hp→Prop} (s:Same G H) (h:EnvO K H0 G H σ ρ) (r:Rep K G v d) (p:g.d d ρ P) (k:∀σ' ρ',EnvO K H0 G H σ' ρ'→P ρ'→Q σ' H) : g.v K v σ H Q:=by
  cases g with
  | n i=>exact k _ _ (h.putP i r) p
  | t is =>
    cases d with
    | tup ds =>
      obtain ⟨a,vs,rfl,e,rr⟩:=r.tup_inv
      exact ⟨a,vs,rfl,.inl (same_seqT s e),by rw[Paired.length rr]; exact (putN_len p).symm,putN_ok h rr p k⟩
    | lst ds =>
      obtain ⟨a,vs,rfl,e,rr⟩:=r.lst_inv
      exact ⟨a,vs,rfl,.inr (SqL.of (s _ _ e)),by rw[Paired.length rr]; exact (putN_len p).symm,putN_ok h rr p k⟩
    | non=>exact p.elim
    | bl _=>exact p.elim
    | int _=>exact p.elim
    | str _=>exact p.elim
    | scr _=>exact p.elim
    | dct _=>exact p.elim
structure ItD (K:PySem.W.Frag) (G0:Hp) (J:It) (xs:List D) : Prop where
  go:∀i d H G,xs[i]?=some d→Same G0 G→Same G H→J.go i H
  yld:∀i d H G x H',xs[i]?=some d→Same G0 G→Same G H→J.yld i H x H'→∃G',Wd H G H' G'∧Rep K G' x d
  stop:∀i H G,i=xs.length→Same G0 G→Same G H→J.stop i H
def cI (K:PySem.W.Frag) (t:DTA) : TI:=fun σ H R=>∃(G:Hp) (ρ:DEnv) (P:List D→Prop),Same G H∧RepE K G σ ρ∧t ρ P∧∀xs J H' G',P xs→Wd H G H' G'→ItD K G' J xs→R J H'
structure DI (X:Cx) (tg e:Expr) (t:DTA) : Prop where
  pi:PI X tg e (cI X.K t)
theorem PI.imp {X:Cx} {tg e:Expr} {t t':TI} (h:PI X tg e t) (i:∀σ H Q,t' σ H Q→t σ H Q) : PI X tg e t':=fun pins s σ H Q I q=>h pins s σ H Q I (i σ H Q q)
theorem DI.of {X:Cx} {tg e:Expr} {t:TI} {t':DTA} (h:PI X tg e t) (i:∀σ H Q,cI X.K t' σ H Q→t σ H Q) : DI X tg e t':=⟨PI.imp h i⟩
section
variable {X:Cx} {tg e:Expr} {te:DT} {pos:Pos}
theorem itd_list {K:PySem.W.Frag} {G:Hp} {a:Addr} {vs:List V} {ds:List D} (h:SqL K G a vs) (r:Reps K G vs ds) : ItD K G (Itl K a) ds where
  go:=fun i d H G' e s1 s2=>by
    obtain ⟨v,h1,h2⟩:=paired_get' r e
    exact ⟨vs,v,(s1.trans s2).seq h,h1⟩
  yld:=fun i d H G' x H' e s1 s2 ⟨eH,y⟩=>by
    obtain ⟨v,h1,h2⟩:=paired_get' r e
    have:=y vs ((s1.trans s2).seq h)
    rw[h1] at this
    cases this
    subst eH
    exact ⟨G',Wd.refl s2,h2.mono s1⟩
  stop:=fun i H G' hi s1 s2=>⟨vs,(s1.trans s2).seq h,by rw[Paired.length r,hi]; exact Nat.le_refl _⟩
def diList (te:DT) : DTA:=fun ρ P=>te ρ fun b=>match b.val with
  | .lst xs=>P xs
  | .scr ns=>P (ns.map D.int)
  | _=>False
theorem di_list (he:DE X e te) : DI X tg e (diList te):=DI.of (pi_list he.pe) fun σ H R ⟨G,ρ,P,s,re,h,k⟩=>by
  refine ⟨G,ρ,_,s,re,h,fun b v H1 G1 p1 w1 r1=>?_⟩
  obtain ⟨G1',w1',r1'⟩:=r1.give w1
  split at p1
  · rename_i xs e
    rw[e] at r1'
    obtain ⟨a,us,rfl,e,rr⟩:=r1'.lst_inv
    exact ⟨a,rfl,⟨us,SqL.of (w1'.gh _ _ e)⟩,k _ _ H1 G1' p1 w1' (itd_list (SqL.of e) rr)⟩
  · rename_i ns e
    rw[e] at r1'
    cases r1' with
    | scr e=>exact ⟨_,rfl,⟨_,w1'.gh.seq e⟩,k _ _ H1 G1' p1 w1' (itd_list e (ints_reps ns))⟩
  · exact p1.elim
def diTup (te:DT) : DTA:=fun ρ P=>te ρ fun b=>match b.val with
  | .tup xs=>P xs
  | _=>False
def upFrom (lo:Int) (n:Nat) : List D:=(List.range n).map fun i=>D.int (lo+(i:Nat))
theorem upFrom_get {lo:Int} {n i:Nat} {d:D} (h:(upFrom lo n)[i]?=some d) : i<n∧d=.int (lo+(i:Nat)):=by
  unfold upFrom at h
  rw[List.getElem?_map] at h
  by_cases hi:i<n
  · rw[List.getElem?_range hi] at h
    exact ⟨hi,(Option.some.inj h).symm⟩
  · rw [List.getElem?_eq_none (by simpa using hi)] at h
    cases h
theorem upFrom_len (lo:Int) (n:Nat) : (upFrom lo n).length=n:=by unfold upFrom; simp
theorem itd_rng {K:PySem.W.Frag} {G:Hp} {lo:Int} {n:Nat} : ItD K G (Itr lo n) (upFrom lo n) where
  go:=fun i d H G' e s1 s2=>(upFrom_get e).1
  yld:=fun i d H G' x H' e s1 s2 ⟨eH,y⟩=>by
    obtain ⟨h1,rfl⟩:=upFrom_get e
    subst eH
    subst y
    exact ⟨G',Wd.refl s2,.int _⟩
  stop:=fun i H G' hi s1 s2=>by rw[upFrom_len] at hi; rw[hi]; exact Nat.le_refl n
def diRng1 (t:DTA) : DTA:=fun ρ P=>t ρ fun ds=>match ds with
  | [.int j]=>(-(2 ^ 62)≤j∧j<2 ^ 62)∧P (upFrom 0 j.toNat)
  | _=>False
def diRng2 (t:DTA) : DTA:=fun ρ P=>t ρ fun ds=>match ds with
  | [.int i,.int j]=>(-(2 ^ 62)≤i∧i<2 ^ 62∧-(2 ^ 62)≤j∧j<2 ^ 62)∧P (upFrom i (j - i).toNat)
  | _=>False
end
def frD (fr:List (Option Nat)) (ρ:DEnv) : DEnv:=fr.map fun o=>match o with
  | none=>none
  | some j=>dget ρ j
theorem dget_eq:∀(ρ:DEnv) (i:Nat),dget ρ i=(ρ[i]?).getD none
  | [],_=>by simp[dget]
  | _::_,0=>by simp[dget]
  | _::r,i+1=>by simp[dget,dget_eq r i]
theorem frD_get {fr:List (Option Nat)} {ρ:DEnv} {i:Nat} {b:B} (h:dget (frD fr ρ) i=some b) : ∃j,fr[i]?=some (some j)∧dget ρ j=some b:=by
  rw[dget_eq] at h
  unfold frD at h
  rw[List.getElem?_map] at h
  cases e:fr[i]? with
  | none=>rw[e] at h; cases h
  | some o =>
    rw[e] at h
    cases o with
    | none=>cases h
    | some j=>exact ⟨j,rfl,h⟩
theorem frSt_of {fr:List (Option Nat)} {σ:St} {i j:Nat} {v:V} (h1:fr[i]?=some (some j)) (h2:σ[j]?=some (some v)) : (frSt fr σ)[i]?=some (some v):=by
  unfold frSt
  rw[List.getElem?_map,h1]
  show some ((σ[j]?).getD none)=_
  rw[h2]
  rfl
def onlyP (ρ:DEnv) : DEnv:=ρ.map fun o=>match o with
  | some (.p d)=>some (.p d)
  | _=>none
theorem onlyP_get {ρ:DEnv} {i:Nat} {b:B} (h:dget (onlyP ρ) i=some b) : ∃d,b=.p d∧dget ρ i=some (.p d):=by
  rw[dget_eq] at h ⊢
  unfold onlyP at h
  rw[List.getElem?_map] at h
  cases e:ρ[i]? with
  | none=>rw[e] at h; cases h
  | some o =>
    rw[e] at h
    cases o with
    | none=>cases h
    | some b' =>
      cases b' with
      | p d=>exact ⟨d,(Option.some.inj h).symm,rfl⟩
      | o d=>cases h
      | n _ _=>cases h
def lcI (xs:List D) (g:Tg) (tc:DTT) (te:DT) (ρ:DEnv) (Q:B→Prop) : Prop:=xs.length≤sizeLine∧∃F:D→Option D→Prop,
  (∀x∈xs,g.d x ρ fun ρ'=>tc ρ' fun c=>(c=true→te ρ' fun b=>F x (some b.val))∧(c=false→F x none))∧∀os,Paired F xs os→Q (.o (.lst (os.filterMap id)))
def dLC (ti:DTA) (fr:List (Option Nat)) (g:Tg) (tc:DTT) (te:DT) : DT:=fun ρ Q=>ti ρ fun xs=>lcI xs g tc te (onlyP (frD fr ρ)) Q
def dTrue:DTT:=fun _ P=>P true
theorem paired_take_snoc {α β:Type} {F:α→β→Prop} {xs:List α} {os:List β} {i:Nat} {x:α} {o:β} (h:Paired F (xs.take i) os) (e:xs[i]?=some x) (f:F x o) : Paired F (xs.take (i+1)) (os++[o]):=by
  rw[WS.take_snoc e]
  exact Paired.snoc h f
def tgOk (fr:List (Option Nat)) (g:Tg) : Bool:=g.is.all fun i=>match fr[i]? with
  | some none=>true
  | _=>false
theorem putN_keep {K:PySem.W.Frag} {G H:Hp} {ρ0:DEnv} : ∀{is:List Nat} {vs:List V} {σ:St} {Q:St→Hp→Prop},(∀i∈is,dget ρ0 i=none)→RepE K G σ ρ0→σ.length=ρ0.length→gNames is vs σ H Q→gNames is vs σ H fun σ' H'=>Q σ' H'∧H'=H∧RepE K G σ' ρ0∧σ'.length=ρ0.length
  | [],_,σ,Q,_,h,l,⟨e,q⟩=>⟨e,q,rfl,h,l⟩
  | i::is,_,σ,Q,hn,h,l,⟨v,r,e,q⟩=>by
    refine ⟨v,r,e,putN_keep (is:=is) (fun j hj=>hn j (List.mem_cons_of_mem _ hj)) (fun j d hd=>?_) (by rw[List.length_set]; exact l) q⟩
    have hne:i≠j:=by
      rintro rfl
      rw[hn i List.mem_cons_self] at hd
      cases hd
    obtain ⟨w,h1,h2⟩:=h j d hd
    exact ⟨w,by rw[set_get hne]; exact h1,h2⟩
theorem tg_keep {K:PySem.W.Frag} {G H:Hp} {ρ0:DEnv} {g:Tg} {v:V} {σ:St} {Q:St→Hp→Prop} (hn:∀i∈g.is,dget ρ0 i=none) (h:RepE K G σ ρ0) (l:σ.length=ρ0.length) (q:g.v K v σ H Q) : g.v K v σ H fun σ' H'=>Q σ' H'∧H'=H∧RepE K G σ' ρ0∧σ'.length=ρ0.length:=by
  cases g with
  | n i =>
    refine ⟨q,rfl,fun j d hd=>?_,by rw[List.length_set]; exact l⟩
    have hne:i≠j:=by
      rintro rfl
      rw[hn i (List.mem_singleton.mpr rfl)] at hd
      cases hd
    obtain ⟨w,h1,h2⟩:=h j d hd
    exact ⟨w,by rw[set_get hne]; exact h1,h2⟩
  | t is =>
    obtain ⟨a,xs,e,h1,h2,q⟩:=q
    exact ⟨a,xs,e,h1,h2,putN_keep hn h l q⟩
structure DIfs (X:Cx) (ifs:List Expr) (t:DTT) : Prop where
  pf:PIfs X ifs (cT X.K t)
theorem difs_nil {X:Cx} : DIfs X [] dTrue:=⟨fun pins s σ H Q I ⟨G,ρ,P,sg,re,h,k⟩=>pifs_nil pins s σ H Q I (k true H G h (Wd.refl sg))⟩
theorem lc_core {K:PySem.W.Frag} {ti:DTA} {fr:List (Option Nat)} {g:Tg} {tc:DTT} {te:DT} (ht:tgOk fr g=true) (σ:St) (H:Hp) (Q:VK) : cE K (dLC ti fr g tc te) σ H Q→tLC (cI K ti) fr (g.v K) (cT K tc) (cE K te) σ H Q:=by
  rintro ⟨G,ρ,P,s,re,h,k⟩
  refine ⟨G,ρ,_,s,re,h,fun xs J H1 G1 p1 w1 it D hD=>?_⟩
  obtain ⟨hz,F,hF,hP⟩:=p1
  have hn:∀i∈g.is,dget (onlyP (frD fr ρ)) i=none:=fun i hi=>by
    cases e:dget (onlyP (frD fr ρ)) i with
    | none=>rfl
    | some b =>
      obtain ⟨d,rfl,e'⟩:=onlyP_get e
      obtain ⟨j,h1,_⟩:=frD_get e'
      have:=List.all_eq_true.mp ht i hi
      rw[h1] at this
      cases this
  have len0:(onlyP (frD fr ρ)).length=fr.length:=by unfold onlyP frD; simp
  have fn0:(frSt fr σ).length=fr.length:=by unfold frSt; simp
  have rep0:RepE K G1 (frSt fr σ) (onlyP (frD fr ρ)):=fun i d e=>by
    obtain ⟨d',e1,e2⟩:=onlyP_get e
    cases e1
    obtain ⟨j,h1,h2⟩:=frD_get e2
    obtain ⟨v,h3,h4⟩:=re j d h2
    exact ⟨v,frSt_of h1 h3,h4.mono w1.gg⟩
  have gD:G1 D=none:=w1.gh.free hD
  refine ⟨fun i m ys σ' H'=>m=xs.length - i∧i≤xs.length∧∃G' os,Wd H1 G1 H' G'∧G' D=none∧H' D=some (.lst ys)∧ys.length≤i∧Paired F (xs.take i) os∧Reps K G' ys (os.filterMap id)∧RepE K G' σ' (onlyP (frD fr ρ))∧σ'.length=(onlyP (frD fr ρ)).length,⟨xs.length,by simp,Nat.zero_le _,G1,[],(Wd.refl w1.gh).own hD gD,gD,upd_same,Nat.le_refl _,by rw[List.take_zero]; exact .nil,.nil,rep0,by rw[fn0,len0]⟩,?_⟩
  rintro i m ys σ' H' ⟨rfl,hi,G',os,w',gD',hD',hy,hos,hr,re',ln'⟩
  by_cases hlt:i<xs.length
  · have hx:xs[i]?=some xs[i]:=List.getElem?_eq_getElem hlt
    refine .inr ⟨it.go i _ H' G' hx w'.gg w'.gh,fun ys' σ2 H2=>∃G2 os',Wd H1 G1 H2 G2∧G2 D=none∧H2 D=some (.lst ys')∧ys'.length≤i+1∧Paired F (xs.take (i+1)) os'∧Reps K G2 ys' (os'.filterMap id)∧RepE K G2 σ2 (onlyP (frD fr ρ))∧σ2.length=(onlyP (frD fr ρ)).length,fun ys' σ2 H2 ⟨G2,os',z⟩=>⟨xs.length - (i+1),by lia,rfl,hlt,G2,os',z⟩,fun x H2 y=>?_⟩
    obtain ⟨G2,w2,r2⟩:=it.yld i _ H' G' x H2 hx w'.gg w'.gh y
    have e2:EnvO K H2 G2 H2 σ' (onlyP (frD fr ρ)):=EnvO.only ln' (re'.mono w2.gg) fun j b e=>by
        obtain ⟨d',e1,_⟩:=onlyP_get e
        exact ⟨d',e1⟩
    have re2:RepE K G2 σ' (onlyP (frD fr ρ)):=e2.p
    have w12:=w'.trans w2
    have hD2:H2 D=some (.lst ys):=w2.hh _ _ hD'
    have gD2:G2 D=none:=by rw[w2.old D ⟨_,hD',fun _ z=>nomatch z⟩]; exact gD'
    refine (?_:g.v K x σ' H2 _)
    refine tgv_mono (tg_keep hn re2 ln' (Tg.ok w2.gh e2 r2 (hF _ (List.getElem_mem hlt)) (Q:=fun σ3 H3=>H3=H2∧∃ρ3,EnvO K H2 G2 H2 σ3 ρ3∧tc ρ3 fun c=>(c=true→te ρ3 fun b=>F xs[i] (some b.val))∧(c=false→F xs[i] none)) fun σ3 ρ3 e3 p3=>⟨rfl,ρ3,e3,p3⟩)) ?_
    rintro σ3 H3 ⟨⟨rfl,ρ3,e3,p3⟩,_,re3,ln3⟩
    refine ⟨G2,ρ3,_,w2.gh,e3.p,p3,fun c H4 G4 p4 w4=>?_⟩
    have hD4:H4 D=some (.lst ys):=w4.hh _ _ hD2
    have gD4:G4 D=none:=by rw[w4.old D ⟨_,hD2,fun _ z=>nomatch z⟩]; exact gD2
    cases c with
    | true =>
      refine iteT ⟨G4,ρ3,_,w4.gh,RepE.mono w4.gg e3.p,p4.1 rfl,fun b v H5 G5 p5 w5 r5=>?_⟩
      obtain ⟨G5',w5',r5'⟩:=r5.give w5
      have hD5:H5 D=some (.lst ys):=w5.hh _ _ hD4
      have gD5:G5' D=none:=by rw[w5'.old D ⟨_,hD4,fun _ z=>nomatch z⟩]; exact gD4
      have w15:=(w12.trans w4).trans w5'
      refine ⟨hD5,by have:sizeLine=16777216:=sizeLine_eq; lia,G5',os++[some b.val],w15.own hD gD5,gD5,upd_same,by rw[List.length_append,List.length_singleton]; lia,paired_take_snoc hos hx p5,?_,RepE.mono (w4.trans w5').gg re3,ln3⟩
      rw[List.filterMap_append]
      exact paired_app (Reps.mono ((w2.trans w4).trans w5').gg hr) (.cons r5' .nil)
    | false =>
      refine iteF ⟨G4,os++[none],w12.trans w4,gD4,hD4,by lia,paired_take_snoc hos hx (p4.2 rfl),?_,RepE.mono w4.gg re3,ln3⟩
      rw[List.filterMap_append,show List.filterMap id [(none:Option DL.D)] = [] from rfl,List.append_nil]
      exact Reps.mono (w2.trans w4).gg hr
  · have e : i = xs.length := by lia
    subst e
    refine .inl ⟨it.stop _ H' G' rfl w'.gg w'.gh,?_⟩
    rw[List.take_length] at hos
    exact k _ _ H' G' (hP os hos) (w1.trans w') ⟨D,rfl,w1.hh.free hD,gD',ys,hD',hr⟩
where
  tgv_mono {K:PySem.W.Frag} {g:Tg} {v:V} {σ:St} {H:Hp} {Q Q':St→Hp→Prop} (h:g.v K v σ H Q) (i:∀σ' H',Q σ' H'→Q' σ' H') : g.v K v σ H Q':=by
    cases g with
    | n j=>exact i _ _ h
    | t is =>
      obtain ⟨a,xs,e,h1,h2,q⟩:=h
      exact ⟨a,xs,e,h1,h2,names_mono q i⟩
  names_mono {Q Q':St→Hp→Prop} : ∀{is:List Nat} {vs:List V} {σ:St} {H:Hp},gNames is vs σ H Q→(∀σ' H',Q σ' H'→Q' σ' H')→gNames is vs σ H Q'
    | [],_,_,_,⟨e,q⟩,i=>⟨e,i _ _ q⟩
    | _::is,_,_,_,⟨v,r,e,q⟩,i=>⟨v,r,e,names_mono (is:=is) q i⟩
section
variable {X:Cx} {tg iter elt:Expr} {ifs:List Expr} {scope:Scope} {pos:Pos} {ti:DTA} {g:Tg} {tc:DTT} {te:DT}
theorem de_lc (N':List Str) (fr:List (Option Nat)) (hc:X.calm=true) (hi:DI X tg iter ti)
    (hg:∀cl fp C s H,PG (blk X scope N' cl fp C s H) tg (g.v X.K)) (ht:∀cl fp C s H,DIfs (blk X scope N' cl fp C s H) ifs tc) (he:∀cl fp C s H,DE (blk X scope N' cl fp C s H) elt te)
    {sc0:Scope} {N0:List Str} (htg:tgOk fr g=true:=by decide) (hsc:X.env.scope=sc0:=by rfl) (hN:X.N=N0:=by rfl) (hok:compScB sc0 N0 scope N' fr=true:=by decide +kernel) (hs:∀x,foldedSetIterable iter X.env x=pure x:=by intro _; rfl) :
    DE X (.ListComp elt [⟨tg,iter,ifs,0⟩] scope pos) (dLC ti fr g tc te):=
  DE.of (pe_lc (tc:=cT X.K tc) (te:=cE X.K te) N' fr hc hi.pi hg (fun cl fp C s H=>(ht cl fp C s H).pf) (fun cl fp C s H=>(he cl fp C s H).pe) hsc hN hok hs) (lc_core htg)
end
end DL
namespace DL
open PySem L2
structure DEnds where
  nx:DEnv→Prop
  rt:B→Prop
  bk:DEnv→Prop:=fun _=>False
  ct:DEnv→Prop:=fun _=>False
abbrev DTS:=DEnds→DEnv→Prop
structure EndsOk (K:PySem.W.Frag) (H0 G0:Hp) (E:DEnds) (Dn:Ends) : Prop where
  nx:∀σ H G ρ,Wd H0 G0 H G→EnvO K H0 G H σ ρ→E.nx ρ→Dn.nx σ H
  bk:∀σ H G ρ,Wd H0 G0 H G→EnvO K H0 G H σ ρ→E.bk ρ→Dn.bk σ H
  ct:∀σ H G ρ,Wd H0 G0 H G→EnvO K H0 G H σ ρ→E.ct ρ→Dn.ct σ H
  rt:∀b v H G,Wd H0 G0 H G→BRes K H0 G H v b→E.rt b→Dn.rt v H
def cS (K:PySem.W.Frag) (H0 G0:Hp) (t:DTS) : TS:=fun Dn σ H=>∃(E:DEnds) (G:Hp) (ρ:DEnv),EndsOk K H0 G0 E Dn∧Wd H0 G0 H G∧EnvO K H0 G H σ ρ∧t E ρ
structure DS (X:Cx) (st:Stmt) (t:DTS) : Prop where
  ps:∀H0 G0,PS X st (cS X.K H0 G0 t)
structure DSs (X:Cx) (st:List Stmt) (t:DTS) : Prop where
  pss:∀H0 G0,PSs X st (cS X.K H0 G0 t)
section
variable {K:PySem.W.Frag} {H0 G0 G H H':Hp} {σ:St} {ρ:DEnv}
theorem EnvO.freeze (e:EnvO K H0 G H σ ρ) (w:Wd H0 G0 H G) : ∃G1,Wd H0 G0 H G1∧Same G G1∧EnvO K H0 G1 H σ (frz ρ):=by
  classical
  obtain ⟨o,e⟩:=e
  have to:∀a,H0 a=none→G a=none→(if H0 a=none∧G a=none then H a else G a)=H a:=fun a h1 h2=>if_pos ⟨h1,h2⟩
  have sG:Same G (fun a=>if H0 a=none∧G a=none then H a else G a):=fun a o h=>by
    show (if _ then H a else G a)=_
    rw[if_neg fun q=>by rw[q.2] at h; cases h]
    exact h
  refine ⟨fun a=>if H0 a=none∧G a=none then H a else G a,⟨w.hh,w.gg.trans sG,fun a o h=>?_,fun a h=>?_⟩,sG,?_⟩
  · have h':(if H0 a=none∧G a=none then H a else G a)=some o:=h
    split at h'
    · exact h'
    · exact w.gh _ _ h'
  · show (if H0 a=none∧G a=none then H a else G a)=_
    rw[if_neg fun q=>h.there q.1]
    exact w.old a h
  · have own:∀a d,H0 a=none→OwnAt K G H a d→Rep K (fun a=>if H0 a=none∧G a=none then H a else G a) (.ref a) d:=fun a d h0 h=>h.rep sG fun o z=>by
      show (if H0 a=none∧G a=none then H a else G a)=_
      rw[to a h0 h.1]
      exact z
    refine EnvO.only (by rw[frz_len]; exact e.len) (fun i d h=>?_) fun i b h=>?_
    · obtain ⟨b,h1,h2⟩:=dget_frz h
      cases h2
      cases b with
      | p d =>
        obtain ⟨v,h3,h4⟩:=e.p i d h1
        exact ⟨v,h3,h4.mono sG⟩
      | o d =>
        obtain ⟨a,h3,h4,h4',h5⟩:=e.o i d h1
        exact ⟨.ref a,h3,own a d h4 h5⟩
      | n t dss =>
        obtain ⟨a,h3,as,nd,pr,q⟩:=e.n i t dss h1
        have rs:Reps K (fun a=>if H0 a=none∧G a=none then H a else G a) (as.map V.ref) dss:=by
          clear q h1 h nd
          induction pr with
          | nil=>exact .nil
          | cons f _ ih=>exact .cons (own _ _ f.1 f.2.2) ih
        refine ⟨.ref a,h3,?_⟩
        cases t with
        | true=>exact Rep.tup' (sG _ _ q) rs
        | false =>
          refine Rep.lst' ?_ rs
          show (if H0 a=none∧G a=none then H a else G a)=_
          rw[to a q.1 q.2.2.1]
          exact q.2.2.2.2
    · obtain ⟨b',h1,h2⟩:=dget_frz h
      exact ⟨_,h2⟩
theorem EnvW.back {o:Addr→Nat} (e:EnvW K H0 G H o σ ρ) (hh:Same H H') : EnvW K H0 G H' o σ ρ:=
  ⟨e.len,e.p,fun i d h=>by
    obtain ⟨a,h1,h2,h2',h3⟩:=e.o i d h
    exact ⟨a,h1,h2,h2',h3.stay (Same.refl _) h3.1 fun o q=>hh _ _ q⟩,fun i t dss h=>by
    obtain ⟨a,h1,h2⟩:=e.n i t dss h
    exact ⟨a,h1,h2.stay (Same.refl _) fun x k1 k2 k3 k4=>⟨k3,k2,fun o q=>hh _ _ q⟩⟩⟩
theorem EnvO.back (e:EnvO K H0 G H σ ρ) (hh:Same H H') : EnvO K H0 G H' σ ρ:=by
  obtain ⟨o,e⟩:=e
  exact ⟨o,e.back hh⟩
theorem Wd.back {G1 G1':Hp} (w:Wd H0 G0 H G) (w1:Wd H G1 H' G1') : Wd H0 G0 H' G:=⟨w.hh.trans w1.hh,w.gg,w.gh.trans w1.hh,w.old⟩
end
section
variable {X:Cx} {st:Stmt} {rest:List Stmt} {t u:DTS} {a b c e:Expr} {ta tb te:DT} {pos:Pos}
def dNext:DTS:=fun E ρ=>E.nx ρ
def dSeq (t u:DTS) : DTS:=fun E ρ=>t { E with nx:=u E } ρ
theorem dss_nil:DSs X [] dNext:=DSs.mk fun H0 G0=>PSs.imp pss_nil fun Dn σ H ⟨E,G,ρ,eo,w,en,h⟩=>eo.nx σ H G ρ w en h
theorem dss_cons (h1:DS X st t) (h2:DSs X rest u) : DSs X (st::rest) (dSeq t u):=DSs.mk fun H0 G0=>PSs.imp (pss_cons (h1.ps H0 G0) (h2.pss H0 G0)) fun Dn σ H ⟨E,G,ρ,eo,w,en,h⟩ =>
  ⟨{ E with nx:=u E },G,ρ,⟨fun σ' H' G' ρ' w' en' h'=>⟨E,G',ρ',eo,w',en',h'⟩,eo.bk,eo.ct,eo.rt⟩,w,en,h⟩
theorem dss_one (h1:DS X st t) : DSs X [st] t:=DSs.mk fun H0 G0=>pss_one (h1.ps H0 G0)
def dDrop (te:DT) : DTS:=fun E ρ=>te (frz ρ) fun _=>E.nx ρ
def dRet (te:DT) : DTS:=fun E ρ=>te (frz ρ) E.rt
theorem ds_ret (he:DE X e te) : DS X (.Return (some e) pos) (dRet te):=DS.mk fun H0 G0=>PS.imp (ps_ret he.pe) fun Dn σ H ⟨E,G,ρ,eo,w,en,h⟩=>by
  obtain ⟨G1,w1,sg,e1⟩:=en.freeze w
  exact ⟨G1,frz ρ,_,w1.gh,e1.p,h,fun b v H' G' p' w' r'=>eo.rt b v H' G' (w1.trans w') (r'.ahead w.hh) p'⟩
def dRetN:DTS:=fun E _=>E.rt (.p .non)
def dRetO (i:Nat) : DTS:=fun E ρ=>match dget ρ i with
  | some (.o d)=>E.rt (.o d)
  | _=>False
theorem ds_retO (i:Nat) {x:Str} {px:Pos} (hN:X.N[i]?=some x:=by rfl) (hv:Vis X.env.scope x:=by first | exact Or.inl rfl | exact Or.inr (Or.inl rfl) | exact Or.inr (Or.inr rfl)) (hd:(x == ("__debug__" : Str))=false:=by decide)
    (hcd:(x == ("__classdict__" : Str))=false:=by decide) : DS X (.Return (some (.Name x px)) pos) (dRetO i):=DS.mk fun H0 G0=>PS.imp (ps_ret (pe_var hN hv hd hcd)) fun Dn σ H ⟨E,G,ρ,eo,w,en,h⟩=>by
  unfold dRetO at h
  split at h
  · rename_i d e
    obtain ⟨a,h1,h2,h3⟩:=en.o i d e
    exact ⟨.ref a,h1,eo.rt (.o d) _ H G w ⟨a,rfl,h2,h3⟩ h⟩
  · exact h.elim
def dIfS (tc:DTT) (t u:DTS) : DTS:=fun E ρ=>tc (frz ρ) fun c=>(c=true→t E ρ)∧(c=false→u E ρ)
theorem ds_if {x y:List Stmt} {tc:DTT} (hc:DTe X c tc) (ha:DSs X x t) (hb:DSs X y u) : DS X (.If c x y pos) (dIfS tc t u):=DS.mk fun H0 G0=>PS.imp (ps_if hc.pt (ha.pss H0 G0) (hb.pss H0 G0)) fun Dn σ H ⟨E,G,ρ,eo,w,en,h⟩=>by
  obtain ⟨G1,w1,sg,e1⟩:=en.freeze w
  refine ⟨G1,frz ρ,_,w1.gh,e1.p,h,fun c H' G' p' w'=>?_⟩
  cases c with
  | true=>exact iteT ⟨E,G,ρ,eo,w.back w',en.back w'.hh,p'.1 rfl⟩
  | false=>exact iteF ⟨E,G,ρ,eo,w.back w',en.back w'.hh,p'.2 rfl⟩
def dSet (i:Nat) (te:DT) : DTS:=fun E ρ=>te ρ fun b=>E.nx (dput ρ i b)
def dSetF (i:Nat) (te:DT) : DTS:=fun E ρ=>te (frz ρ) fun b=>b.val.sc=true∧E.nx (dput ρ i (.p b.val))
def dSetD (i:Nat) (te:DT) : DTS:=fun E ρ=>te (frz ρ) fun b=>E.nx (dput (frz ρ) i b)
theorem set_core {K:PySem.W.Frag} {H0 G0 H G H' G':Hp} {σ:St} {ρ:DEnv} {E:DEnds} {Dn:Ends} (i:Nat) (eo:EndsOk K H0 G0 E Dn) (w:Wd H0 G0 H G) (en:EnvO K H0 G H σ ρ) {b:B} {v:V} (p:E.nx (dput ρ i b)) (w':Wd H G H' G') (r:BRes K H G' H' v b) : Dn.nx (σ.set i (some v)) H':=by
  cases b with
  | p d=>exact eo.nx _ H' G' _ (w.trans w') ((en.on w').putP i r) p
  | o d =>
    obtain ⟨a,rfl,hn,o⟩:=r
    exact eo.nx _ H' G' _ (w.trans w') (en.putO w' i (w.hh.free hn) hn o) p
  | n t ds =>
    cases t with
    | false=>exact r.elim
    | true =>
      obtain ⟨a,as,rfl,q,nd,pr⟩:=r
      exact eo.nx _ H' G' _ (w.trans w') (en.putNT w' w.hh i q nd pr) p
theorem dset_imp {K:PySem.W.Frag} {H0 G0:Hp} {i:Nat} (Dn:Ends) (σ:St) (H:Hp) : cS K H0 G0 (dSet i te) Dn σ H→cE K te σ H fun v H1=>Dn.nx (σ.set i (some v)) H1:=by
  rintro ⟨E,G,ρ,eo,w,en,h⟩
  exact ⟨G,ρ,_,w.gh,en.p,h,fun b v H' G' p' w' r'=>set_core i eo w en p' w' r'⟩
theorem dsetF_imp {K:PySem.W.Frag} {H0 G0:Hp} {i:Nat} (Dn:Ends) (σ:St) (H:Hp) : cS K H0 G0 (dSetF i te) Dn σ H→cE K te σ H fun v H1=>Dn.nx (σ.set i (some v)) H1:=by
  rintro ⟨E,G,ρ,eo,w,en,h⟩
  obtain ⟨G1,w1,sg,e1⟩:=en.freeze w
  refine ⟨G1,frz ρ,_,w1.gh,e1.p,h,fun b v H' G' p' w' r'=>?_⟩
  obtain ⟨G2,w2,r2⟩:=r'.give w'
  exact eo.nx _ H' G _ (w.back w') ((en.back w'.hh).putP i (r2.sc p'.1)) p'.2
def dSetP (i:Nat) (te:DT) : DTS:=fun E ρ=>te ρ fun b=>E.nx (dput ρ i (.p b.val))
def dSetDP (i:Nat) (te:DT) : DTS:=fun E ρ=>te (frz ρ) fun b=>E.nx (dput (frz ρ) i (.p b.val))
theorem dsetP_imp {K:PySem.W.Frag} {H0 G0:Hp} {i:Nat} (Dn:Ends) (σ:St) (H:Hp) : cS K H0 G0 (dSetP i te) Dn σ H→cE K te σ H fun v H1=>Dn.nx (σ.set i (some v)) H1:=by
  rintro ⟨E,G,ρ,eo,w,en,h⟩
  refine ⟨G,ρ,_,w.gh,en.p,h,fun b v H' G' p' w' r'=>?_⟩
  obtain ⟨G2,w2,r2⟩:=r'.give w'
  exact set_core i eo w en (b:=.p b.val) p' w2 r2
theorem dsetDP_imp {K:PySem.W.Frag} {H0 G0:Hp} {i:Nat} (Dn:Ends) (σ:St) (H:Hp) : cS K H0 G0 (dSetDP i te) Dn σ H→cE K te σ H fun v H1=>Dn.nx (σ.set i (some v)) H1:=by
  rintro ⟨E,G,ρ,eo,w,en,h⟩
  obtain ⟨G1,w1,sg,e1⟩:=en.freeze w
  refine ⟨G1,frz ρ,_,w1.gh,e1.p,h,fun b v H' G' p' w' r'=>?_⟩
  obtain ⟨G2,w2,r2⟩:=r'.give w'
  exact set_core i eo w1 e1 (b:=.p b.val) p' w2 r2
section
variable {i:Nat} {x:Str} {px:Pos}
theorem ds_set (hN:X.N.Nodup) (hi:X.N[i]?=some x) (hx:Loc X.env.scope x) (he:DE X e te) (hs:swapsWith e (some (.Name x px)) pos.line X.env=pure false:=by rfl) (hf:X.fn x=true∨X.env.scope.names.lookup x=some .local:=by first | exact .inl rfl | exact .inr rfl | assumption) :
    DS X (.Assign [.Name x px] e pos) (dSet i te):=DS.mk fun H0 G0=>PS.imp (ps_set hN hi hx he.pe hs hf) dset_imp
theorem ds_setP (hN:X.N.Nodup) (hi:X.N[i]?=some x) (hx:Loc X.env.scope x) (he:DE X e te) (hs:swapsWith e (some (.Name x px)) pos.line X.env=pure false:=by rfl) (hf:X.fn x=true∨X.env.scope.names.lookup x=some .local:=by first | exact .inl rfl | exact .inr rfl | assumption) :
    DS X (.Assign [.Name x px] e pos) (dSetP i te):=DS.mk fun H0 G0=>PS.imp (ps_set hN hi hx he.pe hs hf) dsetP_imp
theorem ds_setF (hN:X.N.Nodup) (hi:X.N[i]?=some x) (hx:Loc X.env.scope x) (he:DE X e te) (hs:swapsWith e (some (.Name x px)) pos.line X.env=pure false:=by rfl) (hf:X.fn x=true∨X.env.scope.names.lookup x=some .local:=by first | exact .inl rfl | exact .inr rfl | assumption) :
    DS X (.Assign [.Name x px] e pos) (dSetF i te):=DS.mk fun H0 G0=>PS.imp (ps_set hN hi hx he.pe hs hf) dsetF_imp
variable {tg iter elt:Expr} {ifs:List Expr} {scope:Scope} {spos:Pos} {ti:DTA} {g:Tg} {tc:DTT}
theorem ds_setLCDP (hNd:X.N.Nodup) (hy:X.N[i]?=some x) (hly:Loc X.env.scope x) (N':List Str) (fr:List (Option Nat)) (hc:X.calm=true) (hi:DI X tg iter ti)
    (hg:∀cl fp C s H,PG (blk X scope N' cl fp C s H) tg (g.v X.K)) (ht:∀cl fp C s H,DIfs (blk X scope N' cl fp C s H) ifs tc) (he:∀cl fp C s H,DE (blk X scope N' cl fp C s H) elt te)
    {sc0:Scope} {N0:List Str} (htg:tgOk fr g=true:=by decide) (hsw:swapsWith (.ListComp elt [⟨tg,iter,ifs,0⟩] scope pos) (some (.Name x px)) spos.line X.env=pure true:=by rfl)
    (hsc:X.env.scope=sc0:=by rfl) (hN:X.N=N0:=by rfl) (hok:compScB sc0 N0 scope N' fr=true:=by decide +kernel) (hs:∀x,foldedSetIterable iter X.env x=pure x:=by intro _; rfl)
    (hf:X.fn x=true∨X.env.scope.names.lookup x=some .local:=by first | exact .inl rfl | exact .inr rfl) :
    DS X (.Assign [.Name x px] (.ListComp elt [⟨tg,iter,ifs,0⟩] scope pos) spos) (dSetDP i (dLC ti fr g tc te)):=DS.mk fun H0 G0 =>
  PS.imp (ps_setLC (tc:=cT X.K tc) (te:=cE X.K te) hNd hy hly N' fr hc hi.pi hg (fun cl fp C s H=>(ht cl fp C s H).pf) (fun cl fp C s H=>(he cl fp C s H).pe) hsw hsc hN hok hs hf) fun Dn σ H h=>lc_core htg σ H _ (dsetDP_imp Dn σ H h)
def dAug (i:Nat) (te:DT) (f:Int→Int→Int) : DTS:=fun E ρ=>match dget ρ i with
  | some (.p (.int m))=>te (frz ρ) fun b=>match b.val with
    | .int n=>E.nx (dput ρ i (.p (.int (f m n))))
    | _=>False
  | _=>False
theorem ds_aug {op:Operator} {f:Int→Int→Int} (hN:X.N.Nodup) (hi:X.N[i]?=some x) (hx:Loc X.env.scope x) (he:DE X e te) (ho:PIp X op (ipI f)) (hf:X.fn x=true∨X.env.scope.names.lookup x=some .local:=by first | exact .inl rfl | exact .inr rfl | assumption) :
    DS X (.AugAssign (.Name x px) op e pos) (dAug i te f):=DS.mk fun H0 G0=>PS.imp (ps_aug hN hi hx he.pe ho hf) fun Dn σ H ⟨E,G,ρ,eo,w,en,h⟩=>by
  unfold dAug at h
  split at h
  · rename_i m q
    obtain ⟨G1,w1,sg,e1⟩:=en.freeze w
    obtain ⟨v,h1,h2⟩:=en.p i _ q
    cases h2
    refine ⟨_,h1,G1,frz ρ,_,w1.gh,e1.p,h,fun b v H' G' p' w' r'=>?_⟩
    split at p'
    · rename_i n e
      exact ⟨m,n,rfl,bres_int w' r' e,eo.nx _ H' G _ (w.back w') ((en.back w'.hh).putP i (.int _)) p'⟩
    · exact p'.elim
  · exact h.elim
end
def dAsg (te:DT) (g:Tg) : DTS:=fun E ρ=>te ρ fun b=>g.d b.val ρ E.nx
theorem ds_asg {tg:Expr} {g:Tg} (he:DE X e te) (hg:PG X tg (g.v X.K)) (hs:swapsWithSole [tg] e pos.line X.env=pure false:=by rfl) (hw:swappedStores [tg] e X.env=pure none:=by rfl)
    (h1:(assignEach [tg] X.env).map (·.2) = [assign tg X.env]:=by rfl) : DS X (.Assign [tg] e pos) (dAsg te g):=DS.mk fun H0 G0=>PS.imp (ps_asg he.pe hg hs hw h1) fun Dn σ H ⟨E,G,ρ,eo,w,en,h⟩=>by
  refine ⟨G,ρ,_,w.gh,en.p,h,fun b v H' G' p' w' r'=>?_⟩
  obtain ⟨G2,w2,r2⟩:=r'.give w'
  exact Tg.ok w2.gh (en.on w2) r2 p' fun σ' ρ' e' q=>eo.nx σ' H' G2 ρ' (w.trans w2) e' q
theorem EnvO.setO {K:PySem.W.Frag} {H0 G H:Hp} {σ:St} {ρ:DEnv} {i:Nat} {a:Addr} {ds ds':List D} {vs:List V} (e:EnvO K H0 G H σ ρ) (h1:dget ρ i=some (.o (.lst ds))) (h2:σ[i]?=some (some (.ref a))) (r:Reps K G vs ds') : EnvO K H0 G (upd H a (.lst vs)) σ (dput ρ i (.o (.lst ds'))):=by
  obtain ⟨o,e⟩:=e
  have hlt:=dget_lt h1
  obtain ⟨a',h3,h4,h4',h5⟩:=e.o i _ h1
  rw[h2] at h3
  cases h3
  refine ⟨o,by rw[dput_len]; exact e.len,fun j d q=>?_,fun j d q=>?_,fun j t dss q=>?_⟩
  · rcases dget_put q with ⟨rfl,_,q⟩ | ⟨hne,q⟩
    · cases q
    · exact e.p j d q
  · rcases dget_put q with ⟨rfl,_,q⟩ | ⟨hne,q⟩
    · cases q
      exact ⟨a,h2,h4,h4',h5.1,vs,upd_same,r⟩
    · obtain ⟨b,k1,k2,k2',k3⟩:=e.o j d q
      refine ⟨b,k1,k2,k2',k3.stay (Same.refl _) k3.1 fun o z=>?_⟩
      have:b≠a:=by
        rintro rfl
        exact hne (h4'.symm.trans k2')
      rw[upd_ne this]
      exact z
  · rcases dget_put q with ⟨rfl,_,q⟩ | ⟨hne,q⟩
    · cases q
    · obtain ⟨b,k1,k2⟩:=e.n j t dss q
      refine ⟨b,k1,k2.stay (Same.refl _) fun x z1 z2 z3 z4=>⟨z3,z2,fun o z=>?_⟩⟩
      have:x≠a:=by
        rintro rfl
        exact hne (h4'.symm.trans z2)
      rw[upd_ne this]
      exact z
def dApp (i:Nat) (te:DT) : DTS:=fun E ρ=>match dget ρ i with
  | some (.o (.lst ds))=>te ρ fun b=>ds.length<sizeLine∧E.nx (dput ρ i (.o (.lst (ds++[b.val]))))
  | _=>False
def dAppF (i:Nat) (te:DT) : DTS:=fun E ρ=>match dget ρ i with
  | some (.o (.lst ds))=>te (frz ρ) fun b=>b.val.sc=true∧ds.length<sizeLine∧E.nx (dput ρ i (.o (.lst (ds++[b.val]))))
  | _=>False
theorem app_fin {K:PySem.W.Frag} {H0 G0 G H:Hp} {σ:St} {ρ:DEnv} {i:Nat} {a:Addr} {ds:List D} {vs:List V} {v:V} {d:D} {E:DEnds} {Dn:Ends} (eo:EndsOk K H0 G0 E Dn) (w:Wd H0 G0 H G) (e:EnvO K H0 G H σ ρ) (h1:dget ρ i=some (.o (.lst ds))) (h2:σ[i]?=some (some (.ref a))) (h3:H a=some (.lst vs)) (r:Reps K G vs ds) (rv:Rep K G v d) (hz:ds.length<sizeLine) (p:E.nx (dput ρ i (.o (.lst (ds++[d]))))) :
    rAppend (.ref a) [v] H fun _ H3=>Dn.nx σ H3:=by
  obtain ⟨a',k1,k2,k3⟩:=e.o i _ h1
  rw[h2] at k1
  cases k1
  exact ⟨a,vs,v,rfl,rfl,h3,by rw[Paired.length r]; exact hz,eo.nx σ _ G _ (w.own k2 k3.1) (e.setO h1 h2 (paired_app r (.cons rv .nil))) p⟩
section
variable {i:Nat} {x:Str} {px apos cpos spos:Pos}
theorem ds_app (hN:X.N[i]?=some x) (hv:Vis X.env.scope x) (he:DE X e te) (hd:(x == ("__debug__" : Str))=false:=by decide) (hcd:(x == ("__classdict__" : Str))=false:=by decide)
    (hbase:attributeBase (.Name x px) "append" X.env (eval (.Name x px) X.env)=eval (.Name x px) X.env:=by rfl)
    (hfew:((backTo cpos (starEach (e::[]) X.env)).all (fun x=>!x.1) && (backToKw cpos (keywordEach [] X.env)).all (fun x=>x.1.isSome)
      && decide ((e::[]).length+([] : List Keyword).length+(if ([] : List Keyword).isEmpty then 0 else 1)<30))=true:=by rfl)
    (hline:(apos.endLine == cpos.line)=true:=by rfl) (hs:starEach (e::[]) X.env=(false,eval e X.env)::starEach [] X.env:=by rfl) (hplain:(backTo cpos (starEach [] X.env)).any (·.1)=false:=by rfl)
    (hsw:swapsWith (.Call (.Attribute (.Name x px) "append" apos) [e] [] cpos) none spos.line X.env=pure false:=by rfl) :
    DS X (.Expr (.Call (.Attribute (.Name x px) "append" apos) [e] [] cpos) spos) (dApp i te):=DS.mk fun H0 G0 =>
  PS.imp (ps_expr (pe_bm PySem.F.plainAttrs_list PySem.F.slot_list_append PySem.F.type_list_append mt_append (pe_var hN hv hd hcd) (pa_cons he.pe pa_nil hs) hbase hfew hline hs hplain) hsw) fun Dn σ H ⟨E,G,ρ,eo,w,en,h⟩=>by
    unfold dApp at h
    split at h
    · rename_i ds q
      obtain ⟨a,h1,h2,h3,vs,h4,h5⟩:=en.o i _ q
      refine ⟨_,h1,.inl ⟨rfl,_,SqL.of h4⟩,G,ρ,_,w.gh,en.p,h,fun b v H' G' p' w' r'=>?_⟩
      obtain ⟨G2,w2,r2⟩:=r'.give w'
      exact app_fin eo (w.trans w2) (en.on w2) q h1 (w2.hh _ _ h4) (Reps.mono w2.gg h5) r2 p'.1 p'.2
    · exact h.elim
def dSetIx (i:Nat) (tk te:DT) : DTS:=fun E ρ=>te ρ fun b=>match dget ρ i with
  | some (.o (.lst ds))=>tk (frz ρ) fun k=>match k.val with
    | .int z=>∃j,ixN ds.length z=some j∧E.nx (dput ρ i (.o (.lst (ds.set j b.val))))
    | _=>False
  | _=>False
def dSetIxF (i:Nat) (tk te:DT) : DTS:=fun E ρ=>te (frz ρ) fun b=>b.val.sc=true∧match dget ρ i with
  | some (.o (.lst ds))=>tk (frz ρ) fun k=>match k.val with
    | .int z=>∃j,ixN ds.length z=some j∧E.nx (dput ρ i (.o (.lst (ds.set j b.val))))
    | _=>False
  | _=>False
def dAugIx (i:Nat) (tk te:DT) (f:Int→Int→Int) : DTS:=fun E ρ=>match dget ρ i with
  | some (.o (.lst ds))=>tk (frz ρ) fun k=>match k.val with
    | .int z=>∃j m,ixN ds.length z=some j∧ds[j]?=some (.int m)∧te (frz ρ) fun b=>match b.val with
      | .int n=>E.nx (dput ρ i (.o (.lst (ds.set j (.int (f m n))))))
      | _=>False
    | _=>False
  | _=>False
end
def forI (g:Tg) (tb:DTS) (E:DEnds) (xs:List D) (ρ:DEnv) : Prop:=∃I:Nat→DEnv→Prop,I 0 ρ ∧
  (∀i d ρ,xs[i]?=some d→I i ρ→g.d d ρ fun ρ'=>tb { E with nx:=I (i+1),ct:=I (i+1),bk:=E.nx } ρ')∧∀ρ,I xs.length ρ→E.nx ρ
def dFor (ti:DTA) (g:Tg) (tb:DTS) : DTS:=fun E ρ=>ti ρ fun xs=>forI g tb E xs ρ
def dForD (ti:DTA) (g:Tg) (tb:DTS) : DTS:=fun E ρ=>ti (frz ρ) fun xs=>forI g tb E xs (frz ρ)
theorem Wd.base {H0 G0 H9 G9 H G:Hp} (w9:Wd H0 G0 H9 G9) (w:Wd H0 G9 H G) : Wd H0 G0 H G:=⟨w.hh,w9.gg.trans w.gg,w.gh,fun a h=>by rw[w.old a h,w9.old a h]⟩
def cX (K:PySem.W.Frag) (t:DTS) : TS:=fun Dn σ H=>∃H0 G0,cS K H0 G0 t Dn σ H
theorem DSs.x {sts:List Stmt} (h:DSs X sts t) : PSs X sts (cX X.K t):=fun pins s σ H D I ⟨H0,G0,q⟩=>h.pss H0 G0 pins s σ H D I q
theorem for_core {K:PySem.W.Frag} {H0 G0 G H:Hp} {σ:St} {ρ:DEnv} {g:Tg} {tb:DTS} {J:It} {xs:List D} {E:DEnds} {Dn:Ends} (eo:EndsOk K H0 G0 E Dn) (w:Wd H0 G0 H G) (en:EnvO K H0 G H σ ρ) (it:ItD K G J xs) (h:forI g tb E xs ρ) :
    ∃W:Nat→Nat→St→Hp→Prop,(∃m,W 0 m σ H)∧∀i m σ H,W i m σ H →
      (J.stop i H∧Dn.nx σ H)∨(J.go i H∧∃N:St→Hp→Prop,(∀σ' H',N σ' H'→∃m',m'<m∧W (i+1) m' σ' H')∧∀x H',J.yld i H x H'→g.v K x σ H' fun σ2 H2=>cX K tb { Dn with nx:=N,ct:=N,bk:=Dn.nx } σ2 H2):=by
  obtain ⟨I,i0,is,ie⟩:=h
  have w0:Wd H0 G H G:=⟨w.hh,Same.refl _,w.gh,fun _ _=>rfl⟩
  refine ⟨fun i m σ H=>m=xs.length - i∧i≤xs.length∧∃G' ρ',Wd H0 G H G'∧EnvO K H0 G' H σ ρ'∧I i ρ',⟨xs.length,by simp,Nat.zero_le _,G,ρ,w0,en,i0⟩,?_⟩
  rintro i m σ H ⟨rfl,hi,G',ρ',w',en',p⟩
  by_cases hlt:i<xs.length
  · have hx:xs[i]?=some xs[i]:=List.getElem?_eq_getElem hlt
    refine .inr ⟨it.go i _ H G' hx w'.gg w'.gh,fun σ2 H2=>∃G2 ρ2,Wd H0 G H2 G2∧EnvO K H0 G2 H2 σ2 ρ2∧I (i+1) ρ2,fun σ2 H2 ⟨G2,ρ2,z⟩=>⟨xs.length - (i+1),by lia,rfl,hlt,G2,ρ2,z⟩,fun x H2 y=>?_⟩
    obtain ⟨G2,w2,r2⟩:=it.yld i _ H G' x H2 hx w'.gg w'.gh y
    refine Tg.ok w2.gh (en'.on w2) r2 (is i _ ρ' hx p) fun σ3 ρ3 e3 p3=>?_
    exact ⟨H0,G,{ E with nx:=I (i+1),ct:=I (i+1),bk:=E.nx },G2,ρ3,⟨fun σ4 H4 G4 ρ4 w4 e4 p4=>⟨G4,ρ4,w4,e4,p4⟩,fun σ4 H4 G4 ρ4 w4 e4 p4=>eo.nx σ4 H4 G4 ρ4 (w.base w4) e4 p4,fun σ4 H4 G4 ρ4 w4 e4 p4=>⟨G4,ρ4,w4,e4,p4⟩,fun b v H4 G4 w4 r4 p4=>eo.rt b v H4 G4 (w.base w4) r4 p4⟩,w'.trans w2,e3,p3⟩
  · have e : i = xs.length := by lia
    subst e
    exact .inl ⟨it.stop _ H G' rfl w'.gg w'.gh,eo.nx σ H G' ρ' (w.base w') en' (ie ρ' p)⟩
section
variable {tg iter:Expr} {body:List Stmt} {ti:DTA} {g:Tg} {tb:DTS}
theorem ds_for (hp:PassesOwn (model X.prog X.w) X.A X.env X.xe) (hc:X.calm=true) (hi:DI X tg iter ti) (hg:PG X tg (g.v X.K)) (hb:DSs X body tb) (hs:∀x,foldedSetIterable iter X.env x=pure x:=by intro _; rfl) : DS X (.For tg iter body [] pos) (dFor ti g tb):=DS.mk fun H0 G0 =>
  PS.imp (ps_for hp hc hi.pi hg hb.x hs) fun Dn σ H ⟨E,G,ρ,eo,w,en,h⟩=>⟨G,ρ,_,w.gh,en.p,h,fun xs J H' G' p' w' it=>for_core eo (w.trans w') (en.on w') it p'⟩
def cIs (K:PySem.W.Frag) (t:DTA) : TI:=fun σ H R=>∃(G:Hp) (ρ:DEnv) (P:List D→Prop),Same G H∧RepE K G σ ρ∧t ρ P∧∀xs J H' G',P xs→Wd H G H' G'→(∀G,ItD K G J xs)→R J H'
structure DIs (X:Cx) (tg e:Expr) (t:DTA) : Prop where
  pi:PI X tg e (cIs X.K t)
theorem DIs.of {e:Expr} {t:TI} {t':DTA} (h:PI X tg e t) (i:∀σ H Q,cIs X.K t' σ H Q→t σ H Q) : DIs X tg e t':=⟨PI.imp h i⟩
theorem dis_rng1 {a:Expr} {t:DTA} {p:Pos} (hg:Gl X "range") (hm:X.mg "range" = none) (ha:DA X [a] t) (hs:starEach [a] X.env = [(false,eval a X.env)]:=by rfl) : DIs X tg (.Call (.Name "range" p) [a] [] pos) (diRng1 t):=
  DIs.of (pi_range1 hg hm ha.pa hs) fun σ H R ⟨G,ρ,P,s,re,h,k⟩=>by
    refine ⟨G,ρ,_,s,re,h,fun ds vs H1 G1 p1 l1 w1 r1=>?_⟩
    split at p1
    · obtain ⟨v,rfl,rv⟩:=reps1 r1
      cases rv
      exact ⟨_,rfl,p1.1.1,p1.1.2,k _ _ H1 G1 p1.2 w1 fun _=>itd_rng⟩
    · exact p1.elim
theorem dis_rng2 {a b:Expr} {t:DTA} {p:Pos} (hg:Gl X "range") (hm:X.mg "range" = none) (ha:DA X [a,b] t) (hs:starEach [a,b] X.env = [(false,eval a X.env),(false,eval b X.env)]:=by rfl) (hs2:starEach [b] X.env = [(false,eval b X.env)]:=by rfl) :
    DIs X tg (.Call (.Name "range" p) [a,b] [] pos) (diRng2 t):=
  DIs.of (pi_range2 hg hm ha.pa hs hs2) fun σ H R ⟨G,ρ,P,s,re,h,k⟩=>by
    refine ⟨G,ρ,_,s,re,h,fun ds vs H1 G1 p1 l1 w1 r1=>?_⟩
    split at p1
    · obtain ⟨v,v',rfl,rv,rv'⟩:=reps2 r1
      cases rv; cases rv'
      exact ⟨_,_,rfl,p1.1,k _ _ H1 G1 p1.2 w1 fun _=>itd_rng⟩
    · exact p1.elim
def dForS (ti:DTA) (g:Tg) (tb:DTS) : DTS:=fun E ρ=>ti (frz ρ) fun xs=>forI g tb E xs ρ
theorem ds_forS (hp:PassesOwn (model X.prog X.w) X.A X.env X.xe) (hc:X.calm=true) (hi:DIs X tg iter ti) (hg:PG X tg (g.v X.K)) (hb:DSs X body tb) (hs:∀x,foldedSetIterable iter X.env x=pure x:=by intro _; rfl) : DS X (.For tg iter body [] pos) (dForS ti g tb):=DS.mk fun H0 G0 =>
  PS.imp (ps_for hp hc hi.pi hg hb.x hs) fun Dn σ H ⟨E,G,ρ,eo,w,en,h⟩=>by
    obtain ⟨G1,w1,sg,e1⟩:=en.freeze w
    exact ⟨G1,frz ρ,_,w1.gh,e1.p,h,fun xs J H' G' p' w' it=>for_core eo (w.back w') (en.back w'.hh) (it G) p'⟩
def dWhile (tc:DTT) (tb:DTS) : DTS:=fun E ρ=>∃(I:DEnv→Prop) (μ:DEnv→Nat),I ρ∧∀ρ,I ρ→tc (frz ρ) fun c=>(c=true→tb { E with nx:=fun ρ'=>I ρ'∧μ ρ'<μ ρ,ct:=fun ρ'=>I ρ'∧μ ρ'<μ ρ,bk:=E.nx } ρ)∧(c=false→E.nx ρ)
theorem ds_while {tc:DTT} (hp:PassesOwn (model X.prog X.w) X.A X.env X.xe) (hc:DTe X c tc) (hb:DSs X body tb) : DS X (.While c body [] pos) (dWhile tc tb):=DS.mk fun H0 G0 =>
  PS.imp (ps_while hp hc.pt (hb.pss H0 G0)) fun Dn σ H ⟨E,G,ρ,eo,w,en,I,μ,i0,h⟩=>by
    refine ⟨fun m σ H=>∃G ρ,m=μ ρ∧Wd H0 G0 H G∧EnvO X.K H0 G H σ ρ∧I ρ,⟨_,G,ρ,rfl,w,en,i0⟩,?_⟩
    rintro m σ H ⟨G,ρ,rfl,w,en,i0⟩
    obtain ⟨G1,w1,sg,e1⟩:=en.freeze w
    refine ⟨G1,frz ρ,_,w1.gh,e1.p,h ρ i0,fun c H' G' p' w'=>?_⟩
    cases c with
    | true =>
      refine iteT ⟨fun σ' H'=>∃G' ρ',Wd H0 G0 H' G'∧EnvO X.K H0 G' H' σ' ρ'∧I ρ'∧μ ρ'<μ ρ,fun σ' H' ⟨G',ρ',w',e',i',l⟩=>⟨_,l,G',ρ',rfl,w',e',i'⟩,_,G,ρ,?_,w.back w',en.back w'.hh,p'.1 rfl⟩
      exact ⟨fun σ4 H4 G4 ρ4 w4 e4 p4=>⟨G4,ρ4,w4,e4,p4⟩,fun σ4 H4 G4 ρ4 w4 e4 p4=>eo.nx σ4 H4 G4 ρ4 w4 e4 p4,fun σ4 H4 G4 ρ4 w4 e4 p4=>⟨G4,ρ4,w4,e4,p4⟩,eo.rt⟩
    | false=>exact iteF (eo.nx σ H' G ρ (w.back w') (en.back w'.hh) (p'.2 rfl))
end
end
def startD:Nat→List D→DEnv
  | 0,ds=>ds.map fun d=>some (.p d)
  | n+1,[]=>none::startD n []
  | n+1,d::ds=>some (.p d)::startD n ds
theorem startD_ok {K:PySem.W.Frag} {G:Hp} : ∀(n:Nat) {vs:List V} {ds:List D},Reps K G vs ds→RepE K G (vs.map some++List.replicate (n - vs.length) none) (startD n ds)∧(vs.map some++List.replicate (n - vs.length) (none:Option V)).length=(startD n ds).length∧∀i d,dget (startD n ds) i≠some (.o d)
  | 0,_,_,.nil=>⟨fun i d h=>(nomatch (show (none:Option B)=some (.p d) from h)),rfl,fun i d h=>(nomatch (show (none:Option B)=some (.o d) from h))⟩
  | 0,_,_,.cons (a:=v) (b:=d) (l₁:=vs) (l₂:=ds) r rr=>by
    obtain ⟨h1,h2,h3⟩:=startD_ok (K:=K) (G:=G) 0 rr
    have e0:startD 0 (d::ds)=some (.p d)::startD 0 ds:=rfl
    have e1:(v::vs).map some++List.replicate (0 - (v::vs).length) (none:Option V)=some v::(vs.map some++List.replicate (0 - vs.length) none):=by simp
    rw[e0,e1]
    refine ⟨fun i d' h=>?_,by rw[List.length_cons,List.length_cons,h2],fun i d' h=>?_⟩
    · cases i with
      | zero=>cases h; exact ⟨v,rfl,r⟩
      | succ i=>exact h1 i d' h
    · cases i with
      | zero=>cases h
      | succ i=>exact h3 i d' h
  | n+1,_,_,.nil=>by
    obtain ⟨h1,h2,h3⟩:=startD_ok (K:=K) (G:=G) n (vs:=[]) (ds:=[]) .nil
    have e1:([] : List V).map some++List.replicate (n+1 - ([] : List V).length) (none:Option V)=none::(([] : List V).map some++List.replicate (n - ([] : List V).length) none):=by simp[List.replicate_succ]
    rw[e1]
    refine ⟨fun i d' h=>?_,by show _=(none::startD n []).length; rw[List.length_cons,List.length_cons,h2],fun i d' h=>?_⟩
    · cases i with
      | zero=>cases h
      | succ i=>exact h1 i d' h
    · cases i with
      | zero=>cases h
      | succ i=>exact h3 i d' h
  | n+1,_,_,.cons (a:=v) (b:=d) (l₁:=vs) (l₂:=ds) r rr=>by
    obtain ⟨h1,h2,h3⟩:=startD_ok (K:=K) (G:=G) n rr
    have e1:(v::vs).map some++List.replicate (n+1 - (v::vs).length) (none:Option V)=some v::(vs.map some++List.replicate (n - vs.length) none):=by simp
    rw[e1]
    refine ⟨fun i d' h=>?_,by show _=(some (B.p d)::startD n ds).length; rw[List.length_cons,List.length_cons,h2],fun i d' h=>?_⟩
    · cases i with
      | zero=>cases h; exact ⟨v,rfl,r⟩
      | succ i=>exact h1 i d' h
    · cases i with
      | zero=>cases h
      | succ i=>exact h3 i d' h
theorem startD_p:∀(n:Nat) (ds:List D) (i:Nat) (b:B),dget (startD n ds) i=some b→∃d,b=.p d
  | 0,[],_,_,h=>by cases h
  | 0,d::ds,0,_,h=>by cases h; exact ⟨_,rfl⟩
  | 0,d::ds,i+1,b,h=>startD_p 0 ds i b h
  | n+1,[],0,_,h=>by cases h
  | n+1,[],i+1,b,h=>startD_p n [] i b h
  | n+1,d::ds,0,_,h=>by cases h; exact ⟨_,rfl⟩
  | n+1,d::ds,i+1,b,h=>startD_p n ds i b h
section
variable {P:Program} {w:World} {K:PySem.W.Frag} {mg:Str→Option Value} {base:Heap}
theorem okD {x qual:Str} {st:Stmt} {f:Addr} {fd:FuncData} {N ps:List Str} {k:Nat} {R:DR} (F:Fun K x qual st f fd) (S:FnScope N ps (defScope st)) (len:∀ds Q,R ds Q→ds.length=ps.length)
    (hbody:∀(cdv:Value) (A:Around) (outer:List Env) (s:Shared) (H:Hp) (E:XK),Room k (A.deeper (PyProof.Rows.envOfC qual (defScope st) s.heap.objs.size f cdv)) →
      ∃t,DSs (cxOf CX0 P w K mg base N qual (defScope st) f cdv A outer s H E).nox (defBody st) t∧∀ds Q,R ds Q→t { nx:=fun _=>Q (.p .non),rt:=Q } (startD N.length ds)) : FnOk P w K mg base CX0 (k+1) f fd ps (spD K R):=by
  refine F.ok S (fun vs H Q E ⟨ds,G,P,s,r,h,_⟩=>by rw[Paired.length r]; exact len ds P h) fun cdv A outer s H vs Q E hr ⟨ds,G,P,sg,r,h,k⟩=>?_
  obtain ⟨t,h1,h2⟩:=hbody cdv A outer s H E hr
  obtain ⟨e1,e2,e3⟩:=startD_ok (K:=K) N.length r
  refine ⟨_,h1.pss H G,_,G,_,?_,Wd.refl sg,EnvO.only e2 e1 (startD_p _ _),h2 ds P h⟩
  exact ⟨fun σ H' G' ρ w' _ p=>k _ _ H' G' p w' (show Rep K G' V.non D.non from .non),fun σ H' G' ρ w' _ p=>p.elim,fun σ H' G' ρ w' _ p=>p.elim,fun b v H' G' w' r' p=>k b v H' G' p w' r'⟩
end
end DL
namespace DL
open PySem L2
section
variable {X:Cx} {tg e:Expr} {te:DT} {pos:Pos} {es:List Expr}
def dMaxL:DR:=fun ds P=>match ds with
  | [.lst xs]=>∃ns:List Int,xs=ns.map D.int∧ns≠[]∧∀m,m∈ns→(∀n∈ns,n≤m)→P (.p (.int m))
  | _=>False
theorem itd_P {K:PySem.W.Frag} {G:Hp} {Src:Hp→List (List V)→Prop} {rows:List (List V)} {xs:List D} (hs:∀H,Same G H→Src H rows) (r:Paired (fun row d=>∃ds,d=D.tup ds∧Reps K G row ds) rows xs) : ItD K G (ItP Src) xs where
  go:=fun i d H G' e s1 s2=>by
    obtain ⟨row,h1,h2⟩:=paired_get' r e
    exact ⟨rows,row,hs H (s1.trans s2),h1⟩
  yld:=fun i d H G' x H' e s1 s2 y=>by
    obtain ⟨row,h1,ds,rfl,h2⟩:=paired_get' r e
    obtain ⟨row',p,h3,h4,rfl,rfl⟩:=y rows (hs H (s1.trans s2))
    rw[h1] at h3
    cases h3
    exact ⟨_,(Wd.refl s2).new h4,Rep.tup' upd_same (Reps.mono (same_new (s2.free h4)) (Reps.mono s1 h2))⟩
  stop:=fun i H G' hi s1 s2=>⟨rows,hs H (s1.trans s2),by rw[Paired.length r,hi]⟩
def enumFrom:Nat→List D→List D
  | _,[]=>[]
  | k,x::xs=>.tup [.int (k:Nat),x]::enumFrom (k+1) xs
theorem enumFrom_len:∀(k:Nat) (xs:List D),(enumFrom k xs).length=xs.length
  | _,[]=>rfl
  | k,x::xs=>by show (enumFrom (k+1) xs).length+1=_; rw[enumFrom_len]; rfl
theorem enumFrom_get:∀{k:Nat} {xs:List D} {i:Nat} {d:D},(enumFrom k xs)[i]?=some d→∃x,xs[i]?=some x∧d=.tup [.int ((k+i:Nat) : Int),x]
  | _,[],_,_,h=>by simp[enumFrom] at h
  | k,x::xs,0,d,h=>⟨x,rfl,by simpa [enumFrom] using h.symm⟩
  | k,x::xs,i+1,d,h=>by
    have h':(enumFrom (k+1) xs)[i]?=some d:=by simpa [enumFrom] using h
    obtain ⟨y,h1,h2⟩:=enumFrom_get h'
    exact ⟨y,by simpa using h1,by rw[h2]; congr 3; lia⟩
def di_enumerateT (t:DTA) : DTA:=fun ρ P=>t ρ fun ds=>match ds with
  | [.lst xs]=>P (enumFrom 0 xs)
  | _=>False
theorem rows_enum {K:PySem.W.Frag} {G:Hp} {vs:List V} {ds:List D} (r:Reps K G vs ds) : Paired (fun row d=>∃ds,d=D.tup ds∧Reps K G row ds) (enumRows vs) (enumFrom 0 ds):=by
  refine paired_of (by rw[enumRows_len,enumFrom_len,Paired.length r]) fun i row d h1 h2=>?_
  obtain ⟨x,h3,rfl⟩:=enumFrom_get h2
  obtain ⟨v,h4,h5⟩:=paired_get' r h3
  rw[enumRows_get h4] at h1
  cases h1
  exact ⟨_,rfl,.cons (by rw[Nat.zero_add]; exact .int _) (.cons h5 .nil)⟩
theorem di_enumerate {elts:List Expr} {kx:Nat} {tpos:Pos} {l:Expr} {t:DTA} {p:Pos} (hg:Gl X "enumerate") (hm:X.mg "enumerate" = none) (ha:DA X [l] t) (hs:starEach [l] X.env = [(false,eval l X.env)]:=by rfl) : DI X (.Tuple elts kx tpos) (.Call (.Name "enumerate" p) [l] [] pos) (di_enumerateT t):=
  DI.of (pi_enum hg hm ha.pa hs) fun σ H R ⟨G,ρ,P,s,re,h,k⟩=>by
    refine ⟨G,ρ,_,s,re,h,fun ds vs H1 G1 p1 l1 w1 r1=>?_⟩
    split at p1
    · obtain ⟨v,rfl,rv⟩:=reps1 r1
      obtain ⟨a,us,rfl,e,rr⟩:=rv.lst_inv
      exact ⟨a,us,rfl,w1.gh _ _ e,k _ _ H1 G1 p1 w1 (itd_P (fun H s=>⟨us,s _ _ e,rfl⟩) (rows_enum rr))⟩
    · exact p1.elim
def zipD (xs ys:List D) : List D:=(xs.zip ys).map fun p=>.tup [p.1,p.2]
def di_zipT (t:DTA) : DTA:=fun ρ P=>t ρ fun ds=>match ds with
  | [.lst xs,.lst ys]=>P (zipD xs ys)
  | _=>False
def di_reversedT (t:DTA) : DTA:=fun ρ P=>t ρ fun ds=>match ds with
  | [.lst xs]=>P xs.reverse
  | _=>False
def downTo (a:Int) (n:Nat) : List D:=(List.range n).map fun i=>D.int (a+(i:Nat)*(-1))
def diRevr1 (t:DTA) : DTA:=fun ρ P=>t ρ fun ds=>match ds with
  | [.int j]=>(0≤j∧j<2 ^ 62)∧P (downTo (j - 1) j.toNat)
  | _=>False
end
end DL
namespace DL
open PySem L2
def spLaw (K:PySem.W.Frag) : Sp:=fun vs H Q _=>∃(a:Addr) (ns:List Int),vs = [.ref a]∧SqL K H a (ns.map V.int)∧ns.length≤63∧∀H',Q (.bl true) H'
def r_law:DR:=fun ds P=>∃ns:List Int,ds = [.scr ns]∧ns.length≤63∧P (.p (.bl true))
theorem putN_mono {P P':DEnv→Prop} (i:∀ρ,P ρ→P' ρ) : ∀{is:List Nat} {ds:List D} {ρ:DEnv},putN is ds ρ P→putN is ds ρ P'
  | [],[],ρ,h=>i ρ h
  | _::is,_::ds,_,h=>putN_mono i (is:=is) (ds:=ds) h
  | [],_::_,_,h=>h.elim
  | _::_,[],_,h=>h.elim
theorem tgd_mono {g:Tg} {d:D} {ρ:DEnv} {P P':DEnv→Prop} (h:g.d d ρ P) (i:∀ρ,P ρ→P' ρ) : g.d d ρ P':=by
  cases g with
  | n j=>exact i _ h
  | t is =>
    cases d with
    | tup ds=>exact putN_mono i h
    | non=>exact h
    | bl _=>exact h
    | int _=>exact h
    | str _=>exact h
    | lst ds=>exact putN_mono i h
    | scr _=>exact h
    | dct _=>exact h
theorem paired_fun {α β:Type} {f:α→β} : ∀{xs:List α} {os:List β},Paired (fun x o=>o=f x) xs os→os=xs.map f
  | _,_,.nil=>rfl
  | _,_,.cons h t=>by rw[h,paired_fun t]; rfl
theorem filterMap_id {α β:Type} (f:α→Option β) : ∀xs:List α,(xs.map f).filterMap id=xs.filterMap f
  | []=>rfl
  | x::xs=>by
    rw[List.map_cons,List.filterMap_cons,List.filterMap_cons,filterMap_id f xs]
    rfl
theorem filterMap_some {α β:Type} (f:α→β) : ∀xs:List α,xs.filterMap (fun x=>some (f x))=xs.map f
  | []=>rfl
  | x::xs=>by rw[List.filterMap_cons,filterMap_some f xs]; rfl
theorem lc_fun {xs:List D} {g:Tg} {tc:DTT} {te:DT} {ρ:DEnv} {Q:B→Prop} (f:D→Option D) (hz:xs.length≤1000000) (h:∀x∈xs,g.d x ρ fun ρ'=>tc ρ' fun c=>(c=true→te ρ' fun b=>some b.val=f x)∧(c=false→none=f x)) (q:Q (.o (.lst (xs.filterMap f)))) :
    lcI xs g tc te ρ Q:=by
  refine ⟨by have:sizeLine=16777216:=sizeLine_eq; lia,fun x o=>o=f x,h,fun os ho=>?_⟩
  rw[paired_fun ho,filterMap_id]
  exact q
theorem lc_map {xs:List D} {g:Tg} {te:DT} {ρ:DEnv} {Q:B→Prop} (f:D→D) (hz:xs.length≤1000000) (h:∀x∈xs,g.d x ρ fun ρ'=>te ρ' fun b=>some b.val=some (f x)) (q:Q (.o (.lst (xs.map f)))) :
    lcI xs g dTrue te ρ Q:=
  lc_fun (fun x=>some (f x)) hz (fun x hx=>tgd_mono (h x hx) fun ρ' z=>⟨fun _=>z,fun e=>nomatch e⟩) (by rw[filterMap_some]; exact q)
theorem for_nat {g:Tg} {tb:DTS} {E:DEnds} {xs:List D} {ρ:DEnv} (I:Nat→DEnv→Prop) (h0:I 0 ρ) (hs:∀i x ρ,xs[i]?=some x→I i ρ→g.d x ρ fun ρ'=>tb { E with nx:=I (i+1),ct:=I (i+1),bk:=E.nx } ρ') (hd:∀ρ,I xs.length ρ→E.nx ρ) : forI g tb E xs ρ:=⟨I,h0,hs,hd⟩
theorem dSum_mk {ns:List Int} {P:B→Prop} (h:P (.p (.int ns.sum))) : dSum [.lst (ns.map D.int)] P:=⟨ns,rfl,h⟩
end DL
namespace DL
open PySem L2
theorem cut_to {α:Type} (l:List α) (k:Nat) : cutL l none (some ((k:Nat) : Int))=l.take k:=by
  unfold cutL
  rw[HT.sIx_none,HT.sIx_nat,List.drop_zero,Nat.sub_zero,←List.take_take,List.take_length]
theorem cut_from {α:Type} (l:List α) (k:Nat) : cutL l (some ((k:Nat) : Int)) none=l.drop k:=by
  unfold cutL
  rw[HT.sIx_none,HT.sIx_nat]
  by_cases h:k≤l.length
  · rw[Nat.min_eq_left h]
    exact List.take_of_length_le (by rw[List.length_drop]; exact Nat.le_refl _)
  · rw[Nat.min_eq_right (by lia),List.drop_eq_nil_of_le (Nat.le_refl _),List.drop_eq_nil_of_le (by lia),List.take_nil]
theorem lc_mapE {α:Type} {xs:List α} {e:α→D} {g:Tg} {te:DT} {ρ:DEnv} {Q:B→Prop} (F:D→D) (f:α→D) (hF:∀x∈xs,F (e x)=f x) (hz:xs.length≤1000000) (h:∀x∈xs,g.d (e x) ρ fun ρ'=>te ρ' fun b=>some b.val=some (f x)) (q:Q (.o (.lst (xs.map f)))) :
    lcI (xs.map e) g dTrue te ρ Q:=by
  refine lc_map F (by rw[List.length_map]; exact hz) (fun d hd=>?_) ?_
  · obtain ⟨x,hx,rfl⟩:=List.mem_map.mp hd
    rw[hF x hx]
    exact h x hx
  · rw[List.map_map,show xs.map (F∘e)=xs.map f from List.map_congr_left hF]
    exact q
theorem dIx_lst (xs:List D) (i:Int) (Q:B→Prop) : dIx (.lst xs) (.int i) Q = ∃d,atI xs i=some d∧Q (.p d):=rfl
theorem dIx_tup (xs:List D) (i:Int) (Q:B→Prop) : dIx (.tup xs) (.int i) Q = ∃d,atI xs i=some d∧Q (.p d):=rfl
theorem dIx_scr (ns:List Int) (i:Int) (Q:B→Prop) : dIx (.scr ns) (.int i) Q = ∃n,atI ns i=some n∧Q (.p (.int n)):=rfl
theorem dAdd_int (i j:Int) (Q:B→Prop) : dAdd (.int i) (.int j) Q=Q (.p (.int (i+j))):=rfl
theorem dAdd_lst (xs ys:List D) (Q:B→Prop) : dAdd (.lst xs) (.lst ys) Q=(xs.length+ys.length≤sizeLine∧Q (.o (.lst (xs++ys)))):=rfl
theorem dAdd_str (x y:Str) (Q:B→Prop) : dAdd (.str x) (.str y) Q=(x.length+y.length≤sizeLine∧Q (.p (.str (x++y)))):=rfl
theorem dAdd_tup (xs ys:List D) (Q:B→Prop) : dAdd (.tup xs) (.tup ys) Q=(xs≠[]∧ys≠[]∧xs.length+ys.length≤sizeLine∧Q (.p (.tup (xs++ys)))):=rfl
theorem dMul_int (i j:Int) (Q:B→Prop) : dMul (.int i) (.int j) Q=(CMul i j∧Q (.p (.int (i*j)))):=rfl
theorem dEqS_int (i j:Int) (Q:B→Prop) : dEqS (.int i) (.int j) Q=Q (.p (.bl (decide (i=j)))):=rfl
theorem dEqS_str (i j:Str) (Q:B→Prop) : dEqS (.str i) (.str j) Q=Q (.p (.bl (decide (i=j)))):=rfl
theorem dEqS_bl (i j:Bool) (Q:B→Prop) : dEqS (.bl i) (.bl j) Q=Q (.p (.bl (decide (i=j)))):=rfl
theorem dNeS_int (i j:Int) (Q:B→Prop) : dNeS (.int i) (.int j) Q=Q (.p (.bl (!decide (i=j)))):=rfl
theorem dNeS_str (i j:Str) (Q:B→Prop) : dNeS (.str i) (.str j) Q=Q (.p (.bl (!decide (i=j)))):=rfl
theorem dNeS_bl (i j:Bool) (Q:B→Prop) : dNeS (.bl i) (.bl j) Q=Q (.p (.bl (!decide (i=j)))):=rfl
theorem dLen_lst (xs:List D) (P:B→Prop) : dLen [.lst xs] P=P (.p (.int xs.length)):=rfl
theorem dLen_tup (xs:List D) (P:B→Prop) : dLen [.tup xs] P=P (.p (.int xs.length)):=rfl
theorem dLen_scr (xs:List Int) (P:B→Prop) : dLen [.scr xs] P=P (.p (.int xs.length)):=rfl
def itL (d:D) (P:List D→Prop) : Prop:=match d with
  | .lst xs=>P xs
  | .scr ns=>P (ns.map D.int)
  | _=>False
theorem diList_is (te:DT) (ρ:DEnv) (P:List D→Prop) : diList te ρ P=te ρ fun b=>itL b.val P:=rfl
theorem itL_lst (xs:List D) (P:List D→Prop) : itL (.lst xs) P=P xs:=rfl
theorem itL_scr (xs:List Int) (P:List D→Prop) : itL (.scr xs) P=P (xs.map D.int):=rfl
def slD (d:D) (lo hi:Option Int) (Q:B→Prop) : Prop:=match d with
  | .lst xs=>Q (.o (.lst (cutL xs lo hi)))
  | .scr ns=>Q (.o (.lst ((cutL ns lo hi).map D.int)))
  | .tup xs=>¬(HT.sIx xs.length 0 lo=0∧HT.sIx xs.length xs.length hi=xs.length)∧Q (.p (.tup (cutL xs lo hi)))
  | _=>False
theorem dSl_is (te:DT) (tl th:DTO) (ρ:DEnv) (Q:B→Prop) : dSl te tl th ρ Q=te ρ fun b=>tl ρ fun lo=>th ρ fun hi=>slD b.val lo hi Q:=rfl
theorem slD_lst (xs:List D) (lo hi:Option Int) (Q:B→Prop) : slD (.lst xs) lo hi Q=Q (.o (.lst (cutL xs lo hi))):=rfl
theorem slD_scr (xs:List Int) (lo hi:Option Int) (Q:B→Prop) : slD (.scr xs) lo hi Q=Q (.o (.lst ((cutL xs lo hi).map D.int))):=rfl
theorem slD_tup (xs:List D) (lo hi:Option Int) (Q:B→Prop) : slD (.tup xs) lo hi Q=(¬(HT.sIx xs.length 0 lo=0∧HT.sIx xs.length xs.length hi=xs.length)∧Q (.p (.tup (cutL xs lo hi)))):=rfl
def slSD (d:D) (lo hi st:Option Int) (Q:B→Prop) : Prop:=match d with
  | .lst xs=>Q (.o (.lst (stepV xs lo hi st)))
  | .scr ns=>Q (.o (.lst ((stepV ns lo hi st).map D.int)))
  | _=>False
theorem dSlS_is (te:DT) (tl th ts:DTO) (ρ:DEnv) (Q:B→Prop) : dSlS te tl th ts ρ Q=te ρ fun b=>tl ρ fun lo=>th ρ fun hi=>ts ρ fun st=>st≠some 0∧slSD b.val lo hi st Q:=rfl
theorem slSD_lst (xs:List D) (lo hi st:Option Int) (Q:B→Prop) : slSD (.lst xs) lo hi st Q=Q (.o (.lst (stepV xs lo hi st))):=rfl
theorem slSD_scr (xs:List Int) (lo hi st:Option Int) (Q:B→Prop) : slSD (.scr xs) lo hi st Q=Q (.o (.lst ((stepV xs lo hi st).map D.int))):=rfl
theorem dCopy_lst (xs:List D) (P:B→Prop) : dCopy [.lst xs] P=P (.o (.lst xs)):=rfl
theorem dCopy_tup (xs:List D) (P:B→Prop) : dCopy [.tup xs] P=P (.o (.lst xs)):=rfl
theorem dCopy_scr (xs:List Int) (P:B→Prop) : dCopy [.scr xs] P=P (.o (.lst (xs.map D.int))):=rfl
theorem ixk0 {α:Type} (a:α) (l:List α) : atI (a::l) (0:Int)=some a:=by unfold atI ixN; simp
theorem ixk1 {α:Type} (a b:α) (l:List α) : atI (a::b::l) (1:Int)=some b:=by
  have:atI (a::b::l) (((1:Nat)) : Int)=some b:=atI_nat rfl
  exact this
theorem ixk2 {α:Type} (a b c:α) (l:List α) : atI (a::b::c::l) (2:Int)=some c:=by
  have:atI (a::b::c::l) (((2:Nat)) : Int)=some c:=atI_nat rfl
  exact this
theorem ixk3 {α:Type} (a b c d:α) (l:List α) : atI (a::b::c::d::l) (3:Int)=some d:=by
  have:atI (a::b::c::d::l) (((3:Nat)) : Int)=some d:=atI_nat rfl
  exact this
theorem ixk4 {α:Type} (a b c d e:α) (l:List α) : atI (a::b::c::d::e::l) (4:Int)=some e:=by
  have:atI (a::b::c::d::e::l) (((4:Nat)) : Int)=some e:=atI_nat rfl
  exact this
theorem ex_at {α:Type} (a:α) (p:α→Prop) : (∃d,some a=some d∧p d)=p a:=propext ⟨fun ⟨d,e,h⟩=>by cases e; exact h,fun h=>⟨a,rfl,h⟩⟩
theorem atI_of {α:Type} {xs:List α} {e:α→D} {k:Nat} {x:α} (h:xs[k]?=some x) : atI (xs.map e) ((k:Nat) : Int)=some (e x):=by
  refine atI_nat ?_
  rw[List.getElem?_map,h]
  rfl
end DL
namespace PySem
open Sem (wp)
section
variable {prog:Program} {w:World} {A:Around} {E:Value→Shared→Prop} {s:Shared}
abbrev IsZipB (h:Heap) (z TI TO:Addr) (f0:Value) (b:Bool) : Prop:=
  h.get? z=some { cls:=.type "zip",dict:=none,data:=.fields #[f0,.bool b,.bool false,.ref TI,.ref TO],slots:=#[] }
structure ZipAt (h:Heap) (z TI TO i1 i2 l1 l2:Addr) (xs ys:Array Value) (i:Nat) : Prop where
  ti:IsPair h TI (.ref i1) (.ref i2)
  a1:h.IsListIter i1 l1 i
  a2:h.IsListIter i2 l2 i
  b1:h.IsList l1 xs
  b2:h.IsList l2 ys
  f:(IsZip h z TI TO .none∧∃a b,IsPair h TO a b)∨∃(T:Addr) (b:Bool) (x y:Value),IsZipB h z TI TO (rawInt T) b∧IsPair h T x y∧T≠z∧T≠TO∧T≠i1∧T≠i2
structure Rows2 (h:Heap) (xs ys:Array Value) (lo:Nat) (acc:Array Value) : Prop where
  at':∀(j:Nat) (v:Value),acc[j]?=some v→∃(T:Addr) (x y:Value),v=Value.ref T∧xs[j]?=some x∧ys[j]?=some y∧IsPair h T x y∧lo≤T
  one:∀(i j:Nat) (v:Value),acc[i]?=some v→acc[j]?=some v→i=j
end
end PySem
namespace L2
open PySem PySem.Spec PyProof.Rows
section
variable {X:Cx} {pins:List (Addr×Obj)} {σ:List (Option V)} {H H':Hp} {s:Shared} {h':Heap}
end
end L2
namespace WS
def tot (bs:List S3) : Int:=(bs.map fun b=>b.2.2*(b.2.1 - b.1)).sum
theorem above_cons (b:S3) (bs:List S3) (L:Int) : above (b::bs) L=above1 b L+above bs L:=by unfold above; rw[List.map_cons,List.sum_cons]
theorem tot_cons (b:S3) (bs:List S3) : tot (b::bs)=b.2.2*(b.2.1 - b.1)+tot bs:=by unfold tot; rw[List.map_cons,List.sum_cons]
theorem above1_low {b:S3} {L:Int} (h:L≤b.1) (h':b.1≤b.2.1) : above1 b L=b.2.2*(b.2.1 - b.1):=by
  unfold above1 mx
  congr 1
  split<;>split<;>lia
theorem above_low {L:Int} : ∀{bs:List S3},(∀b∈bs,L≤b.1∧b.1≤b.2.1)→above bs L=tot bs
  | [],_=>rfl
  | b::bs,h=>by
    rw[above_cons,tot_cons,above_low fun x hx=>h x (List.mem_cons_of_mem _ hx),above1_low (h b List.mem_cons_self).1 (h b List.mem_cons_self).2]
theorem hot_lohi {hs:List S3} (h:∀x∈hs,HotOk x) : ∀b∈hotB hs,0≤b.1∧b.1≤b.2.1:=fun b hb=>by
  obtain ⟨x,hx,rfl⟩:=List.mem_map.mp hb
  have:=h x hx
  have h1:=this.lo
  have h2:=this.lt
  exact ⟨h1,by show x.2.1≤x.1; lia⟩
theorem cold_lohi {g:Int} {cs:List S3} (hg:0≤g) (h:∀x∈cs,ColdOk x) : ∀b∈coldB g cs,0≤b.1∧b.1≤b.2.1:=fun b hb=>by
  obtain ⟨x,hx,rfl⟩:=List.mem_map.mp hb
  have:=h x hx
  have h1:=this.lo
  have h2:=this.lt
  exact ⟨by show 0≤x.1+g; lia,by show x.1+g≤x.2.1+g; lia⟩
theorem lackF_low {g:Int} {hs cs:List S3} (hg:0≤g) (h1:∀x∈hs,HotOk x) (h2:∀x∈cs,ColdOk x) {L:Int} (hL:L≤0) : lackF g hs cs L=tot (coldB g cs) - tot (hotB hs):=by
  unfold lackF
  rw[above_low fun b hb=>⟨by have:=(cold_lohi hg h2 b hb).1; lia,(cold_lohi hg h2 b hb).2⟩,above_low fun b hb=>⟨by have:=(hot_lohi h1 b hb).1; lia,(hot_lohi h1 b hb).2⟩]
end WS
namespace WS
def sfx (xs:List Int) (L:Nat) : Int:=(xs.drop L).sum
structure Drawn (g:Int) (hs cs:List S3) (gv wt:List Int) : Prop where
  lg:gv.length=251
  lw:wt.length=251
  ng:∀x∈gv,0≤x
  nw:∀x∈wt,0≤x
  lack:∀L:Nat,L≤251→lackF g hs cs (L:Nat)≤sfx wt L - sfx gv L
  all:sfx wt 0 - sfx gv 0=lackF g hs cs 0
end WS
namespace L2
open PySem PySem.Spec PyProof.Rows PyProof
section
variable {X:Cx}
end
end L2
namespace PySem
open PyProof.Rows
section
variable {prog:Program} {w:World} {A:Around} {E:Value→Shared→Prop} {s:Shared}
end
end PySem
namespace PySem
open PyProof.Rows
section
variable {prog:Program} {w:World} {A:Around} {R:Result→Shared→Prop} {I:Addr} {fp wr:List Addr} {n:Nat} {P:Nat→Value→Prop} {St:Nat→Heap→Prop}
end
section
variable {prog:Program} {w:World} {A:Around} {E:Value→Shared→Prop} {s:Shared}
end
end PySem
namespace L2
open PySem PySem.Spec PyProof.Rows
section
variable {X:Cx} {l e:Expr} {p pos p2 pos2 kpos cpos:Pos} {j:Nat} {d:Int} {ta:TA}
end
end L2
namespace DL
open PySem L2
section
variable {X:Cx} {l e:Expr} {p pos p2 pos2 kpos cpos:Pos} {j:Nat} {d:Int} {t:DTA}
def dRevL (t:DTA) : DT:=fun ρ Q=>t ρ fun ds=>match ds with
  | [.lst xs]=>Q (.o (.lst xs.reverse))
  | _=>False
def dMinD (d:Int) (t:DTA) : DT:=fun ρ Q=>t ρ fun ds=>match ds with
  | [.lst xs]=>∃ns:List Int,xs=ns.map D.int∧∀m:Int,(ns = []∧m=d∨m∈ns∧∀z∈ns,m≤z)→Q (.p (.int m))
  | _=>False
end
end DL
namespace DL
open PySem L2
section
variable {X:Cx} {e0 e1:Expr} {t0 t1 te:DT} {i:Nat} {x:Str} {pos px:Pos}
def dNest (i:Nat) (t:Bool) (t0 t1:DT) : DTS:=fun E ρ=>t0 ρ fun b0=>match b0 with
  | .o xs=>t1 ρ fun b1=>match b1 with
    | .o ys=>E.nx (dput ρ i (.n t [xs,ys]))
    | _=>False
  | _=>False
end
def dNestSet (i:Nat) (tk tm te:DT) : DTS:=fun E ρ=>te (frz ρ) fun b=>b.val.sc=true∧match dget ρ i with
  | some (.n t dss)=>tk (frz ρ) fun k=>match k.val with
    | .int z=>∃j ds,ixN dss.length z=some j∧dss[j]?=some (.lst ds)∧tm (frz ρ) fun m=>match m.val with
      | .int z'=>∃j',ixN ds.length z'=some j'∧E.nx (dput ρ i (.n t (dss.set j (.lst (ds.set j' b.val)))))
      | _=>False
    | _=>False
  | _=>False
section
variable {X:Cx} {e k m:Expr} {tk tm te:DT} {i:Nat} {x:Str} {pos px sp tpos:Pos}
end
theorem reps_sc {K:PySem.W.Frag} {G G':Hp} {vs:List V} {ds:List D} (h:Reps K G vs ds) (k:ds.all D.sc=true) : Reps K G' vs ds:=by
  induction h with
  | nil=>exact .nil
  | cons f _ ih =>
    rw[List.all_cons,Bool.and_eq_true] at k
    exact .cons (f.sc k.1) (ih k.2)
def dNestPut (i:Nat) (tk te:DT) : DTS:=fun E ρ=>te (frz ρ) fun b=>match b with
  | .o (.lst ds)=>ds.all D.sc=true∧match dget ρ i with
    | some (.n false dss)=>tk (frz ρ) fun k=>match k.val with
      | .int z=>∃j,ixN dss.length z=some j∧E.nx (dput ρ i (.n false (dss.set j (.lst ds))))
      | _=>False
    | _=>False
  | _=>False
section
variable {X:Cx} {e k:Expr} {tk te:DT} {i:Nat} {x:Str} {pos px tpos:Pos}
end
end DL
namespace DL
open PySem L2
def dAppT (i:Nat) (te:DT) : DTS:=fun E ρ=>match dget ρ i with
  | some (.o (.lst ds))=>te (frz ρ) fun b=>match b.val with
    | .tup es=>es.all D.sc=true∧ds.length<sizeLine∧E.nx (dput ρ i (.o (.lst (ds++[.tup es]))))
    | _=>False
  | _=>False
section
variable {X:Cx} {e:Expr} {te:DT} {i:Nat} {x:Str} {px apos cpos spos:Pos}
end
end DL
namespace L2
open PySem PySem.Spec PyProof.Rows
section
variable {κ:Type} [DecidableEq κ]
def valV (kvs:List (κ×V)) (k:κ) : Option V:=(kvs.find? fun kv=>decide (kv.1=k)).map (·.2)
def putK (kvs:List (κ×V)) (k:κ) (v:V) : List (κ×V):=
  if (kvs.any fun kv=>decide (kv.1=k))=true then kvs.map (fun kv=>if kv.1=k then (kv.1,v) else kv) else kvs++[(k,v)]
def dropK (kvs:List (κ×V)) (k:κ) : List (κ×V):=kvs.filter fun kv=>decide (kv.1≠k)
theorem valV_pos {p:κ×V} {r:List (κ×V)} {k:κ} (e:p.1=k) : valV (p::r) k=some p.2:=by simp[valV,List.find?_cons,e]
theorem valV_neg {p:κ×V} {r:List (κ×V)} {k:κ} (e:¬p.1=k) : valV (p::r) k=valV r k:=by simp[valV,List.find?_cons,e]
theorem valV_any (k:κ) : ∀kvs:List (κ×V),(kvs.any fun kv=>decide (kv.1=k))=(valV kvs k).isSome
  | []=>rfl
  | p::r=>by
    rw[List.any_cons]
    by_cases e:p.1=k
    · simp only[valV_pos e,decide_eq_true e,Bool.true_or,Option.isSome_some]
    · rw[valV_neg e,decide_eq_false e,Bool.false_or]; exact valV_any k r
theorem length_putK (kvs:List (κ×V)) (k:κ) (v:V) : (putK kvs k v).length≤kvs.length+1:=by
  unfold putK
  split
  · rw[List.length_map]; lia
  · rw[List.length_append,List.length_cons,List.length_nil]; lia
theorem RelO.isSome_eq {o:Option V} {u:Option Value} (r:RelO o u) : o.isSome=u.isSome:=by
  cases o with
  | none=>cases u with
    | none=>rfl
    | some _=>exact (show False from r).elim
  | some _=>cases u with
    | none=>exact (show False from r).elim
    | some _=>rfl
theorem RelO.getD {o:Option V} {u:Option Value} {d:V} {d':Value} (r:RelO o u) (rd:RelV d d') : RelV (o.getD d) (u.getD d'):=by
  cases o with
  | none=>cases u with
    | none=>exact rd
    | some _=>exact (show False from r).elim
  | some _=>cases u with
    | none=>exact (show False from r).elim
    | some _=>exact r
theorem KV.val {kvs:List (κ×V)} {vs:List (κ×Value)} (r:KV kvs vs) (k:κ) : RelO (valV kvs k) (valueAt vs k):=by
  unfold KV at r
  induction r with
  | nil=>exact True.intro
  | @cons p q ps qs h t ih =>
    obtain ⟨h1,h2⟩:=h
    by_cases e:p.1=k
    · have e':q.1=k:=h1.symm.trans e
      have b:valueAt (q::qs) k=some q.2:=by simp[valueAt,List.find?_cons,e']
      rw[valV_pos e,b]; exact h2
    · have e':¬q.1=k:=fun z=>e (h1.trans z)
      have b:valueAt (q::qs) k=valueAt qs k:=by simp[valueAt,List.find?_cons,e']
      rw[valV_neg e,b]; exact ih
theorem KV.drop {kvs:List (κ×V)} {vs:List (κ×Value)} (r:KV kvs vs) (k:κ) : KV (dropK kvs k) (without vs k):=by
  unfold KV at r ⊢
  unfold dropK without
  induction r with
  | nil=>exact .nil
  | @cons p q ps qs h t ih =>
    obtain ⟨h1,h2⟩:=h
    rw[List.filter_cons,List.filter_cons]
    by_cases e:p.1=k
    · have a : ¬ decide (p.1 ≠ k) = true := by simp [e]
      have b:¬decide (q.1≠k)=true:=by simp[h1.symm.trans e]
      rw[if_neg a,if_neg b]; exact ih
    · have e':¬q.1=k:=fun z=>e (h1.trans z)
      have a:decide (p.1≠k)=true:=by simp[e]
      have b:decide (q.1≠k)=true:=by simp[e']
      rw[if_pos a,if_pos b]; exact .cons ⟨h1,h2⟩ ih
theorem KV.length {kvs:List (κ×V)} {vs:List (κ×Value)} (r:KV kvs vs) : kvs.length=vs.length:=Paired.length r
theorem dropK_le (kvs:List (κ×V)) (k:κ) : (dropK kvs k).length≤kvs.length:=List.length_filter_le _ _
end
theorem kV_is {P:Program} {w:World} {k:Key} {u:Value} (r:RelV (kV k) u) : (mixKind P w).is k u=true:=by
  cases k with
  | inl i=>obtain ⟨t,e⟩:=(show ∃t,u=Value.int i t from r); subst e; exact mixKind_int P w i t
  | inr x=>obtain ⟨t,e⟩:=(show ∃t,u=Value.str x t from r); subst e; exact mixKind_str P w x t
theorem items_are {P:Program} {w:World} : ∀{ks:List Key} {us:List Value},Vals (ks.map kV) us→ItemsAre (mixKind P w) ks us
  | [],_,r=>by rw[List.map_nil] at r; cases r; exact .nil
  | k::ks,_,r=>by
    rw[List.map_cons] at r
    cases r with
    | cons h t=>exact .cons (kV_is h) (items_are t)
abbrev KT (H:Hp) : List (List Key×V)→List (List Key×Addr×Value)→Prop:=Paired fun p q=>p.1=q.1∧H q.2.1=some (.tup (p.1.map kV))∧RelV p.2 q.2.2
theorem KT.val {H:Hp} {kvs:List (List Key×V)} {xs:List (List Key×Addr×Value)} (r:KT H kvs xs) (k:List Key) : RelO (valV kvs k) ((atKey xs k).map (·.2)):=by
  induction r with
  | nil=>exact True.intro
  | @cons p q ps qs h t ih =>
    obtain ⟨h1,_,h2⟩:=h
    by_cases e:p.1=k
    · have e':q.1=k:=h1.symm.trans e
      have b:atKey (q::qs) k=some q.2:=by simp[atKey,List.find?_cons,e']
      rw[valV_pos e,b]; exact h2
    · have e':¬q.1=k:=fun z=>e (h1.trans z)
      have b:atKey (q::qs) k=atKey qs k:=by simp[atKey,List.find?_cons,e']
      rw[valV_neg e,b]; exact ih
theorem KT.repl {H:Hp} {kvs:List (List Key×V)} {xs:List (List Key×Addr×Value)} (r:KT H kvs xs) (k:List Key) {y:V} {u:Value} (ry:RelV y u) :
    KT H (kvs.map fun kv=>if kv.1=k then (kv.1,y) else kv) (xs.map (putAt k u)):=by
  induction r with
  | nil=>exact .nil
  | @cons p q ps qs h t ih =>
    rw[List.map_cons,List.map_cons]
    refine .cons ?_ ih
    obtain ⟨h1,h2,h3⟩:=h
    unfold putAt
    by_cases e:p.1=k
    · rw[if_pos e,if_pos (h1.symm.trans e)]; exact ⟨h1,h2,ry⟩
    · rw[if_neg e,if_neg (fun z=>e (h1.trans z))]; exact ⟨h1,h2,h3⟩
theorem KT.put {H:Hp} {kvs:List (List Key×V)} {xs:List (List Key×Addr×Value)} (r:KT H kvs xs) (k:List Key) {b:Addr} {y:V} {u:Value} (hb:H b=some (.tup (k.map kV))) (ry:RelV y u) :
    KT H (putK kvs k y) (storedH xs k b u):=by
  have e:(kvs.any fun kv=>decide (kv.1=k))=(atKey xs k).isSome:=by
    rw[valV_any,(r.val k).isSome_eq,Option.isSome_map]
  unfold putK storedH
  rw[e]
  by_cases q:(atKey xs k).isSome=true
  · rw[if_pos q,if_pos q]; exact r.repl k ry
  · rw[if_neg q,if_neg q]; exact Paired.snoc r ⟨rfl,hb,ry⟩
theorem KT.keeps {H H':Hp} {kvs:List (List Key×V)} {xs:List (List Key×Addr×Value)} (r:KT H kvs xs) (ht:∀b ys,H b=some (.tup ys)→H' b=some (.tup ys)) : KT H' kvs xs:=
  Paired.mapP r fun _ _ z=>⟨z.1,ht _ _ z.2.1,z.2.2⟩
section
variable {P:Program} {w:World} {H:Hp} {h:Heap} {a:Addr}
theorem rd_of {u:HO} (ok:HOk P w H h) (e:Rd H a u) : ObjOk P w H h a u:=e.ok ok
theorem dk_rd {kvs:List (Key×V)} (ok:HOk P w H h) (e:Rd H a (.dK kvs)) : kvs.length≤sizeLine∧(a == sysModules)=false∧∃vs,KV kvs vs∧h.DictOf (mixKind P w) a vs:=
  show ObjOk P w H h a (.dK kvs) from rd_of ok e
theorem key_of {ks:List Key} (ok:HOk P w H h) (e:H a=some (.tup (ks.map kV))) : (tupleKind (mixKind P w)).is h ks a:=by
  obtain ⟨_,its,r,o,h1,h2,n,h3⟩:=(show ObjOk P w H h a (.tup (ks.map kV)) from ok a _ e)
  exact ⟨o,its.toArray,n,h1,h2,h3,by simpa using items_are r⟩
theorem dt_rd {kvs:List (List Key×V)} (ok:HOk P w H h) (e:Rd H a (.dT kvs)) : kvs.length≤sizeLine∧(a == sysModules)=false ∧
    ∃xs,KT H kvs xs∧h.DictOfH (tupleKind (mixKind P w)) a xs:=by
  obtain ⟨z,y,xs,r,o,es,ep,h1,h2,h3,h4,h5⟩:=(show ObjOk P w H h a (.dT kvs) from rd_of ok e)
  refine ⟨z,y,xs,r,o,es,ep,h1,h2,h3,h4,fun x hx=>?_,h5⟩
  have all:∀{l:List (List Key×V)} {m:List (List Key×Addr×Value)},KT H l m→∀x∈m,(tupleKind (mixKind P w)).is h x.1 x.2.1:=by
    intro l m q
    induction q with
    | nil=>intro x hx; exact nomatch hx
    | @cons p q ps qs hq t ih =>
      intro x hx
      rcases List.mem_cons.mp hx with e | hx
      · subst e
        exact key_of ok (by rw[←hq.1]; exact hq.2.1)
      · exact ih x hx
  exact all r x hx
theorem dt_of {kvs:List (List Key×V)} (ok:HOk P w H h) (e:H a=some (.dT kvs)) : kvs.length≤sizeLine∧(a == sysModules)=false ∧
    ∃xs,KT H kvs xs∧h.DictOfH (tupleKind (mixKind P w)) a xs:=dt_rd ok (.inl e)
end
section
variable {X:Cx} {pins:List (Addr×Obj)} {σ:St} {H:Hp} {s:Shared} {a:Addr} {y v:V} {u r:Value} {o:Option V} {A:Around} {E:Value→Shared→Prop}
theorem Inv.big (I:Inv X pins σ H s) : sysModules<s.heap.objs.size:=by
  have h:mainGlobals<s.heap.objs.size:=(I.mod.glob.keeps I.bk).lt
  exact Nat.lt_trans (by decide) h
theorem d_write {h':Heap} {t':Nat} {ob:HO} (I:Inv X pins σ H s) (mu:Mut (H a)) (hs:Heap.SameBut a s.heap h') (he:∃q,h'.get? a=some q) (new:ObjOk X.prog X.w (upd H a ob) h' a ob) :
    Inv X pins σ (upd H a ob) { s with heap:=h',toks:=t' }:=
  I.write (x:=a) (e:=a) mu (.inl rfl) (fun b q hb z=>(hs.2 b hb).trans z) he new
end
section
variable {X:Cx} {pins:List (Addr×Obj)} {σ:St} {H:Hp} {s:Shared} {a:Addr} {kvs:List (Key×V)} {k:Key} {u:Value} {A:Around} {E:Value→Shared→Prop}
end
def NoSl (i:Expr) : Prop:=∀ov iv,subscripted i false ov iv=operate [ov,iv] (getItem ov iv)
theorem subD_of {prog:Program} {w:World} {A:Around} {E:Value→Shared→Prop} {s:Shared} {env:Env} {value slice:Expr} {pos:Pos} {T id:String} {Q:Value→Shared→Prop}
    (hl:typeLookup (.type T) "__getitem__" = pure (some (.builtin id))) (hs:NoSl slice)
    (h:wpAny (model prog w) A (eval value env) (fun o s₁=>wpAny (model prog w) A (eval slice env) (fun i s₂=>s₂.TypeIs o T∧wpAny (model prog w) A (getItem o i) Q E s₂) E s₁) E s) :
    wpAny (model prog w) A (eval (.Subscript value slice pos) env) Q E s:=by
  refine Subscript_ (wpAny_mono h (fun o s₁ h₁=>wpAny_mono h₁ (fun i s₂ h₂=>?_) fun _ _ x=>x) fun _ _ x=>x)
  obtain ⟨hT,h₂⟩:=h₂
  unfold subscriptTail
  refine wpAny_bind ?_
  rw[getitemInPython_of_ne hT.not_modules]
  refine wpAny_bind (wpAny_specialOf hT hl ?_)
  have fin:wpAny (model prog w) A (subscripted slice false o i) (fun r s₃=>wpAny (model prog w) A (letTemporaryGo value o r >>= fun _=>pure r) Q E s₃) E s₂:=by
    rw[hs o i]
    exact wpAny_operating (wpAny_mono h₂ (fun r s₃ h₃=>wpAny_bind (wpAny_letTemporaryGo (wpAny_pure h₃))) fun _ _ x=>x)
  first
    | exact wpAny_pure (wpAny_bind fin)
    | exact wpAny_bind (wpAny_pure (wpAny_bind fin))
    | exact wpAny_bind fin
section
variable {X:Cx} {o i e value:Expr} {pos pos' tpos:Pos} {td ty tv:TE}
end
theorem dt_empty {P:Program} {w:World} {H:Hp} (h:Heap) (hb:sysModules<h.objs.size) : ObjOk P w H (h.push { cls:=.type "dict",data:=.dict #[] }) h.objs.size (.dT []):=
  ⟨Nat.zero_le _,beq_eq_false_iff_ne.mpr (Ne.symm (Nat.ne_of_lt hb)),[],.nil,_,#[],0,Heap.get?_push_size _ rfl,⟨rfl,rfl,rfl⟩,rfl,rfl,List.nodup_nil⟩
def tDNewT:TE:=fun _ H Q=>∀p,H p=none→Q (.ref p) (upd H p (.dT []))
section
variable {X:Cx} {pos:Pos}
theorem pe_dnewT:PE X (.Dict [] [] pos) tDNewT:=fun pins s σ H Q I h =>
  wpAny_Dict_empty ⟨.ref s.heap.objs.size,_,I.laid (a:=s.heap.objs.size) (o:=.dT []) (t':=s.toks) (fun _ _ q=>Heap.get?_push_of_some _ q) (Nat.le_refl _) (dt_empty s.heap I.big),rfl,h _ (I.hok.fresh (Nat.le_refl _))⟩
end
structure M1 (X:Cx) (o:Expr) (m:Str) (apos:Pos) (e:Expr) (cpos:Pos) : Prop where
  base:attributeBase o m X.env (eval o X.env)=eval o X.env
  few:((backTo cpos (starEach [e] X.env)).all (fun x=>!x.1) && (backToKw cpos (keywordEach [] X.env)).all (fun x=>x.1.isSome)
    && decide (([e] : List Expr).length+([] : List Keyword).length+(if ([] : List Keyword).isEmpty then 0 else 1)<30))=true
  line:(apos.endLine == cpos.line)=true
  trees:backTo cpos (starEach [e] X.env) = [(false,eval e X.env)]
structure M2 (X:Cx) (o:Expr) (m:Str) (apos:Pos) (e f:Expr) (cpos:Pos) : Prop where
  base:attributeBase o m X.env (eval o X.env)=eval o X.env
  few:((backTo cpos (starEach [e,f] X.env)).all (fun x=>!x.1) && (backToKw cpos (keywordEach [] X.env)).all (fun x=>x.1.isSome)
    && decide (([e,f] : List Expr).length+([] : List Keyword).length+(if ([] : List Keyword).isEmpty then 0 else 1)<30))=true
  line:(apos.endLine == cpos.line)=true
  trees:backTo cpos (starEach [e,f] X.env) = [(false,eval e X.env),(false,eval f X.env)]
def IsD (H:Hp) (a:Addr) : Prop:=(∃kvs,Rd H a (.dK kvs))∨∃kvs,Rd H a (.dT kvs)
theorem isD_at {X:Cx} {pins:List (Addr×Obj)} {σ:St} {H:Hp} {s:Shared} {a:Addr} (I:Inv X pins σ H s) (d:IsD H a) :
    s.TypeIs (.ref a) "dict"∧(∀b,Value.ref a=.ref b→∃ob,s.heap.get? b=some ob∧ob.dict=none)∧(a == sysModules)=false:=by
  rcases d with ⟨kvs,e⟩ | ⟨kvs,e⟩
  · obtain ⟨_,hd,vs,_,dd⟩:=dk_rd I.hok e
    refine ⟨dd.typeIs,fun b q=>?_,hd⟩
    cases q
    obtain ⟨ob,_,_,h1,h2,_⟩:=dd
    exact ⟨ob,h1,h2.2.1⟩
  · obtain ⟨_,hd,xs,_,dd⟩:=dt_rd I.hok e
    refine ⟨dd.typeIs,fun b q=>?_,hd⟩
    cases q
    obtain ⟨ob,_,_,h1,h2,_⟩:=dd
    exact ⟨ob,h1,h2.2.1⟩
section
variable {X:Cx} {pins:List (Addr×Obj)} {σ:St} {H:Hp} {s:Shared} {a:Addr} {y d:V} {u r:Value} {o:Option V} {A:Around} {E:Value→Shared→Prop}
end
section
variable {X:Cx} {o e f:Expr} {apos cpos:Pos} {td ty tx:TE}
end
section
variable {X:Cx} {pins:List (Addr×Obj)} {σ:St} {H:Hp} {s:Shared} {a:Addr} {kvs:List (Key×V)} {A:Around} {E:Value→Shared→Prop}
end
section
variable {X:Cx} {pins:List (Addr×Obj)} {σ:St} {H:Hp} {s:Shared} {a:Addr} {y:V} {u:Value} {A:Around} {E:Value→Shared→Prop}
end
section
variable {X:Cx}
end
section
variable {κ:Type} [DecidableEq κ]
end
end L2
namespace L2
open PySem PySem.Spec PyProof.Rows
section
variable {X:Cx} {pins:List (Addr×Obj)} {σ:St} {H:Hp} {s:Shared} {a b:Addr}
theorem key_sq {ks:List Key} (I:Inv X pins σ H s) (h:SqT X.K H b (ks.map kV)) : (tupleKind (mixKind X.prog X.w)).is s.heap ks b:=by
  obtain ⟨its,r,⟨o,h1,h2,n,h3⟩,z⟩:=I.tuple h
  exact ⟨o,its.toArray,n,h1,h2,h3,by simpa using items_are r⟩
def rGetD (K:PySem.W.Frag) : V→V→Hp→VK→Prop:=fun x y H Q=>∃a b kvs ks v,x=.ref a∧y=.ref b∧Rd H a (.dT kvs)∧SqT K H b (ks.map kV)∧valV kvs ks=some v∧Q v H
theorem getD_run {A:Around} {E:Value→Shared→Prop} {kvs:List (List Key×V)} {ks:List Key} {v:V} {Q:Value→Shared→Prop} (hu:A.units+1<cLine) (I:Inv X pins σ H s) (e:Rd H a (.dT kvs)) (hb:SqT X.K H b (ks.map kV)) (l:valV kvs ks=some v)
    (h:∀w' s',Inv X pins σ H s'→RelV v w'→Q w' s') : wpAny (model X.prog X.w) A (getItem (.ref a) (.ref b)) Q E s:=by
  obtain ⟨z,hd,xs,rel,dd⟩:=dt_rd I.hok e
  obtain ⟨w',hw,rw'⟩:=RelO.some_of (v:=v) (o:=(atKey xs ks).map (·.2)) (by rw[←l]; exact rel.val ks)
  obtain ⟨p,hp,hp2⟩:=Option.map_eq_some_iff.mp hw
  exact wpAny_getItem_heap (tupleKind_room_in1 hu) (key_sq I hb) dd hp (by rw[hp2]; exact h w' _ (I.tok _) rw')
theorem get_dict (hu:X.A.units+1<cLine) : PGet X (rGetD X.K):=by
  intro pins s σ H o i ov iv Q I ro ri h
  obtain ⟨a,b,kvs,ks,v,rfl,rfl,e,hb,l,q⟩:=h
  cases ro
  cases ri
  exact getD_run hu I e hb l fun w' s' I' rw'=>⟨v,H,I',rw',q⟩
def rSetD (K:PySem.W.Frag) : TSet:=fun x y v H Q=>∃a b kvs ks,x=.ref a∧y=.ref b∧H a=some (.dT kvs)∧SqT K H b (ks.map kV)∧(valV kvs ks≠none∨H b=some (.tup (ks.map kV)))∧kvs.length<sizeLine∧Q (upd H a (.dT (putK kvs ks v)))
theorem KT.old {H:Hp} {kvs:List (List Key×V)} {xs:List (List Key×Addr×Value)} (r:KT H kvs xs) (k:List Key) {b:Addr} {y:V} {u:Value} (hb:valV kvs k≠none) (ry:RelV y u) : KT H (putK kvs k y) (storedH xs k b u):=by
  have e:(kvs.any fun kv=>decide (kv.1=k))=(atKey xs k).isSome:=by rw[valV_any,(r.val k).isSome_eq,Option.isSome_map]
  have q:(atKey xs k).isSome=true:=by
    rw[←e,valV_any]
    cases z:valV kvs k with
    | none=>exact absurd z hb
    | some _=>rfl
  unfold putK storedH
  rw[e,if_pos q,if_pos q]
  exact r.repl k ry
theorem set_dict (hu:X.A.units+1<cLine) : PSet X (rSetD X.K):=by
  intro pins s σ H o i v ov iv u Q I ro ri rv h
  obtain ⟨a,b,kvs,ks,rfl,rfl,e,hb,hk,l,q⟩:=h
  cases ro
  cases ri
  obtain ⟨z,hd,xs,rel,dd⟩:=dt_of I.hok e
  have hz:xs.length≤sizeLine:=by rw[←Paired.length rel]; exact z
  have hl:(putK kvs ks v).length≤sizeLine:=by have:=length_putK kvs ks v; lia
  have rel':KT H (putK kvs ks v) (storedH xs ks b u):=by
    rcases hk with hk | hk
    · exact rel.old ks hk rv
    · exact rel.put ks hk rv
  refine wpAny_setItem_heap (hsz:=hz) (tupleKind_room_in1 hu) (key_sq I hb) dd fun h' dd' hs=>⟨_,?_,q⟩
  obtain ⟨o',es,ep,hq,h2,h3,h4,_,h5⟩:=dd'
  exact d_write I (by rw[e]; exact True.intro) hs ⟨o',hq⟩ ⟨hl,hd,_,rel'.keeps fun c ys ec=>by rw[upd_ne (ne_of ec e fun z=>nomatch z)]; exact ec,o',es,ep,hq,h2,h3,h4,h5⟩
theorem pe_getD {o i:Expr} {pos:Pos} {td ty:TE} (hu:X.A.units+1<cLine) (ho:PE X o td) (hi:PE X i ty) (hs:NoSl i) : PE X (.Subscript o i pos) (tOp (rGetD X.K) td ty):=by
  intro pins s σ H Q I h
  refine subD_of PySem.F.slot_dict_getitem.lookup hs (thn (ho pins s σ H _ I h) fun u s1 ⟨x,H1,I1,rx,q1⟩=>thn (hi pins s1 σ H1 _ I1 q1) fun iv s2 ⟨y,H2,I2,ry,a,b,kvs,ks,v,ex,ey,e,hb,l,q2⟩=>?_)
  subst ex ey
  cases rx
  cases ry
  obtain ⟨_,_,xs,_,ob,_,_,h1,h2,_⟩:=dt_rd I2.hok e
  exact ⟨⟨ob,h1,h2.1⟩,getD_run hu I2 e hb l fun w' s3 I3 rw'=>⟨v,H2,I3,rw',q2⟩⟩
end
end L2
namespace DL
open PySem L2
abbrev KVs:=List ((Int×Int)×Int)
def valD (kvs:KVs) (k:Int×Int) : Option Int:=(kvs.find? fun p=>decide (p.1=k)).map (·.2)
def putD (kvs:KVs) (k:Int×Int) (v:Int) : KVs:=if (kvs.any fun p=>decide (p.1=k))=true then kvs.map (fun p=>if p.1=k then (p.1,v) else p) else kvs++[(k,v)]
def k2 (k:Int×Int) : List Key:=[Sum.inl k.1,Sum.inl k.2]
theorem k2_inj {a b:Int×Int} : k2 a=k2 b↔a=b:=by
  constructor
  · intro h
    unfold k2 at h
    injection h with h1 h2
    injection h2 with h2 _
    exact Prod.ext (Sum.inl.inj h1) (Sum.inl.inj h2)
  · rintro rfl; rfl
theorem valV_enc (kvs:KVs) (k:Int×Int) : valV (encD kvs) (k2 k)=(valD kvs k).map V.int:=by
  induction kvs with
  | nil=>rfl
  | cons p r ih =>
    have e:encD (p::r)=(k2 p.1,V.int p.2)::encD r:=rfl
    rw[e]
    by_cases h:p.1=k
    · rw[valV_pos (p:=(k2 p.1,V.int p.2)) (k2_inj.mpr h)]
      simp[valD,List.find?_cons,h]
    · rw[valV_neg (p:=(k2 p.1,V.int p.2)) (fun z=>h (k2_inj.mp z)),ih]
      simp[valD,List.find?_cons,h]
theorem any_enc (kvs:KVs) (k:Int×Int) : ((encD kvs).any fun kv=>decide (kv.1=k2 k))=kvs.any fun p=>decide (p.1=k):=by
  induction kvs with
  | nil=>rfl
  | cons p r ih =>
    have e:encD (p::r)=(k2 p.1,V.int p.2)::encD r:=rfl
    rw[e,List.any_cons,List.any_cons,ih]
    congr 1
    exact decide_eq_decide.mpr k2_inj
theorem putK_enc (kvs:KVs) (k:Int×Int) (v:Int) : putK (encD kvs) (k2 k) (.int v)=encD (putD kvs k v):=by
  unfold putK putD
  rw[any_enc]
  by_cases h:(kvs.any fun p=>decide (p.1=k))=true
  · rw[if_pos h,if_pos h]
    unfold encD
    rw[List.map_map,List.map_map]
    refine List.map_congr_left fun p _=>?_
    show (if k2 p.1=k2 k then (k2 p.1,V.int v) else (k2 p.1,V.int p.2))=_
    show _=(k2 (if p.1=k then (p.1,v) else p).1,V.int (if p.1=k then (p.1,v) else p).2)
    by_cases e:p.1=k
    · rw[if_pos (k2_inj.mpr e),if_pos e]
    · rw[if_neg (fun z=>e (k2_inj.mp z)),if_neg e]
  · rw[if_neg h,if_neg h]
    unfold encD
    rw[List.map_append]
    rfl
theorem encD_len (kvs:KVs) : (encD kvs).length=kvs.length:=by unfold encD; rw[List.length_map]
theorem pair_sq {K:PySem.W.Frag} {G:Hp} {v:V} {i j:Int} (r:Rep K G v (.tup [.int i,.int j])) : ∃b,v=.ref b∧SqT K G b ((k2 (i,j)).map kV):=by
  obtain ⟨b,vs,rfl,e,rr⟩:=r.tup_inv
  refine ⟨b,rfl,?_⟩
  cases rr with
  | cons r1 rr=>cases rr with
    | cons r2 rr=>cases rr; cases r1; cases r2; exact e
theorem pair_st {K:PySem.W.Frag} {G:Hp} {v:V} {i j:Int} (r:Rep K G v (.tup [.int i,.int j])) : ∃b,v=.ref b∧G b=some (.tup ((k2 (i,j)).map kV)):=by
  obtain ⟨b,vs,rfl,e,rr⟩:=r.tup_st
  refine ⟨b,rfl,?_⟩
  cases rr with
  | cons r1 rr=>cases rr with
    | cons r2 rr=>cases rr; cases r1; cases r2; exact e
theorem EnvO.setX {K:PySem.W.Frag} {H0 G H:Hp} {σ:St} {ρ:DEnv} {i:Nat} {a:Addr} {d d':D} {ob:HO} (e:EnvO K H0 G H σ ρ) (h1:dget ρ i=some (.o d)) (h2:σ[i]?=some (some (.ref a))) (r:OwnAt K G (upd H a ob) a d') : EnvO K H0 G (upd H a ob) σ (dput ρ i (.o d')):=by
  obtain ⟨o,e⟩:=e
  obtain ⟨a',h3,h4,h4',h5⟩:=e.o i _ h1
  rw[h2] at h3
  cases h3
  refine ⟨o,by rw[dput_len]; exact e.len,fun j d q=>?_,fun j d q=>?_,fun j t dss q=>?_⟩
  · rcases dget_put q with ⟨rfl,_,q⟩ | ⟨hne,q⟩
    · cases q
    · exact e.p j d q
  · rcases dget_put q with ⟨rfl,_,q⟩ | ⟨hne,q⟩
    · cases q
      exact ⟨a,h2,h4,h4',r⟩
    · obtain ⟨b,k1,k2,k2',k3⟩:=e.o j d q
      refine ⟨b,k1,k2,k2',k3.stay (Same.refl _) k3.1 fun o z=>?_⟩
      rw[upd_ne (by rintro rfl; exact hne (h4'.symm.trans k2'))]
      exact z
  · rcases dget_put q with ⟨rfl,_,q⟩ | ⟨hne,q⟩
    · cases q
    · obtain ⟨b,k1,k2⟩:=e.n j t dss q
      refine ⟨b,k1,k2.stay (Same.refl _) fun x z1 z2 z3 z4=>⟨z3,z2,fun o z=>?_⟩⟩
      rw[upd_ne (by rintro rfl; exact hne (h4'.symm.trans z2))]
      exact z
section
variable {X:Cx} {e e1 e2 o k:Expr} {te t1 t2 ta tk:DT} {i:Nat} {x:Str} {pos px lp tpos sp:Pos}
def dNewD:DT:=fun _ Q=>Q (.o (.dct []))
theorem de_dnew:DE X (.Dict [] [] pos) dNewD:=
  DE.of pe_dnewT fun σ H Q ⟨G,ρ,P,s,_,h,k⟩ p hp=>k _ _ _ G h ((Wd.refl s).own hp (s.free hp)) ⟨p,rfl,hp,s.free hp,upd_same⟩
def dGetD:D2:=fun x y Q=>match x,y with
  | .dct kvs,.tup [.int i,.int j]=>∃v,valD kvs (i,j)=some v∧Q (.p (.int v))
  | _,_=>False
theorem de_dget {n:Nat} (hr:Room n X.A) (ha:DE X o ta) (hk:DE X k tk) (hs:NoSl k:=by exact fun _ _=>rfl) : DE X (.Subscript o k pos) (dOp dGetD ta tk):=
  DE.of (pe_getD (hu_of hr) ha.pe hk.pe hs) (cE_two fun H G x y dx dy P Q s rx ry h kk=>by
    unfold dGetD at h
    split at h
    · obtain ⟨v,h1,h2⟩:=h
      obtain ⟨b,rfl,hb⟩:=pair_sq ry
      cases rx with
      | dct e=>exact ⟨_,b,_,_,.int v,rfl,rfl,rd_same s e,same_seqT s hb,by rw[valV_enc,h1]; rfl,kk _ _ H G h2 (Wd.refl s) (.int _)⟩
    · exact h.elim)
def dDPut (i:Nat) (t1 t2 te:DT) : DTS:=fun E ρ=>match dget ρ i with
  | some (.o (.dct kvs))=>te (frz ρ) fun b=>match b.val with
    | .int v=>t1 (frz ρ) fun b1=>match b1.val with
      | .int z=>t2 (frz ρ) fun b2=>match b2.val with
        | .int y=>kvs.length<sizeLine∧E.nx (dput ρ i (.o (.dct (putD kvs (z,y) v))))
        | _=>False
      | _=>False
    | _=>False
  | _=>False
theorem ds_dput {n:Nat} {x1} (hr:Room n X.A) (hN:X.N[i]?=some x) (hv:Vis X.env.scope x) (h1:DE X e1 t1) (h2:DE X e2 t2) (he:DE X e te) (hd:(x == ("__debug__" : Str))=false:=by decide) (hcd:(x == ("__classdict__" : Str))=false:=by decide)
    (hs0:starEach [e1,e2] X.env=(false,eval e1 X.env)::starEach [e2] X.env:=by rfl) (hs1:starEach [e2] X.env=(false,eval e2 X.env)::starEach [] X.env:=by rfl)
    (ha:∀v,assign (.Subscript (.Name x px) (.Tuple [e1,e2] x1 lp) tpos) X.env v=(do
      let ov ←holding [v] (eval (.Name x px) X.env)
      let iv ←holding [v,ov] (eval (.Tuple [e1,e2] x1 lp) X.env)
      standAt tpos
      holding [v,ov,iv] (setItem ov iv v)
      release [v,ov,iv] []):=by intro _; rfl)
    (hs:swapsWithSole [.Subscript (.Name x px) (.Tuple [e1,e2] x1 lp) tpos] e pos.line X.env=pure false:=by rfl) (hw:swappedStores [.Subscript (.Name x px) (.Tuple [e1,e2] x1 lp) tpos] e X.env=pure none:=by rfl)
    (h0:(assignEach [.Subscript (.Name x px) (.Tuple [e1,e2] x1 lp) tpos] X.env).map (·.2) = [assign (.Subscript (.Name x px) (.Tuple [e1,e2] x1 lp) tpos) X.env]:=by rfl) :
    DS X (.Assign [.Subscript (.Name x px) (.Tuple [e1,e2] x1 lp) tpos] e pos) (dDPut i t1 t2 te):=DS.mk fun H0 G0 =>
  PS.imp (ps_asg he.pe (pg_sub (pe_var hN hv hd hcd) (pe_tup (pa_cons h1.pe (pa_cons h2.pe pa_nil hs1) hs0)) (set_dict (hu_of hr)) ha) hs hw h0) fun Dn σ H ⟨E,G,ρ,eo,w,en,h⟩=>by
    unfold dDPut at h
    split at h
    · rename_i kvs q
      obtain ⟨a,ha1,ha2,ha3,ha4⟩:=en.o i _ q
      have ha4:H a=some (.dT (encD kvs)):=ha4
      obtain ⟨G1,w1,sg,en1⟩:=en.freeze w
      refine ⟨G1,frz ρ,_,w1.gh,en1.p,h,fun b v H' G' p' w' r'=>?_⟩
      split at p'
      · rename_i vv ev
        have hvv:=bres_int w' r' ev
        subst hvv
        refine ⟨.ref a,ha1,G',frz ρ,_,w'.gh,RepE.mono w'.gg en1.p,p',fun b1 v1 H1 G1' p1 w1' r1=>?_⟩
        split at p1
        · rename_i z ez
          have hz:=bres_int w1' r1 ez
          subst hz
          refine ⟨G1',frz ρ,_,w1'.gh,RepE.mono (w'.trans w1').gg en1.p,p1,fun b2 v2 H2 G2 p2 w2 r2=>?_⟩
          split at p2
          · rename_i y ey
            have hy:=bres_int w2 r2 ey
            subst hy
            obtain ⟨hl,p2⟩:=p2
            refine ⟨small_len (by show 2≤1000; decide),fun p hp=>?_⟩
            have s2:Same H H2:=(w'.hh.trans w1'.hh).trans w2.hh
            have e2:H2 a=some (.dT (encD kvs)):=s2 _ _ ha4
            have pa:a≠p:=by rintro rfl; rw[e2] at hp; cases hp
            have hu:upd H2 p (.tup [.int z,.int y]) a=some (.dT (encD kvs)):=by rw[upd_ne pa]; exact e2
            refine ⟨a,p,encD kvs,k2 (z,y),rfl,rfl,hu,.inl (.inl upd_same),.inr upd_same,by rw[encD_len]; exact hl,?_⟩
            rw[putK_enc]
            have s3:Same H (upd H2 p (.tup [.int z,.int y])):=s2.trans (same_new hp)
            have wb:Wd H0 G0 (upd H2 p (.tup [.int z,.int y])) G:=⟨w.hh.trans s3,w.gg,w.gh.trans s3,w.old⟩
            exact eo.nx σ _ G _ (wb.own ha2 ha3) ((en.back s3).setX q ha1 ⟨ha3,upd_same⟩) p2
          · exact p2.elim
        · exact p1.elim
      · exact p'.elim
    · exact h.elim
def dDAug (i:Nat) (tk te:DT) (f:Int→Int→Int) : DTS:=fun E ρ=>match dget ρ i with
  | some (.o (.dct kvs))=>tk (frz ρ) fun b=>match b.val with
    | .tup [.int z,.int y]=>∃m,valD kvs (z,y)=some m∧te (frz ρ) fun b=>match b.val with
      | .int v=>kvs.length<sizeLine∧E.nx (dput ρ i (.o (.dct (putD kvs (z,y) (f m v)))))
      | _=>False
    | _=>False
  | _=>False
theorem ds_daug {op:Operator} {f:Int→Int→Int} (h:PS X (.AugAssign (.Subscript (.Name x px) k tpos) op e pos) (tAugS (tVar i) (cE X.K tk) (cE X.K te) (rGetD X.K) (ipI f) (rSetD X.K))) :
    DS X (.AugAssign (.Subscript (.Name x px) k tpos) op e pos) (dDAug i tk te f):=DS.mk fun H0 G0 =>
  PS.imp h fun Dn σ H ⟨E,G,ρ,eo,w,en,h⟩=>by
    unfold dDAug at h
    split at h
    · rename_i kvs q
      obtain ⟨a,ha1,ha2,ha3,ha4⟩:=en.o i _ q
      have ha4:H a=some (.dT (encD kvs)):=ha4
      obtain ⟨G1,w1,sg,en1⟩:=en.freeze w
      refine ⟨.ref a,ha1,G1,frz ρ,_,w1.gh,en1.p,h,fun b v H' G' p' w' r'=>?_⟩
      obtain ⟨G2,w2,r2⟩:=r'.give w'
      split at p'
      · rename_i z y ez
        rw[ez] at r2
        obtain ⟨m,hm,p'⟩:=p'
        obtain ⟨c,rfl,hc⟩:=pair_sq r2
        have hv:valV (encD kvs) (k2 (z,y))=some (.int m):=by rw[valV_enc,hm]; rfl
        refine ⟨a,c,encD kvs,k2 (z,y),.int m,rfl,rfl,.inl (w2.hh _ _ ha4),same_seqT w2.gh hc,hv,?_⟩
        refine ⟨G2,frz ρ,_,w2.gh,RepE.mono w2.gg en1.p,p',fun b3 v3 H3 G3 p3 w3 r3=>?_⟩
        split at p3
        · rename_i n en3
          obtain ⟨hl,p3⟩:=p3
          have s3:Same H H3:=w2.hh.trans w3.hh
          refine ⟨m,n,rfl,bres_int w3 r3 en3,a,c,encD kvs,k2 (z,y),rfl,rfl,s3 _ _ ha4,same_seqT (w2.gh.trans w3.hh) hc,.inl (by rw[hv]; simp),by rw[encD_len]; exact hl,?_⟩
          rw[putK_enc]
          have wb:Wd H0 G0 H3 G:=⟨w.hh.trans s3,w.gg,w.gh.trans s3,w.old⟩
          exact eo.nx σ _ G _ (wb.own ha2 ha3) ((en.back s3).setX q ha1 ⟨ha3,upd_same⟩) p3
        · exact p3.elim
      · exact p'.elim
    · exact h.elim
def dRetTO (i j:Nat) : DTS:=fun E ρ=>match dget ρ i,dget ρ j with
  | some (.o d),some (.o d')=>i≠j∧E.rt (.n true [d,d'])
  | _,_=>False
def dUnN (te:DT) (i j:Nat) : DTS:=fun E ρ=>te ρ fun b=>match b with
  | .n true [d,d']=>i≠j∧E.nx (dput (dput ρ i (.o d)) j (.o d'))
  | _=>False
end
end DL
namespace DL
open PySem L2
theorem allT {K:PySem.W.Frag} {H0 G0 G H G1 H' G':Hp} (w:Wd H0 G0 H G) (w1:Wd H0 G0 H G1) (w':Wd H G1 H' G') :
    ∃G3,Wd H0 G0 H' G3∧Same G G3∧(∀c us,SqT K G' c us→SqT K G3 c us)∧(∀c us,H' c=some (.tup us)→G3 c=some (.tup us))∧∀x,(∀us,H' x≠some (.tup us))→(∀o us,H' x≠some (.frz o us))→G3 x=G x:=by
  classical
  have gh':Same G H':=w.gh.trans w'.hh
  let C:Addr→Prop:=fun c=>(∃us,H' c=some (.tup us))∨(H0 c=none∧∃o us,H' c=some (.frz o us))
  obtain ⟨G3,yes,no⟩ : ∃G3:Hp,(∀c,C c→G3 c=H' c)∧∀c,¬C c→G3 c=G c:=⟨fun c=>if C c then H' c else G c,fun c h=>if_pos h,fun c h=>if_neg h⟩
  have sg:Same G G3:=fun c o e=>by
    by_cases z:C c
    · rw[yes c z]; exact gh' _ _ e
    · rw[no c z]; exact e
  refine ⟨G3,⟨w.hh.trans w'.hh,w.gg.trans sg,fun c o e=>?_,fun c hc=>?_⟩,sg,fun c us h=>?_,fun c us h=>by rw[yes c (.inl ⟨us,h⟩)]; exact h,fun x h1 h2=>no x ?_⟩
  · by_cases z:C c
    · rw[yes c z] at e; exact e
    · rw[no c z] at e; exact gh' _ _ e
  · rw[no c ?_]
    · exact w.old c hc
    · obtain ⟨o,e,n⟩:=hc
      rintro (⟨us,z⟩ | ⟨z,_⟩)
      · have:=(w.hh.trans w'.hh) _ _ e
        rw[z] at this
        cases this
        exact n us rfl
      · rw[z] at e; cases e
  · rcases h with h | h
    · rcases h with h | ⟨o,h⟩
      · have e:=w'.gh _ _ h
        exact .inl (.inl (by rw[yes c (.inl ⟨us,e⟩)]; exact e))
      · have e:=w'.gh _ _ h
        by_cases z:H0 c=none
        · exact .inl (.inr ⟨o,by rw[yes c (.inr ⟨z,o,_,e⟩)]; exact e⟩)
        · have cg:Chg H0 c:=by
            cases q:H0 c with
            | none=>exact absurd q z
            | some y =>
              have:=(w.hh.trans w'.hh) _ _ q
              rw[e] at this
              cases this
              exact ⟨_,q,fun _ z=>nomatch z⟩
          have n:¬C c:=by
            rintro (⟨us',k⟩ | ⟨k,_⟩)
            · rw[e] at k; cases k
            · exact z k
          refine .inl (.inr ⟨o,?_⟩)
          rw[no c n,w.old c cg,←(w1.trans w').old c cg]
          exact h
    · exact .inr h
  · rintro (⟨us,z⟩ | ⟨_,o,us,z⟩)
    · exact h1 us z
    · exact h2 o us z
theorem EnvO.more {K:PySem.W.Frag} {H0 G H G3:Hp} {σ:St} {ρ:DEnv} (e:EnvO K H0 G H σ ρ) (sg:Same G G3) (hk:∀x,G x=none→((∃vs,H x=some (.lst vs))∨∃kvs,H x=some (.dT kvs))→G3 x=none) : EnvO K H0 G3 H σ ρ:=by
  obtain ⟨o,e⟩:=e
  have own:∀x d,OwnAt K G H x d→OwnAt K G3 H x d:=fun x d q=>by
    refine q.stay sg (hk x q.1 ?_) fun o z=>z
    obtain ⟨k1,k2⟩:=q
    cases d with
    | lst ds=>obtain ⟨vs,k3,_⟩:=k2; exact .inl ⟨vs,k3⟩
    | dct kvs=>exact .inr ⟨_,k2⟩
    | non=>exact k2.elim
    | bl _=>exact k2.elim
    | int _=>exact k2.elim
    | str _=>exact k2.elim
    | tup _=>exact k2.elim
    | scr _=>exact k2.elim
  refine ⟨o,e.len,fun i d q=>?_,fun i d q=>?_,fun i t dss q=>?_⟩
  · obtain ⟨v,h1,h2⟩:=e.p i d q
    exact ⟨v,h1,h2.mono sg⟩
  · obtain ⟨b,h1,h2,h3,h4⟩:=e.o i d q
    exact ⟨b,h1,h2,h3,own b d h4⟩
  · obtain ⟨b,h1,as,nd,pr,z⟩:=e.n i t dss q
    refine ⟨b,h1,as,nd,paired_mono (fun x d _ ⟨k1,k2,k3⟩=>⟨k1,k2,own x _ k3⟩) pr,?_⟩
    cases t with
    | true=>exact sg _ _ z
    | false =>
      obtain ⟨z1,z2,z3,z4,z5⟩:=z
      exact ⟨z1,z2,hk b z3 (.inl ⟨_,z5⟩),z4,z5⟩
def D.flat:D→Bool
  | .tup es=>es.all D.sc
  | d=>d.sc
theorem Rep.flat {K:PySem.W.Frag} {G' G3:Hp} {v:V} {d:D} (k:∀c us,G' c=some (.tup us)→G3 c=some (.tup us)) (r:Rep K G' v d) (f:d.flat=true) : Rep K G3 v d:=by
  cases d with
  | tup es =>
    obtain ⟨a,vs,rfl,e,rr⟩:=r.tup_st
    exact Rep.tup' (k _ _ e) (reps_sc rr f)
  | non=>exact r.sc f
  | bl _=>exact r.sc f
  | int _=>exact r.sc f
  | str _=>exact r.sc f
  | lst _=>exact r.sc f
  | scr _=>exact r.sc f
  | dct _=>exact r.sc f
theorem Reps.flat {K:PySem.W.Frag} {G' G3:Hp} {vs:List V} {ds:List D} (k:∀c us,G' c=some (.tup us)→G3 c=some (.tup us)) (r:Reps K G' vs ds) (f:ds.all D.flat=true) : Reps K G3 vs ds:=by
  induction r with
  | nil=>exact .nil
  | cons h _ ih =>
    rw[List.all_cons,Bool.and_eq_true] at f
    exact .cons (h.flat k f.1) (ih f.2)
section
variable {X:Cx} {tg iter:Expr} {te:DT} {body:List Stmt} {g:Tg} {tb:DTS} {pos:Pos}
def dForT (te:DT) (g:Tg) (tb:DTS) : DTS:=fun E ρ=>te (frz ρ) fun b=>match b with
  | .o (.lst ds)=>ds.all D.flat=true∧forI g tb E ds ρ
  | _=>False
end
section
variable {X:Cx} {e k m:Expr} {tk tm te:DT} {i:Nat} {x:Str} {pos px sp tpos:Pos}
def dNestAug (i:Nat) (tk tm te:DT) (f:Int→Int→Int) : DTS:=fun E ρ=>match dget ρ i with
  | some (.n t dss)=>tk (frz ρ) fun k=>match k.val with
    | .int z=>∃j ds,ixN dss.length z=some j∧dss[j]?=some (.lst ds)∧tm (frz ρ) fun m=>match m.val with
      | .int z'=>∃j' q,ixN ds.length z'=some j'∧ds[j']?=some (.int q)∧te (frz ρ) fun b=>match b.val with
        | .int v=>E.nx (dput ρ i (.n t (dss.set j (.lst (ds.set j' (.int (f q v)))))))
        | _=>False
      | _=>False
    | _=>False
  | _=>False
end
end DL
namespace DIt
open PySem PySem.W PySem.Calls PyProof.Rows
structure At (h:Heap) (d:Addr) (es:Array DictEntry) (ep:Nat) : Prop where
  ex:∃o,h.get? d=some o∧o.ExactDict∧o.data=.dict es ep
theorem At.ty {s:Shared} {d es ep} (x:At s.heap d es ep) : s.TypeIs (.ref d) "dict":=by
  obtain ⟨o,h1,h2,_⟩:=x.ex
  exact ⟨o,h1,h2.1⟩
theorem At.keep {h h':Heap} {d es ep} (x:At h d es ep) (k:∀o,h.get? d=some o→h'.get? d=some o) : At h' d es ep:=by
  obtain ⟨o,h1,r⟩:=x.ex
  exact ⟨o,k _ h1,r⟩
theorem At.lt {h:Heap} {d es ep} (x:At h d es ep) : d<h.objs.size:=by
  obtain ⟨o,h1,_⟩:=x.ex
  exact Heap.lt_size h1
section
variable {prog:Program} {w:World} {A:Around} {E:Value→Shared→Prop} {s:Shared} {d it:Addr} {es:Array DictEntry} {ep i:Nat}
theorem start {Q:Value→Shared→Prop} (hd:(d == sysModules)=false) (x:At s.heap d es ep)
    (q:Q (.ref s.heap.objs.size) { s with heap:=s.heap.push { cls:=.type "dict_keyiterator",data:=.fields #[.ref d,.int 0 0,.int es.size 0,.int ep 0] } }) : wpAny (model prog w) A (pyIter (.ref d)) Q E s:=by
  obtain ⟨o,e1,e2,e3⟩:=x.ex
  have ty:=x.ty
  refine wpAny_pyIter_slot ty PySem.F.slot_dict_iter (wpAny_call_entry PySem.F.slot_dict_iter ty PySem.F.entry_dict_iter ?_ (PySem.F.args_dict_iter_1 _))
  unfold Builtin.«dict.__iter__» Builtin.Dict.dictSlotNone
  refine wpAny_bind (wpAny_bind (wpAny_notOrdered_dict ty (show wpAny _ _ (pure (Value.ref d)) _ _ s from wpAny_pure ?_)))
  show wpAny _ _ (Builtin.Dict.showsAll d >>= _) _ _ s
  unfold Builtin.Dict.showsAll
  rw[if_neg (show ¬(d == sysModules)=true by rw[hd]; exact Bool.false_ne_true)]
  refine wpAny_bind (wpAny_pure (wpAny_bind (wpAny_dictEntries e1 e3 (wpAny_bind (wpAny_dictEpoch e1 e3 ?_)))))
  refine wpAny_bind (wpAny_newObj_type (wpAny_pure ⟨_,rfl,"dict_keyiterator",_,⟨_,Heap.get?_push_size _ rfl,rfl⟩,PySem.F.slot_dict_keyiterator_next.lookup,?_⟩))
  simpa [rawInt] using q
theorem item {Q:Option Value→Shared→Prop} (hit:s.heap.IsKeyIter it d i es.size ep) (x:At s.heap d es ep) (hi:i<es.size)
    (hQ:∀h',h'.IsKeyIter it d (i+1) es.size ep→Heap.SameBut it s.heap h'→Q (some es[i].key) { s with heap:=h' }) : wpAny (model prog w) A (pyNext (.ref it)) Q E s:=by
  obtain ⟨o,f1,f2,f3⟩:=id hit
  obtain ⟨od,e1,e2,e3⟩:=x.ex
  unfold pyNext
  refine wpAny_bind (wpAny_attempt (wpAny_callSpecial?_slot (name:=Str.ofString "__next__") hit.typeIs PySem.F.slot_dict_keyiterator_next (wpAny_call_entry PySem.F.slot_dict_keyiterator_next hit.typeIs PySem.F.entry_dict_keyiterator_next ?_ (PySem.F.args_dict_keyiterator_next_1 _))))
  refine wpAny_bind (wpAny_pure (wpAny_bind (wpAny_bind ?_)))
  first | refine wpAny_bind (wpAny_typeNameOfWhole_keyiter hit.typeIs (wpAny_pure (wpAny_bind (wpAny_fieldsOf f1 f3 ?_)))) | refine wpAny_bind (wpAny_typeNameOf_keyiter hit.typeIs (wpAny_pure (wpAny_bind (wpAny_fieldsOf f1 f3 ?_))))
  have own:Builtin.Dict_items.ownsTuple "dict_keyiterator" = false:=by decide
  simp only[own,Bool.false_eq_true,if_false]
  show wpAny _ _ (if (Value.ref d == Value.none)=true then _ else _) _ _ s
  rw[if_neg (show ¬(Value.ref d == Value.none)=true from Bool.false_ne_true)]
  refine wpAny_bind (wpAny_pure (wpAny_bind (wpAny_dictEntries e1 e3 ?_)))
  rw[if_neg (show ¬_ by simp)]
  refine wpAny_bind (wpAny_pure (wpAny_bind (wpAny_dictEpoch e1 e3 ?_)))
  rw[if_neg (show ¬_ by simp)]
  refine wpAny_pure ?_
  simp only[show ¬((i:Int)<0) from by lia,if_false,Int.toNat_natCast,Array.getElem?_eq_getElem hi]
  refine wpAny_bind ?_
  first | refine wpAny_bind (wpAny_typeNameOfWhole_keyiter hit.typeIs (wpAny_pure (wpAny_bind (wpAny_isOneOf_keyiter hit.typeIs ?_)))) | refine wpAny_bind (wpAny_typeNameOf_keyiter hit.typeIs (wpAny_pure (wpAny_bind (wpAny_isOneOf_keyiter hit.typeIs ?_))))
  first | refine wpAny_bind (wpAny_isOneOf_keyiter hit.typeIs ?_) | skip
  show wpAny _ _ (setField (.ref it) 1 (rawInt ((i:Int)+1)) >>= _) _ _ s
  refine wpAny_bind (wpAny_setField f1 f3 (by simp) ?_)
  have hit':(s.heap.update it (Obj.mapFields (·.setIfInBounds 1 (rawInt ((i:Int)+1))))).IsKeyIter it d (i+1) es.size ep:=
    ⟨_,Heap.get?_update_self _ f1 (Obj.isFreed_of_fields (Obj.data_mapFields f3 _)),(Obj.cls_mapFields ..).trans f2,by rw[Obj.data_mapFields f3]; simp[rawInt]⟩
  refine wpAny_bind (wpAny_holding (wpAny_bind (wpAny_isOneOf_keyiter (s:={ s with heap:=s.heap.update it (Obj.mapFields (·.setIfInBounds 1 (rawInt ((i:Int)+1)))) }) hit'.typeIs ?_)))
  show wpAny _ _ (pure es[i].key) _ _ _
  exact wpAny_pure (wpAny_pure ⟨_,rfl,wpAny_pure (hQ _ hit' (Heap.SameBut.update ..))⟩)
theorem done {Q:Option Value→Shared→Prop} (hh:A.handled=none) (hit:s.heap.IsKeyIter it d es.size es.size ep) (x:At s.heap d es ep) (hQ:∀h',Heap.ExtBut it s.heap h'→Q none { s with heap:=h' }) : wpAny (model prog w) A (pyNext (.ref it)) Q E s:=by
  obtain ⟨o,f1,f2,f3⟩:=id hit
  obtain ⟨od,e1,e2,e3⟩:=x.ex
  unfold pyNext
  refine wpAny_bind (wpAny_attempt (wpAny_callSpecial?_slot (name:=Str.ofString "__next__") hit.typeIs PySem.F.slot_dict_keyiterator_next (wpAny_call_entry PySem.F.slot_dict_keyiterator_next hit.typeIs PySem.F.entry_dict_keyiterator_next ?_ (PySem.F.args_dict_keyiterator_next_1 _))))
  refine wpAny_bind (wpAny_pure (wpAny_bind (wpAny_bind ?_)))
  first | refine wpAny_bind (wpAny_typeNameOfWhole_keyiter hit.typeIs (wpAny_pure (wpAny_bind (wpAny_fieldsOf f1 f3 ?_)))) | refine wpAny_bind (wpAny_typeNameOf_keyiter hit.typeIs (wpAny_pure (wpAny_bind (wpAny_fieldsOf f1 f3 ?_))))
  have own:Builtin.Dict_items.ownsTuple "dict_keyiterator" = false:=by decide
  simp only[own,Bool.false_eq_true,if_false]
  show wpAny _ _ (if (Value.ref d == Value.none)=true then _ else _) _ _ s
  rw[if_neg (show ¬(Value.ref d == Value.none)=true from Bool.false_ne_true)]
  refine wpAny_bind (wpAny_pure (wpAny_bind (wpAny_dictEntries e1 e3 ?_)))
  rw[if_neg (show ¬_ by simp)]
  refine wpAny_bind (wpAny_pure (wpAny_bind (wpAny_dictEpoch e1 e3 ?_)))
  rw[if_neg (show ¬_ by simp)]
  refine wpAny_pure ?_
  simp only[show ¬((es.size:Int)<0) from by lia,if_false,Int.toNat_natCast,Array.getElem?_eq_none (Nat.le_refl es.size)]
  refine wpAny_bind ?_
  first | refine wpAny_bind (wpAny_typeNameOfWhole_keyiter hit.typeIs (wpAny_pure ?_)) | skip
  show wpAny _ _ (setField (.ref it) 0 .none >>= _) _ _ s
  refine wpAny_bind (wpAny_setField f1 f3 (by simp) ?_)
  show wpAny _ _ (newExc (.type "StopIteration") [] >>= _) _ _ _
  refine wpAny_bind ?_
  simp only[newExc,newTuple]
  refine wpAny_bind (wpAny_newObj_type (wpAny_bind (m:=firstArgMember _ _) (wpAny_of_eq (a:=Value.none) (by first | rfl | (simp only[firstArgMember]; rfl)) (wpAny_newObj_type ?_ (by size_fits)))) (by size_fits))
  simp only[raiseNew]
  refine wpAny_bind (wpAny_handled ?_)
  rw[show A.in1.handled=none from hh]; refine wpAny_bind (wpAny_pure (wpAny_throw ?_))
  refine wpAny_bind (wpAny_isInstance (T:="StopIteration") (b:=true) ⟨_,Heap.get?_push_size _ rfl,rfl⟩ isSubtype_stop (wpAny_pure (hQ _ (((Heap.SameBut.update ..).extBut.push _).push _))))
theorem walk (hh:A.handled=none) (I d:Addr) (hne:d≠I) (es:Array DictEntry) (ep:Nat) :
    Walks prog w A I [I,d] [I] es.size (fun i v=>∃e,es[i]?=some e∧v=e.key) (fun i h=>h.IsKeyIter I d i es.size ep∧At h d es ep) where
  sub:=fun b hb=>by simp at hb; simp[hb]
  frame:=fun _ _ _ st hk=>⟨st.1.at fun o e=>hk I (by simp) o e,st.2.keep fun o e=>hk d (by simp) o e⟩
  item:=fun i s Q E hi st hQ=>item st.1 st.2 hi fun h' k hs'=>hQ _ h' s.toks ⟨es[i],by simp[hi],rfl⟩ ⟨k,st.2.keep fun o e=>hs'.extBut d o hne e⟩ fun b o hb e=>hs'.extBut b o (fun h=>hb (by simp[h])) e
  done:=fun s Q E st hQ=>done hh st.1 st.2 fun h' he'=>hQ h' s.toks fun b o hb e=>he' b o (fun h=>hb (by simp[h])) e
  self:=fun _ _ _ _ st hQ=>wpAny_pyIter_keyiter st.1 hQ
theorem src (lo:(d == sysModules)=false) : KdlSrc prog w "dict" d d es.size (fun i v=>∃e,es[i]?=some e∧v=e.key) (fun h=>At h d es ep) where
  type:=fun _ hm=>hm.ty
  there:=fun _ hm=>⟨hm.lt,hm.lt⟩
  keep:=fun _ _ hm hk=>hm.keep fun o e=>hk d (.inl rfl) o e
  notList:=by decide
  notTuple:=by decide
  hint:=fun _ _ _ _ hm hq=>kdl_hint_dict hm.ty hq
  iter:=fun _ _ hh hm=>⟨_,_,(fun _ _ hq=>start lo hm hq),walk hh _ d (Nat.ne_of_lt hm.lt) es ep,⟨⟨_,Heap.get?_push_size _ rfl,rfl,rfl⟩,hm.keep fun o e=>Heap.get?_push_of_some _ e⟩⟩
end
end DIt
namespace SoT
open PySem PySem.W PySem.Calls PyProof.Rows
def lexI (fin:Bool) : List Int→List Int→Bool
  | a::r,b::r'=>if a=b then lexI fin r r' else decide (a<b)
  | _,_=>fin
def Tp (h:Heap) (v:Value) (ns:List Int) : Prop:=∃a o xs n,v=.ref a∧h.get? a=some o∧o.cls=.type "tuple"∧o.data=.seq xs n∧IntsAre xs.toList ns
theorem Tp.keep {h h':Heap} {v:Value} {ns:List Int} (k:∀b o,h.get? b=some o→o.cls=.type "tuple"→h'.get? b=some o) (t:Tp h v ns) : Tp h' v ns:=by
  obtain ⟨a,o,xs,n,e,h1,h2,r⟩:=t
  exact ⟨a,o,xs,n,e,k a o h1 h2,h2,r⟩
section
variable {prog:Program} {w:World} {A:Around} {E:Value→Shared→Prop} {s:Shared}
theorem one_lt {b:Bool} {x y:Int} {t u:Tok} {Q:Bool→Shared→Prop} (h:Q (decide (x<y)) s) : wpAny (model prog w) A (oneLt' b (.int x t) (.int y u)) Q E s:=by
  cases b with
  | true=>exact oneLt_int h
  | false=>exact kat_one _ _ (PyProof.Rows.lt_int (show Q (decide (x<y)) s from h))
theorem lex_run {b fin:Bool} {Q:Bool→Shared→Prop} : ∀{us vs:List Value} {ns ms:List Int} (i:Nat),IntsAre us ns→IntsAre vs ms→Q (lexI fin ns ms) s→KatLex prog w A b fin Q (us.zip vs) i s
  | _,_,_,_,_,.nil,.nil,h=>h
  | _,_,_,_,_,.nil,.cons _ _ _,h=>h
  | _,_,_,_,_,.cons _ _ _,.nil,h=>h
  | _,_,_,_,i,.cons x t r,.cons y u r',h=>by
    rw[List.zip_cons_cons]
    refine kat_cons (wpAny_eqBool_int ?_)
    have h':Q (if x=y then lexI fin _ _ else decide (x<y)) s:=h
    by_cases e:x=y
    · rw[if_pos e] at h'
      rw[show (x == y)=true by simp[e]]
      exact kat_yes (lex_run (i+1) r r' h')
    · rw[if_neg e] at h'
      rw[show (x == y)=false by simp[e]]
      exact kat_no (one_lt h')
theorem key_lt {v u:Value} {ns ms:List Int} {Q:Bool→Shared→Prop} (hv:Tp s.heap v ns) (hu:Tp s.heap u ms) (h:Q (lexI (decide (ns.length<ms.length)) ns ms) s) : wpAny (model prog w) A (keyLt' (tuples' true) v u) Q E s:=by
  obtain ⟨a,o,xs,n,rfl,h1,h2,h3,h4⟩:=hv
  obtain ⟨a',o',xs',n',rfl,g1,g2,g3,g4⟩:=hu
  have il:∀{us:List Value} {ns:List Int},IntsAre us ns→us.length=ns.length:=fun r=>by
    induction r with
    | nil=>rfl
    | cons _ _ _ ih=>simp[ih]
  have e1:xs.size=ns.length:=by rw[←il h4]; simp
  have e2:xs'.size=ms.length:=by rw[←il g4]; simp
  refine kat_lt h1 h3 g1 g3 (lex_run 0 h4 g4 ?_)
  rw[e1,e2]
  exact h
def Rise (h:Heap) (vs:List Value) : Prop:=∃nss:List (List Int),vs.length=nss.length∧(∀(i:Nat) v ns,vs[i]?=some v→nss[i]?=some ns→0<ns.length∧Tp h v ns)∧∀(i:Nat) ns ms,nss[i]?=some ns→nss[i+1]?=some ms→lexI (decide (ms.length<ns.length)) ms ns=false
theorem Rise.keep {h h':Heap} {vs:List Value} (k:∀b o,h.get? b=some o→o.cls=.type "tuple"→h'.get? b=some o) (t:Rise h vs) : Rise h' vs:=by
  obtain ⟨nss,e,f,g⟩:=t
  exact ⟨nss,e,fun i v ns h1 h2=>⟨(f i v ns h1 h2).1,(f i v ns h1 h2).2.keep k⟩,g⟩
theorem kat_of {h:Heap} : ∀{vs:List Value} {nss:List (List Int)},vs.length=nss.length→(∀(i:Nat) v ns,vs[i]?=some v→nss[i]?=some ns→0<ns.length∧Tp h v ns)→∃fs,KatTups h vs fs∧fs.length=vs.length∧∀f∈fs,∃n t,f=Value.int n t
  | [],[],_,_=>⟨[],KatTups.nil,rfl,fun _ z=>nomatch z⟩
  | v::vs,ns::nss,e,f=>by
    obtain ⟨fs,h1,h2,h3⟩:=kat_of (vs:=vs) (nss:=nss) (by simpa using e) fun i v ns a b=>f (i+1) v ns (by simpa using a) (by simpa using b)
    obtain ⟨hl,a,o,xs,n,rfl,g1,g2,g3,g4⟩:=f 0 v ns rfl rfl
    cases ns with
    | nil=>simp at hl
    | cons x r =>
      cases q:xs.toList with
      | nil=>rw[q] at g4; cases g4
      | cons u us =>
        rw[q] at g4
        cases g4 with
        | cons _ t _ =>
          refine ⟨.int x t::fs,KatTups.cons g1 g2 g3 (by rw[←Array.getElem?_toList,q]; rfl) h1,by simp[h2],fun f hf=>?_⟩
          rcases List.mem_cons.mp hf with rfl | hf
          · exact ⟨x,t,rfl⟩
          · exact h3 f hf
theorem sortedHeap_keep {h:Heap} {a:Addr} {vs:List Value} {out:Array Value} {b:Addr} {o:Obj} (hb:b≠a) (e:h.get? b=some o) : (sortedHeap h a vs out).get? b=some o:=by
  unfold sortedHeap
  refine (Heap.get?_update_other _ _ (Ne.symm hb)).trans (Heap.get?_push_of_some _ (Heap.get?_push_of_some _ ((Heap.get?_update_other _ _ (Ne.symm hb)).trans e)))
end
end SoT
namespace L2
open PySem PySem.Spec PyProof.Rows
section
variable {X:Cx}
theorem entries_of {P:Program} {w:World} {H:Hp} : ∀{ps:List ((Int×Int)×Int)} {xs:List (List Key×Addr×Value)},KT H (DL.encD ps) xs→∃bs:List Addr,Paired (fun b p=>H b=some (.tup [.int p.1.1,.int p.1.2])) bs ps∧(xs.map (entryOfKey (tupleKind (mixKind P w)))).map (·.key)=bs.map Value.ref
  | [],_,r=>by
    have r':KT H [] _:=r
    cases r'
    exact ⟨[],.nil,rfl⟩
  | p::ps,_,r=>by
    have r':KT H ((DL.k2 p.1,V.int p.2)::DL.encD ps) _:=r
    cases r' with
    | cons h t =>
      obtain ⟨bs,h1,h2⟩:=entries_of (P:=P) (w:=w) t
      rename_i q qs
      refine ⟨q.2.1::bs,.cons h.2.1 h1,?_⟩
      rw[List.map_cons,List.map_cons,List.map_cons,h2]
      rfl
end
end L2
namespace DL
open PySem L2
def keysD (kvs:KVs) : List D:=kvs.map fun p=>.tup [.int p.1.1,.int p.1.2]
def RiseD (kvs:KVs) : Prop:=∀(i:Nat) p q,kvs[i]?=some p→kvs[i+1]?=some q→p.1.1<q.1.1∨(p.1.1=q.1.1∧p.1.2≤q.1.2)
def dSortD:DR:=fun ds P=>match ds with
  | [.dct kvs]=>RiseD kvs∧P (.o (.lst (keysD kvs)))
  | _=>False
theorem with_keys {K:PySem.W.Frag} {H G:Hp} {l:Addr} {bs:List Addr} {ps:KVs} (s:Same G H) (hl:H l=none) (hb:Paired (fun b p=>H b=some (.tup [.int p.1.1,.int p.1.2])) bs ps) :
    ∃G',Wd H G (upd H l (.lst (bs.map V.ref))) G'∧BRes K H G' (upd H l (.lst (bs.map V.ref))) (.ref l) (.o (.lst (keysD ps))):=by
  obtain ⟨G3,w3,s3,k3,t3,o3⟩:=allT (K:=K) (Wd.refl s) (Wd.refl s) ((Wd.refl s).own hl (s.free hl) (o:=.lst (bs.map V.ref)))
  have hl3:G3 l=none:=by
    rw[o3 l (fun us z=>by rw[upd_same] at z; cases z) (fun o us z=>by rw[upd_same] at z; cases z)]
    exact s.free hl
  refine ⟨G3,w3,l,rfl,hl,hl3,bs.map V.ref,upd_same,?_⟩
  unfold keysD
  clear w3 s3 k3 o3 hl3
  induction hb with
  | nil=>exact .nil
  | @cons b p bs ps h _ ih =>
    refine .cons ?_ (ih ?_)
    · refine Rep.tup' (t3 b _ ?_) (.cons (.int _) (.cons (.int _) .nil))
      rw[upd_ne (by rintro rfl; rw[h] at hl; cases hl)]
      exact h
    · intro c us z
      refine t3 c us ?_
      by_cases e:c=l
      · subst e; rw[upd_same] at z; cases z
      · rw[upd_ne e] at z ⊢; exact z
end DL
namespace L2
open PySem PySem.Spec PyProof.Rows
end L2
namespace DL
open PySem L2
def dNotB:D2:=fun x y Q=>match x,y with
  | .bl a,.bl b=>Q (.p (.bl (!decide (a=b))))
  | _,_=>False
end DL
namespace PySem
section
variable {prog:Program} {w:World} {K:Type} [DecidableEq K] {knd:HeapKind prog w K} {A:Around} {E:Value→Shared→Prop} {s:Shared}
def withoutH (xs:List (K×Addr×Value)) (k:K) : List (K×Addr×Value):=xs.filter fun x=>decide (x.1≠k)
theorem erase_map {α β:Type} (f:α→β) : ∀(xs:List α) (j:Nat),(xs.eraseIdx j).map f=(xs.map f).eraseIdx j
  | [],_=>rfl
  | x::xs,0=>rfl
  | x::xs,j+1=>by
    rw[List.eraseIdx_cons_succ,List.map_cons,List.map_cons,List.eraseIdx_cons_succ,erase_map f xs j]
theorem erase_without:∀{xs:List (K×Addr×Value)} {j:Nat} {k:K} {p:Addr×Value},(xs.map (·.1)).Nodup→xs[j]?=some (k,p)→xs.eraseIdx j=withoutH xs k
  | [],j,k,p,_,h=>by simp at h
  | x::xs,0,k,p,hn,h=>by
    rw[List.map_cons,List.nodup_cons] at hn
    simp only[List.getElem?_cons_zero,Option.some.injEq] at h
    subst h
    unfold withoutH
    rw[List.eraseIdx_zero,List.tail_cons,List.filter_cons_of_neg (by simp)]
    symm
    rw[List.filter_eq_self]
    intro y hy
    rw[decide_eq_true_eq]
    exact fun e=>hn.1 (List.mem_map.mpr ⟨y,hy,e⟩)
  | x::xs,j+1,k,p,hn,h=>by
    rw[List.map_cons,List.nodup_cons] at hn
    simp only[List.getElem?_cons_succ] at h
    have hne:x.1≠k:=fun e=>hn.1 (List.mem_map.mpr ⟨(k,p),List.mem_of_getElem? h,e.symm⟩)
    unfold withoutH
    rw[List.eraseIdx_cons_succ,List.filter_cons_of_pos (by rw[decide_eq_true_eq]; exact hne)]
    have:=erase_without hn.2 h
    unfold withoutH at this
    rw[this]
theorem nodup_withoutH {xs:List (K×Addr×Value)} (hn:(xs.map (·.1)).Nodup) (k:K) : ((withoutH xs k).map (·.1)).Nodup:=by
  unfold withoutH
  exact List.Nodup.sublist (List.Sublist.map _ List.filter_sublist) hn
theorem takeOut_heap {d a:Addr} {xs:List (K×Addr×Value)} {k:K} {Q:Option DictEntry→Shared→Prop} (hu:knd.room A) (hkey:knd.is s.heap k a) (hm:s.heap.DictOfH knd d xs) (hz:xs.length≤sizeLine)
    (hnone:atKey xs k=none→Q none { s with toks:=s.toks+knd.draws k })
    (hsome:∀p e,atKey xs k=some p→e.val=p.2→∀h',h'.DictOfH knd d (withoutH xs k)→Heap.SameBut d s.heap h'→Q (some e) { s with heap:=h',toks:=s.toks+knd.draws k }) :
    wpAny (model prog w) A (Builtin.Dict.takeOut d (.ref a)) Q E s:=by
  obtain ⟨o,es,ep,ho,hc,hd,he,his,hn⟩:=hm
  have hes:es.size≤sizeLine:=by rw[size_of_entries he]; exact hz
  unfold Builtin.Dict.takeOut
  try with_reducible refine wpAny_holding ?_
  refine wpAny_bind (knd.pyHash hu hkey ?_)
  refine wpAny_bind (wpAny_dictFind_heap (s:={ s with toks:=s.toks+knd.draws k }) hu hkey ho hd he his hn ?_ ?_)
  · intro hno
    exact wpAny_pure (hnone (atKey_none_of_get hno))
  · intro j p hj
    dsimp only
    refine wpAny_bind (wpAny_dictEntries (s:={ s with toks:=s.toks+knd.draws k }) ho hd ?_)
    rw[entry_at he j,hj]
    dsimp only[Option.map_some]
    refine wpAny_bind (wpAny_updateDictKeys (hz:=hes) (s:={ s with toks:=s.toks+knd.draws k }) ho hd (wpAny_pure (hsome p _ (atKey_of_get hn hj) rfl _ ⟨_,_,ep+1,Heap.get?_update_self _ ho (Obj.isFreed_of_dict (Obj.data_mapDictKeys hd _)),
      hc.mapDictKeys _,Obj.data_mapDictKeys hd _,?_,?_,nodup_withoutH hn k⟩ (Heap.SameBut.update ..))))
    · rw[←erase_without hn hj,Array.toList_eraseIdxIfInBounds,he]
      exact (erase_map _ xs j).symm
    · intro x hx
      exact knd.keeps (his x (List.mem_filter.mp hx).1) ho hd (Heap.SameBut.update ..)
theorem pop_heap {d a:Addr} (hd:(d == sysModules)=false) (dflt:Value) :
    MeetsIn prog w (Builtin.«dict.pop» ⟨[.ref d,.ref a,dflt],[]⟩) (fun A R s=>knd.room A.in1∧∃k xs,knd.is s.heap k a∧s.heap.DictOfH knd d xs∧xs.length≤sizeLine ∧
      (atKey xs k=none→∀tk,R (.ok (.ret dflt)) { s with toks:=tk })∧∀p,atKey xs k=some p→∀h' tk,h'.DictOfH knd d (withoutH xs k)→Heap.SameBut d s.heap h'→R (.ok (.ret p.2)) { s with heap:=h',toks:=tk }):=
  .of_wp fun A R s ⟨hu,k,xs,hkey,hm,hz,h0,h1⟩=>by
    unfold Builtin.«dict.pop»
    refine wpAny_bind ?_
    unfold Builtin.Dict.keyAndDefault
    refine wpAny_bind (wpAny_notOrdered_dict hm.typeIs ?_)
    show wpAny _ _ (pure (d,Value.ref a,some dflt)) _ _ s
    refine wpAny_pure ?_
    have hp:(keyPart (Value.ref a)).isSome=false:=rfl
    simp only[hp,Bool.false_eq_true,if_false]
    have hm':=hm
    obtain ⟨o,es,ep,ho,hc,hdd,he,his,hn⟩:=hm'
    refine wpAny_bind (wpAny_dictEntries ho hdd (wpAny_bind (wpAny_pure ?_)))
    by_cases hem:es.isEmpty=true
    · rw[if_pos hem]
      have hx:xs = []:=by
        have:=size_of_entries he
        rw[Array.isEmpty_iff_size_eq_zero] at hem
        exact List.length_eq_zero_iff.mp (by lia)
      refine wpAny_bind (wpAny_rule (wpAny_bind (wpAny_pure ?_)))
      simp only[Option.isNone_none,if_true]
      refine wpAny_bind (wpAny_missedRemoval_other hd ?_)
      refine wpAny_bind (wpAny_rule (wpAny_pure ⟨dflt,rfl,?_⟩))
      exact h0 (by rw[hx]; rfl) s.toks
    · rw[if_neg hem]
      refine wpAny_bind (takeOut_heap hu hkey hm hz (fun hno=>?_) fun p e hp hv h' hm'' hs'=>?_)
      · simp only[Option.isNone_none,if_true]
        refine wpAny_bind (wpAny_missedRemoval_other hd ?_)
        exact wpAny_bind (wpAny_rule (wpAny_pure ⟨dflt,rfl,h0 hno _⟩))
      · simp only[Option.isNone_some,Bool.false_eq_true,if_false]
        exact wpAny_bind (wpAny_letGo (wpAny_pure ⟨e.val,rfl,by rw[hv]; exact h1 p hp h' _ hm'' hs'⟩))
def same1 (yb:List (K×Addr×Value)) (x:K×Addr×Value) : Bool:=
  match atKey yb x.1,x.2.2 with
  | some (_,.int m _),.int n _=>n == m
  | _,_=>false
theorem samePairs_heap {nm:String} {a b:Addr} {xa yb:List (K×Addr×Value)} {Q:Bool→Shared→Prop} (hu:knd.room A) (ha:(a == sysModules)=false) (hb:(b == sysModules)=false)
    (da:s.heap.DictOfH knd a xa) (db:s.heap.DictOfH knd b yb) (ia:∀x∈xa,∃n t,x.2.2=Value.int n t) (ib:∀x∈yb,∃n t,x.2.2=Value.int n t) (h:Q (xa.length == yb.length && xa.all (same1 yb)) s) :
    wpAny (model prog w) A (Builtin.Dict.samePairs nm a b) Q E s:=by
  obtain ⟨oa,es,ep,hoa,_,hda,hea,hisa,hna⟩:=da
  obtain ⟨ob,es',ep',hob,_,hdb,heb,hisb,hnb⟩:=db
  have hla:es.size=xa.length:=size_of_entries hea
  have hlb:es'.size=yb.length:=size_of_entries heb
  rw[←hla,←hlb] at h
  unfold Builtin.Dict.samePairs Builtin.Dict.showsAll
  rw[if_neg (show ¬(a == sysModules)=true by rw[ha]; exact Bool.false_ne_true),if_neg (show ¬(b == sysModules)=true by rw[hb]; exact Bool.false_ne_true)]
  refine wpAny_bind (wpAny_pure (wpAny_bind (wpAny_pure ?_)))
  refine wpAny_bind (wpAny_dictEntries hoa hda ?_)
  dsimp only
  refine wpAny_bind (wpAny_dictEntries hob hdb ?_)
  by_cases hsz:es.size=es'.size
  case neg =>
    rw[if_pos (by simpa using hsz)]
    have hbf:(es.size == es'.size)=false:=by simpa using hsz
    rw[hbf,Bool.false_and] at h
    exact wpAny_bind (wpAny_rule (wpAny_pure h))
  case pos =>
    have h':Q (xa.all (same1 yb)) s:=by simpa [hsz] using h
    rw[if_neg (by rw[hsz]; simp)]
    refine wpAny_bind (wpAny_dictEpoch hoa hda ?_)
    refine wpAny_bind ?_
    rw[Std.Legacy.Range.forIn_eq_forIn_range']
    simp only[Std.Legacy.Range.size,Nat.sub_zero,Nat.add_sub_cancel,Nat.div_one]
    refine wpAny_forIn_list _
      (fun rest q s'=>s'=s∧q=(none,())∧∃i,rest=List.range' i (es.size - i)∧i≤es.size∧(xa.drop i).all (same1 yb)=xa.all (same1 yb))
      _ ?_ ?_ _ _ ⟨rfl,rfl,0,by simp,Nat.zero_le _,rfl⟩
    · rintro x rest q s' ⟨rfl,rfl,i,hr,hi,hpre⟩
      have hlt:i<es.size:=by
        rcases Nat.lt_or_ge i es.size with h | h
        · exact h
        · rw[Nat.sub_eq_zero_of_le h] at hr; simp at hr
      obtain ⟨rfl,hrest⟩ : x=i∧rest=List.range' (i+1) (es.size - (i+1)):=by
        have e:es.size - i=(es.size - (i+1))+1:=by lia
        rw[e,List.range'_succ] at hr
        injection hr with h1 h2
        exact ⟨h1,h2⟩
      refine wpAny_bind (wpAny_dictEntries hoa hda ?_)
      have hlt':x<xa.length:=by rw[←hla]; exact hlt
      obtain ⟨⟨k,c,v⟩,hkv⟩ : ∃y,xa[x]?=some y:=⟨xa[x],List.getElem?_eq_getElem hlt'⟩
      have hmem:=List.mem_of_getElem? hkv
      obtain ⟨n,t,hv⟩:=ia _ hmem
      dsimp only at hv
      subst hv
      have hdrop:xa.drop x=(k,c,Value.int n t)::xa.drop (x+1):=by
        rw[List.drop_eq_getElem_cons hlt']
        rw[List.getElem?_eq_getElem hlt'] at hkv
        rw[Option.some.inj hkv]
      rw[hdrop,List.all_cons] at hpre
      rw[entry_at hea x,hkv]
      show wpAny _ _ (holding [Value.ref c,Value.int n t] _ >>= _) _ _ _
      refine wpAny_bind (wpAny_holding (wpAny_bind (wpAny_dictFind_heap hu (hisa _ hmem) hob hdb heb hisb hnb (fun hno=>?_) fun j p hj=>?_)))
      · have hn0:same1 yb (k,c,Value.int n t)=false:=by
          unfold same1
          rw[show atKey yb (k,c,Value.int n t).1=none from atKey_none_of_get hno]
        rw[hn0,Bool.false_and] at hpre
        dsimp only
        refine wpAny_pure ?_
        rw[if_pos (by decide)]
        exact wpAny_pure (wpAny_pure (by rw[hpre]; exact h'))
      · dsimp only
        refine wpAny_bind (wpAny_dictEntries hob hdb ?_)
        obtain ⟨m,u,hm⟩:=ib _ (List.mem_of_getElem? hj)
        obtain ⟨pa,pv⟩:=p
        dsimp only at hm
        subst hm
        rw[entry_at heb j,hj]
        have hs1:same1 yb (k,c,Value.int n t)=(n == m):=by
          unfold same1
          rw[show atKey yb (k,c,Value.int n t).1=some (pa,Value.int m u) from atKey_of_get hnb hj]
        rw[hs1] at hpre
        dsimp only[Option.map_some]
        refine wpAny_holding (wpAny_eqBool_int ?_)
        cases e:(n == m) with
        | false =>
          rw[e,Bool.false_and] at hpre
          rw[if_pos (by decide)]
          exact wpAny_pure (wpAny_pure (by rw[hpre]; exact h'))
        | true =>
          rw[e,Bool.true_and] at hpre
          rw[if_neg (by decide)]
          refine wpAny_bind (wpAny_dictEpoch hoa hda ?_)
          rw[if_neg (by simp)]
          exact wpAny_pure ⟨rfl,rfl,x+1,hrest,hlt,hpre⟩
    · rintro q s' ⟨rfl,rfl,i,hr,hi,hpre⟩
      have hin:i=es.size:=by
        rcases Nat.lt_or_ge i es.size with h | h
        · have e : es.size - i = (es.size - (i + 1)) + 1 := by lia
          rw[e,List.range'_succ] at hr; exact nomatch hr
        · exact Nat.le_antisymm hi h
      refine wpAny_pure ?_
      rw[hin,hla,List.drop_length] at hpre
      rw[←hpre] at h'
      exact h'
theorem ne_heap {a b:Addr} {xa yb:List (K×Addr×Value)} {Q:Value→Shared→Prop} (hr:knd.room A.in1) (hu:A.units<cLine) (ha:(a == sysModules)=false) (hb:(b == sysModules)=false)
    (da:s.heap.DictOfH knd a xa) (db:s.heap.DictOfH knd b yb) (ia:∀x∈xa,∃n t,x.2.2=Value.int n t) (ib:∀x∈yb,∃n t,x.2.2=Value.int n t) (h:Q (.bool (!(xa.length == yb.length && xa.all (same1 yb)))) s) :
    wpAny (model prog w) A (compareOp .NotEq (.ref a) (.ref b)) Q E s:=by
  refine wpAny_richCompare_same_room (op:=.NotEq) da.typeIs db.typeIs PySem.F.slot_dict_ne (wpAny_call_entry PySem.F.slot_dict_ne da.typeIs PySem.F.entry_dict_ne ?_ (PySem.F.args_dict_ne_2 _ _)) hu
  show wpAny _ _ (Builtin.Dict.dictSlotArgs "__ne__" ⟨[.ref a,.ref b],[]⟩ >>= _) _ _ s
  refine wpAny_bind ?_
  unfold Builtin.Dict.dictSlotArgs
  refine wpAny_bind (wpAny_notOrdered_dict da.typeIs ?_)
  show wpAny _ _ (pure (Value.ref a,Value.ref b)) _ _ s
  refine wpAny_pure ?_
  refine wpAny_bind (wpAny_isInstance (T:="dict") db.typeIs PySem.F.sub_dict_dict ?_)
  simp only[Bool.not_true,Bool.false_eq_true,if_false]
  refine wpAny_bind (wpAny_pure (wpAny_bind (wpAny_pure ?_)))
  refine wpAny_bind (samePairs_heap hr ha hb da db ia ib ?_)
  refine wpAny_pure ⟨_,rfl,?_,?_⟩
  · exact fun x=>nomatch x
  · simpa using h
end
end PySem
namespace L2
open PySem PySem.Spec PyProof.Rows
section
variable {X:Cx} {pins:List (Addr×Obj)} {σ:St} {H:Hp} {s:Shared} {a b:Addr}
theorem KT.drop {kvs:List (List Key×V)} {xs:List (List Key×Addr×Value)} (r:KT H kvs xs) (k:List Key) : KT H (dropK kvs k) (withoutH xs k):=by
  unfold dropK withoutH
  induction r with
  | nil=>exact .nil
  | @cons p q ps qs h t ih =>
    obtain ⟨h1,h2⟩:=h
    rw[List.filter_cons,List.filter_cons]
    by_cases e:p.1=k
    · have a : ¬ decide (p.1 ≠ k) = true := by simp [e]
      have b:¬decide (q.1≠k)=true:=by simp[h1.symm.trans e]
      rw[if_neg a,if_neg b]; exact ih
    · have e':¬q.1=k:=fun z=>e (h1.trans z)
      have a:decide (p.1≠k)=true:=by simp[e]
      have b:decide (q.1≠k)=true:=by simp[e']
      rw[if_pos a,if_pos b]; exact .cons ⟨h1,h2⟩ ih
def tGet2T (K:PySem.W.Frag) (td ty tx:TE) : TE:=fun σ H Q=>td σ H fun x H1=>∃a,x=.ref a∧IsD H1 a∧ty σ H1 fun y H2=>tx σ H2 fun z H3=>∃kvs ks b,Rd H3 a (.dT kvs)∧y=.ref b∧SqT K H3 b (ks.map kV)∧Q ((valV kvs ks).getD z) H3
def tPop2T (K:PySem.W.Frag) (td ty tx:TE) : TE:=fun σ H Q=>td σ H fun x H1=>∃a,x=.ref a∧IsD H1 a∧ty σ H1 fun y H2=>tx σ H2 fun z H3=>∃kvs ks b,H3 a=some (.dT kvs)∧y=.ref b∧SqT K H3 b (ks.map kV) ∧
  (∀v,valV kvs ks=some v→Q v (upd H3 a (.dT (dropK kvs ks))))∧(valV kvs ks=none→Q z H3)
variable {o e f:Expr} {apos cpos:Pos} {td ty tx:TE}
theorem pe_get2T (hu:X.A.units+1<cLine) (ho:PE X o td) (he:PE X e ty) (hf:PE X f tx) (m:M2 X o "get" apos e f cpos) : PE X (.Call (.Attribute o "get" apos) [e,f] [] cpos) (tGet2T X.K td ty tx):=by
  intro pins s σ H Q I h
  refine wpAny_Call_method m.base m.few m.line PySem.F.plainAttrs_dict PySem.F.slot_dict_get PySem.F.type_dict_get (thn (ho pins s σ H _ I h) fun u s1 ⟨x,H1,I1,rx,a,ex,d,q1⟩=>?_)
  subst ex
  obtain rfl:u=Value.ref a:=rx
  obtain ⟨t1,t2,_⟩:=isD_at I1 d
  refine ⟨t1,t2,?_⟩
  rw[m.trees]
  refine Calls.callWith_builtin rfl (Calls.evalArgs_plain (Calls.spliced_cons (thn (he pins s1 σ H1 _ I1 q1) fun iv s2 ⟨y,H2,I2,ry,q2⟩ =>
    Calls.spliced_cons (thn (hf pins s2 σ H2 _ I2 q2) fun fv s3 ⟨z,H3,I3,rz,kvs,ks,b,ea,ey,hb,q3⟩=>Calls.spliced_nil ?_))))
  subst ey
  obtain rfl:iv=Value.ref b:=ry
  obtain ⟨zz,hd,xs,rel,dd⟩:=dt_rd I3.hok ea
  refine call_meetsIn PySem.F.slot_dict_get dd.typeIs PySem.F.entry_dict_get (PySem.F.args_dict_get_3 _ _ _) (meetsH_dict_get_default (tupleKind (mixKind X.prog X.w)) a b hd fv) ⟨tupleKind_room_in1 hu,ks,xs,key_sq I3 hb,dd,⟨_,H3,I3.tok _,?_,q3⟩⟩
  exact (rel.val ks).getD rz
theorem pe_pop2T (hu:X.A.units+1<cLine) (ho:PE X o td) (he:PE X e ty) (hf:PE X f tx) (m:M2 X o "pop" apos e f cpos) : PE X (.Call (.Attribute o "pop" apos) [e,f] [] cpos) (tPop2T X.K td ty tx):=by
  intro pins s σ H Q I h
  refine wpAny_Call_method m.base m.few m.line PySem.F.plainAttrs_dict PySem.F.slot_dict_pop PySem.F.type_dict_pop (thn (ho pins s σ H _ I h) fun u s1 ⟨x,H1,I1,rx,a,ex,d,q1⟩=>?_)
  subst ex
  obtain rfl:u=Value.ref a:=rx
  obtain ⟨t1,t2,_⟩:=isD_at I1 d
  refine ⟨t1,t2,?_⟩
  rw[m.trees]
  refine Calls.callWith_builtin rfl (Calls.evalArgs_plain (Calls.spliced_cons (thn (he pins s1 σ H1 _ I1 q1) fun iv s2 ⟨y,H2,I2,ry,q2⟩ =>
    Calls.spliced_cons (thn (hf pins s2 σ H2 _ I2 q2) fun fv s3 ⟨z,H3,I3,rz,kvs,ks,b,ea,ey,hb,q3,q4⟩=>Calls.spliced_nil ?_))))
  subst ey
  obtain rfl:iv=Value.ref b:=ry
  obtain ⟨zz,hd,xs,rel,dd⟩:=dt_of I3.hok ea
  have hz:xs.length≤sizeLine:=by rw[←Paired.length rel]; exact zz
  refine call_meetsIn PySem.F.slot_dict_pop dd.typeIs PySem.F.entry_dict_pop (PySem.F.args_dict_pop_3 _ _ _) (pop_heap (knd:=tupleKind (mixKind X.prog X.w)) (a:=b) hd fv) ⟨tupleKind_room_in1 hu,ks,xs,key_sq I3 hb,dd,hz,fun hno tk=>?_,fun p hp h' tk dd' hs=>?_⟩
  · refine ⟨z,H3,I3.tok tk,rz,q4 ?_⟩
    have:=rel.val ks
    rw[hno] at this
    cases e:valV kvs ks with
    | none=>rfl
    | some v=>rw[e] at this; exact this.elim
  · have hv:=rel.val ks
    rw[hp] at hv
    cases e:valV kvs ks with
    | none=>rw[e] at hv; exact hv.elim
    | some v =>
      rw[e] at hv
      refine ⟨v,_,?_,hv,q3 v e⟩
      obtain ⟨o',es,ep,hq,h2,h3,h4,_,h5⟩:=dd'
      refine d_write I3 (by rw[ea]; exact True.intro) hs ⟨o',hq⟩ ⟨Nat.le_trans (dropK_le kvs ks) zz,hd,_,(rel.drop ks).keeps fun c ys ec=>by rw[upd_ne (ne_of ec ea fun z=>nomatch z)]; exact ec,o',es,ep,hq,h2,h3,h4,h5⟩
def rEqK (K:PySem.W.Frag) : R2:=fun x y H Q=>∃(a b:Addr) (ks ms:List Key),x=V.ref a∧y=V.ref b∧SqT K H a (ks.map kV)∧SqT K H b (ms.map kV)∧Q (.bl (decide (ks=ms))) H
theorem op_eqK (hu:X.A.units<cLine) : OpR X (compareOp .Eq) (rEqK X.K):=by
  intro pins s σ H x y v u Q I rx ry h
  obtain ⟨a,b,ks,ms,rfl,rfl,ha,hb,q⟩:=h
  cases rx
  cases ry
  have hx:IsTupleKey (mixKind X.prog X.w) s.heap ks a:=key_sq I ha
  have hy:IsTupleKey (mixKind X.prog X.w) s.heap ms b:=key_sq I hb
  exact wpAny_richCompare_same_room (op:=.Eq) hx.typeIs hy.typeIs PySem.F.slot_tuple_eq
      (wpAny_call_entry PySem.F.slot_tuple_eq hx.typeIs PySem.F.entry_tuple_eq (tuple_eq_tree hx hy ⟨_,rfl,(fun e=>nomatch e),⟨.bl _,H,I,rfl,q⟩⟩) (PySem.F.args_tuple_eq_2 _ _)) hu
end
end L2
namespace DL
open PySem L2
def sameD (ka kb:KVs) : Bool:=ka.length == kb.length && ka.all fun p=>valD kb p.1 == some p.2
def dropD (kvs:KVs) (k:Int×Int) : KVs:=kvs.filter fun p=>decide (p.1≠k)
theorem dropK_enc (kvs:KVs) (k:Int×Int) : dropK (encD kvs) (k2 k)=encD (dropD kvs k):=by
  unfold dropK dropD encD
  rw[List.filter_map]
  congr 1
  refine List.filter_congr fun p _=>?_
  show decide (k2 p.1≠k2 k)=decide (p.1≠k)
  rw[decide_eq_decide]
  exact not_congr k2_inj
theorem same1_enc {H:Hp} {ka kb:KVs} {xa yb:List (List Key×Addr×Value)} (ra:KT H (encD ka) xa) (rb:KT H (encD kb) yb) : xa.all (same1 yb)=ka.all fun p=>valD kb p.1 == some p.2:=by
  induction ka generalizing xa with
  | nil =>
    have:KT H [] xa:=ra
    cases this
    rfl
  | cons p ps ih =>
    have:KT H ((k2 p.1,V.int p.2)::encD ps) xa:=ra
    cases this with
    | @cons _ q _ qs h t =>
      rw[List.all_cons,List.all_cons,ih t]
      congr 1
      obtain ⟨h1,_,h3⟩:=h
      obtain ⟨tk,h3⟩:=h3
      have hv:=rb.val q.1
      rw[←h1,valV_enc] at hv
      unfold same1
      rw[h3,←h1]
      cases e:atKey yb (k2 p.1) with
      | none =>
        rw[e] at hv
        cases e2:valD kb p.1 with
        | none=>simp
        | some w=>rw[e2] at hv; exact hv.elim
      | some r =>
        rw[e] at hv
        cases e2:valD kb p.1 with
        | none=>rw[e2] at hv; exact hv.elim
        | some w =>
          rw[e2] at hv
          obtain ⟨t2,h4⟩:=(show ∃t,r.2=Value.int w t from hv)
          obtain ⟨r1,r2⟩:=r
          dsimp only at h4
          subst h4
          show (p.2 == w)=(some w == some p.2)
          rw[Bool.eq_iff_iff,beq_iff_eq,beq_iff_eq]
          exact ⟨fun z=>by rw[z],fun z=>(Option.some.inj z).symm⟩
theorem ints_enc {H:Hp} : ∀{ka:KVs} {xa:List (List Key×Addr×Value)},KT H (encD ka) xa→∀x∈xa,∃n t,x.2.2=Value.int n t
  | [],_,r=>by
    have r':KT H [] _:=r
    cases r'
    intro x hx
    cases hx
  | p::ps,_,r=>by
    have r':KT H ((k2 p.1,V.int p.2)::encD ps) _:=r
    cases r' with
    | cons h t =>
      intro x hx
      rcases List.mem_cons.mp hx with rfl | hx
      · obtain ⟨tk,e⟩:=h.2.2
        exact ⟨_,tk,e⟩
      · exact ints_enc t x hx
section
variable {X:Cx} {e f o k:Expr} {te tf td tk:DT} {i j:Nat} {x y:Str} {pos px py apos cpos lp tpos sp:Pos}
theorem op_neT (hu:X.A.units+1<cLine) : OpR X (compareOp .NotEq) (fun x y H Q=>∃a b ka kb,x=V.ref a∧y=V.ref b∧Rd H a (.dT (encD ka))∧Rd H b (.dT (encD kb))∧Q (.bl (!sameD ka kb)) H):=by
  intro pins s σ H x y v u Q I rx ry h
  obtain ⟨a,b,ka,kb,rfl,rfl,ea,eb,q⟩:=h
  cases rx
  cases ry
  obtain ⟨za,hda,xa,ra,da⟩:=dt_rd I.hok ea
  obtain ⟨zb,hdb,yb,rb,db⟩:=dt_rd I.hok eb
  refine ne_heap (knd:=tupleKind (mixKind X.prog X.w)) (tupleKind_room_in1 hu) (Nat.lt_of_succ_lt hu) hda hdb da db (ints_enc ra) (ints_enc rb) ⟨.bl _,H,I,?_,q⟩
  have l1:=Paired.length ra
  have l2:=Paired.length rb
  rw[encD_len] at l1 l2
  rw[same1_enc ra rb,←l1,←l2]
  rfl
def dNeDict:D2:=fun x y Q=>match x,y with
  | .dct ka,.dct kb=>Q (.p (.bl (!sameD ka kb)))
  | _,_=>False
theorem od_neDict {n:Nat} (hr:Room n X.A) : OpD X (compareOp .NotEq) dNeDict:=by
  refine ⟨_,op_neT (hu_of hr),fun H G x y dx dy P Q s rx ry h kk=>?_⟩
  unfold dNeDict at h
  split at h
  · cases rx with
    | dct e =>
      cases ry with
      | dct e'=>exact ⟨_,_,_,_,rfl,rfl,rd_same s e,rd_same s e',kk _ _ H G h (Wd.refl s) (.bl _)⟩
  · exact h.elim
def dGet2 (td tk tf:DT) : DT:=fun ρ Q=>td ρ fun b=>match b.val with
  | .dct kvs=>tk ρ fun b1=>match b1.val with
    | .tup [.int z,.int y]=>tf ρ fun b2=>match b2.val with
      | .int d=>Q (.p (.int ((valD kvs (z,y)).getD d)))
      | _=>False
    | _=>False
  | _=>False
theorem de_get2 {n:Nat} (hr:Room n X.A) (ho:DE X o td) (hk:DE X k tk) (hf:DE X f tf) (m:M2 X o "get" apos k f cpos) : DE X (.Call (.Attribute o "get" apos) [k,f] [] cpos) (dGet2 td tk tf):=
  DE.of (pe_get2T (hu_of hr) ho.pe hk.pe hf.pe m) fun σ H Q ⟨G,ρ,P,s,re,h,kk⟩=>by
    refine ⟨G,ρ,_,s,re,h,fun b v H1 G1 p1 w1 r1=>?_⟩
    obtain ⟨G1,w1,r1⟩:=r1.give w1
    split at p1
    · rename_i kvs ev
      rw[ev] at r1
      cases r1 with
      | dct ea =>
        refine ⟨_,rfl,.inr ⟨_,rd_same w1.gh ea⟩,G1,ρ,_,w1.gh,RepE.mono w1.gg re,p1,fun b2 v2 H2 G2 p2 w2 r2=>?_⟩
        obtain ⟨G2,w2,r2⟩:=r2.give w2
        split at p2
        · rename_i z y ez
          rw[ez] at r2
          obtain ⟨c,rfl,hc⟩:=pair_sq r2
          refine ⟨G2,ρ,_,w2.gh,RepE.mono (w1.trans w2).gg re,p2,fun b3 v3 H3 G3 p3 w3 r3=>?_⟩
          split at p3
          · rename_i d ed
            have hd:=bres_int w3 r3 ed
            subst hd
            refine ⟨encD kvs,k2 (z,y),c,rd_same (w2.hh.trans w3.hh) (rd_same w1.gh ea),rfl,same_seqT (w2.gh.trans w3.hh) hc,?_⟩
            rw[valV_enc]
            have:((valD kvs (z,y)).map V.int).getD (.int d)=.int ((valD kvs (z,y)).getD d):=by cases valD kvs (z,y)<;>rfl
            rw[this]
            exact kk _ _ H3 G3 p3 ((w1.trans w2).trans w3) (.int _)
          · exact p3.elim
        · exact p2.elim
    · exact p1.elim
def dDPutV (i:Nat) (tk te:DT) : DTS:=fun E ρ=>match dget ρ i with
  | some (.o (.dct kvs))=>te (frz ρ) fun b=>match b.val with
    | .int v=>tk (frz ρ) fun b1=>match b1.val with
      | .tup [.int z,.int y]=>kvs.length<sizeLine∧E.nx (dput ρ i (.o (.dct (putD kvs (z,y) v))))
      | _=>False
    | _=>False
  | _=>False
theorem ds_dputV {n:Nat} (hr:Room n X.A) (hN:X.N[i]?=some x) (hv:Vis X.env.scope x) (hk:DE X k tk) (he:DE X e te) (hd:(x == ("__debug__" : Str))=false:=by decide) (hcd:(x == ("__classdict__" : Str))=false:=by decide)
    (ha:∀v,assign (.Subscript (.Name x px) k tpos) X.env v=(do
      let ov ←holding [v] (eval (.Name x px) X.env)
      let iv ←holding [v,ov] (eval k X.env)
      standAt tpos
      holding [v,ov,iv] (setItem ov iv v)
      release [v,ov,iv] []):=by intro _; rfl)
    (hs:swapsWithSole [.Subscript (.Name x px) k tpos] e pos.line X.env=pure false:=by rfl) (hw:swappedStores [.Subscript (.Name x px) k tpos] e X.env=pure none:=by rfl)
    (h0:(assignEach [.Subscript (.Name x px) k tpos] X.env).map (·.2) = [assign (.Subscript (.Name x px) k tpos) X.env]:=by rfl) :
    DS X (.Assign [.Subscript (.Name x px) k tpos] e pos) (dDPutV i tk te):=DS.mk fun H0 G0 =>
  PS.imp (ps_asg he.pe (pg_sub (pe_var hN hv hd hcd) hk.pe (set_dict (hu_of hr)) ha) hs hw h0) fun Dn σ H ⟨E,G,ρ,eo,w,en,h⟩=>by
    unfold dDPutV at h
    split at h
    · rename_i kvs q
      obtain ⟨a,ha1,ha2,ha3,ha4⟩:=en.o i _ q
      have ha4:H a=some (.dT (encD kvs)):=ha4
      obtain ⟨G1,w1,sg,en1⟩:=en.freeze w
      refine ⟨G1,frz ρ,_,w1.gh,en1.p,h,fun b v H' G' p' w' r'=>?_⟩
      split at p'
      · rename_i vv ev
        have hvv:=bres_int w' r' ev
        subst hvv
        refine ⟨.ref a,ha1,G',frz ρ,_,w'.gh,RepE.mono w'.gg en1.p,p',fun b1 v1 H1 G1' p1 w1' r1=>?_⟩
        obtain ⟨G2,w2,r2⟩:=r1.give w1'
        split at p1
        · rename_i z y ez
          rw[ez] at r2
          obtain ⟨hl,p1⟩:=p1
          obtain ⟨c,rfl,hc⟩:=pair_st r2
          have s2:Same H H1:=w'.hh.trans w2.hh
          have e2:H1 a=some (.dT (encD kvs)):=s2 _ _ ha4
          refine ⟨a,c,encD kvs,k2 (z,y),rfl,rfl,e2,.inl (.inl (w2.gh _ _ hc)),.inr (w2.gh _ _ hc),by rw[encD_len]; exact hl,?_⟩
          rw[putK_enc]
          have wb:Wd H0 G0 H1 G:=⟨w.hh.trans s2,w.gg,w.gh.trans s2,w.old⟩
          exact eo.nx σ _ G _ (wb.own ha2 ha3) ((en.back s2).setX q ha1 ⟨ha3,upd_same⟩) p1
        · exact p1.elim
      · exact p'.elim
    · exact h.elim
def CT (K:PySem.W.Frag) (mg:Str→Option Value) (x:Str) (i j:Int) : Prop:=∃a,mg x=some (.ref a)∧∀H,SqT K H a [.int i,.int j]
def dEqC (z y:Int) (te:DT) : DT:=fun ρ Q=>te ρ fun b=>match b.val with
  | .tup [.int z',.int y']=>Q (.p (.bl (decide (z'=z∧y'=y))))
  | _=>False
theorem eqC_imp {K:PySem.W.Frag} {c:Addr} {z y:Int} (hc:∀H,SqT K H c [.int z,.int y]) (σ:St) (H:Hp) (Q:VK) : cE K (dEqC z y te) σ H Q→tOp (rEqK K) (cE K te) (tC (.ref c)) σ H Q:=by
  rintro ⟨G,ρ,P,s,re,h,kk⟩
  refine ⟨G,ρ,_,s,re,h,fun b v H1 G1 p1 w1 r1=>?_⟩
  obtain ⟨G2,w2,r2⟩:=r1.give w1
  split at p1
  · rename_i z' y' ez
    rw[ez] at r2
    obtain ⟨d,rfl,hd⟩:=pair_sq r2
    refine ⟨d,c,k2 (z',y'),k2 (z,y),rfl,rfl,same_seqT w2.gh hd,hc H1,?_⟩
    have e:decide (k2 (z',y')=k2 (z,y))=decide (z'=z∧y'=y):=by
      rw[decide_eq_decide,k2_inj,Prod.mk.injEq]
    rw[e]
    exact kk _ _ H1 G2 p1 w2 (.bl _)
  · exact p1.elim
theorem dt_eqC {n:Nat} {z y:Int} (hr:Room n X.A) (he:DE X e te) (hB:CT X.K X.mg x z y) (hg:Gl X x) (hdb:(x == ("__debug__" : Str))=false:=by decide) : DTe X (.Compare e [.Eq] [.Name x px] pos) (dTst (dEqC z y te)):=by
  obtain ⟨c,hm,hc⟩:=hB
  refine DTe.of (pt_cmpR (op_eqK (Nat.lt_of_succ_lt (hu_of hr))) he.pe (pe_glob (v:=.ref c) hg hm rfl hdb) (nomark _)) fun σ H Q ⟨G,ρ,P,s,re,h,k⟩=>?_
  refine eqC_imp hc σ H _ ⟨G,ρ,_,s,re,h,fun b v H1 G1 p1 w1 r1=>?_⟩
  split at p1
  · rename_i c e
    exact ⟨c,bres_bl w1 r1 e,k _ H1 G1 p1 w1⟩
  · exact p1.elim
def dPopC (i j:Nat) (z y d:Int) : DTS:=fun E ρ=>match dget ρ i with
  | some (.o (.dct kvs))=>i≠j∧E.nx (dput (dput ρ i (.o (.dct (dropD kvs (z,y))))) j (.p (.int ((valD kvs (z,y)).getD d))))
  | _=>False
theorem dropD_none {kvs:KVs} {k:Int×Int} (h:valD kvs k=none) : dropD kvs k=kvs:=by
  unfold dropD
  rw[List.filter_eq_self]
  intro p hp
  rw[decide_eq_true_eq]
  intro e
  unfold valD at h
  rw[Option.map_eq_none_iff,List.find?_eq_none] at h
  exact h p hp (by rw[decide_eq_true_eq]; exact e)
theorem ds_popC {n:Nat} {z y' d:Int} {jj:Nat} {b:Str} {pb pc:Pos} (hr:Room n X.A) (hN:X.N.Nodup) (hj:X.N[j]?=some y) (hy:Loc X.env.scope y) (hi:X.N[i]?=some x) (hv:Vis X.env.scope x) (hB:CT X.K X.mg b z y') (hg:Gl X b)
    (m:M2 X (.Name x px) "pop" apos (.Name b pb) (.Constant (.int d) jj pc) cpos) (hdb:(b == ("__debug__" : Str))=false:=by decide) (hd:(x == ("__debug__" : Str))=false:=by decide) (hcd:(x == ("__classdict__" : Str))=false:=by decide)
    (hs:swapsWith (.Call (.Attribute (.Name x px) "pop" apos) [.Name b pb,.Constant (.int d) jj pc] [] cpos) (some (.Name y py)) pos.line X.env=pure false:=by rfl) (hf:X.fn y=true∨X.env.scope.names.lookup y=some .local:=by first | exact .inl rfl | exact .inr rfl | assumption) :
    DS X (.Assign [.Name y py] (.Call (.Attribute (.Name x px) "pop" apos) [.Name b pb,.Constant (.int d) jj pc] [] cpos) pos) (dPopC i j z y' d):=by
  obtain ⟨c,hm,hc⟩:=hB
  refine DS.mk fun H0 G0=>PS.imp (ps_set hN hj hy (pe_pop2T (hu_of hr) (pe_var hi hv hd hcd) (pe_glob (v:=.ref c) hg hm rfl hdb) pe_int m) hs hf) fun Dn σ H ⟨E,G,ρ,eo,w,en,h⟩=>?_
  unfold dPopC at h
  split at h
  · rename_i kvs q
    obtain ⟨hij,h⟩:=h
    obtain ⟨a,ha1,ha2,ha3,ha4⟩:=en.o i _ q
    have ha4:H a=some (.dT (encD kvs)):=ha4
    refine ⟨.ref a,ha1,a,rfl,.inr ⟨_,.inl ha4⟩,encD kvs,k2 (z,y'),c,ha4,rfl,hc H,fun v hv=>?_,fun hv=>?_⟩
    · rw[valV_enc] at hv
      cases ev:valD kvs (z,y') with
      | none=>rw[ev] at hv; cases hv
      | some v' =>
        rw[ev] at hv h
        cases hv
        rw[dropK_enc]
        exact eo.nx _ _ G _ (w.own ha2 ha3) ((en.setX q ha1 ⟨ha3,upd_same⟩).putP j (.int v')) h
    · rw[valV_enc] at hv
      cases ev:valD kvs (z,y') with
      | some v'=>rw[ev] at hv; cases hv
      | none =>
        rw[ev] at h
        rw[dropD_none ev] at h
        have e2:=en.setX (ob:=.dT (encD kvs)) (d':=.dct kvs) q ha1 ⟨ha3,upd_same⟩
        have eu:upd H a (.dT (encD kvs))=H:=by
          funext c'
          unfold upd
          split
          · rename_i ec; rw[ec,ha4]
          · rfl
        rw[eu] at e2
        exact eo.nx _ _ G _ w (e2.putP j (.int d)) h
  · exact h.elim
end
end DL
namespace L2
open PySem PySem.Spec PyProof.Rows
section
variable {prog:Program} {w:World} {A:Around} {E:Value→Shared→Prop} {s:Shared}
variable {h₀:Heap} {L:Addr} {m:Str→Option Value} {news:List (Addr×Obj)} {b:Bool}
end
end L2
namespace L2
open PySem PySem.Spec PyProof.Rows PySem.W
def TabAt (H:Hp) (P:Addr) (q:Str) : Prop:=∃qs t,H P=some (.tbl qs)∧qs[0]?=some (.str q t)
theorem TabAt.un {fs ex:List Addr} {H H':Hp} {h h':Heap} {P:Addr} {q:Str} (u:Un fs ex H H' h h') (x:TabAt H P q) : TabAt H' P q:=by
  obtain ⟨qs,t,e,e2⟩:=x
  obtain ⟨more,e3⟩:=u.tbls P qs e
  refine ⟨_,t,e3,?_⟩
  have hl:0<qs.size:=by
    rcases Nat.eq_zero_or_pos qs.size with z | z
    · rw[Array.getElem?_eq_none (by lia)] at e2; cases e2
    · exact z
  rw[Array.getElem?_append_left hl]
  exact e2
theorem triples_app:∀{l:List Value} {a b:Int} {t u:Tok} {c:Value},TriplesOk l→TriplesOk (l++[.int a t,.int b u,c])
  | [],_,_,_,_,_,_=>trivial
  | .int _ _::.int _ _::_::rest,_,_,_,_,_,h=>triples_app (l:=rest) h
theorem among_app {p:Pos} {a b:Int} {t u:Tok} {c cv:Value} : ∀{l:List Value},TriplesOk l→codeAmong p (l++[.int a t,.int b u,c])=some cv→codeAmong p l=some cv∨cv=c
  | [],_,h=>by
    simp only[List.nil_append,codeAmong] at h
    split at h
    · exact .inr (Option.some.inj h).symm
    · cases h
  | .int x _::.int y _::d::rest,ht,h=>by
    simp only[List.cons_append,codeAmong] at h ⊢
    split at h
    · rename_i hc; rw[if_pos hc]; exact .inl h
    · rename_i hc; rw[if_neg hc]; exact among_app (l:=rest) ht h
def BltAt (mg:Str→Option Value) (h:Heap) : Prop:=∃bm ob,mg "__builtins__" = some (.ref bm)∧bm≠builtinsNs∧h.get? bm=some ob∧ob.cls=.type "module"∧ob.dict=some builtinsNs∧ob.data=.plain
section
variable {X:Cx} {pins:List (Addr×Obj)} {σ:St} {H:Hp} {s:Shared} {P c:Addr} {E:Value→Shared→Prop} {Q:Value→Shared→Prop}
theorem lam_eval {params:Arguments} {body:Expr} {scope:Scope} {pos:Pos} {clos:List (Str×Addr)} (I:Inv X pins σ H s) (hcode:X.env.code=.ref c) (C:CodeHd X.base c P) (B:BltAt X.mg X.base)
    (hT:TabAt X.H₀ P (X.env.qual++"<lambda>")) (hcl:closureFor scope X.env=pure clos) (hdef:defaultsOf params X.env=([],[]))
    (h:∀f c' ctv pm h' tk H',Inv X pins σ H' { s with heap:=h',toks:=tk }→(H'=H∨(H c'=none∧H'=upd H c' (.own P)))→h'.get? f=some (kla_obj "<lambda>" (X.env.qual++"<lambda>") params body scope clos pm c' ctv)→H' f=none→s.heap.objs.size≤f →
      h'.CodeRec (.ref c') (X.env.qual++"<lambda>")→Q (.ref f) { s with heap:=h',toks:=tk }) :
    wpAny (model X.prog X.w) X.A (eval (.Lambda params body scope pos) X.env) Q E s:=by
  obtain ⟨qs,t,hP,hq0⟩:=hT.un I.base
  obtain ⟨tb,htb,htr,hcs⟩:=I.hok P _ hP
  have hg:=I.mod.glob.keeps I.bk
  have hgP:mainGlobals≠P:=fun z=>by
    obtain ⟨o,es,ep,e,hd,_⟩:=hg
    rw[z,htb] at e; cases e; cases hd
  obtain ⟨bm,ob,b1,b2,b3,b4,b5,b6⟩:=B
  have b3':=I.bk _ _ b3
  have hbP:bm≠P:=fun z=>by rw[z,htb] at b3'; cases b3'; cases b4
  have hbG:bm≠mainGlobals:=fun z=>by
    obtain ⟨o,es,ep,e,hd,_⟩:=hg
    rw[z,e] at b3'; cases b3'; rw[hd] at b6; cases b6
  have hB:s.heap.BuiltinsAt X.mg P:=⟨bm,ob,b1,b2,hbG,hbP,b3',b4,b5,b6⟩
  refine kla_eval hdef ?_
  cases hf:codeAmong pos tb.toList with
  | none =>
    refine kla_makeFunction hcl I.ok.glob hg hcode (C.keeps I.bk) htb htr hf hgP hB fun c' ctv h' tk hx hge hlt hrec htb'=>?_
    have hn:H c'=none:=I.hok.fresh hge
    have hPc:P≠c':=ne_of_none hP hn
    have keep:∀b o,b≠P→s.heap.get? b=some o→(h'.push (kla_obj "<lambda>" (X.env.qual++"<lambda>") params body scope clos ((X.mg "__name__").getD .none) c' ctv)).get? b=some o:=fun b o hb e=>Heap.get?_push_of_some _ (hx b o hb e)
    have neP:∀b,H b=none→b≠P:=fun b e z=>by rw[z,hP] at e; cases e
    have hrec':=hrec.push (kla_obj "<lambda>" (X.env.qual++"<lambda>") params body scope clos ((X.mg "__name__").getD .none) c' ctv)
    have htb2:=Heap.get?_push_of_some (kla_obj "<lambda>" (X.env.qual++"<lambda>") params body scope clos ((X.mg "__name__").getD .none) c' ctv) htb'
    have hown:upd H c' (.own P) P=some (.tbl qs):=by rw[upd_ne hPc]; exact hP
    have nc:∀b u,H b=some u→upd H c' (.own P) b=some u:=fun b u e=>by rw[upd_ne (ne_of_none e hn)]; exact e
    have hok:HOk X.prog X.w (upd H c' (.own P)) (h'.push (kla_obj "<lambda>" (X.env.qual++"<lambda>") params body scope clos ((X.mg "__name__").getD .none) c' ctv)):=fun b u e=>by
      by_cases hb:b=c'
      · subst hb
        rw[upd_same] at e; cases e
        obtain ⟨c2,o2,vs2,t2,e2,g2,_⟩:=hrec'
        cases e2
        exact ⟨_,g2⟩
      · rw[upd_ne hb] at e
        by_cases hbP':b=P
        · subst hbP'
          rw[hP] at e; cases e
          have el:(tb++#[rawInt pos.line,rawInt pos.col,Value.ref c']).toList=tb.toList++[rawInt pos.line,rawInt pos.col,Value.ref c']:=by simp
          refine ⟨_,htb2,by rw[el]; exact triples_app htr,fun p cv z=>?_⟩
          rw[el] at z
          rcases among_app htr z with z | z
          · obtain ⟨d,q,u,r1,r2,r3,r4⟩:=hcs p cv z
            refine ⟨d,q,u,r1,r2,nc _ _ r3,?_⟩
            obtain ⟨d2,o2,vs2,t2,e2,g2,r5⟩:=r4
            cases e2
            exact ⟨d,o2,vs2,t2,rfl,keep _ _ (ne_of r3 hP (by intro z; cases z)) g2,r5⟩
          · exact ⟨c',_,t,z,hq0,upd_same,hrec'⟩
        · refine (I.hok b u e).stay (fun d v hd g=>keep d v ?_ g) (fun d q=>nc _ _ q) fun d xs q=>nc _ _ q
          rcases hd with rfl | hd
          · exact hbP'
          · exact ne_of hd hP (by intro z; cases z)
    have hfn:H h'.objs.size=none:=I.hok.fresh (Nat.le_trans hge (Nat.le_of_lt hlt))
    refine h h'.objs.size c' ctv _ _ tk (upd H c' (.own P)) (I.un (t':=tk) ⟨fun b o e n _ _=>keep b o (neP b n) e,fun b o e n _ _=>⟨o.slots,keep b o (neP b n) e⟩,fun b o e n _=>?_,fun b o e _=>?_,fun b xs e=>nc _ _ e,fun b o u e=>nc _ _ e,fun b ps e=>⟨#[],by rw[nc _ _ e]; simp⟩⟩ hok) (.inr ⟨hn,rfl⟩)
      (Heap.get?_push_size _ rfl) ?_ (Nat.le_trans hge (Nat.le_of_lt hlt)) hrec'
    · rw[upd_ne (Nat.ne_of_lt (Nat.lt_of_lt_of_le (Heap.lt_size e) hge))]; exact n
    · by_cases hb:b=P
      · subst hb; exact ⟨_,htb2⟩
      · exact ⟨_,keep b o hb e⟩
    · rw[upd_ne (Nat.ne_of_gt hlt)]; exact hfn
  | some cv =>
    obtain ⟨c',q,u,rfl,r2,r3,r4⟩:=hcs pos cv hf
    rw[hq0] at r2
    cases r2
    refine kla_makeFunctionHit hcl I.ok.glob hg hcode (C.keeps I.bk) htb htr hf hB fun ctv h' tk hk hsz=>?_
    have keep:∀b o,s.heap.get? b=some o→(h'.push (kla_obj "<lambda>" (X.env.qual++"<lambda>") params body scope clos ((X.mg "__name__").getD .none) c' ctv)).get? b=some o:=fun b o e=>Heap.get?_push_of_some _ (hk b o e)
    exact h h'.objs.size c' ctv _ _ tk H (I.kept keep) (.inl rfl) (Heap.get?_push_size _ rfl) (I.hok.fresh hsz) hsz (r4.keeps keep)
end
end L2
namespace L2
open PySem PySem.Spec PyProof.Rows PySem.W
section
variable {X:Cx} {pins:List (Addr×Obj)} {σ:St} {H:Hp} {s:Shared} {A:Around} {E:Value→Shared→Prop} {Q:Value→Shared→Prop}
end
end L2
namespace L2
open PySem PySem.Spec PyProof.Rows PySem.W
def KeyOrd (ks:List Int) (ms:List Int) : Prop:=ms.Pairwise fun a b=>ks.getD a.toNat 0≤ks.getD b.toNat 0
end L2
namespace L2
open PySem PySem.Spec PyProof.Rows PySem.W
section
variable {X:Cx} {pins:List (Addr×Obj)} {σ:St} {H:Hp} {s:Shared}
end
section
variable {X:Cx}
end
end L2
namespace L2
open PySem PySem.Spec PyProof.Rows PySem.W
theorem TabAt.same {H H':Hp} {P:Addr} {q:Str} (s:Same H H') (x:TabAt H P q) : TabAt H' P q:=by
  obtain ⟨qs,t,e,e2⟩:=x
  exact ⟨qs,t,s _ _ e,e2⟩
theorem PE.tab {X:Cx} {e:Expr} {t:TE} {P:Addr} {q:Str} (h:PE X e t) (hT:TabAt X.H₀ P q) : PE X e (fun σ H Q=>TabAt H P q→t σ H Q):=
  fun pins s σ H Q I hw=>h pins s σ H Q I (hw (hT.un I.base))
structure FunC (K:PySem.W.Frag) (x qual:Str) (st:Stmt) (f:Addr) (fd:FuncData) (P:Addr) : Prop where
  ex:∃(oc:Value) (od:Option Addr) (kV doc pm:Value) (an:Option Addr) (c:Addr) (ct:Value) (osl:Array (Option Value)),
    fd=PySem.W.fnOf x qual (defArgs st) (defBody st) (defScope st) .none kV doc pm an (.ref c) ct∧K.lookup f=some ⟨oc,od,.func fd,osl⟩∧PySem.W.codeIn K (.ref c) qual=true∧codeHdIn K c P=true
theorem func_mk {K:PySem.W.Frag} {x qual:Str} {st:Stmt} {f c P:Addr} {oc:Value} {od an:Option Addr} {osl:Array (Option Value)} {kV doc pm ct:Value} (l:K.lookup f=some ⟨oc,od,.func (PySem.W.fnOf x qual (defArgs st) (defBody st) (defScope st) .none kV doc pm an (.ref c) ct),osl⟩)
    (h:PySem.W.codeIn K (.ref c) qual=true) (h2:codeHdIn K c P=true) : FunC K x qual st f (PySem.W.fnOf x qual (defArgs st) (defBody st) (defScope st) .none kV doc pm an (.ref c) ct) P:=⟨oc,od,kV,doc,pm,an,c,ct,osl,rfl,l,h,h2⟩
end L2
namespace DL
open PySem L2 PyProof.Rows PySem.W
def spDT (K:PySem.W.Frag) (P:Addr) (q:Str) (R:DR) : Sp:=fun vs H Q E=>TabAt H P q∧spD K R vs H Q E
section
variable {X:Cx} {e:Expr} {es:List Expr} {pos:Pos}
theorem de_fnT {x:Str} {k:Nat} {ps:List Str} {R:DR} {p:Pos} {t:DTA} {P:Addr} {q:Str} (hT:TabAt X.H₀ P q) (F:Fn X.prog X.w X.K X.mg X.base x k ps (spDT X.K P q R)) (hr:Room k X.A) (hg:Gl X x) (ha:DA X (e::es) t)
    (hdb:(x == ("__debug__" : Str))=false:=by decide) (he:starEach (e::es) X.env=(false,eval e X.env)::starEach es X.env:=by rfl) (hpl:(backTo pos (starEach es X.env)).any (·.1)=false:=by rfl) :
    DE X (.Call (.Name x p) (e::es) [] pos) (dCall R t):=
  DE.of ((pe_fn F hr hg ha.pa hdb he hpl).tab hT) fun σ H Q ⟨G,ρ,PP,s,re,h,k⟩ tb=>by
    refine ⟨G,ρ,_,s,re,h,fun ds vs H1 G1 p1 l1 w1 r1=>?_⟩
    show spDT X.K P q R (vs++[]) H1 Q E0
    rw[List.append_nil]
    exact ⟨tb.same w1.hh,ds,G1,PP,w1.gh,r1,p1,go_on k w1⟩
def dSortK (i:Nat) (j:Int) (t:DTA) : DT:=fun ρ Q=>t ρ fun ds=>match ds with
  | [.int n]=>∃(xs:List D) (ks:List Int),dget ρ i=some (.p (.lst xs))∧(ks.length:Int)=n∧ks.length<64 ∧
    (∀(m:Nat) (k:Int),ks[m]?=some k→∃ys,xs[m]?=some (.tup ys)∧atI ys j=some (.int k)) ∧
    ∀ms:List Int,ms.Perm ((List.range ks.length).map Int.ofNat)→KeyOrd ks ms→Q (.o (.lst (ms.map D.int)))
  | _=>False
end
section
variable {P:Program} {w:World} {K:PySem.W.Frag} {mg:Str→Option Value} {base:Heap}
theorem okDT {x qual:Str} {st:Stmt} {f Pt:Addr} {q:Str} {fd:FuncData} {N ps:List Str} {k:Nat} {R:DR} (F:Fun K x qual st f fd) (S:FnScope N ps (defScope st)) (len:∀ds Q,R ds Q→ds.length=ps.length)
    (hbody:∀(cdv:Value) (A:Around) (outer:List Env) (s:Shared) (H:Hp) (E:XK),Room k (A.deeper (envOfC qual (defScope st) s.heap.objs.size f cdv))→TabAt H Pt q →
      ∃t,DSs (cxOf CX0 P w K mg base N qual (defScope st) f cdv A outer s H E).nox (defBody st) t∧∀ds Q,R ds Q→t { nx:=fun _=>Q (.p .non),rt:=Q } (startD N.length ds)) : FnOk P w K mg base CX0 (k+1) f fd ps (spDT K Pt q R):=by
  refine F.ok S (fun vs H Q E ⟨_,ds,G,P,s,r,h,_⟩=>by rw[Paired.length r]; exact len ds P h) fun cdv A outer s H vs Q E hr ⟨tb,ds,G,P,sg,r,h,k⟩=>?_
  obtain ⟨t,h1,h2⟩:=hbody cdv A outer s H E hr tb
  obtain ⟨e1,e2,e3⟩:=startD_ok (K:=K) N.length r
  refine ⟨_,h1.pss H G,_,G,_,?_,Wd.refl sg,EnvO.only e2 e1 (startD_p _ _),h2 ds P h⟩
  exact ⟨fun σ H' G' ρ w' _ p=>k _ _ H' G' p w' (show Rep K G' V.non D.non from .non),fun σ H' G' ρ w' _ p=>p.elim,fun σ H' G' ρ w' _ p=>p.elim,fun b v H' G' w' r' p=>k b v H' G' p w' r'⟩
theorem okDC {x qual:Str} {st:Stmt} {f Pt:Addr} {q:Str} {fd:FuncData} {N ps:List Str} {k:Nat} {R:DR} (F:FunC K x qual st f fd Pt) (S:FnScope N ps (defScope st)) (len:∀ds Q,R ds Q→ds.length=ps.length)
    (hbody:∀(c:Addr) (A:Around) (outer:List Env) (s:Shared) (H:Hp) (E:XK),Room k (A.deeper (envOfC qual (defScope st) s.heap.objs.size f (.ref c)))→TabAt H Pt q→codeHdIn K c Pt=true →
      ∃t,DSs (cxOf CX0 P w K mg base N qual (defScope st) f (.ref c) A outer s H E).nox (defBody st) t∧∀ds Q,R ds Q→t { nx:=fun _=>Q (.p .non),rt:=Q } (startD N.length ds)) : FnOk P w K mg base CX0 (k+1) f fd ps (spDT K Pt q R):=by
  obtain ⟨oc,od,kV,doc,pm,an,c,ct,osl,rfl,lk,hcd,hC⟩:=F.ex
  refine fn_of lk hcd S (fun vs H Q E ⟨_,ds,G,P,s,r,h,_⟩=>by rw[Paired.length r]; exact len ds P h) fun A outer s H vs Q E hr ⟨tb,ds,G,P,sg,r,h,k⟩=>?_
  obtain ⟨t,h1,h2⟩:=hbody c A outer s H E hr tb hC
  obtain ⟨e1,e2,e3⟩:=startD_ok (K:=K) N.length r
  refine ⟨_,(h1.pss H G).nox,_,G,_,?_,Wd.refl sg,EnvO.only e2 e1 (startD_p _ _),h2 ds P h⟩
  exact ⟨fun σ H' G' ρ w' _ p=>k _ _ H' G' p w' (show Rep K G' V.non D.non from .non),fun σ H' G' ρ w' _ p=>p.elim,fun σ H' G' ρ w' _ p=>p.elim,fun b v H' G' w' r' p=>k b v H' G' p w' r'⟩
end
def spLawT (K:PySem.W.Frag) (P:Addr) (q:Str) : Sp:=fun vs H Q E=>TabAt H P q∧spLaw K vs H Q E
theorem law_ofT {P:Program} {w:World} {K:PySem.W.Frag} {mg:Str→Option Value} {base:Heap} {k:Nat} {f Pt:Addr} {q:Str} {fd:FuncData} {ps:List Str} (h:FnOk P w K mg base CX0 k f fd ps (spDT K Pt q r_law)) : FnOk P w K mg base CX0 k f fd ps (spLawT K Pt q):=
  h.imp fun vs H Q E ⟨tb,a,ns,e,hs,hl,q⟩=>⟨tb,[.scr ns],H,fun b=>b=.p (.bl true),Same.refl _,by rw[e]; exact .cons (.scr hs) .nil,⟨ns,rfl,hl,rfl⟩,fun b v H' G' hb w r=>by
    subst hb
    have:v=.bl true:=Rep.bl_inv r
    rw[this]
    exact q H'⟩
end DL
namespace DL
open PySem PySem.Spec PyProof.Rows L2
def startH (K:PySem.W.Frag) (Pt a:Addr) (qn:Str) (o:Obj) (xs:List V) : Hp:=fun b=>if b=Pt then some (.tbl #[.str qn 0]) else if b=a∧K.lookup a=none then some (.frz o (.lst xs)) else none
theorem startH_other {K:PySem.W.Frag} {Pt a b:Addr} {qn:Str} {o:Obj} {xs:List V} (h1:b≠Pt) (h2:b≠a) : startH K Pt a qn o xs b=none:=by
  unfold startH; rw[if_neg h1,if_neg fun z=>h2 z.1]
theorem law_callC {P:Program} {w:World} {K:PySem.W.Frag} {mg mb:Str→Option Value} {k:Nat} {fa a Pt c:Addr} {qn:Str} {fd:FuncData} {x:Str} {s₁:Shared} {vs:List Value} {ns:List Int}
    (KX:K.In s₁.heap) (hns:s₁.heap.Ns mainGlobals mg) (hb:s₁.heap.Ns builtinsNs mb) (hbb:∀x:Str,x≠"__name__"→mb x=bootBuiltins x) (hlim:s₁.heap.NoLimit) (hg:s₁.gens = #[]) (BM:BltAt mg s₁.heap)
    (hPt:s₁.heap.get? Pt=some (PySem.W.tabObj #[])) (hK:K.lookup Pt=none) (hC:PySem.W.codeHdIn K c Pt=true)
    (ha:s₁.heap.get? a=some { cls:=.type "list",data:=.seq vs.toArray }) (hi:IntsAre vs ns) (hl:ns.length≤63) (hr:Room k callerA)
    (F:∀base:Heap,K.In base→base.Ns mainGlobals mg→BltAt mg base→FnOk P w K mg base CX0 k fa fd [x] (spLawT K Pt qn)) (hbind:∀(s:Shared) (u:Value),BindsTo s fd ⟨[u],[]⟩ [(x,u)]) :
    codeAny (model P w) callerA (.call (.ref fa) ⟨[.ref a],[]⟩) (fun r s'=>r=.ok (.ret (.bool true))∧OldK s₁.heap s'.heap∧s'.os=s₁.os∧AllBare s'.gens) s₁:=by
  have rv:=vals_ints hi
  have lenV:=hi.length
  have haP:a≠Pt:=fun z=>by rw[z,hPt] at ha; cases ha
  generalize hH:startH K Pt a qn { cls:=.type "list",data:=.seq vs.toArray } (ns.map V.int)=H
  have hHP:H Pt=some (.tbl #[.str qn 0]):=by rw[←hH]; unfold startH; rw[if_pos rfl]
  have hHo:∀b,b≠Pt→b≠a→H b=none:=fun b h1 h2=>by rw[←hH]; exact startH_other h1 h2
  have hHa:H a=none∧(∃o,K.lookup a=some o)∨H a=some (.frz { cls:=.type "list",data:=.seq vs.toArray } (.lst (ns.map V.int)))∧K.lookup a=none:=by
    rw[←hH]; unfold startH; rw[if_neg haP]
    cases q:K.lookup a with
    | none=>exact .inr ⟨by rw[if_pos ⟨rfl,rfl⟩],rfl⟩
    | some o=>exact .inl ⟨by rw[if_neg (fun z=>nomatch z.2)],o,rfl⟩
  have small:ns.length≤sizeLine:=by rw[sizeLine_eq]; lia
  have hok:HOk P w H s₁.heap:=fun b u e=>by
    by_cases h1:b=Pt
    · subst h1
      rw[hHP] at e; cases e
      exact ⟨#[],hPt,trivial,fun pos cv z=>nomatch z⟩
    · by_cases h2:b=a
      · subst h2
        rcases hHa with ⟨z,_⟩ | ⟨z,_⟩
        · rw[z] at e; cases e
        · rw[z] at e; cases e
          exact ⟨ha,by rw[List.length_map]; exact small,vs,_,rv,ha⟩
      · rw[hHo b h1 h2] at e; cases e
  have dictFree:∀{b:Addr} {o:Obj},s₁.heap.get? b=some o→o.cls≠.none→o.cls≠.type "list"→H b=none:=fun {b o} e d1 d2=>hHo b (fun z=>by rw[z,hPt] at e; cases e; exact d1 rfl) (fun z=>by rw[z,ha] at e; cases e; exact d2 rfl)
  have nsFree:∀{b:Addr} {m:Str→Option Value},s₁.heap.Ns b m→(hidT s₁.heap H).Ns b m:=fun {b m} ⟨o,es,ep,e,d,r⟩ =>
    ⟨o,es,ep,hidT_get e (hHo b (fun z=>by rw[z,hPt] at e; cases e; cases d) (fun z=>by rw[z,ha] at e; cases e; cases d)),d,r⟩
  have hKb:K.In (hidT s₁.heap H):=fun b o e=>hidT_get (KX b o e) (by
    by_cases h1:b=Pt
    · subst h1; rw[hK] at e; cases e
    · by_cases h2:b=a
      · subst h2
        rcases hHa with ⟨z,_⟩ | ⟨_,z⟩
        · exact z
        · rw[z] at e; cases e
      · exact hHo b h1 h2)
  have hM:Mod K mg (hidT s₁.heap H):=⟨hKb,nsFree hns,⟨mb,nsFree hb,hbb⟩,let ⟨mc,h1,h2⟩:=hlim; ⟨mc,nsFree h1,h2⟩⟩
  have hB:BltAt mg (hidT s₁.heap H):=by
    obtain ⟨bm,ob,b1,b2,b3,b4,b5,b6⟩:=BM
    exact ⟨bm,ob,b1,b2,hidT_get b3 (dictFree b3 (by rw[b4]; intro z; cases z) (by rw[b4]; decide)),b4,b5,b6⟩
  have e0:Env0 P w K mg (hidT s₁.heap H) callerA [] s₁ H:=⟨rfl,hM,fun b o e=>of_hidT e,Nat.le_of_eq (hidT_size _ _),trivial,fun b hb=>absurd (show b∈([] : List Addr) from hb) (by simp),hok,.of_eq hg⟩
  have hS:SqL K H a (ns.map V.int):=by
    rcases hHa with ⟨_,o,z⟩ | ⟨z,_⟩
    · have e:=KX a o z
      rw[ha] at e; cases e
      exact .inr ⟨_,vs.toArray,_,z,rfl,rfl,rfl,by rw[List.size_toArray,lenV]; exact small,by simpa using rv⟩
    · exact .inl (.inr ⟨_,z⟩)
  refine codeAny_mono ((F _ hKb (nsFree hns) hB).run callerA [] s₁ H ⟨[.ref a],[]⟩ [.ref a] [.ref a] (fun v _=>v=.bl true) (fun _ _ _=>False) hr e0 (hbind s₁ (.ref a)) (.cons rfl .nil) ⟨⟨_,0,hHP,rfl⟩,a,ns,rfl,hS,hl,fun _=>rfl⟩) fun r s' h=>?_
  cases r with
  | error e=>exact False.elim h
  | ok fl =>
    cases fl with
    | next=>exact False.elim h
    | brk=>exact False.elim h
    | cont=>exact False.elim h
    | ret u =>
      obtain ⟨v,H',os,bare,un,hok',r',q⟩:=h
      have q':v=.bl true:=q
      subst q'
      obtain rfl:u=Value.bool true:=r'
      refine ⟨rfl,⟨fun b o e=>?_,fun b o e=>un.there b o e (by simp)⟩,os,bare⟩
      by_cases h1:b=Pt
      · subst h1
        rw[hPt] at e; cases e
        obtain ⟨more,e2⟩:=un.tbls _ _ hHP
        obtain ⟨tb,e3,_⟩:=hok' _ _ e2
        refine .inr (.inl ⟨((PySem.W.codeHd_of_K KX hC).tab hPt).isCodeTable,rfl,#[],tb,rfl,?_⟩)
        rw[e3]
        simp
      · refine .inl ?_
        cases q:H b with
        | none=>exact un.keep b o e q (by intro z; exact absurd (show b∈([] : List Addr) from z) (by simp)) (by simp)
        | some u =>
          by_cases h2:b=a
          · subst h2
            rcases hHa with ⟨z,_⟩ | ⟨z,_⟩
            · rw[q] at z; cases z
            · obtain ⟨e2,_⟩:=hok' _ _ (un.frzs _ _ _ z)
              rw[ha] at e; cases e
              exact e2
          · rw[hHo b h1 h2] at q; cases q
theorem walk_ofC {l:PySem.W.OpenLaw} {k:Nat} {q:Program} {loose:List Str} {XP:(Str→Option Value)→Heap→Prop} {YP:World→Heap→Prop} {d:DefRec} {K:Params→PySem.W.Frag} {x qn:Str} {Pt:Addr}
    (hn:l.most=some 63) (hdf:d.params.defaults = []) (hr:Room k callerA) (hY:∀(w:World) (h:Heap),YP w h→(K w.params).In h∧h.get? Pt=some (PySem.W.tabObj #[]))
    (F:∀(w:World) (mg:Str→Option Value) (fa:Addr) (h:Heap),(K w.params).In h→h.Ns mainGlobals mg→mg d.name=some (.ref fa) →
      ∃(fd:FuncData) (c:Addr),(K w.params).lookup Pt=none∧PySem.W.codeHdIn (K w.params) c Pt=true∧(∀(s:Shared) (u:Value),BindsTo s fd ⟨[u],[]⟩ [(x,u)]) ∧
        ∀base:Heap,(K w.params).In base→base.Ns mainGlobals mg→BltAt mg base→FnOk l.prog w (K w.params) mg base CX0 k fa fd [x] (spLawT (K w.params) Pt qn)) :
    PySem.W.WalkO q loose XP YP l.row.toRowW d [] (fun f vs=>PySem.call f vs):=by
  refine Att.attach_call hn hdf fun w s₀ s₁ mg mb fa o pm cd doc a vs ns G Y ho hd hcd hmg hobj hints hlen hg=>?_
  obtain ⟨KX,hPt⟩:=hY w _ Y
  obtain ⟨fd,c,hK,hC,hb,hF⟩:=F w mg fa _ KX G.T.g hmg
  obtain ⟨bm,ob,b1,b2,b3,b4,b5,b6⟩:=G.T.bmain
  exact law_callC KX G.T.g G.T.b G.T.builtins G.T.nolimit hg ⟨bm,ob,b1,b2,b3,b4,b5,b6⟩ hPt hK hC hobj hints hlen hr hF hb
end DL
namespace Tim
open PySem PyProof.Rows
def gallop':Bool→Keyed→Array Keyed→Nat→Nat→Nat→StateT SortSt Sem (Option Nat):=sortPriv% PySem.Builtin.gallop
def beyond (left:Bool) (key:Keyed) (arr:Array Keyed) (base:Nat) (i:Nat) : StateT SortSt Sem (Option Bool):=do
  let x ←elem' arr (base+i)
  if left then lt' x key else return (←lt' key x).map (!·)
def halveM (left:Bool) (key:Keyed) (arr:Array Keyed) (base n lo0 hi0:Nat) : StateT SortSt Sem (Option Nat):=do
  let mut lo:=lo0
  let mut hi:=hi0
  for _ in [0:n] do
    if lo≥hi then break
    let m:=lo+(hi - lo) / 2
    let some more ←beyond left key arr base m | return none
    if more then lo:=m+1 else hi:=m
  return some hi
theorem gallop'_eq (left:Bool) (key:Keyed) (arr:Array Keyed) (base n hint:Nat) : gallop' left key arr base n hint=(do
  let mut lastofs:=0
  let mut ofs:=1
  let some right ←beyond left key arr base hint | return none
  if right then
    let maxofs:=n - hint
    for _ in [0:n] do
      if ofs≥maxofs then break
      let some more ←beyond left key arr base (hint+ofs) | return none
      if !more then break
      lastofs:=ofs
      ofs:=2*ofs+1
    halveM left key arr base n (hint+lastofs+1) (hint+min ofs maxofs)
  else
    let maxofs:=hint+1
    for _ in [0:n] do
      if ofs≥maxofs then break
      let some found ←beyond left key arr base (hint - ofs) | return none
      if found then break
      lastofs:=ofs
      ofs:=2*ofs+1
    halveM left key arr base n (hint+1 - min ofs maxofs) (hint - lastofs)):=rfl
section
variable {prog:Program} {w:World} {A:Around} {E:Value→Shared→Prop} {s:Shared}
theorem halve {left:Bool} {key:Keyed} {arr:Array Keyed} {base n lo0 hi0:Nat} {st:SortSt} {Q:Option Nat→SortSt→Prop} (p:Nat→Bool) (mono:∀i j,i≤j→j<n→p j=true→p i=true)
    (hb:∀i,i<n→∀Q':Option Bool→SortSt→Prop,Q' (some (p i)) st→wpS (model prog w) A E s (beyond left key arr base i) Q' st)
    (h:∀k,k≤n→(∀i,i<k→p i=true)→(∀i,k≤i→i<n→p i=false)→Q (some k) st)
    (h1:lo0≤hi0) (h2:hi0≤n) (h3:∀i,i<lo0→p i=true) (h4:∀i,hi0≤i→i<n→p i=false) :
    wpS (model prog w) A E s (halveM left key arr base n lo0 hi0) Q st:=by
  unfold halveM
  refine wpS_bind (wpS_mono (wpS_forRange (I:=fun x c st'=>st'=st∧∃lo hi,c=(none,lo,hi)∧lo≤hi∧hi≤n∧hi - lo≤n - x∧(∀i,i<lo→p i=true)∧∀i,hi≤i→i<n→p i=false)
    (Q:=fun c st'=>st'=st∧∃k,c.1=none∧c.2.2=k∧k≤n∧(∀i,i<k→p i=true)∧∀i,k≤i→i<n→p i=false) ?step ?fin ⟨rfl,lo0,hi0,rfl,h1,h2,by lia,h3,h4⟩) ?post)
  case step =>
    rintro x c st' _ hx ⟨rfl,lo,hi,rfl,a1,a2,a3,a4,a5⟩
    dsimp only
    by_cases c:lo≥hi
    · rw[if_pos c]
      have:lo=hi:=by lia
      subst this
      exact wpS_pure ⟨rfl,lo,rfl,rfl,a2,a4,a5⟩
    · rw[if_neg c]
      refine wpS_bind (hb _ (by lia) _ ?_)
      dsimp only
      cases hp:p (lo+(hi - lo) / 2) with
      | true =>
        simp only[if_true]
        exact wpS_pure ⟨rfl,_,_,rfl,by lia,a2,by lia,fun i hi'=>mono i _ (by lia) (by lia) hp,a5⟩
      | false =>
        simp only[Bool.false_eq_true,if_false]
        refine wpS_pure ⟨rfl,_,_,rfl,by lia,by lia,by lia,a4,fun i h5 h6=>?_⟩
        cases hq:p i with
        | false=>rfl
        | true =>
          have:=mono _ i h5 h6 hq
          rw[hp] at this
          cases this
  case fin =>
    rintro c st' ⟨rfl,lo,hi,rfl,a1,a2,a3,a4,a5⟩
    have:lo=hi:=by lia
    subst this
    exact ⟨rfl,lo,rfl,rfl,a2,a4,a5⟩
  case post =>
    rintro c st' ⟨rfl,k,e1,e2,a2,a4,a5⟩
    rw[e1]
    dsimp only
    rw[e2]
    exact wpS_pure (h k a2 a4 a5)
theorem gallop_run {left:Bool} {key:Keyed} {arr:Array Keyed} {base n hint:Nat} {st:SortSt} {Q:Option Nat→SortSt→Prop} (p:Nat→Bool) (hh:hint<n) (mono:∀i j,i≤j→j<n→p j=true→p i=true)
    (hb:∀i,i<n→∀Q':Option Bool→SortSt→Prop,Q' (some (p i)) st→wpS (model prog w) A E s (beyond left key arr base i) Q' st)
    (h:∀k,k≤n→(∀i,i<k→p i=true)→(∀i,k≤i→i<n→p i=false)→Q (some k) st) : wpS (model prog w) A E s (gallop' left key arr base n hint) Q st:=by
  have anti:∀i j,i≤j→j<n→p i=false→p j=false:=fun i j h1 h2 h3=>by
    cases hq:p j with
    | false=>rfl
    | true =>
      have:=mono i j h1 h2 hq
      rw[h3] at this
      cases this
  rw[gallop'_eq]
  refine wpS_bind (hb hint hh _ ?_)
  dsimp only
  cases hp:p hint with
  | true =>
    simp only[if_true]
    refine wpS_bind (wpS_mono (wpS_forRange (I:=fun x c st'=>st'=st∧∃last ofs,c=(none,last,ofs)∧last<ofs∧x<ofs∧hint+last<n∧p (hint+last)=true)
      (Q:=fun c st'=>st'=st∧∃last ofs,c=(none,last,ofs)∧last<ofs∧hint+last<n∧p (hint+last)=true∧(n - hint≤ofs∨(hint+ofs<n∧p (hint+ofs)=false))) ?step ?fin ⟨rfl,0,1,rfl,by lia,by lia,by lia,by rw[Nat.add_zero]; exact hp⟩) ?post)
    case step =>
      rintro x c st' _ hx ⟨rfl,last,ofs,rfl,a1,a2,a3,a4⟩
      dsimp only
      by_cases c:ofs≥n - hint
      · rw[if_pos c]
        exact wpS_pure ⟨rfl,last,ofs,rfl,a1,a3,a4,.inl c⟩
      · rw[if_neg c]
        refine wpS_bind (hb _ (by lia) _ ?_)
        dsimp only
        cases hq:p (hint+ofs) with
        | true =>
          simp only[Bool.not_true,Bool.false_eq_true,if_false]
          exact wpS_pure ⟨rfl,ofs,_,rfl,by lia,by lia,by lia,hq⟩
        | false =>
          simp only[Bool.not_false,if_true]
          exact wpS_pure ⟨rfl,last,ofs,rfl,a1,a3,a4,.inr ⟨by lia,hq⟩⟩
    case fin =>
      rintro c st' ⟨rfl,last,ofs,rfl,a1,a2,a3,a4⟩
      exact ⟨rfl,last,ofs,rfl,a1,a3,a4,.inl (by lia)⟩
    case post =>
      rintro c st' ⟨rfl,last,ofs,rfl,a1,a3,a4,a5⟩
      dsimp only
      refine halve (lo0:=hint+last+1) (hi0:=hint+min ofs (n - hint)) p mono hb h (by lia) (by lia) (fun i hi=>mono i (hint+last) (by lia) a3 a4) fun i h5 h6=>?_
      rcases a5 with z | ⟨z1,z2⟩
      · lia
      · exact anti (hint+ofs) i (by lia) h6 z2
  | false =>
    simp only[Bool.false_eq_true,if_false]
    refine wpS_bind (wpS_mono (wpS_forRange (I:=fun x c st'=>st'=st∧∃last ofs,c=(none,last,ofs)∧last<ofs∧x<ofs∧last≤hint∧p (hint - last)=false)
      (Q:=fun c st'=>st'=st∧∃last ofs,c=(none,last,ofs)∧last<ofs∧last≤hint∧p (hint - last)=false∧(hint+1≤ofs∨(ofs≤hint∧p (hint - ofs)=true))) ?step ?fin ⟨rfl,0,1,rfl,by lia,by lia,by lia,by rw[Nat.sub_zero]; exact hp⟩) ?post)
    case step =>
      rintro x c st' _ hx ⟨rfl,last,ofs,rfl,a1,a2,a3,a4⟩
      dsimp only
      by_cases c:ofs≥hint+1
      · rw[if_pos c]
        exact wpS_pure ⟨rfl,last,ofs,rfl,a1,a3,a4,.inl c⟩
      · rw[if_neg c]
        refine wpS_bind (hb _ (by lia) _ ?_)
        dsimp only
        cases hq:p (hint - ofs) with
        | true =>
          simp only[if_true]
          exact wpS_pure ⟨rfl,last,ofs,rfl,a1,a3,a4,.inr ⟨by lia,hq⟩⟩
        | false =>
          simp only[Bool.false_eq_true,if_false]
          exact wpS_pure ⟨rfl,ofs,_,rfl,by lia,by lia,by lia,hq⟩
    case fin =>
      rintro c st' ⟨rfl,last,ofs,rfl,a1,a2,a3,a4⟩
      exact ⟨rfl,last,ofs,rfl,a1,a3,a4,.inl (by lia)⟩
    case post =>
      rintro c st' ⟨rfl,last,ofs,rfl,a1,a3,a4,a5⟩
      dsimp only
      refine halve (lo0:=hint+1 - min ofs (hint+1)) (hi0:=hint - last) p mono hb h (by lia) (by lia) (fun i hi=>?_) fun i h5 h6=>anti (hint - last) i (by lia) h6 a4
      rcases a5 with z | ⟨z1,z2⟩
      · lia
      · exact mono i (hint - ofs) (by lia) (by lia) z2
end
end Tim
namespace Tim
open PySem PyProof.Rows
def setMinGallop':Nat→StateT SortSt Sem Unit:=sortPriv% PySem.Builtin.setMinGallop
def mergeLo':Array Keyed→Array Keyed→StateT SortSt Sem (Array Keyed):=sortPriv% PySem.Builtin.mergeLo
def setG (st:SortSt) (g:Nat) : SortSt:=SortSt.mk' (kindOf st) (arrOf st) (pendingOf st) g (failedOf st)
theorem setMinGallop'_eq (g:Nat) : setMinGallop' g=modify fun s=>setG s g:=rfl
def doneL (a b out:Array Keyed) (ia ib:Nat) : Array Keyed:=out++a.extract ia a.size++b.extract ib b.size
def lastL (a b out:Array Keyed) (ia ib:Nat) : Array Keyed:=out++b.extract ib b.size++a.extract ia a.size
theorem mergeLo'_eq0 (a b:Array Keyed) : mergeLo' a b=(do
  rule "list.sort.merge-lo"
  let total:=a.size+b.size
  let mut out:Array Keyed:=#[←elem' b 0]
  let mut ia:=0
  let mut ib:=1
  if ib == b.size then return doneL a b out ia ib
  if ia+1 == a.size then return lastL a b out ia ib
  let mut minGallop:=gallopOf (←get)
  for _ in [0:total] do
    let mut acount:=0
    let mut bcount:=0
    for _ in [0:total] do
      let some bWins ←lt' (←elem' b ib) (←elem' a ia) | return doneL a b out ia ib
      if bWins then
        out:=out.push (←elem' b ib); ib:=ib+1; bcount:=bcount+1; acount:=0
        if ib == b.size then return doneL a b out ia ib
        if bcount≥minGallop then break
      else
        out:=out.push (←elem' a ia); ia:=ia+1; acount:=acount+1; bcount:=0
        if ia+1 == a.size then return lastL a b out ia ib
        if acount≥minGallop then break
    rule "list.sort.gallop"
    minGallop:=minGallop+1
    for _ in [0:total] do
      if minGallop>1 then minGallop:=minGallop - 1
      setMinGallop' minGallop
      let some k ←gallop' false (←elem' b ib) a ia (a.size - ia) 0 | return doneL a b out ia ib
      acount:=k
      if k>0 then
        out:=out++a.extract ia (ia+k); ia:=ia+k
        if ia+1 == a.size then return lastL a b out ia ib
        if ia == a.size then return doneL a b out ia ib
      out:=out.push (←elem' b ib); ib:=ib+1
      if ib == b.size then return doneL a b out ia ib
      let some k ←gallop' true (←elem' a ia) b ib (b.size - ib) 0 | return doneL a b out ia ib
      bcount:=k
      if k>0 then
        out:=out++b.extract ib (ib+k); ib:=ib+k
        if ib == b.size then return doneL a b out ia ib
      out:=out.push (←elem' a ia); ia:=ia+1
      if ia+1 == a.size then return lastL a b out ia ib
      if acount<7 && bcount<7 then break
    minGallop:=minGallop+1
    setMinGallop' minGallop
  unsupported "internal:list.sort.merge-bound"):=rfl
structure Ord (Dm:Keyed→Prop) (R:Keyed→Keyed→Bool) : Prop where
  tr:∀x y z,Dm x→Dm y→Dm z→R y x=false→R z y=false→R z x=false
  as_:∀x y,Dm x→Dm y→R x y=true→R y x=false
def Srt (R:Keyed→Keyed→Bool) (l:List Keyed) : Prop:=l.Pairwise fun x y=>R y x=false
structure MI (R:Keyed→Keyed→Bool) (la lb:List Keyed) (out:List Keyed) (ia ib:Nat) : Prop where
  perm:out.Perm (la.take ia++lb.take ib)
  srt:Srt R out
  crs:∀x∈out,∀y∈la.drop ia++lb.drop ib,R y x=false
section
variable {R:Keyed→Keyed→Bool} {la lb out:List Keyed} {ia ib:Nat}
theorem take_drop_take (l:List Keyed) (i k:Nat) : l.take (i+k)=l.take i++(l.drop i).take k:=by rw[List.take_add]
theorem MI.pushAs (M:MI R la lb out ia ib) (k:Nat) (hs:Srt R la) (hc:∀x∈(la.drop ia).take k,∀y∈lb.drop ib,R y x=false) : MI R la lb (out++(la.drop ia).take k) (ia+k) ib:=by
  have hd:Srt R (la.drop ia):=List.Pairwise.sublist (List.drop_sublist _ _) hs
  have hsplit:(la.drop ia)=(la.drop ia).take k++la.drop (ia+k):=by rw[←List.drop_drop,List.take_append_drop]
  refine ⟨?_,?_,?_⟩
  · rw[take_drop_take]
    have:=M.perm.append_right ((la.drop ia).take k)
    refine this.trans ?_
    rw[List.append_assoc,List.append_assoc]
    exact List.Perm.append_left _ List.perm_append_comm
  · refine List.pairwise_append.mpr ⟨M.srt,List.Pairwise.sublist (List.take_sublist _ _) hd,fun x hx y hy=>M.crs x hx y (List.mem_append_left _ (List.mem_of_mem_take hy))⟩
  · intro x hx y hy
    rcases List.mem_append.mp hx with z | z
    · refine M.crs x z y ?_
      rcases List.mem_append.mp hy with u | u
      · rw[←List.drop_drop] at u
        exact List.mem_append_left _ (List.mem_of_mem_drop u)
      · exact List.mem_append_right _ u
    · rcases List.mem_append.mp hy with u | u
      · unfold Srt at hd
        rw[hsplit] at hd
        exact (List.pairwise_append.mp hd).2.2 x z y u
      · exact hc x z y u
theorem MI.pushBs (M:MI R la lb out ia ib) (k:Nat) (hs:Srt R lb) (hc:∀x∈(lb.drop ib).take k,∀y∈la.drop ia,R y x=false) : MI R la lb (out++(lb.drop ib).take k) ia (ib+k):=by
  have hd:Srt R (lb.drop ib):=List.Pairwise.sublist (List.drop_sublist _ _) hs
  have hsplit:(lb.drop ib)=(lb.drop ib).take k++lb.drop (ib+k):=by rw[←List.drop_drop,List.take_append_drop]
  refine ⟨?_,?_,?_⟩
  · rw[take_drop_take,←List.append_assoc]
    exact M.perm.append_right _
  · refine List.pairwise_append.mpr ⟨M.srt,List.Pairwise.sublist (List.take_sublist _ _) hd,fun x hx y hy=>M.crs x hx y (List.mem_append_right _ (List.mem_of_mem_take hy))⟩
  · intro x hx y hy
    rcases List.mem_append.mp hx with z | z
    · refine M.crs x z y ?_
      rcases List.mem_append.mp hy with u | u
      · exact List.mem_append_left _ u
      · rw[←List.drop_drop] at u
        exact List.mem_append_right _ (List.mem_of_mem_drop u)
    · rcases List.mem_append.mp hy with u | u
      · exact hc x z y u
      · unfold Srt at hd
        rw[hsplit] at hd
        exact (List.pairwise_append.mp hd).2.2 x z y u
theorem MI.fin (M:MI R la lb out ia ib) {r:List Keyed} (hp:r.Perm (la.drop ia++lb.drop ib)) (hs:Srt R r) : (out++r).Perm (la++lb)∧Srt R (out++r):=by
  constructor
  · refine (M.perm.append hp).trans ?_
    have e:la++lb=(la.take ia++la.drop ia)++(lb.take ib++lb.drop ib):=by rw[List.take_append_drop,List.take_append_drop]
    rw[e,List.append_assoc,List.append_assoc]
    refine List.Perm.append_left _ ?_
    rw[←List.append_assoc,←List.append_assoc]
    exact List.Perm.append_right _ List.perm_append_comm
  · exact List.pairwise_append.mpr ⟨M.srt,hs,fun x hx y hy=>M.crs x hx y (hp.mem_iff.mp hy)⟩
end
def Good (R:Keyed→Keyed→Bool) (a b out:Array Keyed) : Prop:=out.toList.Perm (a.toList++b.toList)∧Srt R out.toList
section
variable {R:Keyed→Keyed→Bool} {a b out:Array Keyed} {ia ib:Nat}
theorem ext_list (a:Array Keyed) (i j:Nat) : (a.extract i j).toList=(a.toList.drop i).take (j - i):=by rw[Array.toList_extract,List.extract_eq_take_drop]
theorem ext_all (a:Array Keyed) (i:Nat) : (a.extract i a.size).toList=a.toList.drop i:=by
  rw[ext_list,List.take_of_length_le]
  rw[List.length_drop,Array.length_toList]
  exact Nat.le_refl _
theorem MI.doneB (M:MI R a.toList b.toList out.toList ia ib) (ha:Srt R a.toList) (h:b.size≤ib) : Good R a b (doneL a b out ia ib):=by
  have e:b.toList.drop ib = []:=List.drop_eq_nil_of_le (by rw[Array.length_toList]; exact h)
  have:=M.fin (r:=a.toList.drop ia) (by rw[e,List.append_nil]) (List.Pairwise.sublist (List.drop_sublist _ _) ha)
  unfold Good doneL
  rw[Array.toList_append,Array.toList_append,ext_all,ext_all,e,List.append_nil]
  exact this
theorem MI.doneA (M:MI R a.toList b.toList out.toList ia ib) (hb:Srt R b.toList) (h:a.size≤ia) : Good R a b (doneL a b out ia ib):=by
  have e:a.toList.drop ia = []:=List.drop_eq_nil_of_le (by rw[Array.length_toList]; exact h)
  have:=M.fin (r:=b.toList.drop ib) (by rw[e,List.nil_append]) (List.Pairwise.sublist (List.drop_sublist _ _) hb)
  unfold Good doneL
  rw[Array.toList_append,Array.toList_append,ext_all,ext_all,e,List.append_nil]
  exact this
theorem MI.last (M:MI R a.toList b.toList out.toList ia ib) (hb:Srt R b.toList) (h:ia+1=a.size) (hz:∀y∈b.toList,∀z∈a.toList.drop (a.size - 1),R z y=false) : Good R a b (lastL a b out ia ib):=by
  have hia:ia=a.size - 1:=by lia
  have hl:(a.toList.drop ia).length=1:=by rw[List.length_drop,Array.length_toList]; lia
  have hs1:Srt R (a.toList.drop ia):=by
    match h':a.toList.drop ia,hl with
    | [z],_=>exact List.pairwise_singleton _ _
  have:=M.fin (r:=b.toList.drop ib++a.toList.drop ia) List.perm_append_comm (List.pairwise_append.mpr ⟨List.Pairwise.sublist (List.drop_sublist _ _) hb,hs1,fun x hx y hy=>hz x (List.mem_of_mem_drop hx) y (by rw[←hia]; exact hy)⟩)
  unfold Good lastL
  rw[Array.toList_append,Array.toList_append,ext_all,ext_all,List.append_assoc]
  exact this
end
end Tim
namespace Tim
open PySem PyProof.Rows
section
variable {Dm:Keyed→Prop} {R:Keyed→Keyed→Bool}
theorem Ord.irr (o:Ord Dm R) {x:Keyed} (d:Dm x) : R x x=false:=by
  cases h:R x x with
  | false=>rfl
  | true=>exact h.symm.trans (o.as_ x x d d h)
theorem mem_drop_at {l:List Keyed} {i:Nat} {y:Keyed} (h:y∈l.drop i) : ∃j,i≤j∧l[j]?=some y:=by
  obtain ⟨n,hn,e⟩:=List.mem_iff_getElem.mp h
  refine ⟨i+n,Nat.le_add_right _ _,?_⟩
  rw[←e,List.getElem_drop]
  rw[List.length_drop] at hn
  exact List.getElem?_eq_getElem (by lia)
theorem mem_drop_take_at {l:List Keyed} {i k:Nat} {y:Keyed} (h:y∈(l.drop i).take k) : ∃j,j<k∧l[i+j]?=some y:=by
  obtain ⟨n,hn,e⟩:=List.mem_iff_getElem.mp h
  rw[List.length_take,List.length_drop] at hn
  refine ⟨n,by lia,?_⟩
  rw[←e,List.getElem_take,List.getElem_drop]
  exact List.getElem?_eq_getElem (by lia)
theorem Srt.le (o:Ord Dm R) {l:List Keyed} (hs:Srt R l) (d:∀x∈l,Dm x) {i j:Nat} {x y:Keyed} (h:i≤j) (ex:l[i]?=some x) (ey:l[j]?=some y) : R y x=false:=by
  by_cases e:i=j
  · subst e
    rw[ex] at ey
    cases ey
    exact o.irr (d x (List.mem_of_getElem? ex))
  · obtain ⟨h1,e1⟩:=List.getElem?_eq_some_iff.mp ex
    obtain ⟨h2,e2⟩:=List.getElem?_eq_some_iff.mp ey
    have:=List.pairwise_iff_getElem.mp hs i j h1 h2 (by lia)
    rw[e1,e2] at this
    exact this
structure Pre (Dm:Keyed→Prop) (R:Keyed→Keyed→Bool) (a b:Array Keyed) : Prop where
  o:Ord Dm R
  da:∀x∈a.toList,Dm x
  db:∀x∈b.toList,Dm x
  sa:Srt R a.toList
  sb:Srt R b.toList
  fst:∀x∈a.toList,∀y,b[0]?=some y→R y x=true
  lst:∀y∈b.toList,∀z,a[a.size - 1]?=some z→R y z=true
  na:0<a.size
  nb:0<b.size
variable {a b out:Array Keyed} {ia ib:Nat} {x y:Keyed}
abbrev ML (R:Keyed→Keyed→Bool) (a b out:Array Keyed) (ia ib:Nat) : Prop:=MI R a.toList b.toList out.toList ia ib
theorem toL {a:Array Keyed} {i:Nat} {x:Keyed} (h:a[i]?=some x) : a.toList[i]?=some x:=by rw[Array.getElem?_toList]; exact h
theorem Pre.pushB (P:Pre Dm R a b) (M:ML R a b out ia ib) (hy:b[ib]?=some y) (h:∀j x,ia≤j→a[j]?=some x→R y x=true) : ML R a b (out.push y) ia (ib+1):=by
  have e:(b.toList.drop ib).take 1 = [y]:=by
    have:=toL hy
    obtain ⟨h1,e1⟩:=List.getElem?_eq_some_iff.mp this
    rw[List.drop_eq_getElem_cons h1,e1]
    rfl
  have:=M.pushBs 1 P.sb fun z hz u hu=>by
    rw[e] at hz
    cases List.mem_singleton.mp hz
    obtain ⟨j,h1,h2⟩:=mem_drop_at hu
    rw[Array.getElem?_toList] at h2
    exact P.o.as_ _ _ (P.db _ (List.mem_of_getElem? (toL hy))) (P.da _ (List.mem_of_mem_drop hu)) (h j u h1 h2)
  rw[e] at this
  unfold ML
  rw[Array.toList_push]
  exact this
theorem Pre.pushA (P:Pre Dm R a b) (M:ML R a b out ia ib) (hx:a[ia]?=some x) (h:∀j y,ib≤j→b[j]?=some y→R y x=false) : ML R a b (out.push x) (ia+1) ib:=by
  have e:(a.toList.drop ia).take 1 = [x]:=by
    have:=toL hx
    obtain ⟨h1,e1⟩:=List.getElem?_eq_some_iff.mp this
    rw[List.drop_eq_getElem_cons h1,e1]
    rfl
  have:=M.pushAs 1 P.sa fun z hz u hu=>by
    rw[e] at hz
    cases List.mem_singleton.mp hz
    obtain ⟨j,h1,h2⟩:=mem_drop_at hu
    rw[Array.getElem?_toList] at h2
    exact h j u h1 h2
  rw[e] at this
  unfold ML
  rw[Array.toList_push]
  exact this
theorem Pre.Da (P:Pre Dm R a b) {i:Nat} (h:a[i]?=some x) : Dm x:=P.da _ (List.mem_of_getElem? (toL h))
theorem Pre.Db (P:Pre Dm R a b) {i:Nat} (h:b[i]?=some x) : Dm x:=P.db _ (List.mem_of_getElem? (toL h))
theorem Pre.leA (P:Pre Dm R a b) {i j:Nat} (h:i≤j) (hx:a[i]?=some x) (hy:a[j]?=some y) : R y x=false:=P.sa.le P.o P.da h (toL hx) (toL hy)
theorem Pre.leB (P:Pre Dm R a b) {i j:Nat} (h:i≤j) (hx:b[i]?=some x) (hy:b[j]?=some y) : R y x=false:=P.sb.le P.o P.db h (toL hx) (toL hy)
theorem Pre.upA (P:Pre Dm R a b) {i j:Nat} {z:Keyed} (dy:Dm y) (h:i≤j) (hx:a[i]?=some x) (hz:a[j]?=some z) (hl:R y x=true) : R y z=true:=by
  cases q:R y z with
  | true=>rfl
  | false =>
    have:=P.o.tr x z y (P.Da hx) (P.Da hz) dy (P.leA h hx hz) q
    rw[hl] at this
    cases this
theorem Pre.upB (P:Pre Dm R a b) {i j:Nat} {z:Keyed} (dx:Dm x) (h:i≤j) (hy:b[i]?=some y) (hz:b[j]?=some z) (hl:R y x=false) : R z x=false:=
  P.o.tr x y z dx (P.Db hy) (P.Db hz) hl (P.leB h hy hz)
theorem Pre.dnA (P:Pre Dm R a b) {i j:Nat} {z:Keyed} (dy:Dm y) (h:i≤j) (hx:a[i]?=some x) (hz:a[j]?=some z) (hl:R y z=false) : R y x=false:=
  P.o.tr x z y (P.Da hx) (P.Da hz) dy (P.leA h hx hz) hl
theorem Pre.dnB (P:Pre Dm R a b) {i j:Nat} {z:Keyed} (dx:Dm x) (h:i≤j) (hy:b[i]?=some y) (hz:b[j]?=some z) (hl:R z x=true) : R y x=true:=by
  cases q:R y x with
  | true=>rfl
  | false =>
    have:=P.upB dx h hy hz q
    rw[hl] at this
    cases this
theorem Pre.stepB (P:Pre Dm R a b) (M:ML R a b out ia ib) (hx:a[ia]?=some x) (hy:b[ib]?=some y) (h:R y x=true) : ML R a b (out.push y) ia (ib+1):=
  P.pushB M hy fun j z h1 h2=>P.upA (P.Db hy) h1 hx h2 h
theorem Pre.stepA (P:Pre Dm R a b) (M:ML R a b out ia ib) (hx:a[ia]?=some x) (hy:b[ib]?=some y) (h:R y x=false) : ML R a b (out.push x) (ia+1) ib:=
  P.pushA M hx fun j z h1 h2=>P.upB (P.Da hx) h1 hy h2 h
theorem Pre.runA (P:Pre Dm R a b) (M:ML R a b out ia ib) (k:Nat) (hy:b[ib]?=some y) (h:∀i x,i<k→a[ia+i]?=some x→R y x=false) : ML R a b (out++a.extract ia (ia+k)) (ia+k) ib:=by
  have:=M.pushAs k P.sa fun z hz u hu=>by
    obtain ⟨j,h1,h2⟩:=mem_drop_at hu
    obtain ⟨i,h3,h4⟩:=mem_drop_take_at hz
    rw[Array.getElem?_toList] at h2 h4
    exact P.upB (P.Da h4) h1 hy h2 (h i z h3 h4)
  unfold ML
  rw[Array.toList_append,ext_list,show ia+k - ia=k by lia]
  exact this
theorem Pre.runB (P:Pre Dm R a b) (M:ML R a b out ia ib) (k:Nat) (hx:a[ia]?=some x) (h:∀i y,i<k→b[ib+i]?=some y→R y x=true) : ML R a b (out++b.extract ib (ib+k)) ia (ib+k):=by
  have:=M.pushBs k P.sb fun z hz u hu=>by
    obtain ⟨j,h1,h2⟩:=mem_drop_at hu
    obtain ⟨i,h3,h4⟩:=mem_drop_take_at hz
    rw[Array.getElem?_toList] at h2 h4
    exact P.o.as_ _ _ (P.Db h4) (P.Da h2) (P.upA (P.Db h4) h1 hx h2 (h i z h3 h4))
  unfold ML
  rw[Array.toList_append,ext_list,show ib+k - ib=k by lia]
  exact this
theorem Pre.last (P:Pre Dm R a b) (M:ML R a b out ia ib) (h:ia+1=a.size) : Good R a b (lastL a b out ia ib):=
  M.last P.sb h fun y hy z hz=>by
    obtain ⟨j,h1,h2⟩:=mem_drop_at hz
    rw[Array.getElem?_toList] at h2
    have h3:j<a.size:=(Array.getElem?_eq_some_iff.mp h2).1
    have e:j=a.size - 1:=by lia
    subst e
    exact P.o.as_ _ _ (P.db _ hy) (P.Da h2) (P.lst y hy z h2)
theorem Pre.start (P:Pre Dm R a b) (hy:b[0]?=some y) : ML R a b #[y] 0 1:=by
  have M0:ML R a b #[] 0 0:=⟨List.Perm.nil,List.Pairwise.nil,fun x hx=>nomatch hx⟩
  have:=P.pushB M0 hy fun j x _ hx=>P.fst x (List.mem_of_getElem? (toL hx)) y hy
  exact this
end
section
variable {prog:Program} {w:World} {A:Around} {E:Value→Shared→Prop} {s:Shared}
theorem wpS_elem {arr:Array Keyed} {i:Nat} {p:Keyed} {st:SortSt} {Q:Keyed→SortSt→Prop} (h:arr[i]?=some p) (hq:Q p st) : wpS (model prog w) A E s (elem' arr i) Q st:=by
  rw[elem'_eq,h]
  exact wpS_pure hq
def Same (st st':SortSt) : Prop:=kindOf st'=kindOf st∧arrOf st'=arrOf st∧pendingOf st'=pendingOf st∧failedOf st'=failedOf st
theorem Same.rfl' {st:SortSt} : Same st st:=⟨rfl,rfl,rfl,rfl⟩
theorem Same.setG {st st':SortSt} (h:Same st st') (g:Nat) : Same st (setG st' g):=h
def LtOk (prog:Program) (w:World) (A:Around) (E:Value→Shared→Prop) (s:Shared) (Dm:Keyed→Prop) (R:Keyed→Keyed→Bool) (κ:SortKind) : Prop:=
  ∀(x y:Keyed) (st:SortSt) (Q:Option Bool→SortSt→Prop),Dm x→Dm y→kindOf st=κ→Q (some (R x y)) st→wpS (model prog w) A E s (lt' x y) Q st
variable {Dm:Keyed→Prop} {R:Keyed→Keyed→Bool} {κ:SortKind}
theorem gal_right (L:LtOk prog w A E s Dm R κ) {key:Keyed} {arr:Array Keyed} {base n hint:Nat} {st:SortSt} {Q:Option Nat→SortSt→Prop} (hk:kindOf st=κ) (dk:Dm key) (hh:hint<n) (hn:base+n≤arr.size)
    (da:∀i x,i<n→arr[base+i]?=some x→Dm x) (mono:∀i j x y,i≤j→j<n→arr[base+i]?=some x→arr[base+j]?=some y→R key y=false→R key x=false)
    (h:∀k,k≤n→(∀i x,i<k→arr[base+i]?=some x→R key x=false)→(∀i x,k≤i→i<n→arr[base+i]?=some x→R key x=true)→Q (some k) st) : wpS (model prog w) A E s (gallop' false key arr base n hint) Q st:=by
  have at_:∀i,i<n→∃x,arr[base+i]?=some x:=fun i hi=>⟨arr[base+i]'(by lia),Array.getElem?_eq_getElem (by lia)⟩
  let p:Nat→Bool:=fun i=>match arr[base+i]? with | some x=>!R key x | none=>false
  have pe:∀i x,arr[base+i]?=some x→p i = !R key x:=fun i x e=>by show (match arr[base+i]? with | some x=>!R key x | none=>false)=_; rw[e]
  refine gallop_run p hh (fun i j h1 h2 h3=>?_) (fun i hi Q' hq=>?_) fun k hk h1 h2=>h k hk (fun i x hi hx=>?_) fun i x hi hin hx=>?_
  · obtain ⟨x, hx⟩ := at_ i (by lia)
    obtain ⟨y,hy⟩:=at_ j h2
    rw[pe j y hy] at h3
    rw[pe i x hx,mono i j x y h1 h2 hx hy (by simpa using h3)]
    rfl
  · obtain ⟨x,hx⟩:=at_ i hi
    rw[pe i x hx] at hq
    unfold beyond
    refine wpS_bind (wpS_elem hx ?_)
    simp only[Bool.false_eq_true,if_false]
    refine wpS_bind (L key x st _ dk (da i x hi hx) hk ?_)
    exact wpS_pure hq
  · have:=h1 i hi
    rw[pe i x hx] at this
    simpa using this
  · have:=h2 i hi hin
    rw[pe i x hx] at this
    simpa using this
theorem gal_left (L:LtOk prog w A E s Dm R κ) {key:Keyed} {arr:Array Keyed} {base n hint:Nat} {st:SortSt} {Q:Option Nat→SortSt→Prop} (hk:kindOf st=κ) (dk:Dm key) (hh:hint<n) (hn:base+n≤arr.size)
    (da:∀i x,i<n→arr[base+i]?=some x→Dm x) (mono:∀i j x y,i≤j→j<n→arr[base+i]?=some x→arr[base+j]?=some y→R y key=true→R x key=true)
    (h:∀k,k≤n→(∀i x,i<k→arr[base+i]?=some x→R x key=true)→(∀i x,k≤i→i<n→arr[base+i]?=some x→R x key=false)→Q (some k) st) : wpS (model prog w) A E s (gallop' true key arr base n hint) Q st:=by
  have at_:∀i,i<n→∃x,arr[base+i]?=some x:=fun i hi=>⟨arr[base+i]'(by lia),Array.getElem?_eq_getElem (by lia)⟩
  let p:Nat→Bool:=fun i=>match arr[base+i]? with | some x=>R x key | none=>false
  have pe:∀i x,arr[base+i]?=some x→p i=R x key:=fun i x e=>by show (match arr[base+i]? with | some x=>R x key | none=>false)=_; rw[e]
  refine gallop_run p hh (fun i j h1 h2 h3=>?_) (fun i hi Q' hq=>?_) fun k hk h1 h2=>h k hk (fun i x hi hx=>?_) fun i x hi hin hx=>?_
  · obtain ⟨x, hx⟩ := at_ i (by lia)
    obtain ⟨y,hy⟩:=at_ j h2
    rw[pe j y hy] at h3
    rw[pe i x hx,mono i j x y h1 h2 hx hy h3]
  · obtain ⟨x,hx⟩:=at_ i hi
    rw[pe i x hx] at hq
    unfold beyond
    refine wpS_bind (wpS_elem hx ?_)
    simp only[if_true]
    exact L x key st _ (da i x hi hx) dk hk hq
  · have:=h1 i hi
    rw[pe i x hx] at this
    exact this
  · have:=h2 i hi hin
    rw[pe i x hx] at this
    exact this
end
end Tim
namespace Tim
open PySem PyProof.Rows
section
variable {prog:Program} {w:World} {A:Around} {E:Value→Shared→Prop} {s:Shared}
variable {Dm:Keyed→Prop} {R:Keyed→Keyed→Bool} {κ:SortKind}
theorem mergeLo_run (L:LtOk prog w A E s Dm R κ) {a b:Array Keyed} (P:Pre Dm R a b) {st:SortSt} (hk:kindOf st=κ) {Q:Array Keyed→SortSt→Prop} (h:∀r st',Same st st'→Good R a b r→Q r st') : wpS (model prog w) A E s (mergeLo' a b) Q st:=by
  have atA:∀i,i<a.size→∃x,a[i]?=some x:=fun i hi=>⟨a[i],Array.getElem?_eq_getElem hi⟩
  have atB:∀i,i<b.size→∃x,b[i]?=some x:=fun i hi=>⟨b[i],Array.getElem?_eq_getElem hi⟩
  obtain ⟨b0,hb0⟩:=atB 0 P.nb
  have M1:=P.start hb0
  rw[mergeLo'_eq0]
  refine wpS_bind (wpS_lift (wpAny_rule ⟨rfl,?_⟩))
  dsimp only
  refine wpS_bind (wpS_elem hb0 ?_)
  by_cases c1:(1 == b.size)=true
  · rw[if_pos c1]
    exact wpS_pure (h _ _ .rfl' (M1.doneB P.sa (by rw[←beq_iff_eq.mp c1]; exact Nat.le_refl _)))
  rw[if_neg c1]
  by_cases c2:(0+1 == a.size)=true
  · rw[if_pos c2]
    exact wpS_pure (h _ _ .rfl' (P.last M1 (beq_iff_eq.mp c2)))
  rw[if_neg c2]
  have hb1:1<b.size:=by
    have:=P.nb
    have:¬1=b.size:=fun e=>c1 (beq_iff_eq.mpr e)
    lia
  have ha1:0+1<a.size:=by
    have:=P.na
    have:¬0+1=a.size:=fun e=>c2 (beq_iff_eq.mpr e)
    lia
  refine wpS_bind (wpS_get ?_)
  refine wpS_bind (wpS_mono (wpS_forRange
    (I:=fun x c st'=>Same st st'∧∃out ia ib g,c=(none,out,ia,ib,g)∧ML R a b out ia ib∧ib<b.size∧ia+1<a.size∧x+1≤ia+ib)
    (Q:=fun c st'=>Same st st'∧∃r,c.1=some r∧Good R a b r) ?step ?fin ⟨.rfl',_,_,_,_,rfl,M1,hb1,ha1,by lia⟩) ?post)
  case post =>
    rintro c st' ⟨hS,r,e,hG⟩
    rw[e]
    dsimp only
    exact wpS_pure (h _ _ hS hG)
  case fin =>
    rintro c st' ⟨hS,out,ia,ib,g,rfl,M,h1,h2,h3⟩
    lia
  case step =>
    rintro x c st' _ hx ⟨hS,out,ia,ib,g,rfl,M,h1,h2,h3⟩
    dsimp only
    refine wpS_bind (wpS_mono (wpS_forRange
      (I:=fun y c st''=>st''=st'∧∃out ia ib ac bc,c=(none,out,ia,ib,ac,bc)∧ML R a b out ia ib∧ib<b.size∧ia+1<a.size∧x+1+y≤ia+ib)
      (Q:=fun c st''=>st''=st'∧((∃r,c.1=some r∧Good R a b r)∨∃out ia ib ac bc,c=(none,out,ia,ib,ac,bc)∧ML R a b out ia ib∧ib<b.size∧ia+1<a.size∧x+2≤ia+ib)) ?pstep ?pfin ⟨rfl,_,_,_,_,_,rfl,M,h1,h2,h3⟩) ?ppost)
    case pfin =>
      rintro c st'' ⟨rfl,out,ia,ib,ac,bc,rfl,M,h1,h2,h3⟩
      lia
    case pstep =>
      rintro y c st'' _ hy ⟨rfl,out,ia,ib,ac,bc,rfl,M,h1,h2,h3⟩
      dsimp only
      obtain ⟨u,hu⟩:=atB ib h1
      obtain ⟨v,hv⟩:=atA ia (by lia)
      refine wpS_bind (wpS_elem hu ?_)
      refine wpS_bind (wpS_elem hv ?_)
      refine wpS_bind (L u v _ _ (P.Db hu) (P.Da hv) (hS.1.trans hk) ?_)
      dsimp only
      cases c3:R u v with
      | true =>
        simp only[if_true]
        refine wpS_bind (wpS_elem hu ?_)
        have M':=P.stepB M hv hu c3
        by_cases c4:(ib+1 == b.size)=true
        · rw[if_pos c4]
          exact wpS_pure ⟨rfl,.inl ⟨_,rfl,M'.doneB P.sa (by rw[←beq_iff_eq.mp c4]; exact Nat.le_refl _)⟩⟩
        rw[if_neg c4]
        have h1':ib+1<b.size:=by
          have:¬ib+1=b.size:=fun e=>c4 (beq_iff_eq.mpr e)
          lia
        by_cases c5:bc+1≥g
        · rw[if_pos c5]
          exact wpS_pure ⟨rfl,.inr ⟨_,_,_,_,_,rfl,M',h1',h2,by lia⟩⟩
        · rw[if_neg c5]
          exact wpS_pure ⟨rfl,_,_,_,_,_,rfl,M',h1',h2,by lia⟩
      | false =>
        simp only[Bool.false_eq_true,if_false]
        refine wpS_bind (wpS_elem hv ?_)
        have M':=P.stepA M hv hu c3
        by_cases c4:(ia+1+1 == a.size)=true
        · rw[if_pos c4]
          exact wpS_pure ⟨rfl,.inl ⟨_,rfl,P.last M' (beq_iff_eq.mp c4)⟩⟩
        rw[if_neg c4]
        have h2':ia+1+1<a.size:=by
          have:¬ia+1+1=a.size:=fun e=>c4 (beq_iff_eq.mpr e)
          lia
        by_cases c5:ac+1≥g
        · rw[if_pos c5]
          exact wpS_pure ⟨rfl,.inr ⟨_,_,_,_,_,rfl,M',h1,h2',by lia⟩⟩
        · rw[if_neg c5]
          exact wpS_pure ⟨rfl,_,_,_,_,_,rfl,M',h1,h2',by lia⟩
    case ppost =>
      rintro c st'' ⟨rfl,z | ⟨out,ia,ib,ac,bc,rfl,M,h1,h2,h3⟩⟩
      · obtain ⟨r,e,hG⟩:=z
        rw[e]
        dsimp only
        exact wpS_pure ⟨hS,r,rfl,hG⟩
      dsimp only
      refine wpS_bind (wpS_lift (wpAny_rule ⟨rfl,?_⟩))
      refine wpS_bind (wpS_mono (wpS_forRange
        (I:=fun y c st''=>Same st st''∧∃out ia ib g ac bc,c=(none,out,ia,ib,g,ac,bc)∧ML R a b out ia ib∧ib<b.size∧ia+1<a.size∧x+2+y≤ia+ib)
        (Q:=fun c st''=>Same st st''∧((∃r,c.1=some r∧Good R a b r)∨∃out ia ib g ac bc,c=(none,out,ia,ib,g,ac,bc)∧ML R a b out ia ib∧ib<b.size∧ia+1<a.size∧x+2≤ia+ib)) ?gstep ?gfin ⟨hS,_,_,_,_,_,_,rfl,M,h1,h2,h3⟩) ?gpost)
      case gfin =>
        rintro c st'' ⟨hS,out,ia,ib,g,ac,bc,rfl,M,h1,h2,h3⟩
        lia
      case gpost =>
        rintro c st'' ⟨hS,z | ⟨out,ia,ib,g,ac,bc,rfl,M,h1,h2,h3⟩⟩
        · obtain ⟨r,e,hG⟩:=z
          rw[e]
          dsimp only
          exact wpS_pure ⟨hS,r,rfl,hG⟩
        dsimp only
        rw[setMinGallop'_eq]
        exact wpS_bind (wpS_modify (wpS_pure ⟨hS.setG _,_,_,_,_,rfl,M,h1,h2,by lia⟩))
      case gstep =>
        rintro y c st'' _ hy ⟨hS,out,ia,ib,g,ac,bc,rfl,M,h1,h2,h3⟩
        dsimp (config:={ zeta:=false }) only
        obtain ⟨u,hu⟩:=atB ib h1
        have sz:a.size - ia≠0:=by lia
        by_cases c3:g>1
        case' pos=>rw[if_pos c3]
        case' neg=>rw[if_neg c3]
        all_goals
          rw[setMinGallop'_eq]
          refine wpS_bind (wpS_modify (wpS_bind (wpS_elem hu ?_)))
          refine wpS_bind (gal_right L (hS.1.trans hk) (P.Db hu) (by lia) (by lia) (fun i x _ hx=>P.Da hx) (fun i j x y hij _ hx hy=>P.dnA (P.Db hu) (by lia) hx hy) fun k hkn k1 k2=>?_)
          dsimp (config:={ zeta:=false }) only
          have k2':∀j x,ia+k≤j→a[j]?=some x→R u x=true:=fun j x hj hx=>by
            have hjs:j<a.size:=(Array.getElem?_eq_some_iff.mp hx).1
            exact k2 (j - ia) x (by lia) (by lia) (by rw[show ia+(j - ia)=j by lia]; exact hx)
          have Mk:=P.runA M k hu k1
          by_cases c4:k>0
          case' pos =>
            rw[if_pos c4]
            by_cases c5:(ia+k+1 == a.size)=true
            · rw[if_pos c5]
              exact wpS_pure ⟨hS.setG _,.inl ⟨_,rfl,P.last Mk (beq_iff_eq.mp c5)⟩⟩
            rw[if_neg c5]
            by_cases c6:(ia+k == a.size)=true
            · rw[if_pos c6]
              exact wpS_pure ⟨hS.setG _,.inl ⟨_,rfl,Mk.doneA P.sb (by rw[←beq_iff_eq.mp c6]; exact Nat.le_refl _)⟩⟩
            rw[if_neg c6]
            have h2':ia+k+1<a.size:=by
              have:¬ia+k+1=a.size:=fun e=>c5 (beq_iff_eq.mpr e)
              have:¬ia+k=a.size:=fun e=>c6 (beq_iff_eq.mpr e)
              lia
            have h3':x+2+y≤ia+k+ib:=by lia
          case' neg =>
            rw[if_neg c4]
            have e0:k=0:=by lia
            subst e0
            have k2':∀j x,ia≤j→a[j]?=some x→R u x=true:=k2'
            have Mk:ML R a b out ia ib:=M
            have h2':=h2
            have h3':=h3
          all_goals
            refine wpS_bind (wpS_elem hu ?_)
            have M2:=P.pushB Mk hu k2'
            by_cases c7:(ib+1 == b.size)=true
            · rw[if_pos c7]
              exact wpS_pure ⟨hS.setG _,.inl ⟨_,rfl,M2.doneB P.sa (by rw[←beq_iff_eq.mp c7]; exact Nat.le_refl _)⟩⟩
            rw[if_neg c7]
            have h1':ib+1<b.size:=by
              have:¬ib+1=b.size:=fun e=>c7 (beq_iff_eq.mpr e)
              lia
            obtain ⟨v,hv⟩:=atA _ (Nat.lt_of_succ_lt h2')
            refine wpS_bind (wpS_elem hv ?_)
            refine wpS_bind (gal_left L (hS.1.trans hk) (P.Da hv) (by lia) (by lia) (fun i x _ hx=>P.Db hx) (fun i j x y hij _ hx hy=>P.dnB (P.Da hv) (by lia) hx hy) fun m hm m1 m2=>?_)
            dsimp (config:={ zeta:=false }) only
            have m2':∀j x,ib+1+m≤j→b[j]?=some x→R x v=false:=fun j x hj hx=>by
              have hjs:j<b.size:=(Array.getElem?_eq_some_iff.mp hx).1
              exact m2 (j - (ib+1)) x (by lia) (by lia) (by rw[show ib+1+(j - (ib+1))=j by lia]; exact hx)
            have Mm:=P.runB M2 m hv m1
            by_cases c8:m>0
            case' pos =>
              rw[if_pos c8]
              by_cases c9:(ib+1+m == b.size)=true
              · rw[if_pos c9]
                exact wpS_pure ⟨hS.setG _,.inl ⟨_,rfl,Mm.doneB P.sa (by rw[←beq_iff_eq.mp c9]; exact Nat.le_refl _)⟩⟩
              rw[if_neg c9]
              have h1'':ib+1+m<b.size:=by
                have:¬ib+1+m=b.size:=fun e=>c9 (beq_iff_eq.mpr e)
                lia
            case' neg =>
              rw[if_neg c8]
              have e0:m=0:=by lia
              subst e0
              have m2':∀j x,ib+1≤j→b[j]?=some x→R x v=false:=m2'
              have Mm:=M2
              have h1'':=h1'
            all_goals
              refine wpS_bind (wpS_elem hv ?_)
              have M3:=P.pushA Mm hv m2'
              split
              case isTrue c=>exact wpS_pure ⟨hS.setG _,.inl ⟨_,rfl,P.last M3 (beq_iff_eq.mp c)⟩⟩
              case isFalse c =>
                rw[beq_iff_eq] at c
                split
                · exact wpS_pure ⟨hS.setG _,.inr ⟨_,_,_,_,_,_,rfl,M3,h1'',by lia,by lia⟩⟩
                · exact wpS_pure ⟨hS.setG _,_,_,_,_,_,_,rfl,M3,h1'',by lia,by lia⟩
end
end Tim
namespace Tim
open PySem PyProof.Rows
def mergeHi':Array Keyed→Array Keyed→StateT SortSt Sem (Array Keyed):=sortPriv% PySem.Builtin.mergeHi
def doneH (a b out:Array Keyed) (na nb:Nat) : Array Keyed:=a.extract 0 na++b.extract 0 nb++out.reverse
def fstH (a b out:Array Keyed) (na nb:Nat) : Array Keyed:=b.extract 0 nb++a.extract 0 na++out.reverse
theorem mergeHi'_eq0 (a b:Array Keyed) : mergeHi' a b=(do
  rule "list.sort.merge-hi"
  let total:=a.size+b.size
  let mut na:=a.size - 1
  let mut nb:=b.size
  let mut out:Array Keyed:=#[←elem' a na]
  if na == 0 then return doneH a b out na nb
  if nb == 1 then return fstH a b out na nb
  let mut minGallop:=gallopOf (←get)
  for _ in [0:total] do
    let mut acount:=0
    let mut bcount:=0
    for _ in [0:total] do
      let some aWins ←lt' (←elem' b (nb - 1)) (←elem' a (na - 1)) | return doneH a b out na nb
      if aWins then
        na:=na - 1; out:=out.push (←elem' a na); acount:=acount+1; bcount:=0
        if na == 0 then return doneH a b out na nb
        if acount≥minGallop then break
      else
        nb:=nb - 1; out:=out.push (←elem' b nb); bcount:=bcount+1; acount:=0
        if nb == 1 then return fstH a b out na nb
        if bcount≥minGallop then break
    rule "list.sort.gallop"
    minGallop:=minGallop+1
    for _ in [0:total] do
      if minGallop>1 then minGallop:=minGallop - 1
      setMinGallop' minGallop
      let some at_ ←gallop' false (←elem' b (nb - 1)) a 0 na (na - 1) | return doneH a b out na nb
      let k:=na - at_
      acount:=k
      if k>0 then
        out:=out++(a.extract at_ na).reverse; na:=at_
        if na == 0 then return doneH a b out na nb
      nb:=nb - 1; out:=out.push (←elem' b nb)
      if nb == 1 then return fstH a b out na nb
      let some at_ ←gallop' true (←elem' a (na - 1)) b 0 nb (nb - 1) | return doneH a b out na nb
      let k:=nb - at_
      bcount:=k
      if k>0 then
        out:=out++(b.extract at_ nb).reverse; nb:=at_
        if nb == 1 then return fstH a b out na nb
        if nb == 0 then return doneH a b out na nb
      na:=na - 1; out:=out.push (←elem' a na)
      if na == 0 then return doneH a b out na nb
      if acount<7 && bcount<7 then break
    minGallop:=minGallop+1
    setMinGallop' minGallop
  unsupported "internal:list.sort.merge-bound"):=rfl
section
variable {Dm:Keyed→Prop} {R:Keyed→Keyed→Bool}
abbrev Rf (R:Keyed→Keyed→Bool) : Keyed→Keyed→Bool:=fun x y=>R y x
theorem Srt.rev {l:List Keyed} (h:Srt R l) : Srt (Rf R) l.reverse:=List.pairwise_reverse.mpr h
theorem Srt.unrev {l:List Keyed} (h:Srt (Rf R) l) : Srt R l.reverse:=List.pairwise_reverse.mpr h
theorem rev_seg (l:List Keyed) {n m:Nat} (h1:m≤n) (h2:n≤l.length) : (l.reverse.drop (l.length - n)).take (n - m)=((l.drop m).take (n - m)).reverse:=by
  rw[List.drop_reverse,List.take_reverse,←List.drop_take,List.length_take]
  congr 2
  · congr 1
    lia
  · congr 1
    lia
theorem rev_low (l:List Keyed) {n:Nat} (h2:n≤l.length) : l.reverse.drop (l.length - n)=(l.take n).reverse:=by
  rw[List.drop_reverse]
  congr 2
  lia
variable {a b out:Array Keyed} {na nb:Nat} {x y:Keyed}
abbrev MH (R:Keyed→Keyed→Bool) (a b out:Array Keyed) (na nb:Nat) : Prop:=MI (Rf R) a.toList.reverse b.toList.reverse out.toList (a.toList.length - na) (b.toList.length - nb)
theorem mem_take_at {l:List Keyed} {i:Nat} {y:Keyed} (h:y∈l.take i) : ∃j,j<i∧l[j]?=some y:=by
  have:=mem_drop_take_at (i:=0) (by simpa using h)
  simpa using this
theorem Pre.segA (P:Pre Dm R a b) (M:MH R a b out na nb) {m:Nat} (h1:m≤na) (h2:na≤a.size) (h3:nb≤b.size) (h:∀i x,m≤i→i<na→a[i]?=some x→∀j y,j<nb→b[j]?=some y→R x y=false) {out':Array Keyed} (eo:out'.toList=out.toList++((a.toList.drop m).take (na - m)).reverse) : MH R a b out' m nb:=by
  have hl:na≤a.toList.length:=by rw[Array.length_toList]; exact h2
  have hl':nb≤b.toList.length:=by rw[Array.length_toList]; exact h3
  have:=M.pushAs (na - m) P.sa.rev fun z hz u hu=>by
    rw[rev_seg _ h1 hl,List.mem_reverse] at hz
    rw[rev_low _ hl',List.mem_reverse] at hu
    obtain ⟨j,h4,h5⟩:=mem_take_at hu
    obtain ⟨i,h6,h7⟩:=mem_drop_take_at hz
    rw[Array.getElem?_toList] at h5 h7
    exact h (m+i) z (by lia) (by lia) h7 j u h4 h5
  rw[rev_seg _ h1 hl,←eo,show a.toList.length - na+(na - m)=a.toList.length - m by lia] at this
  exact this
theorem Pre.segB (P:Pre Dm R a b) (M:MH R a b out na nb) {m:Nat} (h1:m≤nb) (h2:na≤a.size) (h3:nb≤b.size) (h:∀i x,m≤i→i<nb→b[i]?=some x→∀j y,j<na→a[j]?=some y→R x y=false) {out':Array Keyed} (eo:out'.toList=out.toList++((b.toList.drop m).take (nb - m)).reverse) : MH R a b out' na m:=by
  have hl:na≤a.toList.length:=by rw[Array.length_toList]; exact h2
  have hl':nb≤b.toList.length:=by rw[Array.length_toList]; exact h3
  have:=M.pushBs (nb - m) P.sb.rev fun z hz u hu=>by
    rw[rev_seg _ h1 hl',List.mem_reverse] at hz
    rw[rev_low _ hl,List.mem_reverse] at hu
    obtain ⟨j,h4,h5⟩:=mem_take_at hu
    obtain ⟨i,h6,h7⟩:=mem_drop_take_at hz
    rw[Array.getElem?_toList] at h5 h7
    exact h (m+i) z (by lia) (by lia) h7 j u h4 h5
  rw[rev_seg _ h1 hl',←eo,show b.toList.length - nb+(nb - m)=b.toList.length - m by lia] at this
  exact this
theorem one_seg {a:Array Keyed} {n:Nat} {x:Keyed} (h0:0<n) (h:a[n - 1]?=some x) : ((a.toList.drop (n - 1)).take (n - (n - 1))).reverse = [x]:=by
  have:=toL h
  obtain ⟨h1,e1⟩:=List.getElem?_eq_some_iff.mp this
  rw[List.drop_eq_getElem_cons h1,e1,show n - (n - 1)=1 by lia]
  rfl
theorem Pre.endA (P:Pre Dm R a b) (M:MH R a b out na nb) (h0:0<na) (h2:na≤a.size) (h3:nb≤b.size) (hx:a[na - 1]?=some x) (h:∀j y,j<nb→b[j]?=some y→R x y=false) : MH R a b (out.push x) (na - 1) nb:=
  P.segA M (by lia) h2 h3 (fun i z h4 h5 h6=>by
    have e:i=na - 1:=by lia
    subst e
    rw[hx] at h6
    cases h6
    exact h) (by rw[one_seg h0 hx,Array.toList_push])
theorem Pre.endB (P:Pre Dm R a b) (M:MH R a b out na nb) (h0:0<nb) (h2:na≤a.size) (h3:nb≤b.size) (hx:b[nb - 1]?=some x) (h:∀j y,j<na→a[j]?=some y→R x y=false) : MH R a b (out.push x) na (nb - 1):=
  P.segB M (by lia) h2 h3 (fun i z h4 h5 h6=>by
    have e:i=nb - 1:=by lia
    subst e
    rw[hx] at h6
    cases h6
    exact h) (by rw[one_seg h0 hx,Array.toList_push])
theorem ext_seg {a out:Array Keyed} {m n:Nat} : (out++(a.extract m n).reverse).toList=out.toList++((a.toList.drop m).take (n - m)).reverse:=by
  rw[Array.toList_append,Array.toList_reverse,ext_list]
theorem Pre.abv (P:Pre Dm R a b) {i j:Nat} {z:Keyed} (dx:Dm x) (h:j≤i) (hy:b[i]?=some y) (hz:b[j]?=some z) (hl:R y x=true) : R x z=false:=
  P.o.tr z y x (P.Db hz) (P.Db hy) dx (P.leB h hz hy) (P.o.as_ _ _ (P.Db hy) dx hl)
theorem finH {res:Array Keyed} {r:List Keyed} (M:MH R a b out na nb) (h2:na≤a.size) (h3:nb≤b.size) (hp:r.Perm (a.toList.take na++b.toList.take nb)) (hs:Srt R r) (e:res.toList=r++out.toList.reverse) : Good R a b res:=by
  have hl:na≤a.toList.length:=by rw[Array.length_toList]; exact h2
  have hl':nb≤b.toList.length:=by rw[Array.length_toList]; exact h3
  have:=M.fin (r:=r.reverse) (by
    rw[rev_low _ hl,rev_low _ hl']
    exact (List.reverse_perm _).trans (hp.trans ((List.reverse_perm _).symm.append (List.reverse_perm _).symm))) hs.rev
  have e':res.toList=(out.toList++r.reverse).reverse:=by rw[e,List.reverse_append,List.reverse_reverse]
  refine ⟨?_,?_⟩
  · rw[e']
    refine (List.reverse_perm _).trans (this.1.trans ((List.reverse_perm _).append (List.reverse_perm _)))
  · rw[e']
    exact this.2.unrev
theorem ext0 (a:Array Keyed) (n:Nat) : (a.extract 0 n).toList=a.toList.take n:=by
  rw[ext_list]
  simp
theorem Pre.noA (P:Pre Dm R a b) (M:MH R a b out 0 nb) (h3:nb≤b.size) : Good R a b (doneH a b out 0 nb):=
  finH (r:=b.toList.take nb) M (Nat.zero_le _) h3 (by simp) (List.Pairwise.sublist (List.take_sublist _ _) P.sb) (by
    unfold doneH
    rw[Array.toList_append,Array.toList_append,ext0,ext0,Array.toList_reverse]
    simp)
theorem Pre.noB (P:Pre Dm R a b) (M:MH R a b out na 0) (h3:na≤a.size) : Good R a b (doneH a b out na 0):=
  finH (r:=a.toList.take na) M h3 (Nat.zero_le _) (by simp) (List.Pairwise.sublist (List.take_sublist _ _) P.sa) (by
    unfold doneH
    rw[Array.toList_append,Array.toList_append,ext0,ext0,Array.toList_reverse]
    simp)
theorem Pre.oneB (P:Pre Dm R a b) (M:MH R a b out na 1) (h2:na≤a.size) (h3:1≤b.size) : Good R a b (fstH a b out na 1):=by
  refine finH (r:=b.toList.take 1++a.toList.take na) M h2 h3 List.perm_append_comm ?_ (by
    unfold fstH
    rw[Array.toList_append,Array.toList_append,ext0,ext0,Array.toList_reverse])
  refine List.pairwise_append.mpr ⟨List.Pairwise.sublist (List.take_sublist _ _) P.sb,List.Pairwise.sublist (List.take_sublist _ _) P.sa,fun x hx y hy=>?_⟩
  obtain ⟨j,h4,h5⟩:=mem_take_at hx
  have e:j=0:=by lia
  subst e
  rw[Array.getElem?_toList] at h5
  exact P.o.as_ _ _ (P.Db h5) (P.da _ (List.mem_of_mem_take hy)) (P.fst y (List.mem_of_mem_take hy) x h5)
theorem Pre.startH (P:Pre Dm R a b) (hx:a[a.size - 1]?=some x) : MH R a b #[x] (a.size - 1) b.size:=by
  have M0:MH R a b #[] a.size b.size:=by
    have e1:a.toList.length - a.size=0:=by rw[Array.length_toList]; lia
    have e2:b.toList.length - b.size=0:=by rw[Array.length_toList]; lia
    unfold MH
    rw[e1,e2]
    exact ⟨List.Perm.nil,List.Pairwise.nil,fun x hx=>nomatch hx⟩
  exact P.endA M0 P.na (Nat.le_refl _) (Nat.le_refl _) hx fun j y _ hy=>P.o.as_ _ _ (P.Db hy) (P.Da hx) (P.lst y (List.mem_of_getElem? (toL hy)) x hx)
end
end Tim
namespace Tim
open PySem PyProof.Rows
section
variable {prog:Program} {w:World} {A:Around} {E:Value→Shared→Prop} {s:Shared}
variable {Dm:Keyed→Prop} {R:Keyed→Keyed→Bool} {κ:SortKind}
theorem mergeHi_run (L:LtOk prog w A E s Dm R κ) {a b:Array Keyed} (P:Pre Dm R a b) {st:SortSt} (hk:kindOf st=κ) {Q:Array Keyed→SortSt→Prop} (h:∀r st',Same st st'→Good R a b r→Q r st') : wpS (model prog w) A E s (mergeHi' a b) Q st:=by
  have atA:∀i,i<a.size→∃x,a[i]?=some x:=fun i hi=>⟨a[i],Array.getElem?_eq_getElem hi⟩
  have atB:∀i,i<b.size→∃x,b[i]?=some x:=fun i hi=>⟨b[i],Array.getElem?_eq_getElem hi⟩
  have pa:=P.na
  have pb:=P.nb
  obtain ⟨a0,ha0⟩:=atA (a.size - 1) (by lia)
  have M1:=P.startH ha0
  rw[mergeHi'_eq0]
  refine wpS_bind (wpS_lift (wpAny_rule ⟨rfl,?_⟩))
  dsimp only
  refine wpS_bind (wpS_elem ha0 ?_)
  by_cases c1:(a.size - 1 == 0)=true
  · rw[if_pos c1]
    rw[beq_iff_eq] at c1
    rw[c1] at M1 ⊢
    exact wpS_pure (h _ _ .rfl' (P.noA M1 (Nat.le_refl _)))
  rw[if_neg c1]
  by_cases c2:(b.size == 1)=true
  · rw[if_pos c2]
    rw[beq_iff_eq] at c2
    rw[c2] at M1 ⊢
    exact wpS_pure (h _ _ .rfl' (P.oneB M1 (by lia) pb))
  rw[if_neg c2]
  rw[beq_iff_eq] at c1 c2
  refine wpS_bind (wpS_get ?_)
  refine wpS_bind (wpS_mono (wpS_forRange
    (I:=fun x c st'=>Same st st'∧∃na nb out g,c=(none,na,nb,out,g)∧MH R a b out na nb∧1≤na∧2≤nb∧na≤a.size∧nb≤b.size∧x+1+na+nb≤a.size+b.size)
    (Q:=fun c st'=>Same st st'∧∃r,c.1=some r∧Good R a b r) ?step ?fin ⟨.rfl',_,_,_,_,rfl,M1,by lia,by lia,by lia,Nat.le_refl _,by lia⟩) ?post)
  case post =>
    rintro c st' ⟨hS,r,e,hG⟩
    rw[e]
    dsimp only
    exact wpS_pure (h _ _ hS hG)
  case fin =>
    rintro c st' ⟨hS,na,nb,out,g,rfl,M,h1,h2,ha,hb,h3⟩
    lia
  case step =>
    rintro x c st' _ hx ⟨hS,na,nb,out,g,rfl,M,h1,h2,ha,hb,h3⟩
    dsimp only
    refine wpS_bind (wpS_mono (wpS_forRange
      (I:=fun y c st''=>st''=st'∧∃na nb out ac bc,c=(none,na,nb,out,ac,bc)∧MH R a b out na nb∧1≤na∧2≤nb∧na≤a.size∧nb≤b.size∧x+1+y+na+nb≤a.size+b.size)
      (Q:=fun c st''=>st''=st'∧((∃r,c.1=some r∧Good R a b r)∨∃na nb out ac bc,c=(none,na,nb,out,ac,bc)∧MH R a b out na nb∧1≤na∧2≤nb∧na≤a.size∧nb≤b.size∧x+2+na+nb≤a.size+b.size)) ?pstep ?pfin ⟨rfl,_,_,_,_,_,rfl,M,h1,h2,ha,hb,h3⟩) ?ppost)
    case pfin =>
      rintro c st'' ⟨rfl,na,nb,out,ac,bc,rfl,M,h1,h2,ha,hb,h3⟩
      lia
    case pstep =>
      rintro y c st'' _ hy ⟨rfl,na,nb,out,ac,bc,rfl,M,h1,h2,ha,hb,h3⟩
      dsimp only
      obtain ⟨u,hu⟩:=atB (nb - 1) (by lia)
      obtain ⟨v,hv⟩:=atA (na - 1) (by lia)
      refine wpS_bind (wpS_elem hu ?_)
      refine wpS_bind (wpS_elem hv ?_)
      refine wpS_bind (L u v _ _ (P.Db hu) (P.Da hv) (hS.1.trans hk) ?_)
      dsimp only
      cases c3:R u v with
      | true =>
        simp only[if_true]
        refine wpS_bind (wpS_elem hv ?_)
        have M':=P.endA M (by lia) ha hb hv fun j y hj hy=>P.abv (P.Da hv) (by lia) hu hy c3
        by_cases c4:(na - 1 == 0)=true
        · rw[if_pos c4]
          rw[beq_iff_eq] at c4
          rw[c4] at M' ⊢
          exact wpS_pure ⟨rfl,.inl ⟨_,rfl,P.noA M' hb⟩⟩
        rw[if_neg c4]
        rw[beq_iff_eq] at c4
        by_cases c5:ac+1≥g
        · rw[if_pos c5]
          exact wpS_pure ⟨rfl,.inr ⟨_,_,_,_,_,rfl,M',by lia,h2,by lia,hb,by lia⟩⟩
        · rw[if_neg c5]
          exact wpS_pure ⟨rfl,_,_,_,_,_,rfl,M',by lia,h2,by lia,hb,by lia⟩
      | false =>
        simp only[Bool.false_eq_true,if_false]
        refine wpS_bind (wpS_elem hu ?_)
        have M':=P.endB M (by lia) ha hb hu fun j y hj hy=>P.dnA (P.Db hu) (by lia) hy hv c3
        by_cases c4:(nb - 1 == 1)=true
        · rw[if_pos c4]
          rw[beq_iff_eq] at c4
          rw[c4] at M' ⊢
          exact wpS_pure ⟨rfl,.inl ⟨_,rfl,P.oneB M' ha pb⟩⟩
        rw[if_neg c4]
        rw[beq_iff_eq] at c4
        by_cases c5:bc+1≥g
        · rw[if_pos c5]
          exact wpS_pure ⟨rfl,.inr ⟨_,_,_,_,_,rfl,M',h1,by lia,ha,by lia,by lia⟩⟩
        · rw[if_neg c5]
          exact wpS_pure ⟨rfl,_,_,_,_,_,rfl,M',h1,by lia,ha,by lia,by lia⟩
    case ppost =>
      rintro c st'' ⟨rfl,z | ⟨na,nb,out,ac,bc,rfl,M,h1,h2,ha,hb,h3⟩⟩
      · obtain ⟨r,e,hG⟩:=z
        rw[e]
        dsimp only
        exact wpS_pure ⟨hS,r,rfl,hG⟩
      dsimp only
      refine wpS_bind (wpS_lift (wpAny_rule ⟨rfl,?_⟩))
      refine wpS_bind (wpS_mono (wpS_forRange
        (I:=fun y c st''=>Same st st''∧∃na nb out g ac bc,c=(none,na,nb,out,g,ac,bc)∧MH R a b out na nb∧1≤na∧2≤nb∧na≤a.size∧nb≤b.size∧x+2+y+na+nb≤a.size+b.size)
        (Q:=fun c st''=>Same st st''∧((∃r,c.1=some r∧Good R a b r)∨∃na nb out g ac bc,c=(none,na,nb,out,g,ac,bc)∧MH R a b out na nb∧1≤na∧2≤nb∧na≤a.size∧nb≤b.size∧x+2+na+nb≤a.size+b.size)) ?gstep ?gfin ⟨hS,_,_,_,_,_,_,rfl,M,h1,h2,ha,hb,h3⟩) ?gpost)
      case gfin =>
        rintro c st'' ⟨hS,na,nb,out,g,ac,bc,rfl,M,h1,h2,ha,hb,h3⟩
        lia
      case gpost =>
        rintro c st'' ⟨hS,z | ⟨na,nb,out,g,ac,bc,rfl,M,h1,h2,ha,hb,h3⟩⟩
        · obtain ⟨r,e,hG⟩:=z
          rw[e]
          dsimp only
          exact wpS_pure ⟨hS,r,rfl,hG⟩
        dsimp only
        rw[setMinGallop'_eq]
        exact wpS_bind (wpS_modify (wpS_pure ⟨hS.setG _,_,_,_,_,rfl,M,h1,h2,ha,hb,by lia⟩))
      case gstep =>
        rintro y c st'' _ hy ⟨hS,na,nb,out,g,ac,bc,rfl,M,h1,h2,ha,hb,h3⟩
        dsimp (config:={ zeta:=false }) only
        obtain ⟨u,hu⟩:=atB (nb - 1) (by lia)
        by_cases c3:g>1
        case' pos=>rw[if_pos c3]
        case' neg=>rw[if_neg c3]
        all_goals
          rw[setMinGallop'_eq]
          refine wpS_bind (wpS_modify (wpS_bind (wpS_elem hu ?_)))
          refine wpS_bind (gal_right L (hS.1.trans hk) (P.Db hu) (by lia) (by lia) (fun i x _ hx=>P.Da hx) (fun i j x y hij _ hx hy=>P.dnA (P.Db hu) (by lia) hx hy) fun k hkn k1 k2=>?_)
          dsimp (config:={ zeta:=false }) only
          simp only[Nat.zero_add] at k1 k2
          have Mk:=P.segA M hkn ha hb (fun i x h4 h5 hx j y hj hy=>P.abv (P.Da hx) (by lia) hu hy (k2 i x h4 h5 hx)) (out':=out++(a.extract k na).reverse) ext_seg
          by_cases c4:na - k>0
          case' pos =>
            rw[if_pos c4]
            by_cases c5:(k == 0)=true
            · rw[if_pos c5]
              rw[beq_iff_eq] at c5
              rw[c5] at Mk ⊢
              exact wpS_pure ⟨hS.setG _,.inl ⟨_,rfl,P.noA Mk hb⟩⟩
            rw[if_neg c5]
            rw[beq_iff_eq] at c5
            have h1':1≤k:=by lia
            have hl:k≤na:=by lia
            have ha':k≤a.size:=by lia
          case' neg =>
            rw[if_neg c4]
            have e0:k=na:=by lia
            subst e0
            have Mk:=M
            have h1':=h1
            have ha':=ha
            have hl:=Nat.le_refl k
          all_goals
            refine wpS_bind (wpS_elem hu ?_)
            have M2:=P.endB Mk (by lia) ha' hb hu fun j y hj hy=>k1 j y hj hy
            by_cases c7:(nb - 1 == 1)=true
            · rw[if_pos c7]
              rw[beq_iff_eq] at c7
              rw[c7] at M2 ⊢
              exact wpS_pure ⟨hS.setG _,.inl ⟨_,rfl,P.oneB M2 ha' pb⟩⟩
            rw[if_neg c7]
            rw[beq_iff_eq] at c7
            obtain ⟨v,hv⟩:=atA (k - 1) (by lia)
            refine wpS_bind (wpS_elem hv ?_)
            refine wpS_bind (gal_left L (hS.1.trans hk) (P.Da hv) (by lia) (by lia) (fun i x _ hx=>P.Db hx) (fun i j x y hij _ hx hy=>P.dnB (P.Da hv) (by lia) hx hy) fun m hm m1 m2=>?_)
            dsimp (config:={ zeta:=false }) only
            simp only[Nat.zero_add] at m1 m2
            have Mm:=P.segB M2 hm ha' (by lia) (fun i x h4 h5 hx j y hj hy=>P.dnA (P.Db hx) (by lia) hy hv (m2 i x h4 h5 hx)) (out':=_++(b.extract m (nb - 1)).reverse) ext_seg
            by_cases c8:nb - 1 - m>0
            case' pos =>
              rw[if_pos c8]
              by_cases c9:(m == 1)=true
              · rw[if_pos c9]
                rw[beq_iff_eq] at c9
                rw[c9] at Mm ⊢
                exact wpS_pure ⟨hS.setG _,.inl ⟨_,rfl,P.oneB Mm ha' pb⟩⟩
              rw[if_neg c9]
              by_cases c10:(m == 0)=true
              · rw[if_pos c10]
                rw[beq_iff_eq] at c10
                rw[c10] at Mm ⊢
                exact wpS_pure ⟨hS.setG _,.inl ⟨_,rfl,P.noB Mm ha'⟩⟩
              rw[if_neg c10]
              rw[beq_iff_eq] at c9 c10
              have h2':2≤m:=by lia
              have hm':m≤nb - 1:=by lia
            case' neg =>
              rw[if_neg c8]
              have e0:m=nb - 1:=by lia
              subst e0
              have Mm:=M2
              have h2':2≤nb - 1:=by lia
              have hm':=Nat.le_refl (nb - 1)
            all_goals
              refine wpS_bind (wpS_elem hv ?_)
              have M3:=P.endA Mm (by lia) ha' (by lia) hv fun j y hj hy=>P.o.as_ _ _ (P.Db hy) (P.Da hv) (m1 j y hj hy)
              split
              case isTrue c =>
                rw[beq_iff_eq] at c
                rw[c] at M3 ⊢
                exact wpS_pure ⟨hS.setG _,.inl ⟨_,rfl,P.noA M3 (by lia)⟩⟩
              case isFalse c =>
                rw[beq_iff_eq] at c
                split
                · exact wpS_pure ⟨hS.setG _,.inr ⟨_,_,_,_,_,_,rfl,M3,by lia,h2',by lia,by lia,by lia⟩⟩
                · exact wpS_pure ⟨hS.setG _,_,_,_,_,_,_,rfl,M3,by lia,h2',by lia,by lia,by lia⟩
end
end Tim
namespace Tim
open PySem PyProof.Rows
def putBack (sa:Nat) (merged:Array Keyed) (a:Array Keyed) : Array Keyed:=merged.toList.zipIdx.foldl (fun a (p,j)=>a.setIfInBounds (sa+j) p) a
theorem mergeAt'_eq (i:Nat) : mergeAt' i=(do
  let s ←get
  let (some (sa,na,power),some (sb,nb,_)):=((pendingOf s)[i]?,(pendingOf s)[i+1]?) | unsupported "internal:list.sort.pending"
  set (setPending s (((pendingOf s).setIfInBounds i (sa,na+nb,power)).eraseIdxIfInBounds (i+1)))
  let some k ←gallop' false (←elem' (arrOf s) sb) (arrOf s) sa na 0 | return false
  let (sa,na):=(sa+k,na - k)
  if na == 0 then return true
  let some nb ←gallop' true (←elem' (arrOf s) (sa+na - 1)) (arrOf s) sb nb (nb - 1) | return false
  if nb == 0 then return true
  let x:=(arrOf s).extract sa sb
  let y:=(arrOf s).extract sb (sb+nb)
  let merged ←if na≤nb then mergeLo' x y else mergeHi' x y
  modify fun s=>setArr s (putBack sa merged (arrOf s))
  return (failedOf (←get)).isNone):=rfl
theorem putBack_go (sa:Nat) : ∀(ms:List Keyed) (k:Nat) (arr:Array Keyed),sa+k+ms.length≤arr.size→((ms.zipIdx k).foldl (fun (a:Array Keyed) (pj:Keyed×Nat)=>a.setIfInBounds (sa+pj.2) pj.1) arr).toList=arr.toList.take (sa+k)++ms++arr.toList.drop (sa+k+ms.length)
  | [],k,arr,h=>by simp
  | m::ms,k,arr,h=>by
    rw[List.zipIdx_cons,List.foldl_cons,putBack_go sa ms (k+1) _ (by rw[Array.size_setIfInBounds]; simp at h; lia),Array.toList_setIfInBounds]
    have hl:sa+k<arr.toList.length:=by rw[Array.length_toList]; simp at h; lia
    dsimp only
    rw[show sa+(k+1)=sa+k+1 by lia,List.take_succ_eq_append_getElem (by rw[List.length_set]; exact hl),List.getElem_set_self,List.take_set_of_le (Nat.le_refl _),List.drop_set_of_lt (by lia)]
    rw[List.append_assoc,List.append_assoc,List.append_assoc]
    simp only[List.singleton_append,List.cons_append,List.nil_append,List.length_cons]
    rw[show sa+k+1+ms.length=sa+k+(ms.length+1) by lia]
theorem putBack_list {sa:Nat} {merged arr:Array Keyed} (h:sa+merged.size≤arr.size) : (putBack sa merged arr).toList=arr.toList.take sa++merged.toList++arr.toList.drop (sa+merged.size):=by
  have:=putBack_go sa merged.toList 0 arr (by rw[Array.length_toList]; lia)
  rw[Nat.add_zero,Array.length_toList] at this
  exact this
section
variable {Dm:Keyed→Prop} {R:Keyed→Keyed→Bool}
def seg (l:List Keyed) (s n:Nat) : List Keyed:=(l.drop s).take n
theorem seg_at {l:List Keyed} {s n i:Nat} (h:i<n) : (seg l s n)[i]?=l[s+i]?:=by
  unfold seg
  rw[List.getElem?_take_of_lt h,List.getElem?_drop]
theorem seg_at_some {l:List Keyed} {s n i:Nat} {x:Keyed} (h:(seg l s n)[i]?=some x) : i<n∧l[s+i]?=some x:=by
  have:i<n:=by
    have:=(List.getElem?_eq_some_iff.mp h).1
    unfold seg at this
    rw[List.length_take] at this
    lia
  exact ⟨this,by rw[←seg_at this]; exact h⟩
theorem seg_mem {l:List Keyed} {s n:Nat} {x:Keyed} (h:x∈seg l s n) : ∃i,i<n∧l[s+i]?=some x:=mem_drop_take_at h
theorem seg_add (l:List Keyed) (s n m:Nat) : seg l s (n+m)=seg l s n++seg l (s+n) m:=by
  unfold seg
  rw[List.take_add,List.drop_drop]
theorem seg_split (l:List Keyed) (s n:Nat) : l=l.take s++seg l s n++l.drop (s+n):=by
  unfold seg
  rw[List.append_assoc,←List.drop_drop,List.take_append_drop,List.take_append_drop]
theorem seg_ext (a:Array Keyed) (i j:Nat) : (a.extract i j).toList=seg a.toList i (j - i):=ext_list a i j
theorem join_srt (o:Ord Dm R) {X0 X1 Y0 Y1 m:List Keyed} (hd:∀x,x∈X0++X1++(Y0++Y1)→Dm x) (sX:Srt R (X0++X1)) (sY:Srt R (Y0++Y1)) (hm:m.Perm (X1++Y0)) (sm:Srt R m)
    (h0:∀x∈X0,∀y∈Y0++Y1,R y x=false) (h1:∀x∈X1,∀y∈Y1,R y x=false) : Srt R (X0++m++Y1):=by
  have a:=List.pairwise_append.mp sX
  have b:=List.pairwise_append.mp sY
  refine List.pairwise_append.mpr ⟨List.pairwise_append.mpr ⟨a.1,sm,fun x hx y hy=>?_⟩,b.2.1,fun x hx y hy=>?_⟩
  · rcases List.mem_append.mp (hm.mem_iff.mp hy) with z | z
    · exact a.2.2 x hx y z
    · exact h0 x hx y (List.mem_append_left _ z)
  · rcases List.mem_append.mp hx with z | z
    · exact h0 x z y (List.mem_append_right _ hy)
    · rcases List.mem_append.mp (hm.mem_iff.mp z) with u | u
      · exact h1 x u y hy
      · exact b.2.2 x u y hy
variable {prog:Program} {w:World} {A:Around} {E:Value→Shared→Prop} {s:Shared} {κ:SortKind}
theorem wpS_set {σ:Type} {M:Model} {st st':σ} {Q:PUnit→σ→Prop} (h:Q ⟨⟩ st') : wpS M A E s (set st':StateT σ Sem PUnit) Q st:=by
  unfold wpS; rw[StateT.run_set]; exact wpAny_pure ⟨rfl,h⟩
def Done (R:Keyed→Keyed→Bool) (l l':List Keyed) (s n:Nat) : Prop:=∃m,l'=l.take s++m++l.drop (s+n)∧m.Perm (seg l s n)∧Srt R m
theorem mergeAt_run (L:LtOk prog w A E s Dm R κ) (o:Ord Dm R) {st:SortSt} (hk:kindOf st=κ) (hf:failedOf st=none) (hd:∀x∈(arrOf st).toList,Dm x) {i sa na pw sb nb pb:Nat}
    (h1:(pendingOf st)[i]?=some (sa,na,pw)) (h2:(pendingOf st)[i+1]?=some (sb,nb,pb)) (hs:sa+na=sb) (hn:1≤na) (hm:1≤nb) (hz:sb+nb≤(arrOf st).size)
    (sX:Srt R (seg (arrOf st).toList sa na)) (sY:Srt R (seg (arrOf st).toList sb nb)) {Q:Bool→SortSt→Prop}
    (h:∀st',kindOf st'=κ→failedOf st'=none→pendingOf st'=((pendingOf st).setIfInBounds i (sa,na+nb,pw)).eraseIdxIfInBounds (i+1)→Done R (arrOf st).toList (arrOf st').toList sa (na+nb)→Q true st') : wpS (model prog w) A E s (mergeAt' i) Q st:=by
  subst hs
  generalize hl:(arrOf st).toList=l at *
  have hlen:l.length=(arrOf st).size:=by rw[←hl,Array.length_toList]
  have at_:∀j,j<sa+na+nb→∃x,(arrOf st)[j]?=some x:=fun j hj=>⟨(arrOf st)[j]'(by lia),Array.getElem?_eq_getElem (by lia)⟩
  have toL':∀{j x},(arrOf st)[j]?=some x→l[j]?=some x:=fun {j x} e=>by rw[←hl]; exact toL e
  have D:∀{j x},(arrOf st)[j]?=some x→Dm x:=fun {j x} e=>hd x (List.mem_of_getElem? (toL' e))
  have dX:∀x∈seg l sa na,Dm x:=fun x hx=>by obtain ⟨j,_,e⟩:=seg_mem hx; exact hd x (List.mem_of_getElem? e)
  have dY:∀x∈seg l (sa+na) nb,Dm x:=fun x hx=>by obtain ⟨j,_,e⟩:=seg_mem hx; exact hd x (List.mem_of_getElem? e)
  have leX:∀{i j x y},i≤j→j<na→(arrOf st)[sa+i]?=some x→(arrOf st)[sa+j]?=some y→R y x=false:=fun {i j x y} hij hj hx hy =>
    sX.le o dX hij (by rw[seg_at (by lia)]; exact toL' hx) (by rw[seg_at hj]; exact toL' hy)
  have leY:∀{i j x y},i≤j→j<nb→(arrOf st)[sa+na+i]?=some x→(arrOf st)[sa+na+j]?=some y→R y x=false:=fun {i j x y} hij hj hx hy =>
    sY.le o dY hij (by rw[seg_at (by lia)]; exact toL' hx) (by rw[seg_at hj]; exact toL' hy)
  obtain ⟨y0,hy0⟩:=at_ (sa+na) (by lia)
  rw[mergeAt'_eq]
  refine wpS_bind (wpS_get ?_)
  rw[h1,h2]
  dsimp (config:={ zeta:=false }) only
  refine wpS_bind (wpS_set (wpS_bind (wpS_elem hy0 ?_)))
  refine wpS_bind (gal_right L hk (D hy0) (by lia) (by lia) (fun i x _ hx=>D hx) (fun i j x y hij hj hx hy hr=>o.tr x y y0 (D hx) (D hy) (D hy0) (leX hij hj hx hy) hr) fun k hkn k1 k2=>?_)
  dsimp (config:={ zeta:=false }) only
  have low:∀x∈seg l sa k,∀y∈seg l (sa+na) nb,R y x=false:=fun x hx y hy=>by
    obtain ⟨i,h3,h4⟩:=seg_mem hx
    obtain ⟨j,h5,h6⟩:=seg_mem hy
    rw[←hl,Array.getElem?_toList] at h4 h6
    exact o.tr x y0 y (D h4) (D hy0) (D h6) (k1 i x h3 h4) (leY (i:=0) (Nat.zero_le _) h5 (by rw[Nat.add_zero]; exact hy0) h6)
  by_cases c1:(na - k == 0)=true
  · rw[if_pos c1]
    rw[beq_iff_eq] at c1
    have e:k=na:=by lia
    subst e
    refine wpS_pure (h _ hk hf rfl ⟨seg l sa (k+nb),?_,.refl _,?_⟩)
    · show (arrOf st).toList=_
      rw[hl]
      exact seg_split _ _ _
    · rw[seg_add]
      exact List.pairwise_append.mpr ⟨sX,sY,low⟩
  rw[if_neg c1]
  rw[beq_iff_eq] at c1
  obtain ⟨z,hz'⟩:=at_ (sa+k+(na - k) - 1) (by lia)
  refine wpS_bind (wpS_elem hz' ?_)
  rw[show sa+k+(na - k) - 1=sa+(na - 1) by lia] at hz'
  refine wpS_bind (gal_left L hk (D hz') (by lia) (by lia) (fun i x _ hx=>D hx) (fun i j x y hij hj hx hy hr=>by
    cases q:R x z with
    | true=>rfl
    | false =>
      have:=o.tr z x y (D hz') (D hx) (D hy) q (leY hij hj hx hy)
      rw[hr] at this
      cases this) fun n hnn n1 n2=>?_)
  dsimp (config:={ zeta:=false }) only
  have eX:seg l sa na=seg l sa k++seg l (sa+k) (na - k):=by rw[←seg_add]; congr 1; lia
  have eY:seg l (sa+na) nb=seg l (sa+na) n++seg l (sa+na+n) (nb - n):=by rw[←seg_add]; congr 1; lia
  have high:∀x∈seg l (sa+k) (na - k),∀y∈seg l (sa+na+n) (nb - n),R y x=false:=fun x hx y hy=>by
    obtain ⟨i,h3,h4⟩:=seg_mem hx
    obtain ⟨j,h5,h6⟩:=seg_mem hy
    rw[←hl,Array.getElem?_toList] at h4 h6
    rw[Nat.add_assoc] at h4
    rw[Nat.add_assoc (sa+na)] at h6
    exact o.tr x z y (D h4) (D hz') (D h6) (leX (by lia) (by lia) h4 hz') (n2 _ y (by lia) (by lia) h6)
  have fin:∀m:List Keyed,m.Perm (seg l (sa+k) (na - k)++seg l (sa+na) n)→Srt R m→(seg l sa k++m++seg l (sa+na+n) (nb - n)).Perm (seg l sa (na+nb))∧Srt R (seg l sa k++m++seg l (sa+na+n) (nb - n)):=fun m hp hs=>by
    constructor
    · rw[seg_add,eX,eY,List.append_assoc,List.append_assoc]
      refine List.Perm.append_left _ ?_
      rw[←List.append_assoc]
      exact hp.append_right _
    · exact join_srt o (X1:=seg l (sa+k) (na - k)) (Y0:=seg l (sa+na) n) (fun x hx=>by
        rw[←eX,←eY] at hx
        rcases List.mem_append.mp hx with q | q
        · exact dX x q
        · exact dY x q) (by rw[←eX]; exact sX) (by rw[←eY]; exact sY) hp hs (by rw[←eY]; exact low) high
  by_cases c2:(n == 0)=true
  · rw[if_pos c2]
    rw[beq_iff_eq] at c2
    subst c2
    have:=fin (seg l (sa+k) (na - k)) (by unfold seg; simp) (by
      rw[eX] at sX
      exact (List.pairwise_append.mp sX).2.1)
    refine wpS_pure (h _ hk hf rfl ⟨_,?_,this.1,this.2⟩)
    show (arrOf st).toList=_
    rw[hl,←eX]
    rw[show sa+na+0=sa+na by lia,show nb - 0=nb by lia,←seg_add]
    exact seg_split _ _ _
  rw[if_neg c2]
  rw[beq_iff_eq] at c2
  have P:Pre Dm R ((arrOf st).extract (sa+k) (sa+na)) ((arrOf st).extract (sa+na) (sa+na+n)):=by
    have e1:((arrOf st).extract (sa+k) (sa+na)).toList=seg l (sa+k) (na - k):=by rw[seg_ext,hl]; congr 1; lia
    have e2:((arrOf st).extract (sa+na) (sa+na+n)).toList=seg l (sa+na) n:=by rw[seg_ext,hl]; congr 1; lia
    have z1:((arrOf st).extract (sa+k) (sa+na)).size=na - k:=by rw[Array.size_extract]; lia
    have z2:((arrOf st).extract (sa+na) (sa+na+n)).size=n:=by rw[Array.size_extract]; lia
    refine ⟨o,?_,?_,?_,?_,?_,?_,by lia,by lia⟩
    · rw[e1]
      exact fun x hx=>dX x (by rw[eX]; exact List.mem_append_right _ hx)
    · rw[e2]
      exact fun x hx=>dY x (by rw[eY]; exact List.mem_append_left _ hx)
    · rw[e1]
      rw[eX] at sX
      exact (List.pairwise_append.mp sX).2.1
    · rw[e2]
      rw[eY] at sY
      exact (List.pairwise_append.mp sY).1
    · rw[e1]
      intro x hx y hy
      have hy':=toL hy
      rw[e2] at hy'
      obtain ⟨h3,h4⟩:=seg_at_some hy'
      rw[←hl,Array.getElem?_toList,Nat.add_zero,hy0] at h4
      cases h4
      obtain ⟨j,h5,h6⟩:=seg_mem hx
      rw[←hl,Array.getElem?_toList,Nat.add_assoc] at h6
      exact k2 _ x (by lia) (by lia) h6
    · rw[e2]
      intro y hy x hx
      have hx':=toL hx
      rw[e1,z1] at hx'
      obtain ⟨h3,h4⟩:=seg_at_some hx'
      rw[←hl,Array.getElem?_toList,show sa+k+(na - k - 1)=sa+(na - 1) by lia,hz'] at h4
      cases h4
      obtain ⟨j,h5,h6⟩:=seg_mem hy
      rw[←hl,Array.getElem?_toList] at h6
      exact n1 j y h5 h6
  have back:∀(r:Array Keyed) (st':SortSt),Same (setPending st (((pendingOf st).setIfInBounds i (sa,na+nb,pw)).eraseIdxIfInBounds (i+1))) st'→Good R ((arrOf st).extract (sa+k) (sa+na)) ((arrOf st).extract (sa+na) (sa+na+n)) r →
      Q true (setArr st' (putBack (sa+k) r (arrOf st')))∧failedOf st'=none:=fun r st' hS hG=>by
    have hS1:kindOf st'=κ:=hS.1.trans hk
    have hS2:arrOf st'=arrOf st:=hS.2.1
    have hS4:failedOf st'=none:=hS.2.2.2.trans hf
    obtain ⟨hp,hs⟩:=hG
    rw[seg_ext,seg_ext,hl,show sa+na - (sa+k)=na - k by lia,show sa+na+n - (sa+na)=n by lia] at hp
    have:=fin r.toList hp hs
    have hlen2:r.size=na - k+n:=by
      have:=hp.length_eq
      rw[List.length_append] at this
      unfold seg at this
      rw[List.length_take,List.length_take,List.length_drop,List.length_drop,Array.length_toList] at this
      lia
    refine ⟨h _ hS1 hS4 hS.2.2.1 ⟨_,?_,this.1,this.2⟩,hS4⟩
    show (putBack (sa+k) r (arrOf st')).toList=_
    rw[hS2,putBack_list (by lia),hl]
    have t1:l.take (sa+k)=l.take sa++seg l sa k:=by unfold seg; rw[List.take_add]
    have t2:l.drop (sa+k+r.size)=seg l (sa+na+n) (nb - n)++l.drop (sa+(na+nb)):=by
      unfold seg
      rw[show sa+k+r.size=sa+na+n by lia,show sa+(na+nb)=sa+na+n+(nb - n) by lia]
      have:=List.take_append_drop (nb - n) (l.drop (sa+na+n))
      rw[List.drop_drop] at this
      exact this.symm
    rw[t1,t2]
    simp only[List.append_assoc]
  dsimp only
  have post:∀(r:Array Keyed) (st':SortSt),Same (setPending st (((pendingOf st).setIfInBounds i (sa,na+nb,pw)).eraseIdxIfInBounds (i+1))) st'→Good R ((arrOf st).extract (sa+k) (sa+na)) ((arrOf st).extract (sa+na) (sa+na+n)) r →
      wpS (model prog w) A E s (do modify fun s=>setArr s (putBack (sa+k) r (arrOf s)); let t ←get; pure (failedOf t).isNone) Q st':=fun r st' hS hG=>by
    obtain ⟨q1,q2⟩:=back r st' hS hG
    refine wpS_bind (wpS_modify (wpS_bind (wpS_get (wpS_pure ?_))))
    show Q (failedOf st').isNone _
    rw[q2]
    exact q1
  split
  · exact wpS_bind (mergeLo_run L P (st:=setPending st (((pendingOf st).setIfInBounds i (sa,na+nb,pw)).eraseIdxIfInBounds (i+1))) hk post)
  · exact wpS_bind (mergeHi_run L P (st:=setPending st (((pendingOf st).setIfInBounds i (sa,na+nb,pw)).eraseIdxIfInBounds (i+1))) hk post)
end
end Tim
namespace Tim
open PySem PyProof.Rows
section
variable {prog:Program} {w:World} {A:Around} {E:Value→Shared→Prop} {s:Shared}
variable {Dm:Keyed→Prop} {rk:Keyed→Int} {κ:SortKind}
def byRk (rk:Keyed→Int) : Keyed→Keyed→Bool:=fun x y=>decide (rk x<rk y)
theorem byRk_ord:Ord Dm (byRk rk):=⟨fun x y z _ _ _ h1 h2=>by unfold byRk at *; simp only[decide_eq_false_iff_not,Int.not_lt] at *; lia,fun x y _ _ h=>by unfold byRk at *; simp only[decide_eq_true_eq,decide_eq_false_iff_not] at *; lia⟩
def Kr (rk:Keyed→Int) (xs:Array Keyed) (i:Nat) : Int:=match xs[i]? with
  | some p=>rk p
  | none=>0
theorem Kr_congr {xs ys:Array Keyed} {i j:Nat} (h:xs[i]?=ys[j]?) : Kr rk xs i=Kr rk ys j:=by unfold Kr; rw[h]
theorem Kr_some {xs:Array Keyed} {i:Nat} {x:Keyed} (h:xs[i]?=some x) : Kr rk xs i=rk x:=by unfold Kr; rw[h]
theorem Kr_mirror {xs:Array Keyed} {i j:Nat} (hj:j≤xs.size) (k:Nat) : Kr rk (mirror xs i j ((j - i) / 2)) k=if i≤k∧k<j then Kr rk xs (i+j - 1 - k) else Kr rk xs k:=by
  have e:=getElem?_mirror_all (i:=i) hj k
  split
  · rename_i c
    rw[if_pos c] at e
    exact Kr_congr e
  · rename_i c
    rw[if_neg c] at e
    exact Kr_congr e
theorem Kr_same {xs:Array Keyed} {i j:Nat} (hj:j≤xs.size) (heq:∀k,i≤k→k<j→Kr rk xs k=Kr rk xs (j - 1)) (k:Nat) : Kr rk (mirror xs i j ((j - i) / 2)) k=Kr rk xs k:=by
  rw[Kr_mirror hj]
  split
  · rw[heq _ (by lia) (by lia),heq k (by lia) (by lia)]
  · rfl
structure Bs (κ:SortKind) (xs:Array Keyed) (p:Array (Nat×Nat×Nat)) (lo:Nat) (st:SortSt) : Prop where
  perm:(arrOf st).Perm xs
  kind:kindOf st=κ
  failed:failedOf st=none
  pend:pendingOf st=p
  low:∀i,i<lo→(arrOf st)[i]?=xs[i]?
variable {xs:Array Keyed} {p:Array (Nat×Nat×Nat)} {lo:Nat}
theorem Bs.size {st:SortSt} (B:Bs κ xs p lo st) : (arrOf st).size=xs.size:=B.perm.size_eq
theorem Bs.mirror {st:SortSt} (B:Bs κ xs p lo st) {i j:Nat} (h:lo≤i) (hj:j≤xs.size) : Bs κ xs p lo (setArr st (mirror (arrOf st) i j ((j - i) / 2))):=
  ⟨(mirror_perm _ _ _ _).trans B.perm,B.kind,B.failed,B.pend,fun k hk=>by
    show (PyProof.Rows.mirror (arrOf st) i j ((j - i) / 2))[k]?=_
    rw[getElem?_mirror_all (by rw[B.size]; exact hj),if_neg (by lia)]
    exact B.low k hk⟩
theorem Bs.bubble {st:SortSt} (B:Bs κ xs p lo st) {k d:Nat} (hk:k<xs.size) (h:lo+d≤k) : Bs κ xs p lo (setArr st (bubble (arrOf st) k d)):=
  ⟨(bubble_perm _ _ _).trans B.perm,B.kind,B.failed,B.pend,fun i hi=>by
    show (PyProof.Rows.bubble (arrOf st) k d)[i]?=_
    rw[getElem?_bubble (by rw[B.size]; exact hk) d (by lia),if_neg (by lia),if_neg (by lia)]
    exact B.low i hi⟩
theorem Bs.lt (L:LtOk prog w A E s Dm (byRk rk) κ) (D:∀x∈xs.toList,Dm x) {st:SortSt} (B:Bs κ xs p lo st) {i j:Nat} (hi:i<xs.size) (hj:j<xs.size) {Q:Option Bool→SortSt→Prop} (h:Q (some (decide (Kr rk (arrOf st) i<Kr rk (arrOf st) j))) st) : wpS (model prog w) A E s (ltAt' i j) Q st:=by
  have at_:∀k,k<xs.size→∃x,(arrOf st)[k]?=some x∧Dm x:=fun k hk=>by
    have hk':k<(arrOf st).size:=by rw[B.size]; exact hk
    exact ⟨(arrOf st)[k],Array.getElem?_eq_getElem hk',D _ ((Array.perm_iff_toList_perm.mp B.perm).mem_iff.mp (by simp))⟩
  obtain ⟨x,hx,dx⟩:=at_ i hi
  obtain ⟨y,hy,dy⟩:=at_ j hj
  rw[ltAt'_eq]
  refine wpS_bind (wpS_get ?_)
  refine wpS_bind (wpS_elem hx (wpS_bind (wpS_elem hy (L x y st _ dx dy B.kind ?_))))
  rw[Kr_some hx,Kr_some hy] at h
  exact h
def Up (rk:Keyed→Int) (lo:Nat) (xs:Array Keyed) (n:Nat) : Prop:=∀i j,i≤j→j<n→Kr rk xs (lo+i)≤Kr rk xs (lo+j)
def Dn (rk:Keyed→Int) (lo:Nat) (xs:Array Keyed) (n:Nat) : Prop:=∀i j,i≤j→j<n→Kr rk xs (lo+j)≤Kr rk xs (lo+i)
theorem Up.step {ys:Array Keyed} {n:Nat} (h:Up rk lo ys n) (h1:1≤n) (hl:¬Kr rk ys (lo+n)<Kr rk ys (lo+n - 1)) : Up rk lo ys (n+1):=fun i j hij hj=>by
  by_cases c:j<n
  · exact h i j hij c
  · have e : j = n := by lia
    subst e
    by_cases c2:i=j
    · subst c2
      exact Int.le_refl _
    · have := h i (j - 1) (by lia) (by lia)
      rw[show lo+(j - 1)=lo+j - 1 by lia] at this
      lia
theorem Dn.step {ys:Array Keyed} {n:Nat} (h:Dn rk lo ys n) (h1:1≤n) (hl:Kr rk ys (lo+n)≤Kr rk ys (lo+n - 1)) : Dn rk lo ys (n+1):=fun i j hij hj=>by
  by_cases c:j<n
  · exact h i j hij c
  · have e : j = n := by lia
    subst e
    by_cases c2:i=j
    · subst c2
      exact Int.le_refl _
    · have := h i (j - 1) (by lia) (by lia)
      rw[show lo+(j - 1)=lo+j - 1 by lia] at this
      lia
theorem Dn.congr {ys zs:Array Keyed} {n:Nat} (h:Dn rk lo ys n) (e:∀k,Kr rk zs k=Kr rk ys k) : Dn rk lo zs n:=fun i j hij hj=>by rw[e,e]; exact h i j hij hj
theorem Dn.rev {ys:Array Keyed} {n:Nat} (h:Dn rk lo ys n) (hn:lo+n≤ys.size) : Up rk lo (mirror ys lo (lo+n) ((lo+n - lo) / 2)) n:=fun i j hij hj=>by
  rw[Kr_mirror hn,Kr_mirror hn,if_pos (by lia),if_pos (by lia)]
  have:=h (n - 1 - j) (n - 1 - i) (by lia) (by lia)
  rw[show lo+(n - 1 - j)=lo+(lo+n) - 1 - (lo+j) by lia,show lo+(n - 1 - i)=lo+(lo+n) - 1 - (lo+i) by lia] at this
  exact this
theorem Up.one {ys:Array Keyed} : Up rk lo ys 1:=fun i j hij hj=>by
  have e1:i=0:=by lia
  have e2:j=0:=by lia
  subst e1 e2
  exact Int.le_refl _
theorem Dn.one {ys:Array Keyed} : Dn rk lo ys 1:=fun i j hij hj=>by
  have e1:i=0:=by lia
  have e2:j=0:=by lia
  subst e1 e2
  exact Int.le_refl _
theorem countRun_run (L:LtOk prog w A E s Dm (byRk rk) κ) (D:∀x∈xs.toList,Dm x) {st:SortSt} (B:Bs κ xs p lo st) {nrem:Nat} (h1:1≤nrem) (h2:lo+nrem≤xs.size) {Q:Option Nat→SortSt→Prop}
    (h:∀m st',Bs κ xs p lo st'→1≤m→m≤nrem→Up rk lo (arrOf st') m→Q (some m) st') : wpS (model prog w) A E s (countRun' lo nrem) Q st:=by
  rw[countRun'_eq]
  refine wpS_bind (wpS_mono (wpS_forRange (I:=fun x c st'=>st'=st∧c=(none,x)∧Up rk lo (arrOf st) x)
    (Q:=fun c st'=>st'=st∧∃n,c=(none,n)∧1≤n∧n≤nrem∧Up rk lo (arrOf st) n∧(n=nrem∨Kr rk (arrOf st) (lo+n)<Kr rk (arrOf st) (lo+n - 1))) ?s1 ?f1 ⟨rfl,rfl,.one⟩) ?post)
  case f1 =>
    rintro c st' ⟨rfl,rfl,hu⟩
    rw[show max 1 nrem=nrem by lia] at hu ⊢
    exact ⟨rfl,nrem,rfl,h1,Nat.le_refl _,hu,.inl rfl⟩
  case s1 =>
    rintro x c st' hx1 hx2 ⟨rfl,rfl,hu⟩
    dsimp (config:={ zeta:=false }) only
    refine wpS_bind (B.lt L D (by lia) (by lia) ?_)
    dsimp (config:={ zeta:=false }) only
    split
    · rename_i c
      exact wpS_pure ⟨rfl,x,rfl,hx1,by lia,hu,.inr (of_decide_eq_true c)⟩
    · rename_i c
      exact wpS_pure ⟨rfl,rfl,hu.step hx1 fun z=>c (decide_eq_true z)⟩
  case post =>
    rintro c st' ⟨rfl,n,rfl,n1,n2,hu,hor⟩
    dsimp only
    by_cases c1:(n == nrem)=true
    · rw[if_pos c1]
      exact wpS_pure (h n _ B n1 n2 hu)
    rw[if_neg c1]
    rw[beq_iff_eq] at c1
    have hlt:=hor.resolve_left c1
    have hsz:=B.size
    by_cases c2:n>1
    case' pos =>
      rw[if_pos c2]
      refine wpS_bind (B.lt L D (by lia) (by lia) ?_)
      dsimp only
      by_cases c3:Kr rk (arrOf st') lo<Kr rk (arrOf st') (lo+n - 1)
      · rw[if_pos (decide_eq_true c3)]
        exact wpS_pure (h n _ B n1 n2 hu)
      rw[if_neg (fun z=>c3 (of_decide_eq_true z))]
      refine wpS_bind (wpS_reverse ?_)
      have heq:∀k,lo≤k→k<lo+n→Kr rk (arrOf st') k=Kr rk (arrOf st') (lo+n - 1):=fun k k1 k2=>by
        have a1:=hu 0 (k - lo) (by lia) (by lia)
        have a2:=hu (k - lo) (n - 1) (by lia) (by lia)
        rw[show lo+(k - lo)=k by lia] at a1 a2
        rw[show lo+(n - 1)=lo+n - 1 by lia] at a2
        rw[Nat.add_zero] at a1
        lia
      have ke:=Kr_same (rk:=rk) (xs:=arrOf st') (i:=lo) (j:=lo+n) (by lia) heq
      have B1:=B.mirror (i:=lo) (j:=lo+n) (Nat.le_refl _) (by lia)
      have d0:Dn rk lo (arrOf st') n:=fun i j hij hj=>by
        rw[heq (lo+i) (by lia) (by lia),heq (lo+j) (by lia) (by lia)]
        exact Int.le_refl _
      have d1:Dn rk lo (mirror (arrOf st') lo (lo+n) ((lo+n - lo) / 2)) (n+1):=(d0.step n1 (by lia)).congr ke
      generalize hst:setArr st' (mirror (arrOf st') lo (lo+n) ((lo+n - lo) / 2))=st1 at B1 ⊢
      replace d1:Dn rk lo (arrOf st1) (n+1):=by rw[←hst]; exact d1
    case' neg =>
      rw[if_neg c2]
      have e:n=1:=by lia
      have B1:=B
      have d1:Dn rk lo (arrOf st') (n+1):=Dn.step (by rw[e]; exact .one) n1 (by lia)
      generalize hst:st'=st1 at B1 d1 ⊢
    all_goals
      refine wpS_bind (wpS_lift (wpAny_rule ⟨rfl,?_⟩))
      refine wpS_bind (wpS_mono (wpS_forRange (I:=fun x c st2=>∃neq,c=(none,x,neq)∧Bs κ xs p lo st2∧Dn rk lo (arrOf st2) x∧neq+1≤x∧∀k,lo+x - (neq+1)≤k→k<lo+x→Kr rk (arrOf st2) k=Kr rk (arrOf st2) (lo+x - 1))
        (Q:=fun c st2=>∃m neq,c=(none,m,neq)∧Bs κ xs p lo st2∧n+1≤m∧m≤nrem∧Dn rk lo (arrOf st2) m∧neq+1≤m∧∀k,lo+m - (neq+1)≤k→k<lo+m→Kr rk (arrOf st2) k=Kr rk (arrOf st2) (lo+m - 1)) ?s2 ?f2 ⟨0,rfl,B1,d1,by lia,fun k k1 k2=>by congr 1; lia⟩) ?post2)
      case f2 =>
        rintro c st2 ⟨neq,rfl,B2,d2,q1,q2⟩
        rw[show max (n+1) nrem=nrem by lia] at d2 q1 q2 ⊢
        exact ⟨nrem,neq,rfl,B2,by lia,Nat.le_refl _,d2,q1,q2⟩
      case s2 =>
        rintro x c st2 hx1 hx2 ⟨neq,rfl,B2,d2,q1,q2⟩
        have hs2:=B2.size
        dsimp only
        refine wpS_bind (B2.lt L D (by lia) (by lia) ?_)
        dsimp only
        by_cases c4:Kr rk (arrOf st2) (lo+x)<Kr rk (arrOf st2) (lo+x - 1)
        · rw[if_pos (decide_eq_true c4)]
          have d3:=d2.step (by lia) (Int.le_of_lt c4)
          by_cases c5:neq>0
          · rw[if_pos c5]
            refine wpS_bind (wpS_reverse (wpS_pure ⟨0,rfl,B2.mirror (by lia) (by lia),d3.congr (Kr_same (by lia) q2),by lia,fun k k1 k2=>by congr 1; lia⟩))
          · rw[if_neg c5]
            exact wpS_pure ⟨0,rfl,B2,d3,by lia,fun k k1 k2=>by congr 1; lia⟩
        · rw[if_neg (fun z=>c4 (of_decide_eq_true z))]
          refine wpS_bind (B2.lt L D (by lia) (by lia) ?_)
          dsimp only
          by_cases c5:Kr rk (arrOf st2) (lo+x - 1)<Kr rk (arrOf st2) (lo+x)
          · rw[if_pos (decide_eq_true c5)]
            exact wpS_pure ⟨x,neq,rfl,B2,by lia,by lia,d2,q1,q2⟩
          · rw[if_neg (fun z=>c5 (of_decide_eq_true z))]
            refine wpS_pure ⟨neq+1,rfl,B2,d2.step (by lia) (by lia),by lia,fun k k1 k2=>?_⟩
            rw[show lo+(x+1) - 1=lo+x by lia]
            by_cases c6:k=lo+x
            · rw[c6]
            · have := q2 k (by lia) (by lia)
              lia
      case post2 =>
        rintro c st2 ⟨m,neq,rfl,B2,m1,m2,d2,q1,q2⟩
        dsimp only
        have hs2:=B2.size
        by_cases c4:neq>0
        case' pos =>
          rw[if_pos c4]
          refine wpS_bind (wpS_reverse ?_)
          have B3:=B2.mirror (i:=lo+m - (neq+1)) (j:=lo+m) (by lia) (by lia)
          have d3:=d2.congr (zs:=mirror (arrOf st2) (lo+m - (neq+1)) (lo+m) ((lo+m - (lo+m - (neq+1))) / 2)) (Kr_same (by lia) q2)
          generalize hst3:setArr st2 (mirror (arrOf st2) (lo+m - (neq+1)) (lo+m) ((lo+m - (lo+m - (neq+1))) / 2))=st3 at B3 ⊢
          replace d3:Dn rk lo (arrOf st3) m:=by rw[←hst3]; exact d3
        case' neg =>
          rw[if_neg c4]
          have B3:=B2
          have d3:=d2
          generalize hst3:st2=st3 at B3 d3 ⊢
        all_goals
          refine wpS_bind (wpS_reverse ?_)
          have hs3:=B3.size
          have B4:=B3.mirror (i:=lo) (j:=lo+m) (Nat.le_refl _) (by lia)
          have u4:=d3.rev (by lia)
          generalize hst4:setArr st3 (mirror (arrOf st3) lo (lo+m) ((lo+m - lo) / 2))=st4 at B4 ⊢
          replace u4:Up rk lo (arrOf st4) m:=by rw[←hst4]; exact u4
          refine wpS_bind (wpS_mono (wpS_forRange (I:=fun x c st'=>st'=st4∧c=(none,x)∧Up rk lo (arrOf st4) x)
            (Q:=fun c st'=>st'=st4∧∃n,c=(none,n)∧1≤n∧n≤nrem∧Up rk lo (arrOf st4) n) ?s3 ?f3 ⟨rfl,rfl,u4⟩) ?post3)
          case f3 =>
            rintro c st' ⟨rfl,rfl,hu⟩
            rw[show max m nrem=nrem by lia] at hu ⊢
            exact ⟨rfl,nrem,rfl,h1,Nat.le_refl _,hu⟩
          case s3 =>
            rintro x c st' hx1 hx2 ⟨rfl,rfl,hu⟩
            dsimp only
            refine wpS_bind (B4.lt L D (by lia) (by lia) ?_)
            dsimp only
            split
            · exact wpS_pure ⟨rfl,x,rfl,by lia,by lia,hu⟩
            · rename_i c
              exact wpS_pure ⟨rfl,rfl,hu.step (by lia) fun z=>c (decide_eq_true z)⟩
          case post3 =>
            rintro c st' ⟨rfl,n',rfl,z1,z2,hu⟩
            dsimp only
            exact wpS_pure (h n' _ B4 z1 z2 hu)
theorem Kr_bubble {xs:Array Keyed} {src d:Nat} (hs:src<xs.size) (hd:d≤src) (k:Nat) : Kr rk (bubble xs src d) k=if k=src - d then Kr rk xs src else if src - d<k∧k≤src then Kr rk xs (k - 1) else Kr rk xs k:=by
  have e:=getElem?_bubble hs d hd k
  by_cases h1:k=src - d
  · rw[if_pos h1] at e ⊢
    exact Kr_congr e
  · rw[if_neg h1] at e ⊢
    by_cases h2:src - d<k∧k≤src
    · rw[if_pos h2] at e ⊢
      exact Kr_congr e
    · rw[if_neg h2] at e ⊢
      exact Kr_congr e
theorem binarySort_run (L:LtOk prog w A E s Dm (byRk rk) κ) (D:∀x∈xs.toList,Dm x) {st:SortSt} (B:Bs κ xs p lo st) {n ok:Nat} (h2:lo+n≤xs.size) (hu:Up rk lo (arrOf st) ok) (h1:1≤ok) (hok:ok≤n) {Q:Bool→SortSt→Prop}
    (h:∀st',Bs κ xs p lo st'→Up rk lo (arrOf st') n→Q true st') : wpS (model prog w) A E s (binarySort' lo n ok) Q st:=by
  rw[binarySort'_eq]
  refine wpS_bind (wpS_mono (wpS_forRange (I:=fun k c st'=>c=(none,())∧Bs κ xs p lo st'∧Up rk lo (arrOf st') k)
    (Q:=fun c st'=>c=(none,())∧Bs κ xs p lo st'∧Up rk lo (arrOf st') n) ?step ?fin ⟨rfl,B,by rw[show max ok 1=ok by lia]; exact hu⟩) ?post)
  case post =>
    rintro c st' ⟨rfl,B',hs'⟩
    exact wpS_pure (h st' B' hs')
  case fin =>
    rintro c st' ⟨hc,B',hs'⟩
    rw[show max (max ok 1) n=n by lia] at hs'
    exact ⟨hc,B',hs'⟩
  case step =>
    rintro k c st' hk1 hk2 ⟨rfl,B',hs'⟩
    have hsz:=B'.size
    dsimp only
    refine wpS_bind (wpS_mono (wpS_forRange (I:=fun x c st2=>st2=st'∧∃l r,c=(none,l,r)∧l≤r∧r≤k∧r - l≤k - x∧(∀i,i<l→Kr rk (arrOf st') (lo+i)≤Kr rk (arrOf st') (lo+k))∧∀i,r≤i→i<k→Kr rk (arrOf st') (lo+k)<Kr rk (arrOf st') (lo+i))
      (Q:=fun c st2=>st2=st'∧∃l r,c=(none,l,r)∧l≤k∧(∀i,i<l→Kr rk (arrOf st') (lo+i)≤Kr rk (arrOf st') (lo+k))∧∀i,l≤i→i<k→Kr rk (arrOf st') (lo+k)<Kr rk (arrOf st') (lo+i)) ?istep ?ifin ⟨rfl,0,k,rfl,by lia,by lia,by lia,fun i hi=>by lia,fun i h1 h2=>by lia⟩) ?ipost)
    case ifin =>
      rintro c st2 ⟨rfl,l,r,rfl,a1,a2,a3,a4,a5⟩
      have:l=r:=by lia
      subst this
      exact ⟨rfl,l,l,rfl,a2,a4,a5⟩
    case istep =>
      rintro x c st2 _ hx ⟨rfl,l,r,rfl,a1,a2,a3,a4,a5⟩
      dsimp only
      by_cases c1:l≥r
      · rw[if_pos c1]
        have:l=r:=by lia
        subst this
        exact wpS_pure ⟨rfl,l,l,rfl,a2,a4,a5⟩
      rw[if_neg c1]
      refine wpS_bind (B'.lt L D (by lia) (by lia) ?_)
      dsimp only
      by_cases c2:Kr rk (arrOf st2) (lo+k)<Kr rk (arrOf st2) (lo+(l+r) / 2)
      · rw[if_pos (decide_eq_true c2)]
        refine wpS_pure ⟨rfl,l,_,rfl,by lia,by lia,by lia,a4,fun i b1 b2=>?_⟩
        have:=hs' ((l+r) / 2) i b1 b2
        lia
      · rw[if_neg (fun z=>c2 (of_decide_eq_true z))]
        refine wpS_pure ⟨rfl,_,r,rfl,by lia,by lia,by lia,fun i b1=>?_,a5⟩
        have:=hs' i ((l+r) / 2) (by lia) (by lia)
        lia
    case ipost =>
      rintro c st2 ⟨rfl,l,r,rfl,a1,a4,a5⟩
      dsimp only
      rw[moveDown'_eq]
      refine wpS_bind (wpS_modify (wpS_pure ⟨rfl,B'.bubble (by lia) (by lia),?_⟩))
      intro i j hij hj
      show Kr rk (bubble (arrOf st2) (lo+k) (lo+k - (lo+l))) _≤Kr rk (bubble (arrOf st2) (lo+k) (lo+k - (lo+l))) _
      rw[Kr_bubble (by lia) (by lia),Kr_bubble (by lia) (by lia),show lo+k - (lo+k - (lo+l))=lo+l by lia]
      have back:∀q,lo+l<lo+q→Kr rk (arrOf st2) (lo+q - 1)=Kr rk (arrOf st2) (lo+(q - 1)):=fun q hq=>by congr 1; lia
      by_cases i1:lo+i=lo+l
      · rw[if_pos i1]
        by_cases j1:lo+j=lo+l
        · rw[if_pos j1]
          exact Int.le_refl _
        rw[if_neg j1,if_pos (by lia),back j (by lia)]
        exact Int.le_of_lt (a5 _ (by lia) (by lia))
      rw[if_neg i1]
      by_cases i2:lo+l<lo+i∧lo+i≤lo+k
      · rw [if_pos i2, if_neg (by lia), if_pos (by lia), back i (by lia), back j (by lia)]
        exact hs' _ _ (by lia) (by lia)
      rw[if_neg i2]
      by_cases j1:lo+j=lo+l
      · rw[if_pos j1]
        exact a4 _ (by lia)
      rw[if_neg j1]
      by_cases j2:lo+l<lo+j∧lo+j≤lo+k
      · rw [if_pos j2, back j (by lia)]
        exact hs' _ _ (by lia) (by lia)
      · rw[if_neg j2]
        exact hs' _ _ (by lia) (by lia)
end
end Tim
namespace Tim
open PySem PyProof.Rows
section
variable {R:Keyed→Keyed→Bool}
inductive Runs (R:Keyed→Keyed→Bool) (l:List Keyed) : Nat→List (Nat×Nat×Nat)→Nat→Prop where
  | nil (s:Nat) : Runs R l s [] s
  | cons {s n pw e:Nat} {rest:List (Nat×Nat×Nat)} : 1≤n→Srt R (seg l s n)→Runs R l (s+n) rest e→Runs R l s ((s,n,pw)::rest) e
theorem Runs.le {l:List Keyed} {s e:Nat} {p:List (Nat×Nat×Nat)} (h:Runs R l s p e) : s+p.length≤e:=by
  induction h with
  | nil s=>exact Nat.le_refl _
  | cons h1 _ _ ih=>simp; lia
theorem Runs.append {l:List Keyed} {s m e:Nat} {p q:List (Nat×Nat×Nat)} (h:Runs R l s p m) (h':Runs R l m q e) : Runs R l s (p++q) e:=by
  induction h with
  | nil s=>exact h'
  | cons h1 h2 _ ih=>exact .cons h1 h2 (ih h')
theorem Runs.split {l:List Keyed} {e:Nat} {q:List (Nat×Nat×Nat)} : ∀{p:List (Nat×Nat×Nat)} {s:Nat},Runs R l s (p++q) e→∃m,Runs R l s p m∧Runs R l m q e
  | [],s,h=>⟨s,.nil s,h⟩
  | _::p,s,.cons h1 h2 h3=>by
    obtain ⟨m,a,b⟩:=Runs.split h3
    exact ⟨m,.cons h1 h2 a,b⟩
theorem Runs.congr {l l':List Keyed} {s e:Nat} {p:List (Nat×Nat×Nat)} (h:Runs R l s p e) (hc:∀s' n',s≤s'→s'+n'≤e→seg l' s' n'=seg l s' n') : Runs R l' s p e:=by
  induction h with
  | nil s=>exact .nil s
  | cons h1 h2 h3 ih =>
    have:=h3.le
    exact .cons h1 (by rw[hc _ _ (Nat.le_refl _) (by lia)]; exact h2) (ih fun s' n' a b=>hc s' n' (by lia) b)
theorem seg_ext_of {l l':List Keyed} {s n:Nat} (h:∀i,i<n→l'[s+i]?=l[s+i]?) : seg l' s n=seg l s n:=by
  refine List.ext_getElem? fun i=>?_
  by_cases c:i<n
  · rw[seg_at c,seg_at c,h i c]
  · have : ∀ z : List Keyed, (seg z s n)[i]? = none := fun z => List.getElem?_eq_none (by unfold seg; rw [List.length_take]; lia)
    rw[this,this]
theorem Done.len {l l':List Keyed} {s n:Nat} (h:Done R l l' s n) : l'.Perm l:=by
  obtain ⟨m,e,hp,_⟩:=h
  rw[e]
  conv=>rhs; rw[seg_split l s n]
  exact (hp.append_left _).append_right _
theorem Done.below {l l':List Keyed} {s n i:Nat} (h:Done R l l' s n) (hz:s+n≤l.length) (hi:i<s) : l'[i]?=l[i]?:=by
  obtain ⟨m,e,hp,_⟩:=h
  rw[e,List.append_assoc,List.getElem?_append_left (by rw[List.length_take]; lia),List.getElem?_take_of_lt hi]
theorem Done.mlen {l m:List Keyed} {s n:Nat} (hp:m.Perm (seg l s n)) (hz:s+n≤l.length) : m.length=n:=by
  rw[hp.length_eq]
  unfold seg
  rw[List.length_take,List.length_drop]
  lia
theorem Done.above {l l':List Keyed} {s n i:Nat} (h:Done R l l' s n) (hz:s+n≤l.length) (hi:s+n≤i) : l'[i]?=l[i]?:=by
  obtain ⟨m,e,hp,_⟩:=h
  have hm:=Done.mlen hp hz
  rw[e,List.getElem?_append_right (by rw[List.length_append,List.length_take,hm]; lia),List.length_append,List.length_take,hm,List.getElem?_drop]
  congr 1
  lia
theorem Done.srt {l l':List Keyed} {s n:Nat} (h:Done R l l' s n) (hz:s+n≤l.length) : Srt R (seg l' s n):=by
  obtain ⟨m,e,hp,hs⟩:=h
  have hm:=Done.mlen hp hz
  have:seg l' s n=m:=by
    unfold seg
    rw[e,List.append_assoc,List.drop_append_of_le_length (by rw[List.length_take]; lia),List.drop_eq_nil_of_le (by rw[List.length_take]; lia),List.nil_append,List.take_append_of_le_length (by lia),List.take_of_length_le (by lia)]
  rw[this]
  exact hs
theorem erase_two (X a b:Nat×Nat×Nat) (post:List (Nat×Nat×Nat)) : ∀pre:List (Nat×Nat×Nat),((pre++a::b::post).set pre.length X).eraseIdx (pre.length+1)=pre++X::post
  | []=>rfl
  | c::pre=>by
    have:=erase_two X a b post pre
    simp only[List.cons_append,List.length_cons,List.set_cons_succ,List.eraseIdx_cons_succ]
    rw[this]
end
section
variable {prog:Program} {w:World} {A:Around} {E:Value→Shared→Prop} {s:Shared}
variable {Dm:Keyed→Prop} {rk:Keyed→Int} {κ:SortKind}
structure Stk (κ:SortKind) (rk:Keyed→Int) (xs:Array Keyed) (lo:Nat) (st:SortSt) : Prop where
  perm:(arrOf st).Perm xs
  kind:kindOf st=κ
  failed:failedOf st=none
  runs:Runs (byRk rk) (arrOf st).toList 0 (pendingOf st).toList lo
variable {xs:Array Keyed} {lo:Nat}
theorem Stk.size {st:SortSt} (B:Stk κ rk xs lo st) : (arrOf st).size=xs.size:=B.perm.size_eq
theorem Stk.merge (L:LtOk prog w A E s Dm (byRk rk) κ) (D:∀x∈xs.toList,Dm x) {st:SortSt} (B:Stk κ rk xs lo st) (hlo:lo≤xs.size) {i:Nat} (hi:i+1<(pendingOf st).size) {Q:Bool→SortSt→Prop}
    (h:∀st',Stk κ rk xs lo st'→(pendingOf st').size+1=(pendingOf st).size→(∀j,lo≤j→(arrOf st')[j]?=(arrOf st)[j]?)→Q true st') : wpS (model prog w) A E s (mergeAt' i) Q st:=by
  have hl:(pendingOf st).toList.length=(pendingOf st).size:=Array.length_toList
  obtain ⟨⟨sa,na,pw⟩,ha⟩ : ∃x,(pendingOf st)[i]?=some x:=⟨(pendingOf st)[i]'(by lia),Array.getElem?_eq_getElem (by lia)⟩
  obtain ⟨⟨sb,nb,pb⟩,hb⟩ : ∃x,(pendingOf st)[i+1]?=some x:=⟨(pendingOf st)[i+1]'(by lia),Array.getElem?_eq_getElem (by lia)⟩
  have e:(pendingOf st).toList=(pendingOf st).toList.take i++(sa,na,pw)::(sb,nb,pb)::(pendingOf st).toList.drop (i+2):=by
    conv=>lhs; rw[←List.take_append_drop i (pendingOf st).toList]
    congr 1
    rw[List.drop_eq_getElem_cons (by lia),List.drop_eq_getElem_cons (by lia)]
    rw[←Array.getElem?_toList,List.getElem?_eq_some_iff] at ha hb
    rw[ha.2,hb.2]
  have hr:=B.runs
  rw[e] at hr
  obtain ⟨m,r1,r2⟩:=hr.split
  obtain ⟨rfl,na1,sX,r3⟩ : sa=m∧1≤na∧Srt (byRk rk) (seg (arrOf st).toList sa na)∧Runs (byRk rk) (arrOf st).toList (sa+na) ((sb,nb,pb)::(pendingOf st).toList.drop (i+2)) lo:=by
    cases r2 with
    | cons a b c=>exact ⟨rfl,a,b,c⟩
  obtain ⟨rfl,nb1,sY,r4⟩ : sb=sa+na∧1≤nb∧Srt (byRk rk) (seg (arrOf st).toList sb nb)∧Runs (byRk rk) (arrOf st).toList (sb+nb) ((pendingOf st).toList.drop (i+2)) lo:=by
    cases r3 with
    | cons a b c=>exact ⟨rfl,a,b,c⟩
  have hle:=r4.le
  have hsz:=B.size
  have hpl:((pendingOf st).toList.take i).length=i:=by rw[List.length_take]; lia
  refine mergeAt_run L byRk_ord B.kind B.failed (fun x hx=>D x ((Array.perm_iff_toList_perm.mp B.perm).mem_iff.mp hx)) ha hb rfl na1 nb1 (by lia) sX sY fun st' k' f' p' d'=>?_
  have hz:sa+(na+nb)≤(arrOf st).toList.length:=by rw[Array.length_toList]; lia
  have pe:(pendingOf st').toList=(pendingOf st).toList.take i++(sa,na+nb,pw)::(pendingOf st).toList.drop (i+2):=by
    rw[p',Array.toList_eraseIdxIfInBounds,Array.toList_setIfInBounds]
    conv=>lhs; rw[e]
    have:=erase_two (sa,na+nb,pw) (sa,na,pw) (sa+na,nb,pb) ((pendingOf st).toList.drop (i+2)) ((pendingOf st).toList.take i)
    rw[hpl] at this
    exact this
  refine h st' ⟨(Array.perm_iff_toList_perm.mpr d'.len).trans B.perm,k',f',?_⟩ ?_ ?_
  · rw[pe]
    have r1le:=r1.le
    refine (r1.congr fun s' n' _ h2=>seg_ext_of fun j hj=>d'.below hz (by lia)).append (.cons (by lia) (d'.srt hz) ?_)
    rw[←Nat.add_assoc]
    exact r4.congr fun s' n' h1 _=>seg_ext_of fun j hj=>d'.above hz (by lia)
  · have:=congrArg List.length pe
    rw[Array.length_toList,List.length_append,List.length_cons,hpl,List.length_drop] at this
    lia
  · intro j hj
    have:=d'.above (i:=j) hz (by lia)
    rw[Array.getElem?_toList,Array.getElem?_toList] at this
    exact this
theorem Up.srt {ys:Array Keyed} {n:Nat} (h:Up rk lo ys n) : Srt (byRk rk) (seg ys.toList lo n):=by
  refine List.pairwise_iff_getElem.mpr fun i j h1 h2 hij=>?_
  have e1:=seg_at_some (List.getElem?_eq_getElem h1)
  have e2:=seg_at_some (List.getElem?_eq_getElem h2)
  have:=h i j (Nat.le_of_lt hij) e2.1
  rw[Kr_some (by rw[←Array.getElem?_toList]; exact e1.2),Kr_some (by rw[←Array.getElem?_toList]; exact e2.2)] at this
  unfold byRk
  simp only[decide_eq_false_iff_not,Int.not_lt]
  exact this
theorem set_last:∀(p:List (Nat×Nat×Nat)) (f:Nat×Nat×Nat→Nat×Nat×Nat),(∀t,(f t).1=t.1∧(f t).2.1=t.2.1)→∀{R:Keyed→Keyed→Bool} {l:List Keyed} {s e i:Nat},Runs R l s p e→Runs R l s (p.modify i f) e
  | [],f,hf,_,_,_,_,i,h=>by rw[List.modify_nil]; exact h
  | (s1,n,pw)::p,f,hf,_,_,_,_,0,.cons h1 h2 h3=>by
    rw[List.modify_zero_cons]
    have e:f (s1,n,pw)=(s1,n,(f (s1,n,pw)).2.2):=Prod.ext (hf _).1 (Prod.ext (hf _).2 rfl)
    rw[e]
    exact .cons h1 h2 h3
  | (s1,n,pw)::p,f,hf,_,_,_,_,i+1,.cons h1 h2 h3=>by
    rw[List.modify_succ_cons]
    exact .cons h1 h2 (set_last p f hf h3)
theorem sortRuns_run (L:LtOk prog w A E s Dm (byRk rk) κ) (D:∀x∈xs.toList,Dm x) {st:SortSt} (ha:arrOf st=xs) (hk:kindOf st=κ) (hf:failedOf st=none) (hp:pendingOf st = #[]) {Q:Unit→SortSt→Prop}
    (h:∀st',(arrOf st').Perm xs→failedOf st'=none→Srt (byRk rk) (arrOf st').toList→Q () st') : wpS (model prog w) A E s sortRuns' Q st:=by
  rw[sortRuns'_eq]
  refine wpS_bind (wpS_get ?_)
  dsimp only
  rw[ha]
  generalize hmr:minRun' xs.size xs.size 0=mr
  refine wpS_bind (wpS_mono (wpS_forRange (I:=fun x c st'=>∃lo,c=(none,lo)∧Stk κ rk xs lo st'∧lo≤xs.size∧min x xs.size≤lo) (Q:=fun c st'=>c=(none,xs.size)∧Stk κ rk xs xs.size st') ?step ?fin ⟨0,rfl,⟨by rw[ha],hk,hf,by rw[hp]; exact .nil 0⟩,Nat.zero_le _,by lia⟩) ?post)
  case fin =>
    rintro c st' ⟨lo,rfl,S,h1,h2⟩
    have e:lo=xs.size:=by lia
    subst e
    exact ⟨rfl,S⟩
  case step =>
    rintro x c st' _ hx ⟨lo,rfl,S,h1,h2⟩
    dsimp only
    by_cases c1:lo≥xs.size
    · rw[if_pos c1]
      have e:lo=xs.size:=by lia
      subst e
      exact wpS_pure ⟨rfl,S⟩
    rw[if_neg c1]
    have B0:Bs κ (arrOf st') (pendingOf st') lo st':=⟨.refl _,S.kind,S.failed,rfl,fun _ _=>rfl⟩
    have hsz:=S.size
    have D':∀x∈(arrOf st').toList,Dm x:=fun x hx=>D x ((Array.perm_iff_toList_perm.mp S.perm).mem_iff.mp hx)
    refine wpS_bind (countRun_run L D' B0 (by lia) (by lia) fun m st2 B1 m1 m2 u1=>?_)
    dsimp only
    have cont:∀(n:Nat) (st3:SortSt),Bs κ (arrOf st') (pendingOf st') lo st3→1≤n→n≤xs.size - lo→Up rk lo (arrOf st3) n→Stk κ rk xs lo st3∧Srt (byRk rk) (seg (arrOf st3).toList lo n):=fun n st3 B3 n1 n2 u3 =>
      ⟨⟨B3.perm.trans S.perm,B3.kind,B3.failed,by
        rw[B3.pend]
        refine S.runs.congr fun s' n' _ h'=>seg_ext_of fun j hj=>?_
        rw[Array.getElem?_toList,Array.getElem?_toList]
        exact B3.low _ (by lia)⟩,u3.srt⟩
    by_cases c2:m<mr
    case' pos =>
      rw[if_pos c2]
      refine wpS_bind (wpS_lift (wpAny_rule ⟨rfl,?_⟩))
      refine wpS_bind (binarySort_run L D' B1 (by lia) u1 m1 (by lia) fun st3 B3 u3=>?_)
      simp only[Bool.not_true,Bool.false_eq_true,if_false]
      obtain ⟨S3,s3⟩:=cont (min (xs.size - lo) mr) st3 B3 (by lia) (by lia) u3
      have nb:1≤min (xs.size - lo) mr∧min (xs.size - lo) mr≤xs.size - lo:=by lia
      generalize min (xs.size - lo) mr=n at s3 nb ⊢
    case' neg =>
      rw[if_neg c2]
      obtain ⟨S3,s3⟩:=cont m st2 B1 m1 m2 u1
      have nb:1≤m∧m≤xs.size - lo:=⟨m1,m2⟩
      generalize hst:st2=st3 at S3 s3 ⊢
      generalize m=n at s3 nb ⊢
    all_goals
      refine wpS_bind (wpS_get ?_)
      have pushed:∀st4:SortSt,Stk κ rk xs lo st4→Srt (byRk rk) (seg (arrOf st4).toList lo n)→Stk κ rk xs (lo+n) (setPending st4 ((pendingOf st4).push (lo,n,0))):=fun st4 S4 s4 =>
        ⟨S4.perm,S4.kind,S4.failed,by
          show Runs _ (arrOf st4).toList 0 ((pendingOf st4).push (lo,n,0)).toList (lo+n)
          rw[Array.toList_push]
          exact S4.runs.append (.cons nb.1 s4 (.nil _))⟩
      split
      · rename_i s1 n1 _ hback
        generalize power' _ _ _ _=pw
        refine wpS_bind (wpS_mono (wpS_forRange (I:=fun _ c st4=>c=(none,())∧Stk κ rk xs lo st4∧Srt (byRk rk) (seg (arrOf st4).toList lo n)) (Q:=fun c st4=>c=(none,())∧Stk κ rk xs lo st4∧Srt (byRk rk) (seg (arrOf st4).toList lo n)) ?ms (fun _ _ z=>z) ⟨rfl,S3,s3⟩) ?mp)
        case ms =>
          rintro y c st4 _ _ ⟨rfl,S4,s4⟩
          refine wpS_bind (wpS_get ?_)
          split
          · rename_i older hq
            split
            · exact wpS_pure ⟨rfl,S4,s4⟩
            · have hgt:1<(pendingOf st4).size:=by
                by_cases c:(pendingOf st4).size>1
                · exact c
                · rw[if_neg c] at hq
                  cases hq
              refine wpS_bind (S4.merge L D h1 (by lia) fun st5 S5 _ k5=>?_)
              simp only[Bool.not_true,Bool.false_eq_true,if_false]
              refine wpS_pure ⟨rfl,S5,?_⟩
              rw[seg_ext_of (l:=(arrOf st4).toList) fun j hj=>by rw[Array.getElem?_toList,Array.getElem?_toList]; exact k5 _ (by lia)]
              exact s4
          · exact wpS_pure ⟨rfl,S4,s4⟩
        case mp =>
          rintro c st4 ⟨rfl,S4,s4⟩
          dsimp only
          refine wpS_bind (wpS_modify (wpS_bind (wpS_modify (wpS_pure ⟨_,rfl,pushed _ ⟨S4.perm,S4.kind,S4.failed,?_⟩ s4,by lia,by lia⟩))))
          show Runs _ (arrOf st4).toList 0 ((pendingOf st4).modify _ _).toList lo
          rw[Array.toList_modify]
          exact set_last _ (fun x=>(x.1,x.2.1,pw)) (fun t=>⟨rfl,rfl⟩) S4.runs
      · exact wpS_bind (wpS_modify (wpS_pure ⟨_,rfl,pushed _ S3 s3,by lia,by lia⟩))
  case post =>
    rintro c st' ⟨rfl,S⟩
    dsimp only
    refine wpS_bind (wpS_mono (wpS_forRange (I:=fun x c st'=>c=(none,())∧Stk κ rk xs xs.size st'∧((pendingOf st').size≤1∨(pendingOf st').size+x≤xs.size)) (Q:=fun c st'=>c=(none,())∧Stk κ rk xs xs.size st'∧(pendingOf st').size≤1) ?s2 ?f2 ⟨rfl,S,.inr (by have:=S.runs.le; rw[Array.length_toList] at this; lia)⟩) ?post2)
    case f2 =>
      rintro c st' ⟨rfl,S,z⟩
      exact ⟨rfl,S,by lia⟩
    case s2 =>
      rintro x c st' _ hx ⟨rfl,S,z⟩
      refine wpS_bind (wpS_get ?_)
      by_cases c1:(pendingOf st').size≤1
      · rw[if_pos c1]
        exact wpS_pure ⟨rfl,S,c1⟩
      rw[if_neg c1]
      refine wpS_bind (S.merge L D (Nat.le_refl _) ?_ fun st2 S2 e2 _=>?_)
      · (repeat' split)<;>lia
      · simp only[Bool.not_true,Bool.false_eq_true,if_false]
        exact wpS_pure ⟨rfl,S2,.inr (by lia)⟩
    case post2 =>
      rintro c st' ⟨rfl,S,z⟩
      dsimp only
      refine wpS_pure (h _ S.perm S.failed ?_)
      have hr:=S.runs
      have hl:(pendingOf st').toList.length≤1:=by rw[Array.length_toList]; exact z
      have hsz:=S.size
      generalize (pendingOf st').toList=q at hl hr
      generalize xs.size=N at hr hsz
      cases hr with
      | nil =>
        have:(arrOf st').toList = []:=List.eq_nil_of_length_eq_zero (by rw[Array.length_toList,hsz])
        rw[this]
        exact List.Pairwise.nil
      | @cons _ n pw _ rest a b c =>
        cases c with
        | nil =>
          unfold seg at b
          rw[List.drop_zero,List.take_of_length_le (by rw[Array.length_toList]; lia)] at b
          exact b
        | cons=>simp at hl
end
end Tim
namespace Tim
open PySem PySem.W PySem.Calls PyProof.Rows
section
variable {α:Type}
theorem countP_lt {p q:α→Bool} : ∀{l:List α},(∀x∈l,p x=true→q x=true)→(∃x∈l,q x=true∧p x=false)→l.countP p<l.countP q
  | [],_,⟨x,hx,_⟩=>nomatch hx
  | a::l,h,⟨x,hx,h1,h2⟩=>by
    rw[List.countP_cons,List.countP_cons]
    have hm:l.countP p≤l.countP q:=List.countP_mono_left fun x hx=>h x (List.mem_cons_of_mem _ hx)
    rcases List.mem_cons.mp hx with e | hx'
    · subst e
      rw[h1,h2]
      simp
      lia
    · have ih:=countP_lt (l:=l) (fun x hx=>h x (List.mem_cons_of_mem _ hx)) ⟨x,hx',h1,h2⟩
      have:=h a (List.mem_cons_self ..)
      cases hp:p a with
      | true=>rw[this hp]; simp; lia
      | false=>simp; lia
def rank (lt:α→α→Bool) (l:List α) (x:α) : Int:=l.countP fun z=>lt z x
theorem rank_lt {lt:α→α→Bool} {l:List α} (irr:∀x,x∈l→lt x x=false) (tr:∀x y z,x∈l→y∈l→z∈l→lt x y=true→lt y z=true→lt x z=true) (ntr:∀x y z,x∈l→y∈l→z∈l→lt x y=false→lt z y=true→lt z x=true)
    {x y:α} (hx:x∈l) (hy:y∈l) : decide (rank lt l x<rank lt l y)=lt x y:=by
  cases h:lt x y with
  | true =>
    refine decide_eq_true ?_
    have:=countP_lt (p:=fun z=>lt z x) (q:=fun z=>lt z y) (l:=l) (fun z hz h1=>tr z x y hz hx hy h1 h) ⟨x,hx,h,irr x hx⟩
    unfold rank
    lia
  | false =>
    refine decide_eq_false ?_
    have:=List.countP_mono_left (p:=fun z=>lt z y) (q:=fun z=>lt z x) (l:=l) fun z hz h1=>ntr x y z hx hy hz h h1
    unfold rank
    lia
end
abbrev lexF:=SoT.lexI false
theorem lex_irr:∀a:List Int,lexF a a=false
  | []=>rfl
  | x::a=>by
    show (if x=x then lexF a a else decide (x<x))=false
    rw[if_pos rfl]
    exact lex_irr a
theorem lex_cons (x y:Int) (a b:List Int) : lexF (x::a) (y::b)=if x=y then lexF a b else decide (x<y):=rfl
theorem lex_tr:∀{a b c:List Int},a.length=b.length→b.length=c.length→lexF a b=true→lexF b c=true→lexF a c=true
  | [],[],[],_,_,h,_=>h
  | x::a,y::b,z::c,h1,h2,h3,h4=>by
    rw[lex_cons] at h3 h4 ⊢
    by_cases e1:x=y
    · rw[if_pos e1] at h3
      by_cases e2:y=z
      · rw[if_pos e2] at h4
        rw[if_pos (e1.trans e2)]
        exact lex_tr (by simpa using h1) (by simpa using h2) h3 h4
      · rw[if_neg e2] at h4
        rw[if_neg (by lia)]
        have:=of_decide_eq_true h4
        exact decide_eq_true (by lia)
    · rw[if_neg e1] at h3
      have d1:=of_decide_eq_true h3
      by_cases e2:y=z
      · rw [if_neg (by lia)]
        exact decide_eq_true (by lia)
      · rw[if_neg e2] at h4
        have d2:=of_decide_eq_true h4
        rw[if_neg (by lia)]
        exact decide_eq_true (by lia)
theorem lex_ntr:∀{a b c:List Int},a.length=b.length→b.length=c.length→lexF a b=false→lexF c b=true→lexF c a=true
  | [],[],[],_,_,_,h=>h
  | x::a,y::b,z::c,h1,h2,h3,h4=>by
    rw[lex_cons] at h3 h4 ⊢
    by_cases e1:x=y
    · rw[if_pos e1] at h3
      by_cases e2:z=y
      · rw[if_pos e2] at h4
        rw[if_pos (by lia)]
        exact lex_ntr (by simpa using h1) (by simpa using h2) h3 h4
      · rw[if_neg e2] at h4
        have:=of_decide_eq_true h4
        rw[if_neg (by lia)]
        exact decide_eq_true (by lia)
    · rw[if_neg e1] at h3
      have d1:=of_decide_eq_false h3
      by_cases e2:z=y
      · rw [if_neg (by lia)]
        exact decide_eq_true (by lia)
      · rw[if_neg e2] at h4
        have d2:=of_decide_eq_true h4
        rw[if_neg (by lia)]
        exact decide_eq_true (by lia)
section
variable {prog:Program} {w:World} {A:Around} {E:Value→Shared→Prop} {s:Shared}
def Tups (h:Heap) (vs:List Value) (f:Value→List Int) (c:Nat) : Prop:=∀v∈vs,SoT.Tp h v (f v)∧(f v).length=c
theorem Tups.keep {h h':Heap} {vs:List Value} {f:Value→List Int} {c:Nat} (k:∀b o,h.get? b=some o→o.cls=.type "tuple"→h'.get? b=some o) (t:Tups h vs f c) : Tups h' vs f c:=fun v hv=>⟨(t v hv).1.keep k,(t v hv).2⟩
theorem rank_lex {vs:List Value} {f:Value→List Int} {c:Nat} (hT:∀v∈vs,(f v).length=c) {x y:Value} (hx:x∈vs) (hy:y∈vs) : decide (rank (fun u v=>lexF (f u) (f v)) vs x<rank (fun u v=>lexF (f u) (f v)) vs y)=lexF (f x) (f y):=
  rank_lt (lt:=fun u v=>lexF (f u) (f v)) (fun u _=>lex_irr _) (fun u v z h1 h2 h3=>lex_tr ((hT u h1).trans (hT v h2).symm) ((hT v h2).trans (hT z h3).symm)) (fun u v z h1 h2 h3=>lex_ntr ((hT u h1).trans (hT v h2).symm) ((hT v h2).trans (hT z h3).symm)) hx hy
theorem lt_tuples {vs:List Value} {f:Value→List Int} {c:Nat} (hT:Tups s.heap vs f c) :
    LtOk prog w A E s (fun p=>p.1∈vs) (byRk fun p=>rank (fun u v=>lexF (f u) (f v)) vs p.1) (tuples' true):=by
  intro x y st Q hx hy hk h
  have e:byRk (fun p:Keyed=>rank (fun u v=>lexF (f u) (f v)) vs p.1) x y=lexF (f x.1) (f y.1):=by
    unfold byRk
    exact rank_lex (fun v hv=>(hT v hv).2) hx hy
  rw[e] at h
  rw[lt'_eq]
  refine wpS_bind (wpS_get ?_)
  rw[hk]
  refine wpS_bind (wpS_lift (wpAny_attempt (SoT.key_lt (hT _ hx).1 (hT _ hy).1 ⟨rfl,?_⟩)))
  rw[(hT _ hx).2,(hT _ hy).2,show decide (c<c)=false from decide_eq_false (Nat.lt_irrefl c)]
  exact wpS_pure h
theorem kat_all {h:Heap} {f:Value→List Int} {c:Nat} (hc:0<c) {vs:List Value} (hT:Tups h vs f c) : ∃fs,KatTups h vs fs∧fs.length=vs.length∧∀f∈fs,∃n t,f=Value.int n t:=
  SoT.kat_of (nss:=vs.map f) (by rw[List.length_map]) fun i v ns h1 h2=>by
    rw[List.getElem?_map,h1] at h2
    cases h2
    have:=hT v (List.mem_of_getElem? h1)
    exact ⟨by rw[this.2]; exact hc,this.1⟩
theorem list_sort_lex {a:Addr} {vs:List Value} {n c:Nat} {f:Value→List Int} {P:PySem.Fin→Shared→Prop} (ho:s.heap.get? a=some (seqObj "list" vs.toArray n)) (hT:Tups s.heap vs f c) (hc:0<c) (hz:vs.length≤sizeLine)
    (h:∀out:List Value,out.Perm vs→out.Pairwise (fun u v=>lexF (f v) (f u)=false)→P (.done (.ret .none)) { s with heap:=sortedHeap s.heap a vs out.toArray }) : wpAny (model prog w) A (Builtin.«list.sort» ⟨[.ref a],[]⟩) P E s:=by
  rw[list_sort_plain]
  have ha:a<s.heap.objs.size:=Heap.lt_size ho
  refine wpAny_bind (listItems_at ho rfl (wpAny_bind (listUpdate_at ho rfl ?_ (by simpa using hz) (by simp))))
  obtain ⟨e1,ho1⟩ : ∃e1,(s.heap.update a (Obj.mapSeq fun _=>#[])).get? a=some (seqObj "list" #[] e1):=⟨_,get?_update_seq ho (fun _=>#[])⟩
  refine wpAny_bind (seqEpoch_at ho1 rfl (wpAny_bind (wpAny_newTuple (wpAny_bind (wpAny_newList (wpAny_holding ?_))) (by simpa using hz))))
  have ho6:(((s.heap.update a (Obj.mapSeq fun _=>#[])).push (seqObj "tuple" vs.toArray 0)).push (seqObj "list" #[] 0)).get? a=some (seqObj "list" #[] e1):=by
    rw[Heap.get?_push_ne _ _ _ (show a≠_ by rw[size_push',Heap.size_update]; exact Nat.ne_of_lt (Nat.lt_succ_of_lt ha)),Heap.get?_push_ne _ _ _ (show a≠_ by rw[Heap.size_update]; exact Nat.ne_of_lt ha)]
    exact ho1
  have keep:∀b o,s.heap.get? b=some o→o.cls=.type "tuple"→(((s.heap.update a (Obj.mapSeq fun _=>#[])).push (seqObj "tuple" vs.toArray 0)).push (seqObj "list" #[] 0)).get? b=some o:=fun b o hb hc=>by
    have hba:a≠b:=by
      rintro rfl
      rw[ho] at hb
      cases hb
      exact absurd hc (show ¬Value.type "list" = Value.type "tuple" by decide)
    exact Heap.get?_push_of_some _ (Heap.get?_push_of_some _ ((Heap.get?_update_other _ _ hba).trans hb))
  have hT':=hT.keep keep
  show wpAny (model prog w) A _ P E { s with heap:=((s.heap.update a (Obj.mapSeq fun _=>#[])).push (seqObj "tuple" vs.toArray 0)).push (seqObj "list" #[] 0) }
  dsimp only
  have zl:(vs.toArray.zip vs.toArray).toList=vs.zip vs:=by simp
  have fin:∀xs:Array Keyed,xs.Perm (vs.toArray.zip vs.toArray)→(∀p∈xs.toList,p.1=p.2∧p.1∈vs)∧(xs.map (·.2)).toList.Perm vs:=fun xs hp=>by
    have hp':=Array.perm_iff_toList_perm.mp hp
    rw[zl] at hp'
    refine ⟨fun p hq=>?_,?_⟩
    · have:=hp'.mem_iff.mp hq
      obtain ⟨u,v⟩:=p
      exact mem_zip_self this
    · rw[Array.toList_map]
      have:=hp'.map (fun p:Keyed=>p.2)
      rw[List.map_snd_zip (Nat.le_refl _)] at this
      exact this
  by_cases h2:vs.toArray.size<2
  · rw[if_pos h2,if_pos h2]
    refine wpAny_bind (wpAny_pure ?_)
    rw[StateT.run_pure]
    refine wpAny_bind (wpAny_pure ?_)
    dsimp only
    have ef:(arrOf (SortSt.mk' general' (vs.toArray.zip vs.toArray) #[] 7 none)).map (·.2)=vs.toArray:=by
      apply Array.ext'
      simp[List.map_snd_zip]
    rw[ef]
    refine wpAny_bind (seqEpoch_at ho6 rfl (wpAny_bind (listUpdate_at ho6 rfl ?_ (by simp) (by simp; lia))))
    simp only[bne_self_eq_false,Bool.false_eq_true,if_false]
    refine wpAny_pure (h vs (.refl _) ?_)
    have h2':vs.length<2:=by simpa using h2
    match vs,h2' with
    | [],_=>exact List.Pairwise.nil
    | [x],_=>exact List.pairwise_singleton _ _
  · rw[if_neg h2,if_neg h2]
    obtain ⟨fs,k1,k2,k3⟩:=kat_all hc hT'
    have h2':2≤vs.length:=by simpa using h2
    refine wpAny_bind (kat_kind (T:=.type "int") k1 (by lia) (fun v hv=>?_) (by rfl) ?_)
    · obtain ⟨m,t,rfl⟩:=k3 v hv
      exact .now
    · have e0 : (Value.type "int" != Value.type "tuple") = true := by decide
      rw[e0]
      refine wpAny_bind (wpAny_mono (sortRuns_run (xs:=vs.toArray.zip vs.toArray) (lt_tuples hT') (fun p hp=>?_) (st:=SortSt.mk' (tuples' true) (vs.toArray.zip vs.toArray) #[] 7 none)
        (Q:=fun _ st'=>(arrOf st').Perm (vs.toArray.zip vs.toArray)∧failedOf st'=none∧Srt (byRk fun p=>rank (fun u v=>lexF (f u) (f v)) vs p.1) (arrOf st').toList) rfl rfl rfl rfl fun st' a1 a2 a3=>⟨a1,a2,a3⟩) ?_ fun _ _ z=>z)
      · rw[zl] at hp
        obtain ⟨u,v⟩:=p
        exact (List.of_mem_zip hp).1
      · rintro ⟨⟨⟩,st'⟩ s' ⟨rfl,hp',hf',hs'⟩
        dsimp only at hp' hf' hs' ⊢
        obtain ⟨f1,f2⟩:=fin _ hp'
        have hsz:((arrOf st').map (·.2)).size≤sizeLine:=by
          have:=f2.length_eq
          rw[Array.length_toList] at this
          lia
        refine wpAny_bind (seqEpoch_at ho6 rfl (wpAny_bind (listUpdate_at ho6 rfl ?_ (by simp) (Nat.le_succ_of_le hsz))))
        rw[hf']
        simp only[bne_self_eq_false,Bool.false_eq_true,if_false]
        refine wpAny_pure ?_
        have:=h ((arrOf st').map (·.2)).toList f2 ?_
        · rw[Array.toArray_toList] at this
          exact this
        · rw[Array.toList_map,List.pairwise_map]
          refine List.Pairwise.imp_of_mem (fun {p q} hp hq hr=>?_) hs'
          obtain ⟨p1,p2⟩:=f1 p hp
          obtain ⟨q1,q2⟩:=f1 q hq
          have e:byRk (fun p:Keyed=>rank (fun u v=>lexF (f u) (f v)) vs p.1) q p=lexF (f q.1) (f p.1):=by
            unfold byRk
            exact rank_lex (fun v hv=>(hT v hv).2) q2 p2
          rw[e] at hr
          rw[←p1,←q1]
          exact hr
theorem sorted_lex {l:Addr} {vs:List Value} {c:Nat} {f:Value→List Int} {Q:Value→Shared→Prop} (hl:s.heap.IsList l vs.toArray) (hT:Tups s.heap vs f c) (hc:0<c) (hz:vs.length≤sizeLine)
    (h:∀(D:Addr) (h':Heap) (n:Nat) (out:List Value),s.heap.objs.size≤D→(∀b o,s.heap.get? b=some o→h'.get? b=some o)→h'.get? D=some (seqObj "list" out.toArray n)→out.Perm vs→out.Pairwise (fun u v=>lexF (f v) (f u)=false)→Q (.ref D) { s with heap:=h' }) :
    wpAny (model prog w) A (call (.builtin "sorted") [.ref l]) Q E s:=by
  refine Calls.call_function_entry kind_sorted plain_sorted entry_sorted (args_sorted1 _) ?_
  unfold Builtin.«sorted»
  refine wpAny_bind (m:=checkCount "sorted" 1 1 _) (wpAny_pure ?_)
  refine wpAny_bind (collect_list hl ?_ hz)
  refine wpAny_bind (wpAny_newList ?_ hz)
  have hsz:((s.heap.push (seqObj "list" #[] 0)).update s.heap.objs.size (Obj.mapSeq (·++vs.toArray))).objs.size=s.heap.objs.size+1:=by
    rw[Heap.size_update,size_push']
  have hoL:(((s.heap.push (seqObj "list" #[] 0)).update s.heap.objs.size (Obj.mapSeq (·++vs.toArray))).push (seqObj "list" vs.toArray 0)).get? (s.heap.objs.size+1)=some (seqObj "list" vs.toArray 0):=by
    rw[←hsz]; exact Heap.get?_push_size _ rfl
  have keep:∀b o,s.heap.get? b=some o→(((s.heap.push (seqObj "list" #[] 0)).update s.heap.objs.size (Obj.mapSeq (·++vs.toArray))).push (seqObj "list" vs.toArray 0)).get? b=some o:=fun b o q=>by
    have hlt:b<s.heap.objs.size:=Heap.lt_size q
    rw[Heap.get?_push_ne _ _ _ (by rw[hsz]; exact Nat.ne_of_lt (Nat.lt_succ_of_lt hlt)),Heap.get?_update_ne _ _ _ _ (Nat.ne_of_lt hlt),Heap.get?_push_ne _ _ _ (Nat.ne_of_lt hlt)]
    exact q
  show wpAny _ _ _ _ _ { s with heap:=((s.heap.push (seqObj "list" #[] 0)).update s.heap.objs.size (Obj.mapSeq (·++vs.toArray))).push (seqObj "list" vs.toArray 0) }
  rw[hsz]
  refine wpAny_bind (wpAny_holding (wpAny_call_entry slot_list_sort ⟨_,hoL,rfl⟩ entry_list_sort (list_sort_lex hoL (hT.keep fun b o hb _=>keep b o hb) hc hz fun out p1 p2=>⟨_,rfl,?_⟩) (args_list_sort _)))
  obtain ⟨e1,ho1⟩ : ∃e1,(sortedHeap (((s.heap.push (seqObj "list" #[] 0)).update s.heap.objs.size (Obj.mapSeq (·++vs.toArray))).push (seqObj "list" vs.toArray 0)) (s.heap.objs.size+1) vs out.toArray).get? (s.heap.objs.size+1)=some (seqObj "list" out.toArray e1):=by
    unfold sortedHeap
    obtain ⟨e2,ho2⟩ : ∃e2,((((s.heap.push (seqObj "list" #[] 0)).update s.heap.objs.size (Obj.mapSeq (·++vs.toArray))).push (seqObj "list" vs.toArray 0)).update (s.heap.objs.size+1) (Obj.mapSeq fun _=>#[])).get? (s.heap.objs.size+1)=some (seqObj "list" #[] e2):=⟨_,get?_update_seq hoL (fun _=>#[])⟩
    exact ⟨_,get?_update_seq (Heap.get?_push_of_some _ (Heap.get?_push_of_some _ ho2)) _⟩
  exact wpAny_pure ⟨_,rfl,h _ _ e1 out (Nat.le_succ _) (fun b o hb=>SoT.sortedHeap_keep (Nat.ne_of_lt (Nat.lt_succ_of_lt (Heap.lt_size hb))) (keep b o hb)) ho1 p1 p2⟩
end
end Tim
set_option maxHeartbeats 4000000
namespace Tim
open PySem PySem.W PySem.Calls PyProof.Rows
section
variable {prog:Program} {w:World} {A:Around} {E:Value→Shared→Prop} {s:Shared}
def isIntKey (p:Keyed) : Prop:=∃n t,p.1=Value.int n t
theorem lt_ints:LtOk prog w A E s isIntKey (byRk fun p=>numOf p.1) oneType':=by
  intro x y st Q hx hy hk h
  obtain ⟨x1,x2⟩:=x
  obtain ⟨y1,y2⟩:=y
  obtain ⟨n,t,hx⟩:=hx
  obtain ⟨m,u,hy⟩:=hy
  dsimp only at hx hy
  subst hx hy
  rw[lt'_eq]
  refine wpS_bind (wpS_get ?_)
  rw[hk,keyLt'_oneType]
  refine wpS_bind (wpS_lift (wpAny_attempt (oneLt_int ⟨rfl,?_⟩)))
  exact wpS_pure h
theorem sorted_of {xs:Array Keyed} (h:Srt (byRk fun p=>numOf p.1) xs.toList) : SortedTo xs xs.size:=fun i j hij hj=>by
  by_cases e:i=j
  · subst e
    exact Int.le_refl _
  · have hi : i < xs.size := by lia
    have:=List.pairwise_iff_getElem.mp h i j (by rw[Array.length_toList]; exact hi) (by rw[Array.length_toList]; exact hj) (by lia)
    unfold byRk at this
    rw[K_eq hi,K_eq hj]
    simp only[decide_eq_false_iff_not,Int.not_lt,Array.getElem_toList] at this
    exact this
variable {a kS:Addr} {b:Bool} {vs:List Value} {kz:List Int} {keys:Array Value} {e e1:Nat} {P:PySem.Fin→Shared→Prop}
def Rest (h h':Heap) (a kS:Addr) : Prop:=∀c o,c≠a→c≠kS→h.get? c=some o→h'.get? c=some o
theorem lsk_tail {st:SortSt} (nk:s.heap.get? kS=some (seqObj "list" keys e)) (na:s.heap.get? a=some (seqObj "list" #[] e1)) (hka:kS≠a)
    (hk:IntsAre keys.toList kz) (hlen:kz.length=vs.length) (hz:vs.length≤sizeLine) (hp:(arrOf st).Perm (keys.zip vs.toArray)) (hs:SortedTo (arrOf st) (arrOf st).size) (hfl:failedOf st=none)
    (h:∀h' tk out c,Rest s.heap h' a kS→h'.get? a=some (seqObj "list" out c)→KskOut b kz vs out.toList→P (.done (.ret .none)) { s with heap:=h',toks:=tk }) :
    wpAny (model prog w) A (ksk_tail a b e1 (.ref kS) st) P E s:=by
  have hsz:keys.size=vs.length:=by
    have h1:=hk.length
    rw[Array.length_toList] at h1
    lia
  have hsz2:(arrOf st).size=vs.length:=by rw[hp.size_eq,Array.size_zip,hsz,List.size_toArray,Nat.min_self]
  have hout:(if b then ((arrOf st).map (·.2)).reverse else (arrOf st).map (·.2)).size=vs.length:=by
    cases b with
    | false=>rw[if_neg (by decide),Array.size_map]; exact hsz2
    | true=>rw[if_pos rfl,Array.size_reverse,Array.size_map]; exact hsz2
  have s1:=Heap.SameBut.update s.heap kS (Obj.mapSeq fun _=>(#[] : Array Value))
  have na1:(s.heap.update kS (Obj.mapSeq fun _=>(#[] : Array Value))).get? a=some (seqObj "list" #[] e1):=(s1.2 a hka.symm).trans na
  have s2:=Heap.SameBut.update (s.heap.update kS (Obj.mapSeq fun _=>(#[] : Array Value))) a (Obj.mapSeq fun _=>if b then ((arrOf st).map (·.2)).reverse else (arrOf st).map (·.2))
  have put:∀out:Array Value,∃c2,((s.heap.update kS (Obj.mapSeq fun _=>(#[] : Array Value))).update a (Obj.mapSeq fun _=>out)).get? a=some (seqObj "list" out c2):=fun out=>⟨_,get?_update_seq na1 fun _=>out⟩
  obtain ⟨c2,hc2⟩:=put (if b then ((arrOf st).map (·.2)).reverse else (arrOf st).map (·.2))
  unfold ksk_tail
  dsimp only
  refine wpAny_bind (listUpdate_at nk rfl ?_ (by rw[hsz]; exact hz) (Nat.zero_le _))
  refine wpAny_bind (wpAny_letGo (wpAny_bind (seqEpoch_at na1 rfl ?_)))
  refine wpAny_bind (listUpdate_at na1 rfl ?_ (Nat.zero_le _) (Nat.le_succ_of_le (Nat.le_trans (Nat.le_of_eq hout) hz)))
  rw[hfl]
  simp only[bne_self_eq_false,Bool.false_eq_true,if_false]
  exact wpAny_pure (h _ _ _ c2 (fun c o h1 h2 ec=>(s2.2 c h1).trans ((s1.2 c h2).trans ec)) hc2 (ksk_out hk hp hs))
theorem lsk_end (nk:s.heap.get? kS=some (seqObj "list" keys e)) (na:s.heap.get? a=some (seqObj "list" #[] e1)) (hka:kS≠a) (hk:IntsAre keys.toList kz) (hlen:kz.length=vs.length) (hz:vs.length≤sizeLine)
    (h:∀h' tk out c,Rest s.heap h' a kS→h'.get? a=some (seqObj "list" out c)→KskOut b kz vs out.toList→P (.done (.ret .none)) { s with heap:=h',toks:=tk }) :
    wpAny (model prog w) A (ksk_end a b vs.toArray e1 (.ref kS) keys) P E s:=by
  have hsz:keys.size=vs.length:=by
    have h1:=hk.length
    rw[Array.length_toList] at h1
    lia
  have hzs:(keys.zip vs.toArray).size=vs.length:=by rw[Array.size_zip,hsz,List.size_toArray,Nat.min_self]
  have hstart:(if b=true then (keys.zip vs.toArray).reverse else keys.zip vs.toArray).Perm (keys.zip vs.toArray):=by
    cases b with
    | false=>exact Array.Perm.refl _
    | true=>exact Array.perm_iff_toList_perm.mpr (by rw[if_pos rfl,Array.toList_reverse]; exact List.reverse_perm _)
  have main:wpAny (model prog w) A (do
      let kind ←if vs.toArray.size<2 then pure general' else keyKind' keys
      let ((),s) ←(if vs.toArray.size<2 then pure () else sortRuns').run (SortSt.mk' kind (if b then (keys.zip vs.toArray).reverse else keys.zip vs.toArray) #[] 7 none)
      ksk_tail a b e1 (.ref kS) s) P E s:=by
    by_cases h2:vs.toArray.size<2
    · rw[if_pos h2,if_pos h2]
      refine wpAny_bind (wpAny_pure ?_)
      dsimp only
      rw[StateT.run_pure]
      refine wpAny_bind (wpAny_pure ?_)
      dsimp only
      refine lsk_tail (st:=SortSt.mk' general' (if b=true then (keys.zip vs.toArray).reverse else keys.zip vs.toArray) #[] 7 none) nk na hka hk hlen hz hstart ?_ rfl h
      intro i j hij hj
      have hj2:j<(if b=true then (keys.zip vs.toArray).reverse else keys.zip vs.toArray).size:=hj
      rw[hstart.size_eq,hzs] at hj2
      rw[List.size_toArray] at h2
      have:i=j:=by lia
      subst this
      exact Int.le_refl _
    · rw[if_neg h2,if_neg h2]
      rw[List.size_toArray] at h2
      rw[ksk_kind hk (by rw[hsz]; lia)]
      refine wpAny_bind (wpAny_pure ?_)
      refine wpAny_bind (wpAny_mono (sortRuns_run (xs:=if b=true then (keys.zip vs.toArray).reverse else keys.zip vs.toArray) lt_ints (fun p hp=>?_) (st:=SortSt.mk' oneType' (if b=true then (keys.zip vs.toArray).reverse else keys.zip vs.toArray) #[] 7 none)
        (Q:=fun _ st'=>(arrOf st').Perm (keys.zip vs.toArray)∧failedOf st'=none∧SortedTo (arrOf st') (arrOf st').size) rfl rfl rfl rfl fun st' a1 a2 a3=>⟨a1.trans hstart,a2,sorted_of a3⟩) ?_ fun _ _ z=>z)
      · exact ksk_intKeys hk p ((Array.perm_iff_toList_perm.mp hstart).mem_iff.mp hp)
      · rintro ⟨⟨⟩,st'⟩ s' ⟨rfl,hp,hf,hs⟩
        dsimp only at hp hf hs ⊢
        exact lsk_tail nk na hka hk hlen hz hp hs hf h
  unfold ksk_end
  dsimp only
  cases b with
  | false=>exact main
  | true=>exact wpAny_bind (wpAny_rule main)
def Keeps (h h':Heap) : Prop:=∀c o,h.get? c=some o→h'.get? c=some o
theorem lsk_rest {f:Value} {h₀:Heap} (K0:Keeps h₀ s.heap) (fa:h₀.get? a=none) (fk:h₀.get? kS=none) (nk:s.heap.get? kS=some (seqObj "list" #[] 0)) (na:s.heap.get? a=some (seqObj "list" #[] e1)) (hka:kS≠a) (hlen:kz.length=vs.length) (hz:vs.length≤sizeLine)
    (turn:∀(i:Nat) (v:Value) (k:Int),vs[i]?=some v→kz[i]?=some k→∀(h:Heap) (tk:Nat),Keeps h₀ h→∀Q:Value→Shared→Prop,(∀h' tk' t',Keeps h h'→Q (.int k t') { s with heap:=h',toks:=tk' }) →
      wpAny (model prog w) A (call f [v]) Q (fun _ _=>False) { s with heap:=h,toks:=tk })
    (h:∀h' tk out c,Keeps h₀ h'→h'.get? a=some (seqObj "list" out c)→KskOut b kz vs out.toList→P (.done (.ret .none)) { s with heap:=h',toks:=tk }) :
    wpAny (model prog w) A (ksk_rest a f b vs.toArray e1 (.ref kS)) P E s:=by
  unfold ksk_rest
  refine wpAny_bind (wpAny_rule ?_)
  rw[List.forIn_toArray]
  refine wpAny_bind (ksk_fold (fun i s'=>∃h' tk kA e,s' = { s with heap:=h',toks:=tk }∧Keeps h₀ h'∧h'.get? kS=some (seqObj "list" kA e)∧h'.get? a=some (seqObj "list" #[] e1)∧IntsAre kA.toList (kz.take i)) vs 0 s
    ⟨s.heap,s.toks,#[],0,rfl,K0,nk,na,by simpa using IntsAre.nil⟩ ?step ?done)
  case step =>
    rintro j x s' hx ⟨h',tk,kA,e,rfl,K',nk',na',hk⟩
    simp only[Nat.zero_add] at hk ⊢
    have hj:j<vs.length:=(List.getElem?_eq_some_iff.mp hx).1
    obtain ⟨k,hkj⟩ : ∃k,kz[j]?=some k:=⟨_,List.getElem?_eq_getElem (by lia)⟩
    have hzz:kA.size≤j:=by
      have h1:=hk.length
      rw[Array.length_toList,List.length_take] at h1
      lia
    refine wpAny_bind (wpAny_attempt (wpAny_mono (turn j x k hx hkj h' tk K' _ fun g tk2 t2 kg=>?_) (fun v s'' he=>he) fun _ _ hF=>hF.elim))
    dsimp only
    have nk2:=kg _ _ nk'
    have na2:=kg _ _ na'
    have s1:=Heap.SameBut.update g kS (Obj.mapSeq (·.push (.int k t2)))
    obtain ⟨c2,hc2⟩ : ∃c2,(g.update kS (Obj.mapSeq (·.push (.int k t2)))).get? kS=some (seqObj "list" (kA.push (.int k t2)) c2):=⟨_,get?_update_seq nk2 (·.push (.int k t2))⟩
    have ek:kz.take (j+1)=kz.take j++[k]:=by rw[List.take_add_one,hkj]; simp
    have ea:(kA.push (Value.int k t2)).toList=kA.toList++[Value.int k t2]:=by simp
    refine wpAny_bind (listUpdate_at nk2 rfl ?_ (by lia) (Nat.le_trans (Nat.le_of_eq (Array.size_push ..)) (by lia)))
    refine wpAny_pure ⟨rfl,_,_,kA.push (.int k t2),c2,rfl,fun c o ec=>?_,hc2,(s1.2 a hka.symm).trans na2,by rw[ea,ek]; exact ksk_snoc hk⟩
    have hc:c≠kS:=fun z=>by rw[z,fk] at ec; cases ec
    exact (s1.2 c hc).trans (kg _ _ (K' _ _ ec))
  case done =>
    rintro s' ⟨h',tk,kA,e,rfl,K',nk',na',hk⟩
    have hk':IntsAre kA.toList kz:=by
      have e3:kz.take (0+vs.length)=kz:=List.take_of_length_le (by lia)
      rw[e3] at hk
      exact hk
    refine wpAny_bind (listItems_at nk' rfl ?_)
    refine lsk_end (s:={ s with heap:=h',toks:=tk }) nk' na' hka hk' hlen hz fun h3 tk3 out c R3 n3 k3=>h h3 tk3 out c (fun c o ec=>R3 c o (fun z=>by rw[z,fa] at ec; cases ec) (fun z=>by rw[z,fk] at ec; cases ec) (K' _ _ ec)) n3 k3
theorem lsk_sort {f:Value} {n:Nat} {h₀:Heap} (K0:Keeps h₀ s.heap) (fa:h₀.get? a=none) (hle:h₀.objs.size≤s.heap.objs.size) (ho:s.heap.get? a=some (seqObj "list" vs.toArray n)) (hlen:kz.length=vs.length) (hz:vs.length≤sizeLine)
    (turn:∀(i:Nat) (v:Value) (k:Int),vs[i]?=some v→kz[i]?=some k→∀(h:Heap) (tk:Nat),Keeps h₀ h→∀Q:Value→Shared→Prop,(∀h' tk' t',Keeps h h'→Q (.int k t') { s with heap:=h',toks:=tk' }) →
      wpAny (model prog w) A (call f [v]) Q (fun _ _=>False) { s with heap:=h,toks:=tk })
    (h:∀h' tk out c,Keeps h₀ h'→h'.get? a=some (seqObj "list" out c)→KskOut b kz vs out.toList→P (.done (.ret .none)) { s with heap:=h',toks:=tk }) :
    wpAny (model prog w) A (ksk_tree a f b) P E s:=by
  have ha:a<s.heap.objs.size:=Heap.lt_size ho
  have s1:=Heap.SameBut.update s.heap a (Obj.mapSeq fun _=>(#[] : Array Value))
  obtain ⟨e1,ho1⟩ : ∃e1,(s.heap.update a (Obj.mapSeq fun _=>(#[] : Array Value))).get? a=some (seqObj "list" #[] e1):=⟨_,get?_update_seq ho fun _=>#[]⟩
  have hkS:((s.heap.update a (Obj.mapSeq fun _=>(#[] : Array Value))).push (seqObj "tuple" vs.toArray 0)).objs.size=s.heap.objs.size+1:=by rw[size_push',Heap.size_update]
  unfold ksk_tree
  refine wpAny_bind (listItems_at ho rfl ?_)
  refine wpAny_bind (listUpdate_at ho rfl ?_ (by rw[List.size_toArray]; exact hz) (Nat.zero_le _))
  refine wpAny_bind (seqEpoch_at ho1 rfl ?_)
  refine wpAny_bind (wpAny_newTuple ?_ (by simpa using hz))
  refine wpAny_bind (wpAny_newList ?_ (Nat.zero_le _))
  refine wpAny_holding ?_
  refine lsk_rest (s:={ s with heap:=((s.heap.update a (Obj.mapSeq fun _=>(#[] : Array Value))).push (seqObj "tuple" vs.toArray 0)).push (seqObj "list" #[] 0) }) (kS:=((s.heap.update a (Obj.mapSeq fun _=>(#[] : Array Value))).push (seqObj "tuple" vs.toArray 0)).objs.size)
    (fun c o ec=>Heap.get?_push_of_some _ (Heap.get?_push_of_some _ ((s1.2 c fun z=>by rw[z,fa] at ec; cases ec).trans (K0 _ _ ec)))) fa (Heap.get?_none_of_le (by rw[hkS]; lia)) (Heap.get?_push_size _ rfl) (Heap.get?_push_of_some _ (Heap.get?_push_of_some _ ho1)) (by rw[hkS]; exact Nat.ne_of_gt (Nat.lt_succ_of_lt ha)) hlen hz turn h
theorem lsk_sorted {l:Addr} {f:Value} {kw:List (Str×Value)} {Q:Value→Shared→Prop} (hl:s.heap.IsList l vs.toArray) (hlen:kz.length=vs.length) (hz:vs.length≤sizeLine)
    (ha1:argsOk "sorted" ⟨[.ref l],kw⟩) (ha2:∀x,argsOk "list.sort" ⟨[.ref x],kw⟩) (ht:∀x,Builtin.«list.sort» ⟨[.ref x],kw⟩=ksk_tree x f b)
    (turn:∀(i:Nat) (v:Value) (k:Int),vs[i]?=some v→kz[i]?=some k→∀(h:Heap) (tk:Nat),Keeps s.heap h→∀Q:Value→Shared→Prop,(∀h' tk' t',Keeps h h'→Q (.int k t') { s with heap:=h',toks:=tk' }) →
      wpAny (model prog w) A.in1.in1 (call f [v]) Q (fun _ _=>False) { s with heap:=h,toks:=tk })
    (h:∀D h' tk out c,Keeps s.heap h'→s.heap.objs.size≤D→h'.get? D=some (seqObj "list" out c)→KskOut b kz vs out.toList→Q (.ref D) { s with heap:=h',toks:=tk }) :
    wpAny (model prog w) A (call (.builtin "sorted") [.ref l] kw) Q E s:=by
  refine call_function_entry_kw kind_sorted plain_sorted entry_sorted ha1 ?_
  unfold Builtin.«sorted»
  refine wpAny_bind (m:=checkCount "sorted" 1 1 _) (wpAny_pure ?_)
  refine wpAny_bind (collect_list hl ?_ hz)
  refine wpAny_bind (wpAny_newList ?_ hz)
  have hsz:((s.heap.push (seqObj "list" #[] 0)).update s.heap.objs.size (Obj.mapSeq (·++vs.toArray))).objs.size=s.heap.objs.size+1:=by
    rw[Heap.size_update,size_push']
  have hoL:(((s.heap.push (seqObj "list" #[] 0)).update s.heap.objs.size (Obj.mapSeq (·++vs.toArray))).push (seqObj "list" vs.toArray 0)).get? (s.heap.objs.size+1)=some (seqObj "list" vs.toArray 0):=by
    rw[←hsz]; exact Heap.get?_push_size _ rfl
  have keep:Keeps s.heap (((s.heap.push (seqObj "list" #[] 0)).update s.heap.objs.size (Obj.mapSeq (·++vs.toArray))).push (seqObj "list" vs.toArray 0)):=fun b o q=>by
    have hlt:b<s.heap.objs.size:=Heap.lt_size q
    rw[Heap.get?_push_ne _ _ _ (by rw[hsz]; exact Nat.ne_of_lt (Nat.lt_succ_of_lt hlt)),Heap.get?_update_ne _ _ _ _ (Nat.ne_of_lt hlt),Heap.get?_push_ne _ _ _ (Nat.ne_of_lt hlt)]
    exact q
  show wpAny _ _ _ _ _ { s with heap:=((s.heap.push (seqObj "list" #[] 0)).update s.heap.objs.size (Obj.mapSeq (·++vs.toArray))).push (seqObj "list" vs.toArray 0) }
  rw[hsz]
  refine wpAny_bind (wpAny_holding (wpAny_call_entry_kw slot_list_sort ⟨_,hoL,rfl⟩ entry_list_sort ?body (ha2 _)))
  case body =>
    have ht':=ht (s.heap.objs.size+1)
    show wpAny (model prog w) A.in1.in1 (Builtin.«list.sort» ⟨[.ref (s.heap.objs.size+1)],kw⟩) _ _ _
    rw[ht']
    refine lsk_sort (h₀:=s.heap) (s:={ s with heap:=((s.heap.push (seqObj "list" #[] 0)).update s.heap.objs.size (Obj.mapSeq (·++vs.toArray))).push (seqObj "list" vs.toArray 0) })
      keep (Heap.get?_none_of_le (Nat.le_succ _)) (by rw[size_push',hsz]; lia) hoL hlen hz turn fun h' tk out c K' n' k'=>⟨_,rfl,?_⟩
    exact wpAny_pure ⟨_,rfl,h _ h' tk out c K' (Nat.le_succ _) n' k'⟩
end
end Tim
set_option maxHeartbeats 1000000
namespace L2
open PySem PySem.Spec PyProof.Rows PySem.W
section
variable {X:Cx} {pins:List (Addr×Obj)} {σ:St} {H:Hp} {s:Shared} {A:Around} {E:Value→Shared→Prop} {Q:Value→Shared→Prop}
theorem lam_call1 {f c' ta:Addr} {nm q x:Str} {params:Arguments} {scope:Scope} {pm ctv:Value} {ys:List V} {j k:Int} {kk:Nat} {p1 p4 p5:Pos}
    (I:Inv X pins σ H s) (ho:s.heap.get? f=some (kla_obj nm q params (.Subscript (.Name x p1) (.Constant (.int j) kk p4) p5) scope [] pm c' ctv)) (hcd:s.heap.CodeRec (.ref c') q)
    (ht:SqT X.K H ta ys) (hy:atI ys j=some (.int k))
    (hbind:∀v,bindArgs (kla_fn nm q params (.Subscript (.Name x p1) (.Constant (.int j) kk p4) p5) scope [] pm (.ref c') ctv) ⟨[v],[]⟩=pure [(x,v)])
    (hk:scope.kind=.function) (hco:scope.isCoroutine=false) (hgen:scope.isGenerator=false) (hcell:∀z∈scope.names,z.2≠.cell) (hlx:scope.names.lookup x=some .local)
    (hdx:(x == ("__debug__" : Str))=false) (room:A.depth<recursionLimit)
    (h:∀h' tk t',(∀b o,s.heap.get? b=some o→h'.get? b=some o)→Q (.int k t') { s with heap:=h',toks:=tk }) :
    wpAny (model X.prog X.w) A (call (.ref f) [.ref ta]) Q E s:=by
  obtain ⟨us,r',pt,hz'⟩:=I.tuple ht
  obtain ⟨j',g1,g2,g3,g4,g5⟩:=atI_get hy
  obtain ⟨w2,ew2,rw2⟩:=r'.get g2
  obtain ⟨t2,rfl⟩:=rw2
  have hl':=r'.length
  have hn:=line63
  refine wpAny_call (kla_callFunE room ho rfl hco hgen rfl hcd ?_)
  rw[hbind]
  refine wpAny_pure (wpAny_newFunctionEnv hcell (fun z hz=>by cases List.mem_singleton.mp hz; exact hlx) (fun h₁ hns hsb=>⟨I.nolimit.fresh _ hsb,?_⟩) hk)
  have keep:∀b o,s.heap.get? b=some o→h₁.get? b=some o:=fun b o e=>hsb.extBut b o (Nat.ne_of_lt (Heap.lt_size e)) (Heap.get?_push_of_some _ e)
  refine kla_codeExpr ?_
  refine Subscript_ (wpAny_Name (wpAny_loadName_local (v:=.ref ta) hk hlx hns (by simp[List.lookup]) ?_) hdx)
  refine wpAny_Constant_int ?_
  have pt1:IsTup h₁ ta us.toArray:=by
    obtain ⟨o,e,d⟩:=pt
    exact ⟨o,keep _ _ e,d⟩
  refine subscriptTail_builtinR (x:=.int k t2) pt1.typeIs slot_tuple_getitem.lookup
    (getItem_tuple (j:=j') pt1 (by lia) (by lia) (by rw[List.size_toArray,←hl']; exact g1) (by simpa using ew2) ⟨rfl,?_⟩) (by with_unfolding_all rfl)
  exact h _ _ _ keep
end
section
variable {X:Cx}
def rListD:List V→Hp→VK→Prop:=fun xs H Q=>∃(a:Addr) (ps:List ((Int×Int)×Int)),xs = [.ref a]∧Rd H a (.dT (DL.encD ps)) ∧
  ∀(l:Addr) (bs:List Addr),H l=none→Paired (fun b p=>H b=some (.tup [.int p.1.1,.int p.1.2])) bs ps→Q (.ref l) (upd H l (.lst (bs.map V.ref)))
theorem refs_vals:∀bs:List Addr,Vals (bs.map V.ref) (bs.map Value.ref)
  | []=>.nil
  | b::bs=>.cons rfl (refs_vals bs)
theorem call_listD (hc:X.calm=true) : CallR X (.type "list") rListD:=by
  intro pins s σ H xs us Q I r h
  obtain ⟨a,ps,rfl,e,q⟩:=h
  obtain ⟨u,rfl,ru⟩:=vals1 r
  cases ru
  obtain ⟨z,hd,xs,rel,o,es,ep,h1,h2,h3,h4,_⟩:=dt_rd I.hok e
  obtain ⟨bs,hb,hk⟩:=entries_of (P:=X.prog) (w:=X.w) rel
  rw[←h4] at hk
  have hl:bs.length=ps.length:=Paired.length hb
  have hsz:es.size=ps.length:=by
    have:=congrArg List.length hk
    simp at this
    lia
  have hz:es.size≤sizeLine:=by
    rw[hsz]
    have:(DL.encD ps).length=ps.length:=by unfold DL.encD; rw[List.length_map]
    lia
  refine kdl_call (DIt.src (ep:=ep) hd) (I.ok.hd hc) ⟨o,h1,h2,h3⟩ hz fun h' tk acc' c' k' hD hacc=>?_
  have ea:acc'.toList=bs.map Value.ref:=by
    rw[←hk]
    refine List.ext_getElem? fun j=>?_
    rw[List.getElem?_map]
    by_cases hj:j<es.size
    · have h1 : acc'[j]? = some (acc'[j]'(by rw [hacc.1]; exact hj)) := Array.getElem?_eq_getElem _
      obtain ⟨en,e1,e2⟩:=hacc.2 j _ h1
      rw[Array.getElem?_toList,Array.getElem?_toList,h1,e1,e2]
      rfl
    · rw [Array.getElem?_toList, Array.getElem?_toList, Array.getElem?_eq_none (by rw [hacc.1]; lia), Array.getElem?_eq_none (by lia)]
      rfl
  refine ⟨.ref _,_,I.laid (t':=tk) k' (Nat.le_refl _) (o:=.lst (bs.map V.ref)) ⟨by rw[List.length_map]; lia,bs.map Value.ref,c',refs_vals bs,?_⟩,rfl,q _ bs (I.hok.fresh (Nat.le_refl _)) hb⟩
  rw[←ea,Array.toArray_toList]
  exact hD
theorem perm_of_map {α β:Type} {g:α→β} : ∀{l1 l2:List β},l1.Perm l2→∀zs:List α,l2=zs.map g→∃zs':List α,zs'.Perm zs∧l1=zs'.map g:=by
  intro l1 l2 h
  induction h with
  | nil =>
    intro zs e
    exact ⟨[],by rw[List.map_eq_nil_iff.mp e.symm],rfl⟩
  | cons x _ ih =>
    intro zs e
    cases zs with
    | nil=>cases e
    | cons z zs =>
      rw[List.map_cons] at e
      obtain ⟨e1,e2⟩:=List.cons.inj e
      obtain ⟨zs',p,r⟩:=ih zs e2
      exact ⟨z::zs',p.cons z,by rw[r,e1]; rfl⟩
  | swap x y l =>
    intro zs e
    match zs,e with
    | z::z'::zs,e =>
      rw[List.map_cons,List.map_cons] at e
      obtain ⟨e1,e2⟩:=List.cons.inj e
      obtain ⟨e3,e4⟩:=List.cons.inj e2
      exact ⟨z'::z::zs,.swap _ _ _,by rw[e1,e3,e4]; rfl⟩
  | trans _ _ ih1 ih2 =>
    intro zs e
    obtain ⟨zs2,p2,r2⟩:=ih2 zs e
    obtain ⟨zs1,p1,r1⟩:=ih1 zs2 r2
    exact ⟨zs1,p1.trans p2,r1⟩
theorem paired_impl {α β:Type} {R R':α→β→Prop} (f:∀a b,R a b→R' a b) : ∀{xs:List α} {ys:List β},Paired R xs ys→Paired R' xs ys
  | _,_,.nil=>.nil
  | _,_,.cons h t=>.cons (f _ _ h) (paired_impl f t)
theorem paired_mem {α β:Type} {R:α→β→Prop} : ∀{xs:List α} {ys:List β},Paired R xs ys→∀{z:α×β},z∈xs.zip ys→R z.1 z.2
  | _,_,.nil,_,h=>nomatch h
  | _,_,.cons h t,z,hz=>by
    rw[List.zip_cons_cons] at hz
    rcases List.mem_cons.mp hz with e | e
    · subst e; exact h
    · exact paired_mem t e
theorem paired_of_zip {α β:Type} {R:α→β→Prop} : ∀{zs:List (α×β)},(∀z∈zs,R z.1 z.2)→Paired R (zs.map Prod.fst) (zs.map Prod.snd)
  | [],_=>.nil
  | z::zs,h=>.cons (h z (List.mem_cons_self ..)) (paired_of_zip fun y hy=>h y (List.mem_cons_of_mem _ hy))
def Fall (ps:List ((Int×Int)×Int)) : Prop:=ps.Pairwise fun p q=>q.1.2≤p.1.2
def tLD (t:TA) : TA:=tCons (tCB rListD t) tNil
def tSortW (t:TA) : TE:=fun σ H Q=>tLD t σ H fun us H2=>∃(l0:Addr) (bs:List Addr) (ps:List ((Int×Int)×Int)),us = [.ref l0]∧H2 l0=some (.lst (bs.map V.ref))∧Paired (fun b p=>H2 b=some (.tup [.int p.1.1,.int p.1.2])) bs ps ∧
  ∀(l:Addr) (bs':List Addr) (ps':List ((Int×Int)×Int)) (H3:Hp),Same H2 H3→H3 l=none→ps'.Perm ps→Fall ps'→Paired (fun b p=>H3 b=some (.tup [.int p.1.1,.int p.1.2])) bs' ps'→Q (.ref l) (upd H3 l (.lst (bs'.map V.ref)))
theorem pe_sortW {P c:Addr} {x:Str} {params:Arguments} {scope:Scope} {e:Expr} {lpos kpos kpos2 cpos p pl posl pos p1 p4 p5:Pos} {kk jc:Nat} {t:TA}
    (hg:Gl X "sorted") (hm:X.mg "sorted" = none) (hgl:Gl X "list") (hml:X.mg "list" = none) (hc:X.calm=true) (room:Room 0 X.A)
    (hcode:X.env.code=.ref c) (C:CodeHd X.base c P) (B:BltAt X.mg X.base) (hT:TabAt X.H₀ P (X.env.qual++"<lambda>"))
    (hcl:closureFor scope X.env=pure []) (hdef:defaultsOf params X.env=([],[]))
    (hbind:∀q pm c' ctv v,bindArgs (kla_fn "<lambda>" q params (.Subscript (.Name x p1) (.Constant (.int 1) kk p4) p5) scope [] pm (.ref c') ctv) ⟨[v],[]⟩=pure [(x,v)])
    (hk:scope.kind=.function) (hco:scope.isCoroutine=false) (hgen:scope.isGenerator=false) (hcell:∀z∈scope.names,z.2≠.cell) (hlx:scope.names.lookup x=some .local)
    (hdx:(x == ("__debug__" : Str))=false)
    (ha:PA X [e] t) (he0:starEach [e] X.env = [(false,eval e X.env)]:=by rfl)
    (he:starEach [.Call (.Name "list" pl) [e] [] posl] X.env = [(false,eval (.Call (.Name "list" pl) [e] [] posl) X.env)]:=by rfl) :
    PE X (.Call (.Name "sorted" p) [.Call (.Name "list" pl) [e] [] posl] [⟨some "key",.Lambda params (.Subscript (.Name x p1) (.Constant (.int 1) kk p4) p5) scope lpos,kpos⟩,⟨some "reverse",.Constant (.bool true) jc cpos,kpos2⟩] pos) (tSortW t):=by
  intro pins s σ H Q I h
  have hpa:PA X [.Call (.Name "list" pl) [e] [] posl] (tLD t):=pa_cons (pe_callTy (call_listD hc) hgl hml PyProof.Rows.boot_list ha (he:=by rw[he0]; rfl) (hpl:=rfl)) pa_nil (by rw[he]; rfl)
  refine wpAny_Call_Name_kw (ld_blt I hg hm (show bootBuiltins "sorted" = some (.builtin "sorted") by first | rfl | decide) ?_ (by decide) (by decide))
  refine callWith_kw (thn (hpa pos pins s σ H _ I h) fun us s1 ⟨vs,H1,I1,r1,q1⟩=>?_) (by rw[he]; rfl) (by rw[he]; rfl) rfl rfl
  obtain ⟨l0,bs,ps,rfl,hl0,hbs,fin⟩:=q1
  obtain ⟨u,rfl,rx⟩:=vals1 r1
  cases rx
  show wpAny _ _ (evalAll [(do let v ←eval (.Lambda params (.Subscript (.Name x p1) (.Constant (.int 1) kk p4) p5) scope lpos) X.env; standAt pos; pure v),(do let v ←eval (.Constant (.bool true) jc cpos) X.env; standAt pos; pure v)]) _ _ s1
  refine wpAny_evalAll_cons (wpAny_bind (lam_eval I1 hcode C B hT hcl hdef fun f c' ctv pm h3 tk3 H3 I3 hH3 ho hfn hge hrec=>wpAny_bind (wpAny_standAt (wpAny_pure (wpAny_evalAll_cons (wpAny_bind (wpAny_Constant_bool (wpAny_bind (wpAny_standAt (wpAny_pure (wpAny_evalAll_nil ?_)))))))))))
  show wpAny _ _ (call (.builtin "sorted") [.ref l0] [(Str.ofString "key",.ref f),(Str.ofString "reverse",.bool true)]) _ _ _
  have s13:Same H1 H3:=by
    rcases hH3 with z | ⟨z,z'⟩
    · rw[z]; exact Same.refl _
    · rw[z']; exact same_new z
  have hbs3:Paired (fun b p=>H3 b=some (.tup [.int p.1.1,.int p.1.2])) bs ps:=paired_impl (fun _ _ z=>s13 _ _ z) hbs
  have hl:bs.length=ps.length:=Paired.length hbs
  obtain ⟨hz,its,n0,rv,hit⟩:=(show ObjOk X.prog X.w H3 h3 l0 (.lst (bs.map V.ref)) from I3.hok l0 _ (s13 _ _ hl0))
  have eits:its=bs.map Value.ref:=by
    clear hz hit hbs hbs3 hl hl0 fin
    induction bs generalizing its with
    | nil=>cases rv; rfl
    | cons b bs ih =>
      cases rv with
      | cons h1 h2 =>
        cases h1
        rw[ih _ h2]
        rfl
  subst eits
  rw[List.length_map] at hz
  refine Tim.lsk_sorted (b:=true) (kz:=ps.map fun p=>p.1.2) (vs:=bs.map Value.ref) ⟨_,hit,rfl,_,rfl⟩ (by rw[List.length_map,List.length_map,hl]) (by rw[List.length_map]; exact hz) (ksk_s2 _ _ _) (fun x=>ksk_l2 _ _ _) (fun x=>ksk_t2 _ x true)
    (fun i' v k hv hk' h4 tk4 K4 Q4 q4=>?_) fun D h5 tk5 out c5 K5 hD hDo ko=>?_
  · rw[List.getElem?_map] at hv hk'
    obtain ⟨p,hp,rfl⟩:=Option.map_eq_some_iff.mp hk'
    obtain ⟨b,eb,hb'⟩:=DL.paired_get' hbs3 hp
    rw[eb] at hv
    cases hv
    have I4:Inv X pins σ H3 { s1 with heap:=h4,toks:=tk4 }:=I3.kept (t':=tk4) K4
    have hrec4:h4.CodeRec (.ref c') (X.env.qual++"<lambda>"):=by
      obtain ⟨c2,o2,vs2,t2,e2,gg,r2,r3⟩:=hrec
      cases e2
      exact ⟨c',o2,vs2,t2,rfl,K4 _ _ gg,r2,r3⟩
    refine lam_call1 (j:=1) (ys:=[.int p.1.1,.int p.1.2]) I4 (K4 f _ ho) hrec4 (.inl (.inl hb')) rfl (hbind _ _ _ _) hk hco hgen hcell hlx hdx ?_ fun h' tk t' keep=>q4 h' tk t' keep
    have:=room.dp
    show X.A.depth<_
    lia
  · obtain ⟨qs,hqp,hqo,hqs⟩:=ko
    have ezip:(ps.map fun p=>p.1.2).zip (bs.map Value.ref)=(bs.zip ps).map fun z=>(z.2.1.2,Value.ref z.1):=by
      clear hz hit hbs hbs3 hl0 fin hqp rv
      induction bs generalizing ps with
      | nil=>cases ps<;>rfl
      | cons b bs ih =>
        cases ps with
        | nil=>rfl
        | cons p ps =>
          rw[List.map_cons,List.map_cons,List.zip_cons_cons,List.zip_cons_cons,List.map_cons,ih ps (by simpa using hl)]
    rw[ezip] at hqp
    obtain ⟨zs,hzp,rfl⟩:=perm_of_map hqp _ rfl
    have eo:out.toList=(zs.map Prod.fst).map Value.ref:=by rw[hqo,List.map_map,List.map_map]; rfl
    have zlen:zs.length=bs.length:=by rw[hzp.length_eq,List.length_zip]; lia
    refine ⟨.ref D,_,I3.laid (s:={ s1 with heap:=h3,toks:=tk3 }) (t':=tk5) K5 hD (o:=.lst ((zs.map Prod.fst).map V.ref)) ⟨by rw[List.length_map,List.length_map]; lia,(zs.map Prod.fst).map Value.ref,c5,refs_vals _,?_⟩,rfl,fin D (zs.map Prod.fst) (zs.map Prod.snd) H3 s13 (I3.hok.fresh hD) ?_ ?_ ?_⟩
    · rw[←eo,Array.toArray_toList]
      exact hDo
    · have:=hzp.map Prod.snd
      rw[List.map_snd_zip (by lia)] at this
      exact this
    · unfold Fall
      rw[List.pairwise_map] at hqs ⊢
      exact hqs.imp fun {p q} z=>z
    · exact paired_of_zip fun z hz=>paired_mem hbs3 (hzp.mem_iff.mp hz)
end
end L2
set_option maxHeartbeats 1000000
namespace L2
open PySem PySem.Spec PyProof.Rows
section
variable {X:Cx}
def tupInts (h:Heap) : Value→List Int
  | .ref a=>match h.get? a with
    | some o=>match o.data with
      | .seq xs _=>xs.toList.map numOf
      | _=>[]
    | none=>[]
  | _=>[]
theorem tp_ints {h:Heap} {v:Value} {ns:List Int} (t:SoT.Tp h v ns) : tupInts h v=ns:=by
  obtain ⟨a,o,xs,n,rfl,h1,h2,h3,h4⟩:=t
  unfold tupInts
  dsimp only
  rw[h1]
  dsimp only
  rw[h3]
  exact h4.nums
def rSortT (K:PySem.W.Frag) : List V→Hp→VK→Prop:=fun xs H Q=>∃(a:Addr) (bs:List Addr) (nss:List (List Int)) (c:Nat),xs = [.ref a]∧SqL K H a (bs.map V.ref)∧Paired (fun b ns=>SqT K H b (ns.map V.int)) bs nss∧0<c∧(∀ns∈nss,ns.length=c) ∧
  ∀(l:Addr) (zs:List (Addr×List Int)),H l=none→zs.Perm (bs.zip nss)→zs.Pairwise (fun p q=>Tim.lexF q.2 p.2=false)→Q (.ref l) (upd H l (.lst ((zs.map Prod.fst).map V.ref)))
theorem refs_of:∀{bs:List Addr} {its:List Value},Vals (bs.map V.ref) its→its=bs.map Value.ref
  | [],_,h=>by cases h; rfl
  | b::bs,_,h=>by
    cases h with
    | cons h1 h2 =>
      cases h1
      rw[refs_of h2]
      rfl
theorem call_sortT:CallR X (.builtin "sorted") (rSortT X.K):=by
  intro pins s σ H xs us Q I r h
  obtain ⟨a,bs,nss,c,rfl,hs,hb,hc,hl,q⟩:=h
  obtain ⟨u,rfl,ru⟩:=vals1 r
  cases ru
  obtain ⟨its,rv,pl,hz⟩:=I.list hs
  rw[List.length_map] at hz
  cases refs_of rv
  have hlen:bs.length=nss.length:=Paired.length hb
  have tp:∀z∈bs.zip nss,SoT.Tp s.heap (.ref z.1) z.2:=fun z hz'=>by
    obtain ⟨us,rr,⟨o,e1,e2,m,e3⟩,_⟩:=I.tuple (paired_mem hb hz')
    exact ⟨z.1,o,us.toArray,m,rfl,e1,e2,e3,by simpa using intsAre_of rr⟩
  have tz:∀z∈bs.zip nss,tupInts s.heap (.ref z.1)=z.2:=fun z hz'=>tp_ints (tp z hz')
  have ebs:bs.map Value.ref=(bs.zip nss).map fun z=>Value.ref z.1:=by
    have:(bs.zip nss).map Prod.fst=bs:=List.map_fst_zip (by lia)
    conv=>lhs; rw[←this]
    rw[List.map_map]
    rfl
  refine Tim.sorted_lex (f:=tupInts s.heap) (c:=c) pl.isList (fun v hv=>?_) hc (by rw[List.length_map]; exact hz) fun D h' n out hD k' hDo hp ho=>?_
  · rw[ebs] at hv
    obtain ⟨z,hz',rfl⟩:=List.mem_map.mp hv
    have:=tp z hz'
    rw[tz z hz']
    exact ⟨this,hl _ (List.of_mem_zip hz').2⟩
  · rw[ebs] at hp
    obtain ⟨zs,hzp,rfl⟩:=perm_of_map hp _ rfl
    have em:zs.map (fun z=>Value.ref z.1)=(zs.map Prod.fst).map Value.ref:=by rw[List.map_map]; rfl
    rw[em] at hDo
    have zlen:zs.length=bs.length:=by rw[hzp.length_eq,List.length_zip]; lia
    refine ⟨.ref D,_,I.laid (t':=s.toks) k' hD (o:=.lst ((zs.map Prod.fst).map V.ref)) ⟨by rw[List.length_map,List.length_map]; lia,(zs.map Prod.fst).map Value.ref,n,refs_vals _,hDo⟩,rfl,q D zs (I.hok.fresh hD) hzp ?_⟩
    rw[List.pairwise_map] at ho
    refine List.Pairwise.imp_of_mem (fun {p q} h1 h2 z=>?_) ho
    rw[tz p (hzp.mem_iff.mp h1),tz q (hzp.mem_iff.mp h2)] at z
    exact z
end
end L2
namespace DL
open PySem L2 PyProof.Rows PySem.W
def tupJ (ns:List Int) : D:=.tup (ns.map D.int)
def LexUp (mss:List (List Int)) : Prop:=mss.Pairwise fun a b=>Tim.lexF b a=false
def dSortT:DR:=fun ds P=>match ds with
  | [.lst xs]=>∃(nss:List (List Int)) (c:Nat),xs=nss.map tupJ∧0<c∧(∀ns∈nss,ns.length=c)∧∀mss:List (List Int),mss.Perm nss→LexUp mss→P (.o (.lst (mss.map tupJ)))
  | _=>False
theorem reps_tups {K:PySem.W.Frag} {G:Hp} : ∀{us:List V} {nss:List (List Int)},Reps K G us (nss.map tupJ)→∃bs:List Addr,us=bs.map V.ref∧Paired (fun b ns=>G b=some (.tup (ns.map V.int))) bs nss
  | _,[],h=>by
    have h:Reps K G _ []:=h
    cases h
    exact ⟨[],rfl,.nil⟩
  | _,ns::nss,h=>by
    have h:Reps K G _ (tupJ ns::nss.map tupJ):=h
    cases h with
    | cons h1 h2 =>
      obtain ⟨bs,rfl,hb⟩:=reps_tups h2
      obtain ⟨b,vs,rfl,e,rr⟩:=Rep.tup_st h1
      rw[reps_ints rr] at e
      exact ⟨b::bs,rfl,.cons e hb⟩
theorem cd_sortT {X:Cx} : CallD X (.builtin "sorted") dSortT:=by
  refine ⟨_,call_sortT,fun H G vs ds P Q s r h k=>?_⟩
  unfold dSortT at h
  split at h
  · obtain ⟨nss,c,rfl,hc,hl,h⟩:=h
    obtain ⟨v,rfl,rv⟩:=reps1 r
    obtain ⟨a,us,rfl,e,rr⟩:=rv.lst_inv
    obtain ⟨bs,rfl,hb⟩:=reps_tups rr
    refine ⟨a,bs,nss,c,rfl,SqL.of (s _ _ e),paired_impl (fun b ns z=>.inl (.inl (s _ _ z))) hb,hc,hl,fun l zs hl' hp ho=>?_⟩
    have hlen:bs.length=nss.length:=Paired.length hb
    have hp2:(zs.map Prod.snd).Perm nss:=by
      have:=hp.map Prod.snd
      rw[List.map_snd_zip (by lia)] at this
      exact this
    have hr:Reps X.K G ((zs.map Prod.fst).map V.ref) ((zs.map Prod.snd).map tupJ):=by
      have:∀z∈zs,G z.1=some (.tup (z.2.map V.int)):=fun z hz=>paired_mem hb (hp.mem_iff.mp hz)
      clear hp ho hp2
      induction zs with
      | nil=>exact .nil
      | cons z zs ih=>exact .cons (Rep.tup' (this z (List.mem_cons_self ..)) (ints_reps z.2)) (ih fun y hy=>this y (List.mem_cons_of_mem _ hy))
    obtain ⟨w2,r2⟩:=own_new (Wd.refl s) hl' hr
    exact k _ _ _ _ (h _ hp2 (by unfold LexUp; rw[List.pairwise_map]; exact ho)) w2 r2
  · exact h.elim
section
variable {X:Cx} {e:Expr}
def dSortW (t:DTA) : DT:=fun ρ Q=>t ρ fun ds=>match ds with
  | [.dct kvs]=>∀ps:KVs,ps.Perm kvs→Fall ps→Q (.o (.lst (keysD ps)))
  | _=>False
theorem de_sortW {P c:Addr} {x:Str} {params:Arguments} {scope:Scope} {lpos kpos kpos2 cpos p pl posl pos p1 p4 p5:Pos} {kk jc:Nat} {t:DTA}
    (hg:Gl X "sorted") (hm:X.mg "sorted" = none) (hgl:Gl X "list") (hml:X.mg "list" = none) (hc:X.calm=true) (room:Room 0 X.A)
    (hcode:X.env.code=.ref c) (C:PySem.W.codeHdIn X.K c P=true) (kin:X.K.In X.base) (B:BltAt X.mg X.base) (hT:TabAt X.H₀ P (X.env.qual++"<lambda>"))
    (hcl:closureFor scope X.env=pure []) (hdef:defaultsOf params X.env=([],[]))
    (hbind:∀q pm c' ctv v,bindArgs (kla_fn "<lambda>" q params (.Subscript (.Name x p1) (.Constant (.int 1) kk p4) p5) scope [] pm (.ref c') ctv) ⟨[v],[]⟩=pure [(x,v)])
    (hk:scope.kind=.function) (hco:scope.isCoroutine=false) (hgen:scope.isGenerator=false) (hcell:∀z∈scope.names,z.2≠.cell) (hlx:scope.names.lookup x=some .local)
    (hdx:(x == ("__debug__" : Str))=false)
    (ha:DA X [e] t) (he0:starEach [e] X.env = [(false,eval e X.env)]:=by rfl)
    (he:starEach [.Call (.Name "list" pl) [e] [] posl] X.env = [(false,eval (.Call (.Name "list" pl) [e] [] posl) X.env)]:=by rfl) :
    DE X (.Call (.Name "sorted" p) [.Call (.Name "list" pl) [e] [] posl] [⟨some "key",.Lambda params (.Subscript (.Name x p1) (.Constant (.int 1) kk p4) p5) scope lpos,kpos⟩,⟨some "reverse",.Constant (.bool true) jc cpos,kpos2⟩] pos) (dSortW t):=
  DE.of (pe_sortW hg hm hgl hml hc room hcode (PySem.W.codeHd_of_K kin C) B hT hcl hdef hbind hk hco hgen hcell hlx hdx ha.pa he0 he) fun σ H Q ⟨G,ρ,PP,s,re,h,k⟩=>by
    refine ⟨G,ρ,_,s,re,h,fun ds vs H1 G1 p1 l1 w1 r1=>?_⟩
    split at p1
    · rename_i kvs
      obtain ⟨v,rfl,rv⟩:=reps1 r1
      cases rv with
      | dct e =>
        refine ⟨_,kvs,rfl,rd_same w1.gh e,fun l bs hl hb=>⟨l,bs,kvs,rfl,upd_same,?_,fun l2 bs' ps' H3 s3 hl2 hp hf hb'=>?_⟩⟩
        · exact paired_impl (fun b p z=>by rw[upd_ne (ne_of_none z hl)]; exact z) hb
        · have w3:Wd H G H3 G1:=⟨(w1.hh.trans (same_new hl)).trans s3,w1.gg,(w1.gh.trans (same_new hl)).trans s3,w1.old⟩
          obtain ⟨G',w',r'⟩:=with_keys (K:=X.K) w3.gh hl2 hb'
          refine k _ _ _ G' (p1 ps' hp hf) (w3.trans w') ?_
          exact r'.ahead w3.hh
    · exact p1.elim
end
section
variable {X:Cx} {e:Expr} {te:DT} {i:Nat} {x:Str} {pos px:Pos}
theorem new_flat {K:PySem.W.Frag} {H0 G0 H G G1 H' G':Hp} {σ:L2.St} {ρ:DEnv} {v:V} {ds:List D} (w:Wd H0 G0 H G) (w1:Wd H0 G0 H G1) (en:EnvO K H0 G H σ ρ) (w':Wd H G1 H' G') (r':BRes K H G' H' v (.o (.lst ds))) (fl:ds.all D.flat=true) :
    ∃(a:Addr) (vs:List V) (G4:Hp),v=.ref a∧H a=none∧H' a=some (.lst vs)∧G4 a=some (.lst vs)∧Reps K G4 vs ds∧Wd H0 G0 H' G4∧EnvO K H0 G4 H' σ ρ:=by
  obtain ⟨a,rfl,ha,ga,vs,hv,rr⟩:=r'
  obtain ⟨G3,w3,s3,_,k4,o3⟩:=allT (K:=K) w w1 w'
  have k3:∀c us,G' c=some (.tup us)→G3 c=some (.tup us):=fun c us e=>k4 c us (w'.gh _ _ e)
  have g3:G3 a=none:=by
    rw[o3 a (fun us z=>by rw[hv] at z; cases z) (fun o us z=>by rw[hv] at z; cases z)]
    exact w.gh.free ha
  have w4:Wd H0 G0 H' (upd G3 a (.lst vs)):=w3.give (.inl (w.hh.free ha)) g3 hv
  have s4:Same G3 (upd G3 a (.lst vs)):=same_new g3
  have en4:EnvO K H0 (upd G3 a (.lst vs)) H' σ ρ:=(en.more (s3.trans s4) fun x gx hx=>by
    have xa:x≠a:=by
      rintro rfl
      rcases hx with ⟨_,z⟩ | ⟨_,z⟩<;>rw[ha] at z<;>cases z
    rw[upd_ne xa,o3 x,gx]
    · intro us z
      rcases hx with ⟨_,y⟩ | ⟨_,y⟩<;>have:=w'.hh _ _ y<;>rw[z] at this<;>cases this
    · intro o us z
      rcases hx with ⟨_,y⟩ | ⟨_,y⟩<;>have:=w'.hh _ _ y<;>rw[z] at this<;>cases this).back w'.hh
  exact ⟨a,vs,_,rfl,ha,hv,upd_same,Reps.mono s4 (Reps.flat k3 rr fl),w4,en4⟩
def dSetT (i:Nat) (te:DT) : DTS:=fun E ρ=>te (frz ρ) fun b=>match b with
  | .o (.lst ds)=>ds.all D.flat=true∧E.nx (dput ρ i (.p (.lst ds)))
  | _=>False
theorem ds_setT (hN:X.N.Nodup) (hi:X.N[i]?=some x) (hx:Loc X.env.scope x) (he:DE X e te) (hs:swapsWith e (some (.Name x px)) pos.line X.env=pure false:=by rfl) (hf:X.fn x=true∨X.env.scope.names.lookup x=some .local:=by first | exact .inl rfl | exact .inr rfl | assumption) :
    DS X (.Assign [.Name x px] e pos) (dSetT i te):=DS.mk fun H0 G0=>PS.imp (ps_set hN hi hx he.pe hs hf) fun Dn σ H ⟨E,G,ρ,eo,w,en,h⟩=>by
  obtain ⟨G1,w1,sg,e1⟩:=en.freeze w
  refine ⟨G1,frz ρ,_,w1.gh,e1.p,h,fun b v H' G' p' w' r'=>?_⟩
  split at p'
  · rename_i ds
    obtain ⟨a,vs,G4,rfl,ha,hv,ga,rr,w4,en4⟩:=new_flat w w1 en w' r' p'.1
    exact eo.nx _ H' G4 _ w4 (en4.putP i (Rep.lst' ga rr)) p'.2
  · exact p'.elim
variable {apos cpos spos:Pos}
def dExtT (i:Nat) (te:DT) : DTS:=fun E ρ=>match dget ρ i with
  | some (.o (.lst ds))=>te (frz ρ) fun b=>match b with
    | .o (.lst es)=>es.all D.flat=true∧ds.length+es.length≤sizeLine∧E.nx (dput ρ i (.o (.lst (ds++es))))
    | _=>False
  | _=>False
theorem ds_extT (hN:X.N[i]?=some x) (hv:Vis X.env.scope x) (he:DE X e te) (hd:(x == ("__debug__" : Str))=false:=by decide) (hcd:(x == ("__classdict__" : Str))=false:=by decide)
    (hbase:attributeBase (.Name x px) "extend" X.env (eval (.Name x px) X.env)=eval (.Name x px) X.env:=by rfl)
    (hfew:((backTo cpos (starEach (e::[]) X.env)).all (fun x=>!x.1) && (backToKw cpos (keywordEach [] X.env)).all (fun x=>x.1.isSome)
      && decide ((e::[]).length+([] : List Keyword).length+(if ([] : List Keyword).isEmpty then 0 else 1)<30))=true:=by rfl)
    (hline:(apos.endLine == cpos.line)=true:=by rfl) (hs:starEach (e::[]) X.env=(false,eval e X.env)::starEach [] X.env:=by rfl) (hplain:(backTo cpos (starEach [] X.env)).any (·.1)=false:=by rfl)
    (hsw:swapsWith (.Call (.Attribute (.Name x px) "extend" apos) [e] [] cpos) none spos.line X.env=pure false:=by rfl) :
    DS X (.Expr (.Call (.Attribute (.Name x px) "extend" apos) [e] [] cpos) spos) (dExtT i te):=DS.mk fun H0 G0 =>
  PS.imp (ps_expr (pe_bm PySem.F.plainAttrs_list PySem.F.slot_list_extend PySem.F.type_list_extend mt_extend (pe_var hN hv hd hcd) (pa_cons he.pe pa_nil hs) hbase hfew hline hs hplain) hsw) fun Dn σ H ⟨E,G,ρ,eo,w,en,h⟩=>by
    unfold dExtT at h
    split at h
    · rename_i ds q
      obtain ⟨a,h1,h2,h3,vs,h4,h5⟩:=en.o i _ q
      obtain ⟨G1,w1,sg,e1⟩:=en.freeze w
      refine ⟨_,h1,.inl ⟨rfl,_,SqL.of h4⟩,G1,frz ρ,_,w1.gh,e1.p,h,fun b v H' G' p' w' r'=>?_⟩
      split at p'
      · rename_i es
        obtain ⟨b,us,G4,rfl,hb,hb',gb,rr,w4,en4⟩:=new_flat w w1 en w' r' p'.1
        have hl:H' a=some (.lst vs):=w'.hh _ _ h4
        obtain ⟨a',k1,k2,k3⟩:=en4.o i _ q
        rw[h1] at k1
        cases k1
        obtain ⟨k3b,vs',k5,k6⟩:=k3
        rw[hl] at k5
        cases k5
        exact ⟨a,b,vs,us,rfl,rfl,hl,hb',by rw[Paired.length k6,Paired.length rr]; exact p'.2.1,eo.nx σ _ G4 _ (w4.own k2 k3b) (en4.setO q h1 (paired_app k6 rr)) p'.2.2⟩
      · exact p'.elim
    · exact h.elim
end
section
variable {X:Cx} {e:Expr} {te:DT} {x:Str} {pos px:Pos}
def dAddL (z y:Int) (te:DT) : DT:=fun ρ Q=>te ρ fun b=>match b.val with
  | .tup ds=>ds≠[]∧ds.length+2≤sizeLine∧Q (.p (.tup ([.int z,.int y]++ds)))
  | _=>False
def dAddR (z y:Int) (te:DT) : DT:=fun ρ Q=>te ρ fun b=>match b.val with
  | .tup ds=>ds≠[]∧ds.length+2≤sizeLine∧Q (.p (.tup (ds++[.int z,.int y])))
  | _=>False
theorem de_addR {z y:Int} (he:DE X e te) (hB:CT X.K X.mg x z y) (hg:Gl X x) (hdb:(x == ("__debug__" : Str))=false:=by decide) : DE X (.BinOp e .Add (.Name x px) pos) (dAddR z y te):=by
  obtain ⟨c,hm,hc⟩:=hB
  refine DE.of (pe_op op_catT he.pe (pe_glob (v:=.ref c) hg hm rfl hdb)) fun σ H Q ⟨G,ρ,P,s,re,h,k⟩=>?_
  refine ⟨G,ρ,_,s,re,h,fun b v H1 G1 p1 w1 r1=>?_⟩
  obtain ⟨G2,w2,r2⟩:=r1.give w1
  split at p1
  · rename_i ds ee
    rw[ee] at r2
    obtain ⟨a,us,rfl,e',rr⟩:=r2.tup_inv
    refine ⟨a,c,us,[.int z,.int y],rfl,rfl,same_seqT w2.gh e',hc _,fun z=>?_,by rw[Paired.length rr]; exact p1.2.1,fun z=>(nomatch z),fun _ p hp=>?_⟩
    · subst z; cases rr; exact p1.1 rfl
    · obtain ⟨w3,r3⟩:=tup_new w2 hp (paired_app rr (.cons (.int z) (.cons (.int y) .nil)))
      exact k _ _ _ _ p1.2.2 w3 r3
  · exact p1.elim
theorem de_addL {z y:Int} (he:DE X e te) (hB:CT X.K X.mg x z y) (hg:Gl X x) (hdb:(x == ("__debug__" : Str))=false:=by decide) : DE X (.BinOp (.Name x px) .Add e pos) (dAddL z y te):=by
  obtain ⟨c,hm,hc⟩:=hB
  refine DE.of (pe_op op_catT (pe_glob (v:=.ref c) hg hm rfl hdb) he.pe) fun σ H Q ⟨G,ρ,P,s,re,h,k⟩=>?_
  refine ⟨G,ρ,_,s,re,h,fun b v H1 G1 p1 w1 r1=>?_⟩
  obtain ⟨G2,w2,r2⟩:=r1.give w1
  split at p1
  · rename_i ds ee
    rw[ee] at r2
    obtain ⟨a,us,rfl,e',rr⟩:=r2.tup_inv
    refine ⟨c,a,[.int z,.int y],us,rfl,rfl,hc _,same_seqT w2.gh e',(fun z=>nomatch z),by rw[Paired.length rr,Nat.add_comm]; exact p1.2.1,fun z=>?_,fun _ p hp=>?_⟩
    · subst z; cases rr; exact (p1.1 rfl).elim
    · obtain ⟨w3,r3⟩:=tup_new w2 hp (paired_app (.cons (.int z) (.cons (.int y) .nil)) rr)
      exact k _ _ _ _ p1.2.2 w3 r3
  · exact p1.elim
end
end DL
namespace WS
open PySem PySem.SetTable
def fiv (x:Nat) : Nat:=5*x+1
def fivN:Nat→Nat→Nat
  | 0,x=>x
  | n+1,x=>fivN n (fiv x)
theorem fivN_add (a b x:Nat) : fivN (a+b) x=fivN b (fivN a x):=by
  induction a generalizing x with
  | zero=>rw[Nat.zero_add]; rfl
  | succ a ih=>rw[Nat.succ_add]; exact ih (fiv x)
theorem fiv_pow:∀k:Nat,∃u v:Nat,v % 2=1∧∀x,fivN (2 ^ k) x=(1+2 ^ (k+2)*u)*x+2 ^ k*v
  | 0=>⟨1,1,rfl,fun x=>by show 5*x+1=_; lia⟩
  | k+1=>by
    obtain ⟨u,v,hv,h⟩:=fiv_pow k
    refine ⟨u+2 ^ (k+1)*u*u,v*(1+2 ^ (k+1)*u),?_,fun x=>?_⟩
    · have e : 2 ^ (k + 1) * u = 2 * (2 ^ k * u) := by rw [Nat.pow_succ]; ac_rfl
      rw[Nat.mul_mod,e,Nat.add_mod,Nat.mul_mod_right,hv]
    · rw [show 2 ^ (k + 1) = 2 ^ k + 2 ^ k by rw [Nat.pow_succ]; lia, fivN_add, h, h]
      have p1:2 ^ (k+2)=4*2 ^ k:=by rw[Nat.pow_add]; lia
      have p3:2 ^ (k+1+2)=8*2 ^ k:=by rw[Nat.pow_add,Nat.pow_add]; lia
      rw[p1,p3]
      generalize 2 ^ k=q
      grind
theorem fivN_mod (m:Nat) : ∀(n x:Nat),fivN n (x % m) % m=fivN n x % m
  | 0,x=>Nat.mod_mod _ _
  | n+1,x=>by
    show fivN n (fiv (x % m)) % m=fivN n (fiv x) % m
    rw[←fivN_mod m n (fiv (x % m)),←fivN_mod m n (fiv x)]
    have e:fiv (x % m) % m=fiv x % m:=by
      unfold fiv
      rw[Nat.add_mod,Nat.mul_mod,Nat.mod_mod,←Nat.mul_mod,←Nat.add_mod]
    rw[e]
theorem half_mod {q y:Nat} (hq:0<q) (hy:y<2*q) : (y<q∧y % q=y)∨(q≤y∧y % q=y - q):=by
  by_cases h:y<q
  · exact .inl ⟨h,Nat.mod_eq_of_lt h⟩
  · refine .inr ⟨by lia, ?_⟩
    rw[Nat.mod_eq_sub_mod (by lia),Nat.mod_eq_of_lt (by lia)]
theorem two_mod {q y j:Nat} (hq:0<q) (hy:y<2*q) (hj:j<2*q) (e:y % q=j % q) (hne:¬y=j) : (y+q) % (2*q)=j:=by
  rcases half_mod hq hy with ⟨a1,a2⟩ | ⟨a1,a2⟩<;>rcases half_mod hq hj with ⟨b1,b2⟩ | ⟨b1,b2⟩
  · lia
  · rw[Nat.mod_eq_of_lt (by lia)]; lia
  · rw[show y+q=(y - q)+2*q by lia,Nat.add_mod_right,Nat.mod_eq_of_lt (by lia)]; lia
  · lia
theorem fiv_all:∀(k x j:Nat),j<2 ^ k→∃n,n<2 ^ k∧fivN n x % 2 ^ k=j
  | 0, x, j, hj => ⟨0, by decide, by have : j = 0 := by lia
                                     subst this; exact Nat.mod_one _⟩
  | k+1,x,j,hj=>by
    have p1:2 ^ (k+1)=2*2 ^ k:=by rw[Nat.pow_succ]; lia
    have q0:0<2 ^ k:=Nat.two_pow_pos k
    obtain ⟨n,hn,e⟩:=fiv_all k x (j % 2 ^ k) (Nat.mod_lt _ q0)
    obtain ⟨u,v,hv,h⟩:=fiv_pow k
    have d1:=Nat.div_add_mod (fivN n x) (2 ^ (k+1))
    have l1:=Nat.mod_lt (fivN n x) (show 0<2 ^ (k+1) by lia)
    have e2:fivN n x % 2 ^ (k+1) % 2 ^ k=j % 2 ^ k:=by rw[p1,Nat.mod_mul_left_mod]; exact e
    by_cases hh:fivN n x % 2 ^ (k+1)=j
    · exact ⟨n,by lia,hh⟩
    · refine ⟨n + 2 ^ k, by lia, ?_⟩
      rw[fivN_add,←fivN_mod,h]
      generalize fivN n x % 2 ^ (k+1)=y at *
      have hy:(1+2 ^ (k+2)*u)*y+2 ^ k*v=(y+2 ^ k)+2 ^ (k+1)*(2*u*y+v / 2):=by
        have hv2:v=2*(v / 2)+1:=by lia
        have p2:2 ^ (k+2)=4*2 ^ k:=by rw[Nat.pow_add]; lia
        rw[p1,p2]
        generalize v / 2=t at hv2 ⊢
        subst hv2
        generalize 2 ^ k=q
        grind
      rw[hy,Nat.add_mul_mod_self_left]
      rw[p1] at l1 ⊢
      exact two_mod q0 l1 (by lia) e2 hh
def lpN (mask:Nat) : Nat→Nat×Nat→Nat×Nat
  | 0,s=>s
  | n+1,s=>lpN mask n (leap mask s.1 s.2)
theorem lpN_add (mask a b:Nat) (s:Nat×Nat) : lpN mask (a+b) s=lpN mask b (lpN mask a s):=by
  induction a generalizing s with
  | zero=>rw[Nat.zero_add]; rfl
  | succ a ih=>rw[Nat.succ_add]; exact ih _
theorem lpN_two (mask:Nat) : ∀(n:Nat) (s:Nat×Nat),(lpN mask n s).2=s.2 / 32 ^ n
  | 0,s=>by rw[Nat.pow_zero,Nat.div_one]; rfl
  | n+1,s=>by
    show (lpN mask n (leap mask s.1 s.2)).2=_
    rw[lpN_two mask n]
    show s.2 / 32 / 32 ^ n=_
    rw[Nat.div_div_eq_div_mul,Nat.pow_succ,Nat.mul_comm]
theorem lpN_zero (mask:Nat) : ∀(n x:Nat),(lpN mask n (x % (mask+1),0)).1=fivN n x % (mask+1)
  | 0,x=>rfl
  | n+1,x=>by
    show (lpN mask n ((x % (mask+1)*5+1+0 / 32) % (mask+1),0 / 32)).1=_
    rw[Nat.zero_div,Nat.add_zero,lpN_zero mask n (x % (mask+1)*5+1)]
    show fivN n (x % (mask+1)*5+1) % (mask+1)=fivN n (fiv x) % (mask+1)
    rw[←fivN_mod,←fivN_mod (mask+1) n (fiv x)]
    congr 2
    unfold fiv
    rw[Nat.add_mod,Nat.mul_comm,Nat.mul_mod,Nat.mod_mod,←Nat.mul_mod,←Nat.add_mod]
theorem leap_all {mask k i p j:Nat} (hm:mask+1=2 ^ k) (hp:p<2 ^ 64) (hj:j≤mask) : ∃n,n<13+2 ^ k∧(lpN mask n (i,p)).1=j:=by
  have h2:=lpN_two mask 13 (i,p)
  have z:p / 32 ^ 13=0:=Nat.div_eq_of_lt (Nat.lt_of_lt_of_le hp (by decide))
  rw[z] at h2
  generalize hs:lpN mask 13 (i,p)=s at h2
  obtain ⟨x,y⟩:=s
  have hy:y=0:=h2
  subst hy
  have hx:x=x % (mask+1):=by
    have e:lpN mask 13 (i,p)=lpN mask 1 (lpN mask 12 (i,p)):=lpN_add mask 12 1 _
    rw[hs] at e
    have e1:x=(leap mask (lpN mask 12 (i,p)).1 (lpN mask 12 (i,p)).2).1:=congrArg Prod.fst e
    rw[e1]
    show _ % (mask+1)=_ % (mask+1) % (mask+1)
    rw[Nat.mod_mod]
  obtain ⟨n,hn,e⟩:=fiv_all k x j (by lia)
  refine ⟨13+n,by lia,?_⟩
  rw[lpN_add,hs,hx,lpN_zero,hm]
  exact e
theorem run_le (mask i:Nat) : runEnd mask i - i≤9:=by
  unfold runEnd
  split<;>lia
section
variable {t:SetTable} {hashAt:Nat→Int} {h:Int}
theorem go_step (fuel:Nat) (p:Probe) (H:∀d,probe.go t hashAt h fuel (t.advance { p with dummy:=d })≠none) : probe.go t hashAt h (fuel+1) p≠none:=by
  unfold probe.go
  split
  · exact fun z=>nomatch z
  · exact H _
  · split
    · exact fun z=>nomatch z
    · exact H p.dummy
theorem go_run:∀(m fuel:Nat) (p:Probe),p.more=m→(∀d,probe.go t hashAt h fuel (t.advance { p with more:=0,dummy:=d })≠none)→probe.go t hashAt h (fuel+m+1) p≠none
  | 0,fuel,p,e,H=>go_step fuel p fun d=>by
    have:=H d
    rw[show ({ p with dummy:=d } : Probe) = { p with more:=0,dummy:=d } by rw[←e]]
    exact this
  | m+1,fuel,p,e,H=>go_step (fuel+(m+1)) p fun d=>by
    have ea:t.advance { p with dummy:=d } = { p with j:=p.j+1,more:=p.more - 1,dummy:=d }:=by
      unfold advance
      rw[if_pos (show ({ p with dummy:=d } : Probe).more>0 by show p.more>0; lia)]
    rw[ea]
    exact go_run m fuel _ (by show p.more - 1=m; lia) H
theorem go_leaps:∀(n fuel:Nat) (p:Probe) (j0:Nat),p.j=p.i→p.more=runEnd t.mask p.i - p.i→(lpN t.mask n (p.i,p.perturb)).1=j0→t.slot j0=.empty→10*n<fuel→probe.go t hashAt h fuel p≠none
  | 0,fuel,p,j0,hj,_,e,hs,hf=>by
    obtain ⟨f,rfl⟩ : ∃f,fuel=f+1:=⟨fuel - 1,by lia⟩
    have:t.slot p.j=.empty:=by rw[hj]; rw[←hs,←e]; rfl
    unfold probe.go
    rw[this]
    exact fun z=>nomatch z
  | n+1,fuel,p,j0,hj,hm,e,hs,hf=>by
    have hr:=run_le t.mask p.i
    obtain ⟨f,rfl⟩ : ∃f,fuel=f+p.more+1:=⟨fuel - p.more - 1,by lia⟩
    refine go_run p.more f p rfl fun d=>?_
    have ea:t.advance { p with more:=0,dummy:=d } = { p with j:=(leap t.mask p.i p.perturb).1,more:=runEnd t.mask (leap t.mask p.i p.perturb).1 - (leap t.mask p.i p.perturb).1,i:=(leap t.mask p.i p.perturb).1,perturb:=(leap t.mask p.i p.perturb).2,dummy:=d }:=rfl
    rw[ea]
    exact go_leaps n f _ j0 rfl rfl e hs (by lia)
end
end WS
namespace WS
open PySem PySem.SetTable
def Rise (xs:Array Nat) : Prop:=∀a b,a<b→b<xs.size→xs.getD a 0<xs.getD b 0
theorem getD_any {xs:Array Nat} {i:Nat} (h:i<xs.size) (d:Nat) : xs.getD i d=xs.getD i 0:=by
  rw[Array.getD_eq_getD_getElem?,Array.getD_eq_getD_getElem?,Array.getElem?_eq_getElem h]
  rfl
theorem below_go {xs:Array Nat} {j:Nat} (R:Rise xs) : ∀(fuel lo hi:Nat),hi≤xs.size→lo≤hi→hi - lo≤fuel→(∀i,i<lo→xs.getD i 0<j)→(∀i,hi≤i→i<xs.size→j≤xs.getD i 0) →
    below.go xs j fuel lo hi≤xs.size∧(∀i,i<below.go xs j fuel lo hi→xs.getD i 0<j)∧∀i,below.go xs j fuel lo hi≤i→i<xs.size→j≤xs.getD i 0
  | 0,lo,hi,h1,h2,h3,hl,hh=>by
    have:lo=hi:=by lia
    subst this
    exact ⟨h1,hl,hh⟩
  | fuel+1,lo,hi,h1,h2,h3,hl,hh=>by
    unfold below.go
    by_cases h:lo<hi
    · rw[if_pos h]
      have hm:(lo+hi) / 2<xs.size:=by lia
      dsimp only
      rw[getD_any hm]
      by_cases c:xs.getD ((lo+hi) / 2) 0<j
      · rw[if_pos c]
        refine below_go R fuel _ hi h1 (by lia) (by lia) (fun i hi'=>?_) hh
        by_cases e:i=(lo+hi) / 2
        · rw[e]; exact c
        · exact Nat.lt_trans (R i _ (by lia) hm) c
      · rw[if_neg c]
        refine below_go R fuel lo _ (by lia) (by lia) (by lia) hl fun i hi' hs=>?_
        by_cases e:i=(lo+hi) / 2
        · rw[e]; lia
        · have := R _ i (show (lo + hi) / 2 < i by lia) hs
          lia
    · rw[if_neg h]
      have:lo=hi:=by lia
      subst this
      exact ⟨h1,hl,hh⟩
theorem below_is {xs:Array Nat} (R:Rise xs) (j:Nat) : below xs j≤xs.size∧(∀i,i<below xs j→xs.getD i 0<j)∧∀i,below xs j≤i→i<xs.size→j≤xs.getD i 0:=
  below_go R xs.size 0 xs.size (Nat.le_refl _) (Nat.zero_le _) (by lia) (fun i h=>absurd h (Nat.not_lt_zero _)) fun i h1 h2=>absurd h2 (by lia)
theorem below_at {xs:Array Nat} (R:Rise xs) {i j:Nat} (hi:i<xs.size) (e:xs.getD i 0=j) : below xs j=i:=by
  obtain ⟨h1,h2,h3⟩:=below_is R j
  by_cases c:i<below xs j
  · have:=h2 i c; lia
  · by_cases c2:below xs j<i
    · have:=R _ i c2 hi
      have:=h3 (below xs j) (Nat.le_refl _) (by lia)
      lia
    · lia
theorem get_some {xs:Array Nat} {i j:Nat} : (xs[i]?=some j)↔(i<xs.size∧xs.getD i 0=j):=by
  rw[Array.getD_eq_getD_getElem?]
  constructor
  · intro h
    obtain ⟨h1,h2⟩:=Array.getElem?_eq_some_iff.mp h
    exact ⟨h1,by rw[h]; rfl⟩
  · rintro ⟨h1,h2⟩
    rw[Array.getElem?_eq_getElem h1] at h2 ⊢
    exact congrArg some h2
structure Plc (t:SetTable) : Prop where
  rise:Rise t.place
  nod:t.dummies = #[]
section
variable {t:SetTable}
theorem slot_live (P:Plc t) {i j:Nat} (h:t.place[i]?=some j) : t.slot j=.live i:=by
  obtain ⟨h1,h2⟩:=get_some.mp h
  unfold slot
  dsimp only
  rw[below_at P.rise h1 h2,h]
  simp
theorem slot_empty (P:Plc t) {j:Nat} (h:∀i:Nat,t.place[i]?≠some j) : t.slot j=.empty:=by
  unfold slot
  dsimp only
  have e:(t.place[below t.place j]? == some j)=false:=by
    rw[beq_eq_false_iff_ne]
    exact h _
  rw[e,P.nod]
  simp[has]
theorem slot_cases (P:Plc t) (j:Nat) : (∃i:Nat,t.place[i]?=some j∧t.slot j=.live i)∨((∀i:Nat,t.place[i]?≠some j)∧t.slot j=.empty):=by
  by_cases h:∃i:Nat,t.place[i]?=some j
  · obtain ⟨i,h⟩:=h
    exact .inl ⟨i,h,slot_live P h⟩
  · have h':∀i:Nat,t.place[i]?≠some j:=fun i z=>h ⟨i,z⟩
    exact .inr ⟨h',slot_empty P h'⟩
end
theorem ins_get {α:Type} (xs:Array α) (p:Nat) (x:α) (hp:p≤xs.size) (i:Nat) : (insertAt xs p x)[i]?=if i<p then xs[i]? else if i=p then some x else xs[i - 1]?:=by
  rw[←Array.getElem?_toList,toList_insertAt]
  have lp:(xs.toList.take p).length=p:=by rw[List.length_take,Array.length_toList]; lia
  by_cases h1:i<p
  · rw[if_pos h1,List.getElem?_append_left (by lia),List.getElem?_take_of_lt h1,Array.getElem?_toList]
  · rw [if_neg h1, List.getElem?_append_right (by lia), lp]
    by_cases h2:i=p
    · rw[if_pos h2,h2,Nat.sub_self]
      rfl
    · rw[if_neg h2]
      obtain ⟨d,hd⟩ : ∃d,i - p=d+1:=⟨i - p - 1,by lia⟩
      rw[hd,List.getElem?_cons_succ,List.getElem?_drop,Array.getElem?_toList]
      congr 1
      lia
theorem ins_size {α:Type} (xs:Array α) (p:Nat) (x:α) (hp:p≤xs.size) : (insertAt xs p x).size=xs.size+1:=by
  rw[←Array.length_toList,toList_insertAt,List.length_append,List.length_cons,List.length_take,List.length_drop,Array.length_toList]
  lia
theorem ins_getD (xs:Array Nat) (p x:Nat) (hp:p≤xs.size) (i:Nat) (hi:i<xs.size+1) : (insertAt xs p x).getD i 0=if i<p then xs.getD i 0 else if i=p then x else xs.getD (i - 1) 0:=by
  rw[Array.getD_eq_getD_getElem?,ins_get xs p x hp,Array.getD_eq_getD_getElem?,Array.getD_eq_getD_getElem?]
  split
  · rfl
  · split
    · rfl
    · rfl
section
variable {t:SetTable}
theorem put_is (P:Plc t) (j:Nat) : t.put j=({ t with place:=insertAt t.place (below t.place j) j,dummies:=#[] },below t.place j):=by
  unfold put
  dsimp only
  rw[P.nod]
  simp[has]
theorem put_plc (P:Plc t) {j:Nat} (h:∀i:Nat,t.place[i]?≠some j) : Plc (t.put j).1:=by
  rw[put_is P]
  obtain ⟨h1,h2,h3⟩:=below_is P.rise j
  refine ⟨fun a b hab hb=>?_,rfl⟩
  dsimp only at hb ⊢
  rw[ins_size _ _ _ h1] at hb
  rw[ins_getD _ _ _ h1 _ (by lia),ins_getD _ _ _ h1 _ hb]
  have gt:∀i,below t.place j≤i→i<t.place.size→j<t.place.getD i 0:=fun i a1 a2=>by
    have:=h3 i a1 a2
    have ne:t.place.getD i 0≠j:=fun z=>h i (get_some.mpr ⟨a2,z⟩)
    lia
  by_cases c1:a<below t.place j
  · rw[if_pos c1]
    by_cases c2:b<below t.place j
    · rw[if_pos c2]; exact P.rise a b hab (by lia)
    · rw[if_neg c2]
      by_cases c3:b=below t.place j
      · rw[if_pos c3]; exact h2 a c1
      · rw[if_neg c3]
        exact Nat.lt_trans (h2 a c1) (gt (b - 1) (by lia) (by lia))
  · rw [if_neg c1, if_neg (show ¬ b < below t.place j by lia), if_neg (show ¬ b = below t.place j by lia)]
    by_cases c4:a=below t.place j
    · rw[if_pos c4]; exact gt (b - 1) (by lia) (by lia)
    · rw[if_neg c4]; exact P.rise (a - 1) (b - 1) (by lia) (by lia)
theorem put_live (P:Plc t) {j:Nat} (h:∀i:Nat,t.place[i]?≠some j) : (t.put j).1.slot j=.live (below t.place j)∧∀(i j':Nat),t.place[i]?=some j'→(t.put j).1.place[if i<below t.place j then i else i+1]?=some j':=by
  have P':=put_plc P h
  obtain ⟨h1,h2,h3⟩:=below_is P.rise j
  have e:(t.put j).1.place=insertAt t.place (below t.place j) j:=by rw[put_is P]
  refine ⟨slot_live P' ?_,fun i j' hi=>?_⟩
  · rw[e,ins_get _ _ _ h1,if_neg (Nat.lt_irrefl _),if_pos rfl]
  · rw[e,ins_get _ _ _ h1]
    by_cases c:i<below t.place j
    · rw[if_pos c,if_pos c]; exact hi
    · rw[if_neg c,if_neg (show ¬i+1<below t.place j by lia),if_neg (show ¬i+1=below t.place j by lia),Nat.add_sub_cancel]; exact hi
theorem put_not_empty (P:Plc t) {j j':Nat} (h:∀i:Nat,t.place[i]?≠some j) (hs:t.slot j'≠.empty) : (t.put j).1.slot j'≠.empty:=by
  rcases slot_cases P j' with ⟨i,hi,_⟩ | ⟨_,hz⟩
  · rw[slot_live (put_plc P h) ((put_live P h).2 i j' hi)]
    exact fun z=>nomatch z
  · exact absurd hz hs
end
end WS
namespace WS
open PySem PySem.SetTable
def stN (t:SetTable) (h:Int) : Nat→Probe
  | 0=>t.probeStart h
  | n+1=>t.advance (stN t h n)
theorem bits_lt (h:Int) : bits h<2 ^ 64:=by
  unfold bits
  have:=Int.emod_lt_of_pos h (show (0:Int)<2 ^ 64 by decide)
  have:=Int.emod_nonneg h (show (2 ^ 64:Int)≠0 by decide)
  lia
theorem adv_facts {t:SetTable} {p:Probe} (h1:p.dummy=none) (h2:p.more≤9) (h3:p.perturb<2 ^ 64) (h4:p.j+p.more≤t.mask) : (t.advance p).dummy=none∧(t.advance p).more≤9∧(t.advance p).perturb<2 ^ 64∧(t.advance p).j+(t.advance p).more≤t.mask:=by
  unfold advance
  by_cases c:p.more>0
  · rw[if_pos c]
    exact ⟨h1,by show p.more - 1≤9; lia,h3,by show p.j+1+(p.more - 1)≤t.mask; lia⟩
  · rw[if_neg c]
    refine ⟨h1,run_le _ _,?_,?_⟩
    · show p.perturb / 32<2 ^ 64
      lia
    · show (leap t.mask p.i p.perturb).1+(runEnd t.mask (leap t.mask p.i p.perturb).1 - (leap t.mask p.i p.perturb).1)≤t.mask
      have hl:(leap t.mask p.i p.perturb).1<t.mask+1:=Nat.mod_lt _ (by lia)
      generalize (leap t.mask p.i p.perturb).1=y at *
      unfold runEnd
      split<;>lia
theorem st_facts (t:SetTable) (h:Int) : ∀n,(stN t h n).dummy=none∧(stN t h n).more≤9∧(stN t h n).perturb<2 ^ 64∧(stN t h n).j+(stN t h n).more≤t.mask
  | 0=>by
    refine ⟨rfl,run_le _ _,bits_lt h,?_⟩
    show bits h % (t.mask+1)+(runEnd t.mask (bits h % (t.mask+1)) - bits h % (t.mask+1))≤t.mask
    have hl:bits h % (t.mask+1)<t.mask+1:=Nat.mod_lt _ (by lia)
    generalize bits h % (t.mask+1)=y at *
    unfold runEnd
    split<;>lia
  | n+1=>by
    obtain ⟨a,b,c,d⟩:=st_facts t h n
    exact adv_facts a b c d
theorem st_mask {t t':SetTable} (e:t.mask=t'.mask) (h:Int) : ∀n,stN t h n=stN t' h n
  | 0=>by
    show t.probeStart h=t'.probeStart h
    unfold probeStart
    rw[e]
  | n+1=>by
    show t.advance (stN t h n)=t'.advance (stN t' h n)
    rw[st_mask e h n]
    unfold advance
    rw[e]
theorem go_any {t:SetTable} {hashAt:Nat→Int} {h:Int} {k j0:Nat} (hm:t.mask+1=2 ^ k) (hj:j0≤t.mask) (hs:t.slot j0=.empty) {p:Probe} (h2:p.more≤9) (h3:p.perturb<2 ^ 64) : probe.go t hashAt h (10*turns t.mask) p≠none:=by
  obtain ⟨n,hn,e⟩:=leap_all (i:=(leap t.mask p.i p.perturb).1) (p:=(leap t.mask p.i p.perturb).2) hm (show p.perturb / 32<2 ^ 64 by lia) hj
  obtain ⟨f,hf⟩ : ∃f,10*turns t.mask=f+p.more+1:=⟨10*turns t.mask - p.more - 1,by unfold turns; lia⟩
  have hf2:10*n<f:=by unfold turns at hf; lia
  rw[hf]
  refine go_run p.more f p rfl fun d=>?_
  have ea:t.advance { p with more:=0,dummy:=d } = { p with j:=(leap t.mask p.i p.perturb).1,more:=runEnd t.mask (leap t.mask p.i p.perturb).1 - (leap t.mask p.i p.perturb).1,i:=(leap t.mask p.i p.perturb).1,perturb:=(leap t.mask p.i p.perturb).2,dummy:=d }:=rfl
  rw[ea]
  exact go_leaps n f _ j0 rfl rfl e hs hf2
section
variable {t:SetTable} {hashAt:Nat→Int} {h:Int}
theorem go_path (P:Plc t) : ∀(fuel n:Nat) (r:Met),probe.go t hashAt h fuel (stN t h n)=some r→∃m,n≤m∧m<n+fuel∧(∀q,n≤q→q<m→∃i,t.slot (stN t h q).j=.live i∧hashAt i≠h) ∧
    ((r=.empty (stN t h m).j none∧t.slot (stN t h m).j=.empty)∨∃i,t.slot (stN t h m).j=.live i∧hashAt i=h∧r=.candidate (stN t h m).j i (stN t h (m+1)))
  | 0,n,r,e=>by
    unfold probe.go at e
    cases e
  | fuel+1,n,r,e=>by
    have hd:=(st_facts t h n).1
    rcases slot_cases P (stN t h n).j with ⟨i,_,hs⟩ | ⟨_,hs⟩
    · unfold probe.go at e
      rw[hs] at e
      dsimp only at e
      by_cases c:hashAt i=h
      · rw [if_pos (by rw [beq_iff_eq]; exact c)] at e
        exact ⟨n,Nat.le_refl _,by lia,fun q a b=>absurd a (by lia),.inr ⟨i,hs,c,(Option.some.inj e).symm⟩⟩
      · rw [if_neg (by rw [beq_iff_eq]; exact c)] at e
        obtain ⟨m,h1,h2,h3,h4⟩:=go_path P fuel (n+1) r e
        refine ⟨m,by lia,by lia,fun q a b=>?_,h4⟩
        by_cases z:q=n
        · subst z; exact ⟨i,hs,c⟩
        · exact h3 q (by lia) b
    · unfold probe.go at e
      rw[hs,hd] at e
      exact ⟨n,Nat.le_refl _,by lia,fun q a b=>absurd a (by lia),.inl ⟨(Option.some.inj e).symm,hs⟩⟩
theorem first_empty (P:Plc t) {k j0:Nat} (hm:t.mask+1=2 ^ k) (hj:j0≤t.mask) (hs:t.slot j0=.empty) (h:Int) : ∃K,K<10*turns t.mask∧t.slot (stN t h K).j=.empty∧∀q,q<K→t.slot (stN t h q).j≠.empty:=by
  have hp:=go_any (hashAt:=fun _=>h+1) (h:=h) hm hj hs (p:=stN t h 0) (st_facts t h 0).2.1 (st_facts t h 0).2.2.1
  cases e:probe.go t (fun _=>h+1) h (10*turns t.mask) (stN t h 0) with
  | none=>exact absurd e hp
  | some r =>
    obtain ⟨m,h1,h2,h3,h4⟩:=go_path P _ 0 r e
    rcases h4 with ⟨_,h5⟩ | ⟨i,_,h5,_⟩
    · refine ⟨m, by lia, h5, fun q hq => ?_⟩
      obtain ⟨i,hi,_⟩:=h3 q (Nat.zero_le _) hq
      rw[hi]
      exact fun z=>nomatch z
    · lia
def OnPath (t:SetTable) (h:Int) (j:Nat) : Prop:=∃n,(stN t h n).j=j∧∀q,q<n→t.slot (stN t h q).j≠.empty
theorem OnPath.put (P:Plc t) {j j':Nat} (hj:∀i:Nat,t.place[i]?≠some j) (hp:OnPath t h j') : OnPath (t.put j).1 h j':=by
  obtain ⟨n,e,hn⟩:=hp
  have em:t.mask=(t.put j).1.mask:=by rw[put_is P]
  refine ⟨n,by rw[←st_mask em]; exact e,fun q hq=>?_⟩
  rw[←st_mask em]
  exact put_not_empty P hj (hn q hq)
theorem OnPath.new (P:Plc t) {K:Nat} (he:t.slot (stN t h K).j=.empty) (hb:∀q,q<K→t.slot (stN t h q).j≠.empty) : OnPath (t.put (stN t h K).j).1 h (stN t h K).j:=by
  have hj:∀i:Nat,t.place[i]?≠some (stN t h K).j:=fun i z=>by rw[slot_live P z] at he; cases he
  exact OnPath.put P hj ⟨K,rfl,hb⟩
end
end WS
namespace WS
open PySem PySem.SetTable
section
variable {t:SetTable} {h:Int}
def RunAt (t:SetTable) (h:Int) (n:Nat) : Prop:=(stN t h n).j=(stN t h n).i∧(stN t h n).more=runEnd t.mask (stN t h n).i - (stN t h n).i
theorem run0:RunAt t h 0:=⟨rfl,rfl⟩
theorem run_in {n:Nat} (R:RunAt t h n) : ∀k,k≤(stN t h n).more→(stN t h (n+k)).j=(stN t h n).i+k∧(stN t h (n+k)).i=(stN t h n).i∧(stN t h (n+k)).perturb=(stN t h n).perturb∧(stN t h (n+k)).more=(stN t h n).more - k
  | 0,_=>⟨R.1,rfl,rfl,rfl⟩
  | k+1,hk=>by
    obtain ⟨a,b,c,d⟩:=run_in R k (by lia)
    have e:stN t h (n+(k+1))=t.advance (stN t h (n+k)):=rfl
    rw[e]
    unfold advance
    rw[if_pos (show (stN t h (n+k)).more>0 by lia)]
    refine ⟨?_,b,c,?_⟩
    · show (stN t h (n+k)).j+1=_
      lia
    · show (stN t h (n+k)).more - 1=_
      lia
theorem run_next {n:Nat} (R:RunAt t h n) : RunAt t h (n+(stN t h n).more+1)∧(stN t h (n+(stN t h n).more+1)).i=(leap t.mask (stN t h n).i (stN t h n).perturb).1∧(stN t h (n+(stN t h n).more+1)).perturb=(leap t.mask (stN t h n).i (stN t h n).perturb).2:=by
  obtain ⟨a,b,c,d⟩:=run_in R (stN t h n).more (Nat.le_refl _)
  have e:stN t h (n+(stN t h n).more+1)=t.advance (stN t h (n+(stN t h n).more)):=rfl
  have e2:t.advance (stN t h (n+(stN t h n).more)) = { stN t h (n+(stN t h n).more) with j:=(leap t.mask (stN t h n).i (stN t h n).perturb).1,more:=runEnd t.mask (leap t.mask (stN t h n).i (stN t h n).perturb).1 - (leap t.mask (stN t h n).i (stN t h n).perturb).1,i:=(leap t.mask (stN t h n).i (stN t h n).perturb).1,perturb:=(leap t.mask (stN t h n).i (stN t h n).perturb).2 }:=by
    unfold advance
    rw[if_neg (show ¬(stN t h (n+(stN t h n).more)).more>0 by lia),b,c]
  unfold RunAt
  rw[e,e2]
  exact ⟨⟨rfl,rfl⟩,rfl,rfl⟩
def Free (owner:Array (Option Nat)) (j:Nat) : Prop:=(owner.getD j (some 0)).isNone=true
theorem free_path {owner:Array (Option Nat)} : ∀(fuel n j:Nat),RunAt t h n→layClean.free t.mask owner fuel (stN t h n).i (stN t h n).perturb=some j→∃m,n≤m∧(stN t h m).j=j∧Free owner j∧∀q,n≤q→q<m→¬Free owner (stN t h q).j
  | 0,n,j,R,e=>by
    unfold layClean.free at e
    cases e
  | fuel+1,n,j,R,e=>by
    unfold layClean.free at e
    have hlen:runEnd t.mask (stN t h n).i+1 - (stN t h n).i=(stN t h n).more+1:=by
      have:(stN t h n).i≤runEnd t.mask (stN t h n).i:=by unfold runEnd; split<;>lia
      rw[R.2]
      lia
    rw[hlen] at e
    cases hf:(List.range ((stN t h n).more+1)).find? fun k=>(owner.getD ((stN t h n).i+k) (some 0)).isNone with
    | some k =>
      rw[hf] at e
      have ej:(stN t h n).i+k=j:=Option.some.inj e
      have h1:=List.find?_some hf
      have h2:=List.mem_range.mp (List.mem_of_find?_eq_some hf)
      have rk:=run_in R k (by lia)
      refine ⟨n+k,by lia,by rw[rk.1]; exact ej,by rw[←ej]; exact h1,fun q a b=>?_⟩
      obtain ⟨d,rfl⟩ : ∃d,q=n+d:=⟨q - n,by lia⟩
      have rd:=run_in R d (by lia)
      rw[rd.1]
      have hb:=List.find?_eq_some_iff_getElem.mp hf
      obtain ⟨_,i,hi,ei,hall⟩:=hb
      rw[List.getElem_range] at ei
      have:=hall d (by lia)
      rw[List.getElem_range] at this
      intro z
      unfold Free at z
      rw[z] at this
      cases this
    | none =>
      rw[hf] at e
      dsimp only at e
      obtain ⟨R',e1,e2⟩:=run_next R
      rw[←e1,←e2] at e
      obtain ⟨m,m1,m2,m3,m4⟩:=free_path fuel _ j R' e
      refine ⟨m,by lia,m2,m3,fun q a b=>?_⟩
      by_cases c:n+(stN t h n).more+1≤q
      · exact m4 q c b
      · obtain ⟨d, rfl⟩ : ∃ d, q = n + d := ⟨q - n, by lia⟩
        have rd:=run_in R d (by lia)
        rw[rd.1]
        have:=List.find?_eq_none.mp hf d (List.mem_range.mpr (by lia))
        exact this
theorem free_some {owner:Array (Option Nat)} {j0:Nat} (hs:Free owner j0) {mask:Nat} : ∀(n fuel i p:Nat),(lpN mask n (i,p)).1=j0→n<fuel→layClean.free mask owner fuel i p≠none
  | 0,fuel,i,p,e,hf=>by
    obtain ⟨f,rfl⟩ : ∃f,fuel=f+1:=⟨fuel - 1,by lia⟩
    unfold layClean.free
    have e':i=j0:=e
    subst e'
    have hm:(List.range (runEnd mask i+1 - i)).find? (fun k=>(owner.getD (i+k) (some 0)).isNone)≠none:=fun z=>by
      have:=List.find?_eq_none.mp z 0 (List.mem_range.mpr (by unfold runEnd; split<;>lia))
      exact this hs
    cases hf:(List.range (runEnd mask i+1 - i)).find? fun k=>(owner.getD (i+k) (some 0)).isNone with
    | none=>exact absurd hf hm
    | some k=>exact fun z=>nomatch z
  | n+1,fuel,i,p,e,hf=>by
    obtain ⟨f,rfl⟩ : ∃f,fuel=f+1:=⟨fuel - 1,by lia⟩
    unfold layClean.free
    cases hf2:(List.range (runEnd mask i+1 - i)).find? fun k=>(owner.getD (i+k) (some 0)).isNone with
    | some k=>exact fun z=>nomatch z
    | none=>exact free_some hs n f _ _ e (by lia)
end
end WS
namespace WS
open PySem PySem.SetTable
theorem free_iff {owner:Array (Option Nat)} {j:Nat} : Free owner j↔owner[j]?=some none:=by
  unfold Free
  rw[Array.getD_eq_getD_getElem?]
  cases e:owner[j]? with
  | none=>exact ⟨fun z=>(nomatch z),fun z=>(nomatch z)⟩
  | some v =>
    cases v with
    | none=>exact ⟨fun _=>rfl,fun _=>rfl⟩
    | some k=>exact ⟨fun z=>(nomatch z),fun z=>(nomatch z)⟩
structure Laid (t:SetTable) (hs:List Int) (owner:Array (Option Nat)) : Prop where
  size:owner.size=t.mask+1
  has:∀(k:Nat) (h:Int),hs[k]?=some h→∃j n,owner[j]?=some (some k)∧(stN t h n).j=j∧∀q,q<n→¬Free owner (stN t h q).j
  own:∀(j v:Nat),owner[j]?=some (some v)→v<hs.length
  inj:∀(j j' v:Nat),owner[j]?=some (some v)→owner[j']?=some (some v)→j=j'
  cnt:owner.toList.countP Option.isNone+hs.length=t.mask+1
theorem Laid.nil (t:SetTable) : Laid t [] (Array.replicate (t.mask+1) none) where
  size:=Array.size_replicate
  has:=fun k h e=>by rw[List.getElem?_nil] at e; cases e
  own:=fun j v e=>by rw[Array.getElem?_replicate] at e; split at e<;>cases e
  inj:=fun j j' v e=>by rw[Array.getElem?_replicate] at e; split at e<;>cases e
  cnt:=by rw[Array.toList_replicate,List.countP_replicate]; rfl
theorem Laid.room {t:SetTable} {hs:List Int} {owner:Array (Option Nat)} (L:Laid t hs owner) (h:hs.length≤t.mask) : ∃j,j≤t.mask∧Free owner j:=by
  have c:=L.cnt
  have:0<owner.toList.countP Option.isNone:=by lia
  obtain ⟨v,hv,hn⟩:=List.countP_pos_iff.mp this
  obtain ⟨j,hj,e⟩:=List.mem_iff_getElem.mp hv
  have s:=L.size
  rw[Array.length_toList] at hj
  refine ⟨j,by lia,free_iff.mpr ?_⟩
  cases v with
  | none =>
    rw[Array.getElem?_eq_getElem hj]
    rw[Array.getElem_toList] at e
    exact congrArg some e
  | some k=>cases hn
theorem set_get {owner:Array (Option Nat)} {j k:Nat} (hj:j<owner.size) (j':Nat) : (owner.setIfInBounds j (some k))[j']?=if j=j' then some (some k) else owner[j']?:=by
  rw[Array.getElem?_setIfInBounds]
  by_cases e:j=j'
  · subst e; rw[if_pos rfl,if_pos rfl,if_pos hj]
  · rw[if_neg e,if_neg e]
theorem Laid.step {t:SetTable} {hs:List Int} {owner:Array (Option Nat)} (L:Laid t hs owner) {h:Int} {n:Nat} (hf:Free owner (stN t h n).j) (hq:∀q,q<n→¬Free owner (stN t h q).j) : Laid t (hs++[h]) (owner.setIfInBounds (stN t h n).j (some hs.length)):=by
  have hg:=free_iff.mp hf
  obtain ⟨hj,hv⟩:=Array.getElem?_eq_some_iff.mp hg
  generalize hJ:(stN t h n).j=J at *
  have keep:∀x,¬Free owner x→¬Free (owner.setIfInBounds J (some hs.length)) x:=fun x hx z=>by
    rw[free_iff,set_get hj] at z
    split at z
    · cases z
    · exact hx (free_iff.mpr z)
  refine ⟨by rw[Array.size_setIfInBounds]; exact L.size,fun k h' e=>?_,fun j v e=>?_,fun j j' v e e'=>?_,?_⟩
  · by_cases hk:k<hs.length
    · rw[List.getElem?_append_left hk] at e
      obtain ⟨j,m,a,b,c⟩:=L.has k h' e
      refine ⟨j,m,?_,b,fun q hq'=>keep _ (c q hq')⟩
      rw[set_get hj,if_neg (fun z=>by rw[←z,hg] at a; cases a)]
      exact a
    · have hk2:k=hs.length:=by
        have:=(List.getElem?_eq_some_iff.mp e).1
        rw[List.length_append,List.length_singleton] at this
        lia
      subst hk2
      rw[List.getElem?_append_right (Nat.le_refl _),Nat.sub_self] at e
      have e':h=h':=Option.some.inj e
      subst e'
      exact ⟨J,n,by rw[set_get hj,if_pos rfl],hJ,fun q hq'=>keep _ (hq q hq')⟩
  · rw[set_get hj] at e
    rw[List.length_append,List.length_singleton]
    split at e
    · have : v = hs.length := by injection e with e; injection e with e; exact e.symm
      lia
    · have:=L.own j v e
      lia
  · rw[set_get hj] at e e'
    split at e
    · have hv' : v = hs.length := by injection e with e; injection e with e; exact e.symm
      split at e'
      · lia
      · have:=L.own j' v e'
        lia
    · split at e'
      · have hv' : v = hs.length := by injection e' with e'; injection e' with e'; exact e'.symm
        have:=L.own j v e
        lia
      · exact L.inj j j' v e e'
  · have c:=L.cnt
    rw[Array.toList_setIfInBounds,List.countP_set (by rw[Array.length_toList]; exact hj),List.length_append,List.length_singleton]
    have e1:owner.toList[J]'(by rw[Array.length_toList]; exact hj)=none:=by rw[Array.getElem_toList]; exact hv
    rw[e1]
    have pos:0<owner.toList.countP Option.isNone:=List.countP_pos_iff.mpr ⟨none,by rw[←e1]; exact List.getElem_mem _,rfl⟩
    show owner.toList.countP Option.isNone - 1+0+(hs.length+1)=_
    lia
theorem clean_fold {t:SetTable} {k:Nat} (hm:t.mask+1=2 ^ k) : ∀(rest hs:List Int) (owner:Array (Option Nat)),Laid t hs owner→hs.length+rest.length≤t.mask+1 →
    ∃owner',rest.foldl (fun acc h=>do let (owner,k) ←acc; let j ←layClean.free t.mask owner (turns t.mask) (bits h % (t.mask+1)) (bits h); pure (owner.setIfInBounds j (some k),k+1)) (some (owner,hs.length))=some (owner',hs.length+rest.length)∧Laid t (hs++rest) owner'
  | [],hs,owner,L,_=>⟨owner,rfl,by rw[List.append_nil]; exact L⟩
  | h::rest,hs,owner,L,hl=>by
    rw[List.length_cons] at hl
    obtain ⟨j0,hj0,hfree⟩:=L.room (by lia)
    obtain ⟨n0,hn0,e0⟩:=leap_all (i:=bits h % (t.mask+1)) hm (bits_lt h) hj0
    have hs':=free_some hfree n0 (turns t.mask) (bits h % (t.mask+1)) (bits h) e0 (by unfold turns; lia)
    cases e:layClean.free t.mask owner (turns t.mask) (bits h % (t.mask+1)) (bits h) with
    | none=>exact absurd e hs'
    | some j =>
      obtain ⟨m,_,m2,m3,m4⟩:=free_path (t:=t) (h:=h) (turns t.mask) 0 j run0 e
      have L':=L.step (h:=h) (n:=m) (by rw[m2]; exact m3) fun q hq=>m4 q (Nat.zero_le _) hq
      rw[m2] at L'
      obtain ⟨o',e1,e2⟩:=clean_fold hm rest (hs++[h]) _ L' (by rw[List.length_append,List.length_singleton]; lia)
      refine ⟨o',?_,by rw[List.append_assoc] at e2; exact e2⟩
      rw[List.foldl_cons]
      rw[List.length_append,List.length_singleton] at e1
      rw[show (do let (owner,k) ←(some (owner,hs.length) : Option (Array (Option Nat)×Nat)); let j ←layClean.free t.mask owner (turns t.mask) (bits h % (t.mask+1)) (bits h); pure (owner.setIfInBounds j (some k),k+1))=some (owner.setIfInBounds j (some hs.length),hs.length+1) by
        show (layClean.free t.mask owner (turns t.mask) (bits h % (t.mask+1)) (bits h)).bind (fun j=>some (owner.setIfInBounds j (some hs.length),hs.length+1))=_
        rw[e]
        rfl]
      rw[e1,List.length_cons]
      congr 2
      lia
end WS
namespace WS
open PySem PySem.SetTable
theorem clean_ok {t:SetTable} {k:Nat} (hm:t.mask+1=2 ^ k) (hashes:Array Int) (hl:hashes.size≤t.mask+1) : ∃owner,layClean t.mask hashes=some owner∧Laid t hashes.toList owner:=by
  obtain ⟨o,e,L⟩:=clean_fold hm hashes.toList [] _ (Laid.nil t) (by rw[List.length_nil,Array.length_toList]; lia)
  refine ⟨o,?_,L⟩
  unfold layClean
  rw[←Array.foldl_toList]
  rw[List.length_nil] at e
  rw[e]
  rfl
def liveL (owner:Array (Option Nat)) (mask:Nat) : List (Nat×Nat):=(List.range (mask+1)).filterMap fun j=>(owner.getD j none).map (j,·)
theorem live_f {owner:Array (Option Nat)} {j:Nat} {x:Nat×Nat} : (owner.getD j none).map (j,·)=some x↔x.1=j∧owner[j]?=some (some x.2):=by
  rw[Array.getD_eq_getD_getElem?]
  cases e:owner[j]? with
  | none=>exact ⟨fun z=>(nomatch z),fun z=>(nomatch z.2)⟩
  | some v =>
    cases v with
    | none=>exact ⟨fun z=>(nomatch z),fun z=>(nomatch z.2)⟩
    | some w =>
      constructor
      · intro z
        have:(j,w)=x:=Option.some.inj z
        subst this
        exact ⟨rfl,rfl⟩
      · rintro ⟨h1,h2⟩
        have h3:w=x.2:=by injection h2 with h2; injection h2
        show some (j,w)=some x
        rw[h3,←h1]
theorem mem_live {t:SetTable} {hs:List Int} {owner:Array (Option Nat)} (L:Laid t hs owner) {x:Nat×Nat} : x∈liveL owner t.mask↔owner[x.1]?=some (some x.2):=by
  unfold liveL
  rw[List.mem_filterMap]
  constructor
  · rintro ⟨j,_,hj⟩
    obtain ⟨a,b⟩:=live_f.mp hj
    rw[a]
    exact b
  · intro h
    have hs:=(Array.getElem?_eq_some_iff.mp h).1
    have s:=L.size
    exact ⟨x.1,List.mem_range.mpr (by lia),live_f.mpr ⟨rfl,h⟩⟩
theorem live_rise (owner:Array (Option Nat)) (mask:Nat) : (liveL owner mask).Pairwise fun x y=>x.1<y.1:=by
  unfold liveL
  rw[List.pairwise_filterMap]
  refine List.Pairwise.imp (fun {a b} hab x hx y hy=>?_) List.pairwise_lt_range
  rw[(live_f.mp hx).1,(live_f.mp hy).1]
  exact hab
theorem laid_ok {mask k:Nat} (hm:mask+1=2 ^ k) (finger moves:Nat) (led plain:Bool) (hashes:Array Int) (hl:hashes.size≤mask+1) :
    ∃t order,laid mask finger moves led plain hashes=some (t,order)∧t.mask=mask∧t.moves=moves∧t.led=led∧t.plain=plain∧Plc t∧t.place.size=hashes.size∧order.toList.Perm (List.range hashes.size) ∧
      (∀j∈t.place.toList,j≤mask)∧∀(i j:Nat),t.place[i]?=some j→∃(kk:Nat) (hh:Int),order[i]?=some kk∧hashes[kk]?=some hh∧OnPath t hh j:=by
  obtain ⟨owner,e,L⟩:=clean_ok (t:=⟨mask,#[],#[],finger,led,moves,plain⟩) hm hashes hl
  have rise:=live_rise owner mask
  have mem:∀{x:Nat×Nat},x∈liveL owner mask↔owner[x.1]?=some (some x.2):=mem_live L
  have perm:((liveL owner mask).map (·.2)).Perm (List.range hashes.size):=by
    refine (List.perm_ext_iff_of_nodup ?_ List.nodup_range).mpr fun v=>?_
    · show ((liveL owner mask).map (·.2)).Pairwise (·≠·)
      rw[List.pairwise_map]
      refine List.Pairwise.imp_of_mem (fun {a b} ha hb hab z=>?_) rise
      have h1:=mem.mp ha
      have h2:=mem.mp hb
      rw[←z] at h2
      have:=L.inj _ _ _ h1 h2
      lia
    · rw[List.mem_map,List.mem_range]
      constructor
      · rintro ⟨x,hx,rfl⟩
        have:=L.own _ _ (mem.mp hx)
        rw[Array.length_toList] at this
        exact this
      · intro hv
        obtain ⟨j,n,a,_⟩:=L.has v hashes[v] (by rw[Array.getElem?_toList]; exact Array.getElem?_eq_getElem hv)
        exact ⟨(j,v),mem.mpr a,rfl⟩
  have len:(liveL owner mask).length=hashes.size:=by have:=perm.length_eq; rw[List.length_map,List.length_range] at this; exact this
  generalize hT:(⟨mask,((liveL owner mask).map (·.1)).toArray,#[],finger,led,moves,plain⟩ : SetTable)=T
  have ep:T.place=((liveL owner mask).map (·.1)).toArray:=by rw[←hT]
  have em:T.mask=mask:=by rw[←hT]
  have getp:∀(i j:Nat),T.place[i]?=some j↔∃v,(liveL owner mask)[i]?=some (j,v):=fun i j=>by
    rw[ep,List.getElem?_toArray,List.getElem?_map]
    cases (liveL owner mask)[i]? with
    | none=>exact ⟨fun z=>(nomatch z),fun ⟨v,z⟩=>(nomatch z)⟩
    | some x =>
      constructor
      · intro z
        have:x.1=j:=Option.some.inj z
        exact ⟨x.2,by rw[←this]⟩
      · rintro ⟨v,z⟩
        rw[Option.some.inj z]
        rfl
  have P:Plc T:=by
    refine ⟨fun a b hab hb=>?_,by rw[←hT]⟩
    have hb':b<(liveL owner mask).length:=by rw[ep,List.size_toArray,List.length_map] at hb; exact hb
    have ga:T.place[a]?=some ((liveL owner mask)[a]'(by lia)).1:=(getp a _).mpr ⟨_,List.getElem?_eq_getElem (by lia)⟩
    have gb:T.place[b]?=some ((liveL owner mask)[b]).1:=(getp b _).mpr ⟨_,List.getElem?_eq_getElem hb'⟩
    rw[(get_some.mp ga).2,(get_some.mp gb).2]
    exact List.pairwise_iff_getElem.mp rise a b (by lia) hb' hab
  have occ:∀j,j≤mask→¬Free owner j→T.slot j≠.empty:=fun j hj hf=>by
    have s:owner.size=mask+1:=L.size
    have hlt:j<owner.size:=by lia
    cases ev:owner[j] with
    | none=>exact absurd (free_iff.mpr (by rw[Array.getElem?_eq_getElem hlt,ev])) hf
    | some v =>
      have hx:(j,v)∈liveL owner mask:=mem.mpr (by rw[Array.getElem?_eq_getElem hlt,ev])
      obtain ⟨i,hi,ei⟩:=List.mem_iff_getElem.mp hx
      rw[slot_live P ((getp i j).mpr ⟨v,by rw[List.getElem?_eq_getElem hi,ei]⟩)]
      exact fun z=>nomatch z
  refine ⟨T,((liveL owner mask).map (·.2)).toArray,?_,em,by rw[←hT],by rw[←hT],by rw[←hT],P,by rw[ep,List.size_toArray,List.length_map]; exact len,perm,fun j hj=>?_,fun i j hij=>?_⟩
  · unfold laid
    rw[show layClean mask hashes=some owner from e,←hT]
    rfl
  · rw[ep] at hj
    obtain ⟨x,hx,rfl⟩:=List.mem_map.mp hj
    have:=(Array.getElem?_eq_some_iff.mp (mem.mp hx)).1
    have s:owner.size=mask+1:=L.size
    lia
  · obtain ⟨v,hv⟩:=(getp i j).mp hij
    have hmem:=List.mem_of_getElem? hv
    have ho:=mem.mp hmem
    have hvn:=L.own _ _ ho
    rw[Array.length_toList] at hvn
    refine ⟨v,hashes[v],by rw[List.getElem?_toArray,List.getElem?_map,hv]; rfl,Array.getElem?_eq_getElem hvn,?_⟩
    obtain ⟨j2,n,a,b,c⟩:=L.has v hashes[v] (by rw[Array.getElem?_toList]; exact Array.getElem?_eq_getElem hvn)
    have ej:j2=j:=L.inj _ _ _ a ho
    subst ej
    have es:=st_mask (t:=⟨mask,#[],#[],finger,led,moves,plain⟩) (t':=T) em.symm hashes[v]
    refine ⟨n,by rw[←es]; exact b,fun q hq=>?_⟩
    rw[←es]
    refine occ _ ?_ (c q hq)
    have:=(st_facts ⟨mask,#[],#[],finger,led,moves,plain⟩ hashes[v] q).2.2.2
    dsimp only at this
    lia
end WS
namespace WS
open PySem PySem.SetTable
theorem len_sub {α:Type} [DecidableEq α] : ∀(xs ys:List α),xs.Nodup→(∀x∈xs,x∈ys)→xs.length≤ys.length
  | [],_,_,_=>Nat.zero_le _
  | x::xs,ys,hn,hs=>by
    rw[List.nodup_cons] at hn
    have h1:=len_sub xs (ys.erase x) hn.2 fun y hy=>(List.mem_erase_of_ne (fun e:y=x=>hn.1 (e ▸ hy))).mpr (hs y (.tail _ hy))
    have h2:=hs x (.head _)
    have h3:=List.length_erase_of_mem h2
    have h4:=List.length_pos_of_mem h2
    rw[List.length_cons]
    lia
section
variable {prog:Program} {w:World} {K:Type} [DecidableEq K]
structure Tab (knd:KeyKind prog w K) (h:Heap) (es:Array (Int×Value)) (t:SetTable) (ks:List (List K)) : Prop where
  plc:Plc t
  siz:t.place.size=es.size
  msk:t.mask∈[7,31,127,511,2047,8191]
  le:∀(i j:Nat),t.place[i]?=some j→j≤t.mask
  num:ks.length=es.size
  nod:ks.Nodup
  ent:∀(i:Nat) e,es[i]?=some e→∃k∈ks,∃b,e=(tupleKeyHash knd k,.ref b)∧IsTupleKey knd h k b
  has:∀k∈ks,∃(i:Nat) (b:Addr),es[i]?=some (tupleKeyHash knd k,.ref b)∧IsTupleKey knd h k b
  path:∀(i j:Nat) e,t.place[i]?=some j→es[i]?=some e→OnPath t e.1 j
structure TSet (knd:KeyKind prog w K) (h:Heap) (a:Addr) (o:Obj) (es:Array (Int×Value)) (ep:Nat) (t:SetTable) (ks:List (List K)) : Prop extends Tab knd h es t ks where
  obj:h.get? a=some o
  dat:o.data=.set es ep t
  exa:o.ExactSet
  room:t.place.size*5<t.mask*3
variable {knd:KeyKind prog w K} {h:Heap} {a:Addr} {o:Obj} {es:Array (Int×Value)} {ep:Nat} {t:SetTable} {ks:List (List K)}
theorem Tab.pow (T:Tab knd h es t ks) : ∃k,3≤k∧t.mask+1=2 ^ k:=by
  have hm:=T.msk
  simp only[List.mem_cons,List.not_mem_nil,or_false] at hm
  rcases hm with e | e | e | e | e | e<;>rw[e]
  · exact ⟨3,by decide,by decide⟩
  · exact ⟨5,by decide,by decide⟩
  · exact ⟨7,by decide,by decide⟩
  · exact ⟨9,by decide,by decide⟩
  · exact ⟨11,by decide,by decide⟩
  · exact ⟨13,by decide,by decide⟩
theorem TSet.odd (T:TSet knd h a o es ep t ks) : t.mask % 2=1:=by
  obtain ⟨k,h3,e⟩:=T.pow
  obtain ⟨m,rfl⟩ : ∃m,k=m+1:=⟨k - 1,by lia⟩
  rw[Nat.pow_succ] at e
  lia
theorem TSet.fits (T:TSet knd h a o es ep t ks) : t.fits es.size=true:=by
  unfold SetTable.fits SetTable.fill
  rw[T.plc.nod]
  have:=T.room
  have:=T.siz
  rw[Bool.and_eq_true,beq_iff_eq,decide_eq_true_eq]
  refine ⟨T.siz,?_⟩
  show t.place.size+0≤t.mask
  lia
theorem TSet.empty_slot (T:TSet knd h a o es ep t ks) : ∃j,j≤t.mask∧t.slot j=.empty:=by
  by_cases c:∃j,j≤t.mask∧∀i:Nat,t.place[i]?≠some j
  · obtain ⟨j,hj,hn⟩:=c
    exact ⟨j,hj,slot_empty T.plc hn⟩
  · exfalso
    have hr:=T.room
    have all:∀j,j≤t.mask→j∈t.place.toList:=fun j hj=>by
      refine Classical.byContradiction fun hc=>c ⟨j,hj,fun i z=>hc ?_⟩
      rw[←Array.getElem?_toList] at z
      exact List.mem_of_getElem? z
    have hl:(List.range (t.mask+1)).length≤t.place.toList.length:=len_sub _ _ List.nodup_range fun j hj=>all j (by rw[List.mem_range] at hj; lia)
    rw[List.length_range,Array.length_toList] at hl
    lia
variable {A:Around} {E:Value→Shared→Prop} {s:Shared}
theorem ofClass_plain (n:Nat) {v:Value} (hv:carriedByValue v=true) : ofAClassStatement n v=pure false:=by
  cases v with
  | ref a=>simp[carriedByValue] at hv
  | _=>cases n<;>rfl
theorem ofClass_tuple {k:List K} {b:Addr} {Q:Bool→Shared→Prop} (hk:IsTupleKey knd s.heap k b) (q:Q false s) : wpAny (model prog w) A (ofAClassStatement 8 (.ref b)) Q E s:=by
  have hT:=hk.typeIs
  obtain ⟨o,items,n,ho,_,hd,hi⟩:=hk
  unfold ofAClassStatement
  refine wpAny_bind (wpAny_typeOf hT ?_)
  dsimp only
  rw[if_pos (by decide)]
  refine wpAny_bind (wpAny_pure ?_)
  simp only[Bool.not_true,Bool.false_eq_true,if_false]
  refine wpAny_bind (wpAny_seqItems ho hd ?_)
  dsimp only
  refine wpAny_bind ?_
  rw[←Array.forIn_toList]
  refine wpAny_forIn_list _ (fun rest r s'=>r.1=none∧s'=s∧∀v∈rest,carriedByValue v=true) _ ?_ ?_ _ _ ⟨rfl,rfl,hi.byValue⟩
  · rintro v rest r s' ⟨hr,rfl,hall⟩
    rw[ofClass_plain _ (hall v List.mem_cons_self)]
    refine wpAny_bind (wpAny_pure ?_)
    simp only[Bool.false_eq_true,if_false]
    exact wpAny_pure ⟨rfl,rfl,fun u hu'=>hall u (List.mem_cons_of_mem _ hu')⟩
  · rintro ⟨r1,r2⟩ s' ⟨hr,rfl,_⟩
    simp only at hr
    subst hr
    exact wpAny_pure q
theorem seen_no {k:List K} {b:Addr} {Q:Bool→Shared→Prop} (hk:IsTupleKey knd s.heap k b) (ys:List Value) (hy:∀y∈ys,∃k' b',y=.ref b'∧IsTupleKey knd s.heap k' b') (q:Q false s) : wpAny (model prog w) A (searchCouldBeSeen (.ref b) ys) Q E s:=by
  unfold searchCouldBeSeen
  refine wpAny_bind ?_
  refine wpAny_forIn_list _ (fun rest r s'=>r.1=none∧s'=s∧∀y∈rest,∃k' b',y=.ref b'∧IsTupleKey knd s.heap k' b') _ ?_ ?_ _ _ ⟨rfl,rfl,hy⟩
  · rintro v rest r s' ⟨hr,rfl,hall⟩
    obtain ⟨k',b',rfl,hk'⟩:=hall v List.mem_cons_self
    dsimp only
    split
    · exact wpAny_pure ⟨rfl,rfl,fun u hu'=>hall u (List.mem_cons_of_mem _ hu')⟩
    · refine wpAny_bind (wpAny_eqIsQuiet_tuple hk ?_)
      simp only[Bool.not_true,Bool.false_eq_true,if_false]
      refine wpAny_bind (wpAny_eqIsQuiet_tuple hk' ?_)
      simp only[Bool.not_true,Bool.false_eq_true,if_false]
      refine wpAny_bind (ofClass_tuple hk ?_)
      simp only[Bool.false_eq_true,if_false]
      refine wpAny_bind (ofClass_tuple hk' ?_)
      simp only[Bool.false_eq_true,if_false]
      exact wpAny_pure ⟨rfl,rfl,fun u hu'=>hall u (List.mem_cons_of_mem _ hu')⟩
  · rintro ⟨r1,r2⟩ s' ⟨hr,rfl,_⟩
    simp only at hr
    subst hr
    exact wpAny_pure q
def Other (knd:KeyKind prog w K) (hp:Heap) (es:Array (Int×Value)) (t:SetTable) (kk:List K) (q:Nat) : Prop:=
  ∃i:Nat,t.slot (stN t (tupleKeyHash knd kk) q).j=.live i∧∀b,es[i]?=some (tupleKeyHash knd kk,.ref b)→¬IsTupleKey knd hp kk b
theorem search_from (T:TSet knd s.heap a o es ep t ks) {kk:List K} {b:Addr} (hu:A.units<cLine) (hb:IsTupleKey knd s.heap kk b) {KK:Nat}
    (hK:t.slot (stN t (tupleKeyHash knd kk) KK).j=.empty) (hK':∀q,q<KK→t.slot (stN t (tupleKeyHash knd kk) q).j≠.empty) {Q:SetFound→Shared→Prop}
    (q1:kk∈ks→Q (.there none) s) (q2:kk∉ks→Q (.free (stN t (tupleKeyHash knd kk) KK).j false) s) :
    ∀(fuel n:Nat) (st:Option Probe),st.getD (t.probeStart (tupleKeyHash knd kk))=stN t (tupleKeyHash knd kk) n→n≤KK→KK<n+fuel→(∀q,q<n→Other knd s.heap es t kk q) →
      wpAny (model prog w) A (setSearchFrom a (.ref b) (tupleKeyHash knd kk) true fuel st) Q E s
  | 0,n,st,e,h1,h2,h3=>absurd h2 (by lia)
  | fuel+1,n,st,e,h1,h2,h3=>by
    unfold setSearchFrom
    refine wpAny_bind (wpAny_setState_of T.obj T.dat T.fits ?_)
    dsimp only
    have hg:t.gaveWay=false:=by
      unfold SetTable.gaveWay
      rw[T.odd]
      rfl
    rw[hg,e]
    simp only[Bool.false_eq_true,if_false]
    obtain ⟨k,_,hm⟩:=T.pow
    obtain ⟨j0,hj0,hs0⟩:=T.empty_slot
    have hsome:t.probe (fun i=>(es[i]?.map (·.1)).getD 0) (tupleKeyHash knd kk) (stN t (tupleKeyHash knd kk) n)≠none:=go_any hm hj0 hs0 (st_facts t _ n).2.1 (st_facts t _ n).2.2.1
    have hpath:=go_path (t:=t) (hashAt:=fun i=>(es[i]?.map (·.1)).getD 0) (h:=tupleKeyHash knd kk) T.plc (10*turns t.mask) n
    have hch:∀q,q<n→t.slot (stN t (tupleKeyHash knd kk) q).j≠.empty:=fun q hq=>by
      obtain ⟨i,hi,_⟩:=h3 q hq
      rw[hi]
      exact fun z=>nomatch z
    generalize er0:t.probe _ _ _=r0
    have er:probe.go t (fun i=>(es[i]?.map (·.1)).getD 0) (tupleKeyHash knd kk) (10*turns t.mask) (stN t (tupleKeyHash knd kk) n)=r0:=er0
    unfold SetTable.probe at hsome
    cases r0 with
    | none=>exact absurd er hsome
    | some r =>
      obtain ⟨m,m1,m2,m3,m4⟩:=hpath r er
      have hoth:∀q,q<m→Other knd s.heap es t kk q:=fun q hq=>by
        by_cases c:q<n
        · exact h3 q c
        · obtain ⟨i, hi, hne⟩ := m3 q (by lia) hq
          refine ⟨i,hi,fun b' z=>?_⟩
          rw[z] at hne
          exact absurd rfl hne
      have hne:∀q,q<m→t.slot (stN t (tupleKeyHash knd kk) q).j≠.empty:=fun q hq z=>by
        obtain ⟨i,hi,_⟩:=hoth q hq
        rw[hi] at z
        cases z
      rcases m4 with ⟨rfl,hs⟩ | ⟨i,hi,hh,rfl⟩
      · have em:m=KK:=by
          by_cases c:m<KK
          · exact absurd hs (hK' m c)
          · by_cases c':KK<m
            · exact absurd hK (hne KK c')
            · lia
        subst em
        dsimp only
        refine wpAny_pure (q2 fun hmem=>?_)
        obtain ⟨i,b',he,hb'⟩:=T.has kk hmem
        have hilt:i<t.place.size:=by rw[T.siz]; exact (Array.getElem?_eq_some_iff.mp he).1
        obtain ⟨n',e',hn'⟩:=T.path i _ _ (Array.getElem?_eq_getElem hilt) he
        have hlive:=slot_live T.plc (Array.getElem?_eq_getElem hilt)
        by_cases c:n'<m
        · obtain ⟨i2,hi2,hno⟩:=hoth n' c
          dsimp only at e'
          rw[e',hlive] at hi2
          injection hi2 with hi2
          subst hi2
          exact hno b' he hb'
        · by_cases c':m<n'
          · exact hn' m c' hs
          · have : n' = m := by lia
            subst this
            dsimp only at e'
            rw[e',hlive] at hs
            cases hs
      · dsimp only
        have hmK:m≤KK:=by
          refine Classical.byContradiction fun c=>?_
          exact hne KK (by lia) hK
        have hmK':m≠KK:=fun z=>by
          subst z
          rw[hi] at hK
          cases hK
        have hes:∃e,es[i]?=some e:=by
          rcases slot_cases T.plc (stN t (tupleKeyHash knd kk) m).j with ⟨i',hp,hl⟩ | ⟨_,hl⟩
          · rw[hl] at hi
            injection hi with hi
            subst hi
            have:i'<es.size:=by rw[←T.siz]; exact (Array.getElem?_eq_some_iff.mp hp).1
            exact ⟨_,Array.getElem?_eq_getElem this⟩
          · rw[hl] at hi
            cases hi
        obtain ⟨e0,he0⟩:=hes
        obtain ⟨k',hk',b',rfl,hb'⟩:=T.ent i e0 he0
        have hseen:∀y∈(es.filter (·.1 == tupleKeyHash knd kk)).toList.map (·.2),∃k' b',y=.ref b'∧IsTupleKey knd s.heap k' b':=fun y hy=>by
          rw[List.mem_map] at hy
          obtain ⟨e,he,rfl⟩:=hy
          rw[Array.mem_toList_iff,Array.mem_filter] at he
          obtain ⟨i2,hi2⟩:=Array.mem_iff_getElem?.mp he.1
          obtain ⟨k2,_,b2,rfl,hb2⟩:=T.ent i2 e hi2
          exact ⟨k2,b2,rfl,hb2⟩
        split
        case' isTrue =>
          refine wpAny_bind (seen_no hb _ hseen ?_)
          simp only[Bool.false_eq_true,if_false]
        all_goals
          rw[he0]
          dsimp only
          refine wpAny_bind (wpAny_holding (wpAny_eqBool_tuple hu hb' hb ?_))
          refine wpAny_bind (wpAny_setState_of T.obj T.dat T.fits ?_)
          dsimp only
          by_cases ek:k'=kk
          · rw[decide_eq_true ek]
            subst ek
            simp only[Bool.and_self,if_true]
            exact wpAny_pure (q1 hk')
          · rw[decide_eq_false ek]
            simp only[Bool.and_false,Bool.false_eq_true,if_false]
            have hsm:t.sameMemory t.moves t.mask=some true:=by
              unfold SetTable.sameMemory
              rw[if_pos (by rw[beq_iff_eq])]
            rw[hsm]
            dsimp only
            rw[if_pos rfl,hi]
            dsimp only
            rw[he0]
            dsimp only
            refine wpAny_bind (wpAny_isSame_ref_self ?_)
            refine wpAny_bind (wpAny_pure ?_)
            rw[if_pos rfl]
            dsimp only
            refine search_from T hu hb hK hK' q1 q2 fuel (m+1) _ rfl (by lia) (by lia) fun q hq=>?_
            by_cases c:q<m
            · exact hoth q c
            · have : q = m := by lia
              subst this
              refine ⟨i,hi,fun b2 z hb2=>ek ?_⟩
              rw[he0] at z
              injection z with z
              injection z with _ z
              injection z with z
              subst z
              exact hb'.inj hb2
end
end WS
namespace WS
open PySem PySem.SetTable
section
variable {prog:Program} {w:World} {K:Type} [DecidableEq K] {knd:KeyKind prog w K} {h h':Heap} {a:Addr} {o:Obj} {es:Array (Int×Value)} {ep:Nat} {t t':SetTable} {ks:List (List K)}
theorem same_slot (e1:t'.place=t.place) (e2:t'.dummies=t.dummies) (j:Nat) : t'.slot j=t.slot j:=by
  unfold SetTable.slot
  rw[e1,e2]
theorem same_path (e0:t'.mask=t.mask) (e1:t'.place=t.place) (e2:t'.dummies=t.dummies) {x:Int} {j:Nat} (hp:OnPath t x j) : OnPath t' x j:=by
  obtain ⟨n,h1,h2⟩:=hp
  refine ⟨n,by rw[st_mask e0]; exact h1,fun q hq=>?_⟩
  rw[st_mask e0,same_slot e1 e2]
  exact h2 q hq
theorem Tab.same (T:Tab knd h es t ks) (e0:t'.mask=t.mask) (e1:t'.place=t.place) (e2:t'.dummies=t.dummies) : Tab knd h es t' ks where
  plc:=⟨by rw[e1]; exact T.plc.rise,by rw[e2]; exact T.plc.nod⟩
  siz:=by rw[e1]; exact T.siz
  msk:=by rw[e0]; exact T.msk
  le:=fun i j=>by rw[e1,e0]; exact T.le i j
  num:=T.num
  nod:=T.nod
  ent:=T.ent
  has:=T.has
  path:=fun i j e h1 h2=>same_path e0 e1 e2 (T.path i j e (by rw[←e1]; exact h1) h2)
theorem Tab.heap (T:Tab knd h es t ks) (hk:∀k b,IsTupleKey knd h k b→IsTupleKey knd h' k b) : Tab knd h' es t ks where
  plc:=T.plc
  siz:=T.siz
  msk:=T.msk
  le:=T.le
  num:=T.num
  nod:=T.nod
  ent:=fun i e he=>let ⟨k,h1,b,h2,h3⟩:=T.ent i e he; ⟨k,h1,b,h2,hk k b h3⟩
  has:=fun k hm=>let ⟨i,b,h1,h2⟩:=T.has k hm; ⟨i,b,h1,hk k b h2⟩
  path:=T.path
theorem Tab.put (T:Tab knd h es t ks) {kk:List K} {b:Addr} (hb:IsTupleKey knd h kk b) (hn:kk∉ks) {KK:Nat}
    (hK:t.slot (stN t (tupleKeyHash knd kk) KK).j=.empty) (hK':∀q,q<KK→t.slot (stN t (tupleKeyHash knd kk) q).j≠.empty) :
    Tab knd h (insertAt es (t.put (stN t (tupleKeyHash knd kk) KK).j).2 (tupleKeyHash knd kk,.ref b)) (t.put (stN t (tupleKeyHash knd kk) KK).j).1 (kk::ks):=by
  generalize hh:tupleKeyHash knd kk=x at *
  generalize hj:(stN t x KK).j=j at *
  have hfree:∀i:Nat,t.place[i]?≠some j:=fun i z=>by rw[slot_live T.plc z] at hK; cases hK
  have ep:t.put j=({ t with place:=insertAt t.place (below t.place j) j,dummies:=#[] },below t.place j):=put_is T.plc j
  have hle:below t.place j≤t.place.size:=(below_is T.plc.rise j).1
  have hle':below t.place j≤es.size:=by rw[←T.siz]; exact hle
  have e2:(t.put j).2=below t.place j:=by rw[ep]
  have em:(t.put j).1.mask=t.mask:=by rw[ep]
  have epl:(t.put j).1.place=insertAt t.place (below t.place j) j:=by rw[ep]
  have gp:∀i:Nat,(t.put j).1.place[i]?=if i<below t.place j then t.place[i]? else if i=below t.place j then some j else t.place[i - 1]?:=fun i=>by rw[epl,ins_get _ _ _ hle]
  have ge:∀i:Nat,(insertAt es (t.put j).2 (x,Value.ref b))[i]?=if i<below t.place j then es[i]? else if i=below t.place j then some (x,Value.ref b) else es[i - 1]?:=fun i=>by rw[e2,ins_get _ _ _ hle']
  have sz:(insertAt es (t.put j).2 (x,Value.ref b)).size=es.size+1:=by rw[e2,ins_size _ _ _ hle']
  refine { plc:=put_plc T.plc hfree,siz:=?_,msk:=by rw[em]; exact T.msk,le:=?_,num:=?_,nod:=?_,ent:=?_,has:=?_,path:=?_ }
  · rw[sz,epl,ins_size _ _ _ hle,T.siz]
  · intro i j' hij
    rw[gp] at hij
    rw[em]
    split at hij
    · exact T.le _ _ hij
    · split at hij
      · injection hij with hij
        subst hij
        rw[←hj]
        have:=(st_facts t x KK).2.2.2
        lia
      · exact T.le _ _ hij
  · rw[sz,List.length_cons,T.num]
  · exact List.nodup_cons.mpr ⟨hn,T.nod⟩
  · intro i e he
    rw[ge] at he
    split at he
    · obtain ⟨k,h1,b',h2,h3⟩:=T.ent _ _ he
      exact ⟨k,.tail _ h1,b',h2,h3⟩
    · split at he
      · injection he with he
        exact ⟨kk,.head _,b,by rw[←he,hh],hb⟩
      · obtain ⟨k,h1,b',h2,h3⟩:=T.ent _ _ he
        exact ⟨k,.tail _ h1,b',h2,h3⟩
  · intro k hk
    rcases List.mem_cons.mp hk with rfl | hk
    · refine ⟨below t.place j,b,?_,hb⟩
      rw[ge,if_neg (Nat.lt_irrefl _),if_pos rfl,hh]
    · obtain ⟨i,b',h1,h2⟩:=T.has k hk
      by_cases c:i<below t.place j
      · exact ⟨i,b',by rw[ge,if_pos c]; exact h1,h2⟩
      · exact ⟨i+1,b',by rw[ge,if_neg (by lia),if_neg (by lia)]; exact h1,h2⟩
  · intro i j' e hp he
    rw[gp] at hp
    rw[ge] at he
    split at hp
    · rw [if_pos (by assumption)] at he
      exact OnPath.put T.plc hfree (T.path _ _ _ hp he)
    · rw [if_neg (by assumption)] at he
      split at hp
      · rw [if_pos (by assumption)] at he
        injection hp with hp
        injection he with he
        subst hp
        subst he
        show OnPath _ x j
        have:=OnPath.new (t:=t) (h:=x) T.plc (K:=KK) (by rw[hj]; exact hK) hK'
        rw[hj] at this
        exact this
      · rw [if_neg (by assumption)] at he
        exact OnPath.put T.plc hfree (T.path _ _ _ hp he)
theorem fm_get {α:Type} {es:Array α} : ∀(ord:List Nat),(∀i∈ord,i<es.size)→∀i:Nat,(ord.filterMap (es[·]?))[i]?=(ord[i]?).bind (es[·]?)
  | [],_,i=>by simp
  | x::ord,hx,i=>by
    have h1:=hx x (.head _)
    rw[List.filterMap_cons,Array.getElem?_eq_getElem h1]
    dsimp only
    cases i with
    | zero=>rw[List.getElem?_cons_zero,List.getElem?_cons_zero]; exact (Array.getElem?_eq_getElem h1).symm
    | succ i=>rw[List.getElem?_cons_succ,List.getElem?_cons_succ]; exact fm_get ord (fun i hi=>hx i (.tail _ hi)) i
theorem fm_len {α:Type} {es:Array α} : ∀(ord:List Nat),(∀i∈ord,i<es.size)→(ord.filterMap (es[·]?)).length=ord.length
  | [],_=>rfl
  | x::ord,hx=>by
    rw[List.filterMap_cons,Array.getElem?_eq_getElem (hx x (.head _))]
    dsimp only
    rw[List.length_cons,List.length_cons,fm_len ord fun i hi=>hx i (.tail _ hi)]
theorem Tab.relay (T:Tab knd h es t ks) {wanted m:Nat} (hw:sizeAbove wanted=m+1) (hm:m∈[7,31,127,511,2047,8191]) (hl:es.size≤m+1) :
    ∃t' order,t.relaid (es.map (·.1)) wanted=some (t',order)∧(order.filterMap (es[·]?)).size=es.size∧Tab knd h (order.filterMap (es[·]?)) t' ks∧t'.mask=m:=by
  have hp:∃k,m+1=2 ^ k:=by
    simp only[List.mem_cons,List.not_mem_nil,or_false] at hm
    rcases hm with e | e | e | e | e | e<;>rw[e]
    · exact ⟨3,by decide⟩
    · exact ⟨5,by decide⟩
    · exact ⟨7,by decide⟩
    · exact ⟨9,by decide⟩
    · exact ⟨11,by decide⟩
    · exact ⟨13,by decide⟩
  obtain ⟨k,hp⟩:=hp
  obtain ⟨t',order,e,em,_,_,_,P,sz,perm,le,pth⟩:=laid_ok hp t.finger (t.movedTo (sizeAbove wanted - 1)) t.led t.plain (es.map (·.1)) (by rw[Array.size_map]; exact hl)
  rw[Array.size_map] at sz perm
  have hlt:∀i∈order.toList,i<es.size:=fun i hi=>List.mem_range.mp (perm.mem_iff.mp hi)
  have el:(order.filterMap (es[·]?)).toList=order.toList.filterMap (es[·]?):=Array.toList_filterMap
  have olen:order.toList.length=es.size:=by rw[perm.length_eq,List.length_range]
  have ge:∀i:Nat,(order.filterMap (es[·]?))[i]?=(order[i]?).bind (es[·]?):=fun i=>by rw[←Array.getElem?_toList,el,fm_get _ hlt,Array.getElem?_toList]
  have sz':(order.filterMap (es[·]?)).size=es.size:=by rw[←Array.length_toList,el,fm_len _ hlt,olen]
  refine ⟨t',order,?_,sz',?_,em⟩
  · unfold SetTable.relaid
    rw[←e,hw]
    rfl
  refine { plc:=P,siz:=by rw[sz,sz'],msk:=by rw[em]; exact hm,le:=?_,num:=by rw[sz']; exact T.num,nod:=T.nod,ent:=?_,has:=?_,path:=?_ }
  · intro i j hij
    rw[em]
    refine le j ?_
    rw[←Array.getElem?_toList] at hij
    exact List.mem_of_getElem? hij
  · intro i e he
    rw[ge,Option.bind_eq_some_iff] at he
    obtain ⟨i',_,h2⟩:=he
    exact T.ent _ _ h2
  · intro k hk
    obtain ⟨i,b,h1,h2⟩:=T.has k hk
    have hi:i<es.size:=(Array.getElem?_eq_some_iff.mp h1).1
    have hmem:i∈order.toList:=perm.mem_iff.mpr (List.mem_range.mpr hi)
    obtain ⟨p,hp'⟩:=List.mem_iff_getElem?.mp hmem
    refine ⟨p,b,?_,h2⟩
    rw[Array.getElem?_toList] at hp'
    rw[ge,hp']
    exact h1
  · intro i j e hp he
    obtain ⟨kk,hh,h1,h2,h3⟩:=pth i j hp
    rw[ge,h1] at he
    have he':es[kk]?=some e:=he
    rw[Array.getElem?_map,he'] at h2
    injection h2 with h2
    rw[show e.1=hh from h2]
    exact h3
end
end WS
namespace WS
open PySem PySem.SetTable
section
variable {prog:Program} {w:World} {K:Type} [DecidableEq K] {knd:KeyKind prog w K} {h h':Heap} {a:Addr} {o:Obj} {es:Array (Int×Value)} {ep:Nat} {t t':SetTable} {ks:List (List K)}
variable {A:Around} {E:Value→Shared→Prop} {s:Shared}
theorem key_keeps {k:List K} {b:Addr} (x:IsTupleKey knd h k b) (ho:h.get? a=some o) (hd:o.data=.set es ep t) (hs:Heap.SameBut a h h') : IsTupleKey knd h' k b:=by
  obtain ⟨o',items,n,ho',hc,hd',hi⟩:=x
  have hne:b≠a:=by
    rintro rfl
    obtain rfl:o'=o:=Option.some.inj (ho'.symm.trans ho)
    rw[hd] at hd'; exact nomatch hd'
  exact ⟨o',items,n,(hs.2 b hne).trans ho',hc,hd',hi⟩
theorem hbv_plain (n:Nat) {v:Value} (hv:carriedByValue v=true) : ∃bb,hashByValue n v=pure bb:=by
  cases v with
  | ref a=>simp[carriedByValue] at hv
  | _=>cases n<;>exact ⟨_,rfl⟩
theorem hbv_tuple {k:List K} {b:Addr} {Q:Bool→Shared→Prop} (hk:IsTupleKey knd s.heap k b) (q:∀bb,Q bb s) : wpAny (model prog w) A (hashByValue 8 (.ref b)) Q E s:=by
  have hT:=hk.typeIs
  obtain ⟨o,items,n,ho,_,hd,hi⟩:=hk
  unfold hashByValue
  refine wpAny_bind (wpAny_specialOf hT F.slot_tuple_hash.lookup ?_)
  dsimp only
  refine wpAny_bind (wpAny_seqItems ho hd ?_)
  refine wpAny_bind ?_
  rw[←Array.forIn_toList]
  refine wpAny_forIn_list _ (fun rest r s'=>r.1=none∧s'=s∧∀v∈rest,carriedByValue v=true) _ ?_ ?_ _ _ ⟨rfl,rfl,hi.byValue⟩
  · rintro v rest r s' ⟨hr,rfl,hall⟩
    obtain ⟨bb,e⟩:=hbv_plain 7 (hall v List.mem_cons_self)
    rw[e]
    refine wpAny_bind (wpAny_pure ?_)
    cases bb
    · simp only[Bool.not_false,if_true]
      exact wpAny_pure (wpAny_pure (q _))
    · simp only[Bool.not_true,Bool.false_eq_true,if_false]
      exact wpAny_pure ⟨rfl,rfl,fun u hu'=>hall u (List.mem_cons_of_mem _ hu')⟩
  · rintro ⟨r1,r2⟩ s' ⟨hr,rfl,_⟩
    simp only at hr
    subst hr
    exact wpAny_pure (q _)
theorem putSet_get (ho:h.get? a=some o) (hd:o.data=.set es ep t) (es':Array (Int×Value)) (t':SetTable) : (h.update a (Obj.putSet es' t')).get? a=some { o with data:=.set es' (ep+1) t' }:=by
  have:=Heap.get?_update_self (Obj.putSet es' t') ho (by rw[putSet_of es' t' hd]; rfl)
  rw[putSet_of es' t' hd] at this; exact this
theorem relay_ok (T:Tab knd s.heap es t ks) (ho:s.heap.get? a=some o) (hd:o.data=.set es ep t) (hx:o.ExactSet) (hf:t.fits es.size=true) {wanted m:Nat} (hw:sizeAbove wanted=m+1) (hm:m∈[7,31,127,511,2047,8191]) (hl:es.size*5<m*3)
    {Q:Unit→Shared→Prop} (q:∀h' o' es' ep' t',Heap.SameBut a s.heap h'→TSet knd h' a o' es' ep' t' ks→Q () { s with heap:=h' }) : wpAny (model prog w) A (setRelay a wanted) Q E s:=by
  obtain ⟨t',order,e1,e2,T',em⟩:=T.relay hw hm (by lia)
  have hm8:m≤8191:=by
    simp only[List.mem_cons,List.not_mem_nil,or_false] at hm
    lia
  have hsl:(8192:Nat)≤sizeLine:=by rw[sizeLine_eq]; decide
  unfold setRelay
  refine wpAny_bind (wpAny_setState_of ho hd hf ?_)
  dsimp only
  rw[if_neg (by rw[hw]; lia),e1]
  refine wpAny_bind ?_
  show wpAny _ _ (do
    if (order.filterMap (es[·]?)).size != es.size then unsupported "internal:set-table-lost-an-element"
    pure (order.filterMap (es[·]?),t')) _ _ _
  rw[if_neg (by rw[e2]; simp)]
  refine wpAny_pure ?_
  dsimp only
  refine wpAny_storeSet_of ho hd ?_ (by rw[e2]; lia)
  have hsb:=Heap.SameBut.update s.heap a (Obj.putSet (order.filterMap (es[·]?)) t')
  refine q _ { o with data:=.set (order.filterMap (es[·]?)) (ep+1) t' } (order.filterMap (es[·]?)) (ep+1) t' hsb ?_
  exact { toTab:=T'.heap fun k b hb=>key_keeps hb ho hd hsb,obj:=putSet_get ho hd _ _,dat:=rfl,exa:=hx,room:=by rw[T'.siz,e2,em]; exact hl }
theorem mask_step {n m:Nat} (hm:m∈[7,31,127,511,2047,8191]) (h1:n*5<m*3) (h2:(n+1)*5≥m*3) (h3:n<4900) : ∃m',sizeAbove (grown (n+1))=m'+1∧m'∈[7,31,127,511,2047,8191]∧(n+1)*5<m'*3:=by
  simp only[List.mem_cons,List.not_mem_nil,or_false] at hm
  rcases hm with e | e | e | e | e | e<;>subst e
  · obtain rfl : n = 4 := by lia
    exact ⟨31,by decide,by decide,by decide⟩
  · obtain rfl : n = 18 := by lia
    exact ⟨127,by decide,by decide,by decide⟩
  · obtain rfl : n = 76 := by lia
    exact ⟨511,by decide,by decide,by decide⟩
  · obtain rfl : n = 306 := by lia
    exact ⟨2047,by decide,by decide,by decide⟩
  · obtain rfl : n = 1228 := by lia
    exact ⟨8191,by decide,by decide,by decide⟩
  · lia
theorem add_hashed (T:TSet knd s.heap a o es ep t ks) {kk:List K} {b:Addr} (hu:A.units<cLine) (hb:IsTupleKey knd s.heap kk b) (hn:ks.length<4900) {Q:Bool→Shared→Prop}
    (q:∀h' o' es' ep' t' r,Heap.SameBut a s.heap h'→TSet knd h' a o' es' ep' t' (if kk∈ks then ks else kk::ks)→Q r { s with heap:=h' }) :
    wpAny (model prog w) A (setAddHashed a (.ref b) (tupleKeyHash knd kk)) Q E s:=by
  have hsl:(8192:Nat)≤sizeLine:=by rw[sizeLine_eq]; decide
  obtain ⟨k,_,hm⟩:=T.pow
  obtain ⟨j0,hj0,hs0⟩:=T.empty_slot
  obtain ⟨KK,hK0,hK,hK'⟩:=first_empty T.plc hm hj0 hs0 (tupleKeyHash knd kk)
  have hm8:t.mask≤8191:=by
    have:=T.msk
    simp only[List.mem_cons,List.not_mem_nil,or_false] at this
    lia
  unfold setAddHashed setAddHashedIn
  refine wpAny_holding (wpAny_bind (wpAny_setState_of T.obj T.dat T.fits ?_))
  dsimp only
  rw[if_neg (by simp[byScan,Value.scannable])]
  refine wpAny_bind ?_
  unfold setSearch
  refine search_from T hu hb hK hK' (fun hmem=>?_) (fun hmem=>?_) 100000 0 none rfl (Nat.zero_le _) (by unfold turns at hK0; lia) (fun q hq=>absurd hq (Nat.not_lt_zero _))
  · dsimp only
    have:=q s.heap o es ep t false (Heap.SameBut.refl a s.heap) (by rw[if_pos hmem]; exact T)
    exact wpAny_pure this
  · dsimp only
    refine wpAny_bind (wpAny_setState_of T.obj T.dat T.fits ?_)
    dsimp only
    rw[if_neg hmem] at q
    have T1:=T.toTab.put hb hmem hK hK'
    generalize hj:(stN t (tupleKeyHash knd kk) KK).j=j at *
    generalize hput:t.put j=pt at *
    obtain ⟨t1,p⟩:=pt
    dsimp only at T1 ⊢
    have hmask:t1.mask=t.mask:=by
      have:=congrArg (fun z=>z.1.mask) hput
      rw[put_is T.plc] at this
      exact this.symm
    have hsz:=T1.num
    rw[List.length_cons,T.num] at hsz
    have main:∀bb:Bool,wpAny (model prog w) A (do
        storeSet a (insertAt es p (tupleKeyHash knd kk,Value.ref b)) (if bb=true then t1 else { t1 with plain:=false })
        if (!false && (if bb=true then t1 else { t1 with plain:=false }).tooFull)=true then do
          setRelay a (grown (es.size+1))
          pure true
        else pure true) Q E s:=fun bb=>by
      have T2:Tab knd s.heap (insertAt es p (tupleKeyHash knd kk,Value.ref b)) (if bb=true then t1 else { t1 with plain:=false }) (kk::ks):=by
        cases bb
        · exact T1.same rfl rfl rfl
        · exact T1
      have em2:(if bb=true then t1 else { t1 with plain:=false }).mask=t.mask:=by
        rw[←hmask]
        cases bb<;>rfl
      generalize (if bb=true then t1 else { t1 with plain:=false })=t2 at *
      have hr:=T.room
      have hsi:=T.siz
      have hnum:=T.num
      have s2:=T2.siz
      refine wpAny_bind (wpAny_storeSet_of T.obj T.dat ?_ (by rw[←hsz]; lia))
      have hsb:=Heap.SameBut.update s.heap a (Obj.putSet (insertAt es p (tupleKeyHash knd kk,Value.ref b)) t2)
      have T3:=T2.heap (h':=s.heap.update a (Obj.putSet (insertAt es p (tupleKeyHash knd kk,Value.ref b)) t2)) fun k b' hb'=>key_keeps hb' T.obj T.dat hsb
      have hget:=putSet_get T.obj T.dat (insertAt es p (tupleKeyHash knd kk,Value.ref b)) t2
      have hfill:t2.fill=es.size+1:=by
        unfold SetTable.fill
        rw[T2.plc.nod,s2,←hsz]
        rfl
      by_cases hfull:t2.tooFull=true
      · rw [hfull, if_pos (by decide)]
        have hge:(es.size+1)*5≥t.mask*3:=by
          unfold SetTable.tooFull at hfull
          rw[hfill,em2,decide_eq_true_eq] at hfull
          exact hfull
        obtain ⟨m',w1,w2,w3⟩:=mask_step T.msk (by rw[←hsi]; exact hr) hge (by lia)
        refine wpAny_bind (relay_ok (s:={ s with heap:=s.heap.update a (Obj.putSet (insertAt es p (tupleKeyHash knd kk,Value.ref b)) t2) }) T3 hget rfl T.exa ?_ w1 w2 (by rw[←hsz]; exact w3) fun h' o' es' ep' t' sb' T'=>?_)
        · unfold SetTable.fits
          rw[Bool.and_eq_true,beq_iff_eq,decide_eq_true_eq]
          refine ⟨s2,?_⟩
          rw[hfill,em2]
          have:=T.msk
          simp only[List.mem_cons,List.not_mem_nil,or_false] at this
          lia
        · exact wpAny_pure (q h' o' es' ep' t' true (hsb.trans sb') T')
      · rw [if_neg (by simpa using hfull)]
        refine wpAny_pure (q _ _ _ _ t2 true hsb { toTab:=T3,obj:=hget,dat:=rfl,exa:=T.exa,room:=?_ })
        unfold SetTable.tooFull at hfull
        rw[decide_eq_true_eq,hfill,em2] at hfull
        rw[s2,←hsz,em2]
        lia
    split
    · exact wpAny_bind (hbv_tuple hb fun bb=>main bb)
    · exact wpAny_bind (wpAny_pure (main true))
theorem add_tuple (T:TSet knd s.heap a o es ep t ks) {kk:List K} {b:Addr} (hu:A.units<cLine) (hb:IsTupleKey knd s.heap kk b) (hn:ks.length<4900) {Q:Bool→Shared→Prop}
    (q:∀h' o' es' ep' t' r,Heap.SameBut a s.heap h'→TSet knd h' a o' es' ep' t' (if kk∈ks then ks else kk::ks)→Q r { s with heap:=h',toks:=s.toks+(kk.length+1) }) :
    wpAny (model prog w) A (setAdd a (.ref b)) Q E s:=by
  unfold setAdd
  refine wpAny_holding (wpAny_bind (wpAny_pyHash_tuple hu hb ?_))
  exact add_hashed (s:={ s with toks:=s.toks+(kk.length+1) }) T hu hb hn fun h' o' es' ep' t' r sb T'=>q h' o' es' ep' t' r sb T'
end
end WS
namespace WS
open PySem PySem.SetTable
def seenL {α:Type} [DecidableEq α] (val:Nat→α) : Nat→List α
  | 0=>[]
  | i+1=>if val i∈seenL val i then seenL val i else val i::seenL val i
theorem seenL_le {α:Type} [DecidableEq α] (val:Nat→α) : ∀i,(seenL val i).length≤i
  | 0=>Nat.le_refl _
  | i+1=>by
    have:=seenL_le val i
    unfold seenL
    split
    · lia
    · rw[List.length_cons]; lia
section
variable {prog:Program} {w:World} {K:Type} [DecidableEq K] {knd:KeyKind prog w K} {A:Around} {R:Result→Shared→Prop} {I:Addr} {fp wr:List Addr} {G:Array GenState→Array GenState→Prop} {n:Nat} {P:Nat→Value→Prop} {St:Nat→Shared→Prop}
def SetAt (knd:KeyKind prog w K) (h:Heap) (a:Addr) (ks:List (List K)) : Prop:=∃o es ep t,TSet knd h a o es ep t ks
theorem SetAt.keep {h h':Heap} {a:Addr} {ks:List (List K)} (x:SetAt knd h a ks) (hs:∀o,h.get? a=some o→h'.get? a=some o) (hk:∀k b,IsTupleKey knd h k b→IsTupleKey knd h' k b) : SetAt knd h' a ks:=by
  obtain ⟨o,es,ep,t,T⟩:=x
  exact ⟨o,es,ep,t,{ toTab:=T.toTab.heap hk,obj:=hs _ T.obj,dat:=T.dat,exa:=T.exa,room:=T.room }⟩
theorem key_at {h h':Heap} {k:List K} {b:Addr} (x:IsTupleKey knd h k b) (hs:∀o,h.get? b=some o→h'.get? b=some o) : IsTupleKey knd h' k b:=by
  obtain ⟨o,items,m,ho,r⟩:=x
  exact ⟨o,items,m,hs o ho,r⟩
theorem set_loop (W:WalksS prog w A.in1 I fp wr G n P St) (S:Addr) (hSf:S∉fp) (hu:A.units+1<cLine)
    (val:Nat→List K) (hb:n≤4900) (hno:∀s' i',i'≤n→St i' s'→∀kk b,IsTupleKey knd s'.heap kk b→b∉wr) :
    ∀(k i:Nat) (s:Shared),n - i=k→i≤n→St i s→SetAt knd s.heap S (seenL val i) →
      (∀j v,i≤j→j<n→P j v→∃b,v=.ref b∧b∉wr∧b≠S∧IsTupleKey knd s.heap (val j) b) →
      (∀s',Moved (S::wr) G s s'→SetAt knd s'.heap S (seenL val n)→R (.ok (.ret .none)) s') →
      codeAny (model prog w) A (.builtin "set.update.loop" ⟨[.ref S,.ref I],[]⟩) R s:=by
  have hSw:S∉wr:=fun h=>hSf (W.sub _ h)
  have hsub:∀b∈wr,b∈S::wr:=fun b hb=>List.mem_cons_of_mem _ hb
  intro k
  induction k with
  | zero =>
    intro i s hk hi hst hS hkeys hR
    have hin:i=n:=by lia
    subst hin
    refine codeAny_builtin PyProof.Rows.F.entry_set_update_loop ?_
    rw[Around.under_plainId PyProof.Rows.F.plain_set_update_loop _]
    show wpAny _ A.in1 (pyNext (.ref I) >>= _) _ _ s
    refine wpAny_bind (W.done s _ _ hst fun s' hm=>?_)
    show wpAny _ A.in1 (ret Value.none) _ _ s'
    exact wpAny_pure (hR s' (hm.mono hsub) (hS.keep (fun o ho=>hm.heap S o hSw ho) fun kk b x=>key_at x fun o ho=>hm.heap b o (hno s i hi hst kk b x) ho))
  | succ k ih =>
    intro i s hk hi hst hS hkeys hR
    have hlt:i<n:=by lia
    refine codeAny_builtin PyProof.Rows.F.entry_set_update_loop ?_
    rw[Around.under_plainId PyProof.Rows.F.plain_set_update_loop _]
    show wpAny _ A.in1 (pyNext (.ref I) >>= _) _ _ s
    refine wpAny_bind (W.item i s _ _ hlt hst fun v s' hP hst' hm=>?_)
    obtain ⟨b,rfl,hbw,hbS,hkey⟩:=hkeys i v (Nat.le_refl _) hlt hP
    have hS':=hS.keep (h':=s'.heap) (fun o ho=>hm.heap S o hSw ho) fun kk b x=>key_at x fun o ho=>hm.heap b o (hno s i hi hst kk b x) ho
    obtain ⟨o,es,ep,t,T⟩:=hS'
    have hkey':IsTupleKey knd s'.heap (val i) b:=key_at hkey fun o ho=>hm.heap b o hbw ho
    show wpAny _ A.in1 (holding [Value.ref b] (setAdd S (.ref b)) >>= _) _ _ s'
    refine wpAny_bind (wpAny_holding ?_)
    refine add_tuple T hu hkey' (by have:=seenL_le val i; lia) fun h' o' es' ep' t' r hsb T'=>?_
    have hset:SetAt knd h' S (seenL val (i+1)):=⟨o',es',ep',t',by
      rw[seenL]
      by_cases c:val i∈seenL val i
      · rw[if_pos c] at T' ⊢
        exact T'
      · rw[if_neg c] at T' ⊢
        exact T'⟩
    refine wpAny_pure ⟨plainId_quiet PyProof.Rows.F.plain_set_update_loop _,ih (i+1) _ (by lia) hlt (W.frame _ s' _ _ hst' (by lia) fun b hb o e=>?_) hset (fun j v hj1 hj2 hPj=>?_) fun s'' hm'' hS''=>?_⟩
    · rw[hsb.2 b (fun h:b=S=>hSf (by rw[←h]; exact hb))]; exact e
    · obtain ⟨b2, rfl, hbw2, hbS2, hkey2⟩ := hkeys j v (by lia) hj2 hPj
      exact ⟨b2,rfl,hbw2,hbS2,key_at hkey2 fun o ho=>(hsb.2 b2 hbS2).trans (hm.heap b2 o hbw2 ho)⟩
    · refine hR s'' (Moved.trans W.gtrans ((hm.mono hsub).then_heap (by lia) fun b o hb e => ?_) hm'') hS''
      rw[hsb.2 b (fun h:b=S=>hb (by rw[h]; exact List.mem_cons_self))]; exact e
theorem set_fresh (h:Heap) (a:Addr) (led:Bool) (ho:h.get? a=some { cls:=.type "set",dict:=none,data:=.set #[] 0 (.fresh 0 0 led) }) : SetAt knd h a []:=by
  refine ⟨_,#[],0,.fresh 0 0 led,{ obj:=ho,dat:=rfl,exa:=⟨rfl,rfl,rfl⟩,room:=by show 0*5<7*3; decide,plc:=⟨fun a b _ hb=>absurd hb (Nat.not_lt_zero _),rfl⟩,siz:=rfl,msk:=.head _,le:=fun i j z=>?_,num:=rfl,nod:=.nil,ent:=fun i e z=>?_,has:=fun k hk=>(nomatch hk),path:=fun i j e z=>?_ }⟩
  · exact absurd z (by show ¬(#[] : Array Nat)[i]?=some j; simp)
  · exact absurd z (by simp)
  · exact absurd z (by show ¬(#[] : Array Nat)[i]?=some j; simp)
end
section
variable {prog:Program} {w:World} {K:Type} [DecidableEq K] {knd:KeyKind prog w K} {A:Around} {E:Value→Shared→Prop} {s:Shared}
set_option maxHeartbeats 3200000 in
theorem call_set_tuples {l:Addr} {items:Array Value} (val:Nat→List K) {Q:Value→Shared→Prop}
    (hh:A.handled=none) (hu:A.units+8<cLine) (hl:s.heap.IsList l items) (hi:∀j v,items[j]?=some v→∃b,v=.ref b∧IsTupleKey knd s.heap (val j) b) (hb:items.size≤4900)
    (h:∀(h':Heap) (tk:Nat),SetAt knd h' s.heap.objs.size (seenL val items.size)→(∀b o,b<s.heap.objs.size→s.heap.get? b=some o→h'.get? b=some o)→Q (.ref s.heap.objs.size) { s with heap:=h',toks:=tk }) :
    wpAny (model prog w) A (call (.type "set") [.ref l]) Q E s:=by
  obtain ⟨c,tl,hmro⟩:=F.called_set.mro
  have hmade:=F.called_set.made
  have hsub:=F.called_set.sub
  refine wpAny_call (codeAny_of_tree ?_)
  show wpAny _ _ (callAny (.type "set") _) _ _ _
  refine wpAny_pure ⟨Code.quiet_builtin _ (by decide +kernel),codeAny_builtin F.entry_type_call ?_⟩
  rw[Around.under_plain (weight_type_call_type "set" [.ref l] []) rfl]
  have h1:=F.called_set.notType
  have h2:=F.called_set.canCreate
  have hct:=F.typeCall_set_1 (.ref l)
  repeat (any_goals (first | assumption | wp_step))
  refine codeAny_mono (code_set_new_1 (.ref l) (E:=E) (Q₁:=fun obj s₁=>∃led:Bool,obj=.ref s.heap.objs.size∧s₁ = { s with heap:=s.heap.push { cls:=.type "set",dict:=none,data:=.set #[] 0 (.fresh 0 0 led) } }) fun led=>⟨led,rfl,rfl⟩) fun r s₁ hr=>?_
  cases r with
  | error e=>exact hr
  | ok fl =>
    cases fl with
    | ret obj =>
      obtain ⟨led,rfl,rfl⟩:=hr
      have hS:(s.heap.push { cls:=.type "set",dict:=none,data:=.set #[] 0 (.fresh 0 0 led) }).get? s.heap.objs.size=some { cls:=.type "set",dict:=none,data:=.set #[] 0 (.fresh 0 0 led) }:=Heap.get?_push_size _ rfl
      have hT:Shared.TypeIs { s with heap:=s.heap.push { cls:=.type "set",dict:=none,data:=.set #[] 0 (.fresh 0 0 led) } } (.ref s.heap.objs.size) "set":=⟨_,hS,rfl⟩
      have hli:=F.called_set.init.lookup
      have hbi:=F.called_set.init.bind (.ref s.heap.objs.size)
      repeat (any_goals (first | assumption | wp_step))
      refine codeAny_mono (codeAny_call_builtin (R:=wants (fun r s₂=>r=.none∧∃h' tk,s₂ = { s with heap:=h',toks:=tk }∧SetAt knd h' s.heap.objs.size (seenL val items.size) ∧
          (∀b o,b<s.heap.objs.size→s.heap.get? b=some o→h'.get? b=some o)) E) F.called_set.init.plain F.entry_set_init (check_set_init_1 hT ?_)) fun r₂ s₂ hr₂=>?_
      · obtain ⟨ol,hol,hcl,nl,hdl⟩:=hl
        obtain ⟨ocls,odict,odata,oslots⟩:=ol
        simp only at hcl hdl
        subst hcl; subst hdl
        have hol':(s.heap.push { cls:=.type "set",dict:=none,data:=.set #[] 0 (.fresh 0 0 led) }).get? l=some { cls:=.type "list",dict:=odict,data:=.seq items nl,slots:=oslots }:=Heap.get?_push_of_some _ hol
        have hsls:=F.sub_list_set
        have hslf:=F.sub_list_frozenset
        have hne:(Value.type "list" == Value.type "dict")=false:=by decide
        have hl1:(s.heap.push { cls:=.type "set",dict:=none,data:=.set #[] 0 (.fresh 0 0 led) }).IsList l items:=⟨_,hol',rfl,nl,rfl⟩
        unfold Builtin.«set.__init__» noKeywords Builtin.Frozenset.updateFrom
        generalize hPI:pyIter=PI
        wp_walk
        subst hPI
        refine wpAny_pyIter_list hl1 ?_
        refine wpAny_bind (wpAny_runValue ?_)
        have hlS:l<s.heap.objs.size:=Heap.lt_size hol
        have hh3:A.in1.in1.in1.handled=none:=by simp[hh]
        have hneI:l≠(s.heap.push { cls:=.type "set",dict:=none,data:=.set #[] 0 (.fresh 0 0 led) }).objs.size:=by
          rw[Heap.size_push]; exact Nat.ne_of_lt (Nat.lt_succ_of_lt hlS)
        have hSf:s.heap.objs.size∉[(s.heap.push { cls:=.type "set",dict:=none,data:=.set #[] 0 (.fresh 0 0 led) }).objs.size,l]:=by
          rw[Heap.size_push]; simp only[List.mem_cons,List.mem_singleton,List.not_mem_nil,or_false,not_or]
          exact ⟨Nat.ne_of_lt (Nat.lt_succ_self _),Nat.ne_of_gt hlS⟩
        refine set_loop (knd:=knd) ((Walks.list hh3 _ l hneI items).toS) s.heap.objs.size hSf ?hU val hb ?hNo (items.size - 0) 0 _ (by lia) (Nat.zero_le _)
          ⟨⟨_,Heap.get?_push_size _ rfl,rfl,rfl⟩,(hl1.push _)⟩ (set_fresh _ _ led (Heap.get?_push_of_some _ hS)) ?hK ?hR
        case hU=>show A.units+1+1+1<cLine; lia
        case hNo =>
          intro s' i' _ hst kk b x hm
          obtain ⟨o,its,m,ho,hc,hd,_⟩:=x
          rw[List.mem_singleton] at hm
          subst hm
          obtain ⟨⟨o2,e1,e2,e3⟩,_⟩:=hst
          rw[ho] at e1
          cases e1
          rw[hc] at e2
          exact absurd e2 (by decide)
        case hK =>
          intro j v _ _ hv
          obtain ⟨b,rfl,hb'⟩:=hi j v hv
          have hlt:b<s.heap.objs.size:=by obtain ⟨o,_,_,ho,_⟩:=hb'; exact Heap.lt_size ho
          refine ⟨b,rfl,?_,Nat.ne_of_lt hlt,key_at hb' fun o ho=>Heap.get?_push_of_some _ (Heap.get?_push_of_some _ ho)⟩
          rw[List.mem_singleton,Heap.size_push]
          exact Nat.ne_of_lt (Nat.lt_succ_of_lt hlt)
        case hR =>
          intro s' hm hS'
          obtain ⟨h',g',d',tk',os'⟩:=s'
          have eg:g'=s.gens:=hm.gens
          have ed:d'=s.drawn:=hm.drawn
          have eo:os'=s.os:=hm.os
          subst eg; subst ed; subst eo
          show wpAny _ _ _ _ _ _
          refine wpAny_pure ?_
          show wpAny _ _ (ret Value.none) _ _ _
          refine wpAny_pure ⟨rfl,h',tk',rfl,hS',fun b o hb e=>?_⟩
          have hb1:b≠s.heap.objs.size:=Nat.ne_of_lt hb
          have hb2:b≠(s.heap.push { cls:=.type "set",dict:=none,data:=.set #[] 0 (.fresh 0 0 led) }).objs.size:=by
            rw[Heap.size_push]; exact Nat.ne_of_lt (Nat.lt_succ_of_lt hb)
          exact hm.heap b o (by simp only[List.mem_cons,List.mem_singleton,List.not_mem_nil,or_false,not_or]; exact ⟨hb1,hb2⟩) (Heap.get?_push_of_some _ (Heap.get?_push_of_some _ e))
      · cases r₂ with
        | error e=>exact hr₂
        | ok fl₂ =>
          cases fl₂ with
          | ret r =>
            obtain ⟨rfl,h',tk,rfl,hS',hk'⟩:=hr₂
            repeat (any_goals (first | assumption | wp_step))
            exact h _ _ hS' hk'
          | _=>exact hr₂.elim
    | _=>exact hr.elim
theorem len_tuples {a:Addr} {ks:List (List K)} {Q:Value→Shared→Prop} (x:SetAt knd s.heap a ks) (hz:ks.length≤4900) (h:∀t tk,Q (.int ks.length t) { s with toks:=tk }) : wpAny (model prog w) A (call (.builtin "len") [.ref a]) Q E s:=by
  obtain ⟨o,es,ep,t,T⟩:=x
  have e:=T.num
  refine call_len_set T.obj T.exa T.dat T.fits ?_ ?_
  · rw[←e]
    have:(2:Int) ^ 63=9223372036854775808:=by decide
    lia
  · rw[←e]
    exact h _ _
end
end WS
namespace WS
theorem seenL_map {α β:Type} [DecidableEq α] [DecidableEq β] (f:α→β) (hf:∀x y,f x=f y→x=y) (val:Nat→α) : ∀i,seenL (fun j=>f (val j)) i=(seenL val i).map f
  | 0=>rfl
  | i+1=>by
    have e:(f (val i)∈(seenL val i).map f)↔val i∈seenL val i:=by
      rw[List.mem_map]
      exact ⟨fun ⟨y,h1,h2⟩=>hf _ _ h2 ▸ h1,fun h=>⟨_,h,rfl⟩⟩
    rw[seenL,seenL,seenL_map f hf val i]
    by_cases c:val i∈seenL val i
    · rw[if_pos c,if_pos (e.mpr c)]
    · rw[if_neg c,if_neg (fun z=>c (e.mp z)),List.map_cons]
theorem seenL_congr {α:Type} [DecidableEq α] {f g:Nat→α} : ∀n,(∀i,i<n→f i=g i)→seenL f n=seenL g n
  | 0,_=>rfl
  | n+1,h=>by
    rw[seenL,seenL,seenL_congr n fun i hi=>h i (by lia),h n (by lia)]
def dist {α:Type} [DecidableEq α] [Inhabited α] (xs:List α) : Nat:=(seenL (fun i=>xs.getD i default) xs.length).length
end WS
namespace L2
open PySem PySem.Spec PyProof.Rows
section
variable {X:Cx} {l:Expr} {p pos p2 pos2:Pos} {ta:TA}
def tLenSet (K:PySem.W.Frag) (t:TA) : TE:=fun σ H Q=>t σ H fun vs H1=>∃a xs kss,vs = [.ref a]∧H1 a=some (.lst xs)∧Paired (fun v ks=>∃b,v=V.ref b∧SqT K H1 b (ks.map kV)) xs kss∧xs.length≤4900∧Q (.int (WS.seenL (fun i=>kss.getD i []) kss.length).length) H1
theorem pe_lenset {n:Nat} (hr:Room n X.A) (hc:X.calm=true) (hg:Gl X "len") (hm:X.mg "len" = none) (hgl:Gl X "set") (hml:X.mg "set" = none) (ha:PA X [l] ta) (hs:starEach [l] X.env = [(false,eval l X.env)]:=by rfl)
    (he:starEach [.Call (.Name "set" p2) [l] [] pos2] X.env = [(false,eval (.Call (.Name "set" p2) [l] [] pos2) X.env)]:=by rfl) :
    PE X (.Call (.Name "len" p) [.Call (.Name "set" p2) [l] [] pos2] [] pos) (tLenSet X.K ta):=by
  intro pins s σ H Q I h
  refine wpAny_Call_Name_kw (ld_blt I hg hm PySem.boot_len ?_ (by decide) (by decide))
  refine PyProof.Rows.callWith_builtin1 ?_ he rfl
  rw[he]
  show wpAny _ _ (spliced [(false,eval (.Call (.Name "set" p2) [l] [] pos2) X.env)]) _ _ s
  refine Calls.spliced_cons ?_
  refine Call_ (ld_blt I hgl hml PyProof.Rows.boot_set (PyProof.Rows.callWith_type1 (thn (ha pos2 pins s σ H _ I h) fun us s1 ⟨vs,H1,I1,r1,q1⟩=>?_) hs rfl))
  obtain ⟨a,xs,kss,rfl,hx,pr,hz,q⟩:=q1
  obtain ⟨u,rfl,ru⟩:=vals1 r1
  cases ru
  obtain ⟨zx,its,m,rv,hl⟩:=I1.hok a _ hx
  have hlen:=rv.length
  have hlk:=Paired.length pr
  refine WS.call_set_tuples (knd:=mixKind X.prog X.w) (items:=its.toArray) (fun i=>kss.getD i []) (I1.ok.hd hc) (by have:=hr.units; lia) ⟨_,hl,rfl,m,rfl⟩ (fun j v hv=>?_) (by rw[List.size_toArray]; lia) fun h' tk hS hk=>?_
  · rw[List.getElem?_toArray] at hv
    have hjt:j<its.length:=(List.getElem?_eq_some_iff.mp hv).1
    have e1:=List.getElem?_eq_getElem (l:=xs) (i:=j) (by lia)
    have e2:=List.getElem?_eq_getElem (l:=kss) (i:=j) (by lia)
    obtain ⟨b,eb,hb⟩:=DL.paired_at pr j _ _ e1 e2
    have rb:=DL.paired_at rv j _ _ e1 hv
    rw[eb] at rb
    cases rb
    refine ⟨b,rfl,?_⟩
    have:=key_sq I1 hb
    rw[show kss.getD j []=kss[j]'(by lia) by rw[List.getD_eq_getElem?_getD,e2]; rfl]
    exact this
  · refine Calls.spliced_nil ?_
    rw[show its.toArray.size=kss.length by rw[List.size_toArray]; lia] at hS
    have hle:=WS.seenL_le (fun i=>kss.getD i []) kss.length
    refine WS.len_tuples (s:={ s1 with heap:=h',toks:=tk }) hS (by lia) fun t tk'=>?_
    exact ⟨.int _,H1,I1.kept (t':=tk') fun b o e=>hk b o (Heap.lt_size e) e,⟨t,rfl⟩,q⟩
end
end L2
namespace DL
open PySem L2
section
variable {X:Cx} {l:Expr} {p pos p2 pos2:Pos} {t:DTA}
def tupI (ns:List Int) : D:=.tup (ns.map D.int)
def dLenSet (t:DTA) : DT:=fun ρ Q=>t ρ fun ds=>match ds with
  | [.lst xs]=>∃nss:List (List Int),xs=nss.map tupI∧nss.length≤4900∧Q (.p (.int (WS.dist nss)))
  | _=>False
theorem keys_int (ns:List Int) : (ns.map (Sum.inl:Int→Key)).map kV=ns.map V.int:=by
  rw[List.map_map]
  rfl
theorem tup_keys {K:PySem.W.Frag} {G:Hp} : ∀{nss:List (List Int)} {us:List V},Reps K G us (nss.map tupI)→Paired (fun v ks=>∃b,v=V.ref b∧SqT K G b (ks.map kV)) us (nss.map fun ns=>ns.map (Sum.inl:Int→Key))
  | [],_,h=>by cases h; exact .nil
  | ns::nss,_,h=>by
    cases h with
    | cons h t =>
      refine .cons ?_ (tup_keys t)
      obtain ⟨b,vs,rfl,e,rr⟩:=Rep.tup_inv (show Rep K G _ (.tup (ns.map D.int)) from h)
      rw[reps_ints rr] at e
      exact ⟨b,rfl,by rw[keys_int]; exact e⟩
theorem de_lenset {n:Nat} (hr:Room n X.A) (hc:X.calm=true) (hg:Gl X "len") (hm:X.mg "len" = none) (hgl:Gl X "set") (hml:X.mg "set" = none) (ha:DA X [l] t) (hs:starEach [l] X.env = [(false,eval l X.env)]:=by rfl)
    (he:starEach [.Call (.Name "set" p2) [l] [] pos2] X.env = [(false,eval (.Call (.Name "set" p2) [l] [] pos2) X.env)]:=by rfl) :
    DE X (.Call (.Name "len" p) [.Call (.Name "set" p2) [l] [] pos2] [] pos) (dLenSet t):=
  DE.of (pe_lenset hr hc hg hm hgl hml ha.pa hs he) fun σ H Q ⟨G,ρ,P,s,re,h,k⟩=>by
    refine ⟨G,ρ,_,s,re,h,fun ds vs H1 G1 p1 l1 w1 r1=>?_⟩
    split at p1
    · obtain ⟨nss,rfl,hz,p1⟩:=p1
      obtain ⟨v,rfl,rv⟩:=reps1 r1
      obtain ⟨a,us,rfl,e,rr⟩:=rv.lst_inv
      have hl:=Paired.length rr
      rw[List.length_map] at hl
      refine ⟨a,us,nss.map fun ns=>ns.map (Sum.inl:Int→Key),rfl,w1.gh _ _ e,?_,by lia,?_⟩
      · exact Paired.imp' (fun v ks ⟨b,e1,e2⟩=>⟨b,e1,same_seqT w1.gh e2⟩) (tup_keys rr)
      · have en:(WS.seenL (fun i=>(nss.map fun ns=>ns.map (Sum.inl:Int→Key)).getD i []) (nss.map fun ns=>ns.map (Sum.inl:Int→Key)).length).length=WS.dist nss:=by
          unfold WS.dist
          have hm:=WS.seenL_map (fun ns:List Int=>ns.map (Sum.inl:Int→Key)) (fun x y h=>(List.map_inj_right fun a b h=>Sum.inl.inj h).mp h) (fun i=>nss.getD i default) nss.length
          have hm2:=congrArg List.length hm
          rw[List.length_map] at hm2
          rw[←hm2,List.length_map]
          congr 1
          refine WS.seenL_congr _ fun i hi=>?_
          rw[List.getD_eq_getElem?_getD,List.getElem?_map,List.getElem?_eq_getElem hi,List.getD_eq_getElem?_getD,List.getElem?_eq_getElem hi]
          rfl
        rw[en]
        exact k _ _ H1 G1 p1 w1 (.int _)
    · exact p1.elim
end
end DL
namespace DL
open PySem L2
def dTuple:DR:=fun ds P=>match ds with
  | [.lst xs]=>P (.p (.tup xs))
  | _=>False
end DL
namespace PySem
open PyProof.Rows
section
variable {prog:Program} {w:World} {A:Around} {E:Value→Shared→Prop} {s:Shared} {l:Addr} {xs:Array (Int×Tok)}
theorem iter_tupP {Q:Value→Shared→Prop} (hl:s.heap.IsTuple l (intItems xs)) (h:∀s₂,s₂ = { s with heap:=s.heap.push { cls:=.type "tuple_iterator",data:=.fields #[.ref l,.int 0 0] } }→s₂.heap.IsTupleIter s.heap.objs.size l 0∧s₂.heap.IsTuple l (intItems xs)→(∀b∈[s.heap.objs.size,l],b<s₂.heap.objs.size)→l≠s.heap.objs.size→Q (.ref s.heap.objs.size) s₂) : wpAny (model prog w) A (pyIter (.ref l)) Q E s:=by
  have hlt:l<s.heap.objs.size:=by obtain ⟨o,e,_⟩:=hl; exact Heap.lt_size e
  refine wpAny_pyIter_tuple hl (h _ rfl ⟨⟨_,Heap.get?_push_size _ rfl,rfl,rfl⟩,hl.push _⟩ (fun b hb=>?_) (Nat.ne_of_lt hlt))
  show b<(s.heap.push _).objs.size
  rw[Heap.size_push]
  rcases List.mem_cons.mp hb with rfl | hb
  · exact Nat.lt_succ_self _
  · rw[List.mem_singleton.mp hb]; exact Nat.lt_succ_of_lt hlt
theorem old_push {h':Heap} {o':Obj} (hk:∀b o,b∉[s.heap.objs.size]→(s.heap.push o').get? b=some o→h'.get? b=some o) : ∀b o,s.heap.get? b=some o→h'.get? b=some o:=fun b o e =>
  hk b o (fun hm=>Nat.ne_of_lt (Heap.lt_size e) (List.mem_singleton.mp hm)) (Heap.get?_push_of_some _ e)
theorem max_intTup {Q:Value→Shared→Prop} (hh:A.handled=none) (hl:s.heap.IsTuple l (intItems xs)) (hne:0<xs.size)
    (h:∀v h' tk,(intItems xs)[argBest (fun i j=>decide (numAt xs i>numAt xs j)) (xs.size - 1)]?=some v→(∀b o,s.heap.get? b=some o→h'.get? b=some o)→Q v { s with heap:=h',toks:=tk }) :
    wpAny (model prog w) A (call (.builtin "max") [.ref l]) Q E s:=by
  refine call_max_walk (iter_tupP hl fun s₂ e st hfp hlI=>?_)
  subst e
  refine ⟨_,_,_,_,_,_,_,rfl,Walks.tuple (A:=A.in1) hh _ l hlI (intItems xs),st,hfp,by simpa [intItems] using hne,CmpOf.ints_gt (numAt xs) (fun _ _=>intItems_at),fun v h' tk hP hk=>?_⟩
  exact h v h' tk (by simpa [intItems] using hP) (old_push hk)
theorem min_intTup {Q:Value→Shared→Prop} (hh:A.handled=none) (hl:s.heap.IsTuple l (intItems xs)) (hne:0<xs.size)
    (h:∀v h' tk,(intItems xs)[argBest (fun i j=>decide (numAt xs i<numAt xs j)) (xs.size - 1)]?=some v→(∀b o,s.heap.get? b=some o→h'.get? b=some o)→Q v { s with heap:=h',toks:=tk }) :
    wpAny (model prog w) A (call (.builtin "min") [.ref l]) Q E s:=by
  refine call_min_walk (iter_tupP hl fun s₂ e st hfp hlI=>?_)
  subst e
  refine ⟨_,_,_,_,_,_,_,rfl,Walks.tuple (A:=A.in1) hh _ l hlI (intItems xs),st,hfp,by simpa [intItems] using hne,CmpOf.ints_lt (numAt xs) (fun _ _=>intItems_at),fun v h' tk hP hk=>?_⟩
  exact h v h' tk (by simpa [intItems] using hP) (old_push hk)
end
end PySem
namespace L2
open PySem PySem.Spec PyProof.Rows
section
variable {X:Cx}
theorem call_maxT (hc:X.calm=true) : CallR X (.builtin "max") (fun xs H Q=>∃(p:Addr) (ns:List Int),xs = [.ref p]∧SqT X.K H p (ns.map V.int)∧ns≠[]∧∀m:Int,m∈ns→(∀n∈ns,n≤m)→Q (.int m) H):=by
  intro pins s σ H xs us Q I r h
  obtain ⟨p,ns,rfl,hp,hne,q⟩:=h
  obtain ⟨u,rfl,ru⟩:=vals1 r
  cases ru
  obtain ⟨its,rv,pl,hz⟩:=I.tuple hp
  have hi:IntsAre its ns:=intsAre_of rv
  obtain ⟨zs,e⟩:=hi.allInts.items
  have e3:zs.toList.map (·.1)=ns:=by rw[←nums_intItems,←e]; exact hi.numsOf
  have hsz:0<zs.size:=by
    have:ns.length=zs.size:=by rw[←e3]; simp
    have:ns.length≠0:=fun z=>hne (List.length_eq_zero_iff.mp z)
    lia
  refine max_intTup (I.ok.hd hc) (xs:=zs) (e ▸ pl) hsz fun v h' tk hv hk=>?_
  obtain ⟨⟨t,rfl⟩,hm⟩:=best_in hv
  refine ⟨.int _,H,I.kept hk,⟨t,rfl⟩,q _ (e3 ▸ hm) fun n hn=>?_⟩
  obtain ⟨j,hj,ej⟩:=num_of_mem (e3 ▸ hn)
  rw[←ej]
  exact (argBest_gt (numAt zs) (zs.size - 1)).2 j hj
theorem call_minT (hc:X.calm=true) : CallR X (.builtin "min") (fun xs H Q=>∃(p:Addr) (ns:List Int),xs = [.ref p]∧SqT X.K H p (ns.map V.int)∧ns≠[]∧∀m:Int,m∈ns→(∀n∈ns,m≤n)→Q (.int m) H):=by
  intro pins s σ H xs us Q I r h
  obtain ⟨p,ns,rfl,hp,hne,q⟩:=h
  obtain ⟨u,rfl,ru⟩:=vals1 r
  cases ru
  obtain ⟨its,rv,pl,hz⟩:=I.tuple hp
  have hi:IntsAre its ns:=intsAre_of rv
  obtain ⟨zs,e⟩:=hi.allInts.items
  have e3:zs.toList.map (·.1)=ns:=by rw[←nums_intItems,←e]; exact hi.numsOf
  have hsz:0<zs.size:=by
    have:ns.length=zs.size:=by rw[←e3]; simp
    have:ns.length≠0:=fun z=>hne (List.length_eq_zero_iff.mp z)
    lia
  refine min_intTup (I.ok.hd hc) (xs:=zs) (e ▸ pl) hsz fun v h' tk hv hk=>?_
  obtain ⟨⟨t,rfl⟩,hm⟩:=best_in hv
  refine ⟨.int _,H,I.kept hk,⟨t,rfl⟩,q _ (e3 ▸ hm) fun n hn=>?_⟩
  obtain ⟨j,hj,ej⟩:=num_of_mem (e3 ▸ hn)
  rw[←ej]
  exact (argBest_lt (numAt zs) (zs.size - 1)).2 j hj
end
end L2
namespace DL
open PySem L2
def dMaxT:DR:=fun ds P=>match ds with
  | [.tup xs]=>∃ns:List Int,xs=ns.map D.int∧ns≠[]∧∀m,m∈ns→(∀n∈ns,n≤m)→P (.p (.int m))
  | _=>False
def dMinT:DR:=fun ds P=>match ds with
  | [.tup xs]=>∃ns:List Int,xs=ns.map D.int∧ns≠[]∧∀m,m∈ns→(∀n∈ns,m≤n)→P (.p (.int m))
  | _=>False
theorem cd_maxT {X:Cx} (hc:X.calm=true) : CallD X (.builtin "max") dMaxT:=by
  refine ⟨_,call_maxT hc,fun H G vs ds P Q s r h k=>?_⟩
  unfold dMaxT at h
  split at h
  · obtain ⟨ns,rfl,hn,h⟩:=h
    obtain ⟨v,rfl,rv⟩:=reps1 r
    obtain ⟨a,us,rfl,e,rr⟩:=rv.tup_inv
    rw[reps_ints rr] at e
    exact ⟨a,ns,rfl,same_seqT s e,hn,fun m h1 h2=>k _ _ H G (h m h1 h2) (Wd.refl s) (.int _)⟩
  · exact h.elim
theorem cd_minT {X:Cx} (hc:X.calm=true) : CallD X (.builtin "min") dMinT:=by
  refine ⟨_,call_minT hc,fun H G vs ds P Q s r h k=>?_⟩
  unfold dMinT at h
  split at h
  · obtain ⟨ns,rfl,hn,h⟩:=h
    obtain ⟨v,rfl,rv⟩:=reps1 r
    obtain ⟨a,us,rfl,e,rr⟩:=rv.tup_inv
    rw[reps_ints rr] at e
    exact ⟨a,ns,rfl,same_seqT s e,hn,fun m h1 h2=>k _ _ H G (h m h1 h2) (Wd.refl s) (.int _)⟩
  · exact h.elim
end DL
namespace L2
open PySem PySem.Spec PyProof.Rows
section
variable {X:Cx} {tg:Expr}
end
end L2
namespace DL
open PySem L2
section
variable {X:Cx} {tg:Expr} {pos:Pos}
def diRng3 (t:DTA) : DTA:=fun ρ P=>t ρ fun ds=>match ds with
  | [.int i,.int j,.int k]=>k = -1∧(-(2 ^ 62)≤i∧i<2 ^ 62∧-(2 ^ 62)≤j∧j<2 ^ 62)∧P (downTo i (i - j).toNat)
  | _=>False
end
end DL
namespace WS
open DL
abbrev K2:=Int×Int
abbrev P5:=Int×Int×Int×Int×Int
def Bt:K2:=(-1,-1)
def gk (p:P5) : K2:=(p.1,p.2.1)
def tk5 (p:P5) : K2:=(p.2.2.1,p.2.2.2.1)
def ht (p:P5) : Int:=p.2.2.2.2
def k4 (p:P5) : List Int:=[p.1,p.2.1,p.2.2.1,p.2.2.2.1]
def d5 (p:P5) : D:=.tup [.int p.1,.int p.2.1,.int p.2.2.1,.int p.2.2.2.1,.int p.2.2.2.2]
def Keyed (kvs:KVs) : Prop:=(kvs.map (·.1)).Nodup
theorem valD_nil (k:K2) : valD [] k=none:=rfl
theorem valD_cons (p:K2×Int) (r:KVs) (k:K2) : valD (p::r) k=if p.1=k then some p.2 else valD r k:=by
  unfold valD
  rw[List.find?_cons]
  by_cases h:p.1=k
  · rw[if_pos h,decide_eq_true h]; rfl
  · rw[if_neg h,decide_eq_false h]
theorem valD_append (a b:KVs) (k:K2) : valD (a++b) k=(valD a k).or (valD b k):=by
  induction a with
  | nil=>rfl
  | cons p r ih =>
    rw[List.cons_append,valD_cons,valD_cons,ih]
    split<;>rfl
theorem valD_none {kvs:KVs} {k:K2} : valD kvs k=none↔k∉kvs.map (·.1):=by
  induction kvs with
  | nil=>simp[valD_nil]
  | cons p r ih =>
    rw[valD_cons,List.map_cons,List.mem_cons]
    by_cases h:p.1=k
    · rw[if_pos h]; simp[h]
    · rw[if_neg h,ih]
      have:¬k=p.1:=fun z=>h z.symm
      simp[this]
theorem valD_mem {kvs:KVs} (hk:Keyed kvs) {k:K2} {v:Int} : valD kvs k=some v↔(k,v)∈kvs:=by
  induction kvs with
  | nil=>simp[valD_nil]
  | cons p r ih =>
    unfold Keyed at hk ih
    rw[List.map_cons,List.nodup_cons] at hk
    rw[valD_cons,List.mem_cons]
    by_cases h:p.1=k
    · rw[if_pos h]
      constructor
      · intro z
        left
        rw[←h,←Option.some.inj z]
      · rintro (z | z)
        · rw[←z]
        · exact absurd (List.mem_map.mpr ⟨_,z,rfl⟩) (by rw[←h]; exact hk.1)
    · rw[if_neg h,ih hk.2]
      constructor
      · exact .inr
      · rintro (z | z)
        · exact absurd (by rw[←z]) h
        · exact z
theorem any_key {kvs:KVs} {k:K2} : (kvs.any fun p=>decide (p.1=k))=true↔k∈kvs.map (·.1):=by
  rw[List.any_eq_true,List.mem_map]
  constructor
  · rintro ⟨p,h1,h2⟩; exact ⟨p,h1,by simpa using h2⟩
  · rintro ⟨p,h1,h2⟩; exact ⟨p,h1,by simpa using h2⟩
theorem map_keys (kvs:KVs) (k:K2) (v:Int) : (kvs.map fun p=>if p.1=k then (p.1,v) else p).map (·.1)=kvs.map (·.1):=by
  rw[List.map_map]
  refine List.map_congr_left fun p _=>?_
  show (if p.1=k then (p.1,v) else p).1=p.1
  split<;>rfl
theorem valD_put (kvs:KVs) (k k':K2) (v:Int) : valD (putD kvs k v) k'=if k=k' then some v else valD kvs k':=by
  unfold putD
  split
  · rename_i h
    have hm:=any_key.mp h
    clear h
    induction kvs with
    | nil=>cases hm
    | cons p r ih =>
      rw[List.map_cons,valD_cons,valD_cons]
      by_cases e:p.1=k
      · rw[if_pos e]
        show (if p.1=k' then some v else _)=_
        rw[e]
        by_cases e':k=k'
        · rw[if_pos e',if_pos e']
        · rw[if_neg e',if_neg e',if_neg e']
          by_cases hr:k∈r.map (·.1)
          · rw[ih hr,if_neg e']
          · congr 1
            conv=>rhs; rw[←List.map_id r]
            refine List.map_congr_left fun q hq=>?_
            rw[if_neg (fun z=>hr (List.mem_map.mpr ⟨q,hq,z⟩))]
            rfl
      · rw[if_neg e]
        have hm':k∈r.map (·.1):=by
          rw[List.map_cons,List.mem_cons] at hm
          exact hm.resolve_left fun z=>e z.symm
        rw[ih hm']
        by_cases e':k=k'
        · rw[if_pos e',if_pos e',if_neg (fun z=>e (z.trans e'.symm))]
        · rw[if_neg e',if_neg e']
  · rename_i h
    have hm:k∉kvs.map (·.1):=fun z=>h (any_key.mpr z)
    rw[valD_append,valD_cons]
    by_cases e:k=k'
    · rw [if_pos e, if_pos e, valD_none.mpr (by rw [← e]; exact hm)]
      rfl
    · rw[if_neg e,if_neg e,valD_nil]
      cases valD kvs k'<;>rfl
theorem put_keyed {kvs:KVs} (h:Keyed kvs) (k:K2) (v:Int) : Keyed (putD kvs k v):=by
  unfold putD
  split
  · unfold Keyed
    rw[map_keys]
    exact h
  · rename_i hn
    unfold Keyed
    rw[List.map_append,List.nodup_append]
    refine ⟨h,by simp,fun a ha b hb=>?_⟩
    simp only[List.map_cons,List.map_nil,List.mem_singleton] at hb
    rw[hb]
    rintro rfl
    exact hn (any_key.mpr ha)
theorem put_len (kvs:KVs) (k:K2) (v:Int) : (putD kvs k v).length≤kvs.length+1:=by
  unfold putD
  split
  · rw[List.length_map]; lia
  · rw[List.length_append]; exact Nat.le_refl _
theorem drop_keyed {kvs:KVs} (h:Keyed kvs) (k:K2) : Keyed (dropD kvs k):=List.Nodup.sublist (List.Sublist.map _ List.filter_sublist) h
theorem valD_drop (kvs:KVs) (k k':K2) : valD (dropD kvs k) k'=if k=k' then none else valD kvs k':=by
  unfold dropD
  induction kvs with
  | nil=>rw[List.filter_nil,valD_nil]; split<;>rfl
  | cons p r ih =>
    rw[List.filter_cons]
    by_cases e:p.1=k
    · rw [if_neg (by simp [e]), ih, valD_cons]
      by_cases e':k=k'
      · rw[if_pos e',if_pos e']
      · rw[if_neg e',if_neg e',if_neg (fun z=>e' (e.symm.trans z))]
    · rw [if_pos (by simp [e]), valD_cons, valD_cons, ih]
      by_cases e':k=k'
      · rw[if_pos e',if_pos e',if_neg (fun z=>e (z.trans e'.symm))]
      · rw[if_neg e',if_neg e']
theorem same_iff {ka kb:KVs} (ha:Keyed ka) (hb:Keyed kb) : sameD ka kb=true↔∀k,valD ka k=valD kb k:=by
  unfold sameD
  rw[Bool.and_eq_true,beq_iff_eq,List.all_eq_true]
  constructor
  · rintro ⟨hl,h⟩ k
    have sub:∀x∈ka.map (·.1),x∈kb.map (·.1):=fun x hx=>by
      obtain ⟨p,hp,rfl⟩:=List.mem_map.mp hx
      have:=h p hp
      rw[beq_iff_eq] at this
      exact List.mem_map.mpr ⟨_,(valD_mem hb).mp this,rfl⟩
    cases e:valD ka k with
    | some v =>
      have:=h _ ((valD_mem ha).mp e)
      rw[beq_iff_eq] at this
      exact this.symm
    | none =>
      symm
      rw[valD_none] at e ⊢
      intro hk
      have h2:=len_sub (k::ka.map (·.1)) (kb.map (·.1)) (List.nodup_cons.mpr ⟨e,show (ka.map (·.1)).Nodup from ha⟩) (fun x hx=>by
        rcases List.mem_cons.mp hx with rfl | hx
        · exact hk
        · exact sub x hx)
      rw[List.length_cons,List.length_map,List.length_map] at h2
      lia
  · intro h
    have sub:∀{a b:KVs},(∀k,valD a k=valD b k)→∀x∈a.map (·.1),x∈b.map (·.1):=fun {a b} h x hx=>by
      refine Classical.byContradiction fun hn=>?_
      have:=valD_none.mpr hn
      rw[←h x] at this
      exact valD_none.mp this hx
    have l1:=len_sub _ _ ha (sub h)
    have l2:=len_sub _ _ hb (sub fun k=>(h k).symm)
    rw[List.length_map,List.length_map] at l1 l2
    refine ⟨by lia,fun p hp=>?_⟩
    rw[beq_iff_eq,←h]
    exact (valD_mem ha).mpr hp
abbrev Q2:=K2×Int
def totQ (k:K2) (qs:List Q2) : Int:=((qs.filter fun q=>decide (q.1=k)).map (·.2)).sum
def sumQ (k:K2) (qs:List Q2) : Option Int:=if k∈qs.map (·.1) then some (totQ k qs) else none
theorem totQ_append (k:K2) (a b:List Q2) : totQ k (a++b)=totQ k a+totQ k b:=by
  unfold totQ
  rw[List.filter_append,List.map_append,List.sum_append]
theorem totQ_not {k:K2} {qs:List Q2} (h:k∉qs.map (·.1)) : totQ k qs=0:=by
  unfold totQ
  rw[List.filter_eq_nil_iff.mpr fun q hq=>by
    rw[decide_eq_true_eq]
    exact fun e=>h (List.mem_map.mpr ⟨q,hq,e⟩)]
  rfl
theorem sumQ_getD (k:K2) (qs:List Q2) : (sumQ k qs).getD 0=totQ k qs:=by
  unfold sumQ
  split
  · rfl
  · rename_i h; rw[totQ_not h]; rfl
def accD (qs:List Q2) : KVs:=qs.foldl (fun kv q=>putD kv q.1 ((valD kv q.1).getD 0+q.2)) []
theorem accD_snoc (qs:List Q2) (q:Q2) : accD (qs++[q])=putD (accD qs) q.1 ((valD (accD qs) q.1).getD 0+q.2):=by
  unfold accD
  rw[List.foldl_append]
  rfl
theorem totQ_one (k:K2) (q:Q2) : totQ k [q]=if q.1=k then q.2 else 0:=by
  unfold totQ
  by_cases h:q.1=k
  · rw [if_pos h, List.filter_cons, if_pos (by simpa using h)]
    simp
  · rw [if_neg h, List.filter_cons, if_neg (by simpa using h)]
    rfl
theorem accD_is:∀qs:List Q2,Keyed (accD qs)∧(accD qs).length≤qs.length∧∀k,valD (accD qs) k=sumQ k qs:=by
  intro qs
  generalize hn:qs.length=n
  induction n generalizing qs with
  | zero =>
    obtain rfl:=List.length_eq_zero_iff.mp hn
    exact ⟨.nil,Nat.le_refl _,fun k=>rfl⟩
  | succ n ih =>
    obtain ⟨ini,q,rfl⟩ : ∃ini q,qs=ini++[q]:=by
      rcases List.eq_nil_or_concat qs with h | ⟨l,b,h⟩
      · rw[h] at hn; cases hn
      · exact ⟨l,b,by rw[h,List.concat_eq_append]⟩
    have hl:ini.length=n:=by rw[List.length_append] at hn; simp at hn; exact hn
    obtain ⟨h1,h2,h3⟩:=ih ini hl
    rw[accD_snoc]
    refine ⟨put_keyed h1 _ _,by have:=put_len (accD ini) q.1 ((valD (accD ini) q.1).getD 0+q.2); lia,fun k=>?_⟩
    rw[valD_put,h3,sumQ_getD,h3]
    unfold sumQ
    rw[List.map_append]
    by_cases e:q.1=k
    · rw[if_pos e,if_pos (by rw[←e]; simp),totQ_append,totQ_one,if_pos e,e]
    · rw[if_neg e,totQ_append,totQ_one,if_neg e]
      have:(k∈ini.map (·.1)++[q].map (·.1))↔k∈ini.map (·.1):=by
        rw[List.mem_append]
        exact ⟨fun z=>z.resolve_right (by simp; exact fun z=>e z.symm),.inl⟩
      by_cases hk:k∈ini.map (·.1)
      · rw[if_pos hk,if_pos (this.mpr hk)]
        congr 1
        lia
      · rw[if_neg hk,if_neg (fun z=>hk (this.mp z))]
def lo3 (s:S3) : Int:=min s.1 s.2.1
def hi3 (s:S3) : Int:=max s.1 s.2.1
def strAt (ss:List S3) (n:Int) : Option S3:=if 0≤n then ss[n.toNat]? else none
def rateAt (ss:List S3) (k:K2) : Option Int:=match strAt ss k.1 with
  | some s=>if 0<s.2.2∧lo3 s≤k.2∧k.2<hi3 s then some s.2.2 else none
  | none=>none
theorem rateAt_Bt (ss:List S3) : rateAt ss Bt=none:=rfl
theorem seenL_mem {α:Type} [DecidableEq α] (val:Nat→α) : ∀n x,x∈seenL val n↔∃i,i<n∧val i=x
  | 0,x=>⟨fun z=>(nomatch z),fun ⟨_,z,_⟩=>absurd z (Nat.not_lt_zero _)⟩
  | n+1,x=>by
    rw[seenL]
    constructor
    · intro h
      by_cases c:val n∈seenL val n
      · rw[if_pos c] at h
        obtain ⟨i,hi,e⟩:=(seenL_mem val n x).mp h
        exact ⟨i,by lia,e⟩
      · rw[if_neg c,List.mem_cons] at h
        rcases h with rfl | h
        · exact ⟨n,by lia,rfl⟩
        · obtain ⟨i,hi,e⟩:=(seenL_mem val n x).mp h
          exact ⟨i,by lia,e⟩
    · rintro ⟨i,hi,rfl⟩
      by_cases c:val n∈seenL val n
      · rw[if_pos c]
        by_cases e:i=n
        · subst e; exact c
        · exact (seenL_mem val n _).mpr ⟨i,by lia,rfl⟩
      · rw[if_neg c,List.mem_cons]
        by_cases e:i=n
        · subst e; exact .inl rfl
        · exact .inr ((seenL_mem val n _).mpr ⟨i,by lia,rfl⟩)
theorem dist_le {α:Type} [DecidableEq α] [Inhabited α] (xs:List α) : dist xs≤xs.length:=seenL_le _ _
theorem seenL_full {α:Type} [DecidableEq α] (val:Nat→α) : ∀n,(seenL val n).length=n↔∀i j,i<j→j<n→val i≠val j
  | 0=>⟨fun _ i j _ h=>absurd h (Nat.not_lt_zero _),fun _=>rfl⟩
  | n+1=>by
    have hle:=seenL_le val n
    rw[seenL]
    constructor
    · intro h i j hij hj e
      by_cases c:val n∈seenL val n
      · rw[if_pos c] at h; lia
      · rw[if_neg c,List.length_cons] at h
        by_cases ej:j=n
        · subst ej
          exact c ((seenL_mem val j _).mpr ⟨i,hij,e⟩)
        · exact (seenL_full val n).mp (by lia) i j hij (by lia) e
    · intro h
      have c:val n∉seenL val n:=fun z=>by
        obtain ⟨i,hi,e⟩:=(seenL_mem val n _).mp z
        exact h i n hi (by lia) e
      rw[if_neg c,List.length_cons,(seenL_full val n).mpr fun i j hij hj=>h i j hij (by lia)]
theorem dist_full {α:Type} [DecidableEq α] [Inhabited α] (xs:List α) : dist xs=xs.length↔xs.Nodup:=by
  unfold dist
  rw[seenL_full]
  show _↔xs.Pairwise (·≠·)
  rw[List.pairwise_iff_getElem]
  constructor
  · intro h i j hi hj hij
    have:=h i j hij hj
    rw[List.getD_eq_getElem?_getD,List.getD_eq_getElem?_getD,List.getElem?_eq_getElem hi,List.getElem?_eq_getElem hj] at this
    exact this
  · intro h i j hij hj
    have hi:i<xs.length:=by lia
    rw[List.getD_eq_getElem?_getD,List.getD_eq_getElem?_getD,List.getElem?_eq_getElem hi,List.getElem?_eq_getElem hj]
    exact h i j hi hj hij
def mayB (g:Int) (p:P5) : Bool:=decide (1≤ht p) && (if gk p=Bt∨tk5 p=Bt then decide (gk p≠tk5 p) else decide (p.2.1≥p.2.2.2.1+g))
def gq (ps:List P5) : List Q2:=ps.map fun p=>(gk p,ht p)
def tq (ps:List P5) : List Q2:=ps.map fun p=>(tk5 p,ht p)
structure Looks (g:Int) (hs cs:List S3) (ps:List P5) : Prop where
  may:∀p∈ps,mayB g p=true
  nod:(ps.map k4).Nodup
  giv:∀k,k≠Bt→sumQ k (gq ps)=rateAt hs k
  tak:∀k,k≠Bt→sumQ k (tq ps)=rateAt cs k
theorem lc_mapJ {α:Type} {xs:List α} {e:α→D} (he:∀x y,e x=e y→x=y) {g:Tg} {te:DT} {ρ:DEnv} {Q:B→Prop} (f:α→D) (hz:xs.length≤1000000) (h:∀x∈xs,g.d (e x) ρ fun ρ'=>te ρ' fun b=>some b.val=some (f x)) (q:Q (.o (.lst (xs.map f)))) : lcI (xs.map e) g dTrue te ρ Q:=by
  classical
  refine lc_mapE (fun d=>if h:∃x,e x=d then f h.choose else .non) f (fun x _=>?_) hz h q
  have hx:∃y,e y=e x:=⟨x,rfl⟩
  show (if h:∃y,e y=e x then f h.choose else .non)=f x
  rw[dif_pos hx,he _ _ hx.choose_spec]
theorem d5_inj (p q:P5) (h:d5 p=d5 q) : p=q:=by
  obtain ⟨a,b,c,d,e⟩:=p
  obtain ⟨a',b',c',d',e'⟩:=q
  unfold d5 at h
  simp only[D.tup.injEq,List.cons.injEq,D.int.injEq,and_true] at h
  obtain ⟨rfl,rfl,rfl,rfl,rfl⟩:=h
  rfl
theorem peq_pair (a b c d:Int) : peq (.tup [.int a,.int b]) (.tup [.int c,.int d])=decide (a=c∧b=d):=by
  simp only[peq,peqs]
  rw[Bool.and_true,Bool.eq_iff_iff,Bool.and_eq_true]
  simp
theorem ne_pair {a b c d:Int} {Q:B→Prop} (h:Q (.p (.bl (!decide (a=c∧b=d))))) : dNe (.tup [.int a,.int b]) (.tup [.int c,.int d]) Q:=by
  refine ⟨⟨by simp only[nos_tup,noss_cons,noss_nil,nos_int,Bool.and_true],by simp only[nos_tup,noss_cons,noss_nil,nos_int,Bool.and_true],by simp only[dep_tup,deps_cons,deps_nil,dep_int]; decide⟩,?_⟩
  rw[peq_pair]
  exact h
theorem strAt_snoc (ss:List S3) (s:S3) (n:Int) : strAt (ss++[s]) n=if n=(ss.length:Int) then some s else strAt ss n:=by
  unfold strAt
  by_cases h:0≤n
  · rw[if_pos h,if_pos h]
    by_cases e:n=(ss.length:Int)
    · rw[if_pos e,e,Int.toNat_natCast,List.getElem?_append_right (Nat.le_refl _)]
      simp
    · rw[if_neg e]
      by_cases h2:n.toNat<ss.length
      · rw[List.getElem?_append_left h2]
      · rw[List.getElem?_append_right (by lia),List.getElem?_eq_none (by simp; lia),List.getElem?_eq_none (by lia)]
  · rw[if_neg h,if_neg h,if_neg (by lia)]
theorem rateAt_snoc (ss:List S3) (s:S3) (k:K2) : rateAt (ss++[s]) k=if k.1=(ss.length:Int) then (if 0<s.2.2∧lo3 s≤k.2∧k.2<hi3 s then some s.2.2 else none) else rateAt ss k:=by
  unfold rateAt
  rw[strAt_snoc]
  by_cases e:k.1=(ss.length:Int)
  · rw[if_pos e,if_pos e]
  · rw[if_neg e,if_neg e]
theorem rateAt_out {ss:List S3} {k:K2} (h:k.1=(ss.length:Int)) : rateAt ss k=none:=by
  unfold rateAt strAt
  rw[if_pos (by lia),List.getElem?_eq_none (by lia)]
end WS
namespace WS
open DL
def Pos (ss:List S3) : Prop:=∀s∈ss,0<s.2.2
theorem strAt_some {ss:List S3} {n:Int} {s:S3} (h:strAt ss n=some s) : 0≤n∧ss[n.toNat]?=some s∧s∈ss:=by
  unfold strAt at h
  split at h
  · exact ⟨by assumption,h,List.mem_of_getElem? h⟩
  · cases h
theorem rate_at {ss:List S3} {k:K2} {r:Int} (h:rateAt ss k=some r) : ∃s,strAt ss k.1=some s∧0<s.2.2∧lo3 s≤k.2∧k.2<hi3 s∧r=s.2.2:=by
  unfold rateAt at h
  cases e:strAt ss k.1 with
  | none=>rw[e] at h; cases h
  | some s =>
    rw[e] at h
    dsimp only at h
    split at h
    · rename_i z
      exact ⟨s,rfl,z.1,z.2.1,z.2.2,(Option.some.inj h).symm⟩
    · cases h
theorem totQ_cons (k:K2) (q:Q2) (qs:List Q2) : totQ k (q::qs)=(if q.1=k then q.2 else 0)+totQ k qs:=by
  rw[←List.singleton_append,totQ_append,totQ_one]
theorem totQ_perm {k:K2} {a b:List Q2} (h:a.Perm b) : totQ k a=totQ k b:=by
  induction h with
  | nil=>rfl
  | cons x _ ih=>rw[totQ_cons,totQ_cons,ih]
  | swap x y l=>rw[totQ_cons,totQ_cons,totQ_cons,totQ_cons]; lia
  | trans _ _ h1 h2=>rw[h1,h2]
theorem sumQ_perm {k:K2} {a b:List Q2} (h:a.Perm b) : sumQ k a=sumQ k b:=by
  unfold sumQ
  rw[totQ_perm h]
  by_cases c:k∈b.map (·.1)
  · rw[if_pos c,if_pos ((h.map _).mem_iff.mpr c)]
  · rw[if_neg c,if_neg (fun z=>c ((h.map _).mem_iff.mp z))]
theorem Looks.perm {g:Int} {hs cs:List S3} {a b:List P5} (L:Looks g hs cs a) (h:b.Perm a) : Looks g hs cs b where
  may:=fun p hp=>L.may p (h.mem_iff.mp hp)
  nod:=((h.map k4).nodup_iff).mpr L.nod
  giv:=fun k hk=>by rw[←L.giv k hk]; exact sumQ_perm (h.map _)
  tak:=fun k hk=>by rw[←L.tak k hk]; exact sumQ_perm (h.map _)
theorem key_in {f:P5→K2} {p:P5} {ps:List P5} (h:p∈ps) : f p∈(ps.map fun p=>(f p,ht p)).map (·.1):=List.mem_map.mpr ⟨_,List.mem_map.mpr ⟨p,h,rfl⟩,rfl⟩
end WS
namespace WS
open DL
def hotR (n:Nat) (s:S3) : List P5:=(List.range (s.1 - s.2.1).toNat).map fun j:Nat=>((n:Int),s.2.1+(j:Int),-1,-1,s.2.2)
def coldR (n:Nat) (s:S3) : List P5:=(List.range (s.2.1 - s.1).toNat).map fun j:Nat=>(-1,-1,(n:Int),s.1+(j:Int),s.2.2)
def rowsP (f:Nat→S3→List P5) : Nat→List S3→List P5
  | _,[]=>[]
  | n,s::r=>f n s++rowsP f (n+1) r
theorem rowsP_snoc (f:Nat→S3→List P5) : ∀(ss:List S3) (n:Nat) (s:S3),rowsP f n (ss++[s])=rowsP f n ss++f (n+ss.length) s
  | [],n,s=>by simp[rowsP]
  | a::ss,n,s=>by
    rw[List.cons_append]
    unfold rowsP
    rw[rowsP_snoc f ss (n+1) s,List.append_assoc,List.length_cons,show n+1+ss.length=n+(ss.length+1) by lia]
def rowQ (n:Nat) (lo r:Int) (m:Nat) : List Q2:=(List.range m).map fun j:Nat=>(((n:Int),lo+(j:Int)),r)
theorem rowQ_succ (n:Nat) (lo r:Int) (m:Nat) : rowQ n lo r (m+1)=rowQ n lo r m++[(((n:Int),lo+(m:Int)),r)]:=by unfold rowQ; rw[List.range_succ,List.map_append]; rfl
theorem rowQ_tot (n:Nat) (lo r:Int) (k:K2) : ∀m:Nat,totQ k (rowQ n lo r m)=if k.1=(n:Int)∧lo≤k.2∧k.2<lo+(m:Int) then r else 0
  | 0=>by rw[if_neg (by lia)]; rfl
  | m+1=>by
    obtain ⟨a,b⟩:=k
    rw[rowQ_succ,totQ_append,totQ_one,rowQ_tot n lo r _ m]
    dsimp only
    by_cases c:((n:Int),lo+(m:Int))=(a,b)
    · have c':=Prod.mk.inj c
      rw[if_pos c,if_neg (by lia),if_pos (by lia)]
      lia
    · have c' : ¬ ((n : Int) = a ∧ lo + (m : Int) = b) := fun z => c (by rw [z.1, z.2])
      rw[if_neg c]
      by_cases c2:a=(n:Int)∧lo≤b∧b<lo+(m:Int)
      · rw[if_pos c2,if_pos (by lia)]; lia
      · rw[if_neg c2,if_neg (by lia)]; rfl
theorem rowQ_key {n:Nat} {lo r:Int} {m:Nat} {k:K2} : k∈(rowQ n lo r m).map (·.1)↔k.1=(n:Int)∧lo≤k.2∧k.2<lo+(m:Int):=by
  unfold rowQ
  rw[List.map_map,List.mem_map]
  constructor
  · rintro ⟨j,hj,rfl⟩
    have:=List.mem_range.mp hj
    refine ⟨rfl,?_,?_⟩
    · show lo≤lo+(j:Int); lia
    · show lo+(j:Int)<lo+(m:Int); lia
  · rintro ⟨h1,h2,h3⟩
    refine ⟨(k.2 - lo).toNat,List.mem_range.mpr (by lia),?_⟩
    show ((n:Int),lo+((k.2 - lo).toNat:Int))=k
    rw[←h1,Int.toNat_of_nonneg (by lia),show lo+(k.2 - lo)=k.2 by lia]
theorem sumQ_app {k:K2} {a b:List Q2} : sumQ k (a++b)=if k∈b.map (·.1) then some (totQ k a+totQ k b) else sumQ k a:=by
  unfold sumQ
  rw[List.map_append,totQ_append]
  by_cases h:k∈b.map (·.1)
  · rw[if_pos h,if_pos (List.mem_append_right _ h)]
  · rw[if_neg h,totQ_not h]
    by_cases h2:k∈a.map (·.1)
    · rw[if_pos h2,if_pos (List.mem_append_left _ h2)]
      congr 1
      lia
    · rw[if_neg h2,if_neg (fun z=>(List.mem_append.mp z).elim h2 h)]
theorem rows_rate (f:P5→K2) (row:Nat→S3→List P5) (Ok:S3→Prop) (hrow:∀n s,Ok s→(row n s).map (fun p=>(f p,ht p))=rowQ n (lo3 s) s.2.2 (hi3 s - lo3 s).toNat) (hok:∀s,Ok s→0<s.2.2∧lo3 s≤hi3 s) :
    ∀ss:List S3,(∀s∈ss,Ok s)→∀k,sumQ k ((rowsP row 0 ss).map fun p=>(f p,ht p))=rateAt ss k:=by
  intro ss
  generalize hn:ss.length=n
  induction n generalizing ss with
  | zero =>
    intro _ k
    obtain rfl:=List.length_eq_zero_iff.mp hn
    unfold rateAt strAt
    split
    · rename_i s h; split at h<;>cases h
    · rfl
  | succ n ih =>
    intro ho k
    obtain ⟨ini,s,rfl⟩ : ∃ini q,ss=ini++[q]:=by
      rcases List.eq_nil_or_concat ss with h | ⟨l,b,h⟩
      · rw[h] at hn; cases hn
      · exact ⟨l,b,by rw[h,List.concat_eq_append]⟩
    have hl:ini.length=n:=by rw[List.length_append] at hn; simp at hn; exact hn
    have h1:=ih ini hl (fun s hs=>ho s (List.mem_append_left _ hs)) k
    have os:=ho s (by simp)
    obtain ⟨o1,o2⟩:=hok s os
    rw[rowsP_snoc,List.map_append,sumQ_app,hrow _ _ os,Nat.zero_add,rateAt_snoc,h1]
    by_cases c:k.1=(ini.length:Int)
    · rw[if_pos c]
      have hz:totQ k ((rowsP row 0 ini).map fun p=>(f p,ht p))=0:=by
        rw[←sumQ_getD,h1,rateAt_out c]; rfl
      by_cases c2:lo3 s≤k.2∧k.2<hi3 s
      · rw [if_pos (rowQ_key.mpr ⟨c, c2.1, by lia⟩), if_pos ⟨o1, c2⟩, hz, rowQ_tot, if_pos ⟨c, c2.1, by lia⟩]
        congr 1
        lia
      · rw[if_neg (fun z=>c2 ⟨(rowQ_key.mp z).2.1,by have:=(rowQ_key.mp z).2.2; lia⟩),if_neg (fun z=>c2 z.2),rateAt_out c]
    · rw[if_neg c,if_neg (fun z=>c (rowQ_key.mp z).1)]
theorem hot_row (n:Nat) (s:S3) (h:HotOk s) : (hotR n s).map (fun p=>(gk p,ht p))=rowQ n (lo3 s) s.2.2 (hi3 s - lo3 s).toNat:=by
  have h1:=h.lt
  unfold hotR rowQ lo3 hi3
  rw[List.map_map,show min s.1 s.2.1=s.2.1 by lia,show max s.1 s.2.1=s.1 by lia]
  rfl
theorem cold_row (n:Nat) (s:S3) (h:ColdOk s) : (coldR n s).map (fun p=>(tk5 p,ht p))=rowQ n (lo3 s) s.2.2 (hi3 s - lo3 s).toNat:=by
  have h1:=h.lt
  unfold coldR rowQ lo3 hi3
  rw[List.map_map,show min s.1 s.2.1=s.1 by lia,show max s.1 s.2.1=s.2.1 by lia]
  rfl
theorem nodup_of_map {α β γ:Type} (f:α→β) (g:α→γ) (h:∀x y,f x=f y→g x=g y) : ∀xs:List α,(xs.map g).Nodup→(xs.map f).Nodup
  | [],_=>.nil
  | x::xs,hn=>by
    rw[List.map_cons,List.nodup_cons] at hn ⊢
    refine ⟨fun hm=>hn.1 ?_,nodup_of_map f g h xs hn.2⟩
    obtain ⟨y,hy,e⟩:=List.mem_map.mp hm
    exact List.mem_map.mpr ⟨y,hy,h _ _ e⟩
theorem k4_gk {p q:P5} (h:k4 p=k4 q) : gk p=gk q:=by
  unfold k4 at h
  simp only[List.cons.injEq,and_true] at h
  unfold gk
  rw[h.1,h.2.1]
theorem k4_tk {p q:P5} (h:k4 p=k4 q) : tk5 p=tk5 q:=by
  unfold k4 at h
  simp only[List.cons.injEq,and_true] at h
  unfold tk5
  rw[h.2.2.1,h.2.2.2]
end WS
namespace WS
open DL
theorem looks_of {g:Int} {hs cs:List S3} {ps:List P5} (may:∀p∈ps,mayB g p=true) (nod:(ps.map k4).Nodup)
    (gB:∀p∈ps,gk p=Bt∨(rateAt hs (gk p)).isSome=true) (gT:∀k r,rateAt hs k=some r→totQ k (gq ps)=r)
    (tB:∀p∈ps,tk5 p=Bt∨(rateAt cs (tk5 p)).isSome=true) (tT:∀k r,rateAt cs k=some r→totQ k (tq ps)=r) : Looks g hs cs ps:=by
  have key:∀(f:P5→K2) {ss:List S3},(∀p∈ps,f p=Bt∨(rateAt ss (f p)).isSome=true)→(∀k r,rateAt ss k=some r→totQ k (ps.map fun p=>(f p,ht p))=r)→∀k,k≠Bt→sumQ k (ps.map fun p=>(f p,ht p))=rateAt ss k:=fun f ss hB hT k hk=>by
    unfold sumQ
    split
    · rename_i hm
      obtain ⟨q,hq,rfl⟩:=List.mem_map.mp hm
      obtain ⟨p,hp,rfl⟩:=List.mem_map.mp hq
      rcases hB p hp with z | z
      · exact absurd z hk
      · obtain ⟨r,hr⟩:=Option.isSome_iff_exists.mp z
        rw[hr,hT _ r hr]
    · rename_i hm
      cases hr:rateAt ss k with
      | none=>rfl
      | some r =>
        have:=hT k r hr
        rw[totQ_not hm] at this
        obtain ⟨s,_,h0,_,_,e⟩:=rate_at hr
        lia
  exact ⟨may,nod,key gk gB gT,key tk5 tB tT⟩
theorem rate_nb {ss:List S3} {k:K2} (h:(rateAt ss k).isSome=true) : k≠Bt:=fun z=>by rw[z,rateAt_Bt] at h; cases h
theorem rate_nonneg {ss:List S3} {k:K2} (h:(rateAt ss k).isSome=true) : 0≤k.1:=by
  obtain ⟨r,hr⟩:=Option.isSome_iff_exists.mp h
  obtain ⟨s,e,_⟩:=rate_at hr
  exact (strAt_some e).1
theorem gq_app (a b:List P5) : gq (a++b)=gq a++gq b:=List.map_append
theorem tq_app (a b:List P5) : tq (a++b)=tq a++tq b:=List.map_append
structure Drw (g:Int) (hs cs:List S3) (ps:List P5) (hk ck:KVs) : Prop where
  may:∀p∈ps,1≤ht p∧(rateAt hs (gk p)).isSome=true∧(rateAt cs (tk5 p)).isSome=true∧p.2.1≥p.2.2.2.1+g
  nod:(ps.map k4).Nodup
  giv:∀k v,valD hk k=some v→∀r,rateAt hs k=some r→totQ k (gq ps)+v=r
  tak:∀k v,valD ck k=some v→∀r,rateAt cs k=some r→totQ k (tq ps)+v=r
end WS
namespace WS
open DL
def selS (c:K2→Bool) (qs:List Q2) : Int:=((qs.filter fun q=>c q.1).map (·.2)).sum
theorem selS_nil (c:K2→Bool) : selS c []=0:=rfl
theorem selS_cons (c:K2→Bool) (q:Q2) (qs:List Q2) : selS c (q::qs)=(if c q.1=true then q.2 else 0)+selS c qs:=by
  unfold selS
  rw[List.filter_cons]
  split
  · rw[List.map_cons,List.sum_cons]
  · lia
theorem selS_app (c:K2→Bool) : ∀a b:List Q2,selS c (a++b)=selS c a+selS c b
  | [],b=>by rw[List.nil_append,selS_nil]; lia
  | q::a,b=>by rw[List.cons_append,selS_cons,selS_cons,selS_app c a b]; lia
def notK (k:K2) (qs:List Q2) : List Q2:=qs.filter fun q=>decide (q.1≠k)
theorem notK_same {k:K2} {q:Q2} {qs:List Q2} (e:q.1=k) : notK k (q::qs)=notK k qs:=by unfold notK; rw[List.filter_cons,if_neg (by simp[e])]
theorem notK_other {k:K2} {q:Q2} {qs:List Q2} (e:¬q.1=k) : notK k (q::qs)=q::notK k qs:=by unfold notK; rw[List.filter_cons,if_pos (by simp[e])]
theorem selS_split (c:K2→Bool) (k:K2) : ∀qs:List Q2,selS c qs=(if c k=true then totQ k qs else 0)+selS c (notK k qs)
  | []=>by
    show (0:Int)=(if c k=true then (0:Int) else 0)+0
    split<;>rfl
  | q::qs=>by
    have ih:=selS_split c k qs
    rw[selS_cons,totQ_cons]
    by_cases e:q.1=k
    · rw[notK_same e,if_pos e,e]
      split<;>rename_i z
      · rw[if_pos z] at ih; lia
      · rw[if_neg z] at ih; lia
    · rw[notK_other e,if_neg e,selS_cons,ih,Int.zero_add]
      lia
theorem tot_notK (k k':K2) : ∀qs:List Q2,totQ k' (notK k qs)=if k'=k then 0 else totQ k' qs
  | []=>by
    show (0:Int)=if k'=k then 0 else 0
    split<;>rfl
  | q::qs=>by
    have ih:=tot_notK k k' qs
    rw[totQ_cons]
    by_cases e:q.1=k
    · rw[notK_same e,ih]
      by_cases e2:k'=k
      · rw[if_pos e2,if_pos e2]
      · rw[if_neg e2,if_neg e2,if_neg (fun z=>e2 (z.symm.trans e))]
        lia
    · rw[notK_other e,totQ_cons,ih]
      by_cases e2:k'=k
      · rw[if_pos e2,if_pos e2,if_neg (fun z=>e (z.trans e2))]
        rfl
      · rw[if_neg e2,if_neg e2]
theorem notK_len (k:K2) (qs:List Q2) : (notK k qs).length≤qs.length:=List.length_filter_le _ _
theorem selS_zero (c:K2→Bool) : ∀(n:Nat) (b:List Q2),b.length≤n→(∀k,c k=true→totQ k b=0)→selS c b=0
  | 0,b,hl,h=>by
    obtain rfl:=List.length_eq_zero_iff.mp (Nat.le_zero.mp hl)
    rfl
  | n+1,[],hl,h=>rfl
  | n+1,q::b,hl,h=>by
    have e:notK q.1 (q::b)=notK q.1 b:=by unfold notK; rw[List.filter_cons,if_neg (by simp)]
    have hn:=notK_len q.1 b
    rw[List.length_cons] at hl
    rw[selS_split c q.1,e,selS_zero c n (notK q.1 b) (by lia) fun k hk=>?_]
    · split
      · rename_i z; rw[h _ z]; rfl
      · rfl
    · rw[←e,tot_notK]
      split
      · rfl
      · exact h k hk
theorem selS_same (c:K2→Bool) : ∀(n:Nat) (a b:List Q2),a.length≤n→(∀k,c k=true→totQ k a=totQ k b)→selS c a=selS c b
  | 0,a,b,hl,h=>by
    obtain rfl:=List.length_eq_zero_iff.mp (Nat.le_zero.mp hl)
    exact (selS_zero c _ b (Nat.le_refl _) fun k hk=>(h k hk).symm).symm
  | n+1,[],b,hl,h=>(selS_zero c _ b (Nat.le_refl _) fun k hk=>(h k hk).symm).symm
  | n+1,q::a,b,hl,h=>by
    have e:notK q.1 (q::a)=notK q.1 a:=by unfold notK; rw[List.filter_cons,if_neg (by simp)]
    have hn:=notK_len q.1 a
    rw[List.length_cons] at hl
    have ih:=selS_same c n (notK q.1 a) (notK q.1 b) (by lia) fun k hk=>by
      rw[←e,tot_notK,tot_notK]
      split
      · rfl
      · exact h k hk
    rw[selS_split c q.1 (q::a),selS_split c q.1 b,e,ih]
    split
    · rename_i z; rw[h _ z]
    · rfl
def cL (L:Int) (k:K2) : Bool:=decide (0≤k.1∧L≤k.2)
theorem sel_row (L:Int) (n:Nat) (lo r:Int) : ∀m:Nat,selS (cL L) (rowQ n lo r m)=r*mx 0 (lo+(m:Int) - mx lo L)
  | 0=>by
    have:mx 0 (lo+((0:Nat) : Int) - mx lo L)=0:=by unfold mx; split<;>split<;>lia
    rw[this,Int.mul_zero]
    rfl
  | m+1=>by
    rw[rowQ_succ,selS_app,sel_row L n lo r m,selS_cons,selS_nil]
    by_cases z:L≤lo+(m:Int)
    · have : mx 0 (lo + ((m + 1 : Nat) : Int) - mx lo L) = mx 0 (lo + (m : Int) - mx lo L) + 1 := by unfold mx; split <;> split <;> split <;> lia
      rw[this,Int.mul_add,Int.mul_one,if_pos (by unfold cL; exact decide_eq_true ⟨Int.natCast_nonneg n,z⟩)]
      dsimp only
      lia
    · have : mx 0 (lo + ((m + 1 : Nat) : Int) - mx lo L) = mx 0 (lo + (m : Int) - mx lo L) := by unfold mx; split <;> split <;> split <;> lia
      rw[this,if_neg (by unfold cL; rw[decide_eq_true_eq]; exact fun y=>z y.2)]
      lia
theorem sel_rows (L:Int) (f:P5→K2) (row:Nat→S3→List P5) (Ok:S3→Prop) (b:S3→S3) (hrow:∀n s,Ok s→(row n s).map (fun p=>(f p,ht p))=rowQ n (lo3 s) s.2.2 (hi3 s - lo3 s).toNat) (hb:∀s,Ok s→lo3 s≤hi3 s∧b s=(lo3 s,hi3 s,s.2.2)) :
    ∀(ss:List S3) (n:Nat),(∀s∈ss,Ok s)→selS (cL L) ((rowsP row n ss).map fun p=>(f p,ht p))=above (ss.map b) L
  | [],_,_=>rfl
  | s::ss,n,h=>by
    have ih:=sel_rows L f row Ok b hrow hb ss (n+1) fun s hs=>h s (.tail _ hs)
    have os:=h s (.head _)
    obtain ⟨h1,h2⟩:=hb s os
    unfold rowsP
    rw[List.map_append,selS_app,ih,hrow n s os,sel_row]
    unfold above
    rw[List.map_cons,List.map_cons,List.sum_cons,h2]
    unfold above1
    dsimp only
    rw[show lo3 s+((hi3 s - lo3 s).toNat:Int)=hi3 s by lia]
theorem above_gap (g L:Int) (cs:List S3) : above (coldB g cs) L=above (cs.map fun x=>(x.1,x.2.1,x.2.2)) (L - g):=by
  unfold above coldB
  rw[List.map_map,List.map_map]
  congr 1
  refine List.map_congr_left fun x _=>?_
  show x.2.2*mx 0 (x.2.1+g - mx (x.1+g) L)=x.2.2*mx 0 (x.2.1 - mx x.1 (L - g))
  congr 1
  unfold mx
  split<;>split<;>split<;>split<;>lia
theorem Looks.tot_g {g:Int} {hs cs:List S3} {ps:List P5} (Z:Looks g hs cs ps) {k:K2} (hk:0≤k.1) : totQ k (gq ps)=(rateAt hs k).getD 0:=by
  rw[←sumQ_getD,Z.giv k (fun z=>by rw[z] at hk; exact absurd hk (by decide))]
theorem Looks.tot_t {g:Int} {hs cs:List S3} {ps:List P5} (Z:Looks g hs cs ps) {k:K2} (hk:0≤k.1) : totQ k (tq ps)=(rateAt cs k).getD 0:=by
  rw[←sumQ_getD,Z.tak k (fun z=>by rw[z] at hk; exact absurd hk (by decide))]
theorem Looks.sel_g {g:Int} {hs cs:List S3} {ps:List P5} (Z:Looks g hs cs ps) (hh:∀s∈hs,HotOk s) (L:Int) : selS (cL L) (gq ps)=above (hotB hs) L:=by
  rw[selS_same (cL L) _ (gq ps) ((rowsP hotR 0 hs).map fun p=>(gk p,ht p)) (Nat.le_refl _) fun k hk=>?_]
  · exact sel_rows L gk hotR HotOk (fun x=>(x.2.1,x.1,x.2.2)) hot_row (fun s h=>by
      have:=h.lt
      unfold lo3 hi3
      rw[show min s.1 s.2.1=s.2.1 by lia,show max s.1 s.2.1=s.1 by lia]
      exact ⟨by lia,rfl⟩) hs 0 hh
  · unfold cL at hk
    rw[decide_eq_true_eq] at hk
    rw[Z.tot_g hk.1,←sumQ_getD,rows_rate gk hotR HotOk hot_row (fun s h=>by
      have:=h.lt
      have:=h.r0
      unfold lo3 hi3
      lia) hs hh]
theorem Looks.sel_t {g:Int} {hs cs:List S3} {ps:List P5} (Z:Looks g hs cs ps) (hc:∀s∈cs,ColdOk s) (L:Int) : selS (cL (L - g)) (tq ps)=above (coldB g cs) L:=by
  rw[above_gap,selS_same (cL (L - g)) _ (tq ps) ((rowsP coldR 0 cs).map fun p=>(tk5 p,ht p)) (Nat.le_refl _) fun k hk=>?_]
  · exact sel_rows (L - g) tk5 coldR ColdOk (fun x=>(x.1,x.2.1,x.2.2)) cold_row (fun s h=>by
      have:=h.lt
      unfold lo3 hi3
      rw[show min s.1 s.2.1=s.1 by lia,show max s.1 s.2.1=s.2.1 by lia]
      exact ⟨by lia,rfl⟩) cs 0 hc
  · unfold cL at hk
    rw[decide_eq_true_eq] at hk
    rw[Z.tot_t hk.1,←sumQ_getD,rows_rate tk5 coldR ColdOk cold_row (fun s h=>by
      have:=h.lt
      have:=h.r0
      unfold lo3 hi3
      lia) cs hc]
def crossB (g L:Int) (p:P5) : Bool:=decide (p.1 ≠ -1∧L≤p.2.1∧(p.2.2.1 = -1∨p.2.2.2.1+g<L)∨p.1 = -1∧p.2.2.2.1+g<L)
def Ends3 (g:Int) (p:P5) : Prop:=(gk p=Bt∧0≤p.2.2.1)∨(0≤p.1∧tk5 p=Bt)∨(0≤p.1∧0≤p.2.2.1∧p.2.2.2.1+g≤p.2.1)
theorem Looks.ends {g:Int} {hs cs:List S3} {ps:List P5} (Z:Looks g hs cs ps) : ∀p∈ps,Ends3 g p:=fun p hp=>by
  have m:=Z.may p hp
  unfold mayB at m
  rw[Bool.and_eq_true] at m
  have hg:gk p≠Bt→0≤p.1:=fun z=>by
    have:=Z.giv _ z
    unfold sumQ gq at this
    rw[if_pos (key_in hp)] at this
    exact rate_nonneg (ss:=hs) (k:=gk p) (by rw[←this]; rfl)
  have ht':tk5 p≠Bt→0≤p.2.2.1:=fun z=>by
    have:=Z.tak _ z
    unfold sumQ tq at this
    rw[if_pos (key_in hp)] at this
    exact rate_nonneg (ss:=cs) (k:=tk5 p) (by rw[←this]; rfl)
  by_cases c:gk p=Bt
  · have m2:=m.2
    rw[if_pos (.inl c),decide_eq_true_eq] at m2
    exact .inl ⟨c,ht' fun z=>m2 (c.trans z.symm)⟩
  · by_cases c2:tk5 p=Bt
    · exact .inr (.inl ⟨hg c,c2⟩)
    · have m2:=m.2
      rw[if_neg (fun z=>z.elim c c2),decide_eq_true_eq] at m2
      exact .inr (.inr ⟨hg c,ht' c2,m2⟩)
theorem cross_list {g L:Int} : ∀{ps:List P5},(∀p∈ps,Ends3 g p)→totQ Bt (gq ps) - selS (cL (L - g)) (tq ps)+selS (cL L) (gq ps)=((ps.filter (crossB g L)).map ht).sum
  | [],_=>rfl
  | p::ps,h=>by
    have ih:=cross_list (g:=g) (L:=L) (ps:=ps) fun p hp=>h p (.tail _ hp)
    have hp:=h p (.head _)
    have e1:gq (p::ps)=(gk p,ht p)::gq ps:=rfl
    have e2:tq (p::ps)=(tk5 p,ht p)::tq ps:=rfl
    rw[e1,e2,totQ_cons,selS_cons,selS_cons,List.filter_cons]
    have f1:(gk p=Bt)↔(p.1 = -1∧p.2.1 = -1):=by unfold gk Bt; rw[Prod.mk.injEq]
    have f2:(tk5 p=Bt)↔(p.2.2.1 = -1∧p.2.2.2.1 = -1):=by unfold tk5 Bt; rw[Prod.mk.injEq]
    have g1:(cL (L - g) (tk5 p)=true)↔(0≤p.2.2.1∧L - g≤p.2.2.2.1):=by unfold cL tk5; rw[decide_eq_true_eq]
    have g2:(cL L (gk p)=true)↔(0≤p.1∧L≤p.2.1):=by unfold cL gk; rw[decide_eq_true_eq]
    have g3:(crossB g L p=true)↔(p.1 ≠ -1∧L≤p.2.1∧(p.2.2.1 = -1∨p.2.2.2.1+g<L)∨p.1 = -1∧p.2.2.2.1+g<L):=by unfold crossB; rw[decide_eq_true_eq]
    have ec:((if crossB g L p=true then p::ps.filter (crossB g L) else ps.filter (crossB g L)).map ht).sum=(if crossB g L p=true then ht p else 0)+((ps.filter (crossB g L)).map ht).sum:=by
      split
      · rw[List.map_cons,List.sum_cons]
      · lia
    rw[ec,←ih]
    have id1:(if gk p=Bt then ht p else 0) - (if cL (L - g) (tk5 p)=true then ht p else 0)+(if cL L (gk p)=true then ht p else 0)=(if crossB g L p=true then ht p else 0):=by
      rcases hp with ⟨h1,h2⟩ | ⟨h1,h2⟩ | ⟨h1,h2,h3⟩
      · have y1:=f1.mp h1
        rw[if_pos h1,if_neg (c:=cL L (gk p)=true) (by rw[g2]; lia)]
        by_cases z:L - g≤p.2.2.2.1
        · rw[if_pos (g1.mpr ⟨h2,z⟩),if_neg (by rw[g3]; lia)]; lia
        · rw[if_neg (by rw[g1]; lia),if_pos (by rw[g3]; lia)]; lia
      · have y2:=f2.mp h2
        rw[if_neg (by rw[f1]; lia),if_neg (c:=cL (L - g) (tk5 p)=true) (by rw[g1]; lia)]
        by_cases z:L≤p.2.1
        · rw[if_pos (g2.mpr ⟨h1,z⟩),if_pos (by rw[g3]; lia)]; lia
        · rw[if_neg (by rw[g2]; lia),if_neg (by rw[g3]; lia)]; lia
      · rw [if_neg (by rw [f1]; lia)]
        by_cases z:L - g≤p.2.2.2.1
        · rw[if_pos (g1.mpr ⟨h2,z⟩),if_pos (g2.mpr ⟨h1,by lia⟩),if_neg (by rw[g3]; lia)]; lia
        · rw [if_neg (by rw [g1]; lia)]
          by_cases y:L≤p.2.1
          · rw[if_pos (g2.mpr ⟨h1,y⟩),if_pos (by rw[g3]; lia)]; lia
          · rw[if_neg (by rw[g2]; lia),if_neg (by rw[g3]; lia)]; lia
    dsimp only
    rw[←id1]
    lia
theorem Looks.cross {g:Int} {hs cs:List S3} {ps:List P5} (Z:Looks g hs cs ps) (hh:∀s∈hs,HotOk s) (hc:∀s∈cs,ColdOk s) (L:Int) : totQ Bt (gq ps) - lackF g hs cs L=((ps.filter (crossB g L)).map ht).sum:=by
  rw[←cross_list Z.ends,Z.sel_g hh,Z.sel_t hc]
  unfold lackF
  lia
theorem Looks.pos {g:Int} {hs cs:List S3} {ps:List P5} (Z:Looks g hs cs ps) : ∀p∈ps,1≤ht p:=fun p hp=>by
  have m:=Z.may p hp
  unfold mayB at m
  rw[Bool.and_eq_true,decide_eq_true_eq] at m
  exact m.1
theorem sum_some {c:P5→Bool} : ∀{ps:List P5},(∀p∈ps,1≤ht p)→0≤((ps.filter c).map ht).sum∧(((ps.filter c).map ht).sum=0↔∀p∈ps,c p=false)
  | [],_=>⟨Int.le_refl _,⟨fun _ p hp=>(nomatch hp),fun _=>rfl⟩⟩
  | p::ps,h=>by
    have ih:=sum_some (c:=c) (ps:=ps) fun p hp=>h p (.tail _ hp)
    have hp:=h p (.head _)
    rw[List.filter_cons]
    by_cases e:c p=true
    · rw[if_pos e,List.map_cons,List.sum_cons]
      refine ⟨by lia,fun z=>by lia,fun z=>?_⟩
      rw[z p (.head _)] at e
      cases e
    · rw[if_neg e]
      refine ⟨ih.1,fun z q hq=>?_,fun z=>ih.2.mpr fun q hq=>z q (.tail _ hq)⟩
      rcases List.mem_cons.mp hq with rfl | hq
      · exact Bool.eq_false_iff.mpr e
      · exact ih.2.mp z q hq
theorem Looks.lack_le {g:Int} {hs cs:List S3} {ps:List P5} (Z:Looks g hs cs ps) (hh:∀s∈hs,HotOk s) (hc:∀s∈cs,ColdOk s) (L:Int) : lackF g hs cs L≤totQ Bt (gq ps):=by
  have:=Z.cross hh hc L
  have:=(sum_some (c:=crossB g L) Z.pos).1
  lia
theorem Looks.lack_eq {g:Int} {hs cs:List S3} {ps:List P5} (Z:Looks g hs cs ps) (hh:∀s∈hs,HotOk s) (hc:∀s∈cs,ColdOk s) (L:Int) : totQ Bt (gq ps)=lackF g hs cs L↔∀p∈ps,crossB g L p=false:=by
  have h1:=Z.cross hh hc L
  rw[←(sum_some (c:=crossB g L) Z.pos).2]
  lia
theorem tot_pos0 {f:P5→K2} {k:K2} : ∀{ps:List P5},(∀p∈ps,1≤ht p)→0≤totQ k (ps.map fun p=>(f p,ht p))∧(totQ k (ps.map fun p=>(f p,ht p))=0↔∀p∈ps,f p≠k)
  | [],_=>⟨Int.le_refl _,⟨fun _ p hp=>(nomatch hp),fun _=>rfl⟩⟩
  | p::ps,h=>by
    have ih:=tot_pos0 (f:=f) (k:=k) (ps:=ps) fun p hp=>h p (.tail _ hp)
    have hp:=h p (.head _)
    rw[List.map_cons,totQ_cons]
    dsimp only
    by_cases e:f p=k
    · rw[if_pos e]
      exact ⟨by lia,fun z=>by lia,fun z=>absurd e (z p (.head _))⟩
    · rw[if_neg e]
      refine ⟨by lia,fun z q hq=>?_,fun z=>by rw[ih.2.mpr fun q hq=>z q (.tail _ hq)]; rfl⟩
      rcases List.mem_cons.mp hq with rfl | hq
      · exact e
      · exact ih.2.mp (by lia) q hq
theorem Looks.heat0 {g:Int} {hs cs:List S3} {ps:List P5} (Z:Looks g hs cs ps) : 0≤totQ Bt (gq ps):=(tot_pos0 (f:=gk) Z.pos).1
theorem Looks.cold0 {g:Int} {hs cs:List S3} {ps:List P5} (Z:Looks g hs cs ps) : 0≤totQ Bt (tq ps):=(tot_pos0 (f:=tk5) Z.pos).1
theorem Looks.diff {g:Int} {hs cs:List S3} {ps:List P5} (Z:Looks g hs cs ps) (hh:∀s∈hs,HotOk s) (hc:∀s∈cs,ColdOk s) (hg:0≤g) : totQ Bt (tq ps)=totQ Bt (gq ps) - lackF g hs cs 0:=by
  rw[Z.cross hh hc 0]
  have key:∀p∈ps,(crossB g 0 p=true↔tk5 p=Bt):=fun p hp=>by
    have e:=Z.ends p hp
    have f1:(gk p=Bt)↔(p.1 = -1∧p.2.1 = -1):=by unfold gk Bt; rw[Prod.mk.injEq]
    have f2:(tk5 p=Bt)↔(p.2.2.1 = -1∧p.2.2.2.1 = -1):=by unfold tk5 Bt; rw[Prod.mk.injEq]
    have a1:0≤p.1→0≤p.2.1:=fun z=>by
      have:=Z.giv (gk p) (fun y=>by rw[f1] at y; lia)
      unfold sumQ gq at this
      rw[if_pos (key_in hp)] at this
      obtain ⟨s,h1,h2,h3,h4,_⟩:=rate_at this.symm
      have o:=hh s (strAt_some h1).2.2
      have:=o.lo
      have:=o.lt
      unfold lo3 at h3
      have:(gk p).2=p.2.1:=rfl
      lia
    have a2:0≤p.2.2.1→0≤p.2.2.2.1:=fun z=>by
      have:=Z.tak (tk5 p) (fun y=>by rw[f2] at y; lia)
      unfold sumQ tq at this
      rw[if_pos (key_in hp)] at this
      obtain ⟨s,h1,h2,h3,h4,_⟩:=rate_at this.symm
      have o:=hc s (strAt_some h1).2.2
      have:=o.lo
      have:=o.lt
      unfold lo3 at h3
      have:(tk5 p).2=p.2.2.2.1:=rfl
      lia
    unfold Ends3 at e
    unfold crossB
    rw[decide_eq_true_eq,f2]
    rw[f1,f2] at e
    constructor
    · intro y
      rcases e with e | e | e
      · lia
      · exact e.2
      · lia
    · intro y
      lia
  have lem:∀qs:List P5,(∀p∈qs,(crossB g 0 p=true↔tk5 p=Bt))→totQ Bt (tq qs)=((qs.filter (crossB g 0)).map ht).sum:=fun qs=>by
    induction qs with
    | nil=>intro _; rfl
    | cons p qs ih =>
      intro h
      have ih:=ih fun p hp=>h p (.tail _ hp)
      have e2:tq (p::qs)=(tk5 p,ht p)::tq qs:=rfl
      rw[e2,totQ_cons,List.filter_cons]
      by_cases c:tk5 p=Bt
      · rw[if_pos c,if_pos ((h p (.head _)).mpr c),List.map_cons,List.sum_cons,ih]
      · rw[if_neg c,if_neg (fun z=>c ((h p (.head _)).mp z)),ih]
        lia
  exact lem ps key
end WS
namespace WS
open DL
open L2 (Fall)
theorem put_len_old {kvs:KVs} {k:K2} {v w:Int} (h:valD kvs k=some v) : (putD kvs k w).length=kvs.length:=by
  have hk:k∈kvs.map (·.1):=Classical.byContradiction fun z=>by rw[valD_none.mpr z] at h; cases h
  unfold putD
  rw[if_pos (any_key.mpr hk),List.length_map]
theorem nodup_at {α:Type} {l:List α} (h:l.Nodup) {i j:Nat} {x:α} (hi:l[i]?=some x) (hj:l[j]?=some x) : i=j:=by
  obtain ⟨a,ea⟩:=List.getElem?_eq_some_iff.mp hi
  obtain ⟨b,eb⟩:=List.getElem?_eq_some_iff.mp hj
  rcases Nat.lt_trichotomy i j with c | c | c
  · exact absurd (ea.trans eb.symm) (List.pairwise_iff_getElem.mp h i j a b c)
  · exact c
  · exact absurd (eb.trans ea.symm) (List.pairwise_iff_getElem.mp h j i b a c)
structure Stp (ss:List S3) (ks:List K2) : Prop where
  nod:ks.Nodup
  dn:∀(i j:Nat) (a b:K2),i≤j→ks[i]?=some a→ks[j]?=some b→b.2≤a.2
  is:∀k,k∈ks↔(rateAt ss k).isSome=true
  len:ks.length≤2400
structure Gr (g:Int) (hs cs:List S3) (gs ts:List K2) (t:Nat) (lk:KVs) (ps:List P5) : Prop where
  tl:t≤gs.length
  ln:lk.length≤2400
  may:∀p∈ps,1≤ht p∧(gk p=Bt∨(gk p∈gs∧p.2.2.2.1+g≤p.2.1))
  nod:(ps.map k4).Nodup
  giv:∀(j:Nat) (k:K2),gs[j]?=some k→∃v,valD lk k=some v∧some (totQ k (gq ps)+v)=rateAt hs k∧(j<t→v=0)∧(t≤j→0<v)
  lev:(∀p∈ps,gk p≠Bt)∨∃L:Nat,L<251∧(∀p∈ps,crossB g L p=false)∧∀(j:Nat) (k:K2),t≤j→gs[j]?=some k→k.2<L
structure Gi (g:Int) (hs cs:List S3) (gs ts:List K2) (i t:Nat) (lk:KVs) (ps:List P5) : Prop where
  gr:Gr g hs cs gs ts t lk ps
  tk:∀p∈ps,∃j,j<i∧ts[j]?=some (tk5 p)
  tak:∀(j:Nat) (k:K2),j<i→ts[j]?=some k→some (totQ k (tq ps))=rateAt cs k
  n:ps.length≤t+i
structure Gw (g:Int) (hs cs:List S3) (gs ts:List K2) (i:Nat) (k:K2) (t:Nat) (n:Int) (lk:KVs) (ps:List P5) : Prop where
  gr:Gr g hs cs gs ts t lk ps
  tk:∀p∈ps,∃j,j≤i∧ts[j]?=some (tk5 p)
  tak:∀(j:Nat) (k:K2),j<i→ts[j]?=some k→some (totQ k (tq ps))=rateAt cs k
  n0:0≤n
  nd:some (totQ k (tq ps)+n)=rateAt cs k
  new:n=0∨(ps.length≤t+i∧∀p∈ps,tk5 p=k→∃j,j<t∧gs[j]?=some (gk p))
  n1:ps.length≤t+i+1
section
variable {g:Int} {hs cs:List S3} {gs ts:List K2}
theorem Gi.start (sg:Stp hs gs) {kvs:KVs} (hl:kvs.length≤2400) (hv:∀k,valD kvs k=rateAt hs k) : Gi g hs cs gs ts 0 0 kvs [] where
  gr:=⟨Nat.zero_le _,hl,fun p h=>(nomatch h),.nil,fun j k hk=>by
    obtain ⟨r,hr⟩:=Option.isSome_iff_exists.mp ((sg.is k).mp (List.mem_of_getElem? hk))
    refine ⟨r,by rw[hv,hr],by rw[hr]; show some (0+r)=some r; rw[Int.zero_add],fun z=>absurd z (Nat.not_lt_zero _),fun _=>?_⟩
    obtain ⟨s,_,h0,_,_,e⟩:=rate_at hr
    lia,.inl fun p h=>(nomatch h)⟩
  tk:=fun p h=>(nomatch h)
  tak:=fun j k h=>absurd h (Nat.not_lt_zero _)
  n:=Nat.zero_le _
theorem Gi.take {i t:Nat} {lk:KVs} {ps:List P5} (h:Gi g hs cs gs ts i t lk ps) (st:Stp cs ts) {k:K2} (hk:ts[i]?=some k) {r:Int} (hr:rateAt cs k=some r) : Gw g hs cs gs ts i k t r lk ps where
  gr:=h.gr
  tk:=fun p hp=>by
    obtain ⟨j,hj,e⟩:=h.tk p hp
    exact ⟨j,by lia,e⟩
  tak:=h.tak
  n0:=by obtain ⟨s,_,h0,_,_,e⟩:=rate_at hr; lia
  nd:=by
    have no:∀p∈ps,tk5 p≠k:=fun p hp z=>by
      obtain ⟨j,hj,e⟩:=h.tk p hp
      rw[z] at e
      have:=nodup_at st.nod e hk
      lia
    have e:totQ k (tq ps)=0:=totQ_not fun hm=>by
      obtain ⟨q,hq,e⟩:=List.mem_map.mp hm
      obtain ⟨p,hp,rfl⟩:=List.mem_map.mp hq
      exact no p hp e
    rw[e,Int.zero_add,hr]
  new:=.inr ⟨h.n,fun p hp z=>by
    obtain ⟨j,hj,e⟩:=h.tk p hp
    rw[z] at e
    have:=nodup_at st.nod e hk
    lia⟩
  n1:=by have:=h.n; lia
theorem cross_low {L:Int} {p:P5} (h1:p.1 ≠ -1) (h2:p.2.1<L) : crossB g L p=false:=by
  unfold crossB
  rw[decide_eq_false_iff_not]
  lia
theorem mem_snoc {α:Type} {P:α→Prop} {l:List α} {x:α} (h:∀y∈l,P y) (hx:P x) : ∀y∈l++[x],P y:=fun y hy=>by
  rcases List.mem_append.mp hy with z | z
  · exact h y z
  · rw[List.mem_singleton.mp z]; exact hx
theorem k4_snoc {ps:List P5} {p:P5} (h:(ps.map k4).Nodup) (new:∀q∈ps,¬(gk q=gk p∧tk5 q=tk5 p)) : ((ps++[p]).map k4).Nodup:=by
  rw[List.map_append,List.nodup_append]
  refine ⟨h,by simp,fun u hu w hw=>?_⟩
  obtain ⟨q,hq,rfl⟩:=List.mem_map.mp hu
  rw[List.map_cons,List.map_nil,List.mem_singleton] at hw
  rw[hw]
  intro e
  exact new q hq ⟨k4_gk e,k4_tk e⟩
theorem tot_snoc (f:P5→K2) (k:K2) (ps:List P5) (p:P5) : totQ k ((ps++[p]).map fun p=>(f p,ht p))=totQ k (ps.map fun p=>(f p,ht p))+if f p=k then ht p else 0:=by
  rw[List.map_append,totQ_append]
  show _+totQ k [(f p,ht p)]=_
  rw[totQ_one]
theorem Gw.pass {i t:Nat} {k a:K2} {n v:Int} {lk:KVs} {ps:List P5} (h:Gw g hs cs gs ts i k t n lk ps) (sg:Stp hs gs) (st:Stp cs ts) (hk:ts[i]?=some k) (n1:0<n) (ha:gs[t]?=some a) (hw:k.2+g≤a.2) (hv:valD lk a=some v) {m:Int} (hm:m=if v<n then v else n) {t':Nat} (ht':t'=if v - m=0 then t+1 else t) :
    Gw g hs cs gs ts i k t' (n - m) (putD lk a (v - m)) (ps++[(a.1,a.2,k.1,k.2,m)]):=by
  obtain ⟨v',e1,e2,_,e4⟩:=h.gr.giv t a ha
  rw[hv] at e1
  cases e1
  have v0:=e4 (Nat.le_refl _)
  have hlt:t<gs.length:=(List.getElem?_eq_some_iff.mp ha).1
  have m1:1≤m:=by rw[hm]; split<;>lia
  have mv:m≤v:=by rw[hm]; split<;>lia
  have mn:m≤n:=by rw[hm]; split<;>lia
  have mor:m=v∨m=n:=by rw[hm]; split<;>lia
  have ng:n≠0:=by lia
  obtain ⟨hl,hnew⟩:=h.new.resolve_left ng
  have ra:(rateAt hs a).isSome=true:=(sg.is a).mp (List.mem_of_getElem? ha)
  have a0:0≤a.1:=rate_nonneg ra
  have gka:gk (a.1,a.2,k.1,k.2,m)=a:=rfl
  have tka:tk5 (a.1,a.2,k.1,k.2,m)=k:=rfl
  have t2:t≤t'∧t'≤t+1:=by rw[ht']; split<;>lia
  refine ⟨⟨?_,?_,mem_snoc h.gr.may ⟨m1,.inr ⟨List.mem_of_getElem? ha,hw⟩⟩,k4_snoc h.gr.nod fun q hq z=>?_,fun j b hb=>?_,?_⟩,mem_snoc h.tk ⟨i,Nat.le_refl _,hk⟩,fun j b hj hb=>?_,by lia,?_,?_,?_⟩
  · lia
  · rw[put_len_old hv]; exact h.gr.ln
  · obtain ⟨j,hj,e⟩:=hnew q hq z.2
    rw[z.1] at e
    have:=nodup_at sg.nod e ha
    lia
  · obtain ⟨w,w1,w2,w3,w4⟩:=h.gr.giv j b hb
    have et:totQ b (gq (ps++[(a.1,a.2,k.1,k.2,m)]))=totQ b (gq ps)+if a=b then m else 0:=tot_snoc gk b ps _
    rw[et,valD_put]
    by_cases c:a=b
    · subst c
      have:=nodup_at sg.nod hb ha
      subst this
      rw[hv] at w1
      cases w1
      refine ⟨v - m,by rw[if_pos rfl],by rw[if_pos rfl,←w2]; congr 1; lia,fun z=>?_,fun z=>?_⟩
      · rw[ht'] at z
        split at z
        · assumption
        · lia
      · rw[ht'] at z
        split at z
        · lia
        · lia
    · have hj : j ≠ t := fun z => c (by rw [z, ha] at hb; exact Option.some.inj hb)
      rw[if_neg c,if_neg c]
      exact ⟨w,w1,by rw[Int.add_zero]; exact w2,fun z=>w3 (by lia),fun z=>w4 (by lia)⟩
  · rcases h.gr.lev with z | ⟨L,z1,z2,z3⟩
    · exact .inl (mem_snoc z (rate_nb ra))
    · refine .inr ⟨L,z1,mem_snoc z2 (cross_low (by show a.1 ≠ -1; lia) (z3 t a (Nat.le_refl _) ha)),fun j b hj hb=>z3 j b (by lia) hb⟩
  · have et:totQ b (tq (ps++[(a.1,a.2,k.1,k.2,m)]))=totQ b (tq ps)+if k=b then m else 0:=tot_snoc tk5 b ps _
    have:k≠b:=fun z=>by
      rw[←z] at hb
      have:=nodup_at st.nod hb hk
      lia
    rw[et,if_neg this,Int.add_zero]
    exact h.tak j b hj hb
  · have et:totQ k (tq (ps++[(a.1,a.2,k.1,k.2,m)]))=totQ k (tq ps)+if k=k then m else 0:=tot_snoc tk5 k ps _
    rw[et,if_pos rfl,←h.nd]
    congr 1
    lia
  · by_cases z:n - m=0
    · exact .inl z
    · have : v - m = 0 := by lia
      rw[if_pos this] at ht'
      refine .inr ⟨by rw[List.length_append]; show ps.length+1≤_; lia,mem_snoc (fun q hq e=>?_) fun _=>⟨t,by lia,ha⟩⟩
      obtain ⟨j,hj,e⟩:=hnew q hq e
      exact ⟨j,by lia,e⟩
  · rw[List.length_append]
    show ps.length+1≤_
    lia
theorem Gw.done {i t:Nat} {k:K2} {lk:KVs} {ps:List P5} (h:Gw g hs cs gs ts i k t 0 lk ps) (hk:ts[i]?=some k) : Gi g hs cs gs ts (i+1) t lk ps where
  gr:=h.gr
  tk:=fun p hp=>by
    obtain ⟨j,hj,e⟩:=h.tk p hp
    exact ⟨j,by lia,e⟩
  tak:=fun j b hj hb=>by
    rcases Nat.lt_or_eq_of_le (Nat.le_of_lt_succ hj) with z | z
    · exact h.tak j b z hb
    · subst z
      rw[hk] at hb
      cases hb
      rw[←h.nd,Int.add_zero]
  n:=by have:=h.n1; lia
theorem Gw.buy {i t:Nat} {k:K2} {n:Int} {lk:KVs} {ps:List P5} (h:Gw g hs cs gs ts i k t n lk ps) (sg:Stp hs gs) (st:Stp cs ts) (hk:ts[i]?=some k) (n1:0<n) (kl:0≤k.2+g) (kh:k.2+g≤250) (hw:∀a,gs[t]?=some a→a.2<k.2+g) :
    Gi g hs cs gs ts (i+1) t lk (ps++[(-1,-1,k.1,k.2,n)]):=by
  have ng:n≠0:=by lia
  obtain ⟨hl,hnew⟩:=h.new.resolve_left ng
  have noB:∀q∈gs,q≠Bt:=fun q hq=>rate_nb ((sg.is q).mp hq)
  have rk:(rateAt cs k).isSome=true:=(st.is k).mp (List.mem_of_getElem? hk)
  have k0:0≤k.1:=rate_nonneg rk
  refine ⟨⟨h.gr.tl,h.gr.ln,mem_snoc h.gr.may ⟨by show 1≤n; lia,.inl rfl⟩,k4_snoc h.gr.nod fun q hq z=>?_,fun j b hb=>?_,.inr ⟨(k.2+g).toNat,by lia,mem_snoc (fun p hp=>?_) ?_,fun j b hj hb=>?_⟩⟩,mem_snoc (fun p hp=>?_) ⟨i,by lia,hk⟩,fun j b hj hb=>?_,?_⟩
  · obtain ⟨j,hj,e⟩:=hnew q hq z.2
    rw[z.1] at e
    exact noB _ (List.mem_of_getElem? e) rfl
  · obtain ⟨w,w1,w2,w3⟩:=h.gr.giv j b hb
    have et:totQ b (gq (ps++[(-1,-1,k.1,k.2,n)]))=totQ b (gq ps)+if Bt=b then n else 0:=tot_snoc gk b ps _
    rw[et,if_neg (fun z=>noB b (List.mem_of_getElem? hb) z.symm),Int.add_zero]
    exact ⟨w,w1,w2,w3⟩
  · obtain ⟨j,hj,e⟩:=h.tk p hp
    have:=st.dn j i _ _ hj e hk
    have e2:(tk5 p).2=p.2.2.2.1:=rfl
    have e3:(tk5 p).1=p.2.2.1:=rfl
    have:=rate_nonneg ((st.is _).mp (List.mem_of_getElem? e))
    unfold crossB
    rw[decide_eq_false_iff_not,Int.toNat_of_nonneg kl]
    lia
  · unfold crossB
    rw[decide_eq_false_iff_not,Int.toNat_of_nonneg kl]
    dsimp only
    lia
  · rw[Int.toNat_of_nonneg kl]
    obtain ⟨hlt,_⟩:=List.getElem?_eq_some_iff.mp hb
    have ht:gs[t]?=some gs[t]:=List.getElem?_eq_getElem (by lia)
    have a1:=hw _ ht
    have a2:=sg.dn t j _ _ hj ht hb
    lia
  · obtain ⟨j,hj,e⟩:=h.tk p hp
    exact ⟨j,by lia,e⟩
  · have et:totQ b (tq (ps++[(-1,-1,k.1,k.2,n)]))=totQ b (tq ps)+if k=b then n else 0:=tot_snoc tk5 b ps _
    rw[et]
    rcases Nat.lt_or_eq_of_le (Nat.le_of_lt_succ hj) with z | z
    · have:k≠b:=fun y=>by
        rw[←y] at hb
        have:=nodup_at st.nod hb hk
        lia
      rw[if_neg this,Int.add_zero]
      exact h.tak j b z hb
    · subst z
      rw[hk] at hb
      cases hb
      rw[if_pos rfl]
      exact h.nd
  · rw[List.length_append]
    show ps.length+1≤_
    lia
def restP (gs:List K2) (t:Nat) (lk:KVs) : List P5:=(gs.drop t).map fun k=>(k.1,k.2,-1,-1,(valD lk k).getD 0)
def Tight (g:Int) (ps:List P5) : Prop:=(∀p∈ps,gk p≠Bt)∨∃L:Nat,L<251∧∀p∈ps,crossB g L p=false
theorem rest_mem {t:Nat} {lk:KVs} {p:P5} (h:p∈restP gs t lk) : ∃j k,t≤j∧gs[j]?=some k∧p=(k.1,k.2,-1,-1,(valD lk k).getD 0):=by
  obtain ⟨k,hk,rfl⟩:=List.mem_map.mp h
  obtain ⟨j,hj⟩:=List.mem_iff_getElem?.mp hk
  rw[List.getElem?_drop] at hj
  exact ⟨t+j,k,by lia,hj,rfl⟩
theorem rest_tot {t:Nat} {lk:KVs} (nd:gs.Nodup) {k:K2} : totQ k (gq (restP gs t lk))=if k∈gs.drop t then (valD lk k).getD 0 else 0:=by
  have lem:∀l:List K2,l.Nodup→totQ k (gq (l.map fun k=>(k.1,k.2,-1,-1,(valD lk k).getD 0)))=if k∈l then (valD lk k).getD 0 else 0:=fun l=>by
    induction l with
    | nil=>intro _; rfl
    | cons a l ih =>
      intro hn
      rw[List.nodup_cons] at hn
      have e:gq ((a::l).map fun k=>(k.1,k.2,-1,-1,(valD lk k).getD 0))=(a,(valD lk a).getD 0)::gq (l.map fun k=>(k.1,k.2,-1,-1,(valD lk k).getD 0)):=rfl
      rw[e,totQ_cons,ih hn.2]
      dsimp only
      by_cases c:a=k
      · subst c
        rw[if_pos rfl,if_neg hn.1,if_pos (.head _)]
        lia
      · rw[if_neg c]
        by_cases c2:k∈l
        · rw[if_pos c2,if_pos (.tail _ c2)]; lia
        · rw[if_neg c2,if_neg (fun z=>(List.mem_cons.mp z).elim (fun y=>c y.symm) c2)]; rfl
  exact lem _ (nd.sublist (List.drop_sublist _ _))
theorem Gi.finish {t:Nat} {lk:KVs} {ps:List P5} (h:Gi g hs cs gs ts ts.length t lk ps) (sg:Stp hs gs) (st:Stp cs ts) : Looks g hs cs (ps++restP gs t lk)∧Tight g (ps++restP gs t lk)∧(ps++restP gs t lk).length≤gs.length+ts.length:=by
  have rv:∀p∈restP gs t lk,∃k,k∈gs.drop t∧gk p=k∧tk5 p=Bt∧1≤ht p∧(rateAt hs k).isSome=true:=fun p hp=>by
    obtain ⟨j,k,hj,hk,rfl⟩:=rest_mem hp
    obtain ⟨v,e1,_,_,e4⟩:=h.gr.giv j k hk
    refine ⟨k,?_,rfl,rfl,?_,(sg.is k).mp (List.mem_of_getElem? hk)⟩
    · refine List.mem_iff_getElem?.mpr ⟨j - t,?_⟩
      rw[List.getElem?_drop,show t+(j - t)=j by lia]
      exact hk
    · have:=e4 hj
      show 1≤(valD lk k).getD 0
      rw[e1]
      show 1≤v
      lia
  have gB:∀p∈ps++restP gs t lk,gk p=Bt∨(rateAt hs (gk p)).isSome=true:=fun p hp=>by
    rcases List.mem_append.mp hp with z | z
    · exact (h.gr.may p z).2.imp id fun y=>(sg.is _).mp y.1
    · obtain ⟨k,_,e,_,_,r⟩:=rv p z
      rw[e]
      exact .inr r
  have tB:∀p∈ps,(rateAt cs (tk5 p)).isSome=true:=fun p hp=>by
    obtain ⟨j,_,e⟩:=h.tk p hp
    exact (st.is _).mp (List.mem_of_getElem? e)
  refine ⟨looks_of (fun p hp=>?_) ?_ gB (fun k r hr=>?_) (fun p hp=>?_) fun k r hr=>?_,?_,?_⟩
  · unfold mayB
    rcases List.mem_append.mp hp with z | z
    · obtain ⟨m1,m2⟩:=h.gr.may p z
      have nb:=rate_nb (tB p z)
      rw[decide_eq_true m1,Bool.true_and]
      rcases m2 with y | y
      · rw[if_pos (.inl y),decide_eq_true_eq,y]
        exact fun x=>nb x.symm
      · rw[if_neg (fun x=>x.elim (rate_nb ((sg.is _).mp y.1)) nb),decide_eq_true_eq]
        exact y.2
    · obtain ⟨k,_,e,e2,m1,r⟩:=rv p z
      rw[decide_eq_true m1,Bool.true_and,if_pos (.inr e2),decide_eq_true_eq,e,e2]
      exact rate_nb r
  · rw[List.map_append,List.nodup_append]
    refine ⟨h.gr.nod,nodup_of_map k4 gk (fun _ _=>k4_gk) _ ?_,fun u hu w hw e=>?_⟩
    · unfold restP
      rw[List.map_map]
      refine (List.Nodup.sublist (List.drop_sublist t gs) sg.nod:(gs.drop t).Nodup) |> fun z=>?_
      rw[show ((gk∘fun k:K2=>(k.1,k.2,-1,-1,(valD lk k).getD 0)) : K2→K2)=id from rfl,List.map_id]
      exact z
    · obtain ⟨p,hp,rfl⟩:=List.mem_map.mp hu
      obtain ⟨q,hq,rfl⟩:=List.mem_map.mp hw
      have h1:=k4_tk e
      obtain ⟨k,_,_,e2,_⟩:=rv q hq
      rw[e2] at h1
      exact rate_nb (tB p hp) h1
  · have hk : k ∈ gs := (sg.is k).mpr (by rw [hr]; rfl)
    obtain ⟨j,hj⟩:=List.mem_iff_getElem?.mp hk
    obtain ⟨v,e1,e2,e3,_⟩:=h.gr.giv j k hj
    rw[gq_app,totQ_append,rest_tot sg.nod]
    rw[hr] at e2
    have e2:=Option.some.inj e2
    rw[e1]
    show totQ k (gq ps)+(if k∈gs.drop t then v else 0)=r
    by_cases c:k∈gs.drop t
    · rw[if_pos c]; exact e2
    · rw[if_neg c]
      have:j<t:=Classical.byContradiction fun z=>c (List.mem_iff_getElem?.mpr ⟨j - t,by rw[List.getElem?_drop,show t+(j - t)=j by lia]; exact hj⟩)
      have:=e3 this
      lia
  · rcases List.mem_append.mp hp with z | z
    · exact .inr (tB p z)
    · obtain ⟨k,_,_,e2,_⟩:=rv p z
      exact .inl e2
  · have hk : k ∈ ts := (st.is k).mpr (by rw [hr]; rfl)
    obtain ⟨j,hj⟩:=List.mem_iff_getElem?.mp hk
    have e:=h.tak j k (List.getElem?_eq_some_iff.mp hj).1 hj
    rw[hr] at e
    rw[tq_app,totQ_append,totQ_not (qs:=tq (restP gs t lk))]
    · have:=Option.some.inj e
      lia
    · intro hm
      obtain ⟨q,hq,e⟩:=List.mem_map.mp hm
      obtain ⟨p,hp,rfl⟩:=List.mem_map.mp hq
      obtain ⟨k',_,_,e2,_⟩:=rv p hp
      have hb:k=Bt:=e.symm.trans e2
      rw[hb,rateAt_Bt] at hr
      cases hr
  · rcases h.gr.lev with z | ⟨L,z1,z2,z3⟩
    · refine .inl fun p hp=>?_
      rcases List.mem_append.mp hp with y | y
      · exact z p y
      · obtain ⟨k,_,e,_,_,r⟩:=rv p y
        rw[e]
        exact rate_nb r
    · refine .inr ⟨L,z1,fun p hp=>?_⟩
      rcases List.mem_append.mp hp with y | y
      · exact z2 p y
      · obtain ⟨j,k,hj,hk,rfl⟩:=rest_mem y
        have:=rate_nonneg ((sg.is k).mp (List.mem_of_getElem? hk))
        exact cross_low (by show k.1 ≠ -1; lia) (z3 j k hj hk)
  · have:=h.n
    have:=h.gr.tl
    unfold restP
    rw[List.length_append,List.length_map,List.length_drop]
    lia
end
theorem stp_of {ss:List S3} {kvs ps:KVs} (hk:Keyed kvs) (hl:kvs.length≤2400) (hv:∀k,valD kvs k=rateAt ss k) (hp:ps.Perm kvs) (hf:Fall ps) : Stp ss (ps.map (·.1)) where
  nod:=(hp.map _).nodup_iff.mpr hk
  dn:=fun i j a b hij ha hb=>by
    rw[List.getElem?_map] at ha hb
    obtain ⟨p,hp1,rfl⟩:=Option.map_eq_some_iff.mp ha
    obtain ⟨q,hq1,rfl⟩:=Option.map_eq_some_iff.mp hb
    obtain ⟨l1,e1⟩:=List.getElem?_eq_some_iff.mp hp1
    obtain ⟨l2,e2⟩:=List.getElem?_eq_some_iff.mp hq1
    rcases Nat.lt_or_eq_of_le hij with z | z
    · have:=List.pairwise_iff_getElem.mp hf i j l1 l2 z
      rw[e1,e2] at this
      exact this
    · subst z
      rw[←e1,←e2]
      exact Int.le_refl _
  is:=fun k=>by
    rw[(hp.map _).mem_iff,←hv]
    constructor
    · intro h
      cases e:valD kvs k with
      | none=>exact absurd h (valD_none.mp e)
      | some v=>rfl
    · intro h
      refine Classical.byContradiction fun z=>?_
      rw[valD_none.mpr z] at h
      cases h
  len:=by rw[List.length_map,hp.length_eq]; exact hl
end WS
namespace WS
open DL
structure Lst (g:Int) (hs cs:List S3) (m:Int) : Prop where
  z:0≤m
  ub:∀L:Int,lackF g hs cs L≤m
  at':m=0∨∃L:Nat,L<251∧m=lackF g hs cs (L:Nat)
theorem Looks.lst {g:Int} {hs cs:List S3} {ps:List P5} (Z:Looks g hs cs ps) (hh:∀s∈hs,HotOk s) (hc:∀s∈cs,ColdOk s) (ti:Tight g ps) : Lst g hs cs (totQ Bt (gq ps)):=by
  refine ⟨Z.heat0,fun L=>Z.lack_le hh hc L,?_⟩
  rcases ti with z | ⟨L,hL,z⟩
  · exact .inl ((tot_pos0 (f:=gk) Z.pos).2.mpr z)
  · exact .inr ⟨L,hL,(Z.lack_eq hh hc L).mpr z⟩
theorem above1_ge (b:S3) (L:Int) (hr:0≤b.2.2) : 0≤above1 b L:=by
  unfold above1
  exact Int.mul_nonneg hr (by unfold mx; split<;>lia)
theorem above1_le (b:S3) (L:Int) (hr:0≤b.2.2) (h:b.1≤b.2.1) : above1 b L≤b.2.2*(b.2.1 - b.1):=by
  unfold above1
  exact Int.mul_le_mul_of_nonneg_left (by unfold mx; split<;>split<;>lia) hr
theorem above1_mono (b:S3) {L M:Int} (hr:0≤b.2.2) (h:L≤M) : above1 b M≤above1 b L:=by
  unfold above1
  exact Int.mul_le_mul_of_nonneg_left (by unfold mx; (repeat (first | lia | split))<;>lia) hr
theorem above_mono {L M:Int} (h:L≤M) : ∀{bs:List S3},(∀b∈bs,0≤b.2.2)→above bs M≤above bs L
  | [],_=>Int.le_refl _
  | b::bs,hb=>by
    rw[above_cons,above_cons]
    have:=above_mono h (bs:=bs) fun x hx=>hb x (.tail _ hx)
    have:=above1_mono b (hb b (.head _)) h
    lia
theorem hotB_r {hs:List S3} (h:∀s∈hs,HotOk s) : ∀b∈hotB hs,0≤b.2.2:=fun b hb=>by
  obtain ⟨x,hx,rfl⟩:=List.mem_map.mp hb
  have:=(h x hx).r0
  show 0≤x.2.2
  lia
theorem lack_wider {g d:Int} {hs cs:List S3} (hh:∀s∈hs,HotOk s) (hd:0≤d) (L:Int) : lackF g hs cs L≤lackF (g+d) hs cs (L+d):=by
  unfold lackF
  rw[above_gap,above_gap,show L+d - (g+d)=L - g by lia]
  have:=above_mono (show L≤L+d by lia) (hotB_r hh)
  lia
theorem Lst.wider {g d:Int} {hs cs:List S3} {m m':Int} (h:Lst g hs cs m) (h':Lst (g+d) hs cs m') (hh:∀s∈hs,HotOk s) (hd:0≤d) : m≤m':=by
  rcases h.at' with e | ⟨L,_,e⟩
  · rw[e]; exact h'.z
  · have:=lack_wider (g:=g) (cs:=cs) hh hd L
    have:=h'.ub (L+d)
    lia
theorem above_snoc (bs:List S3) (b:S3) (L:Int) : above (bs++[b]) L=above bs L+above1 b L:=by
  unfold above
  rw[List.map_append,List.sum_append]
  simp
theorem lack_hot (g:Int) (hs cs:List S3) (x:S3) (L:Int) : lackF g (hs++[x]) cs L=lackF g hs cs L - above1 (x.2.1,x.1,x.2.2) L:=by
  unfold lackF
  rw[show hotB (hs++[x])=hotB hs++[(x.2.1,x.1,x.2.2)] by unfold hotB; rw[List.map_append]; rfl,above_snoc]
  lia
theorem lack_cold (g:Int) (hs cs:List S3) (x:S3) (L:Int) : lackF g hs (cs++[x]) L=lackF g hs cs L+above1 (x.1+g,x.2.1+g,x.2.2) L:=by
  unfold lackF
  rw[show coldB g (cs++[x])=coldB g cs++[(x.1+g,x.2.1+g,x.2.2)] by unfold coldB; rw[List.map_append]; rfl,above_snoc]
  lia
theorem Lst.hot {g:Int} {hs cs:List S3} {x:S3} {m m':Int} (h:Lst g hs cs m) (h':Lst g (hs++[x]) cs m') (hx:HotOk x) : m'≤m∧m - (x.1 - x.2.1)*x.2.2≤m':=by
  have r0:=hx.r0
  have lt:=hx.lt
  have lo:∀L,0≤above1 (x.2.1,x.1,x.2.2) L:=fun L=>above1_ge _ L (by show 0≤x.2.2; lia)
  have hi:∀L,above1 (x.2.1,x.1,x.2.2) L≤(x.1 - x.2.1)*x.2.2:=fun L=>by
    have:=above1_le (x.2.1,x.1,x.2.2) L (by show 0≤x.2.2; lia) (by show x.2.1≤x.1; lia)
    rw[Int.mul_comm]
    exact this
  have p0:0≤(x.1 - x.2.1)*x.2.2:=Int.mul_nonneg (by lia) (by lia)
  constructor
  · rcases h'.at' with e | ⟨L,_,e⟩
    · rw[e]; exact h.z
    · rw[lack_hot] at e
      have:=h.ub L
      have:=lo L
      lia
  · rcases h.at' with e | ⟨L,_,e⟩
    · have:=h'.z
      lia
    · have:=h'.ub L
      rw[lack_hot] at this
      have:=hi L
      lia
theorem Lst.cold {g:Int} {hs cs:List S3} {x:S3} {m m':Int} (h:Lst g hs cs m) (h':Lst g hs (cs++[x]) m') (hx:ColdOk x) : m≤m'∧m'≤m+(x.2.1 - x.1)*x.2.2:=by
  have r0:=hx.r0
  have lt:=hx.lt
  have lo:∀L,0≤above1 (x.1+g,x.2.1+g,x.2.2) L:=fun L=>above1_ge _ L (by show 0≤x.2.2; lia)
  have hi:∀L,above1 (x.1+g,x.2.1+g,x.2.2) L≤(x.2.1 - x.1)*x.2.2:=fun L=>by
    have:=above1_le (x.1+g,x.2.1+g,x.2.2) L (by show 0≤x.2.2; lia) (by show x.1+g≤x.2.1+g; lia)
    rw[Int.mul_comm]
    rw[show (x.1+g,x.2.1+g,x.2.2).2.1 - (x.1+g,x.2.1+g,x.2.2).1=x.2.1 - x.1 by show x.2.1+g - (x.1+g)=_; lia] at this
    exact this
  have p0:0≤(x.2.1 - x.1)*x.2.2:=Int.mul_nonneg (by lia) (by lia)
  constructor
  · rcases h.at' with e | ⟨L,_,e⟩
    · rw[e]; exact h'.z
    · have:=h'.ub L
      rw[lack_cold] at this
      have:=lo L
      lia
  · rcases h'.at' with e | ⟨L,_,e⟩
    · have:=h.z
      lia
    · rw[lack_cold] at e
      have:=h.ub L
      have:=hi L
      lia
theorem lack_zero {g:Int} {hs cs:List S3} (hg:0≤g) (hh:∀s∈hs,HotOk s) (hc:∀s∈cs,ColdOk s) : lackF g hs cs 0=(cs.map fun s=>(s.2.1 - s.1)*s.2.2).sum - (hs.map fun s=>(s.1 - s.2.1)*s.2.2).sum:=by
  rw[lackF_low hg hh hc (Int.le_refl 0)]
  unfold tot coldB hotB
  rw[List.map_map,List.map_map]
  congr 1
  · congr 1
    refine List.map_congr_left fun s _=>?_
    show s.2.2*(s.2.1+g - (s.1+g))=(s.2.1 - s.1)*s.2.2
    rw[Int.mul_comm,show s.2.1+g - (s.1+g)=s.2.1 - s.1 by lia]
  · congr 1
    refine List.map_congr_left fun s _=>?_
    show s.2.2*(s.1 - s.2.1)=(s.1 - s.2.1)*s.2.2
    rw[Int.mul_comm]
end WS
set_option maxHeartbeats 4000000
namespace WS
open PySem L2 DL
local macro_rules | `(tactic| walk_at "rs1")=>do let ns:=("dSeq dNext dRet dRetN dRetO dIfS dSet dSetP dSetF dSetD dSetDP dAug dAsg dApp dAppF dSetIx dSetIxF dAugIx dDrop dFor dForD dForS dVar dC dOp dI dIC dIsN dNotN dUn dNeg dNotV dAndV dOrV dTst dNot dAnd dOr dIfE dChain dNil dCons dTup dLst dCall dCB dII dAbs dInt dNoPart dPart dIsi dTrue dget dput frz frz1 B.val startD Tg.d putN diTup diRng1 diRng2 diRevr1 di_enumerateT di_zipT di_reversedT onlyP frD dLC List.map List.length dIx_lst dIx_tup dIx_scr dAdd_int dAdd_lst dAdd_str dAdd_tup dMul_int dEqS_int dEqS_str dEqS_bl dNeS_int dNeS_str dNeS_bl dLen_lst dLen_tup dLen_scr diList_is itL_lst itL_scr dSl_is slD_lst slD_scr slD_tup dSlS_is slSD_lst slSD_scr dCopy_lst dCopy_tup dCopy_scr diRng3 dSortK dRevL dMinD dNest dNestSet dNestPut dAppT dNewD dGetD dDPut dDAug dRetTO dUnN dForT dNestAug dSortD dNotB dSetT dExtT dAddL dAddR dSortW dSortT dLenSet dGet2 dDPutV dEqC dPopC dNeDict dTuple".splitOn " ").toArray.map fun s=>Lean.mkIdent s.toName; `(tactic| dsimp only[$[$ns:ident],*])
local macro_rules | `(tactic| walk_at "rs2")=>do let ns:=("dNext dRet dRetN dRetO dIfS dSet dSetP dSetF dSetD dSetDP dAug dAsg dApp dAppF dSetIx dSetIxF dAugIx dDrop dFor dForD dForS dVar dC dOp dI dIC dIsN dNotN dUn dNeg dNotV dAndV dOrV dTst dNot dAnd dOr dIfE dChain dNil dCons dTup dLst dCall dCB dII dAbs dInt dNoPart dPart dIsi dTrue dget dput frz frz1 B.val startD Tg.d putN diTup diRng1 diRng2 diRevr1 di_enumerateT di_zipT di_reversedT onlyP frD dLC List.map List.length dIx_lst dIx_tup dIx_scr dAdd_int dAdd_lst dAdd_str dAdd_tup dMul_int dEqS_int dEqS_str dEqS_bl dNeS_int dNeS_str dNeS_bl dLen_lst dLen_tup dLen_scr diList_is itL_lst itL_scr dSl_is slD_lst slD_scr slD_tup dSlS_is slSD_lst slSD_scr dCopy_lst dCopy_tup dCopy_scr diRng3 dSortK dRevL dMinD dNest dNestSet dNestPut dAppT dNewD dGetD dDPut dDAug dRetTO dUnN dForT dNestAug dSortD dNotB dSetT dExtT dAddL dAddR dSortW dSortT dLenSet dGet2 dDPutV dEqC dPopC dNeDict dTuple".splitOn " ").toArray.map fun s=>Lean.mkIdent s.toName; `(tactic| dsimp only[$[$ns:ident],*])
def top (i:Nat) : Stmt:=PySem.Challenge.pw_warmshare_k20_whole_gaps_and_streams.main.body.getD i (.Pass ⟨0,0,0,0⟩)
structure Blt (K:PySem.W.Frag) (mg:Str→Option Value) : Prop where
  b_len:mg "len" = none
  b_range:mg "range" = none
  b_min:mg "min" = none
  b_sum:mg "sum" = none
  b_enumerate:mg "enumerate" = none
  b_max:mg "max" = none
  b_all:mg "all" = none
  b_set:mg "set" = none
  b_sorted:mg "sorted" = none
  b_list:mg "list" = none
  b_isinstance:mg "isinstance" = none
  b_tuple:mg "tuple" = none
  g_BOUGHT:CT K mg "BOUGHT" (-1) (-1)
abbrev s_law_draw:Stmt:=top 10
theorem sc_law_draw:FnScope ["script","k","step","found","cell"] ["script","k"] (defScope s_law_draw):=⟨rfl,rfl,rfl,by decide +kernel,rfl,by decide +kernel,by decide +kernel⟩
abbrev s_law_stream:Stmt:=top 11
theorem sc_law_stream:FnScope ["number","low","wide","most","one","rate"] ["number","low","wide","most"] (defScope s_law_stream):=⟨rfl,rfl,rfl,by decide +kernel,rfl,by decide +kernel,by decide +kernel⟩
abbrev s_law_works:Stmt:=top 12
theorem sc_law_works:FnScope ["script","number","low","wide","gap","counts","most","streams","k","cell","hots"] ["script"] (defScope s_law_works):=⟨rfl,rfl,rfl,by decide +kernel,rfl,by decide +kernel,by decide +kernel⟩
abbrev s_heat_by_step:Stmt:=top 8
theorem sc_heat_by_step:FnScope ["pairs","sums","step","heat"] ["pairs"] (defScope s_heat_by_step):=⟨rfl,rfl,rfl,by decide +kernel,rfl,by decide +kernel,by decide +kernel⟩
abbrev s_rates_by_step:Stmt:=top 4
theorem sc_rates_by_step:FnScope ["streams","rates","number","stream","degree"] ["streams"] (defScope s_rates_by_step):=⟨rfl,rfl,rfl,by decide +kernel,rfl,by decide +kernel,by decide +kernel⟩
abbrev s_is_warm_enough:Stmt:=top 6
theorem sc_is_warm_enough:FnScope ["gap","giver","taker"] ["gap","giver","taker"] (defScope s_is_warm_enough):=⟨rfl,rfl,rfl,by decide +kernel,rfl,by decide +kernel,by decide +kernel⟩
abbrev s_may_pass:Stmt:=top 7
theorem sc_may_pass:FnScope ["gap","giver","taker","heat"] ["gap","giver","taker","heat"] (defScope s_may_pass):=⟨rfl,rfl,rfl,by decide +kernel,rfl,by decide +kernel,by decide +kernel⟩
abbrev s_looked_through:Stmt:=top 3
theorem sc_looked_through:FnScope ["works","passes","given","gotten","heat","cold"] ["works","passes"] (defScope s_looked_through):=⟨rfl,rfl,rfl,by decide +kernel,rfl,by decide +kernel,by decide +kernel⟩
abbrev s_warmest_first:Stmt:=top 5
theorem sc_warmest_first:FnScope ["steps"] ["steps"] (defScope s_warmest_first):=⟨rfl,rfl,rfl,by decide +kernel,rfl,by decide +kernel,by decide +kernel⟩
abbrev s_shared:Stmt:=top 2
theorem sc_shared:FnScope ["works","left","wanted","givers","passes","turn","taker","need","giver","heat"] ["works"] (defScope s_shared):=⟨rfl,rfl,rfl,by decide +kernel,rfl,by decide +kernel,by decide +kernel⟩
abbrev s_law_bought:Stmt:=top 13
theorem sc_law_bought:FnScope ["works","found","gets","gives"] ["works"] (defScope s_law_bought):=⟨rfl,rfl,rfl,by decide +kernel,rfl,by decide +kernel,by decide +kernel⟩
abbrev s_law:Stmt:=top 14
theorem sc_law:FnScope ["script","gap","hots","colds","start","goal","rate","heat","first","wider","more","less"] ["script"] (defScope s_law):=⟨rfl,rfl,rfl,by decide +kernel,rfl,by decide +kernel,by decide +kernel⟩
abbrev qnL:Str:="warmest_first" ++ ".<locals>." ++ "<lambda>"
section
variable {Pt:Addr} {P:Program} {w:World} {K:PySem.W.Frag} {mg:Str→Option Value} {base:Heap} {f:Addr} {fd:FuncData}
theorem mulR {i j:Int} (h : -(2 ^ 64)<j∧j<2 ^ 64) : CMul i j:=.inr h
theorem mulL {i j:Int} (h : -(2 ^ 64)<i∧i<2 ^ 64) : CMul i j:=.inl h
def d3 (x:S3) : D:=.tup [.int x.1,.int x.2.1,.int x.2.2]
def dW (g:Int) (hs cs:List S3) : D:=.tup [.int g,.lst (hs.map d3),.lst (cs.map d3)]
theorem nos_d3s:∀l:List S3,noss (l.map d3)=true
  | []=>noss_nil
  | x::l=>by rw[List.map_cons,noss_cons,nos_d3s l,show nos (d3 x)=true by unfold d3; simp only[nos_tup,noss_cons,noss_nil,nos_int,Bool.and_true]]; rfl
theorem dep_d3s:∀l:List S3,deps (l.map d3)≤1
  | []=>by rw[List.map_nil,deps_nil]; exact Nat.zero_le _
  | x::l=>by
    have h:=dep_d3s l
    have e:dep (d3 x)=1:=by unfold d3; simp only[dep_tup,deps_cons,deps_nil,dep_int]; rfl
    rw[List.map_cons,deps_cons,e]
    lia
structure WksOk (g:Int) (hs cs:List S3) : Prop where
  g0:0≤g
  g1:g≤50
  nh:hs.length≤12
  nc:cs.length≤12
  hot:∀x∈hs,HotOk x
  cold:∀x∈cs,ColdOk x
theorem cutT {t1 u:DTS} {E:DEnds} {ρ:DEnv} (C:DEnv→Prop) (tail:∀ρ,C ρ→u E ρ) (head:∀N:DEnv→Prop,(∀ρ,C ρ→N ρ)→t1 { E with nx:=N } ρ) : dSeq t1 u E ρ:=head _ tail
theorem d3_inj (p q:S3) (h:d3 p=d3 q) : p=q:=by
  obtain ⟨a,b,c⟩:=p
  obtain ⟨a',b',c'⟩:=q
  unfold d3 at h
  simp only[D.tup.injEq,List.cons.injEq,D.int.injEq,and_true] at h
  obtain ⟨rfl,rfl,rfl⟩:=h
  rfl
theorem nos_d5s:∀l:List P5,noss (l.map d5)=true
  | []=>noss_nil
  | x::l=>by rw[List.map_cons,noss_cons,nos_d5s l,show nos (d5 x)=true by unfold d5; simp only[nos_tup,noss_cons,noss_nil,nos_int,Bool.and_true]]; rfl
def r_is_warm_enough:DR:=fun ds P=>∃g a b c d:Int,ds = [.int g,.tup [.int a,.int b],.tup [.int c,.int d]]∧P (.p (.bl (decide (b≥d+g))))
theorem ok_is_warm_enough (T:Blt K mg) (F:Fun K "is_warm_enough" "is_warm_enough" s_is_warm_enough f fd) : FnOk P w K mg base CX0 1 f fd ["gap","giver","taker"] (spD K r_is_warm_enough):=by
  refine okD F sc_is_warm_enough (fun ds Q h=>by obtain ⟨g,a,b,c,d,rfl,q⟩:=h; rfl) fun cdv A outer s H E hr=>⟨_,(dss_one (ds_ret (de_cmp od_ge (de_ix (dv 1) de_int) (de_op od_plus (de_ix (dv 2) de_int) (dv 0)) (nomark _)))),fun ds Q h=>?_⟩
  obtain ⟨g,a,b,c,d,rfl,q⟩:=h
  repeat (first | walk_at "rs1" | set_option simprocs false in simp only[ixk0,ixk1,ixk2,ixk3,ixk4,ex_at])
  exact q
structure SsOk (ss:List S3) : Prop where
  n:ss.length≤12
  w:∀s∈ss,0≤lo3 s∧lo3 s≤hi3 s∧hi3 s≤200
theorem ss_hot {hs:List S3} (h:∀s∈hs,HotOk s) (n:hs.length≤12) : SsOk hs:=⟨n,fun s hs=>by
  have a:=(h s hs).lo
  have b:=(h s hs).lt
  have c:=(h s hs).hi
  unfold lo3 hi3
  lia⟩
theorem ss_cold {cs:List S3} (h:∀s∈cs,ColdOk s) (n:cs.length≤12) : SsOk cs:=⟨n,fun s hs=>by
  have a:=(h s hs).lo
  have b:=(h s hs).lt
  have c:=(h s hs).hi
  unfold lo3 hi3
  lia⟩
def r_rates_by_step:DR:=fun ds P=>∃ss:List S3,ds = [.lst (ss.map d3)]∧SsOk ss∧∀kvs:KVs,Keyed kvs→kvs.length≤2400→(∀k,valD kvs k=rateAt ss k)→P (.o (.dct kvs))
theorem ok_rates_by_step (T:Blt K mg) (F:Fun K "rates_by_step" "rates_by_step" s_rates_by_step f fd) : FnOk P w K mg base CX0 1 f fd ["streams"] (spD K r_rates_by_step):=by
  refine okD F sc_rates_by_step (fun ds Q h=>by obtain ⟨ss,rfl,ok,q⟩:=h; rfl) fun cdv A outer s H E hr=>⟨_,(dss_cons (ds_set (i:=1) sc_rates_by_step.nd rfl (Or.inl rfl) de_dnew)
      (dss_cons (ds_for (g:=(.t [2,3])) PassesOwn.never rfl (di_enumerate (by rfl) T.b_enumerate (da_cons (dv 0) da_nil)) (pg_seq rfl (pgs_cons (pg_name (i:=2) sc_rates_by_step.nd rfl (Or.inl rfl)) (pgs_cons (pg_name (i:=3) sc_rates_by_step.nd rfl (Or.inl rfl)) pgs_nil))) (dss_one (ds_if (dt_cmp od_gt (de_ix (dv 3) de_int) de_int (nomark _)) (dss_one (ds_forS (g:=(.n 4)) PassesOwn.never rfl (dis_rng2 (by rfl) T.b_range (da_cons (de_callB (cd_minT rfl) (by rfl) T.b_min PyProof.Rows.boot_min (da_cons (de_slice (dv 3) (do_some de_int) (do_some de_int)) da_nil)) (da_cons (de_callB (cd_maxT rfl) (by rfl) T.b_max PyProof.Rows.boot_max (da_cons (de_slice (dv 3) (do_some de_int) (do_some de_int)) da_nil)) da_nil))) (pg_name (i:=4) sc_rates_by_step.nd rfl (Or.inl rfl)) (dss_one (ds_dput (i:=1) hr rfl (by first | exact Or.inl rfl | exact Or.inr (Or.inl rfl) | exact Or.inr (Or.inr rfl)) (dv 2) (dv 4) (de_ix (dv 3) de_int))))) dss_nil)))
      (dss_one (ds_retO 1)))),fun ds Q h=>?_⟩
  obtain ⟨ss,rfl,ok,q⟩:=h
  repeat (first | walk_at "rs1" | set_option simprocs false in simp only[ixk0,ixk1,ixk2,ixk3,ixk4,ex_at])
  have sl:sizeLine=16777216:=sizeLine_eq
  refine for_nat (fun i ρ=>∃kvs a2 a3 a4,ρ = [some (.p (.lst (ss.map d3))),some (.o (.dct kvs)),a2,a3,a4]∧Keyed kvs∧kvs.length≤200*i∧∀k,valD kvs k=rateAt (ss.take i) k) ⟨[],none,none,none,rfl,.nil,Nat.le_refl _,fun k=>by
    rw[List.take_zero]; unfold rateAt strAt; split<;>first | rfl | (rename_i h; split at h<;>cases h)⟩ ?_ ?_
  · rintro i x ρ hx ⟨kvs,a2,a3,a4,rfl,hk,hl,hv⟩
    obtain ⟨y,hy,rfl⟩:=enumFrom_get hx
    rw[List.getElem?_map] at hy
    cases es:ss[i]? with
    | none=>rw[es] at hy; cases hy
    | some s =>
    rw[es] at hy
    cases hy
    have hi:=(List.getElem?_eq_some_iff.mp es).1
    have hn:=ok.n
    have hw:=ok.w s (List.mem_of_getElem? es)
    have tl:(ss.take i).length=i:=by rw[List.length_take]; lia
    repeat (first | dsimp only[d3] | walk_at "rs1" | set_option simprocs false in simp only[ixk0,ixk1,ixk2,ixk3,ixk4,ex_at])
    refine ⟨fun h0=>⟨by decide,⟨[s.1,s.2.1],rfl,by simp,fun m hm hle=>⟨by decide,[s.1,s.2.1],rfl,by simp,fun M hM hge=>?_⟩⟩⟩,fun h0=>?_⟩
    · have em:m=lo3 s:=by
        unfold lo3
        have h1:=hle s.1 (.head _)
        have h2:=hle s.2.1 (.tail _ (.head _))
        simp only[List.mem_cons,List.not_mem_nil,or_false] at hm
        lia
      have eM:M=hi3 s:=by
        unfold hi3
        have h1:=hge s.1 (.head _)
        have h2:=hge s.2.1 (.tail _ (.head _))
        simp only[List.mem_cons,List.not_mem_nil,or_false] at hM
        lia
      subst em
      subst eM
      rw[decide_eq_true_eq] at h0
      repeat (first | walk_at "rs1" | set_option simprocs false in simp only[ixk0,ixk1,ixk2,ixk3,ixk4,ex_at])
      refine ⟨⟨by lia,by lia,by lia,by lia⟩,?_⟩
      refine for_nat (fun j ρ=>∃kvs' a4,ρ = [some (.p (.lst (ss.map d3))),some (.o (.dct kvs')),some (.p (.int ((0+i:Nat) : Int))),some (.p (.tup [.int s.1,.int s.2.1,.int s.2.2])),a4]∧Keyed kvs'∧kvs'.length≤200*i+j∧∀k:K2,valD kvs' k=if k.1=(i:Int)∧lo3 s≤k.2∧k.2<lo3 s+(j:Nat) then some s.2.2 else rateAt (ss.take i) k) ⟨kvs,a4,rfl,hk,hl,fun k=>by rw[if_neg (by lia)]; exact hv k⟩ ?_ ?_
      · rintro j y ρ hy ⟨kvs',a4',rfl,hk',hl',hv'⟩
        obtain ⟨hj,rfl⟩:=upFrom_get hy
        repeat (first | walk_at "rs1" | set_option simprocs false in simp only[ixk0,ixk1,ixk2,ixk3,ixk4,ex_at])
        refine ⟨by lia,_,_,rfl,put_keyed hk' _ _,by have:=put_len kvs' (((0+i:Nat) : Int),lo3 s+(j:Nat)) s.2.2; lia,fun k=>?_⟩
        rw[valD_put,hv']
        obtain ⟨k1,k2'⟩:=k
        dsimp only
        by_cases c:((0+i:Nat) : Int)=k1∧lo3 s+(j:Nat)=k2'
        · rw[if_pos (by rw[c.1,c.2]),if_pos (by lia)]
        · rw [if_neg (by rw [Prod.mk.injEq]; exact c)]
          by_cases c2:k1=(i:Int)∧lo3 s≤k2'∧k2'<lo3 s+(j:Nat)
          · rw[if_pos c2,if_pos (by lia)]
          · rw[if_neg c2,if_neg (by lia)]
      · rintro ρ ⟨kvs',a4',rfl,hk',hl',hv'⟩
        rw[upFrom_len] at hl' hv'
        refine ⟨kvs',_,_,_,rfl,hk',by lia,fun k=>?_⟩
        rw[hv',WS.take_snoc es,rateAt_snoc,tl]
        by_cases c:k.1=(i:Int)
        · rw[if_pos c]
          by_cases c2:lo3 s≤k.2∧k.2<hi3 s
          · rw[if_pos ⟨c,c2.1,by lia⟩,if_pos ⟨h0,c2⟩]
          · rw[if_neg (by lia),if_neg (fun z=>c2 z.2),rateAt_out (by rw[tl]; exact c)]
        · rw[if_neg (fun z=>c z.1),if_neg c]
    · rw[decide_eq_false_iff_not] at h0
      refine ⟨kvs,_,_,_,rfl,hk,by lia,fun k=>?_⟩
      rw[hv,WS.take_snoc es,rateAt_snoc,tl]
      by_cases c:k.1=(i:Int)
      · rw[if_pos c,if_neg (fun z=>h0 z.1),rateAt_out (by rw[tl]; exact c)]
      · rw[if_neg c]
  · rintro ρ ⟨kvs,a2,a3,a4,rfl,hk,hl,hv⟩
    rw[enumFrom_len,List.length_map] at *
    rw[List.take_length] at hv
    repeat (first | walk_at "rs1" | set_option simprocs false in simp only[ixk0,ixk1,ixk2,ixk3,ixk4,ex_at])
    have:=ok.n
    exact q kvs hk (by lia) hv
def dKy (k:K2) : D:=.tup [.int k.1,.int k.2]
def l5 (p:P5) : List Int:=[p.1,p.2.1,p.2.2.1,p.2.2.2.1,p.2.2.2.2]
theorem flat_keys:∀ks:List K2,(ks.map dKy).all D.flat=true
  | []=>rfl
  | k::ks=>by rw[List.map_cons,List.all_cons,flat_keys ks]; rfl
theorem flat_5:∀ps:List P5,(ps.map d5).all D.flat=true
  | []=>rfl
  | k::ks=>by rw[List.map_cons,List.all_cons,flat_5 ks]; rfl
def r_warmest_first:DR:=fun ds P=>∃kvs:KVs,ds = [.dct kvs]∧∀ps:KVs,ps.Perm kvs→Fall ps→P (.o (.lst ((ps.map (·.1)).map dKy)))
theorem ok_warmest_first (kb:K.In base) (hBl:BltAt mg base) (T:Blt K mg) (F:FunC K "warmest_first" "warmest_first" s_warmest_first f fd Pt) : FnOk P w K mg base CX0 1 f fd ["steps"] (spDT K Pt qnL r_warmest_first):=by
  refine okDC F sc_warmest_first (fun ds Q h=>by obtain ⟨kvs,rfl,q⟩:=h; rfl) fun cdv A outer s H E hr hT hC=>⟨_,(dss_one (ds_ret (de_sortW (x:="step") (by rfl) T.b_sorted (by rfl) T.b_list rfl (hr.mono (by decide)) rfl hC kb hBl hT rfl rfl (fun _ _ _ _ _=>rfl) rfl rfl rfl (by decide) rfl (by decide) (da_cons (dv 0) da_nil)))),fun ds Q h=>?_⟩
  obtain ⟨kvs,rfl,q⟩:=h
  repeat (first | walk_at "rs1" | set_option simprocs false in simp only[ixk0,ixk1,ixk2,ixk3,ixk4,ex_at])
  intro ps hp hf
  have:=q ps hp hf
  rw[List.map_map] at this
  exact this
def r_shared:DR:=fun ds P=>∃g hs cs,ds = [dW g hs cs]∧WksOk g hs cs∧∀ps:List P5,Looks g hs cs ps→LexUp (ps.map l5)→ps.length≤4800→Tight g ps→P (.o (.lst (ps.map d5)))
def muS (n:Nat) (ρ:DEnv) : Nat:=match dget ρ 5,dget ρ 7 with
  | some (.p (.int t)),some (.p (.int m))=>2*(n - t.toNat)+(if 0<m then 1 else 0)
  | _,_=>0
theorem ok_shared (T:Blt K mg) (F_rates_by_step:Fn P w K mg base "rates_by_step" 1 ["streams"] (spD K r_rates_by_step)) (F_warmest_first:Fn P w K mg base "warmest_first" 1 ["steps"] (spDT K Pt qnL r_warmest_first)) (F_is_warm_enough:Fn P w K mg base "is_warm_enough" 1 ["gap","giver","taker"] (spD K r_is_warm_enough)) (F:Fun K "shared" "shared" s_shared f fd) : FnOk P w K mg base CX0 2 f fd ["works"] (spDT K Pt qnL r_shared):=by
  refine okDT F sc_shared (fun ds Q h=>by obtain ⟨g,hs,cs,rfl,ok,q⟩:=h; rfl) fun cdv A outer s H E hr hT=>⟨_,(dss_cons (ds_set (i:=1) sc_shared.nd rfl (Or.inr rfl) (de_fn F_rates_by_step (hr.mono (by decide)) (by rfl) (da_cons (de_ix (dv 0) de_int) da_nil)))
      (dss_cons (ds_setP (i:=2) sc_shared.nd rfl (Or.inl rfl) (de_fn F_rates_by_step (hr.mono (by decide)) (by rfl) (da_cons (de_ix (dv 0) de_int) da_nil)))
      (dss_cons (ds_setT (i:=3) sc_shared.nd rfl (Or.inl rfl) (de_fnT hT F_warmest_first (hr.mono (by decide)) (by rfl) (da_cons (dv 1) da_nil)))
      (dss_cons (ds_set (i:=4) sc_shared.nd rfl (Or.inl rfl) (de_lst da_nil))
      (dss_cons (ds_setP (i:=5) sc_shared.nd rfl (Or.inl rfl) de_int)
      (dss_cons (ds_for (g:=(.n 6)) PassesOwn.never rfl (di_list (de_fnT hT F_warmest_first (hr.mono (by decide)) (by rfl) (da_cons (dv 2) da_nil))) (pg_name (i:=6) sc_shared.nd rfl (Or.inl rfl)) (dss_cons (ds_setP (i:=7) sc_shared.nd rfl (Or.inl rfl) (de_dget hr (dv 2) (dv 6)))
      (dss_cons (ds_while PassesOwn.never (dw_and (dt_cmp od_gt (dv 7) de_int (nomark _)) (dw_and (dt_cmp od_lt (dv 5) (de_callB cd_len (by rfl) T.b_len PySem.boot_len (da_cons (dv 3) da_nil)) (nomark _)) (dw_and1 (dt_val (de_fn F_is_warm_enough (hr.mono (by decide)) (by rfl) (da_cons (de_ix (dv 0) de_int) (da_cons (de_ix (dv 3) (dv 5)) (da_cons (dv 6) da_nil)))))))).dt (dss_cons (ds_setP (i:=8) sc_shared.nd rfl (Or.inl rfl) (de_ix (dv 3) (dv 5)))
      (dss_cons (ds_setF (i:=9) sc_shared.nd rfl (Or.inl rfl) (de_callB (cd_min2 rfl) (by rfl) T.b_min PyProof.Rows.boot_min (da_cons (dv 7) (da_cons (de_dget hr (dv 1) (dv 8)) da_nil))))
      (dss_cons (ds_app (i:=4) rfl (by first | exact Or.inl rfl | exact Or.inr (Or.inl rfl) | exact Or.inr (Or.inr rfl)) (de_op od_plus (de_op od_plus (dv 8) (dv 6)) (de_tup (da_cons (dv 9) da_nil))))
      (dss_cons (ds_aug (i:=7) sc_shared.nd rfl (Or.inl rfl) (dv 9) ip_sub)
      (dss_cons (ds_daug (ps_augS (pv 1) (dv 8).pe (get_dict (hu_of hr)) (dv 9).pe ip_sub (set_dict (hu_of hr))))
      (dss_one (ds_if (dt_cmp od_eq (de_dget hr (dv 1) (dv 8)) de_int (nomark _)) (dss_one (ds_aug (i:=5) sc_shared.nd rfl (Or.inl rfl) de_int ip_add)) dss_nil))))))))
      (dss_one (ds_if (dt_cmp od_gt (dv 7) de_int (nomark _)) (dss_one (ds_app (i:=4) rfl (by first | exact Or.inl rfl | exact Or.inr (Or.inl rfl) | exact Or.inr (Or.inr rfl)) (de_op od_plus (de_addL (dv 6) T.g_BOUGHT (by rfl)) (de_tup (da_cons (dv 7) da_nil))))) dss_nil)))))
      (dss_cons (ds_extT (i:=4) rfl (by first | exact Or.inl rfl | exact Or.inr (Or.inl rfl) | exact Or.inr (Or.inr rfl)) (de_lc (g:=(.n 0)) (tc:=dTrue) (te:=(dOp _ (dAddR _ _ (dVar 0)) (dTup (dCons (dOp dGetD (dVar 1) (dVar 0)) dNil)))) (sc0:=defScope s_shared) (N0:=["works","left","wanted","givers","passes","turn","taker","need","giver","heat"]) ["giver","left"] [none,some 1] rfl (di_list (de_slice (dv 3) (do_some (dv 5)) do_none)) (fun _ _ _ _ _=>(pg_name (i:=0) (show (["giver","left"] : List Str).Nodup by decide +kernel) rfl (Or.inl rfl))) (fun _ _ _ _ _=>difs_nil) (fun _ _ _ _ _=>(de_op od_plus (de_addR (dv 0) T.g_BOUGHT (by rfl)) (de_tup (da_cons (de_dget hr (dv 1) (dv 0)) da_nil))))))
      (dss_one (ds_ret (de_callB cd_sortT (by rfl) T.b_sorted PyProof.Rows.boot_sorted (da_cons (dv 4) da_nil))))))))))),fun ds Q h=>?_⟩
  obtain ⟨g,hs,cs,rfl,ok,q⟩:=h
  have sl:sizeLine=16777216:=sizeLine_eq
  have oh:=ss_hot ok.hot ok.nh
  have oc:=ss_cold ok.cold ok.nc
  refine cutT (fun ρ=>∃hk:KVs,Keyed hk∧hk.length≤2400∧(∀k,valD hk k=rateAt hs k)∧ρ = [some (.p (dW g hs cs)),some (.o (.dct hk)),none,none,none,none,none,none,none,none]) ?_ fun N hN=>?_
  rotate_left
  · repeat (first | dsimp only[dW] | walk_at "rs1" | set_option simprocs false in simp only[ixk0,ixk1,ixk2,ixk3,ixk4,ex_at])
    exact ⟨hs,rfl,oh,fun kvs hk hl hv=>hN _ ⟨kvs,hk,hl,hv,rfl⟩⟩
  rintro ρ ⟨hk,kh,lh,vh,rfl⟩
  refine cutT (fun ρ=>∃ck:KVs,Keyed ck∧ck.length≤2400∧(∀k,valD ck k=rateAt cs k)∧ρ = [some (.p (dW g hs cs)),some (.o (.dct hk)),some (.p (.dct ck)),none,none,none,none,none,none,none]) ?_ fun N hN=>?_
  rotate_left
  · repeat (first | dsimp only[dW] | walk_at "rs1" | set_option simprocs false in simp only[ixk0,ixk1,ixk2,ixk3,ixk4,ex_at])
    exact ⟨cs,rfl,oc,fun kvs hk hl hv=>hN _ ⟨kvs,hk,hl,hv,rfl⟩⟩
  rintro ρ ⟨ck,kc,lc,vc,rfl⟩
  refine cutT (fun ρ=>∃gs:List K2,Stp hs gs∧ρ = [some (.p (dW g hs cs)),some (.o (.dct hk)),some (.p (.dct ck)),some (.p (.lst (gs.map dKy))),none,none,none,none,none,none]) ?_ fun N hN=>?_
  rotate_left
  · repeat (first | walk_at "rs1" | set_option simprocs false in simp only[ixk0,ixk1,ixk2,ixk3,ixk4,ex_at])
    exact ⟨hk,rfl,fun ps hp hf=>⟨flat_keys _,hN _ ⟨_,stp_of kh lh vh hp hf,rfl⟩⟩⟩
  rintro ρ ⟨gs,sg,rfl⟩
  refine cutT (fun ρ=>ρ = [some (.p (dW g hs cs)),some (.o (.dct hk)),some (.p (.dct ck)),some (.p (.lst (gs.map dKy))),some (.o (.lst [])),none,none,none,none,none]) ?_ fun N hN=>?_
  rotate_left
  · repeat (first | walk_at "rs1" | set_option simprocs false in simp only[ixk0,ixk1,ixk2,ixk3,ixk4,ex_at])
    exact hN _ rfl
  rintro ρ rfl
  refine cutT (fun ρ=>ρ = [some (.p (dW g hs cs)),some (.o (.dct hk)),some (.p (.dct ck)),some (.p (.lst (gs.map dKy))),some (.o (.lst [])),some (.p (.int 0)),none,none,none,none]) ?_ fun N hN=>?_
  rotate_left
  · repeat (first | walk_at "rs1" | set_option simprocs false in simp only[ixk0,ixk1,ixk2,ixk3,ixk4,ex_at])
    exact hN _ rfl
  rintro ρ rfl
  have lg:=sg.len
  refine cutT (fun ρ=>∃(ts:List K2) (t:Nat) (lk:KVs) (ps:List P5) (a6 a7 a8 a9:Option B),Stp cs ts∧Gi g hs cs gs ts ts.length t lk ps∧ρ = [some (.p (dW g hs cs)),some (.o (.dct lk)),some (.p (.dct ck)),some (.p (.lst (gs.map dKy))),some (.o (.lst (ps.map d5))),some (.p (.int (t:Nat))),a6,a7,a8,a9]) ?_ fun N hN=>?_
  rotate_left
  · repeat (first | walk_at "rs2" | set_option simprocs false in simp only[ixk0,ixk1,ixk2,ixk3,ixk4,ex_at])
    refine ⟨ck,rfl,fun cp hp hf=>?_⟩
    have st:=stp_of kc lc vc hp hf
    generalize cp.map (·.1)=ts at st
    have lt:=st.len
    refine for_nat (fun i ρ=>∃(t:Nat) (lk:KVs) (ps:List P5) (a6 a7 a8 a9:Option B),Gi g hs cs gs ts i t lk ps∧ρ = [some (.p (dW g hs cs)),some (.o (.dct lk)),some (.p (.dct ck)),some (.p (.lst (gs.map dKy))),some (.o (.lst (ps.map d5))),some (.p (.int (t:Nat))),a6,a7,a8,a9]) ⟨0,hk,[],none,none,none,none,Gi.start sg lh vh,rfl⟩ ?_ ?_
    · rintro i x ρ hx ⟨t,lk,ps,a6,a7,a8,a9,G,rfl⟩
      rw[List.getElem?_map] at hx
      obtain ⟨k,hk1,rfl⟩:=Option.map_eq_some_iff.mp hx
      have hi:i<ts.length:=(List.getElem?_eq_some_iff.mp hk1).1
      obtain ⟨r,hr⟩:=Option.isSome_iff_exists.mp ((st.is k).mp (List.mem_of_getElem? hk1))
      have kb:0≤k.2+g∧k.2+g≤250:=by
        obtain ⟨s,h1,h2,h3,h4,_⟩:=rate_at hr
        have:=oc.w s (strAt_some h1).2.2
        have:=ok.g0
        have:=ok.g1
        lia
      have G1:=G.take st hk1 hr
      have hv:valD ck (k.1,k.2)=some r:=(vc k).trans hr
      dsimp only[Tg.d,dput]
      refine cutT (fun ρ=>ρ = [some (.p (dW g hs cs)),some (.o (.dct lk)),some (.p (.dct ck)),some (.p (.lst (gs.map dKy))),some (.o (.lst (ps.map d5))),some (.p (.int (t:Nat))),some (.p (dKy k)),some (.p (.int r)),a8,a9]) ?_ fun N hN=>?_
      rotate_left
      · repeat (first | dsimp only[dKy] | walk_at "rs1" | set_option simprocs false in simp only[ixk0,ixk1,ixk2,ixk3,ixk4,ex_at])
        exact ⟨r,hv,hN _ rfl⟩
      rintro ρ rfl
      refine cutT (fun ρ=>∃(t:Nat) (n:Int) (lk:KVs) (ps:List P5) (a8 a9:Option B),Gw g hs cs gs ts i k t n lk ps∧(n=0∨∀a,gs[t]?=some a→a.2<k.2+g)∧ρ = [some (.p (dW g hs cs)),some (.o (.dct lk)),some (.p (.dct ck)),some (.p (.lst (gs.map dKy))),some (.o (.lst (ps.map d5))),some (.p (.int (t:Nat))),some (.p (dKy k)),some (.p (.int n)),a8,a9]) ?_ fun N hN=>?_
      rotate_left
      · unfold dWhile
        refine ⟨fun ρ=>∃(t:Nat) (n:Int) (lk:KVs) (ps:List P5) (a8 a9:Option B),Gw g hs cs gs ts i k t n lk ps∧ρ = [some (.p (dW g hs cs)),some (.o (.dct lk)),some (.p (.dct ck)),some (.p (.lst (gs.map dKy))),some (.o (.lst (ps.map d5))),some (.p (.int (t:Nat))),some (.p (dKy k)),some (.p (.int n)),a8,a9],muS gs.length,⟨t,r,lk,ps,a8,a9,G1,rfl⟩,?_⟩
        clear G G1
        rintro ρ ⟨t,n,lk,ps,a8,a9,G,rfl⟩
        repeat (first | walk_at "rs2" | set_option simprocs false in simp only[ixk0,ixk1,ixk2,ixk3,ixk4,ex_at])
        rw[List.length_map]
        refine ⟨fun h1=>⟨fun h2=>?_,fun h2=>⟨fun z=>(nomatch z),fun _=>hN _ ⟨t,n,lk,ps,a8,a9,G,.inr fun a ha=>?_,rfl⟩⟩⟩,fun h1=>⟨fun z=>(nomatch z),fun _=>hN _ ⟨t,n,lk,ps,a8,a9,G,.inl ?_,rfl⟩⟩⟩
        rotate_left
        · have:=(List.getElem?_eq_some_iff.mp ha).1
          have:=of_decide_eq_false h2
          lia
        · have:=of_decide_eq_false h1
          have:=G.n0
          lia
        have n1:=of_decide_eq_true h1
        have t1:t<gs.length:=by
          have:=of_decide_eq_true h2
          lia
        have ha:=List.getElem?_eq_getElem t1
        generalize gs[t]=a at ha
        have g1:atI (gs.map dKy) ((t:Nat) : Int)=some (dKy a):=atI_of ha
        obtain ⟨v,hv1,_⟩:=G.gr.giv t a ha
        have hv2:valD lk (a.1,a.2)=some v:=hv1
        have llk:=G.gr.ln
        have lps:=G.n1
        repeat (first | dsimp only[dW] | walk_at "rs2" | set_option simprocs false in simp only[ixk0,ixk1,ixk2,ixk3,ixk4,ex_at,g1])
        refine ⟨g,a.1,a.2,k.1,k.2,rfl,?_⟩
        repeat (first | walk_at "rs2" | set_option simprocs false in simp only[ixk0,ixk1,ixk2,ixk3,ixk4,ex_at])
        refine ⟨fun h3=>?_,fun h3=>hN _ ⟨t,n,lk,ps,a8,a9,G,.inr fun b hb=>?_,rfl⟩⟩
        rotate_left
        · rw[ha] at hb
          cases hb
          have:=of_decide_eq_false h3
          lia
        have hw:=of_decide_eq_true h3
        refine cutT (fun ρ=>ρ = [some (.p (dW g hs cs)),some (.o (.dct lk)),some (.p (.dct ck)),some (.p (.lst (gs.map dKy))),some (.o (.lst (ps.map d5))),some (.p (.int (t:Nat))),some (.p (dKy k)),some (.p (.int n)),some (.p (dKy a)),a9]) ?_ fun N hN=>?_
        rotate_left
        · repeat (first | walk_at "rs1" | set_option simprocs false in simp only[ixk0,ixk1,ixk2,ixk3,ixk4,ex_at,g1])
          exact hN _ rfl
        rintro ρ rfl
        obtain ⟨m,hm⟩ : ∃m,m=if v<n then v else n:=⟨_,rfl⟩
        refine cutT (fun ρ=>ρ = [some (.p (dW g hs cs)),some (.o (.dct lk)),some (.p (.dct ck)),some (.p (.lst (gs.map dKy))),some (.o (.lst (ps.map d5))),some (.p (.int (t:Nat))),some (.p (dKy k)),some (.p (.int n)),some (.p (dKy a)),some (.p (.int m))]) ?_ fun N hN=>?_
        rotate_left
        · repeat (first | dsimp only[dKy] | walk_at "rs1" | set_option simprocs false in simp only[ixk0,ixk1,ixk2,ixk3,ixk4,ex_at])
          exact ⟨v,hv2,rfl,hN _ (by rw[hm]; rfl)⟩
        rintro ρ rfl
        refine cutT (fun ρ=>ρ = [some (.p (dW g hs cs)),some (.o (.dct lk)),some (.p (.dct ck)),some (.p (.lst (gs.map dKy))),some (.o (.lst ((ps++[(a.1,a.2,k.1,k.2,m)]).map d5))),some (.p (.int (t:Nat))),some (.p (dKy k)),some (.p (.int n)),some (.p (dKy a)),some (.p (.int m))]) ?_ fun N hN=>?_
        rotate_left
        · repeat (first | dsimp only[dKy] | walk_at "rs1" | set_option simprocs false in simp only[ixk0,ixk1,ixk2,ixk3,ixk4,ex_at])
          exact ⟨(fun z=>nomatch z),(fun z=>nomatch z),by rw[sl]; show 4≤16777216; decide,(fun z=>nomatch z),(fun z=>nomatch z),by rw[sl]; show 5≤16777216; decide,by rw[List.length_map]; lia,hN _ (by rw[List.map_append]; rfl)⟩
        rintro ρ rfl
        refine cutT (fun ρ=>ρ = [some (.p (dW g hs cs)),some (.o (.dct lk)),some (.p (.dct ck)),some (.p (.lst (gs.map dKy))),some (.o (.lst ((ps++[(a.1,a.2,k.1,k.2,m)]).map d5))),some (.p (.int (t:Nat))),some (.p (dKy k)),some (.p (.int (n - m))),some (.p (dKy a)),some (.p (.int m))]) ?_ fun N hN=>?_
        rotate_left
        · repeat (first | walk_at "rs1" | set_option simprocs false in simp only[ixk0,ixk1,ixk2,ixk3,ixk4,ex_at])
          exact hN _ rfl
        rintro ρ rfl
        refine cutT (fun ρ=>ρ = [some (.p (dW g hs cs)),some (.o (.dct (putD lk a (v - m)))),some (.p (.dct ck)),some (.p (.lst (gs.map dKy))),some (.o (.lst ((ps++[(a.1,a.2,k.1,k.2,m)]).map d5))),some (.p (.int (t:Nat))),some (.p (dKy k)),some (.p (.int (n - m))),some (.p (dKy a)),some (.p (.int m))]) ?_ fun N hN=>?_
        rotate_left
        · repeat (first | dsimp only[dKy] | walk_at "rs1" | set_option simprocs false in simp only[ixk0,ixk1,ixk2,ixk3,ixk4,ex_at])
          exact ⟨v,hv2,by lia,hN _ rfl⟩
        rintro ρ rfl
        have hv3:valD (putD lk a (v - m)) (a.1,a.2)=some (v - m):=by rw[valD_put,if_pos rfl]
        have mor:0<m∧(m=v∨m=n)∧m≤n:=by
          obtain ⟨_,_,_,_,v0⟩:=G.gr.giv t a ha
          rename_i w hw' _ _
          rw[hv1] at hw'
          cases hw'
          have:=v0 (Nat.le_refl _)
          rw[hm]
          split<;>lia
        repeat (first | dsimp only[dKy] | walk_at "rs1" | set_option simprocs false in simp only[ixk0,ixk1,ixk2,ixk3,ixk4,ex_at])
        refine ⟨v - m,hv3,fun h4=>⟨⟨t+1,n - m,_,_,_,_,G.pass sg st hk1 n1 ha hw hv1 hm (by rw[if_pos (of_decide_eq_true h4)]),rfl⟩,?_⟩,fun h4=>⟨⟨t,n - m,_,_,_,_,G.pass sg st hk1 n1 ha hw hv1 hm (by rw[if_neg (of_decide_eq_false h4)]),rfl⟩,?_⟩⟩
        · show 2*(gs.length - ((t:Int)+1).toNat)+(if 0<n - m then 1 else 0)<2*(gs.length - ((t:Nat) : Int).toNat)+(if 0<n then 1 else 0)
          rw[if_pos n1]
          split<;>lia
        · have:=of_decide_eq_false h4
          show 2*(gs.length - ((t:Nat) : Int).toNat)+(if 0<n - m then 1 else 0)<2*(gs.length - ((t:Nat) : Int).toNat)+(if 0<n then 1 else 0)
          rw[if_neg (by lia),if_pos n1]
          lia
      rintro ρ ⟨t,n,lk,ps,a8,a9,G,hn,rfl⟩
      have hlp:=G.n1
      have htl:=G.gr.tl
      repeat (first | dsimp only[dKy] | walk_at "rs1" | set_option simprocs false in simp only[ixk0,ixk1,ixk2,ixk3,ixk4,ex_at])
      refine ⟨fun h=>⟨(fun z=>nomatch z),by rw[sl]; show 4≤16777216; decide,(fun z=>nomatch z),(fun z=>nomatch z),by rw[sl]; show 5≤16777216; decide,by rw[List.length_map]; lia,?_⟩,fun h=>?_⟩
      · have h0:=of_decide_eq_true h
        have B:=G.buy sg st hk1 h0 kb.1 kb.2 (hn.resolve_left (by lia))
        exact ⟨t,lk,_,_,_,_,_,B,by rw[List.map_append]; rfl⟩
      · have h0:n=0:=by
          have:=of_decide_eq_false h
          have:=G.n0
          lia
        subst h0
        exact ⟨t,lk,ps,_,_,_,_,G.done hk1,rfl⟩
    · rintro ρ ⟨t,lk,ps,a6,a7,a8,a9,G,rfl⟩
      rw[List.length_map] at G
      exact hN _ ⟨ts,t,lk,ps,a6,a7,a8,a9,st,G,rfl⟩
  rintro ρ ⟨ts,t,lk,ps,a6,a7,a8,a9,st,G,rfl⟩
  obtain ⟨Z,ti,ln⟩:=G.finish sg st
  have ls:=st.len
  have lp:=G.n
  have tl:=G.gr.tl
  refine cutT (fun ρ=>ρ = [some (.p (dW g hs cs)),some (.o (.dct lk)),some (.p (.dct ck)),some (.p (.lst (gs.map dKy))),some (.o (.lst ((ps++restP gs t lk).map d5))),some (.p (.int (t:Nat))),a6,a7,a8,a9]) ?_ fun N hN=>?_
  rotate_left
  · repeat (first | walk_at "rs1" | set_option simprocs false in simp only[ixk0,ixk1,ixk2,ixk3,ixk4,ex_at])
    rw[cut_from,←List.map_drop]
    refine lc_mapJ (fun x y e=>?_) (fun k=>d5 (k.1,k.2,-1,-1,(valD lk k).getD 0)) (by rw[List.length_drop]; lia) (fun k hk2=>?_) ?_
    · unfold dKy at e
      simp only[D.tup.injEq,List.cons.injEq,D.int.injEq,and_true] at e
      exact Prod.ext e.1 e.2
    · obtain ⟨j,hj⟩:=List.mem_iff_getElem?.mp (List.mem_of_mem_drop hk2)
      obtain ⟨v,hv,_⟩:=G.gr.giv j k hj
      have hv2:valD lk (k.1,k.2)=some v:=hv
      repeat (first | dsimp only[dKy] | walk_at "rs1" | set_option simprocs false in simp only[ixk0,ixk1,ixk2,ixk3,ixk4,ex_at])
      refine ⟨(fun z=>nomatch z),by rw[sl]; show 4≤16777216; decide,v,hv2,(fun z=>nomatch z),(fun z=>nomatch z),by rw[sl]; show 5≤16777216; decide,?_⟩
      rw[hv]
      rfl
    have e:(gs.drop t).map (fun k=>d5 (k.1,k.2,-1,-1,(valD lk k).getD 0))=(restP gs t lk).map d5:=by unfold restP; rw[List.map_map]; rfl
    rw[e]
    refine ⟨flat_5 _,?_,?_⟩
    · rw[List.length_map,List.length_map]
      rw[List.length_append] at ln
      lia
    · rw[←List.map_append]
      exact hN _ rfl
  rintro ρ rfl
  repeat (first | walk_at "rs1" | set_option simprocs false in simp only[ixk0,ixk1,ixk2,ixk3,ixk4,ex_at])
  refine ⟨(ps++restP gs t lk).map l5,5,by rw[List.map_map]; rfl,by decide,fun ns hn=>?_,fun mss hp hu=>?_⟩
  · obtain ⟨p,_,rfl⟩:=List.mem_map.mp hn
    rfl
  · obtain ⟨qs,hq,rfl⟩:=perm_of_map hp _ rfl
    rw[List.map_map]
    exact q qs (Z.perm hq) hu (by rw[hq.length_eq]; lia) (ti.imp (fun z p hp=>z p (hq.mem_iff.mp hp)) fun ⟨L,hL,z⟩=>⟨L,hL,fun p hp=>z p (hq.mem_iff.mp hp)⟩)
def r_may_pass:DR:=fun ds P=>∃(g:Int) (p:P5),ds = [.int g,.tup [.int p.1,.int p.2.1],.tup [.int p.2.2.1,.int p.2.2.2.1],.int (ht p)]∧P (.p (.bl (mayB g p)))
theorem ok_may_pass (T:Blt K mg) (F_is_warm_enough:Fn P w K mg base "is_warm_enough" 1 ["gap","giver","taker"] (spD K r_is_warm_enough)) (F:Fun K "may_pass" "may_pass" s_may_pass f fd) : FnOk P w K mg base CX0 2 f fd ["gap","giver","taker","heat"] (spD K r_may_pass):=by
  refine okD F sc_may_pass (fun ds Q h=>by obtain ⟨g,p,rfl,q⟩:=h; rfl) fun cdv A outer s H E hr=>⟨_,(dss_cons (ds_if (dt_cmp od_lt (dv 3) de_int (nomark _)) (dss_one (ds_ret de_bl)) dss_nil)
      (dss_cons (ds_if (dw_or (dt_eqC hr (dv 1) T.g_BOUGHT (by rfl)) (dw_or1 (dt_eqC hr (dv 2) T.g_BOUGHT (by rfl)))).dt (dss_one (ds_ret (de_cmp (od_neD hr) (dv 1) (dv 2) (nomark _)))) dss_nil)
      (dss_one (ds_ret (de_fn F_is_warm_enough (hr.mono (by decide)) (by rfl) (da_cons (dv 0) (da_cons (dv 1) (da_cons (dv 2) da_nil)))))))),fun ds Q h=>?_⟩
  obtain ⟨g,p,rfl,q⟩:=h
  repeat (first | walk_at "rs1" | set_option simprocs false in simp only[ixk0,ixk1,ixk2,ixk3,ixk4,ex_at])
  refine ⟨fun h=>?_,fun h=>?_⟩
  · have e:mayB g p=false:=by
      unfold mayB
      rw[decide_eq_true_eq] at h
      rw[decide_eq_false (by lia),Bool.false_and]
    rw[←e]
    exact q
  · have e1:decide (1≤ht p)=true:=by
      rw[decide_eq_false_iff_not] at h
      exact decide_eq_true (by lia)
    unfold mayB at q
    rw[e1,Bool.true_and] at q
    have e2:(gk p=Bt)=(p.1 = -1∧p.2.1 = -1):=by unfold gk Bt; rw[Prod.mk.injEq]
    have e3:(tk5 p=Bt)=(p.2.2.1 = -1∧p.2.2.2.1 = -1):=by unfold tk5 Bt; rw[Prod.mk.injEq]
    have e4:(!decide (p.1=p.2.2.1∧p.2.1=p.2.2.2.1))=decide (gk p≠tk5 p):=by
      rw[←decide_not,decide_eq_decide]
      unfold gk tk5
      rw[ne_eq,Prod.mk.injEq]
    refine ⟨fun h1=>⟨fun _=>ne_pair ?_,fun z=>(nomatch z)⟩,fun h1=>⟨fun h2=>ne_pair ?_,fun h2=>?_⟩⟩
    · rw[decide_eq_true_eq] at h1
      rw[if_pos (.inl (by rw[e2]; exact h1))] at q
      rw[e4]
      exact q
    · rw[decide_eq_true_eq] at h2
      rw[if_pos (.inr (by rw[e3]; exact h2))] at q
      rw[e4]
      exact q
    · rw[decide_eq_false_iff_not] at h1 h2
      rw[if_neg (fun z=>z.elim (fun z=>h1 (by rw[←e2]; exact z)) fun z=>h2 (by rw[←e3]; exact z))] at q
      exact ⟨g,p.1,p.2.1,p.2.2.1,p.2.2.2.1,rfl,q⟩
def dQ (q:Q2) : D:=.tup [.tup [.int q.1.1,.int q.1.2],.int q.2]
def r_heat_by_step:DR:=fun ds P=>∃qs:List Q2,ds = [.lst (qs.map dQ)]∧qs.length≤4900∧P (.o (.dct (accD qs)))
theorem ok_heat_by_step (T:Blt K mg) (F:Fun K "heat_by_step" "heat_by_step" s_heat_by_step f fd) : FnOk P w K mg base CX0 1 f fd ["pairs"] (spD K r_heat_by_step):=by
  refine okD F sc_heat_by_step (fun ds Q h=>by obtain ⟨qs,rfl,hl,q⟩:=h; rfl) fun cdv A outer s H E hr=>⟨_,(dss_cons (ds_set (i:=1) sc_heat_by_step.nd rfl (Or.inl rfl) de_dnew)
      (dss_cons (ds_for (g:=(.t [2,3])) PassesOwn.never rfl (di_list (dv 0)) (pg_seq rfl (pgs_cons (pg_name (i:=2) sc_heat_by_step.nd rfl (Or.inl rfl)) (pgs_cons (pg_name (i:=3) sc_heat_by_step.nd rfl (Or.inl rfl)) pgs_nil))) (dss_one (ds_dputV (i:=1) hr rfl (by first | exact Or.inl rfl | exact Or.inr (Or.inl rfl) | exact Or.inr (Or.inr rfl)) (dv 2) (de_op od_plus (de_get2 hr (dv 1) (dv 2) de_int ⟨rfl,rfl,rfl,rfl⟩) (dv 3)))))
      (dss_one (ds_retO 1)))),fun ds Q h=>?_⟩
  obtain ⟨qs,rfl,hl,q⟩:=h
  repeat (first | walk_at "rs1" | set_option simprocs false in simp only[ixk0,ixk1,ixk2,ixk3,ixk4,ex_at])
  have sl:sizeLine=16777216:=sizeLine_eq
  refine for_nat (fun i ρ=>∃a2 a3,ρ = [some (.p (.lst (qs.map dQ))),some (.o (.dct (accD (qs.take i)))),a2,a3]) ⟨none,none,rfl⟩ ?_ ?_
  · rintro i x ρ hx ⟨a2,a3,rfl⟩
    rw[List.getElem?_map] at hx
    cases eq:qs[i]? with
    | none=>rw[eq] at hx; cases hx
    | some y =>
    rw[eq] at hx
    cases hx
    repeat (first | dsimp only[dQ] | walk_at "rs1" | set_option simprocs false in simp only[ixk0,ixk1,ixk2,ixk3,ixk4,ex_at])
    have hn:=(accD_is (qs.take i)).2.1
    rw[List.length_take] at hn
    rw[WS.take_snoc eq,accD_snoc]
    exact ⟨by lia,_,_,rfl⟩
  · rintro ρ ⟨a2,a3,rfl⟩
    rw[List.length_map,List.take_length]
    repeat (first | walk_at "rs1" | set_option simprocs false in simp only[ixk0,ixk1,ixk2,ixk3,ixk4,ex_at])
    exact q
def r_looked_through:DR:=fun ds P=>∃(g:Int) (hs cs:List S3) (ps:List P5),ds = [dW g hs cs,.lst (ps.map d5)]∧SsOk hs∧SsOk cs∧ps.length≤4900 ∧
  (Looks g hs cs ps→P (.p (.tup [.int (totQ Bt (gq ps)),.int (totQ Bt (tq ps))])))∧(¬Looks g hs cs ps→P (.p .non))
theorem ok_looked_through (T:Blt K mg) (F_heat_by_step:Fn P w K mg base "heat_by_step" 1 ["pairs"] (spD K r_heat_by_step)) (F_rates_by_step:Fn P w K mg base "rates_by_step" 1 ["streams"] (spD K r_rates_by_step)) (F_may_pass:Fn P w K mg base "may_pass" 2 ["gap","giver","taker","heat"] (spD K r_may_pass)) (F:Fun K "looked_through" "looked_through" s_looked_through f fd) : FnOk P w K mg base CX0 3 f fd ["works","passes"] (spD K r_looked_through):=by
  refine okD F sc_looked_through (fun ds Q h=>by obtain ⟨g,hs,cs,ps,rfl,oh,oc,hl,q1,q2⟩:=h; rfl) fun cdv A outer s H E hr=>⟨_,(dss_cons (ds_if (dt_not (dt_val (de_callB (cd_all rfl) (by rfl) T.b_all PyProof.Rows.boot_all (da_cons (de_lc (g:=(.n 0)) (tc:=dTrue) (te:=(dCall _ (dCons (dOp dIx (dVar 1) (dC _)) (dCons (dSl (dVar 0) (dPart (dC _)) (dPart (dC _))) (dCons (dSl (dVar 0) (dPart (dC _)) (dPart (dC _))) (dCons (dOp dIx (dVar 0) (dC _)) dNil)))))) (sc0:=defScope s_looked_through) (N0:=["works","passes","given","gotten","heat","cold"]) ["one","works"] [none,some 0] rfl (di_list (dv 1)) (fun _ _ _ _ _=>(pg_name (i:=0) (show (["one","works"] : List Str).Nodup by decide +kernel) rfl (Or.inl rfl))) (fun _ _ _ _ _=>difs_nil) (fun _ _ _ _ _=>(de_fn F_may_pass (hr.mono (by decide)) (by rfl) (da_cons (de_ix (dv 1) de_int) (da_cons (de_slice (dv 0) (do_some de_int) (do_some de_int)) (da_cons (de_slice (dv 0) (do_some de_int) (do_some de_int)) (da_cons (de_ix (dv 0) de_int) da_nil))))))) da_nil)))) (dss_one (ds_ret de_non)) dss_nil)
      (dss_cons (ds_if (dt_cmp od_lt (de_lenset hr rfl (by rfl) T.b_len (by rfl) T.b_set (da_cons (de_lc (g:=(.n 0)) (tc:=dTrue) (te:=(dSl (dVar 0) (dPart (dC _)) (dPart (dC _)))) (sc0:=defScope s_looked_through) (N0:=["works","passes","given","gotten","heat","cold"]) ["one"] [none] rfl (di_list (dv 1)) (fun _ _ _ _ _=>(pg_name (i:=0) (show (["one"] : List Str).Nodup by decide +kernel) rfl (Or.inl rfl))) (fun _ _ _ _ _=>difs_nil) (fun _ _ _ _ _=>(de_slice (dv 0) (do_some de_int) (do_some de_int)))) da_nil)) (de_callB cd_len (by rfl) T.b_len PySem.boot_len (da_cons (dv 1) da_nil)) (nomark _)) (dss_one (ds_ret de_non)) dss_nil)
      (dss_cons (ds_set (i:=2) sc_looked_through.nd rfl (Or.inl rfl) (de_fn F_heat_by_step (hr.mono (by decide)) (by rfl) (da_cons (de_lc (g:=(.n 0)) (tc:=dTrue) (te:=(dTup (dCons (dSl (dVar 0) (dPart (dC _)) (dPart (dC _))) (dCons (dOp dIx (dVar 0) (dC _)) dNil)))) (sc0:=defScope s_looked_through) (N0:=["works","passes","given","gotten","heat","cold"]) ["one"] [none] rfl (di_list (dv 1)) (fun _ _ _ _ _=>(pg_name (i:=0) (show (["one"] : List Str).Nodup by decide +kernel) rfl (Or.inl rfl))) (fun _ _ _ _ _=>difs_nil) (fun _ _ _ _ _=>(de_tup (da_cons (de_slice (dv 0) (do_some de_int) (do_some de_int)) (da_cons (de_ix (dv 0) de_int) da_nil))))) da_nil)))
      (dss_cons (ds_set (i:=3) sc_looked_through.nd rfl (Or.inl rfl) (de_fn F_heat_by_step (hr.mono (by decide)) (by rfl) (da_cons (de_lc (g:=(.n 0)) (tc:=dTrue) (te:=(dTup (dCons (dSl (dVar 0) (dPart (dC _)) (dPart (dC _))) (dCons (dOp dIx (dVar 0) (dC _)) dNil)))) (sc0:=defScope s_looked_through) (N0:=["works","passes","given","gotten","heat","cold"]) ["one"] [none] rfl (di_list (dv 1)) (fun _ _ _ _ _=>(pg_name (i:=0) (show (["one"] : List Str).Nodup by decide +kernel) rfl (Or.inl rfl))) (fun _ _ _ _ _=>difs_nil) (fun _ _ _ _ _=>(de_tup (da_cons (de_slice (dv 0) (do_some de_int) (do_some de_int)) (da_cons (de_ix (dv 0) de_int) da_nil))))) da_nil)))
      (dss_cons (ds_popC (i:=2) (j:=4) hr sc_looked_through.nd rfl (Or.inl rfl) rfl (by first | exact Or.inl rfl | exact Or.inr (Or.inl rfl) | exact Or.inr (Or.inr rfl)) T.g_BOUGHT (by rfl) ⟨rfl,rfl,rfl,rfl⟩)
      (dss_cons (ds_popC (i:=3) (j:=5) hr sc_looked_through.nd rfl (Or.inl rfl) rfl (by first | exact Or.inl rfl | exact Or.inr (Or.inl rfl) | exact Or.inr (Or.inr rfl)) T.g_BOUGHT (by rfl) ⟨rfl,rfl,rfl,rfl⟩)
      (dss_cons (ds_if (dw_or (dt_cmp (od_neDict hr) (dv 2) (de_fn F_rates_by_step (hr.mono (by decide)) (by rfl) (da_cons (de_ix (dv 0) de_int) da_nil)) (nomark _)) (dw_or1 (dt_cmp (od_neDict hr) (dv 3) (de_fn F_rates_by_step (hr.mono (by decide)) (by rfl) (da_cons (de_ix (dv 0) de_int) da_nil)) (nomark _)))).dt (dss_one (ds_ret de_non)) dss_nil)
      (dss_one (ds_ret (de_tup (da_cons (dv 4) (da_cons (dv 5) da_nil)))))))))))),fun ds Q h=>?_⟩
  obtain ⟨g,hs,cs,ps,rfl,oh,oc,hl,q1,q2⟩:=h
  repeat (first | dsimp only[dW] | walk_at "rs1" | set_option simprocs false in simp only[ixk0,ixk1,ixk2,ixk3,ixk4,ex_at])
  refine lc_mapJ d5_inj (fun p=>.bl (mayB g p)) (by lia) (fun p _=>?_) ?_
  · repeat (first | dsimp only[d5] | walk_at "rs1" | set_option simprocs false in simp only[ixk0,ixk1,ixk2,ixk3,ixk4,ex_at])
    exact ⟨by decide,by decide,g,p,rfl,rfl⟩
  refine ⟨ps.map (mayB g),by rw[List.map_map]; rfl,?_⟩
  repeat (first | walk_at "rs1" | set_option simprocs false in simp only[ixk0,ixk1,ixk2,ixk3,ixk4,ex_at])
  refine ⟨fun h=>q2 fun L=>?_,fun h=>?_⟩
  · rw[show (List.all (ps.map (mayB g)) id)=true by
      rw[List.all_eq_true]
      intro b hb
      obtain ⟨p,hp,rfl⟩:=List.mem_map.mp hb
      exact L.may p hp] at h
    cases h
  have may:∀p∈ps,mayB g p=true:=fun p hp=>by
    have h':(List.all (ps.map (mayB g)) id)=true:=by
      cases e:List.all (ps.map (mayB g)) id with
      | true=>rfl
      | false=>rw[e] at h; cases h
    exact List.all_eq_true.mp h' _ (List.mem_map.mpr ⟨p,hp,rfl⟩)
  refine lc_mapJ d5_inj (fun p=>tupI (k4 p)) (by lia) (fun p _=>?_) ?_
  · repeat (first | dsimp only[d5] | walk_at "rs1" | set_option simprocs false in simp only[ixk0,ixk1,ixk2,ixk3,ixk4,ex_at])
    exact ⟨by decide,rfl⟩
  refine ⟨ps.map k4,by rw[List.map_map]; rfl,by rw[List.length_map]; exact hl,?_⟩
  have hdl:=dist_le (ps.map k4)
  have hdf:=dist_full (ps.map k4)
  rw[List.length_map] at hdl hdf ⊢
  refine ⟨fun h=>q2 fun L=>?_,fun h=>?_⟩
  · rw[decide_eq_true_eq] at h
    have:=hdf.mpr L.nod
    lia
  have nod:(ps.map k4).Nodup:=hdf.mp (by
    rw[decide_eq_false_iff_not] at h
    lia)
  refine lc_mapJ d5_inj (fun p=>dQ (gk p,ht p)) (by lia) (fun p _=>?_) ?_
  · repeat (first | dsimp only[d5] | walk_at "rs1" | set_option simprocs false in simp only[ixk0,ixk1,ixk2,ixk3,ixk4,ex_at])
    exact ⟨by decide,rfl⟩
  refine ⟨gq ps,by unfold gq; rw[List.map_map]; rfl,by unfold gq; rw[List.length_map]; exact hl,?_⟩
  repeat (first | walk_at "rs1" | set_option simprocs false in simp only[ixk0,ixk1,ixk2,ixk3,ixk4,ex_at])
  refine lc_mapJ d5_inj (fun p=>dQ (tk5 p,ht p)) (by lia) (fun p _=>?_) ?_
  · repeat (first | dsimp only[d5] | walk_at "rs1" | set_option simprocs false in simp only[ixk0,ixk1,ixk2,ixk3,ixk4,ex_at])
    exact ⟨by decide,rfl⟩
  refine ⟨tq ps,by unfold tq; rw[List.map_map]; rfl,by unfold tq; rw[List.length_map]; exact hl,?_⟩
  repeat (first | walk_at "rs1" | set_option simprocs false in simp only[ixk0,ixk1,ixk2,ixk3,ixk4,ex_at])
  obtain ⟨kg,_,vg⟩:=accD_is (gq ps)
  obtain ⟨kt,_,vt⟩:=accD_is (tq ps)
  have eG:∀{kvs:KVs} {ss:List S3},Keyed kvs→(∀k,valD kvs k=rateAt ss k)→∀{qs:List Q2},(sameD (dropD (accD qs) (-1,-1)) kvs=true↔∀k,k≠Bt→sumQ k qs=rateAt ss k):=fun {kvs ss} hk hv {qs}=>by
    obtain ⟨kq,_,vq⟩:=accD_is qs
    rw[same_iff (drop_keyed kq _) hk]
    constructor
    · intro h k hne
      have:=h k
      rw[valD_drop,if_neg (fun z=>hne z.symm),vq,hv] at this
      exact this
    · intro h k
      rw[valD_drop,hv]
      by_cases c:((-1,-1) : K2)=k
      · rw[if_pos c,←c]; exact (rateAt_Bt ss).symm
      · rw[if_neg c,vq]; exact h k fun z=>c z.symm
  refine ⟨by decide,by decide,hs,rfl,oh,fun ka hka _ hva=>?_⟩
  repeat (first | walk_at "rs1" | set_option simprocs false in simp only[ixk0,ixk1,ixk2,ixk3,ixk4,ex_at])
  have eB:∀b:Bool,((!b)=true↔¬b=true)∧((!b)=false↔b=true):=fun b=>by cases b<;>simp
  refine ⟨fun h=>⟨fun _=>q2 fun L=>(eB _).1.mp h ((eG hka hva).mpr L.giv),fun z=>nomatch z⟩,fun h=>⟨cs,rfl,oc,fun kb hkb _ hvb=>?_⟩⟩
  have giv:=(eG hka hva).mp ((eB _).2.mp h)
  repeat (first | walk_at "rs1" | set_option simprocs false in simp only[ixk0,ixk1,ixk2,ixk3,ixk4,ex_at])
  refine ⟨fun h=>q2 fun L=>(eB _).1.mp h ((eG hkb hvb).mpr L.tak),fun h=>?_⟩
  have tak:=(eG hkb hvb).mp ((eB _).2.mp h)
  rw[vg,vt,sumQ_getD,sumQ_getD]
  exact q1 ⟨may,nod,giv,tak⟩
def r_law_draw:DR:=fun ds P=>∃(ns:List Int) (k:Int),ds = [.scr ns,.int k]∧ns.length≤63∧(0≤k∧k≤1000)∧∀z:Int,0≤z→P (.p (.int z))
theorem ok_law_draw (T:Blt K mg) (F:Fun K "_law_draw" "_law_draw" s_law_draw f fd) : FnOk P w K mg base CX0 1 f fd ["script","k"] (spD K r_law_draw):=by
  refine okD F sc_law_draw (fun ds Q h=>by obtain ⟨ns,k,rfl,hl,⟨hk,hk2⟩,q⟩:=h; rfl) fun cdv A outer s H E hr=>⟨_,(dss_cons (ds_setP (i:=2) sc_law_draw.nd rfl (Or.inl rfl) (de_op od_plus de_int (de_op od_fdiv (de_callB cd_len (by rfl) T.b_len PySem.boot_len (da_cons (dv 0) da_nil)) de_int)))
      (dss_cons (ds_setP (i:=3) sc_law_draw.nd rfl (Or.inl rfl) (de_op od_plus (de_op od_times de_int (dv 1)) de_int))
      (dss_cons (ds_for (g:=(.n 4)) PassesOwn.never rfl (di_list (de_sliceS (dv 0) (do_some (de_op od_mod (dv 1) (dv 2))) do_none (do_some (dv 2)))) (pg_name (i:=4) sc_law_draw.nd rfl (Or.inl rfl)) (dss_one (ds_setP (i:=3) sc_law_draw.nd rfl (Or.inl rfl) (de_op od_mod (de_op od_plus (de_op od_times (dv 3) (de_op od_plus (de_op od_times de_int (dv 1)) de_int)) (dv 4)) de_int))))
      (dss_one (ds_ret (de_op od_mod (de_op od_times (dv 3) (de_op od_plus (de_op od_plus (de_op od_mod (de_op od_fdiv (dv 3) de_int) de_int) (de_op od_times de_int (dv 1))) de_int)) de_int)))))),fun ds Q h=>?_⟩
  obtain ⟨ns,k,rfl,hl,⟨hk,hk2⟩,q⟩:=h
  repeat (first | walk_at "rs1" | set_option simprocs false in simp only[ixk0,ixk1,ixk2,ixk3,ixk4,ex_at])
  refine ⟨⟨by decide,by decide⟩,mulL (by decide),by lia,fun z=>by have:=Option.some.inj z; lia,?_⟩
  refine for_nat (fun i ρ=>∃(f:Int) (a4:Option B),0≤f∧ρ = [some (B.p (D.scr ns)),some (B.p (D.int k)),some (B.p (D.int (1+(ns.length:Int) / 8))),some (B.p (D.int f)),a4]) ⟨_,_,by lia,rfl⟩ ?_ ?_
  · rintro i x ρ hx ⟨f,a4,hf,rfl⟩
    rw[List.getElem?_map] at hx
    obtain ⟨c,hc,rfl⟩:=Option.map_eq_some_iff.mp hx
    repeat (first | walk_at "rs1" | set_option simprocs false in simp only[ixk0,ixk1,ixk2,ixk3,ixk4,ex_at])
    exact ⟨mulL (by decide),mulR (by lia),by decide,_,_,Int.emod_nonneg _ (by decide),rfl⟩
  · rintro ρ ⟨f,a4,hf,rfl⟩
    repeat (first | walk_at "rs1" | set_option simprocs false in simp only[ixk0,ixk1,ixk2,ixk3,ixk4,ex_at])
    exact ⟨⟨by decide,by decide⟩,by decide,mulL (by decide),mulR (by lia),by decide,q _ (Int.emod_nonneg _ (by decide))⟩
def r_law_stream:DR:=fun ds P=>∃n low wide most:Int,ds = [.int n,.int low,.int wide,.int most]∧0≤low∧(wide=6∧low<20∨wide=100∧low≤1)∧1≤most∧most≤1000000000∧∀x:S3,ColdOk x→P (.p (d3 x))
theorem ok_law_stream (T:Blt K mg) (F:Fun K "_law_stream" "_law_stream" s_law_stream f fd) : FnOk P w K mg base CX0 1 f fd ["number","low","wide","most"] (spD K r_law_stream):=by
  refine okD F sc_law_stream (fun ds Q h=>by obtain ⟨n,low,wide,most,rfl,h0,hw,hm,hM,q⟩:=h; rfl) fun cdv A outer s H E hr=>⟨_,(dss_cons (ds_setP (i:=4) sc_law_stream.nd rfl (Or.inl rfl) (de_op od_plus (dv 1) (de_op od_mod (dv 0) (dv 2))))
      (dss_cons (ds_setP (i:=5) sc_law_stream.nd rfl (Or.inl rfl) (de_op od_plus de_int (de_op od_mod (de_op od_times (de_op od_fdiv (dv 0) de_int) de_int) (dv 3))))
      (dss_cons (ds_if (dw_and (dt_cmp od_eq (dv 2) de_int (nomark _)) (dw_and1 (dt_cmp od_eq (de_op od_mod (de_op od_fdiv (dv 0) de_int) de_int) de_int (nomark _)))).dt (dss_one (ds_ret (de_tup (da_cons (dv 4) (da_cons de_int (da_cons (dv 5) da_nil)))))) dss_nil)
      (dss_one (ds_ret (de_tup (da_cons (dv 4) (da_cons (de_op od_plus (de_op od_plus (dv 4) de_int) (de_op od_mod (de_op od_fdiv (dv 0) de_int) (dv 2))) (da_cons (dv 5) da_nil))))))))),fun ds Q h=>?_⟩
  obtain ⟨n,low,wide,most,rfl,h0,hw,hm,hM,q⟩:=h
  repeat (first | walk_at "rs1" | set_option simprocs false in simp only[ixk0,ixk1,ixk2,ixk3,ixk4,ex_at])
  have r1:=Int.emod_nonneg (n / 10000*1009) (b:=most) (by lia)
  have r2:=Int.emod_lt_of_pos (n / 10000*1009) (b:=most) (by lia)
  refine ⟨by lia,⟨by decide,by decide⟩,mulR (by decide),by lia,fun hw1=>⟨⟨by decide,by decide⟩,by decide,fun _=>?_,fun _=>⟨⟨by decide,by decide⟩,by lia,?_⟩⟩,fun hw1=>⟨fun z=>(nomatch z),fun _=>⟨⟨by decide,by decide⟩,by lia,?_⟩⟩⟩
  · rw[decide_eq_true_eq] at hw1
    subst hw1
    exact q (low+n % 100,200,1+n / 10000*1009 % most) ⟨by dsimp only; lia,by dsimp only; lia,by dsimp only; lia,by dsimp only; lia,by dsimp only; lia⟩
  · rw[decide_eq_true_eq] at hw1
    subst hw1
    exact q (low+n % 100,low+n % 100+1+n / 100 % 100,1+n / 10000*1009 % most) ⟨by dsimp only; lia,by dsimp only; lia,by dsimp only; lia,by dsimp only; lia,by dsimp only; lia⟩
  · rw[decide_eq_false_iff_not] at hw1
    obtain ⟨rfl,hw⟩ : wide=6∧low<20:=by lia
    exact q (low+n % 6,low+n % 6+1+n / 100 % 6,1+n / 10000*1009 % most) ⟨by dsimp only; lia,by dsimp only; lia,by dsimp only; lia,by dsimp only; lia,by dsimp only; lia⟩
def r_law_works:DR:=fun ds P=>∃ns:List Int,ds = [.scr ns]∧ns.length≤63∧∀g hs cs,WksOk g hs cs→P (.p (dW g hs cs))
theorem ok_law_works (T:Blt K mg) (F_law_draw:Fn P w K mg base "_law_draw" 1 ["script","k"] (spD K r_law_draw)) (F_law_stream:Fn P w K mg base "_law_stream" 1 ["number","low","wide","most"] (spD K r_law_stream)) (F:Fun K "_law_works" "_law_works" s_law_works f fd) : FnOk P w K mg base CX0 2 f fd ["script"] (spD K r_law_works):=by
  refine okD F sc_law_works (fun ds Q h=>by obtain ⟨ns,rfl,hl,q⟩:=h; rfl) fun cdv A outer s H E hr=>⟨_,(dss_cons (ds_setP (i:=1) sc_law_works.nd rfl (Or.inl rfl) (de_fn F_law_draw (hr.mono (by decide)) (by rfl) (da_cons (dv 0) (da_cons de_int da_nil))))
      (dss_cons (ds_setP (i:=2) sc_law_works.nd rfl (Or.inl rfl) (de_op od_mod (dv 1) de_int))
      (dss_cons (ds_setP (i:=3) sc_law_works.nd rfl (Or.inl rfl) de_int)
      (dss_cons (ds_if (dt_cmp od_eq (de_op od_mod (de_op od_fdiv (dv 1) de_int) de_int) de_int (nomark _)) (dss_cons (ds_setP (i:=2) sc_law_works.nd rfl (Or.inl rfl) (de_op od_mod (de_op od_fdiv (dv 1) de_int) de_int))
      (dss_one (ds_setP (i:=3) sc_law_works.nd rfl (Or.inl rfl) de_int))) dss_nil)
      (dss_cons (ds_setP (i:=4) sc_law_works.nd rfl (Or.inl rfl) (de_op od_mod (de_fn F_law_draw (hr.mono (by decide)) (by rfl) (da_cons (dv 0) (da_cons de_int da_nil))) de_int))
      (dss_cons (ds_if (dt_cmp od_eq (de_op od_mod (de_op od_fdiv (de_fn F_law_draw (hr.mono (by decide)) (by rfl) (da_cons (dv 0) (da_cons de_int da_nil))) de_int) de_int) de_int (nomark _)) (dss_one (ds_setP (i:=4) sc_law_works.nd rfl (Or.inl rfl) (de_op od_mod (de_op od_fdiv (de_fn F_law_draw (hr.mono (by decide)) (by rfl) (da_cons (dv 0) (da_cons de_int da_nil))) de_int) de_int))) dss_nil)
      (dss_cons (ds_if (dw_and (dt_cmp od_eq (dv 3) de_int (nomark _)) (dw_and1 (dt_cmp od_eq (de_op od_mod (de_op od_fdiv (dv 1) de_int) de_int) de_int (nomark _)))).dt (dss_one (ds_setP (i:=4) sc_law_works.nd rfl (Or.inl rfl) de_int)) dss_nil)
      (dss_cons (ds_setP (i:=5) sc_law_works.nd rfl (Or.inl rfl) (de_lst (da_cons (de_op od_mod (de_fn F_law_draw (hr.mono (by decide)) (by rfl) (da_cons (dv 0) (da_cons de_int da_nil))) de_int) (da_cons (de_op od_mod (de_fn F_law_draw (hr.mono (by decide)) (by rfl) (da_cons (dv 0) (da_cons de_int da_nil))) de_int) da_nil))))
      (dss_cons (ds_if (dt_cmp od_eq (dv 3) de_int (nomark _)) (dss_one (ds_setP (i:=5) sc_law_works.nd rfl (Or.inl rfl) (de_lst (da_cons (de_callB (cd_min2 rfl) (by rfl) T.b_min PyProof.Rows.boot_min (da_cons de_int (da_cons (de_ix (dv 5) de_int) da_nil))) (da_cons (de_callB (cd_min2 rfl) (by rfl) T.b_min PyProof.Rows.boot_min (da_cons de_int (da_cons (de_ix (dv 5) de_int) da_nil))) da_nil))))) (dss_one (ds_if (dt_cmp od_eq (de_op od_mod (de_op od_fdiv (de_fn F_law_draw (hr.mono (by decide)) (by rfl) (da_cons (dv 0) (da_cons de_int da_nil))) de_int) de_int) de_int (nomark _)) (dss_one (ds_setP (i:=5) sc_law_works.nd rfl (Or.inl rfl) (de_lst (da_cons de_int (da_cons (de_op od_plus de_int (de_op od_mod (de_fn F_law_draw (hr.mono (by decide)) (by rfl) (da_cons (dv 0) (da_cons de_int da_nil))) de_int)) da_nil))))) dss_nil)))
      (dss_cons (ds_setP (i:=6) sc_law_works.nd rfl (Or.inl rfl) (de_ix (de_lst (da_cons de_int (da_cons (de_op od_pow de_int de_int) da_nil))) (de_op od_mod (de_fn F_law_draw (hr.mono (by decide)) (by rfl) (da_cons (dv 0) (da_cons de_int da_nil))) de_int)))
      (dss_cons (ds_set (i:=7) sc_law_works.nd rfl (Or.inl rfl) (de_lst da_nil))
      (dss_cons (ds_forS (g:=(.n 8)) PassesOwn.never rfl (dis_rng1 (by rfl) T.b_range (da_cons (de_op od_plus (de_ix (dv 5) de_int) (de_ix (dv 5) de_int)) da_nil)) (pg_name (i:=8) sc_law_works.nd rfl (Or.inl rfl)) (dss_cons (ds_setP (i:=9) sc_law_works.nd rfl (Or.inl rfl) (de_op od_plus (de_callB (cd_sum rfl) (by rfl) T.b_sum PyProof.Rows.boot_sum (da_cons (de_sliceS (dv 0) (do_some (dv 8)) (do_some de_int) (do_some de_int)) da_nil)) (de_fn F_law_draw (hr.mono (by decide)) (by rfl) (da_cons (dv 0) (da_cons (de_op od_plus de_int (dv 8)) da_nil)))))
      (dss_one (ds_app (i:=7) rfl (by first | exact Or.inl rfl | exact Or.inr (Or.inl rfl) | exact Or.inr (Or.inr rfl)) (de_fn F_law_stream (hr.mono (by decide)) (by rfl) (da_cons (dv 9) (da_cons (dv 2) (da_cons (dv 3) (da_cons (dv 6) da_nil)))))))))
      (dss_cons (ds_setLCDP (i:=10) sc_law_works.nd rfl (Or.inl rfl) (g:=(.t [0,1,2])) (tc:=dTrue) (te:=(dTup (dCons (dVar 1) (dCons (dVar 0) (dCons (dVar 2) dNil))))) (sc0:=defScope s_law_works) (N0:=["script","number","low","wide","gap","counts","most","streams","k","cell","hots"]) ["start","goal","rate"] [none,none,none] rfl (di_list (de_slice (dv 7) do_none (do_some (de_ix (dv 5) de_int)))) (fun _ _ _ _ _=>(pg_seq rfl (pgs_cons (pg_name (i:=0) (show (["start","goal","rate"] : List Str).Nodup by decide +kernel) rfl (Or.inl rfl)) (pgs_cons (pg_name (i:=1) (show (["start","goal","rate"] : List Str).Nodup by decide +kernel) rfl (Or.inl rfl)) (pgs_cons (pg_name (i:=2) (show (["start","goal","rate"] : List Str).Nodup by decide +kernel) rfl (Or.inl rfl)) pgs_nil))))) (fun _ _ _ _ _=>difs_nil) (fun _ _ _ _ _=>(de_tup (da_cons (dv 1) (da_cons (dv 0) (da_cons (dv 2) da_nil))))))
      (dss_one (ds_ret (de_tup (da_cons (dv 4) (da_cons (dv 10) (da_cons (de_slice (dv 7) (do_some (de_ix (dv 5) de_int)) do_none) da_nil))))))))))))))))))),fun ds Q h=>?_⟩
  obtain ⟨ns,rfl,hl,q⟩:=h
  refine cutT (fun ρ=>∃n:Int,0≤n∧ρ = [some (B.p (D.scr ns)),some (B.p (D.int n)),none,none,none,none,none,none,none,none,none]) ?_ fun N hN=>?_
  rotate_left
  · repeat (first | walk_at "rs1" | set_option simprocs false in simp only[ixk0,ixk1,ixk2,ixk3,ixk4,ex_at])
    exact ⟨ns,0,rfl,hl,⟨by decide,by decide⟩,fun z hz=>hN _ ⟨z,hz,rfl⟩⟩
  rintro ρ ⟨n,hn,rfl⟩
  refine cutT (fun ρ=>ρ = [some (B.p (D.scr ns)),some (B.p (D.int n)),some (B.p (D.int (n % 20))),none,none,none,none,none,none,none,none]) ?_ fun N hN=>?_
  rotate_left
  · repeat (first | walk_at "rs1" | set_option simprocs false in simp only[ixk0,ixk1,ixk2,ixk3,ixk4,ex_at])
    exact ⟨by decide,hN _ rfl⟩
  rintro ρ rfl
  refine cutT (fun ρ=>ρ = [some (B.p (D.scr ns)),some (B.p (D.int n)),some (B.p (D.int (n % 20))),some (B.p (D.int 6)),none,none,none,none,none,none,none]) ?_ fun N hN=>?_
  rotate_left
  · repeat (first | walk_at "rs1" | set_option simprocs false in simp only[ixk0,ixk1,ixk2,ixk3,ixk4,ex_at])
    exact hN _ rfl
  rintro ρ rfl
  refine cutT (fun ρ=>∃low wide:Int,0≤low∧(wide=6∧low<20∨wide=100∧low≤1)∧ρ = [some (B.p (D.scr ns)),some (B.p (D.int n)),some (B.p (D.int low)),some (B.p (D.int wide)),none,none,none,none,none,none,none]) ?_ fun N hN=>?_
  rotate_left
  · repeat (first | walk_at "rs1" | set_option simprocs false in simp only[ixk0,ixk1,ixk2,ixk3,ixk4,ex_at])
    exact ⟨⟨by decide,by decide⟩,by decide,fun _=>⟨⟨by decide,by decide⟩,by decide,hN _ ⟨_,_,by lia,.inr ⟨rfl,by lia⟩,rfl⟩⟩,fun _=>hN _ ⟨_,_,by lia,.inl ⟨rfl,by lia⟩,rfl⟩⟩
  rintro ρ ⟨low,wide,h0,hw,rfl⟩
  refine cutT (fun ρ=>∃g:Int,(0≤g∧g≤50)∧ρ = [some (B.p (D.scr ns)),some (B.p (D.int n)),some (B.p (D.int low)),some (B.p (D.int wide)),some (B.p (D.int g)),none,none,none,none,none,none]) ?_ fun N hN=>?_
  rotate_left
  · repeat (first | walk_at "rs1" | set_option simprocs false in simp only[ixk0,ixk1,ixk2,ixk3,ixk4,ex_at])
    refine ⟨ns,1,rfl,hl,⟨by decide,by decide⟩,fun z hz=>?_⟩
    repeat (first | walk_at "rs1" | set_option simprocs false in simp only[ixk0,ixk1,ixk2,ixk3,ixk4,ex_at])
    exact ⟨by decide,hN _ ⟨_,⟨by lia,by lia⟩,rfl⟩⟩
  rintro ρ ⟨g,hg,rfl⟩
  refine cutT (fun ρ=>∃g:Int,(0≤g∧g≤50)∧ρ = [some (B.p (D.scr ns)),some (B.p (D.int n)),some (B.p (D.int low)),some (B.p (D.int wide)),some (B.p (D.int g)),none,none,none,none,none,none]) ?_ fun N hN=>?_
  rotate_left
  · repeat (first | walk_at "rs1" | set_option simprocs false in simp only[ixk0,ixk1,ixk2,ixk3,ixk4,ex_at])
    refine ⟨ns,1,rfl,hl,⟨by decide,by decide⟩,fun z hz=>?_⟩
    repeat (first | walk_at "rs1" | set_option simprocs false in simp only[ixk0,ixk1,ixk2,ixk3,ixk4,ex_at])
    refine ⟨⟨by decide,by decide⟩,by decide,fun _=>⟨ns,1,rfl,hl,⟨by decide,by decide⟩,fun z hz=>?_⟩,fun _=>hN _ ⟨g,hg,rfl⟩⟩
    repeat (first | walk_at "rs1" | set_option simprocs false in simp only[ixk0,ixk1,ixk2,ixk3,ixk4,ex_at])
    exact ⟨⟨by decide,by decide⟩,by decide,hN _ ⟨_,⟨by lia,by lia⟩,rfl⟩⟩
  clear hg g
  rintro ρ ⟨g,hg,rfl⟩
  refine cutT (fun ρ=>∃g:Int,(0≤g∧g≤50)∧ρ = [some (B.p (D.scr ns)),some (B.p (D.int n)),some (B.p (D.int low)),some (B.p (D.int wide)),some (B.p (D.int g)),none,none,none,none,none,none]) ?_ fun N hN=>?_
  rotate_left
  · repeat (first | walk_at "rs1" | set_option simprocs false in simp only[ixk0,ixk1,ixk2,ixk3,ixk4,ex_at])
    exact ⟨fun _=>⟨⟨by decide,by decide⟩,by decide,fun _=>hN _ ⟨50,⟨by decide,by decide⟩,rfl⟩,fun _=>hN _ ⟨g,hg,rfl⟩⟩,fun _=>⟨fun z=>(nomatch z),fun _=>hN _ ⟨g,hg,rfl⟩⟩⟩
  clear hg g
  rintro ρ ⟨g,hg,rfl⟩
  refine cutT (fun ρ=>∃a b:Int,(0≤a∧a≤12∧0≤b∧b≤12)∧ρ = [some (B.p (D.scr ns)),some (B.p (D.int n)),some (B.p (D.int low)),some (B.p (D.int wide)),some (B.p (D.int g)),some (B.p (D.lst [D.int a,D.int b])),none,none,none,none,none]) ?_ fun N hN=>?_
  rotate_left
  · repeat (first | walk_at "rs1" | set_option simprocs false in simp only[ixk0,ixk1,ixk2,ixk3,ixk4,ex_at])
    refine ⟨ns,2,rfl,hl,⟨by decide,by decide⟩,fun z hz=>?_⟩
    repeat (first | walk_at "rs1" | set_option simprocs false in simp only[ixk0,ixk1,ixk2,ixk3,ixk4,ex_at])
    refine ⟨by decide,ns,3,rfl,hl,⟨by decide,by decide⟩,fun y hy=>?_⟩
    repeat (first | walk_at "rs1" | set_option simprocs false in simp only[ixk0,ixk1,ixk2,ixk3,ixk4,ex_at])
    exact ⟨by decide,hN _ ⟨_,_,⟨by lia,by lia,by lia,by lia⟩,rfl⟩⟩
  rintro ρ ⟨a,b,hab,rfl⟩
  refine cutT (fun ρ=>∃a b:Int,(0≤a∧a≤12∧0≤b∧b≤12)∧ρ = [some (B.p (D.scr ns)),some (B.p (D.int n)),some (B.p (D.int low)),some (B.p (D.int wide)),some (B.p (D.int g)),some (B.p (D.lst [D.int a,D.int b])),none,none,none,none,none]) ?_ fun N hN=>?_
  rotate_left
  · repeat (first | walk_at "rs1" | set_option simprocs false in simp only[ixk0,ixk1,ixk2,ixk3,ixk4,ex_at])
    refine ⟨fun _=>?_,fun _=>⟨ns,2,rfl,hl,⟨by decide,by decide⟩,fun z hz=>?_⟩⟩
    · refine hN _ ⟨_,_,⟨?_,?_,?_,?_⟩,rfl⟩<;>split<;>lia
    · repeat (first | walk_at "rs1" | set_option simprocs false in simp only[ixk0,ixk1,ixk2,ixk3,ixk4,ex_at])
      refine ⟨⟨by decide,by decide⟩,by decide,fun _=>⟨ns,3,rfl,hl,⟨by decide,by decide⟩,fun y hy=>?_⟩,fun _=>hN _ ⟨a,b,hab,rfl⟩⟩
      repeat (first | walk_at "rs1" | set_option simprocs false in simp only[ixk0,ixk1,ixk2,ixk3,ixk4,ex_at])
      exact ⟨by decide,hN _ ⟨_,_,⟨by lia,by lia,by lia,by lia⟩,rfl⟩⟩
  clear hab a b
  rintro ρ ⟨a,b,⟨ha,ha2,hb,hb2⟩,rfl⟩
  refine cutT (fun ρ=>∃m:Int,(1≤m∧m≤1000000000)∧ρ = [some (B.p (D.scr ns)),some (B.p (D.int n)),some (B.p (D.int low)),some (B.p (D.int wide)),some (B.p (D.int g)),some (B.p (D.lst [D.int a,D.int b])),some (B.p (D.int m)),none,none,none,none]) ?_ fun N hN=>?_
  rotate_left
  · repeat (first | walk_at "rs1" | set_option simprocs false in simp only[ixk0,ixk1,ixk2,ixk3,ixk4,ex_at])
    refine ⟨⟨by decide,by decide,by decide⟩,ns,4,rfl,hl,⟨by decide,by decide⟩,fun z hz=>?_⟩
    repeat (first | walk_at "rs1" | set_option simprocs false in simp only[ixk0,ixk1,ixk2,ixk3,ixk4,ex_at])
    refine ⟨by decide,?_⟩
    have:z % 2=0∨z % 2=1:=by lia
    rcases this with e | e<;>rw[e]
    · exact ⟨_,rfl,hN _ ⟨4,⟨by decide,by decide⟩,rfl⟩⟩
    · exact ⟨_,rfl,hN _ ⟨_,⟨by decide,by decide⟩,rfl⟩⟩
  rintro ρ ⟨m,hm,rfl⟩
  refine cutT (fun ρ=>ρ = [some (B.p (D.scr ns)),some (B.p (D.int n)),some (B.p (D.int low)),some (B.p (D.int wide)),some (B.p (D.int g)),some (B.p (D.lst [D.int a,D.int b])),some (B.p (D.int m)),some (B.o (D.lst [])),none,none,none]) ?_ fun N hN=>?_
  rotate_left
  · repeat (first | walk_at "rs1" | set_option simprocs false in simp only[ixk0,ixk1,ixk2,ixk3,ixk4,ex_at])
    exact hN _ rfl
  rintro ρ rfl
  have sl:sizeLine=16777216:=sizeLine_eq
  refine cutT (fun ρ=>∃(ss:List S3) (a8 a9:Option B),(∀s∈ss,ColdOk s)∧ss.length=(a+b).toNat∧ρ = [some (B.p (D.scr ns)),some (B.p (D.int n)),some (B.p (D.int low)),some (B.p (D.int wide)),some (B.p (D.int g)),some (B.p (D.lst [D.int a,D.int b])),some (B.p (D.int m)),some (B.o (D.lst (ss.map d3))),a8,a9,none]) ?_ fun N hN=>?_
  rotate_left
  · repeat (first | walk_at "rs1" | set_option simprocs false in simp only[ixk0,ixk1,ixk2,ixk3,ixk4,ex_at])
    refine ⟨⟨by lia,by lia⟩,?_⟩
    refine for_nat (fun i ρ=>∃(ss:List S3) (a8 a9:Option B),(∀s∈ss,ColdOk s)∧ss.length=i∧ρ = [some (B.p (D.scr ns)),some (B.p (D.int n)),some (B.p (D.int low)),some (B.p (D.int wide)),some (B.p (D.int g)),some (B.p (D.lst [D.int a,D.int b])),some (B.p (D.int m)),some (B.o (D.lst (ss.map d3))),a8,a9,none]) ⟨[],none,none,fun s h=>(nomatch h),rfl,rfl⟩ ?_ ?_
    · rintro i x ρ hx ⟨ss,a8,a9,hs,hlen,rfl⟩
      obtain ⟨hi,rfl⟩:=upFrom_get hx
      rw[Int.zero_add]
      repeat (first | walk_at "rs1" | set_option simprocs false in simp only[ixk0,ixk1,ixk2,ixk3,ixk4,ex_at])
      refine ⟨fun z=>(by have:=Option.some.inj z; lia),dSum_mk ?_⟩
      repeat (first | walk_at "rs1" | set_option simprocs false in simp only[ixk0,ixk1,ixk2,ixk3,ixk4,ex_at])
      refine ⟨ns,20+(i:Int),rfl,hl,⟨by lia,by lia⟩,fun z hz=>?_⟩
      repeat (first | walk_at "rs1" | set_option simprocs false in simp only[ixk0,ixk1,ixk2,ixk3,ixk4,ex_at])
      refine ⟨_,low,wide,m,rfl,h0,hw,hm.1,hm.2,fun s ho=>?_⟩
      repeat (first | walk_at "rs1" | set_option simprocs false in simp only[ixk0,ixk1,ixk2,ixk3,ixk4,ex_at])
      rw[List.length_map]
      refine ⟨by lia,ss++[s],_,_,fun t ht=>?_,by rw[List.length_append,hlen]; rfl,by rw[List.map_append]; rfl⟩
      rcases List.mem_append.mp ht with ht | ht
      · exact hs t ht
      · rw[List.mem_singleton.mp ht]; exact ho
    · rintro ρ ⟨ss,a8,a9,hs,hlen,rfl⟩
      rw[upFrom_len] at hlen
      exact hN _ ⟨ss,a8,a9,hs,hlen,rfl⟩
  rintro ρ ⟨ss,a8,a9,hs,hlen,rfl⟩
  obtain ⟨k,rfl⟩ : ∃k:Nat,a=(k:Int):=⟨a.toNat,(Int.toNat_of_nonneg ha).symm⟩
  repeat (first | walk_at "rs1" | set_option simprocs false in simp only[ixk0,ixk1,ixk2,ixk3,ixk4,ex_at])
  rw[cut_to,←List.map_take]
  refine lc_mapJ d3_inj (fun s=>d3 (s.2.1,s.1,s.2.2)) (by rw[List.length_take]; lia) (fun s _=>?_) ?_
  · repeat (first | dsimp only[d3] | walk_at "rs1" | set_option simprocs false in simp only[ixk0,ixk1,ixk2,ixk3,ixk4,ex_at])
  repeat (first | walk_at "rs1" | set_option simprocs false in simp only[ixk0,ixk1,ixk2,ixk3,ixk4,ex_at])
  rw[cut_from,←List.map_drop]
  have e:=q g ((ss.take k).map fun s=>(s.2.1,s.1,s.2.2)) (ss.drop k) ⟨hg.1,hg.2,by rw[List.length_map,List.length_take]; lia,by rw[List.length_drop]; lia,fun s h=>by
    obtain ⟨t,ht,rfl⟩:=List.mem_map.mp h
    obtain ⟨o1,o2,o3,o4,o5⟩:=hs t (List.mem_of_mem_take ht)
    exact ⟨o1,o2,o3,o4,o5⟩,fun s h=>hs s (List.mem_of_mem_drop h)⟩
  unfold dW at e
  rw[List.map_map] at e
  exact e
def r_law_bought:DR:=fun ds P=>∃g hs cs,ds = [dW g hs cs]∧WksOk g hs cs∧∀m,Lst g hs cs m→P (.p (.tup [.int m,.int (m - lackF g hs cs 0)]))
theorem ok_law_bought (T:Blt K mg) (F_looked_through:Fn P w K mg base "looked_through" 3 ["works","passes"] (spD K r_looked_through)) (F_shared:Fn P w K mg base "shared" 2 ["works"] (spDT K Pt qnL r_shared)) (F:Fun K "_law_bought" "_law_bought" s_law_bought f fd) : FnOk P w K mg base CX0 4 f fd ["works"] (spDT K Pt qnL r_law_bought):=by
  refine okDT F sc_law_bought (fun ds Q h=>by obtain ⟨g,hs,cs,rfl,ok,q⟩:=h; rfl) fun cdv A outer s H E hr hT=>⟨_,(dss_cons (ds_setP (i:=1) sc_law_bought.nd rfl (Or.inl rfl) (de_fn F_looked_through (hr.mono (by decide)) (by rfl) (da_cons (dv 0) (da_cons (de_fnT hT F_shared (hr.mono (by decide)) (by rfl) (da_cons (de_tup (da_cons (de_ix (dv 0) de_int) (da_cons (de_callTy cd_list (by rfl) T.b_list PyProof.Rows.boot_list (da_cons (de_ix (dv 0) de_int) da_nil)) (da_cons (de_callTy cd_list (by rfl) T.b_list PyProof.Rows.boot_list (da_cons (de_ix (dv 0) de_int) da_nil)) da_nil)))) da_nil)) da_nil))))
      (dss_cons (ds_if (dw_or (dt_not (dt_val (de_isi (T:="tuple") (by simp) (by rfl) T.b_isinstance (dv 1) (pe_bltn (v:=.ty "tuple") (by rfl) T.b_tuple PyProof.Rows.boot_tuple rfl)))) (dw_or1 (dt_cmp od_ne (de_callB cd_len (by rfl) T.b_len PySem.boot_len (da_cons (dv 1) da_nil)) de_int (nomark _)))).dt (dss_one (ds_ret de_non)) dss_nil)
      (dss_cons (ds_setP (i:=2) sc_law_bought.nd rfl (Or.inl rfl) (de_callB (cd_sum rfl) (by rfl) T.b_sum PyProof.Rows.boot_sum (da_cons (de_lc (g:=(.t [0,1,2])) (tc:=dTrue) (te:=(dOp _ (dOp _ (dVar 1) (dVar 0)) (dVar 2))) (sc0:=defScope s_law_bought) (N0:=["works","found","gets","gives"]) ["start","goal","rate"] [none,none,none] rfl (di_list (de_ix (dv 0) de_int)) (fun _ _ _ _ _=>(pg_seq rfl (pgs_cons (pg_name (i:=0) (show (["start","goal","rate"] : List Str).Nodup by decide +kernel) rfl (Or.inl rfl)) (pgs_cons (pg_name (i:=1) (show (["start","goal","rate"] : List Str).Nodup by decide +kernel) rfl (Or.inl rfl)) (pgs_cons (pg_name (i:=2) (show (["start","goal","rate"] : List Str).Nodup by decide +kernel) rfl (Or.inl rfl)) pgs_nil))))) (fun _ _ _ _ _=>difs_nil) (fun _ _ _ _ _=>(de_op od_times (de_op od_sub (dv 1) (dv 0)) (dv 2)))) da_nil)))
      (dss_cons (ds_setP (i:=3) sc_law_bought.nd rfl (Or.inl rfl) (de_callB (cd_sum rfl) (by rfl) T.b_sum PyProof.Rows.boot_sum (da_cons (de_lc (g:=(.t [0,1,2])) (tc:=dTrue) (te:=(dOp _ (dOp _ (dVar 0) (dVar 1)) (dVar 2))) (sc0:=defScope s_law_bought) (N0:=["works","found","gets","gives"]) ["start","goal","rate"] [none,none,none] rfl (di_list (de_ix (dv 0) de_int)) (fun _ _ _ _ _=>(pg_seq rfl (pgs_cons (pg_name (i:=0) (show (["start","goal","rate"] : List Str).Nodup by decide +kernel) rfl (Or.inl rfl)) (pgs_cons (pg_name (i:=1) (show (["start","goal","rate"] : List Str).Nodup by decide +kernel) rfl (Or.inl rfl)) (pgs_cons (pg_name (i:=2) (show (["start","goal","rate"] : List Str).Nodup by decide +kernel) rfl (Or.inl rfl)) pgs_nil))))) (fun _ _ _ _ _=>difs_nil) (fun _ _ _ _ _=>(de_op od_times (de_op od_sub (dv 0) (dv 1)) (dv 2)))) da_nil)))
      (dss_cons (ds_if (dw_or (dt_cmp od_lt (de_ix (dv 1) de_int) de_int (nomark _)) (dw_or (dt_cmp od_lt (de_ix (dv 1) de_int) de_int (nomark _)) (dw_or1 (dt_cmp od_ne (de_op od_sub (de_ix (dv 1) de_int) (de_ix (dv 1) de_int)) (de_op od_sub (dv 2) (dv 3)) (nomark _))))).dt (dss_one (ds_ret de_non)) dss_nil)
      (dss_one (ds_ret (dv 1)))))))),fun ds Q h=>?_⟩
  obtain ⟨g,hs,cs,rfl,ok,q⟩:=h
  have sh:=ss_hot ok.hot ok.nh
  have sc:=ss_cold ok.cold ok.nc
  have nh:=ok.nh
  have nc:=ok.nc
  refine cutT (fun ρ=>∃m n:Int,Lst g hs cs m∧0≤n∧n=m - lackF g hs cs 0∧ρ = [some (B.p (dW g hs cs)),some (B.p (.tup [.int m,.int n])),none,none]) ?_ fun N hN=>?_
  rotate_left
  · repeat (first | dsimp only[dW] | walk_at "rs1" | set_option simprocs false in simp only[ixk0,ixk1,ixk2,ixk3,ixk4,ex_at])
    refine ⟨g,hs,cs,rfl,ok,fun ps L _ hp ti=>?_⟩
    repeat (first | walk_at "rs1" | set_option simprocs false in simp only[ixk0,ixk1,ixk2,ixk3,ixk4,ex_at])
    exact ⟨g,hs,cs,ps,rfl,sh,sc,by lia,fun _=>hN _ ⟨_,_,L.lst ok.hot ok.cold ti,L.cold0,L.diff ok.hot ok.cold ok.g0,rfl⟩,fun nL=>absurd L nL⟩
  rintro ρ ⟨m,n,hm,n0,hn,rfl⟩
  refine cutT (fun ρ=>ρ = [some (B.p (dW g hs cs)),some (B.p (.tup [.int m,.int n])),none,none]) ?_ fun N hN=>?_
  rotate_left
  · repeat (first | walk_at "rs1" | set_option simprocs false in simp only[ixk0,ixk1,ixk2,ixk3,ixk4,ex_at])
    exact ⟨fun z=>(nomatch z),fun _=>⟨fun z=>(nomatch z),fun _=>hN _ rfl⟩⟩
  rintro ρ rfl
  refine cutT (fun ρ=>ρ = [some (B.p (dW g hs cs)),some (B.p (.tup [.int m,.int n])),some (B.p (.int (cs.map fun s=>(s.2.1 - s.1)*s.2.2).sum)),none]) ?_ fun N hN=>?_
  rotate_left
  · repeat (first | dsimp only[dW] | walk_at "rs1" | set_option simprocs false in simp only[ixk0,ixk1,ixk2,ixk3,ixk4,ex_at])
    refine lc_mapJ d3_inj (fun s=>.int ((s.2.1 - s.1)*s.2.2)) (by lia) (fun s hm=>?_) ?_
    · obtain ⟨o1,o2,o3,o4,o5⟩:=ok.cold s hm
      repeat (first | dsimp only[d3] | walk_at "rs1" | set_option simprocs false in simp only[ixk0,ixk1,ixk2,ixk3,ixk4,ex_at])
      exact ⟨mulL (by lia),trivial⟩
    · exact ⟨cs.map fun s=>(s.2.1 - s.1)*s.2.2,by rw[List.map_map]; rfl,hN _ rfl⟩
  rintro ρ rfl
  refine cutT (fun ρ=>ρ = [some (B.p (dW g hs cs)),some (B.p (.tup [.int m,.int n])),some (B.p (.int (cs.map fun s=>(s.2.1 - s.1)*s.2.2).sum)),some (B.p (.int (hs.map fun s=>(s.1 - s.2.1)*s.2.2).sum))]) ?_ fun N hN=>?_
  rotate_left
  · repeat (first | dsimp only[dW] | walk_at "rs1" | set_option simprocs false in simp only[ixk0,ixk1,ixk2,ixk3,ixk4,ex_at])
    refine lc_mapJ d3_inj (fun s=>.int ((s.1 - s.2.1)*s.2.2)) (by lia) (fun s hm=>?_) ?_
    · obtain ⟨o1,o2,o3,o4,o5⟩:=ok.hot s hm
      repeat (first | dsimp only[d3] | walk_at "rs1" | set_option simprocs false in simp only[ixk0,ixk1,ixk2,ixk3,ixk4,ex_at])
      exact ⟨mulL (by lia),trivial⟩
    · exact ⟨hs.map fun s=>(s.1 - s.2.1)*s.2.2,by rw[List.map_map]; rfl,hN _ rfl⟩
  rintro ρ rfl
  have e0:=lack_zero ok.g0 ok.hot ok.cold
  have m0:=hm.z
  repeat (first | walk_at "rs1" | set_option simprocs false in simp only[ixk0,ixk1,ixk2,ixk3,ixk4,ex_at])
  refine ⟨fun h=>absurd (of_decide_eq_true h) (by lia),fun _=>⟨fun h=>absurd (of_decide_eq_true h) (by lia),fun _=>?_⟩⟩
  rw[decide_eq_true (show m - n=(cs.map fun s=>(s.2.1 - s.1)*s.2.2).sum - (hs.map fun s=>(s.1 - s.2.1)*s.2.2).sum by lia)]
  refine ⟨fun z=>(nomatch z),fun _=>?_⟩
  rw[hn]
  exact q m hm
theorem cut_last {α:Type} (l:List α) (x:α) : cutL (l++[x]) none (some (-1))=l:=by
  unfold cutL HT.sIx
  rw[List.length_append]
  simp
  rw[show (-1+((l.length:Int)+1)).toNat=l.length by lia,List.take_left]
def r_law:DR:=fun ds P=>∃ns:List Int,ds = [.scr ns]∧ns.length≤63∧P (.p (.bl true))
theorem ok_law (T:Blt K mg) (F_law_works:Fn P w K mg base "_law_works" 2 ["script"] (spD K r_law_works)) (F_law_stream:Fn P w K mg base "_law_stream" 1 ["number","low","wide","most"] (spD K r_law_stream)) (F_law_bought:Fn P w K mg base "_law_bought" 4 ["works"] (spDT K Pt qnL r_law_bought)) (F_law_draw:Fn P w K mg base "_law_draw" 1 ["script","k"] (spD K r_law_draw)) (F:Fun K "law" "law" s_law f fd) : FnOk P w K mg base CX0 5 f fd ["script"] (spDT K Pt qnL r_law):=by
  refine okDT F sc_law (fun ds Q h=>by obtain ⟨ns,rfl,hl,q⟩:=h; rfl) fun cdv A outer s H E hr hT=>⟨_,(dss_cons (ds_asg (g:=(.t [1,2,3])) (de_fn F_law_works (hr.mono (by decide)) (by rfl) (da_cons (dv 0) da_nil)) (pg_seq rfl (pgs_cons (pg_name (i:=1) sc_law.nd rfl (Or.inl rfl)) (pgs_cons (pg_name (i:=2) sc_law.nd rfl (Or.inl rfl)) (pgs_cons (pg_name (i:=3) sc_law.nd rfl (Or.inl rfl)) pgs_nil)))))
      (dss_cons (ds_asg (g:=(.t [4,5,6])) (de_fn F_law_stream (hr.mono (by decide)) (by rfl) (da_cons (de_fn F_law_draw (hr.mono (by decide)) (by rfl) (da_cons (dv 0) (da_cons de_int da_nil))) (da_cons (de_op od_mod (de_fn F_law_draw (hr.mono (by decide)) (by rfl) (da_cons (dv 0) (da_cons de_int da_nil))) de_int) (da_cons de_int (da_cons (de_op od_pow de_int de_int) da_nil))))) (pg_seq rfl (pgs_cons (pg_name (i:=4) sc_law.nd rfl (Or.inl rfl)) (pgs_cons (pg_name (i:=5) sc_law.nd rfl (Or.inl rfl)) (pgs_cons (pg_name (i:=6) sc_law.nd rfl (Or.inl rfl)) pgs_nil)))))
      (dss_cons (ds_setP (i:=7) sc_law.nd rfl (Or.inl rfl) (de_op od_times (de_op od_sub (dv 5) (dv 4)) (dv 6)))
      (dss_cons (ds_setP (i:=8) sc_law.nd rfl (Or.inl rfl) (de_fnT hT F_law_bought (hr.mono (by decide)) (by rfl) (da_cons (de_tup (da_cons (dv 1) (da_cons (dv 2) (da_cons (dv 3) da_nil)))) da_nil)))
      (dss_cons (ds_setP (i:=9) sc_law.nd rfl (Or.inl rfl) (de_fnT hT F_law_bought (hr.mono (by decide)) (by rfl) (da_cons (de_tup (da_cons (de_callB (cd_min2 rfl) (by rfl) T.b_min PyProof.Rows.boot_min (da_cons de_int (da_cons (de_op od_plus (de_op od_plus (dv 1) de_int) (de_op od_mod (de_fn F_law_draw (hr.mono (by decide)) (by rfl) (da_cons (dv 0) (da_cons de_int da_nil))) de_int)) da_nil))) (da_cons (dv 2) (da_cons (dv 3) da_nil)))) da_nil)))
      (dss_cons (ds_if (dw_or (dt_cmp od_isN (dv 8) de_non (nomark _)) (dw_or (dt_cmp od_isN (dv 9) de_non (nomark _)) (dw_or (dt_cmp od_lt (de_ix (dv 9) de_int) (de_ix (dv 8) de_int) (nomark _)) (dw_or1 (dt_cmp od_lt (de_ix (dv 9) de_int) (de_ix (dv 8) de_int) (nomark _)))))).dt (dss_one (ds_ret de_bl)) dss_nil)
      (dss_cons (ds_if (dt_cmp od_lt (de_callB cd_len (by rfl) T.b_len PySem.boot_len (da_cons (dv 2) da_nil)) de_int (nomark _)) (dss_cons (ds_setP (i:=10) sc_law.nd rfl (Or.inl rfl) (de_fnT hT F_law_bought (hr.mono (by decide)) (by rfl) (da_cons (de_tup (da_cons (dv 1) (da_cons (de_op od_plus (dv 2) (de_lst (da_cons (de_tup (da_cons (dv 5) (da_cons (dv 4) (da_cons (dv 6) da_nil)))) da_nil))) (da_cons (dv 3) da_nil)))) da_nil)))
      (dss_one (ds_if (dw_or (dt_cmp od_isN (dv 10) de_non (nomark _)) (dw_or (dt_cmp od_gt (de_ix (dv 10) de_int) (de_ix (dv 8) de_int) (nomark _)) (dw_or1 (dt_cmp od_lt (de_ix (dv 10) de_int) (de_op od_sub (de_ix (dv 8) de_int) (dv 7)) (nomark _))))).dt (dss_one (ds_ret de_bl)) dss_nil))) dss_nil)
      (dss_cons (ds_if (dt_cmp od_lt (de_callB cd_len (by rfl) T.b_len PySem.boot_len (da_cons (dv 3) da_nil)) de_int (nomark _)) (dss_cons (ds_setP (i:=10) sc_law.nd rfl (Or.inl rfl) (de_fnT hT F_law_bought (hr.mono (by decide)) (by rfl) (da_cons (de_tup (da_cons (dv 1) (da_cons (dv 2) (da_cons (de_op od_plus (dv 3) (de_lst (da_cons (de_tup (da_cons (dv 4) (da_cons (dv 5) (da_cons (dv 6) da_nil)))) da_nil))) da_nil)))) da_nil)))
      (dss_one (ds_if (dw_or (dt_cmp od_isN (dv 10) de_non (nomark _)) (dw_or (dt_cmp od_lt (de_ix (dv 10) de_int) (de_ix (dv 8) de_int) (nomark _)) (dw_or1 (dt_cmp od_gt (de_ix (dv 10) de_int) (de_op od_plus (de_ix (dv 8) de_int) (dv 7)) (nomark _))))).dt (dss_one (ds_ret de_bl)) dss_nil))) dss_nil)
      (dss_cons (ds_if (dt_cmp (od_eqD hr) (dv 2) (de_lst da_nil) (nomark _)) (dss_one (ds_ret de_bl)) dss_nil)
      (dss_cons (ds_setP (i:=11) sc_law.nd rfl (Or.inl rfl) (de_fnT hT F_law_bought (hr.mono (by decide)) (by rfl) (da_cons (de_tup (da_cons (dv 1) (da_cons (de_slice (dv 2) do_none (do_some (de_neg de_int))) (da_cons (dv 3) da_nil)))) da_nil)))
      (dss_one (ds_ret (de_and (de_cmp od_notN (dv 11) de_non (nomark _)) (de_one (de_cmp od_ge (de_ix (dv 11) de_int) (de_ix (dv 8) de_int) (nomark _)))))))))))))))),fun ds Q h=>?_⟩
  obtain ⟨ns,rfl,hl,q⟩:=h
  refine cutT (fun ρ=>∃g hs cs,WksOk g hs cs∧ρ = [some (B.p (D.scr ns)),some (.p (.int g)),some (.p (.lst (hs.map d3))),some (.p (.lst (cs.map d3))),none,none,none,none,none,none,none,none]) ?_ fun N hN=>?_
  rotate_left
  · repeat (first | walk_at "rs1" | set_option simprocs false in simp only[ixk0,ixk1,ixk2,ixk3,ixk4,ex_at])
    refine ⟨ns,rfl,hl,fun g hs cs ok=>?_⟩
    repeat (first | dsimp only[dW] | walk_at "rs1" | set_option simprocs false in simp only[ixk0,ixk1,ixk2,ixk3,ixk4,ex_at])
    exact hN _ ⟨g,hs,cs,ok,rfl⟩
  rintro ρ ⟨g,hs,cs,ok,rfl⟩
  have sl:sizeLine=16777216:=sizeLine_eq
  have nh:=ok.nh
  have nc:=ok.nc
  have g0:=ok.g0
  have g1:=ok.g1
  refine cutT (fun ρ=>∃x:S3,ColdOk x∧ρ = [some (B.p (D.scr ns)),some (.p (.int g)),some (.p (.lst (hs.map d3))),some (.p (.lst (cs.map d3))),some (.p (.int x.1)),some (.p (.int x.2.1)),some (.p (.int x.2.2)),none,none,none,none,none]) ?_ fun N hN=>?_
  rotate_left
  · repeat (first | walk_at "rs1" | set_option simprocs false in simp only[ixk0,ixk1,ixk2,ixk3,ixk4,ex_at])
    refine ⟨ns,60,rfl,hl,⟨by decide,by decide⟩,fun z hz=>?_⟩
    repeat (first | walk_at "rs1" | set_option simprocs false in simp only[ixk0,ixk1,ixk2,ixk3,ixk4,ex_at])
    refine ⟨ns,61,rfl,hl,⟨by decide,by decide⟩,fun y hy=>?_⟩
    repeat (first | walk_at "rs1" | set_option simprocs false in simp only[ixk0,ixk1,ixk2,ixk3,ixk4,ex_at])
    refine ⟨by decide,⟨by decide,by decide,by decide⟩,z,y % 20,6,_,rfl,by lia,.inl ⟨rfl,by lia⟩,by decide,by decide,fun x ox=>?_⟩
    repeat (first | dsimp only[d3] | walk_at "rs1" | set_option simprocs false in simp only[ixk0,ixk1,ixk2,ixk3,ixk4,ex_at])
    exact hN _ ⟨x,ox,rfl⟩
  rintro ρ ⟨x,ox,rfl⟩
  obtain ⟨x1,x2,x3,x4,x5⟩:=ox
  refine cutT (fun ρ=>ρ = [some (B.p (D.scr ns)),some (.p (.int g)),some (.p (.lst (hs.map d3))),some (.p (.lst (cs.map d3))),some (.p (.int x.1)),some (.p (.int x.2.1)),some (.p (.int x.2.2)),some (.p (.int ((x.2.1 - x.1)*x.2.2))),none,none,none,none]) ?_ fun N hN=>?_
  rotate_left
  · repeat (first | walk_at "rs1" | set_option simprocs false in simp only[ixk0,ixk1,ixk2,ixk3,ixk4,ex_at])
    exact ⟨mulL (by lia),hN _ rfl⟩
  rintro ρ rfl
  refine cutT (fun ρ=>∃m,Lst g hs cs m∧ρ = [some (B.p (D.scr ns)),some (.p (.int g)),some (.p (.lst (hs.map d3))),some (.p (.lst (cs.map d3))),some (.p (.int x.1)),some (.p (.int x.2.1)),some (.p (.int x.2.2)),some (.p (.int ((x.2.1 - x.1)*x.2.2))),some (.p (.tup [.int m,.int (m - lackF g hs cs 0)])),none,none,none]) ?_ fun N hN=>?_
  rotate_left
  · repeat (first | walk_at "rs1" | set_option simprocs false in simp only[ixk0,ixk1,ixk2,ixk3,ixk4,ex_at])
    exact ⟨g,hs,cs,rfl,ok,fun m hm=>hN _ ⟨m,hm,rfl⟩⟩
  rintro ρ ⟨m,hm,rfl⟩
  refine cutT (fun ρ=>∃d m',0≤d∧g+d≤50∧Lst (g+d) hs cs m'∧ρ = [some (B.p (D.scr ns)),some (.p (.int g)),some (.p (.lst (hs.map d3))),some (.p (.lst (cs.map d3))),some (.p (.int x.1)),some (.p (.int x.2.1)),some (.p (.int x.2.2)),some (.p (.int ((x.2.1 - x.1)*x.2.2))),some (.p (.tup [.int m,.int (m - lackF g hs cs 0)])),some (.p (.tup [.int m',.int (m' - lackF (g+d) hs cs 0)])),none,none]) ?_ fun N hN=>?_
  rotate_left
  · repeat (first | walk_at "rs1" | set_option simprocs false in simp only[ixk0,ixk1,ixk2,ixk3,ixk4,ex_at])
    refine ⟨ns,62,rfl,hl,⟨by decide,by decide⟩,fun z hz=>?_⟩
    repeat (first | walk_at "rs1" | set_option simprocs false in simp only[ixk0,ixk1,ixk2,ixk3,ixk4,ex_at])
    refine ⟨by decide,?_⟩
    obtain ⟨d,hd⟩ : ∃d,(if g+1+z % 9<50 then g+1+z % 9 else 50)=g+d:=⟨(if g+1+z % 9<50 then g+1+z % 9 else 50) - g,by lia⟩
    have hd2:0≤d∧g+d≤50:=by split at hd<;>lia
    rw[hd]
    exact ⟨g+d,hs,cs,rfl,⟨by lia,hd2.2,nh,nc,ok.hot,ok.cold⟩,fun m' hm'=>hN _ ⟨d,m',hd2.1,hd2.2,hm',rfl⟩⟩
  rintro ρ ⟨d,m',d0,d1,hm',rfl⟩
  have w1:=hm.wider hm' ok.hot d0
  have w2:lackF (g+d) hs cs 0=lackF g hs cs 0:=by rw[lack_zero g0 ok.hot ok.cold,lack_zero (by lia) ok.hot ok.cold]
  refine cutT (fun ρ=>ρ = [some (B.p (D.scr ns)),some (.p (.int g)),some (.p (.lst (hs.map d3))),some (.p (.lst (cs.map d3))),some (.p (.int x.1)),some (.p (.int x.2.1)),some (.p (.int x.2.2)),some (.p (.int ((x.2.1 - x.1)*x.2.2))),some (.p (.tup [.int m,.int (m - lackF g hs cs 0)])),some (.p (.tup [.int m',.int (m' - lackF (g+d) hs cs 0)])),none,none]) ?_ fun N hN=>?_
  rotate_left
  · repeat (first | walk_at "rs1" | set_option simprocs false in simp only[ixk0,ixk1,ixk2,ixk3,ixk4,ex_at])
    exact ⟨fun z=>(nomatch z),fun _=>⟨fun z=>(nomatch z),fun _=>⟨fun h=>absurd (of_decide_eq_true h) (by lia),fun _=>⟨fun h=>absurd (of_decide_eq_true h) (by lia),fun _=>hN _ rfl⟩⟩⟩⟩
  rintro ρ rfl
  have oh:HotOk (x.2.1,x.1,x.2.2):=⟨x1,x2,x3,x4,x5⟩
  refine cutT (fun ρ=>∃a10,ρ = [some (B.p (D.scr ns)),some (.p (.int g)),some (.p (.lst (hs.map d3))),some (.p (.lst (cs.map d3))),some (.p (.int x.1)),some (.p (.int x.2.1)),some (.p (.int x.2.2)),some (.p (.int ((x.2.1 - x.1)*x.2.2))),some (.p (.tup [.int m,.int (m - lackF g hs cs 0)])),some (.p (.tup [.int m',.int (m' - lackF (g+d) hs cs 0)])),a10,none]) ?_ fun N hN=>?_
  rotate_left
  · repeat (first | walk_at "rs1" | set_option simprocs false in simp only[ixk0,ixk1,ixk2,ixk3,ixk4,ex_at])
    rw[List.length_map]
    refine ⟨fun h=>⟨?_,g,hs++[(x.2.1,x.1,x.2.2)],cs,?_,⟨g0,g1,?_,nc,mem_snoc ok.hot oh,ok.cold⟩,fun k hk=>?_⟩,fun _=>hN _ ⟨none,rfl⟩⟩
    · show hs.length+1≤_; lia
    · unfold dW; rw[List.map_append]; rfl
    · have:=of_decide_eq_true h; rw[List.length_append]; show hs.length+1≤12; lia
    · have:=hm.hot hk oh
      repeat (first | walk_at "rs1" | set_option simprocs false in simp only[ixk0,ixk1,ixk2,ixk3,ixk4,ex_at])
      exact ⟨fun z=>(nomatch z),fun _=>⟨fun h=>absurd (of_decide_eq_true h) (by lia),fun _=>⟨fun h=>absurd (of_decide_eq_true h) (by have:=this.2; dsimp only at this; lia),fun _=>hN _ ⟨_,rfl⟩⟩⟩⟩
  rintro ρ ⟨a10,rfl⟩
  refine cutT (fun ρ=>∃a10,ρ = [some (B.p (D.scr ns)),some (.p (.int g)),some (.p (.lst (hs.map d3))),some (.p (.lst (cs.map d3))),some (.p (.int x.1)),some (.p (.int x.2.1)),some (.p (.int x.2.2)),some (.p (.int ((x.2.1 - x.1)*x.2.2))),some (.p (.tup [.int m,.int (m - lackF g hs cs 0)])),some (.p (.tup [.int m',.int (m' - lackF (g+d) hs cs 0)])),a10,none]) ?_ fun N hN=>?_
  rotate_left
  · repeat (first | walk_at "rs1" | set_option simprocs false in simp only[ixk0,ixk1,ixk2,ixk3,ixk4,ex_at])
    rw[List.length_map]
    refine ⟨fun h=>⟨?_,g,hs,cs++[(x.1,x.2.1,x.2.2)],?_,⟨g0,g1,nh,?_,ok.hot,mem_snoc ok.cold ⟨x1,x2,x3,x4,x5⟩⟩,fun k hk=>?_⟩,fun _=>hN _ ⟨_,rfl⟩⟩
    · show cs.length+1≤_; lia
    · unfold dW; rw[List.map_append]; rfl
    · have:=of_decide_eq_true h; rw[List.length_append]; show cs.length+1≤12; lia
    · have:=hm.cold hk ⟨x1,x2,x3,x4,x5⟩
      repeat (first | walk_at "rs1" | set_option simprocs false in simp only[ixk0,ixk1,ixk2,ixk3,ixk4,ex_at])
      exact ⟨fun z=>(nomatch z),fun _=>⟨fun h=>absurd (of_decide_eq_true h) (by lia),fun _=>⟨fun h=>absurd (of_decide_eq_true h) (by have:=this.2; dsimp only at this; lia),fun _=>hN _ ⟨_,rfl⟩⟩⟩⟩
  rintro ρ ⟨b10,rfl⟩
  refine cutT (fun ρ=>hs≠[]∧ρ = [some (B.p (D.scr ns)),some (.p (.int g)),some (.p (.lst (hs.map d3))),some (.p (.lst (cs.map d3))),some (.p (.int x.1)),some (.p (.int x.2.1)),some (.p (.int x.2.2)),some (.p (.int ((x.2.1 - x.1)*x.2.2))),some (.p (.tup [.int m,.int (m - lackF g hs cs 0)])),some (.p (.tup [.int m',.int (m' - lackF (g+d) hs cs 0)])),b10,none]) ?_ fun N hN=>?_
  rotate_left
  · repeat (first | walk_at "rs1" | set_option simprocs false in simp only[ixk0,ixk1,ixk2,ixk3,ixk4,ex_at])
    refine ⟨⟨by rw[nos_lst]; exact nos_d3s hs,by rw[nos_lst,noss_nil],by rw[dep_lst]; have:=dep_d3s hs; lia⟩,?_⟩
    repeat (first | walk_at "rs1" | set_option simprocs false in simp only[ixk0,ixk1,ixk2,ixk3,ixk4,ex_at])
    refine ⟨fun _=>q,fun h=>hN _ ⟨fun z=>?_,rfl⟩⟩
    rw[z] at h
    cases h
  rintro ρ ⟨hne,rfl⟩
  obtain ⟨ini,y,rfl⟩ : ∃ini y,hs=ini++[y]:=by
    rcases List.eq_nil_or_concat hs with h | ⟨l,b,h⟩
    · exact absurd h hne
    · exact ⟨l,b,by rw[h,List.concat_eq_append]⟩
  have ec:cutL ((ini++[y]).map d3) none (some (-1))=ini.map d3:=by rw[List.map_append]; exact cut_last _ _
  refine cutT (fun ρ=>∃k,m≤k∧ρ = [some (B.p (D.scr ns)),some (.p (.int g)),some (.p (.lst ((ini++[y]).map d3))),some (.p (.lst (cs.map d3))),some (.p (.int x.1)),some (.p (.int x.2.1)),some (.p (.int x.2.2)),some (.p (.int ((x.2.1 - x.1)*x.2.2))),some (.p (.tup [.int m,.int (m - lackF g (ini++[y]) cs 0)])),some (.p (.tup [.int m',.int (m' - lackF (g+d) (ini++[y]) cs 0)])),b10,some (.p (.tup [.int k,.int (k - lackF g ini cs 0)]))]) ?_ fun N hN=>?_
  rotate_left
  · repeat (first | walk_at "rs1" | set_option simprocs false in simp only[ixk0,ixk1,ixk2,ixk3,ixk4,ex_at])
    rw[ec]
    refine ⟨g,ini,cs,rfl,⟨g0,g1,?_,nc,fun s hs=>ok.hot s (List.mem_append_left _ hs),ok.cold⟩,fun k hk=>hN _ ⟨k,(hk.hot hm (ok.hot y (by simp))).1,rfl⟩⟩
    rw[List.length_append] at nh
    lia
  rintro ρ ⟨k,hk,rfl⟩
  repeat (first | walk_at "rs1" | set_option simprocs false in simp only[ixk0,ixk1,ixk2,ixk3,ixk4,ex_at])
  refine ⟨fun _=>?_,fun z=>(nomatch z)⟩
  rw[decide_eq_true hk]
  exact q
end
end WS
namespace WS
open PySem L2 DL
theorem of_len1 {α:Type} {P:List α→Prop} (h:∀x0,P [x0]) : ∀us:List α,us.length=1→P us:=fun us hl=>match us,hl with | [x0],_=>h x0
theorem of_len2 {α:Type} {P:List α→Prop} (h:∀x0 x1,P [x0,x1]) : ∀us:List α,us.length=2→P us:=fun us hl=>match us,hl with | [x0,x1],_=>h x0 x1
theorem of_len3 {α:Type} {P:List α→Prop} (h:∀x0 x1 x2,P [x0,x1,x2]) : ∀us:List α,us.length=3→P us:=fun us hl=>match us,hl with | [x0,x1,x2],_=>h x0 x1 x2
theorem of_len4 {α:Type} {P:List α→Prop} (h:∀x0 x1 x2 x3,P [x0,x1,x2,x3]) : ∀us:List α,us.length=4→P us:=fun us hl=>match us,hl with | [x0,x1,x2,x3],_=>h x0 x1 x2 x3
theorem all_mk {l:PySem.W.OpenLaw} {w:World} {K:PySem.W.Frag} {h:Heap} {mg:Str→Option Value} {fa:Addr} (X:K.In h) (G:h.Ns mainGlobals mg) (hfa:mg "law" = some (.ref fa))
    {f1:Addr} {od1 an1:Option Addr} {sl1:Array (Option Value)} {oc1 kV1 dc1 pm1 cd1 ct1:Value}
    {f2:Addr} {od2 an2:Option Addr} {sl2:Array (Option Value)} {oc2 kV2 dc2 pm2 cd2 ct2:Value}
    {f3:Addr} {od3 an3:Option Addr} {sl3:Array (Option Value)} {oc3 kV3 dc3 pm3 cd3 ct3:Value}
    {f4:Addr} {od4 an4:Option Addr} {sl4:Array (Option Value)} {oc4 kV4 dc4 pm4 cd4 ct4:Value}
    {f5:Addr} {od5 an5:Option Addr} {sl5:Array (Option Value)} {oc5 kV5 dc5 pm5 cd5 ct5:Value}
    {f6:Addr} {od6 an6:Option Addr} {sl6:Array (Option Value)} {oc6 kV6 dc6 pm6 cd6 ct6:Value}
    {f7:Addr} {od7 an7:Option Addr} {sl7:Array (Option Value)} {oc7 kV7 dc7 pm7 cd7 ct7:Value}
    {f8:Addr} {od8 an8:Option Addr} {sl8:Array (Option Value)} {oc8 kV8 dc8 pm8 cd8 ct8:Value}
    {f9:Addr} {od9 an9:Option Addr} {sl9:Array (Option Value)} {oc9 kV9 dc9 pm9 cd9 ct9:Value}
    {f10:Addr} {od10 an10:Option Addr} {sl10:Array (Option Value)} {oc10 kV10 dc10 pm10 cd10 ct10:Value}
    {f11:Addr} {od11 an11:Option Addr} {sl11:Array (Option Value)} {oc11 kV11 dc11 pm11 cd11 ct11:Value}
    {f12:Addr} {od12 an12:Option Addr} {sl12:Array (Option Value)} {oc12 kV12 dc12 pm12 cd12 ct12:Value}
    {bt1:Addr} {bo1:Option Addr} {bu1 bv1:Tok} {bn1:Nat} {bs1:Array (Option Value)}
    {Pt mc:Addr}
    (a1:PySem.W.nsIn K mainGlobals "_law_draw" = some (some (.ref f1))) (l1:K.lookup f1=some ⟨oc1,od1,.func (PySem.W.fnOf "_law_draw" "_law_draw" (defArgs s_law_draw) (defBody s_law_draw) (defScope s_law_draw) .none kV1 dc1 pm1 an1 cd1 ct1),sl1⟩) (c1:PySem.W.codeIn K cd1 "_law_draw" = true) (k1:PySem.W.keepIn K (.ref f1)=true)
    (a2:PySem.W.nsIn K mainGlobals "_law_stream" = some (some (.ref f2))) (l2:K.lookup f2=some ⟨oc2,od2,.func (PySem.W.fnOf "_law_stream" "_law_stream" (defArgs s_law_stream) (defBody s_law_stream) (defScope s_law_stream) .none kV2 dc2 pm2 an2 cd2 ct2),sl2⟩) (c2:PySem.W.codeIn K cd2 "_law_stream" = true) (k2:PySem.W.keepIn K (.ref f2)=true)
    (a3:PySem.W.nsIn K mainGlobals "_law_works" = some (some (.ref f3))) (l3:K.lookup f3=some ⟨oc3,od3,.func (PySem.W.fnOf "_law_works" "_law_works" (defArgs s_law_works) (defBody s_law_works) (defScope s_law_works) .none kV3 dc3 pm3 an3 cd3 ct3),sl3⟩) (c3:PySem.W.codeIn K cd3 "_law_works" = true) (k3:PySem.W.keepIn K (.ref f3)=true)
    (a4:PySem.W.nsIn K mainGlobals "heat_by_step" = some (some (.ref f4))) (l4:K.lookup f4=some ⟨oc4,od4,.func (PySem.W.fnOf "heat_by_step" "heat_by_step" (defArgs s_heat_by_step) (defBody s_heat_by_step) (defScope s_heat_by_step) .none kV4 dc4 pm4 an4 cd4 ct4),sl4⟩) (c4:PySem.W.codeIn K cd4 "heat_by_step" = true) (k4:PySem.W.keepIn K (.ref f4)=true)
    (a5:PySem.W.nsIn K mainGlobals "rates_by_step" = some (some (.ref f5))) (l5:K.lookup f5=some ⟨oc5,od5,.func (PySem.W.fnOf "rates_by_step" "rates_by_step" (defArgs s_rates_by_step) (defBody s_rates_by_step) (defScope s_rates_by_step) .none kV5 dc5 pm5 an5 cd5 ct5),sl5⟩) (c5:PySem.W.codeIn K cd5 "rates_by_step" = true) (k5:PySem.W.keepIn K (.ref f5)=true)
    (a6:PySem.W.nsIn K mainGlobals "is_warm_enough" = some (some (.ref f6))) (l6:K.lookup f6=some ⟨oc6,od6,.func (PySem.W.fnOf "is_warm_enough" "is_warm_enough" (defArgs s_is_warm_enough) (defBody s_is_warm_enough) (defScope s_is_warm_enough) .none kV6 dc6 pm6 an6 cd6 ct6),sl6⟩) (c6:PySem.W.codeIn K cd6 "is_warm_enough" = true) (k6:PySem.W.keepIn K (.ref f6)=true)
    (a7:PySem.W.nsIn K mainGlobals "may_pass" = some (some (.ref f7))) (l7:K.lookup f7=some ⟨oc7,od7,.func (PySem.W.fnOf "may_pass" "may_pass" (defArgs s_may_pass) (defBody s_may_pass) (defScope s_may_pass) .none kV7 dc7 pm7 an7 cd7 ct7),sl7⟩) (c7:PySem.W.codeIn K cd7 "may_pass" = true) (k7:PySem.W.keepIn K (.ref f7)=true)
    (a8:PySem.W.nsIn K mainGlobals "looked_through" = some (some (.ref f8))) (l8:K.lookup f8=some ⟨oc8,od8,.func (PySem.W.fnOf "looked_through" "looked_through" (defArgs s_looked_through) (defBody s_looked_through) (defScope s_looked_through) .none kV8 dc8 pm8 an8 cd8 ct8),sl8⟩) (c8:PySem.W.codeIn K cd8 "looked_through" = true) (k8:PySem.W.keepIn K (.ref f8)=true)
    (a9:PySem.W.nsIn K mainGlobals "warmest_first" = some (some (.ref f9))) (l9:K.lookup f9=some ⟨oc9,od9,.func (PySem.W.fnOf "warmest_first" "warmest_first" (defArgs s_warmest_first) (defBody s_warmest_first) (defScope s_warmest_first) .none kV9 dc9 pm9 an9 cd9 ct9),sl9⟩) (c9:PySem.W.codeIn K cd9 "warmest_first" = true) (k9:PySem.W.keepIn K (.ref f9)=true)
    (a10:PySem.W.nsIn K mainGlobals "shared" = some (some (.ref f10))) (l10:K.lookup f10=some ⟨oc10,od10,.func (PySem.W.fnOf "shared" "shared" (defArgs s_shared) (defBody s_shared) (defScope s_shared) .none kV10 dc10 pm10 an10 cd10 ct10),sl10⟩) (c10:PySem.W.codeIn K cd10 "shared" = true) (k10:PySem.W.keepIn K (.ref f10)=true)
    (a11:PySem.W.nsIn K mainGlobals "_law_bought" = some (some (.ref f11))) (l11:K.lookup f11=some ⟨oc11,od11,.func (PySem.W.fnOf "_law_bought" "_law_bought" (defArgs s_law_bought) (defBody s_law_bought) (defScope s_law_bought) .none kV11 dc11 pm11 an11 cd11 ct11),sl11⟩) (c11:PySem.W.codeIn K cd11 "_law_bought" = true) (k11:PySem.W.keepIn K (.ref f11)=true)
    (a12:PySem.W.nsIn K mainGlobals "law" = some (some (.ref f12))) (l12:K.lookup f12=some ⟨oc12,od12,.func (PySem.W.fnOf "law" "law" (defArgs s_law) (defBody s_law) (defScope s_law) .none kV12 dc12 pm12 an12 cd12 ct12),sl12⟩) (c12:PySem.W.codeIn K cd12 "law" = true) (k12:PySem.W.keepIn K (.ref f12)=true)
    (z1:PySem.W.nsIn K mainGlobals "len" = some none)
    (z2:PySem.W.nsIn K mainGlobals "range" = some none)
    (z3:PySem.W.nsIn K mainGlobals "min" = some none)
    (z4:PySem.W.nsIn K mainGlobals "sum" = some none)
    (z5:PySem.W.nsIn K mainGlobals "enumerate" = some none)
    (z6:PySem.W.nsIn K mainGlobals "max" = some none)
    (z7:PySem.W.nsIn K mainGlobals "all" = some none)
    (z8:PySem.W.nsIn K mainGlobals "set" = some none)
    (z9:PySem.W.nsIn K mainGlobals "sorted" = some none)
    (z10:PySem.W.nsIn K mainGlobals "list" = some none)
    (z11:PySem.W.nsIn K mainGlobals "isinstance" = some none)
    (z12:PySem.W.nsIn K mainGlobals "tuple" = some none)
    (yt1:PySem.W.nsIn K mainGlobals "BOUGHT" = some (some (.ref bt1))) (yl1:K.lookup bt1=some ⟨.type "tuple",bo1,.seq #[.int (-1) bu1,.int (-1) bv1] bn1,bs1⟩)
    (m1:cd9=.ref mc) (m2:PySem.W.codeHdIn K mc Pt=true) (m3:K.lookup Pt=none)
    : ∃(fd:FuncData) (c:Addr),K.lookup Pt=none∧PySem.W.codeHdIn K c Pt=true∧(∀(s:Shared) (v:Value),BindsTo s fd ⟨[v],[]⟩ [("script",v)])∧∀base:Heap,K.In base→base.Ns mainGlobals mg→BltAt mg base→FnOk l.prog w K mg base CX0 5 fa fd ["script"] (spLawT K Pt qnL):=by
  have e:=hfa.symm.trans (PySem.W.mg_of X G a12)
  cases e
  have F1:=fun_mk (st:=s_law_draw) l1 c1 k1
  have b1:=F1.binds (ps:=["script","k"]) fun _ _ _ _ _ _=>of_len2 fun _ _=>rfl
  have F2:=fun_mk (st:=s_law_stream) l2 c2 k2
  have b2:=F2.binds (ps:=["number","low","wide","most"]) fun _ _ _ _ _ _=>of_len4 fun _ _ _ _=>rfl
  have F3:=fun_mk (st:=s_law_works) l3 c3 k3
  have b3:=F3.binds (ps:=["script"]) fun _ _ _ _ _ _=>of_len1 fun _=>rfl
  have F4:=fun_mk (st:=s_heat_by_step) l4 c4 k4
  have b4:=F4.binds (ps:=["pairs"]) fun _ _ _ _ _ _=>of_len1 fun _=>rfl
  have F5:=fun_mk (st:=s_rates_by_step) l5 c5 k5
  have b5:=F5.binds (ps:=["streams"]) fun _ _ _ _ _ _=>of_len1 fun _=>rfl
  have F6:=fun_mk (st:=s_is_warm_enough) l6 c6 k6
  have b6:=F6.binds (ps:=["gap","giver","taker"]) fun _ _ _ _ _ _=>of_len3 fun _ _ _=>rfl
  have F7:=fun_mk (st:=s_may_pass) l7 c7 k7
  have b7:=F7.binds (ps:=["gap","giver","taker","heat"]) fun _ _ _ _ _ _=>of_len4 fun _ _ _ _=>rfl
  have F8:=fun_mk (st:=s_looked_through) l8 c8 k8
  have b8:=F8.binds (ps:=["works","passes"]) fun _ _ _ _ _ _=>of_len2 fun _ _=>rfl
  have F9:=fun_mk (st:=s_warmest_first) l9 c9 k9
  have b9:=F9.binds (ps:=["steps"]) fun _ _ _ _ _ _=>of_len1 fun _=>rfl
  have F10:=fun_mk (st:=s_shared) l10 c10 k10
  have b10:=F10.binds (ps:=["works"]) fun _ _ _ _ _ _=>of_len1 fun _=>rfl
  have F11:=fun_mk (st:=s_law_bought) l11 c11 k11
  have b11:=F11.binds (ps:=["works"]) fun _ _ _ _ _ _=>of_len1 fun _=>rfl
  have F12:=fun_mk (st:=s_law) l12 c12 k12
  have b12:=F12.binds (ps:=["script"]) fun _ _ _ _ _ _=>of_len1 fun _=>rfl
  have T:Blt K mg:=⟨PySem.W.mg_none_of X G z1,PySem.W.mg_none_of X G z2,PySem.W.mg_none_of X G z3,PySem.W.mg_none_of X G z4,PySem.W.mg_none_of X G z5,PySem.W.mg_none_of X G z6,PySem.W.mg_none_of X G z7,PySem.W.mg_none_of X G z8,PySem.W.mg_none_of X G z9,PySem.W.mg_none_of X G z10,PySem.W.mg_none_of X G z11,PySem.W.mg_none_of X G z12,⟨_,PySem.W.mg_of X G yt1,fun H=>.inr ⟨_,_,_,yl1,rfl,rfl,small_len (by show 2≤1000; decide),.cons ⟨_,rfl⟩ (.cons ⟨_,rfl⟩ .nil)⟩⟩⟩
  subst m1
  have FC:=func_mk (st:=s_warmest_first) l9 c9 m2
  have G1:∀base:Heap,K.In base∧BltAt mg base→Fn l.prog w K mg base "_law_draw" 1 ["script","k"] (spD K r_law_draw):=fun base B=>fn_mk F1 (PySem.W.mg_of X G a1) b1 (ok_law_draw T F1)
  have G2:∀base:Heap,K.In base∧BltAt mg base→Fn l.prog w K mg base "_law_stream" 1 ["number","low","wide","most"] (spD K r_law_stream):=fun base B=>fn_mk F2 (PySem.W.mg_of X G a2) b2 (ok_law_stream T F2)
  have G3:∀base:Heap,K.In base∧BltAt mg base→Fn l.prog w K mg base "_law_works" 2 ["script"] (spD K r_law_works):=fun base B=>fn_mk F3 (PySem.W.mg_of X G a3) b3 (ok_law_works T (G1 base B) (G2 base B) F3)
  have G4:∀base:Heap,K.In base∧BltAt mg base→Fn l.prog w K mg base "heat_by_step" 1 ["pairs"] (spD K r_heat_by_step):=fun base B=>fn_mk F4 (PySem.W.mg_of X G a4) b4 (ok_heat_by_step T F4)
  have G5:∀base:Heap,K.In base∧BltAt mg base→Fn l.prog w K mg base "rates_by_step" 1 ["streams"] (spD K r_rates_by_step):=fun base B=>fn_mk F5 (PySem.W.mg_of X G a5) b5 (ok_rates_by_step T F5)
  have G6:∀base:Heap,K.In base∧BltAt mg base→Fn l.prog w K mg base "is_warm_enough" 1 ["gap","giver","taker"] (spD K r_is_warm_enough):=fun base B=>fn_mk F6 (PySem.W.mg_of X G a6) b6 (ok_is_warm_enough T F6)
  have G7:∀base:Heap,K.In base∧BltAt mg base→Fn l.prog w K mg base "may_pass" 2 ["gap","giver","taker","heat"] (spD K r_may_pass):=fun base B=>fn_mk F7 (PySem.W.mg_of X G a7) b7 (ok_may_pass T (G6 base B) F7)
  have G8:∀base:Heap,K.In base∧BltAt mg base→Fn l.prog w K mg base "looked_through" 3 ["works","passes"] (spD K r_looked_through):=fun base B=>fn_mk F8 (PySem.W.mg_of X G a8) b8 (ok_looked_through T (G4 base B) (G5 base B) (G7 base B) F8)
  have G9:∀base:Heap,K.In base∧BltAt mg base→Fn l.prog w K mg base "warmest_first" 1 ["steps"] (spDT K Pt qnL r_warmest_first):=fun base B=>fn_mk F9 (PySem.W.mg_of X G a9) b9 (ok_warmest_first B.1 B.2 T FC)
  have G10:∀base:Heap,K.In base∧BltAt mg base→Fn l.prog w K mg base "shared" 2 ["works"] (spDT K Pt qnL r_shared):=fun base B=>fn_mk F10 (PySem.W.mg_of X G a10) b10 (ok_shared T (G5 base B) (G9 base B) (G6 base B) F10)
  have G11:∀base:Heap,K.In base∧BltAt mg base→Fn l.prog w K mg base "_law_bought" 4 ["works"] (spDT K Pt qnL r_law_bought):=fun base B=>fn_mk F11 (PySem.W.mg_of X G a11) b11 (ok_law_bought T (G8 base B) (G10 base B) F11)
  exact ⟨PySem.W.fnOf "law" "law" (defArgs s_law) (defBody s_law) (defScope s_law) .none kV12 dc12 pm12 an12 cd12 ct12,_,m3,m2,fun s v=>.of_eq rfl,fun base kb _ B=>(fun B=>law_ofT (ok_law T (G3 base B) (G2 base B) (G11 base B) (G1 base B) F12)) ⟨kb,B⟩⟩
end WS
open PySem PySem.W PyProof.Rows
set_option maxRecDepth 100000 in
set_option maxHeartbeats 0 in
theorem PySem.Challenge.cw_warmshare_k20_whole_gaps_and_streams_holds : PySem.Challenge.rw_warmshare_k20_whole_gaps_and_streams.Holds := by
  w_on; o_law; k_head; (case hw=>w_witness2)
  k_fill
  refine DL.walk_ofC (l:=PySem.Challenge.rw_warmshare_k20_whole_gaps_and_streams) (k:=5) (x:="script") (qn:=WS.qnL) rfl rfl ⟨rfl,by decide,by decide,rfl⟩ (fun w h Y=>⟨PySem.W.km_in_of Y,PySem.W.km_tabs_of Y _ (List.mem_singleton.mpr rfl)⟩) ?F
  case F =>
    intro w mg fa h KX G hmg
    refine' WS.all_mk KX G hmg ?a1 ?l1 ?c1 ?k1 ?a2 ?l2 ?c2 ?k2 ?a3 ?l3 ?c3 ?k3 ?a4 ?l4 ?c4 ?k4 ?a5 ?l5 ?c5 ?k5 ?a6 ?l6 ?c6 ?k6 ?a7 ?l7 ?c7 ?k7 ?a8 ?l8 ?c8 ?k8 ?a9 ?l9 ?c9 ?k9 ?a10 ?l10 ?c10 ?k10 ?a11 ?l11 ?c11 ?k11 ?a12 ?l12 ?c12 ?k12 ?z1 ?z2 ?z3 ?z4 ?z5 ?z6 ?z7 ?z8 ?z9 ?z10 ?z11 ?z12 ?yt1 ?yl1 ?m1 ?m2 ?m3
    (case a1=>k_is)
    (case l1=>k_is)
    (case c1=>k_is)
    (case k1=>k_is)
    (case a2=>k_is)
    (case l2=>k_is)
    (case c2=>k_is)
    (case k2=>k_is)
    (case a3=>k_is)
    (case l3=>k_is)
    (case c3=>k_is)
    (case k3=>k_is)
    (case a4=>k_is)
    (case l4=>k_is)
    (case c4=>k_is)
    (case k4=>k_is)
    (case a5=>k_is)
    (case l5=>k_is)
    (case c5=>k_is)
    (case k5=>k_is)
    (case a6=>k_is)
    (case l6=>k_is)
    (case c6=>k_is)
    (case k6=>k_is)
    (case a7=>k_is)
    (case l7=>k_is)
    (case c7=>k_is)
    (case k7=>k_is)
    (case a8=>k_is)
    (case l8=>k_is)
    (case c8=>k_is)
    (case k8=>k_is)
    (case a9=>k_is)
    (case l9=>k_is)
    (case c9=>k_is)
    (case k9=>k_is)
    (case a10=>k_is)
    (case l10=>k_is)
    (case c10=>k_is)
    (case k10=>k_is)
    (case a11=>k_is)
    (case l11=>k_is)
    (case c11=>k_is)
    (case k11=>k_is)
    (case a12=>k_is)
    (case l12=>k_is)
    (case c12=>k_is)
    (case k12=>k_is)
    (case z1=>k_is)
    (case z2=>k_is)
    (case z3=>k_is)
    (case z4=>k_is)
    (case z5=>k_is)
    (case z6=>k_is)
    (case z7=>k_is)
    (case z8=>k_is)
    (case z9=>k_is)
    (case z10=>k_is)
    (case z11=>k_is)
    (case z12=>k_is)
    (case yt1=>k_is)
    (case yl1=>k_is)
    (case m1=>rfl)
    (case m2=>kernel_rfl)
    (case m3=>kernel_rfl)
#print axioms PySem.Challenge.cw_warmshare_k20_whole_gaps_and_streams_holds